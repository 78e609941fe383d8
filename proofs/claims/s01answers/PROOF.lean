import PyProof.Rows.All
import Wide.All
import OpenK.AllK
import Wide.FinOn
import PyProof.EqAt
import PyProof.EqKinds
import PyProof.TupleCall
import PyProof.DictMoreH
import KE.DataCmp
import Open.SpecLaws
import KE.OsGo
import HandS.ForSpec
import HandS.TryMany
import HandS.Comp
import HandS.Dict
import HandS.Iter
import HandS.Text
import HandS.Zip
import HandS.SetFor
import HandS.TupSets
import HandS.Small
import HandS.WrittenGet
import HandS.Evl
import PySem.Challenge.RW_skatingmarks_s01_answers
import HandS.Codes
import KE.KStateDown
import KE.OsHead
import HandS.Head0
import HandS.Head1
import HandS.Head2
import HandS.HeadHook3
set_option Elab.async false
set_option linter.all false
set_option maxRecDepth 100000
set_option maxHeartbeats 0
/-! # What the top has written -/
namespace Sk
open PySem PySem.Spec PyProof.Rows L2
def top (i : Nat) : Stmt := PySem.Challenge.pw_skatingmarks_s01_answers.main.body.getD i (.Pass ⟨0, 0, 0, 0⟩)
def intsA : List Value → List Int → Bool
  | [], [] => true
  | .int j _ :: r, i :: l => decide (j = i) && intsA r l
  | _, _ => false
/-- the tuple at a is of these numbers; of tuples of these -/
def seqA (K : PySem.W.Frag) (a : Addr) (p : List Value → Bool) : Bool := match K.lookup a with
  | some o => (match o.cls, o.data with
    | .type c, .seq its _ => decide (c = "tuple") && (decide (its.size ≤ sizeLine) && p its.toList)
    | _, _ => false)
  | none => false
def tupA (K : PySem.W.Frag) (a : Addr) (ns : List Int) : Bool := seqA K a fun vs => intsA vs ns
def rowsA (K : PySem.W.Frag) : List Value → List (List Int) → Bool
  | [], [] => true
  | .ref b :: r, ns :: l => tupA K b ns && rowsA K r l
  | _, _ => false
def tupsA (K : PySem.W.Frag) (a : Addr) (nss : List (List Int)) : Bool := seqA K a fun vs => rowsA K vs nss
/-- the dict at a has these entries -/
def entA : List DictEntry → List (Str × Int) → Bool
  | [], [] => true
  | e :: r, p :: l => (match e.key, e.val with
    | .str k _, .int v _ => decide (k = p.1) && (decide (v = p.2) && entA r l)
    | _, _ => false)
  | _, _ => false
def entsA (K : PySem.W.Frag) (a : Addr) (kvs : List (Str × Int)) : Bool := match K.lookup a with
  | some o => (match o.data with
    | .dict es _ => entA es.toList kvs
    | _ => false)
  | none => false
/-- an own error with no parts of its own -/
def exoA (K : PySem.W.Frag) (a : Addr) : Bool := PySem.W.excIn K a [.type "Exception", .type "BaseException", .type "object"] "Exception.__new__" && (PySem.W.keepIn K (.ref a) && (decide (PySem.W.subIn K (.ref a) (.type "BaseException") = some true) && decide (PySem.W.typeIn K (.ref a) = some (.type "type"))))
def fas0 : List He.Fa := [.cls "Telling",
  .glo "Telling",
  .noat "Telling" "second",
  .noat "Telling" "element",
  .noat "Telling" "grades",
  .cls "Program",
  .glo "Program",
  .noat "Program" "skater",
  .noat "Program" "free",
  .noat "Program" "tellings",
  .noat "Program" "marks",
  .noat "Program" "falls",
  .noat "Program" "off",
  .noat "Program" "seconds",
  .cls "Competition",
  .glo "Competition",
  .noat "Competition" "judges",
  .noat "Competition" "factors",
  .noat "Competition" "skated",
  .noat "Competition" "program",
  .cls "Standing",
  .glo "Standing",
  .noat "Standing" "skater",
  .noat "Standing" "score",
  .noat "Standing" "weights",
  .cls "Jump",
  .glo "Jump",
  .noat "Jump" "kind",
  .noat "Jump" "turns",
  .noat "Jump" "edge"]
def fas1 : List He.Fa := [.noat "Jump" "missing",
  .noat "Jump" "worth",
  .cls "Jumps",
  .glo "Jumps",
  .noat "Jumps" "group",
  .noat "Jumps" "jumps",
  .cls "Spin",
  .glo "Spin",
  .noat "Spin" "group",
  .noat "Spin" "name",
  .noat "Spin" "level",
  .noat "Spin" "worth",
  .cls "Steps",
  .glo "Steps",
  .noat "Steps" "group",
  .noat "Steps" "level",
  .noat "Steps" "worth",
  .cls "OtherSteps",
  .glo "OtherSteps",
  .noat "OtherSteps" "group",
  .noat "OtherSteps" "worth",
  .cls "GoneBy",
  .glo "GoneBy",
  .noat "GoneBy" "free",
  .noat "GoneBy" "in_rows",
  .cls "Value",
  .glo "Value",
  .noat "Value" "worth",
  .noat "Value" "goes_by",
  .cls "Outcome"]
def fas2 : List He.Fa := [.glo "Outcome",
  .noat "Outcome" "judged",
  .noat "Outcome" "came_to",
  .noat "Outcome" "components",
  .noat "Outcome" "taken_off",
  .noat "Outcome" "score",
  .cls "Desk",
  .glo "Desk",
  .noat "Desk" "competition",
  .cls "Line",
  .glo "Line",
  .noat "Line" "calls",
  .noat "Line" "place",
  .glo "WrongValue",
  .exm "WrongValue" "WrongValue" true,
  .glo "NothingOpen",
  .exm "NothingOpen" "WrongValue" false,
  .exm "NothingOpen" "NothingOpen" true,
  .glo "StillSkating",
  .exm "StillSkating" "WrongValue" false,
  .exm "StillSkating" "NothingOpen" false,
  .exm "StillSkating" "StillSkating" true,
  .glo "DoesNotFit",
  .exm "DoesNotFit" "WrongValue" false,
  .exm "DoesNotFit" "NothingOpen" false,
  .exm "DoesNotFit" "StillSkating" false,
  .exm "DoesNotFit" "DoesNotFit" true,
  .glo "NoRoom",
  .exm "NoRoom" "WrongValue" false,
  .exm "NoRoom" "NothingOpen" false]
def fas3 : List He.Fa := [.exm "NoRoom" "StillSkating" false,
  .exm "NoRoom" "DoesNotFit" false,
  .exm "NoRoom" "NoRoom" true,
  .int "SHORT" 0,
  .int "FREE" 1,
  .int "SALCHOW" 1,
  .int "FLIP" 3,
  .int "SMALL" 6,
  .int "WRONG_EDGE" 1,
  .int "DOUBTED_EDGE" 2,
  .int "QUARTER_MISSING" 1,
  .int "MORE_MISSING" 2,
  .int "HALF_MISSING" 3,
  .glo "JUMP_WORTHS",
  .glo "SPIN_WORTHS",
  .int "FLYING_WORTH" 50,
  .int "CHANGE_WORTH" 50,
  .glo "STEPS_WORTHS",
  .int "OTHER_STEPS_WORTH" 200,
  .int "JUMPS" 0,
  .int "SPIN" 1,
  .int "STEPS" 2,
  .int "OTHER_STEPS" 3,
  .int "MOST_BYTES" 40,
  .int "MOST_JUMPS" 3,
  .str "SIGNS" "!+1234<ABCEFLSTUehopqtuz",
  .glo "TURNS",
  .glo "KINDS",
  .glo "POSITIONS",
  .glo "LEVELS"]
def fas4 : List He.Fa := [.int "LEAST_TO_LEAVE_OUT" 5,
  .int "QUARTER" 25,
  .glo "MOST_OF_GROUP",
  .glo "MOST_ROWS",
  .glo "MOST_OF_THREE",
  .int "LEAST_TURNS" 3,
  .glo "MOST_TIMES",
  .int "WHOLE" 100,
  .int "SECOND_BY_ITSELF" 70,
  .glo "MOST_LATE",
  .int "LATE_SHARE" 110,
  .int "POINT" 100,
  .int "SECONDS_A_POINT" 5,
  .int "MOST_SKATERS" 30,
  .int "MOST_TELLINGS" 20,
  .int "MOST_FALLS" 20,
  .int "MOST_POINTS_OFF" 20,
  .int "MOST_SECONDS" 300,
  .free "enumerate",
  .free "len",
  .free "list",
  .free "max",
  .free "ord",
  .free "sorted",
  .free "sum",
  .free "zip",
  .mkr "Telling",
  .mkr "Program",
  .mkr "Competition",
  .mkr "Standing"]
def fas5 : List He.Fa := [.glo "places_of",
  .glo "standings_in_segment",
  .glo "tie_weight",
  .glo "standings_in_all",
  .glo "standing_in_all",
  .glo "hundredths",
  .glo "jump_worth",
  .glo "jump_share",
  .glo "spin_worth",
  .glo "steps_worth",
  .mkr "Jump",
  .mkr "Jumps",
  .meth "Jumps" "described",
  .mkr "Spin",
  .meth "Spin" "described",
  .mkr "Steps",
  .meth "Steps" "described",
  .mkr "OtherSteps",
  .meth "OtherSteps" "described",
  .glo "check_text",
  .glo "element_of",
  .glo "text_of",
  .glo "level_of",
  .glo "spin_of",
  .glo "jumps_of",
  .glo "may_be_small",
  .glo "jump_of",
  .glo "without_ending",
  .glo "nearest",
  .glo "put_together"]
def fas6 : List He.Fa := [.glo "grades_make",
  .glo "component",
  .glo "components_make",
  .glo "those_that_count",
  .glo "has_room",
  .glo "row_has_room",
  .mkr "GoneBy",
  .meth "GoneBy" "take",
  .glo "share_left",
  .mkr "Value",
  .glo "values_of",
  .glo "value_of",
  .glo "value_of_jumps",
  .glo "late_places",
  .mkr "Outcome",
  .glo "outcome_of",
  .glo "judged_tellings",
  .glo "points_off",
  .mkr "Desk",
  .meth "Desk" "begin",
  .meth "Desk" "add_skater",
  .meth "Desk" "read",
  .meth "Desk" "start",
  .meth "Desk" "tell_element",
  .meth "Desk" "tell_marks",
  .meth "Desk" "tell_faults",
  .meth "Desk" "end",
  .meth "Desk" "sheet",
  .meth "Desk" "segment_places",
  .meth "Desk" "places_in_all"]
def fas7 : List He.Fa := [.meth "Desk" "skated_by",
  .meth "Desk" "skated_by_each",
  .meth "Desk" "open_program",
  .glo "check_number",
  .glo "check_row",
  .mkr "Line",
  .meth "Line" "is_over",
  .meth "Line" "take_number",
  .meth "Line" "take_row",
  .glo "answers",
  .glo "answer_of",
  .glo "call_next"]
def fas : List He.Fa := fas0 ++ fas1 ++ fas2 ++ fas3 ++ fas4 ++ fas5 ++ fas6 ++ fas7
def fns0 : List He.DefD := [⟨("Telling", some "__init__"), "__init__", "Telling.__init__", defArgs (inClass (top 3) 0), defBody (inClass (top 3) 0), defScope (inClass (top 3) 0), [], []⟩,
  ⟨("Program", some "__init__"), "__init__", "Program.__init__", defArgs (inClass (top 4) 0), defBody (inClass (top 4) 0), defScope (inClass (top 4) 0), [], []⟩,
  ⟨("Competition", some "__init__"), "__init__", "Competition.__init__", defArgs (inClass (top 5) 0), defBody (inClass (top 5) 0), defScope (inClass (top 5) 0), [], []⟩,
  ⟨("Standing", some "__init__"), "__init__", "Standing.__init__", defArgs (inClass (top 7) 0), defBody (inClass (top 7) 0), defScope (inClass (top 7) 0), [], []⟩,
  ⟨("places_of", none), "places_of", "places_of", defArgs (top 8), defBody (top 8), defScope (top 8), [], []⟩,
  ⟨("standings_in_segment", none), "standings_in_segment", "standings_in_segment", defArgs (top 9), defBody (top 9), defScope (top 9), [], []⟩,
  ⟨("tie_weight", none), "tie_weight", "tie_weight", defArgs (top 10), defBody (top 10), defScope (top 10), [], []⟩,
  ⟨("standings_in_all", none), "standings_in_all", "standings_in_all", defArgs (top 11), defBody (top 11), defScope (top 11), [], []⟩,
  ⟨("standing_in_all", none), "standing_in_all", "standing_in_all", defArgs (top 12), defBody (top 12), defScope (top 12), [], []⟩,
  ⟨("hundredths", none), "hundredths", "hundredths", defArgs (top 28), defBody (top 28), defScope (top 28), [], []⟩,
  ⟨("jump_worth", none), "jump_worth", "jump_worth", defArgs (top 29), defBody (top 29), defScope (top 29), [], []⟩,
  ⟨("jump_share", none), "jump_share", "jump_share", defArgs (top 30), defBody (top 30), defScope (top 30), [], []⟩,
  ⟨("spin_worth", none), "spin_worth", "spin_worth", defArgs (top 31), defBody (top 31), defScope (top 31), [], []⟩,
  ⟨("steps_worth", none), "steps_worth", "steps_worth", defArgs (top 32), defBody (top 32), defScope (top 32), [], []⟩,
  ⟨("Jump", some "__init__"), "__init__", "Jump.__init__", defArgs (inClass (top 38) 0), defBody (inClass (top 38) 0), defScope (inClass (top 38) 0), [], []⟩,
  ⟨("Jumps", some "__init__"), "__init__", "Jumps.__init__", defArgs (inClass (top 39) 0), defBody (inClass (top 39) 0), defScope (inClass (top 39) 0), [], []⟩,
  ⟨("Jumps", some "described"), "described", "Jumps.described", defArgs (inClass (top 39) 1), defBody (inClass (top 39) 1), defScope (inClass (top 39) 1), [], []⟩,
  ⟨("Spin", some "__init__"), "__init__", "Spin.__init__", defArgs (inClass (top 40) 0), defBody (inClass (top 40) 0), defScope (inClass (top 40) 0), [], []⟩,
  ⟨("Spin", some "described"), "described", "Spin.described", defArgs (inClass (top 40) 1), defBody (inClass (top 40) 1), defScope (inClass (top 40) 1), [], []⟩,
  ⟨("Steps", some "__init__"), "__init__", "Steps.__init__", defArgs (inClass (top 41) 0), defBody (inClass (top 41) 0), defScope (inClass (top 41) 0), [], []⟩]
def fns1 : List He.DefD := [⟨("Steps", some "described"), "described", "Steps.described", defArgs (inClass (top 41) 1), defBody (inClass (top 41) 1), defScope (inClass (top 41) 1), [], []⟩,
  ⟨("OtherSteps", some "__init__"), "__init__", "OtherSteps.__init__", defArgs (inClass (top 42) 0), defBody (inClass (top 42) 0), defScope (inClass (top 42) 0), [], []⟩,
  ⟨("OtherSteps", some "described"), "described", "OtherSteps.described", defArgs (inClass (top 42) 1), defBody (inClass (top 42) 1), defScope (inClass (top 42) 1), [], []⟩,
  ⟨("check_text", none), "check_text", "check_text", defArgs (top 57), defBody (top 57), defScope (top 57), [], []⟩,
  ⟨("element_of", none), "element_of", "element_of", defArgs (top 58), defBody (top 58), defScope (top 58), [], []⟩,
  ⟨("text_of", none), "text_of", "text_of", defArgs (top 59), defBody (top 59), defScope (top 59), [], []⟩,
  ⟨("level_of", none), "level_of", "level_of", defArgs (top 60), defBody (top 60), defScope (top 60), [], []⟩,
  ⟨("spin_of", none), "spin_of", "spin_of", defArgs (top 61), defBody (top 61), defScope (top 61), [], []⟩,
  ⟨("jumps_of", none), "jumps_of", "jumps_of", defArgs (top 62), defBody (top 62), defScope (top 62), [], []⟩,
  ⟨("may_be_small", none), "may_be_small", "may_be_small", defArgs (top 63), defBody (top 63), defScope (top 63), [], []⟩,
  ⟨("jump_of", none), "jump_of", "jump_of", defArgs (top 64), defBody (top 64), defScope (top 64), [], []⟩,
  ⟨("without_ending", none), "without_ending", "without_ending", defArgs (top 65), defBody (top 65), defScope (top 65), [], []⟩,
  ⟨("nearest", none), "nearest", "nearest", defArgs (top 69), defBody (top 69), defScope (top 69), [], []⟩,
  ⟨("put_together", none), "put_together", "put_together", defArgs (top 70), defBody (top 70), defScope (top 70), [], []⟩,
  ⟨("grades_make", none), "grades_make", "grades_make", defArgs (top 71), defBody (top 71), defScope (top 71), [], []⟩,
  ⟨("component", none), "component", "component", defArgs (top 72), defBody (top 72), defScope (top 72), [], []⟩,
  ⟨("components_make", none), "components_make", "components_make", defArgs (top 73), defBody (top 73), defScope (top 73), [], []⟩,
  ⟨("those_that_count", none), "those_that_count", "those_that_count", defArgs (top 78), defBody (top 78), defScope (top 78), [], []⟩,
  ⟨("has_room", none), "has_room", "has_room", defArgs (top 79), defBody (top 79), defScope (top 79), [], []⟩,
  ⟨("row_has_room", none), "row_has_room", "row_has_room", defArgs (top 80), defBody (top 80), defScope (top 80), [], []⟩]
def fns2 : List He.DefD := [⟨("GoneBy", some "__init__"), "__init__", "GoneBy.__init__", defArgs (inClass (top 86) 0), defBody (inClass (top 86) 0), defScope (inClass (top 86) 0), [], []⟩,
  ⟨("GoneBy", some "take"), "take", "GoneBy.take", defArgs (inClass (top 86) 1), defBody (inClass (top 86) 1), defScope (inClass (top 86) 1), [], []⟩,
  ⟨("share_left", none), "share_left", "share_left", defArgs (top 87), defBody (top 87), defScope (top 87), [], []⟩,
  ⟨("Value", some "__init__"), "__init__", "Value.__init__", defArgs (inClass (top 91) 0), defBody (inClass (top 91) 0), defScope (inClass (top 91) 0), [], []⟩,
  ⟨("values_of", none), "values_of", "values_of", defArgs (top 92), defBody (top 92), defScope (top 92), [], []⟩,
  ⟨("value_of", none), "value_of", "value_of", defArgs (top 93), defBody (top 93), defScope (top 93), [], []⟩,
  ⟨("value_of_jumps", none), "value_of_jumps", "value_of_jumps", defArgs (top 94), defBody (top 94), defScope (top 94), [], []⟩,
  ⟨("late_places", none), "late_places", "late_places", defArgs (top 95), defBody (top 95), defScope (top 95), [], []⟩,
  ⟨("Outcome", some "__init__"), "__init__", "Outcome.__init__", defArgs (inClass (top 99) 0), defBody (inClass (top 99) 0), defScope (inClass (top 99) 0), [], []⟩,
  ⟨("outcome_of", none), "outcome_of", "outcome_of", defArgs (top 100), defBody (top 100), defScope (top 100), [], []⟩,
  ⟨("judged_tellings", none), "judged_tellings", "judged_tellings", defArgs (top 101), defBody (top 101), defScope (top 101), [], []⟩,
  ⟨("points_off", none), "points_off", "points_off", defArgs (top 102), defBody (top 102), defScope (top 102), [], []⟩,
  ⟨("Desk", some "__init__"), "__init__", "Desk.__init__", defArgs (inClass (top 109) 0), defBody (inClass (top 109) 0), defScope (inClass (top 109) 0), [], []⟩,
  ⟨("Desk", some "begin"), "begin", "Desk.begin", defArgs (inClass (top 109) 1), defBody (inClass (top 109) 1), defScope (inClass (top 109) 1), [], []⟩,
  ⟨("Desk", some "add_skater"), "add_skater", "Desk.add_skater", defArgs (inClass (top 109) 2), defBody (inClass (top 109) 2), defScope (inClass (top 109) 2), [], []⟩,
  ⟨("Desk", some "read"), "read", "Desk.read", defArgs (inClass (top 109) 3), defBody (inClass (top 109) 3), defScope (inClass (top 109) 3), [], []⟩,
  ⟨("Desk", some "start"), "start", "Desk.start", defArgs (inClass (top 109) 4), defBody (inClass (top 109) 4), defScope (inClass (top 109) 4), [], []⟩,
  ⟨("Desk", some "tell_element"), "tell_element", "Desk.tell_element", defArgs (inClass (top 109) 5), defBody (inClass (top 109) 5), defScope (inClass (top 109) 5), [], []⟩,
  ⟨("Desk", some "tell_marks"), "tell_marks", "Desk.tell_marks", defArgs (inClass (top 109) 6), defBody (inClass (top 109) 6), defScope (inClass (top 109) 6), [], []⟩,
  ⟨("Desk", some "tell_faults"), "tell_faults", "Desk.tell_faults", defArgs (inClass (top 109) 7), defBody (inClass (top 109) 7), defScope (inClass (top 109) 7), [], []⟩]
def fns3 : List He.DefD := [⟨("Desk", some "end"), "end", "Desk.end", defArgs (inClass (top 109) 8), defBody (inClass (top 109) 8), defScope (inClass (top 109) 8), [], []⟩,
  ⟨("Desk", some "sheet"), "sheet", "Desk.sheet", defArgs (inClass (top 109) 9), defBody (inClass (top 109) 9), defScope (inClass (top 109) 9), [], []⟩,
  ⟨("Desk", some "segment_places"), "segment_places", "Desk.segment_places", defArgs (inClass (top 109) 10), defBody (inClass (top 109) 10), defScope (inClass (top 109) 10), [], []⟩,
  ⟨("Desk", some "places_in_all"), "places_in_all", "Desk.places_in_all", defArgs (inClass (top 109) 11), defBody (inClass (top 109) 11), defScope (inClass (top 109) 11), [], []⟩,
  ⟨("Desk", some "skated_by"), "skated_by", "Desk.skated_by", defArgs (inClass (top 109) 12), defBody (inClass (top 109) 12), defScope (inClass (top 109) 12), [], []⟩,
  ⟨("Desk", some "skated_by_each"), "skated_by_each", "Desk.skated_by_each", defArgs (inClass (top 109) 13), defBody (inClass (top 109) 13), defScope (inClass (top 109) 13), [], []⟩,
  ⟨("Desk", some "open_program"), "open_program", "Desk.open_program", defArgs (inClass (top 109) 14), defBody (inClass (top 109) 14), defScope (inClass (top 109) 14), [], []⟩,
  ⟨("check_number", none), "check_number", "check_number", defArgs (top 110), defBody (top 110), defScope (top 110), [], []⟩,
  ⟨("check_row", none), "check_row", "check_row", defArgs (top 111), defBody (top 111), defScope (top 111), [], []⟩,
  ⟨("Line", some "__init__"), "__init__", "Line.__init__", defArgs (inClass (top 114) 0), defBody (inClass (top 114) 0), defScope (inClass (top 114) 0), [], []⟩,
  ⟨("Line", some "is_over"), "is_over", "Line.is_over", defArgs (inClass (top 114) 1), defBody (inClass (top 114) 1), defScope (inClass (top 114) 1), [], []⟩,
  ⟨("Line", some "take_number"), "take_number", "Line.take_number", defArgs (inClass (top 114) 2), defBody (inClass (top 114) 2), defScope (inClass (top 114) 2), [], []⟩,
  ⟨("Line", some "take_row"), "take_row", "Line.take_row", defArgs (inClass (top 114) 3), defBody (inClass (top 114) 3), defScope (inClass (top 114) 3), [], []⟩,
  ⟨("answers", none), "answers", "answers", defArgs (top 115), defBody (top 115), defScope (top 115), [], []⟩,
  ⟨("answer_of", none), "answer_of", "answer_of", defArgs (top 116), defBody (top 116), defScope (top 116), [], []⟩,
  ⟨("call_next", none), "call_next", "call_next", defArgs (top 117), defBody (top 117), defScope (top 117), [], []⟩]
def fns : List He.DefD := fns0 ++ fns1 ++ fns2 ++ fns3
def tbs : List He.Tab := [(fun K => He.ga K "TURNS", ["1", "2", "3", "4"]), (fun K => He.ga K "KINDS", ["T", "S", "Lo", "F", "Lz", "A"]), (fun K => He.ga K "POSITIONS", ["U", "L", "C", "S", "Co"]), (fun K => He.ga K "LEVELS", ["B", "1", "2", "3", "4"])]
def extras (K : PySem.W.Frag) : List Bool := [tupsA K (He.ga K "JUMP_WORTHS") [[40, 130, 420, 950], [40, 130, 430, 970], [50, 170, 490, 1050], [50, 180, 530, 1100], [60, 210, 590, 1150], [110, 330, 800, 1250], [50]],
  tupsA K (He.ga K "SPIN_WORTHS") [[100, 120, 150, 190, 240], [120, 150, 190, 240, 270], [110, 140, 180, 230, 260], [110, 130, 160, 210, 250], [150, 170, 200, 250, 300]],
  tupA K (He.ga K "STEPS_WORTHS") [150, 180, 260, 330, 390],
  entsA K (He.ga K "TURNS") [("1", 1), ("2", 2), ("3", 3), ("4", 4)],
  entsA K (He.ga K "KINDS") [("T", 0), ("S", 1), ("Lo", 2), ("F", 3), ("Lz", 4), ("A", 5)],
  entsA K (He.ga K "POSITIONS") [("U", 0), ("L", 1), ("C", 2), ("S", 3), ("Co", 4)],
  entsA K (He.ga K "LEVELS") [("B", 0), ("1", 1), ("2", 2), ("3", 3), ("4", 4)],
  tupsA K (He.ga K "MOST_OF_GROUP") [[3, 3, 1, 0], [7, 3, 1, 1]],
  tupA K (He.ga K "MOST_ROWS") [1, 3],
  tupA K (He.ga K "MOST_OF_THREE") [0, 1],
  tupA K (He.ga K "MOST_TIMES") [1, 2],
  tupA K (He.ga K "MOST_LATE") [1, 3],
  exoA K (He.ga K "WrongValue"),
  exoA K (He.ga K "NothingOpen"),
  exoA K (He.ga K "StillSkating"),
  exoA K (He.ga K "DoesNotFit"),
  exoA K (He.ga K "NoRoom")]
def loose0 : List PySem.Str := ["SHORT",
  "FREE",
  "Telling",
  "Program",
  "Competition",
  "Standing",
  "places_of",
  "standings_in_segment",
  "tie_weight",
  "standings_in_all",
  "standing_in_all",
  "SALCHOW"]
def loose1 : List PySem.Str := ["FLIP",
  "SMALL",
  "WRONG_EDGE",
  "DOUBTED_EDGE",
  "QUARTER_MISSING",
  "MORE_MISSING",
  "HALF_MISSING",
  "JUMP_WORTHS",
  "SPIN_WORTHS",
  "FLYING_WORTH",
  "CHANGE_WORTH",
  "STEPS_WORTHS"]
def loose2 : List PySem.Str := ["OTHER_STEPS_WORTH",
  "hundredths",
  "jump_worth",
  "jump_share",
  "spin_worth",
  "steps_worth",
  "JUMPS",
  "SPIN",
  "STEPS",
  "OTHER_STEPS",
  "Jump",
  "Jumps"]
def loose3 : List PySem.Str := ["Spin",
  "Steps",
  "OtherSteps",
  "WrongValue",
  "NothingOpen",
  "StillSkating",
  "DoesNotFit",
  "NoRoom",
  "MOST_BYTES",
  "MOST_JUMPS",
  "SIGNS",
  "TURNS"]
def loose4 : List PySem.Str := ["KINDS",
  "POSITIONS",
  "LEVELS",
  "check_text",
  "element_of",
  "text_of",
  "level_of",
  "spin_of",
  "jumps_of",
  "may_be_small",
  "jump_of",
  "without_ending"]
def loose5 : List PySem.Str := ["LEAST_TO_LEAVE_OUT",
  "QUARTER",
  "nearest",
  "put_together",
  "grades_make",
  "component",
  "components_make",
  "MOST_OF_GROUP",
  "MOST_ROWS",
  "MOST_OF_THREE",
  "those_that_count",
  "has_room"]
def loose6 : List PySem.Str := ["row_has_room",
  "LEAST_TURNS",
  "MOST_TIMES",
  "WHOLE",
  "SECOND_BY_ITSELF",
  "GoneBy",
  "share_left",
  "MOST_LATE",
  "LATE_SHARE",
  "Value",
  "values_of",
  "value_of"]
def loose7 : List PySem.Str := ["value_of_jumps",
  "late_places",
  "POINT",
  "SECONDS_A_POINT",
  "Outcome",
  "outcome_of",
  "judged_tellings",
  "points_off",
  "MOST_SKATERS",
  "MOST_TELLINGS",
  "MOST_FALLS",
  "MOST_POINTS_OFF"]
def loose8 : List PySem.Str := ["MOST_SECONDS",
  "Desk",
  "check_number",
  "check_row",
  "UnknownCall",
  "Line",
  "answer_of",
  "call_next"]
def loose : List PySem.Str := loose0 ++ loose1 ++ loose2 ++ loose3 ++ loose4 ++ loose5 ++ loose6 ++ loose7 ++ loose8
abbrev Al : Type := He.AlT × Bool
def obsA (K : PySem.W.Frag) : Al := (He.obsT fas fns tbs K, (extras K).all id)
def valA (w : World) : Al := (He.valT fns tbs w, true)
/-- what the top's names reach, step by step -/
def nextA (g : Addr → Option Obj) (as : List Addr) : List Addr := as.flatMap fun a => match g a with
  | some o => He.refsD o
  | none => []
def reachA (g : Addr → Option Obj) : Nat → List Addr → List Addr
  | 0, as => as
  | n + 1, as => as ++ reachA g n (nextA g as)
def obG (g : Addr → Option Obj) : Al := obsA (He.frG g (reachA g 4 [mainGlobals]))
def hk : PySem.W.Hook where
  α := Al
  obs := fun s => obG s.heap.get?
  val := valA
  says := fun w h => ∃ K : PySem.W.Frag, K.In h ∧ obsA K = valA w
  of := fun _ _ e => ⟨_, He.frG_in, e⟩
  keeps := fun _ _ _ ⟨K, hK, c⟩ k => ⟨K, PySem.W.Frag.In.keeps hK k, c⟩
noncomputable def obT (s : PySem.W.SharedT) : Al := obG (HandSHeadRun.getT s)
theorem obT_eq (s : PySem.W.SharedT) : obT s = hk.obs s.abs := by
  have e : HandSHeadRun.getT s = s.abs.heap.get? := funext (HandSHeadRun.getT_eq s)
  show obG (HandSHeadRun.getT s) = obG s.abs.heap.get?
  rw [e]
abbrev PP : Program := PySem.Challenge.rw_skatingmarks_s01_answers.prog
abbrev qv : Program := PySem.W.view PP [115]
/-- the top's run at a world -/
noncomputable def endS (w : World) (os : OsState) : Option PySem.W.SharedT := HandSHeadRun.endF (HandSHeadRun.stepQ (HandSHeadRun.denQ HandSHeadRun.tabQ) PP w) 8000 PP w os
/-- what is read off it: the names and the heap's look; what the hook tells -/
def RunA (w : World) : Prop := ∀ os : OsState, (endS w os).map (fun s => (HandSHeadRun.looksF PP (PySem.W.boot_heap w.params) s.abs, HandSHeadRun.seenQ qv loose (importedModules PP.main.body) (fun s => PySem.W.xlAt qv [] s && PySem.W.recOk [] s) s.abs)) = some (true, PySem.W.openGood qv loose)
def RunB (w : World) : Prop := ∀ os : OsState, (endS w os).map obT = some (valA w)
def RunS (w : World) : Prop := ∀ os : OsState, (endS w os).map (fun s => (HandSHeadRun.looksF PP (PySem.W.boot_heap w.params) s.abs, HandSHeadRun.seenQ qv loose (importedModules PP.main.body) (fun s => PySem.W.xlAt qv [] s && PySem.W.recOk [] s) s.abs, obT s)) = some (true, PySem.W.openGood qv loose, valA w)
theorem runA_f (w : World) : RunA (w.withFollow "special-get-raises" false) := by
  intro os
  kernel_rfl
theorem runA_t (w : World) : RunA (w.withFollow "special-get-raises" true) := by
  intro os
  kernel_rfl
theorem runB_f (w : World) : RunB (w.withFollow "special-get-raises" false) := by
  intro os
  kernel_rfl
theorem runB_t (w : World) : RunB (w.withFollow "special-get-raises" true) := by
  intro os
  kernel_rfl
theorem run_all (w : World) : RunS w := fun os => by
  have a := PySem.W.byRow2 "special-get-raises" (P := RunA) runA_f runA_t w os
  have b := PySem.W.byRow2 "special-get-raises" (P := RunB) runB_f runB_t w os
  obtain ⟨s, e, a1⟩ := Option.map_eq_some_iff.mp a
  obtain ⟨s2, e2, b1⟩ := Option.map_eq_some_iff.mp b
  have q : s = s2 := Option.some.inj (e.symm.trans e2)
  subst q
  rw [e]
  have a2 := congrArg Prod.fst a1
  have a3 := congrArg Prod.snd a1
  exact congrArg some (Prod.ext a2 (Prod.ext a3 b1))
end Sk
set_option maxHeartbeats 2000000
namespace Sk
open PySem PySem.Spec PyProof.Rows L2
/-! ### words that the layer lacks -/
section
variable {X : Cx}
theorem pe_globI {x : Str} {n : Int} {pos : Pos} (hm : ∃ t, X.mg x = some (.int n t)) (hg : Gl X x := by rfl) (hd : (x == ("__debug__" : Str)) = false := by decide) : PE X (.Name x pos) (tC (.int n)) := by
  obtain ⟨t, hm⟩ := hm
  exact pe_glob hg hm ⟨t, rfl⟩ hd
theorem pe_globS {x : Str} {z : Str} {pos : Pos} (hm : ∃ t, X.mg x = some (.str z t)) (hg : Gl X x := by rfl) (hd : (x == ("__debug__" : Str)) = false := by decide) : PE X (.Name x pos) (tC (.str z)) := by
  obtain ⟨t, hm⟩ := hm
  exact pe_glob hg hm ⟨t, rfl⟩ hd
theorem pe_globR {x : Str} {a : Addr} {pos : Pos} (hm : X.mg x = some (.ref a)) (hg : Gl X x := by rfl) (hd : (x == ("__debug__" : Str)) = false := by decide) : PE X (.Name x pos) (tC (.ref a)) :=
  pe_glob hg hm rfl hd
/-- a reading of the one kind or of the other -/
def tAlt (t u : TE) : TE := fun σ H Q => t σ H Q ∨ u σ H Q
theorem pe_alt {e : Expr} {t u : TE} (h1 : PE X e t) (h2 : PE X e u) : PE X e (tAlt t u) := by
  refine ⟨fun pins s σ H Q I h => ?_⟩
  rcases h with h | h
  · exact h1.run pins s σ H Q I h
  · exact h2.run pins s σ H Q I h
/-- X() of an own error class without own __init__ -/
theorem pmk_own0 {C : Addr} {bmB : List Value} {B newId initId : String} {x : Str} {p pos : Pos} (F : ExcBaseFacts B newId initId bmB) (q : PySem.W.excIn X.K C bmB newId = true) (gC : X.mg x = some (.ref C)) (kC : PySem.W.keepIn X.K (.ref C) = true)
    (r : Raises X (.ref C)) (hg : Gl X x) (hdb : (x == ("__debug__" : Str)) = false := by decide) : PMk X (.Call (.Name x p) [] [] pos) (fun _ H Q => Q (.ref C) none H) := by
  intro pins s σ H Q I h
  refine wpAny_Call_Name_kw (ld_glob I hg gC ?_ hdb)
  refine PySem.W.callWith_K0 I.kIn kC ?_
  show wpAny _ _ (call (.ref C) []) _ _ _
  obtain ⟨bm, N, nm, qn, bs, hdct, sn, sub, ab, col, dd, k0, k1, k2, k3, k5, mN, hC, hN, hni, T⟩ := exc_obj I.kIn q
  refine wpAny_call_exc_subT F T hC hN hni (fun h' e hm => ?_) (Nat.zero_le _)
  exact mk_of I hm r h (I.hok.gone hm.new)
/-- o.m(e, ..) within a try: what it raises is wished for at the slots as they stand -/
def tMethS (C : Addr) (m : Str) (sp : Sp) (E : L2.St → XK) (ta : TE) (t : TA) : TE := fun σ H Q => ta σ H fun x H1 => ∃ a dx fs, x = .ref a ∧ H1 a = some (.ins C dx fs) ∧ fs.lookup m = none ∧ t σ H1 fun vs H2 => sp (x :: vs) H2 Q (E σ)
/-! ### within a comprehension: the written part told -/
theorem pe_fldK {X : Cx} {K : PySem.W.Frag} {e : Expr} {f : Str} {pos : Pos} {ta : TE} (hK : X.K = K) (he : PE X e ta) (hb : attributeBase e f X.env (eval e X.env) = eval e X.env) : PE X (.Attribute e f pos) (tFld K ta f) := hK ▸ pe_fld he hb
theorem call_len_seqK {X : Cx} {K : PySem.W.Frag} (hK : X.K = K) : CallR X (.builtin "len") (fun xs H Q => ∃ p ys, xs = [.ref p] ∧ (SqL K H p ys ∨ SqT K H p ys) ∧ Q (.int ys.length) H) := hK ▸ call_len_seq
theorem pg_tupK {X : Cx} {K : PySem.W.Frag} {es : List Expr} {k : Nat} {t : TGs} {n : Nat} {pos : Pos} (hK : X.K = K) (hc : X.calm = true) (h : PGs X es t)
    (hn : (assignEach es X.env).length = n) (hst : (assignEach es X.env).findIdx? (·.1) = none) : PG X (.Tuple es k pos) (gTup K n t) := hK ▸ pg_tup hc h hn hst
/-! ### t > u of tuples of numbers -/
def lexGt : List Int → List Int → Bool
  | [], [] => false
  | [], _ :: _ => false
  | _ :: _, [] => true
  | x :: xs, y :: ys => if x = y then lexGt xs ys else decide (y < x)
def rGtT (K : PySem.W.Frag) : R2 := fun x y H Q => ∃ a b ns ms, x = .ref a ∧ y = .ref b ∧ SqT K H a (ns.map V.int) ∧ SqT K H b (ms.map V.int) ∧ Q (.bl (lexGt ns ms)) H
/-! ### x in d, d a dict of the module with texts for keys and whole numbers -/
inductive EntsAre : List DictEntry → List (Str × Int) → Prop
  | nil : EntsAre [] []
  | cons {e : DictEntry} {r : List DictEntry} {k : Str} {v : Int} {t u : Tok} {l : List (Str × Int)} (h1 : e.key = .str k t) (h2 : e.val = .int v u) (h : EntsAre r l) : EntsAre (e :: r) ((k, v) :: l)
def WDict (K : PySem.W.Frag) (w : World) (a : Addr) (kvs : List (Str × Int)) : Prop :=
  ∃ es n, K.lookup a = some ⟨.type "dict", none, .dict es n, #[]⟩ ∧ PySem.W.KeysLit w.params es.toList ∧ (a == sysModules) = false ∧ EntsAre es.toList kvs
theorem isStr_iff {k x : Str} {t : Tok} : (Value.str k t).isStr x = (k == x) := by
  rw [PySem.W.isStr_of]
  rfl
theorem ents_find {x : Str} : ∀ {es : List DictEntry} {kvs : List (Str × Int)}, EntsAre es kvs →
    match (kvs.find? fun p => p.1 == x) with
    | some p => ∃ e t, es.find? (·.key.isStr x) = some e ∧ e.val = .int p.2 t
    | none => es.find? (·.key.isStr x) = none
  | _, _, .nil => rfl
  | _, _, .cons (e := e) (r := r) (k := k) (v := v) (t := t) (u := u) (l := l) h1 h2 h => by
    have ih := ents_find (x := x) h
    have q : (e.key.isStr x) = (k == x) := by rw [h1]; exact isStr_iff
    cases c : k == x with
    | true =>
      rw [List.find?_cons]
      simp only [c]
      refine ⟨e, u, ?_, h2⟩
      rw [List.find?_cons, q, c]
    | false =>
      rw [List.find?_cons]
      simp only [c]
      rw [List.find?_cons, q, c]
      exact ih
theorem ents_plain : ∀ {es : List DictEntry} {kvs : List (Str × Int)}, EntsAre es kvs → es.any (·.refKey) = false
  | _, _, .nil => rfl
  | _, _, .cons h1 h2 h => by
    rw [List.any_cons, ents_plain h, Bool.or_false]
    unfold DictEntry.refKey
    rw [h1]
def look (kvs : List (Str × Int)) (x : Str) : Option Int := (kvs.find? fun p => p.1 == x).map (·.2)
theorem WDict.ns {K : PySem.W.Frag} {w : World} {a : Addr} {kvs : List (Str × Int)} (h : WDict K w a kvs) (x : Str) : ∃ r, PySem.W.nsIn K a x = some r ∧ RelO ((look kvs x).map V.int) r := by
  obtain ⟨es, n, hl, _, _, he⟩ := h
  unfold PySem.W.nsIn
  rw [hl]
  dsimp only
  have q := ents_find (x := x) he
  unfold look
  cases c : kvs.find? (fun p => p.1 == x) with
  | some p =>
    rw [c] at q
    obtain ⟨e, t, q1, q2⟩ := q
    rw [q1]
    exact ⟨_, rfl, ⟨t, q2⟩⟩
  | none =>
    rw [c] at q
    rw [show es.toList.find? (·.key.isStr x) = none from q]
    dsimp only
    rw [if_neg (by rw [ents_plain he]; decide)]
    exact ⟨_, rfl, trivial⟩
theorem WDict.kd {K : PySem.W.Frag} {w : World} {a : Addr} {kvs : List (Str × Int)} (h : WDict K w a kvs) {x : Str} {v : Int} (e : look kvs x = some v) : KDct K w a x (.int v) := by
  obtain ⟨r, h1, h2⟩ := h.ns x
  obtain ⟨es, n, hl, hk, _, he⟩ := h
  rw [e] at h2
  cases r with
  | none => exact h2.elim
  | some u => exact ⟨es, n, u, hl, hk, h1, h2⟩
def rInKD (K : PySem.W.Frag) (w : World) (neg : Bool) : R2 := fun x y H Q => ∃ p z kvs, x = .str z ∧ y = .ref p ∧ WDict K w p kvs ∧ Q (.bl (if neg = true then !(look kvs z).isSome else (look kvs z).isSome)) H
theorem RelO.is {o : Option V} {r : Option Value} (h : RelO o r) : r.isSome = o.isSome := by
  cases o <;> cases r <;> first | rfl | exact h.elim
section
variable {X : Cx}
theorem op_kin : OpR X (compareOp .In) (rInKD X.K X.w false) := by
  intro pins s σ H x y v u Q I rx ry h
  obtain ⟨p, z, kvs, rfl, rfl, hw, q⟩ := h
  obtain rfl : u = Value.ref p := ry
  obtain ⟨t, rfl⟩ := rx
  obtain ⟨r, h1, h2⟩ := hw.ns z
  obtain ⟨es, n, hl, hk, hd, he⟩ := hw
  have hm := PySem.W.mapOf_K (prog := X.prog) (w := X.w) I.kIn hl hk
  refine wpAny_in_of (strKind_is X.prog X.w z t) hd hm ?_
  rw [PySem.W.find_K hl h1, RelO.is h2, Option.isSome_map]
  exact ⟨.bl _, H, I.tok _, rfl, q⟩
theorem op_kniN : OpR X (compareOp .NotIn) (rInKD X.K X.w true) := by
  intro pins s σ H x y v u Q I rx ry h
  obtain ⟨p, z, kvs, rfl, rfl, hw, q⟩ := h
  obtain rfl : u = Value.ref p := ry
  obtain ⟨t, rfl⟩ := rx
  obtain ⟨r, h1, h2⟩ := hw.ns z
  obtain ⟨es, n, hl, hk, hd, he⟩ := hw
  have hm := PySem.W.mapOf_K (prog := X.prog) (w := X.w) I.kIn hl hk
  refine wpAny_notIn_of (strKind_is X.prog X.w z t) hd hm ?_
  rw [PySem.W.find_K hl h1, RelO.is h2, Option.isSome_map]
  exact ⟨.bl _, H, I.tok _, rfl, q⟩
end
end
/-! ### t > u -/
theorem first_map (e r : Nat → Bool) (fin : Bool) : ∀ l : List Nat, SeqAt.firstLt e r fin (l.map Nat.succ) = SeqAt.firstLt (fun j => e (j + 1)) (fun j => r (j + 1)) fin l
  | [] => rfl
  | j :: t => by
    show (if e (j + 1) = true then SeqAt.firstLt e r fin (t.map Nat.succ) else r (j + 1)) = _
    rw [first_map e r fin t]
    rfl
theorem first_is : ∀ ns ms : List Int, SeqAt.firstLt (fun j => decide (ns.getD j 0 = ms.getD j 0)) (fun j => decide (ms.getD j 0 < ns.getD j 0)) (decide (ns.length > ms.length)) (List.range (min ns.length ms.length)) = lexGt ns ms
  | [], [] => rfl
  | [], y :: ms => by
    rw [show min ([] : List Int).length (y :: ms).length = 0 from Nat.zero_min _]
    show decide (([] : List Int).length > (y :: ms).length) = false
    exact decide_eq_false (by simp)
  | x :: ns, [] => by
    rw [show min (x :: ns).length ([] : List Int).length = 0 from Nat.min_zero _]
    show decide ((x :: ns).length > ([] : List Int).length) = true
    exact decide_eq_true (by simp)
  | x :: ns, y :: ms => by
    have ih := first_is ns ms
    have e1 : min (x :: ns).length (y :: ms).length = min ns.length ms.length + 1 := by simp only [List.length_cons]; omega
    have e2 : decide ((x :: ns).length > (y :: ms).length) = decide (ns.length > ms.length) := by simp only [List.length_cons]; exact decide_eq_decide.mpr (by omega)
    rw [e1, e2, List.range_succ_eq_map]
    show (if decide (x = y) = true then SeqAt.firstLt _ _ _ ((List.range (min ns.length ms.length)).map Nat.succ) else decide (y < x)) = (if x = y then lexGt ns ms else decide (y < x))
    rw [first_map]
    by_cases c : x = y
    · rw [if_pos c, if_pos (decide_eq_true c)]
      exact ih
    · rw [if_neg c, if_neg (by simpa using c)]
theorem ints_getD : ∀ {vs : List Value} {ns : List Int}, IntsAre vs ns → ∀ j (h : j < vs.length), ∃ t, vs[j] = .int (ns.getD j 0) t
  | _, _, .nil, j, h => by simp at h
  | _, _, .cons n t r, 0, h => ⟨t, rfl⟩
  | _, _, .cons n t r, j + 1, h => ints_getD r j (by simpa using h)
theorem gt_tupInts {prog : Program} {w : World} {A : Around} {E : Value → Shared → Prop} {s : Shared} {l b : Addr} {items items2 : Array Value} {ns ms : List Int} {Q : Value → Shared → Prop} (hl : s.heap.IsTuple l items) (hb : s.heap.IsTuple b items2) (hi : IntsAre items.toList ns) (hj : IntsAre items2.toList ms)
    (hu : A.units < cLine) (h : Q (.bool (lexGt ns ms)) s) : wpAny (model prog w) A (compareOp .Gt (.ref l) (.ref b)) Q E s := by
  have z1 : items.size = ns.length := by rw [← hi.length]; simp
  have z2 : items2.size = ms.length := by rw [← hj.length]; simp
  have k := SeqAt.RcOp.tuples_gt (A := A) (s := s) (e := fun j => decide (ns.getD j 0 = ms.getD j 0)) (r := fun j => decide (ms.getD j 0 < ns.getD j 0)) hl hb hu
    (fun j h1 h2 => by
      obtain ⟨t, e1⟩ := ints_getD hi j (by simpa using h1)
      obtain ⟨u, e2⟩ := ints_getD hj j (by simpa using h2)
      rw [show items[j] = .int (ns.getD j 0) t from by simpa using e1, show items2[j] = .int (ms.getD j 0) u from by simpa using e2]
      have z := SeqAt.EqAt.int_int (A := A.in1) (s := s) (ns.getD j 0) t (ms.getD j 0) u
      exact z)
    (fun j h1 h2 hne => by
      obtain ⟨t, e1⟩ := ints_getD hi j (by simpa using h1)
      obtain ⟨u, e2⟩ := ints_getD hj j (by simpa using h2)
      rw [show items[j] = .int (ns.getD j 0) t from by simpa using e1, show items2[j] = .int (ms.getD j 0) u from by simpa using e2]
      intro prog w E Q hq
      exact (PyProof.Rows.gt_int hq : wpAny (model prog w) A.in1 (compareOp .Gt _ _) Q E s))
  rw [z1, z2, first_is] at k
  exact k prog w E Q h
theorem op_gtT {X : Cx} (hu : X.A.units < cLine) : OpR X (compareOp .Gt) (rGtT X.K) := by
  intro pins s σ H x y v u Q I rx ry h
  obtain ⟨a, b, ns, ms, rfl, rfl, ha, hb, q⟩ := h
  cases rx
  cases ry
  obtain ⟨its, r1, p1, _⟩ := I.tuple ha
  obtain ⟨its2, r2, p2, _⟩ := I.tuple hb
  have i1 : IntsAre its.toArray.toList ns := intsAre_of r1
  have i2 : IntsAre its2.toArray.toList ms := intsAre_of r2
  exact gt_tupInts p1 p2 i1 i2 hu ⟨.bl (lexGt ns ms), H, I, rfl, q⟩
theorem op_gtTK {X : Cx} {K : PySem.W.Frag} (hK : X.K = K) (hu : X.A.units < cLine) : OpR X (compareOp .Gt) (rGtT K) := hK ▸ op_gtT hu
/-! ### sorted(xs), xs a list of triples of whole numbers below some bound -/
def rSortE (K : PySem.W.Frag) : List V → Hp → VK → Prop := fun vs H Q => ∃ B, rSortU K 3 B vs H Q
theorem cr_sortE {X : Cx} {K : PySem.W.Frag} (hK : X.K = K) : CallR X (.builtin "sorted") (rSortE K) := by
  subst hK
  intro pins s σ H vs us Q I r h
  obtain ⟨B, h⟩ := h
  exact cr_sortT (by decide) pins s σ H vs us Q I r h
/-! ### d.setdefault(t, z), t a tuple of numbers -/
def tDSetdT (td ty tx : TE) : TE := fun σ H Q => td σ H fun x H1 => ∃ a, x = .ref a ∧ (∃ kvs, H1 a = some (.dT kvs)) ∧ ty σ H1 fun y H2 => tx σ H2 fun z H3 => ∃ (kvs : List (List Key × V)) (k : List Key) (b : Addr), H3 a = some (.dT kvs) ∧ y = .ref b ∧ H3 b = some (.tup (k.map kV)) ∧ kvs.length < sizeLine ∧
  (∀ v, valV kvs k = some v → Q v H3) ∧ (valV kvs k = none → Q z (upd H3 a (.dT (putK kvs k z))))
theorem isDT_at {X : Cx} {pins : List (Addr × Obj)} {σ : L2.St} {H : Hp} {s : Shared} {a : Addr} {kvs : List (List Key × V)} (I : L2.Inv X pins σ H s) (e : H a = some (.dT kvs)) : s.TypeIs (.ref a) "dict" ∧ ∀ b, Value.ref a = .ref b → ∃ ob, s.heap.get? b = some ob ∧ ob.dict = none := by
  obtain ⟨_, _, xs, _, dd⟩ := dt_of I.hok e
  refine ⟨dd.typeIs, fun b q => ?_⟩
  cases q
  obtain ⟨ob, _, _, h1, h2, _⟩ := dd
  exact ⟨ob, h1, h2.2.1⟩
section
variable {X : Cx} {o e f : Expr} {td ty tx : TE} {apos cpos : Pos}
theorem d_setdT {pins : List (Addr × Obj)} {σ : L2.St} {H : Hp} {s : Shared} {a b : Addr} {r : Value} {d : V} {k : List Key} {A : Around} {E : Value → Shared → Prop} {kvs : List (List Key × V)} {Q : Value → Shared → Prop} (hu : A.units + 1 < cLine) (I : Inv X pins σ H s)
    (e : H a = some (.dT kvs)) (eb : H b = some (.tup (k.map kV))) (rd : RelV d r) (hl : kvs.length < sizeLine)
    (h1 : ∀ v, valV kvs k = some v → ∀ (w' : Value) (s' : Shared), Inv X pins σ H s' → RelV v w' → Q w' s') (h2 : valV kvs k = none → ∀ (w' : Value) (s' : Shared), Inv X pins σ (upd H a (.dT (putK kvs k d))) s' → RelV d w' → Q w' s') :
    wpAny (model X.prog X.w) A (call (.builtin "dict.setdefault") [.ref a, .ref b, r]) Q E s := by
  obtain ⟨z, hd, xs, rel, dd⟩ := dt_of I.hok e
  have hz : xs.length ≤ sizeLine := by rw [← Paired.length rel]; exact z
  refine call_setdefault_heap (hsz := hz) (tupleKind_room_in1 hu) (key_of I.hok eb) hd dd (fun p hp => ?_) fun hn h' dd' hs => ?_
  · have q := rel.val k
    rw [hp] at q
    cases q0 : valV kvs k with
    | none =>
      rw [q0] at q
      exact (show False from q).elim
    | some v0 =>
      rw [q0] at q
      exact h1 v0 q0 _ _ (I.tok _) q
  · have q := rel.val k
    rw [hn] at q
    cases q0 : valV kvs k with
    | some v0 =>
      rw [q0] at q
      exact (show False from q).elim
    | none =>
      have hl2 : (putK kvs k d).length ≤ sizeLine := by have := length_putK kvs k d; omega
      obtain ⟨q, es, ep, hq, h2', h3, h4, _, h5⟩ := dd'
      refine h2 q0 _ _ (d_write (t' := s.toks + (tupleKind (mixKind X.prog X.w)).draws k) I (by rw [e]; exact True.intro) hs ⟨q, hq⟩ ⟨hl2, hd, _, (rel.put k eb rd).keeps fun c ys ec => ?_, q, es, ep, hq, h2', h3, h4, h5⟩) rd
      rw [upd_ne (ne_of ec e (fun z => nomatch z))]
      exact ec
theorem pe_dsetdT (hu : X.A.units + 1 < cLine) (ho : PE X o td) (he : PE X e ty) (hf : PE X f tx) (m : M2 X o "setdefault" apos e f cpos) : PE X (.Call (.Attribute o "setdefault" apos) [e, f] [] cpos) (tDSetdT td ty tx) := by
  refine ⟨fun pins s σ H Q I h => ?_⟩
  refine wpAny_Call_method m.base m.few m.line PySem.F.plainAttrs_dict PySem.F.slot_dict_setdefault PySem.F.type_dict_setdefault (thn (ho.run pins s σ H _ I h) fun u s1 ⟨x, H1, I1, rx, a, ex, ⟨kvs0, d⟩, q1⟩ => ?_)
  subst ex
  obtain rfl : u = Value.ref a := rx
  obtain ⟨t1, t2⟩ := isDT_at I1 d
  refine ⟨t1, t2, ?_⟩
  rw [m.trees]
  refine Calls.callWith_builtin rfl (Calls.evalArgs_plain (Calls.spliced_cons (thn (he.run pins s1 σ H1 _ I1 q1) fun iv s2 ⟨y, H2, I2, ry, q2⟩ =>
    Calls.spliced_cons (thn (hf.run pins s2 σ H2 _ I2 q2) fun fv s3 ⟨z, H3, I3, rz, kvs, k, b, ea, ey, eb, hl, q3, q4⟩ => Calls.spliced_nil ?_))))
  subst ey
  obtain rfl : iv = Value.ref b := ry
  exact d_setdT hu I3 ea eb rz hl (fun v hv w' s4 I4 rw' => ⟨v, _, I4, rw', q3 v hv⟩) fun hn w' s4 I4 rw' => ⟨z, _, I4, rw', q4 hn⟩
end
/-! ### a callee in one row -/
section
variable (P : Program) (w : World) (K : PySem.W.Frag) (mg : Str → Option Value) (base : Heap)
/-- a def of the top that keeps its promise -/
def CalF (CX : CXT) (k : Nat) (x : Str) (ps : List Str) (sp : Sp) : Prop := ∃ f fd, FnOk P w K mg base CX k f fd ps sp ∧ mg x = some (.ref f) ∧ PySem.W.keepIn K (.ref f) = true ∧ Binds K fd ps []
/-- a method -/
def CalM (CX : CXT) (k : Nat) (C : Addr) (m : Str) (ps : List Str) (sp : Sp) : Prop := ∃ f fd, FnOk P w K mg base CX k f fd ps sp ∧ Meth K C m f ∧ Binds K fd ps []
/-- an __init__ -/
def CalI (CX : CXT) (k : Nat) (C : Addr) (ps : List Str) (sp : Sp) : Prop := ∃ f fd, FnOk P w K mg base CX k f fd ps sp ∧ Mk K C f ∧ Binds K fd ps []
end
/-- the def of the top as the text has it -/
def FunF (K : PySem.W.Frag) (mg : Str → Option Value) (x : Str) (st : Stmt) : Prop := ∃ f fd, Fun K x x st f fd ∧ mg x = some (.ref f)
def FunM (K : PySem.W.Frag) (C : Addr) (m q : Str) (st : Stmt) : Prop := ∃ f fd, Fun K m q st f fd ∧ Meth K C m f
def FunI (K : PySem.W.Frag) (C : Addr) (q : Str) (st : Stmt) : Prop := ∃ f fd, Fun K "__init__" q st f fd ∧ Mk K C f
end Sk
set_option maxHeartbeats 2000000
namespace Sk
open PySem PySem.Spec PyProof.Rows L2
open Evl (Ex)
/-! ### lists side by side -/
inductive All2 {α β : Type} (R : α → β → Prop) : List α → List β → Prop
  | nil : All2 R [] []
  | cons {a : α} {b : β} {l : List α} {m : List β} (h : R a b) (t : All2 R l m) : All2 R (a :: l) (b :: m)
namespace All2
variable {α β γ : Type} {R S : α → β → Prop}
theorem len : ∀ {l : List α} {m : List β}, All2 R l m → l.length = m.length
  | _, _, .nil => rfl
  | _, _, .cons _ t => congrArg Nat.succ t.len
theorem mono (f : ∀ a b, R a b → S a b) : ∀ {l : List α} {m : List β}, All2 R l m → All2 S l m
  | _, _, .nil => .nil
  | _, _, .cons h t => .cons (f _ _ h) (t.mono f)
theorem get : ∀ {l : List α} {m : List β} {i : Nat} {a : α}, All2 R l m → l[i]? = some a → ∃ b, m[i]? = some b ∧ R a b
  | _, _, i, a, .nil, e => by simp at e
  | _, _, 0, a, .cons h t, e => ⟨_, rfl, by cases Option.some.inj e; exact h⟩
  | _, _, i + 1, a, .cons h t, e => t.get (i := i) e
theorem get2 : ∀ {l : List α} {m : List β} {i : Nat} {b : β}, All2 R l m → m[i]? = some b → ∃ a, l[i]? = some a ∧ R a b
  | _, _, i, a, .nil, e => by simp at e
  | _, _, 0, a, .cons h t, e => ⟨_, rfl, by cases Option.some.inj e; exact h⟩
  | _, _, i + 1, a, .cons h t, e => t.get2 (i := i) e
theorem snoc {a : α} {b : β} : ∀ {l : List α} {m : List β}, All2 R l m → R a b → All2 R (l ++ [a]) (m ++ [b])
  | _, _, .nil, h => .cons h .nil
  | _, _, .cons h t, k => .cons h (t.snoc k)
theorem app : ∀ {l l2 : List α} {m m2 : List β}, All2 R l m → All2 R l2 m2 → All2 R (l ++ l2) (m ++ m2)
  | _, _, _, _, .nil, h => h
  | _, _, _, _, .cons h t, k => .cons h (t.app k)
theorem set {a : α} {b : β} : ∀ {l : List α} {m : List β} {i : Nat}, All2 R l m → R a b → All2 R (l.set i a) (m.set i b)
  | _, _, i, .nil, h => .nil
  | _, _, 0, .cons h t, k => .cons k t
  | _, _, i + 1, .cons h t, k => .cons h (t.set k)
theorem take : ∀ {l : List α} {m : List β} (i : Nat), All2 R l m → All2 R (l.take i) (m.take i)
  | _, _, 0, _ => .nil
  | _, _, i + 1, .nil => .nil
  | _, _, i + 1, .cons h t => .cons h (t.take i)
theorem map {f : γ → β} : ∀ {l : List α} {m : List γ}, All2 (fun a c => R a (f c)) l m → All2 R l (m.map f)
  | _, _, .nil => .nil
  | _, _, .cons h t => .cons h t.map
theorem of_map {f : γ → β} : ∀ {l : List α} {m : List γ}, All2 R l (m.map f) → All2 (fun a c => R a (f c)) l m
  | [], [], _ => .nil
  | _, _ :: _, .cons h t => .cons h t.of_map
theorem self {f : β → α} (h : ∀ b, R (f b) b) : ∀ (m : List β), All2 R (m.map f) m
  | [] => .nil
  | b :: m => .cons (h b) (self h m)
end All2
theorem take_more {α : Type} : ∀ {l : List α} {i : Nat} {x : α}, l[i]? = some x → l.take (i + 1) = l.take i ++ [x]
  | [], i, x, h => by simp at h
  | a :: l, 0, x, h => by
    have e : a = x := Option.some.inj h
    subst e
    rfl
  | a :: l, i + 1, x, h => by
    have ih := take_more (l := l) (i := i) (x := x) h
    show a :: l.take (i + 1) = a :: l.take i ++ [x]
    rw [ih]
    rfl
theorem map_get {α β : Type} {f : α → β} {l : List α} {i : Nat} {y : β} (h : (l.map f)[i]? = some y) : ∃ x, l[i]? = some x ∧ y = f x := by
  rw [List.getElem?_map] at h
  cases e : l[i]? with
  | none => rw [e] at h; cases h
  | some x => rw [e] at h; exact ⟨x, rfl, (Option.some.inj h).symm⟩
/-- where the top's classes and written things stand -/
structure Ads where
  cTelling : Addr
  cProgram : Addr
  cCompetition : Addr
  cStanding : Addr
  cJump : Addr
  cJumps : Addr
  cSpin : Addr
  cSteps : Addr
  cOtherSteps : Addr
  cGoneBy : Addr
  cValue : Addr
  cOutcome : Addr
  cDesk : Addr
  cLine : Addr
  cWrongValue : Addr
  cNothingOpen : Addr
  cStillSkating : Addr
  cDoesNotFit : Addr
  cNoRoom : Addr
  aJUMP_WORTHS : Addr
  aSPIN_WORTHS : Addr
  aSTEPS_WORTHS : Addr
  aMOST_OF_GROUP : Addr
  aMOST_ROWS : Addr
  aMOST_OF_THREE : Addr
  aMOST_TIMES : Addr
  aMOST_LATE : Addr
  aTURNS : Addr
  aKINDS : Addr
  aPOSITIONS : Addr
  aLEVELS : Addr
/-- a written tuple of numbers; of such tuples -/
def TupI (K : PySem.W.Frag) (a : Addr) (ns : List Int) : Prop := ∀ H, SqT K H a (ns.map V.int)
def TupN (K : PySem.W.Frag) (a : Addr) (nss : List (List Int)) : Prop := ∃ as : List Addr, (∀ H, SqT K H a (as.map V.ref)) ∧ All2 (TupI K) as nss
/-- what the top has written; the end shows it -/
structure Txt (K : PySem.W.Frag) (w : World) (mg : Str → Option Value) (A : Ads) : Prop where
  cl_Telling : Cls K A.cTelling
  g_Telling : mg "Telling" = some (.ref A.cTelling)
  na_Telling_second : NoAttr K A.cTelling "second"
  na_Telling_element : NoAttr K A.cTelling "element"
  na_Telling_grades : NoAttr K A.cTelling "grades"
  cl_Program : Cls K A.cProgram
  g_Program : mg "Program" = some (.ref A.cProgram)
  na_Program_skater : NoAttr K A.cProgram "skater"
  na_Program_free : NoAttr K A.cProgram "free"
  na_Program_tellings : NoAttr K A.cProgram "tellings"
  na_Program_marks : NoAttr K A.cProgram "marks"
  na_Program_falls : NoAttr K A.cProgram "falls"
  na_Program_off : NoAttr K A.cProgram "off"
  na_Program_seconds : NoAttr K A.cProgram "seconds"
  cl_Competition : Cls K A.cCompetition
  g_Competition : mg "Competition" = some (.ref A.cCompetition)
  na_Competition_judges : NoAttr K A.cCompetition "judges"
  na_Competition_factors : NoAttr K A.cCompetition "factors"
  na_Competition_skated : NoAttr K A.cCompetition "skated"
  na_Competition_program : NoAttr K A.cCompetition "program"
  cl_Standing : Cls K A.cStanding
  g_Standing : mg "Standing" = some (.ref A.cStanding)
  na_Standing_skater : NoAttr K A.cStanding "skater"
  na_Standing_score : NoAttr K A.cStanding "score"
  na_Standing_weights : NoAttr K A.cStanding "weights"
  cl_Jump : Cls K A.cJump
  g_Jump : mg "Jump" = some (.ref A.cJump)
  na_Jump_kind : NoAttr K A.cJump "kind"
  na_Jump_turns : NoAttr K A.cJump "turns"
  na_Jump_edge : NoAttr K A.cJump "edge"
  na_Jump_missing : NoAttr K A.cJump "missing"
  na_Jump_worth : NoAttr K A.cJump "worth"
  cl_Jumps : Cls K A.cJumps
  g_Jumps : mg "Jumps" = some (.ref A.cJumps)
  na_Jumps_group : NoAttr K A.cJumps "group"
  na_Jumps_jumps : NoAttr K A.cJumps "jumps"
  cl_Spin : Cls K A.cSpin
  g_Spin : mg "Spin" = some (.ref A.cSpin)
  na_Spin_group : NoAttr K A.cSpin "group"
  na_Spin_name : NoAttr K A.cSpin "name"
  na_Spin_level : NoAttr K A.cSpin "level"
  na_Spin_worth : NoAttr K A.cSpin "worth"
  cl_Steps : Cls K A.cSteps
  g_Steps : mg "Steps" = some (.ref A.cSteps)
  na_Steps_group : NoAttr K A.cSteps "group"
  na_Steps_level : NoAttr K A.cSteps "level"
  na_Steps_worth : NoAttr K A.cSteps "worth"
  cl_OtherSteps : Cls K A.cOtherSteps
  g_OtherSteps : mg "OtherSteps" = some (.ref A.cOtherSteps)
  na_OtherSteps_group : NoAttr K A.cOtherSteps "group"
  na_OtherSteps_worth : NoAttr K A.cOtherSteps "worth"
  cl_GoneBy : Cls K A.cGoneBy
  g_GoneBy : mg "GoneBy" = some (.ref A.cGoneBy)
  na_GoneBy_free : NoAttr K A.cGoneBy "free"
  na_GoneBy_in_rows : NoAttr K A.cGoneBy "in_rows"
  cl_Value : Cls K A.cValue
  g_Value : mg "Value" = some (.ref A.cValue)
  na_Value_worth : NoAttr K A.cValue "worth"
  na_Value_goes_by : NoAttr K A.cValue "goes_by"
  cl_Outcome : Cls K A.cOutcome
  g_Outcome : mg "Outcome" = some (.ref A.cOutcome)
  na_Outcome_judged : NoAttr K A.cOutcome "judged"
  na_Outcome_came_to : NoAttr K A.cOutcome "came_to"
  na_Outcome_components : NoAttr K A.cOutcome "components"
  na_Outcome_taken_off : NoAttr K A.cOutcome "taken_off"
  na_Outcome_score : NoAttr K A.cOutcome "score"
  cl_Desk : Cls K A.cDesk
  g_Desk : mg "Desk" = some (.ref A.cDesk)
  na_Desk_competition : NoAttr K A.cDesk "competition"
  cl_Line : Cls K A.cLine
  g_Line : mg "Line" = some (.ref A.cLine)
  na_Line_calls : NoAttr K A.cLine "calls"
  na_Line_place : NoAttr K A.cLine "place"
  g_WrongValue : mg "WrongValue" = some (.ref A.cWrongValue)
  x_WrongValue : PySem.W.excIn K A.cWrongValue [.type "Exception", .type "BaseException", .type "object"] "Exception.__new__" = true
  k_WrongValue : PySem.W.keepIn K (.ref A.cWrongValue) = true
  s_WrongValue : PySem.W.subIn K (.ref A.cWrongValue) (.type "BaseException") = some true
  t_WrongValue : PySem.W.typeIn K (.ref A.cWrongValue) = some (.type "type")
  e_WrongValue_WrongValue : PySem.W.exmOne K (.ref A.cWrongValue) (.ref A.cWrongValue) = some true
  g_NothingOpen : mg "NothingOpen" = some (.ref A.cNothingOpen)
  x_NothingOpen : PySem.W.excIn K A.cNothingOpen [.type "Exception", .type "BaseException", .type "object"] "Exception.__new__" = true
  k_NothingOpen : PySem.W.keepIn K (.ref A.cNothingOpen) = true
  s_NothingOpen : PySem.W.subIn K (.ref A.cNothingOpen) (.type "BaseException") = some true
  t_NothingOpen : PySem.W.typeIn K (.ref A.cNothingOpen) = some (.type "type")
  e_NothingOpen_WrongValue : PySem.W.exmOne K (.ref A.cNothingOpen) (.ref A.cWrongValue) = some false
  e_NothingOpen_NothingOpen : PySem.W.exmOne K (.ref A.cNothingOpen) (.ref A.cNothingOpen) = some true
  g_StillSkating : mg "StillSkating" = some (.ref A.cStillSkating)
  x_StillSkating : PySem.W.excIn K A.cStillSkating [.type "Exception", .type "BaseException", .type "object"] "Exception.__new__" = true
  k_StillSkating : PySem.W.keepIn K (.ref A.cStillSkating) = true
  s_StillSkating : PySem.W.subIn K (.ref A.cStillSkating) (.type "BaseException") = some true
  t_StillSkating : PySem.W.typeIn K (.ref A.cStillSkating) = some (.type "type")
  e_StillSkating_WrongValue : PySem.W.exmOne K (.ref A.cStillSkating) (.ref A.cWrongValue) = some false
  e_StillSkating_NothingOpen : PySem.W.exmOne K (.ref A.cStillSkating) (.ref A.cNothingOpen) = some false
  e_StillSkating_StillSkating : PySem.W.exmOne K (.ref A.cStillSkating) (.ref A.cStillSkating) = some true
  g_DoesNotFit : mg "DoesNotFit" = some (.ref A.cDoesNotFit)
  x_DoesNotFit : PySem.W.excIn K A.cDoesNotFit [.type "Exception", .type "BaseException", .type "object"] "Exception.__new__" = true
  k_DoesNotFit : PySem.W.keepIn K (.ref A.cDoesNotFit) = true
  s_DoesNotFit : PySem.W.subIn K (.ref A.cDoesNotFit) (.type "BaseException") = some true
  t_DoesNotFit : PySem.W.typeIn K (.ref A.cDoesNotFit) = some (.type "type")
  e_DoesNotFit_WrongValue : PySem.W.exmOne K (.ref A.cDoesNotFit) (.ref A.cWrongValue) = some false
  e_DoesNotFit_NothingOpen : PySem.W.exmOne K (.ref A.cDoesNotFit) (.ref A.cNothingOpen) = some false
  e_DoesNotFit_StillSkating : PySem.W.exmOne K (.ref A.cDoesNotFit) (.ref A.cStillSkating) = some false
  e_DoesNotFit_DoesNotFit : PySem.W.exmOne K (.ref A.cDoesNotFit) (.ref A.cDoesNotFit) = some true
  g_NoRoom : mg "NoRoom" = some (.ref A.cNoRoom)
  x_NoRoom : PySem.W.excIn K A.cNoRoom [.type "Exception", .type "BaseException", .type "object"] "Exception.__new__" = true
  k_NoRoom : PySem.W.keepIn K (.ref A.cNoRoom) = true
  s_NoRoom : PySem.W.subIn K (.ref A.cNoRoom) (.type "BaseException") = some true
  t_NoRoom : PySem.W.typeIn K (.ref A.cNoRoom) = some (.type "type")
  e_NoRoom_WrongValue : PySem.W.exmOne K (.ref A.cNoRoom) (.ref A.cWrongValue) = some false
  e_NoRoom_NothingOpen : PySem.W.exmOne K (.ref A.cNoRoom) (.ref A.cNothingOpen) = some false
  e_NoRoom_StillSkating : PySem.W.exmOne K (.ref A.cNoRoom) (.ref A.cStillSkating) = some false
  e_NoRoom_DoesNotFit : PySem.W.exmOne K (.ref A.cNoRoom) (.ref A.cDoesNotFit) = some false
  e_NoRoom_NoRoom : PySem.W.exmOne K (.ref A.cNoRoom) (.ref A.cNoRoom) = some true
  k_SHORT : ∃ t, mg "SHORT" = some (.int 0 t)
  k_FREE : ∃ t, mg "FREE" = some (.int 1 t)
  k_SALCHOW : ∃ t, mg "SALCHOW" = some (.int 1 t)
  k_FLIP : ∃ t, mg "FLIP" = some (.int 3 t)
  k_SMALL : ∃ t, mg "SMALL" = some (.int 6 t)
  k_WRONG_EDGE : ∃ t, mg "WRONG_EDGE" = some (.int 1 t)
  k_DOUBTED_EDGE : ∃ t, mg "DOUBTED_EDGE" = some (.int 2 t)
  k_QUARTER_MISSING : ∃ t, mg "QUARTER_MISSING" = some (.int 1 t)
  k_MORE_MISSING : ∃ t, mg "MORE_MISSING" = some (.int 2 t)
  k_HALF_MISSING : ∃ t, mg "HALF_MISSING" = some (.int 3 t)
  k_JUMP_WORTHS : mg "JUMP_WORTHS" = some (.ref A.aJUMP_WORTHS) ∧ TupN K A.aJUMP_WORTHS [[40, 130, 420, 950], [40, 130, 430, 970], [50, 170, 490, 1050], [50, 180, 530, 1100], [60, 210, 590, 1150], [110, 330, 800, 1250], [50]]
  k_SPIN_WORTHS : mg "SPIN_WORTHS" = some (.ref A.aSPIN_WORTHS) ∧ TupN K A.aSPIN_WORTHS [[100, 120, 150, 190, 240], [120, 150, 190, 240, 270], [110, 140, 180, 230, 260], [110, 130, 160, 210, 250], [150, 170, 200, 250, 300]]
  k_FLYING_WORTH : ∃ t, mg "FLYING_WORTH" = some (.int 50 t)
  k_CHANGE_WORTH : ∃ t, mg "CHANGE_WORTH" = some (.int 50 t)
  k_STEPS_WORTHS : mg "STEPS_WORTHS" = some (.ref A.aSTEPS_WORTHS) ∧ TupI K A.aSTEPS_WORTHS [150, 180, 260, 330, 390]
  k_OTHER_STEPS_WORTH : ∃ t, mg "OTHER_STEPS_WORTH" = some (.int 200 t)
  k_JUMPS : ∃ t, mg "JUMPS" = some (.int 0 t)
  k_SPIN : ∃ t, mg "SPIN" = some (.int 1 t)
  k_STEPS : ∃ t, mg "STEPS" = some (.int 2 t)
  k_OTHER_STEPS : ∃ t, mg "OTHER_STEPS" = some (.int 3 t)
  k_MOST_BYTES : ∃ t, mg "MOST_BYTES" = some (.int 40 t)
  k_MOST_JUMPS : ∃ t, mg "MOST_JUMPS" = some (.int 3 t)
  k_SIGNS : ∃ t, mg "SIGNS" = some (.str "!+1234<ABCEFLSTUehopqtuz" t)
  k_TURNS : mg "TURNS" = some (.ref A.aTURNS) ∧ WDict K w A.aTURNS [("1", 1), ("2", 2), ("3", 3), ("4", 4)]
  k_KINDS : mg "KINDS" = some (.ref A.aKINDS) ∧ WDict K w A.aKINDS [("T", 0), ("S", 1), ("Lo", 2), ("F", 3), ("Lz", 4), ("A", 5)]
  k_POSITIONS : mg "POSITIONS" = some (.ref A.aPOSITIONS) ∧ WDict K w A.aPOSITIONS [("U", 0), ("L", 1), ("C", 2), ("S", 3), ("Co", 4)]
  k_LEVELS : mg "LEVELS" = some (.ref A.aLEVELS) ∧ WDict K w A.aLEVELS [("B", 0), ("1", 1), ("2", 2), ("3", 3), ("4", 4)]
  k_LEAST_TO_LEAVE_OUT : ∃ t, mg "LEAST_TO_LEAVE_OUT" = some (.int 5 t)
  k_QUARTER : ∃ t, mg "QUARTER" = some (.int 25 t)
  k_MOST_OF_GROUP : mg "MOST_OF_GROUP" = some (.ref A.aMOST_OF_GROUP) ∧ TupN K A.aMOST_OF_GROUP [[3, 3, 1, 0], [7, 3, 1, 1]]
  k_MOST_ROWS : mg "MOST_ROWS" = some (.ref A.aMOST_ROWS) ∧ TupI K A.aMOST_ROWS [1, 3]
  k_MOST_OF_THREE : mg "MOST_OF_THREE" = some (.ref A.aMOST_OF_THREE) ∧ TupI K A.aMOST_OF_THREE [0, 1]
  k_LEAST_TURNS : ∃ t, mg "LEAST_TURNS" = some (.int 3 t)
  k_MOST_TIMES : mg "MOST_TIMES" = some (.ref A.aMOST_TIMES) ∧ TupI K A.aMOST_TIMES [1, 2]
  k_WHOLE : ∃ t, mg "WHOLE" = some (.int 100 t)
  k_SECOND_BY_ITSELF : ∃ t, mg "SECOND_BY_ITSELF" = some (.int 70 t)
  k_MOST_LATE : mg "MOST_LATE" = some (.ref A.aMOST_LATE) ∧ TupI K A.aMOST_LATE [1, 3]
  k_LATE_SHARE : ∃ t, mg "LATE_SHARE" = some (.int 110 t)
  k_POINT : ∃ t, mg "POINT" = some (.int 100 t)
  k_SECONDS_A_POINT : ∃ t, mg "SECONDS_A_POINT" = some (.int 5 t)
  k_MOST_SKATERS : ∃ t, mg "MOST_SKATERS" = some (.int 30 t)
  k_MOST_TELLINGS : ∃ t, mg "MOST_TELLINGS" = some (.int 20 t)
  k_MOST_FALLS : ∃ t, mg "MOST_FALLS" = some (.int 20 t)
  k_MOST_POINTS_OFF : ∃ t, mg "MOST_POINTS_OFF" = some (.int 20 t)
  k_MOST_SECONDS : ∃ t, mg "MOST_SECONDS" = some (.int 300 t)
  b_enumerate : mg "enumerate" = none
  b_len : mg "len" = none
  b_list : mg "list" = none
  b_max : mg "max" = none
  b_ord : mg "ord" = none
  b_sorted : mg "sorted" = none
  b_sum : mg "sum" = none
  b_zip : mg "zip" = none
/-! ### heaps: what is new, what stays -/
theorem Ex.at {H H' : Hp} {a : Addr} {o : HO} (e : Ex H H') (h : H a = some o) : H' a = some o := e a o h
/-- what of H' was not yet in H -/
def nw (H H' : Hp) : Hp := fun b => match H b with
  | none => H' b
  | some _ => none
theorem nw_in {H H' : Hp} : Ex (nw H H') H' := fun b o e => by
  unfold nw at e
  cases q : H b with
  | none => rw [q] at e; exact e
  | some u => rw [q] at e; cases e
theorem nw_of {H H' : Hp} {b : Addr} {o : HO} (h : H b = none) (e : H' b = some o) : nw H H' b = some o := by
  unfold nw
  rw [h]
  exact e
theorem nw_mono {H H1 H2 H3 : Hp} (e : Ex H H1) (e2 : Ex H2 H3) : Ex (nw H1 H2) (nw H H3) := fun b o h => by
  unfold nw at h
  cases q : H1 b with
  | some u => rw [q] at h; cases h
  | none =>
    rw [q] at h
    exact nw_of (Evl.fresh_back e q) (e2 b o h)
theorem nw_out {H H' : Hp} {b : Addr} {o : HO} (h : nw H H' b = some o) : H b = none := by
  unfold nw at h
  cases q : H b with
  | none => rfl
  | some u => rw [q] at h; cases h
/-! ### things in the heap -/
section
variable (A : Ads)
def JumpAt (H : Hp) (v : V) (j : Kg56.Jump) : Prop := ∃ p dx, v = .ref p ∧ H p = some (.ins A.cJump dx [("kind", .int (j.kind : Nat)), ("turns", .int (j.turns : Nat)), ("edge", .int (j.edge : Nat)), ("missing", .int (j.less : Nat)), ("worth", .int (j.worth : Nat))])
def ElemAt (H : Hp) (v : V) : Kg56.Element → Prop
  | .jumps l => ∃ p dx q vs, v = .ref p ∧ H p = some (.ins A.cJumps dx [("group", .int 0), ("jumps", .ref q)]) ∧ H q = some (.lst vs) ∧ All2 (JumpAt A H) vs l
  | .spin n lv => ∃ p dx, v = .ref p ∧ H p = some (.ins A.cSpin dx [("group", .int 1), ("name", .int (n : Nat)), ("level", .int (lv : Nat)), ("worth", .int (Kg56.spinWorth n lv : Nat))])
  | .steps lv => ∃ p dx, v = .ref p ∧ H p = some (.ins A.cSteps dx [("group", .int 2), ("level", .int (lv : Nat)), ("worth", .int (Kg56.stepsWorth lv : Nat))])
  | .choreo => ∃ p dx, v = .ref p ∧ H p = some (.ins A.cOtherSteps dx [("group", .int 3), ("worth", .int 200)])
def ToldAt (H : Hp) (v : V) (t : Kg56.Told) : Prop := ∃ p dx ve g, v = .ref p ∧ H p = some (.ins A.cTelling dx [("second", .int (if t.second = true then 1 else 0)), ("element", ve), ("grades", .ref g)]) ∧ ElemAt A H ve t.element ∧ H g = some (.lst (t.grades.map V.int))
variable {A}
theorem JumpAt.mono {H H' : Hp} (e : Ex H H') {v : V} {j : Kg56.Jump} (h : JumpAt A H v j) : JumpAt A H' v j := by
  obtain ⟨p, dx, h1, h2⟩ := h
  exact ⟨p, dx, h1, e _ _ h2⟩
theorem ElemAt.mono {H H' : Hp} (e : Ex H H') {v : V} {x : Kg56.Element} (h : ElemAt A H v x) : ElemAt A H' v x := by
  cases x with
  | jumps l =>
    obtain ⟨p, dx, q, vs, h1, h2, h3, h4⟩ := h
    exact ⟨p, dx, q, vs, h1, e _ _ h2, e _ _ h3, h4.mono fun _ _ => JumpAt.mono e⟩
  | spin n lv =>
    obtain ⟨p, dx, h1, h2⟩ := h
    exact ⟨p, dx, h1, e _ _ h2⟩
  | steps lv =>
    obtain ⟨p, dx, h1, h2⟩ := h
    exact ⟨p, dx, h1, e _ _ h2⟩
  | choreo =>
    obtain ⟨p, dx, h1, h2⟩ := h
    exact ⟨p, dx, h1, e _ _ h2⟩
theorem ToldAt.mono {H H' : Hp} (e : Ex H H') {v : V} {x : Kg56.Told} (h : ToldAt A H v x) : ToldAt A H' v x := by
  obtain ⟨p, dx, ve, g, h1, h2, h3, h4⟩ := h
  exact ⟨p, dx, ve, g, h1, e _ _ h2, h3.mono e, e _ _ h4⟩
end
/-! ### fields -/
theorem lk_here {k : Str} {v : V} {r : List (Str × V)} : List.lookup k ((k, v) :: r) = some v := by
  have e : (k == k) = true := beq_self_eq_true k
  simp only [List.lookup, e]
theorem lk_past {k g : Str} {v : V} {r : List (Str × V)} (h : (k == g) = false) : List.lookup k ((g, v) :: r) = List.lookup k r := by
  simp only [List.lookup, h]
theorem put_here {f : Str} {v x : V} {r : List (Str × V)} : putF f v ((f, x) :: r) = (f, v) :: r := if_pos rfl
theorem put_past {f g : Str} {v x : V} {r : List (Str × V)} (h : ¬ g = f) : putF f v ((g, x) :: r) = (g, x) :: putF f v r := if_neg h
/-- an __init__ that sets its attributes to what stands in fs -/
def spI (C : Addr) (pre : List V → Hp → Prop) (fs : List V → List (Str × V)) : Sp := fun vs H Q _ => ∃ (p dx : Addr) (args : List V), vs = .ref p :: args ∧ H p = some (.ins C dx []) ∧ pre args H ∧
  ∀ H' : Hp, H' p = some (.ins C dx (fs args)) → (∀ b o, H b = some o → b ≠ p → H' b = some o) → Q .non H'
theorem make_go {C : Addr} {pre : List V → Hp → Prop} {fs : List V → List (Str × V)} {vs : List V} {H : Hp} {Q : VK} {E : XK} (hp : ∀ H', Ex H H' → pre vs H')
    (k : ∀ p dx H', H p = none → Ex H H' → H' p = some (.ins C dx (fs vs)) → Q (.ref p) H') :
    ∀ x dx, H x = none → H dx = none → dx ≠ x → spI C pre fs (.ref x :: (vs ++ [])) (upd (upd H dx (.own x)) x (.ins C dx [])) (fun v H2 => v = .non ∧ Q (.ref x) H2) E := by
  intro x dx nx nd ne
  rw [List.append_nil]
  refine ⟨x, dx, vs, rfl, upd_same, hp _ (fun b o e => ?_), fun H' h1 h2 => ⟨rfl, k x dx H' nx (fun b o e => h2 b o ?_ (ne_of_none e nx)) h1⟩⟩
  · rw [upd_ne (ne_of_none e nx), upd_ne (ne_of_none e nd)]
    exact e
  · rw [upd_ne (ne_of_none e nx), upd_ne (ne_of_none e nd)]
    exact e
end Sk
namespace Sk
/-! # The mathematics: nothing of the library -/
def JOk (j : Kg56.Jump) : Prop := (j.kind ≤ 5 ∧ 1 ≤ j.turns ∧ j.turns ≤ 4 ∧ j.edge ≤ 2 ∧ j.less ≤ 3) ∨ j = ⟨6, 1, 0, 0⟩
def ElemOk : Kg56.Element → Prop
  | .jumps l => 1 ≤ l.length ∧ l.length ≤ 3 ∧ ∀ j ∈ l, JOk j
  | .spin n v => n < 20 ∧ v < 5
  | .steps v => v < 5
  | .choreo => True
/-! ### worths -/
def jw : List (List Nat) := [[40, 130, 420, 950], [40, 130, 430, 970], [50, 170, 490, 1050], [50, 180, 530, 1100], [60, 210, 590, 1150], [110, 330, 800, 1250], [50]]
def share (e m : Nat) : Nat := if e = 1 ∧ m = 2 then 60 else if e = 1 ∨ m = 2 then 80 else 100
def tleft (t m : Nat) : Nat := if m = 3 then t - 1 else t
def jumpW (k t e m : Nat) : Nat := if tleft t m = 0 then 0 else Kg56.part ((jw.getD k []).getD (tleft t m - 1) 0) (share e m)
theorem jumpW_fin : ∀ k : Fin 6, ∀ t : Fin 5, ∀ e : Fin 3, ∀ m : Fin 4, t.val = 0 ∨ jumpW k t e m = Kg56.Jump.worth ⟨k, t, e, m⟩ := by decide
theorem jumpW_is {j : Kg56.Jump} (h : JOk j) : jumpW j.kind j.turns j.edge j.less = j.worth := by
  rcases h with ⟨h1, h2, h3, h4, h5⟩ | h
  · obtain ⟨k, t, e, m⟩ := j
    have q := jumpW_fin ⟨k, by simp at h1; omega⟩ ⟨t, by simp at h3; omega⟩ ⟨e, by simp at h4; omega⟩ ⟨m, by simp at h5; omega⟩
    rcases q with q | q
    · simp at q h2
      omega
    · exact q
  · subst h
    decide
theorem jrow_fin : ∀ k : Fin 6, ∀ t : Fin 5, ∀ m : Fin 4, t.val = 0 ∨ tleft t m = 0 ∨ ∃ row v, jw[k.val]? = some row ∧ row[tleft t m - 1]? = some v ∧ (jw.getD k []).getD (tleft t m - 1) 0 = v := by
  intro k t m
  by_cases ht : t.val = 0
  · exact .inl ht
  · by_cases h0 : tleft t m = 0
    · exact .inr (.inl h0)
    · refine .inr (.inr ?_)
      have h4 : tleft t m - 1 < 4 := by unfold tleft; split <;> omega
      have e : ∀ k : Fin 6, ∀ i : Fin 4, ∃ row v, jw[k.val]? = some row ∧ row[i.val]? = some v ∧ (jw.getD k []).getD i 0 = v := by
        intro k i
        have : ∀ k : Fin 6, ∀ i : Fin 4, (jw[k.val]?.bind fun r => r[i.val]?) = some ((jw.getD k []).getD i 0) := by decide
        have q := this k i
        cases e1 : jw[k.val]? with
        | none => rw [e1] at q; cases q
        | some row => rw [e1] at q; exact ⟨row, _, rfl, q, rfl⟩
      exact e k ⟨_, h4⟩
theorem jrow {j : Kg56.Jump} (h : JOk j) (h0 : ¬ tleft j.turns j.less = 0) : ∃ row v, jw[j.kind]? = some row ∧ row[tleft j.turns j.less - 1]? = some v ∧ jumpW j.kind j.turns j.edge j.less = Kg56.part v (share j.edge j.less) := by
  rcases h with ⟨h1, h2, h3, h4, h5⟩ | h
  · obtain ⟨k, t, e, m⟩ := j
    have q := jrow_fin ⟨k, by simp at h1; omega⟩ ⟨t, by simp at h3; omega⟩ ⟨m, by simp at h5; omega⟩
    rcases q with q | q | ⟨row, v, q1, q2, q3⟩
    · simp at q h2
      omega
    · exact absurd q h0
    · refine ⟨row, v, q1, q2, ?_⟩
      unfold jumpW
      rw [if_neg h0]
      simp only at q3
      rw [q3]
  · subst h
    exact ⟨[50], 50, rfl, rfl, rfl⟩
def sw : List (List Nat) := [[100, 120, 150, 190, 240], [120, 150, 190, 240, 270], [110, 140, 180, 230, 260], [110, 130, 160, 210, 250], [150, 170, 200, 250, 300]]
theorem spinW_fin : ∀ p : Fin 5, ∀ f : Fin 2, ∀ c : Fin 2, ∀ l : Fin 5, ((sw[p.val]?.bind fun r => r[l.val]?).map fun (v : Nat) => v + f.val * 50 + c.val * 50) = some (Kg56.spinWorth (10 * f.val + 5 * c.val + p.val) l.val) := by decide
theorem spinW {p f c l : Nat} (hp : p < 5) (hf : f < 2) (hc : c < 2) (hl : l < 5) : ∃ row v, sw[p]? = some row ∧ row[l]? = some v ∧ Kg56.spinWorth (10 * f + 5 * c + p) l = v + f * 50 + c * 50 := by
  have q : ((sw[p]?.bind fun r => r[l]?).map fun (v : Nat) => v + f * 50 + c * 50) = some (Kg56.spinWorth (10 * f + 5 * c + p) l) := spinW_fin ⟨p, hp⟩ ⟨f, hf⟩ ⟨c, hc⟩ ⟨l, hl⟩
  cases e1 : sw[p]? with
  | none => rw [e1] at q; cases q
  | some row =>
    rw [e1] at q
    cases e2 : row[l]? with
    | none => simp only [Option.bind_some, e2] at q; cases q
    | some v =>
      simp only [Option.bind_some, e2, Option.map_some] at q
      exact ⟨row, v, rfl, e2, (Option.some.inj q).symm⟩
theorem stepsW : ∀ l : Fin 5, [150, 180, 260, 330, 390][l.val]? = some (Kg56.stepsWorth l) := by decide
theorem share_le (e m : Nat) : share e m ≤ 1000 := by
  unfold share
  split
  · decide
  · split <;> decide
/-! ### marks -/
theorem foldl_add : ∀ (l : List Int) (a : Int), l.foldl (fun a b => a + b) a = a + l.sum
  | [], a => by simp
  | x :: l, a => by rw [List.foldl_cons, foldl_add l, List.sum_cons]; omega
theorem foldl_sum (l : List Int) : l.foldl (fun a b => a + b) 0 = l.sum := by rw [foldl_add]; omega
theorem foldl_max : ∀ (l : List Int) (a : Int), (∀ y ∈ a :: l, y ≤ l.foldl max a) ∧ l.foldl max a ∈ a :: l
  | [], a => by simp
  | x :: l, a => by
    obtain ⟨h1, h2⟩ := foldl_max l (max a x)
    rw [List.foldl_cons]
    constructor
    · intro y hy
      have hm := h1 (max a x) List.mem_cons_self
      rcases List.mem_cons.mp hy with e | hy
      · subst e; omega
      · rcases List.mem_cons.mp hy with e | hy
        · subst e; omega
        · exact h1 y (List.mem_cons_of_mem _ hy)
    · rcases List.mem_cons.mp h2 with e | h
      · rw [e]
        rcases Int.le_total a x with q | q
        · rw [Int.max_eq_right q]; exact List.mem_cons_of_mem _ List.mem_cons_self
        · rw [Int.max_eq_left q]; exact List.mem_cons_self
      · exact List.mem_cons_of_mem _ (List.mem_cons_of_mem _ h)
theorem foldl_min : ∀ (l : List Int) (a : Int), (∀ y ∈ a :: l, l.foldl min a ≤ y) ∧ l.foldl min a ∈ a :: l
  | [], a => by simp
  | x :: l, a => by
    obtain ⟨h1, h2⟩ := foldl_min l (min a x)
    rw [List.foldl_cons]
    constructor
    · intro y hy
      have hm := h1 (min a x) List.mem_cons_self
      rcases List.mem_cons.mp hy with e | hy
      · subst e; omega
      · rcases List.mem_cons.mp hy with e | hy
        · subst e; omega
        · exact h1 y (List.mem_cons_of_mem _ hy)
    · rcases List.mem_cons.mp h2 with e | h
      · rw [e]
        rcases Int.le_total a x with q | q
        · rw [Int.min_eq_left q]; exact List.mem_cons_self
        · rw [Int.min_eq_right q]; exact List.mem_cons_of_mem _ List.mem_cons_self
      · exact List.mem_cons_of_mem _ (List.mem_cons_of_mem _ h)
theorem most_is {l : List Int} {m : Int} (h : m ∈ l) (g : ∀ y ∈ l, y ≤ m) : Kg56.most l = m := by
  cases l with
  | nil => cases h
  | cons x l =>
    obtain ⟨h1, h2⟩ := foldl_max l x
    have := h1 m h
    have := g _ h2
    show l.foldl max x = m
    omega
theorem least_is {l : List Int} {m : Int} (h : m ∈ l) (g : ∀ y ∈ l, m ≤ y) : Kg56.least l = m := by
  cases l with
  | nil => cases h
  | cons x l =>
    obtain ⟨h1, h2⟩ := foldl_min l x
    have := h1 m h
    have := g _ h2
    show l.foldl min x = m
    omega
theorem sum_perm {l m : List Int} (h : l.Perm m) : l.sum = m.sum := by
  induction h with
  | nil => rfl
  | cons x _ ih => rw [List.sum_cons, List.sum_cons, ih]
  | swap x y l => simp only [List.sum_cons]; omega
  | trans _ _ ih1 ih2 => rw [ih1, ih2]
theorem ends {l : List Int} (h : 2 ≤ l.length) : ∃ x m y, l = x :: (m ++ [y]) := by
  cases l with
  | nil => simp at h
  | cons x r =>
    refine ⟨x, r.dropLast, r.getLast (by intro e; subst e; simp at h), ?_⟩
    rw [List.dropLast_concat_getLast]
theorem trim_is {ns ms : List Int} (hp : ms.Perm ns) (hs : ms.Pairwise (· ≤ ·)) (h5 : 5 ≤ ns.length) : ∃ x m y, ms = x :: (m ++ [y]) ∧ Kg56.trimmed ns = (m.sum, m.length) := by
  have hl := hp.length_eq
  obtain ⟨x, m, y, e⟩ := ends (l := ms) (by omega)
  refine ⟨x, m, y, e, ?_⟩
  subst e
  have hs1 := List.pairwise_cons.mp hs
  have hs2 := List.pairwise_append.mp hs1.2
  have hmin : Kg56.least ns = x := by
    refine least_is (hp.mem_iff.mp List.mem_cons_self) fun z hz => ?_
    rcases List.mem_cons.mp (hp.mem_iff.mpr hz) with e | q
    · omega
    · exact hs1.1 z q
  have hmax : Kg56.most ns = y := by
    refine most_is (hp.mem_iff.mp (List.mem_cons_of_mem _ (List.mem_append_right _ List.mem_cons_self))) fun z hz => ?_
    rcases List.mem_cons.mp (hp.mem_iff.mpr hz) with e | q
    · subst e
      exact hs1.1 y (List.mem_append_right _ List.mem_cons_self)
    · rcases List.mem_append.mp q with q | q
      · exact hs2.2.2 z q y List.mem_cons_self
      · have : z = y := by simpa using q
        omega
  unfold Kg56.trimmed
  rw [if_pos h5, foldl_sum, hmin, hmax, ← sum_perm hp]
  simp only [List.length_cons, List.length_append, List.length_nil] at hl
  simp only [List.sum_cons, List.sum_append, List.sum_nil]
  have e1 : x + (m.sum + (y + 0)) - y - x = m.sum := by omega
  have e2 : ns.length - 2 = m.length := by omega
  rw [e1, e2]
theorem trim_few {ns : List Int} (h5 : ¬ 5 ≤ ns.length) : Kg56.trimmed ns = (ns.sum, ns.length) := by
  unfold Kg56.trimmed
  rw [if_neg h5, foldl_sum]
theorem trim_len {ns : List Int} (h : 3 ≤ ns.length) (h9 : ns.length ≤ 9) : 1 ≤ (Kg56.trimmed ns).2 ∧ (Kg56.trimmed ns).2 ≤ 9 := by
  unfold Kg56.trimmed
  split <;> simp only <;> omega
theorem near_pos {a : Int} {b : Nat} (h : 0 ≤ a) (hb : 0 < b) : Int.fdiv (2 * a + (b : Int)) (2 * (b : Int)) = Kg56.nearest a b := by
  unfold Kg56.nearest
  rw [if_neg (by omega)]
  obtain ⟨n, rfl⟩ := Int.eq_ofNat_of_zero_le h
  rw [Int.fdiv_eq_ediv_of_nonneg _ (by omega)]
  show (2 * (n : Int) + (b : Int)) / (2 * (b : Int)) = (((2 * n + b) / (2 * b) : Nat) : Int)
  norm_cast
theorem near_neg {a : Int} {b : Nat} (h : a < 0) : -Kg56.nearest (-a) b = Kg56.nearest a b := by
  unfold Kg56.nearest
  rw [if_pos h, if_neg (by omega), Int.natAbs_neg]
theorem sum_bd : ∀ (l : List Int), (∀ z ∈ l, -5 ≤ z ∧ z ≤ 5) → -(5 * (l.length : Int)) ≤ l.sum ∧ l.sum ≤ 5 * (l.length : Int)
  | [], _ => by simp
  | x :: l, h => by
    have h1 := sum_bd l fun z hz => h z (List.mem_cons_of_mem _ hz)
    have h2 := h x List.mem_cons_self
    rw [List.sum_cons, List.length_cons]
    omega
theorem trim_bd {ns : List Int} (h : ∀ z ∈ ns, -5 ≤ z ∧ z ≤ 5) (h9 : ns.length ≤ 9) : -100 ≤ (Kg56.trimmed ns).1 ∧ (Kg56.trimmed ns).1 ≤ 100 := by
  have hs := sum_bd ns h
  unfold Kg56.trimmed
  split
  · rename_i h5
    cases ns with
    | nil => simp at h5
    | cons x l =>
      have h1 := h _ (foldl_max l x).2
      have h2 := h _ (foldl_min l x).2
      rw [foldl_sum]
      show -100 ≤ (x :: l).sum - l.foldl max x - l.foldl min x ∧ (x :: l).sum - l.foldl max x - l.foldl min x ≤ 100
      omega
  · rw [foldl_sum]
    simp only
    omega
end Sk
set_option maxHeartbeats 2000000
namespace Sk
open PySem PySem.Spec PyProof.Rows L2
open Evl (Ex)
/-! ### ifs whose test is known -/
theorem t_yes {c : Bool} {A B : Prop} (hc : c = true) (h : A) : if c = true then A else B := by
  rw [if_pos hc]
  exact h
theorem t_no {c : Bool} {A B : Prop} (hc : c = false) (h : B) : if c = true then A else B := by
  rw [hc, if_neg Bool.false_ne_true]
  exact h
theorem iT {a b : Int} (h : a = b) : decide (V.int a = V.int b) = true := decide_eq_true (congrArg V.int h)
theorem iF {a b : Int} (h : ¬ a = b) : decide (V.int a = V.int b) = false := decide_eq_false fun e => h (V.int.inj e)
theorem sT {a b : Str} (h : a = b) : decide (V.str a = V.str b) = true := decide_eq_true (congrArg V.str h)
theorem sF {a b : Str} (h : ¬ a = b) : decide (V.str a = V.str b) = false := decide_eq_false fun e => h (V.str.inj e)
theorem nT {b : Bool} (h : b = true) : (!b) = false := by rw [h]; rfl
theorem nF {b : Bool} (h : b = false) : (!b) = true := by rw [h]; rfl
/-! ### written tuples -/
theorem tupI_at {K : PySem.W.Frag} {a : Addr} {ns : List Int} (h : TupI K a ns) (H : Hp) {i : Nat} {n : Int} (e : ns[i]? = some n) : SqT K H a (ns.map V.int) ∧ atI (ns.map V.int) (i : Int) = some (.int n) :=
  ⟨h H, atI_nat (by rw [List.getElem?_map, e] <;> rfl)⟩
theorem tupN_at {K : PySem.W.Frag} {a : Addr} {nss : List (List Int)} (h : TupN K a nss) {i : Nat} {ns : List Int} (e : nss[i]? = some ns) : ∃ xs p, (∀ H, SqT K H a xs) ∧ atI xs (i : Int) = some (.ref p) ∧ TupI K p ns := by
  obtain ⟨as, h1, h2⟩ := h
  obtain ⟨p, h3, h4⟩ := h2.get2 e
  exact ⟨_, p, h1, atI_nat (by rw [List.getElem?_map, h3] <;> rfl), h4⟩
theorem getI {l : List Nat} {i n : Nat} (e : l[i]? = some n) : (l.map fun (x : Nat) => (x : Int))[i]? = some (n : Int) := by rw [List.getElem?_map, e] <;> rfl
theorem getN {l : List (List Nat)} {i : Nat} {r : List Nat} (e : l[i]? = some r) : (l.map fun q => q.map fun (x : Nat) => (x : Int))[i]? = some (r.map fun (x : Nat) => (x : Int)) := by rw [List.getElem?_map, e] <;> rfl
theorem mulOk {i j : Int} (h : 0 ≤ i ∧ i ≤ 100000) : CMul i j := .inl ⟨by omega, by omega⟩
abbrev st_hundredths : Stmt := top 28
theorem sc_hundredths : FnScope ["share", "number"] ["share", "number"] (defScope st_hundredths) := ⟨rfl, rfl, rfl, by decide +kernel, rfl, by decide +kernel, by decide +kernel⟩
abbrev st_jump_share : Stmt := top 30
theorem sc_jump_share : FnScope ["edge", "missing"] ["edge", "missing"] (defScope st_jump_share) := ⟨rfl, rfl, rfl, by decide +kernel, rfl, by decide +kernel, by decide +kernel⟩
abbrev st_jump_worth : Stmt := top 29
theorem sc_jump_worth : FnScope ["kind", "turns", "edge", "missing"] ["kind", "turns", "edge", "missing"] (defScope st_jump_worth) := ⟨rfl, rfl, rfl, by decide +kernel, rfl, by decide +kernel, by decide +kernel⟩
abbrev st_spin_worth : Stmt := top 31
theorem sc_spin_worth : FnScope ["position", "flying", "change", "level"] ["position", "flying", "change", "level"] (defScope st_spin_worth) := ⟨rfl, rfl, rfl, by decide +kernel, rfl, by decide +kernel, by decide +kernel⟩
abbrev st_steps_worth : Stmt := top 32
theorem sc_steps_worth : FnScope ["level"] ["level"] (defScope st_steps_worth) := ⟨rfl, rfl, rfl, by decide +kernel, rfl, by decide +kernel, by decide +kernel⟩
abbrev st_check_number : Stmt := top 110
theorem sc_check_number : FnScope ["number", "least", "most"] ["number", "least", "most"] (defScope st_check_number) := ⟨rfl, rfl, rfl, by decide +kernel, rfl, by decide +kernel, by decide +kernel⟩
def sp_hundredths : Sp := fun vs H Q _ => ∃ (s n : Nat), vs = [.int (s : Int), .int (n : Int)] ∧ s ≤ 1000 ∧ Q (.int (Kg56.part n s : Nat)) H
def sp_jump_share : Sp := fun vs H Q _ => ∃ (e m : Nat), vs = [.int (e : Int), .int (m : Int)] ∧ Q (.int (share e m : Nat)) H
def sp_jump_worth : Sp := fun vs H Q _ => ∃ (j : Kg56.Jump), vs = [.int (j.kind : Nat), .int (j.turns : Nat), .int (j.edge : Nat), .int (j.less : Nat)] ∧ JOk j ∧ Q (.int (j.worth : Nat)) H
def sp_spin_worth : Sp := fun vs H Q _ => ∃ (p f c l : Nat), vs = [.int (p : Nat), .int (f : Nat), .int (c : Nat), .int (l : Nat)] ∧ (p < 5 ∧ f < 2 ∧ c < 2 ∧ l < 5) ∧ Q (.int (Kg56.spinWorth (10 * f + 5 * c + p) l : Nat)) H
def sp_steps_worth : Sp := fun vs H Q _ => ∃ (l : Nat), vs = [.int (l : Nat)] ∧ l < 5 ∧ Q (.int (Kg56.stepsWorth l : Nat)) H
def sp_check_number (A : Ads) : Sp := fun vs H Q E => ∃ (n a b : Int), vs = [.int n, .int a, .int b] ∧ ((a ≤ n ∧ n ≤ b) → Q .non H) ∧ (¬ (a ≤ n ∧ n ≤ b) → E (.ref A.cWrongValue) none H)
theorem part_int (n s : Nat) : (((s : Int) * (n : Int) + 50) / 100) = ((Kg56.part n s : Nat) : Int) := by
  unfold Kg56.part
  rw [Nat.mul_comm n s]
  norm_cast
section
variable {P : Program} {w : World} {K : PySem.W.Frag} {mg : Str → Option Value} {base : Heap} {A : Ads}
theorem ok_hundredths (T : Txt K w mg A) (F0 : FunF K mg "hundredths" st_hundredths) : CalF P w K mg base CX0 1 "hundredths" ["share", "number"] (sp_hundredths) := by
  obtain ⟨f, fd, F, gF⟩ := F0
  refine ⟨f, fd, ?_, gF, F.kp, F.binds (ps := ["share", "number"]) fun _ _ _ _ _ _ us hl => match us, hl with | [_, _], _ => rfl⟩
  refine F.ok sc_hundredths (fun vs H Q E h => by first | (obtain ⟨rfl, _⟩ := h; rfl) | (obtain ⟨_, rfl, _⟩ := h; rfl) | (obtain ⟨_, _, rfl, _⟩ := h; rfl) | (obtain ⟨_, _, _, rfl, _⟩ := h; rfl) | (obtain ⟨_, _, _, _, rfl, _⟩ := h; rfl) | (obtain ⟨_, _, _, _, _, rfl, _⟩ := h; rfl) | (obtain ⟨_, _, _, _, _, _, rfl, _⟩ := h; rfl) | (obtain ⟨_, _, _, _, _, _, _, rfl, _⟩ := h; rfl) | (obtain ⟨_, _, _, _, _, _, _, _, rfl, _⟩ := h; rfl) | (obtain ⟨_, _, _, _, _, _, _, _, _, rfl, _⟩ := h; rfl) | (obtain ⟨_, _, _, _, _, _, _, _, _, _, rfl, _⟩ := h; rfl)) (fun cdv AA outer s H vs Q E hr h => ⟨_, (pss_one (ps_ret (pe_op op_fdiv (pe_op op_add (pe_op op_mul (pv 0) (pv 1)) pe_int) pe_int))), ?_⟩)
  obtain ⟨s1, n, rfl, hs, k⟩ := h
  refine ⟨_, rfl, _, rfl, _, _, rfl, rfl, mulOk ⟨by omega, by omega⟩, _, _, rfl, rfl, _, _, rfl, rfl, ⟨by decide, by decide⟩, ?_⟩
  show Q (.int ((((s1 : Int) * (n : Int) + 50) / 100))) H
  rw [part_int]
  exact k
theorem ok_jump_share (T : Txt K w mg A) (F0 : FunF K mg "jump_share" st_jump_share) : CalF P w K mg base CX0 1 "jump_share" ["edge", "missing"] (sp_jump_share) := by
  obtain ⟨f, fd, F, gF⟩ := F0
  refine ⟨f, fd, ?_, gF, F.kp, F.binds (ps := ["edge", "missing"]) fun _ _ _ _ _ _ us hl => match us, hl with | [_, _], _ => rfl⟩
  refine F.ok sc_jump_share (fun vs H Q E h => by first | (obtain ⟨rfl, _⟩ := h; rfl) | (obtain ⟨_, rfl, _⟩ := h; rfl) | (obtain ⟨_, _, rfl, _⟩ := h; rfl) | (obtain ⟨_, _, _, rfl, _⟩ := h; rfl) | (obtain ⟨_, _, _, _, rfl, _⟩ := h; rfl) | (obtain ⟨_, _, _, _, _, rfl, _⟩ := h; rfl) | (obtain ⟨_, _, _, _, _, _, rfl, _⟩ := h; rfl) | (obtain ⟨_, _, _, _, _, _, _, rfl, _⟩ := h; rfl) | (obtain ⟨_, _, _, _, _, _, _, _, rfl, _⟩ := h; rfl) | (obtain ⟨_, _, _, _, _, _, _, _, _, rfl, _⟩ := h; rfl) | (obtain ⟨_, _, _, _, _, _, _, _, _, _, rfl, _⟩ := h; rfl)) (fun cdv AA outer s H vs Q E hr h => ⟨_, (pss_cons (ps_if (PW.pt (pw_and (pt_cmpR op_eq (pv 0) (pe_globI T.k_WRONG_EDGE) (nomark _)) (pw_and1 (pt_cmpR op_eq (pv 1) (pe_globI T.k_MORE_MISSING) (nomark _))))) (pss_one (ps_ret pe_int)) pss_nil)
      (pss_cons (ps_if (PW.pt (pw_or (pt_cmpR op_eq (pv 0) (pe_globI T.k_WRONG_EDGE) (nomark _)) (pw_or1 (pt_cmpR op_eq (pv 1) (pe_globI T.k_MORE_MISSING) (nomark _))))) (pss_one (ps_ret pe_int)) pss_nil)
      (pss_one (ps_ret pe_int)))), ?_⟩)
  obtain ⟨e, m, rfl, k⟩ := h
  have q : ∀ {z : Int}, ((share e m : Nat) : Int) = z → Q (.int z) H := fun z => z ▸ k
  unfold share at q
  refine ⟨_, rfl, rfl, _, rfl, ?_⟩
  by_cases c1 : e = 1
  · refine t_yes (iT (by omega)) ⟨_, rfl, rfl, _, rfl, ?_⟩
    by_cases c2 : m = 2
    · rw [iT (by omega)]
      exact q (by rw [if_pos ⟨c1, c2⟩] <;> rfl)
    · rw [iF (by omega)]
      refine ⟨_, rfl, rfl, _, rfl, ?_⟩
      rw [iT (by omega)]
      exact q (by rw [if_neg (by omega), if_pos (.inl c1)] <;> rfl)
  · rw [iF (by omega)]
    refine ⟨_, rfl, rfl, _, rfl, ?_⟩
    rw [iF (by omega)]
    refine ⟨_, rfl, rfl, _, rfl, ?_⟩
    by_cases c2 : m = 2
    · rw [iT (by omega)]
      exact q (by rw [if_neg (by omega), if_pos (.inr c2)] <;> rfl)
    · rw [iF (by omega)]
      exact q (by rw [if_neg (by omega), if_neg (by omega)] <;> rfl)
theorem ok_jump_worth (T : Txt K w mg A) (F0 : FunF K mg "jump_worth" st_jump_worth)
    (c_hundredths : CalF P w K mg base CX0 1 "hundredths" ["share", "number"] (sp_hundredths))
    (c_jump_share : CalF P w K mg base CX0 1 "jump_share" ["edge", "missing"] (sp_jump_share)) : CalF P w K mg base CX0 2 "jump_worth" ["kind", "turns", "edge", "missing"] (sp_jump_worth) := by
  obtain ⟨f_hundredths, fd_hundredths, G_hundredths, mg_hundredths, kp_hundredths, b_hundredths⟩ := c_hundredths
  obtain ⟨f_jump_share, fd_jump_share, G_jump_share, mg_jump_share, kp_jump_share, b_jump_share⟩ := c_jump_share
  obtain ⟨f, fd, F, gF⟩ := F0
  refine ⟨f, fd, ?_, gF, F.kp, F.binds (ps := ["kind", "turns", "edge", "missing"]) fun _ _ _ _ _ _ us hl => match us, hl with | [_, _, _, _], _ => rfl⟩
  refine F.ok sc_jump_worth (fun vs H Q E h => by first | (obtain ⟨rfl, _⟩ := h; rfl) | (obtain ⟨_, rfl, _⟩ := h; rfl) | (obtain ⟨_, _, rfl, _⟩ := h; rfl) | (obtain ⟨_, _, _, rfl, _⟩ := h; rfl) | (obtain ⟨_, _, _, _, rfl, _⟩ := h; rfl) | (obtain ⟨_, _, _, _, _, rfl, _⟩ := h; rfl) | (obtain ⟨_, _, _, _, _, _, rfl, _⟩ := h; rfl) | (obtain ⟨_, _, _, _, _, _, _, rfl, _⟩ := h; rfl) | (obtain ⟨_, _, _, _, _, _, _, _, rfl, _⟩ := h; rfl) | (obtain ⟨_, _, _, _, _, _, _, _, _, rfl, _⟩ := h; rfl) | (obtain ⟨_, _, _, _, _, _, _, _, _, _, rfl, _⟩ := h; rfl)) (fun cdv AA outer s H vs Q E hr h => ⟨_, (Evl.pss_cut (ps_if (pt_cmpR op_eq (pv 3) (pe_globI T.k_HALF_MISSING) (nomark _)) (pss_one (ps_set (i := 1) sc_jump_worth.nd rfl (Or.inl rfl) (pe_op op_sub (pv 1) pe_int))) pss_nil)
      (pss_cons (ps_if (pt_cmpR op_eq (pv 1) pe_int (nomark _)) (pss_one (ps_ret pe_int)) pss_nil)
      (pss_one (ps_ret (pe_call G_hundredths (hr.mono (by decide)) rfl mg_hundredths kp_hundredths b_hundredths .nil pass0 (pa_cons (pe_call G_jump_share (hr.mono (by decide)) rfl mg_jump_share kp_jump_share b_jump_share .nil pass0 (pa_cons (pv 2) (pa_cons (pv 3) pa_nil))) (pa_cons (pe_ix ix_tup (pe_ix ix_tup (pe_globR T.k_JUMP_WORTHS.1) (pv 0) (fun _ _ => rfl)) (pe_op op_sub (pv 1) pe_int) (fun _ _ => rfl)) pa_nil))))))), ?_⟩)
  obtain ⟨j, rfl, hj, k⟩ := h
  have q : ∀ {z : Int}, ((jumpW j.kind j.turns j.edge j.less : Nat) : Int) = z → Q (.int z) H := fun z => z ▸ (by rw [jumpW_is hj]; exact k)
  refine ⟨fun σ' H' => σ' = [some (.int (j.kind : Nat)), some (.int (tleft j.turns j.less : Nat)), some (.int (j.edge : Nat)), some (.int (j.less : Nat))] ∧ H' = H, ?_, ?_⟩
  · refine ⟨_, rfl, rfl, _, rfl, ?_⟩
    unfold tleft
    by_cases c : j.less = 3
    · rw [iT (by omega), if_pos c]
      refine ⟨_, rfl, _, _, rfl, rfl, ?_, rfl⟩
      have e : ((j.turns : Int) - 1) = ((j.turns - 1 : Nat) : Int) := by
        rcases hj with h | h
        · omega
        · subst h
          rfl
      rw [← e]
      rfl
    · rw [iF (by omega), if_neg c]
      exact ⟨rfl, rfl⟩
  · rintro σ' H' ⟨rfl, rfl⟩
    refine ⟨_, rfl, rfl, _, rfl, ?_⟩
    by_cases c : tleft j.turns j.less = 0
    · rw [iT (by omega)]
      exact q (by unfold jumpW; rw [if_pos c] <;> rfl)
    · rw [iF (by omega)]
      obtain ⟨row, v, e1, e2, e3⟩ := jrow hj c
      obtain ⟨xs, a, h1, h2, h3⟩ := tupN_at T.k_JUMP_WORTHS.2 (getN e1)
      obtain ⟨h4, h5⟩ := tupI_at h3 H' (getI e2)
      have e4 : ((tleft j.turns j.less : Nat) : Int) - 1 = ((tleft j.turns j.less - 1 : Nat) : Int) := by omega
      rw [← e4] at h5
      refine ⟨_, rfl, _, rfl, _, _, rfl, ?_⟩
      refine ⟨_, rfl, _, _, _, _, rfl, rfl, h1 H', h2, _, rfl, _, _, rfl, rfl, _, _, _, _, rfl, rfl, h4, h5, ?_⟩
      exact ⟨_, _, rfl, share_le _ _, by rw [← e3, jumpW_is hj]; exact k⟩
end
end Sk
set_option maxHeartbeats 2000000
namespace Sk
open PySem PySem.Spec PyProof.Rows L2
open Evl (Ex)
abbrev st_Jump_init : Stmt := inClass (top 38) 0
theorem sc_Jump_init : FnScope ["self", "kind", "turns", "edge", "missing"] ["self", "kind", "turns", "edge", "missing"] (defScope st_Jump_init) := ⟨rfl, rfl, rfl, by decide +kernel, rfl, by decide +kernel, by decide +kernel⟩
abbrev st_Jumps_init : Stmt := inClass (top 39) 0
theorem sc_Jumps_init : FnScope ["self", "jumps"] ["self", "jumps"] (defScope st_Jumps_init) := ⟨rfl, rfl, rfl, by decide +kernel, rfl, by decide +kernel, by decide +kernel⟩
abbrev st_Spin_init : Stmt := inClass (top 40) 0
theorem sc_Spin_init : FnScope ["self", "position", "flying", "change", "level"] ["self", "position", "flying", "change", "level"] (defScope st_Spin_init) := ⟨rfl, rfl, rfl, by decide +kernel, rfl, by decide +kernel, by decide +kernel⟩
abbrev st_Steps_init : Stmt := inClass (top 41) 0
theorem sc_Steps_init : FnScope ["self", "level"] ["self", "level"] (defScope st_Steps_init) := ⟨rfl, rfl, rfl, by decide +kernel, rfl, by decide +kernel, by decide +kernel⟩
abbrev st_OtherSteps_init : Stmt := inClass (top 42) 0
theorem sc_OtherSteps_init : FnScope ["self"] ["self"] (defScope st_OtherSteps_init) := ⟨rfl, rfl, rfl, by decide +kernel, rfl, by decide +kernel, by decide +kernel⟩
abbrev st_Telling_init : Stmt := inClass (top 3) 0
theorem sc_Telling_init : FnScope ["self", "second", "element", "grades"] ["self", "second", "element", "grades"] (defScope st_Telling_init) := ⟨rfl, rfl, rfl, by decide +kernel, rfl, by decide +kernel, by decide +kernel⟩
abbrev st_Standing_init : Stmt := inClass (top 7) 0
theorem sc_Standing_init : FnScope ["self", "skater", "score", "weights"] ["self", "skater", "score", "weights"] (defScope st_Standing_init) := ⟨rfl, rfl, rfl, by decide +kernel, rfl, by decide +kernel, by decide +kernel⟩
abbrev st_Value_init : Stmt := inClass (top 91) 0
theorem sc_Value_init : FnScope ["self", "worth", "goes_by"] ["self", "worth", "goes_by"] (defScope st_Value_init) := ⟨rfl, rfl, rfl, by decide +kernel, rfl, by decide +kernel, by decide +kernel⟩
abbrev st_Line_init : Stmt := inClass (top 114) 0
theorem sc_Line_init : FnScope ["self", "calls"] ["self", "calls"] (defScope st_Line_init) := ⟨rfl, rfl, rfl, by decide +kernel, rfl, by decide +kernel, by decide +kernel⟩
abbrev st_Desk_init : Stmt := inClass (top 109) 0
theorem sc_Desk_init : FnScope ["self"] ["self"] (defScope st_Desk_init) := ⟨rfl, rfl, rfl, by decide +kernel, rfl, by decide +kernel, by decide +kernel⟩
abbrev st_Program_init : Stmt := inClass (top 4) 0
theorem sc_Program_init : FnScope ["self", "skater", "free"] ["self", "skater", "free"] (defScope st_Program_init) := ⟨rfl, rfl, rfl, by decide +kernel, rfl, by decide +kernel, by decide +kernel⟩
abbrev st_Competition_init : Stmt := inClass (top 5) 0
theorem sc_Competition_init : FnScope ["self", "judges", "short", "free"] ["self", "judges", "short", "free"] (defScope st_Competition_init) := ⟨rfl, rfl, rfl, by decide +kernel, rfl, by decide +kernel, by decide +kernel⟩
abbrev st_GoneBy_init : Stmt := inClass (top 86) 0
theorem sc_GoneBy_init : FnScope ["self", "free"] ["self", "free"] (defScope st_GoneBy_init) := ⟨rfl, rfl, rfl, by decide +kernel, rfl, by decide +kernel, by decide +kernel⟩
def jf (j : Kg56.Jump) : List (Str × V) := [("kind", .int (j.kind : Nat)), ("turns", .int (j.turns : Nat)), ("edge", .int (j.edge : Nat)), ("missing", .int (j.less : Nat)), ("worth", .int (j.worth : Nat))]
/-- an __init__: what is handed in (args), what the attributes are then -/
def spI0 (C : Addr) (args : List V) (fs : List (Str × V)) : Sp := fun vs H Q _ => ∃ (p dx : Addr), vs = .ref p :: args ∧ H p = some (.ins C dx []) ∧
  ∀ H' : Hp, H' p = some (.ins C dx fs) → (∀ b o, H b = some o → b ≠ p → H' b = some o) → Q .non H'
theorem make0 {C : Addr} {fs : List (Str × V)} {vs : List V} {H : Hp} {Q : VK} {E : XK} (k : ∀ p dx H', H p = none → Ex H H' → H' p = some (.ins C dx fs) → Q (.ref p) H') :
    ∀ x dx, H x = none → H dx = none → dx ≠ x → spI0 C vs fs (.ref x :: (vs ++ [])) (upd (upd H dx (.own x)) x (.ins C dx [])) (fun v H2 => v = .non ∧ Q (.ref x) H2) E := by
  intro x dx nx nd ne
  rw [List.append_nil]
  refine ⟨x, dx, rfl, upd_same, fun H' h1 h2 => ⟨rfl, k x dx H' nx (fun b o e => h2 b o ?_ (ne_of_none e nx)) h1⟩⟩
  rw [upd_ne (ne_of_none e nx), upd_ne (ne_of_none e nd)]
  exact e
def sp_Jump_init (A : Ads) : Sp := fun vs H Q E => ∃ j, JOk j ∧ spI0 A.cJump [.int (j.kind : Nat), .int (j.turns : Nat), .int (j.edge : Nat), .int (j.less : Nat)] (jf j) vs H Q E
def sp_Jumps_init (A : Ads) : Sp := fun vs H Q E => ∃ q, spI0 A.cJumps [.ref q] [("group", .int 0), ("jumps", .ref q)] vs H Q E
def sp_Spin_init (A : Ads) : Sp := fun vs H Q E => ∃ p f c l : Nat, (p < 5 ∧ f < 2 ∧ c < 2 ∧ l < 5) ∧
  spI0 A.cSpin [.int (p : Nat), .int (f : Nat), .int (c : Nat), .int (l : Nat)] [("group", .int 1), ("name", .int ((10 * f + 5 * c + p : Nat) : Int)), ("level", .int (l : Nat)), ("worth", .int (Kg56.spinWorth (10 * f + 5 * c + p) l : Nat))] vs H Q E
def sp_Steps_init (A : Ads) : Sp := fun vs H Q E => ∃ l : Nat, l < 5 ∧ spI0 A.cSteps [.int (l : Nat)] [("group", .int 2), ("level", .int (l : Nat)), ("worth", .int (Kg56.stepsWorth l : Nat))] vs H Q E
def sp_OtherSteps_init (A : Ads) : Sp := spI0 A.cOtherSteps [] [("group", .int 3), ("worth", .int 200)]
def sp_Telling_init (A : Ads) : Sp := fun vs H Q E => ∃ a b c, spI0 A.cTelling [a, b, c] [("second", a), ("element", b), ("grades", c)] vs H Q E
def sp_Standing_init (A : Ads) : Sp := fun vs H Q E => ∃ a b c, spI0 A.cStanding [a, b, c] [("skater", a), ("score", b), ("weights", c)] vs H Q E
def sp_Value_init (A : Ads) : Sp := fun vs H Q E => ∃ a b, spI0 A.cValue [a, b] [("worth", a), ("goes_by", b)] vs H Q E
def sp_Line_init (A : Ads) : Sp := fun vs H Q E => ∃ a, spI0 A.cLine [a] [("calls", a), ("place", .int 0)] vs H Q E
def sp_Desk_init (A : Ads) : Sp := spI0 A.cDesk [] [("competition", .non)]
/-- of an __init__ that makes other things: those are new -/
def spI1 (C : Addr) (args : List V) (P : Hp → Addr → Addr → Hp → Prop) : Sp := fun vs H Q _ => ∃ (p dx : Addr), vs = .ref p :: args ∧ H p = some (.ins C dx []) ∧
  ∀ H' : Hp, P H p dx H' → (∀ b o, H b = some o → b ≠ p → H' b = some o) → Q .non H'
theorem make1 {C : Addr} {P : Hp → Addr → Addr → Hp → Prop} {vs : List V} {H : Hp} {Q : VK} {E : XK} (k : ∀ p dx H0 H', H p = none → H0 p ≠ none → Ex H H0 → Ex H H' → P H0 p dx H' → Q (.ref p) H') :
    ∀ x dx, H x = none → H dx = none → dx ≠ x → spI1 C vs P (.ref x :: (vs ++ [])) (upd (upd H dx (.own x)) x (.ins C dx [])) (fun v H2 => v = .non ∧ Q (.ref x) H2) E := by
  intro x dx nx nd ne
  rw [List.append_nil]
  have e0 : ∀ b o, H b = some o → (upd (upd H dx (.own x)) x (.ins C dx [])) b = some o := fun b o e => by
    rw [upd_ne (ne_of_none e nx), upd_ne (ne_of_none e nd)]
    exact e
  exact ⟨x, dx, rfl, upd_same, fun H' h1 h2 => ⟨rfl, k x dx _ H' nx (by rw [upd_same]; intro z; cases z) e0 (fun b o e => h2 b o (e0 b o e) (ne_of_none e nx)) h1⟩⟩
theorem made1 {C x dx : Addr} {P : Hp → Addr → Addr → Hp → Prop} {vs : List V} {H : Hp} {Qv : VK} {E : XK} (nx : H x = none) (nd : H dx = none) (k : ∀ H0 H', H0 x ≠ none → Ex H H0 → Ex H H' → P H0 x dx H' → Qv .non H') :
    spI1 C vs P (.ref x :: (vs ++ [])) (upd (upd H dx (.own x)) x (.ins C dx [])) Qv E := by
  rw [List.append_nil]
  have e0 : ∀ b o, H b = some o → (upd (upd H dx (.own x)) x (.ins C dx [])) b = some o := fun b o e => by
    rw [upd_ne (ne_of_none e nx), upd_ne (ne_of_none e nd)]
    exact e
  exact ⟨x, dx, rfl, upd_same, fun H' h1 h2 => k _ H' (by rw [upd_same]; intro z; cases z) e0 (fun b o e => h2 b o (e0 b o e) (ne_of_none e nx)) h1⟩
theorem made0 {C x dx : Addr} {fs : List (Str × V)} {vs : List V} {H : Hp} {Qv : VK} {E : XK} (nx : H x = none) (nd : H dx = none) (k : ∀ H', Ex H H' → H' x = some (.ins C dx fs) → Qv .non H') :
    spI0 C vs fs (.ref x :: (vs ++ [])) (upd (upd H dx (.own x)) x (.ins C dx [])) Qv E := by
  rw [List.append_nil]
  refine ⟨x, dx, rfl, upd_same, fun H' h1 h2 => k H' (fun b o e => h2 b o ?_ (ne_of_none e nx)) h1⟩
  rw [upd_ne (ne_of_none e nx), upd_ne (ne_of_none e nd)]
  exact e
def sp_Program_init (A : Ads) : Sp := fun vs H Q E => ∃ a b : V, spI1 A.cProgram [a, b] (fun H p dx H' => ∃ l m, H l = none ∧ H m = none ∧ l ≠ m ∧ H' l = some (.lst []) ∧ H' m = some (.lst []) ∧ H' p = some (.ins A.cProgram dx [("skater", a), ("free", b), ("tellings", .ref l), ("marks", .ref m), ("falls", .int 0), ("off", .int 0), ("seconds", .int 0)])) vs H Q E
def sp_Competition_init (A : Ads) : Sp := fun vs H Q E => ∃ a b c : V, spI1 A.cCompetition [a, b, c] (fun H p dx H' => ∃ t l, H t = none ∧ H l = none ∧ l ≠ t ∧ H' t = some (.tup [b, c]) ∧ H' l = some (.lst []) ∧ H' p = some (.ins A.cCompetition dx [("judges", a), ("factors", .ref t), ("skated", .ref l), ("program", .non)])) vs H Q E
def sp_GoneBy_init (A : Ads) : Sp := fun vs H Q E => ∃ a : V, spI1 A.cGoneBy [a] (fun H p dx H' => ∃ d, H d = none ∧ H' d = some (.dT []) ∧ H' p = some (.ins A.cGoneBy dx [("free", a), ("in_rows", .ref d)])) vs H Q E
section
variable {P : Program} {w : World} {K : PySem.W.Frag} {mg : Str → Option Value} {base : Heap} {A : Ads}
theorem l1000 {n : Nat} (h : Nat.ble (n + 1) 1000 = true) : n < 1000 := Nat.le_of_ble_eq_true h
theorem ok_Jump_init (T : Txt K w mg A) (F0 : FunI K A.cJump "Jump.__init__" st_Jump_init)
    (c_jump_worth : CalF P w K mg base CX0 2 "jump_worth" ["kind", "turns", "edge", "missing"] (sp_jump_worth)) : CalI P w K mg base CX0 3 A.cJump ["self", "kind", "turns", "edge", "missing"] (sp_Jump_init A) := by
  obtain ⟨f_jump_worth, fd_jump_worth, G_jump_worth, mg_jump_worth, kp_jump_worth, b_jump_worth⟩ := c_jump_worth
  obtain ⟨f, fd, F, gF⟩ := F0
  refine ⟨f, fd, ?_, gF, F.binds (ps := ["self", "kind", "turns", "edge", "missing"]) fun _ _ _ _ _ _ us hl => match us, hl with | [_, _, _, _, _], _ => rfl⟩
  refine F.ok sc_Jump_init (fun vs H Q E h => by first | (obtain ⟨rfl, _⟩ := h; rfl) | (obtain ⟨_, rfl, _⟩ := h; rfl) | (obtain ⟨_, _, rfl, _⟩ := h; rfl) | (obtain ⟨_, _, _, rfl, _⟩ := h; rfl) | (obtain ⟨_, _, _, _, rfl, _⟩ := h; rfl) | (obtain ⟨_, _, _, _, _, rfl, _⟩ := h; rfl) | (obtain ⟨_, _, _, _, _, _, rfl, _⟩ := h; rfl) | (obtain ⟨_, _, _, _, _, _, _, rfl, _⟩ := h; rfl) | (obtain ⟨_, _, _, _, _, _, _, _, rfl, _⟩ := h; rfl) | (obtain ⟨_, _, _, _, _, _, _, _, _, rfl, _⟩ := h; rfl) | (obtain ⟨_, _, _, _, _, _, _, _, _, _, rfl, _⟩ := h; rfl)) (fun cdv AA outer s H vs Q E hr h => ⟨_, (pss_cons (ps_fld (pv 0) (pv 1) rfl)
      (pss_cons (ps_fld (pv 0) (pv 2) rfl)
      (pss_cons (ps_fld (pv 0) (pv 3) rfl)
      (pss_cons (ps_fld (pv 0) (pv 4) rfl)
      (pss_one (ps_fld (pv 0) (pe_call G_jump_worth (hr.mono (by decide)) rfl mg_jump_worth kp_jump_worth b_jump_worth .nil pass0 (pa_cons (pv 1) (pa_cons (pv 2) (pa_cons (pv 3) (pa_cons (pv 4) pa_nil))))) rfl)))))), ?_⟩)
  obtain ⟨j, hj, p, dx, rfl, hp, k⟩ := h
  refine ⟨_, rfl, _, rfl, p, _, dx, _, rfl, hp, T.cl_Jump, T.na_Jump_kind, l1000 rfl, ?_⟩
  refine ⟨_, rfl, _, rfl, p, _, dx, _, rfl, upd_same, T.cl_Jump, T.na_Jump_turns, l1000 rfl, ?_⟩
  refine ⟨_, rfl, _, rfl, p, _, dx, _, rfl, upd_same, T.cl_Jump, T.na_Jump_edge, l1000 rfl, ?_⟩
  refine ⟨_, rfl, _, rfl, p, _, dx, _, rfl, upd_same, T.cl_Jump, T.na_Jump_missing, l1000 rfl, ?_⟩
  refine ⟨_, rfl, _, rfl, _, rfl, _, rfl, ?_⟩
  refine ⟨j, rfl, hj, ?_⟩
  refine ⟨_, rfl, p, _, dx, _, rfl, upd_same, T.cl_Jump, T.na_Jump_worth, l1000 rfl, ?_⟩
  refine k _ upd_same fun b o e hb => ?_
  rw [upd_ne hb, upd_ne hb, upd_ne hb, upd_ne hb, upd_ne hb]
  exact e
theorem ok_Jumps_init (T : Txt K w mg A) (F0 : FunI K A.cJumps "Jumps.__init__" st_Jumps_init) : CalI P w K mg base CX0 1 A.cJumps ["self", "jumps"] (sp_Jumps_init A) := by
  obtain ⟨f, fd, F, gF⟩ := F0
  refine ⟨f, fd, ?_, gF, F.binds (ps := ["self", "jumps"]) fun _ _ _ _ _ _ us hl => match us, hl with | [_, _], _ => rfl⟩
  refine F.ok sc_Jumps_init (fun vs H Q E h => by first | (obtain ⟨rfl, _⟩ := h; rfl) | (obtain ⟨_, rfl, _⟩ := h; rfl) | (obtain ⟨_, _, rfl, _⟩ := h; rfl) | (obtain ⟨_, _, _, rfl, _⟩ := h; rfl) | (obtain ⟨_, _, _, _, rfl, _⟩ := h; rfl) | (obtain ⟨_, _, _, _, _, rfl, _⟩ := h; rfl) | (obtain ⟨_, _, _, _, _, _, rfl, _⟩ := h; rfl) | (obtain ⟨_, _, _, _, _, _, _, rfl, _⟩ := h; rfl) | (obtain ⟨_, _, _, _, _, _, _, _, rfl, _⟩ := h; rfl) | (obtain ⟨_, _, _, _, _, _, _, _, _, rfl, _⟩ := h; rfl) | (obtain ⟨_, _, _, _, _, _, _, _, _, _, rfl, _⟩ := h; rfl)) (fun cdv AA outer s H vs Q E hr h => ⟨_, (pss_cons (ps_fld (pv 0) (pe_globI T.k_JUMPS) rfl)
      (pss_one (ps_fld (pv 0) (pv 1) rfl))), ?_⟩)
  obtain ⟨q, p, dx, rfl, hp, k⟩ := h
  refine ⟨_, rfl, p, _, dx, _, rfl, hp, T.cl_Jumps, T.na_Jumps_group, l1000 rfl, ?_⟩
  refine ⟨_, rfl, _, rfl, p, _, dx, _, rfl, upd_same, T.cl_Jumps, T.na_Jumps_jumps, l1000 rfl, ?_⟩
  refine k _ upd_same fun b o e hb => ?_
  rw [upd_ne hb, upd_ne hb]
  exact e
theorem ok_Spin_init (T : Txt K w mg A) (F0 : FunI K A.cSpin "Spin.__init__" st_Spin_init)
    (c_spin_worth : CalF P w K mg base CX0 1 "spin_worth" ["position", "flying", "change", "level"] (sp_spin_worth)) : CalI P w K mg base CX0 2 A.cSpin ["self", "position", "flying", "change", "level"] (sp_Spin_init A) := by
  obtain ⟨f_spin_worth, fd_spin_worth, G_spin_worth, mg_spin_worth, kp_spin_worth, b_spin_worth⟩ := c_spin_worth
  obtain ⟨f, fd, F, gF⟩ := F0
  refine ⟨f, fd, ?_, gF, F.binds (ps := ["self", "position", "flying", "change", "level"]) fun _ _ _ _ _ _ us hl => match us, hl with | [_, _, _, _, _], _ => rfl⟩
  refine F.ok sc_Spin_init (fun vs H Q E h => by first | (obtain ⟨rfl, _⟩ := h; rfl) | (obtain ⟨_, rfl, _⟩ := h; rfl) | (obtain ⟨_, _, rfl, _⟩ := h; rfl) | (obtain ⟨_, _, _, rfl, _⟩ := h; rfl) | (obtain ⟨_, _, _, _, rfl, _⟩ := h; rfl) | (obtain ⟨_, _, _, _, _, rfl, _⟩ := h; rfl) | (obtain ⟨_, _, _, _, _, _, rfl, _⟩ := h; rfl) | (obtain ⟨_, _, _, _, _, _, _, rfl, _⟩ := h; rfl) | (obtain ⟨_, _, _, _, _, _, _, _, rfl, _⟩ := h; rfl) | (obtain ⟨_, _, _, _, _, _, _, _, _, rfl, _⟩ := h; rfl) | (obtain ⟨_, _, _, _, _, _, _, _, _, _, rfl, _⟩ := h; rfl)) (fun cdv AA outer s H vs Q E hr h => ⟨_, (pss_cons (ps_fld (pv 0) (pe_globI T.k_SPIN) rfl)
      (pss_cons (ps_fld (pv 0) (pe_op op_add (pe_op op_add (pe_op op_mul pe_int (pv 2)) (pe_op op_mul pe_int (pv 3))) (pv 1)) rfl)
      (pss_cons (ps_fld (pv 0) (pv 4) rfl)
      (pss_one (ps_fld (pv 0) (pe_call G_spin_worth (hr.mono (by decide)) rfl mg_spin_worth kp_spin_worth b_spin_worth .nil pass0 (pa_cons (pv 1) (pa_cons (pv 2) (pa_cons (pv 3) (pa_cons (pv 4) pa_nil))))) rfl))))), ?_⟩)
  obtain ⟨pp, ff, c, l, hh, p, dx, rfl, hp, k⟩ := h
  refine ⟨_, rfl, p, _, dx, _, rfl, hp, T.cl_Spin, T.na_Spin_group, l1000 rfl, ?_⟩
  refine ⟨_, rfl, _, _, rfl, rfl, mulOk ⟨by omega, by omega⟩, _, rfl, _, _, rfl, rfl, mulOk ⟨by omega, by omega⟩, _, _, rfl, rfl, _, rfl, _, _, rfl, rfl, ?_⟩
  have e : ((10 : Int) * (ff : Int) + 5 * (c : Int) + (pp : Int)) = ((10 * ff + 5 * c + pp : Nat) : Int) := by norm_cast
  refine ⟨_, rfl, p, _, dx, _, rfl, upd_same, T.cl_Spin, T.na_Spin_name, l1000 rfl, ?_⟩
  rw [show (fun i j => V.int (i + j)) ((10 : Int) * (ff : Int) + 5 * (c : Int)) (pp : Int) = V.int ((10 * ff + 5 * c + pp : Nat) : Int) from congrArg V.int e]
  refine ⟨_, rfl, _, rfl, p, _, dx, _, rfl, upd_same, T.cl_Spin, T.na_Spin_level, l1000 rfl, ?_⟩
  refine ⟨_, rfl, _, rfl, _, rfl, _, rfl, ?_⟩
  refine ⟨pp, ff, c, l, rfl, hh, ?_⟩
  refine ⟨_, rfl, p, _, dx, _, rfl, upd_same, T.cl_Spin, T.na_Spin_worth, l1000 rfl, ?_⟩
  refine k _ upd_same fun b o e hb => ?_
  rw [upd_ne hb, upd_ne hb, upd_ne hb, upd_ne hb]
  exact e
theorem ok_Steps_init (T : Txt K w mg A) (F0 : FunI K A.cSteps "Steps.__init__" st_Steps_init)
    (c_steps_worth : CalF P w K mg base CX0 1 "steps_worth" ["level"] (sp_steps_worth)) : CalI P w K mg base CX0 2 A.cSteps ["self", "level"] (sp_Steps_init A) := by
  obtain ⟨f_steps_worth, fd_steps_worth, G_steps_worth, mg_steps_worth, kp_steps_worth, b_steps_worth⟩ := c_steps_worth
  obtain ⟨f, fd, F, gF⟩ := F0
  refine ⟨f, fd, ?_, gF, F.binds (ps := ["self", "level"]) fun _ _ _ _ _ _ us hl => match us, hl with | [_, _], _ => rfl⟩
  refine F.ok sc_Steps_init (fun vs H Q E h => by first | (obtain ⟨rfl, _⟩ := h; rfl) | (obtain ⟨_, rfl, _⟩ := h; rfl) | (obtain ⟨_, _, rfl, _⟩ := h; rfl) | (obtain ⟨_, _, _, rfl, _⟩ := h; rfl) | (obtain ⟨_, _, _, _, rfl, _⟩ := h; rfl) | (obtain ⟨_, _, _, _, _, rfl, _⟩ := h; rfl) | (obtain ⟨_, _, _, _, _, _, rfl, _⟩ := h; rfl) | (obtain ⟨_, _, _, _, _, _, _, rfl, _⟩ := h; rfl) | (obtain ⟨_, _, _, _, _, _, _, _, rfl, _⟩ := h; rfl) | (obtain ⟨_, _, _, _, _, _, _, _, _, rfl, _⟩ := h; rfl) | (obtain ⟨_, _, _, _, _, _, _, _, _, _, rfl, _⟩ := h; rfl)) (fun cdv AA outer s H vs Q E hr h => ⟨_, (pss_cons (ps_fld (pv 0) (pe_globI T.k_STEPS) rfl)
      (pss_cons (ps_fld (pv 0) (pv 1) rfl)
      (pss_one (ps_fld (pv 0) (pe_call G_steps_worth (hr.mono (by decide)) rfl mg_steps_worth kp_steps_worth b_steps_worth .nil pass0 (pa_cons (pv 1) pa_nil)) rfl)))), ?_⟩)
  obtain ⟨l, hl, p, dx, rfl, hp, k⟩ := h
  refine ⟨_, rfl, p, _, dx, _, rfl, hp, T.cl_Steps, T.na_Steps_group, l1000 rfl, ?_⟩
  refine ⟨_, rfl, _, rfl, p, _, dx, _, rfl, upd_same, T.cl_Steps, T.na_Steps_level, l1000 rfl, ?_⟩
  refine ⟨_, rfl, ?_⟩
  refine ⟨l, rfl, hl, ?_⟩
  refine ⟨_, rfl, p, _, dx, _, rfl, upd_same, T.cl_Steps, T.na_Steps_worth, l1000 rfl, ?_⟩
  refine k _ upd_same fun b o e hb => ?_
  rw [upd_ne hb, upd_ne hb, upd_ne hb]
  exact e
theorem ok_OtherSteps_init (T : Txt K w mg A) (F0 : FunI K A.cOtherSteps "OtherSteps.__init__" st_OtherSteps_init) : CalI P w K mg base CX0 1 A.cOtherSteps ["self"] (sp_OtherSteps_init A) := by
  obtain ⟨f, fd, F, gF⟩ := F0
  refine ⟨f, fd, ?_, gF, F.binds (ps := ["self"]) fun _ _ _ _ _ _ us hl => match us, hl with | [_], _ => rfl⟩
  refine F.ok sc_OtherSteps_init (fun vs H Q E h => by first | (obtain ⟨rfl, _⟩ := h; rfl) | (obtain ⟨_, rfl, _⟩ := h; rfl) | (obtain ⟨_, _, rfl, _⟩ := h; rfl) | (obtain ⟨_, _, _, rfl, _⟩ := h; rfl) | (obtain ⟨_, _, _, _, rfl, _⟩ := h; rfl) | (obtain ⟨_, _, _, _, _, rfl, _⟩ := h; rfl) | (obtain ⟨_, _, _, _, _, _, rfl, _⟩ := h; rfl) | (obtain ⟨_, _, _, _, _, _, _, rfl, _⟩ := h; rfl) | (obtain ⟨_, _, _, _, _, _, _, _, rfl, _⟩ := h; rfl) | (obtain ⟨_, _, _, _, _, _, _, _, _, rfl, _⟩ := h; rfl) | (obtain ⟨_, _, _, _, _, _, _, _, _, _, rfl, _⟩ := h; rfl)) (fun cdv AA outer s H vs Q E hr h => ⟨_, (pss_cons (ps_fld (pv 0) (pe_globI T.k_OTHER_STEPS) rfl)
      (pss_one (ps_fld (pv 0) (pe_globI T.k_OTHER_STEPS_WORTH) rfl))), ?_⟩)
  obtain ⟨p, dx, rfl, hp, k⟩ := h
  refine ⟨_, rfl, p, _, dx, _, rfl, hp, T.cl_OtherSteps, T.na_OtherSteps_group, l1000 rfl, ?_⟩
  refine ⟨_, rfl, p, _, dx, _, rfl, upd_same, T.cl_OtherSteps, T.na_OtherSteps_worth, l1000 rfl, ?_⟩
  refine k _ upd_same fun b o e hb => ?_
  rw [upd_ne hb, upd_ne hb]
  exact e
theorem ok_Telling_init (T : Txt K w mg A) (F0 : FunI K A.cTelling "Telling.__init__" st_Telling_init) : CalI P w K mg base CX0 1 A.cTelling ["self", "second", "element", "grades"] (sp_Telling_init A) := by
  obtain ⟨f, fd, F, gF⟩ := F0
  refine ⟨f, fd, ?_, gF, F.binds (ps := ["self", "second", "element", "grades"]) fun _ _ _ _ _ _ us hl => match us, hl with | [_, _, _, _], _ => rfl⟩
  refine F.ok sc_Telling_init (fun vs H Q E h => by first | (obtain ⟨rfl, _⟩ := h; rfl) | (obtain ⟨_, rfl, _⟩ := h; rfl) | (obtain ⟨_, _, rfl, _⟩ := h; rfl) | (obtain ⟨_, _, _, rfl, _⟩ := h; rfl) | (obtain ⟨_, _, _, _, rfl, _⟩ := h; rfl) | (obtain ⟨_, _, _, _, _, rfl, _⟩ := h; rfl) | (obtain ⟨_, _, _, _, _, _, rfl, _⟩ := h; rfl) | (obtain ⟨_, _, _, _, _, _, _, rfl, _⟩ := h; rfl) | (obtain ⟨_, _, _, _, _, _, _, _, rfl, _⟩ := h; rfl) | (obtain ⟨_, _, _, _, _, _, _, _, _, rfl, _⟩ := h; rfl) | (obtain ⟨_, _, _, _, _, _, _, _, _, _, rfl, _⟩ := h; rfl)) (fun cdv AA outer s H vs Q E hr h => ⟨_, (pss_cons (ps_fld (pv 0) (pv 1) rfl)
      (pss_cons (ps_fld (pv 0) (pv 2) rfl)
      (pss_one (ps_fld (pv 0) (pv 3) rfl)))), ?_⟩)
  obtain ⟨a, b, c, p, dx, rfl, hp, k⟩ := h
  refine ⟨_, rfl, _, rfl, p, _, dx, _, rfl, hp, T.cl_Telling, T.na_Telling_second, l1000 rfl, ?_⟩
  refine ⟨_, rfl, _, rfl, p, _, dx, _, rfl, upd_same, T.cl_Telling, T.na_Telling_element, l1000 rfl, ?_⟩
  refine ⟨_, rfl, _, rfl, p, _, dx, _, rfl, upd_same, T.cl_Telling, T.na_Telling_grades, l1000 rfl, ?_⟩
  refine k _ upd_same fun b o e hb => ?_
  rw [upd_ne hb, upd_ne hb, upd_ne hb]
  exact e
theorem ok_Standing_init (T : Txt K w mg A) (F0 : FunI K A.cStanding "Standing.__init__" st_Standing_init) : CalI P w K mg base CX0 1 A.cStanding ["self", "skater", "score", "weights"] (sp_Standing_init A) := by
  obtain ⟨f, fd, F, gF⟩ := F0
  refine ⟨f, fd, ?_, gF, F.binds (ps := ["self", "skater", "score", "weights"]) fun _ _ _ _ _ _ us hl => match us, hl with | [_, _, _, _], _ => rfl⟩
  refine F.ok sc_Standing_init (fun vs H Q E h => by first | (obtain ⟨rfl, _⟩ := h; rfl) | (obtain ⟨_, rfl, _⟩ := h; rfl) | (obtain ⟨_, _, rfl, _⟩ := h; rfl) | (obtain ⟨_, _, _, rfl, _⟩ := h; rfl) | (obtain ⟨_, _, _, _, rfl, _⟩ := h; rfl) | (obtain ⟨_, _, _, _, _, rfl, _⟩ := h; rfl) | (obtain ⟨_, _, _, _, _, _, rfl, _⟩ := h; rfl) | (obtain ⟨_, _, _, _, _, _, _, rfl, _⟩ := h; rfl) | (obtain ⟨_, _, _, _, _, _, _, _, rfl, _⟩ := h; rfl) | (obtain ⟨_, _, _, _, _, _, _, _, _, rfl, _⟩ := h; rfl) | (obtain ⟨_, _, _, _, _, _, _, _, _, _, rfl, _⟩ := h; rfl)) (fun cdv AA outer s H vs Q E hr h => ⟨_, (pss_cons (ps_fld (pv 0) (pv 1) rfl)
      (pss_cons (ps_fld (pv 0) (pv 2) rfl)
      (pss_one (ps_fld (pv 0) (pv 3) rfl)))), ?_⟩)
  obtain ⟨a, b, c, p, dx, rfl, hp, k⟩ := h
  refine ⟨_, rfl, _, rfl, p, _, dx, _, rfl, hp, T.cl_Standing, T.na_Standing_skater, l1000 rfl, ?_⟩
  refine ⟨_, rfl, _, rfl, p, _, dx, _, rfl, upd_same, T.cl_Standing, T.na_Standing_score, l1000 rfl, ?_⟩
  refine ⟨_, rfl, _, rfl, p, _, dx, _, rfl, upd_same, T.cl_Standing, T.na_Standing_weights, l1000 rfl, ?_⟩
  refine k _ upd_same fun b o e hb => ?_
  rw [upd_ne hb, upd_ne hb, upd_ne hb]
  exact e
theorem ok_Value_init (T : Txt K w mg A) (F0 : FunI K A.cValue "Value.__init__" st_Value_init) : CalI P w K mg base CX0 1 A.cValue ["self", "worth", "goes_by"] (sp_Value_init A) := by
  obtain ⟨f, fd, F, gF⟩ := F0
  refine ⟨f, fd, ?_, gF, F.binds (ps := ["self", "worth", "goes_by"]) fun _ _ _ _ _ _ us hl => match us, hl with | [_, _, _], _ => rfl⟩
  refine F.ok sc_Value_init (fun vs H Q E h => by first | (obtain ⟨rfl, _⟩ := h; rfl) | (obtain ⟨_, rfl, _⟩ := h; rfl) | (obtain ⟨_, _, rfl, _⟩ := h; rfl) | (obtain ⟨_, _, _, rfl, _⟩ := h; rfl) | (obtain ⟨_, _, _, _, rfl, _⟩ := h; rfl) | (obtain ⟨_, _, _, _, _, rfl, _⟩ := h; rfl) | (obtain ⟨_, _, _, _, _, _, rfl, _⟩ := h; rfl) | (obtain ⟨_, _, _, _, _, _, _, rfl, _⟩ := h; rfl) | (obtain ⟨_, _, _, _, _, _, _, _, rfl, _⟩ := h; rfl) | (obtain ⟨_, _, _, _, _, _, _, _, _, rfl, _⟩ := h; rfl) | (obtain ⟨_, _, _, _, _, _, _, _, _, _, rfl, _⟩ := h; rfl)) (fun cdv AA outer s H vs Q E hr h => ⟨_, (pss_cons (ps_fld (pv 0) (pv 1) rfl)
      (pss_one (ps_fld (pv 0) (pv 2) rfl))), ?_⟩)
  obtain ⟨a, b, p, dx, rfl, hp, k⟩ := h
  refine ⟨_, rfl, _, rfl, p, _, dx, _, rfl, hp, T.cl_Value, T.na_Value_worth, l1000 rfl, ?_⟩
  refine ⟨_, rfl, _, rfl, p, _, dx, _, rfl, upd_same, T.cl_Value, T.na_Value_goes_by, l1000 rfl, ?_⟩
  refine k _ upd_same fun b o e hb => ?_
  rw [upd_ne hb, upd_ne hb]
  exact e
theorem ok_Line_init (T : Txt K w mg A) (F0 : FunI K A.cLine "Line.__init__" st_Line_init) : CalI P w K mg base CX0 1 A.cLine ["self", "calls"] (sp_Line_init A) := by
  obtain ⟨f, fd, F, gF⟩ := F0
  refine ⟨f, fd, ?_, gF, F.binds (ps := ["self", "calls"]) fun _ _ _ _ _ _ us hl => match us, hl with | [_, _], _ => rfl⟩
  refine F.ok sc_Line_init (fun vs H Q E h => by first | (obtain ⟨rfl, _⟩ := h; rfl) | (obtain ⟨_, rfl, _⟩ := h; rfl) | (obtain ⟨_, _, rfl, _⟩ := h; rfl) | (obtain ⟨_, _, _, rfl, _⟩ := h; rfl) | (obtain ⟨_, _, _, _, rfl, _⟩ := h; rfl) | (obtain ⟨_, _, _, _, _, rfl, _⟩ := h; rfl) | (obtain ⟨_, _, _, _, _, _, rfl, _⟩ := h; rfl) | (obtain ⟨_, _, _, _, _, _, _, rfl, _⟩ := h; rfl) | (obtain ⟨_, _, _, _, _, _, _, _, rfl, _⟩ := h; rfl) | (obtain ⟨_, _, _, _, _, _, _, _, _, rfl, _⟩ := h; rfl) | (obtain ⟨_, _, _, _, _, _, _, _, _, _, rfl, _⟩ := h; rfl)) (fun cdv AA outer s H vs Q E hr h => ⟨_, (pss_cons (ps_fld (pv 0) (pv 1) rfl)
      (pss_one (ps_fld (pv 0) pe_int rfl))), ?_⟩)
  obtain ⟨a, p, dx, rfl, hp, k⟩ := h
  refine ⟨_, rfl, _, rfl, p, _, dx, _, rfl, hp, T.cl_Line, T.na_Line_calls, l1000 rfl, ?_⟩
  refine ⟨_, rfl, p, _, dx, _, rfl, upd_same, T.cl_Line, T.na_Line_place, l1000 rfl, ?_⟩
  refine k _ upd_same fun b o e hb => ?_
  rw [upd_ne hb, upd_ne hb]
  exact e
theorem ok_Desk_init (T : Txt K w mg A) (F0 : FunI K A.cDesk "Desk.__init__" st_Desk_init) : CalI P w K mg base CX0 1 A.cDesk ["self"] (sp_Desk_init A) := by
  obtain ⟨f, fd, F, gF⟩ := F0
  refine ⟨f, fd, ?_, gF, F.binds (ps := ["self"]) fun _ _ _ _ _ _ us hl => match us, hl with | [_], _ => rfl⟩
  refine F.ok sc_Desk_init (fun vs H Q E h => by first | (obtain ⟨rfl, _⟩ := h; rfl) | (obtain ⟨_, rfl, _⟩ := h; rfl) | (obtain ⟨_, _, rfl, _⟩ := h; rfl) | (obtain ⟨_, _, _, rfl, _⟩ := h; rfl) | (obtain ⟨_, _, _, _, rfl, _⟩ := h; rfl) | (obtain ⟨_, _, _, _, _, rfl, _⟩ := h; rfl) | (obtain ⟨_, _, _, _, _, _, rfl, _⟩ := h; rfl) | (obtain ⟨_, _, _, _, _, _, _, rfl, _⟩ := h; rfl) | (obtain ⟨_, _, _, _, _, _, _, _, rfl, _⟩ := h; rfl) | (obtain ⟨_, _, _, _, _, _, _, _, _, rfl, _⟩ := h; rfl) | (obtain ⟨_, _, _, _, _, _, _, _, _, _, rfl, _⟩ := h; rfl)) (fun cdv AA outer s H vs Q E hr h => ⟨_, (pss_one (ps_fld (pv 0) pe_non rfl)), ?_⟩)
  obtain ⟨p, dx, rfl, hp, k⟩ := h
  refine ⟨_, rfl, p, _, dx, _, rfl, hp, T.cl_Desk, T.na_Desk_competition, l1000 rfl, ?_⟩
  refine k _ upd_same fun b o e hb => ?_
  rw [upd_ne hb]
  exact e
theorem ok_Program_init (T : Txt K w mg A) (F0 : FunI K A.cProgram "Program.__init__" st_Program_init) : CalI P w K mg base CX0 1 A.cProgram ["self", "skater", "free"] (sp_Program_init A) := by
  obtain ⟨f, fd, F, gF⟩ := F0
  refine ⟨f, fd, ?_, gF, F.binds (ps := ["self", "skater", "free"]) fun _ _ _ _ _ _ us hl => match us, hl with | [_, _, _], _ => rfl⟩
  refine F.ok sc_Program_init (fun vs H Q E h => by first | (obtain ⟨rfl, _⟩ := h; rfl) | (obtain ⟨_, rfl, _⟩ := h; rfl) | (obtain ⟨_, _, rfl, _⟩ := h; rfl) | (obtain ⟨_, _, _, rfl, _⟩ := h; rfl) | (obtain ⟨_, _, _, _, rfl, _⟩ := h; rfl) | (obtain ⟨_, _, _, _, _, rfl, _⟩ := h; rfl) | (obtain ⟨_, _, _, _, _, _, rfl, _⟩ := h; rfl) | (obtain ⟨_, _, _, _, _, _, _, rfl, _⟩ := h; rfl) | (obtain ⟨_, _, _, _, _, _, _, _, rfl, _⟩ := h; rfl) | (obtain ⟨_, _, _, _, _, _, _, _, _, rfl, _⟩ := h; rfl) | (obtain ⟨_, _, _, _, _, _, _, _, _, _, rfl, _⟩ := h; rfl)) (fun cdv AA outer s H vs Q E hr h => ⟨_, (pss_cons (ps_fld (pv 0) (pv 1) rfl)
      (pss_cons (ps_fld (pv 0) (pv 2) rfl)
      (pss_cons (ps_fld (pv 0) (pe_lst pa_nil) rfl)
      (pss_cons (ps_fld (pv 0) (pe_lst pa_nil) rfl)
      (pss_cons (ps_fld (pv 0) pe_int rfl)
      (pss_cons (ps_fld (pv 0) pe_int rfl)
      (pss_one (ps_fld (pv 0) pe_int rfl)))))))), ?_⟩)
  obtain ⟨a, b, p, dx, rfl, hp, k⟩ := h
  refine ⟨_, rfl, _, rfl, p, _, dx, _, rfl, hp, T.cl_Program, T.na_Program_skater, l1000 rfl, ?_⟩
  refine ⟨_, rfl, _, rfl, p, _, dx, _, rfl, upd_same, T.cl_Program, T.na_Program_free, l1000 rfl, ?_⟩
  refine ⟨Nat.zero_le _, fun l hl => ?_⟩
  have nl : l ≠ p := fun e => by rw [e, upd_same] at hl; cases hl
  have hl0 : H l = none := by rw [upd_ne nl, upd_ne nl] at hl; exact hl
  refine ⟨_, rfl, p, _, dx, _, rfl, by rw [upd_ne (Ne.symm nl)]; exact upd_same, T.cl_Program, T.na_Program_tellings, l1000 rfl, ?_⟩
  refine ⟨Nat.zero_le _, fun m hm => ?_⟩
  have nm : m ≠ p := fun e => by rw [e, upd_same] at hm; cases hm
  have nlm : l ≠ m := fun e => by rw [← e, upd_ne nl, upd_same] at hm; cases hm
  have hm0 : H m = none := by rw [upd_ne nm, upd_ne (Ne.symm nlm), upd_ne nm, upd_ne nm] at hm; exact hm
  refine ⟨_, rfl, p, _, dx, _, rfl, by rw [upd_ne (Ne.symm nm)]; exact upd_same, T.cl_Program, T.na_Program_marks, l1000 rfl, ?_⟩
  refine ⟨_, rfl, p, _, dx, _, rfl, upd_same, T.cl_Program, T.na_Program_falls, l1000 rfl, ?_⟩
  refine ⟨_, rfl, p, _, dx, _, rfl, upd_same, T.cl_Program, T.na_Program_off, l1000 rfl, ?_⟩
  refine ⟨_, rfl, p, _, dx, _, rfl, upd_same, T.cl_Program, T.na_Program_seconds, l1000 rfl, ?_⟩
  refine k _ ⟨l, m, hl0, hm0, nlm, ?_, ?_, upd_same⟩ fun b o e hb => ?_
  · rw [upd_ne nl, upd_ne nl, upd_ne nl, upd_ne nl, upd_ne nlm, upd_ne nl]
    exact upd_same
  · rw [upd_ne nm, upd_ne nm, upd_ne nm, upd_ne nm]
    exact upd_same
  · have b1 : b ≠ l := ne_of_none e hl0
    have b2 : b ≠ m := ne_of_none e hm0
    rw [upd_ne hb, upd_ne hb, upd_ne hb, upd_ne hb, upd_ne b2, upd_ne hb, upd_ne b1, upd_ne hb, upd_ne hb]
    exact e
theorem ok_Competition_init (T : Txt K w mg A) (F0 : FunI K A.cCompetition "Competition.__init__" st_Competition_init) : CalI P w K mg base CX0 1 A.cCompetition ["self", "judges", "short", "free"] (sp_Competition_init A) := by
  obtain ⟨f, fd, F, gF⟩ := F0
  refine ⟨f, fd, ?_, gF, F.binds (ps := ["self", "judges", "short", "free"]) fun _ _ _ _ _ _ us hl => match us, hl with | [_, _, _, _], _ => rfl⟩
  refine F.ok sc_Competition_init (fun vs H Q E h => by first | (obtain ⟨rfl, _⟩ := h; rfl) | (obtain ⟨_, rfl, _⟩ := h; rfl) | (obtain ⟨_, _, rfl, _⟩ := h; rfl) | (obtain ⟨_, _, _, rfl, _⟩ := h; rfl) | (obtain ⟨_, _, _, _, rfl, _⟩ := h; rfl) | (obtain ⟨_, _, _, _, _, rfl, _⟩ := h; rfl) | (obtain ⟨_, _, _, _, _, _, rfl, _⟩ := h; rfl) | (obtain ⟨_, _, _, _, _, _, _, rfl, _⟩ := h; rfl) | (obtain ⟨_, _, _, _, _, _, _, _, rfl, _⟩ := h; rfl) | (obtain ⟨_, _, _, _, _, _, _, _, _, rfl, _⟩ := h; rfl) | (obtain ⟨_, _, _, _, _, _, _, _, _, _, rfl, _⟩ := h; rfl)) (fun cdv AA outer s H vs Q E hr h => ⟨_, (pss_cons (ps_fld (pv 0) (pv 1) rfl)
      (pss_cons (ps_fld (pv 0) (pe_tup (pa_cons (pv 2) (pa_cons (pv 3) pa_nil))) rfl)
      (pss_cons (ps_fld (pv 0) (pe_lst pa_nil) rfl)
      (pss_one (ps_fld (pv 0) pe_non rfl))))), ?_⟩)
  obtain ⟨a, b, c, p, dx, rfl, hp, k⟩ := h
  refine ⟨_, rfl, _, rfl, p, _, dx, _, rfl, hp, T.cl_Competition, T.na_Competition_judges, l1000 rfl, ?_⟩
  refine ⟨_, rfl, _, rfl, by show 2 ≤ sizeLine; decide, fun t ht => ?_⟩
  have nt : t ≠ p := fun e => by rw [e, upd_same] at ht; cases ht
  have ht0 : H t = none := by rw [upd_ne nt] at ht; exact ht
  refine ⟨_, rfl, p, _, dx, _, rfl, by rw [upd_ne (Ne.symm nt)]; exact upd_same, T.cl_Competition, T.na_Competition_factors, l1000 rfl, ?_⟩
  refine ⟨Nat.zero_le _, fun l hl => ?_⟩
  have nl : l ≠ p := fun e => by rw [e, upd_same] at hl; cases hl
  have nlt : l ≠ t := fun e => by rw [e, upd_ne nt, upd_same] at hl; cases hl
  have hl0 : H l = none := by rw [upd_ne nl, upd_ne nlt, upd_ne nl] at hl; exact hl
  refine ⟨_, rfl, p, _, dx, _, rfl, by rw [upd_ne (Ne.symm nl)]; exact upd_same, T.cl_Competition, T.na_Competition_skated, l1000 rfl, ?_⟩
  refine ⟨_, rfl, p, _, dx, _, rfl, upd_same, T.cl_Competition, T.na_Competition_program, l1000 rfl, ?_⟩
  refine k _ ⟨t, l, ht0, hl0, nlt, ?_, ?_, upd_same⟩ fun b o e hb => ?_
  · rw [upd_ne nt, upd_ne nt, upd_ne (Ne.symm nlt), upd_ne nt]
    exact upd_same
  · rw [upd_ne nl, upd_ne nl]
    exact upd_same
  · have b1 : b ≠ l := ne_of_none e hl0
    have b2 : b ≠ t := ne_of_none e ht0
    rw [upd_ne hb, upd_ne hb, upd_ne b1, upd_ne hb, upd_ne b2, upd_ne hb]
    exact e
theorem ok_GoneBy_init (T : Txt K w mg A) (F0 : FunI K A.cGoneBy "GoneBy.__init__" st_GoneBy_init) : CalI P w K mg base CX0 1 A.cGoneBy ["self", "free"] (sp_GoneBy_init A) := by
  obtain ⟨f, fd, F, gF⟩ := F0
  refine ⟨f, fd, ?_, gF, F.binds (ps := ["self", "free"]) fun _ _ _ _ _ _ us hl => match us, hl with | [_, _], _ => rfl⟩
  refine F.ok sc_GoneBy_init (fun vs H Q E h => by first | (obtain ⟨rfl, _⟩ := h; rfl) | (obtain ⟨_, rfl, _⟩ := h; rfl) | (obtain ⟨_, _, rfl, _⟩ := h; rfl) | (obtain ⟨_, _, _, rfl, _⟩ := h; rfl) | (obtain ⟨_, _, _, _, rfl, _⟩ := h; rfl) | (obtain ⟨_, _, _, _, _, rfl, _⟩ := h; rfl) | (obtain ⟨_, _, _, _, _, _, rfl, _⟩ := h; rfl) | (obtain ⟨_, _, _, _, _, _, _, rfl, _⟩ := h; rfl) | (obtain ⟨_, _, _, _, _, _, _, _, rfl, _⟩ := h; rfl) | (obtain ⟨_, _, _, _, _, _, _, _, _, rfl, _⟩ := h; rfl) | (obtain ⟨_, _, _, _, _, _, _, _, _, _, rfl, _⟩ := h; rfl)) (fun cdv AA outer s H vs Q E hr h => ⟨_, (pss_cons (ps_fld (pv 0) (pv 1) rfl)
      (pss_one (ps_fld (pv 0) pe_dnewT rfl))), ?_⟩)
  obtain ⟨a, p, dx, rfl, hp, k⟩ := h
  refine ⟨_, rfl, _, rfl, p, _, dx, _, rfl, hp, T.cl_GoneBy, T.na_GoneBy_free, l1000 rfl, ?_⟩
  intro d hd
  have nd : d ≠ p := fun e => by rw [e, upd_same] at hd; cases hd
  have hd0 : H d = none := by rw [upd_ne nd] at hd; exact hd
  refine ⟨_, rfl, p, _, dx, _, rfl, by rw [upd_ne (Ne.symm nd)]; exact upd_same, T.cl_GoneBy, T.na_GoneBy_in_rows, l1000 rfl, ?_⟩
  refine k _ ⟨d, hd0, ?_, upd_same⟩ fun b o e hb => ?_
  · rw [upd_ne nd]
    exact upd_same
  · rw [upd_ne hb, upd_ne (ne_of_none e hd0), upd_ne hb]
    exact e
end
end Sk
set_option maxHeartbeats 2000000
namespace Sk
open PySem PySem.Spec PyProof.Rows L2
open Evl (Ex)
abbrev st_Jumps_described : Stmt := inClass (top 39) 1
theorem sc_Jumps_described : FnScope ["self", "answer", "jump"] ["self"] (defScope st_Jumps_described) := ⟨rfl, rfl, rfl, by decide +kernel, rfl, by decide +kernel, by decide +kernel⟩
abbrev st_Spin_described : Stmt := inClass (top 40) 1
theorem sc_Spin_described : FnScope ["self"] ["self"] (defScope st_Spin_described) := ⟨rfl, rfl, rfl, by decide +kernel, rfl, by decide +kernel, by decide +kernel⟩
abbrev st_Steps_described : Stmt := inClass (top 41) 1
theorem sc_Steps_described : FnScope ["self"] ["self"] (defScope st_Steps_described) := ⟨rfl, rfl, rfl, by decide +kernel, rfl, by decide +kernel, by decide +kernel⟩
abbrev st_OtherSteps_described : Stmt := inClass (top 42) 1
theorem sc_OtherSteps_described : FnScope ["self"] ["self"] (defScope st_OtherSteps_described) := ⟨rfl, rfl, rfl, by decide +kernel, rfl, by decide +kernel, by decide +kernel⟩
abbrev st_check_text : Stmt := top 57
theorem sc_check_text : FnScope ["numbers", "number"] ["numbers"] (defScope st_check_text) := ⟨rfl, rfl, rfl, by decide +kernel, rfl, by decide +kernel, by decide +kernel⟩
abbrev st_check_row : Stmt := top 111
theorem sc_check_row : FnScope ["row", "judges", "least", "most", "number"] ["row", "judges", "least", "most"] (defScope st_check_row) := ⟨rfl, rfl, rfl, by decide +kernel, rfl, by decide +kernel, by decide +kernel⟩
def shown (e : Kg56.Element) : List Int := ((Kg56.showElement e).1 : Int) :: Kg56.whole (Kg56.showElement e).2
/-- a new list of these -/
def New (H : Hp) (Q : VK) (ns : List Int) : Prop := ∀ l H', H l = none → Ex H H' → H' l = some (.lst (ns.map V.int)) → Q (.ref l) H'
def sp_Jumps_described (A : Ads) : Sp := fun vs H Q _ => ∃ p l, vs = [.ref p] ∧ ElemAt A H (.ref p) (.jumps l) ∧ l.length ≤ 3 ∧ New H Q (shown (.jumps l))
def sp_Spin_described (A : Ads) : Sp := fun vs H Q _ => ∃ p n v, vs = [.ref p] ∧ ElemAt A H (.ref p) (.spin n v) ∧ New H Q (shown (.spin n v))
def sp_Steps_described (A : Ads) : Sp := fun vs H Q _ => ∃ p v, vs = [.ref p] ∧ ElemAt A H (.ref p) (.steps v) ∧ New H Q (shown (.steps v))
def sp_OtherSteps_described (A : Ads) : Sp := fun vs H Q _ => ∃ p, vs = [.ref p] ∧ ElemAt A H (.ref p) .choreo ∧ New H Q (shown .choreo)
def byteOk (l : List Int) : Bool := l.all fun z => Kg56.within z 0 255
def sp_check_text (K : PySem.W.Frag) (A : Ads) : Sp := fun vs H Q E => ∃ a ns, vs = [.ref a] ∧ SqL K H a (ns.map V.int) ∧ (Kg56.textOk ns = true → Q .non H) ∧ (Kg56.textOk ns = false → E (.ref A.cWrongValue) none H)
def rowOk (ns : List Int) (j a b : Int) : Bool := decide ((ns.length : Int) = j) && ns.all fun z => Kg56.within z a b
def sp_check_row (K : PySem.W.Frag) (A : Ads) : Sp := fun vs H Q E => ∃ p ns j a b, vs = [.ref p, .int j, .int a, .int b] ∧ SqL K H p (ns.map V.int) ∧ (rowOk ns j a b = true → Q .non H) ∧ (rowOk ns j a b = false → E (.ref A.cWrongValue) none H)
theorem Ex.one {H : Hp} {p : Addr} {o : HO} (h : H p = none) : Ex H (upd H p o) := Evl.Ex.new h
theorem up_at {H : Hp} {p q : Addr} {o u : HO} (h : H p = some u) (e : H q = none) : upd H q o p = some u := by
  rw [upd_ne (ne_of_none h e)]
  exact h
section
variable {P : Program} {w : World} {K : PySem.W.Frag} {mg : Str → Option Value} {base : Heap} {A : Ads}
theorem ok_OtherSteps_described (T : Txt K w mg A) (F0 : FunM K A.cOtherSteps "described" "OtherSteps.described" st_OtherSteps_described) : CalM P w K mg base CX0 1 A.cOtherSteps "described" ["self"] (sp_OtherSteps_described A) := by
  obtain ⟨f, fd, F, gF⟩ := F0
  refine ⟨f, fd, ?_, gF, F.binds (ps := ["self"]) fun _ _ _ _ _ _ us hl => match us, hl with | [_], _ => rfl⟩
  refine F.ok sc_OtherSteps_described (fun vs H Q E h => by first | (obtain ⟨rfl, _⟩ := h; rfl) | (obtain ⟨_, rfl, _⟩ := h; rfl) | (obtain ⟨_, _, rfl, _⟩ := h; rfl) | (obtain ⟨_, _, _, rfl, _⟩ := h; rfl) | (obtain ⟨_, _, _, _, rfl, _⟩ := h; rfl) | (obtain ⟨_, _, _, _, _, rfl, _⟩ := h; rfl) | (obtain ⟨_, _, _, _, _, _, rfl, _⟩ := h; rfl) | (obtain ⟨_, _, _, _, _, _, _, rfl, _⟩ := h; rfl) | (obtain ⟨_, _, _, _, _, _, _, _, rfl, _⟩ := h; rfl) | (obtain ⟨_, _, _, _, _, _, _, _, _, rfl, _⟩ := h; rfl) | (obtain ⟨_, _, _, _, _, _, _, _, _, _, rfl, _⟩ := h; rfl)) (fun cdv AA outer s H vs Q E hr h => ⟨_, (pss_one (ps_ret (pe_lst (pa_cons (pe_fld (pv 0) rfl) (pa_cons (pe_fld (pv 0) rfl) pa_nil))))), ?_⟩)
  obtain ⟨p, rfl, ⟨_, dx, e1, h1⟩, k⟩ := h
  cases e1
  refine ⟨_, rfl, p, _, dx, _, _, rfl, h1, T.cl_OtherSteps, T.na_OtherSteps_group, rfl, _, rfl, p, _, dx, _, _, rfl, h1, T.cl_OtherSteps, T.na_OtherSteps_worth, rfl, by show 2 ≤ sizeLine; decide, fun l hl => ?_⟩
  exact k l _ hl (Ex.one hl) upd_same
theorem ok_Steps_described (T : Txt K w mg A) (F0 : FunM K A.cSteps "described" "Steps.described" st_Steps_described) : CalM P w K mg base CX0 1 A.cSteps "described" ["self"] (sp_Steps_described A) := by
  obtain ⟨f, fd, F, gF⟩ := F0
  refine ⟨f, fd, ?_, gF, F.binds (ps := ["self"]) fun _ _ _ _ _ _ us hl => match us, hl with | [_], _ => rfl⟩
  refine F.ok sc_Steps_described (fun vs H Q E h => by first | (obtain ⟨rfl, _⟩ := h; rfl) | (obtain ⟨_, rfl, _⟩ := h; rfl) | (obtain ⟨_, _, rfl, _⟩ := h; rfl) | (obtain ⟨_, _, _, rfl, _⟩ := h; rfl) | (obtain ⟨_, _, _, _, rfl, _⟩ := h; rfl) | (obtain ⟨_, _, _, _, _, rfl, _⟩ := h; rfl) | (obtain ⟨_, _, _, _, _, _, rfl, _⟩ := h; rfl) | (obtain ⟨_, _, _, _, _, _, _, rfl, _⟩ := h; rfl) | (obtain ⟨_, _, _, _, _, _, _, _, rfl, _⟩ := h; rfl) | (obtain ⟨_, _, _, _, _, _, _, _, _, rfl, _⟩ := h; rfl) | (obtain ⟨_, _, _, _, _, _, _, _, _, _, rfl, _⟩ := h; rfl)) (fun cdv AA outer s H vs Q E hr h => ⟨_, (pss_one (ps_ret (pe_lst (pa_cons (pe_fld (pv 0) rfl) (pa_cons (pe_fld (pv 0) rfl) (pa_cons (pe_fld (pv 0) rfl) pa_nil)))))), ?_⟩)
  obtain ⟨p, v, rfl, ⟨_, dx, e1, h1⟩, k⟩ := h
  cases e1
  refine ⟨_, rfl, p, _, dx, _, _, rfl, h1, T.cl_Steps, T.na_Steps_group, rfl, _, rfl, p, _, dx, _, _, rfl, h1, T.cl_Steps, T.na_Steps_level, rfl, _, rfl, p, _, dx, _, _, rfl, h1, T.cl_Steps, T.na_Steps_worth, rfl, by show 3 ≤ sizeLine; decide, fun l hl => ?_⟩
  exact k l _ hl (Ex.one hl) upd_same
theorem ok_Spin_described (T : Txt K w mg A) (F0 : FunM K A.cSpin "described" "Spin.described" st_Spin_described) : CalM P w K mg base CX0 1 A.cSpin "described" ["self"] (sp_Spin_described A) := by
  obtain ⟨f, fd, F, gF⟩ := F0
  refine ⟨f, fd, ?_, gF, F.binds (ps := ["self"]) fun _ _ _ _ _ _ us hl => match us, hl with | [_], _ => rfl⟩
  refine F.ok sc_Spin_described (fun vs H Q E h => by first | (obtain ⟨rfl, _⟩ := h; rfl) | (obtain ⟨_, rfl, _⟩ := h; rfl) | (obtain ⟨_, _, rfl, _⟩ := h; rfl) | (obtain ⟨_, _, _, rfl, _⟩ := h; rfl) | (obtain ⟨_, _, _, _, rfl, _⟩ := h; rfl) | (obtain ⟨_, _, _, _, _, rfl, _⟩ := h; rfl) | (obtain ⟨_, _, _, _, _, _, rfl, _⟩ := h; rfl) | (obtain ⟨_, _, _, _, _, _, _, rfl, _⟩ := h; rfl) | (obtain ⟨_, _, _, _, _, _, _, _, rfl, _⟩ := h; rfl) | (obtain ⟨_, _, _, _, _, _, _, _, _, rfl, _⟩ := h; rfl) | (obtain ⟨_, _, _, _, _, _, _, _, _, _, rfl, _⟩ := h; rfl)) (fun cdv AA outer s H vs Q E hr h => ⟨_, (pss_one (ps_ret (pe_lst (pa_cons (pe_fld (pv 0) rfl) (pa_cons (pe_fld (pv 0) rfl) (pa_cons (pe_fld (pv 0) rfl) (pa_cons (pe_fld (pv 0) rfl) pa_nil))))))), ?_⟩)
  obtain ⟨p, n, v, rfl, ⟨_, dx, e1, h1⟩, k⟩ := h
  cases e1
  refine ⟨_, rfl, p, _, dx, _, _, rfl, h1, T.cl_Spin, T.na_Spin_group, rfl, _, rfl, p, _, dx, _, _, rfl, h1, T.cl_Spin, T.na_Spin_name, rfl, _, rfl, p, _, dx, _, _, rfl, h1, T.cl_Spin, T.na_Spin_level, rfl, _, rfl, p, _, dx, _, _, rfl, h1, T.cl_Spin, T.na_Spin_worth, rfl, by show 4 ≤ sizeLine; decide, fun l hl => ?_⟩
  exact k l _ hl (Ex.one hl) upd_same
theorem ok_Jumps_described (T : Txt K w mg A) (F0 : FunM K A.cJumps "described" "Jumps.described" st_Jumps_described) : CalM P w K mg base CX0 1 A.cJumps "described" ["self"] (sp_Jumps_described A) := by
  obtain ⟨f, fd, F, gF⟩ := F0
  refine ⟨f, fd, ?_, gF, F.binds (ps := ["self"]) fun _ _ _ _ _ _ us hl => match us, hl with | [_], _ => rfl⟩
  refine F.ok sc_Jumps_described (fun vs H Q E h => by first | (obtain ⟨rfl, _⟩ := h; rfl) | (obtain ⟨_, rfl, _⟩ := h; rfl) | (obtain ⟨_, _, rfl, _⟩ := h; rfl) | (obtain ⟨_, _, _, rfl, _⟩ := h; rfl) | (obtain ⟨_, _, _, _, rfl, _⟩ := h; rfl) | (obtain ⟨_, _, _, _, _, rfl, _⟩ := h; rfl) | (obtain ⟨_, _, _, _, _, _, rfl, _⟩ := h; rfl) | (obtain ⟨_, _, _, _, _, _, _, rfl, _⟩ := h; rfl) | (obtain ⟨_, _, _, _, _, _, _, _, rfl, _⟩ := h; rfl) | (obtain ⟨_, _, _, _, _, _, _, _, _, rfl, _⟩ := h; rfl) | (obtain ⟨_, _, _, _, _, _, _, _, _, _, rfl, _⟩ := h; rfl)) (fun cdv AA outer s H vs Q E hr h => ⟨_, (pss_cons (ps_set (i := 1) sc_Jumps_described.nd rfl (Or.inl rfl) (pe_lst (pa_cons (pe_fld (pv 0) rfl) pa_nil)))
      (pss_cons (ps_for PassesOwn.never rfl (pi_list (pe_fld (pv 0) rfl)) (pg_name (i := 2) sc_Jumps_described.nd rfl (Or.inl rfl)) (pss_one (ps_expr (pe_bm PySem.F.plainAttrs_list PySem.F.slot_list_extend PySem.F.type_list_extend mt_extend (pv 1) (pa_cons (pe_lst (pa_cons (pe_fld (pv 2) rfl) (pa_cons (pe_fld (pv 2) rfl) (pa_cons (pe_fld (pv 2) rfl) (pa_cons (pe_fld (pv 2) rfl) (pa_cons (pe_fld (pv 2) rfl) pa_nil)))))) pa_nil)))))
      (pss_one (ps_ret (pv 1))))), ?_⟩)
  obtain ⟨p, js, rfl, ⟨_, dx, q, vs, e1, h1, h2, h3⟩, hl3, k⟩ := h
  cases e1
  have hlen := h3.len
  refine ⟨_, rfl, p, _, dx, _, _, rfl, h1, T.cl_Jumps, T.na_Jumps_group, rfl, by show 1 ≤ sizeLine; decide, fun r hr0 => ?_⟩
  have ex0 := Ex.one (o := .lst [.int 0]) hr0
  refine ⟨_, rfl, p, _, dx, _, _, rfl, ex0 _ _ h1, T.cl_Jumps, T.na_Jumps_jumps, rfl, q, rfl, ⟨_, SqL.of (ex0 _ _ h2)⟩, for_list (K := K) (a := q) (xs := vs)
    (fun i σ H' => ∃ v, σ = [some (.ref p), some (.ref r), v] ∧ Ex H H' ∧ H' r = some (.lst (((0 : Int) :: (js.take i).flatMap fun j => [(j.kind : Int), (j.turns : Int), (j.edge : Int), (j.less : Int), (j.worth : Int)]).map V.int)))
    ⟨_, rfl, ex0, upd_same⟩ (fun i σ H' _ ⟨_, _, e5, _⟩ => SqL.of (e5 _ _ h2)) ?_ ?_⟩
  · rintro i y σ H' hi ⟨v, rfl, e5, hr'⟩
    obtain ⟨j, hj, p2, dx2, rfl, h4⟩ := h3.get hi
    have h5 := e5 _ _ h4
    refine ⟨_, rfl, .inl ⟨rfl, _, SqL.of hr'⟩, ?_⟩
    refine ⟨_, rfl, p2, _, dx2, _, _, rfl, h5, T.cl_Jump, T.na_Jump_kind, rfl, _, rfl, p2, _, dx2, _, _, rfl, h5, T.cl_Jump, T.na_Jump_turns, rfl, _, rfl, p2, _, dx2, _, _, rfl, h5, T.cl_Jump, T.na_Jump_edge, rfl,
      _, rfl, p2, _, dx2, _, _, rfl, h5, T.cl_Jump, T.na_Jump_missing, rfl, _, rfl, p2, _, dx2, _, _, rfl, h5, T.cl_Jump, T.na_Jump_worth, rfl, by show 5 ≤ sizeLine; decide, fun z hz => ?_⟩
    refine ⟨r, z, _, _, rfl, rfl, up_at hr' hz, upd_same, ?_, ?_⟩
    · have hb : (js.take i).length ≤ 3 := by rw [List.length_take]; omega
      have hf : ((js.take i).flatMap fun j => [(j.kind : Int), (j.turns : Int), (j.edge : Int), (j.less : Int), (j.worth : Int)]).length ≤ 5 * 3 := by
        have : ∀ l : List Kg56.Jump, (l.flatMap fun j => [(j.kind : Int), (j.turns : Int), (j.edge : Int), (j.less : Int), (j.worth : Int)]).length = 5 * l.length := by
          intro l
          induction l with
          | nil => rfl
          | cons a l ih => rw [List.flatMap_cons, List.length_append, ih]; simp only [List.length_cons, List.length_nil]; omega
        rw [this]
        omega
      refine Nat.le_trans (m := 100) ?_ (by decide)
      simp only [List.length_map, List.length_cons, List.length_nil]
      omega
    · refine ⟨_, rfl, fun b o e => ?_, ?_⟩
      · rw [upd_ne (ne_of_none e hr0)]
        exact up_at (e5 b o e) hz
      · rw [take_more hj, List.flatMap_append]
        rw [upd_same]
        simp only [List.map_cons, List.map_append, List.flatMap_cons, List.flatMap_nil, List.cons_append, List.nil_append, List.map_nil]
  · rintro σ H' ⟨v, rfl, e5, hr'⟩
    refine ⟨_, rfl, k r H' hr0 e5 ?_⟩
    rw [hr', hlen, List.take_length]
    unfold shown Kg56.showElement Kg56.whole
    simp only [List.map_flatMap]
    rfl
theorem ok_check_text (T : Txt K w mg A) (F0 : FunF K mg "check_text" st_check_text) : CalF P w K mg base (L2.CX P w) 1 "check_text" ["numbers"] (sp_check_text K A) := by
  obtain ⟨f, fd, F, gF⟩ := F0
  refine ⟨f, fd, ?_, gF, F.kp, F.binds (ps := ["numbers"]) fun _ _ _ _ _ _ us hl => match us, hl with | [_], _ => rfl⟩
  refine F.okX sc_check_text (fun vs H Q E h => by first | (obtain ⟨rfl, _⟩ := h; rfl) | (obtain ⟨_, rfl, _⟩ := h; rfl) | (obtain ⟨_, _, rfl, _⟩ := h; rfl) | (obtain ⟨_, _, _, rfl, _⟩ := h; rfl) | (obtain ⟨_, _, _, _, rfl, _⟩ := h; rfl) | (obtain ⟨_, _, _, _, _, rfl, _⟩ := h; rfl) | (obtain ⟨_, _, _, _, _, _, rfl, _⟩ := h; rfl) | (obtain ⟨_, _, _, _, _, _, _, rfl, _⟩ := h; rfl) | (obtain ⟨_, _, _, _, _, _, _, _, rfl, _⟩ := h; rfl) | (obtain ⟨_, _, _, _, _, _, _, _, _, rfl, _⟩ := h; rfl) | (obtain ⟨_, _, _, _, _, _, _, _, _, _, rfl, _⟩ := h; rfl)) (fun cdv AA outer s H vs Q E hr h => ⟨_, (pss_cons (ps_if (pt_cmpR op_gt (pe_callB call_len_seq (by rfl) T.b_len (by decide +kernel) (pa_cons (pv 0) pa_nil)) (pe_globI T.k_MOST_BYTES) (nomark _)) (pss_one (ps_raise rfl (takes_of rfl rfl rfl rfl) (pmk_own0 PySem.F.excBase_Exception T.x_WrongValue T.g_WrongValue T.k_WrongValue (raises_own T.s_WrongValue T.t_WrongValue) (by exact rfl)))) pss_nil)
      (pss_one (ps_for (passes_of rfl) rfl (pi_list (pv 0)) (pg_name (i := 1) sc_check_text.nd rfl (Or.inl rfl)) (pss_one (ps_if (pt_not (pt_chain op_le op_le pe_int (pv 1) pe_int)) (pss_one (ps_raise rfl (takes_of rfl rfl rfl rfl) (pmk_own0 PySem.F.excBase_Exception T.x_WrongValue T.g_WrongValue T.k_WrongValue (raises_own T.s_WrongValue T.t_WrongValue) (by exact rfl)))) pss_nil))))), ?_⟩)
  obtain ⟨a, ns, rfl, hS, k, e⟩ := h
  refine ⟨_, rfl, a, _, rfl, .inl hS, ?_⟩
  rw [List.length_map]
  refine ⟨_, _, rfl, rfl, _, rfl, ?_⟩
  unfold Kg56.textOk at k e
  by_cases c : (40 : Int) < (ns.length : Int)
  · rw [decide_eq_true c]
    exact e (by rw [decide_eq_false (by omega), Bool.and_false])
  · rw [decide_eq_false c]
    rw [decide_eq_true (by omega), Bool.and_true] at k e
    refine ⟨_, rfl, a, rfl, ⟨_, hS⟩, for_list (K := K) (a := a) (xs := ns.map V.int) (fun i σ H' => H' = H ∧ ∃ v, σ = [some (.ref a), v] ∧ (ns.take i).all (fun z => Kg56.within z 0 255) = true) ⟨rfl, _, rfl, rfl⟩ (fun i σ H' _ ⟨e1, _⟩ => by rw [e1]; exact hS) ?_ ?_⟩
    · rintro i y σ H' hi ⟨rfl, v, rfl, hall⟩
      obtain ⟨z, hz, rfl⟩ := map_get hi
      refine ⟨_, rfl, _, _, rfl, rfl, _, rfl, ?_⟩
      have tk := take_more hz
      have bad : ¬ (0 ≤ z ∧ z ≤ 255) → ns.all (fun z => Kg56.within z 0 255) = false := fun hb => by
        cases q : ns.all (fun z => Kg56.within z 0 255) with
        | false => rfl
        | true =>
          have := List.all_eq_true.mp q z (List.mem_of_getElem? hz)
          unfold Kg56.within at this
          simp only [Bool.and_eq_true, decide_eq_true_eq] at this
          exact absurd this hb
      by_cases c1 : 0 ≤ z
      · rw [decide_eq_true c1]
        refine ⟨_, _, rfl, rfl, _, rfl, ?_⟩
        by_cases c2 : z ≤ 255
        · rw [decide_eq_true c2]
          refine ⟨rfl, _, rfl, ?_⟩
          rw [tk, List.all_append, hall]
          show (true && (Kg56.within z 0 255 && true)) = true
          unfold Kg56.within
          rw [decide_eq_true c1, decide_eq_true c2] <;> rfl
        · rw [decide_eq_false c2]
          exact e (bad fun q => c2 q.2)
      · rw [decide_eq_false c1]
        exact ⟨_, rfl, e (bad fun q => c1 q.1)⟩
    · rintro σ H' ⟨rfl, v, rfl, hall⟩
      rw [List.length_map, List.take_length] at hall
      exact k hall
theorem ok_check_row (T : Txt K w mg A) (F0 : FunF K mg "check_row" st_check_row)
    (c_check_number : CalF P w K mg base (L2.CX P w) 1 "check_number" ["number", "least", "most"] (sp_check_number A)) : CalF P w K mg base (L2.CX P w) 2 "check_row" ["row", "judges", "least", "most"] (sp_check_row K A) := by
  obtain ⟨f_check_number, fd_check_number, G_check_number, mg_check_number, kp_check_number, b_check_number⟩ := c_check_number
  obtain ⟨f, fd, F, gF⟩ := F0
  refine ⟨f, fd, ?_, gF, F.kp, F.binds (ps := ["row", "judges", "least", "most"]) fun _ _ _ _ _ _ us hl => match us, hl with | [_, _, _, _], _ => rfl⟩
  refine F.okX sc_check_row (fun vs H Q E h => by first | (obtain ⟨rfl, _⟩ := h; rfl) | (obtain ⟨_, rfl, _⟩ := h; rfl) | (obtain ⟨_, _, rfl, _⟩ := h; rfl) | (obtain ⟨_, _, _, rfl, _⟩ := h; rfl) | (obtain ⟨_, _, _, _, rfl, _⟩ := h; rfl) | (obtain ⟨_, _, _, _, _, rfl, _⟩ := h; rfl) | (obtain ⟨_, _, _, _, _, _, rfl, _⟩ := h; rfl) | (obtain ⟨_, _, _, _, _, _, _, rfl, _⟩ := h; rfl) | (obtain ⟨_, _, _, _, _, _, _, _, rfl, _⟩ := h; rfl) | (obtain ⟨_, _, _, _, _, _, _, _, _, rfl, _⟩ := h; rfl) | (obtain ⟨_, _, _, _, _, _, _, _, _, _, rfl, _⟩ := h; rfl)) (fun cdv AA outer s H vs Q E hr h => ⟨_, (pss_cons (ps_if (pt_cmpR op_ne (pe_callB call_len_seq (by rfl) T.b_len (by decide +kernel) (pa_cons (pv 0) pa_nil)) (pv 1) (nomark _)) (pss_one (ps_raise rfl (takes_of rfl rfl rfl rfl) (pmk_own0 PySem.F.excBase_Exception T.x_WrongValue T.g_WrongValue T.k_WrongValue (raises_own T.s_WrongValue T.t_WrongValue) (by exact rfl)))) pss_nil)
      (pss_one (ps_for (passes_of rfl) rfl (pi_list (pv 0)) (pg_name (i := 4) sc_check_row.nd rfl (Or.inl rfl)) (pss_one (ps_expr (pe_call G_check_number (hr.mono (by decide)) rfl mg_check_number kp_check_number b_check_number .nil (passes_call (takes_of rfl rfl rfl rfl) (fun _ _ _ _ h => h)) (pa_cons (pv 4) (pa_cons (pv 2) (pa_cons (pv 3) pa_nil))))))))), ?_⟩)
  obtain ⟨a, ns, j, lo, hi, rfl, hS, k, e⟩ := h
  refine ⟨_, rfl, a, _, rfl, .inl hS, ?_⟩
  rw [List.length_map]
  refine ⟨_, rfl, rfl, _, rfl, ?_⟩
  unfold rowOk at k e
  by_cases c : (ns.length : Int) = j
  · rw [iT c]
    rw [decide_eq_true c, Bool.true_and] at k e
    refine ⟨_, rfl, a, rfl, ⟨_, hS⟩, for_list (K := K) (a := a) (xs := ns.map V.int) (fun i σ H' => H' = H ∧ ∃ v, σ = [some (.ref a), some (.int j), some (.int lo), some (.int hi), v] ∧ (ns.take i).all (fun z => Kg56.within z lo hi) = true) ⟨rfl, _, rfl, rfl⟩ (fun i σ H' _ ⟨e1, _⟩ => by rw [e1]; exact hS) ?_ ?_⟩
    · rintro i y σ H' hi' ⟨rfl, v, rfl, hall⟩
      obtain ⟨z, hz, rfl⟩ := map_get hi'
      refine ⟨_, rfl, _, rfl, _, rfl, ?_⟩
      refine ⟨z, lo, hi, rfl, fun hok => ⟨rfl, _, rfl, ?_⟩, fun hb => e ?_⟩
      · rw [take_more hz, List.all_append, hall]
        show (true && (Kg56.within z lo hi && true)) = true
        unfold Kg56.within
        rw [decide_eq_true hok.1, decide_eq_true hok.2] <;> rfl
      · cases q : ns.all (fun z => Kg56.within z lo hi) with
        | false => rfl
        | true =>
          have := List.all_eq_true.mp q z (List.mem_of_getElem? hz)
          unfold Kg56.within at this
          simp only [Bool.and_eq_true, decide_eq_true_eq] at this
          exact absurd this hb
    · rintro σ H' ⟨rfl, v, rfl, hall⟩
      rw [List.length_map, List.take_length] at hall
      exact k hall
  · rw [iF c]
    rw [decide_eq_false c, Bool.false_and] at e
    exact e rfl
end
end Sk
set_option maxHeartbeats 2000000
namespace Sk
open PySem PySem.Spec PyProof.Rows L2
open Evl (Ex)
abbrev st_put_together : Stmt := top 70
theorem sc_put_together : FnScope ["numbers"] ["numbers"] (defScope st_put_together) := ⟨rfl, rfl, rfl, by decide +kernel, rfl, by decide +kernel, by decide +kernel⟩
abbrev st_nearest : Stmt := top 69
theorem sc_nearest : FnScope ["number", "divisor"] ["number", "divisor"] (defScope st_nearest) := ⟨rfl, rfl, rfl, by decide +kernel, rfl, by decide +kernel, by decide +kernel⟩
abbrev st_grades_make : Stmt := top 71
theorem sc_grades_make : FnScope ["grades", "goes_by", "left"] ["grades", "goes_by"] (defScope st_grades_make) := ⟨rfl, rfl, rfl, by decide +kernel, rfl, by decide +kernel, by decide +kernel⟩
abbrev st_component : Stmt := top 72
theorem sc_component : FnScope ["marks", "left"] ["marks"] (defScope st_component) := ⟨rfl, rfl, rfl, by decide +kernel, rfl, by decide +kernel, by decide +kernel⟩
abbrev st_components_make : Stmt := top 73
theorem sc_components_make : FnScope ["rows", "factor", "marks"] ["rows", "factor"] (defScope st_components_make) := ⟨rfl, rfl, rfl, by decide +kernel, rfl, by decide +kernel, by decide +kernel⟩
abbrev st_points_off : Stmt := top 102
theorem sc_points_off : FnScope ["falls", "off", "seconds", "for_falls", "for_seconds"] ["falls", "off", "seconds"] (defScope st_points_off) := ⟨rfl, rfl, rfl, by decide +kernel, rfl, by decide +kernel, by decide +kernel⟩
def sp_put_together (K : PySem.W.Frag) : Sp := fun vs H Q _ => ∃ a ns, vs = [.ref a] ∧ SqL K H a (ns.map V.int) ∧ ns.length ≤ 9 ∧ ∀ l H' (ms : List Int), H l = none → Ex H H' → H' l = some (.lst (ms.map V.int)) → Kg56.trimmed ns = (ms.sum, ms.length) → Q (.ref l) H'
def sp_nearest0 : Sp := fun vs H Q _ => ∃ (a : Int) (b : Nat), vs = [.int a, .int (b : Int)] ∧ 0 ≤ a ∧ 0 < b ∧ b ≤ 1000 ∧ Q (.int (Kg56.nearest a b)) H
def sp_nearest : Sp := fun vs H Q _ => ∃ (a : Int) (b : Nat), vs = [.int a, .int (b : Int)] ∧ 0 < b ∧ b ≤ 1000 ∧ Q (.int (Kg56.nearest a b)) H
def sp_grades_make (K : PySem.W.Frag) : Sp := fun vs H Q _ => ∃ (a : Addr) (ns : List Int) (g : Nat), vs = [.ref a, .int (g : Int)] ∧ SqL K H a (ns.map V.int) ∧ 3 ≤ ns.length ∧ ns.length ≤ 9 ∧ (∀ z ∈ ns, -5 ≤ z ∧ z ≤ 5) ∧ ∀ H', Ex H H' → Q (.int (Kg56.graded g ns)) H'
def sp_component (K : PySem.W.Frag) : Sp := fun vs H Q _ => ∃ a ns, vs = [.ref a] ∧ SqL K H a (ns.map V.int) ∧ 3 ≤ ns.length ∧ ns.length ≤ 9 ∧ ∀ H', Ex H H' → Q (.int (Kg56.component ns)) H'
def RowAt (K : PySem.W.Frag) (H : Hp) (v : V) (ns : List Int) : Prop := ∃ a, v = .ref a ∧ SqL K H a (ns.map V.int)
theorem RowAt.mono {K : PySem.W.Frag} {H H' : Hp} (e : Ex H H') {v : V} {ns : List Int} (h : RowAt K H v ns) : RowAt K H' v ns := by
  obtain ⟨a, h1, h2⟩ := h
  exact ⟨a, h1, Evl.ex_l e h2⟩
def sp_components_make (K : PySem.W.Frag) : Sp := fun vs H Q _ => ∃ (a : Addr) (rs : List V) (rows : List (List Int)) (f : Nat), vs = [.ref a, .int (f : Int)] ∧ SqL K H a rs ∧ All2 (RowAt K H) rs rows ∧ rows.length ≤ 3 ∧ (∀ r ∈ rows, 3 ≤ r.length ∧ r.length ≤ 9) ∧ f ≤ 1000 ∧
  ∀ H', Ex H H' → Q (.int (Kg56.nearest ((rows.map Kg56.component).foldl (fun a b => a + b) 0 * f) 100)) H'
def sp_points_off : Sp := fun vs H Q _ => ∃ (a b c : Nat), vs = [.int (a : Int), .int (b : Int), .int (c : Int)] ∧ Q (.int ((Kg56.fallsCost a + (100 * b + 100 * ((c + 4) / 5)) : Nat) : Int)) H
theorem cut_ends {x y : Int} {m : List Int} : cutV ((x :: (m ++ [y])).map V.int) (some 1) (some (-1)) = m.map V.int := by
  have e : ((x :: (m ++ [y])).map V.int).length = m.length + 2 := by simp
  have e1 : HT.sIx (m.length + 2) (m.length + 2) (some (-1)) = m.length + 1 := by
    unfold HT.sIx
    simp only
    rw [if_pos (by decide)]
    omega
  have e2 : HT.sIx (m.length + 2) 0 (some 1) = 1 := (HT.sIx_nat _ _ 1).trans (by omega)
  unfold cutV
  rw [e, e1, e2]
  simp
section
variable {P : Program} {w : World} {K : PySem.W.Frag} {mg : Str → Option Value} {base : Heap} {A : Ads}
theorem ok_put_together (T : Txt K w mg A) (F0 : FunF K mg "put_together" st_put_together) : CalF P w K mg base CX0 1 "put_together" ["numbers"] (sp_put_together K) := by
  obtain ⟨f, fd, F, gF⟩ := F0
  refine ⟨f, fd, ?_, gF, F.kp, F.binds (ps := ["numbers"]) fun _ _ _ _ _ _ us hl => match us, hl with | [_], _ => rfl⟩
  refine F.ok sc_put_together (fun vs H Q E h => by first | (obtain ⟨rfl, _⟩ := h; rfl) | (obtain ⟨_, rfl, _⟩ := h; rfl) | (obtain ⟨_, _, rfl, _⟩ := h; rfl) | (obtain ⟨_, _, _, rfl, _⟩ := h; rfl) | (obtain ⟨_, _, _, _, rfl, _⟩ := h; rfl) | (obtain ⟨_, _, _, _, _, rfl, _⟩ := h; rfl) | (obtain ⟨_, _, _, _, _, _, rfl, _⟩ := h; rfl) | (obtain ⟨_, _, _, _, _, _, _, rfl, _⟩ := h; rfl) | (obtain ⟨_, _, _, _, _, _, _, _, rfl, _⟩ := h; rfl) | (obtain ⟨_, _, _, _, _, _, _, _, _, rfl, _⟩ := h; rfl) | (obtain ⟨_, _, _, _, _, _, _, _, _, _, rfl, _⟩ := h; rfl)) (fun cdv AA outer s H vs Q E hr h => ⟨_, (pss_cons (ps_if (pt_cmpR op_lt (pe_callB call_len_seq (by rfl) T.b_len (by decide +kernel) (pa_cons (pv 0) pa_nil)) (pe_globI T.k_LEAST_TO_LEAVE_OUT) (nomark _)) (pss_one (ps_ret (pe_callTy call_list_of (by rfl) T.b_list (by decide +kernel) (pa_cons (pv 0) pa_nil)))) pss_nil)
      (pss_one (ps_ret (pe_slice sl_list (pe_callB cr_sorted (by rfl) T.b_sorted (by decide +kernel) (pa_cons (pv 0) pa_nil)) (po_some pe_int) (po_some (pe_un un_neg pe_int)))))), ?_⟩)
  obtain ⟨a, ns, rfl, hS, h9, k⟩ := h
  refine ⟨_, rfl, a, _, rfl, .inl hS, ?_⟩
  rw [List.length_map]
  refine ⟨_, _, rfl, rfl, _, rfl, ?_⟩
  by_cases c : (ns.length : Int) < 5
  · rw [decide_eq_true c]
    refine ⟨_, rfl, a, _, rfl, .inl hS, fun l hl => ?_⟩
    exact k l _ ns hl (Ex.one hl) upd_same (trim_few (by omega))
  · rw [decide_eq_false c]
    refine ⟨_, rfl, a, ns, rfl, hS, by omega, fun ms p hp hs hl => ?_⟩
    obtain ⟨x, m, y, e, ht⟩ := trim_is hp hs (by omega)
    refine ⟨_, rfl, _, rfl, _, rfl, p, _, rfl, SqL.of upd_same, fun q hq => ?_⟩
    have nq : q ≠ p := fun e => by rw [e, upd_same] at hq; cases hq
    have hq0 : H q = none := by rw [upd_ne nq] at hq; exact hq
    refine k q _ m hq0 ((Ex.one hl).trans (Ex.one hq)) ?_ ht
    rw [upd_same, e]
    exact congrArg (fun z => some (HO.lst z)) cut_ends
theorem ok_nearest0 (T : Txt K w mg A) (F0 : FunF K mg "nearest" st_nearest) : CalF P w K mg base CX0 1 "nearest" ["number", "divisor"] (sp_nearest0) := by
  obtain ⟨f, fd, F, gF⟩ := F0
  refine ⟨f, fd, ?_, gF, F.kp, F.binds (ps := ["number", "divisor"]) fun _ _ _ _ _ _ us hl => match us, hl with | [_, _], _ => rfl⟩
  refine F.ok sc_nearest (fun vs H Q E h => by first | (obtain ⟨rfl, _⟩ := h; rfl) | (obtain ⟨_, rfl, _⟩ := h; rfl) | (obtain ⟨_, _, rfl, _⟩ := h; rfl) | (obtain ⟨_, _, _, rfl, _⟩ := h; rfl) | (obtain ⟨_, _, _, _, rfl, _⟩ := h; rfl) | (obtain ⟨_, _, _, _, _, rfl, _⟩ := h; rfl) | (obtain ⟨_, _, _, _, _, _, rfl, _⟩ := h; rfl) | (obtain ⟨_, _, _, _, _, _, _, rfl, _⟩ := h; rfl) | (obtain ⟨_, _, _, _, _, _, _, _, rfl, _⟩ := h; rfl) | (obtain ⟨_, _, _, _, _, _, _, _, _, rfl, _⟩ := h; rfl) | (obtain ⟨_, _, _, _, _, _, _, _, _, _, rfl, _⟩ := h; rfl)) (fun cdv AA outer s H vs Q E hr h => ⟨_, (pss_cons (ps_if (pt_cmpR op_lt (pv 0) pe_int (nomark _)) (pss_one ps_never) pss_nil)
      (pss_one (ps_ret (pe_op op_fdivN (pe_op op_add (pe_op op_mul pe_int (pv 0)) (pv 1)) (pe_op op_mul pe_int (pv 1)))))), ?_⟩)
  obtain ⟨a, b, rfl, ha, hb, hb2, k⟩ := h
  refine ⟨_, rfl, _, _, rfl, rfl, _, rfl, ?_⟩
  rw [decide_eq_false (by omega)]
  refine ⟨_, rfl, _, _, rfl, rfl, mulOk ⟨by omega, by omega⟩, _, rfl, _, _, rfl, rfl, _, rfl, _, _, rfl, rfl, mulOk ⟨by omega, by omega⟩, _, _, rfl, rfl, ⟨by omega, by omega⟩, ?_⟩
  have e := near_pos ha hb
  show Q (.int (Int.fdiv (2 * a + (b : Int)) (2 * (b : Int)))) H
  rw [e]
  exact k
theorem ok_nearest (T : Txt K w mg A) (F0 : FunF K mg "nearest" st_nearest)
    (c_nearest0 : CalF P w K mg base CX0 1 "nearest" ["number", "divisor"] (sp_nearest0)) : CalF P w K mg base CX0 2 "nearest" ["number", "divisor"] (sp_nearest) := by
  obtain ⟨f_nearest, fd_nearest, G_nearest, mg_nearest, kp_nearest, b_nearest⟩ := c_nearest0
  obtain ⟨f, fd, F, gF⟩ := F0
  refine ⟨f, fd, ?_, gF, F.kp, F.binds (ps := ["number", "divisor"]) fun _ _ _ _ _ _ us hl => match us, hl with | [_, _], _ => rfl⟩
  refine F.ok sc_nearest (fun vs H Q E h => by first | (obtain ⟨rfl, _⟩ := h; rfl) | (obtain ⟨_, rfl, _⟩ := h; rfl) | (obtain ⟨_, _, rfl, _⟩ := h; rfl) | (obtain ⟨_, _, _, rfl, _⟩ := h; rfl) | (obtain ⟨_, _, _, _, rfl, _⟩ := h; rfl) | (obtain ⟨_, _, _, _, _, rfl, _⟩ := h; rfl) | (obtain ⟨_, _, _, _, _, _, rfl, _⟩ := h; rfl) | (obtain ⟨_, _, _, _, _, _, _, rfl, _⟩ := h; rfl) | (obtain ⟨_, _, _, _, _, _, _, _, rfl, _⟩ := h; rfl) | (obtain ⟨_, _, _, _, _, _, _, _, _, rfl, _⟩ := h; rfl) | (obtain ⟨_, _, _, _, _, _, _, _, _, _, rfl, _⟩ := h; rfl)) (fun cdv AA outer s H vs Q E hr h => ⟨_, (pss_cons (ps_if (pt_cmpR op_lt (pv 0) pe_int (nomark _)) (pss_one (ps_ret (pe_un un_neg (pe_call G_nearest (hr.mono (by decide)) rfl mg_nearest kp_nearest b_nearest .nil pass0 (pa_cons (pe_un un_neg (pv 0)) (pa_cons (pv 1) pa_nil)))))) pss_nil)
      (pss_one (ps_ret (pe_op op_fdivN (pe_op op_add (pe_op op_mul pe_int (pv 0)) (pv 1)) (pe_op op_mul pe_int (pv 1)))))), ?_⟩)
  obtain ⟨a, b, rfl, hb, hb2, k⟩ := h
  refine ⟨_, rfl, _, _, rfl, rfl, _, rfl, ?_⟩
  by_cases c : a < 0
  · rw [decide_eq_true c]
    refine ⟨_, rfl, _, rfl, _, rfl, ?_⟩
    refine ⟨-a, b, rfl, by omega, hb, hb2, _, rfl, ?_⟩
    show Q (.int (-Kg56.nearest (-a) b)) H
    rw [near_neg c]
    exact k
  · rw [decide_eq_false c]
    refine ⟨_, rfl, _, _, rfl, rfl, mulOk ⟨by omega, by omega⟩, _, rfl, _, _, rfl, rfl, _, rfl, _, _, rfl, rfl, mulOk ⟨by omega, by omega⟩, _, _, rfl, rfl, ⟨by omega, by omega⟩, ?_⟩
    have e := near_pos (a := a) (by omega) hb
    show Q (.int (Int.fdiv (2 * a + (b : Int)) (2 * (b : Int)))) H
    rw [e]
    exact k
theorem ok_grades_make (T : Txt K w mg A) (F0 : FunF K mg "grades_make" st_grades_make)
    (c_put_together : CalF P w K mg base CX0 1 "put_together" ["numbers"] (sp_put_together K))
    (c_nearest : CalF P w K mg base CX0 2 "nearest" ["number", "divisor"] (sp_nearest)) : CalF P w K mg base CX0 3 "grades_make" ["grades", "goes_by"] (sp_grades_make K) := by
  obtain ⟨f_put_together, fd_put_together, G_put_together, mg_put_together, kp_put_together, b_put_together⟩ := c_put_together
  obtain ⟨f_nearest, fd_nearest, G_nearest, mg_nearest, kp_nearest, b_nearest⟩ := c_nearest
  obtain ⟨f, fd, F, gF⟩ := F0
  refine ⟨f, fd, ?_, gF, F.kp, F.binds (ps := ["grades", "goes_by"]) fun _ _ _ _ _ _ us hl => match us, hl with | [_, _], _ => rfl⟩
  refine F.ok sc_grades_make (fun vs H Q E h => by first | (obtain ⟨rfl, _⟩ := h; rfl) | (obtain ⟨_, rfl, _⟩ := h; rfl) | (obtain ⟨_, _, rfl, _⟩ := h; rfl) | (obtain ⟨_, _, _, rfl, _⟩ := h; rfl) | (obtain ⟨_, _, _, _, rfl, _⟩ := h; rfl) | (obtain ⟨_, _, _, _, _, rfl, _⟩ := h; rfl) | (obtain ⟨_, _, _, _, _, _, rfl, _⟩ := h; rfl) | (obtain ⟨_, _, _, _, _, _, _, rfl, _⟩ := h; rfl) | (obtain ⟨_, _, _, _, _, _, _, _, rfl, _⟩ := h; rfl) | (obtain ⟨_, _, _, _, _, _, _, _, _, rfl, _⟩ := h; rfl) | (obtain ⟨_, _, _, _, _, _, _, _, _, _, rfl, _⟩ := h; rfl)) (fun cdv AA outer s H vs Q E hr h => ⟨_, (pss_cons (ps_set (i := 2) sc_grades_make.nd rfl (Or.inl rfl) (pe_call G_put_together (hr.mono (by decide)) rfl mg_put_together kp_put_together b_put_together .nil pass0 (pa_cons (pv 0) pa_nil)))
      (pss_one (ps_ret (pe_call G_nearest (hr.mono (by decide)) rfl mg_nearest kp_nearest b_nearest .nil pass0 (pa_cons (pe_op op_mul (pe_callB (cr_sum rfl) (by rfl) T.b_sum (by decide +kernel) (pa_cons (pv 2) pa_nil)) (pv 1)) (pa_cons (pe_op op_mul pe_int (pe_callB call_len_seq (by rfl) T.b_len (by decide +kernel) (pa_cons (pv 2) pa_nil))) pa_nil)))))), ?_⟩)
  obtain ⟨a, ns, g, rfl, hS, h3, h9, hg, k⟩ := h
  refine ⟨_, rfl, a, ns, rfl, hS, h9, fun l H1 ms hl e1 h1 ht => ?_⟩
  have hln := trim_len h3 h9
  rw [ht] at hln
  have hbd := trim_bd hg h9
  rw [ht] at hbd
  have hbd : -100 ≤ ms.sum ∧ ms.sum ≤ 100 := hbd
  refine ⟨_, rfl, l, ms, rfl, SqL.of h1, _, rfl, _, _, rfl, rfl, .inl ⟨by omega, by omega⟩, _, rfl, l, _, rfl, .inl (SqL.of h1), ?_⟩
  rw [List.length_map]
  refine ⟨_, _, rfl, rfl, mulOk ⟨by omega, by omega⟩, ?_⟩
  refine ⟨_, 10 * ms.length, rfl, by simp only at hln; omega, by simp only at hln; omega, ?_⟩
  have e := k H1 e1
  unfold Kg56.graded at e
  rw [ht] at e
  exact e
theorem ok_component (T : Txt K w mg A) (F0 : FunF K mg "component" st_component)
    (c_put_together : CalF P w K mg base CX0 1 "put_together" ["numbers"] (sp_put_together K))
    (c_nearest : CalF P w K mg base CX0 2 "nearest" ["number", "divisor"] (sp_nearest)) : CalF P w K mg base CX0 3 "component" ["marks"] (sp_component K) := by
  obtain ⟨f_put_together, fd_put_together, G_put_together, mg_put_together, kp_put_together, b_put_together⟩ := c_put_together
  obtain ⟨f_nearest, fd_nearest, G_nearest, mg_nearest, kp_nearest, b_nearest⟩ := c_nearest
  obtain ⟨f, fd, F, gF⟩ := F0
  refine ⟨f, fd, ?_, gF, F.kp, F.binds (ps := ["marks"]) fun _ _ _ _ _ _ us hl => match us, hl with | [_], _ => rfl⟩
  refine F.ok sc_component (fun vs H Q E h => by first | (obtain ⟨rfl, _⟩ := h; rfl) | (obtain ⟨_, rfl, _⟩ := h; rfl) | (obtain ⟨_, _, rfl, _⟩ := h; rfl) | (obtain ⟨_, _, _, rfl, _⟩ := h; rfl) | (obtain ⟨_, _, _, _, rfl, _⟩ := h; rfl) | (obtain ⟨_, _, _, _, _, rfl, _⟩ := h; rfl) | (obtain ⟨_, _, _, _, _, _, rfl, _⟩ := h; rfl) | (obtain ⟨_, _, _, _, _, _, _, rfl, _⟩ := h; rfl) | (obtain ⟨_, _, _, _, _, _, _, _, rfl, _⟩ := h; rfl) | (obtain ⟨_, _, _, _, _, _, _, _, _, rfl, _⟩ := h; rfl) | (obtain ⟨_, _, _, _, _, _, _, _, _, _, rfl, _⟩ := h; rfl)) (fun cdv AA outer s H vs Q E hr h => ⟨_, (pss_cons (ps_set (i := 1) sc_component.nd rfl (Or.inl rfl) (pe_call G_put_together (hr.mono (by decide)) rfl mg_put_together kp_put_together b_put_together .nil pass0 (pa_cons (pv 0) pa_nil)))
      (pss_one (ps_ret (pe_call G_nearest (hr.mono (by decide)) rfl mg_nearest kp_nearest b_nearest .nil pass0 (pa_cons (pe_op op_mul (pe_globI T.k_QUARTER) (pe_callB (cr_sum rfl) (by rfl) T.b_sum (by decide +kernel) (pa_cons (pv 1) pa_nil))) (pa_cons (pe_callB call_len_seq (by rfl) T.b_len (by decide +kernel) (pa_cons (pv 1) pa_nil)) pa_nil)))))), ?_⟩)
  obtain ⟨a, ns, rfl, hS, h3, h9, k⟩ := h
  refine ⟨_, rfl, a, ns, rfl, hS, h9, fun l H1 ms hl e1 h1 ht => ?_⟩
  have hln := trim_len h3 h9
  rw [ht] at hln
  refine ⟨_, rfl, l, ms, rfl, SqL.of h1, _, _, rfl, rfl, mulOk ⟨by omega, by omega⟩, _, rfl, l, _, rfl, .inl (SqL.of h1), ?_⟩
  rw [List.length_map]
  refine ⟨_, ms.length, rfl, by simp only at hln; omega, by simp only at hln; omega, ?_⟩
  have e := k H1 e1
  unfold Kg56.component at e
  rw [ht] at e
  exact e
theorem ok_components_make (T : Txt K w mg A) (F0 : FunF K mg "components_make" st_components_make)
    (c_nearest : CalF P w K mg base CX0 2 "nearest" ["number", "divisor"] (sp_nearest))
    (c_component : CalF P w K mg base CX0 3 "component" ["marks"] (sp_component K)) : CalF P w K mg base CX0 4 "components_make" ["rows", "factor"] (sp_components_make K) := by
  obtain ⟨f_nearest, fd_nearest, G_nearest, mg_nearest, kp_nearest, b_nearest⟩ := c_nearest
  obtain ⟨f_component, fd_component, G_component, mg_component, kp_component, b_component⟩ := c_component
  obtain ⟨f, fd, F, gF⟩ := F0
  refine ⟨f, fd, ?_, gF, F.kp, F.binds (ps := ["rows", "factor"]) fun _ _ _ _ _ _ us hl => match us, hl with | [_, _], _ => rfl⟩
  refine F.ok sc_components_make (fun vs H Q E h => by first | (obtain ⟨rfl, _⟩ := h; rfl) | (obtain ⟨_, rfl, _⟩ := h; rfl) | (obtain ⟨_, _, rfl, _⟩ := h; rfl) | (obtain ⟨_, _, _, rfl, _⟩ := h; rfl) | (obtain ⟨_, _, _, _, rfl, _⟩ := h; rfl) | (obtain ⟨_, _, _, _, _, rfl, _⟩ := h; rfl) | (obtain ⟨_, _, _, _, _, _, rfl, _⟩ := h; rfl) | (obtain ⟨_, _, _, _, _, _, _, rfl, _⟩ := h; rfl) | (obtain ⟨_, _, _, _, _, _, _, _, rfl, _⟩ := h; rfl) | (obtain ⟨_, _, _, _, _, _, _, _, _, rfl, _⟩ := h; rfl) | (obtain ⟨_, _, _, _, _, _, _, _, _, _, rfl, _⟩ := h; rfl)) (fun cdv AA outer s H vs Q E hr h => ⟨_, (pss_one (ps_ret (pe_call G_nearest (hr.mono (by decide)) rfl mg_nearest kp_nearest b_nearest .nil pass0 (pa_cons (pe_op op_mul (pv 1) (pe_callB (cr_sum rfl) (by rfl) T.b_sum (by decide +kernel) (pa_cons (pe_lc (own := [("marks", 2)]) rfl sc_components_make.nd (pi_list (pv 0)) (blkOk_by (own := [("marks", 2)]) (N := ["rows", "factor", "marks"]) (sc := defScope st_components_make) (by decide +kernel)) (fun _ _ _ _ _ => (pg_name (i := 2) sc_components_make.nd rfl (Or.inl rfl))) (fun _ _ _ _ _ => pts_nil) (fun _ _ _ _ _ => by exact (pe_call G_component (hr.mono (by decide)) rfl mg_component kp_component b_component .nil pass0 (pa_cons (pv 2) pa_nil)))) pa_nil))) (pa_cons pe_int pa_nil))))), ?_⟩)
  obtain ⟨a, rs, rows, f1, rfl, hS, hA, hl3, hall, hf, k⟩ := h
  have hlen := hA.len
  refine ⟨_, rfl, _, rfl, a, rfl, ⟨_, hS⟩, fun D hD => lc_list (xs := rs) (fun i H' => Ex H H' ∧ H' D = some (.lst (((rows.take i).map Kg56.component).map V.int))) ⟨Ex.one hD, upd_same⟩ (fun i H' _ p => Evl.ex_l p.1 hS) ?_ ?_⟩
  · rintro i x H' hi ⟨e1, h1⟩
    obtain ⟨ns, hns, p, rfl, hp⟩ := hA.get hi
    refine ⟨rfl, ?_⟩
    obtain ⟨q1, q2⟩ := hall ns (List.mem_of_getElem? hns)
    refine ⟨_, rfl, p, ns, rfl, Evl.ex_l e1 hp, q1, q2, fun H2 e2 => ?_⟩
    refine ⟨_, e2 _ _ h1, ?_, fun b o e => ?_, ?_⟩
    · rw [List.length_map, List.length_map, List.length_take]
      exact Nat.lt_of_le_of_lt (Nat.min_le_right _ _) (Nat.lt_of_le_of_lt (show rows.length ≤ 3 from hl3) (by decide))
    · rw [upd_ne (ne_of_none e hD)]
      exact e2 b o (e1 b o e)
    · rw [upd_same, take_more hns]
      simp only [List.map_append, List.map_cons, List.map_nil]
  · rintro H' ⟨e1, h1⟩
    rw [hlen, List.take_length] at h1
    refine ⟨D, _, rfl, SqL.of h1, _, _, rfl, rfl, mulOk ⟨by omega, by omega⟩, ?_⟩
    refine ⟨_, 100, rfl, by decide, by decide, ?_⟩
    have e := k H' e1
    rw [foldl_sum, Int.mul_comm] at e
    exact e
theorem ok_points_off (T : Txt K w mg A) (F0 : FunF K mg "points_off" st_points_off) : CalF P w K mg base CX0 1 "points_off" ["falls", "off", "seconds"] (sp_points_off) := by
  obtain ⟨f, fd, F, gF⟩ := F0
  refine ⟨f, fd, ?_, gF, F.kp, F.binds (ps := ["falls", "off", "seconds"]) fun _ _ _ _ _ _ us hl => match us, hl with | [_, _, _], _ => rfl⟩
  refine F.ok sc_points_off (fun vs H Q E h => by first | (obtain ⟨rfl, _⟩ := h; rfl) | (obtain ⟨_, rfl, _⟩ := h; rfl) | (obtain ⟨_, _, rfl, _⟩ := h; rfl) | (obtain ⟨_, _, _, rfl, _⟩ := h; rfl) | (obtain ⟨_, _, _, _, rfl, _⟩ := h; rfl) | (obtain ⟨_, _, _, _, _, rfl, _⟩ := h; rfl) | (obtain ⟨_, _, _, _, _, _, rfl, _⟩ := h; rfl) | (obtain ⟨_, _, _, _, _, _, _, rfl, _⟩ := h; rfl) | (obtain ⟨_, _, _, _, _, _, _, _, rfl, _⟩ := h; rfl) | (obtain ⟨_, _, _, _, _, _, _, _, _, rfl, _⟩ := h; rfl) | (obtain ⟨_, _, _, _, _, _, _, _, _, _, rfl, _⟩ := h; rfl)) (fun cdv AA outer s H vs Q E hr h => ⟨_, (pss_cons (ps_set (i := 3) sc_points_off.nd rfl (Or.inl rfl) (pe_op op_add (pe_op op_add (pv 0) (pe_callB (call_max2 rfl) (by rfl) T.b_max (by decide +kernel) (pa_cons (pe_op op_sub (pv 0) pe_int) (pa_cons pe_int pa_nil)))) (pe_callB (call_max2 rfl) (by rfl) T.b_max (by decide +kernel) (pa_cons (pe_op op_sub (pv 0) pe_int) (pa_cons pe_int pa_nil)))))
      (pss_cons (ps_set (i := 4) sc_points_off.nd rfl (Or.inl rfl) (pe_op op_fdivN (pe_op op_sub (pe_op op_add (pv 2) (pe_globI T.k_SECONDS_A_POINT)) pe_int) (pe_globI T.k_SECONDS_A_POINT)))
      (pss_one (ps_ret (pe_op op_mul (pe_globI T.k_POINT) (pe_op op_add (pe_op op_add (pv 3) (pv 1)) (pv 4))))))), ?_⟩)
  obtain ⟨a, b, c, rfl, k⟩ := h
  refine ⟨_, rfl, _, rfl, _, _, rfl, rfl, _, _, rfl, ?_⟩
  show rI0 (fun i j => V.int (i + j)) (V.int (a : Int)) (V.int (if 0 > (a : Int) - 2 then 0 else (a : Int) - 2)) H _
  refine ⟨_, _, rfl, rfl, _, rfl, _, _, rfl, rfl, _, _, rfl, ?_⟩
  refine ⟨_, _, rfl, rfl, ?_⟩
  refine ⟨_, rfl, _, _, rfl, rfl, _, _, rfl, rfl, _, _, rfl, rfl, ⟨by omega, by omega⟩, ?_⟩
  refine ⟨_, rfl, _, rfl, _, _, rfl, rfl, _, rfl, _, _, rfl, rfl, _, _, rfl, rfl, mulOk ⟨by omega, by omega⟩, ?_⟩
  have e : (100 : Int) * ((a : Int) + (if 0 > (a : Int) - 2 then 0 else (a : Int) - 2) + (if 0 > (a : Int) - 4 then 0 else (a : Int) - 4) + (b : Int) + Int.fdiv ((c : Int) + 5 - 1) 5) = ((Kg56.fallsCost a + (100 * b + 100 * ((c + 4) / 5)) : Nat) : Int) := by
    rw [Int.fdiv_eq_ediv_of_nonneg _ (by omega)]
    unfold Kg56.fallsCost
    split <;> split <;> omega
  rw [← e] at k
  exact k
end
end Sk
set_option maxHeartbeats 2000000
namespace Sk
open PySem PySem.Spec PyProof.Rows L2
open Evl (Ex)
abbrev st_row_has_room : Stmt := top 80
theorem sc_row_has_room : FnScope ["length", "lengths", "free", "rows", "other"] ["length", "lengths", "free"] (defScope st_row_has_room) := ⟨rfl, rfl, rfl, by decide +kernel, rfl, by decide +kernel, by decide +kernel⟩
abbrev st_has_room : Stmt := top 79
theorem sc_has_room : FnScope ["element", "ahead", "free", "alike", "lengths", "other"] ["element", "ahead", "free"] (defScope st_has_room) := ⟨rfl, rfl, rfl, by decide +kernel, rfl, by decide +kernel, by decide +kernel⟩
abbrev st_those_that_count : Stmt := top 78
theorem sc_those_that_count : FnScope ["tellings", "free", "ahead", "found", "telling", "fits"] ["tellings", "free"] (defScope st_those_that_count) := ⟨rfl, rfl, rfl, by decide +kernel, rfl, by decide +kernel, by decide +kernel⟩
/-! ### the mirror -/
def grp : Kg56.Element → Nat
  | .jumps _ => 0
  | .spin _ _ => 1
  | .steps _ => 2
  | .choreo => 3
def elen : Kg56.Element → Nat
  | .jumps l => l.length
  | _ => 0
def ename : Kg56.Element → Nat
  | .spin n _ => n
  | _ => 0
def mostG (free : Bool) (g : Nat) : Nat := ((if free = true then [7, 3, 1, 1] else [3, 3, 1, 0]) : List Nat).getD g 0
def most2 (free : Bool) : Nat := if free = true then 3 else 1
def most3 (free : Bool) : Nat := if free = true then 1 else 0
def alike (ahead : List Kg56.Element) (e : Kg56.Element) : List Kg56.Element := ahead.filter fun o => decide (grp o = grp e)
def rowRoom (len : Nat) (lengths : List Nat) (free : Bool) : Bool :=
  if 2 ≤ len ∧ most2 free ≤ (lengths.filter fun n => decide (2 ≤ n)).length then false else decide (len < 3) || decide (lengths.count 3 < most3 free)
def hasRoom (free : Bool) (ahead : List Kg56.Element) (e : Kg56.Element) : Bool :=
  if mostG free (grp e) ≤ (alike ahead e).length then false else match e with
    | .jumps l => rowRoom l.length ((alike ahead e).map elen) free
    | .spin n _ => !((alike ahead e).map ename).contains n
    | _ => true
def countsL (free : Bool) : List Kg56.Element → List Kg56.Element → List Bool
  | _, [] => []
  | ahead, e :: r => hasRoom free ahead e :: countsL free (if hasRoom free ahead e = true then ahead ++ [e] else ahead) r
/-! ### promises -/
abbrev fv (b : Bool) : V := .int (b.toNat : Int)
def nats (l : List Nat) : List Int := l.map fun (n : Nat) => (n : Int)
def sp_row_has_room (K : PySem.W.Frag) : Sp := fun vs H Q _ => ∃ (len : Nat) (a : Addr) (ls : List Nat) (b : Bool), vs = [.int (len : Int), .ref a, fv b] ∧ SqL K H a ((nats ls).map V.int) ∧ ls.length ≤ 20 ∧ ∀ H', Ex H H' → Q (.bl (rowRoom len ls b)) H'
def sp_has_room (K : PySem.W.Frag) (A : Ads) : Sp := fun vs H Q _ => ∃ (v : V) (a : Addr) (b : Bool) (e : Kg56.Element) (us : List V) (ahead : List Kg56.Element), vs = [v, .ref a, fv b] ∧ ElemAt A H v e ∧ SqL K H a us ∧ All2 (ElemAt A H) us ahead ∧ ahead.length ≤ 20 ∧ ∀ H', Ex H H' → Q (.bl (hasRoom b ahead e)) H'
def sp_those_that_count (K : PySem.W.Frag) (A : Ads) : Sp := fun vs H Q _ => ∃ (a : Addr) (b : Bool) (us : List V) (ts : List Kg56.Told), vs = [.ref a, fv b] ∧ SqL K H a us ∧ All2 (ToldAt A H) us ts ∧ ts.length ≤ 20 ∧
  ∀ l H', H l = none → Ex H H' → H' l = some (.lst ((countsL b [] (ts.map (·.element))).map V.bl)) → Q (.ref l) H'
theorem free_at {b : Bool} {x y : Int} : ([x, y] : List Int)[b.toNat]? = some (if b = true then y else x) := by cases b <;> rfl
section
variable {P : Program} {w : World} {K : PySem.W.Frag} {mg : Str → Option Value} {base : Heap} {A : Ads}
theorem elem_group (T : Txt K w mg A) {H : Hp} {v : V} {e : Kg56.Element} (h : ElemAt A H v e) : ∃ p C dx fs, v = .ref p ∧ H p = some (.ins C dx fs) ∧ Cls K C ∧ NoAttr K C "group" ∧ fs.lookup ("group" : Str) = some (.int (grp e : Nat)) := by
  cases e with
  | jumps l =>
    obtain ⟨p, dx, q, vs, h1, h2, _⟩ := h
    exact ⟨p, _, dx, _, h1, h2, T.cl_Jumps, T.na_Jumps_group, rfl⟩
  | spin n lv =>
    obtain ⟨p, dx, h1, h2⟩ := h
    exact ⟨p, _, dx, _, h1, h2, T.cl_Spin, T.na_Spin_group, rfl⟩
  | steps lv =>
    obtain ⟨p, dx, h1, h2⟩ := h
    exact ⟨p, _, dx, _, h1, h2, T.cl_Steps, T.na_Steps_group, rfl⟩
  | choreo =>
    obtain ⟨p, dx, h1, h2⟩ := h
    exact ⟨p, _, dx, _, h1, h2, T.cl_OtherSteps, T.na_OtherSteps_group, rfl⟩
theorem fi_tup {a : Addr} {x y : Int} (h : TupI K a [x, y]) (H : Hp) (b : Bool) : SqT K H a ([x, y].map V.int) ∧ atI ([x, y].map V.int) (b.toNat : Int) = some (.int (if b = true then y else x)) := tupI_at h H free_at
theorem ok_row_has_room (T : Txt K w mg A) (F0 : FunF K mg "row_has_room" st_row_has_room) : CalF P w K mg base CX0 1 "row_has_room" ["length", "lengths", "free"] (sp_row_has_room K) := by
  obtain ⟨f, fd, F, gF⟩ := F0
  refine ⟨f, fd, ?_, gF, F.kp, F.binds (ps := ["length", "lengths", "free"]) fun _ _ _ _ _ _ us hl => match us, hl with | [_, _, _], _ => rfl⟩
  refine F.ok sc_row_has_room (fun vs H Q E h => by first | (obtain ⟨rfl, _⟩ := h; rfl) | (obtain ⟨_, rfl, _⟩ := h; rfl) | (obtain ⟨_, _, rfl, _⟩ := h; rfl) | (obtain ⟨_, _, _, rfl, _⟩ := h; rfl) | (obtain ⟨_, _, _, _, rfl, _⟩ := h; rfl) | (obtain ⟨_, _, _, _, _, rfl, _⟩ := h; rfl) | (obtain ⟨_, _, _, _, _, _, rfl, _⟩ := h; rfl) | (obtain ⟨_, _, _, _, _, _, _, rfl, _⟩ := h; rfl) | (obtain ⟨_, _, _, _, _, _, _, _, rfl, _⟩ := h; rfl) | (obtain ⟨_, _, _, _, _, _, _, _, _, rfl, _⟩ := h; rfl) | (obtain ⟨_, _, _, _, _, _, _, _, _, _, rfl, _⟩ := h; rfl)) (fun cdv AA outer s H vs Q E hr h => ⟨_, (pss_cons (ps_setLc (i := 3) (own := [("other", 4)]) rfl sc_row_has_room.nd rfl rfl (sw_true rfl rfl rfl (by decide +kernel)) (pi_list (pv 1)) (blkOk_by (own := [("other", 4)]) (N := ["length", "lengths", "free", "rows", "other"]) (sc := defScope st_row_has_room) (by decide +kernel)) (fun _ _ _ _ _ => (pg_name (i := 4) sc_row_has_room.nd rfl (Or.inl rfl))) (fun _ _ _ _ _ => by exact pts_one (pt_cmpR op_ge (pv 4) pe_int (nomark _))) (fun _ _ _ _ _ => by exact (pv 4)))
      (Evl.pss_cut (ps_if (PW.pt (pw_and (pt_cmpR op_ge (pv 0) pe_int (nomark _)) (pw_and1 (pt_cmpR op_ge (pe_callB call_len_seq (by rfl) T.b_len (by decide +kernel) (pa_cons (pv 3) pa_nil)) (pe_ix ix_tup (pe_globR T.k_MOST_ROWS.1) (pv 2) (fun _ _ => rfl)) (nomark _))))) (pss_one (ps_ret pe_bl)) pss_nil)
      (pss_one (ps_ret (pe_or (pe_cmpR op_lt (pv 0) pe_int (nomark _)) (pe_one (pe_cmpR op_lt (pe_bm PySem.F.plainAttrs_list PySem.F.slot_list_count PySem.F.type_list_count mt_lcount (pv 1) (pa_cons pe_int pa_nil)) (pe_ix ix_tup (pe_globR T.k_MOST_OF_THREE.1) (pv 2) (fun _ _ => rfl)) (nomark _)))))))), ?_⟩)
  obtain ⟨len, a, ls, b, rfl, hS, hl, k⟩ := h
  have cnt : ∀ l : List Nat, (nats l).count 3 = l.count 3 := by
    intro l
    induction l with
    | nil => rfl
    | cons x l ih =>
      unfold nats at ih ⊢
      rw [List.map_cons, List.count_cons, List.count_cons, ih]
      congr 1
      by_cases c : x = 3
      · subst c; rfl
      · have c' : ¬ (x : Int) = 3 := by omega
        rw [if_neg (by simpa using c'), if_neg (by simpa using c)]
  refine ⟨_, rfl, a, rfl, ⟨_, hS⟩, fun D hD => lc_list (xs := (nats ls).map V.int) (fun i H' => Ex H H' ∧ H' D = some (.lst ((nats ((ls.take i).filter fun n => decide (2 ≤ n))).map V.int))) ⟨Ex.one hD, upd_same⟩ (fun i H' _ p => Evl.ex_l p.1 hS) ?_ ?_⟩
  · rintro i x H' hi ⟨e1, h1⟩
    obtain ⟨z, hz, rfl⟩ := map_get hi
    obtain ⟨n, hn, rfl⟩ := map_get hz
    refine ⟨rfl, _, rfl, _, _, rfl, rfl, _, rfl, ?_⟩
    rw [take_more hn, List.filter_append]
    by_cases c : 2 ≤ n
    · rw [decide_eq_true (by omega)]
      refine ⟨_, rfl, _, h1, ?_, fun b o e => ?_, ?_⟩
      · rw [List.length_map]
        unfold nats
        rw [List.length_map]
        have := List.length_filter_le (fun n => decide (2 ≤ n)) (ls.take i)
        rw [List.length_take] at this
        exact Nat.lt_of_le_of_lt (m := 20) (by omega) (by decide)
      · rw [upd_ne (ne_of_none e hD)]
        exact e1 b o e
      · rw [upd_same, List.filter_cons, if_pos (decide_eq_true c)]
        unfold nats
        simp
    · rw [decide_eq_false (by omega)]
      refine ⟨e1, ?_⟩
      rw [List.filter_cons, if_neg (by simpa using c)]
      rw [h1]
      simp
  · rintro H' ⟨e1, h1⟩
    rw [List.length_map] at h1
    unfold nats at h1
    rw [List.length_map, List.take_length] at h1
    have k' := k H' e1
    unfold rowRoom at k'
    obtain ⟨m1, m2⟩ := fi_tup T.k_MOST_ROWS.2 H' b
    obtain ⟨m3, m4⟩ := fi_tup T.k_MOST_OF_THREE.2 H' b
    have e2 : (if b = true then 3 else 1 : Int) = ((most2 b : Nat) : Int) := by cases b <;> rfl
    have e3 : (if b = true then 1 else 0 : Int) = ((most3 b : Nat) : Int) := by cases b <;> rfl
    rw [e2] at m2
    rw [e3] at m4
    refine ⟨fun σ' H'' => σ' = [some (.int (len : Int)), some (.ref a), some (fv b), some (.ref D), none] ∧ H'' = H' ∧ ¬ (2 ≤ len ∧ most2 b ≤ (ls.filter fun n => decide (2 ≤ n)).length), ?_, ?_⟩
    · refine ⟨_, rfl, _, _, rfl, rfl, _, rfl, ?_⟩
      by_cases c : 2 ≤ len
      · rw [decide_eq_true (by omega)]
        refine ⟨_, rfl, D, _, rfl, .inl (SqL.of h1), _, rfl, _, _, _, _, rfl, rfl, m1, m2, _, _, rfl, rfl, _, rfl, ?_⟩
        rw [List.length_map, List.length_map]
        by_cases c2 : most2 b ≤ (ls.filter fun n => decide (2 ≤ n)).length
        · rw [decide_eq_true (by omega)]
          rw [if_pos ⟨c, c2⟩] at k'
          exact k'
        · rw [decide_eq_false (by omega)]
          exact ⟨rfl, rfl, fun q => c2 q.2⟩
      · rw [decide_eq_false (by omega)]
        exact ⟨rfl, rfl, fun q => c q.1⟩
    · rintro σ' H'' ⟨rfl, rfl, hn⟩
      rw [if_neg hn] at k'
      refine ⟨_, rfl, _, _, rfl, rfl, _, rfl, ?_⟩
      by_cases c3 : len < 3
      · rw [decide_eq_true (by omega)]
        rw [decide_eq_true c3, Bool.true_or] at k'
        exact k'
      · rw [decide_eq_false (by omega)]
        rw [decide_eq_false c3, Bool.false_or] at k'
        refine ⟨_, rfl, .inl ⟨rfl, _, Evl.ex_l e1 hS⟩, a, nats ls, 3, rfl, rfl, Evl.ex_l e1 hS, _, rfl, _, _, _, _, rfl, rfl, m3, m4, _, _, rfl, rfl, ?_⟩
        rw [cnt]
        have e : decide (((ls.count 3 : Nat) : Int) < ((most3 b : Nat) : Int)) = decide (ls.count 3 < most3 b) := decide_eq_decide.mpr (by omega)
        show Q (.bl (decide (((ls.count 3 : Nat) : Int) < ((most3 b : Nat) : Int)))) H''
        rw [e]
        exact k'
theorem grp0 {e : Kg56.Element} (h : grp e = 0) : ∃ l, e = .jumps l := by cases e <;> first | exact ⟨_, rfl⟩ | cases h
theorem grp1 {e : Kg56.Element} (h : grp e = 1) : ∃ n v, e = .spin n v := by cases e <;> first | exact ⟨_, _, rfl⟩ | cases h
theorem group_row (b : Bool) (e : Kg56.Element) : ∃ row, ([[3, 3, 1, 0], [7, 3, 1, 1]] : List (List Int))[b.toNat]? = some row ∧ row[grp e]? = some ((mostG b (grp e) : Nat) : Int) := by
  cases b <;> cases e <;> exact ⟨_, rfl, rfl⟩
theorem inInts (n : Nat) (l : List Nat) : inV (.int (n : Int)) ((nats l).map V.int) = l.contains n := by
  unfold inV nats
  induction l with
  | nil => rfl
  | cons x l ih =>
    rw [List.map_cons, List.map_cons, List.any_cons, ih, List.contains_cons]
    congr 1
    show ((x : Int) == (n : Int)) = (n == x)
    by_cases c : n = x
    · subst c; simp
    · rw [beq_eq_false_iff_ne.mpr (by omega), beq_eq_false_iff_ne.mpr c]
theorem flatInts (l : List Nat) : ((nats l).map V.int).all flatV = true := by
  unfold nats
  induction l with
  | nil => rfl
  | cons x l ih => rw [List.map_cons, List.map_cons, List.all_cons, ih] <;> rfl
theorem ok_has_room (T : Txt K w mg A) (F0 : FunF K mg "has_room" st_has_room)
    (c_row_has_room : CalF P w K mg base CX0 1 "row_has_room" ["length", "lengths", "free"] (sp_row_has_room K)) : CalF P w K mg base CX0 2 "has_room" ["element", "ahead", "free"] (sp_has_room K A) := by
  obtain ⟨f_row_has_room, fd_row_has_room, G_row_has_room, mg_row_has_room, kp_row_has_room, b_row_has_room⟩ := c_row_has_room
  obtain ⟨f, fd, F, gF⟩ := F0
  refine ⟨f, fd, ?_, gF, F.kp, F.binds (ps := ["element", "ahead", "free"]) fun _ _ _ _ _ _ us hl => match us, hl with | [_, _, _], _ => rfl⟩
  refine F.ok sc_has_room (fun vs H Q E h => by first | (obtain ⟨rfl, _⟩ := h; rfl) | (obtain ⟨_, rfl, _⟩ := h; rfl) | (obtain ⟨_, _, rfl, _⟩ := h; rfl) | (obtain ⟨_, _, _, rfl, _⟩ := h; rfl) | (obtain ⟨_, _, _, _, rfl, _⟩ := h; rfl) | (obtain ⟨_, _, _, _, _, rfl, _⟩ := h; rfl) | (obtain ⟨_, _, _, _, _, _, rfl, _⟩ := h; rfl) | (obtain ⟨_, _, _, _, _, _, _, rfl, _⟩ := h; rfl) | (obtain ⟨_, _, _, _, _, _, _, _, rfl, _⟩ := h; rfl) | (obtain ⟨_, _, _, _, _, _, _, _, _, rfl, _⟩ := h; rfl) | (obtain ⟨_, _, _, _, _, _, _, _, _, _, rfl, _⟩ := h; rfl)) (fun cdv AA outer s H vs Q E hr h => ⟨_, (pss_cons (ps_setLc (i := 3) (own := [("other", 5)]) rfl sc_has_room.nd rfl rfl (sw_true rfl rfl rfl (by decide +kernel)) (pi_list (pv 1)) (blkOk_by (own := [("other", 5)]) (N := ["element", "ahead", "free", "alike", "lengths", "other"]) (sc := defScope st_has_room) (by decide +kernel)) (fun _ _ _ _ _ => (pg_name (i := 5) sc_has_room.nd rfl (Or.inl rfl))) (fun _ _ _ _ _ => by exact pts_one (pt_cmpR op_eq (pe_fldK (K := K) rfl (pv 5) rfl) (pe_fldK (K := K) rfl (pv 0) rfl) (nomark _))) (fun _ _ _ _ _ => by exact (pv 5)))
      (Evl.pss_cut (ps_if (pt_cmpR op_ge (pe_callB call_len_seq (by rfl) T.b_len (by decide +kernel) (pa_cons (pv 3) pa_nil)) (pe_ix ix_tup (pe_ix ix_tup (pe_globR T.k_MOST_OF_GROUP.1) (pv 2) (fun _ _ => rfl)) (pe_fld (pv 0) rfl) (fun _ _ => rfl)) (nomark _)) (pss_one (ps_ret pe_bl)) pss_nil)
      (pss_cons (ps_if (pt_cmpR op_eq (pe_fld (pv 0) rfl) (pe_globI T.k_JUMPS) (nomark _)) (pss_cons (ps_setLc (i := 4) (own := [("other", 5)]) rfl sc_has_room.nd rfl rfl (sw_true rfl rfl rfl (by decide +kernel)) (pi_list (pv 3)) (blkOk_by (own := [("other", 5)]) (N := ["element", "ahead", "free", "alike", "lengths", "other"]) (sc := defScope st_has_room) (by decide +kernel)) (fun _ _ _ _ _ => (pg_name (i := 5) sc_has_room.nd rfl (Or.inl rfl))) (fun _ _ _ _ _ => pts_nil) (fun _ _ _ _ _ => by exact (pe_callB (call_len_seqK (K := K) rfl) (by rfl) T.b_len (by decide +kernel) (pa_cons (pe_fldK (K := K) rfl (pv 5) rfl) pa_nil))))
      (pss_one (ps_ret (pe_call G_row_has_room (hr.mono (by decide)) rfl mg_row_has_room kp_row_has_room b_row_has_room .nil pass0 (pa_cons (pe_callB call_len_seq (by rfl) T.b_len (by decide +kernel) (pa_cons (pe_fld (pv 0) rfl) pa_nil)) (pa_cons (pv 4) (pa_cons (pv 2) pa_nil))))))) pss_nil)
      (pss_cons (ps_if (pt_cmpR op_eq (pe_fld (pv 0) rfl) (pe_globI T.k_SPIN) (nomark _)) (pss_one (ps_ret (pe_cmpR op_notIn_seq (pe_fld (pv 0) rfl) (pe_lc (own := [("other", 5)]) rfl sc_has_room.nd (pi_list (pv 3)) (blkOk_by (own := [("other", 5)]) (N := ["element", "ahead", "free", "alike", "lengths", "other"]) (sc := defScope st_has_room) (by decide +kernel)) (fun _ _ _ _ _ => (pg_name (i := 5) sc_has_room.nd rfl (Or.inl rfl))) (fun _ _ _ _ _ => pts_nil) (fun _ _ _ _ _ => by exact (pe_fldK (K := K) rfl (pv 5) rfl))) (by rfl)))) pss_nil)
      (pss_one (ps_ret pe_bl)))))), ?_⟩)
  obtain ⟨v, a, b, e, us, ahead, rfl, hE, hS, hA, hl, k⟩ := h
  have hlen := hA.len
  obtain ⟨pe, Ce, dxe, fse, rfl, g1, g2, g3, g4⟩ := elem_group T hE
  have flen : ∀ i, ((ahead.take i).filter fun o => decide (grp o = grp e)).length ≤ 20 := fun i => by
    have := List.length_filter_le (fun o => decide (grp o = grp e)) (ahead.take i)
    rw [List.length_take] at this
    omega
  refine ⟨_, rfl, a, rfl, ⟨_, hS⟩, fun D hD => lc_list (xs := us) (fun i H' => Ex H H' ∧ ∃ acc, H' D = some (.lst acc) ∧ All2 (ElemAt A H) acc ((ahead.take i).filter fun o => decide (grp o = grp e))) ⟨Ex.one hD, _, upd_same, .nil⟩ (fun i H' _ p => Evl.ex_l p.1 hS) ?_ ?_⟩
  · rintro i x H' hi ⟨e1, acc, h1, hacc⟩
    obtain ⟨o, ho, hO⟩ := hA.get hi
    obtain ⟨po, Co, dxo, fso, rfl, q1, q2, q3, q4⟩ := elem_group T hO
    refine ⟨rfl, _, rfl, po, Co, dxo, fso, _, rfl, e1 _ _ q1, q2, q3, q4, _, rfl, pe, Ce, dxe, fse, _, rfl, e1 _ _ g1, g2, g3, g4, rfl, _, rfl, ?_⟩
    have fl := flen (i + 1)
    have hal := hacc.len
    rw [take_more ho, List.filter_append] at fl ⊢
    by_cases c : grp o = grp e
    · rw [iT (by omega)]
      refine ⟨_, rfl, acc, h1, ?_, fun b o e => ?_, _, upd_same, ?_⟩
      · rw [hal]
        have := flen i
        exact Nat.lt_of_le_of_lt (m := 20) (by omega) (by decide)
      · rw [upd_ne (ne_of_none e hD)]
        exact e1 b o e
      · rw [List.filter_cons, if_pos (decide_eq_true c)]
        exact hacc.snoc hO
    · rw [iF (by omega)]
      refine ⟨e1, acc, h1, ?_⟩
      rw [List.filter_cons, if_neg (by simpa using c)]
      simpa using hacc
  · rintro H1 ⟨e1, acc, h1, hacc⟩
    rw [hlen, List.take_length] at hacc
    have hacc : All2 (ElemAt A H) acc (alike ahead e) := hacc
    have hal := hacc.len
    have h20 : (alike ahead e).length ≤ 20 := by
      have := List.length_filter_le (fun o => decide (grp o = grp e)) ahead
      unfold alike
      omega
    have k1 := k
    unfold hasRoom at k1
    obtain ⟨row, r1, r2⟩ := group_row b e
    obtain ⟨xs, p2, t1, t2, t3⟩ := tupN_at T.k_MOST_OF_GROUP.2 r1
    obtain ⟨t4, t5⟩ := tupI_at t3 H1 r2
    refine ⟨fun σ' H'' => σ' = [some (.ref pe), some (.ref a), some (fv b), some (.ref D), none, none] ∧ H'' = H1 ∧ ¬ mostG b (grp e) ≤ (alike ahead e).length, ?_, ?_⟩
    · refine ⟨_, rfl, D, _, rfl, .inl (SqL.of h1), ?_⟩
      refine ⟨_, rfl, _, _, _, _, rfl, rfl, t1 H1, t2, _, rfl, pe, Ce, dxe, fse, _, rfl, e1 _ _ g1, g2, g3, g4, _, _, _, _, rfl, rfl, t4, t5, _, _, rfl, rfl, _, rfl, ?_⟩
      rw [hal]
      by_cases c : mostG b (grp e) ≤ (alike ahead e).length
      · rw [decide_eq_true (by omega)]
        rw [if_pos c] at k1
        exact k1 H1 e1
      · rw [decide_eq_false (by omega)]
        exact ⟨rfl, rfl, c⟩
    · rintro σ' H'' ⟨rfl, rfl, hn⟩
      rw [if_neg hn] at k1
      refine ⟨_, rfl, pe, Ce, dxe, fse, _, rfl, e1 _ _ g1, g2, g3, g4, rfl, _, rfl, ?_⟩
      by_cases c0 : grp e = 0
      · rw [iT (by omega)]
        obtain ⟨l, rfl⟩ := grp0 c0
        refine ⟨_, rfl, D, rfl, ⟨_, SqL.of h1⟩, fun D2 hD2 => lc_list (xs := acc) (fun i H' => Ex H'' H' ∧ H' D2 = some (.lst ((nats (((alike ahead (.jumps l)).take i).map elen)).map V.int))) ⟨Ex.one hD2, upd_same⟩ (fun i H' _ p => SqL.of (p.1 _ _ h1)) ?_ ?_⟩
        · rintro i x H' hi ⟨e2, h2⟩
          obtain ⟨o, ho, hO⟩ := hacc.get hi
          have hg : grp o = 0 := by
            have := List.mem_of_getElem? ho
            unfold alike at this
            have := (List.mem_filter.mp this).2
            have := of_decide_eq_true this
            omega
          obtain ⟨lo, rfl⟩ := grp0 hg
          obtain ⟨po, dxo, q, vs, rfl, z1, z2, z3⟩ := hO
          refine ⟨rfl, _, rfl, po, _, dxo, _, _, rfl, (e1.trans e2) _ _ z1, T.cl_Jumps, T.na_Jumps_jumps, rfl, q, _, rfl, .inl (SqL.of ((e1.trans e2) _ _ z2)), _, h2, ?_, fun b o e => ?_, ?_⟩
          · rw [List.length_map]
            unfold nats
            rw [List.length_map, List.length_map, List.length_take]
            exact Nat.lt_of_le_of_lt (m := 20) (by omega) (by decide)
          · rw [upd_ne (ne_of_none e hD2)]
            exact e2 b o e
          · rw [upd_same, take_more ho, z3.len]
            unfold nats
            simp [elen]
        · rintro H3 ⟨e2, h2⟩
          rw [hal, List.take_length] at h2
          obtain ⟨po, dxo, q, vs, z0, z1, z2, z3⟩ := hE
          cases z0
          refine ⟨_, rfl, pe, _, dxo, _, _, rfl, (e1.trans e2) _ _ z1, T.cl_Jumps, T.na_Jumps_jumps, rfl, q, _, rfl, .inl (SqL.of ((e1.trans e2) _ _ z2)), _, rfl, _, rfl, ?_⟩
          refine ⟨vs.length, D2, _, b, rfl, SqL.of h2, by rw [List.length_map]; exact h20, fun H4 e4 => ?_⟩
          rw [z3.len]
          exact k1 H4 ((e1.trans e2).trans e4)
      · rw [iF (by omega)]
        refine ⟨_, rfl, pe, Ce, dxe, fse, _, rfl, e1 _ _ g1, g2, g3, g4, rfl, _, rfl, ?_⟩
        by_cases c1 : grp e = 1
        · rw [iT (by omega)]
          obtain ⟨n, lv, rfl⟩ := grp1 c1
          have hE' := hE
          obtain ⟨po, dxo, z0, z1⟩ := hE'
          cases z0
          refine ⟨_, rfl, pe, _, dxo, _, _, rfl, e1 _ _ z1, T.cl_Spin, T.na_Spin_name, rfl, ?_⟩
          refine ⟨_, rfl, D, rfl, ⟨_, SqL.of h1⟩, fun D2 hD2 => lc_list (xs := acc) (fun i H' => Ex H'' H' ∧ H' D2 = some (.lst ((nats (((alike ahead (.spin n lv)).take i).map ename)).map V.int))) ⟨Ex.one hD2, upd_same⟩ (fun i H' _ p => SqL.of (p.1 _ _ h1)) ?_ ?_⟩
          · rintro i x H' hi ⟨e2, h2⟩
            obtain ⟨o, ho, hO⟩ := hacc.get hi
            have hg : grp o = 1 := by
              have := List.mem_of_getElem? ho
              unfold alike at this
              have := (List.mem_filter.mp this).2
              have := of_decide_eq_true this
              omega
            obtain ⟨no, lo, rfl⟩ := grp1 hg
            obtain ⟨po, dxo2, rfl, z2⟩ := hO
            refine ⟨rfl, _, rfl, po, _, dxo2, _, _, rfl, (e1.trans e2) _ _ z2, T.cl_Spin, T.na_Spin_name, rfl, _, h2, ?_, fun b o e => ?_, ?_⟩
            · rw [List.length_map]
              unfold nats
              rw [List.length_map, List.length_map, List.length_take]
              exact Nat.lt_of_le_of_lt (m := 20) (by omega) (by decide)
            · rw [upd_ne (ne_of_none e hD2)]
              exact e2 b o e
            · rw [upd_same, take_more ho]
              unfold nats
              simp [ename]
          · rintro H3 ⟨e2, h2⟩
            rw [hal, List.take_length] at h2
            refine ⟨D2, _, rfl, .inl (SqL.of h2), rfl, flatInts _, ?_⟩
            rw [inInts]
            exact k1 H3 (e1.trans e2)
        · rw [iF (by omega)]
          cases e with
          | jumps l => exact absurd rfl c0
          | spin n lv => exact absurd rfl c1
          | steps lv => exact k1 H'' e1
          | choreo => exact k1 H'' e1
theorem ok_those_that_count (T : Txt K w mg A) (F0 : FunF K mg "those_that_count" st_those_that_count)
    (c_has_room : CalF P w K mg base CX0 2 "has_room" ["element", "ahead", "free"] (sp_has_room K A)) : CalF P w K mg base CX0 3 "those_that_count" ["tellings", "free"] (sp_those_that_count K A) := by
  obtain ⟨f_has_room, fd_has_room, G_has_room, mg_has_room, kp_has_room, b_has_room⟩ := c_has_room
  obtain ⟨f, fd, F, gF⟩ := F0
  refine ⟨f, fd, ?_, gF, F.kp, F.binds (ps := ["tellings", "free"]) fun _ _ _ _ _ _ us hl => match us, hl with | [_, _], _ => rfl⟩
  refine F.ok sc_those_that_count (fun vs H Q E h => by first | (obtain ⟨rfl, _⟩ := h; rfl) | (obtain ⟨_, rfl, _⟩ := h; rfl) | (obtain ⟨_, _, rfl, _⟩ := h; rfl) | (obtain ⟨_, _, _, rfl, _⟩ := h; rfl) | (obtain ⟨_, _, _, _, rfl, _⟩ := h; rfl) | (obtain ⟨_, _, _, _, _, rfl, _⟩ := h; rfl) | (obtain ⟨_, _, _, _, _, _, rfl, _⟩ := h; rfl) | (obtain ⟨_, _, _, _, _, _, _, rfl, _⟩ := h; rfl) | (obtain ⟨_, _, _, _, _, _, _, _, rfl, _⟩ := h; rfl) | (obtain ⟨_, _, _, _, _, _, _, _, _, rfl, _⟩ := h; rfl) | (obtain ⟨_, _, _, _, _, _, _, _, _, _, rfl, _⟩ := h; rfl)) (fun cdv AA outer s H vs Q E hr h => ⟨_, (pss_cons (ps_set (i := 2) sc_those_that_count.nd rfl (Or.inl rfl) (pe_lst pa_nil))
      (pss_cons (ps_set (i := 3) sc_those_that_count.nd rfl (Or.inl rfl) (pe_lst pa_nil))
      (pss_cons (ps_for PassesOwn.never rfl (pi_list (pv 0)) (pg_name (i := 4) sc_those_that_count.nd rfl (Or.inl rfl)) (pss_cons (ps_set (i := 5) sc_those_that_count.nd rfl (Or.inl rfl) (pe_call G_has_room (hr.mono (by decide)) rfl mg_has_room kp_has_room b_has_room .nil pass0 (pa_cons (pe_fld (pv 4) rfl) (pa_cons (pv 2) (pa_cons (pv 1) pa_nil)))))
      (Evl.pss_cut (ps_if (pt_val (pv 5)) (pss_one (ps_expr (pe_bm PySem.F.plainAttrs_list PySem.F.slot_list_append PySem.F.type_list_append mt_append (pv 2) (pa_cons (pe_fld (pv 4) rfl) pa_nil)))) pss_nil)
      (pss_one (ps_expr (pe_bm PySem.F.plainAttrs_list PySem.F.slot_list_append PySem.F.type_list_append mt_append (pv 3) (pa_cons (pv 5) pa_nil)))))))
      (pss_one (ps_ret (pv 3)))))), ?_⟩)
  obtain ⟨a, b, us, ts, rfl, hS, hA, hl, k⟩ := h
  have hlen := hA.len
  refine ⟨Nat.zero_le _, fun r hr0 => ?_⟩
  refine ⟨Nat.zero_le _, fun f0 hf0 => ?_⟩
  have nrf : f0 ≠ r := fun e => by rw [e, upd_same] at hf0; cases hf0
  have hf1 : H f0 = none := by rw [upd_ne nrf] at hf0; exact hf0
  refine ⟨_, rfl, a, rfl, ⟨_, Evl.ex_l ((Ex.one hr0).trans (Ex.one hf0)) hS⟩, for_list (K := K) (a := a) (xs := us)
    (fun i σ H' => ∃ v v2 acc ahead bs, σ = [some (.ref a), some (fv b), some (.ref r), some (.ref f0), v, v2] ∧ Ex H H' ∧ H' r = some (.lst acc) ∧ All2 (ElemAt A H) acc ahead ∧ H' f0 = some (.lst (bs.map V.bl)) ∧ ahead.length ≤ i ∧ bs.length = i ∧ i ≤ ts.length ∧
      countsL b [] (ts.map (·.element)) = bs ++ countsL b ahead ((ts.drop i).map (·.element)))
    ⟨none, none, [], [], [], rfl, (Ex.one hr0).trans (Ex.one hf0), by rw [upd_ne (Ne.symm nrf)]; exact upd_same, .nil, upd_same, Nat.le_refl _, rfl, Nat.zero_le _, rfl⟩ (fun i σ H' _ ⟨_, _, _, _, _, _, e5, _⟩ => Evl.ex_l e5 hS) ?_ ?_⟩
  · rintro i y σ H' hi ⟨v, v2, acc, ahead, bs, rfl, e5, h1, hacc, h2, hal, hbs, hit, heq⟩
    obtain ⟨t, ht, p, dx, ve, g, rfl, z1, z2, z3⟩ := hA.get hi
    have hlt := (List.getElem?_eq_some_iff.mp ht).1
    have dr : ts.drop i = t :: ts.drop (i + 1) := by
      rw [List.drop_eq_getElem_cons hlt]
      congr 1
      exact (List.getElem?_eq_some_iff.mp ht).2
    rw [dr, List.map_cons] at heq
    have hacl := hacc.len
    refine ⟨_, rfl, p, _, dx, _, _, rfl, e5 _ _ z1, T.cl_Telling, T.na_Telling_element, rfl, _, rfl, _, rfl, ?_⟩
    refine ⟨ve, r, b, t.element, acc, ahead, rfl, z2.mono e5, SqL.of h1, hacc.mono fun _ _ => ElemAt.mono e5, by omega, fun H1 e1 => ?_⟩
    have ed : Ex H H1 := e5.trans e1
    have unf : countsL b ahead (t.element :: (ts.drop (i + 1)).map (·.element)) = hasRoom b ahead t.element :: countsL b (if hasRoom b ahead t.element = true then ahead ++ [t.element] else ahead) ((ts.drop (i + 1)).map (·.element)) := rfl
    rw [unf] at heq
    refine ⟨fun σ' H2 => ∃ acc2 ahead2, σ' = [some (.ref a), some (fv b), some (.ref r), some (.ref f0), some (.ref p), some (.bl (hasRoom b ahead t.element))] ∧ Ex H H2 ∧ H2 r = some (.lst acc2) ∧ All2 (ElemAt A H) acc2 ahead2 ∧ H2 f0 = some (.lst (bs.map V.bl)) ∧ ahead2 = (if hasRoom b ahead t.element = true then ahead ++ [t.element] else ahead), ?_, ?_⟩
    · refine ⟨_, rfl, _, rfl, ?_⟩
      cases c : hasRoom b ahead t.element with
      | true =>
        refine ⟨_, rfl, .inl ⟨rfl, _, SqL.of (e1 _ _ h1)⟩, _, rfl, p, _, dx, _, _, rfl, ed _ _ z1, T.cl_Telling, T.na_Telling_element, rfl, r, _, _, rfl, rfl, e1 _ _ h1, ?_, ?_⟩
        · rw [hacl]
          exact Nat.lt_of_le_of_lt (m := 20) (by omega) (by decide)
        · refine ⟨_, _, rfl, fun q o e => ?_, upd_same, hacc.snoc z2, ?_, rfl⟩
          · rw [upd_ne (ne_of_none e hr0)]
            exact ed q o e
          · rw [upd_ne nrf]
            exact e1 _ _ h2
      | false => exact ⟨acc, ahead, rfl, ed, e1 _ _ h1, hacc, e1 _ _ h2, rfl⟩
    · rintro σ' H2 ⟨acc2, ahead2, rfl, e6, h3, hacc2, h4, hah⟩
      refine ⟨_, rfl, .inl ⟨rfl, _, SqL.of h4⟩, _, rfl, f0, _, _, rfl, rfl, h4, ?_, ?_⟩
      · rw [List.length_map, hbs]
        exact Nat.lt_of_le_of_lt (m := 20) (by omega) (by decide)
      · refine ⟨_, _, acc2, ahead2, bs ++ [hasRoom b ahead t.element], rfl, fun q o e => ?_, ?_, hacc2, ?_, ?_, ?_, hlt, ?_⟩
        · rw [upd_ne (ne_of_none e hf1)]
          exact e6 q o e
        · rw [upd_ne (Ne.symm nrf)]
          exact h3
        · rw [upd_same, List.map_append] <;> rfl
        · rw [hah]
          split
          · rw [List.length_append]
            simp only [List.length_cons, List.length_nil]
            omega
          · omega
        · rw [List.length_append, hbs] <;> rfl
        · rw [heq, ← hah, List.append_assoc] <;> rfl
  · rintro σ H' ⟨v, v2, acc, ahead, bs, rfl, e5, h1, hacc, h2, hal, hbs, hit, heq⟩
    refine ⟨_, rfl, k f0 H' hf1 e5 ?_⟩
    rw [hlen, List.drop_length] at heq
    rw [heq, h2]
    simp [countsL]
end
end Sk
set_option maxHeartbeats 2000000
namespace Sk
open PySem PySem.Spec PyProof.Rows L2
open Evl (Ex)
abbrev st_share_left : Stmt := top 87
theorem sc_share_left : FnScope ["ahead", "in_row", "free"] ["ahead", "in_row", "free"] (defScope st_share_left) := ⟨rfl, rfl, rfl, by decide +kernel, rfl, by decide +kernel, by decide +kernel⟩
abbrev st_GoneBy_take : Stmt := inClass (top 86) 1
theorem sc_GoneBy_take : FnScope ["self", "jump", "in_row", "ahead", "share"] ["self", "jump", "in_row"] (defScope st_GoneBy_take) := ⟨rfl, rfl, rfl, by decide +kernel, rfl, by decide +kernel, by decide +kernel⟩
abbrev st_value_of_jumps : Stmt := top 94
theorem sc_value_of_jumps : FnScope ["jumps", "gone_by", "in_row", "worth", "goes_by", "jump", "share"] ["jumps", "gone_by"] (defScope st_value_of_jumps) := ⟨rfl, rfl, rfl, by decide +kernel, rfl, by decide +kernel, by decide +kernel⟩
abbrev st_value_of : Stmt := top 93
theorem sc_value_of : FnScope ["element", "counts", "gone_by"] ["element", "counts", "gone_by"] (defScope st_value_of) := ⟨rfl, rfl, rfl, by decide +kernel, rfl, by decide +kernel, by decide +kernel⟩
/-! ### the mirror -/
abbrev Done := List ((Nat × Nat) × Bool)
def ofKey (done : Done) (k t : Nat) : List Bool := (done.filter fun x => x.1 == (k, t)).map (·.2)
def mostT (b : Bool) : Nat := if b = true then 2 else 1
def shareOf (free inRow : Bool) (bs : List Bool) : Nat := if bs.length = mostT free then 0 else if bs.length = 1 ∧ bs.getD 0 true = false ∧ inRow = false then 70 else 100
def stepS (free inRow : Bool) (done : Done) (j : Kg56.Jump) : Nat := if j.turns < 3 then 100 else shareOf free inRow (ofKey done j.kind j.turns)
def stepD (free inRow : Bool) (done : Done) (j : Kg56.Jump) : Done := if j.turns < 3 then done else if shareOf free inRow (ofKey done j.kind j.turns) = 0 then done else done ++ [((j.kind, j.turns), inRow)]
def runJ (free inRow : Bool) : Nat → Nat → Done → List Kg56.Jump → Nat × Nat × Done
  | w, g, done, [] => (w, g, done)
  | w, g, done, j :: r => runJ free inRow (w + Kg56.part j.worth (stepS free inRow done j)) (if 0 < stepS free inRow done j then max g j.worth else g) (stepD free inRow done j) r
def valE (free : Bool) (done : Done) (e : Kg56.Element) (c : Bool) : Nat × Nat × Done := if c = false then (0, 0, done) else match e with
  | .jumps l => runJ free (decide (2 ≤ l.length)) 0 0 done l
  | .spin n v => (Kg56.spinWorth n v, Kg56.spinWorth n v, done)
  | .steps v => (Kg56.stepsWorth v, Kg56.stepsWorth v, done)
  | .choreo => (200, 200, done)
theorem shareOf_le (free inRow : Bool) (bs : List Bool) : shareOf free inRow bs ≤ 1000 := by
  unfold shareOf
  split
  · omega
  · split <;> omega
theorem stepS_le (free inRow : Bool) (done : Done) (j : Kg56.Jump) : stepS free inRow done j ≤ 1000 := by
  unfold stepS
  split
  · omega
  · exact shareOf_le _ _ _
theorem ofKey_app (done : Done) (k t k' t' : Nat) (r : Bool) : ofKey (done ++ [((k', t'), r)]) k t = ofKey done k t ++ (if k' = k ∧ t' = t then [r] else []) := by
  unfold ofKey
  rw [List.filter_append, List.map_append]
  congr 1
  by_cases c : k' = k ∧ t' = t
  · rw [if_pos c, List.filter_cons, if_pos (by obtain ⟨rfl, rfl⟩ := c; exact beq_self_eq_true _)]
    rfl
  · rw [if_neg c, List.filter_cons, if_neg (by
      intro h
      have := eq_of_beq h
      exact c ⟨congrArg Prod.fst this, congrArg Prod.snd this⟩)]
    rfl
/-! ### the jumps gone by, in the heap -/
abbrev kk (k t : Nat) : List Key := [.inl (k : Int), .inl (t : Int)]
theorem kk_inj {k t k' t' : Nat} (h : kk k t = kk k' t') : k = k' ∧ t = t' := by
  simp only [kk, List.cons.injEq, Sum.inl.injEq, and_true] at h
  omega
def GoneAt (A : Ads) (M : Addr → Prop) (H : Hp) (p : Addr) (b : Bool) (done : Done) (n : Nat) : Prop := ∃ dx d kvs, H p = some (.ins A.cGoneBy dx [("free", fv b), ("in_rows", .ref d)]) ∧ H d = some (.dT kvs) ∧ M d ∧ kvs.length ≤ n ∧
  (∀ k t : Nat, (valV kvs (kk k t) = none ∧ ofKey done k t = []) ∨ ∃ l, valV kvs (kk k t) = some (.ref l) ∧ M l ∧ H l = some (.lst ((ofKey done k t).map V.bl))) ∧
  (∀ k t k' t' l, valV kvs (kk k t) = some (.ref l) → valV kvs (kk k' t') = some (.ref l) → k = k' ∧ t = t') ∧ (∀ k t, (ofKey done k t).length ≤ mostT b) ∧ ∀ q, M q → H q ≠ none
/-- all stands but M's, M has grown by what's new alone -/
def Fr (M M' : Addr → Prop) (H H' : Hp) : Prop := (∀ q o, H q = some o → ¬ M q → H' q = some o) ∧ (∀ q, M q → M' q) ∧ (∀ q, M' q → M q ∨ H q = none) ∧ (∀ q, H q ≠ none → H' q ≠ none)
theorem Fr.refl (M : Addr → Prop) (H : Hp) : Fr M M H H := ⟨fun _ _ e _ => e, fun _ e => e, fun _ e => .inl e, fun _ e => e⟩
theorem Fr.trans {M M1 M2 : Addr → Prop} {H H1 H2 : Hp} (f : Fr M M1 H H1) (g : Fr M1 M2 H1 H2) : Fr M M2 H H2 := by
  refine ⟨fun q o e hm => ?_, fun q e => g.2.1 q (f.2.1 q e), fun q e => ?_, fun q e => g.2.2.2 q (f.2.2.2 q e)⟩
  · refine g.1 q o (f.1 q o e hm) fun hm1 => ?_
    rcases f.2.2.1 q hm1 with h | h
    · exact hm h
    · rw [e] at h; cases h
  · rcases g.2.2.1 q e with h | h
    · exact f.2.2.1 q h
    · refine .inr ?_
      cases c : H q with
      | none => rfl
      | some o => exact absurd h (f.2.2.2 q (by rw [c]; intro z; cases z))
theorem Fr.ex {M : Addr → Prop} {H H' : Hp} (e : Ex H H') : Fr M M H H' := ⟨fun q o h _ => e q o h, fun _ h => h, fun _ h => .inl h, fun q h => by
  cases c : H q with
  | none => exact absurd c h
  | some o => rw [e q o c]; intro z; cases z⟩
open Classical in
/-- what stands outside of M -/
noncomputable def fz (M : Addr → Prop) (H : Hp) : Hp := fun b => if M b then none else H b
theorem fz_in {M : Addr → Prop} {H : Hp} : Ex (fz M H) H := fun b o e => by
  unfold fz at e
  split at e
  · cases e
  · exact e
theorem fz_of {M : Addr → Prop} {H : Hp} {b : Addr} {o : HO} (hm : ¬ M b) (e : H b = some o) : fz M H b = some o := by
  unfold fz
  rw [if_neg hm]
  exact e
theorem fz_out {M : Addr → Prop} {H : Hp} {b : Addr} {o : HO} (e : fz M H b = some o) : ¬ M b := by
  unfold fz at e
  split at e
  · cases e
  · assumption
theorem fz_fr {M M' : Addr → Prop} {H H' : Hp} (f : Fr M M' H H') : Ex (fz M H) (fz M' H') := fun b o e => by
  have h1 := fz_out e
  have h2 := fz_in b o e
  refine fz_of (fun hm => ?_) (f.1 b o h2 h1)
  rcases f.2.2.1 b hm with h | h
  · exact h1 h
  · rw [h2] at h; cases h
def sp_share_left (K : PySem.W.Frag) : Sp := fun vs H Q _ => ∃ (a : Addr) (bs : List Bool) (r b : Bool), vs = [.ref a, .bl r, fv b] ∧ SqL K H a (bs.map V.bl) ∧ Q (.int (shareOf b r bs : Nat)) H
def sp_GoneBy_take (K : PySem.W.Frag) (A : Ads) : Sp := fun vs H Q _ => ∃ (p : Addr) (v : V) (r b : Bool) (j : Kg56.Jump) (M : Addr → Prop) (done : Done) (n : Nat), vs = [.ref p, v, .bl r] ∧ JumpAt A H v j ∧ GoneAt A M H p b done n ∧ n < 1000 ∧
  ∀ M' H', Fr M M' H H' → GoneAt A M' H' p b (stepD b r done j) (n + 1) → Q (.int (stepS b r done j : Nat)) H'
def ValAt (A : Ads) (H : Hp) (v : V) (x : Nat × Nat) : Prop := ∃ p dx, v = .ref p ∧ H p = some (.ins A.cValue dx [("worth", .int (x.1 : Nat)), ("goes_by", .int (x.2 : Nat))])
def sp_value_of_jumps (K : PySem.W.Frag) (A : Ads) : Sp := fun vs H Q _ => ∃ (q p : Addr) (us : List V) (js : List Kg56.Jump) (b : Bool) (M : Addr → Prop) (done : Done) (n : Nat), vs = [.ref q, .ref p] ∧ fz M H q = some (.lst us) ∧ All2 (JumpAt A (fz M H)) us js ∧ js.length ≤ 3 ∧
  GoneAt A M H p b done n ∧ n < 900 ∧ ∀ M' H' x, Fr M M' H H' → GoneAt A M' H' p b (runJ b (decide (2 ≤ js.length)) 0 0 done js).2.2 (n + 3) → H x = none → ¬ M' x → ValAt A H' (.ref x) ((runJ b (decide (2 ≤ js.length)) 0 0 done js).1, (runJ b (decide (2 ≤ js.length)) 0 0 done js).2.1) → Q (.ref x) H'
def sp_value_of (K : PySem.W.Frag) (A : Ads) : Sp := fun vs H Q _ => ∃ (v : V) (p : Addr) (e : Kg56.Element) (c b : Bool) (M : Addr → Prop) (done : Done) (n : Nat), vs = [v, .bl c, .ref p] ∧ ElemAt A (fz M H) v e ∧ ElemOk e ∧
  GoneAt A M H p b done n ∧ n < 900 ∧ ∀ M' H' x, Fr M M' H H' → GoneAt A M' H' p b (valE b done e c).2.2 (n + 3) → H x = none → ¬ M' x → ValAt A H' (.ref x) ((valE b done e c).1, (valE b done e c).2.1) → Q (.ref x) H'
section
variable {P : Program} {w : World} {K : PySem.W.Frag} {mg : Str → Option Value} {base : Heap} {A : Ads}
theorem ok_share_left (T : Txt K w mg A) (F0 : FunF K mg "share_left" st_share_left) : CalF P w K mg base CX0 1 "share_left" ["ahead", "in_row", "free"] (sp_share_left K) := by
  obtain ⟨f, fd, F, gF⟩ := F0
  refine ⟨f, fd, ?_, gF, F.kp, F.binds (ps := ["ahead", "in_row", "free"]) fun _ _ _ _ _ _ us hl => match us, hl with | [_, _, _], _ => rfl⟩
  refine F.ok sc_share_left (fun vs H Q E h => by first | (obtain ⟨rfl, _⟩ := h; rfl) | (obtain ⟨_, rfl, _⟩ := h; rfl) | (obtain ⟨_, _, rfl, _⟩ := h; rfl) | (obtain ⟨_, _, _, rfl, _⟩ := h; rfl) | (obtain ⟨_, _, _, _, rfl, _⟩ := h; rfl) | (obtain ⟨_, _, _, _, _, rfl, _⟩ := h; rfl) | (obtain ⟨_, _, _, _, _, _, rfl, _⟩ := h; rfl) | (obtain ⟨_, _, _, _, _, _, _, rfl, _⟩ := h; rfl) | (obtain ⟨_, _, _, _, _, _, _, _, rfl, _⟩ := h; rfl) | (obtain ⟨_, _, _, _, _, _, _, _, _, rfl, _⟩ := h; rfl) | (obtain ⟨_, _, _, _, _, _, _, _, _, _, rfl, _⟩ := h; rfl)) (fun cdv AA outer s H vs Q E hr h => ⟨_, (Evl.pss_cut (ps_if (pt_cmpR op_eq (pe_callB call_len_seq (by rfl) T.b_len (by decide +kernel) (pa_cons (pv 0) pa_nil)) (pe_ix ix_tup (pe_globR T.k_MOST_TIMES.1) (pv 2) (fun _ _ => rfl)) (nomark _)) (pss_one (ps_ret pe_int)) pss_nil)
      (Evl.pss_cut (ps_if (PW.pt (pw_and (pt_cmpR op_eq (pe_callB call_len_seq (by rfl) T.b_len (by decide +kernel) (pa_cons (pv 0) pa_nil)) pe_int (nomark _)) (pw_and (pt_not (pt_val (pe_ix ix_list (pv 0) pe_int (fun _ _ => rfl)))) (pw_and1 (pt_not (pt_val (pv 1))))))) (pss_one (ps_ret (pe_globI T.k_SECOND_BY_ITSELF))) pss_nil)
      (pss_one (ps_ret (pe_globI T.k_WHOLE))))), ?_⟩)
  obtain ⟨a, bs, r, b, rfl, hS, k⟩ := h
  obtain ⟨m1, m2⟩ := fi_tup T.k_MOST_TIMES.2 H b
  have e2 : (if b = true then 2 else 1 : Int) = ((mostT b : Nat) : Int) := by cases b <;> rfl
  rw [e2] at m2
  unfold shareOf at k
  refine ⟨fun σ' H' => σ' = [some (.ref a), some (.bl r), some (fv b)] ∧ H' = H ∧ ¬ bs.length = mostT b, ?_, ?_⟩
  · refine ⟨_, rfl, a, _, rfl, .inl hS, _, rfl, _, _, _, _, rfl, rfl, m1, m2, rfl, _, rfl, ?_⟩
    rw [List.length_map]
    by_cases c : bs.length = mostT b
    · rw [iT (by omega)]
      rw [if_pos c] at k
      exact k
    · rw [iF (by omega)]
      exact ⟨rfl, rfl, c⟩
  · rintro σ' H' ⟨rfl, rfl, hn⟩
    rw [if_neg hn] at k
    refine ⟨fun σ' H2 => σ' = [some (.ref a), some (.bl r), some (fv b)] ∧ H2 = H' ∧ ¬ (bs.length = 1 ∧ bs.getD 0 true = false ∧ r = false), ?_, ?_⟩
    · refine ⟨_, rfl, a, _, rfl, .inl hS, rfl, _, rfl, ?_⟩
      rw [List.length_map]
      by_cases c : bs.length = 1
      · rw [iT (by omega)]
        obtain ⟨x, rfl⟩ : ∃ x, bs = [x] := by
          cases bs with
          | nil => cases c
          | cons x l => cases l with
            | nil => exact ⟨x, rfl⟩
            | cons y l => simp at c
        refine ⟨_, rfl, _, _, 0, _, rfl, rfl, hS, (atI_nat (j := 0) (show ([x].map V.bl)[0]? = some (V.bl x) from rfl) : atI _ ((0 : Nat) : Int) = some (V.bl x)), _, rfl, ?_⟩
        cases x with
        | true => exact ⟨rfl, rfl, fun q => Bool.noConfusion q.2.1⟩
        | false =>
          refine ⟨_, rfl, _, rfl, ?_⟩
          cases r with
          | true => exact ⟨rfl, rfl, fun q => Bool.noConfusion q.2.2⟩
          | false =>
            rw [if_pos ⟨rfl, rfl, rfl⟩] at k
            exact k
      · rw [iF (by omega)]
        exact ⟨rfl, rfl, fun q => c q.1⟩
    · rintro σ' H2 ⟨rfl, rfl, hn2⟩
      rw [if_neg hn2] at k
      exact k
theorem GoneAt.le {M : Addr → Prop} {H : Hp} {p : Addr} {b : Bool} {done : Done} {n m : Nat} (h : n ≤ m) (g : GoneAt A M H p b done n) : GoneAt A M H p b done m := by
  obtain ⟨dx, d, kvs, g1, g2, g3, g4, g5⟩ := g
  exact ⟨dx, d, kvs, g1, g2, g3, Nat.le_trans g4 h, g5⟩
theorem GoneAt.ex {M : Addr → Prop} {H H' : Hp} {p : Addr} {b : Bool} {done : Done} {n : Nat} (e : Ex H H') (g : GoneAt A M H p b done n) : GoneAt A M H' p b done n := by
  obtain ⟨dx, d, kvs, g1, g2, g3, g4, g5, g6, g7, g8⟩ := g
  refine ⟨dx, d, kvs, e _ _ g1, e _ _ g2, g3, g4, fun k t => ?_, g6, g7, fun q hq => ?_⟩
  · rcases g5 k t with h | ⟨l, h1, h2, h3⟩
    · exact .inl h
    · exact .inr ⟨l, h1, h2, e _ _ h3⟩
  · cases c : H q with
    | none => exact absurd c (g8 q hq)
    | some o => rw [e q o c]; intro z; cases z
theorem valV_put_same {kvs : List (List Key × V)} {k : List Key} {v : V} (h : valV kvs k = none) : valV (putK kvs k v) k = some v := by
  unfold putK
  rw [if_neg (by rw [valV_any, h]; decide)]
  unfold valV at h ⊢
  have h : kvs.find? (fun kv => decide (kv.1 = k)) = none := by simpa using h
  rw [List.find?_append, h]
  simp
theorem valV_put_ne {kvs : List (List Key × V)} {k k' : List Key} {v : V} (h : valV kvs k = none) (hn : ¬ k = k') : valV (putK kvs k v) k' = valV kvs k' := by
  unfold putK
  rw [if_neg (by rw [valV_any, h]; decide)]
  unfold valV
  rw [List.find?_append]
  cases kvs.find? (fun kv => decide (kv.1 = k')) with
  | some x => rfl
  | none => simp [hn]
theorem putK_len {kvs : List (List Key × V)} {k : List Key} {v : V} : (putK kvs k v).length ≤ kvs.length + 1 := length_putK kvs k v
theorem ok_GoneBy_take (T : Txt K w mg A) (F0 : FunM K A.cGoneBy "take" "GoneBy.take" st_GoneBy_take)
    (c_share_left : CalF P w K mg base CX0 1 "share_left" ["ahead", "in_row", "free"] (sp_share_left K)) : CalM P w K mg base CX0 2 A.cGoneBy "take" ["self", "jump", "in_row"] (sp_GoneBy_take K A) := by
  obtain ⟨f_share_left, fd_share_left, G_share_left, mg_share_left, kp_share_left, b_share_left⟩ := c_share_left
  obtain ⟨f, fd, F, gF⟩ := F0
  refine ⟨f, fd, ?_, gF, F.binds (ps := ["self", "jump", "in_row"]) fun _ _ _ _ _ _ us hl => match us, hl with | [_, _, _], _ => rfl⟩
  refine F.ok sc_GoneBy_take (fun vs H Q E h => by first | (obtain ⟨rfl, _⟩ := h; rfl) | (obtain ⟨_, rfl, _⟩ := h; rfl) | (obtain ⟨_, _, rfl, _⟩ := h; rfl) | (obtain ⟨_, _, _, rfl, _⟩ := h; rfl) | (obtain ⟨_, _, _, _, rfl, _⟩ := h; rfl) | (obtain ⟨_, _, _, _, _, rfl, _⟩ := h; rfl) | (obtain ⟨_, _, _, _, _, _, rfl, _⟩ := h; rfl) | (obtain ⟨_, _, _, _, _, _, _, rfl, _⟩ := h; rfl) | (obtain ⟨_, _, _, _, _, _, _, _, rfl, _⟩ := h; rfl) | (obtain ⟨_, _, _, _, _, _, _, _, _, rfl, _⟩ := h; rfl) | (obtain ⟨_, _, _, _, _, _, _, _, _, _, rfl, _⟩ := h; rfl)) (fun cdv AA outer s H vs Q E hr h => ⟨_, (pss_cons (ps_if (pt_cmpR op_lt (pe_fld (pv 1) rfl) (pe_globI T.k_LEAST_TURNS) (nomark _)) (pss_one (ps_ret (pe_globI T.k_WHOLE))) pss_nil)
      (Evl.pss_cut (ps_set (i := 3) sc_GoneBy_take.nd rfl (Or.inl rfl) (pe_dsetdT (hu_of hr) (pe_fld (pv 0) rfl) (pe_tup (pa_cons (pe_fld (pv 1) rfl) (pa_cons (pe_fld (pv 1) rfl) pa_nil))) (pe_lst pa_nil) (by exact ⟨rfl, rfl, rfl, rfl⟩)))
      (pss_cons (ps_set (i := 4) sc_GoneBy_take.nd rfl (Or.inl rfl) (pe_call G_share_left (hr.mono (by decide)) rfl mg_share_left kp_share_left b_share_left .nil pass0 (pa_cons (pv 3) (pa_cons (pv 2) (pa_cons (pe_fld (pv 0) rfl) pa_nil)))))
      (Evl.pss_cut (ps_if (pt_cmpR op_gt (pv 4) pe_int (nomark _)) (pss_one (ps_expr (pe_bm PySem.F.plainAttrs_list PySem.F.slot_list_append PySem.F.type_list_append mt_append (pv 3) (pa_cons (pv 2) pa_nil)))) pss_nil)
      (pss_one (ps_ret (pv 4))))))), ?_⟩)
  obtain ⟨p, v, r, b, j, M, done, n, rfl, ⟨pj, dj, rfl, hj⟩, g, hn, k⟩ := h
  have gg := g
  obtain ⟨dx, d, kvs, g1, g2, g3, g4, g5, g6, g7, g8⟩ := g
  have e3 : ((3 : Int)) = ((3 : Nat) : Int) := rfl
  unfold stepS stepD at k
  refine ⟨_, rfl, pj, _, dj, _, _, rfl, hj, T.cl_Jump, T.na_Jump_turns, rfl, _, _, rfl, rfl, _, rfl, ?_⟩
  by_cases c : j.turns < 3
  · rw [decide_eq_true (by omega)]
    rw [if_pos c, if_pos c] at k
    exact k M H (Fr.refl M H) (gg.le (Nat.le_succ n))
  · rw [decide_eq_false (by omega)]
    rw [if_neg c, if_neg c] at k
    refine ⟨fun σ' H' => ∃ M' kvs' l, σ' = [some (.ref p), some (.ref pj), some (.bl r), some (.ref l), none] ∧ Fr M M' H H' ∧ H' p = some (.ins A.cGoneBy dx [("free", fv b), ("in_rows", .ref d)]) ∧ H' d = some (.dT kvs') ∧ M' d ∧ kvs'.length ≤ n + 1 ∧
      (∀ k t : Nat, (valV kvs' (kk k t) = none ∧ ofKey done k t = []) ∨ ∃ l, valV kvs' (kk k t) = some (.ref l) ∧ M' l ∧ H' l = some (.lst ((ofKey done k t).map V.bl))) ∧
      (∀ k t k' t' l, valV kvs' (kk k t) = some (.ref l) → valV kvs' (kk k' t') = some (.ref l) → k = k' ∧ t = t') ∧ valV kvs' (kk j.kind j.turns) = some (.ref l) ∧ (∀ q, M' q → H' q ≠ none), ?_, ?_⟩
    · refine ⟨_, rfl, p, _, dx, _, _, rfl, g1, T.cl_GoneBy, T.na_GoneBy_in_rows, rfl, d, rfl, ⟨_, g2⟩, ?_⟩
      refine ⟨_, rfl, pj, _, dj, _, _, rfl, hj, T.cl_Jump, T.na_Jump_kind, rfl, _, rfl, pj, _, dj, _, _, rfl, hj, T.cl_Jump, T.na_Jump_turns, rfl, by show 2 ≤ sizeLine; decide, fun t ht => ?_⟩
      refine ⟨Nat.zero_le _, fun z hz => ?_⟩
      have ntz : t ≠ z := fun e => by rw [← e, upd_same] at hz; cases hz
      have hz0 : H z = none := by rw [upd_ne (Ne.symm ntz)] at hz; exact hz
      have ex2 := (Ex.one (o := .tup [.int (j.kind : Nat), .int (j.turns : Nat)]) ht).trans (Ex.one (o := .lst []) hz)
      refine ⟨kvs, kk j.kind j.turns, t, ex2 _ _ g2, rfl, by rw [upd_ne ntz]; exact upd_same, Nat.lt_of_le_of_lt (m := 1000) (by omega) (by decide), fun v hv => ?_, fun hv => ?_⟩
      · rcases g5 j.kind j.turns with ⟨h1, _⟩ | ⟨l, h1, h2, h3⟩
        · rw [h1] at hv; cases hv
        · rw [h1] at hv
          cases hv
          refine ⟨M, kvs, l, rfl, Fr.ex ex2, ex2 _ _ g1, ex2 _ _ g2, g3, by omega, fun k t => ?_, g6, h1, fun q hq => (Fr.ex (M := M) ex2).2.2.2 q (g8 q hq)⟩
          rcases g5 k t with q | ⟨l', q1, q2, q3⟩
          · exact .inl q
          · exact .inr ⟨l', q1, q2, ex2 _ _ q3⟩
      · have hemp : ofKey done j.kind j.turns = [] := by
          rcases g5 j.kind j.turns with ⟨_, h⟩ | ⟨l, h1, _⟩
          · exact h
          · rw [h1] at hv; cases hv
        have nd : d ≠ z := ne_of_none g2 hz0
        refine ⟨fun q => M q ∨ q = z, putK kvs (kk j.kind j.turns) (.ref z), z, rfl, ⟨fun q o e hm => ?_, fun q e => .inl e, fun q e => ?_, fun q e => ?_⟩, ?_, upd_same, .inl g3, Nat.le_trans putK_len (by omega), fun k t => ?_, fun k t k' t' l h1 h2 => ?_, valV_put_same hv, fun q hq => ?_⟩
        · rw [upd_ne (show q ≠ d from fun e2 => by subst e2; exact hm g3)]
          exact ex2 _ _ e
        · rcases e with e | e
          · exact .inl e
          · exact .inr (e ▸ hz0)
        · by_cases cq : q = d
          · subst cq; rw [upd_same]; intro z; cases z
          · rw [upd_ne cq]
            cases cc : H q with
            | none => exact absurd cc e
            | some o => rw [ex2 _ _ cc]; intro z; cases z
        · rw [upd_ne (ne_of g1 g2 (by intro z; cases z))]
          exact ex2 _ _ g1
        · by_cases ck : kk j.kind j.turns = kk k t
          · obtain ⟨rfl, rfl⟩ := kk_inj ck
            refine .inr ⟨z, valV_put_same hv, .inr rfl, ?_⟩
            rw [upd_ne (Ne.symm nd), upd_same, hemp] <;> rfl
          · rw [valV_put_ne hv ck]
            rcases g5 k t with q | ⟨l', q1, q2, q3⟩
            · exact .inl q
            · refine .inr ⟨l', q1, .inl q2, ?_⟩
              rw [upd_ne (ne_of q3 g2 (by intro z; cases z))]
              exact ex2 _ _ q3
        · have isz : ∀ k t, valV (putK kvs (kk j.kind j.turns) (.ref z)) (kk k t) = some (.ref z) → kk j.kind j.turns = kk k t := fun k t h => by
            by_cases ck : kk j.kind j.turns = kk k t
            · exact ck
            · rw [valV_put_ne hv ck] at h
              rcases g5 k t with ⟨q, _⟩ | ⟨l', q1, q2, q3⟩
              · rw [q] at h; cases h
              · rw [q1] at h
                cases h
                rw [hz0] at q3
                cases q3
          by_cases ck : kk j.kind j.turns = kk k t
          · rw [← ck, valV_put_same hv] at h1
            cases h1
            have := isz k' t' h2
            exact kk_inj (ck.symm.trans this)
          · by_cases ck' : kk j.kind j.turns = kk k' t'
            · rw [← ck', valV_put_same hv] at h2
              cases h2
              exact kk_inj ((isz k t h1).symm.trans ck')
            · rw [valV_put_ne hv ck] at h1
              rw [valV_put_ne hv ck'] at h2
              exact g6 k t k' t' l h1 h2
        · have hd : ∀ q, H q ≠ none → upd (upd (upd H t (.tup [.int (j.kind : Nat), .int (j.turns : Nat)])) z (.lst [])) d (.dT (putK kvs (kk j.kind j.turns) (.ref z))) q ≠ none := fun q e => by
            by_cases cq : q = d
            · subst cq; rw [upd_same]; intro z; cases z
            · rw [upd_ne cq]
              cases cc : H q with
              | none => exact absurd cc e
              | some o => rw [ex2 _ _ cc]; intro z; cases z
          rcases hq with h | h
          · exact hd q (g8 q h)
          · subst h
            rw [upd_ne (Ne.symm nd), upd_same]
            intro z; cases z
    · rintro σ' H' ⟨M', kvs', l, rfl, fr, q1, q2, q3, q4, q5, q6, q7, q8⟩
      obtain ⟨l', w1, w2, w3⟩ : ∃ l', valV kvs' (kk j.kind j.turns) = some (.ref l') ∧ M' l' ∧ H' l' = some (.lst ((ofKey done j.kind j.turns).map V.bl)) := by
        rcases q5 j.kind j.turns with ⟨h1, _⟩ | h
        · rw [q7] at h1; cases h1
        · exact h
      rw [q7] at w1
      cases w1
      refine ⟨_, rfl, _, rfl, _, rfl, p, _, dx, _, _, rfl, q1, T.cl_GoneBy, T.na_GoneBy_free, rfl, ?_⟩
      refine ⟨l, ofKey done j.kind j.turns, r, b, rfl, SqL.of w3, ?_⟩
      generalize hs : shareOf b r (ofKey done j.kind j.turns) = sh at k
      refine ⟨fun σ' H2 => σ' = [some (.ref p), some (.ref pj), some (.bl r), some (.ref l), some (.int (sh : Int))] ∧ ∃ M2, Fr M M2 H H2 ∧ GoneAt A M2 H2 p b (if sh = 0 then done else done ++ [((j.kind, j.turns), r)]) (n + 1), ?_, ?_⟩
      · refine ⟨_, rfl, _, _, rfl, rfl, _, rfl, ?_⟩
        by_cases c0 : sh = 0
        · rw [decide_eq_false (by omega)]
          refine ⟨rfl, M', fr, ?_⟩
          rw [if_pos c0]
          exact ⟨dx, d, kvs', q1, q2, q3, q4, q5, q6, g7, q8⟩
        · rw [decide_eq_true (by omega)]
          have hlt : (ofKey done j.kind j.turns).length < mostT b := by
            have h1 := g7 j.kind j.turns
            unfold shareOf at hs
            by_cases c1 : (ofKey done j.kind j.turns).length = mostT b
            · rw [if_pos c1] at hs; omega
            · omega
          have hm2 : mostT b ≤ 2 := by unfold mostT; split <;> omega
          refine ⟨_, rfl, .inl ⟨rfl, _, SqL.of w3⟩, _, rfl, l, _, _, rfl, rfl, w3, ?_, rfl, M', ?_, ?_⟩
          · rw [List.length_map]
            exact Nat.lt_of_le_of_lt (m := 2) (by omega) (by decide)
          · refine ⟨fun q o e hm => ?_, fr.2.1, fr.2.2.1, fun q e => ?_⟩
            · have e1 := fr.1 q o e hm
              have : q ≠ l := fun e2 => by
                subst e2
                rcases fr.2.2.1 q w2 with h | h
                · exact hm h
                · rw [e] at h; cases h
              rw [upd_ne this]
              exact e1
            · by_cases cq : q = l
              · subst cq; rw [upd_same]; intro z; cases z
              · rw [upd_ne cq]
                exact fr.2.2.2 q e
          · rw [if_neg c0]
            refine ⟨dx, d, kvs', ?_, ?_, q3, q4, fun k t => ?_, q6, fun k t => ?_, fun q e => ?_⟩
            · rw [upd_ne (ne_of q1 w3 (by intro z; cases z))]
              exact q1
            · rw [upd_ne (ne_of q2 w3 (by intro z; cases z))]
              exact q2
            · rw [ofKey_app]
              by_cases ck : j.kind = k ∧ j.turns = t
              · obtain ⟨rfl, rfl⟩ := ck
                rw [if_pos ⟨rfl, rfl⟩]
                refine .inr ⟨l, q7, w2, ?_⟩
                rw [upd_same, List.map_append] <;> rfl
              · rw [if_neg ck, List.append_nil]
                rcases q5 k t with h | ⟨l2, h1, h2, h3⟩
                · exact .inl h
                · refine .inr ⟨l2, h1, h2, ?_⟩
                  have : l2 ≠ l := fun e => by
                    subst e
                    exact ck (q6 _ _ _ _ _ q7 h1)
                  rw [upd_ne this]
                  exact h3
            · rw [ofKey_app]
              by_cases ck : j.kind = k ∧ j.turns = t
              · obtain ⟨rfl, rfl⟩ := ck
                rw [if_pos ⟨rfl, rfl⟩, List.length_append]
                simp only [List.length_cons, List.length_nil]
                omega
              · rw [if_neg ck, List.append_nil]
                exact g7 k t
            · by_cases cq : q = l
              · subst cq; rw [upd_same]; intro z; cases z
              · rw [upd_ne cq]
                exact q8 q e
      · rintro σ' H2 ⟨rfl, M2, fr2, g2'⟩
        exact ⟨_, rfl, k M2 H2 fr2 g2'⟩
theorem ok_value_of_jumps (T : Txt K w mg A) (F0 : FunF K mg "value_of_jumps" st_value_of_jumps)
    (c_GoneBy_take : CalM P w K mg base CX0 2 A.cGoneBy "take" ["self", "jump", "in_row"] (sp_GoneBy_take K A))
    (c_hundredths : CalF P w K mg base CX0 1 "hundredths" ["share", "number"] (sp_hundredths))
    (c_Value_init : CalI P w K mg base CX0 1 A.cValue ["self", "worth", "goes_by"] (sp_Value_init A)) : CalF P w K mg base CX0 3 "value_of_jumps" ["jumps", "gone_by"] (sp_value_of_jumps K A) := by
  obtain ⟨f_GoneBy_take, fd_GoneBy_take, G_GoneBy_take, m_GoneBy_take, b_GoneBy_take⟩ := c_GoneBy_take
  obtain ⟨f_hundredths, fd_hundredths, G_hundredths, mg_hundredths, kp_hundredths, b_hundredths⟩ := c_hundredths
  obtain ⟨f_Value_init, fd_Value_init, G_Value_init, M_Value, b_Value_init⟩ := c_Value_init
  obtain ⟨f, fd, F, gF⟩ := F0
  refine ⟨f, fd, ?_, gF, F.kp, F.binds (ps := ["jumps", "gone_by"]) fun _ _ _ _ _ _ us hl => match us, hl with | [_, _], _ => rfl⟩
  refine F.ok sc_value_of_jumps (fun vs H Q E h => by first | (obtain ⟨rfl, _⟩ := h; rfl) | (obtain ⟨_, rfl, _⟩ := h; rfl) | (obtain ⟨_, _, rfl, _⟩ := h; rfl) | (obtain ⟨_, _, _, rfl, _⟩ := h; rfl) | (obtain ⟨_, _, _, _, rfl, _⟩ := h; rfl) | (obtain ⟨_, _, _, _, _, rfl, _⟩ := h; rfl) | (obtain ⟨_, _, _, _, _, _, rfl, _⟩ := h; rfl) | (obtain ⟨_, _, _, _, _, _, _, rfl, _⟩ := h; rfl) | (obtain ⟨_, _, _, _, _, _, _, _, rfl, _⟩ := h; rfl) | (obtain ⟨_, _, _, _, _, _, _, _, _, rfl, _⟩ := h; rfl) | (obtain ⟨_, _, _, _, _, _, _, _, _, _, rfl, _⟩ := h; rfl)) (fun cdv AA outer s H vs Q E hr h => ⟨_, (pss_cons (ps_set (i := 2) sc_value_of_jumps.nd rfl (Or.inl rfl) (pe_cmpR op_ge (pe_callB call_len_seq (by rfl) T.b_len (by decide +kernel) (pa_cons (pv 0) pa_nil)) pe_int (nomark _)))
      (pss_cons (ps_set (i := 3) sc_value_of_jumps.nd rfl (Or.inl rfl) pe_int)
      (pss_cons (ps_set (i := 4) sc_value_of_jumps.nd rfl (Or.inl rfl) pe_int)
      (pss_cons (ps_for PassesOwn.never rfl (pi_list (pv 0)) (pg_name (i := 5) sc_value_of_jumps.nd rfl (Or.inl rfl)) (pss_cons (ps_set (i := 6) sc_value_of_jumps.nd rfl (Or.inl rfl) (pe_meth (pv 1) T.cl_GoneBy m_GoneBy_take G_GoneBy_take (hr.mono (by decide)) b_GoneBy_take .nil pass0 (pa_cons (pv 5) (pa_cons (pv 2) pa_nil))))
      (pss_cons (ps_set (i := 3) sc_value_of_jumps.nd rfl (Or.inl rfl) (pe_op op_add (pv 3) (pe_call G_hundredths (hr.mono (by decide)) rfl mg_hundredths kp_hundredths b_hundredths .nil pass0 (pa_cons (pv 6) (pa_cons (pe_fld (pv 5) rfl) pa_nil)))))
      (pss_one (ps_if (pt_cmpR op_gt (pv 6) pe_int (nomark _)) (pss_one (ps_set (i := 4) sc_value_of_jumps.nd rfl (Or.inl rfl) (pe_callB (call_max2 rfl) (by rfl) T.b_max (by decide +kernel) (pa_cons (pv 4) (pa_cons (pe_fld (pv 5) rfl) pa_nil))))) pss_nil)))))
      (pss_one (ps_ret (pe_make M_Value G_Value_init (hr.mono (by decide)) rfl T.g_Value b_Value_init .nil pass0 (pa_cons (pv 3) (pa_cons (pv 4) pa_nil))))))))), ?_⟩)
  obtain ⟨q, p, us, js, b, M, done, n, rfl, hq, hA, hl3, g, hn, k⟩ := h
  have hlen := hA.len
  generalize hin : decide (2 ≤ js.length) = inRow at k
  refine ⟨_, rfl, q, _, rfl, .inl (SqL.of (fz_in _ _ hq)), _, _, rfl, rfl, ?_⟩
  have e0 : V.bl (decide ((2 : Int) ≤ ((us.length : Nat) : Int))) = V.bl inRow := by rw [← hin, hlen]; exact congrArg V.bl (decide_eq_decide.mpr (by omega))
  refine ⟨_, rfl, q, rfl, ⟨_, SqL.of (fz_in _ _ hq)⟩, for_list (K := K) (a := q) (xs := us)
    (fun i σ H' => ∃ v5 v6 M' w g' done', σ = [some (.ref q), some (.ref p), some (.bl inRow), some (.int ((w : Nat) : Int)), some (.int ((g' : Nat) : Int)), v5, v6] ∧ Fr M M' H H' ∧ GoneAt A M' H' p b done' (n + i) ∧ i ≤ js.length ∧ runJ b inRow 0 0 done js = runJ b inRow w g' done' (js.drop i))
    ⟨none, none, M, 0, 0, done, by rw [← e0]; rfl, Fr.refl M H, g, Nat.zero_le _, rfl⟩ (fun i σ H' _ ⟨_, _, M', _, _, _, _, fr, _⟩ => SqL.of (fz_in _ _ (fz_fr fr _ _ hq))) ?_ ?_⟩
  · rintro i y σ H' hi ⟨v5, v6, M', w, g', done', rfl, fr, gg, hij, heq⟩
    obtain ⟨j, hj, hJ⟩ := hA.get hi
    have hlt := (List.getElem?_eq_some_iff.mp hj).1
    have dr : js.drop i = j :: js.drop (i + 1) := by
      rw [List.drop_eq_getElem_cons hlt]
      congr 1
      exact (List.getElem?_eq_some_iff.mp hj).2
    rw [dr] at heq
    have hJ' : JumpAt A (fz M' H') y j := hJ.mono (fz_fr fr)
    have gg' := gg
    obtain ⟨dx, d, kvs, g1, _⟩ := gg'
    refine ⟨_, rfl, p, dx, _, rfl, g1, rfl, _, rfl, _, rfl, ?_⟩
    refine ⟨p, y, inRow, b, j, M', done', n + i, rfl, hJ'.mono fz_in, gg, by omega, fun M2 H2 fr2 g2 => ?_⟩
    obtain ⟨pj, dj, rfl, hj2⟩ := (hJ'.mono (fz_fr fr2)).mono fz_in
    refine ⟨_, rfl, _, rfl, _, rfl, pj, _, dj, _, _, rfl, hj2, T.cl_Jump, T.na_Jump_worth, rfl, ?_⟩
    refine ⟨_, _, rfl, stepS_le _ _ _ _, _, _, rfl, rfl, ?_⟩
    generalize hst : stepS b inRow done' j = st
    have hun : runJ b inRow w g' done' (j :: js.drop (i + 1)) = runJ b inRow (w + Kg56.part j.worth st) (if 0 < st then max g' j.worth else g') (stepD b inRow done' j) (js.drop (i + 1)) := by
      rw [← hst]
      rfl
    rw [hun] at heq
    have ew : ((w : Nat) : Int) + ((Kg56.part j.worth st : Nat) : Int) = ((w + Kg56.part j.worth st : Nat) : Int) := by norm_cast
    refine ⟨_, rfl, _, _, rfl, rfl, _, rfl, ?_⟩
    by_cases c : 0 < st
    · rw [decide_eq_true (by omega)]
      rw [if_pos c] at heq
      refine ⟨_, rfl, _, rfl, pj, _, dj, _, _, rfl, hj2, T.cl_Jump, T.na_Jump_worth, rfl, _, _, rfl, ?_⟩
      refine ⟨some (.ref pj), some (.int (st : Int)), M2, _, _, _, ?_, fr.trans fr2, by rw [Nat.add_assoc] at g2; exact g2, hlt, heq⟩
      have em : (if ((j.worth : Nat) : Int) > ((g' : Nat) : Int) then ((j.worth : Nat) : Int) else ((g' : Nat) : Int)) = ((max g' j.worth : Nat) : Int) := by
        split <;> omega
      rw [← ew, ← em]
      rfl
    · rw [decide_eq_false (by omega)]
      rw [if_neg c] at heq
      refine ⟨some (.ref pj), some (.int (st : Int)), M2, _, _, _, ?_, fr.trans fr2, by rw [Nat.add_assoc] at g2; exact g2, hlt, heq⟩
      rw [← ew]
      rfl
  · rintro σ H' ⟨v5, v6, M', w, g', done', rfl, fr, gg, hij, heq⟩
    rw [hlen, List.drop_length] at heq
    have heq : runJ b inRow 0 0 done js = (w, g', done') := heq
    rw [heq] at k
    have gg' := gg
    obtain ⟨dx, d, kvs, g1, g2, g3, g4, g5, g6, g7, g8⟩ := gg'
    refine ⟨_, rfl, _, rfl, ?_⟩
    intro x dx2 nx nd ne
    refine ⟨_, _, make0 (vs := [.int ((w : Nat) : Int), .int ((g' : Nat) : Int)]) (fun x2 dx3 H2 hx2 e2 h2 => ?_) x dx2 nx nd ne⟩
    refine k M' H2 x2 (fr.trans (Fr.ex e2)) ((gg.ex e2).le (by omega)) ?_ (fun hm => g8 _ hm hx2) ⟨_, dx3, rfl, h2⟩
    cases cc : H x2 with
    | none => rfl
    | some o => exact absurd hx2 (fr.2.2.2 x2 (by rw [cc]; intro z; cases z))
theorem ok_value_of (T : Txt K w mg A) (F0 : FunF K mg "value_of" st_value_of)
    (c_Value_init : CalI P w K mg base CX0 1 A.cValue ["self", "worth", "goes_by"] (sp_Value_init A))
    (c_value_of_jumps : CalF P w K mg base CX0 3 "value_of_jumps" ["jumps", "gone_by"] (sp_value_of_jumps K A)) : CalF P w K mg base CX0 4 "value_of" ["element", "counts", "gone_by"] (sp_value_of K A) := by
  obtain ⟨f_Value_init, fd_Value_init, G_Value_init, M_Value, b_Value_init⟩ := c_Value_init
  obtain ⟨f_value_of_jumps, fd_value_of_jumps, G_value_of_jumps, mg_value_of_jumps, kp_value_of_jumps, b_value_of_jumps⟩ := c_value_of_jumps
  obtain ⟨f, fd, F, gF⟩ := F0
  refine ⟨f, fd, ?_, gF, F.kp, F.binds (ps := ["element", "counts", "gone_by"]) fun _ _ _ _ _ _ us hl => match us, hl with | [_, _, _], _ => rfl⟩
  refine F.ok sc_value_of (fun vs H Q E h => by first | (obtain ⟨rfl, _⟩ := h; rfl) | (obtain ⟨_, rfl, _⟩ := h; rfl) | (obtain ⟨_, _, rfl, _⟩ := h; rfl) | (obtain ⟨_, _, _, rfl, _⟩ := h; rfl) | (obtain ⟨_, _, _, _, rfl, _⟩ := h; rfl) | (obtain ⟨_, _, _, _, _, rfl, _⟩ := h; rfl) | (obtain ⟨_, _, _, _, _, _, rfl, _⟩ := h; rfl) | (obtain ⟨_, _, _, _, _, _, _, rfl, _⟩ := h; rfl) | (obtain ⟨_, _, _, _, _, _, _, _, rfl, _⟩ := h; rfl) | (obtain ⟨_, _, _, _, _, _, _, _, _, rfl, _⟩ := h; rfl) | (obtain ⟨_, _, _, _, _, _, _, _, _, _, rfl, _⟩ := h; rfl)) (fun cdv AA outer s H vs Q E hr h => ⟨_, (pss_cons (ps_if (pt_not (pt_val (pv 1))) (pss_one (ps_ret (pe_make M_Value G_Value_init (hr.mono (by decide)) rfl T.g_Value b_Value_init .nil pass0 (pa_cons pe_int (pa_cons pe_int pa_nil))))) pss_nil)
      (pss_cons (ps_if (pt_cmpR op_eq (pe_fld (pv 0) rfl) (pe_globI T.k_JUMPS) (nomark _)) (pss_one (ps_ret (pe_call G_value_of_jumps (hr.mono (by decide)) rfl mg_value_of_jumps kp_value_of_jumps b_value_of_jumps .nil pass0 (pa_cons (pe_fld (pv 0) rfl) (pa_cons (pv 2) pa_nil))))) pss_nil)
      (pss_one (ps_ret (pe_make M_Value G_Value_init (hr.mono (by decide)) rfl T.g_Value b_Value_init .nil pass0 (pa_cons (pe_fld (pv 0) rfl) (pa_cons (pe_fld (pv 0) rfl) pa_nil))))))), ?_⟩)
  obtain ⟨v, p, e, c, b, M, done, n, rfl, hE, hok, g, hn, k⟩ := h
  have gg' := g
  obtain ⟨dx, d, kvs, g1, g2, g3, g4, g5, g6, g7, g8⟩ := gg'
  have fin : ∀ {x2 dx3 : Addr} {H2 : Hp} {a1 a2 : Nat}, H x2 = none → Ex H H2 → H2 x2 = some (.ins A.cValue dx3 [("worth", .int (a1 : Int)), ("goes_by", .int (a2 : Int))]) → valE b done e c = (a1, a2, done) → Q (.ref x2) H2 := by
    intro x2 dx3 H2 a1 a2 hx2 e2 h2 hv
    rw [hv] at k
    exact k M H2 x2 (Fr.ex e2) ((g.ex e2).le (by omega)) hx2 (fun hm => g8 _ hm hx2) ⟨_, dx3, rfl, h2⟩
  refine ⟨_, rfl, _, rfl, ?_⟩
  cases c with
  | false =>
    intro x dx2 nx nd ne
    exact ⟨_, _, make0 (vs := [.int 0, .int 0]) (fun x2 dx3 H2 hx2 e2 h2 => fin (a1 := 0) (a2 := 0) hx2 e2 h2 rfl) x dx2 nx nd ne⟩
  | true =>
    have hE2 := hE.mono fz_in
    obtain ⟨pe, Ce, dxe, fse, rfl, q1, q2, q3, q4⟩ := elem_group T hE2
    refine ⟨_, rfl, pe, Ce, dxe, fse, _, rfl, q1, q2, q3, q4, rfl, _, rfl, ?_⟩
    cases e with
    | jumps l =>
      obtain ⟨z, dz, q, us, z0, z1, z2, z3⟩ := hE
      cases z0
      refine ⟨_, rfl, pe, _, dz, _, _, rfl, fz_in _ _ z1, T.cl_Jumps, T.na_Jumps_jumps, rfl, _, rfl, ?_⟩
      exact ⟨q, p, us, l, b, M, done, n, rfl, z2, z3, hok.2.1, g, hn, k⟩
    | spin n1 lv =>
      obtain ⟨z, dz, z0, z1⟩ := hE2
      cases z0
      refine ⟨_, rfl, pe, _, dz, _, _, rfl, z1, T.cl_Spin, T.na_Spin_worth, rfl, _, rfl, pe, _, dz, _, _, rfl, z1, T.cl_Spin, T.na_Spin_worth, rfl, ?_⟩
      intro x dx2 nx nd ne
      exact ⟨_, _, make0 (vs := [_, _]) (fun x2 dx3 H2 hx2 e2 h2 => fin hx2 e2 h2 rfl) x dx2 nx nd ne⟩
    | steps lv =>
      obtain ⟨z, dz, z0, z1⟩ := hE2
      cases z0
      refine ⟨_, rfl, pe, _, dz, _, _, rfl, z1, T.cl_Steps, T.na_Steps_worth, rfl, _, rfl, pe, _, dz, _, _, rfl, z1, T.cl_Steps, T.na_Steps_worth, rfl, ?_⟩
      intro x dx2 nx nd ne
      exact ⟨_, _, make0 (vs := [_, _]) (fun x2 dx3 H2 hx2 e2 h2 => fin hx2 e2 h2 rfl) x dx2 nx nd ne⟩
    | choreo =>
      obtain ⟨z, dz, z0, z1⟩ := hE2
      cases z0
      refine ⟨_, rfl, pe, _, dz, _, _, rfl, z1, T.cl_OtherSteps, T.na_OtherSteps_worth, rfl, _, rfl, pe, _, dz, _, _, rfl, z1, T.cl_OtherSteps, T.na_OtherSteps_worth, rfl, ?_⟩
      intro x dx2 nx nd ne
      exact ⟨_, _, make0 (vs := [_, _]) (fun x2 dx3 H2 hx2 e2 h2 => fin (a1 := 200) (a2 := 200) hx2 e2 h2 rfl) x dx2 nx nd ne⟩
end
end Sk
set_option maxHeartbeats 2000000
namespace Sk
open PySem PySem.Spec PyProof.Rows L2
open Evl (Ex)
abbrev st_late_places : Stmt := top 95
theorem sc_late_places : FnScope ["tellings", "counted", "free", "late", "place", "telling"] ["tellings", "counted", "free"] (defScope st_late_places) := ⟨rfl, rfl, rfl, by decide +kernel, rfl, by decide +kernel, by decide +kernel⟩
abbrev st_values_of : Stmt := top 92
theorem sc_values_of : FnScope ["tellings", "free", "counted", "gone_by", "found", "telling", "counts", "place", "value"] ["tellings", "free"] (defScope st_values_of) := ⟨rfl, rfl, rfl, by decide +kernel, rfl, by decide +kernel, by decide +kernel⟩
/-! ### the mirror -/
def isLate (ts : List Kg56.Told) (cs : List Bool) (i : Nat) : Bool := match cs[i]?, ts[i]? with
  | some c, some t => c && (t.second && Kg56.isJumps t.element)
  | _, _ => false
def lateUp (ts : List Kg56.Told) (cs : List Bool) (n : Nat) : List Nat := (List.range n).filter (isLate ts cs)
def lastOf (m : Nat) (l : List Nat) : List Nat := l.drop (l.length - m)
def valsL (b : Bool) : Done → List Kg56.Told → List Bool → List (Nat × Nat)
  | done, t :: ts, c :: cs => ((valE b done t.element c).1, (valE b done t.element c).2.1) :: valsL b (valE b done t.element c).2.2 ts cs
  | _, _, _ => []
def up110 (vs : List (Nat × Nat)) (i : Nat) : List (Nat × Nat) := vs.set i (Kg56.part (vs.getD i (0, 0)).1 110, (vs.getD i (0, 0)).2)
def cntL (b : Bool) (ts : List Kg56.Told) : List Bool := countsL b [] (ts.map (·.element))
def finalL (b : Bool) (ts : List Kg56.Told) : List (Nat × Nat) := (lastOf (Kg56.moreMost b) (lateUp ts (cntL b ts) ts.length)).foldl up110 (valsL b [] ts (cntL b ts))
theorem countsL_len (b : Bool) : ∀ (l ahead : List Kg56.Element), (countsL b ahead l).length = l.length
  | [], _ => rfl
  | e :: r, ahead => by
    show (countsL b _ r).length + 1 = r.length + 1
    rw [countsL_len b r]
theorem cntL_len (b : Bool) (ts : List Kg56.Told) : (cntL b ts).length = ts.length := by
  unfold cntL
  rw [countsL_len, List.length_map]
theorem lateUp_lt {ts : List Kg56.Told} {cs : List Bool} {n i : Nat} (h : i ∈ lateUp ts cs n) : i < n := List.mem_range.mp (List.mem_filter.mp h).1
theorem lateUp_len (ts : List Kg56.Told) (cs : List Bool) (n : Nat) : (lateUp ts cs n).length ≤ n := by
  have := List.length_filter_le (isLate ts cs) (List.range n)
  rw [List.length_range] at this
  exact this
theorem valsL_len (b : Bool) : ∀ (ts : List Kg56.Told) (cs : List Bool) (done : Done), cs.length = ts.length → (valsL b done ts cs).length = ts.length
  | [], [], _, _ => rfl
  | [], _ :: _, _, h => by cases h
  | _ :: _, [], _, h => by cases h
  | t :: ts, c :: cs, done, h => by
    show (valsL b _ ts cs).length + 1 = ts.length + 1
    rw [valsL_len b ts cs _ (by simpa using h)]
theorem up110_len (vs : List (Nat × Nat)) (i : Nat) : (up110 vs i).length = vs.length := List.length_set
def sp_late_places (K : PySem.W.Frag) (A : Ads) : Sp := fun vs H Q _ => ∃ (a c : Addr) (b : Bool) (us : List V) (ts : List Kg56.Told) (cs : List Bool), vs = [.ref a, .ref c, fv b] ∧ SqL K H a us ∧ All2 (ToldAt A H) us ts ∧ SqL K H c (cs.map V.bl) ∧ cs.length = ts.length ∧ ts.length ≤ 20 ∧
  ∀ l H', H l = none → Ex H H' → H' l = some (.lst ((nats (lastOf (Kg56.moreMost b) (lateUp ts cs ts.length))).map V.int)) → Q (.ref l) H'
def sp_values_of (K : PySem.W.Frag) (A : Ads) : Sp := fun vs H Q _ => ∃ (a : Addr) (b : Bool) (us : List V) (ts : List Kg56.Told), vs = [.ref a, fv b] ∧ SqL K H a us ∧ All2 (ToldAt A H) us ts ∧ (∀ t ∈ ts, ElemOk t.element) ∧ ts.length ≤ 20 ∧
  ∀ l H' ws, H l = none → Ex H H' → H' l = some (.lst ws) → All2 (ValAt A H') ws (finalL b ts) → Q (.ref l) H'
/-- a walk over enumerate of a list -/
theorem for_enumL {K : PySem.W.Frag} {a : Addr} {xs : List V} {g : TG} {tb : TS} {D : Ends} {σ : L2.St} {H : Hp} (Pv : Nat → L2.St → Hp → Prop) (h0 : Pv 0 σ H) (hq : ∀ i σ H, Pv i σ H → SqL K H a xs)
    (hs : ∀ (i : Nat) (x : V) (T : Addr) (σ : L2.St) (H : Hp), xs[i]? = some x → Pv i σ H → H T = none → g (.ref T) σ (upd H T (.tup [.int (i : Nat), x])) fun σ2 H2 => tb { D with nx := Pv (i + 1), ct := Pv (i + 1), bk := D.nx } σ2 H2) (hd : ∀ σ H, Pv xs.length σ H → D.nx σ H) :
    ∃ W : Nat → Nat → L2.St → Hp → Prop, (∃ m, W 0 m σ H) ∧ ∀ i m σ H, W i m σ H →
      ((Ite K a).stop i H ∧ D.nx σ H) ∨ ((Ite K a).go i H ∧ ∃ N : L2.St → Hp → Prop, (∀ σ' H', N σ' H' → ∃ m', m' < m ∧ W (i + 1) m' σ' H') ∧ ∀ v H', (Ite K a).yld i H v H' → g v σ H' fun σ2 H2 => tb { D with nx := N, ct := N, bk := D.nx } σ2 H2) := by
  refine ⟨fun i m σ H => m = xs.length - i ∧ i ≤ xs.length ∧ Pv i σ H, ⟨xs.length, rfl, Nat.zero_le _, h0⟩, ?_⟩
  rintro i m σ H ⟨rfl, hi, p⟩
  have qx := hq i σ H p
  by_cases hlt : i < xs.length
  · have hx : xs[i]? = some xs[i] := List.getElem?_eq_getElem hlt
    refine .inr ⟨⟨xs, _, qx, hx⟩, Pv (i + 1), fun σ' H' p' => ⟨xs.length - (i + 1), by omega, rfl, hlt, p'⟩, fun v H' y => ?_⟩
    obtain ⟨T, x', rfl, hT, rfl, f1⟩ := y
    exact hs i x' T σ H (f1 xs qx) p hT
  · have e : i = xs.length := by omega
    subst e
    exact .inl ⟨⟨xs, qx, Nat.le_refl _⟩, hd σ H p⟩
theorem cut_last {l : List V} {m : Nat} (hm : 0 < m) : cutV l (some (-(m : Int))) none = l.drop (l.length - m) := by
  unfold cutV HT.sIx
  simp only
  rw [if_pos (by omega)]
  have e : (-(m : Int) + (l.length : Int)).toNat = l.length - m := by omega
  rw [e, List.take_of_length_le]
  rw [List.length_drop]
  exact Nat.le_refl _
section
variable {P : Program} {w : World} {K : PySem.W.Frag} {mg : Str → Option Value} {base : Heap} {A : Ads}
theorem isJ_grp (e : Kg56.Element) : Kg56.isJumps e = decide (grp e = 0) := by cases e <;> rfl
theorem ok_late_places (T : Txt K w mg A) (F0 : FunF K mg "late_places" st_late_places) : CalF P w K mg base CX0 1 "late_places" ["tellings", "counted", "free"] (sp_late_places K A) := by
  obtain ⟨f, fd, F, gF⟩ := F0
  refine ⟨f, fd, ?_, gF, F.kp, F.binds (ps := ["tellings", "counted", "free"]) fun _ _ _ _ _ _ us hl => match us, hl with | [_, _, _], _ => rfl⟩
  refine F.ok sc_late_places (fun vs H Q E h => by first | (obtain ⟨rfl, _⟩ := h; rfl) | (obtain ⟨_, rfl, _⟩ := h; rfl) | (obtain ⟨_, _, rfl, _⟩ := h; rfl) | (obtain ⟨_, _, _, rfl, _⟩ := h; rfl) | (obtain ⟨_, _, _, _, rfl, _⟩ := h; rfl) | (obtain ⟨_, _, _, _, _, rfl, _⟩ := h; rfl) | (obtain ⟨_, _, _, _, _, _, rfl, _⟩ := h; rfl) | (obtain ⟨_, _, _, _, _, _, _, rfl, _⟩ := h; rfl) | (obtain ⟨_, _, _, _, _, _, _, _, rfl, _⟩ := h; rfl) | (obtain ⟨_, _, _, _, _, _, _, _, _, rfl, _⟩ := h; rfl) | (obtain ⟨_, _, _, _, _, _, _, _, _, _, rfl, _⟩ := h; rfl)) (fun cdv AA outer s H vs Q E hr h => ⟨_, (pss_cons (ps_set (i := 3) sc_late_places.nd rfl (Or.inl rfl) (pe_lst pa_nil))
      (pss_cons (ps_for PassesOwn.never rfl (pi_enum (by rfl) T.b_enumerate (pa_cons (pv 0) pa_nil)) (pg_tup rfl (pgs_cons (pg_name (i := 4) sc_late_places.nd rfl (Or.inl rfl)) (pgs_cons (pg_name (i := 5) sc_late_places.nd rfl (Or.inl rfl)) pgs_nil))) (pss_one (ps_if (PW.pt (pw_and (pt_val (pe_ix ix_list (pv 1) (pv 4) (fun _ _ => rfl))) (pw_and (pt_cmpR op_eq (pe_fld (pv 5) rfl) pe_int (nomark _)) (pw_and1 (pt_cmpR op_eq (pe_fld (pe_fld (pv 5) rfl) rfl) (pe_globI T.k_JUMPS) (nomark _)))))) (pss_one (ps_expr (pe_bm PySem.F.plainAttrs_list PySem.F.slot_list_append PySem.F.type_list_append mt_append (pv 3) (pa_cons (pv 4) pa_nil)))) pss_nil)))
      (pss_one (ps_ret (pe_slice sl_list (pv 3) (po_some (pe_un un_neg (pe_ix ix_tup (pe_globR T.k_MOST_LATE.1) (pv 2) (fun _ _ => rfl)))) po_none))))), ?_⟩)
  obtain ⟨a, c, b, us, ts, cs, rfl, hS, hA, hC, hcl, h20, k⟩ := h
  have hlen := hA.len
  refine ⟨Nat.zero_le _, fun r hr0 => ?_⟩
  refine ⟨_, rfl, a, us, rfl, Evl.ex_l (Ex.one hr0) hS, for_enumL (K := K) (a := a) (xs := us) (fun i σ H' => ∃ v v2, σ = [some (.ref a), some (.ref c), some (fv b), some (.ref r), v, v2] ∧ Ex H H' ∧ H' r = some (.lst ((nats (lateUp ts cs i)).map V.int)))
    ⟨none, none, rfl, Ex.one hr0, upd_same⟩ (fun i σ H' ⟨_, _, _, e5, _⟩ => Evl.ex_l e5 hS) ?_ ?_⟩
  · rintro i y t2 σ H' hi ⟨v, v2, rfl, e5, h1⟩ ht2
    obtain ⟨t, ht, p, dx, ve, g, rfl, z1, z2, z3⟩ := hA.get hi
    have hlt := (List.getElem?_eq_some_iff.mp ht).1
    obtain ⟨bc, hbc⟩ : ∃ bc, cs[i]? = some bc := ⟨_, List.getElem?_eq_getElem (by omega)⟩
    have e6 : Ex H (upd H' t2 (.tup [.int (i : Nat), .ref p])) := e5.trans (Ex.one ht2)
    have h1' := up_at (o := .tup [.int (i : Nat), .ref p]) h1 ht2
    have hlt2 : isLate ts cs i = (bc && (t.second && Kg56.isJumps t.element)) := by
      unfold isLate
      rw [hbc, ht]
    have hup : lateUp ts cs (i + 1) = lateUp ts cs i ++ (if (bc && (t.second && Kg56.isJumps t.element)) = true then [i] else []) := by
      unfold lateUp
      rw [List.range_succ, List.filter_append, List.filter_cons, hlt2]
      rfl
    refine ⟨t2, _, rfl, SqT.of upd_same, rfl, _, _, rfl, _, _, rfl, rfl, ?_⟩
    have nothing : (bc && (t.second && Kg56.isJumps t.element)) = false → ∃ v v2, [some (V.ref a), some (V.ref c), some (fv b), some (V.ref r), some (V.int (i : Nat)), some (V.ref p)] = [some (.ref a), some (.ref c), some (fv b), some (.ref r), v, v2] ∧ Ex H (upd H' t2 (.tup [.int (i : Nat), .ref p])) ∧ (upd H' t2 (.tup [.int (i : Nat), .ref p])) r = some (.lst ((nats (lateUp ts cs (i + 1))).map V.int)) := fun hf => by
      refine ⟨_, _, rfl, e6, ?_⟩
      rw [hup, hf, if_neg Bool.false_ne_true, List.append_nil]
      exact h1'
    refine ⟨_, rfl, _, rfl, c, _, (i : Int), _, rfl, rfl, Evl.ex_l e6 hC, atI_nat (show (cs.map V.bl)[i]? = some (V.bl bc) by rw [List.getElem?_map, hbc] <;> rfl), _, rfl, ?_⟩
    cases bc with
    | false => exact nothing rfl
    | true =>
      refine ⟨_, rfl, p, _, dx, _, _, rfl, e6 _ _ z1, T.cl_Telling, T.na_Telling_second, rfl, rfl, _, rfl, ?_⟩
      cases hs : t.second with
      | false =>
        rw [iF (by decide)]
        exact nothing (by rw [hs] <;> rfl)
      | true =>
        rw [iT (by rfl)]
        obtain ⟨pe, Ce, dxe, fse, rfl, q1, q2, q3, q4⟩ := elem_group T (z2.mono e6)
        refine ⟨_, rfl, p, _, dx, _, _, rfl, e6 _ _ z1, T.cl_Telling, T.na_Telling_element, rfl, pe, Ce, dxe, fse, _, rfl, q1, q2, q3, q4, rfl, _, rfl, ?_⟩
        by_cases cg : grp t.element = 0
        · rw [iT (by omega)]
          refine ⟨_, rfl, .inl ⟨rfl, _, SqL.of h1'⟩, _, rfl, r, _, _, rfl, rfl, h1', ?_, ?_⟩
          · rw [List.length_map]
            unfold nats
            rw [List.length_map]
            have := lateUp_len ts cs i
            exact Nat.lt_of_le_of_lt (m := 20) (by omega) (by decide)
          · refine ⟨_, _, rfl, fun q o e => ?_, ?_⟩
            · rw [upd_ne (ne_of_none e hr0)]
              exact e6 q o e
            · rw [upd_same, hup, hs, isJ_grp, decide_eq_true cg]
              unfold nats
              simp
        · rw [iF (by omega)]
          exact nothing (by rw [hs, isJ_grp, decide_eq_false cg] <;> rfl)
  · rintro σ H' ⟨v, v2, rfl, e5, h1⟩
    obtain ⟨m1, m2⟩ := fi_tup T.k_MOST_LATE.2 H' b
    have e2 : (if b = true then 3 else 1 : Int) = ((Kg56.moreMost b : Nat) : Int) := by cases b <;> rfl
    rw [e2] at m2
    have hm : 0 < Kg56.moreMost b := by cases b <;> decide
    refine ⟨_, rfl, _, rfl, _, _, _, _, rfl, rfl, m1, m2, _, rfl, _, rfl, r, _, rfl, SqL.of h1, fun l hl => ?_⟩
    refine k l _ (Evl.fresh_back e5 hl) (e5.trans (Ex.one hl)) ?_
    rw [upd_same, hlen]
    refine congrArg (fun z => some (HO.lst z)) ?_
    refine (cut_last hm).trans ?_
    unfold lastOf nats
    rw [List.length_map, List.length_map, List.map_drop, List.map_drop]
theorem ValAt.fr {M M' : Addr → Prop} {H H' : Hp} {x : Addr} {y : Nat × Nat} (f : Fr M M' H H') (hm : ¬ M x) (h : ValAt A H (.ref x) y) : ValAt A H' (.ref x) y := by
  obtain ⟨p, dx, e, h1⟩ := h
  cases e
  exact ⟨x, dx, rfl, f.1 _ _ h1 hm⟩
theorem ValAt.ex {H H' : Hp} {v : V} {y : Nat × Nat} (e : Ex H H') (h : ValAt A H v y) : ValAt A H' v y := by
  obtain ⟨p, dx, e1, h1⟩ := h
  exact ⟨p, dx, e1, e _ _ h1⟩
theorem All2.mem {α β : Type} {R S : α → β → Prop} (f : ∀ a b, R a b → S a b) : ∀ {l : List α} {m : List β}, All2 R l m → All2 S l m := fun h => h.mono f
theorem All2.monoM {α β : Type} {R S : α → β → Prop} : ∀ {l : List α} {m : List β}, All2 R l m → (∀ a b, a ∈ l → R a b → S a b) → All2 S l m
  | _, _, .nil, _ => .nil
  | _, _, .cons h t, f => .cons (f _ _ List.mem_cons_self h) (t.monoM fun a b hm => f a b (List.mem_cons_of_mem _ hm))
theorem GoneAt.other {M : Addr → Prop} {H : Hp} {p f0 : Addr} {b : Bool} {done : Done} {n : Nat} {o : HO} (g : GoneAt A M H p b done n) (h1 : ¬ M f0) (h2 : f0 ≠ p) : GoneAt A M (upd H f0 o) p b done n := by
  obtain ⟨dx, d, kvs, g1, g2, g3, g4, g5, g6, g7, g8⟩ := g
  have ne : ∀ q, M q → q ≠ f0 := fun q hq e => h1 (e ▸ hq)
  refine ⟨dx, d, kvs, by rw [upd_ne (Ne.symm h2)]; exact g1, by rw [upd_ne (ne d g3)]; exact g2, g3, g4, fun k t => ?_, g6, g7, fun q hq => by rw [upd_ne (ne q hq)]; exact g8 q hq⟩
  rcases g5 k t with h | ⟨l, a1, a2, a3⟩
  · exact .inl h
  · exact .inr ⟨l, a1, a2, by rw [upd_ne (ne l a2)]; exact a3⟩
theorem ok_values_of (T : Txt K w mg A) (F0 : FunF K mg "values_of" st_values_of)
    (c_those_that_count : CalF P w K mg base CX0 3 "those_that_count" ["tellings", "free"] (sp_those_that_count K A))
    (c_GoneBy_init : CalI P w K mg base CX0 1 A.cGoneBy ["self", "free"] (sp_GoneBy_init A))
    (c_value_of : CalF P w K mg base CX0 4 "value_of" ["element", "counts", "gone_by"] (sp_value_of K A))
    (c_late_places : CalF P w K mg base CX0 1 "late_places" ["tellings", "counted", "free"] (sp_late_places K A))
    (c_hundredths : CalF P w K mg base CX0 1 "hundredths" ["share", "number"] (sp_hundredths)) : CalF P w K mg base CX0 5 "values_of" ["tellings", "free"] (sp_values_of K A) := by
  obtain ⟨f_those_that_count, fd_those_that_count, G_those_that_count, mg_those_that_count, kp_those_that_count, b_those_that_count⟩ := c_those_that_count
  obtain ⟨f_GoneBy_init, fd_GoneBy_init, G_GoneBy_init, M_GoneBy, b_GoneBy_init⟩ := c_GoneBy_init
  obtain ⟨f_value_of, fd_value_of, G_value_of, mg_value_of, kp_value_of, b_value_of⟩ := c_value_of
  obtain ⟨f_late_places, fd_late_places, G_late_places, mg_late_places, kp_late_places, b_late_places⟩ := c_late_places
  obtain ⟨f_hundredths, fd_hundredths, G_hundredths, mg_hundredths, kp_hundredths, b_hundredths⟩ := c_hundredths
  obtain ⟨f, fd, F, gF⟩ := F0
  refine ⟨f, fd, ?_, gF, F.kp, F.binds (ps := ["tellings", "free"]) fun _ _ _ _ _ _ us hl => match us, hl with | [_, _], _ => rfl⟩
  refine F.ok sc_values_of (fun vs H Q E h => by first | (obtain ⟨rfl, _⟩ := h; rfl) | (obtain ⟨_, rfl, _⟩ := h; rfl) | (obtain ⟨_, _, rfl, _⟩ := h; rfl) | (obtain ⟨_, _, _, rfl, _⟩ := h; rfl) | (obtain ⟨_, _, _, _, rfl, _⟩ := h; rfl) | (obtain ⟨_, _, _, _, _, rfl, _⟩ := h; rfl) | (obtain ⟨_, _, _, _, _, _, rfl, _⟩ := h; rfl) | (obtain ⟨_, _, _, _, _, _, _, rfl, _⟩ := h; rfl) | (obtain ⟨_, _, _, _, _, _, _, _, rfl, _⟩ := h; rfl) | (obtain ⟨_, _, _, _, _, _, _, _, _, rfl, _⟩ := h; rfl) | (obtain ⟨_, _, _, _, _, _, _, _, _, _, rfl, _⟩ := h; rfl)) (fun cdv AA outer s H vs Q E hr h => ⟨_, (pss_cons (ps_set (i := 2) sc_values_of.nd rfl (Or.inl rfl) (pe_call G_those_that_count (hr.mono (by decide)) rfl mg_those_that_count kp_those_that_count b_those_that_count .nil pass0 (pa_cons (pv 0) (pa_cons (pv 1) pa_nil))))
      (pss_cons (ps_set (i := 3) sc_values_of.nd rfl (Or.inl rfl) (pe_make M_GoneBy G_GoneBy_init (hr.mono (by decide)) rfl T.g_GoneBy b_GoneBy_init .nil pass0 (pa_cons (pv 1) pa_nil)))
      (pss_cons (ps_set (i := 4) sc_values_of.nd rfl (Or.inl rfl) (pe_lst pa_nil))
      (pss_cons (ps_for PassesOwn.never rfl (pi_zip (by rfl) T.b_zip (pa_cons (pv 0) (pa_cons (pv 2) pa_nil))) (pg_tup rfl (pgs_cons (pg_name (i := 5) sc_values_of.nd rfl (Or.inl rfl)) (pgs_cons (pg_name (i := 6) sc_values_of.nd rfl (Or.inl rfl)) pgs_nil))) (pss_one (ps_expr (pe_bm PySem.F.plainAttrs_list PySem.F.slot_list_append PySem.F.type_list_append mt_append (pv 4) (pa_cons (pe_call G_value_of (hr.mono (by decide)) rfl mg_value_of kp_value_of b_value_of .nil pass0 (pa_cons (pe_fld (pv 5) rfl) (pa_cons (pv 6) (pa_cons (pv 3) pa_nil)))) pa_nil)))))
      (pss_cons (ps_for PassesOwn.never rfl (pi_list (pe_call G_late_places (hr.mono (by decide)) rfl mg_late_places kp_late_places b_late_places .nil pass0 (pa_cons (pv 0) (pa_cons (pv 2) (pa_cons (pv 1) pa_nil))))) (pg_name (i := 7) sc_values_of.nd rfl (Or.inl rfl)) (pss_cons (ps_set (i := 8) sc_values_of.nd rfl (Or.inl rfl) (pe_ix ix_list (pv 4) (pv 7) (fun _ _ => rfl)))
      (pss_one (ps_fld (pv 8) (pe_call G_hundredths (hr.mono (by decide)) rfl mg_hundredths kp_hundredths b_hundredths .nil pass0 (pa_cons (pe_globI T.k_LATE_SHARE) (pa_cons (pe_fld (pv 8) rfl) pa_nil))) rfl))))
      (pss_one (ps_ret (pv 4)))))))), ?_⟩)
  obtain ⟨a, b, us, ts, rfl, hS, hA, hok, h20, k⟩ := h
  have hlen := hA.len
  refine ⟨_, rfl, _, rfl, ?_⟩
  refine ⟨a, b, us, ts, rfl, hS, hA, h20, fun c0 H1 hc0 e1 hc1 => ?_⟩
  have hcl := cntL_len b ts
  have hc1 : H1 c0 = some (.lst ((cntL b ts).map V.bl)) := hc1
  refine ⟨_, rfl, ?_⟩
  intro p dp nx nd ne
  refine ⟨fv b, made1 (vs := [fv b]) nx nd (fun H0 H2 hp0 e10 e12 hP => ⟨rfl, ?_⟩)⟩
  obtain ⟨d, hd, hd2, hp2⟩ := hP
  have hd1 : H1 d = none := Evl.fresh_back e10 hd
  refine ⟨Nat.zero_le _, fun f0 hf0 => ?_⟩
  have hf1 : H1 f0 = none := Evl.fresh_back e12 hf0
  have e13 := e12.trans (Ex.one (o := .lst []) hf0)
  have nfd : f0 ≠ d := fun e => by rw [e, hd2] at hf0; cases hf0
  have nfp : f0 ≠ p := fun e => by rw [e, hp2] at hf0; cases hf0
  refine ⟨_, rfl, _, rfl, a, c0, us, _, rfl, Evl.ex_l (e1.trans e13) hS, SqL.of (e13 _ _ hc1), RZ.for_zipL (K := K) (a := a) (b := c0) (by rw [List.length_map, hcl]; exact hlen)
    (fun i σ H' => ∃ v5 v6 M' ws done', σ = [some (.ref a), some (fv b), some (.ref c0), some (.ref p), some (.ref f0), v5, v6, none, none] ∧ Ex H1 H' ∧ (∀ q, M' q → H1 q = none) ∧ ¬ M' f0 ∧ H' f0 = some (.lst ws) ∧ GoneAt A M' H' p b done' (3 * i) ∧ ws.length = i ∧ ws.Nodup ∧
      (∀ u ∈ ws, ∃ x, u = .ref x ∧ H1 x = none ∧ ¬ M' x ∧ x ≠ f0) ∧ i ≤ ts.length ∧ ∃ vals, All2 (ValAt A H') ws vals ∧ valsL b [] ts (cntL b ts) = vals ++ valsL b done' (ts.drop i) ((cntL b ts).drop i))
    ⟨none, none, fun q => q = d, [], [], rfl, e13, fun q hq => hq ▸ hd1, nfd, upd_same, ?g0, rfl, List.nodup_nil, (fun u hu => nomatch hu), Nat.zero_le _, [], .nil, rfl⟩ (fun i σ H' ⟨_, _, _, _, _, _, e5, _⟩ => ⟨Evl.ex_l (e1.trans e5) hS, SqL.of (e5 _ _ hc1)⟩) ?_ ?_⟩
  case g0 =>
    refine ⟨dp, d, [], up_at hp2 hf0, up_at hd2 hf0, rfl, Nat.le_refl _, fun k t => .inl ⟨rfl, rfl⟩, (fun k t k' t' l h => nomatch h), fun k t => Nat.zero_le _, fun q hq => ?_⟩
    subst hq
    rw [up_at hd2 hf0]
    intro z; cases z
  · rintro i y yb t2 σ H' hi hib ⟨v5, v6, M', ws, done', rfl, e5, hM, hMf, hf, gg, hwl, hnd, hws, hit, vals, hv, heq⟩ ht2
    obtain ⟨t, ht, hT⟩ := hA.get hi
    have hT1 := hT.mono e1
    obtain ⟨z, hz, rfl⟩ := map_get hib
    obtain ⟨pt, dxt, ve, gt, rfl, z1, z2, z3⟩ := hT1
    have hlt := (List.getElem?_eq_some_iff.mp ht).1
    have dr : ts.drop i = t :: ts.drop (i + 1) := by
      rw [List.drop_eq_getElem_cons hlt]
      congr 1
      exact (List.getElem?_eq_some_iff.mp ht).2
    have drc : (cntL b ts).drop i = z :: (cntL b ts).drop (i + 1) := by
      rw [List.drop_eq_getElem_cons (by omega)]
      congr 1
      exact (List.getElem?_eq_some_iff.mp hz).2
    rw [dr, drc] at heq
    have e6 := e5.trans (Ex.one (o := .tup [.ref pt, .bl z]) ht2)
    have et := Ex.one (o := .tup [.ref pt, .bl z]) ht2
    refine ⟨t2, _, rfl, SqT.of upd_same, rfl, _, _, rfl, _, _, rfl, rfl, ?_⟩
    refine ⟨_, rfl, .inl ⟨rfl, _, SqL.of (et _ _ hf)⟩, ?_⟩
    refine ⟨_, rfl, pt, _, dxt, _, _, rfl, e6 _ _ z1, T.cl_Telling, T.na_Telling_element, rfl, _, rfl, _, rfl, ?_⟩
    have exf : Ex H1 (fz M' (upd H' t2 (.tup [.ref pt, .bl z]))) := fun q o e => fz_of (fun hm => by rw [hM q hm] at e; cases e) (e6 q o e)
    refine ⟨ve, p, t.element, z, b, M', done', 3 * i, rfl, z2.mono exf, hok t (List.mem_of_getElem? ht), gg.ex et, by omega, fun M2 H3 x fr g2 hx hm2 hval => ?_⟩
    have hH3f : H3 f0 = some (.lst ws) := fr.1 _ _ (et _ _ hf) hMf
    have hx' : H' x = none := Evl.fresh_back et hx
    have nxf : x ≠ f0 := fun e => by rw [e, hf] at hx'; cases hx'
    have nM2f : ¬ M2 f0 := fun hm => by
      rcases fr.2.2.1 f0 hm with h | h
      · exact hMf h
      · rw [et _ _ hf] at h; cases h
    have np2 : f0 ≠ p := nfp
    refine ⟨f0, ws, _, rfl, rfl, hH3f, ?_, ?_⟩
    · rw [hwl]
      exact Nat.lt_of_le_of_lt (m := 20) (by omega) (by decide)
    · have hxH1 : H1 x = none := Evl.fresh_back e5 hx'
      refine ⟨_, _, M2, ws ++ [.ref x], (valE b done' t.element z).2.2, rfl, fun q o e => ?_, fun q hq => ?_, nM2f, upd_same, by rw [Nat.mul_add]; exact g2.other nM2f np2, by rw [List.length_append, hwl] <;> rfl, ?_, fun u hu => ?_, hlt, vals ++ [((valE b done' t.element z).1, (valE b done' t.element z).2.1)], ?_, ?_⟩
      · rw [upd_ne (ne_of_none e hf1)]
        exact fr.1 q o (e6 q o e) (fun hm => by rw [hM q hm] at e; cases e)
      · rcases fr.2.2.1 q hq with h | h
        · exact hM q h
        · exact Evl.fresh_back e6 h
      · rw [List.nodup_append]
        refine ⟨hnd, by simp, fun u hu v hv2 => ?_⟩
        have : v = .ref x := by simpa using hv2
        subst this
        intro e
        subst e
        obtain ⟨b2, hR⟩ : ∃ b2, ValAt A H' (.ref x) b2 := by
          obtain ⟨j, hj⟩ := List.mem_iff_getElem?.mp hu
          obtain ⟨b2, h1, h2⟩ := hv.get hj
          exact ⟨b2, h2⟩
        obtain ⟨p9, dx9, e9, h9⟩ := hR
        cases e9
        rw [hx'] at h9
        cases h9
      · rcases List.mem_append.mp hu with h | h
        · obtain ⟨x9, rfl, q1, q2, q3⟩ := hws u h
          refine ⟨x9, rfl, q1, fun hm => ?_, q3⟩
          rcases fr.2.2.1 x9 hm with h3 | h3
          · exact q2 h3
          · obtain ⟨j, hj⟩ := List.mem_iff_getElem?.mp h
            obtain ⟨b2, _, p9, dx9, e9, h9⟩ := hv.get hj
            cases e9
            rw [et _ _ h9] at h3
            cases h3
        · have : u = .ref x := by simpa using h
          subst this
          exact ⟨x, rfl, hxH1, hm2, nxf⟩
      · refine All2.snoc (hv.monoM fun u y hu hR => ?_) ?_
        · obtain ⟨x9, rfl, q1, q2, q3⟩ := hws u hu
          obtain ⟨p9, dx9, e9, h9⟩ := (hR.ex et).fr fr q2
          cases e9
          exact ⟨x9, dx9, rfl, by rw [upd_ne q3]; exact h9⟩
        · obtain ⟨p9, dx9, e9, h9⟩ := hval
          cases e9
          exact ⟨x, dx9, rfl, by rw [upd_ne nxf]; exact h9⟩
      · rw [heq, List.append_assoc] <;> rfl
  · rintro σ H' ⟨v5, v6, M', ws, done', rfl, e5, hM, hMf, hf, gg, hwl, hnd, hws, hit, vals, hv, heq⟩
    rw [hlen, List.drop_length] at heq
    have hd0 : (cntL b ts).drop ts.length = [] := by rw [← hcl, List.drop_length]
    rw [hd0] at heq
    have heq : valsL b [] ts (cntL b ts) = vals := by rw [heq]; exact List.append_nil _
    refine ⟨_, rfl, _, rfl, _, rfl, ?_⟩
    refine ⟨a, c0, b, us, ts, cntL b ts, rfl, Evl.ex_l (e1.trans e5) hS, hA.mono fun _ _ => ToldAt.mono (e1.trans e5), SqL.of (e5 _ _ hc1), hcl, h20, fun l H3 hl e53 hl3 => ?_⟩
    generalize hlate : lastOf (Kg56.moreMost b) (lateUp ts (cntL b ts) ts.length) = late at hl3
    have hlt : ∀ i ∈ late, i < ts.length := fun i hi => by
      rw [← hlate] at hi
      exact lateUp_lt (List.mem_of_mem_drop hi)
    have hvl : vals.length = ts.length := by rw [← heq]; exact valsL_len b ts _ _ hcl
    refine ⟨l, rfl, ⟨_, SqL.of hl3⟩, for_list (K := K) (a := l) (xs := (nats late).map V.int)
      (fun i σ H' => ∃ w7 w8, σ = [some (.ref a), some (fv b), some (.ref c0), some (.ref p), some (.ref f0), v5, v6, w7, w8] ∧ Ex H1 H' ∧ H' f0 = some (.lst ws) ∧ H' l = some (.lst ((nats late).map V.int)) ∧ All2 (ValAt A H') ws ((late.take i).foldl up110 vals))
      ⟨_, _, rfl, e5.trans e53, e53 _ _ hf, hl3, hv.mono fun _ _ => ValAt.ex e53⟩ (fun i σ H' _ ⟨_, _, _, _, _, h, _⟩ => SqL.of h) ?_ ?_⟩
    · rintro i y σ H4 hi ⟨w7, w8, rfl, e14, hf4, hl4, hv4⟩
      obtain ⟨z, hz, rfl⟩ := map_get hi
      obtain ⟨j, hj, rfl⟩ := map_get hz
      have hjl := hlt j (List.mem_of_getElem? hj)
      have hlen4 : ((late.take i).foldl up110 vals).length = ts.length := by
        have : ∀ (l : List Nat) (v : List (Nat × Nat)), (l.foldl up110 v).length = v.length := by
          intro l
          induction l with
          | nil => intro v; rfl
          | cons x l ih => intro v; rw [List.foldl_cons, ih, up110_len]
        rw [this, hvl]
      obtain ⟨vj, hvj⟩ : ∃ vj, ((late.take i).foldl up110 vals)[j]? = some vj := ⟨_, List.getElem?_eq_getElem (by omega)⟩
      obtain ⟨u, hu, px, dxx, rfl, h9⟩ := hv4.get2 hvj
      obtain ⟨x9, e9, q1, q2, q3⟩ := hws _ (List.mem_of_getElem? hu)
      cases e9
      refine ⟨_, rfl, _, rfl, f0, ws, (j : Int), _, rfl, rfl, SqL.of hf4, atI_nat hu, ?_⟩
      refine ⟨_, rfl, px, _, dxx, _, _, rfl, h9, T.cl_Value, T.na_Value_worth, rfl, ?_⟩
      refine ⟨110, vj.1, rfl, by decide, ?_⟩
      refine ⟨_, rfl, px, _, dxx, _, rfl, h9, T.cl_Value, T.na_Value_worth, l1000 rfl, ?_⟩
      refine ⟨_, _, rfl, fun q o e => ?_, ?_, ?_, ?_⟩
      · rw [upd_ne (ne_of_none e q1)]
        exact e14 q o e
      · rw [upd_ne (Ne.symm q3)]
        exact hf4
      · rw [upd_ne (ne_of hl4 h9 (by intro z; cases z))]
        exact hl4
      · rw [take_more hj, List.foldl_append]
        show All2 _ ws (up110 ((late.take i).foldl up110 vals) j)
        have hgd : ((late.take i).foldl up110 vals).getD j (0, 0) = vj := by rw [List.getD_eq_getElem?_getD, hvj] <;> rfl
        generalize hcur : (late.take i).foldl up110 vals = cur at hv4 hlen4 hvj hgd
        unfold up110
        rw [hgd]
        have key : ∀ {us2 : List V} {vs2 : List (Nat × Nat)} {j : Nat}, us2.Nodup → All2 (ValAt A H4) us2 vs2 → us2[j]? = some (.ref px) →
            All2 (ValAt A (upd H4 px (.ins A.cValue dxx (putF "worth" (.int ((Kg56.part vj.1 110 : Nat) : Int)) [("worth", .int (vj.1 : Nat)), ("goes_by", .int (vj.2 : Nat))])))) us2 (vs2.set j (Kg56.part vj.1 110, vj.2)) := by
          intro us2 vs2 j hn hA hj
          induction hA generalizing j with
          | nil => exact .nil
          | @cons u0 v0 l m h t ih =>
            have hn2 := List.nodup_cons.mp hn
            cases j with
            | zero =>
              have e : u0 = .ref px := Option.some.inj hj
              subst e
              refine .cons ⟨px, dxx, rfl, upd_same⟩ (t.monoM fun u y hu hR => ?_)
              obtain ⟨p8, dx8, rfl, h8⟩ := hR
              refine ⟨p8, dx8, rfl, ?_⟩
              rw [upd_ne (show p8 ≠ px from fun e => hn2.1 (by rw [← e]; exact hu))]
              exact h8
            | succ j =>
              refine .cons ?_ (ih hn2.2 hj)
              obtain ⟨p8, dx8, rfl, h8⟩ := h
              refine ⟨p8, dx8, rfl, ?_⟩
              rw [upd_ne (show p8 ≠ px from fun e => hn2.1 (by rw [e]; exact List.mem_of_getElem? hj))]
              exact h8
        exact key hnd hv4 hu
    · rintro σ H4 ⟨w7, w8, rfl, e14, hf4, hl4, hv4⟩
      refine ⟨_, rfl, k f0 H4 ws (Evl.fresh_back e1 hf1) (e1.trans e14) hf4 ?_⟩
      rw [List.length_map] at hv4
      unfold nats at hv4
      rw [List.length_map, List.take_length] at hv4
      unfold finalL
      rw [hlate, heq]
      exact hv4
end
end Sk
set_option maxHeartbeats 2000000
namespace Sk
open PySem PySem.Spec PyProof.Rows L2
open Evl (Ex)
abbrev st_judged_tellings : Stmt := top 101
theorem sc_judged_tellings : FnScope ["program", "found", "telling", "value"] ["program"] (defScope st_judged_tellings) := ⟨rfl, rfl, rfl, by decide +kernel, rfl, by decide +kernel, by decide +kernel⟩
abbrev st_Outcome_init : Stmt := inClass (top 99) 0
theorem sc_Outcome_init : FnScope ["self", "judged", "components", "taken_off", "worth", "made"] ["self", "judged", "components", "taken_off"] (defScope st_Outcome_init) := ⟨rfl, rfl, rfl, by decide +kernel, rfl, by decide +kernel, by decide +kernel⟩
abbrev st_outcome_of : Stmt := top 100
theorem sc_outcome_of : FnScope ["program", "factor", "judged", "components"] ["program", "factor"] (defScope st_outcome_of) := ⟨rfl, rfl, rfl, by decide +kernel, rfl, by decide +kernel, by decide +kernel⟩
def TOk (t : Kg56.Told) : Prop := ElemOk t.element ∧ 3 ≤ t.grades.length ∧ t.grades.length ≤ 9 ∧ ∀ z ∈ t.grades, -5 ≤ z ∧ z ≤ 5
def POk (p : Kg56.Program) : Prop := (∀ t ∈ p.elements, TOk t) ∧ p.elements.length ≤ 20 ∧ p.marks.length ≤ 3 ∧ ∀ r ∈ p.marks, 3 ≤ r.length ∧ r.length ≤ 9
/-- of each element its worth, what its grades make -/
def sheetM (b : Bool) (ts : List Kg56.Told) : List (Nat × Int) := List.zipWith (fun v t => (v.1, Kg56.graded v.2 t.grades)) (finalL b ts) ts
def PairAt (H : Hp) (v : V) (x : Nat × Int) : Prop := ∃ t, v = .ref t ∧ H t = some (.tup [.int (x.1 : Int), .int x.2])
theorem PairAt.mono {H H' : Hp} (e : Ex H H') {v : V} {x : Nat × Int} (h : PairAt H v x) : PairAt H' v x := by
  obtain ⟨t, h1, h2⟩ := h
  exact ⟨t, h1, e _ _ h2⟩
def pf (w : Nat) (p : Kg56.Program) (tl mk : Addr) : List (Str × V) := [("skater", .int (w : Int)), ("free", fv p.free), ("tellings", .ref tl), ("marks", .ref mk), ("falls", .int (p.falls : Int)), ("off", .int (p.off : Int)), ("seconds", .int (p.seconds : Int))]
/-- a program: H tells of what changes, F of what stands -/
def ProgAt (A : Ads) (H F : Hp) (pr : Addr) (w : Nat) (p : Kg56.Program) : Prop := ∃ dx tl mk us ms, H pr = some (.ins A.cProgram dx (pf w p tl mk)) ∧ H tl = some (.lst us) ∧ All2 (ToldAt A F) us p.elements ∧ F mk = some (.lst ms) ∧ All2 (fun v ns => ∃ a, v = .ref a ∧ F a = some (.lst (ns.map V.int))) ms p.marks
def scoreM (p : Kg56.Program) (f : Nat) : Kg56.Score := ⟨((sheetM p.free p.elements).map fun x => (x.1 : Int) + x.2).sum, Kg56.nearest ((p.marks.map Kg56.component).foldl (fun a b => a + b) 0 * f) 100, p.cost⟩
def OutAt (A : Ads) (H : Hp) (v : V) (sheet : List (Nat × Int)) (sc : Kg56.Score) : Prop := ∃ p dx l ws, v = .ref p ∧ H p = some (.ins A.cOutcome dx [("judged", .ref l), ("came_to", .int sc.elements), ("components", .int sc.components), ("taken_off", .int (sc.cost : Int)), ("score", .int sc.all)]) ∧ H l = some (.lst ws) ∧ All2 (PairAt H) ws sheet
theorem OutAt.mono {A : Ads} {H H' : Hp} (e : Ex H H') {v : V} {sh : List (Nat × Int)} {sc : Kg56.Score} (h : OutAt A H v sh sc) : OutAt A H' v sh sc := by
  obtain ⟨p, dx, l, ws, h1, h2, h3, h4⟩ := h
  exact ⟨p, dx, l, ws, h1, e _ _ h2, e _ _ h3, h4.mono fun _ _ => PairAt.mono e⟩
def sp_judged_tellings (K : PySem.W.Frag) (A : Ads) : Sp := fun vs H Q _ => ∃ (pr : Addr) (w : Nat) (p : Kg56.Program), vs = [.ref pr] ∧ ProgAt A H H pr w p ∧ POk p ∧
  ∀ l H' ws, H l = none → Ex H H' → H' l = some (.lst ws) → All2 (PairAt (nw H H')) ws (sheetM p.free p.elements) → Q (.ref l) H'
def sp_Outcome_init (A : Ads) : Sp := fun vs H Q E => ∃ (l : Addr) (ws : List V) (sh : List (Nat × Int)) (c : Int) (t : Nat), H l = some (.lst ws) ∧ All2 (PairAt H) ws sh ∧ sh.length ≤ 20 ∧
  spI1 A.cOutcome [.ref l, .int c, .int (t : Int)] (fun H p dx H' => H' p = some (.ins A.cOutcome dx [("judged", .ref l), ("came_to", .int (sh.map fun x => (x.1 : Int) + x.2).sum), ("components", .int c), ("taken_off", .int (t : Int)), ("score", .int (Kg56.Score.all ⟨(sh.map fun x => (x.1 : Int) + x.2).sum, c, t⟩))])) vs H Q E
def sp_outcome_of (K : PySem.W.Frag) (A : Ads) : Sp := fun vs H Q _ => ∃ (pr : Addr) (w : Nat) (p : Kg56.Program) (f : Nat), vs = [.ref pr, .int (f : Int)] ∧ ProgAt A H H pr w p ∧ POk p ∧ f ≤ 1000 ∧
  ∀ v H', Ex H H' → OutAt A (nw H H') v (sheetM p.free p.elements) (scoreM p f) → Q v H'
theorem upds_len : ∀ (l : List Nat) (v : List (Nat × Nat)), (l.foldl up110 v).length = v.length
  | [], _ => rfl
  | x :: l, v => by rw [List.foldl_cons, upds_len l, up110_len]
theorem finalL_len (b : Bool) (ts : List Kg56.Told) : (finalL b ts).length = ts.length := by
  unfold finalL
  rw [upds_len, valsL_len b ts _ _ (cntL_len b ts)]
theorem sheetM_len (b : Bool) (ts : List Kg56.Told) : (sheetM b ts).length = ts.length := by
  unfold sheetM
  rw [List.length_zipWith, finalL_len, Nat.min_self]
section
variable {P : Program} {w : World} {K : PySem.W.Frag} {mg : Str → Option Value} {base : Heap} {A : Ads}
theorem ok_judged_tellings (T : Txt K w mg A) (F0 : FunF K mg "judged_tellings" st_judged_tellings)
    (c_values_of : CalF P w K mg base CX0 5 "values_of" ["tellings", "free"] (sp_values_of K A))
    (c_grades_make : CalF P w K mg base CX0 3 "grades_make" ["grades", "goes_by"] (sp_grades_make K)) : CalF P w K mg base CX0 6 "judged_tellings" ["program"] (sp_judged_tellings K A) := by
  obtain ⟨f_values_of, fd_values_of, G_values_of, mg_values_of, kp_values_of, b_values_of⟩ := c_values_of
  obtain ⟨f_grades_make, fd_grades_make, G_grades_make, mg_grades_make, kp_grades_make, b_grades_make⟩ := c_grades_make
  obtain ⟨f, fd, F, gF⟩ := F0
  refine ⟨f, fd, ?_, gF, F.kp, F.binds (ps := ["program"]) fun _ _ _ _ _ _ us hl => match us, hl with | [_], _ => rfl⟩
  refine F.ok sc_judged_tellings (fun vs H Q E h => by first | (obtain ⟨rfl, _⟩ := h; rfl) | (obtain ⟨_, rfl, _⟩ := h; rfl) | (obtain ⟨_, _, rfl, _⟩ := h; rfl) | (obtain ⟨_, _, _, rfl, _⟩ := h; rfl) | (obtain ⟨_, _, _, _, rfl, _⟩ := h; rfl) | (obtain ⟨_, _, _, _, _, rfl, _⟩ := h; rfl) | (obtain ⟨_, _, _, _, _, _, rfl, _⟩ := h; rfl) | (obtain ⟨_, _, _, _, _, _, _, rfl, _⟩ := h; rfl) | (obtain ⟨_, _, _, _, _, _, _, _, rfl, _⟩ := h; rfl) | (obtain ⟨_, _, _, _, _, _, _, _, _, rfl, _⟩ := h; rfl) | (obtain ⟨_, _, _, _, _, _, _, _, _, _, rfl, _⟩ := h; rfl)) (fun cdv AA outer s H vs Q E hr h => ⟨_, (pss_cons (ps_set (i := 1) sc_judged_tellings.nd rfl (Or.inl rfl) (pe_lst pa_nil))
      (pss_cons (ps_for PassesOwn.never rfl (pi_zip (by rfl) T.b_zip (pa_cons (pe_fld (pv 0) rfl) (pa_cons (pe_call G_values_of (hr.mono (by decide)) rfl mg_values_of kp_values_of b_values_of .nil pass0 (pa_cons (pe_fld (pv 0) rfl) (pa_cons (pe_fld (pv 0) rfl) pa_nil))) pa_nil))) (pg_tup rfl (pgs_cons (pg_name (i := 2) sc_judged_tellings.nd rfl (Or.inl rfl)) (pgs_cons (pg_name (i := 3) sc_judged_tellings.nd rfl (Or.inl rfl)) pgs_nil))) (pss_one (ps_expr (pe_bm PySem.F.plainAttrs_list PySem.F.slot_list_append PySem.F.type_list_append mt_append (pv 1) (pa_cons (pe_tup (pa_cons (pe_fld (pv 3) rfl) (pa_cons (pe_call G_grades_make (hr.mono (by decide)) rfl mg_grades_make kp_grades_make b_grades_make .nil pass0 (pa_cons (pe_fld (pv 2) rfl) (pa_cons (pe_fld (pv 3) rfl) pa_nil))) pa_nil))) pa_nil)))))
      (pss_one (ps_ret (pv 1))))), ?_⟩)
  obtain ⟨pr, w0, p, rfl, ⟨dx, tl, mk, us, ms, h1, h2, h3, h4, h5⟩, ⟨hok1, hok2, hok3⟩, k⟩ := h
  have hlen := h3.len
  refine ⟨Nat.zero_le _, fun r hr0 => ?_⟩
  have e0 := Ex.one (o := .lst []) hr0
  refine ⟨_, rfl, pr, _, dx, _, _, rfl, e0 _ _ h1, T.cl_Program, T.na_Program_tellings, rfl, ?_⟩
  refine ⟨_, rfl, pr, _, dx, _, _, rfl, e0 _ _ h1, T.cl_Program, T.na_Program_tellings, rfl, _, rfl, pr, _, dx, _, _, rfl, e0 _ _ h1, T.cl_Program, T.na_Program_free, rfl, ?_⟩
  refine ⟨tl, p.free, us, p.elements, rfl, SqL.of (e0 _ _ h2), h3.mono fun _ _ => ToldAt.mono e0, fun t ht => (hok1 t ht).1, hok2, fun l H1 vs hl e1 hl1 hv => ?_⟩
  have e01 := e0.trans e1
  have hvl := hv.len
  rw [finalL_len] at hvl
  have hr1 : H1 r = some (.lst []) := e1 _ _ upd_same
  refine ⟨tl, l, us, vs, rfl, SqL.of (e01 _ _ h2), SqL.of hl1, RZ.for_zipL (K := K) (a := tl) (b := l) (by omega)
    (fun i σ H' => ∃ v2 v3 ws, σ = [some (.ref pr), some (.ref r), v2, v3] ∧ Ex H H' ∧ H' tl = some (.lst us) ∧ H' l = some (.lst vs) ∧ H' r = some (.lst ws) ∧ ws.length = i ∧ i ≤ p.elements.length ∧ All2 (ValAt A H') vs (finalL p.free p.elements) ∧ All2 (PairAt (nw H H')) ws ((sheetM p.free p.elements).take i))
    ⟨none, none, [], rfl, e01, e01 _ _ h2, hl1, hr1, rfl, Nat.zero_le _, hv, .nil⟩ (fun i σ H' ⟨_, _, _, _, _, q1, q2, _⟩ => ⟨SqL.of q1, SqL.of q2⟩) ?_ ?_⟩
  · rintro i y yv t2 σ H' hi hiv ⟨v2, v3, ws, rfl, e5, q1, q2, q3, hwl, hil, hv', hp⟩ ht2
    obtain ⟨t, ht, pt, dxt, ve, g, rfl, z1, z2, z3⟩ := h3.get hi
    obtain ⟨x, hx, px, dxv, rfl, z4⟩ := hv'.get hiv
    have hlt := (List.getElem?_eq_some_iff.mp ht).1
    have et := Ex.one (o := .tup [.ref pt, .ref px]) ht2
    have e6 := e5.trans et
    obtain ⟨_, g3, g9, g5⟩ := hok1 t (List.mem_of_getElem? ht)
    refine ⟨t2, _, rfl, SqT.of upd_same, rfl, _, _, rfl, _, _, rfl, rfl, ?_⟩
    refine ⟨_, rfl, .inl ⟨rfl, _, SqL.of (et _ _ q3)⟩, ?_⟩
    refine ⟨_, rfl, px, _, dxv, _, _, rfl, et _ _ z4, T.cl_Value, T.na_Value_worth, rfl, ?_⟩
    refine ⟨_, rfl, pt, _, dxt, _, _, rfl, e6 _ _ z1, T.cl_Telling, T.na_Telling_grades, rfl, _, rfl, px, _, dxv, _, _, rfl, et _ _ z4, T.cl_Value, T.na_Value_goes_by, rfl, ?_⟩
    refine ⟨g, t.grades, x.2, rfl, SqL.of (e6 _ _ z3), g3, g9, g5, fun H2 e2 => ?_⟩
    refine ⟨by show 2 ≤ sizeLine; decide, fun tp htp => ?_⟩
    have e7 := et.trans e2
    have etp := Ex.one (o := .tup [.int (x.1 : Nat), .int (Kg56.graded x.2 t.grades)]) htp
    have e8 := e7.trans etp
    have htp0 : H tp = none := Evl.fresh_back (e5.trans e7) htp
    have nr : ∀ {q : Addr} {o : HO}, H' q = some o → q ≠ r → (upd (upd H2 tp (.tup [.int (x.1 : Nat), .int (Kg56.graded x.2 t.grades)])) r (.lst (ws ++ [.ref tp]))) q = some o := fun {q o} hq hne => by
      rw [upd_ne hne]
      exact e8 _ _ hq
    refine ⟨r, ws, _, rfl, rfl, e8 _ _ q3, ?_, ?_⟩
    · rw [hwl]
      exact Nat.lt_of_le_of_lt (m := 20) (by omega) (by decide)
    · have hrn : ∀ {q : Addr} {o : HO}, H q = some o → q ≠ r := fun h => ne_of_none h hr0
      have nlr : l ≠ r := fun e => by
        rw [e] at hl
        rw [upd_same] at hl
        cases hl
      have sh : (sheetM p.free p.elements)[i]? = some (x.1, Kg56.graded x.2 t.grades) := by
        unfold sheetM
        rw [List.getElem?_zipWith, hx, ht]
      refine ⟨_, _, ws ++ [.ref tp], rfl, fun q o e => nr (e5 _ _ e) (hrn e), nr q1 (hrn h2), nr q2 nlr, upd_same, by rw [List.length_append, hwl] <;> rfl, hlt, hv'.mono fun u y hR => ?_, ?_⟩
      · obtain ⟨p9, dx9, rfl, h9⟩ := hR
        exact ⟨p9, dx9, rfl, nr h9 (ne_of h9 q3 (by intro z; cases z))⟩
      · rw [take_more sh]
        refine All2.snoc (hp.mono fun u y hR => ?_) ⟨tp, rfl, nw_of htp0 ?_⟩
        · obtain ⟨t9, rfl, h9⟩ := hR
          refine ⟨t9, rfl, nw_of (nw_out h9) (nr (nw_in _ _ h9) (ne_of (nw_in _ _ h9) q3 (by intro z; cases z)))⟩
        · have : tp ≠ r := fun e => by
            subst e
            rw [e7 _ _ q3] at htp
            cases htp
          rw [upd_ne this]
          exact upd_same
  · rintro σ H' ⟨v2, v3, ws, rfl, e5, q1, q2, q3, hwl, hil, hv', hp⟩
    refine ⟨_, rfl, k r H' ws hr0 e5 q3 ?_⟩
    rw [hlen, List.take_of_length_le (by rw [sheetM_len]; exact Nat.le_refl _)] at hp
    exact hp
theorem ok_Outcome_init (T : Txt K w mg A) (F0 : FunI K A.cOutcome "Outcome.__init__" st_Outcome_init) : CalI P w K mg base CX0 1 A.cOutcome ["self", "judged", "components", "taken_off"] (sp_Outcome_init A) := by
  obtain ⟨f, fd, F, gF⟩ := F0
  refine ⟨f, fd, ?_, gF, F.binds (ps := ["self", "judged", "components", "taken_off"]) fun _ _ _ _ _ _ us hl => match us, hl with | [_, _, _, _], _ => rfl⟩
  refine F.ok sc_Outcome_init (fun vs H Q E h => by first | (obtain ⟨rfl, _⟩ := h; rfl) | (obtain ⟨_, rfl, _⟩ := h; rfl) | (obtain ⟨_, _, rfl, _⟩ := h; rfl) | (obtain ⟨_, _, _, rfl, _⟩ := h; rfl) | (obtain ⟨_, _, _, _, rfl, _⟩ := h; rfl) | (obtain ⟨_, _, _, _, _, rfl, _⟩ := h; rfl) | (obtain ⟨_, _, _, _, _, _, rfl, _⟩ := h; rfl) | (obtain ⟨_, _, _, _, _, _, _, rfl, _⟩ := h; rfl) | (obtain ⟨_, _, _, _, _, _, _, _, rfl, _⟩ := h; rfl) | (obtain ⟨_, _, _, _, _, _, _, _, _, rfl, _⟩ := h; rfl) | (obtain ⟨_, _, _, _, _, _, _, _, _, _, rfl, _⟩ := h; rfl)) (fun cdv AA outer s H vs Q E hr h => ⟨_, (pss_cons (ps_fld (pv 0) (pv 1) rfl)
      (pss_cons (ps_fld (pv 0) (pe_callB (cr_sum rfl) (by rfl) T.b_sum (by decide +kernel) (pa_cons (pe_lc (own := [("worth", 4), ("made", 5)]) rfl sc_Outcome_init.nd (pi_list (pv 1)) (blkOk_by (own := [("worth", 4), ("made", 5)]) (N := ["self", "judged", "components", "taken_off", "worth", "made"]) (sc := defScope st_Outcome_init) (by decide +kernel)) (fun _ _ _ _ _ => (by exact pg_tupK (K := K) (n := 2) rfl rfl (pgs_cons (pg_name (i := 4) sc_Outcome_init.nd rfl (Or.inl rfl)) (pgs_cons (pg_name (i := 5) sc_Outcome_init.nd rfl (Or.inl rfl)) pgs_nil)) rfl rfl)) (fun _ _ _ _ _ => pts_nil) (fun _ _ _ _ _ => by exact (pe_op op_add (pv 4) (pv 5)))) pa_nil)) rfl)
      (pss_cons (ps_fld (pv 0) (pv 2) rfl)
      (pss_cons (ps_fld (pv 0) (pv 3) rfl)
      (pss_one (ps_fld (pv 0) (pe_callB (call_max2 rfl) (by rfl) T.b_max (by decide +kernel) (pa_cons (pe_op op_sub (pe_op op_add (pe_fld (pv 0) rfl) (pv 2)) (pv 3)) (pa_cons pe_int pa_nil))) rfl)))))), ?_⟩)
  obtain ⟨l, ws, sh, c, t, hl, hA, h20, p, dx, rfl, hp, k⟩ := h
  have hlen := hA.len
  have nlp : l ≠ p := ne_of hl hp (by intro z; cases z)
  refine ⟨_, rfl, _, rfl, p, _, dx, _, rfl, hp, T.cl_Outcome, T.na_Outcome_judged, l1000 rfl, ?_⟩
  generalize hH1 : upd H p (.ins A.cOutcome dx (putF "judged" (.ref l) [])) = H1
  have h1 : H1 p = some (.ins A.cOutcome dx [("judged", .ref l)]) := by rw [← hH1]; exact upd_same
  have h1o : ∀ b o, H b = some o → b ≠ p → H1 b = some o := fun b o e hb => by rw [← hH1, upd_ne hb]; exact e
  refine ⟨_, rfl, l, rfl, ⟨ws, SqL.of (h1o _ _ hl nlp)⟩, fun D hD => lc_list (xs := ws) (fun i H' => Ex H1 H' ∧ H' D = some (.lst (((sh.take i).map fun x => (x.1 : Int) + x.2).map V.int))) ⟨Ex.one hD, upd_same⟩ (fun i H' _ q => SqL.of (q.1 _ _ (h1o _ _ hl nlp))) ?_ ?_⟩
  · rintro i x H' hi ⟨e1, q1⟩
    obtain ⟨y, hy, tp, rfl, z1⟩ := hA.get hi
    refine ⟨tp, _, rfl, SqT.of (e1 _ _ (h1o _ _ z1 (ne_of z1 hp (by intro z; cases z)))), rfl, _, _, rfl, _, _, rfl, rfl, rfl, ?_⟩
    refine ⟨_, rfl, _, rfl, _, _, rfl, rfl, _, q1, ?_, fun b o e => ?_, ?_⟩
    · rw [List.length_map, List.length_map, List.length_take]
      exact Nat.lt_of_le_of_lt (m := 20) (by omega) (by decide)
    · rw [upd_ne (ne_of_none e hD)]
      exact e1 b o e
    · rw [upd_same, take_more hy]
      simp
  · rintro H' ⟨e1, q1⟩
    rw [hlen, List.take_length] at q1
    refine ⟨D, _, rfl, SqL.of q1, ?_⟩
    generalize hcm : (sh.map fun x => (x.1 : Int) + x.2).sum = cm at k
    refine ⟨_, rfl, p, _, dx, _, rfl, e1 _ _ h1, T.cl_Outcome, T.na_Outcome_came_to, l1000 rfl, ?_⟩
    refine ⟨_, rfl, _, rfl, p, _, dx, _, rfl, upd_same, T.cl_Outcome, T.na_Outcome_components, l1000 rfl, ?_⟩
    refine ⟨_, rfl, _, rfl, p, _, dx, _, rfl, upd_same, T.cl_Outcome, T.na_Outcome_taken_off, l1000 rfl, ?_⟩
    refine ⟨_, rfl, p, _, dx, _, _, rfl, upd_same, T.cl_Outcome, T.na_Outcome_came_to, rfl, _, rfl, _, _, rfl, rfl, _, rfl, _, _, rfl, rfl, _, _, rfl, ?_⟩
    refine ⟨_, rfl, p, _, dx, _, rfl, upd_same, T.cl_Outcome, T.na_Outcome_score, l1000 rfl, ?_⟩
    have es : (if (0 : Int) > cm + c - (t : Int) then 0 else cm + c - (t : Int)) = Kg56.Score.all ⟨cm, c, t⟩ := by
      unfold Kg56.Score.all
      simp only
      split <;> omega
    refine k _ ?_ fun b o e hb => ?_
    · refine Eq.trans upd_same ?_
      rw [← es]
      rfl
    · rw [upd_ne hb, upd_ne hb, upd_ne hb, upd_ne hb]
      exact e1 b o (h1o b o e hb)
theorem ok_outcome_of (T : Txt K w mg A) (F0 : FunF K mg "outcome_of" st_outcome_of)
    (c_judged_tellings : CalF P w K mg base CX0 6 "judged_tellings" ["program"] (sp_judged_tellings K A))
    (c_components_make : CalF P w K mg base CX0 4 "components_make" ["rows", "factor"] (sp_components_make K))
    (c_Outcome_init : CalI P w K mg base CX0 1 A.cOutcome ["self", "judged", "components", "taken_off"] (sp_Outcome_init A))
    (c_points_off : CalF P w K mg base CX0 1 "points_off" ["falls", "off", "seconds"] (sp_points_off)) : CalF P w K mg base CX0 7 "outcome_of" ["program", "factor"] (sp_outcome_of K A) := by
  obtain ⟨f_judged_tellings, fd_judged_tellings, G_judged_tellings, mg_judged_tellings, kp_judged_tellings, b_judged_tellings⟩ := c_judged_tellings
  obtain ⟨f_components_make, fd_components_make, G_components_make, mg_components_make, kp_components_make, b_components_make⟩ := c_components_make
  obtain ⟨f_Outcome_init, fd_Outcome_init, G_Outcome_init, M_Outcome, b_Outcome_init⟩ := c_Outcome_init
  obtain ⟨f_points_off, fd_points_off, G_points_off, mg_points_off, kp_points_off, b_points_off⟩ := c_points_off
  obtain ⟨f, fd, F, gF⟩ := F0
  refine ⟨f, fd, ?_, gF, F.kp, F.binds (ps := ["program", "factor"]) fun _ _ _ _ _ _ us hl => match us, hl with | [_, _], _ => rfl⟩
  refine F.ok sc_outcome_of (fun vs H Q E h => by first | (obtain ⟨rfl, _⟩ := h; rfl) | (obtain ⟨_, rfl, _⟩ := h; rfl) | (obtain ⟨_, _, rfl, _⟩ := h; rfl) | (obtain ⟨_, _, _, rfl, _⟩ := h; rfl) | (obtain ⟨_, _, _, _, rfl, _⟩ := h; rfl) | (obtain ⟨_, _, _, _, _, rfl, _⟩ := h; rfl) | (obtain ⟨_, _, _, _, _, _, rfl, _⟩ := h; rfl) | (obtain ⟨_, _, _, _, _, _, _, rfl, _⟩ := h; rfl) | (obtain ⟨_, _, _, _, _, _, _, _, rfl, _⟩ := h; rfl) | (obtain ⟨_, _, _, _, _, _, _, _, _, rfl, _⟩ := h; rfl) | (obtain ⟨_, _, _, _, _, _, _, _, _, _, rfl, _⟩ := h; rfl)) (fun cdv AA outer s H vs Q E hr h => ⟨_, (pss_cons (ps_set (i := 2) sc_outcome_of.nd rfl (Or.inl rfl) (pe_call G_judged_tellings (hr.mono (by decide)) rfl mg_judged_tellings kp_judged_tellings b_judged_tellings .nil pass0 (pa_cons (pv 0) pa_nil)))
      (pss_cons (ps_set (i := 3) sc_outcome_of.nd rfl (Or.inl rfl) (pe_call G_components_make (hr.mono (by decide)) rfl mg_components_make kp_components_make b_components_make .nil pass0 (pa_cons (pe_fld (pv 0) rfl) (pa_cons (pv 1) pa_nil))))
      (pss_one (ps_ret (pe_make M_Outcome G_Outcome_init (hr.mono (by decide)) rfl T.g_Outcome b_Outcome_init .nil pass0 (pa_cons (pv 2) (pa_cons (pv 3) (pa_cons (pe_call G_points_off (hr.mono (by decide)) rfl mg_points_off kp_points_off b_points_off .nil pass0 (pa_cons (pe_fld (pv 0) rfl) (pa_cons (pe_fld (pv 0) rfl) (pa_cons (pe_fld (pv 0) rfl) pa_nil)))) pa_nil)))))))), ?_⟩)
  obtain ⟨pr, w0, p, f1, rfl, hP, hok, hf, k⟩ := h
  have hP' := hP
  obtain ⟨dx, tl, mk, us, ms, h1, h2, h3, h4, h5⟩ := hP'
  refine ⟨_, rfl, pr, w0, p, rfl, hP, hok, fun l H1 ws hl e1 hl1 hp => ?_⟩
  refine ⟨_, rfl, pr, _, dx, _, _, rfl, e1 _ _ h1, T.cl_Program, T.na_Program_marks, rfl, _, rfl, ?_⟩
  refine ⟨mk, ms, p.marks, f1, rfl, SqL.of (e1 _ _ h4), h5.mono fun v ns hR => ?_, hok.2.2.1, hok.2.2.2, hf, fun H2 e2 => ?_⟩
  · obtain ⟨a, rfl, ha⟩ := hR
    exact ⟨a, rfl, SqL.of (e1 _ _ ha)⟩
  · have e12 := e1.trans e2
    refine ⟨_, rfl, _, rfl, _, rfl, pr, _, dx, _, _, rfl, e12 _ _ h1, T.cl_Program, T.na_Program_falls, rfl, _, rfl, pr, _, dx, _, _, rfl, e12 _ _ h1, T.cl_Program, T.na_Program_off, rfl, _, rfl, pr, _, dx, _, _, rfl, e12 _ _ h1, T.cl_Program, T.na_Program_seconds, rfl, ?_⟩
    refine ⟨p.falls, p.off, p.seconds, rfl, ?_⟩
    intro x dx2 nx nd ne
    have hpp : All2 (PairAt (upd (upd H2 dx2 (.own x)) x (.ins A.cOutcome dx2 []))) ws (sheetM p.free p.elements) := hp.mono fun v y hR => by
      obtain ⟨t, rfl, ht⟩ := hR
      refine ⟨t, rfl, ?_⟩
      have h9 := e2 _ _ (nw_in _ _ ht)
      rw [upd_ne (ne_of_none h9 nx), upd_ne (ne_of_none h9 nd)]
      exact h9
    have hl2 := e2 _ _ hl1
    refine ⟨l, ws, sheetM p.free p.elements, _, _, ?_, hpp, by rw [sheetM_len]; exact hok.2.1, made1 (vs := [.ref l, .int _, .int _]) nx nd (fun H0 H3 hp0 e20 e23 hP3 => ⟨rfl, ?_⟩)⟩
    · rw [upd_ne (ne_of_none hl2 nx), upd_ne (ne_of_none hl2 nd)]
      exact hl2
    · have hx0 : H x = none := Evl.fresh_back e12 nx
      refine k (.ref x) H3 (e12.trans e23) ⟨x, dx2, l, ws, rfl, nw_of hx0 ?_, nw_of hl (e23 _ _ hl2), hp.mono fun v y => PairAt.mono (fun b o e => nw_of (nw_out e) ((e2.trans e23) _ _ (nw_in _ _ e)))⟩
      exact hP3
end
end Sk
set_option maxHeartbeats 2000000
namespace Sk
open PySem PySem.Spec PyProof.Rows L2
open Evl (Ex)
abbrev st_tie_weight : Stmt := top 10
theorem sc_tie_weight : FnScope ["outcome", "free"] ["outcome", "free"] (defScope st_tie_weight) := ⟨rfl, rfl, rfl, by decide +kernel, rfl, by decide +kernel, by decide +kernel⟩
abbrev st_standings_in_segment : Stmt := top 9
theorem sc_standings_in_segment : FnScope ["skated", "free", "found", "skater", "over", "score"] ["skated", "free"] (defScope st_standings_in_segment) := ⟨rfl, rfl, rfl, by decide +kernel, rfl, by decide +kernel, by decide +kernel⟩
abbrev st_standing_in_all : Stmt := top 12
theorem sc_standing_in_all : FnScope ["skater", "over", "short_score", "free_score", "both"] ["skater", "over"] (defScope st_standing_in_all) := ⟨rfl, rfl, rfl, by decide +kernel, rfl, by decide +kernel, by decide +kernel⟩
abbrev st_standings_in_all : Stmt := top 11
theorem sc_standings_in_all : FnScope ["skated", "found", "skater", "over"] ["skated"] (defScope st_standings_in_all) := ⟨rfl, rfl, rfl, by decide +kernel, rfl, by decide +kernel, by decide +kernel⟩
abbrev st_places_of : Stmt := top 8
theorem sc_places_of : FnScope ["standings", "rows", "standing", "ahead", "answer", "place", "skater", "score", "other"] ["standings"] (defScope st_places_of) := ⟨rfl, rfl, rfl, by decide +kernel, rfl, by decide +kernel, by decide +kernel⟩
/-! ### what each skater has skated, in the heap: H tells of the dicts, F of what stands -/
def SegAt (A : Ads) (F : Hp) : Option V → Option (Kg56.Program × Kg56.Score) → Prop
  | none, none => True
  | some v, some x => OutAt A F v (sheetM x.1.free x.1.elements) x.2
  | _, _ => False
theorem SegAt.mono {A : Ads} {F F' : Hp} (e : Ex F F') {v : Option V} {x : Option (Kg56.Program × Kg56.Score)} (h : SegAt A F v x) : SegAt A F' v x := by
  cases v <;> cases x <;> first | exact trivial | exact h.elim | exact OutAt.mono e h
theorem SegAt.is {A : Ads} {F : Hp} {v : Option V} {x : Option (Kg56.Program × Kg56.Score)} (h : SegAt A F v x) : v.isSome = x.isSome := by
  cases v <;> cases x <;> first | rfl | exact h.elim
abbrev bk (b : Bool) : Key := .inl (b.toNat : Int)
def OvAt (A : Ads) (H F : Hp) (v : V) (k : Kg56.Skater) : Prop := ∃ d kvs, v = .ref d ∧ H d = some (.dK kvs) ∧ kvs.length ≤ 2 ∧ ∀ b, SegAt A F (valV kvs (bk b)) (k.of b)
theorem OvAt.mono {A : Ads} {H H' F F' : Hp} (e : Ex H H') (e2 : Ex F F') {v : V} {k : Kg56.Skater} (h : OvAt A H F v k) : OvAt A H' F' v k := by
  obtain ⟨d, kvs, h1, h2, h3, h4⟩ := h
  exact ⟨d, kvs, h1, e _ _ h2, h3, fun b => (h4 b).mono e2⟩
/-- of a standing: who, the score, what the place goes by -/
abbrev Std := Nat × Int × List Int
def StAt (A : Ads) (H : Hp) (v : V) (x : Std) : Prop := ∃ p dx t, v = .ref p ∧ H p = some (.ins A.cStanding dx [("skater", .int (x.1 : Int)), ("score", .int x.2.1), ("weights", .ref t)]) ∧ H t = some (.tup (x.2.2.map V.int))
theorem StAt.mono {A : Ads} {H H' : Hp} (e : Ex H H') {v : V} {x : Std} (h : StAt A H v x) : StAt A H' v x := by
  obtain ⟨p, dx, t, h1, h2, h3⟩ := h
  exact ⟨p, dx, t, h1, e _ _ h2, e _ _ h3⟩
def tieW (b : Bool) (s : Kg56.Score) : Int := if b = true then s.components else s.elements
def segOf (b : Bool) (i : Nat) (k : Kg56.Skater) : List Std := match k.of b with
  | some x => [(i, x.2.all, [x.2.all, tieW b x.2])]
  | none => []
def allOf (i : Nat) (k : Kg56.Skater) : List Std := match k.of false with
  | some x => (match k.of true with
    | none => [(i, x.2.all, [0, x.2.all, 0])]
    | some y => [(i, x.2.all + y.2.all, [1, x.2.all + y.2.all, y.2.all])])
  | none => []
def upTo (f : Nat → Kg56.Skater → List Std) (ks : List Kg56.Skater) (n : Nat) : List Std := (List.range n).flatMap fun i => match ks[i]? with
  | some k => f i k
  | none => []
theorem upTo_more {f : Nat → Kg56.Skater → List Std} {ks : List Kg56.Skater} {n : Nat} {k : Kg56.Skater} (h : ks[n]? = some k) : upTo f ks (n + 1) = upTo f ks n ++ f n k := by
  unfold upTo
  rw [List.range_succ, List.flatMap_append]
  simp [h]
theorem segOf_len (b : Bool) (i : Nat) (k : Kg56.Skater) : (segOf b i k).length ≤ 1 := by
  unfold segOf
  split <;> simp
theorem allOf_len (i : Nat) (k : Kg56.Skater) : (allOf i k).length ≤ 1 := by
  unfold allOf
  split
  · split <;> simp
  · simp
theorem upTo_len {f : Nat → Kg56.Skater → List Std} (hf : ∀ i k, (f i k).length ≤ 1) (ks : List Kg56.Skater) : ∀ n, (upTo f ks n).length ≤ n
  | 0 => Nat.le_refl _
  | n + 1 => by
    have ih := upTo_len hf ks n
    unfold upTo at ih ⊢
    rw [List.range_succ, List.flatMap_append, List.length_append]
    simp only [List.flatMap_cons, List.flatMap_nil, List.append_nil]
    have : (match ks[n]? with | some k => f n k | none => []).length ≤ 1 := by
      split
      · exact hf _ _
      · simp
    omega
def sp_tie_weight (A : Ads) : Sp := fun vs H Q _ => ∃ (v : V) (b : Bool) (sh : List (Nat × Int)) (sc : Kg56.Score), vs = [v, fv b] ∧ OutAt A H v sh sc ∧ Q (.int (tieW b sc)) H
def sp_standings_in_segment (K : PySem.W.Frag) (A : Ads) : Sp := fun vs H Q _ => ∃ (a : Addr) (b : Bool) (us : List V) (ks : List Kg56.Skater), vs = [.ref a, fv b] ∧ SqL K H a us ∧ All2 (OvAt A H H) us ks ∧ ks.length ≤ 30 ∧
  ∀ l H' ws, H l = none → Ex H H' → H' l = some (.lst ws) → All2 (StAt A H') ws (upTo (segOf b) ks ks.length) → Q (.ref l) H'
def sp_standing_in_all (A : Ads) : Sp := fun vs H Q _ => ∃ (v : V) (i : Nat) (k : Kg56.Skater), vs = [.int (i : Int), v] ∧ OvAt A H H v k ∧ (k.of false).isSome = true ∧ ∀ v' H', Ex H H' → All2 (StAt A H') [v'] (allOf i k) → Q v' H'
def sp_standings_in_all (K : PySem.W.Frag) (A : Ads) : Sp := fun vs H Q _ => ∃ (a : Addr) (us : List V) (ks : List Kg56.Skater), vs = [.ref a] ∧ SqL K H a us ∧ All2 (OvAt A H H) us ks ∧ ks.length ≤ 30 ∧
  ∀ l H' ws, H l = none → Ex H H' → H' l = some (.lst ws) → All2 (StAt A H') ws (upTo allOf ks ks.length) → Q (.ref l) H'
def plc (sts : List Std) (x : Std) : Nat := (sts.filter fun o => lexGt o.2.2 x.2.2).length + 1
def befo (sts : List Std) (x y : Std) : Prop := plc sts x < plc sts y ∨ (plc sts x = plc sts y ∧ x.1 < y.1)
def placed (sts ord : List Std) : List Int := (ord.length : Int) :: ord.flatMap fun x => [(x.1 : Int), (plc sts x : Int), x.2.1]
def sp_places_of (K : PySem.W.Frag) (A : Ads) : Sp := fun vs H Q _ => ∃ (a : Addr) (us : List V) (sts : List Std), vs = [.ref a] ∧ SqL K H a us ∧ All2 (StAt A H) us sts ∧ sts.length ≤ 30 ∧ (sts.map (·.1)).Nodup ∧ (∀ x ∈ sts, 0 ≤ x.2.1) ∧
  ∀ l H' ord, H l = none → Ex H H' → ord.Perm sts → ord.Pairwise (befo sts) → H' l = some (.lst ((placed sts ord).map V.int)) → Q (.ref l) H'
theorem fvk (b : Bool) : fv b = kV (bk b) := rfl
theorem All2.perm {α β : Type} {R : α → β → Prop} {l l' : List α} (hp : l'.Perm l) : ∀ {m : List β}, All2 R l m → ∃ m', m'.Perm m ∧ All2 R l' m' := by
  induction hp with
  | nil => exact fun h => ⟨_, .refl _, h⟩
  | cons x _ ih =>
    intro m h
    cases h with
    | cons h t =>
      obtain ⟨m', p, q⟩ := ih t
      exact ⟨_, p.cons _, .cons h q⟩
  | swap x y l =>
    intro m h
    cases h with
    | cons h t => cases t with
      | cons h2 t2 => exact ⟨_, .swap _ _ _, .cons h2 (.cons h t2)⟩
  | trans _ _ ih1 ih2 =>
    intro m h
    obtain ⟨m1, p1, q1⟩ := ih2 h
    obtain ⟨m2, p2, q2⟩ := ih1 q1
    exact ⟨m2, p2.trans p1, q2⟩
theorem All2.pair {α β : Type} {R : α → β → Prop} {P : α → α → Prop} {S : β → β → Prop} : ∀ {l : List α} {m : List β}, All2 R l m → l.Pairwise P → (∀ a b c d, a ∈ l → c ∈ l → P a c → R a b → R c d → S b d) → m.Pairwise S
  | _, _, .nil, _, _ => .nil
  | _, _, .cons (a := a) (b := b) (l := l) (m := m) h t, hp, f => by
    have hp2 := List.pairwise_cons.mp hp
    refine List.pairwise_cons.mpr ⟨fun d hd => ?_, t.pair hp2.2 fun a b c d ha hc => f a b c d (List.mem_cons_of_mem _ ha) (List.mem_cons_of_mem _ hc)⟩
    obtain ⟨j, hj⟩ := List.mem_iff_getElem?.mp hd
    obtain ⟨c, hc, hR⟩ := t.get2 hj
    exact f a b c d List.mem_cons_self (List.mem_cons_of_mem _ (List.mem_of_getElem? hc)) (hp2.1 c (List.mem_of_getElem? hc)) h hR
theorem code3 (B a b c : Int) : TS.code B [a, b, c] = a * (B * B) + b * B + c := by
  have e2 : B ^ 2 = B * B := by rw [Int.pow_succ, Int.pow_succ, Int.pow_zero, Int.one_mul]
  have e1 : B ^ 1 = B := by rw [Int.pow_succ, Int.pow_zero, Int.one_mul]
  have e0 : B ^ 0 = 1 := Int.pow_zero _
  show a * B ^ 2 + (b * B ^ 1 + (c * B ^ 0 + 0)) = _
  rw [e2, e1, e0, Int.mul_one, Int.add_zero, Int.add_assoc]
theorem code_le {B a b c a' b' c' : Int} (h : TS.code B [a, b, c] ≤ TS.code B [a', b', c']) (ha : 0 ≤ a) (hb : 0 ≤ b ∧ b < B) (hc : 0 ≤ c ∧ c < B) (hb' : 0 ≤ b' ∧ b' < B) (hc' : 0 ≤ c' ∧ c' < B) (ha' : 0 ≤ a') (hne : b ≠ b') : a < a' ∨ (a = a' ∧ b < b') := by
  rw [code3, code3] at h
  rcases Int.lt_trichotomy a a' with q | q | q
  · exact .inl q
  · refine .inr ⟨q, ?_⟩
    subst q
    rcases Int.lt_trichotomy b b' with r | r | r
    · exact r
    · exact absurd r hne
    · exfalso
      have h1 : (b' + 1) * B ≤ b * B := Int.mul_le_mul_of_nonneg_right (by omega) (by omega)
      rw [Int.add_mul, Int.one_mul] at h1
      omega
  · exfalso
    have h1 : (a' + 1) * (B * B) ≤ a * (B * B) := Int.mul_le_mul_of_nonneg_right (by omega) (Int.mul_nonneg (by omega) (by omega))
    have h2 : (b' + 1) * B ≤ B * B := Int.mul_le_mul_of_nonneg_right (by omega) (by omega)
    have h3 : 0 ≤ b * B := Int.mul_nonneg (by omega) (by omega)
    rw [Int.add_mul, Int.one_mul] at h1 h2
    omega
theorem mem_le_sum : ∀ {l : List Int} {x : Int}, (∀ y ∈ l, 0 ≤ y) → x ∈ l → x ≤ l.sum
  | y :: l, x, h, hx => by
    have h0 : 0 ≤ l.sum := by
      have : ∀ l : List Int, (∀ y ∈ l, 0 ≤ y) → 0 ≤ l.sum := by
        intro l
        induction l with
        | nil => intro _; simp
        | cons a l ih => intro h; have := ih fun y hy => h y (List.mem_cons_of_mem _ hy); have := h a List.mem_cons_self; rw [List.sum_cons]; omega
      exact this l fun y hy => h y (List.mem_cons_of_mem _ hy)
    have hy := h y List.mem_cons_self
    rw [List.sum_cons]
    rcases List.mem_cons.mp hx with e | hx
    · subst e; omega
    · have := mem_le_sum (fun y hy => h y (List.mem_cons_of_mem _ hy)) hx
      omega
section
variable {P : Program} {w : World} {K : PySem.W.Frag} {mg : Str → Option Value} {base : Heap} {A : Ads}
theorem ok_tie_weight (T : Txt K w mg A) (F0 : FunF K mg "tie_weight" st_tie_weight) : CalF P w K mg base CX0 1 "tie_weight" ["outcome", "free"] (sp_tie_weight A) := by
  obtain ⟨f, fd, F, gF⟩ := F0
  refine ⟨f, fd, ?_, gF, F.kp, F.binds (ps := ["outcome", "free"]) fun _ _ _ _ _ _ us hl => match us, hl with | [_, _], _ => rfl⟩
  refine F.ok sc_tie_weight (fun vs H Q E h => by first | (obtain ⟨rfl, _⟩ := h; rfl) | (obtain ⟨_, rfl, _⟩ := h; rfl) | (obtain ⟨_, _, rfl, _⟩ := h; rfl) | (obtain ⟨_, _, _, rfl, _⟩ := h; rfl) | (obtain ⟨_, _, _, _, rfl, _⟩ := h; rfl) | (obtain ⟨_, _, _, _, _, rfl, _⟩ := h; rfl) | (obtain ⟨_, _, _, _, _, _, rfl, _⟩ := h; rfl) | (obtain ⟨_, _, _, _, _, _, _, rfl, _⟩ := h; rfl) | (obtain ⟨_, _, _, _, _, _, _, _, rfl, _⟩ := h; rfl) | (obtain ⟨_, _, _, _, _, _, _, _, _, rfl, _⟩ := h; rfl) | (obtain ⟨_, _, _, _, _, _, _, _, _, _, rfl, _⟩ := h; rfl)) (fun cdv AA outer s H vs Q E hr h => ⟨_, (pss_cons (ps_if (pt_cmpR op_eq (pv 1) (pe_globI T.k_FREE) (nomark _)) (pss_one (ps_ret (pe_fld (pv 0) rfl))) pss_nil)
      (pss_one (ps_ret (pe_fld (pv 0) rfl)))), ?_⟩)
  obtain ⟨v, b, sh, sc, rfl, ⟨p, dx, l, ws, rfl, h1, h2, h3⟩, k⟩ := h
  unfold tieW at k
  refine ⟨_, rfl, rfl, _, rfl, ?_⟩
  cases b with
  | true =>
    rw [iT (by rfl)]
    exact ⟨_, rfl, p, _, dx, _, _, rfl, h1, T.cl_Outcome, T.na_Outcome_components, rfl, k⟩
  | false =>
    rw [iF (by decide)]
    exact ⟨_, rfl, p, _, dx, _, _, rfl, h1, T.cl_Outcome, T.na_Outcome_came_to, rfl, k⟩
theorem ok_standings_in_segment (T : Txt K w mg A) (F0 : FunF K mg "standings_in_segment" st_standings_in_segment)
    (c_Standing_init : CalI P w K mg base CX0 1 A.cStanding ["self", "skater", "score", "weights"] (sp_Standing_init A))
    (c_tie_weight : CalF P w K mg base CX0 1 "tie_weight" ["outcome", "free"] (sp_tie_weight A)) : CalF P w K mg base CX0 3 "standings_in_segment" ["skated", "free"] (sp_standings_in_segment K A) := by
  obtain ⟨f_Standing_init, fd_Standing_init, G_Standing_init, M_Standing, b_Standing_init⟩ := c_Standing_init
  obtain ⟨f_tie_weight, fd_tie_weight, G_tie_weight, mg_tie_weight, kp_tie_weight, b_tie_weight⟩ := c_tie_weight
  obtain ⟨f, fd, F, gF⟩ := F0
  refine ⟨f, fd, ?_, gF, F.kp, F.binds (ps := ["skated", "free"]) fun _ _ _ _ _ _ us hl => match us, hl with | [_, _], _ => rfl⟩
  refine F.ok sc_standings_in_segment (fun vs H Q E h => by first | (obtain ⟨rfl, _⟩ := h; rfl) | (obtain ⟨_, rfl, _⟩ := h; rfl) | (obtain ⟨_, _, rfl, _⟩ := h; rfl) | (obtain ⟨_, _, _, rfl, _⟩ := h; rfl) | (obtain ⟨_, _, _, _, rfl, _⟩ := h; rfl) | (obtain ⟨_, _, _, _, _, rfl, _⟩ := h; rfl) | (obtain ⟨_, _, _, _, _, _, rfl, _⟩ := h; rfl) | (obtain ⟨_, _, _, _, _, _, _, rfl, _⟩ := h; rfl) | (obtain ⟨_, _, _, _, _, _, _, _, rfl, _⟩ := h; rfl) | (obtain ⟨_, _, _, _, _, _, _, _, _, rfl, _⟩ := h; rfl) | (obtain ⟨_, _, _, _, _, _, _, _, _, _, rfl, _⟩ := h; rfl)) (fun cdv AA outer s H vs Q E hr h => ⟨_, (pss_cons (ps_set (i := 2) sc_standings_in_segment.nd rfl (Or.inl rfl) (pe_lst pa_nil))
      (pss_cons (ps_for PassesOwn.never rfl (pi_enum (by rfl) T.b_enumerate (pa_cons (pv 0) pa_nil)) (pg_tup rfl (pgs_cons (pg_name (i := 3) sc_standings_in_segment.nd rfl (Or.inl rfl)) (pgs_cons (pg_name (i := 4) sc_standings_in_segment.nd rfl (Or.inl rfl)) pgs_nil))) (pss_one (ps_if (pt_cmp (pc_din (hu_of hr) (pv 1) (pv 4))) (pss_cons (ps_set (i := 5) sc_standings_in_segment.nd rfl (Or.inl rfl) (pe_fld (pe_dget (hu_of hr) (pv 4) (pv 1) (fun _ _ => rfl)) rfl))
      (pss_one (ps_expr (pe_bm PySem.F.plainAttrs_list PySem.F.slot_list_append PySem.F.type_list_append mt_append (pv 2) (pa_cons (pe_make M_Standing G_Standing_init (hr.mono (by decide)) rfl T.g_Standing b_Standing_init .nil pass0 (pa_cons (pv 3) (pa_cons (pv 5) (pa_cons (pe_tup (pa_cons (pv 5) (pa_cons (pe_call G_tie_weight (hr.mono (by decide)) rfl mg_tie_weight kp_tie_weight b_tie_weight .nil pass0 (pa_cons (pe_dget (hu_of hr) (pv 4) (pv 1) (fun _ _ => rfl)) (pa_cons (pv 1) pa_nil))) pa_nil))) pa_nil)))) pa_nil))))) pss_nil)))
      (pss_one (ps_ret (pv 2))))), ?_⟩)
  obtain ⟨a, b, us, ks, rfl, hS, hA, h30, k⟩ := h
  have hlen := hA.len
  refine ⟨Nat.zero_le _, fun r hr0 => ?_⟩
  refine ⟨_, rfl, a, us, rfl, Evl.ex_l (Ex.one hr0) hS, for_enumL (K := K) (a := a) (xs := us) (fun i σ H' => ∃ v v2 v3 ws, σ = [some (.ref a), some (fv b), some (.ref r), v, v2, v3] ∧ Ex H H' ∧ H' r = some (.lst ws) ∧ All2 (StAt A H') ws (upTo (segOf b) ks i) ∧ i ≤ 30)
    ⟨none, none, none, [], rfl, Ex.one hr0, upd_same, .nil, Nat.zero_le _⟩ (fun i σ H' ⟨_, _, _, _, _, e5, _⟩ => Evl.ex_l e5 hS) ?_ ?_⟩
  · rintro i y t2 σ H' hi ⟨v, v2, v3, ws, rfl, e5, q1, q2, hi30⟩ ht2
    obtain ⟨kk0, hk, d, kvs, rfl, z1, z2, z3⟩ := hA.get hi
    have hlt := (List.getElem?_eq_some_iff.mp hk).1
    have et := Ex.one (o := .tup [.int (i : Nat), .ref d]) ht2
    have e6 := e5.trans et
    refine ⟨t2, _, rfl, SqT.of upd_same, rfl, _, _, rfl, _, _, rfl, rfl, ?_⟩
    refine ⟨_, rfl, _, rfl, d, _, rfl, DGet.k (k := bk b) (e6 _ _ z1), _, rfl, ?_⟩
    have zb := z3 b
    have hup := upTo_more (f := segOf b) hk
    have hwl := q2.len
    have hul := upTo_len (f := segOf b) (segOf_len b) ks i
    cases hs : kk0.of b with
    | none =>
      rw [hs] at zb
      have hn : (valV kvs (bk b)).isSome = false := by rw [zb.is]; rfl
      rw [hn]
      refine ⟨_, _, _, ws, rfl, e6, et _ _ q1, ?_, by omega⟩
      have : segOf b i kk0 = [] := by unfold segOf; rw [hs]
      rw [hup, this, List.append_nil]
      exact q2.mono fun _ _ => StAt.mono et
    | some x =>
      rw [hs] at zb
      cases hv : valV kvs (bk b) with
      | none => rw [hv] at zb; exact zb.elim
      | some ov =>
        rw [hv] at zb
        have hb : OutAt A H ov (sheetM x.1.free x.1.elements) x.2 := zb
        obtain ⟨po, dxo, lo, wo, rfl, o1, o2, o3⟩ := hb
        have dg : ∀ {H'' : Hp}, Ex H H'' → DGet H'' d (fv b) (some (.ref po)) := fun e => by
          have := DGet.k (k := bk b) (e _ _ z1)
          rw [hv] at this
          exact this
        refine ⟨_, rfl, _, rfl, d, _, rfl, dg e6, po, _, dxo, _, _, rfl, e6 _ _ o1, T.cl_Outcome, T.na_Outcome_score, rfl, ?_⟩
        refine ⟨_, rfl, .inl ⟨rfl, _, SqL.of (et _ _ q1)⟩, ?_⟩
        refine ⟨_, rfl, _, rfl, _, rfl, _, rfl, _, rfl, d, _, rfl, dg e6, _, rfl, ?_⟩
        refine ⟨.ref po, b, _, x.2, rfl, ⟨po, dxo, lo, wo, rfl, e6 _ _ o1, e6 _ _ o2, o3.mono fun _ _ => PairAt.mono e6⟩, ?_⟩
        refine ⟨by show 2 ≤ sizeLine; decide, fun tp htp => ?_⟩
        intro px dpx nx nd ne
        refine ⟨_, _, _, made0 (vs := [_, _, _]) nx nd (fun H3 e3 h3 => ⟨rfl, ?_⟩)⟩
        have etp := Ex.one (o := .tup [.int x.2.all, .int (tieW b x.2)]) htp
        have e7 := (et.trans etp).trans e3
        refine ⟨r, ws, _, rfl, rfl, e7 _ _ q1, ?_, ?_⟩
        · rw [hwl]
          exact Nat.lt_of_le_of_lt (m := 30) (by omega) (by decide)
        · have nr : ∀ {q : Addr} {o : HO}, H3 q = some o → q ≠ r → (upd H3 r (.lst (ws ++ [.ref px]))) q = some o := fun {q o} h hne => by
            rw [upd_ne hne]
            exact h
          have h3r := e7 _ _ q1
          refine ⟨_, _, _, ws ++ [.ref px], rfl, fun q o e => nr (e7 _ _ (e5 _ _ e)) (ne_of_none e hr0), upd_same, ?_, by omega⟩
          have : segOf b i kk0 = [(i, x.2.all, [x.2.all, tieW b x.2])] := by unfold segOf; rw [hs]
          rw [hup, this]
          refine All2.snoc (q2.mono fun u y hR => ?_) ⟨px, _, tp, rfl, nr h3 (ne_of h3 h3r (by intro z; cases z)), nr (e3 _ _ upd_same) (ne_of (e3 _ _ upd_same) h3r (by intro z; cases z))⟩
          obtain ⟨p9, dx9, t9, rfl, h9, h10⟩ := hR
          exact ⟨p9, dx9, t9, rfl, nr (e7 _ _ h9) (ne_of (e7 _ _ h9) h3r (by intro z; cases z)), nr (e7 _ _ h10) (ne_of (e7 _ _ h10) h3r (by intro z; cases z))⟩
  · rintro σ H' ⟨v, v2, v3, ws, rfl, e5, q1, q2, hi30⟩
    refine ⟨_, rfl, k r H' ws hr0 e5 q1 ?_⟩
    rw [hlen] at q2
    exact q2
theorem ok_standing_in_all (T : Txt K w mg A) (F0 : FunF K mg "standing_in_all" st_standing_in_all)
    (c_Standing_init : CalI P w K mg base CX0 1 A.cStanding ["self", "skater", "score", "weights"] (sp_Standing_init A)) : CalF P w K mg base CX0 3 "standing_in_all" ["skater", "over"] (sp_standing_in_all A) := by
  obtain ⟨f_Standing_init, fd_Standing_init, G_Standing_init, M_Standing, b_Standing_init⟩ := c_Standing_init
  obtain ⟨f, fd, F, gF⟩ := F0
  refine ⟨f, fd, ?_, gF, F.kp, F.binds (ps := ["skater", "over"]) fun _ _ _ _ _ _ us hl => match us, hl with | [_, _], _ => rfl⟩
  refine F.ok sc_standing_in_all (fun vs H Q E h => by first | (obtain ⟨rfl, _⟩ := h; rfl) | (obtain ⟨_, rfl, _⟩ := h; rfl) | (obtain ⟨_, _, rfl, _⟩ := h; rfl) | (obtain ⟨_, _, _, rfl, _⟩ := h; rfl) | (obtain ⟨_, _, _, _, rfl, _⟩ := h; rfl) | (obtain ⟨_, _, _, _, _, rfl, _⟩ := h; rfl) | (obtain ⟨_, _, _, _, _, _, rfl, _⟩ := h; rfl) | (obtain ⟨_, _, _, _, _, _, _, rfl, _⟩ := h; rfl) | (obtain ⟨_, _, _, _, _, _, _, _, rfl, _⟩ := h; rfl) | (obtain ⟨_, _, _, _, _, _, _, _, _, rfl, _⟩ := h; rfl) | (obtain ⟨_, _, _, _, _, _, _, _, _, _, rfl, _⟩ := h; rfl)) (fun cdv AA outer s H vs Q E hr h => ⟨_, (pss_cons (ps_set (i := 2) sc_standing_in_all.nd rfl (Or.inl rfl) (pe_fld (pe_dget (hu_of hr) (pv 1) (pe_globI T.k_SHORT) (fun _ _ => rfl)) rfl))
      (pss_cons (ps_if (pt_cmp (pc_dnotin (hu_of hr) (pe_globI T.k_FREE) (pv 1))) (pss_one (ps_ret (pe_make M_Standing G_Standing_init (hr.mono (by decide)) rfl T.g_Standing b_Standing_init .nil pass0 (pa_cons (pv 0) (pa_cons (pv 2) (pa_cons (pe_tup (pa_cons pe_int (pa_cons (pv 2) (pa_cons pe_int pa_nil)))) pa_nil)))))) pss_nil)
      (pss_cons (ps_set (i := 3) sc_standing_in_all.nd rfl (Or.inl rfl) (pe_fld (pe_dget (hu_of hr) (pv 1) (pe_globI T.k_FREE) (fun _ _ => rfl)) rfl))
      (pss_cons (ps_set (i := 4) sc_standing_in_all.nd rfl (Or.inl rfl) (pe_op op_add (pv 2) (pv 3)))
      (pss_one (ps_ret (pe_make M_Standing G_Standing_init (hr.mono (by decide)) rfl T.g_Standing b_Standing_init .nil pass0 (pa_cons (pv 0) (pa_cons (pv 4) (pa_cons (pe_tup (pa_cons pe_int (pa_cons (pv 4) (pa_cons (pv 3) pa_nil)))) pa_nil)))))))))), ?_⟩)
  obtain ⟨v, i, kk0, rfl, ⟨d, kvs, rfl, z1, z2, z3⟩, hsh, k⟩ := h
  have zf := z3 false
  obtain ⟨x, hx⟩ := Option.isSome_iff_exists.mp hsh
  rw [hx] at zf
  cases hv : valV kvs (bk false) with
  | none => rw [hv] at zf; exact zf.elim
  | some ov =>
    rw [hv] at zf
    obtain ⟨po, dxo, lo, wo, rfl, o1, o2, o3⟩ := (show OutAt A H ov (sheetM x.1.free x.1.elements) x.2 from zf)
    have dg := DGet.k (k := bk false) z1
    rw [hv] at dg
    refine ⟨_, rfl, d, _, rfl, dg, po, _, dxo, _, _, rfl, o1, T.cl_Outcome, T.na_Outcome_score, rfl, ?_⟩
    refine ⟨_, rfl, d, _, rfl, DGet.k (k := bk true) z1, _, rfl, ?_⟩
    have zt := z3 true
    unfold allOf at k
    rw [hx] at k
    cases ht : kk0.of true with
    | none =>
      rw [ht] at zt k
      have hn : (valV kvs (bk true)).isSome = false := by rw [zt.is]; rfl
      rw [hn]
      refine ⟨_, rfl, _, rfl, _, rfl, by show 3 ≤ sizeLine; decide, fun tp htp => ?_⟩
      intro px dpx nx nd ne
      refine ⟨_, _, _, made0 (vs := [_, _, _]) nx nd (fun H3 e3 h3 => ⟨rfl, ?_⟩)⟩
      exact k _ H3 ((Ex.one htp).trans e3) (.cons ⟨px, _, tp, rfl, h3, e3 _ _ upd_same⟩ .nil)
    | some y =>
      rw [ht] at zt k
      cases hv2 : valV kvs (bk true) with
      | none => rw [hv2] at zt; exact zt.elim
      | some ov2 =>
        rw [hv2] at zt
        obtain ⟨po2, dxo2, lo2, wo2, rfl, o4, o5, o6⟩ := (show OutAt A H ov2 (sheetM y.1.free y.1.elements) y.2 from zt)
        have dg2 := DGet.k (k := bk true) z1
        rw [hv2] at dg2
        refine ⟨_, rfl, d, _, rfl, dg2, po2, _, dxo2, _, _, rfl, o4, T.cl_Outcome, T.na_Outcome_score, rfl, ?_⟩
        refine ⟨_, rfl, _, rfl, _, _, rfl, rfl, ?_⟩
        refine ⟨_, rfl, _, rfl, _, rfl, _, rfl, by show 3 ≤ sizeLine; decide, fun tp htp => ?_⟩
        intro px dpx nx nd ne
        refine ⟨_, _, _, made0 (vs := [_, _, _]) nx nd (fun H3 e3 h3 => ⟨rfl, ?_⟩)⟩
        exact k _ H3 ((Ex.one htp).trans e3) (.cons ⟨px, _, tp, rfl, h3, e3 _ _ upd_same⟩ .nil)
theorem ok_standings_in_all (T : Txt K w mg A) (F0 : FunF K mg "standings_in_all" st_standings_in_all)
    (c_standing_in_all : CalF P w K mg base CX0 3 "standing_in_all" ["skater", "over"] (sp_standing_in_all A)) : CalF P w K mg base CX0 4 "standings_in_all" ["skated"] (sp_standings_in_all K A) := by
  obtain ⟨f_standing_in_all, fd_standing_in_all, G_standing_in_all, mg_standing_in_all, kp_standing_in_all, b_standing_in_all⟩ := c_standing_in_all
  obtain ⟨f, fd, F, gF⟩ := F0
  refine ⟨f, fd, ?_, gF, F.kp, F.binds (ps := ["skated"]) fun _ _ _ _ _ _ us hl => match us, hl with | [_], _ => rfl⟩
  refine F.ok sc_standings_in_all (fun vs H Q E h => by first | (obtain ⟨rfl, _⟩ := h; rfl) | (obtain ⟨_, rfl, _⟩ := h; rfl) | (obtain ⟨_, _, rfl, _⟩ := h; rfl) | (obtain ⟨_, _, _, rfl, _⟩ := h; rfl) | (obtain ⟨_, _, _, _, rfl, _⟩ := h; rfl) | (obtain ⟨_, _, _, _, _, rfl, _⟩ := h; rfl) | (obtain ⟨_, _, _, _, _, _, rfl, _⟩ := h; rfl) | (obtain ⟨_, _, _, _, _, _, _, rfl, _⟩ := h; rfl) | (obtain ⟨_, _, _, _, _, _, _, _, rfl, _⟩ := h; rfl) | (obtain ⟨_, _, _, _, _, _, _, _, _, rfl, _⟩ := h; rfl) | (obtain ⟨_, _, _, _, _, _, _, _, _, _, rfl, _⟩ := h; rfl)) (fun cdv AA outer s H vs Q E hr h => ⟨_, (pss_cons (ps_set (i := 1) sc_standings_in_all.nd rfl (Or.inl rfl) (pe_lst pa_nil))
      (pss_cons (ps_for PassesOwn.never rfl (pi_enum (by rfl) T.b_enumerate (pa_cons (pv 0) pa_nil)) (pg_tup rfl (pgs_cons (pg_name (i := 2) sc_standings_in_all.nd rfl (Or.inl rfl)) (pgs_cons (pg_name (i := 3) sc_standings_in_all.nd rfl (Or.inl rfl)) pgs_nil))) (pss_one (ps_if (pt_cmp (pc_din (hu_of hr) (pe_globI T.k_SHORT) (pv 3))) (pss_one (ps_expr (pe_bm PySem.F.plainAttrs_list PySem.F.slot_list_append PySem.F.type_list_append mt_append (pv 1) (pa_cons (pe_call G_standing_in_all (hr.mono (by decide)) rfl mg_standing_in_all kp_standing_in_all b_standing_in_all .nil pass0 (pa_cons (pv 2) (pa_cons (pv 3) pa_nil))) pa_nil)))) pss_nil)))
      (pss_one (ps_ret (pv 1))))), ?_⟩)
  obtain ⟨a, us, ks, rfl, hS, hA, h30, k⟩ := h
  have hlen := hA.len
  refine ⟨Nat.zero_le _, fun r hr0 => ?_⟩
  refine ⟨_, rfl, a, us, rfl, Evl.ex_l (Ex.one hr0) hS, for_enumL (K := K) (a := a) (xs := us) (fun i σ H' => ∃ v v2 ws, σ = [some (.ref a), some (.ref r), v, v2] ∧ Ex H H' ∧ H' r = some (.lst ws) ∧ All2 (StAt A H') ws (upTo allOf ks i) ∧ i ≤ 30)
    ⟨none, none, [], rfl, Ex.one hr0, upd_same, .nil, Nat.zero_le _⟩ (fun i σ H' ⟨_, _, _, _, e5, _⟩ => Evl.ex_l e5 hS) ?_ ?_⟩
  · rintro i y t2 σ H' hi ⟨v, v2, ws, rfl, e5, q1, q2, hi30⟩ ht2
    obtain ⟨kk0, hk, hO⟩ := hA.get hi
    have hO' := hO
    obtain ⟨d, kvs, rfl, z1, z2, z3⟩ := hO'
    have hlt := (List.getElem?_eq_some_iff.mp hk).1
    have et := Ex.one (o := .tup [.int (i : Nat), .ref d]) ht2
    have e6 := e5.trans et
    refine ⟨t2, _, rfl, SqT.of upd_same, rfl, _, _, rfl, _, _, rfl, rfl, ?_⟩
    refine ⟨_, rfl, d, _, rfl, DGet.k (k := bk false) (e6 _ _ z1), _, rfl, ?_⟩
    have zb := z3 false
    have hup := upTo_more (f := allOf) hk
    have hwl := q2.len
    have hul := upTo_len (f := allOf) allOf_len ks i
    rw [zb.is]
    cases hs : kk0.of false with
    | none =>
      refine ⟨_, _, ws, rfl, e6, et _ _ q1, ?_, by omega⟩
      have : allOf i kk0 = [] := by unfold allOf; rw [hs]
      rw [hup, this, List.append_nil]
      exact q2.mono fun _ _ => StAt.mono et
    | some x =>
      refine ⟨_, rfl, .inl ⟨rfl, _, SqL.of (et _ _ q1)⟩, _, rfl, _, rfl, ?_⟩
      refine ⟨.ref d, i, kk0, rfl, hO.mono e6 e6, by rw [hs]; rfl, fun v' H3 e3 hst => ?_⟩
      have e7 := et.trans e3
      have h3r := e7 _ _ q1
      refine ⟨r, ws, _, rfl, rfl, h3r, ?_, ?_⟩
      · rw [hwl]
        exact Nat.lt_of_le_of_lt (m := 30) (by omega) (by decide)
      · have nr : ∀ {q : Addr} {o : HO}, H3 q = some o → q ≠ r → (upd H3 r (.lst (ws ++ [v']))) q = some o := fun {q o} h hne => by
          rw [upd_ne hne]
          exact h
        refine ⟨_, _, ws ++ [v'], rfl, fun q o e => nr (e7 _ _ (e5 _ _ e)) (ne_of_none e hr0), upd_same, ?_, by omega⟩
        have mv : ∀ u y, StAt A H3 u y → StAt A (upd H3 r (.lst (ws ++ [v']))) u y := fun u y hR => by
          obtain ⟨p9, dx9, t9, rfl, h9, h10⟩ := hR
          exact ⟨p9, dx9, t9, rfl, nr h9 (ne_of h9 h3r (by intro z; cases z)), nr h10 (ne_of h10 h3r (by intro z; cases z))⟩
        rw [hup]
        exact All2.app (q2.mono fun u y hR => mv u y (hR.mono e7)) (hst.mono mv)
  · rintro σ H' ⟨v, v2, ws, rfl, e5, q1, q2, hi30⟩
    refine ⟨_, rfl, k r H' ws hr0 e5 q1 ?_⟩
    rw [hlen] at q2
    exact q2
theorem ok_places_of (T : Txt K w mg A) (F0 : FunF K mg "places_of" st_places_of) : CalF P w K mg base CX0 1 "places_of" ["standings"] (sp_places_of K A) := by
  obtain ⟨f, fd, F, gF⟩ := F0
  refine ⟨f, fd, ?_, gF, F.kp, F.binds (ps := ["standings"]) fun _ _ _ _ _ _ us hl => match us, hl with | [_], _ => rfl⟩
  refine F.ok sc_places_of (fun vs H Q E h => by first | (obtain ⟨rfl, _⟩ := h; rfl) | (obtain ⟨_, rfl, _⟩ := h; rfl) | (obtain ⟨_, _, rfl, _⟩ := h; rfl) | (obtain ⟨_, _, _, rfl, _⟩ := h; rfl) | (obtain ⟨_, _, _, _, rfl, _⟩ := h; rfl) | (obtain ⟨_, _, _, _, _, rfl, _⟩ := h; rfl) | (obtain ⟨_, _, _, _, _, _, rfl, _⟩ := h; rfl) | (obtain ⟨_, _, _, _, _, _, _, rfl, _⟩ := h; rfl) | (obtain ⟨_, _, _, _, _, _, _, _, rfl, _⟩ := h; rfl) | (obtain ⟨_, _, _, _, _, _, _, _, _, rfl, _⟩ := h; rfl) | (obtain ⟨_, _, _, _, _, _, _, _, _, _, rfl, _⟩ := h; rfl)) (fun cdv AA outer s H vs Q E hr h => ⟨_, (pss_cons (ps_set (i := 1) sc_places_of.nd rfl (Or.inl rfl) (pe_lst pa_nil))
      (pss_cons (ps_for PassesOwn.never rfl (pi_list (pv 0)) (pg_name (i := 2) sc_places_of.nd rfl (Or.inr rfl)) (pss_cons (ps_setLc (i := 3) (own := [("other", 8)]) rfl sc_places_of.nd rfl rfl (sw_true rfl rfl rfl (by decide +kernel)) (pi_list (pv 0)) (blkOk_by (own := [("other", 8)]) (N := ["standings", "rows", "standing", "ahead", "answer", "place", "skater", "score", "other"]) (sc := defScope st_places_of) (by decide +kernel)) (fun _ _ _ _ _ => (pg_name (i := 8) sc_places_of.nd rfl (Or.inl rfl))) (fun _ _ _ _ _ => by exact pts_one (pt_cmpR (op_gtTK (K := K) rfl hr.units0) (pe_fldK (K := K) rfl (pv 8) rfl) (pe_fldK (K := K) rfl (pv 2) rfl) (nomark _))) (fun _ _ _ _ _ => by exact (pv 8)))
      (pss_one (ps_expr (pe_bm PySem.F.plainAttrs_list PySem.F.slot_list_append PySem.F.type_list_append mt_append (pv 1) (pa_cons (pe_tup (pa_cons (pe_op op_add (pe_callB call_len_seq (by rfl) T.b_len (by decide +kernel) (pa_cons (pv 3) pa_nil)) pe_int) (pa_cons (pe_fld (pv 2) rfl) (pa_cons (pe_fld (pv 2) rfl) pa_nil)))) pa_nil))))))
      (pss_cons (ps_set (i := 4) sc_places_of.nd rfl (Or.inl rfl) (pe_lst (pa_cons (pe_callB call_len_seq (by rfl) T.b_len (by decide +kernel) (pa_cons (pv 1) pa_nil)) pa_nil)))
      (pss_cons (ps_for PassesOwn.never rfl (pi_list (pe_callB (cr_sortE (K := K) rfl) (by rfl) T.b_sorted (by decide +kernel) (pa_cons (pv 1) pa_nil))) (pg_tup rfl (pgs_cons (pg_name (i := 5) sc_places_of.nd rfl (Or.inl rfl)) (pgs_cons (pg_name (i := 6) sc_places_of.nd rfl (Or.inl rfl)) (pgs_cons (pg_name (i := 7) sc_places_of.nd rfl (Or.inl rfl)) pgs_nil)))) (pss_one (ps_expr (pe_bm PySem.F.plainAttrs_list PySem.F.slot_list_extend PySem.F.type_list_extend mt_extend (pv 4) (pa_cons (pe_lst (pa_cons (pv 6) (pa_cons (pv 5) (pa_cons (pv 7) pa_nil)))) pa_nil)))))
      (pss_one (ps_ret (pv 4))))))), ?_⟩)
  obtain ⟨a, us, sts, rfl, hS, hA, h30, hnd, hsc, k⟩ := h
  have hlen := hA.len
  refine ⟨Nat.zero_le _, fun r hr0 => ?_⟩
  have e0 := Ex.one (o := .lst []) hr0
  refine ⟨_, rfl, a, rfl, ⟨us, Evl.ex_l e0 hS⟩, for_list (K := K) (a := a) (xs := us) (fun i σ H' => ∃ v v2 ws, σ = [some (.ref a), some (.ref r), v, v2, none, none, none, none, none] ∧ Ex H H' ∧ H' r = some (.lst ws) ∧ ws.length ≤ 30 ∧
      All2 (fun u (x : Std) => ∃ t, u = .ref t ∧ H' t = some (.tup [.int (plc sts x : Int), .int (x.1 : Int), .int x.2.1])) ws (sts.take i))
    ⟨none, none, [], rfl, e0, upd_same, Nat.zero_le _, .nil⟩ (fun i σ H' _ ⟨_, _, _, _, e5, _⟩ => Evl.ex_l e5 hS) ?_ ?_⟩
  · rintro i y σ H' hi ⟨v, v2, ws, rfl, e5, q1, qw, q2⟩
    obtain ⟨x, hx, ps, dxs, ts, rfl, s1, s2⟩ := hA.get hi
    have hlt := (List.getElem?_eq_some_iff.mp hx).1
    have hwl := q2.len
    rw [List.length_take] at hwl
    refine ⟨_, rfl, a, rfl, ⟨us, Evl.ex_l e5 hS⟩, fun D hD => lc_list (xs := us) (fun j H2 => Ex H' H2 ∧ ∃ acc, H2 D = some (.lst acc) ∧ acc.length = ((sts.take j).filter fun o => lexGt o.2.2 x.2.2).length) ⟨Ex.one hD, _, upd_same, rfl⟩ (fun j H2 _ p => Evl.ex_l (e5.trans p.1) hS) ?_ ?_⟩
    · rintro j z H2 hj ⟨e1, acc, h1, h2⟩
      obtain ⟨o, ho, po, dxo, to, rfl, w1, w2⟩ := hA.get hj
      have e51 := e5.trans e1
      refine ⟨rfl, _, rfl, po, _, dxo, _, _, rfl, e51 _ _ w1, T.cl_Standing, T.na_Standing_weights, rfl, _, rfl, ps, _, dxs, _, _, rfl, e51 _ _ s1, T.cl_Standing, T.na_Standing_weights, rfl,
        to, ts, o.2.2, x.2.2, rfl, rfl, SqT.of (e51 _ _ w2), SqT.of (e51 _ _ s2), _, rfl, ?_⟩
      have hfl : ∀ n, ((sts.take n).filter fun o => lexGt o.2.2 x.2.2).length ≤ 30 := fun n => by
        have := List.length_filter_le (fun o : Std => lexGt o.2.2 x.2.2) (sts.take n)
        rw [List.length_take] at this
        omega
      have hf1 := hfl j
      rw [take_more ho, List.filter_append, List.length_append]
      cases hg : lexGt o.2.2 x.2.2 with
      | true =>
        refine ⟨_, rfl, acc, h1, ?_, fun q o e => ?_, _, upd_same, ?_⟩
        · rw [h2]
          exact Nat.lt_of_le_of_lt (m := 30) (by omega) (by decide)
        · rw [upd_ne (ne_of_none e hD)]
          exact e1 q o e
        · rw [List.length_append, h2, List.filter_cons, hg] <;> rfl
      | false =>
        refine ⟨e1, acc, h1, ?_⟩
        rw [h2, List.filter_cons, hg] <;> rfl
    · rintro H2 ⟨e1, acc, h1, h2⟩
      rw [hlen, List.take_length] at h2
      have e51 := e5.trans e1
      refine ⟨_, rfl, .inl ⟨rfl, _, SqL.of (e1 _ _ q1)⟩, ?_⟩
      refine ⟨_, rfl, D, _, rfl, .inl (SqL.of h1), _, _, rfl, rfl, _, rfl, ps, _, dxs, _, _, rfl, e51 _ _ s1, T.cl_Standing, T.na_Standing_skater, rfl, _, rfl, ps, _, dxs, _, _, rfl, e51 _ _ s1, T.cl_Standing, T.na_Standing_score, rfl, by show 3 ≤ sizeLine; decide, fun tp htp => ?_⟩
      have epl : ((acc.length : Nat) : Int) + 1 = ((plc sts x : Nat) : Int) := by
        rw [h2]
        rfl
      have etp := Ex.one (o := .tup [.int (((acc.length : Nat) : Int) + 1), .int (x.1 : Int), .int x.2.1]) htp
      have e6 := e1.trans etp
      have h3r := e6 _ _ q1
      refine ⟨r, ws, _, rfl, rfl, h3r, ?_, ?_⟩
      · exact Nat.lt_of_le_of_lt qw (by decide)
      · have nr : ∀ {q : Addr} {o : HO}, (upd H2 tp (.tup [.int (((acc.length : Nat) : Int) + 1), .int (x.1 : Int), .int x.2.1])) q = some o → q ≠ r → (upd (upd H2 tp (.tup [.int (((acc.length : Nat) : Int) + 1), .int (x.1 : Int), .int x.2.1])) r (.lst (ws ++ [.ref tp]))) q = some o := fun {q o} h hne => by
          rw [upd_ne hne]
          exact h
        refine ⟨_, _, ws ++ [.ref tp], rfl, fun q o e => nr (e6 _ _ (e5 _ _ e)) (ne_of_none e hr0), upd_same, ?_, ?_⟩
        · rw [List.length_append]
          simp only [List.length_cons, List.length_nil]
          omega
        · rw [take_more hx]
          refine All2.snoc (q2.mono fun u y hR => ?_) ⟨tp, rfl, ?_⟩
          · obtain ⟨t9, rfl, h9⟩ := hR
            exact ⟨t9, rfl, nr (e6 _ _ h9) (ne_of (e6 _ _ h9) h3r (by intro z; cases z))⟩
          · rw [← epl]
            exact nr upd_same (fun e => by rw [e] at htp; rw [e1 _ _ q1] at htp; cases htp)
  · rintro σ H' ⟨v, v2, ws, rfl, e5, q1, qw, q2⟩
    rw [hlen, List.take_length] at q2
    have hwl := q2.len
    refine ⟨_, rfl, r, _, rfl, .inl (SqL.of q1), by show 1 ≤ sizeLine; decide, fun an han => ?_⟩
    have ean := Ex.one (o := .lst [.int (ws.length : Nat)]) han
    have hscs : ∀ y ∈ sts.map (fun x => x.2.1), 0 ≤ y := fun y hy => by
      obtain ⟨x, hx, rfl⟩ := List.mem_map.mp hy
      exact hsc x hx
    have hplc : ∀ x, plc sts x ≤ 31 := fun x => by
      unfold plc
      have := List.length_filter_le (fun o : Std => lexGt o.2.2 x.2.2) sts
      omega
    have hidx : ∀ y ∈ sts.map (fun x => (x.1 : Int)), 0 ≤ y := fun y hy => by
      obtain ⟨x, hx, rfl⟩ := List.mem_map.mp hy
      omega
    generalize hB : (sts.map fun x => x.2.1).sum + (sts.map fun x => (x.1 : Int)).sum + 100 = B
    have hs0 : ∀ l : List Int, (∀ y ∈ l, 0 ≤ y) → 0 ≤ l.sum := by
      intro l
      induction l with
      | nil => intro _; simp
      | cons a l ih => intro h; have := ih fun y hy => h y (List.mem_cons_of_mem _ hy); have := h a List.mem_cons_self; rw [List.sum_cons]; omega
    have hs1 := hs0 _ hscs
    have hs2 := hs0 _ hidx
    have hbd : ∀ x ∈ sts, (0 ≤ (x.1 : Int) ∧ (x.1 : Int) < B) ∧ (0 ≤ x.2.1 ∧ x.2.1 < B) := fun x hx => by
      have h1 := mem_le_sum hscs (List.mem_map.mpr ⟨x, hx, rfl⟩)
      have h2 := mem_le_sum hidx (List.mem_map.mpr ⟨x, hx, rfl⟩)
      have h3 := hsc x hx
      omega
    refine ⟨_, rfl, B, r, ws, rfl, SqL.of (ean _ _ q1), by omega, fun u hu => ?_, fun ys p hpm hpw hp => ?_⟩
    · obtain ⟨j, hj⟩ := List.mem_iff_getElem?.mp hu
      obtain ⟨x, hx, t, rfl, ht⟩ := q2.get hj
      have hx' := List.mem_of_getElem? hx
      have h1 := hbd x hx'
      have h2 := hplc x
      refine ⟨[(plc sts x : Int), (x.1 : Int), x.2.1], ⟨t, rfl, SqT.of (ean _ _ ht)⟩, rfl, fun m hm => ?_⟩
      rcases List.mem_cons.mp hm with e | hm
      · subst e; omega
      · rcases List.mem_cons.mp hm with e | hm
        · subst e; omega
        · have : m = x.2.1 := by simpa using hm
          subst this
          omega
    · obtain ⟨ord, ho1, ho2⟩ := All2.perm hpm q2
      have eys := Ex.one (o := .lst ys) hp
      have ho2' : All2 (fun u (x : Std) => x ∈ sts ∧ ∃ t, u = .ref t ∧ H' t = some (.tup [.int (plc sts x : Int), .int (x.1 : Int), .int x.2.1])) ys ord := by
        have : ∀ {l : List V} {m : List Std}, All2 (fun u (x : Std) => ∃ t, u = .ref t ∧ H' t = some (.tup [.int (plc sts x : Int), .int (x.1 : Int), .int x.2.1])) l m → (∀ x ∈ m, x ∈ sts) → All2 (fun u (x : Std) => x ∈ sts ∧ ∃ t, u = .ref t ∧ H' t = some (.tup [.int (plc sts x : Int), .int (x.1 : Int), .int x.2.1])) l m := by
          intro l m h
          induction h with
          | nil => exact fun _ => .nil
          | cons h t ih => exact fun f => .cons ⟨f _ List.mem_cons_self, h⟩ (ih fun x hx => f x (List.mem_cons_of_mem _ hx))
        exact this ho2 fun x hx => ho1.mem_iff.mp hx
      have ndo : (ord.map (·.1)).Nodup := (ho1.map (·.1)).nodup_iff.mpr hnd
      have hle : ord.Pairwise fun x y => x.1 ≠ y.1 → befo sts x y := by
        refine All2.pair ho2' hpw fun u x u' y _ _ hc hR hR' hne => ?_
        obtain ⟨m1, t1, rfl, w1⟩ := hR
        obtain ⟨m2, t2, rfl, w2⟩ := hR'
        have := hc [(plc sts x : Int), (x.1 : Int), x.2.1] [(plc sts y : Int), (y.1 : Int), y.2.1] ⟨t1, rfl, SqT.of (ean _ _ w1)⟩ ⟨t2, rfl, SqT.of (ean _ _ w2)⟩
        have b1 := hbd x m1
        have b2 := hbd y m2
        rcases code_le this (by omega) b1.1 b1.2 b2.1 b2.2 (by omega) (by omega) with h | h
        · exact .inl (by omega)
        · exact .inr ⟨by omega, by omega⟩
      have hne : ord.Pairwise fun x y => x.1 ≠ y.1 := List.pairwise_map.mp ndo
      have hbf : ord.Pairwise (befo sts) := (hle.and hne).imp fun h => h.1 h.2
      have hol : ord.length = ws.length := by rw [ho1.length_eq, hwl]
      have hyl : ys.length = ord.length := ho2.len
      have han0 : H an = none := Evl.fresh_back e5 han
      refine ⟨p, rfl, ⟨ys, SqL.of upd_same⟩, for_list (K := K) (a := p) (xs := ys) (fun i σ H2 => ∃ v5 v6 v7, σ = [some (.ref a), some (.ref r), v, v2, some (.ref an), v5, v6, v7, none] ∧ Ex H H2 ∧ Ex H' H2 ∧ H2 p = some (.lst ys) ∧ H2 an = some (.lst ((((ord.length : Nat) : Int) :: (ord.take i).flatMap fun x => [(x.1 : Int), (plc sts x : Int), x.2.1]).map V.int)))
        ⟨none, none, none, rfl, (e5.trans ean).trans eys, ean.trans eys, upd_same, by rw [hol]; exact eys _ _ upd_same⟩ (fun i σ H2 _ ⟨_, _, _, _, _, _, h, _⟩ => SqL.of h) ?_ ?_⟩
      · rintro i u σ H2 hi ⟨v5, v6, v7, rfl, e9, e10, q5, q6⟩
        obtain ⟨x, hx, _, t, rfl, ht⟩ := ho2'.get hi
        refine ⟨t, _, rfl, SqT.of (e10 _ _ ht), rfl, _, _, rfl, _, _, rfl, _, _, rfl, rfl, ?_⟩
        refine ⟨_, rfl, .inl ⟨rfl, _, SqL.of q6⟩, _, rfl, _, rfl, _, rfl, by show 3 ≤ sizeLine; decide, fun z hz => ?_⟩
        refine ⟨an, z, _, _, rfl, rfl, up_at q6 hz, upd_same, ?_, ?_⟩
        · have hfl : ∀ l : List Std, (l.flatMap fun x => [(x.1 : Int), (plc sts x : Int), x.2.1]).length = 3 * l.length := by
            intro l
            induction l with
            | nil => rfl
            | cons a l ih => rw [List.flatMap_cons, List.length_append, ih]; simp only [List.length_cons, List.length_nil]; omega
          refine Nat.le_trans (m := 200) ?_ (by decide)
          rw [List.length_map, List.length_cons, hfl, List.length_take]
          simp only [List.length_cons, List.length_nil]
          omega
        · have ez := Ex.one (o := .lst [.int (x.1 : Int), .int (plc sts x : Int), .int x.2.1]) hz
          have nan : an ≠ p := fun e => by
            subst e
            rw [upd_same] at hp
            cases hp
          refine ⟨_, _, _, rfl, fun q o e => ?_, fun q o e => ?_, ?_, ?_⟩
          · rw [upd_ne (ne_of_none e han0)]
            exact ez _ _ (e9 _ _ e)
          · rw [upd_ne (ne_of_none e han)]
            exact ez _ _ (e10 _ _ e)
          · rw [upd_ne (Ne.symm nan)]
            exact ez _ _ q5
          · rw [upd_same, take_more hx, List.flatMap_append]
            simp only [List.map_cons, List.map_append, List.flatMap_cons, List.flatMap_nil, List.cons_append, List.nil_append, List.map_nil, List.append_nil]
      · rintro σ H2 ⟨v5, v6, v7, rfl, e9, e10, q5, q6⟩
        rw [hyl, List.take_length] at q6
        exact ⟨_, rfl, k an H2 ord han0 e9 ho1 hbf q6⟩
end
end Sk
/-! # The mirrors are the specification's -/
namespace Sk
open Kg56 (Told Gone Jump Element)
/-! ### which count -/
def al (n : Nat) (ahead : List Element) : List Element := ahead.filter fun o => decide (grp o = n)
theorem al_app (n : Nat) (ahead : List Element) (e : Element) : al n (ahead ++ [e]) = al n ahead ++ (if grp e = n then [e] else []) := by
  unfold al
  rw [List.filter_append, List.filter_cons, List.filter_nil]
  by_cases h : grp e = n
  · rw [if_pos (by simpa using h), if_pos h]
  · rw [if_neg (by simpa using h), if_neg h]
structure Rel (b : Bool) (g : Gone) (ahead : List Element) : Prop where
  jumps : g.jumps = (al 0 ahead).length
  rows : g.rows = (((al 0 ahead).map elen).filter fun n => decide (2 ≤ n)).length
  threes : g.threes = ((al 0 ahead).map elen).count 3
  spins : g.spins = (al 1 ahead).map ename
  steps : g.steps = (al 2 ahead).length
  choreo : g.choreo = (al 3 ahead).length
  fits : ∀ k t, (ofKey g.done k t).length ≤ mostT b
theorem room_is {b : Bool} {g : Gone} {ahead : List Element} (R : Rel b g ahead) (e : Element) : hasRoom b ahead e = Kg56.counts b g e := by
  cases e with
  | jumps l =>
    show (if mostG b 0 ≤ (al 0 ahead).length then false else rowRoom l.length ((al 0 ahead).map elen) b) = (decide (g.jumps < Kg56.jumpsMost b) && ((decide (l.length < 2) || decide (g.rows < Kg56.rowsMost b)) && (decide (l.length < 3) || decide (g.threes < Kg56.threesMost b))))
    have m : mostG b 0 = Kg56.jumpsMost b := by cases b <;> rfl
    rw [m, ← R.jumps]
    by_cases h : Kg56.jumpsMost b ≤ g.jumps
    · rw [if_pos h, decide_eq_false (by omega), Bool.false_and]
    · rw [if_neg h, decide_eq_true (by omega), Bool.true_and]
      unfold rowRoom
      rw [← R.rows, ← R.threes]
      show (if 2 ≤ l.length ∧ Kg56.rowsMost b ≤ g.rows then false else decide (l.length < 3) || decide (g.threes < Kg56.threesMost b)) = _
      by_cases h2 : 2 ≤ l.length ∧ Kg56.rowsMost b ≤ g.rows
      · rw [if_pos h2, decide_eq_false (show ¬ l.length < 2 by omega), decide_eq_false (show ¬ g.rows < Kg56.rowsMost b by omega)]
        rfl
      · rw [if_neg h2]
        have : (decide (l.length < 2) || decide (g.rows < Kg56.rowsMost b)) = true := by
          by_cases h3 : l.length < 2
          · rw [decide_eq_true h3]; rfl
          · rw [decide_eq_true (show g.rows < Kg56.rowsMost b by omega), Bool.or_true]
        rw [this, Bool.true_and]
  | spin n v =>
    show (if mostG b 1 ≤ (al 1 ahead).length then false else !((al 1 ahead).map ename).contains n) = (decide (g.spins.length < 3) && !g.spins.contains n)
    have m : mostG b 1 = 3 := by cases b <;> rfl
    have hl : g.spins.length = (al 1 ahead).length := by rw [R.spins, List.length_map]
    rw [m, ← R.spins, ← hl]
    by_cases h : 3 ≤ g.spins.length
    · rw [if_pos h, decide_eq_false (by omega), Bool.false_and]
    · rw [if_neg h, decide_eq_true (by omega), Bool.true_and]
  | steps v =>
    show (if mostG b 2 ≤ (al 2 ahead).length then false else true) = decide (g.steps < 1)
    have m : mostG b 2 = 1 := by cases b <;> rfl
    rw [m, ← R.steps]
    by_cases h : 1 ≤ g.steps
    · rw [if_pos h, decide_eq_false (by omega)]
    · rw [if_neg h, decide_eq_true (by omega)]
  | choreo =>
    show (if mostG b 3 ≤ (al 3 ahead).length then false else true) = (b && decide (g.choreo < 1))
    rw [← R.choreo]
    cases b with
    | false =>
      have m : mostG false 3 = 0 := rfl
      rw [m, if_pos (Nat.zero_le _)]
      rfl
    | true =>
      have m : mostG true 3 = 1 := rfl
      rw [m, Bool.true_and]
      by_cases h : 1 ≤ g.choreo
      · rw [if_pos h, decide_eq_false (by omega)]
      · rw [if_neg h, decide_eq_true (by omega)]
/-! ### an element of jumps -/
theorem small_turns {j : Jump} (h : JOk j) : (j.kind = 6 ∨ j.turns < 3) ↔ j.turns < 3 := by
  rcases h with h | h
  · omega
  · subst h
    decide
theorem was_nil {done : Done} {k t : Nat} : (done.filter fun x => x.1 == (k, t)) = [] ↔ (ofKey done k t).length = 0 := by
  unfold ofKey
  rw [List.length_map]
  exact List.length_eq_zero_iff.symm
theorem share_is {b inRow : Bool} {done : Done} {j : Jump} (hf : (ofKey done j.kind j.turns).length ≤ mostT b) :
    (if (done.filter fun x => x.1 == (j.kind, j.turns)) = [] then 100 else if b = false ∨ 2 ≤ (done.filter fun x => x.1 == (j.kind, j.turns)).length then 0 else if inRow = false ∧ (done.filter fun x => x.1 == (j.kind, j.turns)).all (fun x => !x.2) = true then 70 else 100 : Nat) = shareOf b inRow (ofKey done j.kind j.turns) := by
  have hl : (ofKey done j.kind j.turns).length = (done.filter fun x => x.1 == (j.kind, j.turns)).length := by
    unfold ofKey
    rw [List.length_map]
  have hk : ofKey done j.kind j.turns = (done.filter fun x => x.1 == (j.kind, j.turns)).map (·.2) := rfl
  generalize ofKey done j.kind j.turns = bs at hl hf hk ⊢
  generalize (done.filter fun x => x.1 == (j.kind, j.turns)) = was at hl hk ⊢
  show (if was = [] then 100 else if b = false ∨ 2 ≤ was.length then 0 else if inRow = false ∧ was.all (fun x => !x.2) = true then 70 else 100 : Nat) = shareOf b inRow bs
  subst hk
  unfold shareOf
  rw [List.length_map] at *
  match was with
  | [] =>
    rw [if_pos rfl]
    cases b <;> rfl
  | [x] =>
    obtain ⟨y, c⟩ := x
    rw [if_neg (by simp)]
    cases b <;> cases inRow <;> cases c <;> rfl
  | x :: y :: r =>
    rw [if_neg (by simp), if_pos (.inr (by simp))]
    cases b with
    | false => simp [mostT] at hf
    | true =>
      have : r.length = 0 := by simpa [mostT] using hf
      rw [if_pos (by simp [mostT, this])]
theorem shareOf_zero {b inRow : Bool} {bs : List Bool} : shareOf b inRow bs = 0 ↔ bs.length = mostT b := by
  unfold shareOf
  by_cases h : bs.length = mostT b
  · rw [if_pos h]
    exact ⟨fun _ => h, fun _ => rfl⟩
  · rw [if_neg h]
    constructor
    · intro z
      split at z <;> cases z
    · exact fun z => absurd z h
theorem fits_step {b inRow : Bool} {done : Done} {j : Jump} (hf : ∀ k t, (ofKey done k t).length ≤ mostT b) : ∀ k t, (ofKey (stepD b inRow done j) k t).length ≤ mostT b := by
  intro k t
  unfold stepD
  split
  · exact hf k t
  · split
    · exact hf k t
    · rename_i h
      rw [ofKey_app]
      by_cases c : j.kind = k ∧ j.turns = t
      · rw [if_pos c, List.length_append]
        have := hf j.kind j.turns
        have h2 : ¬ (ofKey done j.kind j.turns).length = mostT b := fun z => h (shareOf_zero.mpr z)
        rw [c.1, c.2] at this h2
        simp
        omega
      · rw [if_neg c, List.append_nil]
        exact hf k t
theorem done_is {b inRow : Bool} {done : Done} {j : Jump} (hf : (ofKey done j.kind j.turns).length ≤ mostT b) :
    (if shareOf b inRow (ofKey done j.kind j.turns) = 0 then done else done ++ [((j.kind, j.turns), inRow)]) = (let was := done.filter fun x => x.1 == (j.kind, j.turns)
      if was ≠ [] ∧ (b = false ∨ 2 ≤ was.length) then done else done ++ [((j.kind, j.turns), inRow)]) := by
  have hl : (ofKey done j.kind j.turns).length = (done.filter fun x => x.1 == (j.kind, j.turns)).length := by
    unfold ofKey
    rw [List.length_map]
  show _ = if (done.filter fun x => x.1 == (j.kind, j.turns)) ≠ [] ∧ (b = false ∨ 2 ≤ (done.filter fun x => x.1 == (j.kind, j.turns)).length) then done else done ++ [((j.kind, j.turns), inRow)]
  have e : ((done.filter fun x => x.1 == (j.kind, j.turns)) ≠ [] ∧ (b = false ∨ 2 ≤ (done.filter fun x => x.1 == (j.kind, j.turns)).length)) ↔ shareOf b inRow (ofKey done j.kind j.turns) = 0 := by
    rw [shareOf_zero, ← hl, Ne, was_nil]
    cases b with
    | false =>
      have : mostT false = 1 := rfl
      rw [this] at hf ⊢
      constructor
      · rintro ⟨h1, h2⟩; omega
      · intro h; exact ⟨by omega, .inl rfl⟩
    | true =>
      have : mostT true = 2 := rfl
      rw [this] at hf ⊢
      constructor
      · rintro ⟨h1, h2 | h2⟩
        · cases h2
        · omega
      · intro h; exact ⟨by omega, .inr (by omega)⟩
  by_cases h : shareOf b inRow (ofKey done j.kind j.turns) = 0
  · rw [if_pos h, if_pos (e.mpr h)]
  · rw [if_neg h, if_neg (fun z => h (e.mp z))]
theorem run_is {b inRow : Bool} : ∀ {l : List Jump} {done : Done} {w g : Nat}, (∀ j ∈ l, JOk j) → (∀ k t, (ofKey done k t).length ≤ mostT b) →
    runJ b inRow w g done l = (w + (((l.map Jump.worth).zip (Kg56.shares b inRow done l)).map fun x => Kg56.part x.1 x.2).sum,
      ((((l.map Jump.worth).zip (Kg56.shares b inRow done l)).filter fun x => 0 < x.2).map fun x => x.1).foldl max g, Kg56.rowDone b inRow done l) ∧ ∀ k t, (ofKey (Kg56.rowDone b inRow done l) k t).length ≤ mostT b
  | [], done, w, g, _, hf => ⟨rfl, hf⟩
  | j :: r, done, w, g, hj, hf => by
    have hr : ∀ j ∈ r, JOk j := fun j h => hj j (List.mem_cons_of_mem _ h)
    have sm := small_turns (hj j List.mem_cons_self)
    have ih := run_is (b := b) (inRow := inRow) (l := r) (done := stepD b inRow done j) (w := w + Kg56.part j.worth (stepS b inRow done j)) (g := if 0 < stepS b inRow done j then max g j.worth else g) hr (fits_step hf)
    have e1 : Kg56.shares b inRow done (j :: r) = stepS b inRow done j :: Kg56.shares b inRow (stepD b inRow done j) r := by
      show (if j.kind = 6 ∨ j.turns < 3 then 100 :: Kg56.shares b inRow done r else _) = _
      by_cases c : j.turns < 3
      · rw [if_pos (sm.mpr c)]
        unfold stepS stepD
        rw [if_pos c, if_pos c]
      · rw [if_neg (fun z => c (sm.mp z))]
        unfold stepS stepD
        rw [if_neg c, if_neg c]
        have q := share_is (b := b) (inRow := inRow) (done := done) (j := j) (hf _ _)
        dsimp only at q ⊢
        rw [q]
    have e2 : Kg56.rowDone b inRow done (j :: r) = Kg56.rowDone b inRow (stepD b inRow done j) r := by
      show (if j.kind = 6 ∨ j.turns < 3 then Kg56.rowDone b inRow done r else _) = _
      by_cases c : j.turns < 3
      · rw [if_pos (sm.mpr c)]
        unfold stepD
        rw [if_pos c]
      · rw [if_neg (fun z => c (sm.mp z))]
        unfold stepD
        rw [if_neg c]
        have q := done_is (b := b) (inRow := inRow) (done := done) (j := j) (hf _ _)
        dsimp only at q ⊢
        rw [q]
    rw [e1, e2]
    refine ⟨?_, ih.2⟩
    show runJ b inRow _ _ _ r = _
    rw [ih.1, List.map_cons, List.zip_cons_cons, List.map_cons, List.sum_cons, List.filter_cons]
    by_cases c : 0 < stepS b inRow done j
    · rw [if_pos c, if_pos (by simpa using c), List.map_cons, List.foldl_cons, Nat.add_assoc]
    · rw [if_neg c, if_neg (by simpa using c), Nat.add_assoc]
theorem val_is {b : Bool} {g : Gone} {ahead : List Element} (R : Rel b g ahead) (e : Element) (he : ElemOk e) :
    (valE b g.done e true) = ((Kg56.worth b g e).1, (Kg56.worth b g e).2, (g.and b e).done) ∧ Rel b (g.and b e) (ahead ++ [e]) := by
  cases e with
  | jumps l =>
    have run := run_is (b := b) (inRow := decide (2 ≤ l.length)) (l := l) (done := g.done) (w := 0) (g := 0) he.2.2 R.fits
    refine ⟨?_, ?_⟩
    · show runJ b (decide (2 ≤ l.length)) 0 0 g.done l = _
      rw [run.1, Nat.zero_add]
      rfl
    · have a0 : al 0 (ahead ++ [Element.jumps l]) = al 0 ahead ++ [Element.jumps l] := al_app 0 ahead _
      have a1 : al 1 (ahead ++ [Element.jumps l]) = al 1 ahead := (al_app 1 ahead _).trans (List.append_nil _)
      have a2 : al 2 (ahead ++ [Element.jumps l]) = al 2 ahead := (al_app 2 ahead _).trans (List.append_nil _)
      have a3 : al 3 (ahead ++ [Element.jumps l]) = al 3 ahead := (al_app 3 ahead _).trans (List.append_nil _)
      refine ⟨?_, ?_, ?_, ?_, ?_, ?_, run.2⟩
      · rw [a0, List.length_append, ← R.jumps]; rfl
      · rw [a0, List.map_append, List.filter_append, List.length_append, ← R.rows]
        show g.rows + (if 2 ≤ l.length then 1 else 0) = g.rows + (List.filter _ [l.length]).length
        rw [List.filter_cons]
        by_cases h : 2 ≤ l.length
        · rw [if_pos h, if_pos (by simpa using h)]; rfl
        · rw [if_neg h, if_neg (by simpa using h)]; rfl
      · rw [a0, List.map_append, List.count_append, ← R.threes]
        show g.threes + (if 3 ≤ l.length then 1 else 0) = g.threes + List.count 3 [l.length]
        have := he.2.1
        by_cases h : 3 ≤ l.length
        · have h3 : l.length = 3 := by omega
          rw [if_pos h, h3]; rfl
        · rw [if_neg h, List.count_cons, List.count_nil, if_neg (by simp; omega)]
      · rw [a1]; exact R.spins
      · rw [a2]; exact R.steps
      · rw [a3]; exact R.choreo
  | spin n v =>
    refine ⟨rfl, ?_⟩
    have a0 : al 0 (ahead ++ [Element.spin n v]) = al 0 ahead := (al_app 0 ahead _).trans (List.append_nil _)
    have a1 : al 1 (ahead ++ [Element.spin n v]) = al 1 ahead ++ [Element.spin n v] := al_app 1 ahead _
    have a2 : al 2 (ahead ++ [Element.spin n v]) = al 2 ahead := (al_app 2 ahead _).trans (List.append_nil _)
    have a3 : al 3 (ahead ++ [Element.spin n v]) = al 3 ahead := (al_app 3 ahead _).trans (List.append_nil _)
    refine ⟨?_, ?_, ?_, ?_, ?_, ?_, R.fits⟩
    · rw [a0]; exact R.jumps
    · rw [a0]; exact R.rows
    · rw [a0]; exact R.threes
    · rw [a1, List.map_append, ← R.spins]; rfl
    · rw [a2]; exact R.steps
    · rw [a3]; exact R.choreo
  | steps v =>
    refine ⟨rfl, ?_⟩
    have a0 : al 0 (ahead ++ [Element.steps v]) = al 0 ahead := (al_app 0 ahead _).trans (List.append_nil _)
    have a1 : al 1 (ahead ++ [Element.steps v]) = al 1 ahead := (al_app 1 ahead _).trans (List.append_nil _)
    have a2 : al 2 (ahead ++ [Element.steps v]) = al 2 ahead ++ [Element.steps v] := al_app 2 ahead _
    have a3 : al 3 (ahead ++ [Element.steps v]) = al 3 ahead := (al_app 3 ahead _).trans (List.append_nil _)
    refine ⟨?_, ?_, ?_, ?_, ?_, ?_, R.fits⟩
    · rw [a0]; exact R.jumps
    · rw [a0]; exact R.rows
    · rw [a0]; exact R.threes
    · rw [a1]; exact R.spins
    · rw [a2, List.length_append, ← R.steps]; rfl
    · rw [a3]; exact R.choreo
  | choreo =>
    refine ⟨rfl, ?_⟩
    have a0 : al 0 (ahead ++ [Element.choreo]) = al 0 ahead := (al_app 0 ahead _).trans (List.append_nil _)
    have a1 : al 1 (ahead ++ [Element.choreo]) = al 1 ahead := (al_app 1 ahead _).trans (List.append_nil _)
    have a2 : al 2 (ahead ++ [Element.choreo]) = al 2 ahead := (al_app 2 ahead _).trans (List.append_nil _)
    have a3 : al 3 (ahead ++ [Element.choreo]) = al 3 ahead ++ [Element.choreo] := al_app 3 ahead _
    refine ⟨?_, ?_, ?_, ?_, ?_, ?_, R.fits⟩
    · rw [a0]; exact R.jumps
    · rw [a0]; exact R.rows
    · rw [a0]; exact R.threes
    · rw [a1]; exact R.spins
    · rw [a2]; exact R.steps
    · rw [a3, List.length_append, ← R.choreo]; rfl
/-! ### all of a program -/
abbrev Vd := Told × (Bool × (Nat × Nat))
def zipV : List Told → List Bool → List (Nat × Nat) → List Vd
  | t :: ts, c :: cs, v :: vs => (t, (c, v)) :: zipV ts cs vs
  | _, _, _ => []
theorem valued_is {b : Bool} : ∀ {ts : List Told} {g : Gone} {ahead : List Element}, Rel b g ahead → (∀ t ∈ ts, ElemOk t.element) →
    Kg56.valued b g ts = zipV ts (countsL b ahead (ts.map (·.element))) (valsL b g.done ts (countsL b ahead (ts.map (·.element))))
  | [], _, _, _, _ => rfl
  | t :: ts, g, ahead, R, h => by
    have h2 : ∀ t ∈ ts, ElemOk t.element := fun t q => h t (List.mem_cons_of_mem _ q)
    have v := val_is R t.element (h t List.mem_cons_self)
    show (if Kg56.counts b g t.element = true then (t, (true, Kg56.worth b g t.element)) :: Kg56.valued b (g.and b t.element) ts else (t, (false, (0, 0))) :: Kg56.valued b g ts) =
      zipV (t :: ts) (hasRoom b ahead t.element :: countsL b (if hasRoom b ahead t.element = true then ahead ++ [t.element] else ahead) (ts.map (·.element))) _
    have hr := room_is R t.element
    rw [List.map_cons]
    show _ = zipV (t :: ts) _ (valsL b g.done (t :: ts) (hasRoom b ahead t.element :: countsL b (if hasRoom b ahead t.element = true then ahead ++ [t.element] else ahead) (ts.map (·.element))))
    rw [hr]
    cases hc : Kg56.counts b g t.element with
    | true =>
      rw [if_pos rfl, if_pos rfl]
      show _ = (t, (true, ((valE b g.done t.element true).1, (valE b g.done t.element true).2.1))) :: zipV ts _ (valsL b (valE b g.done t.element true).2.2 ts _)
      rw [v.1, valued_is v.2 h2]
    | false =>
      rw [if_neg Bool.false_ne_true, if_neg Bool.false_ne_true]
      show _ = (t, (false, (0, 0))) :: zipV ts _ (valsL b g.done ts _)
      rw [valued_is R h2]
/-! ### the last of the second half -/
def up (m : Nat) : List Bool → List (Nat × Nat) → List (Nat × Nat)
  | f :: fl, v :: vs => (if f = true ∧ (fl.filter id).length < m then (Kg56.part v.1 110, v.2) else v) :: up m fl vs
  | _, _ => []
def flags (n : Nat) (p : Nat → Bool) : List Nat := (List.range n).filter p
theorem flags_cons (fl : List Bool) (f : Bool) : flags (fl.length + 1) (fun i => (f :: fl).getD i false) = (if f = true then [0] else []) ++ (flags fl.length fun i => fl.getD i false).map (· + 1) := by
  unfold flags
  rw [List.range_succ_eq_map, List.filter_cons, List.filter_map]
  cases f <;> rfl
theorem flags_len : ∀ fl : List Bool, (flags fl.length fun i => fl.getD i false).length = (fl.filter id).length
  | [] => rfl
  | f :: fl => by
    rw [List.length_cons, flags_cons, List.length_append, List.length_map, flags_len fl]
    cases f <;> simp [Nat.add_comm]
theorem fold_shift (v : Nat × Nat) : ∀ (l : List Nat) (vs : List (Nat × Nat)), (l.map (· + 1)).foldl up110 (v :: vs) = v :: l.foldl up110 vs
  | [], _ => rfl
  | i :: l, vs => by
    rw [List.map_cons, List.foldl_cons, List.foldl_cons]
    have : up110 (v :: vs) (i + 1) = v :: up110 vs i := rfl
    rw [this, fold_shift v l]
theorem last_map (m : Nat) (l : List Nat) : lastOf m (l.map (· + 1)) = (lastOf m l).map (· + 1) := by
  unfold lastOf
  rw [List.length_map, List.map_drop]
theorem up_is (m : Nat) : ∀ (fl : List Bool) (vs : List (Nat × Nat)), vs.length = fl.length → (lastOf m (flags fl.length fun i => fl.getD i false)).foldl up110 vs = up m fl vs
  | [], [], _ => by
    unfold lastOf flags up
    simp
  | f :: fl, v :: vs, h => by
    have hl : vs.length = fl.length := by simpa using h
    have ih := up_is m fl vs hl
    have hn := flags_len fl
    rw [List.length_cons, flags_cons]
    show _ = (if f = true ∧ (fl.filter id).length < m then (Kg56.part v.1 110, v.2) else v) :: up m fl vs
    rw [← ih, ← hn]
    generalize (flags fl.length fun i => fl.getD i false) = L
    cases f with
    | false =>
      rw [if_neg Bool.false_ne_true, List.nil_append, last_map, fold_shift, if_neg (by simp)]
    | true =>
      rw [if_pos rfl]
      by_cases c : L.length < m
      · rw [if_pos ⟨rfl, c⟩]
        have e1 : lastOf m ([0] ++ L.map (· + 1)) = 0 :: L.map (· + 1) := by
          unfold lastOf
          have : ([0] ++ L.map (· + 1)).length - m = 0 := by simp; omega
          rw [this]
          rfl
        have e2 : lastOf m L = L := by
          unfold lastOf
          have : L.length - m = 0 := by omega
          rw [this]
          rfl
        rw [e1, e2, List.foldl_cons]
        show (L.map (· + 1)).foldl up110 ((Kg56.part v.1 110, v.2) :: vs) = _
        rw [fold_shift]
      · rw [if_neg (fun z => c z.2)]
        have e1 : lastOf m ([0] ++ L.map (· + 1)) = lastOf m (L.map (· + 1)) := by
          unfold lastOf
          have : ([0] ++ L.map (· + 1)).length - m = (L.map (· + 1)).length - m + 1 := by simp; omega
          rw [this]
          rfl
        rw [e1, last_map, fold_shift]
def flagOf (x : Vd) : Bool := x.2.1 && (x.1.second && Kg56.isJumps x.1.element)
theorem raised_is {b : Bool} : ∀ {ts : List Told} {cs : List Bool} {vs : List (Nat × Nat)}, cs.length = ts.length → vs.length = ts.length →
    Kg56.raised b (zipV ts cs vs) = ts.zip (up (Kg56.moreMost b) ((zipV ts cs vs).map flagOf) vs)
  | [], [], [], _, _ => rfl
  | t :: ts, c :: cs, v :: vs, h1, h2 => by
    have h1 : cs.length = ts.length := by simpa using h1
    have h2 : vs.length = ts.length := by simpa using h2
    show (t, ((if (c && (t.second && Kg56.isJumps t.element)) = true ∧ Kg56.late (zipV ts cs vs) < Kg56.moreMost b then Kg56.part v.1 110 else v.1), v.2)) :: Kg56.raised b (zipV ts cs vs) = _
    rw [raised_is h1 h2]
    show _ = (t, _) :: ts.zip _
    have hl : Kg56.late (zipV ts cs vs) = (((zipV ts cs vs).map flagOf).filter id).length := by
      unfold Kg56.late
      rw [List.filter_map, List.length_map]
      rfl
    rw [hl]
    congr 2
    show _ = if (c && (t.second && Kg56.isJumps t.element)) = true ∧ (((zipV ts cs vs).map flagOf).filter id).length < Kg56.moreMost b then (Kg56.part v.1 110, v.2) else v
    split <;> rfl
theorem zip_flags : ∀ {ts : List Told} {cs : List Bool} {vs : List (Nat × Nat)}, cs.length = ts.length → vs.length = ts.length → ∀ i, ((zipV ts cs vs).map flagOf).getD i false = isLate ts cs i
  | [], [], [], _, _, i => rfl
  | t :: ts, c :: cs, v :: vs, h1, h2, 0 => rfl
  | t :: ts, c :: cs, v :: vs, h1, h2, i + 1 => by
    show ((zipV ts cs vs).map flagOf).getD i false = isLate ts cs i
    exact zip_flags (by simpa using h1) (by simpa using h2) i
theorem zipV_len : ∀ {ts : List Told} {cs : List Bool} {vs : List (Nat × Nat)}, cs.length = ts.length → vs.length = ts.length → (zipV ts cs vs).length = ts.length
  | [], [], [], _, _ => rfl
  | t :: ts, c :: cs, v :: vs, h1, h2 => congrArg Nat.succ (zipV_len (by simpa using h1) (by simpa using h2))
theorem final_is (b : Bool) (ts : List Told) (h : ∀ t ∈ ts, ElemOk t.element) : Kg56.raised b (Kg56.valued b ⟨0, 0, 0, [], 0, 0, []⟩ ts) = ts.zip (finalL b ts) := by
  have R : Rel b ⟨0, 0, 0, [], 0, 0, []⟩ [] := ⟨rfl, rfl, rfl, rfl, rfl, rfl, fun _ _ => Nat.zero_le _⟩
  have hv := valued_is R h
  have hc := cntL_len b ts
  unfold cntL at hc
  have hl := valsL_len b ts _ [] hc
  rw [hv, raised_is hc hl]
  congr 1
  unfold finalL cntL
  rw [← up_is (Kg56.moreMost b) _ _ (by rw [List.length_map, zipV_len hc hl, hl])]
  congr 2
  unfold lateUp flags
  rw [List.length_map, zipV_len hc hl]
  refine List.filter_congr fun i _ => ?_
  exact zip_flags hc hl i
theorem sheet_is (p : Kg56.Program) (h : ∀ t ∈ p.elements, ElemOk t.element) : p.sheet = sheetM p.free p.elements := by
  unfold Kg56.Program.sheet Kg56.Program.raised sheetM
  rw [final_is p.free p.elements h]
  have hl := finalL_len p.free p.elements
  generalize finalL p.free p.elements = vs at hl
  generalize p.elements = ts at hl
  induction ts generalizing vs with
  | nil =>
    cases vs with
    | nil => rfl
    | cons v vs => rfl
  | cons t ts ih =>
    cases vs with
    | nil => rfl
    | cons v vs =>
      show _ :: ((ts.zip vs).map _) = _ :: List.zipWith _ vs ts
      rw [ih vs (by simpa using hl)]
theorem score_is (p : Kg56.Program) (f : Nat) (h : ∀ t ∈ p.elements, ElemOk t.element) : scoreM p f = ⟨p.elementsScore, p.components f, p.cost⟩ := by
  unfold scoreM Kg56.Program.elementsScore Kg56.Program.components
  rw [sheet_is p h, foldl_sum, foldl_sum]
end Sk
/-! # Places: the mirror is the specification's -/
namespace Sk
open Kg56 (ahead)
theorem ah_irr : ∀ a : List Int, ahead a a = false
  | [] => rfl
  | x :: a => by
    show (decide (x < x) || (x == x && ahead a a)) = false
    rw [ah_irr a, decide_eq_false (Int.lt_irrefl x), Bool.and_false]
    rfl
theorem ah_cons {x y : Int} {a b : List Int} : ahead (x :: a) (y :: b) = true ↔ y < x ∨ (x = y ∧ ahead a b = true) := by
  show (decide (y < x) || (x == y && ahead a b)) = true ↔ _
  rw [Bool.or_eq_true, Bool.and_eq_true, decide_eq_true_eq, beq_iff_eq]
theorem ah_trans : ∀ {a b c : List Int}, ahead a b = true → ahead b c = true → ahead a c = true
  | [], _, _, h, _ => by cases h
  | _ :: _, [], _, h, _ => by cases h
  | _ :: _, _ :: _, [], _, h => by cases h
  | x :: a, y :: b, z :: c, h, h2 => by
    rw [ah_cons] at *
    rcases h with h | ⟨rfl, h⟩
    · rcases h2 with h2 | ⟨rfl, _⟩
      · exact .inl (Int.lt_trans h2 h)
      · exact .inl h
    · rcases h2 with h2 | ⟨rfl, h2⟩
      · exact .inl h2
      · exact .inr ⟨rfl, ah_trans h h2⟩
theorem ah_tri : ∀ {a b : List Int}, a.length = b.length → ahead a b = true ∨ ahead b a = true ∨ a = b
  | [], [], _ => .inr (.inr rfl)
  | x :: a, y :: b, h => by
    rw [ah_cons, ah_cons]
    rcases Int.lt_trichotomy x y with q | q | q
    · exact .inr (.inl (.inl q))
    · subst q
      rcases ah_tri (a := a) (b := b) (by simpa using h) with r | r | r
      · exact .inl (.inr ⟨rfl, r⟩)
      · exact .inr (.inl (.inr ⟨rfl, r⟩))
      · exact .inr (.inr (by rw [r]))
    · exact .inl (.inl q)
theorem gt_ah : ∀ {a b : List Int}, a.length = b.length → lexGt a b = ahead a b
  | [], [], _ => rfl
  | x :: a, y :: b, h => by
    show (if x = y then lexGt a b else decide (y < x)) = (decide (y < x) || (x == y && ahead a b))
    by_cases e : x = y
    · subst e
      rw [if_pos rfl, decide_eq_false (Int.lt_irrefl x), beq_self_eq_true, Bool.true_and, Bool.false_or]
      exact gt_ah (by simpa using h)
    · rw [if_neg e, beq_false_of_ne e, Bool.false_and, Bool.or_false]
section
variable {key : Nat → List Int}
/-- ahead, or alike and of a lower number -/
def Bf (key : Nat → List Int) (x y : Nat) : Prop := ahead (key x) (key y) = true ∨ (key x = key y ∧ x < y)
theorem Bf.trans {x y z : Nat} (h : Bf key x y) (h2 : Bf key y z) : Bf key x z := by
  rcases h with h | ⟨h, h'⟩ <;> rcases h2 with h2 | ⟨h2, h2'⟩
  · exact .inl (ah_trans h h2)
  · exact .inl (by rw [← h2]; exact h)
  · exact .inl (by rw [h]; exact h2)
  · exact .inr ⟨h.trans h2, by omega⟩
theorem Bf.anti {x y : Nat} (h : Bf key x y) (h2 : Bf key y x) : x = y := by
  rcases h.trans h2 with q | ⟨_, q⟩
  · rw [ah_irr] at q; cases q
  · omega
theorem put_perm (x : Nat) : ∀ s : List Nat, (Kg56.put key x s).Perm (x :: s)
  | [] => .refl _
  | y :: l => by
    show (if ahead (key x) (key y) = true then x :: y :: l else y :: Kg56.put key x l).Perm _
    split
    · exact .refl _
    · exact ((put_perm x l).cons y).trans (.swap x y l)
theorem put_sorted {x : Nat} : ∀ {s : List Nat}, s.Pairwise (Bf key) → (∀ y ∈ s, y < x ∧ (key y).length = (key x).length) → (Kg56.put key x s).Pairwise (Bf key)
  | [], _, _ => List.pairwise_singleton _ _
  | y :: l, h, hx => by
    have hp := List.pairwise_cons.mp h
    show (if ahead (key x) (key y) = true then x :: y :: l else y :: Kg56.put key x l).Pairwise (Bf key)
    split
    · rename_i c
      refine List.pairwise_cons.mpr ⟨fun z hz => ?_, h⟩
      rcases List.mem_cons.mp hz with q | q
      · rw [q]; exact .inl c
      · exact Bf.trans (.inl c) (hp.1 z q)
    · rename_i c
      refine List.pairwise_cons.mpr ⟨fun z hz => ?_, put_sorted hp.2 fun z hz => hx z (List.mem_cons_of_mem _ hz)⟩
      rcases List.mem_cons.mp ((put_perm x l).subset hz) with q | q
      · rw [q]
        have hy := hx y List.mem_cons_self
        rcases ah_tri hy.2 with r | r | r
        · exact .inl r
        · exact absurd r c
        · exact .inr ⟨r, hy.1⟩
      · exact hp.1 z q
theorem ord_go {n : Nat} : ∀ {l s : List Nat}, s.Pairwise (Bf key) → (s ++ l).Pairwise (· < ·) ∨ True → (∀ y ∈ s, ∀ x ∈ l, y < x) → l.Pairwise (· < ·) → (∀ y ∈ s ++ l, (key y).length = n) →
    (l.foldl (fun s x => Kg56.put key x s) s).Perm (s ++ l) ∧ (l.foldl (fun s x => Kg56.put key x s) s).Pairwise (Bf key)
  | [], s, h, _, _, _, _ => ⟨by rw [List.append_nil]; exact .refl _, h⟩
  | x :: l, s, h, _, hx, hl, hn => by
    have hp := List.pairwise_cons.mp hl
    have pp := put_perm (key := key) x s
    have ih := ord_go (n := n) (l := l) (s := Kg56.put key x s) (put_sorted h fun y hy => ⟨hx y hy x List.mem_cons_self, by
      rw [hn y (List.mem_append_left _ hy), hn x (List.mem_append_right _ List.mem_cons_self)]⟩) (.inr trivial) (fun y hy z hz => by
        rcases List.mem_cons.mp (pp.subset hy) with q | q
        · rw [q]; exact hp.1 z hz
        · exact hx y q z (List.mem_cons_of_mem _ hz)) hp.2 (fun y hy => by
        rcases List.mem_append.mp hy with q | q
        · rcases List.mem_cons.mp (pp.subset q) with r | r
          · rw [r]; exact hn x (List.mem_append_right _ List.mem_cons_self)
          · exact hn y (List.mem_append_left _ r)
        · exact hn y (List.mem_append_right _ (List.mem_cons_of_mem _ q)))
    refine ⟨ih.1.trans ?_, ih.2⟩
    exact ((pp.append_right l).trans List.perm_middle.symm)
theorem ordered_ok {n : Nat} {l : List Nat} (hl : l.Pairwise (· < ·)) (hn : ∀ y ∈ l, (key y).length = n) : (Kg56.ordered key l).Perm l ∧ (Kg56.ordered key l).Pairwise (Bf key) :=
  ord_go (s := []) .nil (.inr trivial) (fun y hy => nomatch hy) hl hn
theorem cnt_le {α : Type} {p q : α → Bool} : ∀ {l : List α}, (∀ x ∈ l, p x = true → q x = true) → (l.filter p).length ≤ (l.filter q).length
  | [], _ => Nat.le_refl _
  | x :: l, h => by
    have ih := cnt_le (p := p) (q := q) (l := l) fun y hy => h y (List.mem_cons_of_mem _ hy)
    have hx := h x List.mem_cons_self
    rw [List.filter_cons, List.filter_cons]
    cases hp : p x with
    | true => rw [hx hp, if_pos rfl, if_pos rfl]; simp; exact ih
    | false =>
      rw [if_neg Bool.false_ne_true]
      split
      · simp; omega
      · exact ih
theorem cnt_lt {α : Type} {p q : α → Bool} : ∀ {l : List α}, (∀ x ∈ l, p x = true → q x = true) → (∃ x ∈ l, p x = false ∧ q x = true) → (l.filter p).length < (l.filter q).length
  | [], _, ⟨x, hx, _⟩ => nomatch hx
  | x :: l, h, ⟨z, hz, h1, h2⟩ => by
    have hl : ∀ x ∈ l, p x = true → q x = true := fun y hy => h y (List.mem_cons_of_mem _ hy)
    rw [List.filter_cons, List.filter_cons]
    rcases List.mem_cons.mp hz with r | r
    · subst r
      rw [h1, h2, if_neg Bool.false_ne_true, if_pos rfl]
      have := cnt_le hl
      simp; omega
    · have ih := cnt_lt hl ⟨z, r, h1, h2⟩
      have hx := h x List.mem_cons_self
      cases hp : p x with
      | true => rw [hx hp, if_pos rfl, if_pos rfl]; simp; exact ih
      | false =>
        rw [if_neg Bool.false_ne_true]
        split
        · simp; omega
        · exact ih
/-- **standings told by place are the specification's** -/
theorem placed_is {n : Nat} {L : List Nat} {sc : Nat → Int} {sts ord : List Std} (hL : L.Pairwise (· < ·)) (hm : sts.map (·.1) = L) (hs : ∀ x ∈ sts, x.2.1 = sc x.1 ∧ x.2.2 = key x.1 ∧ (key x.1).length = n) (hp : ord.Perm sts) (ho : ord.Pairwise (befo sts)) :
    placed sts ord = ((Kg56.ordered key L).length : Int) :: (Kg56.ordered key L).flatMap fun (i : Nat) => [(i : Int), (Kg56.place key (Kg56.ordered key L) i : Int), sc i] := by
  have hn : ∀ y ∈ L, (key y).length = n := fun y hy => by
    rw [← hm] at hy
    obtain ⟨x, hx, rfl⟩ := List.mem_map.mp hy
    exact (hs x hx).2.2
  obtain ⟨o1, o2⟩ := ordered_ok hL hn
  have gt : ∀ x ∈ sts, ∀ y ∈ sts, lexGt x.2.2 y.2.2 = ahead (key x.1) (key y.1) := fun x hx y hy => by
    rw [(hs x hx).2.1, (hs y hy).2.1]
    exact gt_ah ((hs x hx).2.2.trans (hs y hy).2.2.symm)
  have pl : ∀ x ∈ sts, plc sts x = Kg56.place key (Kg56.ordered key L) x.1 := fun x hx => by
    unfold plc Kg56.place
    have e1 : (sts.filter fun o => lexGt o.2.2 x.2.2) = sts.filter ((fun y => ahead (key y) (key x.1)) ∘ (·.1)) := List.filter_congr fun o ho => gt o ho x hx
    have e2 := (o1.filter fun y => ahead (key y) (key x.1)).length_eq
    rw [← hm, List.filter_map, List.length_map, hm] at e2
    rw [e1, e2, Nat.add_comm]
  have lt : ∀ x ∈ sts, ∀ y ∈ sts, ahead (key x.1) (key y.1) = true → plc sts x < plc sts y := fun x hx y hy h => by
    unfold plc
    refine Nat.succ_lt_succ (cnt_lt (fun o ho q => ?_) ⟨x, hx, ?_, ?_⟩)
    · rw [gt o ho x hx] at q
      rw [gt o ho y hy]
      exact ah_trans q h
    · rw [gt x hx x hx]
      exact ah_irr _
    · rw [gt x hx y hy]
      exact h
  have bf : ∀ x ∈ sts, ∀ y ∈ sts, befo sts x y → Bf key x.1 y.1 := fun x hx y hy h => by
    rcases ah_tri ((hs x hx).2.2.trans (hs y hy).2.2.symm) with r | r | r
    · exact .inl r
    · have := lt y hy x hx r
      rcases h with h | h <;> omega
    · refine .inr ⟨r, ?_⟩
      have e : plc sts x = plc sts y := by
        rw [pl x hx, pl y hy]
        unfold Kg56.place
        rw [r]
      rcases h with h | h
      · omega
      · exact h.2
  have os : (ord.map (·.1)).Pairwise (Bf key) := by
    rw [List.pairwise_map]
    refine List.Pairwise.imp_of_mem ?_ ho
    exact fun {a b} ha hb h => bf a (hp.subset ha) b (hp.subset hb) h
  have e : ord.map (·.1) = Kg56.ordered key L := by
    refine List.Perm.eq_of_pairwise (le := Bf key) (fun a b _ _ h1 h2 => h1.anti h2) os o2 ?_
    refine ((hp.map (·.1)).trans ?_).trans o1.symm
    rw [hm]
  have el : ord.length = (Kg56.ordered key L).length := by rw [← e, List.length_map]
  unfold placed
  rw [el]
  congr 1
  conv => rhs; rw [← e]
  rw [List.flatMap_map]
  unfold List.flatMap
  congr 1
  refine List.map_congr_left fun x hx => ?_
  have hx' := hp.subset hx
  rw [pl x hx', (hs x hx').1, e]
end
/-! ### the two kinds of standings -/
theorem flat_map {g : Nat → List Std} {p : Nat → Bool} (h : ∀ i, (g i).map (·.1) = if p i = true then [i] else []) : ∀ l : List Nat, (l.flatMap g).map (·.1) = l.filter p
  | [] => rfl
  | i :: l => by
    rw [List.flatMap_cons, List.map_append, h i, flat_map h l, List.filter_cons]
    split <;> rfl
theorem range_lt (n : Nat) : (List.range n).Pairwise (· < ·) := List.pairwise_lt_range
theorem seg_is (s : Kg56.State) (b : Bool) {ord : List Std} (hp : ord.Perm (upTo (segOf b) s.skaters s.skaters.length)) (ho : ord.Pairwise (befo (upTo (segOf b) s.skaters s.skaters.length))) :
    placed (upTo (segOf b) s.skaters s.skaters.length) ord = (let l := Kg56.ordered (s.segmentKey b) (s.inSegment b)
      ((l.length : Int) :: l.flatMap fun (i : Nat) => [(i : Int), (Kg56.place (s.segmentKey b) l i : Int), Kg56.scoreOf s i b])) := by
  refine placed_is (n := 2) (key := s.segmentKey b) (L := s.inSegment b) (sc := fun i => Kg56.scoreOf s i b) ((range_lt _).filter _) ?_ (fun x hx => ?_) hp ho
  · unfold upTo Kg56.State.inSegment
    refine flat_map (fun i => ?_) _
    unfold Kg56.State.of
    cases hk : s.skaters[i]? with
    | none => rfl
    | some k =>
      show (segOf b i k).map (·.1) = if (k.of b).isSome = true then [i] else []
      unfold segOf
      cases k.of b <;> rfl
  · unfold upTo at hx
    obtain ⟨i, _, hi⟩ := List.mem_flatMap.mp hx
    cases hk : s.skaters[i]? with
    | none => rw [hk] at hi; cases hi
    | some k =>
      rw [hk] at hi
      have hi : x ∈ segOf b i k := hi
      unfold segOf at hi
      cases ho : k.of b with
      | none => rw [ho] at hi; cases hi
      | some y =>
        rw [ho] at hi
        have hi : x = (i, y.2.all, [y.2.all, tieW b y.2]) := by simpa using hi
        subst hi
        have e : s.of i b = some y := by
          unfold Kg56.State.of
          rw [hk]
          exact ho
        refine ⟨?_, ?_, ?_⟩
        · show _ = Kg56.scoreOf s i b
          unfold Kg56.scoreOf
          rw [e]; rfl
        · show _ = s.segmentKey b i
          unfold Kg56.State.segmentKey
          rw [e]; rfl
        · show (s.segmentKey b i).length = 2
          unfold Kg56.State.segmentKey
          rw [e]; rfl
theorem all_is (s : Kg56.State) {ord : List Std} (hp : ord.Perm (upTo allOf s.skaters s.skaters.length)) (ho : ord.Pairwise (befo (upTo allOf s.skaters s.skaters.length))) :
    placed (upTo allOf s.skaters s.skaters.length) ord = (let l := Kg56.ordered s.allKey s.inAll
      ((l.length : Int) :: l.flatMap fun (i : Nat) => [(i : Int), (Kg56.place s.allKey l i : Int), Kg56.scoreOf s i false + Kg56.scoreOf s i true])) := by
  refine placed_is (n := 3) (key := s.allKey) (L := s.inAll) (sc := fun i => Kg56.scoreOf s i false + Kg56.scoreOf s i true) ((range_lt _).filter _) ?_ (fun x hx => ?_) hp ho
  · unfold upTo Kg56.State.inAll
    refine flat_map (fun i => ?_) _
    unfold Kg56.State.of
    cases hk : s.skaters[i]? with
    | none => rfl
    | some k =>
      show (allOf i k).map (·.1) = if (k.of false).isSome = true then [i] else []
      unfold allOf
      cases k.of false with
      | none => rfl
      | some y => cases k.of true <;> rfl
  · unfold upTo at hx
    obtain ⟨i, _, hi⟩ := List.mem_flatMap.mp hx
    cases hk : s.skaters[i]? with
    | none => rw [hk] at hi; cases hi
    | some k =>
      rw [hk] at hi
      have hi : x ∈ allOf i k := hi
      have of_ : ∀ b, s.of i b = k.of b := fun b => by
        unfold Kg56.State.of
        rw [hk]
        rfl
      unfold allOf at hi
      show x.2.1 = Kg56.scoreOf s x.1 false + Kg56.scoreOf s x.1 true ∧ x.2.2 = s.allKey x.1 ∧ (s.allKey x.1).length = 3
      unfold Kg56.State.allKey Kg56.scoreOf
      cases ho : k.of false with
      | none => rw [ho] at hi; cases hi
      | some y =>
        rw [ho] at hi
        cases h2 : k.of true with
        | none =>
          rw [h2] at hi
          have hi : x = (i, y.2.all, [0, y.2.all, 0]) := by simpa using hi
          subst hi
          simp only [of_, ho, h2]
          refine ⟨?_, ?_, rfl⟩
          · show y.2.all = y.2.all + 0
            omega
          · show [0, y.2.all, 0] = [if (none : Option (Kg56.Program × Kg56.Score)).isSome = true then 1 else 0, y.2.all + 0, 0]
            rw [Int.add_zero]
            rfl
        | some z =>
          rw [h2] at hi
          have hi : x = (i, y.2.all + z.2.all, [1, y.2.all + z.2.all, z.2.all]) := by simpa using hi
          subst hi
          simp only [of_, ho, h2]
          exact ⟨rfl, rfl, rfl⟩
/-! ### what the places need of the standings -/
theorem seg_nodup (b : Bool) (ks : List Kg56.Skater) : ((upTo (segOf b) ks ks.length).map (·.1)).Nodup := by
  have e : (upTo (segOf b) ks ks.length).map (·.1) = (List.range ks.length).filter fun i => ((ks[i]?).bind fun k => k.of b).isSome := by
    unfold upTo
    refine flat_map (fun i => ?_) _
    cases hk : ks[i]? with
    | none => rfl
    | some k =>
      show (segOf b i k).map (·.1) = if (k.of b).isSome = true then [i] else []
      unfold segOf
      cases k.of b <;> rfl
  rw [e]
  exact (List.filter_sublist).nodup List.nodup_range
theorem all_nodup (ks : List Kg56.Skater) : ((upTo allOf ks ks.length).map (·.1)).Nodup := by
  have e : (upTo allOf ks ks.length).map (·.1) = (List.range ks.length).filter fun i => ((ks[i]?).bind fun k => k.of false).isSome := by
    unfold upTo
    refine flat_map (fun i => ?_) _
    cases hk : ks[i]? with
    | none => rfl
    | some k =>
      show (allOf i k).map (·.1) = if (k.of false).isSome = true then [i] else []
      unfold allOf
      cases k.of false with
      | none => rfl
      | some y => cases k.of true <;> rfl
  rw [e]
  exact (List.filter_sublist).nodup List.nodup_range
theorem all_pos (sc : Kg56.Score) : 0 ≤ sc.all := Int.le_max_left _ _
theorem seg_pos {b : Bool} {ks : List Kg56.Skater} {x : Std} (h : x ∈ upTo (segOf b) ks ks.length) : 0 ≤ x.2.1 := by
  unfold upTo at h
  obtain ⟨i, _, hi⟩ := List.mem_flatMap.mp h
  split at hi
  · rename_i k _
    unfold segOf at hi
    split at hi
    · have hi : x = _ := List.mem_singleton.mp hi
      subst hi
      exact all_pos _
    · cases hi
  · cases hi
theorem allOf_pos {ks : List Kg56.Skater} {x : Std} (h : x ∈ upTo allOf ks ks.length) : 0 ≤ x.2.1 := by
  unfold upTo at h
  obtain ⟨i, _, hi⟩ := List.mem_flatMap.mp h
  split at hi
  · rename_i k _
    unfold allOf at hi
    split at hi
    · split at hi
      · have hi : x = _ := List.mem_singleton.mp hi
        subst hi
        exact all_pos _
      · have hi : x = _ := List.mem_singleton.mp hi
        subst hi
        exact Int.add_nonneg (all_pos _) (all_pos _)
    · cases hi
  · cases hi
end Sk
namespace Sk
open Kg56 (Text startsWith pick KINDS MARKS jump? jumps? level? element? rightJumps SPINS ascii)
/-! # Reading: nothing of the library -/
/-! ### the mirror -/
def lookT (l : List (Text × Nat)) (t : Text) : Option Nat := (l.find? fun p => p.1 == t).map (·.2)
def LEVELST : List (Text × Nat) := [([66], 0), ([49], 1), ([50], 2), ([51], 3), ([52], 4)]
def POST : List (Text × Nat) := [([85], 0), ([76], 1), ([67], 2), ([83], 3), ([67, 111], 4)]
def TURNST : List (Text × Nat) := [([49], 1), ([50], 2), ([51], 3), ([52], 4)]
def KT : List (Text × Nat) := [([84], 0), ([83], 1), ([76, 111], 2), ([70], 3), ([76, 122], 4), ([65], 5)]
def suf (s t : Text) : Bool := decide (s.length ≤ t.length) && (t.drop (t.length - s.length) == s)
def woE (t : Text) : List (Text × Nat) → Text × Nat
  | [] => (t, 0)
  | (s, n) :: r => if suf s t = true then (t.take (t.length - s.length), n) else woE t r
def MISST : List (Text × Nat) := [([60, 60], 3), ([60], 2), ([113], 1)]
def EDGET : List (Text × Nat) := [([101], 1), ([33], 2)]
def jumpM (t : Text) : Option Kg56.Jump := if t = [69, 117] then some ⟨6, 1, 0, 0⟩ else
  let a := woE t MISST
  let b := woE a.1 EDGET
  match lookT TURNST (b.1.take 1), lookT KT (b.1.drop 1) with
  | some d, some k => if b.2 ≠ 0 ∧ ¬ (b.1.drop 1 = [70] ∨ b.1.drop 1 = [76, 122]) then none else some ⟨k, d, b.2, a.2⟩
  | _, _ => none
def spinC (t : Text) : Text × Nat := if startsWith [67] t = true ∧ lookT POST t = none then (t.drop 1, 1) else (t, 0)
def spinF (t : Text) : Text × Nat := if startsWith [70] t = true then (t.drop 1, 1) else (t, 0)
def spinM (t : Text) : Option (Nat × Nat × Nat) := (lookT POST (spinC (spinF t).1).1).map fun p => (p, (spinF t).2, (spinC (spinF t).1).2)
def cut2 : Text → Option (Text × Text)
  | [] => none
  | c :: r => if startsWith [83, 112] (c :: r) = true then some ([], (c :: r).drop 2) else (cut2 r).map fun x => (c :: x.1, x.2)
def parts : Text → List Text
  | [] => [[]]
  | c :: r => if c = 43 then [] :: parts r else match parts r with
    | [] => [[c]]
    | p :: ps => (c :: p) :: ps
def smallBad (l : List Kg56.Jump) (i : Nat) : Bool := match l[i]? with
  | some j => decide (j.kind = 6) && !(decide (l.length = 3) && (decide (i = 1) && (match l[2]? with
    | some k => decide (k.kind = 1 ∨ k.kind = 3)
    | none => false)))
  | none => false
def allM : List Text → Option (List Kg56.Jump)
  | [] => some []
  | t :: r => match jumpM t with
    | none => none
    | some j => (allM r).map fun l => j :: l
def jumpsM (t : Text) : Option (List Kg56.Jump) := match allM (parts t) with
  | none => none
  | some l => if 3 < l.length then none else if (List.range l.length).any (smallBad l) = true then none else some l
def elemM (t : Text) : Option Kg56.Element :=
  if t = [67, 104, 83, 113, 49] then some .choreo
  else if startsWith [83, 116, 83, 113] t = true then (level? (t.drop 4)).map .steps
  else match cut2 t with
    | some x => (match spinM x.1, level? x.2 with
      | some y, some l => some (.spin (10 * y.2.1 + 5 * y.2.2 + y.1) l)
      | _, _ => none)
    | none => (jumpsM t).map .jumps
/-! ### levels -/
theorem lookT_nil (t : Text) : lookT [] t = none := rfl
theorem lookT_cons (p : Text × Nat) (l : List (Text × Nat)) (t : Text) : lookT (p :: l) t = if p.1 = t then some p.2 else lookT l t := by
  unfold lookT
  rw [List.find?_cons]
  by_cases c : p.1 = t
  · rw [if_pos c, beq_iff_eq.mpr c] <;> rfl
  · rw [if_neg c, beq_eq_false_iff_ne.mpr c]
theorem level_is (t : Text) : lookT LEVELST t = level? t := by
  unfold LEVELST
  simp only [lookT_cons, lookT_nil]
  match t with
  | [] => rfl
  | [d] =>
    by_cases c : d = 66
    · subst c; rfl
    · by_cases c1 : d = 49
      · subst c1; rfl
      · by_cases c2 : d = 50
        · subst c2; rfl
        · by_cases c3 : d = 51
          · subst c3; rfl
          · by_cases c4 : d = 52
            · subst c4; rfl
            · have : level? [d] = none := by
                unfold level?
                split
                · rename_i h; simp at h; omega
                · rename_i d' h
                  simp at h
                  subst h
                  rw [if_neg (by omega)]
                · rfl
              rw [this]
              have n : ∀ x : Nat, ¬ d = x → ¬ ([x] : Text) = [d] := fun x hx e => hx (by simpa using e.symm)
              rw [if_neg (n _ c), if_neg (n _ c1), if_neg (n _ c2), if_neg (n _ c3), if_neg (n _ c4)]
  | a :: b :: r =>
    have : level? (a :: b :: r) = none := by unfold level?; split <;> simp_all
    rw [this]
    simp
/-! ### prefixes -/
theorem sw_iff {p t : Text} : startsWith p t = true ↔ ∃ r, t = p ++ r := by
  unfold startsWith
  rw [beq_iff_eq]
  constructor
  · intro h
    exact ⟨t.drop p.length, by conv => lhs; rw [← List.take_append_drop p.length t, h]⟩
  · rintro ⟨r, rfl⟩
    simp
theorem suf_iff {s t : Text} : suf s t = true ↔ ∃ a, t = a ++ s := by
  unfold suf
  rw [Bool.and_eq_true, decide_eq_true_eq, beq_iff_eq]
  constructor
  · rintro ⟨h, e⟩
    exact ⟨t.take (t.length - s.length), by conv => lhs; rw [← List.take_append_drop (t.length - s.length) t, e]⟩
  · rintro ⟨a, rfl⟩
    simp
/-! ### the words of jumps -/
def EE : List (Text × Nat) := [([], 0), ([101], 1), ([33], 2)]
def MM : List (Text × Nat) := [([], 0), ([113], 1), ([60], 2), ([60, 60], 3)]
inductive JW : Text → Kg56.Jump → Prop
  | small : JW [69, 117] ⟨6, 1, 0, 0⟩
  | jump {d : Nat} {ks es ms : Text} {k e m : Nat} (hd : 49 ≤ d ∧ d ≤ 52) (hk : (ks, k) ∈ KT) (he : (es, e) ∈ EE) (hm : (ms, m) ∈ MM) (h : e = 0 ∨ k = 3 ∨ k = 4) : JW (d :: (ks ++ (es ++ ms))) ⟨k, d - 48, e, m⟩
theorem JW.ok {s : Text} {j : Kg56.Jump} (h : JW s j) : JOk j := by
  cases h with
  | small => exact .inr rfl
  | jump hd hk he hm h =>
    refine .inl ?_
    simp only [KT, EE, MM, List.mem_cons, Prod.mk.injEq, List.not_mem_nil, or_false] at hk he hm
    refine ⟨?_, ?_, ?_, ?_, ?_⟩ <;> simp only <;> omega
/-- a jump's word, at a text's end or ahead of a + -/
theorem jump_fwd {s r : Text} {j : Kg56.Jump} (h : JW s j) (hr : r = [] ∨ ∃ q, r = 43 :: q) : jump? (s ++ r) = some (j, r) := by
  cases h with
  | small => rfl
  | @jump d ks es ms k e m hd hk he hm h =>
    have hd : d = 49 ∨ d = 50 ∨ d = 51 ∨ d = 52 := by omega
    simp only [KT, EE, MM, List.mem_cons, Prod.mk.injEq, List.not_mem_nil, or_false] at hk he hm
    rcases hr with rfl | ⟨q, rfl⟩ <;> rcases hd with rfl | rfl | rfl | rfl <;> rcases hk with ⟨rfl, rfl⟩ | ⟨rfl, rfl⟩ | ⟨rfl, rfl⟩ | ⟨rfl, rfl⟩ | ⟨rfl, rfl⟩ | ⟨rfl, rfl⟩ <;> rcases he with ⟨rfl, rfl⟩ | ⟨rfl, rfl⟩ | ⟨rfl, rfl⟩ <;> first
      | (exfalso; omega)
      | (rcases hm with ⟨rfl, rfl⟩ | ⟨rfl, rfl⟩ | ⟨rfl, rfl⟩ | ⟨rfl, rfl⟩ <;> rfl)
theorem jumpM_bwd {s : Text} {j : Kg56.Jump} (h : JW s j) : jumpM s = some j := by
  cases h with
  | small => rfl
  | @jump d ks es ms k e m hd hk he hm h =>
    have hd : d = 49 ∨ d = 50 ∨ d = 51 ∨ d = 52 := by omega
    simp only [KT, EE, MM, List.mem_cons, Prod.mk.injEq, List.not_mem_nil, or_false] at hk he hm
    rcases hd with rfl | rfl | rfl | rfl <;> rcases hk with ⟨rfl, rfl⟩ | ⟨rfl, rfl⟩ | ⟨rfl, rfl⟩ | ⟨rfl, rfl⟩ | ⟨rfl, rfl⟩ | ⟨rfl, rfl⟩ <;> rcases he with ⟨rfl, rfl⟩ | ⟨rfl, rfl⟩ | ⟨rfl, rfl⟩ <;> first
      | (exfalso; omega)
      | (rcases hm with ⟨rfl, rfl⟩ | ⟨rfl, rfl⟩ | ⟨rfl, rfl⟩ | ⟨rfl, rfl⟩ <;> rfl)
theorem woE_some {t : Text} : ∀ {l : List (Text × Nat)}, (woE t l = (t, 0)) ∨ ∃ s n a, (s, n) ∈ l ∧ t = a ++ s ∧ woE t l = (a, n)
  | [] => .inl rfl
  | (s, n) :: r => by
    unfold woE
    split
    · rename_i h
      obtain ⟨a, rfl⟩ := suf_iff.mp h
      exact .inr ⟨s, n, a, List.mem_cons_self, rfl, by simp⟩
    · rcases woE_some (t := t) (l := r) with h | ⟨s', n', a, h1, h2, h3⟩
      · exact .inl h
      · exact .inr ⟨s', n', a, List.mem_cons_of_mem _ h1, h2, h3⟩
theorem lookT_mem {l : List (Text × Nat)} {t : Text} {n : Nat} (h : lookT l t = some n) : (t, n) ∈ l := by
  unfold lookT at h
  cases e : l.find? (fun p => p.1 == t) with
  | none => rw [e] at h; cases h
  | some p =>
    rw [e] at h
    have h1 := List.find?_some e
    have h2 := List.mem_of_find?_eq_some e
    have h3 : p.1 = t := by simpa using h1
    have h4 : p.2 = n := Option.some.inj h
    rw [← h3, ← h4]
    exact h2
theorem jumpM_fwd {t : Text} {j : Kg56.Jump} (h : jumpM t = some j) : JW t j := by
  unfold jumpM at h
  split at h
  · rename_i e
    cases Option.some.inj h
    rw [e]
    exact .small
  · have hm : ∃ ms m, (ms, m) ∈ MM ∧ t = (woE t MISST).1 ++ ms ∧ (woE t MISST).2 = m := by
      rcases woE_some (t := t) (l := MISST) with e | ⟨s, n, a, h1, h2, h3⟩
      · exact ⟨[], 0, by decide, by rw [e]; simp, by rw [e]⟩
      · refine ⟨s, n, ?_, by rw [h3]; exact h2, by rw [h3]⟩
        simp only [MISST, List.mem_cons, Prod.mk.injEq, List.not_mem_nil, or_false] at h1
        rcases h1 with ⟨rfl, rfl⟩ | ⟨rfl, rfl⟩ | ⟨rfl, rfl⟩ <;> decide
    have he : ∃ es e, (es, e) ∈ EE ∧ (woE t MISST).1 = (woE (woE t MISST).1 EDGET).1 ++ es ∧ (woE (woE t MISST).1 EDGET).2 = e := by
      rcases woE_some (t := (woE t MISST).1) (l := EDGET) with e | ⟨s, n, a, h1, h2, h3⟩
      · exact ⟨[], 0, by decide, by rw [e]; simp, by rw [e]⟩
      · refine ⟨s, n, ?_, by rw [h3]; exact h2, by rw [h3]⟩
        simp only [EDGET, List.mem_cons, Prod.mk.injEq, List.not_mem_nil, or_false] at h1
        rcases h1 with ⟨rfl, rfl⟩ | ⟨rfl, rfl⟩ <;> decide
    obtain ⟨ms, m, m1, m2, m3⟩ := hm
    obtain ⟨es, e, e1, e2, e3⟩ := he
    dsimp only at h
    generalize woE (woE t MISST).1 EDGET = b at *
    generalize woE t MISST = a at *
    split at h
    · rename_i d k hd hk
      split at h
      · cases h
      · rename_i hn
        cases Option.some.inj h
        have hd2 := lookT_mem hd
        have hk2 := lookT_mem hk
        have hb : ∃ c, b.1.take 1 = [c] ∧ 49 ≤ c ∧ c ≤ 52 ∧ d = c - 48 := by
          simp only [TURNST, List.mem_cons, Prod.mk.injEq, List.not_mem_nil, or_false] at hd2
          rcases hd2 with ⟨q, rfl⟩ | ⟨q, rfl⟩ | ⟨q, rfl⟩ | ⟨q, rfl⟩ <;> exact ⟨_, q, by decide, by decide, rfl⟩
        obtain ⟨c, c1, c2, c3, rfl⟩ := hb
        have et : t = c :: (b.1.drop 1 ++ (es ++ ms)) := by
          have : b.1 = c :: b.1.drop 1 := by
            have := List.take_append_drop 1 b.1
            rw [c1] at this
            exact this.symm
          rw [m2, e2]
          conv => lhs; rw [this]
          simp
        rw [et, m3, e3]
        refine .jump ⟨c2, c3⟩ hk2 e1 m1 ?_
        by_cases c0 : e = 0
        · exact .inl c0
        · right
          have : b.1.drop 1 = [70] ∨ b.1.drop 1 = [76, 122] := by
            apply Classical.byContradiction
            intro hc
            exact hn ⟨by rw [e3]; exact c0, hc⟩
          rcases this with q | q
          · rw [q] at hk2
            simp [KT] at hk2
            exact .inl hk2
          · rw [q] at hk2
            simp [KT] at hk2
            exact .inr hk2
    · cases h
/-! ### the specification's jump at a text's beginning -/
theorem sw_cons (a b : Nat) (p t : Text) : startsWith (a :: p) (b :: t) = (decide (b = a) && startsWith p t) := by
  unfold startsWith
  by_cases c : b = a
  · subst c
    simp
  · simp [c]
theorem sw_nil (t : Text) : startsWith [] t = true := by unfold startsWith; simp
theorem sw_end (a : Nat) (p : Text) : startsWith (a :: p) [] = false := rfl
def kindF : Text → Option (Nat × Text)
  | 84 :: r => some (0, r)
  | 83 :: r => some (1, r)
  | 76 :: 111 :: r => some (2, r)
  | 70 :: r => some (3, r)
  | 76 :: 122 :: r => some (4, r)
  | 65 :: r => some (5, r)
  | _ => none
def markF : Text → Option (Nat × Text)
  | 113 :: r => some (0, r)
  | 60 :: 60 :: r => some (2, r)
  | 60 :: r => some (1, r)
  | _ => none
theorem pick_some {l : List Text} {t : Text} {i : Nat} {r : Text} (h : pick l t = some (i, r)) : i < l.length ∧ t = l.getD i [] ++ r := by
  have key : ∀ (is : List Nat) (b : Option (Nat × Text)), (∀ i ∈ is, i < l.length ∧ startsWith (l.getD i []) t = true) → (∀ x, b = some x → x.1 < l.length ∧ t = l.getD x.1 [] ++ x.2) →
      ∀ x, is.foldl (fun (b : Option (Nat × Text)) i => match b with
        | some x => if (l.getD x.1 []).length < (l.getD i []).length then some (i, t.drop (l.getD i []).length) else some x
        | none => some (i, t.drop (l.getD i []).length)) b = some x → x.1 < l.length ∧ t = l.getD x.1 [] ++ x.2 := by
    intro is
    induction is with
    | nil => exact fun b _ hb x hx => hb x hx
    | cons i is ih =>
      intro b hi hb x hx
      rw [List.foldl_cons] at hx
      obtain ⟨h1, h2⟩ := hi i List.mem_cons_self
      obtain ⟨q, hq⟩ := sw_iff.mp h2
      have hd : t = l.getD i [] ++ t.drop (l.getD i []).length := by
        conv => lhs; rw [hq]
        rw [hq]
        simp
      refine ih _ (fun j hj => hi j (List.mem_cons_of_mem _ hj)) ?_ x hx
      intro y hy
      cases b with
      | none =>
        cases Option.some.inj hy
        exact ⟨h1, hd⟩
      | some z =>
        simp only at hy
        split at hy
        · cases Option.some.inj hy
          exact ⟨h1, hd⟩
        · cases Option.some.inj hy
          exact hb _ rfl
  refine key _ none ?_ (fun _ h => by cases h) (i, r) h
  intro i hi
  obtain ⟨h1, h2⟩ := List.mem_filter.mp hi
  exact ⟨List.mem_range.mp h1, h2⟩
theorem kinds_at {i : Nat} (h : i < KINDS.length) : ((KINDS.getD i []), i) ∈ KT := by
  have : ∀ i : Fin 6, ((KINDS.getD i.val []), i.val) ∈ KT := by decide
  exact this ⟨i, h⟩
theorem marks_at {i : Nat} (h : i < MARKS.length) : ((MARKS.getD i []), i + 1) ∈ MM := by
  have : ∀ i : Fin 3, ((MARKS.getD i.val []), i.val + 1) ∈ MM := by decide
  exact this ⟨i, h⟩
def edgeF (k : Nat) (t : Text) : Nat × Text := match t with
  | 101 :: q => if k = 3 ∨ k = 4 then (1, q) else (0, t)
  | 33 :: q => if k = 3 ∨ k = 4 then (2, q) else (0, t)
  | _ => (0, t)
def jumpR (d : Nat) (k : Nat × Text) : Kg56.Jump × Text := match pick MARKS (edgeF k.1 k.2).2 with
  | some m => (⟨k.1, d - 48, (edgeF k.1 k.2).1, m.1 + 1⟩, m.2)
  | none => (⟨k.1, d - 48, (edgeF k.1 k.2).1, 0⟩, (edgeF k.1 k.2).2)
theorem jump_eq (t : Text) : jump? t = match t with
  | 69 :: 117 :: r => some (⟨6, 1, 0, 0⟩, r)
  | d :: r => if 49 ≤ d ∧ d ≤ 52 then (pick KINDS r).map (jumpR d) else none
  | [] => none := by
  unfold jump?
  rfl
theorem edgeF_ok (k : Nat) (t : Text) : ∃ es, (es, (edgeF k t).1) ∈ EE ∧ t = es ++ (edgeF k t).2 ∧ ((edgeF k t).1 = 0 ∨ k = 3 ∨ k = 4) := by
  have e0 : (([] : Text), 0) ∈ EE := by decide
  have e1 : (([101] : Text), 1) ∈ EE := by decide
  have e2 : (([33] : Text), 2) ∈ EE := by decide
  unfold edgeF
  split
  · split
    · rename_i hc
      exact ⟨[101], e1, rfl, .inr hc⟩
    · exact ⟨[], e0, rfl, .inl rfl⟩
  · split
    · rename_i hc
      exact ⟨[33], e2, rfl, .inr hc⟩
    · exact ⟨[], e0, rfl, .inl rfl⟩
  · exact ⟨[], e0, rfl, .inl rfl⟩
/-- what the specification takes is a jump's word -/
theorem jump_bwd {t r : Text} {j : Kg56.Jump} (h : jump? t = some (j, r)) : ∃ s, JW s j ∧ t = s ++ r := by
  rw [jump_eq] at h
  split at h
  · rename_i r'
    cases Option.some.inj h
    exact ⟨[69, 117], .small, rfl⟩
  · rename_i d r0 hx
    split at h
    · rename_i hd
      cases hp : pick KINDS r0 with
      | none => rw [hp] at h; cases h
      | some k =>
        rw [hp] at h
        obtain ⟨k1, k2⟩ := k
        obtain ⟨q1, q2⟩ := pick_some hp
        have hk := kinds_at q1
        have h : jumpR d (k1, k2) = (j, r) := Option.some.inj h
        obtain ⟨es, e1, e2, e3⟩ := edgeF_ok k1 k2
        unfold jumpR at h
        simp only at h
        generalize edgeF k1 k2 = e at h e1 e2 e3
        cases hm : pick MARKS e.2 with
        | none =>
          rw [hm] at h
          simp only [Prod.mk.injEq] at h
          obtain ⟨h1, h2⟩ := h
          subst h1 h2
          refine ⟨d :: (KINDS.getD k1 [] ++ (es ++ [])), .jump hd hk e1 (by decide) e3, ?_⟩
          rw [q2, List.append_nil, List.cons_append, List.append_assoc, ← e2]
        | some m =>
          rw [hm] at h
          obtain ⟨m1, m2⟩ := m
          simp only [Prod.mk.injEq] at h
          obtain ⟨h1, h2⟩ := h
          subst h1 h2
          obtain ⟨w1, w2⟩ := pick_some hm
          refine ⟨d :: (KINDS.getD k1 [] ++ (es ++ MARKS.getD m1 [])), .jump hd hk e1 (marks_at w1) e3, ?_⟩
          rw [q2, e2, w2]
          simp
    · cases h
  · cases h
theorem JW.no {s : Text} {j : Kg56.Jump} (h : JW s j) : 43 ∉ s ∧ 112 ∉ s := by
  cases h with
  | small => decide
  | @jump d ks es ms k e m hd hk he hm h =>
    simp only [KT, EE, MM, List.mem_cons, Prod.mk.injEq, List.not_mem_nil, or_false] at hk he hm
    have h1 : 43 ∉ ks ∧ 112 ∉ ks := by rcases hk with ⟨rfl, _⟩ | ⟨rfl, _⟩ | ⟨rfl, _⟩ | ⟨rfl, _⟩ | ⟨rfl, _⟩ | ⟨rfl, _⟩ <;> decide
    have h2 : 43 ∉ es ∧ 112 ∉ es := by rcases he with ⟨rfl, _⟩ | ⟨rfl, _⟩ | ⟨rfl, _⟩ <;> decide
    have h3 : 43 ∉ ms ∧ 112 ∉ ms := by rcases hm with ⟨rfl, _⟩ | ⟨rfl, _⟩ | ⟨rfl, _⟩ | ⟨rfl, _⟩ <;> decide
    simp only [List.mem_cons, List.mem_append, not_or]
    exact ⟨⟨by omega, h1.1, h2.1, h3.1⟩, by omega, h1.2, h2.2, h3.2⟩
theorem parts_ne : ∀ t : Text, parts t ≠ []
  | [] => by simp [parts]
  | c :: r => by
    unfold parts
    split
    · simp
    · split <;> simp
theorem parts_one : ∀ {t : Text}, 43 ∉ t → parts t = [t]
  | [], _ => rfl
  | c :: r, h => by
    have h1 : ¬ c = 43 := fun e => h (by rw [e]; exact List.mem_cons_self)
    have ih := parts_one (t := r) fun m => h (List.mem_cons_of_mem _ m)
    unfold parts
    rw [if_neg h1, ih]
theorem parts_cut : ∀ {s r : Text}, 43 ∉ s → parts (s ++ 43 :: r) = s :: parts r
  | [], r, _ => by
    show parts (43 :: r) = [] :: parts r
    conv => lhs; unfold parts
    rw [if_pos rfl]
  | c :: s, r, h => by
    have h1 : ¬ c = 43 := fun e => h (by rw [e]; exact List.mem_cons_self)
    have ih := parts_cut (s := s) (r := r) fun m => h (List.mem_cons_of_mem _ m)
    show parts (c :: (s ++ 43 :: r)) = (c :: s) :: parts r
    conv => lhs; unfold parts
    rw [if_neg h1, ih]
theorem cut_of_mem : ∀ {t : Text}, 43 ∈ t → ∃ s r, t = s ++ 43 :: r ∧ 43 ∉ s
  | c :: r, h => by
    by_cases c1 : c = 43
    · subst c1
      exact ⟨[], r, rfl, by simp⟩
    · have h2 : 43 ∈ r := by
        rcases List.mem_cons.mp h with e | e
        · exact absurd e.symm c1
        · exact e
      obtain ⟨s, q, e, hs⟩ := cut_of_mem h2
      refine ⟨c :: s, q, by rw [e]; rfl, ?_⟩
      simp only [List.mem_cons, not_or]
      exact ⟨fun e => c1 e.symm, hs⟩
theorem cut_uniq : ∀ {s s' r r' : Text}, 43 ∉ s → 43 ∉ s' → s ++ 43 :: r = s' ++ 43 :: r' → s = s' ∧ r = r'
  | [], [], _, _, _, _, h => ⟨rfl, by simpa using h⟩
  | [], c :: s', _, _, _, h2, h => by
    have : 43 = c := (List.cons.inj h).1
    exact absurd (by rw [← this]; exact List.mem_cons_self) h2
  | c :: s, [], _, _, h1, _, h => by
    have : c = 43 := (List.cons.inj h).1
    exact absurd (by rw [this]; exact List.mem_cons_self) h1
  | c :: s, c' :: s', r, r', h1, h2, h => by
    obtain ⟨e1, e2⟩ := List.cons.inj h
    obtain ⟨e3, e4⟩ := cut_uniq (s := s) (s' := s') (fun m => h1 (List.mem_cons_of_mem _ m)) (fun m => h2 (List.mem_cons_of_mem _ m)) e2
    exact ⟨by rw [e1, e3], e4⟩
theorem jumps_eq (n : Nat) (t : Text) : jumps? (n + 1) t = match jump? t with
  | none => none
  | some (j, []) => some [j]
  | some (j, 43 :: r) => (jumps? n r).map fun l => j :: l
  | some (_, _ :: _) => none := by
  have e : jumps? (n + 1) t = (jump? t).bind fun x => match x.2 with
    | [] => some [x.1]
    | 43 :: r => (jumps? n r).map fun l => x.1 :: l
    | _ => none := by
    rw [Kg56.jumps?]
    rfl
  rw [e]
  cases jump? t with
  | none => rfl
  | some x =>
    obtain ⟨j, r⟩ := x
    show (match r with
    | [] => some [j]
    | 43 :: r => (jumps? n r).map fun l => j :: l
    | _ => none) = _
    generalize jumps? n = f
    split
    · rfl
    · rfl
    · rename_i h1 h2
      cases r with
      | nil => exact absurd rfl h1
      | cons c q =>
        split
        · rename_i heq; simp at heq
        · rename_i heq; simp at heq
        · rename_i heq
          simp only [Option.some.injEq, Prod.mk.injEq, List.cons.injEq] at heq
          exact absurd (by rw [heq.2.1]) (h2 q)
        · rfl
theorem jump_end {t : Text} {j : Kg56.Jump} : jump? t = some (j, []) ↔ jumpM t = some j := by
  constructor
  · intro h
    obtain ⟨s, h1, h2⟩ := jump_bwd h
    rw [List.append_nil] at h2
    rw [h2]
    exact jumpM_bwd h1
  · intro h
    have := jump_fwd (r := []) (jumpM_fwd h) (.inl rfl)
    rw [List.append_nil] at this
    exact this
theorem jump_plus {s r r' : Text} {j : Kg56.Jump} (hs : 43 ∉ s) : jump? (s ++ 43 :: r) = some (j, 43 :: r') ↔ jumpM s = some j ∧ r' = r := by
  constructor
  · intro h
    obtain ⟨s', h1, h2⟩ := jump_bwd h
    obtain ⟨e1, e2⟩ := cut_uniq hs h1.no.1 h2
    rw [e1]
    exact ⟨jumpM_bwd h1, e2.symm⟩
  · rintro ⟨h, rfl⟩
    exact jump_fwd (jumpM_fwd h) (.inr ⟨_, rfl⟩)
theorem jumps_is : ∀ (n : Nat) (t : Text), jumps? n t = if (parts t).length ≤ n then allM (parts t) else none
  | 0, t => by
    have : ¬ (parts t).length ≤ 0 := by
      have := List.length_pos_iff.mpr (parts_ne t)
      omega
    rw [if_neg this]
    rfl
  | n + 1, t => by
    rw [jumps_eq]
    by_cases h : 43 ∈ t
    · obtain ⟨s, r, rfl, hs⟩ := cut_of_mem h
      rw [parts_cut hs]
      have ih := jumps_is n r
      show _ = if (parts r).length + 1 ≤ n + 1 then (match jumpM s with
        | none => none
        | some j => (allM (parts r)).map fun l => j :: l) else none
      cases hj : jump? (s ++ 43 :: r) with
      | none =>
        have : jumpM s = none := by
          cases e : jumpM s with
          | none => rfl
          | some j =>
            have := (jump_plus (r := r) (r' := r) hs).mpr ⟨e, rfl⟩
            rw [hj] at this
            cases this
        rw [this]
        simp
      | some x =>
        obtain ⟨j, q⟩ := x
        have no : ∀ j', jumpM s = some j' → j' = j ∧ q = 43 :: r := fun j' e => by
          have := (jump_plus (r := r) (r' := r) hs).mpr ⟨e, rfl⟩
          rw [hj] at this
          simp only [Option.some.injEq, Prod.mk.injEq] at this
          exact ⟨this.1.symm, this.2⟩
        cases e : jumpM s with
        | some j' =>
          obtain ⟨rfl, rfl⟩ := no j' e
          simp only
          rw [ih]
          by_cases hl : (parts r).length ≤ n
          · rw [if_pos hl, if_pos (by omega)]
          · rw [if_neg hl, if_neg (by omega)]
            rfl
        | none =>
          have hn : ∀ q', q ≠ 43 :: q' := fun q' e' => by
            subst e'
            have := ((jump_plus hs).mp hj).1
            rw [e] at this
            cases this
          have hn2 : q ≠ [] := fun e' => by
            subst e'
            obtain ⟨s', h1, h2⟩ := jump_bwd hj
            rw [List.append_nil] at h2
            have := h1.no.1
            rw [← h2] at this
            simp at this
          cases q with
          | nil => exact absurd rfl hn2
          | cons c q =>
            have hc : ¬ c = 43 := fun e' => hn q (by rw [e'])
            have rhs : (if (parts r).length + 1 ≤ n + 1 then (match (none : Option Kg56.Jump) with
              | none => none
              | some j => (allM (parts r)).map fun l => j :: l) else none) = (none : Option (List Kg56.Jump)) := by split <;> rfl
            rw [rhs]
            generalize jumps? n = f
            split
            · rfl
            · rename_i heq
              simp at heq
            · rename_i heq
              simp only [Option.some.injEq, Prod.mk.injEq, List.cons.injEq] at heq
              exact absurd heq.2.1 hc
            · rfl
    · rw [parts_one h]
      show _ = if 1 ≤ n + 1 then (match jumpM t with
        | none => none
        | some j => some [j]) else none
      rw [if_pos (by omega)]
      cases hj : jump? t with
      | none =>
        have : jumpM t = none := by
          cases e : jumpM t with
          | none => rfl
          | some j =>
            have := jump_end.mpr e
            rw [hj] at this
            cases this
        rw [this]
      | some x =>
        obtain ⟨j, q⟩ := x
        cases q with
        | nil => rw [jump_end.mp hj]
        | cons c q =>
          have hn : jumpM t = none := by
            cases e : jumpM t with
            | none => rfl
            | some j =>
              have := jump_end.mpr e
              rw [hj] at this
              simp at this
          rw [hn]
          have hc : ¬ c = 43 := fun e' => by
            subst e'
            obtain ⟨s', h1, h2⟩ := jump_bwd hj
            rw [h2] at h
            simp at h
          split
          · rfl
          · rename_i heq
            simp at heq
          · rename_i heq
            simp only [Option.some.injEq, Prod.mk.injEq, List.cons.injEq] at heq
            exact absurd heq.2.1 hc
          · rfl
theorem allM_len : ∀ {ps : List Text} {l : List Kg56.Jump}, allM ps = some l → l.length = ps.length ∧ ∀ j ∈ l, JOk j
  | [], l, h => by cases Option.some.inj h; exact ⟨rfl, fun j hj => by cases hj⟩
  | t :: r, l, h => by
    unfold allM at h
    cases e : jumpM t with
    | none => rw [e] at h; cases h
    | some j =>
      rw [e] at h
      cases e2 : allM r with
      | none => rw [e2] at h; cases h
      | some l' =>
        rw [e2] at h
        cases Option.some.inj h
        obtain ⟨h1, h2⟩ := allM_len e2
        refine ⟨by simp [h1], fun j' hj => ?_⟩
        rcases List.mem_cons.mp hj with rfl | hj
        · exact (jumpM_fwd e).ok
        · exact h2 _ hj
theorem right_is {l : List Kg56.Jump} (h : 1 ≤ l.length) (h3 : l.length ≤ 3) : rightJumps l = !(List.range l.length).any (smallBad l) := by
  match l with
  | [] => simp at h
  | [a] =>
    show (a.kind != 6) = !((smallBad [a] 0) || false)
    unfold smallBad
    by_cases ha : a.kind = 6 <;> simp [bne, ha]
  | [a, b] =>
    show (a.kind != 6 && b.kind != 6) = !((smallBad [a, b] 0) || ((smallBad [a, b] 1) || false))
    unfold smallBad
    by_cases ha : a.kind = 6 <;> by_cases hb : b.kind = 6 <;> simp [bne, ha, hb]
  | [a, b, c] =>
    show (a.kind != 6 && (c.kind != 6 && (b.kind != 6 || (c.kind == 1 || c.kind == 3)))) = !((smallBad [a, b, c] 0) || ((smallBad [a, b, c] 1) || ((smallBad [a, b, c] 2) || false)))
    unfold smallBad
    by_cases ha : a.kind = 6 <;> by_cases hb : b.kind = 6 <;> by_cases hc : c.kind = 6 <;> by_cases h1 : c.kind = 1 <;> by_cases h3 : c.kind = 3 <;> simp [bne, ha, hb, hc, h1, h3]
  | a :: b :: c :: d :: r => simp at h3
theorem jumpsM_is (t : Text) : ((jumps? 3 t).bind fun l => if rightJumps l = true then some (Kg56.Element.jumps l) else none) = (jumpsM t).map .jumps := by
  rw [jumps_is]
  unfold jumpsM
  cases e : allM (parts t) with
  | none => simp
  | some l =>
    obtain ⟨h1, h2⟩ := allM_len e
    simp only
    have hp := List.length_pos_iff.mpr (parts_ne t)
    by_cases h3 : 3 < l.length
    · rw [if_pos h3, if_neg (by omega)]
      rfl
    · rw [if_neg h3, if_pos (by omega)]
      simp only [Option.bind_some]
      rw [right_is (by omega) (by omega)]
      cases (List.range l.length).any (smallBad l) <;> simp
theorem jumpsM_no {t : Text} {l : List Kg56.Jump} (h : jumpsM t = some l) : 112 ∉ t := by
  have key : ∀ (n : Nat) (t : Text) (l : List Kg56.Jump), t.length ≤ n → allM (parts t) = some l → 112 ∉ t := by
    intro n
    induction n with
    | zero =>
      intro t l hl _
      cases t with
      | nil => simp
      | cons c r => simp at hl
    | succ n ih =>
      intro t l hl he
      by_cases hm : 43 ∈ t
      · obtain ⟨s, r, rfl, hs⟩ := cut_of_mem hm
        rw [parts_cut hs] at he
        unfold allM at he
        cases e : jumpM s with
        | none => rw [e] at he; cases he
        | some j =>
          rw [e] at he
          cases e2 : allM (parts r) with
          | none => rw [e2] at he; cases he
          | some l' =>
            have h1 := (jumpM_fwd e).no.2
            have h2 := ih r l' (by simp at hl; omega) e2
            simp only [List.mem_append, List.mem_cons, not_or]
            exact ⟨h1, by decide, h2⟩
      · rw [parts_one hm] at he
        unfold allM at he
        cases e : jumpM t with
        | none => rw [e] at he; cases he
        | some j => exact (jumpM_fwd e).no.2
  unfold jumpsM at h
  cases e : allM (parts t) with
  | none => rw [e] at h; cases h
  | some l' => exact key _ t l' (Nat.le_refl _) e
theorem jumpsM_ok {t : Text} {l : List Kg56.Jump} (h : jumpsM t = some l) : 1 ≤ l.length ∧ l.length ≤ 3 ∧ ∀ j ∈ l, JOk j := by
  unfold jumpsM at h
  cases e : allM (parts t) with
  | none => rw [e] at h; cases h
  | some l' =>
    rw [e] at h
    simp only at h
    split at h
    · cases h
    · split at h
      · cases h
      · cases Option.some.inj h
        obtain ⟨h1, h2⟩ := allM_len e
        have hp := List.length_pos_iff.mpr (parts_ne t)
        exact ⟨by omega, by omega, h2⟩
/-! ### spins -/
def NAMES : List Text := [[85], [76], [67], [83], [67, 111], [67, 85], [67, 76], [67, 67], [67, 83], [67, 67, 111],
  [70, 85], [70, 76], [70, 67], [70, 83], [70, 67, 111], [70, 67, 85], [70, 67, 76], [70, 67, 67], [70, 67, 83], [70, 67, 67, 111]]
theorem spins_names : SPINS = NAMES.map fun n => n ++ [83, 112] := by decide
theorem spin_name {n : Text} {p f c : Nat} (h : spinM n = some (p, f, c)) : p < 5 ∧ f < 2 ∧ c < 2 ∧ NAMES[10 * f + 5 * c + p]? = some n := by
  unfold spinM at h
  cases e : lookT POST (spinC (spinF n).1).1 with
  | none => rw [e] at h; cases h
  | some q =>
    rw [e] at h
    have hq := lookT_mem e
    simp only [Option.map_some, Option.some.injEq, Prod.mk.injEq] at h
    obtain ⟨rfl, h2, h3⟩ := h
    have hf : (spinF n = (n, 0)) ∨ (∃ r, n = 70 :: r ∧ spinF n = (r, 1)) := by
      unfold spinF
      split
      · rename_i hs
        obtain ⟨r, rfl⟩ := sw_iff.mp hs
        exact .inr ⟨r, rfl, rfl⟩
      · exact .inl rfl
    have hc : ∀ m, (spinC m = (m, 0)) ∨ (∃ r, m = 67 :: r ∧ spinC m = (r, 1)) := by
      intro m
      unfold spinC
      split
      · rename_i hs
        obtain ⟨r, rfl⟩ := sw_iff.mp hs.1
        exact .inr ⟨r, rfl, rfl⟩
      · exact .inl rfl
    simp only [POST, List.mem_cons, Prod.mk.injEq, List.not_mem_nil, or_false] at hq
    rcases hf with hf | ⟨r, hr, hf⟩ <;> rw [hf] at hq h2 h3 <;> simp only at hq h2 h3
    · rcases hc n with hc | ⟨r2, hr2, hc⟩ <;> rw [hc] at hq h3 <;> simp only at hq h3 <;> subst h2 h3
      · rcases hq with ⟨rfl, rfl⟩ | ⟨rfl, rfl⟩ | ⟨rfl, rfl⟩ | ⟨rfl, rfl⟩ | ⟨rfl, rfl⟩ <;> decide
      · subst hr2
        rcases hq with ⟨rfl, rfl⟩ | ⟨rfl, rfl⟩ | ⟨rfl, rfl⟩ | ⟨rfl, rfl⟩ | ⟨rfl, rfl⟩ <;> decide
    · rcases hc r with hc | ⟨r2, hr2, hc⟩ <;> rw [hc] at hq h3 <;> simp only at hq h3 <;> subst h2 h3
      · subst hr
        rcases hq with ⟨rfl, rfl⟩ | ⟨rfl, rfl⟩ | ⟨rfl, rfl⟩ | ⟨rfl, rfl⟩ | ⟨rfl, rfl⟩ <;> decide
      · subst hr hr2
        rcases hq with ⟨rfl, rfl⟩ | ⟨rfl, rfl⟩ | ⟨rfl, rfl⟩ | ⟨rfl, rfl⟩ | ⟨rfl, rfl⟩ <;> decide
theorem name_spin : ∀ i : Fin 20, ∃ n, NAMES[i.val]? = some n ∧ (112 ∉ n) ∧ (spinM n).map (fun y => 10 * y.2.1 + 5 * y.2.2 + y.1) = some i.val := by
  have : ∀ i : Fin 20, (112 ∉ (NAMES.getD i.val [])) ∧ NAMES[i.val]? = some (NAMES.getD i.val []) ∧ (spinM (NAMES.getD i.val [])).map (fun y => 10 * y.2.1 + 5 * y.2.2 + y.1) = some i.val := by decide
  intro i
  obtain ⟨h1, h2, h3⟩ := this i
  exact ⟨_, h2, h1, h3⟩
theorem cut2_some : ∀ {t a b : Text}, cut2 t = some (a, b) → t = a ++ (83 :: 112 :: b)
  | [], _, _, h => by cases h
  | c :: r, a, b, h => by
    unfold cut2 at h
    split at h
    · rename_i hs
      obtain ⟨q, e⟩ := sw_iff.mp hs
      cases Option.some.inj h
      rw [e]
      rfl
    · cases e : cut2 r with
      | none => rw [e] at h; cases h
      | some x =>
        rw [e] at h
        obtain ⟨x1, x2⟩ := x
        have h : (c :: x1, x2) = (a, b) := Option.some.inj h
        cases h
        rw [cut2_some e]
        rfl
theorem cut2_app : ∀ {a b : Text}, 112 ∉ a → cut2 (a ++ (83 :: 112 :: b)) = some (a, b)
  | [], b, _ => by
    show cut2 (83 :: 112 :: b) = _
    unfold cut2
    rw [if_pos (show startsWith [83, 112] (83 :: 112 :: b) = true from sw_iff.mpr ⟨b, rfl⟩)]
    rfl
  | c :: a, b, h => by
    have ih := cut2_app (a := a) (b := b) fun m => h (List.mem_cons_of_mem _ m)
    show cut2 (c :: (a ++ (83 :: 112 :: b))) = _
    unfold cut2
    have hn : ¬ startsWith [83, 112] (c :: (a ++ (83 :: 112 :: b))) = true := by
      intro hs
      obtain ⟨q, e⟩ := sw_iff.mp hs
      obtain ⟨e1, e2⟩ := List.cons.inj e
      cases a with
      | nil =>
        have := (List.cons.inj e2).1
        omega
      | cons d a =>
        have := (List.cons.inj e2).1
        exact h (by rw [this]; simp)
    rw [if_neg hn, ih]
    rfl
theorem spins_len : SPINS.length = 20 := by decide
theorem spins_at {i : Nat} (h : i < 20) : ∃ n, NAMES[i]? = some n ∧ SPINS.getD i [] = n ++ [83, 112] := by
  obtain ⟨n, h1, _⟩ := name_spin ⟨i, h⟩
  refine ⟨n, h1, ?_⟩
  rw [spins_names, List.getD_eq_getElem?_getD, List.getElem?_map, h1]
  rfl
/-- **the mirror reads as the specification does** -/
theorem elem_is (t : Text) : elemM t = element? t := by
  unfold elemM element?
  have e1 : ascii "ChSq1" = [67, 104, 83, 113, 49] := by decide
  have e2 : ascii "StSq" = [83, 116, 83, 113] := by decide
  rw [e1, e2]
  split
  · rfl
  · split
    · rfl
    · cases hf : (List.range SPINS.length).find? (fun i => startsWith (SPINS.getD i []) t) with
      | some i =>
        have h1 := List.find?_some hf
        have h2 := List.mem_range.mp (List.mem_of_find?_eq_some hf)
        rw [spins_len] at h2
        obtain ⟨n, n1, n2⟩ := spins_at h2
        obtain ⟨n', n1', n3, n4⟩ := name_spin ⟨i, h2⟩
        have : n' = n := by simpa using (n1'.symm.trans n1)
        subst this
        have h1 : startsWith (SPINS.getD i []) t = true := h1
        rw [n2] at h1
        obtain ⟨r, hr⟩ := sw_iff.mp h1
        have hr' : t = n' ++ (83 :: 112 :: r) := by rw [hr]; simp
        have hc : cut2 t = some (n', r) := by rw [hr']; exact cut2_app n3
        have hd : t.drop (SPINS.getD i []).length = r := by
          rw [n2, hr]
          simp
        rw [hc]
        simp only
        rw [hd]
        cases hs : spinM n' with
        | none => rw [hs] at n4; cases n4
        | some y =>
          rw [hs] at n4
          simp only [Option.map_some, Option.some.injEq] at n4
          cases level? r with
          | none => rfl
          | some l =>
            simp only [Option.map_some]
            rw [n4]
      | none =>
        have hno : ∀ a b, cut2 t = some (a, b) → spinM a = none := by
          intro a b hc
          cases hs : spinM a with
          | none => rfl
          | some y =>
            obtain ⟨p, f, c⟩ := y
            obtain ⟨h1, h2, h3, h4⟩ := spin_name hs
            have hlt : 10 * f + 5 * c + p < 20 := by omega
            have := List.find?_eq_none.mp hf (10 * f + 5 * c + p) (List.mem_range.mpr (by rw [spins_len]; exact hlt))
            obtain ⟨n, n1, n2⟩ := spins_at hlt
            have : n = a := by simpa using (n1.symm.trans h4)
            subst this
            exact absurd (by
              show startsWith (SPINS.getD _ []) t = true
              rw [n2]
              refine sw_iff.mpr ⟨b, ?_⟩
              rw [cut2_some hc]
              simp) (List.find?_eq_none.mp hf (10 * f + 5 * c + p) (List.mem_range.mpr (by rw [spins_len]; exact hlt)))
        rw [jumpsM_is]
        cases hc : cut2 t with
        | none => rfl
        | some x =>
          obtain ⟨a, b⟩ := x
          simp only
          rw [hno a b hc]
          cases hj : jumpsM t with
          | none => rfl
          | some l =>
            have := jumpsM_no hj
            rw [cut2_some hc] at this
            simp at this
/-! ### the signs -/
def SIGNST : Text := [33, 43, 49, 50, 51, 52, 60, 65, 66, 67, 69, 70, 76, 83, 84, 85, 101, 104, 111, 112, 113, 116, 117, 122]
theorem JW.signs {s : Text} {j : Kg56.Jump} (h : JW s j) : ∀ c ∈ s, c ∈ SIGNST := by
  cases h with
  | small => decide
  | @jump d ks es ms k e m hd hk he hm h =>
    simp only [KT, EE, MM, List.mem_cons, Prod.mk.injEq, List.not_mem_nil, or_false] at hk he hm
    have h1 : ∀ c ∈ ks, c ∈ SIGNST := by rcases hk with ⟨rfl, _⟩ | ⟨rfl, _⟩ | ⟨rfl, _⟩ | ⟨rfl, _⟩ | ⟨rfl, _⟩ | ⟨rfl, _⟩ <;> decide
    have h2 : ∀ c ∈ es, c ∈ SIGNST := by rcases he with ⟨rfl, _⟩ | ⟨rfl, _⟩ | ⟨rfl, _⟩ <;> decide
    have h3 : ∀ c ∈ ms, c ∈ SIGNST := by rcases hm with ⟨rfl, _⟩ | ⟨rfl, _⟩ | ⟨rfl, _⟩ | ⟨rfl, _⟩ <;> decide
    have h4 : d ∈ SIGNST := by
      have : d = 49 ∨ d = 50 ∨ d = 51 ∨ d = 52 := by omega
      rcases this with rfl | rfl | rfl | rfl <;> decide
    intro c hc
    simp only [List.mem_cons, List.mem_append] at hc
    rcases hc with rfl | hc | hc | hc
    · exact h4
    · exact h1 c hc
    · exact h2 c hc
    · exact h3 c hc
theorem level_signs {t : Text} {l : Nat} (h : level? t = some l) : (∀ c ∈ t, c ∈ SIGNST) ∧ l < 5 := by
  rw [← level_is] at h
  have := lookT_mem h
  simp only [LEVELST, List.mem_cons, Prod.mk.injEq, List.not_mem_nil, or_false] at this
  rcases this with ⟨rfl, rfl⟩ | ⟨rfl, rfl⟩ | ⟨rfl, rfl⟩ | ⟨rfl, rfl⟩ | ⟨rfl, rfl⟩ <;> decide
theorem jumps_signs : ∀ (n : Nat) (t : Text) (l : List Kg56.Jump), t.length ≤ n → allM (parts t) = some l → ∀ c ∈ t, c ∈ SIGNST
  | n, [], l, _, _ => by simp
  | 0, c :: r, l, hl, _ => by simp at hl
  | n + 1, c0 :: r0, l, hl, he => by
    generalize ht : c0 :: r0 = t at *
    by_cases hm : 43 ∈ t
    · obtain ⟨s, r, rfl, hs⟩ := cut_of_mem hm
      rw [parts_cut hs] at he
      unfold allM at he
      cases e : jumpM s with
      | none => rw [e] at he; cases he
      | some j =>
        rw [e] at he
        cases e2 : allM (parts r) with
        | none => rw [e2] at he; cases he
        | some l' =>
          have h1 := (jumpM_fwd e).signs
          have h2 := jumps_signs n r l' (by simp at hl; omega) e2
          intro c hc
          simp only [List.mem_append, List.mem_cons] at hc
          rcases hc with hc | rfl | hc
          · exact h1 c hc
          · decide
          · exact h2 c hc
    · rw [parts_one hm] at he
      unfold allM at he
      cases e : jumpM t with
      | none => rw [e] at he; cases he
      | some j => exact (jumpM_fwd e).signs
theorem elem_signs {t : Text} {e : Kg56.Element} (h : elemM t = some e) : (∀ c ∈ t, c ∈ SIGNST) ∧ ElemOk e := by
  unfold elemM at h
  split at h
  · rename_i e1
    cases Option.some.inj h
    rw [e1]
    exact ⟨by decide, trivial⟩
  · split at h
    · rename_i hs
      obtain ⟨r, rfl⟩ := sw_iff.mp hs
      cases hl : level? (([83, 116, 83, 113] ++ r).drop 4) with
      | none => rw [hl] at h; cases h
      | some l =>
        rw [hl] at h
        cases Option.some.inj h
        obtain ⟨h1, h2⟩ := level_signs hl
        refine ⟨fun c hc => ?_, h2⟩
        rcases List.mem_append.mp hc with hc | hc
        · have : ∀ c ∈ ([83, 116, 83, 113] : Text), c ∈ SIGNST := by decide
          exact this c hc
        · exact h1 c (by simpa using hc)
    · cases hc : cut2 t with
      | some x =>
        obtain ⟨a, b⟩ := x
        rw [hc] at h
        simp only at h
        cases hs : spinM a with
        | none => rw [hs] at h; cases h
        | some y =>
          rw [hs] at h
          cases hl : level? b with
          | none => rw [hl] at h; cases h
          | some l =>
            rw [hl] at h
            cases Option.some.inj h
            obtain ⟨p, f, c⟩ := y
            obtain ⟨h1, h2, h3, h4⟩ := spin_name hs
            obtain ⟨h5, h6⟩ := level_signs hl
            have ha : ∀ c ∈ a, c ∈ SIGNST := by
              have : ∀ n ∈ NAMES, ∀ c ∈ n, c ∈ SIGNST := by decide
              exact this a (List.mem_of_getElem? h4)
            refine ⟨fun c hc' => ?_, by simp only; omega, h6⟩
            rw [cut2_some hc] at hc'
            simp only [List.mem_append, List.mem_cons] at hc'
            rcases hc' with hc' | rfl | rfl | hc'
            · exact ha c hc'
            · decide
            · decide
            · exact h5 c hc'
      | none =>
        rw [hc] at h
        simp only at h
        cases hj : jumpsM t with
        | none => rw [hj] at h; cases h
        | some l =>
          rw [hj] at h
          cases Option.some.inj h
          refine ⟨?_, jumpsM_ok hj⟩
          unfold jumpsM at hj
          cases ha : allM (parts t) with
          | none => rw [ha] at hj; cases hj
          | some l' => exact jumps_signs _ t l' (Nat.le_refl _) ha
end Sk
set_option maxHeartbeats 2000000
namespace Sk
open PySem PySem.Spec PyProof.Rows L2
open Evl (Ex)
abbrev st_level_of : Stmt := top 60
theorem sc_level_of : FnScope ["text"] ["text"] (defScope st_level_of) := ⟨rfl, rfl, rfl, by decide +kernel, rfl, by decide +kernel, by decide +kernel⟩
abbrev st_spin_of : Stmt := top 61
theorem sc_spin_of : FnScope ["name", "level", "flying", "change"] ["name", "level"] (defScope st_spin_of) := ⟨rfl, rfl, rfl, by decide +kernel, rfl, by decide +kernel, by decide +kernel⟩
abbrev st_without_ending : Stmt := top 65
theorem sc_without_ending : FnScope ["text", "endings", "ending", "number"] ["text", "endings"] (defScope st_without_ending) := ⟨rfl, rfl, rfl, by decide +kernel, rfl, by decide +kernel, by decide +kernel⟩
abbrev st_jump_of : Stmt := top 64
theorem sc_jump_of : FnScope ["text", "missing", "edge", "digit", "kind"] ["text"] (defScope st_jump_of) := ⟨rfl, rfl, rfl, by decide +kernel, rfl, by decide +kernel, by decide +kernel⟩
abbrev st_may_be_small : Stmt := top 63
theorem sc_may_be_small : FnScope ["jumps", "place"] ["jumps", "place"] (defScope st_may_be_small) := ⟨rfl, rfl, rfl, by decide +kernel, rfl, by decide +kernel, by decide +kernel⟩
abbrev st_text_of : Stmt := top 59
theorem sc_text_of : FnScope ["numbers", "signs", "sign", "found", "number"] ["numbers"] (defScope st_text_of) := ⟨rfl, rfl, rfl, by decide +kernel, rfl, by decide +kernel, by decide +kernel⟩
abbrev st_element_of : Stmt := top 58
theorem sc_element_of : FnScope ["numbers", "text", "name", "sign", "level"] ["numbers"] (defScope st_element_of) := ⟨rfl, rfl, rfl, by decide +kernel, rfl, by decide +kernel, by decide +kernel⟩
abbrev mk (t : List Nat) : Str := ⟨t.toArray⟩
theorem mk_inj {a b : List Nat} (h : mk a = mk b) : a = b := by
  have := congrArg (fun s : Str => s.cps.toList) h
  exact this
theorem mk_len (t : List Nat) : (mk t).length = t.length := by simp [Str.length]
theorem look_mk (l : List (List Nat × Nat)) (t : List Nat) : look (l.map fun p => (mk p.1, (p.2 : Int))) (mk t) = (lookT l t).map fun n => (n : Int) := by
  induction l with
  | nil => rfl
  | cons p l ih =>
    rw [lookT_cons]
    unfold look at ih ⊢
    rw [List.map_cons, List.find?_cons]
    by_cases c : p.1 = t
    · rw [if_pos c, c]
      rw [show (mk t == mk t) = true from beq_self_eq_true _]
      rfl
    · rw [if_neg c, show (mk p.1 == mk t) = false from beq_eq_false_iff_ne.mpr fun e => c (mk_inj e)]
      exact ih
theorem levels_is : ([("B", 0), ("1", 1), ("2", 2), ("3", 3), ("4", 4)] : List (Str × Int)) = LEVELST.map fun p => (mk p.1, (p.2 : Int)) := by decide +kernel
theorem pos_is : ([("U", 0), ("L", 1), ("C", 2), ("S", 3), ("Co", 4)] : List (Str × Int)) = POST.map fun p => (mk p.1, (p.2 : Int)) := by decide +kernel
theorem turns_is : ([("1", 1), ("2", 2), ("3", 3), ("4", 4)] : List (Str × Int)) = TURNST.map fun p => (mk p.1, (p.2 : Int)) := by decide +kernel
theorem kinds_is : ([("T", 0), ("S", 1), ("Lo", 2), ("F", 3), ("Lz", 4), ("A", 5)] : List (Str × Int)) = KT.map fun p => (mk p.1, (p.2 : Int)) := by decide +kernel
theorem tsw (t s : List Nat) : Txt.startswith (mk t) (mk s) = Kg56.startsWith s t := by
  unfold Txt.startswith Kg56.startsWith
  rw [PySem.StrLaws.subAt_eq, mk_len, mk_len, Nat.zero_add, List.drop_zero]
  by_cases h : s.length ≤ t.length
  · rw [decide_eq_true h, Bool.true_and]
  · rw [decide_eq_false h, Bool.false_and]
    refine (beq_eq_false_iff_ne.mpr fun e => h ?_).symm
    have := congrArg List.length e
    rw [List.length_take] at this
    omega
theorem tew (t s : List Nat) : Txt.endswith (mk t) (mk s) = suf s t := by
  unfold Txt.endswith suf
  rw [PySem.StrLaws.subAt_eq, mk_len, mk_len, Nat.zero_add]
  by_cases h : s.length ≤ t.length
  · rw [decide_eq_true h, Bool.true_and, Bool.true_and]
    show ((t.drop (t.length - s.length)).take s.length == s) = _
    rw [List.take_of_length_le (by rw [List.length_drop]; omega)]
  · rw [decide_eq_false h, Bool.false_and, Bool.false_and]
theorem cut_from (t : List Nat) (k : Nat) : cutS (mk t) (some (k : Int)) none = mk (t.drop k) := by
  unfold cutS
  rw [HT.sIx_nat, HT.sIx_none, mk_len]
  congr 2
  show (t.drop (min k t.length)).take (t.length - min k t.length) = t.drop k
  rw [List.take_of_length_le (by rw [List.length_drop]; exact Nat.le_refl _)]
  by_cases h : k ≤ t.length
  · rw [Nat.min_eq_left h]
  · rw [Nat.min_eq_right (by omega), List.drop_length, List.drop_of_length_le (by omega)]
theorem cut_to (t : List Nat) (k : Nat) : cutS (mk t) none (some (k : Int)) = mk (t.take k) := by
  unfold cutS
  rw [HT.sIx_nat, HT.sIx_none, mk_len]
  congr 2
  show (t.drop 0).take (min k t.length - 0) = t.take k
  rw [List.drop_zero, Nat.sub_zero]
  by_cases h : k ≤ t.length
  · rw [Nat.min_eq_left h]
  · rw [Nat.min_eq_right (by omega), List.take_length, List.take_of_length_le (by omega)]
theorem par_cut2 : ∀ (t acc : List Nat), TL.par [83, 112] acc t = (cut2 t).map fun x => (acc ++ x.1, x.2)
  | [], acc => rfl
  | c :: r, acc => by
    unfold cut2
    by_cases h : Kg56.startsWith [83, 112] (c :: r) = true
    · rw [if_pos h, TL.par_hit (show TL.pre [83, 112] (c :: r) = true from h)]
      simp
    · rw [if_neg h, TL.par_miss (show TL.pre [83, 112] (c :: r) = false from by
        have : Kg56.startsWith [83, 112] (c :: r) = false := by simpa using h
        exact this), par_cut2 r]
      cases cut2 r <;> simp
theorem tpart (t : List Nat) : Txt.partition (mk t) (mk [83, 112]) = (match cut2 t with
    | some x => (mk x.1, mk [83, 112], mk x.2)
    | none => (mk t, Str.empty, Str.empty)) := by
  rw [TL.partition_par _ _ (show TL.tl (mk [83, 112]) ≠ [] by decide)]
  show (match TL.par [83, 112] [] t with
    | some (a, b) => ((⟨a.toArray⟩ : Str), mk [83, 112], (⟨b.toArray⟩ : Str))
    | none => (mk t, Str.empty, Str.empty)) = _
  rw [par_cut2]
  cases cut2 t with
  | none => rfl
  | some x => rfl
theorem spl_parts : ∀ (t acc : List Nat), TL.spl [43] 0 acc t = match parts t with
    | [] => [acc]
    | p :: ps => (acc ++ p) :: ps
  | [], acc => by rw [TL.spl_nil]; simp [parts]
  | c :: r, acc => by
    unfold parts
    by_cases h : c = 43
    · subst h
      rw [if_pos rfl, TL.spl_hit (show TL.pre [43] (43 :: r) = true from TL.pre_self [43] r)]
      have := spl_parts r []
      show acc :: TL.spl [43] 0 [] r = _
      rw [this]
      cases hp : parts r with
      | nil => exact absurd hp (parts_ne r)
      | cons p ps => simp
    · rw [if_neg h, TL.spl_miss (TL.pre_of_head [] r h), spl_parts r]
      cases hp : parts r with
      | nil => exact absurd hp (parts_ne r)
      | cons p ps => simp
theorem lit_eu : (Str.ofString "Eu") = mk [69, 117] := by decide +kernel
theorem lit_ch : (Str.ofString "ChSq1") = mk [67, 104, 83, 113, 49] := by decide +kernel
theorem lit_st : (Str.ofString "StSq") = mk [83, 116, 83, 113] := by decide +kernel
theorem lit_sp : (Str.ofString "Sp") = mk [83, 112] := by decide +kernel
theorem lit_F : (Str.ofString "F") = mk [70] := by decide +kernel
theorem lit_C : (Str.ofString "C") = mk [67] := by decide +kernel
theorem lit_Lz : (Str.ofString "Lz") = mk [76, 122] := by decide +kernel
theorem lit_plus : (Str.ofString "+") = mk [43] := by decide +kernel
theorem lit_ll : (Str.ofString "<<") = mk [60, 60] := by decide +kernel
theorem lit_l : (Str.ofString "<") = mk [60] := by decide +kernel
theorem lit_q : (Str.ofString "q") = mk [113] := by decide +kernel
theorem lit_e : (Str.ofString "e") = mk [101] := by decide +kernel
theorem lit_x : (Str.ofString "!") = mk [33] := by decide +kernel
theorem lit_0 : (Str.ofString "") = mk [] := by decide +kernel
theorem lit_signs : (Str.ofString "!+1234<ABCEFLSTUehopqtuz") = mk SIGNST := by decide +kernel
theorem tsplit (t : List Nat) : Txt.split (mk t) (mk [43]) = (parts t).map mk := by
  refine TL.map_tl_inj ?_
  rw [TL.split_spl _ _ (show TL.tl (mk [43]) ≠ [] by decide) (TL.kind_ok (by decide +kernel))]
  show TL.spl [43] 0 [] t = _
  rw [spl_parts, List.map_map]
  have : (TL.tl ∘ mk) = id := rfl
  rw [this, List.map_id]
  cases hp : parts t with
  | nil => exact absurd hp (parts_ne t)
  | cons p ps => simp
/-- a walk over a text's signs -/
theorem for_strL {x : Str} {g : TG} {tb : TS} {D : Ends} {σ : L2.St} {H : Hp} (Pv : Nat → L2.St → Hp → Prop) (h0 : Pv 0 σ H)
    (hs : ∀ (i c : Nat) (σ : L2.St) (H : Hp), x.cps[i]? = some c → Pv i σ H → g (.str ⟨#[c]⟩) σ H fun σ2 H2 => tb { D with nx := Pv (i + 1), ct := Pv (i + 1), bk := D.nx } σ2 H2) (hd : ∀ σ H, Pv x.cps.size σ H → D.nx σ H) :
    ∃ W : Nat → Nat → L2.St → Hp → Prop, (∃ m, W 0 m σ H) ∧ ∀ i m σ H, W i m σ H →
      ((Its x).stop i H ∧ D.nx σ H) ∨ ((Its x).go i H ∧ ∃ N : L2.St → Hp → Prop, (∀ σ' H', N σ' H' → ∃ m', m' < m ∧ W (i + 1) m' σ' H') ∧ ∀ v H', (Its x).yld i H v H' → g v σ H' fun σ2 H2 => tb { D with nx := N, ct := N, bk := D.nx } σ2 H2) := by
  refine ⟨fun i m σ H => m = x.cps.size - i ∧ i ≤ x.cps.size ∧ Pv i σ H, ⟨x.cps.size, rfl, Nat.zero_le _, h0⟩, ?_⟩
  rintro i m σ H ⟨rfl, hi, p⟩
  by_cases hlt : i < x.cps.size
  · refine .inr ⟨hlt, Pv (i + 1), fun σ' H' p' => ⟨x.cps.size - (i + 1), by omega, rfl, hlt, p'⟩, fun v H' y => ?_⟩
    obtain ⟨rfl, c, hc, rfl⟩ := y
    exact hs i c σ _ hc p
  · have e : i = x.cps.size := by omega
    subst e
    exact .inl ⟨Nat.le_refl _, hd σ H p⟩
def kvsS (l : List Nat) : List (Key × V) := l.map fun (c : Nat) => ((.inl (c : Int) : Key), V.str (mk [c]))
theorem kvsS_val (l : List Nat) (n : Int) : valV (kvsS l) (.inl n) = if 0 ≤ n ∧ n.toNat ∈ l then some (.str (mk [n.toNat])) else none := by
  unfold kvsS valV
  induction l with
  | nil => simp
  | cons c l ih =>
    rw [List.map_cons, List.find?_cons]
    by_cases h : (c : Int) = n
    · subst h
      rw [if_pos ⟨by omega, by simp⟩]
      simp
    · have h1 : decide (((.inl (c : Int) : Key), V.str (mk [c])).1 = (.inl n : Key)) = false := decide_eq_false fun e => h (Sum.inl.inj e)
      rw [h1]
      refine Eq.trans ih ?_
      by_cases h2 : 0 ≤ n ∧ n.toNat ∈ l
      · rw [if_pos h2, if_pos ⟨h2.1, List.mem_cons_of_mem _ h2.2⟩]
      · rw [if_neg h2, if_neg]
        rintro ⟨a, b⟩
        rcases List.mem_cons.mp b with e | e
        · omega
        · exact h2 ⟨a, e⟩
theorem kvsS_put {l : List Nat} {c : Nat} (h : c ∉ l) : putK (kvsS l) (.inl (c : Int)) (.str (mk [c])) = kvsS (l ++ [c]) := by
  have hn : valV (kvsS l) (.inl (c : Int)) = none := by
    rw [kvsS_val, if_neg]
    rintro ⟨_, q⟩
    exact h (by simpa using q)
  unfold putK
  rw [if_neg (by rw [valV_any, hn]; decide)]
  unfold kvsS
  simp
theorem tjoin (ls : List Nat) : Txt.join (Str.ofString "") (ls.map fun c => mk [c]) = mk ls := by
  rw [lit_0, TL.join_eq]
  refine TL.ext_tl ?_
  rw [TL.tl_join]
  show TL.joinL [] _ = ls
  induction ls with
  | nil => rfl
  | cons c r ih =>
    cases r with
    | nil => rfl
    | cons d r =>
      show [c] ++ ([] ++ TL.joinL [] _) = c :: d :: r
      rw [List.nil_append]
      exact congrArg (fun z => c :: z) ih
def sp_level_of (A : Ads) : Sp := fun vs H Q E => ∃ (t : List Nat), vs = [.str (mk t)] ∧ (∀ n, Kg56.level? t = some n → Q (.int (n : Int)) H) ∧ (Kg56.level? t = none → E (.ref A.cDoesNotFit) none H)
def sp_spin_of (A : Ads) : Sp := fun vs H Q E => ∃ (a b : List Nat), vs = [.str (mk a), .str (mk b)] ∧ a.length ≤ 40 ∧
  (∀ y l, spinM a = some y → Kg56.level? b = some l → ∀ v H', Ex H H' → ElemAt A (nw H H') v (.spin (10 * y.2.1 + 5 * y.2.2 + y.1) l) → Q v H') ∧ ((spinM a = none ∨ Kg56.level? b = none) → ∀ H', Ex H H' → E (.ref A.cDoesNotFit) none H')
def EndAt (K : PySem.W.Frag) (H : Hp) (v : V) (x : List Nat × Nat) : Prop := ∃ p, v = .ref p ∧ SqT K H p [.str (mk x.1), .int (x.2 : Int)]
def sp_without_ending (K : PySem.W.Frag) : Sp := fun vs H Q _ => ∃ (t : List Nat) (a : Addr) (us : List V) (es : List (List Nat × Nat)), vs = [.str (mk t), .ref a] ∧ t.length ≤ 40 ∧ SqT K H a us ∧ All2 (EndAt K H) us es ∧ (∀ x ∈ es, x.1.length ≤ 2) ∧
  ∀ p H', H p = none → Ex H H' → H' p = some (.tup [.str (mk (woE t es).1), .int ((woE t es).2 : Int)]) → Q (.ref p) H'
def sp_jump_of (A : Ads) : Sp := fun vs H Q E => ∃ (t : List Nat), vs = [.str (mk t)] ∧ t.length ≤ 40 ∧ (∀ j, jumpM t = some j → ∀ v H', Ex H H' → JumpAt A (nw H H') v j → Q v H') ∧ (jumpM t = none → ∀ H', Ex H H' → E (.ref A.cDoesNotFit) none H')
def mayB (l : List Kg56.Jump) (i : Nat) : Bool := decide (l.length = 3) && (decide (i = 1) && (match l[2]? with
  | some k => decide (k.kind = 1 ∨ k.kind = 3)
  | none => false))
def sp_may_be_small (K : PySem.W.Frag) (A : Ads) : Sp := fun vs H Q _ => ∃ (a : Addr) (i : Nat) (us : List V) (js : List Kg56.Jump), vs = [.ref a, .int (i : Int)] ∧ SqL K H a us ∧ All2 (JumpAt A H) us js ∧ ∀ H', Ex H H' → Q (.bl (mayB js i)) H'
def sp_text_of (K : PySem.W.Frag) (A : Ads) : Sp := fun vs H Q E => ∃ (a : Addr) (ns : List Int), vs = [.ref a] ∧ SqL K H a (ns.map V.int) ∧ ns.length ≤ 40 ∧ (∀ n ∈ ns, 0 ≤ n ∧ n ≤ 255) ∧
  ((∀ c ∈ Kg56.nats ns, c ∈ SIGNST) → ∀ H', Ex H H' → Q (.str (mk (Kg56.nats ns))) H') ∧ ((¬ ∀ c ∈ Kg56.nats ns, c ∈ SIGNST) → ∀ H', Ex H H' → E (.ref A.cDoesNotFit) none H')
def sp_jumps_of (A : Ads) : Sp := fun vs H Q E => ∃ (t : List Nat), vs = [.str (mk t)] ∧ t.length ≤ 40 ∧ (∀ l, jumpsM t = some l → ∀ v H', Ex H H' → ElemAt A (nw H H') v (.jumps l) → Q v H') ∧ (jumpsM t = none → ∀ H', Ex H H' → E (.ref A.cDoesNotFit) none H')
def sp_element_of (K : PySem.W.Frag) (A : Ads) : Sp := fun vs H Q E => ∃ (a : Addr) (ns : List Int), vs = [.ref a] ∧ SqL K H a (ns.map V.int) ∧ ns.length ≤ 40 ∧ (∀ n ∈ ns, 0 ≤ n ∧ n ≤ 255) ∧
  (∀ e, Kg56.element? (Kg56.nats ns) = some e → ∀ v H', Ex H H' → ElemAt A (nw H H') v e → Q v H') ∧ (Kg56.element? (Kg56.nats ns) = none → ∀ H', Ex H H' → E (.ref A.cDoesNotFit) none H')
section
variable {P : Program} {w : World} {K : PySem.W.Frag} {mg : Str → Option Value} {base : Heap} {A : Ads}
theorem sz40 {t : List Nat} (h : t.length ≤ 40) : (mk t).length ≤ sizeLine := by
  rw [mk_len]
  exact Nat.le_trans h (by decide)
theorem ok_level_of (T : Txt K w mg A) (F0 : FunF K mg "level_of" st_level_of) : CalF P w K mg base (L2.CX P w) 1 "level_of" ["text"] (sp_level_of A) := by
  obtain ⟨f, fd, F, gF⟩ := F0
  refine ⟨f, fd, ?_, gF, F.kp, F.binds (ps := ["text"]) fun _ _ _ _ _ _ us hl => match us, hl with | [_], _ => rfl⟩
  refine F.okX sc_level_of (fun vs H Q E h => by first | (obtain ⟨rfl, _⟩ := h; rfl) | (obtain ⟨_, rfl, _⟩ := h; rfl) | (obtain ⟨_, _, rfl, _⟩ := h; rfl) | (obtain ⟨_, _, _, rfl, _⟩ := h; rfl) | (obtain ⟨_, _, _, _, rfl, _⟩ := h; rfl) | (obtain ⟨_, _, _, _, _, rfl, _⟩ := h; rfl) | (obtain ⟨_, _, _, _, _, _, rfl, _⟩ := h; rfl) | (obtain ⟨_, _, _, _, _, _, _, rfl, _⟩ := h; rfl) | (obtain ⟨_, _, _, _, _, _, _, _, rfl, _⟩ := h; rfl) | (obtain ⟨_, _, _, _, _, _, _, _, _, rfl, _⟩ := h; rfl) | (obtain ⟨_, _, _, _, _, _, _, _, _, _, rfl, _⟩ := h; rfl)) (fun cdv AA outer s H vs Q E hr h => ⟨_, (pss_cons (ps_if (pt_cmpR op_kniN (pv 0) (pe_globR T.k_LEVELS.1) (by rfl)) (pss_one (ps_raise rfl (takes_of rfl rfl rfl rfl) (pmk_own0 PySem.F.excBase_Exception T.x_DoesNotFit T.g_DoesNotFit T.k_DoesNotFit (raises_own T.s_DoesNotFit T.t_DoesNotFit) (by exact rfl)))) pss_nil)
      (pss_one (ps_ret (pe_ix ix_kdict (pe_globR T.k_LEVELS.1) (pv 0) (fun _ _ => rfl))))), ?_⟩)
  obtain ⟨t, rfl, k, e⟩ := h
  have W := T.k_LEVELS.2
  rw [levels_is] at W
  have hl := look_mk LEVELST t
  rw [level_is] at hl
  refine ⟨_, rfl, _, _, _, rfl, rfl, W, _, rfl, ?_⟩
  rw [hl]
  cases hn : Kg56.level? t with
  | none => exact e hn
  | some n =>
    refine ⟨_, rfl, _, _, _, rfl, rfl, W.kd (v := (n : Int)) (by rw [hl, hn] <;> rfl), k n hn⟩
theorem ok_without_ending (T : Txt K w mg A) (F0 : FunF K mg "without_ending" st_without_ending) : CalF P w K mg base CX0 1 "without_ending" ["text", "endings"] (sp_without_ending K) := by
  obtain ⟨f, fd, F, gF⟩ := F0
  refine ⟨f, fd, ?_, gF, F.kp, F.binds (ps := ["text", "endings"]) fun _ _ _ _ _ _ us hl => match us, hl with | [_, _], _ => rfl⟩
  refine F.ok sc_without_ending (fun vs H Q E h => by first | (obtain ⟨rfl, _⟩ := h; rfl) | (obtain ⟨_, rfl, _⟩ := h; rfl) | (obtain ⟨_, _, rfl, _⟩ := h; rfl) | (obtain ⟨_, _, _, rfl, _⟩ := h; rfl) | (obtain ⟨_, _, _, _, rfl, _⟩ := h; rfl) | (obtain ⟨_, _, _, _, _, rfl, _⟩ := h; rfl) | (obtain ⟨_, _, _, _, _, _, rfl, _⟩ := h; rfl) | (obtain ⟨_, _, _, _, _, _, _, rfl, _⟩ := h; rfl) | (obtain ⟨_, _, _, _, _, _, _, _, rfl, _⟩ := h; rfl) | (obtain ⟨_, _, _, _, _, _, _, _, _, rfl, _⟩ := h; rfl) | (obtain ⟨_, _, _, _, _, _, _, _, _, _, rfl, _⟩ := h; rfl)) (fun cdv AA outer s H vs Q E hr h => ⟨_, (pss_cons (ps_for PassesOwn.never rfl (pi_tup (pv 1)) (pg_tup rfl (pgs_cons (pg_name (i := 2) sc_without_ending.nd rfl (Or.inl rfl)) (pgs_cons (pg_name (i := 3) sc_without_ending.nd rfl (Or.inl rfl)) pgs_nil))) (pss_one (ps_if (pt_val (pe_m1 PySem.F.slot_str_endswith PySem.F.type_str_endswith mt_endswith (pv 0) (pv 2))) (pss_one (ps_ret (pe_tup (pa_cons (pe_slice sl_str (pv 0) po_none (po_some (pe_op op_sub (pe_callB call_len_str (by rfl) T.b_len (by decide +kernel) (pa_cons (pv 0) pa_nil)) (pe_callB call_len_str (by rfl) T.b_len (by decide +kernel) (pa_cons (pv 2) pa_nil))))) (pa_cons (pv 3) pa_nil))))) pss_nil)))
      (pss_one (ps_ret (pe_tup (pa_cons (pv 0) (pa_cons pe_int pa_nil)))))), ?_⟩)
  obtain ⟨t, a, us, es, rfl, h40, hS, hA, h2, k⟩ := h
  have hlen := hA.len
  refine ⟨_, rfl, a, rfl, ⟨us, hS⟩, for_tup (K := K) (a := a) (xs := us) (fun i σ H' => H' = H ∧ (∃ v v2, σ = [some (.str (mk t)), some (.ref a), v, v2]) ∧ woE t es = woE t (es.drop i)) ⟨rfl, ⟨_, _, rfl⟩, rfl⟩ (fun i σ H' _ ⟨e1, _⟩ => by rw [e1]; exact hS) ?_ ?_⟩
  · rintro i y σ H' hi ⟨rfl, ⟨v, v2, rfl⟩, heq⟩
    obtain ⟨x, hx, p, rfl, hp⟩ := hA.get hi
    have hlt := (List.getElem?_eq_some_iff.mp hx).1
    have dr : es.drop i = x :: es.drop (i + 1) := by
      rw [List.drop_eq_getElem_cons hlt]
      congr 1
      exact (List.getElem?_eq_some_iff.mp hx).2
    rw [dr] at heq
    have hx2 := h2 x (List.mem_of_getElem? hx)
    refine ⟨p, _, rfl, hp, rfl, _, _, rfl, _, _, rfl, rfl, ?_⟩
    refine ⟨_, rfl, ⟨_, rfl⟩, _, rfl, _, _, rfl, rfl, _, rfl, ?_⟩
    rw [tew]
    have un : woE t (x :: es.drop (i + 1)) = if suf x.1 t = true then (t.take (t.length - x.1.length), x.2) else woE t (es.drop (i + 1)) := rfl
    rw [un] at heq
    cases hs : suf x.1 t with
    | true =>
      rw [hs, if_pos rfl] at heq
      refine ⟨_, rfl, _, rfl, _, rfl, sz40 h40, _, rfl, _, rfl, by rw [mk_len]; exact Nat.le_trans hx2 (by decide), _, _, rfl, rfl, _, rfl, _, rfl, sz40 h40, _, rfl, by show 2 ≤ sizeLine; decide, fun q hq => ?_⟩
      refine k q _ hq (Ex.one hq) ?_
      rw [upd_same, heq]
      have hle : x.1.length ≤ t.length := by
        obtain ⟨b, hb⟩ := suf_iff.mp hs
        have := congrArg List.length hb
        rw [List.length_append] at this
        omega
      have e1 : (((mk t).length : Nat) : Int) - (((mk x.1).length : Nat) : Int) = ((t.length - x.1.length : Nat) : Int) := by rw [mk_len, mk_len]; omega
      have e2 : cutS (mk t) none (some ((((mk t).length : Nat) : Int) - (((mk x.1).length : Nat) : Int))) = mk (t.take (t.length - x.1.length)) := by rw [e1, cut_to]
      rw [e2]
    | false =>
      rw [hs, if_neg Bool.false_ne_true] at heq
      exact ⟨rfl, ⟨_, _, rfl⟩, heq⟩
  · rintro σ H' ⟨rfl, ⟨v, v2, rfl⟩, heq⟩
    rw [hlen, List.drop_length] at heq
    refine ⟨_, rfl, by show 2 ≤ sizeLine; decide, fun q hq => ?_⟩
    refine k q _ hq (Ex.one hq) ?_
    rw [upd_same, heq]
    rfl
theorem ok_may_be_small (T : Txt K w mg A) (F0 : FunF K mg "may_be_small" st_may_be_small) : CalF P w K mg base CX0 1 "may_be_small" ["jumps", "place"] (sp_may_be_small K A) := by
  obtain ⟨f, fd, F, gF⟩ := F0
  refine ⟨f, fd, ?_, gF, F.kp, F.binds (ps := ["jumps", "place"]) fun _ _ _ _ _ _ us hl => match us, hl with | [_, _], _ => rfl⟩
  refine F.ok sc_may_be_small (fun vs H Q E h => by first | (obtain ⟨rfl, _⟩ := h; rfl) | (obtain ⟨_, rfl, _⟩ := h; rfl) | (obtain ⟨_, _, rfl, _⟩ := h; rfl) | (obtain ⟨_, _, _, rfl, _⟩ := h; rfl) | (obtain ⟨_, _, _, _, rfl, _⟩ := h; rfl) | (obtain ⟨_, _, _, _, _, rfl, _⟩ := h; rfl) | (obtain ⟨_, _, _, _, _, _, rfl, _⟩ := h; rfl) | (obtain ⟨_, _, _, _, _, _, _, rfl, _⟩ := h; rfl) | (obtain ⟨_, _, _, _, _, _, _, _, rfl, _⟩ := h; rfl) | (obtain ⟨_, _, _, _, _, _, _, _, _, rfl, _⟩ := h; rfl) | (obtain ⟨_, _, _, _, _, _, _, _, _, _, rfl, _⟩ := h; rfl)) (fun cdv AA outer s H vs Q E hr h => ⟨_, (pss_one (ps_ret (pe_and (pe_cmpR op_eq (pe_callB call_len_seq (by rfl) T.b_len (by decide +kernel) (pa_cons (pv 0) pa_nil)) pe_int (nomark _)) (pe_and (pe_cmpR op_eq (pv 1) pe_int (nomark _)) (pe_one (pe_cmpR op_in_seq (pe_fld (pe_ix ix_list (pv 0) pe_int (fun _ _ => rfl)) rfl) (pe_tup (pa_cons (pe_globI T.k_SALCHOW) (pa_cons (pe_globI T.k_FLIP) pa_nil))) (by rfl))))))), ?_⟩)
  obtain ⟨a, i, us, js, rfl, hS, hA, k⟩ := h
  have hlen := hA.len
  have k1 := k
  unfold mayB at k1
  refine ⟨_, rfl, a, _, rfl, .inl hS, rfl, _, rfl, ?_⟩
  rw [hlen]
  by_cases c : js.length = 3
  · rw [decide_eq_true c] at k1
    refine t_yes (iT (by omega)) ⟨_, rfl, rfl, _, rfl, ?_⟩
    by_cases c1 : i = 1
    · rw [decide_eq_true c1] at k1
      refine t_yes (iT (by omega)) ?_
      obtain ⟨j, hj⟩ : ∃ j, js[2]? = some j := ⟨_, List.getElem?_eq_getElem (by omega)⟩
      obtain ⟨u, hu, p, dx, rfl, hp⟩ := hA.get2 hj
      rw [hj] at k1
      refine ⟨_, rfl, a, us, 2, _, rfl, rfl, hS, (atI_nat (j := 2) hu : atI us ((2 : Nat) : Int) = some (V.ref p)), p, _, dx, _, _, rfl, hp, T.cl_Jump, T.na_Jump_kind, rfl, by show 2 ≤ sizeLine; decide, fun q hq => ?_⟩
      refine ⟨q, _, rfl, .inr (SqT.of upd_same), rfl, rfl, ?_⟩
      have e : inV (.int (j.kind : Nat)) [V.int 1, V.int 3] = decide (j.kind = 1 ∨ j.kind = 3) := by
        show (((1 : Int) == (j.kind : Int)) || (((3 : Int) == (j.kind : Int)) || false)) = _
        by_cases q1 : j.kind = 1
        · rw [q1]; rfl
        · by_cases q3 : j.kind = 3
          · rw [q3]; rfl
          · rw [beq_eq_false_iff_ne.mpr (by omega), beq_eq_false_iff_ne.mpr (by omega), decide_eq_false (by omega)]
            rfl
      show Q (.bl (inV (.int (j.kind : Nat)) [V.int 1, V.int 3])) _
      rw [e]
      exact k1 _ (Ex.one hq)
    · rw [decide_eq_false c1] at k1
      exact t_no (iF (by omega)) (k1 H (Evl.Ex.refl H))
  · rw [decide_eq_false c] at k1
    exact t_no (iF (by omega)) (k1 H (Evl.Ex.refl H))
theorem ok_spin_of (T : Txt K w mg A) (F0 : FunF K mg "spin_of" st_spin_of)
    (c_Spin_init : CalI P w K mg base CX0 2 A.cSpin ["self", "position", "flying", "change", "level"] (sp_Spin_init A))
    (c_level_of : CalF P w K mg base (L2.CX P w) 1 "level_of" ["text"] (sp_level_of A)) : CalF P w K mg base (L2.CX P w) 4 "spin_of" ["name", "level"] (sp_spin_of A) := by
  obtain ⟨f_Spin_init, fd_Spin_init, G_Spin_init, M_Spin, b_Spin_init⟩ := c_Spin_init
  obtain ⟨f_level_of, fd_level_of, G_level_of, mg_level_of, kp_level_of, b_level_of⟩ := c_level_of
  obtain ⟨f, fd, F, gF⟩ := F0
  refine ⟨f, fd, ?_, gF, F.kp, F.binds (ps := ["name", "level"]) fun _ _ _ _ _ _ us hl => match us, hl with | [_, _], _ => rfl⟩
  refine F.okX sc_spin_of (fun vs H Q E h => by first | (obtain ⟨rfl, _⟩ := h; rfl) | (obtain ⟨_, rfl, _⟩ := h; rfl) | (obtain ⟨_, _, rfl, _⟩ := h; rfl) | (obtain ⟨_, _, _, rfl, _⟩ := h; rfl) | (obtain ⟨_, _, _, _, rfl, _⟩ := h; rfl) | (obtain ⟨_, _, _, _, _, rfl, _⟩ := h; rfl) | (obtain ⟨_, _, _, _, _, _, rfl, _⟩ := h; rfl) | (obtain ⟨_, _, _, _, _, _, _, rfl, _⟩ := h; rfl) | (obtain ⟨_, _, _, _, _, _, _, _, rfl, _⟩ := h; rfl) | (obtain ⟨_, _, _, _, _, _, _, _, _, rfl, _⟩ := h; rfl) | (obtain ⟨_, _, _, _, _, _, _, _, _, _, rfl, _⟩ := h; rfl)) (fun cdv AA outer s H vs Q E hr h => ⟨_, (pss_cons (ps_set (i := 2) sc_spin_of.nd rfl (Or.inl rfl) pe_int)
      (pss_cons (ps_set (i := 3) sc_spin_of.nd rfl (Or.inl rfl) pe_int)
      (Evl.pss_cut (ps_if (pt_val (pe_m1 PySem.F.slot_str_startswith PySem.F.type_str_startswith mt_startswith (pv 0) pe_str)) (pss_cons (ps_set (i := 2) sc_spin_of.nd rfl (Or.inl rfl) pe_int)
      (pss_one (ps_set (i := 0) sc_spin_of.nd rfl (Or.inl rfl) (pe_slice sl_str (pv 0) (po_some pe_int) po_none)))) pss_nil)
      (Evl.pss_cut (ps_if (PW.pt (pw_and (pt_val (pe_m1 PySem.F.slot_str_startswith PySem.F.type_str_startswith mt_startswith (pv 0) pe_str)) (pw_and1 (pt_cmpR op_kniN (pv 0) (pe_globR T.k_POSITIONS.1) (by rfl))))) (pss_cons (ps_set (i := 3) sc_spin_of.nd rfl (Or.inl rfl) pe_int)
      (pss_one (ps_set (i := 0) sc_spin_of.nd rfl (Or.inl rfl) (pe_slice sl_str (pv 0) (po_some pe_int) po_none)))) pss_nil)
      (pss_cons (ps_if (pt_cmpR op_kniN (pv 0) (pe_globR T.k_POSITIONS.1) (by rfl)) (pss_one (ps_raise rfl (takes_of rfl rfl rfl rfl) (pmk_own0 PySem.F.excBase_Exception T.x_DoesNotFit T.g_DoesNotFit T.k_DoesNotFit (raises_own T.s_DoesNotFit T.t_DoesNotFit) (by exact rfl)))) pss_nil)
      (pss_one (ps_ret (pe_make M_Spin G_Spin_init (hr.mono (by decide)) rfl T.g_Spin b_Spin_init .nil pass0 (pa_cons (pe_ix ix_kdict (pe_globR T.k_POSITIONS.1) (pv 0) (fun _ _ => rfl)) (pa_cons (pv 2) (pa_cons (pv 3) (pa_cons (pe_call G_level_of (hr.mono (by decide)) rfl mg_level_of kp_level_of b_level_of .nil (passes_call (takes_of rfl rfl rfl rfl) (fun _ _ _ _ h => h)) (pa_cons (pv 1) pa_nil)) pa_nil)))))))))))), ?_⟩)
  obtain ⟨a, b, rfl, h40, k, e⟩ := h
  have W := T.k_POSITIONS.2
  rw [pos_is] at W
  have sF : (spinF a).1.length ≤ 40 := by
    unfold spinF
    split
    · rw [List.length_drop]; omega
    · exact h40
  refine ⟨fun σ' H' => σ' = [some (.str (mk (spinF a).1)), some (.str (mk b)), some (.int ((spinF a).2 : Int)), some (.int 0)] ∧ H' = H, ?_, ?_⟩
  · refine ⟨_, rfl, ⟨_, rfl⟩, _, _, rfl, rfl, _, rfl, ?_⟩
    rw [lit_F, tsw]
    unfold spinF
    cases hs : Kg56.startsWith [70] a with
    | true =>
      refine ⟨_, rfl, _, rfl, _, rfl, sz40 h40, ?_⟩
      have e1 : cutS (mk a) (some 1) none = mk (a.drop 1) := cut_from a 1
      rw [e1]
      exact ⟨rfl, rfl⟩
    | false => exact ⟨rfl, rfl⟩
  · rintro σ' H' ⟨rfl, rfl⟩
    generalize hF : spinF a = fa at sF
    have hl := look_mk POST fa.1
    refine ⟨fun σ' H2 => σ' = [some (.str (mk (spinC fa.1).1)), some (.str (mk b)), some (.int (fa.2 : Int)), some (.int ((spinC fa.1).2 : Int))] ∧ H2 = H', ?_, ?_⟩
    · refine ⟨_, rfl, ⟨_, rfl⟩, _, _, rfl, rfl, _, rfl, ?_⟩
      rw [lit_C, tsw]
      unfold spinC
      cases hs : Kg56.startsWith [67] fa.1 with
      | true =>
        refine ⟨_, rfl, _, _, _, rfl, rfl, W, _, rfl, ?_⟩
        rw [hl]
        cases hn : lookT POST fa.1 with
        | none =>
          refine ⟨_, rfl, _, rfl, _, rfl, sz40 sF, ?_⟩
          have e1 : cutS (mk fa.1) (some 1) none = mk (fa.1.drop 1) := cut_from fa.1 1
          rw [e1]
          exact ⟨rfl, rfl⟩
        | some n => exact ⟨rfl, rfl⟩
      | false => exact ⟨rfl, rfl⟩
    · rintro σ' H2 ⟨rfl, rfl⟩
      have hl2 := look_mk POST (spinC fa.1).1
      have sp : spinM a = (lookT POST (spinC fa.1).1).map fun p => (p, fa.2, (spinC fa.1).2) := by rw [← hF]; rfl
      generalize hC : spinC fa.1 = ca at hl2 sp
      refine ⟨_, rfl, _, _, _, rfl, rfl, W, _, rfl, ?_⟩
      rw [hl2]
      cases hn : lookT POST ca.1 with
      | none =>
        rw [hn] at sp
        exact e (.inl sp) _ (Evl.Ex.refl _)
      | some p =>
        rw [hn] at sp
        refine ⟨_, rfl, _, _, _, rfl, rfl, W.kd (v := (p : Int)) (by rw [hl2, hn] <;> rfl), _, rfl, _, rfl, _, rfl, ?_⟩
        refine ⟨b, rfl, fun l hl => ?_, fun hl => e (.inr hl) _ (Evl.Ex.refl _)⟩
        obtain ⟨b1, b2, b3, _⟩ := spin_name sp
        have hl5 := (level_signs hl).2
        intro x dx nx nd ne
        refine ⟨p, fa.2, ca.2, l, ⟨b1, b2, b3, hl5⟩, made0 (vs := [_, _, _, _]) nx nd (fun H3 e3 h3 => ⟨rfl, ?_⟩)⟩
        exact k _ l sp hl _ H3 e3 ⟨x, dx, rfl, nw_of nx h3⟩
theorem ok_jump_of (T : Txt K w mg A) (F0 : FunF K mg "jump_of" st_jump_of)
    (c_Jump_init : CalI P w K mg base CX0 3 A.cJump ["self", "kind", "turns", "edge", "missing"] (sp_Jump_init A))
    (c_without_ending : CalF P w K mg base CX0 1 "without_ending" ["text", "endings"] (sp_without_ending K)) : CalF P w K mg base (L2.CX P w) 5 "jump_of" ["text"] (sp_jump_of A) := by
  obtain ⟨f_Jump_init, fd_Jump_init, G_Jump_init, M_Jump, b_Jump_init⟩ := c_Jump_init
  obtain ⟨f_without_ending, fd_without_ending, G_without_ending, mg_without_ending, kp_without_ending, b_without_ending⟩ := c_without_ending
  obtain ⟨f, fd, F, gF⟩ := F0
  refine ⟨f, fd, ?_, gF, F.kp, F.binds (ps := ["text"]) fun _ _ _ _ _ _ us hl => match us, hl with | [_], _ => rfl⟩
  refine F.okX sc_jump_of (fun vs H Q E h => by first | (obtain ⟨rfl, _⟩ := h; rfl) | (obtain ⟨_, rfl, _⟩ := h; rfl) | (obtain ⟨_, _, rfl, _⟩ := h; rfl) | (obtain ⟨_, _, _, rfl, _⟩ := h; rfl) | (obtain ⟨_, _, _, _, rfl, _⟩ := h; rfl) | (obtain ⟨_, _, _, _, _, rfl, _⟩ := h; rfl) | (obtain ⟨_, _, _, _, _, _, rfl, _⟩ := h; rfl) | (obtain ⟨_, _, _, _, _, _, _, rfl, _⟩ := h; rfl) | (obtain ⟨_, _, _, _, _, _, _, _, rfl, _⟩ := h; rfl) | (obtain ⟨_, _, _, _, _, _, _, _, _, rfl, _⟩ := h; rfl) | (obtain ⟨_, _, _, _, _, _, _, _, _, _, rfl, _⟩ := h; rfl)) (fun cdv AA outer s H vs Q E hr h => ⟨_, (pss_cons (ps_if (pt_cmpR op_eq (pv 0) pe_str (nomark _)) (pss_one (ps_ret (pe_make M_Jump G_Jump_init (hr.mono (by decide)) rfl T.g_Jump b_Jump_init .nil pass0 (pa_cons (pe_globI T.k_SMALL) (pa_cons pe_int (pa_cons pe_int (pa_cons pe_int pa_nil))))))) pss_nil)
      (pss_cons (ps_asg (pe_call G_without_ending (hr.mono (by decide)) rfl mg_without_ending kp_without_ending b_without_ending .nil pass0 (pa_cons (pv 0) (pa_cons (pe_tup (pa_cons (pe_tup (pa_cons pe_str (pa_cons (pe_globI T.k_HALF_MISSING) pa_nil))) (pa_cons (pe_tup (pa_cons pe_str (pa_cons (pe_globI T.k_MORE_MISSING) pa_nil))) (pa_cons (pe_tup (pa_cons pe_str (pa_cons (pe_globI T.k_QUARTER_MISSING) pa_nil))) pa_nil)))) pa_nil))) (pg_tup rfl (pgs_cons (pg_name (i := 0) sc_jump_of.nd rfl (Or.inl rfl)) (pgs_cons (pg_name (i := 1) sc_jump_of.nd rfl (Or.inl rfl)) pgs_nil))))
      (pss_cons (ps_asg (pe_call G_without_ending (hr.mono (by decide)) rfl mg_without_ending kp_without_ending b_without_ending .nil pass0 (pa_cons (pv 0) (pa_cons (pe_tup (pa_cons (pe_tup (pa_cons pe_str (pa_cons (pe_globI T.k_WRONG_EDGE) pa_nil))) (pa_cons (pe_tup (pa_cons pe_str (pa_cons (pe_globI T.k_DOUBTED_EDGE) pa_nil))) pa_nil))) pa_nil))) (pg_tup rfl (pgs_cons (pg_name (i := 0) sc_jump_of.nd rfl (Or.inl rfl)) (pgs_cons (pg_name (i := 2) sc_jump_of.nd rfl (Or.inl rfl)) pgs_nil))))
      (pss_cons (ps_set (i := 3) sc_jump_of.nd rfl (Or.inl rfl) (pe_slice sl_str (pv 0) po_none (po_some pe_int)))
      (pss_cons (ps_set (i := 4) sc_jump_of.nd rfl (Or.inl rfl) (pe_slice sl_str (pv 0) (po_some pe_int) po_none))
      (pss_cons (ps_if (PW.pt (pw_or (pt_cmpR op_kniN (pv 3) (pe_globR T.k_TURNS.1) (by rfl)) (pw_or1 (pt_cmpR op_kniN (pv 4) (pe_globR T.k_KINDS.1) (by rfl))))) (pss_one (ps_raise rfl (takes_of rfl rfl rfl rfl) (pmk_own0 PySem.F.excBase_Exception T.x_DoesNotFit T.g_DoesNotFit T.k_DoesNotFit (raises_own T.s_DoesNotFit T.t_DoesNotFit) (by exact rfl)))) pss_nil)
      (pss_cons (ps_if (PW.pt (pw_and (pt_cmpR op_ne (pv 2) pe_int (nomark _)) (pw_and1 (pt_cmpR op_notIn_seq (pv 4) (pe_tup (pa_cons pe_str (pa_cons pe_str pa_nil))) (by rfl))))) (pss_one (ps_raise rfl (takes_of rfl rfl rfl rfl) (pmk_own0 PySem.F.excBase_Exception T.x_DoesNotFit T.g_DoesNotFit T.k_DoesNotFit (raises_own T.s_DoesNotFit T.t_DoesNotFit) (by exact rfl)))) pss_nil)
      (pss_one (ps_ret (pe_make M_Jump G_Jump_init (hr.mono (by decide)) rfl T.g_Jump b_Jump_init .nil pass0 (pa_cons (pe_ix ix_kdict (pe_globR T.k_KINDS.1) (pv 4) (fun _ _ => rfl)) (pa_cons (pe_ix ix_kdict (pe_globR T.k_TURNS.1) (pv 3) (fun _ _ => rfl)) (pa_cons (pv 2) (pa_cons (pv 1) pa_nil)))))))))))))), ?_⟩)
  obtain ⟨t, rfl, h40, k, e⟩ := h
  refine ⟨_, rfl, rfl, _, rfl, ?_⟩
  rw [lit_eu]
  by_cases c : t = [69, 117]
  · refine t_yes (sT (by rw [c])) ?_
    intro x dx nx nd ne
    refine ⟨⟨6, 1, 0, 0⟩, .inr rfl, made0 (vs := [.int 6, .int 1, .int 0, .int 0]) nx nd (fun H3 e3 h3 => ⟨rfl, ?_⟩)⟩
    exact k ⟨6, 1, 0, 0⟩ (by rw [c]; rfl) _ H3 e3 ⟨x, dx, rfl, nw_of nx h3⟩
  · refine t_no (sF fun q => c (mk_inj q)) ?_
    have jm : jumpM t = (match lookT TURNST ((woE (woE t MISST).1 EDGET).1.take 1), lookT KT ((woE (woE t MISST).1 EDGET).1.drop 1) with
      | some d, some k => if (woE (woE t MISST).1 EDGET).2 ≠ 0 ∧ ¬ ((woE (woE t MISST).1 EDGET).1.drop 1 = [70] ∨ (woE (woE t MISST).1 EDGET).1.drop 1 = [76, 122]) then none else some ⟨k, d, (woE (woE t MISST).1 EDGET).2, (woE t MISST).2⟩
      | _, _ => none) := by
      unfold jumpM
      rw [if_neg c] <;> rfl
    have wl : ∀ (t : List Nat) (l : List (List Nat × Nat)), t.length ≤ 40 → (woE t l).1.length ≤ 40 := by
      intro t l
      induction l with
      | nil => exact fun h => h
      | cons p l ih =>
        intro h
        unfold woE
        split
        · rw [List.length_take]; omega
        · exact ih h
    -- the endings of what's missing
    refine ⟨_, rfl, by show 2 ≤ sizeLine; decide, fun p1 hp1 => ?_⟩
    refine ⟨by show 2 ≤ sizeLine; decide, fun p2 hp2 => ?_⟩
    refine ⟨by show 2 ≤ sizeLine; decide, fun p3 hp3 => ?_⟩
    refine ⟨by show 3 ≤ sizeLine; decide, fun p4 hp4 => ?_⟩
    have x1 := Ex.one (o := .tup [.str (Str.ofString "<<"), .int 3]) hp1
    have x2 := Ex.one (o := .tup [.str (Str.ofString "<"), .int 2]) hp2
    have x3 := Ex.one (o := .tup [.str (Str.ofString "q"), .int 1]) hp3
    have x4 := Ex.one (o := .tup [.ref p1, .ref p2, .ref p3]) hp4
    refine ⟨t, p4, _, MISST, rfl, h40, SqT.of upd_same, ?_, by decide, fun q1 H1 hq1 e1 h1 => ?_⟩
    · refine .cons ⟨p1, rfl, SqT.of ?_⟩ (.cons ⟨p2, rfl, SqT.of ?_⟩ (.cons ⟨p3, rfl, SqT.of ?_⟩ .nil))
      · rw [((x2.trans x3).trans x4) _ _ upd_same, lit_ll] <;> rfl
      · rw [(x3.trans x4) _ _ upd_same, lit_l] <;> rfl
      · rw [x4 _ _ upd_same, lit_q] <;> rfl
    · have y1 := (((x1.trans x2).trans x3).trans x4).trans e1
      refine ⟨q1, _, rfl, SqT.of h1, rfl, _, _, rfl, _, _, rfl, rfl, ?_⟩
      refine ⟨_, rfl, by show 2 ≤ sizeLine; decide, fun p5 hp5 => ?_⟩
      refine ⟨by show 2 ≤ sizeLine; decide, fun p6 hp6 => ?_⟩
      refine ⟨by show 2 ≤ sizeLine; decide, fun p7 hp7 => ?_⟩
      have x5 := Ex.one (o := .tup [.str (Str.ofString "e"), .int 1]) hp5
      have x6 := Ex.one (o := .tup [.str (Str.ofString "!"), .int 2]) hp6
      have x7 := Ex.one (o := .tup [.ref p5, .ref p6]) hp7
      refine ⟨(woE t MISST).1, p7, _, EDGET, rfl, wl t _ h40, SqT.of upd_same, ?_, by decide, fun q2 H2 hq2 e2 h2 => ?_⟩
      · refine .cons ⟨p5, rfl, SqT.of ?_⟩ (.cons ⟨p6, rfl, SqT.of ?_⟩ .nil)
        · rw [(x6.trans x7) _ _ upd_same, lit_e] <;> rfl
        · rw [x7 _ _ upd_same, lit_x] <;> rfl
      · have y2 := y1.trans (((x5.trans x6).trans x7).trans e2)
        refine ⟨q2, _, rfl, SqT.of h2, rfl, _, _, rfl, _, _, rfl, rfl, ?_⟩
        have wl2 := wl _ EDGET (wl t MISST h40)
        generalize hA : woE t MISST = aa at jm h2 wl2
        generalize hB : woE aa.1 EDGET = bb at jm h2 wl2
        refine ⟨_, rfl, _, rfl, _, rfl, sz40 wl2, ?_⟩
        refine ⟨_, rfl, _, rfl, _, rfl, sz40 wl2, ?_⟩
        have c1 : cutS (mk bb.1) none (some 1) = mk (bb.1.take 1) := cut_to bb.1 1
        have c2 : cutS (mk bb.1) (some 1) none = mk (bb.1.drop 1) := cut_from bb.1 1
        rw [c1, c2]
        have W1 := T.k_TURNS.2
        rw [turns_is] at W1
        have l1 := look_mk TURNST (bb.1.take 1)
        have W2 := T.k_KINDS.2
        rw [kinds_is] at W2
        have l2 := look_mk KT (bb.1.drop 1)
        refine ⟨_, rfl, _, _, _, rfl, rfl, W1, _, rfl, ?_⟩
        rw [l1]
        cases hd : lookT TURNST (bb.1.take 1) with
        | none =>
          rw [hd] at jm
          exact e (by rw [jm]) H2 y2
        | some d =>
          refine ⟨_, rfl, _, _, _, rfl, rfl, W2, _, rfl, ?_⟩
          rw [l2]
          cases hk : lookT KT (bb.1.drop 1) with
          | none =>
            rw [hd, hk] at jm
            exact e (by rw [jm]) H2 y2
          | some kd =>
            rw [hd, hk] at jm
            simp only at jm
            have fin : jumpM t = some ⟨kd, d, bb.2, aa.2⟩ → ∀ H3, Ex H2 H3 → ∀ x dx, H3 x = none → H3 dx = none → dx ≠ x → sp_Jump_init A (.ref x :: ([.int (kd : Int), .int (d : Int), .int (bb.2 : Int), .int (aa.2 : Int)] ++ [])) (upd (upd H3 dx (.own x)) x (.ins A.cJump dx [])) (fun v H4 => v = .non ∧ Q (.ref x) H4) E0 := by
              intro hj H3 e3 x dx nx nd ne
              refine ⟨⟨kd, d, bb.2, aa.2⟩, (jumpM_fwd hj).ok, made0 (vs := [.int (kd : Int), .int (d : Int), .int (bb.2 : Int), .int (aa.2 : Int)]) nx nd (fun H4 e4 h4 => ⟨rfl, ?_⟩)⟩
              exact k _ hj _ H4 ((y2.trans e3).trans e4) ⟨x, dx, rfl, nw_of (Evl.fresh_back (y2.trans e3) nx) h4⟩
            have kdd : ∀ {H3 : Hp}, _ := fun {H3 : Hp} => W2.kd (x := mk (bb.1.drop 1)) (v := (kd : Int)) (by rw [l2, hk] <;> rfl)
            have tdd : ∀ {H3 : Hp}, _ := fun {H3 : Hp} => W1.kd (x := mk (bb.1.take 1)) (v := (d : Int)) (by rw [l1, hd] <;> rfl)
            refine ⟨_, rfl, rfl, _, rfl, ?_⟩
            by_cases c0 : bb.2 = 0
            · refine t_no (nT (iT (by omega))) ?_
              refine ⟨_, rfl, _, _, _, rfl, rfl, kdd (H3 := H2), _, rfl, _, _, _, rfl, rfl, tdd (H3 := H2), _, rfl, _, rfl, ?_⟩
              exact fin (by rw [jm, if_neg (by intro q; exact q.1 c0)]) H2 (Evl.Ex.refl H2)
            · refine t_yes (nF (iF (by omega))) ?_
              refine ⟨_, rfl, by show 2 ≤ sizeLine; decide, fun p8 hp8 => ?_⟩
              have x8 := Ex.one (o := .tup [.str (Str.ofString "F"), .str (Str.ofString "Lz")]) hp8
              refine ⟨p8, _, rfl, .inr (SqT.of upd_same), rfl, rfl, _, rfl, ?_⟩
              have ei : inV (.str (mk (bb.1.drop 1))) [V.str (Str.ofString "F"), V.str (Str.ofString "Lz")] = decide (bb.1.drop 1 = [70] ∨ bb.1.drop 1 = [76, 122]) := by
                show ((Str.ofString "F" == mk (bb.1.drop 1)) || ((Str.ofString "Lz" == mk (bb.1.drop 1)) || false)) = _
                rw [lit_F, lit_Lz]
                by_cases q1 : bb.1.drop 1 = [70]
                · rw [q1]; rfl
                · by_cases q3 : bb.1.drop 1 = [76, 122]
                  · rw [q3]; rfl
                  · rw [beq_eq_false_iff_ne.mpr (fun z => q1 (mk_inj z).symm), beq_eq_false_iff_ne.mpr (fun z => q3 (mk_inj z).symm), decide_eq_false (by intro z; rcases z with z | z; exact q1 z; exact q3 z)]
                    rfl
              show if (!inV (.str (mk (bb.1.drop 1))) [V.str (Str.ofString "F"), V.str (Str.ofString "Lz")]) = true then _ else _
              rw [ei]
              by_cases q : bb.1.drop 1 = [70] ∨ bb.1.drop 1 = [76, 122]
              · refine t_no (nT (decide_eq_true q)) ?_
                refine ⟨_, rfl, _, _, _, rfl, rfl, kdd (H3 := H2), _, rfl, _, _, _, rfl, rfl, tdd (H3 := H2), _, rfl, _, rfl, ?_⟩
                exact fin (by rw [jm, if_neg (by intro z; exact z.2 q)]) _ x8
              · refine t_yes (nF (decide_eq_false q)) ?_
                exact e (by rw [jm, if_pos ⟨c0, q⟩]) _ (y2.trans x8)
theorem ok_text_of (T : Txt K w mg A) (F0 : FunF K mg "text_of" st_text_of) : CalF P w K mg base (L2.CX P w) 1 "text_of" ["numbers"] (sp_text_of K A) := by
  obtain ⟨f, fd, F, gF⟩ := F0
  refine ⟨f, fd, ?_, gF, F.kp, F.binds (ps := ["numbers"]) fun _ _ _ _ _ _ us hl => match us, hl with | [_], _ => rfl⟩
  refine F.okX sc_text_of (fun vs H Q E h => by first | (obtain ⟨rfl, _⟩ := h; rfl) | (obtain ⟨_, rfl, _⟩ := h; rfl) | (obtain ⟨_, _, rfl, _⟩ := h; rfl) | (obtain ⟨_, _, _, rfl, _⟩ := h; rfl) | (obtain ⟨_, _, _, _, rfl, _⟩ := h; rfl) | (obtain ⟨_, _, _, _, _, rfl, _⟩ := h; rfl) | (obtain ⟨_, _, _, _, _, _, rfl, _⟩ := h; rfl) | (obtain ⟨_, _, _, _, _, _, _, rfl, _⟩ := h; rfl) | (obtain ⟨_, _, _, _, _, _, _, _, rfl, _⟩ := h; rfl) | (obtain ⟨_, _, _, _, _, _, _, _, _, rfl, _⟩ := h; rfl) | (obtain ⟨_, _, _, _, _, _, _, _, _, _, rfl, _⟩ := h; rfl)) (fun cdv AA outer s H vs Q E hr h => ⟨_, (pss_cons (ps_set (i := 1) sc_text_of.nd rfl (Or.inl rfl) pe_dnewK)
      (Evl.pss_cut (ps_for (passes_of rfl) rfl (pi_str (pe_globS T.k_SIGNS)) (pg_name (i := 2) sc_text_of.nd rfl (Or.inl rfl)) (pss_one (ps_dput (hu_of hr) (pv 1) (pe_callB call_ord (by rfl) T.b_ord (by decide +kernel) (pa_cons (pv 2) pa_nil)) (pv 2) rfl)))
      (pss_cons (ps_set (i := 3) sc_text_of.nd rfl (Or.inl rfl) (pe_lst pa_nil))
      (pss_cons (ps_for (passes_of rfl) rfl (pi_list (pv 0)) (pg_name (i := 4) sc_text_of.nd rfl (Or.inl rfl)) (pss_cons (ps_if (pt_cmp (pc_dnotin (hu_of hr) (pv 4) (pv 1))) (pss_one (ps_raise rfl (takes_of rfl rfl rfl rfl) (pmk_own0 PySem.F.excBase_Exception T.x_DoesNotFit T.g_DoesNotFit T.k_DoesNotFit (raises_own T.s_DoesNotFit T.t_DoesNotFit) (by exact rfl)))) pss_nil)
      (pss_one (ps_expr (pe_bm PySem.F.plainAttrs_list PySem.F.slot_list_append PySem.F.type_list_append mt_append (pv 3) (pa_cons (pe_dget (hu_of hr) (pv 1) (pv 4) (fun _ _ => rfl)) pa_nil))))))
      (pss_one (ps_ret (pe_join pe_str (pv 3)))))))), ?_⟩)
  obtain ⟨a, ns, rfl, hS, h40, hby, k, e⟩ := h
  intro d hd
  have ex0 := Ex.one (o := .dK []) hd
  refine ⟨fun σ' H' => ∃ v, σ' = [some (.ref a), some (.ref d), v, none, none] ∧ Ex H H' ∧ H' d = some (.dK (kvsS SIGNST)), ?_, ?_⟩
  · refine ⟨_, rfl, ?_⟩
    refine for_strL (fun i σ H' => ∃ v, σ = [some (.ref a), some (.ref d), v, none, none] ∧ Ex H H' ∧ H' d = some (.dK (kvsS (SIGNST.take i)))) ⟨none, rfl, ex0, by rw [List.take_zero]; exact upd_same⟩ ?_ ?_
    · rintro i c σ H' hc ⟨v, rfl, e5, h1⟩
      have hc' : SIGNST[i]? = some c := by
        rw [lit_signs] at hc
        simpa using hc
      have hnd : c ∉ SIGNST.take i := by
        have nd : SIGNST.Nodup := by decide
        intro hm
        obtain ⟨j, hj⟩ := List.mem_iff_getElem?.mp hm
        have hji : j < i := by
          have := (List.getElem?_eq_some_iff.mp hj).1
          rw [List.length_take] at this
          omega
        rw [List.getElem?_take_of_lt hji] at hj
        have := nd_ix nd hj hc'
        omega
      refine ⟨_, rfl, _, rfl, _, rfl, _, rfl, rfl, d, _, rfl, DPut.k (k := (.inl (c : Int))) h1 ?_, ?_⟩
      · unfold kvsS
        rw [List.length_map, List.length_take]
        exact Nat.lt_of_le_of_lt (m := 24) (by have : SIGNST.length = 24 := by decide
                                               omega) (by decide)
      · refine ⟨_, rfl, fun q o e => ?_, ?_⟩
        · rw [upd_ne (ne_of_none e hd)]
          exact e5 q o e
        · rw [upd_same, take_more hc']
          exact congrArg (fun z => some (HO.dK z)) (kvsS_put hnd)
    · rintro σ H' ⟨v, rfl, e5, h1⟩
      refine ⟨v, rfl, e5, ?_⟩
      rw [h1]
      have : (Str.ofString "!+1234<ABCEFLSTUehopqtuz").cps.size = 24 := by decide +kernel
      rw [this]
      rfl
  · rintro σ' H1 ⟨v, rfl, e1, h1⟩
    refine ⟨Nat.zero_le _, fun f0 hf0 => ?_⟩
    have ex1 := Ex.one (o := .lst []) hf0
    have hf1 : H f0 = none := Evl.fresh_back e1 hf0
    refine ⟨_, rfl, a, rfl, ⟨_, Evl.ex_l (e1.trans ex1) hS⟩, for_list (K := K) (a := a) (xs := ns.map V.int) (fun i σ H' => ∃ v4, σ = [some (.ref a), some (.ref d), v, some (.ref f0), v4] ∧ Ex H H' ∧ H' d = some (.dK (kvsS SIGNST)) ∧
        H' f0 = some (.lst (((Kg56.nats (ns.take i)).map fun c => mk [c]).map V.str)) ∧ (∀ c ∈ Kg56.nats (ns.take i), c ∈ SIGNST))
      ⟨none, rfl, e1.trans ex1, ex1 _ _ h1, upd_same, by intro c hc; cases hc⟩ (fun i σ H' _ ⟨_, _, e5, _⟩ => Evl.ex_l e5 hS) ?_ ?_⟩
    · rintro i y σ H' hi ⟨v4, rfl, e5, q1, q2, q3⟩
      obtain ⟨n, hn, rfl⟩ := map_get hi
      have hb := hby n (List.mem_of_getElem? hn)
      have hval := kvsS_val SIGNST n
      refine ⟨_, rfl, _, rfl, d, _, rfl, DGet.k (k := (.inl n)) q1, _, rfl, ?_⟩
      rw [hval]
      by_cases hm : n.toNat ∈ SIGNST
      · have hcc : 0 ≤ n ∧ n.toNat ∈ SIGNST := ⟨hb.1, hm⟩
        rw [if_pos hcc] at hval ⊢
        refine ⟨_, rfl, .inl ⟨rfl, _, SqL.of q2⟩, _, rfl, _, rfl, d, .str (mk [n.toNat]), rfl, ?_, f0, _, _, rfl, rfl, q2, ?_, ?_⟩
        · have := DGet.k (k := (.inl n)) q1
          rw [hval] at this
          exact this
        · rw [List.length_map, List.length_map]
          unfold Kg56.nats
          rw [List.length_map, List.length_take]
          exact Nat.lt_of_le_of_lt (m := 40) (by omega) (by decide)
        · have tk := take_more hn
          refine ⟨_, rfl, fun q o e => ?_, ?_, ?_, ?_⟩
          · rw [upd_ne (ne_of_none e hf1)]
            exact e5 q o e
          · rw [upd_ne (ne_of q1 q2 (by intro z; cases z))]
            exact q1
          · rw [upd_same, tk]
            unfold Kg56.nats
            simp
          · intro c hc
            rw [tk] at hc
            unfold Kg56.nats at hc q3
            rw [List.map_append] at hc
            rcases List.mem_append.mp hc with hc | hc
            · exact q3 c hc
            · have : c = n.toNat := by simpa using hc
              rw [this]
              exact hm
      · rw [if_neg (fun z => hm z.2)]
        refine e (fun hall => hm (hall _ ?_)) H' e5
        unfold Kg56.nats
        exact List.mem_map.mpr ⟨n, List.mem_of_getElem? hn, rfl⟩
    · rintro σ H' ⟨v4, rfl, e5, q1, q2, q3⟩
      rw [List.length_map, List.take_length] at q2 q3
      refine ⟨⟨_, rfl⟩, _, rfl, _, f0, _, rfl, rfl, .inl (SqL.of q2), ?_, ?_⟩
      · have hl : ∀ l : List Nat, ((l.map fun c => mk [c]).map (·.length)).sum = l.length := by
          intro l
          induction l with
          | nil => rfl
          | cons c l ih => rw [List.map_cons, List.map_cons, List.sum_cons, ih, mk_len]; simp; omega
        have h0 : (Str.ofString "").length = 0 := by decide +kernel
        rw [hl, h0, Nat.mul_zero, Nat.add_zero]
        unfold Kg56.nats
        rw [List.length_map]
        omega
      · rw [tjoin]
        exact k q3 H' e5
theorem ok_element_of (T : Txt K w mg A) (F0 : FunF K mg "element_of" st_element_of)
    (c_text_of : CalF P w K mg base (L2.CX P w) 1 "text_of" ["numbers"] (sp_text_of K A))
    (c_OtherSteps_init : CalI P w K mg base CX0 1 A.cOtherSteps ["self"] (sp_OtherSteps_init A))
    (c_Steps_init : CalI P w K mg base CX0 2 A.cSteps ["self", "level"] (sp_Steps_init A))
    (c_level_of : CalF P w K mg base (L2.CX P w) 1 "level_of" ["text"] (sp_level_of A))
    (c_spin_of : CalF P w K mg base (L2.CX P w) 4 "spin_of" ["name", "level"] (sp_spin_of A))
    (c_jumps_of : CalF P w K mg base (L2.CX P w) 6 "jumps_of" ["text"] (sp_jumps_of A)) : CalF P w K mg base (L2.CX P w) 7 "element_of" ["numbers"] (sp_element_of K A) := by
  obtain ⟨f_text_of, fd_text_of, G_text_of, mg_text_of, kp_text_of, b_text_of⟩ := c_text_of
  obtain ⟨f_OtherSteps_init, fd_OtherSteps_init, G_OtherSteps_init, M_OtherSteps, b_OtherSteps_init⟩ := c_OtherSteps_init
  obtain ⟨f_Steps_init, fd_Steps_init, G_Steps_init, M_Steps, b_Steps_init⟩ := c_Steps_init
  obtain ⟨f_level_of, fd_level_of, G_level_of, mg_level_of, kp_level_of, b_level_of⟩ := c_level_of
  obtain ⟨f_spin_of, fd_spin_of, G_spin_of, mg_spin_of, kp_spin_of, b_spin_of⟩ := c_spin_of
  obtain ⟨f_jumps_of, fd_jumps_of, G_jumps_of, mg_jumps_of, kp_jumps_of, b_jumps_of⟩ := c_jumps_of
  obtain ⟨f, fd, F, gF⟩ := F0
  refine ⟨f, fd, ?_, gF, F.kp, F.binds (ps := ["numbers"]) fun _ _ _ _ _ _ us hl => match us, hl with | [_], _ => rfl⟩
  refine F.okX sc_element_of (fun vs H Q E h => by first | (obtain ⟨rfl, _⟩ := h; rfl) | (obtain ⟨_, rfl, _⟩ := h; rfl) | (obtain ⟨_, _, rfl, _⟩ := h; rfl) | (obtain ⟨_, _, _, rfl, _⟩ := h; rfl) | (obtain ⟨_, _, _, _, rfl, _⟩ := h; rfl) | (obtain ⟨_, _, _, _, _, rfl, _⟩ := h; rfl) | (obtain ⟨_, _, _, _, _, _, rfl, _⟩ := h; rfl) | (obtain ⟨_, _, _, _, _, _, _, rfl, _⟩ := h; rfl) | (obtain ⟨_, _, _, _, _, _, _, _, rfl, _⟩ := h; rfl) | (obtain ⟨_, _, _, _, _, _, _, _, _, rfl, _⟩ := h; rfl) | (obtain ⟨_, _, _, _, _, _, _, _, _, _, rfl, _⟩ := h; rfl)) (fun cdv AA outer s H vs Q E hr h => ⟨_, (pss_cons (ps_set (i := 1) sc_element_of.nd rfl (Or.inl rfl) (pe_call G_text_of (hr.mono (by decide)) rfl mg_text_of kp_text_of b_text_of .nil (passes_call (takes_of rfl rfl rfl rfl) (fun _ _ _ _ h => h)) (pa_cons (pv 0) pa_nil)))
      (pss_cons (ps_if (pt_cmpR op_eq (pv 1) pe_str (nomark _)) (pss_one (ps_ret (pe_make0 M_OtherSteps G_OtherSteps_init (hr.mono (by decide)) rfl T.g_OtherSteps b_OtherSteps_init .nil pass0))) pss_nil)
      (pss_cons (ps_if (pt_val (pe_m1 PySem.F.slot_str_startswith PySem.F.type_str_startswith mt_startswith (pv 1) pe_str)) (pss_one (ps_ret (pe_make M_Steps G_Steps_init (hr.mono (by decide)) rfl T.g_Steps b_Steps_init .nil pass0 (pa_cons (pe_call G_level_of (hr.mono (by decide)) rfl mg_level_of kp_level_of b_level_of .nil (passes_call (takes_of rfl rfl rfl rfl) (fun _ _ _ _ h => h)) (pa_cons (pe_slice sl_str (pv 1) (po_some pe_int) po_none) pa_nil)) pa_nil)))) pss_nil)
      (pss_cons (ps_asg (pe_partition (pv 1) pe_str) (pg_tup rfl (pgs_cons (pg_name (i := 2) sc_element_of.nd rfl (Or.inl rfl)) (pgs_cons (pg_name (i := 3) sc_element_of.nd rfl (Or.inl rfl)) (pgs_cons (pg_name (i := 4) sc_element_of.nd rfl (Or.inl rfl)) pgs_nil)))))
      (pss_cons (ps_if (pt_truth (pv 3) (by intro _; rfl)) (pss_one (ps_ret (pe_call G_spin_of (hr.mono (by decide)) rfl mg_spin_of kp_spin_of b_spin_of .nil (passes_call (takes_of rfl rfl rfl rfl) (fun _ _ _ _ h => h)) (pa_cons (pv 2) (pa_cons (pv 4) pa_nil))))) pss_nil)
      (pss_one (ps_ret (pe_call G_jumps_of (hr.mono (by decide)) rfl mg_jumps_of kp_jumps_of b_jumps_of .nil (passes_call (takes_of rfl rfl rfl rfl) (fun _ _ _ _ h => h)) (pa_cons (pv 1) pa_nil))))))))), ?_⟩)
  obtain ⟨a, ns, rfl, hS, h40, hby, k, e⟩ := h
  refine ⟨_, rfl, a, ns, rfl, hS, h40, hby, fun hall H1 e1 => ?_, fun hn H1 e1 => ?_⟩
  · have hl40 : (Kg56.nats ns).length ≤ 40 := by unfold Kg56.nats; rw [List.length_map]; exact h40
    rw [← elem_is] at k e
    generalize hT : Kg56.nats ns = t at k e hl40
    have un : elemM t = if t = [67, 104, 83, 113, 49] then some .choreo
      else if Kg56.startsWith [83, 116, 83, 113] t = true then (Kg56.level? (t.drop 4)).map .steps
      else match cut2 t with
        | some x => (match spinM x.1, Kg56.level? x.2 with
          | some y, some l => some (.spin (10 * y.2.1 + 5 * y.2.2 + y.1) l)
          | _, _ => none)
        | none => (jumpsM t).map .jumps := rfl
    refine ⟨_, rfl, rfl, _, rfl, ?_⟩
    rw [lit_ch]
    by_cases c : t = [67, 104, 83, 113, 49]
    · refine t_yes (sT (by rw [c])) ?_
      rw [if_pos c] at un
      intro x dx nx nd ne
      refine made0 (vs := []) nx nd (fun H3 e3 h3 => ⟨rfl, ?_⟩)
      exact k _ un _ H3 (e1.trans e3) ⟨x, dx, rfl, nw_of (Evl.fresh_back e1 nx) h3⟩
    · refine t_no (sF fun q => c (mk_inj q)) ?_
      rw [if_neg c] at un
      refine ⟨_, rfl, ⟨_, rfl⟩, _, _, rfl, rfl, _, rfl, ?_⟩
      rw [lit_st, tsw]
      cases hs : Kg56.startsWith [83, 116, 83, 113] t with
      | true =>
        rw [if_pos hs] at un
        refine ⟨_, rfl, _, rfl, _, rfl, sz40 hl40, ?_⟩
        have c4 : cutS (mk t) (some 4) none = mk (t.drop 4) := cut_from t 4
        rw [c4]
        refine ⟨t.drop 4, rfl, fun l hl => ?_, fun hl => ?_⟩
        · rw [hl] at un
          intro x dx nx nd ne
          refine ⟨l, (level_signs hl).2, made0 (vs := [_]) nx nd (fun H3 e3 h3 => ⟨rfl, ?_⟩)⟩
          exact k _ un _ H3 (e1.trans e3) ⟨x, dx, rfl, nw_of (Evl.fresh_back e1 nx) h3⟩
        · rw [hl] at un
          exact e un H1 e1
      | false =>
        rw [if_neg (by rw [hs]; decide)] at un
        refine ⟨_, rfl, ⟨_, rfl⟩, _, _, rfl, rfl, by decide +kernel, sz40 hl40, ?_⟩
        have tp := tpart t
        rw [← lit_sp] at tp
        generalize Txt.partition (mk t) (Str.ofString "Sp") = pt at tp ⊢
        intro p hp
        have xp := Ex.one (o := .tup [.str pt.1, .str pt.2.1, .str pt.2.2]) hp
        have e2 := e1.trans xp
        refine ⟨p, _, rfl, SqT.of upd_same, rfl, _, _, rfl, _, _, rfl, _, _, rfl, rfl, ?_⟩
        cases hc : cut2 t with
        | some x =>
          obtain ⟨xa, xb⟩ := x
          rw [hc] at un tp
          simp only at un tp
          subst tp
          have hxa : xa.length ≤ 40 := by
            have := congrArg List.length (cut2_some hc)
            rw [List.length_append] at this
            omega
          refine ⟨_, rfl, true, ⟨(by decide +kernel : (Str.ofString "Sp").length ≤ sizeLine), (by decide +kernel : true = (((Str.ofString "Sp").length : Int) != 0))⟩, ?_⟩
          refine ⟨_, rfl, _, rfl, ?_⟩
          refine ⟨xa, xb, rfl, hxa, fun y l hy hl v H3 e3 hE => ?_, fun hno H3 e3 => ?_⟩
          · rw [hy, hl] at un
            exact k _ un v H3 (e2.trans e3) (hE.mono (nw_mono e2 (Evl.Ex.refl _)))
          · refine e ?_ H3 (e2.trans e3)
            rw [un]
            rcases hno with h | h
            · rw [h]
            · rw [h]
              cases spinM xa <;> rfl
        | none =>
          rw [hc] at un tp
          simp only at un tp
          subst tp
          refine ⟨_, rfl, false, ⟨(by decide +kernel : Str.empty.length ≤ sizeLine), (by decide +kernel : false = ((Str.empty.length : Int) != 0))⟩, ?_⟩
          refine ⟨_, rfl, ?_⟩
          refine ⟨t, rfl, hl40, fun l hl v H3 e3 hE => ?_, fun hno H3 e3 => ?_⟩
          · rw [hl] at un
            exact k _ un v H3 (e2.trans e3) (hE.mono (nw_mono e2 (Evl.Ex.refl _)))
          · rw [hno] at un
            exact e un H3 (e2.trans e3)
  · refine e ?_ H1 e1
    rw [← elem_is]
    cases he : elemM (Kg56.nats ns) with
    | none => rfl
    | some el => exact absurd (elem_signs he).1 hn
end
end Sk
set_option maxHeartbeats 2000000
/-! # A list comprehension as a statement, whose element may let an error out -/
namespace Sk
open PySem PySem.Spec PyProof.Rows L2
section
variable {M : Model} {A : Around} {E : Value → Shared → Prop} {s0 : Shared} {env : Env}
/-- what is asked behind the block: of an end, the store; of an error, that it is passed on from the block's frame, which is the def's -/
def AfterX (M : Model) (A : Around) (E : Value → Shared → Prop) (u : Value → Sem Unit) (Q : Value → Shared → Prop) (acc : Value) (C : Addr) (fr : Option Addr) : Result → Shared → Prop
  | .ok _, s1 => wpAny M A (u acc) (fun _ s2 => ∃ m, s2.heap.Ns C m ∧ ∀ hp, Heap.SameBut C s2.heap hp → Q .none { s2 with heap := hp }) E s1
  | .error x, s1 => ∃ m, s1.heap.Ns C m ∧ ∀ hp, Heap.SameBut C s1.heap hp → ∀ ev : Env, ev.locals = C → ev.frame = fr → wpAny M A (PySem.passOn "comprehension.variables-let-go" x ev : Sem Value) (fun _ _ => False) E { s1 with heap := hp }
theorem comp_out {e : Expr} {scope : Scope} {pos : Pos} {mkAcc first : Sem Value} {g : Comprehension} {gs : List Comprehension} {cl : List (Str × Addr)} {u : Value → Sem Unit} {Q : Value → Shared → Prop}
    (k1 : clausesOf e = g :: gs) (k2 : ∀ x, foldedSetIterable g.iter env x = pure x) (k3 : closureFor scope env = pure cl) (k4 : scope.kind = .function)
    (k5 : ∀ x ∈ scope.names, x.2 = .local → scope.names.lookup x.1 = some .local)
    (k : wpAny M A first (fun x t1 => wpAny M A (pyIter x) (fun it t2 => wpAny M A mkAcc (fun acc t3 =>
      wpAny M A (newFunctionEnv scope env.globals cl [] env.qual none .none (some env)) (fun ce t4 => ce.frame = env.frame ∧
        codeAny M A (.compStart e 0 it acc { ce with scope := relabel scope env }) (AfterX M A E u Q acc ce.locals env.frame) t4) E t3) E t2) E t1) E s0) :
    wpAny M A (comprehension e scope env pos mkAcc false first (some u)) Q E s0 := by
  unfold comprehension
  rw [k3, k1]
  have id2 : ∀ (a : Value) (b : Shared), E a b → E a b := fun _ _ z => z
  refine wpAny_bind (wpAny_mono k (fun x t1 h1 => wpAny_bind (wpAny_standAt (wpAny_bind (wpAny_of_eq (k2 x) (wpAny_bind (wpAny_holding (wpAny_mono h1 (fun it t2 h2 => ?_) id2))))))) id2)
  refine wpAny_standIf (wpAny_bind (wpAny_mono h2 (fun acc t3 h3 => wpAny_bind (wpAny_pure (wpAny_bind (wpAny_mono h3 (fun ce t4 h4 => ?_) id2)))) id2))
  obtain ⟨hfr, h4⟩ := h4
  dsimp only
  generalize hws : (scope.names.filter fun x => (x.2 == .local || x.2 == .cell) && x.1 != (".0" : Str)).reverse = ws
  have loc : ∀ x ∈ ws, x.2 = .local → Env.kindOf { ce with scope := relabel scope env } x.1 = some .local := fun x hx hl => by
    rw [← hws] at hx
    exact lookup_relabel_local (k5 x (List.mem_filter.mp (List.mem_reverse.mp hx)).1 hl)
  have loc2 : ∀ x ∈ ws.drop 1 ++ ws.take 1, x.2 = .local → Env.kindOf { ce with scope := relabel scope env } x.1 = some .local := fun x hx hl => by
    rcases List.mem_append.mp hx with q | q
    · exact loc x (List.mem_of_mem_drop q) hl
    · exact loc x (List.mem_of_mem_take q) hl
  refine wpAny_holding (wpAny_bind (wpAny_attempt (wpAny_holding (wpAny_run (codeAny_mono h4 fun res t5 hres => ?_)))))
  cases res with
  | ok f =>
    refine wpAny_bind (wpAny_rule (wpAny_bind (wpAny_holding (wpAny_mono (show wpAny M A (u acc) _ E t5 from hres) (fun _ t6 hq => ?_) id2))))
    obtain ⟨m, hm, hq⟩ := hq
    exact wpAny_bind (wpAny_comp_letGo (cenv := { ce with scope := relabel scope env }) k4 _ t6 m loc2 hm fun hp m' _ hsb => wpAny_pure (hq hp hsb))
  | error x =>
    obtain ⟨m, hm, hq⟩ := (show ∃ m, t5.heap.Ns ce.locals m ∧ ∀ hp, Heap.SameBut ce.locals t5.heap hp → ∀ ev : Env, ev.locals = ce.locals → ev.frame = env.frame → wpAny M A (PySem.passOn "comprehension.variables-let-go" x ev : Sem Value) (fun _ _ => False) E { t5 with heap := hp } from hres)
    exact wpAny_bind (wpAny_holding (wpAny_comp_letGo (cenv := { ce with scope := relabel scope env }) k4 _ t5 m loc hm fun hp m' _ hsb => wpAny_mono (hq hp hsb _ rfl hfr) (fun _ _ z => z.elim) id2))
end
/-- the frames stand where a heap agrees at them -/
theorem frames_at {h h1 B B1 : Heap} : ∀ {l : List Env}, h.FunFrames B l → (∀ b ∈ frs l, h1.get? b = h.get? b ∧ B1.get? b = none) → h1.FunFrames B1 l
  | [], _, _ => trivial
  | ev :: l, ⟨hk, ⟨L, o, hf, _, ho, hd⟩, hr⟩, g => by
    have gL := g L (List.mem_filterMap.mpr ⟨ev, List.mem_cons_self, hf⟩)
    refine ⟨hk, ⟨L, o, hf, gL.2, gL.1.trans ho, hd⟩, frames_at hr fun b hb => ?_⟩
    obtain ⟨e, he, q⟩ := List.mem_filterMap.mp hb
    exact g b (List.mem_filterMap.mpr ⟨e, List.mem_cons_of_mem _ he, q⟩)
section
variable {X : Cx} {W : WX} {pins : List (Addr × Obj)} {σ : L2.St} {Eb : XK}
/-- what a turn's element let out, told of the block's state -/
def BlkX (Xb : Cx) (Eb : XK) (u : Value) (s' : Shared) : Prop := ∃ (pins : List (Addr × Obj)) (σ : L2.St) (H1 : Hp) (s1 : Shared), Inv Xb pins σ H1 s1 ∧ L2.CX Xb.prog Xb.w Xb.stack H1 s1 Eb u s'
/-- a call's error, told with its ground: it flies still -/
theorem of_cx {H : Hp} {s s' : Shared} {u : Value} (I : Inv X pins σ H s) (c : L2.CX X.prog X.w X.stack H s Eb u s') :
    ∃ (a : Addr) (B : Heap) (sI : Shared) (H1 : Hp) (cls : Value) (d : Option Addr), u = .ref a ∧ Inv X pins σ H1 sI ∧ (∀ b o, sI.heap.get? b = some o → b ∉ frs X.stack → B.get? b = some o) ∧ sI.heap.UpToSlots s'.heap ∧
      HandSPX.FlyingZ B X.stack a (Zc cls d) s'.heap ∧ H1 a = none ∧ s'.os = sI.os ∧ AllBare s'.gens ∧ Eb cls d H1 := by
  obtain ⟨a, B, H1, cls, d, rfl, fl, hok, ub, na, os, ag, hE⟩ := c
  obtain ⟨G, gy, gn⟩ := restrict s'.heap fun b => decide (b ∈ frs X.stack) || (B.get? b).isSome
  have ofB : ∀ b o, B.get? b = some o → G.get? b = some o := fun b o e => (gy b (by simp [e])).trans (fl.1 b o e)
  have ofF : ∀ b, b ∈ frs X.stack → G.get? b = s'.heap.get? b := fun b hb => gy b (by simp [hb])
  have toH : ∀ b o, G.get? b = some o → s'.heap.get? b = some o ∧ (b ∉ frs X.stack → B.get? b = some o) := fun b o e => by
    by_cases q : (decide (b ∈ frs X.stack) || (B.get? b).isSome) = true
    · rw [gy b q] at e
      refine ⟨e, fun hb => ?_⟩
      rw [Bool.or_eq_true, decide_eq_true_eq] at q
      obtain ⟨o1, q1⟩ := Option.isSome_iff_exists.mp (q.resolve_left hb)
      rw [q1, ← e, fl.1 b o1 q1]
    · rw [gn b (by simpa using q)] at e
      cases e
  refine ⟨a, B, { s with heap := G, gens := s'.gens, drawn := s'.drawn, toks := s'.toks }, H1, cls, d, rfl, ?_, fun b o e => (toH b o e).2, Heap.UpToSlots.of_keeps fun b o e => (toH b o e).1, fl, na, os, ag, hE⟩
  have anyway : ∀ b o, s.heap.get? b = some o → b ∈ frs X.stack → ∃ sl, G.get? b = some { o with slots := sl } := fun b o e hb => by
    obtain ⟨sl, q⟩ := ub.slot b o e hb
    exact ⟨sl, (ofF b hb).trans q⟩
  refine I.call (ch := []) ⟨fun b o e n hb _ => ofB b o (ub.keep b o e n hb), fun b o e _ hb _ => anyway b o e hb, fun b o e n _ => ub.free b o e n, fun b o e _ => ?_, ub.tups, ub.frzs, ub.tbls⟩ (hok.kept ofB) ag (fun _ z => nomatch z)
  by_cases hb : b ∈ frs X.stack
  · obtain ⟨sl, q⟩ := anyway b o e hb
    exact ⟨_, q⟩
  · obtain ⟨o1, q⟩ := ub.there b o e hb
    exact ⟨o1, ofB b o1 q⟩
/-- an error of the block's: noted in the def's frame (the block has no other), the block's names let go, passed on -/
theorem blk_out {Q : Value → Shared → Prop} {uF : Value → Sem Unit} {D : Addr} {H3 : Hp} {s3 : Shared} {ce : Env} {scope : Scope} {fp : List Addr} {u : Value} {s' : Shared}
    (hs : X.stack = X.env :: X.outer) (hf : X.env.frame = some X.env.locals) (tk : Takes X W) (hW : ∀ cls d σ H, Eb cls d H → W cls d σ H)
    (I3 : Inv X pins σ H3 s3) (hC : ce.locals = s3.heap.objs.size) (hN : ∀ y, noteFrame y ce = noteFrame y X.env)
    (f3 : ∀ b ∈ fp, (b ∈ X.ex ∨ X.s_0.heap.objs.size ≤ b) ∧ b ≠ X.env.locals ∧ (∀ x c, X.env.cells.lookup x = some c → c ≠ b) ∧ ∀ p ∈ X.pn ++ pins, p.1 ≠ b)
    (x : BlkX (X.blk s3 H3 scope ce fp) Eb u s') :
    notedBy (model X.prog X.w) X.A ce (fun e s => AfterX (model X.prog X.w) X.A X.xe uF Q (.ref D) s3.heap.objs.size X.env.frame (.error e) s) u s' := by
  obtain ⟨pinsB, σB, HB, sB, IB, cx⟩ := x
  obtain ⟨a, B, sI, HI, cls, d, rfl, II, nb, up, fl, na, os, ag, hw⟩ := of_cx IB cx
  show wpAny (model X.prog X.w) X.A (noteFrame (.ref a) ce) _ _ s'
  rw [hN]
  have hfr : X.A.frames = some (X.env :: X.outer) := by rw [I3.ok.frames, hs]
  -- the block's own place, in the ground
  have cLt : X.env.locals < s3.heap.objs.size := I3.lt
  have cFr : s3.heap.objs.size ∉ frs X.stack := fun hm => by
    rcases List.mem_cons.mp (I3.stkSub _ hm) with z | z
    · rw [z] at cLt
      exact absurd cLt (Nat.lt_irrefl _)
    · exact I3.nofs (Nat.le_refl _) z
  have cNone : HI s3.heap.objs.size = none := by
    have z : HI ce.locals = none := II.free
    rw [hC] at z
    exact z
  obtain ⟨m, mI, _⟩ := II.loc
  have mI : sI.heap.Ns ce.locals m := mI
  rw [hC] at mI
  obtain ⟨oC, es, ep, gC, dC, rC⟩ := mI
  have BC : B.get? s3.heap.objs.size = some oC := nb _ _ gC cFr
  -- the def's state without the block
  have IX : Inv X pins σ HI sI := I3.call' (ch := fp) II.os II.base II.hok II.bare f3
  obtain ⟨G, g1, g2⟩ := restrict sI.heap fun b => !decide (b = s3.heap.objs.size)
  obtain ⟨B1, b1, b2⟩ := restrict B fun b => !decide (b = s3.heap.objs.size)
  have gNe : ∀ b, b ≠ s3.heap.objs.size → G.get? b = sI.heap.get? b := fun b h => g1 b (by simp [h])
  have bNe : ∀ b, b ≠ s3.heap.objs.size → B1.get? b = B.get? b := fun b h => b1 b (by simp [h])
  have gAt : ∀ b o, G.get? b = some o → b ≠ s3.heap.objs.size := fun b o e z => by
    rw [g2 b (by simp [z])] at e
    cases e
  have bAt : ∀ b o, B1.get? b = some o → b ≠ s3.heap.objs.size := fun b o e z => by
    rw [b2 b (by simp [z])] at e
    cases e
  have bNo : ∀ b, B.get? b = none → B1.get? b = none := fun b e => by
    by_cases z : b = s3.heap.objs.size
    · exact b2 b (by simp [z])
    · rw [bNe b z]
      exact e
  have IG : Inv X pins σ HI { sI with heap := G } := by
    obtain ⟨f0, f1, f2, f3, f4, f5⟩ := I3.fpOk (H' := HI) (Nat.le_refl _) cNone
    exact IX.turned (t' := sI.toks) (fun b o hb e => (gNe b hb).trans e) f0 f1 f3 f4 f5
  have fin : ∀ h1, HandSPX.HeldZ B (X.env :: X.outer) a (Zc cls d) X.env.locals h1 → s'.heap.UpToSlots h1 →
      AfterX (model X.prog X.w) X.A X.xe uF Q (.ref D) s3.heap.objs.size X.env.frame (.error (.ref a)) { s' with heap := h1 } := fun h1 hh up1 => by
    obtain ⟨hB, hBa, hFr, oe, vs, T, oT, ts, he, hz, hd, hv1, hnT, hTe, hT, hdT, ht3⟩ := hh
    have hC1 : h1.get? s3.heap.objs.size = some oC := hB _ _ BC
    have aNe : a ≠ s3.heap.objs.size := fun z => by
      rw [z, hC1] at he
      cases he
      rw [dC] at hd
      cases hd
    have tNe : T ≠ s3.heap.objs.size := fun z => by
      rw [z, hC1] at hT
      cases hT
      rw [dC] at hdT
      cases hdT
    refine ⟨m, ⟨oC, es, ep, hC1, dC, rC⟩, fun hp sb ev _ hev => ?_⟩
    have held : HandSPX.HeldZ B1 (X.env :: X.outer) a (Zc cls d) X.env.locals hp := by
      refine ⟨fun b o e => ?_, bNo a hBa, frames_at hFr fun b hb => ?_, oe, vs, T, oT, ts, (sb.2 a aNe).trans he, hz, hd, hv1, bNo T hnT, hTe, (sb.2 T tNe).trans hT, hdT, ht3⟩
      · have nz := bAt b o e
        rw [bNe b nz] at e
        exact (sb.2 b nz).trans (hB b o e)
      · have nz : b ≠ s3.heap.objs.size := fun z => by
          rw [z] at hb
          rw [← hs] at hb
          exact cFr hb
        exact ⟨sb.2 b nz, bNo b (hFr.mem hb).1⟩
    show wpAny (model X.prog X.w) X.A (PySem.passOn "comprehension.variables-let-go" (.ref a) ev : Sem Value) _ _ _
    unfold PySem.passOn
    have he' : hp.get? a = some oe := (sb.2 a aNe).trans he
    refine wpAny_bind (wpAny_field he' hd hv1 ?_)
    rw [if_neg (show ¬ ((Value.ref T == Value.none) = true) from by simp)]
    have goOn : wpAny (model X.prog X.w) X.A (setFlight (.ref a) ev.frame) (fun _ s7 => wpAny (model X.prog X.w) X.A (throw (.ref a) : Sem Value) (fun _ _ => False) X.xe s7) X.xe { s' with heap := hp } := by
      rw [hev, hf]
      refine HandSPX.setFlight_onZ (s := { s' with heap := hp }) held fun h7 hh7 up7 => wpAny_throw (tk _ _ ?_)
      refine ⟨a, B1, { sI with heap := G }, pins, σ, HI, cls, d, rfl, IG, fun b o e hb => ?_, fun b o e hn => ?_, .inr (.inr (by rw [hs]; exact hh7)), na, os, ag, hW _ _ _ _ hw⟩
      · have nz := gAt b o e
        rw [gNe b nz] at e
        rw [bNe b nz]
        exact nb b o e hb
      · have nz := gAt b o e
        have e : G.get? b = some o := e
        rw [gNe b nz] at e
        obtain ⟨sl1, q1⟩ := up b o e hn
        obtain ⟨sl2, q2⟩ := up1 b _ q1 hn
        have q3 : hp.get? b = some { o with slots := sl2 } := (sb.2 b nz).trans q2
        obtain ⟨sl3, q4⟩ := up7 b { o with slots := sl2 } q3 hn
        exact ⟨sl3, q4⟩
    first
      | exact wpAny_bind (wpAny_pure (wpAny_bind goOn))
      | exact wpAny_bind goOn
  have fl : HandSPX.FlyingZ B X.stack a (Zc cls d) s'.heap := fl
  rw [hs] at fl
  exact HandSPX.looks_onZ Zc.steady hfr hf fl fin
/-- name = [element for target in iter]: the element may let an error out -/
theorem ps_setLcX {i : Nat} {y : Str} {py : Pos} {elt tg iter : Expr} {scope : Scope} {own : List (Str × Nat)} {pos spos : Pos} {wi : TI} {g : TG} {te : TE} (hc : X.calm = true) (hN : X.N.Nodup) (hy : X.N[i]? = some y) (hyl : X.env.scope.names.lookup y = some .local)
    (hs : X.stack = X.env :: X.outer) (hf : X.env.frame = some X.env.locals) (tk : Takes X W) (hW : ∀ cls d σ H, Eb cls d H → W cls d σ H)
    (hsw : swapsWith (.ListComp elt [⟨tg, iter, [], 0⟩] scope pos) (some (.Name y py)) spos.line X.env = pure true) (hi : PI X tg iter wi) (ok : BlkOk X.N X.env.scope scope own)
    (hg : ∀ (sb : Shared) (Hb : Hp) (C : Addr) (cl : List (Str × Addr)) (fp : List Addr), PG (X.blk sb Hb scope (compEnvC scope cl C X.env) fp) tg g)
    (he : ∀ (sb : Shared) (Hb : Hp) (C : Addr) (cl : List (Str × Addr)) (fp : List Addr) (pn : List (Addr × Obj)) (xe : Value → Shared → Prop),
      Passes (L2.CX X.prog X.w) ((X.blk sb Hb scope (compEnvC scope cl C X.env) fp).tr pn xe) Eb → PE ((X.blk sb Hb scope (compEnvC scope cl C X.env) fp).tr pn xe) elt te)
    (hset : ∀ x, foldedSetIterable iter X.env x = pure x := by intro _; rfl) :
    PS X (.Assign [.Name y py] (.ListComp elt [⟨tg, iter, [], 0⟩] scope pos) spos) (tAsg (tLc wi g tYes te (own.map (·.2))) (gName i)) := by
  refine ⟨fun pins s σ H Dx I h => ?_⟩
  rw [exec_Assign_Name_used _ _ _ _ hsw]
  refine wpAny_bind (wpAny_standAt (wpAny_bind ?_))
  show wpAny _ X.A (do let _ ← comprehension (.ListComp elt [⟨tg, iter, [], 0⟩] scope pos) scope X.env (firstIterPos [⟨tg, iter, [], 0⟩] pos) (newList []) false (eval iter X.env) (some (assign (.Name y py) X.env))) _ _ s
  have h : wi σ H fun J H1 => ∀ D, H1 D = none → _ := h
  have free1 : ∀ z ∈ scope.names, z.2 = .free → ∃ c, X.env.cells.lookup z.1 = some c := fun z hz e =>
    (ok.free z hz e).elim (fun k => I.ok.has _ (.inl k)) (fun k => I.ok.has _ (.inr k))
  refine wpAny_bind (thn (comp_out (Q := fun _ s' => SP X pins Dx .next s') rfl hset (closure_ok free1) ok.kind (fun z hz e => by rw [ok.uniq z hz, e])
    (thn (hi.run pins s σ H _ I h) fun xv s1 hx => thn hx fun itv s2 h2 => ?_)) fun _ s' hq => wpAny_pure (wpAny_pure hq))
  obtain ⟨it, fp, tn, J, H2, e, I2, T, st2, f2, q⟩ := h2
  subst e
  refine wpAny_newObj_type (newEnv_comp ⟨rfl, ?_⟩) (by show 0 ≤ sizeLine; decide)
  have hDn : H2 s2.heap.objs.size = none := I2.hok.fresh (Nat.le_refl _)
  obtain ⟨Wm, ⟨m0, w0⟩, turn⟩ := q s2.heap.objs.size hDn
  generalize hD : s2.heap.objs.size = D at hDn w0 turn ⊢
  generalize hs3 : ({ s2 with heap := s2.heap.push { cls := .type "list", data := .seq ([] : List Value).toArray } } : Shared) = s3
  have hp3 : s3.heap = s2.heap.push { cls := .type "list", data := .seq ([] : List Value).toArray } := by rw [← hs3]
  have I3 : Inv X pins σ (upd H2 D (.lst [])) s3 := by
    subst hs3
    refine I2.laid (t' := s2.toks) (fun b o e => Heap.get?_push_of_some _ e) (Nat.le_of_eq hD) ⟨Nat.zero_le _, [], 0, .nil, ?_⟩
    rw [← hD]
    exact Heap.get?_push_size _ rfl
  have old : ∀ b ∈ fp, b < s2.heap.objs.size := fun b hb => let ⟨o, e, _⟩ := T.obj _ _ st2 b hb; Heap.lt_size e
  have f3 : ∀ b ∈ fp, FpOk X pins (upd H2 D (.lst [])) b ∧ b < s3.heap.objs.size := fun b hb => by
    have lt := old b hb
    refine ⟨⟨?_, (f2 b hb).2⟩, by rw [hp3, Heap.size_push]; exact Nat.lt_succ_of_lt lt⟩
    rw [upd_ne (by rw [← hD]; exact Nat.ne_of_lt lt)]
    exact (f2 b hb).1
  have st3 : tn 0 s3.heap := T.keep _ _ _ st2 fun b _ o e => by rw [hp3]; exact Heap.get?_push_of_some _ e
  have I4 := block_start I3 ok hN f3
  have nfp : ∀ b ∈ fp, (upd H2 D (.lst [])) b = none := fun b hb => (f3 b hb).1.1
  have fpX : ∀ b ∈ fp, (b ∈ X.ex ∨ X.s_0.heap.objs.size ≤ b) ∧ b ≠ X.env.locals ∧ (∀ x c, X.env.cells.lookup x = some c → c ≠ b) ∧ ∀ p ∈ X.pn ++ pins, p.1 ≠ b := fun b hb =>
    ⟨(f3 b hb).1.2.2.2.1, (f3 b hb).1.2.1, (f3 b hb).1.2.2.2.2.1, (f3 b hb).1.2.2.2.2.2⟩
  have pg := hg s3 (upd H2 D (.lst [])) s3.heap.objs.size (cellsFrom (s3.heap.objs.size + 1) scope.names (cloFrom X.env.cells scope.names [])) fp
  have pe := he s3 (upd H2 D (.lst [])) s3.heap.objs.size (cellsFrom (s3.heap.objs.size + 1) scope.names (cloFrom X.env.cells scope.names [])) fp
  show codeAny _ _ (.compStart (.ListComp elt [⟨tg, iter, [], 0⟩] scope pos) 0 (.ref it) (.ref D) (compEnvC scope (cellsFrom (s3.heap.objs.size + 1) scope.names (cloFrom X.env.cells scope.names [])) s3.heap.objs.size X.env)) (AfterX (model X.prog X.w) X.A X.xe (assign (.Name y py) X.env) (fun _ s' => SP X pins Dx .next s') (.ref D) s3.heap.objs.size X.env.frame) { s3 with heap := pushCells (s3.heap.push { cls := .type "dict", data := .dict #[] }) scope.names }
  have hnote : ∀ y, noteFrame y (compEnvC scope (cellsFrom (s3.heap.objs.size + 1) scope.names (cloFrom X.env.cells scope.names [])) s3.heap.objs.size X.env) = noteFrame y X.env := fun _ => rfl
  have hceL : (compEnvC scope (cellsFrom (s3.heap.objs.size + 1) scope.names (cloFrom X.env.cells scope.names [])) s3.heap.objs.size X.env).locals = s3.heap.objs.size := rfl
  generalize compEnvC scope (cellsFrom (s3.heap.objs.size + 1) scope.names (cloFrom X.env.cells scope.names [])) s3.heap.objs.size X.env = ce at I4 pg pe hnote hceL ⊢
  generalize upd H2 D (.lst []) = H3 at I3 I4 pg pe w0 nfp f3
  generalize hs4 : ({ s3 with heap := pushCells (s3.heap.push { cls := .type "dict", data := .dict #[] }) scope.names } : Shared) = s4 at I4 ⊢
  have st4 : tn 0 s4.heap := T.keep _ _ _ st3 fun b _ o e => by rw [← hs4]; exact pushCells_keeps _ _ _ _ (Heap.get?_push_of_some _ e)
  have stat : ∀ {σ' : L2.St} {H' : Hp} {s' : Shared}, Inv (X.blk s3 H3 scope ce fp) [] σ' H' s' → (∀ b ∈ fp, H' b = none) → ∀ b ∈ fp, FpOk (X.blk s3 H3 scope ce fp) [] H' b := fun {σ' H' s'} I' hn b hb =>
    ⟨hn b hb, (I'.ok.exf b hb).1, I'.ok.exfs b hb, .inl hb, (I'.ok.exf b hb).2, fun p hp => absurd (show p ∈ ([] : List (Addr × Obj)) ++ [] from hp) (by simp)⟩
  have loop : codeAny (model X.prog X.w) X.A (.compLoop (.ListComp elt [⟨tg, iter, [], 0⟩] scope pos) 0 (.ref it) (.ref D) ce) (AfterX (model X.prog X.w) X.A X.xe (assign (.Name y py) X.env) (fun _ s' => SP X pins Dx .next s') (.ref D) s3.heap.objs.size X.env.frame) s4 := by
    refine compLoop_any (fun n s' => ∃ i H', Inv (X.blk s3 H3 scope ce fp) [] (wipe σ (own.map (·.2))) H' s' ∧ tn i s'.heap ∧ (∀ b ∈ fp, H' b = none) ∧ Wm i n H') ?_ m0 ⟨0, H3, I4, st4, nfp, w0⟩
    rintro n s5 ⟨j, H5, I5, st5, n5, w5⟩
    rcases turn j n H5 w5 with ⟨stop, qq⟩ | ⟨go, Nx, hNx, step⟩
    · refine thnF (T.done (X.blk s3 H3 scope ce fp) rfl rfl rfl hc j [] s5 _ H5 (fun _ _ => False) I5 (stat I5 n5) st5 stop) fun r s6 ⟨hr, I6⟩ => ?_
      subst hr
      have I7 : Inv X pins σ H5 s6 := I3.call' (ch := fp) I6.os I6.base I6.hok I6.bare fpX
      have nC : H5 s3.heap.objs.size = none := by
        have z : H5 ce.locals = none := I6.free
        rw [hceL] at z
        exact z
      obtain ⟨m, hn, _⟩ := I6.loc
      have hn : s6.heap.Ns ce.locals m := hn
      rw [hceL] at hn
      have f := I3.fpOk (Nat.le_refl _) nC
      show wpAny _ _ (assign (.Name y py) X.env (.ref D)) _ _ _
      refine wpAny_assign_Name (store_ok2 (v := V.ref D) I7 hN hy (.inl hyl) rfl (fun s8 I8 ⟨a, sb, ha⟩ => ?_) (.inr hyl))
      obtain ⟨f0, f1, f2, f3, f4, f5⟩ := f
      have neC : s3.heap.objs.size ≠ a := ha.elim (fun z => by rw [z]; exact f1) (fun z e => f4 y a z e.symm)
      exact ⟨m, hn.sameBut sb neC, fun h9 sb9 => ⟨_, H5, I8.turned (t' := s8.toks) (fun b o hb e => (sb9.2 b hb).trans e) f0 f1 f3 f4 f5, qq⟩⟩
    · refine thnF (T.item (X.blk s3 H3 scope ce fp) rfl rfl rfl hc j [] s5 _ H5 (fun _ _ => False) I5 (stat I5 n5) st5 go) fun r s6 ⟨u, hr, h6⟩ => ?_
      subst hr
      refine thnF h6 fun _ s7 ⟨x, H7, I7, r7, y7, st7, n7⟩ => ?_
      have I7' := I7.pinned (stat I7 n7) (T.obj _ _ st7)
      refine thnF (pg.run _ s7 _ H7 x u _ I7' r7 (step x H7 y7)) fun _ s8 ⟨σ8, H8, I8, hw8, q8⟩ => ?_
      refine wpAny_tests_nil ?_
      have q8 := q8
      simp only [if_true]
      have q9 : te σ8 H8 fun y H4 => ∃ acc, H4 D = some (.lst acc) ∧ acc.length < sizeLine ∧ Nx (upd H4 D (.lst (acc ++ [y]))) := q8
      have ok8 := I8.ok
      refine wpAny_mono ((pe ([] ++ ([] ++ pinsAt fp s7.heap)) (BlkX (X.blk s3 H3 scope ce fp) Eb) (fun pinsE σE HE sE eE sE' IE cE => ⟨_, σE, HE, sE, (IE.ofTry (X := X.blk s3 H3 scope ce fp) ok8), cE⟩)).run [] s8 σ8 H8 _ (I8.toTry (X := X.blk s3 H3 scope ce fp) _) q9) (fun z s10 hz => ?_) (fun eE sE bx => blk_out hs hf tk hW I3 hceL hnote fpX bx)
      obtain ⟨yv, H10, I10, r10, acc, hD10, hz10, nx⟩ := hz
      have I10 : Inv (X.blk s3 H3 scope ce fp) ([] ++ pinsAt fp s7.heap) σ8 H10 s10 := I10.ofTry (X := X.blk s3 H3 scope ce fp) ok8
      refine thnF (app_ok (X := X.blk s3 H3 scope ce fp) (Q := fun _ s' => Inv (X.blk s3 H3 scope ce fp) ([] ++ pinsAt fp s7.heap) σ8 (upd H10 D (.lst (acc ++ [yv]))) s') (E := fun _ _ => False) I10 hD10 hz10 r10 fun s11 I11 => I11) fun _ s11 I11 => ?_
      obtain ⟨m', hm, w'⟩ := hNx _ nx
      have pin' : ∀ b ∈ fp, ∀ o, s7.heap.get? b = some o → s11.heap.get? b = some o ∧ (upd H10 D (.lst (acc ++ [yv]))) b = none := fun b hb o e =>
        let z := I11.pin (b, o) (List.mem_append_right _ (List.mem_append_right _ (mem_pinsAt hb e)))
        ⟨z.1, z.2.1⟩
      refine ⟨m', hm, j + 1, _, (I11.unpinned (pins := [])).weak (by rw [← hw8, wipe_length]) (fun j v e => ?_), T.keep _ _ _ st7 fun b hb o e => (pin' b hb o e).1, fun b hb => ?_, w'⟩
      · rw [← hw8] at e
        exact (wipe_some e).1
      · obtain ⟨o, e, _⟩ := T.obj _ _ st7 b hb
        exact (pin' b hb o e).2
  exact codeAny_compStart_list loop (T.self X.A 0 _ _ _ st4 loop)
end
end Sk
set_option maxHeartbeats 2000000
/-! # The jumps of a text -/
namespace Sk
open PySem PySem.Spec PyProof.Rows L2
open Evl (Ex)
abbrev st_jumps_of : Stmt := top 62
theorem sc_jumps_of : FnScope ["text", "jumps", "place", "jump", "part"] ["text"] (defScope st_jumps_of) := ⟨rfl, rfl, rfl, by decide +kernel, rfl, by decide +kernel, by decide +kernel⟩
def off (D : Addr) (G : Hp) : Hp := fun b => if b = D then none else G b
theorem off_in {D : Addr} {G : Hp} : Ex (off D G) G := fun b o e => by
  unfold off at e
  split at e
  · cases e
  · exact e
theorem off_mono {D : Addr} {G G1 : Hp} (x : Ex G G1) : Ex (off D G) (off D G1) := fun b o e => by
  unfold off at e ⊢
  split at e
  · cases e
  · rename_i h
    rw [if_neg h]
    exact x b o e
theorem off_upd {D : Addr} {H G : Hp} {o : HO} : off D (nw H (upd G D o)) = off D (nw H G) := by
  funext b
  unfold off nw
  by_cases h : b = D
  · rw [if_pos h, if_pos h]
  · rw [if_neg h, if_neg h, upd_ne h]
theorem allM_snoc : ∀ (ps : List (List Nat)) (x : List Nat), allM (ps ++ [x]) = (match allM ps with
    | some l => (jumpM x).map fun j => l ++ [j]
    | none => none)
  | [], x => by
    show allM [x] = _
    unfold allM
    cases jumpM x <;> rfl
  | q :: ps, x => by
    show (match jumpM q with
      | none => none
      | some j => (allM (ps ++ [x])).map fun l => j :: l) = _
    rw [allM_snoc ps x]
    show _ = match (match jumpM q with
      | none => none
      | some j => (allM ps).map fun l => j :: l) with
      | some l => (jumpM x).map fun j => l ++ [j]
      | none => none
    cases jumpM q with
    | none => rfl
    | some j =>
      cases allM ps with
      | none => rfl
      | some l => cases jumpM x <;> rfl
theorem allM_bad : ∀ {ps : List (List Nat)} {x : List Nat}, x ∈ ps → jumpM x = none → allM ps = none
  | q :: ps, x, h, e => by
    show (match jumpM q with
      | none => none
      | some j => (allM ps).map fun l => j :: l) = none
    rcases List.mem_cons.mp h with z | z
    · rw [← z, e]
    · rw [allM_bad z e]
      cases jumpM q <;> rfl
theorem parts_len : ∀ t : List Nat, (parts t).length ≤ t.length + 1
  | [] => by unfold parts; simp
  | c :: r => by
    have := parts_len r
    unfold parts
    split
    · simp; omega
    · split
      · simp
      · rename_i h
        rw [h] at this
        simp at this ⊢
        omega
theorem parts_short : ∀ (t p : List Nat), p ∈ parts t → p.length ≤ t.length
  | [], p, h => by
    unfold parts at h
    simp at h
    subst h
    simp
  | c :: r, p, h => by
    unfold parts at h
    split at h
    · rcases List.mem_cons.mp h with z | z
      · subst z; simp
      · have := parts_short r p z
        simp; omega
    · split at h
      · simp at h
        subst h
        simp
      · rename_i q qs hq
        rcases List.mem_cons.mp h with z | z
        · subst z
          have := parts_short r q (by rw [hq]; exact List.mem_cons_self)
          simp; omega
        · have := parts_short r p (by rw [hq]; exact List.mem_cons_of_mem _ z)
          simp; omega
section
variable {P : Program} {w : World} {K : PySem.W.Frag} {mg : Str → Option Value} {base : Heap} {A : Ads}
theorem ok_jumps_of (T : Txt K w mg A) (F0 : FunF K mg "jumps_of" st_jumps_of)
    (c_jump_of : CalF P w K mg base (L2.CX P w) 5 "jump_of" ["text"] (sp_jump_of A))
    (c_may_be_small : CalF P w K mg base CX0 1 "may_be_small" ["jumps", "place"] (sp_may_be_small K A))
    (c_Jumps_init : CalI P w K mg base CX0 1 A.cJumps ["self", "jumps"] (sp_Jumps_init A)) : CalF P w K mg base (L2.CX P w) 6 "jumps_of" ["text"] (sp_jumps_of A) := by
  obtain ⟨f_jump_of, fd_jump_of, G_jump_of, mg_jump_of, kp_jump_of, b_jump_of⟩ := c_jump_of
  obtain ⟨f_may_be_small, fd_may_be_small, G_may_be_small, mg_may_be_small, kp_may_be_small, b_may_be_small⟩ := c_may_be_small
  obtain ⟨f_Jumps_init, fd_Jumps_init, G_Jumps_init, M_Jumps, b_Jumps_init⟩ := c_Jumps_init
  obtain ⟨f, fd, F, gF⟩ := F0
  refine ⟨f, fd, ?_, gF, F.kp, F.binds (ps := ["text"]) fun _ _ _ _ _ _ us hl => match us, hl with | [_], _ => rfl⟩
  refine F.okX sc_jumps_of (fun vs H Q E h => by first | (obtain ⟨rfl, _⟩ := h; rfl) | (obtain ⟨_, rfl, _⟩ := h; rfl) | (obtain ⟨_, _, rfl, _⟩ := h; rfl) | (obtain ⟨_, _, _, rfl, _⟩ := h; rfl) | (obtain ⟨_, _, _, _, rfl, _⟩ := h; rfl) | (obtain ⟨_, _, _, _, _, rfl, _⟩ := h; rfl) | (obtain ⟨_, _, _, _, _, _, rfl, _⟩ := h; rfl) | (obtain ⟨_, _, _, _, _, _, _, rfl, _⟩ := h; rfl) | (obtain ⟨_, _, _, _, _, _, _, _, rfl, _⟩ := h; rfl) | (obtain ⟨_, _, _, _, _, _, _, _, _, rfl, _⟩ := h; rfl) | (obtain ⟨_, _, _, _, _, _, _, _, _, _, rfl, _⟩ := h; rfl)) (fun cdv AA outer s H vs Q E hr h => ⟨_, (pss_cons (ps_setLcX (i := 1) (own := [("part", 4)]) rfl sc_jumps_of.nd rfl rfl rfl rfl (takes_of rfl rfl rfl rfl) (fun _ _ _ _ h => h) (sw_true rfl rfl rfl (by decide +kernel)) (pi_list (pe_split (pv 0) pe_str)) (blkOk_by (own := [("part", 4)]) (N := ["text", "jumps", "place", "jump", "part"]) (sc := defScope st_jumps_of) (by decide +kernel)) (fun _ _ _ _ _ => (pg_name (i := 4) sc_jumps_of.nd rfl (Or.inl rfl))) (fun _ _ _ _ _ _ _ pb => by exact (pe_call G_jump_of (hr.mono (by decide)) rfl mg_jump_of kp_jump_of b_jump_of .nil pb (pa_cons (pv 4) pa_nil))))
      (pss_cons (ps_if (pt_cmpR op_gt (pe_callB call_len_seq (by rfl) T.b_len (by decide +kernel) (pa_cons (pv 1) pa_nil)) (pe_globI T.k_MOST_JUMPS) (nomark _)) (pss_one (ps_raise rfl (takes_of rfl rfl rfl rfl) (pmk_own0 PySem.F.excBase_Exception T.x_DoesNotFit T.g_DoesNotFit T.k_DoesNotFit (raises_own T.s_DoesNotFit T.t_DoesNotFit) (by exact rfl)))) pss_nil)
      (pss_cons (ps_for (passes_of rfl) rfl (pi_enum (by rfl) T.b_enumerate (pa_cons (pv 1) pa_nil)) (pg_tup rfl (pgs_cons (pg_name (i := 2) sc_jumps_of.nd rfl (Or.inl rfl)) (pgs_cons (pg_name (i := 3) sc_jumps_of.nd rfl (Or.inl rfl)) pgs_nil))) (pss_one (ps_if (PW.pt (pw_and (pt_cmpR op_eq (pe_fld (pv 3) rfl) (pe_globI T.k_SMALL) (nomark _)) (pw_and1 (pt_not (pt_val (pe_call G_may_be_small (hr.mono (by decide)) rfl mg_may_be_small kp_may_be_small b_may_be_small .nil pass0 (pa_cons (pv 1) (pa_cons (pv 2) pa_nil)))))))) (pss_one (ps_raise rfl (takes_of rfl rfl rfl rfl) (pmk_own0 PySem.F.excBase_Exception T.x_DoesNotFit T.g_DoesNotFit T.k_DoesNotFit (raises_own T.s_DoesNotFit T.t_DoesNotFit) (by exact rfl)))) pss_nil)))
      (pss_one (ps_ret (pe_make M_Jumps G_Jumps_init (hr.mono (by decide)) rfl T.g_Jumps b_Jumps_init .nil pass0 (pa_cons (pv 1) pa_nil))))))), ?_⟩)
  obtain ⟨t, rfl, h40, k, e⟩ := h
  have hpl := parts_len t
  refine ⟨_, rfl, ⟨_, rfl⟩, _, _, rfl, rfl, by decide +kernel, Nat.le_trans (show (mk t).length + 2 ≤ 42 from by rw [mk_len]; omega) (by decide), fun p hp => ?_⟩
  have ts := tsplit t
  rw [← lit_plus] at ts
  rw [ts]
  refine ⟨p, rfl, ⟨_, SqL.of upd_same⟩, fun D hD => lc_list (xs := ((parts t).map mk).map V.str) (fun i H' => Ex H H' ∧ H' p = some (.lst (((parts t).map mk).map V.str)) ∧ ∃ us js, H' D = some (.lst us) ∧ allM ((parts t).take i) = some js ∧ All2 (JumpAt A (off D (nw H H'))) us js) ?_ (fun i H' _ q => SqL.of q.2.1) ?_ ?_⟩
  · refine ⟨Ex.trans (Ex.one hp) (Ex.one hD), ?_, [], [], upd_same, rfl, .nil⟩
    rw [upd_ne (ne_of_none upd_same hD)]
    exact upd_same
  · rintro i x H1 hi ⟨e1, h1, us, js, hu, hm, hA⟩
    obtain ⟨y, hy, rfl⟩ := map_get hi
    obtain ⟨q, hq, rfl⟩ := map_get hy
    have hmem := List.mem_of_getElem? hq
    have hsn := allM_snoc ((parts t).take i) q
    rw [← take_more hq, hm] at hsn
    have hul : us.length < sizeLine := by
      rw [hA.len, (allM_len hm).1, List.length_take]
      exact Nat.lt_of_le_of_lt (show min i (parts t).length ≤ 41 from by omega) (by decide)
    have hDH : H D = none := Evl.fresh_back (Ex.one hp) hD
    refine ⟨rfl, ?_⟩
    refine ⟨_, rfl, q, rfl, Nat.le_trans (parts_short t q hmem) h40, fun j hj v H2 e2 hJ => ?_, fun hn H2 e2 => ?_⟩
    · rw [hj] at hsn
      refine ⟨us, e2 _ _ hu, hul, fun b o eb => ?_, ?_, us ++ [v], js ++ [j], upd_same, hsn, ?_⟩
      · rw [upd_ne (ne_of_none eb hDH)]
        exact e2 _ _ (e1 _ _ eb)
      · rw [upd_ne (ne_of_none upd_same hD)]
        exact e2 _ _ h1
      · rw [off_upd]
        refine (hA.mono fun a b => JumpAt.mono (off_mono (nw_mono (Ex.refl _) e2))).snoc ?_
        obtain ⟨pj, dx, z1, z2⟩ := hJ
        refine ⟨pj, dx, z1, ?_⟩
        have z3 := nw_out z2
        unfold off
        rw [if_neg (fun z => by rw [z, hu] at z3; cases z3)]
        exact nw_mono e1 (Ex.refl _) _ _ z2
    · refine e ?_ H2 (e1.trans e2)
      unfold jumpsM
      rw [allM_bad hmem hn]
  · rintro H1 ⟨e1, h1, us, js, hu, hm, hA⟩
    rw [List.length_map, List.length_map, List.take_length] at hm
    have hlen := hA.len
    have hjm : jumpsM t = if 3 < js.length then none else if (List.range js.length).any (smallBad js) = true then none else some js := by
      unfold jumpsM
      rw [hm]
    refine ⟨_, rfl, D, us, rfl, .inl (SqL.of hu), us.length, 3, rfl, rfl, _, rfl, ?_⟩
    by_cases c3 : 3 < js.length
    · refine t_yes (decide_eq_true (by omega)) ?_
      exact e (by rw [hjm, if_pos c3]) H1 e1
    refine t_no (decide_eq_false (by omega)) ?_
    rw [if_neg c3] at hjm
    have hAn : All2 (JumpAt A H1) us js := hA.mono fun _ _ => JumpAt.mono fun b o q => nw_in b o (off_in b o q)
    refine ⟨_, rfl, D, us, rfl, SqL.of hu, for_enumL (K := K) (a := D) (xs := us) (fun i σ H' => ∃ v2 v3, σ = [some (.str (mk t)), some (.ref D), v2, v3, none] ∧ Ex H1 H' ∧ ∀ k, k < i → smallBad js k = false)
      ⟨none, none, rfl, Ex.refl _, fun k hk => absurd hk (Nat.not_lt_zero k)⟩ (fun i σ H' ⟨_, _, _, e5, _⟩ => SqL.of (e5 _ _ hu)) ?_ ?_⟩
    · rintro i y T1 σ H' hi ⟨v2, v3, rfl, e5, hgood⟩ hT1
      obtain ⟨j, hj, pj, dx, rfl, z2⟩ := hAn.get hi
      have hlt := (List.getElem?_eq_some_iff.mp hj).1
      have e6 : Ex H1 (upd H' T1 (.tup [.int (i : Nat), .ref pj])) := e5.trans (Ex.one hT1)
      have hbad : smallBad js i = (decide (j.kind = 6) && !mayB js i) := by
        unfold smallBad mayB
        simp only [hj] <;> rfl
      have fine : smallBad js i = false → ∃ v2 v3, [some (V.str (mk t)), some (V.ref D), some (V.int (i : Nat)), some (V.ref pj), none] = [some (.str (mk t)), some (.ref D), v2, v3, none] ∧ Ex H1 (upd H' T1 (.tup [.int (i : Nat), .ref pj])) ∧ ∀ k, k < i + 1 → smallBad js k = false := fun hf =>
        ⟨_, _, rfl, e6, fun k hk => by
          by_cases q : k = i
          · rw [q]; exact hf
          · exact hgood k (by omega)⟩
      have wrong : smallBad js i = true → jumpsM t = none := fun hb => by
        rw [hjm, if_pos (List.any_eq_true.mpr ⟨i, List.mem_range.mpr hlt, hb⟩)]
      refine ⟨T1, _, rfl, SqT.of upd_same, rfl, _, _, rfl, _, _, rfl, rfl, ?_⟩
      refine ⟨_, rfl, pj, _, dx, _, _, rfl, e6 _ _ z2, T.cl_Jump, T.na_Jump_kind, rfl, rfl, _, rfl, ?_⟩
      by_cases ck : j.kind = 6
      · rw [iT (by rw [ck]; rfl)]
        rw [decide_eq_true ck, Bool.true_and] at hbad
        refine ⟨_, rfl, _, rfl, D, i, us, js, rfl, SqL.of (e6 _ _ hu), hAn.mono fun _ _ => JumpAt.mono e6, fun H2 e2 => ?_⟩
        refine ⟨_, rfl, ?_⟩
        cases hb : mayB js i with
        | true =>
          rw [hb] at hbad
          obtain ⟨v2, v3, q1, q2, q3⟩ := fine hbad
          exact ⟨v2, v3, q1, q2.trans e2, q3⟩
        | false =>
          rw [hb] at hbad
          exact e (wrong hbad) H2 ((e1.trans e6).trans e2)
      · rw [iF (by omega)]
        rw [decide_eq_false ck, Bool.false_and] at hbad
        exact fine hbad
    · rintro σ H' ⟨v2, v3, rfl, e5, hgood⟩
      have hl := hAn.len
      have hnb : (List.range js.length).any (smallBad js) = false := by
        rw [List.any_eq_false]
        intro k hk
        rw [hgood k (by rw [hl]; exact List.mem_range.mp hk)]
        exact Bool.false_ne_true
      rw [hnb, if_neg Bool.false_ne_true] at hjm
      refine ⟨_, rfl, ?_⟩
      intro x dx nx nd ne
      refine ⟨D, made0 (vs := [_]) nx nd (fun H3 e3 h3 => ⟨rfl, ?_⟩)⟩
      refine k js hjm _ H3 ((e1.trans e5).trans e3) ?_
      have eH : Ex H H' := e1.trans e5
      have hDH : H D = none := Evl.fresh_back (Ex.one hp) hD
      exact ⟨x, dx, D, us, rfl, nw_of (Evl.fresh_back eH nx) h3, nw_of hDH (e3 _ _ (e5 _ _ hu)), hA.mono fun _ _ => JumpAt.mono fun b o q => nw_mono (Ex.refl _) (e5.trans e3) b o (off_in b o q)⟩
end
end Sk
set_option maxHeartbeats 2000000
/-! # The desk: what it keeps -/
namespace Sk
open PySem PySem.Spec PyProof.Rows L2
open Evl (Ex)
abbrev st_Desk_skated_by_each : Stmt := inClass (top 109) 13
theorem sc_Desk_skated_by_each : FnScope ["self"] ["self"] (defScope st_Desk_skated_by_each) := ⟨rfl, rfl, rfl, by decide +kernel, rfl, by decide +kernel, by decide +kernel⟩
abbrev st_Desk_open_program : Stmt := inClass (top 109) 14
theorem sc_Desk_open_program : FnScope ["self"] ["self"] (defScope st_Desk_open_program) := ⟨rfl, rfl, rfl, by decide +kernel, rfl, by decide +kernel, by decide +kernel⟩
abbrev st_Desk_skated_by : Stmt := inClass (top 109) 12
theorem sc_Desk_skated_by : FnScope ["self", "skater", "free", "skated"] ["self", "skater", "free"] (defScope st_Desk_skated_by) := ⟨rfl, rfl, rfl, by decide +kernel, rfl, by decide +kernel, by decide +kernel⟩
theorem All2.mono_mem {α β : Type} {R S : α → β → Prop} : ∀ {l : List α} {m : List β}, All2 R l m → (∀ a b, a ∈ l → R a b → S a b) → All2 S l m
  | _, _, .nil, _ => .nil
  | _, _, .cons h t, f => .cons (f _ _ List.mem_cons_self h) (t.mono_mem fun a b ha => f a b (List.mem_cons_of_mem _ ha))
theorem All2.lmap {α β γ : Type} {f : γ → α} {R : α → β → Prop} : ∀ {l : List γ} {m : List β}, All2 (fun a b => R (f a) b) l m → All2 R (l.map f) m
  | _, _, .nil => .nil
  | _, _, .cons h t => .cons h t.lmap
theorem non_no {p : Addr} : decide (V.ref p = V.non) = false := decide_eq_false fun z => by cases z
/-! ### what is kept of a competition -/
def segs (k : Kg56.Skater) : Nat := k.short.isSome.toNat + k.free.isSome.toNat
def DictAt (A : Ads) (H F : Hp) (d : Addr) (k : Kg56.Skater) : Prop := ∃ kvs, H d = some (.dK kvs) ∧ kvs.length ≤ segs k ∧ ∀ b, SegAt A F (valV kvs (bk b)) (k.of b)
theorem segs_le (k : Kg56.Skater) : segs k ≤ 2 := by
  unfold segs
  have h1 := Bool.toNat_le k.short.isSome
  have h2 := Bool.toNat_le k.free.isSome
  omega
theorem DictAt.ov {A : Ads} {H F : Hp} {d : Addr} {k : Kg56.Skater} (h : DictAt A H F d k) : OvAt A H F (.ref d) k := by
  obtain ⟨kvs, h1, h2, h3⟩ := h
  exact ⟨d, kvs, rfl, h1, Nat.le_trans h2 (segs_le k), h3⟩
theorem DictAt.keep {A : Ads} {H H' F F' : Hp} {d : Addr} {k : Kg56.Skater} (h : DictAt A H F d k) (e : ∀ o, H d = some o → H' d = some o) (f : Ex F F') : DictAt A H' F' d k := by
  obtain ⟨kvs, h1, h2, h3⟩ := h
  exact ⟨kvs, e _ h1, h2, fun b => (h3 b).mono f⟩
/-- a program that is being skated; tl: where its elements stand -/
def PrAt (A : Ads) (H F : Hp) (pr tl : Addr) (w : Nat) (p : Kg56.Program) : Prop := ∃ dx mk us ms, H pr = some (.ins A.cProgram dx (pf w p tl mk)) ∧ H tl = some (.lst us) ∧ All2 (ToldAt A F) us p.elements ∧ F mk = some (.lst ms) ∧ All2 (fun v ns => ∃ a, v = .ref a ∧ F a = some (.lst (ns.map V.int))) ms p.marks
theorem PrAt.prog {A : Ads} {H F : Hp} {pr tl : Addr} {w : Nat} {p : Kg56.Program} (h : PrAt A H F pr tl w p) (e : Ex F H) : ProgAt A H H pr w p := by
  obtain ⟨dx, mk, us, ms, h1, h2, h3, h4, h5⟩ := h
  exact ⟨dx, tl, mk, us, ms, h1, h2, h3.mono fun _ _ => ToldAt.mono e, e _ _ h4, h5.mono fun v ns ⟨a, q1, q2⟩ => ⟨a, q1, e _ _ q2⟩⟩
theorem PrAt.keep {A : Ads} {H H' F F' : Hp} {pr tl : Addr} {w : Nat} {p : Kg56.Program} (h : PrAt A H F pr tl w p) (e1 : ∀ o, H pr = some o → H' pr = some o) (e2 : ∀ o, H tl = some o → H' tl = some o) (f : Ex F F') : PrAt A H' F' pr tl w p := by
  obtain ⟨dx, mk, us, ms, h1, h2, h3, h4, h5⟩ := h
  exact ⟨dx, mk, us, ms, e1 _ h1, e2 _ h2, h3.mono fun _ _ => ToldAt.mono f, f _ _ h4, h5.mono fun v ns ⟨a, q1, q2⟩ => ⟨a, q1, f _ _ q2⟩⟩
def cf (s : Kg56.State) (tf sk : Addr) (pv : V) : List (Str × V) := [("judges", .int (s.judges : Int)), ("factors", .ref tf), ("skated", .ref sk), ("program", pv)]
def NowAt (A : Ads) (M : Addr → Prop) (H F : Hp) (sk : Addr) (pv : V) : Option (Nat × Kg56.Program) → Prop
  | none => pv = .non
  | some x => ∃ pr tl, pv = .ref pr ∧ M pr ∧ M tl ∧ tl ≠ sk ∧ PrAt A H F pr tl x.1 x.2
/-- a competition's things; ds: each skater's dict -/
def CompAt (A : Ads) (M : Addr → Prop) (H F : Hp) (p : Addr) (s : Kg56.State) : Prop := ∃ dx tf sk pv ds, H p = some (.ins A.cCompetition dx (cf s tf sk pv)) ∧ F tf = some (.tup [.int (s.factors.1 : Int), .int (s.factors.2 : Int)]) ∧ M sk ∧ H sk = some (.lst (ds.map V.ref)) ∧
  ds.Nodup ∧ (∀ d ∈ ds, M d) ∧ All2 (DictAt A H F) ds s.skaters ∧ NowAt A M H F sk pv s.now
def ProgOk (j : Nat) (p : Kg56.Program) : Prop := (∀ t ∈ p.elements, ElemOk t.element ∧ t.grades.length = j ∧ ∀ z ∈ t.grades, -5 ≤ z ∧ z ≤ 5) ∧ p.elements.length ≤ 20 ∧ p.marks.length ≤ 3 ∧ ∀ r ∈ p.marks, r.length = j
structure SOk (s : Kg56.State) : Prop where
  judges : 3 ≤ s.judges ∧ s.judges ≤ 9
  factors : s.factors.1 ≤ 1000 ∧ s.factors.2 ≤ 1000
  skaters : s.skaters.length ≤ 30
  over : ∀ k ∈ s.skaters, ∀ b x, k.of b = some x → (∀ t ∈ x.1.elements, ElemOk t.element) ∧ x.1.elements.length ≤ 20
  now : ∀ w p, s.now = some (w, p) → w < s.skaters.length ∧ s.of w p.free = none ∧ ProgOk s.judges p
/-- ahead of any competition -/
def Bare (s : Kg56.State) : Prop := s.judges = 0 ∧ s.skaters = [] ∧ s.now = none
def both (M N : Addr → Prop) : Addr → Prop := fun b => M b ∨ N b
/-- **the desk**: M its own things that may change, N another's -/
def DeskAt (A : Ads) (M N : Addr → Prop) (H : Hp) (d : Addr) (s : Kg56.State) : Prop := ∃ dx c, M d ∧ H d = some (.ins A.cDesk dx [("competition", c)]) ∧ (∀ q, M q → H q ≠ none ∧ ¬ N q) ∧ (∀ q, N q → H q ≠ none) ∧
  ((c = .non ∧ Bare s) ∨ (SOk s ∧ ∃ p, c = .ref p ∧ M p ∧ CompAt A M H (fz (both M N) H) p s))
theorem fr_both {M M' N : Addr → Prop} {H H' : Hp} (f : Fr M M' H H') : Fr (both M N) (both M' N) H H' :=
  ⟨fun q o e hm => f.1 q o e fun z => hm (.inl z), fun q h => h.elim (fun z => .inl (f.2.1 q z)) .inr, fun q h => h.elim (fun z => (f.2.2.1 q z).elim (fun y => .inl (.inl y)) .inr) (fun z => .inl (.inr z)), f.2.2.2⟩
theorem fz_both {M M' N : Addr → Prop} {H H' : Hp} (f : Fr M M' H H') : Ex (fz (both M N) H) (fz (both M' N) H') := fz_fr (fr_both f)
theorem Fr.upd {M : Addr → Prop} {H : Hp} {q : Addr} {o : HO} (h : M q) : Fr M M H (upd H q o) := by
  refine ⟨fun b o' e hm => ?_, fun _ e => e, fun _ e => .inl e, fun b e => ?_⟩
  · rw [upd_ne (fun z => hm (by rw [z]; exact h))]
    exact e
  · by_cases z : b = q
    · rw [z, upd_same]; intro y; cases y
    · rw [upd_ne z]; exact e
theorem Fr.grow {M M' : Addr → Prop} {H : Hp} (h1 : ∀ q, M q → M' q) (h2 : ∀ q, M' q → M q ∨ H q = none) : Fr M M' H H := ⟨fun _ _ e _ => e, h1, h2, fun _ e => e⟩
/-- grown alone -/
theorem DeskAt.ext {A : Ads} {M N : Addr → Prop} {H H' : Hp} {d : Addr} {s : Kg56.State} (h : DeskAt A M N H d s) (e : Ex H H') : DeskAt A M N H' d s := by
  obtain ⟨dx, c, h1, h2, h3, h4, h5⟩ := h
  have st : ∀ q, H q ≠ none → H' q ≠ none := (Fr.ex (M := M) e).2.2.2
  have f := fz_both (N := N) (Fr.ex (M := M) e)
  refine ⟨dx, c, h1, e _ _ h2, fun q hq => ⟨st q (h3 q hq).1, (h3 q hq).2⟩, fun q hq => st q (h4 q hq), h5.imp id fun ⟨ok, p, q1, q2, cx, tf, sk, pv, ds, r1, r2, r3, r4, r5, r6, r7, r8⟩ => ⟨ok, p, q1, q2, cx, tf, sk, pv, ds, e _ _ r1, f _ _ r2, r3, e _ _ r4, r5, r6, r7.mono fun _ _ z => z.keep (fun o => e _ o) f, ?_⟩⟩
  cases hn : s.now with
  | none => rw [hn] at r8; exact r8
  | some x =>
    rw [hn] at r8
    obtain ⟨pr, tl, t1, t2, t3, t4, t5⟩ := r8
    exact ⟨pr, tl, t1, t2, t3, t4, t5.keep (fun o => e _ o) (fun o => e _ o) f⟩
/-- another's things alone have changed -/
theorem DeskAt.other {A : Ads} {M N : Addr → Prop} {H H' : Hp} {d : Addr} {s : Kg56.State} (h : DeskAt A M N H d s) (e : ∀ q, ¬ N q → H' q = H q) (e2 : ∀ q, N q → H' q ≠ none) : DeskAt A M N H' d s := by
  obtain ⟨dx, c, h1, h2, h3, h4, h5⟩ := h
  have f : fz (both M N) H' = fz (both M N) H := by
    funext b
    unfold fz
    by_cases z : both M N b
    · rw [if_pos z, if_pos z]
    · rw [if_neg z, if_neg z]
      exact e b fun y => z (.inr y)
  have m : ∀ q, M q → H' q = H q := fun q hq => e q (h3 q hq).2
  refine ⟨dx, c, h1, (m d h1).trans h2, fun q hq => ⟨by rw [m q hq]; exact (h3 q hq).1, (h3 q hq).2⟩, e2, h5.imp id fun ⟨ok, p, q1, q2, cx, tf, sk, pv, ds, r1, r2, r3, r4, r5, r6, r7, r8⟩ => ⟨ok, p, q1, q2, cx, tf, sk, pv, ds, (m p q2).trans r1, by rw [f]; exact r2, r3, (m sk r3).trans r4, r5, r6, ?_, ?_⟩⟩
  · rw [f]
    refine All2.mono_mem r7 fun a b ha hR => hR.keep (fun o q => (m a (r6 a ha)).trans q) (Ex.refl _)
  · rw [f]
    cases hn : s.now with
    | none => rw [hn] at r8; exact r8
    | some x =>
      rw [hn] at r8
      obtain ⟨pr, tl, t1, t2, t3, t4, t5⟩ := r8
      exact ⟨pr, tl, t1, t2, t3, t4, t5.keep (fun o q => (m pr t2).trans q) (fun o q => (m tl t3).trans q) (Ex.refl _)⟩
def refuse (A : Ads) (z : Int) : Addr := if z = -1 then A.cWrongValue else if z = -2 then A.cNothingOpen else if z = -3 then A.cStillSkating else if z = -4 then A.cDoesNotFit else A.cNoRoom
/-- behind a call: the list that is answered, or the refusal -/
def After (A : Ads) (M N : Addr → Prop) (H : Hp) (d : Addr) (r : Kg56.State × Kg56.Ans) (Q : VK) (E : XK) : Prop :=
  (0 ≤ r.2.value → ∀ M' H' l, Fr M M' H H' → DeskAt A M' N H' d r.1 → H l = none → ¬ M' l → H' l = some (.lst ((r.2.value :: r.2.out).map V.int)) → Q (.ref l) H') ∧ (r.2.value < 0 → ∀ H', Ex H H' → E (.ref (refuse A r.2.value)) none H')
/-! ### promises -/
def sp_Desk_skated_by_each (A : Ads) : Sp := fun vs H Q _ => ∃ d dx c, vs = [.ref d] ∧ H d = some (.ins A.cDesk dx [("competition", c)]) ∧
  (c = .non ∨ ∃ (p cx : Addr) (a b : V) (sk : Addr) (pv : V), c = .ref p ∧ H p = some (.ins A.cCompetition cx [("judges", a), ("factors", b), ("skated", .ref sk), ("program", pv)])) ∧
  ∀ l H', Ex H H' → (c = .non → H' l = some (.lst [])) → (∀ (p cx : Addr) (a b : V) (sk : Addr) (pv : V), c = .ref p → H p = some (.ins A.cCompetition cx [("judges", a), ("factors", b), ("skated", .ref sk), ("program", pv)]) → l = sk) → Q (.ref l) H'
def sp_Desk_open_program (A : Ads) : Sp := fun vs H Q E => ∃ d dx c, vs = [.ref d] ∧ H d = some (.ins A.cDesk dx [("competition", c)]) ∧
  ((c = .non ∧ E (.ref A.cNothingOpen) none H) ∨ (∃ p cx a b sk pv, c = .ref p ∧ H p = some (.ins A.cCompetition cx [("judges", a), ("factors", b), ("skated", sk), ("program", pv)]) ∧ (pv = .non → E (.ref A.cNothingOpen) none H) ∧ (pv ≠ .non → Q pv H)))
def whoOk (s : Kg56.State) (w f : Int) : Bool := Kg56.within f 0 1 && (decide (0 ≤ w) && decide (w < (s.skaters.length : Int)))
def sp_Desk_skated_by (A : Ads) : Sp := fun vs H Q E => ∃ d M N s w f, vs = [.ref d, .int w, .int f] ∧ DeskAt A M N H d s ∧ (whoOk s w f = false → ∀ H', Ex H H' → E (.ref A.cWrongValue) none H') ∧ (whoOk s w f = true → ∀ v H' k, Ex H H' → s.skaters[w.toNat]? = some k → OvAt A H' H' v k → Q v H')
theorem comp_there {A : Ads} {M : Addr → Prop} {H F : Hp} {c : V} {s : Kg56.State} (h : (c = .non ∧ Bare s) ∨ (SOk s ∧ ∃ p, c = .ref p ∧ M p ∧ CompAt A M H F p s)) :
    c = .non ∨ ∃ (p cx : Addr) (a b : V) (sk : Addr) (pv : V), c = .ref p ∧ H p = some (.ins A.cCompetition cx [("judges", a), ("factors", b), ("skated", .ref sk), ("program", pv)]) := by
  rcases h with ⟨h, _⟩ | ⟨_, p, rfl, _, cx, tf, sk, pv, ds, r1, _⟩
  · exact .inl h
  · exact .inr ⟨p, cx, _, _, sk, pv, rfl, r1⟩
theorem each_at {A : Ads} {M N : Addr → Prop} {H H1 : Hp} {c : V} {s : Kg56.State} {l : Addr} (h : (c = .non ∧ Bare s) ∨ (SOk s ∧ ∃ p, c = .ref p ∧ M p ∧ CompAt A M H (fz (both M N) H) p s)) (e : Ex H H1) (g1 : c = .non → H1 l = some (.lst []))
    (g2 : ∀ (p cx : Addr) (a b : V) (sk : Addr) (pv : V), c = .ref p → H p = some (.ins A.cCompetition cx [("judges", a), ("factors", b), ("skated", .ref sk), ("program", pv)]) → l = sk) : ∃ us, H1 l = some (.lst us) ∧ All2 (OvAt A H1 H1) us s.skaters := by
  rcases h with ⟨h, hb⟩ | ⟨ok, p, rfl, _, cx, tf, sk, pv, ds, r1, r2, r3, r4, r5, r6, r7, r8⟩
  · exact ⟨[], g1 h, by rw [hb.2.1]; exact .nil⟩
  · rw [g2 p cx _ _ sk pv rfl r1]
    refine ⟨_, e _ _ r4, ?_⟩
    have f : Ex (fz (both M N) H) H1 := Ex.trans fz_in e
    refine All2.lmap (r7.mono fun a b q => ?_)
    exact (q.ov.mono e f)
theorem skaters_le {A : Ads} {M N : Addr → Prop} {H : Hp} {d : Addr} {s : Kg56.State} (h : DeskAt A M N H d s) : s.skaters.length ≤ 30 := by
  obtain ⟨_, _, _, _, _, _, ⟨_, hb⟩ | ⟨ok, _⟩⟩ := h
  · rw [hb.2.1]; exact Nat.zero_le _
  · exact ok.skaters
section
variable {P : Program} {w : World} {K : PySem.W.Frag} {mg : Str → Option Value} {base : Heap} {A : Ads}
theorem ok_Desk_skated_by_each (T : Txt K w mg A) (F0 : FunM K A.cDesk "skated_by_each" "Desk.skated_by_each" st_Desk_skated_by_each) : CalM P w K mg base CX0 1 A.cDesk "skated_by_each" ["self"] (sp_Desk_skated_by_each A) := by
  obtain ⟨f, fd, F, gF⟩ := F0
  refine ⟨f, fd, ?_, gF, F.binds (ps := ["self"]) fun _ _ _ _ _ _ us hl => match us, hl with | [_], _ => rfl⟩
  refine F.ok sc_Desk_skated_by_each (fun vs H Q E h => by first | (obtain ⟨rfl, _⟩ := h; rfl) | (obtain ⟨_, rfl, _⟩ := h; rfl) | (obtain ⟨_, _, rfl, _⟩ := h; rfl) | (obtain ⟨_, _, _, rfl, _⟩ := h; rfl) | (obtain ⟨_, _, _, _, rfl, _⟩ := h; rfl) | (obtain ⟨_, _, _, _, _, rfl, _⟩ := h; rfl) | (obtain ⟨_, _, _, _, _, _, rfl, _⟩ := h; rfl) | (obtain ⟨_, _, _, _, _, _, _, rfl, _⟩ := h; rfl) | (obtain ⟨_, _, _, _, _, _, _, _, rfl, _⟩ := h; rfl) | (obtain ⟨_, _, _, _, _, _, _, _, _, rfl, _⟩ := h; rfl) | (obtain ⟨_, _, _, _, _, _, _, _, _, _, rfl, _⟩ := h; rfl)) (fun cdv AA outer s H vs Q E hr h => ⟨_, (pss_cons (ps_if (pt_cmpR op_isN (pe_fld (pv 0) rfl) pe_non (nomark _)) (pss_one (ps_ret (pe_lst pa_nil))) pss_nil)
      (pss_one (ps_ret (pe_fld (pe_fld (pv 0) rfl) rfl)))), ?_⟩)
  obtain ⟨d, dx, c, rfl, hd, h, k⟩ := h
  refine ⟨_, rfl, d, _, dx, _, _, rfl, hd, T.cl_Desk, T.na_Desk_competition, rfl, rfl, _, rfl, ?_⟩
  rcases h with rfl | ⟨p, cx, a, b, sk, pv, rfl, hp⟩
  · refine t_yes (by decide) ⟨Nat.zero_le _, fun l hl => ?_⟩
    exact k l _ (Ex.one hl) (fun _ => upd_same) fun _ _ _ _ _ _ z => by cases z
  · refine t_no non_no ?_
    refine ⟨_, rfl, d, _, dx, _, _, rfl, hd, T.cl_Desk, T.na_Desk_competition, rfl, p, _, cx, _, _, rfl, hp, T.cl_Competition, T.na_Competition_skated, rfl, k sk H (Ex.refl _) (fun z => by cases z) fun p' cx' a' b' sk' pv' q1 q2 => ?_⟩
    cases q1
    rw [hp] at q2
    injection q2 with q2
    injection q2 with _ _ q2
    simp only [List.cons.injEq, Prod.mk.injEq, true_and, and_true] at q2
    exact V.ref.inj q2.2.2.1
theorem ok_Desk_open_program (T : Txt K w mg A) (F0 : FunM K A.cDesk "open_program" "Desk.open_program" st_Desk_open_program) : CalM P w K mg base (L2.CX P w) 1 A.cDesk "open_program" ["self"] (sp_Desk_open_program A) := by
  obtain ⟨f, fd, F, gF⟩ := F0
  refine ⟨f, fd, ?_, gF, F.binds (ps := ["self"]) fun _ _ _ _ _ _ us hl => match us, hl with | [_], _ => rfl⟩
  refine F.okX sc_Desk_open_program (fun vs H Q E h => by first | (obtain ⟨rfl, _⟩ := h; rfl) | (obtain ⟨_, rfl, _⟩ := h; rfl) | (obtain ⟨_, _, rfl, _⟩ := h; rfl) | (obtain ⟨_, _, _, rfl, _⟩ := h; rfl) | (obtain ⟨_, _, _, _, rfl, _⟩ := h; rfl) | (obtain ⟨_, _, _, _, _, rfl, _⟩ := h; rfl) | (obtain ⟨_, _, _, _, _, _, rfl, _⟩ := h; rfl) | (obtain ⟨_, _, _, _, _, _, _, rfl, _⟩ := h; rfl) | (obtain ⟨_, _, _, _, _, _, _, _, rfl, _⟩ := h; rfl) | (obtain ⟨_, _, _, _, _, _, _, _, _, rfl, _⟩ := h; rfl) | (obtain ⟨_, _, _, _, _, _, _, _, _, _, rfl, _⟩ := h; rfl)) (fun cdv AA outer s H vs Q E hr h => ⟨_, (pss_cons (ps_if (PW.pt (pw_or (pt_cmpR op_isN (pe_fld (pv 0) rfl) pe_non (nomark _)) (pw_or1 (pt_cmpR op_isN (pe_fld (pe_fld (pv 0) rfl) rfl) pe_non (nomark _))))) (pss_one (ps_raise rfl (takes_of rfl rfl rfl rfl) (pmk_own0 PySem.F.excBase_Exception T.x_NothingOpen T.g_NothingOpen T.k_NothingOpen (raises_own T.s_NothingOpen T.t_NothingOpen) (by exact rfl)))) pss_nil)
      (pss_one (ps_ret (pe_fld (pe_fld (pv 0) rfl) rfl)))), ?_⟩)
  obtain ⟨d, dx, c, rfl, hd, h⟩ := h
  refine ⟨_, rfl, d, _, dx, _, _, rfl, hd, T.cl_Desk, T.na_Desk_competition, rfl, rfl, _, rfl, ?_⟩
  rcases h with ⟨rfl, k⟩ | ⟨p, cx, a, b, sk, pv, rfl, hp, k1, k2⟩
  · exact t_yes (by decide) k
  · refine t_no non_no ?_
    refine ⟨_, rfl, d, _, dx, _, _, rfl, hd, T.cl_Desk, T.na_Desk_competition, rfl, p, _, cx, _, _, rfl, hp, T.cl_Competition, T.na_Competition_program, rfl, rfl, _, rfl, ?_⟩
    by_cases hv : pv = .non
    · exact t_yes (decide_eq_true hv) (k1 hv)
    · refine t_no (decide_eq_false hv) ?_
      exact ⟨_, rfl, d, _, dx, _, _, rfl, hd, T.cl_Desk, T.na_Desk_competition, rfl, p, _, cx, _, _, rfl, hp, T.cl_Competition, T.na_Competition_program, rfl, k2 hv⟩
theorem ok_Desk_skated_by (T : Txt K w mg A) (F0 : FunM K A.cDesk "skated_by" "Desk.skated_by" st_Desk_skated_by)
    (c_check_number : CalF P w K mg base (L2.CX P w) 1 "check_number" ["number", "least", "most"] (sp_check_number A))
    (c_Desk_skated_by_each : CalM P w K mg base CX0 1 A.cDesk "skated_by_each" ["self"] (sp_Desk_skated_by_each A)) : CalM P w K mg base (L2.CX P w) 2 A.cDesk "skated_by" ["self", "skater", "free"] (sp_Desk_skated_by A) := by
  obtain ⟨f_check_number, fd_check_number, G_check_number, mg_check_number, kp_check_number, b_check_number⟩ := c_check_number
  obtain ⟨f_Desk_skated_by_each, fd_Desk_skated_by_each, G_Desk_skated_by_each, m_Desk_skated_by_each, b_Desk_skated_by_each⟩ := c_Desk_skated_by_each
  obtain ⟨f, fd, F, gF⟩ := F0
  refine ⟨f, fd, ?_, gF, F.binds (ps := ["self", "skater", "free"]) fun _ _ _ _ _ _ us hl => match us, hl with | [_, _, _], _ => rfl⟩
  refine F.okX sc_Desk_skated_by (fun vs H Q E h => by first | (obtain ⟨rfl, _⟩ := h; rfl) | (obtain ⟨_, rfl, _⟩ := h; rfl) | (obtain ⟨_, _, rfl, _⟩ := h; rfl) | (obtain ⟨_, _, _, rfl, _⟩ := h; rfl) | (obtain ⟨_, _, _, _, rfl, _⟩ := h; rfl) | (obtain ⟨_, _, _, _, _, rfl, _⟩ := h; rfl) | (obtain ⟨_, _, _, _, _, _, rfl, _⟩ := h; rfl) | (obtain ⟨_, _, _, _, _, _, _, rfl, _⟩ := h; rfl) | (obtain ⟨_, _, _, _, _, _, _, _, rfl, _⟩ := h; rfl) | (obtain ⟨_, _, _, _, _, _, _, _, _, rfl, _⟩ := h; rfl) | (obtain ⟨_, _, _, _, _, _, _, _, _, _, rfl, _⟩ := h; rfl)) (fun cdv AA outer s H vs Q E hr h => ⟨_, (pss_cons (ps_expr (pe_call G_check_number (hr.mono (by decide)) rfl mg_check_number kp_check_number b_check_number .nil (passes_call (takes_of rfl rfl rfl rfl) (fun _ _ _ _ h => h)) (pa_cons (pv 2) (pa_cons (pe_globI T.k_SHORT) (pa_cons (pe_globI T.k_FREE) pa_nil)))))
      (pss_cons (ps_set (i := 3) sc_Desk_skated_by.nd rfl (Or.inl rfl) (pe_meth0 (pv 0) T.cl_Desk m_Desk_skated_by_each G_Desk_skated_by_each (hr.mono (by decide)) b_Desk_skated_by_each .nil pass0))
      (pss_cons (ps_expr (pe_call G_check_number (hr.mono (by decide)) rfl mg_check_number kp_check_number b_check_number .nil (passes_call (takes_of rfl rfl rfl rfl) (fun _ _ _ _ h => h)) (pa_cons (pv 1) (pa_cons pe_int (pa_cons (pe_op op_sub (pe_callB call_len_seq (by rfl) T.b_len (by decide +kernel) (pa_cons (pv 3) pa_nil)) pe_int) pa_nil)))))
      (pss_one (ps_ret (pe_ix ix_list (pv 3) (pv 1) (fun _ _ => rfl))))))), ?_⟩)
  obtain ⟨d, M, N, s0, w0, f0, rfl, hD, e, k⟩ := h
  have hD' := hD
  obtain ⟨dx, c, m1, hd, m3, m4, hc⟩ := hD'
  refine ⟨_, rfl, f0, 0, 1, rfl, fun hf => ?_, fun hf => e ?_ H (Ex.refl _)⟩
  · have wo : whoOk s0 w0 f0 = (decide (0 ≤ w0) && decide (w0 < (s0.skaters.length : Int))) := by
      unfold whoOk Kg56.within
      rw [decide_eq_true hf.1, decide_eq_true hf.2]
      rfl
    refine ⟨_, rfl, d, dx, _, rfl, hd, rfl, d, dx, c, rfl, hd, comp_there hc, fun l H1 e1 g1 g2 => ?_⟩
    obtain ⟨us, h1, hA⟩ := each_at hc e1 g1 g2
    have hl := hA.len
    refine ⟨_, rfl, _, rfl, l, _, rfl, .inl (SqL.of h1), _, _, rfl, rfl, w0, 0, _, rfl, fun hw => ?_, fun hw => e ?_ H1 e1⟩
    · have hw0 : 0 ≤ w0 ∧ w0 < (s0.skaters.length : Int) := by omega
      obtain ⟨i, rfl⟩ : ∃ i : Nat, w0 = (i : Int) := ⟨w0.toNat, by omega⟩
      obtain ⟨kk, hk⟩ : ∃ kk, s0.skaters[i]? = some kk := ⟨_, List.getElem?_eq_getElem (by omega)⟩
      obtain ⟨v, hv, hov⟩ := hA.get2 hk
      refine ⟨_, rfl, _, rfl, l, _, (i : Int), v, rfl, rfl, SqL.of h1, atI_nat hv, k ?_ v H1 kk e1 hk hov⟩
      rw [wo, decide_eq_true hw0.1, decide_eq_true hw0.2]
      rfl
    · rw [wo]
      by_cases q : 0 ≤ w0
      · rw [decide_eq_true q, decide_eq_false (by omega)]
        rfl
      · rw [decide_eq_false q]
        rfl
  · unfold whoOk Kg56.within
    by_cases q : 0 ≤ f0
    · rw [decide_eq_true q, decide_eq_false (by omega)]
      rfl
    · rw [decide_eq_false q]
      rfl
end
end Sk
set_option maxHeartbeats 2000000
/-! # The desk: begin, skater, read, places, sheet -/
namespace Sk
open PySem PySem.Spec PyProof.Rows L2
open Evl (Ex)
abbrev st_Desk_begin : Stmt := inClass (top 109) 1
theorem sc_Desk_begin : FnScope ["self", "judges", "short", "free"] ["self", "judges", "short", "free"] (defScope st_Desk_begin) := ⟨rfl, rfl, rfl, by decide +kernel, rfl, by decide +kernel, by decide +kernel⟩
abbrev st_Desk_add_skater : Stmt := inClass (top 109) 2
theorem sc_Desk_add_skater : FnScope ["self", "skated"] ["self"] (defScope st_Desk_add_skater) := ⟨rfl, rfl, rfl, by decide +kernel, rfl, by decide +kernel, by decide +kernel⟩
abbrev st_Desk_read : Stmt := inClass (top 109) 3
theorem sc_Desk_read : FnScope ["self", "text"] ["self", "text"] (defScope st_Desk_read) := ⟨rfl, rfl, rfl, by decide +kernel, rfl, by decide +kernel, by decide +kernel⟩
abbrev st_Desk_segment_places : Stmt := inClass (top 109) 10
theorem sc_Desk_segment_places : FnScope ["self", "free"] ["self", "free"] (defScope st_Desk_segment_places) := ⟨rfl, rfl, rfl, by decide +kernel, rfl, by decide +kernel, by decide +kernel⟩
abbrev st_Desk_places_in_all : Stmt := inClass (top 109) 11
theorem sc_Desk_places_in_all : FnScope ["self"] ["self"] (defScope st_Desk_places_in_all) := ⟨rfl, rfl, rfl, by decide +kernel, rfl, by decide +kernel, by decide +kernel⟩
abbrev st_Desk_sheet : Stmt := inClass (top 109) 9
theorem sc_Desk_sheet : FnScope ["self", "skater", "free", "over", "judged", "answer", "worth", "made"] ["self", "skater", "free"] (defScope st_Desk_sheet) := ⟨rfl, rfl, rfl, by decide +kernel, rfl, by decide +kernel, by decide +kernel⟩
def sp_Desk_begin (A : Ads) : Sp := fun vs H Q E => ∃ d M N s j a b, vs = [.ref d, .int j, .int a, .int b] ∧ DeskAt A M N H d s ∧ After A M N H d (Kg56.spec s (.begin_ j a b)) Q E
def sp_Desk_add_skater (A : Ads) : Sp := fun vs H Q E => ∃ d M N s, vs = [.ref d] ∧ DeskAt A M N H d s ∧ After A M N H d (Kg56.spec s .skater) Q E
def sp_Desk_read (A : Ads) : Sp := fun vs H Q E => ∃ d M N s a ns, vs = [.ref d, .ref a] ∧ H a = some (.lst (ns.map V.int)) ∧ DeskAt A M N H d s ∧ After A M N H d (Kg56.spec s (.read ns)) Q E
def sp_Desk_segment_places (A : Ads) : Sp := fun vs H Q E => ∃ d M N s f, vs = [.ref d, .int f] ∧ DeskAt A M N H d s ∧ After A M N H d (Kg56.spec s (.places f)) Q E
def sp_Desk_places_in_all (A : Ads) : Sp := fun vs H Q E => ∃ d M N s, vs = [.ref d] ∧ DeskAt A M N H d s ∧ After A M N H d (Kg56.spec s .all) Q E
def sp_Desk_sheet (A : Ads) : Sp := fun vs H Q E => ∃ d M N s w f, vs = [.ref d, .int w, .int f] ∧ DeskAt A M N H d s ∧ After A M N H d (Kg56.spec s (.sheet w f)) Q E
theorem After.no {A : Ads} {M N : Addr → Prop} {H : Hp} {d : Addr} {r : Kg56.State × Kg56.Ans} {Q : VK} {E : XK} (h : After A M N H d r Q E) {s : Kg56.State} {z : Int} (e : r = (s, Kg56.num z)) (hz : z < 0) : ∀ H', Ex H H' → E (.ref (refuse A z)) none H' := by
  subst e
  exact h.2 hz
theorem After.yes {A : Ads} {M N : Addr → Prop} {H : Hp} {d : Addr} {r : Kg56.State × Kg56.Ans} {Q : VK} {E : XK} (h : After A M N H d r Q E) {s : Kg56.State} {z : Int} {o : List Int} (e : r = (s, ⟨z, o⟩)) (hz : 0 ≤ z) :
    ∀ M' H' l, Fr M M' H H' → DeskAt A M' N H' d s → H l = none → ¬ M' l → H' l = some (.lst ((z :: o).map V.int)) → Q (.ref l) H' := by
  subst e
  exact h.1 hz
theorem After.list {A : Ads} {M M' N : Addr → Prop} {H H4 : Hp} {d l : Addr} {r : Kg56.State × Kg56.Ans} {Q : VK} {E : XK} (h : After A M N H d r Q E) {s : Kg56.State} {z : Int} {o : List Int} (e : r = (s, ⟨z, o⟩)) (hz : 0 ≤ z)
    (f : Fr M M' H H4) (D : DeskAt A M' N H4 d s) (hl : H4 l = none) : Q (.ref l) (upd H4 l (.lst ((z :: o).map V.int))) := by
  refine h.yes e hz M' _ l (f.trans (Fr.ex (Ex.one hl))) (D.ext (Ex.one hl)) ?_ (fun m => ?_) upd_same
  · cases q : H l with
    | none => rfl
    | some u => exact absurd hl (f.2.2.2 l (by rw [q]; intro y; cases y))
  · obtain ⟨_, _, _, _, h3, _⟩ := D
    exact (h3 l m).1 hl
theorem After.no1 {A : Ads} {M N : Addr → Prop} {H : Hp} {d : Addr} {r : Kg56.State × Kg56.Ans} {Q : VK} {E : XK} (h : After A M N H d r Q E) {s : Kg56.State} (e : r = (s, Kg56.num (-1))) : ∀ H', Ex H H' → E (.ref A.cWrongValue) none H' := h.no e (by decide)
theorem After.no2 {A : Ads} {M N : Addr → Prop} {H : Hp} {d : Addr} {r : Kg56.State × Kg56.Ans} {Q : VK} {E : XK} (h : After A M N H d r Q E) {s : Kg56.State} (e : r = (s, Kg56.num (-2))) : ∀ H', Ex H H' → E (.ref A.cNothingOpen) none H' := h.no e (by decide)
theorem After.no3 {A : Ads} {M N : Addr → Prop} {H : Hp} {d : Addr} {r : Kg56.State × Kg56.Ans} {Q : VK} {E : XK} (h : After A M N H d r Q E) {s : Kg56.State} (e : r = (s, Kg56.num (-3))) : ∀ H', Ex H H' → E (.ref A.cStillSkating) none H' := h.no e (by decide)
theorem After.no4 {A : Ads} {M N : Addr → Prop} {H : Hp} {d : Addr} {r : Kg56.State × Kg56.Ans} {Q : VK} {E : XK} (h : After A M N H d r Q E) {s : Kg56.State} (e : r = (s, Kg56.num (-4))) : ∀ H', Ex H H' → E (.ref A.cDoesNotFit) none H' := h.no e (by decide)
theorem After.no5 {A : Ads} {M N : Addr → Prop} {H : Hp} {d : Addr} {r : Kg56.State × Kg56.Ans} {Q : VK} {E : XK} (h : After A M N H d r Q E) {s : Kg56.State} (e : r = (s, Kg56.num (-5))) : ∀ H', Ex H H' → E (.ref A.cNoRoom) none H' := h.no e (by decide)
theorem text_fine {ns : List Int} (h : Kg56.textOk ns = true) : ns.length ≤ 40 ∧ ∀ n ∈ ns, 0 ≤ n ∧ n ≤ 255 := by
  unfold Kg56.textOk Kg56.within at h
  rw [Bool.and_eq_true, decide_eq_true_eq, List.all_eq_true] at h
  refine ⟨h.2, fun n hn => ?_⟩
  have := h.1 n hn
  rw [Bool.and_eq_true, decide_eq_true_eq, decide_eq_true_eq] at this
  exact this
theorem elem_fine {t : List Nat} {e : Kg56.Element} (h : Kg56.element? t = some e) : ElemOk e := by
  rw [← elem_is] at h
  exact (elem_signs h).2
theorem wi {z a b : Int} : Kg56.within z a b = true ↔ a ≤ z ∧ z ≤ b := by
  unfold Kg56.within
  rw [Bool.and_eq_true, decide_eq_true_eq, decide_eq_true_eq]
theorem wf {z a b : Int} (h : ¬ (a ≤ z ∧ z ≤ b)) : Kg56.within z a b = false := by
  cases e : Kg56.within z a b with
  | false => rfl
  | true => exact absurd (wi.mp e) h
theorem foot {M M' N : Addr → Prop} {H H' : Hp} (f : Fr M M' H H') (h3 : ∀ q, M q → H q ≠ none ∧ ¬ N q) (h4 : ∀ q, N q → H q ≠ none) (new : ∀ q, M' q → ¬ M q → H' q ≠ none) : (∀ q, M' q → H' q ≠ none ∧ ¬ N q) ∧ (∀ q, N q → H' q ≠ none) := by
  refine ⟨fun q hq => ?_, fun q hq => f.2.2.2 q (h4 q hq)⟩
  by_cases c : M q
  · exact ⟨f.2.2.2 q (h3 q c).1, (h3 q c).2⟩
  · refine ⟨new q hq c, fun hn => ?_⟩
    rcases f.2.2.1 q hq with z | z
    · exact c z
    · exact h4 q hn z
theorem far {M N : Addr → Prop} {H : Hp} (h3 : ∀ q, M q → H q ≠ none ∧ ¬ N q) (h4 : ∀ q, N q → H q ≠ none) {q : Addr} (h : H q = none) : ¬ M q ∧ ¬ N q := ⟨fun z => (h3 q z).1 h, fun z => h4 q z h⟩
theorem bit {f : Int} (h : 0 ≤ f ∧ f ≤ 1) : ∃ b : Bool, V.int f = kV (bk b) ∧ (f == 1) = b := by
  by_cases z : f = 1
  · exact ⟨true, by rw [z]; rfl, by rw [z]; rfl⟩
  · have : f = 0 := by omega
    exact ⟨false, by rw [this]; rfl, by rw [this]; rfl⟩
section
variable {P : Program} {w : World} {K : PySem.W.Frag} {mg : Str → Option Value} {base : Heap} {A : Ads}
theorem ok_Desk_begin (T : Txt K w mg A) (F0 : FunM K A.cDesk "begin" "Desk.begin" st_Desk_begin)
    (c_check_number : CalF P w K mg base (L2.CX P w) 1 "check_number" ["number", "least", "most"] (sp_check_number A))
    (c_Competition_init : CalI P w K mg base CX0 1 A.cCompetition ["self", "judges", "short", "free"] (sp_Competition_init A)) : CalM P w K mg base (L2.CX P w) 3 A.cDesk "begin" ["self", "judges", "short", "free"] (sp_Desk_begin A) := by
  obtain ⟨f_check_number, fd_check_number, G_check_number, mg_check_number, kp_check_number, b_check_number⟩ := c_check_number
  obtain ⟨f_Competition_init, fd_Competition_init, G_Competition_init, M_Competition, b_Competition_init⟩ := c_Competition_init
  obtain ⟨f, fd, F, gF⟩ := F0
  refine ⟨f, fd, ?_, gF, F.binds (ps := ["self", "judges", "short", "free"]) fun _ _ _ _ _ _ us hl => match us, hl with | [_, _, _, _], _ => rfl⟩
  refine F.okX sc_Desk_begin (fun vs H Q E h => by first | (obtain ⟨rfl, _⟩ := h; rfl) | (obtain ⟨_, rfl, _⟩ := h; rfl) | (obtain ⟨_, _, rfl, _⟩ := h; rfl) | (obtain ⟨_, _, _, rfl, _⟩ := h; rfl) | (obtain ⟨_, _, _, _, rfl, _⟩ := h; rfl) | (obtain ⟨_, _, _, _, _, rfl, _⟩ := h; rfl) | (obtain ⟨_, _, _, _, _, _, rfl, _⟩ := h; rfl) | (obtain ⟨_, _, _, _, _, _, _, rfl, _⟩ := h; rfl) | (obtain ⟨_, _, _, _, _, _, _, _, rfl, _⟩ := h; rfl) | (obtain ⟨_, _, _, _, _, _, _, _, _, rfl, _⟩ := h; rfl) | (obtain ⟨_, _, _, _, _, _, _, _, _, _, rfl, _⟩ := h; rfl)) (fun cdv AA outer s H vs Q E hr h => ⟨_, (pss_cons (ps_expr (pe_call G_check_number (hr.mono (by decide)) rfl mg_check_number kp_check_number b_check_number .nil (passes_call (takes_of rfl rfl rfl rfl) (fun _ _ _ _ h => h)) (pa_cons (pv 1) (pa_cons pe_int (pa_cons pe_int pa_nil)))))
      (pss_cons (ps_expr (pe_call G_check_number (hr.mono (by decide)) rfl mg_check_number kp_check_number b_check_number .nil (passes_call (takes_of rfl rfl rfl rfl) (fun _ _ _ _ h => h)) (pa_cons (pv 2) (pa_cons pe_int (pa_cons pe_int pa_nil)))))
      (pss_cons (ps_expr (pe_call G_check_number (hr.mono (by decide)) rfl mg_check_number kp_check_number b_check_number .nil (passes_call (takes_of rfl rfl rfl rfl) (fun _ _ _ _ h => h)) (pa_cons (pv 3) (pa_cons pe_int (pa_cons pe_int pa_nil)))))
      (pss_cons (ps_fld (pv 0) (pe_make M_Competition G_Competition_init (hr.mono (by decide)) rfl T.g_Competition b_Competition_init .nil pass0 (pa_cons (pv 1) (pa_cons (pv 2) (pa_cons (pv 3) pa_nil)))) rfl)
      (pss_one (ps_ret (pe_lst (pa_cons pe_int pa_nil)))))))), ?_⟩)
  obtain ⟨d, M, N, s0, j, a, b, rfl, hD, hk⟩ := h
  have un : Kg56.spec s0 (.begin_ j a b) = if (Kg56.within j 3 9 && (Kg56.within a 1 1000 && Kg56.within b 1 1000)) = false then (s0, Kg56.num (-1)) else (⟨j.toNat, (a.toNat, b.toNat), [], none⟩, Kg56.num 0) := rfl
  have no : (Kg56.within j 3 9 && (Kg56.within a 1 1000 && Kg56.within b 1 1000)) = false → ∀ H', Ex H H' → E (.ref A.cWrongValue) none H' := fun hf => hk.no (un.trans (if_pos hf)) (by decide)
  refine ⟨_, rfl, j, 3, 9, rfl, fun hj => ?_, fun hj => no (by rw [wf hj]; rfl) H (Ex.refl _)⟩
  refine ⟨_, rfl, a, 1, 1000, rfl, fun ha => ?_, fun ha => no (by rw [wf ha, Bool.false_and, Bool.and_false]) H (Ex.refl _)⟩
  refine ⟨_, rfl, b, 1, 1000, rfl, fun hb => ?_, fun hb => no (by rw [wf hb, Bool.and_false, Bool.and_false]) H (Ex.refl _)⟩
  have yes := hk.yes (un.trans (if_neg (by rw [wi.mpr hj, wi.mpr ha, wi.mpr hb]; decide))) (show (0 : Int) ≤ 0 by decide)
  obtain ⟨dx, c, m1, hd, m3, m4, hc⟩ := hD
  refine ⟨_, rfl, _, rfl, _, rfl, ?_⟩
  intro x dx2 nx nd ne
  refine ⟨.int j, .int a, .int b, made1 (vs := [.int j, .int a, .int b]) nx nd fun H0 H3 hx0 e0 e3 hP => ⟨rfl, ?_⟩⟩
  obtain ⟨t, sl, ht, hsl, hne, h3t, h3l, h3x⟩ := hP
  refine ⟨_, rfl, d, _, dx, _, rfl, e3 _ _ hd, T.cl_Desk, T.na_Desk_competition, by show 1 < 1000; decide, ?_⟩
  refine ⟨by show 1 ≤ sizeLine; decide, fun l hl => ?_⟩
  have dnx : d ≠ x := ne_of_none hd nx
  have t0 : H t = none := Evl.fresh_back e0 ht
  have l0 : H sl = none := Evl.fresh_back e0 hsl
  have txn : t ≠ x := fun z => hx0 (by rw [← z]; exact ht)
  have lxn : sl ≠ x := fun z => hx0 (by rw [← z]; exact hsl)
  have dnt : t ≠ d := fun z => ne_of_none hd t0 z.symm
  have dnl : sl ≠ d := fun z => ne_of_none hd l0 z.symm
  have g0 : Fr M (fun q => M q ∨ q = x ∨ q = sl) H H := Fr.grow (fun q => .inl) fun q z => z.imp id fun z => z.elim (fun z => by rw [z]; exact nx) fun z => by rw [z]; exact l0
  have g := (g0.trans (Fr.ex e3)).trans ((Fr.upd (o := .ins A.cDesk dx (putF "competition" (.ref x) [("competition", c)])) (.inl m1)).trans (Fr.ex (Ex.one (o := .lst [.int 0]) hl)))
  have at_ : ∀ {q : Addr} {o : HO}, q ≠ d → H3 q = some o → (upd (upd H3 d (.ins A.cDesk dx (putF "competition" (.ref x) [("competition", c)]))) l (.lst [.int 0])) q = some o := fun h1 h2 => up_at ((upd_ne h1).trans h2) hl
  have ft := foot g m3 m4 fun q h1 h2 => by
    rcases h1 with h1 | rfl | rfl
    · exact absurd h1 h2
    · rw [at_ (Ne.symm dnx) h3x]; intro z; cases z
    · rw [at_ dnl h3l]; intro z; cases z
  have hl0 : H l = none := Evl.fresh_back e3 (by
    by_cases z : l = d
    · rw [z, upd_same] at hl; cases hl
    · rw [upd_ne z] at hl; exact hl)
  have ft_ := far m3 m4 t0
  have fl_ := far m3 m4 hl0
  refine yes _ _ l g ⟨dx, .ref x, .inl m1, up_at (upd_same.trans rfl) hl, ft.1, ft.2, .inr ⟨?_, x, rfl, .inr (.inl rfl), dx2, t, sl, .non, [], ?_, ?_, .inr (.inr rfl), at_ dnl h3l, List.nodup_nil, (fun _ z => nomatch z), .nil, rfl⟩⟩ hl0 ?_ upd_same
  · exact ⟨by constructor <;> (show _ ≤ _) <;> dsimp only <;> omega, by constructor <;> dsimp only <;> omega, Nat.zero_le _, (fun _ z => nomatch z), (fun _ _ z => nomatch z)⟩
  · rw [at_ (Ne.symm dnx) h3x]
    have e1 : ((j.toNat : Nat) : Int) = j := by omega
    show _ = some (HO.ins A.cCompetition dx2 [("judges", .int ((j.toNat : Nat) : Int)), ("factors", .ref t), ("skated", .ref sl), ("program", .non)])
    rw [e1]
  · refine fz_of (fun z => ?_) ?_
    · rcases z with (z | z | z) | z
      · exact ft_.1 z
      · exact txn z
      · exact hne z.symm
      · exact ft_.2 z
    · rw [at_ dnt h3t]
      have e1 : ((a.toNat : Nat) : Int) = a := by omega
      have e2 : ((b.toNat : Nat) : Int) = b := by omega
      show _ = some (HO.tup [.int ((a.toNat : Nat) : Int), .int ((b.toNat : Nat) : Int)])
      rw [e1, e2]
  · rintro (z | z | z)
    · exact fl_.1 z
    · rw [z, upd_ne (Ne.symm dnx), h3x] at hl; cases hl
    · rw [z, upd_ne dnl, h3l] at hl; cases hl
theorem ok_Desk_add_skater (T : Txt K w mg A) (F0 : FunM K A.cDesk "add_skater" "Desk.add_skater" st_Desk_add_skater) : CalM P w K mg base (L2.CX P w) 1 A.cDesk "add_skater" ["self"] (sp_Desk_add_skater A) := by
  obtain ⟨f, fd, F, gF⟩ := F0
  refine ⟨f, fd, ?_, gF, F.binds (ps := ["self"]) fun _ _ _ _ _ _ us hl => match us, hl with | [_], _ => rfl⟩
  refine F.okX sc_Desk_add_skater (fun vs H Q E h => by first | (obtain ⟨rfl, _⟩ := h; rfl) | (obtain ⟨_, rfl, _⟩ := h; rfl) | (obtain ⟨_, _, rfl, _⟩ := h; rfl) | (obtain ⟨_, _, _, rfl, _⟩ := h; rfl) | (obtain ⟨_, _, _, _, rfl, _⟩ := h; rfl) | (obtain ⟨_, _, _, _, _, rfl, _⟩ := h; rfl) | (obtain ⟨_, _, _, _, _, _, rfl, _⟩ := h; rfl) | (obtain ⟨_, _, _, _, _, _, _, rfl, _⟩ := h; rfl) | (obtain ⟨_, _, _, _, _, _, _, _, rfl, _⟩ := h; rfl) | (obtain ⟨_, _, _, _, _, _, _, _, _, rfl, _⟩ := h; rfl) | (obtain ⟨_, _, _, _, _, _, _, _, _, _, rfl, _⟩ := h; rfl)) (fun cdv AA outer s H vs Q E hr h => ⟨_, (pss_cons (ps_if (pt_cmpR op_isN (pe_fld (pv 0) rfl) pe_non (nomark _)) (pss_one (ps_raise rfl (takes_of rfl rfl rfl rfl) (pmk_own0 PySem.F.excBase_Exception T.x_NothingOpen T.g_NothingOpen T.k_NothingOpen (raises_own T.s_NothingOpen T.t_NothingOpen) (by exact rfl)))) pss_nil)
      (pss_cons (ps_set (i := 1) sc_Desk_add_skater.nd rfl (Or.inl rfl) (pe_fld (pe_fld (pv 0) rfl) rfl))
      (pss_cons (ps_if (pt_cmpR op_eq (pe_callB call_len_seq (by rfl) T.b_len (by decide +kernel) (pa_cons (pv 1) pa_nil)) (pe_globI T.k_MOST_SKATERS) (nomark _)) (pss_one (ps_raise rfl (takes_of rfl rfl rfl rfl) (pmk_own0 PySem.F.excBase_Exception T.x_NoRoom T.g_NoRoom T.k_NoRoom (raises_own T.s_NoRoom T.t_NoRoom) (by exact rfl)))) pss_nil)
      (pss_cons (ps_expr (pe_bm PySem.F.plainAttrs_list PySem.F.slot_list_append PySem.F.type_list_append mt_append (pv 1) (pa_cons pe_dnewK pa_nil)))
      (pss_one (ps_ret (pe_lst (pa_cons (pe_op op_sub (pe_callB call_len_seq (by rfl) T.b_len (by decide +kernel) (pa_cons (pv 1) pa_nil)) pe_int) pa_nil)))))))), ?_⟩)
  obtain ⟨d, M, N, s0, rfl, hD, hk⟩ := h
  have un : Kg56.spec s0 .skater = if s0.judges = 0 then (s0, Kg56.num (-2)) else if 30 ≤ s0.skaters.length then (s0, Kg56.num (-5)) else ({ s0 with skaters := s0.skaters ++ [⟨none, none⟩] }, Kg56.num (s0.skaters.length : Nat)) := rfl
  obtain ⟨dx, c, m1, hd, m3, m4, hc⟩ := hD
  refine ⟨_, rfl, d, _, dx, _, _, rfl, hd, T.cl_Desk, T.na_Desk_competition, rfl, rfl, _, rfl, ?_⟩
  rcases hc with ⟨rfl, hb⟩ | ⟨ok, p, rfl, pM, cx, tf, sk, pv, ds, r1, r2, r3, r4, r5, r6, r7, r8⟩
  · exact t_yes (by decide) (hk.no (un.trans (if_pos hb.1)) (by decide) H (Ex.refl _))
  refine t_no non_no ?_
  have hj := ok.judges
  rw [if_neg (by omega)] at un
  refine ⟨_, rfl, d, _, dx, _, _, rfl, hd, T.cl_Desk, T.na_Desk_competition, rfl, p, _, cx, _, _, rfl, r1, T.cl_Competition, T.na_Competition_skated, rfl, ?_⟩
  have hlen := r7.len
  refine ⟨_, rfl, sk, _, rfl, .inl (SqL.of r4), rfl, _, rfl, ?_⟩
  rw [List.length_map, hlen]
  by_cases c30 : s0.skaters.length = 30
  · exact t_yes (iT (by omega)) (hk.no (un.trans (if_pos (by omega))) (by decide) H (Ex.refl _))
  refine t_no (iF (by omega)) ?_
  have := ok.skaters
  have yes := hk.yes (un.trans (if_neg (by omega))) (show (0 : Int) ≤ ((s0.skaters.length : Nat) : Int) by omega)
  refine ⟨_, rfl, .inl ⟨rfl, _, SqL.of r4⟩, fun dn hdn => ?_⟩
  have e1 := Ex.one (o := .dK []) hdn
  refine ⟨sk, ds.map V.ref, _, rfl, rfl, e1 _ _ r4, by rw [List.length_map, hlen]; exact Nat.lt_of_le_of_lt (m := 30) (by omega) (by decide), ?_⟩
  refine ⟨_, rfl, sk, _, rfl, .inl (SqL.of upd_same), _, _, rfl, rfl, by show 1 ≤ sizeLine; decide, fun l hl => ?_⟩
  have skn : sk ≠ dn := ne_of_none r4 hdn
  have g0 : Fr M (fun q => M q ∨ q = dn) H H := Fr.grow (fun q => .inl) fun q z => z.imp id fun z => by rw [z]; exact hdn
  have g := (g0.trans (Fr.ex e1)).trans (Fr.upd (o := .lst (ds.map V.ref ++ [.ref dn])) (q := sk) (.inl r3))
  have hv : (((ds.map V.ref ++ [V.ref dn]).length : Nat) : Int) - 1 = ((s0.skaters.length : Nat) : Int) := by
    rw [List.length_append, List.length_map, hlen]
    show ((s0.skaters.length + 1 : Nat) : Int) - 1 = _
    omega
  show Q (.ref l) (upd _ l (.lst [V.int ((((ds.map V.ref ++ [V.ref dn]).length : Nat) : Int) - 1)]))
  rw [hv]
  refine hk.list (un.trans (if_neg (by omega))) (show (0 : Int) ≤ ((s0.skaters.length : Nat) : Int) by omega) g ?_ hl
  have at_ : ∀ {q : Addr} {o : HO}, q ≠ sk → H q = some o → (upd (upd H dn (.dK [])) sk (.lst (ds.map V.ref ++ [.ref dn]))) q = some o := fun h1 h2 => (upd_ne h1).trans (e1 _ _ h2)
  have ft := foot g m3 m4 fun q h1 h2 => by
    rcases h1 with h1 | rfl
    · exact absurd h1 h2
    · rw [upd_ne (Ne.symm skn), upd_same]; intro z; cases z
  have fz_ := fz_both (N := N) g
  have dsn : dn ∉ ds := fun z => (m3 dn (r6 dn z)).1 hdn
  refine ⟨dx, .ref p, .inl m1, at_ (ne_of hd r4 (by intro z; cases z)) hd, ft.1, ft.2, .inr ⟨⟨ok.judges, ok.factors, ?_, ?_, ?_⟩, p, rfl, .inl pM, cx, tf, sk, pv, ds ++ [dn], at_ (ne_of r1 r4 (by intro z; cases z)) r1, fz_ _ _ r2, .inl r3, ?_, ?_, ?_, ?_, ?_⟩⟩
  · show (s0.skaters ++ [_]).length ≤ 30
    rw [List.length_append]
    show s0.skaters.length + 1 ≤ 30
    omega
  · intro k hkk b x hx
    rcases List.mem_append.mp hkk with z | z
    · exact ok.over k z b x hx
    · have : k = ⟨none, none⟩ := by simpa using z
      rw [this] at hx
      cases b <;> cases hx
  · intro w1 p1 hw
    obtain ⟨q1, q2, q3⟩ := ok.now w1 p1 hw
    refine ⟨?_, ?_, q3⟩
    · show w1 < (s0.skaters ++ [_]).length
      rw [List.length_append]
      omega
    · unfold Kg56.State.of at q2 ⊢
      show ((s0.skaters ++ [_])[w1]?).bind _ = none
      rw [List.getElem?_append_left q1]
      exact q2
  · rw [upd_same, List.map_append]
    rfl
  · rw [List.nodup_append]
    refine ⟨r5, List.nodup_cons.mpr ⟨List.not_mem_nil, List.nodup_nil⟩, fun a ha b hb => ?_⟩
    have : b = dn := by simpa using hb
    rw [this]
    exact fun z => dsn (z ▸ ha)
  · intro a ha
    rcases List.mem_append.mp ha with z | z
    · exact .inl (r6 a z)
    · exact .inr (by simpa using z)
  · refine (r7.mono_mem fun a b ha q => q.keep (fun o h => at_ (fun z => ?_) h) fz_).snoc ⟨[], ?_, Nat.le_refl _, fun b => by cases b <;> exact trivial⟩
    · obtain ⟨kvs, h', _⟩ := q
      rw [z, r4] at h'
      cases h'
    · rw [upd_ne (Ne.symm skn)]
      exact upd_same
  · show NowAt A _ _ _ sk pv s0.now
    cases hn : s0.now with
    | none => rw [hn] at r8; exact r8
    | some x =>
      rw [hn] at r8
      obtain ⟨pr, tl, t1, t2, t3, t4, t5⟩ := r8
      refine ⟨pr, tl, t1, .inl t2, .inl t3, t4, t5.keep (fun o h => at_ (fun z => ?_) h) (fun o h => at_ t4 h) fz_⟩
      obtain ⟨_, _, _, _, h', _⟩ := t5
      rw [z, r4] at h'
      cases h'
theorem ok_Desk_read (T : Txt K w mg A) (F0 : FunM K A.cDesk "read" "Desk.read" st_Desk_read)
    (c_check_text : CalF P w K mg base (L2.CX P w) 1 "check_text" ["numbers"] (sp_check_text K A))
    (c_Jumps_described : CalM P w K mg base CX0 1 A.cJumps "described" ["self"] (sp_Jumps_described A))
    (c_element_of : CalF P w K mg base (L2.CX P w) 7 "element_of" ["numbers"] (sp_element_of K A))
    (c_Spin_described : CalM P w K mg base CX0 1 A.cSpin "described" ["self"] (sp_Spin_described A))
    (c_Steps_described : CalM P w K mg base CX0 1 A.cSteps "described" ["self"] (sp_Steps_described A))
    (c_OtherSteps_described : CalM P w K mg base CX0 1 A.cOtherSteps "described" ["self"] (sp_OtherSteps_described A)) : CalM P w K mg base (L2.CX P w) 8 A.cDesk "read" ["self", "text"] (sp_Desk_read A) := by
  obtain ⟨f_check_text, fd_check_text, G_check_text, mg_check_text, kp_check_text, b_check_text⟩ := c_check_text
  obtain ⟨f_Jumps_described, fd_Jumps_described, G_Jumps_described, m_Jumps_described, b_Jumps_described⟩ := c_Jumps_described
  obtain ⟨f_element_of, fd_element_of, G_element_of, mg_element_of, kp_element_of, b_element_of⟩ := c_element_of
  obtain ⟨f_Spin_described, fd_Spin_described, G_Spin_described, m_Spin_described, b_Spin_described⟩ := c_Spin_described
  obtain ⟨f_Steps_described, fd_Steps_described, G_Steps_described, m_Steps_described, b_Steps_described⟩ := c_Steps_described
  obtain ⟨f_OtherSteps_described, fd_OtherSteps_described, G_OtherSteps_described, m_OtherSteps_described, b_OtherSteps_described⟩ := c_OtherSteps_described
  obtain ⟨f, fd, F, gF⟩ := F0
  refine ⟨f, fd, ?_, gF, F.binds (ps := ["self", "text"]) fun _ _ _ _ _ _ us hl => match us, hl with | [_, _], _ => rfl⟩
  refine F.okX sc_Desk_read (fun vs H Q E h => by first | (obtain ⟨rfl, _⟩ := h; rfl) | (obtain ⟨_, rfl, _⟩ := h; rfl) | (obtain ⟨_, _, rfl, _⟩ := h; rfl) | (obtain ⟨_, _, _, rfl, _⟩ := h; rfl) | (obtain ⟨_, _, _, _, rfl, _⟩ := h; rfl) | (obtain ⟨_, _, _, _, _, rfl, _⟩ := h; rfl) | (obtain ⟨_, _, _, _, _, _, rfl, _⟩ := h; rfl) | (obtain ⟨_, _, _, _, _, _, _, rfl, _⟩ := h; rfl) | (obtain ⟨_, _, _, _, _, _, _, _, rfl, _⟩ := h; rfl) | (obtain ⟨_, _, _, _, _, _, _, _, _, rfl, _⟩ := h; rfl) | (obtain ⟨_, _, _, _, _, _, _, _, _, _, rfl, _⟩ := h; rfl)) (fun cdv AA outer s H vs Q E hr h => ⟨_, (pss_cons (ps_expr (pe_call G_check_text (hr.mono (by decide)) rfl mg_check_text kp_check_text b_check_text .nil (passes_call (takes_of rfl rfl rfl rfl) (fun _ _ _ _ h => h)) (pa_cons (pv 1) pa_nil)))
      (pss_one (ps_ret (pe_alt (pe_meth0 (pe_call G_element_of (hr.mono (by decide)) rfl mg_element_of kp_element_of b_element_of .nil (passes_call (takes_of rfl rfl rfl rfl) (fun _ _ _ _ h => h)) (pa_cons (pv 1) pa_nil)) T.cl_Jumps m_Jumps_described G_Jumps_described (hr.mono (by decide)) b_Jumps_described .nil pass0) (pe_alt (pe_meth0 (pe_call G_element_of (hr.mono (by decide)) rfl mg_element_of kp_element_of b_element_of .nil (passes_call (takes_of rfl rfl rfl rfl) (fun _ _ _ _ h => h)) (pa_cons (pv 1) pa_nil)) T.cl_Spin m_Spin_described G_Spin_described (hr.mono (by decide)) b_Spin_described .nil pass0) (pe_alt (pe_meth0 (pe_call G_element_of (hr.mono (by decide)) rfl mg_element_of kp_element_of b_element_of .nil (passes_call (takes_of rfl rfl rfl rfl) (fun _ _ _ _ h => h)) (pa_cons (pv 1) pa_nil)) T.cl_Steps m_Steps_described G_Steps_described (hr.mono (by decide)) b_Steps_described .nil pass0) (pe_meth0 (pe_call G_element_of (hr.mono (by decide)) rfl mg_element_of kp_element_of b_element_of .nil (passes_call (takes_of rfl rfl rfl rfl) (fun _ _ _ _ h => h)) (pa_cons (pv 1) pa_nil)) T.cl_OtherSteps m_OtherSteps_described G_OtherSteps_described (hr.mono (by decide)) b_OtherSteps_described .nil pass0))))))), ?_⟩)
  obtain ⟨d, M, N, s0, a, ns, rfl, ha, hD, hk⟩ := h
  have un : Kg56.spec s0 (.read ns) = (s0, if Kg56.textOk ns = false then Kg56.num (-1) else match Kg56.element? (Kg56.nats ns) with
    | none => Kg56.num (-4)
    | some e => ⟨((Kg56.showElement e).1 : Nat), Kg56.whole (Kg56.showElement e).2⟩) := rfl
  refine ⟨_, rfl, a, ns, rfl, SqL.of ha, fun ht => ?_, fun ht => hk.no1 (un.trans (by rw [if_pos ht])) H (Ex.refl _)⟩
  rw [if_neg (by rw [ht]; decide)] at un
  obtain ⟨h40, hby⟩ := text_fine ht
  have bad : Kg56.element? (Kg56.nats ns) = none → ∀ H', Ex H H' → E (.ref A.cDoesNotFit) none H' := fun hn => hk.no4 (un.trans (by rw [hn]))
  have good : ∀ e, Kg56.element? (Kg56.nats ns) = some e → ∀ H1, Ex H H1 → New H1 Q (shown e) := fun e he H1 e1 l H2 hl e2 h2 => by
    have e12 := e1.trans e2
    have hl0 : H l = none := Evl.fresh_back e1 hl
    obtain ⟨_, _, _, _, m3, m4, _⟩ := id hD
    refine hk.yes (un.trans (by rw [he])) (show (0 : Int) ≤ (((Kg56.showElement e).1 : Nat) : Int) by omega) M H2 l (Fr.ex e12) (hD.ext e12) hl0 (far m3 m4 hl0).1 h2
  have none0 : Kg56.element? (Kg56.nats ns) = none → ∀ e, Kg56.element? (Kg56.nats ns) = some e → False := fun h e h' => by rw [h] at h'; cases h'
  cases hel : Kg56.element? (Kg56.nats ns) with
  | none => exact .inl ⟨_, rfl, a, ns, rfl, SqL.of ha, h40, hby, fun e he => (none0 hel e he).elim, fun hn => bad hn⟩
  | some e =>
    have ok := elem_fine hel
    have g := good e hel
    cases e with
    | jumps l =>
      refine .inl ⟨_, rfl, a, ns, rfl, SqL.of ha, h40, hby, fun e he v H1 e1 hE => ?_, fun hn => (none0 hn _ hel).elim⟩
      rw [hel] at he
      cases he
      have hE' := hE
      obtain ⟨p, dx, q, vs, rfl, q1, q2, q3⟩ := hE'
      exact ⟨p, dx, _, rfl, nw_in _ _ q1, rfl, p, l, rfl, hE.mono nw_in, ok.2.1, g H1 e1⟩
    | spin n v0 =>
      refine .inr (.inl ⟨_, rfl, a, ns, rfl, SqL.of ha, h40, hby, fun e he v H1 e1 hE => ?_, fun hn => (none0 hn _ hel).elim⟩)
      rw [hel] at he
      cases he
      have hE' := hE
      obtain ⟨p, dx, rfl, q1⟩ := hE'
      exact ⟨p, dx, _, rfl, nw_in _ _ q1, rfl, p, n, v0, rfl, hE.mono nw_in, g H1 e1⟩
    | steps v0 =>
      refine .inr (.inr (.inl ⟨_, rfl, a, ns, rfl, SqL.of ha, h40, hby, fun e he v H1 e1 hE => ?_, fun hn => (none0 hn _ hel).elim⟩))
      rw [hel] at he
      cases he
      have hE' := hE
      obtain ⟨p, dx, rfl, q1⟩ := hE'
      exact ⟨p, dx, _, rfl, nw_in _ _ q1, rfl, p, v0, rfl, hE.mono nw_in, g H1 e1⟩
    | choreo =>
      refine .inr (.inr (.inr ⟨_, rfl, a, ns, rfl, SqL.of ha, h40, hby, fun e he v H1 e1 hE => ?_, fun hn => (none0 hn _ hel).elim⟩))
      rw [hel] at he
      cases he
      have hE' := hE
      obtain ⟨p, dx, rfl, q1⟩ := hE'
      exact ⟨p, dx, _, rfl, nw_in _ _ q1, rfl, p, rfl, hE.mono nw_in, g H1 e1⟩
theorem ok_Desk_segment_places (T : Txt K w mg A) (F0 : FunM K A.cDesk "segment_places" "Desk.segment_places" st_Desk_segment_places)
    (c_check_number : CalF P w K mg base (L2.CX P w) 1 "check_number" ["number", "least", "most"] (sp_check_number A))
    (c_places_of : CalF P w K mg base CX0 1 "places_of" ["standings"] (sp_places_of K A))
    (c_standings_in_segment : CalF P w K mg base CX0 3 "standings_in_segment" ["skated", "free"] (sp_standings_in_segment K A))
    (c_Desk_skated_by_each : CalM P w K mg base CX0 1 A.cDesk "skated_by_each" ["self"] (sp_Desk_skated_by_each A)) : CalM P w K mg base (L2.CX P w) 4 A.cDesk "segment_places" ["self", "free"] (sp_Desk_segment_places A) := by
  obtain ⟨f_check_number, fd_check_number, G_check_number, mg_check_number, kp_check_number, b_check_number⟩ := c_check_number
  obtain ⟨f_places_of, fd_places_of, G_places_of, mg_places_of, kp_places_of, b_places_of⟩ := c_places_of
  obtain ⟨f_standings_in_segment, fd_standings_in_segment, G_standings_in_segment, mg_standings_in_segment, kp_standings_in_segment, b_standings_in_segment⟩ := c_standings_in_segment
  obtain ⟨f_Desk_skated_by_each, fd_Desk_skated_by_each, G_Desk_skated_by_each, m_Desk_skated_by_each, b_Desk_skated_by_each⟩ := c_Desk_skated_by_each
  obtain ⟨f, fd, F, gF⟩ := F0
  refine ⟨f, fd, ?_, gF, F.binds (ps := ["self", "free"]) fun _ _ _ _ _ _ us hl => match us, hl with | [_, _], _ => rfl⟩
  refine F.okX sc_Desk_segment_places (fun vs H Q E h => by first | (obtain ⟨rfl, _⟩ := h; rfl) | (obtain ⟨_, rfl, _⟩ := h; rfl) | (obtain ⟨_, _, rfl, _⟩ := h; rfl) | (obtain ⟨_, _, _, rfl, _⟩ := h; rfl) | (obtain ⟨_, _, _, _, rfl, _⟩ := h; rfl) | (obtain ⟨_, _, _, _, _, rfl, _⟩ := h; rfl) | (obtain ⟨_, _, _, _, _, _, rfl, _⟩ := h; rfl) | (obtain ⟨_, _, _, _, _, _, _, rfl, _⟩ := h; rfl) | (obtain ⟨_, _, _, _, _, _, _, _, rfl, _⟩ := h; rfl) | (obtain ⟨_, _, _, _, _, _, _, _, _, rfl, _⟩ := h; rfl) | (obtain ⟨_, _, _, _, _, _, _, _, _, _, rfl, _⟩ := h; rfl)) (fun cdv AA outer s H vs Q E hr h => ⟨_, (pss_cons (ps_expr (pe_call G_check_number (hr.mono (by decide)) rfl mg_check_number kp_check_number b_check_number .nil (passes_call (takes_of rfl rfl rfl rfl) (fun _ _ _ _ h => h)) (pa_cons (pv 1) (pa_cons (pe_globI T.k_SHORT) (pa_cons (pe_globI T.k_FREE) pa_nil)))))
      (pss_one (ps_ret (pe_call G_places_of (hr.mono (by decide)) rfl mg_places_of kp_places_of b_places_of .nil pass0 (pa_cons (pe_call G_standings_in_segment (hr.mono (by decide)) rfl mg_standings_in_segment kp_standings_in_segment b_standings_in_segment .nil pass0 (pa_cons (pe_meth0 (pv 0) T.cl_Desk m_Desk_skated_by_each G_Desk_skated_by_each (hr.mono (by decide)) b_Desk_skated_by_each .nil pass0) (pa_cons (pv 1) pa_nil))) pa_nil))))), ?_⟩)
  obtain ⟨d, M, N, s0, f0, rfl, hD, hk⟩ := h
  have un : Kg56.spec s0 (.places f0) = if Kg56.within f0 0 1 = false then (s0, Kg56.num (-1)) else
      (let l := Kg56.ordered (s0.segmentKey (f0 == 1)) (s0.inSegment (f0 == 1))
      (s0, ⟨l.length, l.flatMap fun (i : Nat) => [(i : Int), (Kg56.place (s0.segmentKey (f0 == 1)) l i : Int), Kg56.scoreOf s0 i (f0 == 1)]⟩)) := rfl
  refine ⟨_, rfl, f0, 0, 1, rfl, fun hf => ?_, fun hf => hk.no (un.trans (if_pos (wf hf))) (by decide) H (Ex.refl _)⟩
  rw [if_neg (by rw [wi.mpr hf]; decide)] at un
  obtain ⟨dx, c, m1, hd, m3, m4, hc⟩ := id hD
  have fb : ∃ b : Bool, V.int f0 = fv b ∧ b = (f0 == 1) := by
    by_cases z : f0 = 1
    · exact ⟨true, by rw [z]; rfl, by rw [z]; rfl⟩
    · have : f0 = 0 := by omega
      exact ⟨false, by rw [this]; rfl, by rw [this]; rfl⟩
  obtain ⟨b, hb1, hb2⟩ := fb
  have h30 := skaters_le hD
  refine ⟨_, rfl, d, dx, _, rfl, hd, rfl, d, dx, c, rfl, hd, comp_there hc, fun l H1 e1 g1 g2 => ?_⟩
  obtain ⟨us, h1, hA⟩ := each_at hc e1 g1 g2
  refine ⟨_, rfl, l, b, us, s0.skaters, by rw [← hb1]; rfl, SqL.of h1, hA, h30, fun l2 H2 ws hl2 e2 h2 hS => ?_⟩
  have ul := upTo_len (f := segOf b) (segOf_len b) s0.skaters s0.skaters.length
  refine ⟨l2, ws, _, rfl, SqL.of h2, hS, by omega, seg_nodup b s0.skaters, fun x hx => seg_pos hx, fun l3 H3 ord hl3 e3 hp ho h3 => ?_⟩
  have e13 := (e1.trans e2).trans e3
  have hl0 : H l3 = none := Evl.fresh_back (e1.trans e2) hl3
  rw [seg_is s0 b hp ho, hb2] at h3
  exact hk.yes un (show (0 : Int) ≤ ((_ : Nat) : Int) by omega) M H3 l3 (Fr.ex e13) (hD.ext e13) hl0 (far m3 m4 hl0).1 h3
theorem ok_Desk_places_in_all (T : Txt K w mg A) (F0 : FunM K A.cDesk "places_in_all" "Desk.places_in_all" st_Desk_places_in_all)
    (c_places_of : CalF P w K mg base CX0 1 "places_of" ["standings"] (sp_places_of K A))
    (c_standings_in_all : CalF P w K mg base CX0 4 "standings_in_all" ["skated"] (sp_standings_in_all K A))
    (c_Desk_skated_by_each : CalM P w K mg base CX0 1 A.cDesk "skated_by_each" ["self"] (sp_Desk_skated_by_each A)) : CalM P w K mg base CX0 5 A.cDesk "places_in_all" ["self"] (sp_Desk_places_in_all A) := by
  obtain ⟨f_places_of, fd_places_of, G_places_of, mg_places_of, kp_places_of, b_places_of⟩ := c_places_of
  obtain ⟨f_standings_in_all, fd_standings_in_all, G_standings_in_all, mg_standings_in_all, kp_standings_in_all, b_standings_in_all⟩ := c_standings_in_all
  obtain ⟨f_Desk_skated_by_each, fd_Desk_skated_by_each, G_Desk_skated_by_each, m_Desk_skated_by_each, b_Desk_skated_by_each⟩ := c_Desk_skated_by_each
  obtain ⟨f, fd, F, gF⟩ := F0
  refine ⟨f, fd, ?_, gF, F.binds (ps := ["self"]) fun _ _ _ _ _ _ us hl => match us, hl with | [_], _ => rfl⟩
  refine F.ok sc_Desk_places_in_all (fun vs H Q E h => by first | (obtain ⟨rfl, _⟩ := h; rfl) | (obtain ⟨_, rfl, _⟩ := h; rfl) | (obtain ⟨_, _, rfl, _⟩ := h; rfl) | (obtain ⟨_, _, _, rfl, _⟩ := h; rfl) | (obtain ⟨_, _, _, _, rfl, _⟩ := h; rfl) | (obtain ⟨_, _, _, _, _, rfl, _⟩ := h; rfl) | (obtain ⟨_, _, _, _, _, _, rfl, _⟩ := h; rfl) | (obtain ⟨_, _, _, _, _, _, _, rfl, _⟩ := h; rfl) | (obtain ⟨_, _, _, _, _, _, _, _, rfl, _⟩ := h; rfl) | (obtain ⟨_, _, _, _, _, _, _, _, _, rfl, _⟩ := h; rfl) | (obtain ⟨_, _, _, _, _, _, _, _, _, _, rfl, _⟩ := h; rfl)) (fun cdv AA outer s H vs Q E hr h => ⟨_, (pss_one (ps_ret (pe_call G_places_of (hr.mono (by decide)) rfl mg_places_of kp_places_of b_places_of .nil pass0 (pa_cons (pe_call G_standings_in_all (hr.mono (by decide)) rfl mg_standings_in_all kp_standings_in_all b_standings_in_all .nil pass0 (pa_cons (pe_meth0 (pv 0) T.cl_Desk m_Desk_skated_by_each G_Desk_skated_by_each (hr.mono (by decide)) b_Desk_skated_by_each .nil pass0) pa_nil)) pa_nil)))), ?_⟩)
  obtain ⟨d, M, N, s0, rfl, hD, hk⟩ := h
  have un : Kg56.spec s0 .all = (let l := Kg56.ordered s0.allKey s0.inAll
      (s0, ⟨l.length, l.flatMap fun (i : Nat) => [(i : Int), (Kg56.place s0.allKey l i : Int), Kg56.scoreOf s0 i false + Kg56.scoreOf s0 i true]⟩)) := rfl
  obtain ⟨dx, c, m1, hd, m3, m4, hc⟩ := id hD
  have h30 := skaters_le hD
  refine ⟨_, rfl, d, dx, _, rfl, hd, rfl, d, dx, c, rfl, hd, comp_there hc, fun l H1 e1 g1 g2 => ?_⟩
  obtain ⟨us, h1, hA⟩ := each_at hc e1 g1 g2
  refine ⟨l, us, s0.skaters, rfl, SqL.of h1, hA, h30, fun l2 H2 ws hl2 e2 h2 hS => ?_⟩
  have ul := upTo_len (f := allOf) allOf_len s0.skaters s0.skaters.length
  refine ⟨l2, ws, _, rfl, SqL.of h2, hS, by omega, all_nodup s0.skaters, fun x hx => allOf_pos hx, fun l3 H3 ord hl3 e3 hp ho h3 => ?_⟩
  have e13 := (e1.trans e2).trans e3
  have hl0 : H l3 = none := Evl.fresh_back (e1.trans e2) hl3
  rw [all_is s0 hp ho] at h3
  exact hk.yes un (show (0 : Int) ≤ ((_ : Nat) : Int) by omega) M H3 l3 (Fr.ex e13) (hD.ext e13) hl0 (far m3 m4 hl0).1 h3
theorem ok_Desk_sheet (T : Txt K w mg A) (F0 : FunM K A.cDesk "sheet" "Desk.sheet" st_Desk_sheet)
    (c_Desk_skated_by : CalM P w K mg base (L2.CX P w) 2 A.cDesk "skated_by" ["self", "skater", "free"] (sp_Desk_skated_by A)) : CalM P w K mg base (L2.CX P w) 3 A.cDesk "sheet" ["self", "skater", "free"] (sp_Desk_sheet A) := by
  obtain ⟨f_Desk_skated_by, fd_Desk_skated_by, G_Desk_skated_by, m_Desk_skated_by, b_Desk_skated_by⟩ := c_Desk_skated_by
  obtain ⟨f, fd, F, gF⟩ := F0
  refine ⟨f, fd, ?_, gF, F.binds (ps := ["self", "skater", "free"]) fun _ _ _ _ _ _ us hl => match us, hl with | [_, _, _], _ => rfl⟩
  refine F.okX sc_Desk_sheet (fun vs H Q E h => by first | (obtain ⟨rfl, _⟩ := h; rfl) | (obtain ⟨_, rfl, _⟩ := h; rfl) | (obtain ⟨_, _, rfl, _⟩ := h; rfl) | (obtain ⟨_, _, _, rfl, _⟩ := h; rfl) | (obtain ⟨_, _, _, _, rfl, _⟩ := h; rfl) | (obtain ⟨_, _, _, _, _, rfl, _⟩ := h; rfl) | (obtain ⟨_, _, _, _, _, _, rfl, _⟩ := h; rfl) | (obtain ⟨_, _, _, _, _, _, _, rfl, _⟩ := h; rfl) | (obtain ⟨_, _, _, _, _, _, _, _, rfl, _⟩ := h; rfl) | (obtain ⟨_, _, _, _, _, _, _, _, _, rfl, _⟩ := h; rfl) | (obtain ⟨_, _, _, _, _, _, _, _, _, _, rfl, _⟩ := h; rfl)) (fun cdv AA outer s H vs Q E hr h => ⟨_, (pss_cons (ps_set (i := 3) sc_Desk_sheet.nd rfl (Or.inl rfl) (pe_meth (pv 0) T.cl_Desk m_Desk_skated_by G_Desk_skated_by (hr.mono (by decide)) b_Desk_skated_by .nil (passes_call (takes_of rfl rfl rfl rfl) (fun _ _ _ _ h => h)) (pa_cons (pv 1) (pa_cons (pv 2) pa_nil))))
      (pss_cons (ps_if (pt_cmp (pc_dnotin (hu_of hr) (pv 2) (pv 3))) (pss_one (ps_raise rfl (takes_of rfl rfl rfl rfl) (pmk_own0 PySem.F.excBase_Exception T.x_DoesNotFit T.g_DoesNotFit T.k_DoesNotFit (raises_own T.s_DoesNotFit T.t_DoesNotFit) (by exact rfl)))) pss_nil)
      (pss_cons (ps_set (i := 4) sc_Desk_sheet.nd rfl (Or.inl rfl) (pe_fld (pe_dget (hu_of hr) (pv 3) (pv 2) (fun _ _ => rfl)) rfl))
      (pss_cons (ps_set (i := 5) sc_Desk_sheet.nd rfl (Or.inl rfl) (pe_lst (pa_cons (pe_callB call_len_seq (by rfl) T.b_len (by decide +kernel) (pa_cons (pv 4) pa_nil)) pa_nil)))
      (pss_cons (ps_for (passes_of rfl) rfl (pi_list (pv 4)) (pg_tup rfl (pgs_cons (pg_name (i := 6) sc_Desk_sheet.nd rfl (Or.inl rfl)) (pgs_cons (pg_name (i := 7) sc_Desk_sheet.nd rfl (Or.inl rfl)) pgs_nil))) (pss_one (ps_expr (pe_bm PySem.F.plainAttrs_list PySem.F.slot_list_extend PySem.F.type_list_extend mt_extend (pv 5) (pa_cons (pe_lst (pa_cons (pv 6) (pa_cons (pv 7) pa_nil))) pa_nil)))))
      (pss_one (ps_ret (pv 5)))))))), ?_⟩)
  obtain ⟨d, M, N, s0, w0, f0, rfl, hD, hk⟩ := h
  have un : Kg56.spec s0 (.sheet w0 f0) = if whoOk s0 w0 f0 = false then (s0, Kg56.num (-1)) else (s0, match s0.of w0.toNat (f0 == 1) with
    | none => Kg56.num (-4)
    | some x => ⟨x.1.elements.length, x.1.sheet.flatMap fun y => [(y.1 : Int), y.2]⟩) := rfl
  obtain ⟨dx, c, m1, hd, m3, m4, hc⟩ := id hD
  refine ⟨_, rfl, d, dx, _, rfl, hd, rfl, _, rfl, _, rfl, d, M, N, s0, w0, f0, rfl, hD, fun hw => hk.no1 (un.trans (if_pos hw)), fun hw v H1 k0 e1 hk0 hov => ?_⟩
  rw [if_neg (by rw [hw]; decide)] at un
  have hf : 0 ≤ f0 ∧ f0 ≤ 1 := by
    unfold whoOk at hw
    rw [Bool.and_eq_true] at hw
    exact wi.mp hw.1
  obtain ⟨b, hb1, hb2⟩ := bit hf
  have hof : s0.of w0.toNat (f0 == 1) = k0.of b := by
    unfold Kg56.State.of
    rw [hk0, hb2]
    rfl
  obtain ⟨dd, kvs, rfl, z1, z2, z3⟩ := hov
  have zb := z3 b
  refine ⟨_, rfl, _, rfl, dd, _, rfl, by rw [hb1]; exact DGet.k (k := bk b) z1, _, rfl, ?_⟩
  cases hs : k0.of b with
  | none =>
    rw [hs] at zb
    have hn : (valV kvs (bk b)).isSome = false := by rw [zb.is]; rfl
    rw [hn]
    exact hk.no4 (un.trans (by rw [hof, hs])) H1 e1
  | some x =>
    rw [hs] at zb
    cases hv : valV kvs (bk b) with
    | none => rw [hv] at zb; exact zb.elim
    | some ov =>
      rw [hv] at zb
      have hb : OutAt A H1 ov (sheetM x.1.free x.1.elements) x.2 := zb
      obtain ⟨po, dxo, lo, wo, rfl, o1, o2, o3⟩ := hb
      have dg : DGet H1 dd (.int f0) (some (.ref po)) := by
        have := DGet.k (k := bk b) z1
        rw [hv, ← hb1] at this
        exact this
      have hex : (∀ t ∈ x.1.elements, ElemOk t.element) ∧ x.1.elements.length ≤ 20 := by
        rcases hc with ⟨_, hb⟩ | ⟨ok, _⟩
        · rw [hb.2.1] at hk0
          cases hk0
        · exact ok.over k0 (List.mem_of_getElem? hk0) b x hs
      have hsh := sheet_is x.1 hex.1
      have hsl := sheetM_len x.1.free x.1.elements
      have hol := o3.len
      refine ⟨_, rfl, _, rfl, dd, _, rfl, dg, po, _, dxo, _, _, rfl, o1, T.cl_Outcome, T.na_Outcome_judged, rfl, ?_⟩
      refine ⟨_, rfl, lo, _, rfl, .inl (SqL.of o2), by show 1 ≤ sizeLine; decide, fun r hr0 => ?_⟩
      have ex0 := Ex.one (o := .lst [V.int ((wo.length : Nat) : Int)]) hr0
      refine ⟨_, rfl, lo, rfl, ⟨_, SqL.of (ex0 _ _ o2)⟩, for_list (K := K) (a := lo) (xs := wo)
        (fun i σ H' => ∃ v v2, σ = [some (.ref d), some (.int w0), some (.int f0), some (.ref dd), some (.ref lo), some (.ref r), v, v2] ∧ Ex H1 H' ∧ H' r = some (.lst ((((wo.length : Nat) : Int) :: ((sheetM x.1.free x.1.elements).take i).flatMap fun y => [(y.1 : Int), y.2]).map V.int)) ∧ i ≤ 20)
        ⟨_, _, rfl, ex0, upd_same, Nat.zero_le _⟩ (fun i σ H' _ ⟨_, _, _, e5, _⟩ => SqL.of (e5 _ _ o2)) ?_ ?_⟩
      · rintro i y σ H' hi ⟨v, v2, rfl, e5, hr', hi20⟩
        obtain ⟨j, hj, t, rfl, h4⟩ := o3.get hi
        have hlt := (List.getElem?_eq_some_iff.mp hj).1
        have h5 := e5 _ _ h4
        refine ⟨t, _, rfl, SqT.of h5, rfl, _, _, rfl, _, _, rfl, rfl, ?_⟩
        refine ⟨_, rfl, .inl ⟨rfl, _, SqL.of hr'⟩, ?_⟩
        refine ⟨_, rfl, _, rfl, by show 2 ≤ sizeLine; decide, fun z hz => ?_⟩
        refine ⟨r, z, _, _, rfl, rfl, up_at hr' hz, upd_same, ?_, ?_⟩
        · have hf : (((sheetM x.1.free x.1.elements).take i).flatMap fun y => [(y.1 : Int), y.2]).length = 2 * ((sheetM x.1.free x.1.elements).take i).length := by
            generalize (sheetM x.1.free x.1.elements).take i = l
            induction l with
            | nil => rfl
            | cons a l ih => rw [List.flatMap_cons, List.length_append, ih]; simp only [List.length_cons, List.length_nil]; omega
          have : ((sheetM x.1.free x.1.elements).take i).length ≤ 20 := by rw [List.length_take]; omega
          refine Nat.le_trans (m := 100) ?_ (by decide)
          simp only [List.length_map, List.length_cons, List.length_nil]
          omega
        · refine ⟨_, _, rfl, fun q o e => ?_, ?_, by omega⟩
          · rw [upd_ne (ne_of_none e hr0)]
            exact up_at (e5 q o e) hz
          · rw [take_more hj, List.flatMap_append]
            rw [upd_same]
            simp only [List.map_cons, List.map_append, List.flatMap_cons, List.flatMap_nil, List.cons_append, List.nil_append, List.map_nil]
      · rintro σ H' ⟨v, v2, rfl, e5, hr', hi20⟩
        have e15 := e1.trans e5
        have hl0 : H r = none := Evl.fresh_back e1 hr0
        refine ⟨_, rfl, hk.yes (un.trans (by rw [hof, hs])) (show (0 : Int) ≤ ((_ : Nat) : Int) by omega) M H' r (Fr.ex e15) (hD.ext e15) hl0 (far m3 m4 hl0).1 ?_⟩
        rw [hr', hol, List.take_length, hsh, hsl]
end
end Sk
set_option maxHeartbeats 2000000
/-! # The desk: start, element, marks, faults -/
namespace Sk
open PySem PySem.Spec PyProof.Rows L2
open Evl (Ex)
abbrev st_Desk_start : Stmt := inClass (top 109) 4
theorem sc_Desk_start : FnScope ["self", "skater", "free", "over"] ["self", "skater", "free"] (defScope st_Desk_start) := ⟨rfl, rfl, rfl, by decide +kernel, rfl, by decide +kernel, by decide +kernel⟩
abbrev st_Desk_tell_element : Stmt := inClass (top 109) 5
theorem sc_Desk_tell_element : FnScope ["self", "second", "text", "grades", "program", "element"] ["self", "second", "text", "grades"] (defScope st_Desk_tell_element) := ⟨rfl, rfl, rfl, by decide +kernel, rfl, by decide +kernel, by decide +kernel⟩
abbrev st_Desk_tell_marks : Stmt := inClass (top 109) 6
theorem sc_Desk_tell_marks : FnScope ["self", "one", "two", "three", "program", "row"] ["self", "one", "two", "three"] (defScope st_Desk_tell_marks) := ⟨rfl, rfl, rfl, by decide +kernel, rfl, by decide +kernel, by decide +kernel⟩
abbrev st_Desk_tell_faults : Stmt := inClass (top 109) 7
theorem sc_Desk_tell_faults : FnScope ["self", "falls", "off", "seconds", "program"] ["self", "falls", "off", "seconds"] (defScope st_Desk_tell_faults) := ⟨rfl, rfl, rfl, by decide +kernel, rfl, by decide +kernel, by decide +kernel⟩
def sp_Desk_start (A : Ads) : Sp := fun vs H Q E => ∃ d M N s w f, vs = [.ref d, .int w, .int f] ∧ DeskAt A M N H d s ∧ After A M N H d (Kg56.spec s (.start w f)) Q E
def sp_Desk_tell_element (A : Ads) : Sp := fun vs H Q E => ∃ d M N s h a b ns gs, vs = [.ref d, .int h, .ref a, .ref b] ∧ H a = some (.lst (ns.map V.int)) ∧ fz (both M N) H b = some (.lst (gs.map V.int)) ∧ DeskAt A M N H d s ∧ After A M N H d (Kg56.spec s (.element h ns gs)) Q E
def sp_Desk_tell_marks (A : Ads) : Sp := fun vs H Q E => ∃ d M N s a b c xs ys zs, vs = [.ref d, .ref a, .ref b, .ref c] ∧ fz (both M N) H a = some (.lst (xs.map V.int)) ∧ fz (both M N) H b = some (.lst (ys.map V.int)) ∧ fz (both M N) H c = some (.lst (zs.map V.int)) ∧ DeskAt A M N H d s ∧ After A M N H d (Kg56.spec s (.marks xs ys zs)) Q E
def sp_Desk_tell_faults (A : Ads) : Sp := fun vs H Q E => ∃ d M N s a b t, vs = [.ref d, .int a, .int b, .int t] ∧ DeskAt A M N H d s ∧ After A M N H d (Kg56.spec s (.faults a b t)) Q E
def flen : HO → Nat
  | .ins _ _ fs => fs.length
  | _ => 0
theorem flen_ne {a b : HO} (h : ¬ flen a = flen b) : a ≠ b := fun z => h (congrArg flen z)
/-- the program that is being skated has changed -/
theorem now_set {A : Ads} {M N : Addr → Prop} {H H4 : Hp} {d dx p cx tf sk pr tl : Addr} {ds : List Addr} {s : Kg56.State} {w : Nat} {pg p' : Kg56.Program} (m1 : M d) (hd : H d = some (.ins A.cDesk dx [("competition", .ref p)])) (m3 : ∀ q, M q → H q ≠ none ∧ ¬ N q) (m4 : ∀ q, N q → H q ≠ none)
    (ok : SOk s) (pM : M p) (r1 : H p = some (.ins A.cCompetition cx (cf s tf sk (.ref pr)))) (r2 : fz (both M N) H tf = some (.tup [.int (s.factors.1 : Int), .int (s.factors.2 : Int)])) (r3 : M sk) (r4 : H sk = some (.lst (ds.map V.ref))) (r5 : ds.Nodup) (r6 : ∀ d ∈ ds, M d) (r7 : All2 (DictAt A H (fz (both M N) H)) ds s.skaters)
    (hn : s.now = some (w, pg)) (t2 : M pr) (t3 : M tl) (t4 : tl ≠ sk) (t5 : PrAt A H (fz (both M N) H) pr tl w pg) (g : Fr M M H H4) (keep : ∀ q o, H q = some o → q ≠ pr → q ≠ tl → H4 q = some o)
    (P4 : Ex (fz (both M N) H) (fz (both M N) H4) → PrAt A H4 (fz (both M N) H4) pr tl w p') (hf : p'.free = pg.free) (okp : ProgOk s.judges p')
    {r : Kg56.State × Kg56.Ans} {Q : VK} {E : XK} (hk : After A M N H d r Q E) {z : Int} {o : List Int} (e : r = ({ s with now := some (w, p') }, ⟨z, o⟩)) (hz : 0 ≤ z) {l : Addr} (hl : H4 l = none) : Q (.ref l) (upd H4 l (.lst ((z :: o).map V.int))) := by
  refine hk.list e hz g ?_ hl
  have ft := foot g m3 m4 fun q h1 h2 => absurd h1 h2
  have f := fz_both (N := N) g
  obtain ⟨_, _, us, _, u1, u2, _⟩ := t5
  refine ⟨dx, .ref p, m1, keep _ _ hd (ne_of hd u1 (flen_ne (by show ¬ 1 = 7; decide))) (ne_of hd u2 (by intro z; cases z)), ft.1, ft.2, .inr ⟨⟨ok.judges, ok.factors, ok.skaters, ok.over, fun w1 p1 e => ?_⟩, p, rfl, pM, cx, tf, sk, .ref pr, ds,
    keep _ _ r1 (ne_of r1 u1 (flen_ne (by show ¬ 4 = 7; decide))) (ne_of r1 u2 (by intro z; cases z)), f _ _ r2, r3, keep _ _ r4 (ne_of r4 u1 (by intro z; cases z)) (Ne.symm t4), r5, r6, r7.mono_mem fun a b ha q => q.keep (fun o h => ?_) f, pr, tl, rfl, t2, t3, t4, P4 f⟩⟩
  · have e : some (w, p') = some (w1, p1) := e
    cases e
    obtain ⟨q1, q2, _⟩ := ok.now w pg hn
    exact ⟨q1, by rw [hf]; exact q2, okp⟩
  · obtain ⟨kvs, h', _⟩ := q
    exact keep _ _ h (ne_of h' u1 (by intro z; cases z)) (ne_of h' u2 (by intro z; cases z))
theorem quarters_is (s : Kg56.State) (l : List Int) : Kg56.quarters s l = rowOk l (s.judges : Int) 1 40 := by
  unfold Kg56.quarters rowOk
  congr 1
  by_cases h : l.length = s.judges
  · rw [decide_eq_true (by omega), h, beq_self_eq_true]
  · rw [decide_eq_false (by omega), beq_false_of_ne h]
theorem quarters_len {s : Kg56.State} {l : List Int} (h : Kg56.quarters s l = true) : l.length = s.judges := by
  unfold Kg56.quarters at h
  rw [Bool.and_eq_true, beq_iff_eq] at h
  exact h.1
theorem tAnd_of {t u : TT} {σ : L2.St} {H : Hp} {Q : Bool → Hp → Prop} {c b : Bool} (h1 : ∀ Q : Bool → Hp → Prop, Q c H → t σ H Q) (h2 : ∀ Q : Bool → Hp → Prop, Q b H → u σ H Q) (k : Q (c && b) H) : tAnd t u σ H Q := by
  refine h1 _ ?_
  cases c with
  | true => rw [if_pos rfl]; exact h2 Q k
  | false => rw [if_neg Bool.false_ne_true]; exact k
section
variable {P : Program} {w : World} {K : PySem.W.Frag} {mg : Str → Option Value} {base : Heap} {A : Ads}
theorem ok_Desk_tell_faults (T : Txt K w mg A) (F0 : FunM K A.cDesk "tell_faults" "Desk.tell_faults" st_Desk_tell_faults)
    (c_Desk_open_program : CalM P w K mg base (L2.CX P w) 1 A.cDesk "open_program" ["self"] (sp_Desk_open_program A))
    (c_check_number : CalF P w K mg base (L2.CX P w) 1 "check_number" ["number", "least", "most"] (sp_check_number A)) : CalM P w K mg base (L2.CX P w) 2 A.cDesk "tell_faults" ["self", "falls", "off", "seconds"] (sp_Desk_tell_faults A) := by
  obtain ⟨f_Desk_open_program, fd_Desk_open_program, G_Desk_open_program, m_Desk_open_program, b_Desk_open_program⟩ := c_Desk_open_program
  obtain ⟨f_check_number, fd_check_number, G_check_number, mg_check_number, kp_check_number, b_check_number⟩ := c_check_number
  obtain ⟨f, fd, F, gF⟩ := F0
  refine ⟨f, fd, ?_, gF, F.binds (ps := ["self", "falls", "off", "seconds"]) fun _ _ _ _ _ _ us hl => match us, hl with | [_, _, _, _], _ => rfl⟩
  refine F.okX sc_Desk_tell_faults (fun vs H Q E h => by first | (obtain ⟨rfl, _⟩ := h; rfl) | (obtain ⟨_, rfl, _⟩ := h; rfl) | (obtain ⟨_, _, rfl, _⟩ := h; rfl) | (obtain ⟨_, _, _, rfl, _⟩ := h; rfl) | (obtain ⟨_, _, _, _, rfl, _⟩ := h; rfl) | (obtain ⟨_, _, _, _, _, rfl, _⟩ := h; rfl) | (obtain ⟨_, _, _, _, _, _, rfl, _⟩ := h; rfl) | (obtain ⟨_, _, _, _, _, _, _, rfl, _⟩ := h; rfl) | (obtain ⟨_, _, _, _, _, _, _, _, rfl, _⟩ := h; rfl) | (obtain ⟨_, _, _, _, _, _, _, _, _, rfl, _⟩ := h; rfl) | (obtain ⟨_, _, _, _, _, _, _, _, _, _, rfl, _⟩ := h; rfl)) (fun cdv AA outer s H vs Q E hr h => ⟨_, (pss_cons (ps_set (i := 4) sc_Desk_tell_faults.nd rfl (Or.inl rfl) (pe_meth0 (pv 0) T.cl_Desk m_Desk_open_program G_Desk_open_program (hr.mono (by decide)) b_Desk_open_program .nil (passes_call (takes_of rfl rfl rfl rfl) (fun _ _ _ _ h => h))))
      (pss_cons (ps_expr (pe_call G_check_number (hr.mono (by decide)) rfl mg_check_number kp_check_number b_check_number .nil (passes_call (takes_of rfl rfl rfl rfl) (fun _ _ _ _ h => h)) (pa_cons (pv 1) (pa_cons pe_int (pa_cons (pe_globI T.k_MOST_FALLS) pa_nil)))))
      (pss_cons (ps_expr (pe_call G_check_number (hr.mono (by decide)) rfl mg_check_number kp_check_number b_check_number .nil (passes_call (takes_of rfl rfl rfl rfl) (fun _ _ _ _ h => h)) (pa_cons (pv 2) (pa_cons pe_int (pa_cons (pe_globI T.k_MOST_POINTS_OFF) pa_nil)))))
      (pss_cons (ps_expr (pe_call G_check_number (hr.mono (by decide)) rfl mg_check_number kp_check_number b_check_number .nil (passes_call (takes_of rfl rfl rfl rfl) (fun _ _ _ _ h => h)) (pa_cons (pv 3) (pa_cons pe_int (pa_cons (pe_globI T.k_MOST_SECONDS) pa_nil)))))
      (pss_cons (ps_fld (pv 4) (pv 1) rfl)
      (pss_cons (ps_fld (pv 4) (pv 2) rfl)
      (pss_cons (ps_fld (pv 4) (pv 3) rfl)
      (pss_one (ps_ret (pe_lst (pa_cons pe_int pa_nil))))))))))), ?_⟩)
  obtain ⟨d, M, N, s0, a0, b0, t0, rfl, hD, hk⟩ := h
  have un : Kg56.spec s0 (.faults a0 b0 t0) = (match s0.now with
    | some x => if (Kg56.within a0 0 20 && (Kg56.within b0 0 20 && Kg56.within t0 0 300)) = false then (s0, Kg56.num (-1)) else ({ s0 with now := some (x.1, { x.2 with falls := a0.toNat, off := b0.toNat, seconds := t0.toNat }) }, Kg56.num 0)
    | none => (s0, Kg56.num (-2))) := rfl
  obtain ⟨dx, c, m1, hd, m3, m4, hc⟩ := hD
  rcases hc with ⟨rfl, hb⟩ | ⟨ok, p, rfl, pM, cx, tf, sk, pv, ds, r1, r2, r3, r4, r5, r6, r7, r8⟩
  · rw [hb.2.2] at un
    exact ⟨_, rfl, d, dx, _, rfl, hd, rfl, d, dx, _, rfl, hd, .inl ⟨rfl, hk.no2 un H (Ex.refl _)⟩⟩
  cases hn : s0.now with
  | none =>
    rw [hn] at un r8
    cases r8
    exact ⟨_, rfl, d, dx, _, rfl, hd, rfl, d, dx, _, rfl, hd, .inr ⟨p, cx, _, _, _, _, rfl, r1, fun _ => hk.no2 un H (Ex.refl _), fun z => absurd rfl z⟩⟩
  | some x =>
    obtain ⟨w0, pg⟩ := x
    rw [hn] at un r8
    obtain ⟨pr, tl, rfl, t2, t3, t4, t5⟩ := r8
    refine ⟨_, rfl, d, dx, _, rfl, hd, rfl, d, dx, _, rfl, hd, .inr ⟨p, cx, _, _, _, _, rfl, r1, (fun z => nomatch z), fun _ => ?_⟩⟩
    have un : Kg56.spec s0 (.faults a0 b0 t0) = if (Kg56.within a0 0 20 && (Kg56.within b0 0 20 && Kg56.within t0 0 300)) = false then (s0, Kg56.num (-1)) else ({ s0 with now := some (w0, { pg with falls := a0.toNat, off := b0.toNat, seconds := t0.toNat }) }, Kg56.num 0) := un
    have no : (Kg56.within a0 0 20 && (Kg56.within b0 0 20 && Kg56.within t0 0 300)) = false → ∀ H', Ex H H' → E (.ref A.cWrongValue) none H' := fun hf => hk.no1 (un.trans (if_pos hf))
    refine ⟨_, rfl, a0, 0, 20, rfl, fun ha => ?_, fun ha => no (by rw [wf ha]; rfl) H (Ex.refl _)⟩
    refine ⟨_, rfl, b0, 0, 20, rfl, fun hb => ?_, fun hb => no (by rw [wf hb, Bool.false_and, Bool.and_false]) H (Ex.refl _)⟩
    refine ⟨_, rfl, t0, 0, 300, rfl, fun ht => ?_, fun ht => no (by rw [wf ht, Bool.and_false, Bool.and_false]) H (Ex.refl _)⟩
    have un2 := un.trans (if_neg (by rw [wi.mpr ha, wi.mpr hb, wi.mpr ht]; decide))
    obtain ⟨px, mk, us, ms, u1, u2, u3, u4, u5⟩ := id t5
    have okp := (ok.now w0 pg hn).2.2
    refine ⟨_, rfl, _, rfl, pr, _, px, _, rfl, u1, T.cl_Program, T.na_Program_falls, by show 7 < 1000; decide, ?_⟩
    refine ⟨_, rfl, _, rfl, pr, _, px, _, rfl, upd_same, T.cl_Program, T.na_Program_off, by show 7 < 1000; decide, ?_⟩
    refine ⟨_, rfl, _, rfl, pr, _, px, _, rfl, upd_same, T.cl_Program, T.na_Program_seconds, by show 7 < 1000; decide, ?_⟩
    refine ⟨by show 1 ≤ sizeLine; decide, fun l hl => ?_⟩
    have tpr : tl ≠ pr := ne_of u2 u1 (by intro z; cases z)
    refine now_set (p' := { pg with falls := a0.toNat, off := b0.toNat, seconds := t0.toNat }) m1 hd m3 m4 ok pM r1 r2 r3 r4 r5 r6 r7 hn t2 t3 t4 t5 ((Fr.upd t2).trans ((Fr.upd t2).trans (Fr.upd t2))) (fun q o h hq _ => ?_) (fun ef => ⟨px, mk, us, ms, ?_, ?_, u3.mono fun _ _ => ToldAt.mono ef, ef _ _ u4, u5.mono fun v ns ⟨a, q1, q2⟩ => ⟨a, q1, ef _ _ q2⟩⟩) rfl okp hk (o := []) un2 (by decide) hl
    · rw [upd_ne hq, upd_ne hq, upd_ne hq]
      exact h
    · rw [upd_same]
      have e1 : ((a0.toNat : Nat) : Int) = a0 := by omega
      have e2 : ((b0.toNat : Nat) : Int) = b0 := by omega
      have e3 : ((t0.toNat : Nat) : Int) = t0 := by omega
      unfold pf
      dsimp only
      rw [e1, e2, e3]
      rfl
    · rw [upd_ne tpr, upd_ne tpr, upd_ne tpr]
      exact u2
theorem ok_Desk_tell_marks (T : Txt K w mg A) (F0 : FunM K A.cDesk "tell_marks" "Desk.tell_marks" st_Desk_tell_marks)
    (c_Desk_open_program : CalM P w K mg base (L2.CX P w) 1 A.cDesk "open_program" ["self"] (sp_Desk_open_program A))
    (c_check_row : CalF P w K mg base (L2.CX P w) 2 "check_row" ["row", "judges", "least", "most"] (sp_check_row K A)) : CalM P w K mg base (L2.CX P w) 3 A.cDesk "tell_marks" ["self", "one", "two", "three"] (sp_Desk_tell_marks A) := by
  obtain ⟨f_Desk_open_program, fd_Desk_open_program, G_Desk_open_program, m_Desk_open_program, b_Desk_open_program⟩ := c_Desk_open_program
  obtain ⟨f_check_row, fd_check_row, G_check_row, mg_check_row, kp_check_row, b_check_row⟩ := c_check_row
  obtain ⟨f, fd, F, gF⟩ := F0
  refine ⟨f, fd, ?_, gF, F.binds (ps := ["self", "one", "two", "three"]) fun _ _ _ _ _ _ us hl => match us, hl with | [_, _, _, _], _ => rfl⟩
  refine F.okX sc_Desk_tell_marks (fun vs H Q E h => by first | (obtain ⟨rfl, _⟩ := h; rfl) | (obtain ⟨_, rfl, _⟩ := h; rfl) | (obtain ⟨_, _, rfl, _⟩ := h; rfl) | (obtain ⟨_, _, _, rfl, _⟩ := h; rfl) | (obtain ⟨_, _, _, _, rfl, _⟩ := h; rfl) | (obtain ⟨_, _, _, _, _, rfl, _⟩ := h; rfl) | (obtain ⟨_, _, _, _, _, _, rfl, _⟩ := h; rfl) | (obtain ⟨_, _, _, _, _, _, _, rfl, _⟩ := h; rfl) | (obtain ⟨_, _, _, _, _, _, _, _, rfl, _⟩ := h; rfl) | (obtain ⟨_, _, _, _, _, _, _, _, _, rfl, _⟩ := h; rfl) | (obtain ⟨_, _, _, _, _, _, _, _, _, _, rfl, _⟩ := h; rfl)) (fun cdv AA outer s H vs Q E hr h => ⟨_, (pss_cons (ps_set (i := 4) sc_Desk_tell_marks.nd rfl (Or.inl rfl) (pe_meth0 (pv 0) T.cl_Desk m_Desk_open_program G_Desk_open_program (hr.mono (by decide)) b_Desk_open_program .nil (passes_call (takes_of rfl rfl rfl rfl) (fun _ _ _ _ h => h))))
      (pss_cons (ps_for (passes_of rfl) rfl (pi_tup (pe_tup (pa_cons (pv 1) (pa_cons (pv 2) (pa_cons (pv 3) pa_nil))))) (pg_name (i := 5) sc_Desk_tell_marks.nd rfl (Or.inl rfl)) (pss_one (ps_expr (pe_call G_check_row (hr.mono (by decide)) rfl mg_check_row kp_check_row b_check_row .nil (passes_call (takes_of rfl rfl rfl rfl) (fun _ _ _ _ h => h)) (pa_cons (pv 5) (pa_cons (pe_fld (pe_fld (pv 0) rfl) rfl) (pa_cons pe_int (pa_cons pe_int pa_nil))))))))
      (pss_cons (ps_fld (pv 4) (pe_lst (pa_cons (pv 1) (pa_cons (pv 2) (pa_cons (pv 3) pa_nil)))) rfl)
      (pss_one (ps_ret (pe_lst (pa_cons pe_int pa_nil))))))), ?_⟩)
  obtain ⟨d, M, N, s0, a, b, c3, xs, ys, zs, rfl, ha, hb, hc3, hD, hk⟩ := h
  have un : Kg56.spec s0 (.marks xs ys zs) = (match s0.now with
    | some x => if (Kg56.quarters s0 xs && (Kg56.quarters s0 ys && Kg56.quarters s0 zs)) = false then (s0, Kg56.num (-1)) else ({ s0 with now := some (x.1, { x.2 with marks := [xs, ys, zs] }) }, Kg56.num 0)
    | none => (s0, Kg56.num (-2))) := rfl
  obtain ⟨dx, c, m1, hd, m3, m4, hc⟩ := hD
  rcases hc with ⟨rfl, hb⟩ | ⟨ok, p, rfl, pM, cx, tf, sk, pv, ds, r1, r2, r3, r4, r5, r6, r7, r8⟩
  · rw [hb.2.2] at un
    exact ⟨_, rfl, d, dx, _, rfl, hd, rfl, d, dx, _, rfl, hd, .inl ⟨rfl, hk.no2 un H (Ex.refl _)⟩⟩
  cases hn : s0.now with
  | none =>
    rw [hn] at un r8
    cases r8
    exact ⟨_, rfl, d, dx, _, rfl, hd, rfl, d, dx, _, rfl, hd, .inr ⟨p, cx, _, _, _, _, rfl, r1, fun _ => hk.no2 un H (Ex.refl _), fun z => absurd rfl z⟩⟩
  | some x =>
    obtain ⟨w0, pg⟩ := x
    rw [hn] at un r8
    obtain ⟨pr, tl, rfl, t2, t3, t4, t5⟩ := r8
    refine ⟨_, rfl, d, dx, _, rfl, hd, rfl, d, dx, _, rfl, hd, .inr ⟨p, cx, _, _, _, _, rfl, r1, (fun z => nomatch z), fun _ => ?_⟩⟩
    have un : Kg56.spec s0 (.marks xs ys zs) = if (Kg56.quarters s0 xs && (Kg56.quarters s0 ys && Kg56.quarters s0 zs)) = false then (s0, Kg56.num (-1)) else ({ s0 with now := some (w0, { pg with marks := [xs, ys, zs] }) }, Kg56.num 0) := un
    refine ⟨_, rfl, _, rfl, _, rfl, by show 3 ≤ sizeLine; decide, fun tp htp => ?_⟩
    have e1 := Ex.one (o := .tup [.ref a, .ref b, .ref c3]) htp
    have un1 : (Kg56.quarters s0 xs && (Kg56.quarters s0 ys && Kg56.quarters s0 zs)) = false → Kg56.spec s0 (.marks xs ys zs) = (s0, Kg56.num (-1)) := fun hf => un.trans (if_pos hf)
    have rows : All2 (fun v ns => ∃ q, v = .ref q ∧ (upd H tp (.tup [.ref a, .ref b, .ref c3])) q = some (.lst (ns.map V.int))) [V.ref a, V.ref b, V.ref c3] [xs, ys, zs] :=
      .cons ⟨a, rfl, e1 _ _ (fz_in _ _ ha)⟩ (.cons ⟨b, rfl, e1 _ _ (fz_in _ _ hb)⟩ (.cons ⟨c3, rfl, e1 _ _ (fz_in _ _ hc3)⟩ .nil))
    refine ⟨tp, rfl, ⟨_, SqT.of upd_same⟩, for_tup (K := K) (a := tp) (xs := [.ref a, .ref b, .ref c3]) (fun i σ H' => ∃ v, σ = [some (.ref d), some (.ref a), some (.ref b), some (.ref c3), some (.ref pr), v] ∧ H' = upd H tp (.tup [.ref a, .ref b, .ref c3]) ∧ ∀ k r, k < i → [xs, ys, zs][k]? = some r → Kg56.quarters s0 r = true)
      ⟨none, rfl, rfl, fun k r h => absurd h (Nat.not_lt_zero k)⟩ (fun i σ H' _ ⟨_, _, z, _⟩ => by rw [z]; exact SqT.of upd_same) ?_ ?_⟩
    · rintro i y σ H' hi ⟨v, rfl, rfl, hall⟩
      obtain ⟨r, hr, q, rfl, hq⟩ := rows.get hi
      refine ⟨_, rfl, _, rfl, d, _, dx, _, _, rfl, e1 _ _ hd, T.cl_Desk, T.na_Desk_competition, rfl, p, _, cx, _, _, rfl, e1 _ _ r1, T.cl_Competition, T.na_Competition_judges, rfl, ?_⟩
      refine ⟨q, r, _, _, _, rfl, SqL.of hq, fun hok => ⟨_, rfl, rfl, fun k r' hk hr' => ?_⟩, fun hbad => ?_⟩
      · by_cases z : k = i
        · rw [z, hr] at hr'
          cases hr'
          rw [quarters_is]
          exact hok
        · exact hall k r' (by omega) hr'
      · refine hk.no1 (un1 ?_) _ e1
        rw [← quarters_is] at hbad
        match i, hr with
        | 0, hr => cases hr; rw [hbad]; rfl
        | 1, hr => cases hr; rw [hbad, Bool.false_and, Bool.and_false]
        | 2, hr => cases hr; rw [hbad, Bool.and_false, Bool.and_false]
    · rintro σ H' ⟨v, rfl, rfl, hall⟩
      have q1 := hall 0 xs (by show 0 < 3; decide) rfl
      have q2 := hall 1 ys (by show 1 < 3; decide) rfl
      have q3 := hall 2 zs (by show 2 < 3; decide) rfl
      have un2 := un.trans (if_neg (by rw [q1, q2, q3]; decide))
      obtain ⟨px, mk, us, ms, u1, u2, u3, u4, u5⟩ := id t5
      have okp := (ok.now w0 pg hn).2.2
      have tpr : tl ≠ pr := ne_of u2 u1 (by intro z; cases z)
      refine ⟨_, rfl, _, rfl, _, rfl, by show 3 ≤ sizeLine; decide, fun m hm => ?_⟩
      have e2 := Ex.one (o := .lst [.ref a, .ref b, .ref c3]) hm
      refine ⟨_, rfl, pr, _, px, _, rfl, e2 _ _ (e1 _ _ u1), T.cl_Program, T.na_Program_marks, by show 7 < 1000; decide, ?_⟩
      refine ⟨by show 1 ≤ sizeLine; decide, fun l hl => ?_⟩
      have mpr : m ≠ pr := fun z => by rw [z, e1 _ _ u1] at hm; cases hm
      have hm0 : H m = none := Evl.fresh_back e1 hm
      have fm := far m3 m4 hm0
      refine now_set (p' := { pg with marks := [xs, ys, zs] }) m1 hd m3 m4 ok pM r1 r2 r3 r4 r5 r6 r7 hn t2 t3 t4 t5 ((Fr.ex (e1.trans e2)).trans (Fr.upd t2)) (fun q o h hq _ => ?_)
        (fun ef => ⟨px, m, us, [.ref a, .ref b, .ref c3], ?_, ?_, u3.mono fun _ _ => ToldAt.mono ef, fz_of (fun z => z.elim fm.1 fm.2) ?_, .cons ⟨a, rfl, ef _ _ ha⟩ (.cons ⟨b, rfl, ef _ _ hb⟩ (.cons ⟨c3, rfl, ef _ _ hc3⟩ .nil))⟩) rfl ⟨okp.1, okp.2.1, Nat.le_refl _, ?_⟩ hk (o := []) un2 (by decide) hl
      · rw [upd_ne hq]
        exact e2 _ _ (e1 _ _ h)
      · rw [upd_same]
        rfl
      · rw [upd_ne tpr]
        exact e2 _ _ (e1 _ _ u2)
      · rw [upd_ne mpr, upd_same]
      · intro r hr
        have : r = xs ∨ r = ys ∨ r = zs := by simpa using hr
        rcases this with z | z | z <;> rw [z]
        · exact quarters_len q1
        · exact quarters_len q2
        · exact quarters_len q3
theorem ok_Desk_tell_element (T : Txt K w mg A) (F0 : FunM K A.cDesk "tell_element" "Desk.tell_element" st_Desk_tell_element)
    (c_Desk_open_program : CalM P w K mg base (L2.CX P w) 1 A.cDesk "open_program" ["self"] (sp_Desk_open_program A))
    (c_check_text : CalF P w K mg base (L2.CX P w) 1 "check_text" ["numbers"] (sp_check_text K A))
    (c_check_number : CalF P w K mg base (L2.CX P w) 1 "check_number" ["number", "least", "most"] (sp_check_number A))
    (c_check_row : CalF P w K mg base (L2.CX P w) 2 "check_row" ["row", "judges", "least", "most"] (sp_check_row K A))
    (c_element_of : CalF P w K mg base (L2.CX P w) 7 "element_of" ["numbers"] (sp_element_of K A))
    (c_Telling_init : CalI P w K mg base CX0 1 A.cTelling ["self", "second", "element", "grades"] (sp_Telling_init A)) : CalM P w K mg base (L2.CX P w) 8 A.cDesk "tell_element" ["self", "second", "text", "grades"] (sp_Desk_tell_element A) := by
  obtain ⟨f_Desk_open_program, fd_Desk_open_program, G_Desk_open_program, m_Desk_open_program, b_Desk_open_program⟩ := c_Desk_open_program
  obtain ⟨f_check_text, fd_check_text, G_check_text, mg_check_text, kp_check_text, b_check_text⟩ := c_check_text
  obtain ⟨f_check_number, fd_check_number, G_check_number, mg_check_number, kp_check_number, b_check_number⟩ := c_check_number
  obtain ⟨f_check_row, fd_check_row, G_check_row, mg_check_row, kp_check_row, b_check_row⟩ := c_check_row
  obtain ⟨f_element_of, fd_element_of, G_element_of, mg_element_of, kp_element_of, b_element_of⟩ := c_element_of
  obtain ⟨f_Telling_init, fd_Telling_init, G_Telling_init, M_Telling, b_Telling_init⟩ := c_Telling_init
  obtain ⟨f, fd, F, gF⟩ := F0
  refine ⟨f, fd, ?_, gF, F.binds (ps := ["self", "second", "text", "grades"]) fun _ _ _ _ _ _ us hl => match us, hl with | [_, _, _, _], _ => rfl⟩
  refine F.okX sc_Desk_tell_element (fun vs H Q E h => by first | (obtain ⟨rfl, _⟩ := h; rfl) | (obtain ⟨_, rfl, _⟩ := h; rfl) | (obtain ⟨_, _, rfl, _⟩ := h; rfl) | (obtain ⟨_, _, _, rfl, _⟩ := h; rfl) | (obtain ⟨_, _, _, _, rfl, _⟩ := h; rfl) | (obtain ⟨_, _, _, _, _, rfl, _⟩ := h; rfl) | (obtain ⟨_, _, _, _, _, _, rfl, _⟩ := h; rfl) | (obtain ⟨_, _, _, _, _, _, _, rfl, _⟩ := h; rfl) | (obtain ⟨_, _, _, _, _, _, _, _, rfl, _⟩ := h; rfl) | (obtain ⟨_, _, _, _, _, _, _, _, _, rfl, _⟩ := h; rfl) | (obtain ⟨_, _, _, _, _, _, _, _, _, _, rfl, _⟩ := h; rfl)) (fun cdv AA outer s H vs Q E hr h => ⟨_, (pss_cons (ps_set (i := 4) sc_Desk_tell_element.nd rfl (Or.inl rfl) (pe_meth0 (pv 0) T.cl_Desk m_Desk_open_program G_Desk_open_program (hr.mono (by decide)) b_Desk_open_program .nil (passes_call (takes_of rfl rfl rfl rfl) (fun _ _ _ _ h => h))))
      (pss_cons (ps_expr (pe_call G_check_text (hr.mono (by decide)) rfl mg_check_text kp_check_text b_check_text .nil (passes_call (takes_of rfl rfl rfl rfl) (fun _ _ _ _ h => h)) (pa_cons (pv 2) pa_nil)))
      (pss_cons (ps_expr (pe_call G_check_number (hr.mono (by decide)) rfl mg_check_number kp_check_number b_check_number .nil (passes_call (takes_of rfl rfl rfl rfl) (fun _ _ _ _ h => h)) (pa_cons (pv 1) (pa_cons pe_int (pa_cons pe_int pa_nil)))))
      (pss_cons (ps_expr (pe_call G_check_row (hr.mono (by decide)) rfl mg_check_row kp_check_row b_check_row .nil (passes_call (takes_of rfl rfl rfl rfl) (fun _ _ _ _ h => h)) (pa_cons (pv 3) (pa_cons (pe_fld (pe_fld (pv 0) rfl) rfl) (pa_cons (pe_un un_neg pe_int) (pa_cons pe_int pa_nil))))))
      (pss_cons (ps_set (i := 5) sc_Desk_tell_element.nd rfl (Or.inl rfl) (pe_call G_element_of (hr.mono (by decide)) rfl mg_element_of kp_element_of b_element_of .nil (passes_call (takes_of rfl rfl rfl rfl) (fun _ _ _ _ h => h)) (pa_cons (pv 2) pa_nil)))
      (pss_cons (ps_if (pt_cmpR op_eq (pe_callB call_len_seq (by rfl) T.b_len (by decide +kernel) (pa_cons (pe_fld (pv 4) rfl) pa_nil)) (pe_globI T.k_MOST_TELLINGS) (nomark _)) (pss_one (ps_raise rfl (takes_of rfl rfl rfl rfl) (pmk_own0 PySem.F.excBase_Exception T.x_NoRoom T.g_NoRoom T.k_NoRoom (raises_own T.s_NoRoom T.t_NoRoom) (by exact rfl)))) pss_nil)
      (pss_cons (ps_expr (pe_bm PySem.F.plainAttrs_list PySem.F.slot_list_append PySem.F.type_list_append mt_append (pe_fld (pv 4) rfl) (pa_cons (pe_make M_Telling G_Telling_init (hr.mono (by decide)) rfl T.g_Telling b_Telling_init .nil pass0 (pa_cons (pv 1) (pa_cons (pv 5) (pa_cons (pv 3) pa_nil)))) pa_nil)))
      (pss_one (ps_ret (pe_lst (pa_cons (pe_op op_sub (pe_callB call_len_seq (by rfl) T.b_len (by decide +kernel) (pa_cons (pe_fld (pv 4) rfl) pa_nil)) pe_int) pa_nil))))))))))), ?_⟩)
  obtain ⟨d, M, N, s0, h0, a, b, ns, gs, rfl, ha, hb, hD, hk⟩ := h
  have un : Kg56.spec s0 (.element h0 ns gs) = (match s0.now with
    | some x => if (Kg56.textOk ns && (Kg56.within h0 0 1 && (gs.length == s0.judges && gs.all fun z => Kg56.within z (-5) 5))) = false then (s0, Kg56.num (-1))
      else match Kg56.element? (Kg56.nats ns) with
        | none => (s0, Kg56.num (-4))
        | some e => if 20 ≤ x.2.elements.length then (s0, Kg56.num (-5)) else ({ s0 with now := some (x.1, { x.2 with elements := x.2.elements ++ [⟨e, h0 == 1, gs⟩] }) }, Kg56.num (x.2.elements.length : Nat))
    | none => (s0, Kg56.num (-2))) := rfl
  obtain ⟨dx, c, m1, hd, m3, m4, hc⟩ := hD
  rcases hc with ⟨rfl, hb⟩ | ⟨ok, p, rfl, pM, cx, tf, sk, pv, ds, r1, r2, r3, r4, r5, r6, r7, r8⟩
  · rw [hb.2.2] at un
    exact ⟨_, rfl, d, dx, _, rfl, hd, rfl, d, dx, _, rfl, hd, .inl ⟨rfl, hk.no2 un H (Ex.refl _)⟩⟩
  cases hn : s0.now with
  | none =>
    rw [hn] at un r8
    cases r8
    exact ⟨_, rfl, d, dx, _, rfl, hd, rfl, d, dx, _, rfl, hd, .inr ⟨p, cx, _, _, _, _, rfl, r1, fun _ => hk.no2 un H (Ex.refl _), fun z => absurd rfl z⟩⟩
  | some x =>
    obtain ⟨w0, pg⟩ := x
    rw [hn] at un r8
    obtain ⟨pr, tl, rfl, t2, t3, t4, t5⟩ := r8
    refine ⟨_, rfl, d, dx, _, rfl, hd, rfl, d, dx, _, rfl, hd, .inr ⟨p, cx, _, _, _, _, rfl, r1, (fun z => nomatch z), fun _ => ?_⟩⟩
    have un : Kg56.spec s0 (.element h0 ns gs) = if (Kg56.textOk ns && (Kg56.within h0 0 1 && (gs.length == s0.judges && gs.all fun z => Kg56.within z (-5) 5))) = false then (s0, Kg56.num (-1))
      else match Kg56.element? (Kg56.nats ns) with
        | none => (s0, Kg56.num (-4))
        | some e => if 20 ≤ pg.elements.length then (s0, Kg56.num (-5)) else ({ s0 with now := some (w0, { pg with elements := pg.elements ++ [⟨e, h0 == 1, gs⟩] }) }, Kg56.num (pg.elements.length : Nat)) := un
    have rj : (gs.length == s0.judges && gs.all fun z => Kg56.within z (-5) 5) = rowOk gs (s0.judges : Int) (-5) 5 := by
      unfold rowOk
      congr 1
      by_cases h : gs.length = s0.judges
      · rw [decide_eq_true (by omega), h, beq_self_eq_true]
      · rw [decide_eq_false (by omega), beq_false_of_ne h]
    rw [rj] at un
    have no : (Kg56.textOk ns && (Kg56.within h0 0 1 && rowOk gs (s0.judges : Int) (-5) 5)) = false → ∀ H', Ex H H' → E (.ref A.cWrongValue) none H' := fun hf => hk.no1 (un.trans (if_pos hf))
    refine ⟨_, rfl, a, ns, rfl, SqL.of ha, fun ht => ?_, fun ht => no (by rw [ht]; rfl) H (Ex.refl _)⟩
    refine ⟨_, rfl, h0, 0, 1, rfl, fun hh => ?_, fun hh => no (by rw [wf hh, Bool.false_and, Bool.and_false]) H (Ex.refl _)⟩
    refine ⟨_, rfl, _, rfl, d, _, dx, _, _, rfl, hd, T.cl_Desk, T.na_Desk_competition, rfl, p, _, cx, _, _, rfl, r1, T.cl_Competition, T.na_Competition_judges, rfl, ?_⟩
    refine ⟨5, rfl, b, gs, _, _, _, rfl, SqL.of (fz_in _ _ hb), fun hg => ?_, fun hg => no (by rw [hg, Bool.and_false, Bool.and_false]) H (Ex.refl _)⟩
    have hg : rowOk gs (s0.judges : Int) (-5) 5 = true := hg
    have un2 := un.trans (if_neg (by rw [ht, wi.mpr hh, hg]; decide))
    obtain ⟨h40, hby⟩ := text_fine ht
    refine ⟨_, rfl, a, ns, rfl, SqL.of ha, h40, hby, fun e he v H1 e1 hE => ?_, fun he H1 e1 => hk.no4 (un2.trans (by rw [he])) H1 e1⟩
    have oke := elem_fine he
    have un3 : Kg56.spec s0 (.element h0 ns gs) = if 20 ≤ pg.elements.length then (s0, Kg56.num (-5)) else ({ s0 with now := some (w0, { pg with elements := pg.elements ++ [⟨e, h0 == 1, gs⟩] }) }, Kg56.num (pg.elements.length : Nat)) := un2.trans (by rw [he])
    obtain ⟨px, mk, us, ms, u1, u2, u3, u4, u5⟩ := id t5
    have okp := (ok.now w0 pg hn).2.2
    have hul : us.length = pg.elements.length := u3.len
    have tpr : tl ≠ pr := ne_of u2 u1 (by intro z; cases z)
    refine ⟨_, rfl, pr, _, px, _, _, rfl, e1 _ _ u1, T.cl_Program, T.na_Program_tellings, rfl, tl, _, rfl, .inl (SqL.of (e1 _ _ u2)), rfl, _, rfl, ?_⟩
    by_cases c20 : pg.elements.length = 20
    · exact t_yes (iT (by rw [hul]; omega)) (hk.no5 (un3.trans (if_pos (by omega))) H1 e1)
    refine t_no (iF (by rw [hul]; omega)) ?_
    have p20 := okp.2.1
    have un4 := un3.trans (if_neg (by omega))
    refine ⟨_, rfl, pr, _, px, _, _, rfl, e1 _ _ u1, T.cl_Program, T.na_Program_tellings, rfl, .inl ⟨rfl, _, SqL.of (e1 _ _ u2)⟩, ?_⟩
    refine ⟨_, rfl, _, rfl, _, rfl, ?_⟩
    intro x dx2 nx nd ne
    refine ⟨.int h0, v, .ref b, made0 (vs := [.int h0, v, .ref b]) nx nd (fun H2 e2 h2 => ⟨rfl, ?_⟩)⟩
    have e12 := e1.trans e2
    refine ⟨tl, us, _, rfl, rfl, e12 _ _ u2, by rw [hul]; exact Nat.lt_of_le_of_lt (m := 20) (by omega) (by decide), ?_⟩
    refine ⟨_, rfl, pr, _, px, _, _, rfl, (upd_ne (Ne.symm tpr)).trans (e12 _ _ u1), T.cl_Program, T.na_Program_tellings, rfl, tl, _, rfl, .inl (SqL.of upd_same), _, _, rfl, rfl, by show 1 ≤ sizeLine; decide, fun l hl => ?_⟩
    have hv : (((us ++ [V.ref x]).length : Nat) : Int) - 1 = ((pg.elements.length : Nat) : Int) := by
      rw [List.length_append, hul]
      show ((pg.elements.length + 1 : Nat) : Int) - 1 = _
      omega
    show Q (.ref l) (upd _ l (.lst [V.int ((((us ++ [V.ref x]).length : Nat) : Int) - 1)]))
    rw [hv]
    have nx0 : H x = none := Evl.fresh_back e1 nx
    have fx := far m3 m4 nx0
    have xtl : x ≠ tl := fun z => by rw [z, u2] at nx0; cases nx0
    refine now_set (p' := { pg with elements := pg.elements ++ [⟨e, h0 == 1, gs⟩] }) m1 hd m3 m4 ok pM r1 r2 r3 r4 r5 r6 r7 hn t2 t3 t4 t5 ((Fr.ex e12).trans (Fr.upd t3)) (fun q o h _ hq => ?_)
      (fun ef => ⟨px, mk, us ++ [.ref x], ms, ?_, upd_same, ?_, ef _ _ u4, u5.mono fun v ns ⟨a, q1, q2⟩ => ⟨a, q1, ef _ _ q2⟩⟩) rfl ⟨?_, ?_, okp.2.2⟩ hk (z := ((pg.elements.length : Nat) : Int)) (o := []) un4 (by omega) hl
    · rw [upd_ne hq]
      exact e12 _ _ h
    · rw [upd_ne (Ne.symm tpr)]
      exact e12 _ _ u1
    · refine (u3.mono fun _ _ => ToldAt.mono ef).snoc ⟨x, dx2, v, b, rfl, ?_, ?_, ef _ _ hb⟩
      · refine fz_of (fun z => z.elim fx.1 fx.2) ?_
        rw [upd_ne xtl, h2]
        by_cases q : h0 = 1
        · rw [q]; rfl
        · have : h0 = 0 := by omega
          rw [this]; rfl
      · refine hE.mono fun q o hq => ?_
        have q0 := nw_out hq
        have fq := far m3 m4 q0
        refine fz_of (fun z => z.elim fq.1 fq.2) ?_
        rw [upd_ne (fun z => by rw [z, u2] at q0; cases q0)]
        exact e2 _ _ (nw_in _ _ hq)
    · intro t hmem
      rcases List.mem_append.mp hmem with z | z
      · exact okp.1 t z
      · have : t = ⟨e, h0 == 1, gs⟩ := by simpa using z
        rw [this]
        unfold rowOk at hg
        rw [Bool.and_eq_true, decide_eq_true_eq, List.all_eq_true] at hg
        refine ⟨oke, ?_, fun z hz => wi.mp (hg.2 z hz)⟩
        show gs.length = s0.judges
        omega
    · show (pg.elements ++ [_]).length ≤ 20
      rw [List.length_append]
      show pg.elements.length + 1 ≤ 20
      omega
theorem ok_Desk_start (T : Txt K w mg A) (F0 : FunM K A.cDesk "start" "Desk.start" st_Desk_start)
    (c_Desk_skated_by : CalM P w K mg base (L2.CX P w) 2 A.cDesk "skated_by" ["self", "skater", "free"] (sp_Desk_skated_by A))
    (c_Program_init : CalI P w K mg base CX0 1 A.cProgram ["self", "skater", "free"] (sp_Program_init A)) : CalM P w K mg base (L2.CX P w) 3 A.cDesk "start" ["self", "skater", "free"] (sp_Desk_start A) := by
  obtain ⟨f_Desk_skated_by, fd_Desk_skated_by, G_Desk_skated_by, m_Desk_skated_by, b_Desk_skated_by⟩ := c_Desk_skated_by
  obtain ⟨f_Program_init, fd_Program_init, G_Program_init, M_Program, b_Program_init⟩ := c_Program_init
  obtain ⟨f, fd, F, gF⟩ := F0
  refine ⟨f, fd, ?_, gF, F.binds (ps := ["self", "skater", "free"]) fun _ _ _ _ _ _ us hl => match us, hl with | [_, _, _], _ => rfl⟩
  refine F.okX sc_Desk_start (fun vs H Q E h => by first | (obtain ⟨rfl, _⟩ := h; rfl) | (obtain ⟨_, rfl, _⟩ := h; rfl) | (obtain ⟨_, _, rfl, _⟩ := h; rfl) | (obtain ⟨_, _, _, rfl, _⟩ := h; rfl) | (obtain ⟨_, _, _, _, rfl, _⟩ := h; rfl) | (obtain ⟨_, _, _, _, _, rfl, _⟩ := h; rfl) | (obtain ⟨_, _, _, _, _, _, rfl, _⟩ := h; rfl) | (obtain ⟨_, _, _, _, _, _, _, rfl, _⟩ := h; rfl) | (obtain ⟨_, _, _, _, _, _, _, _, rfl, _⟩ := h; rfl) | (obtain ⟨_, _, _, _, _, _, _, _, _, rfl, _⟩ := h; rfl) | (obtain ⟨_, _, _, _, _, _, _, _, _, _, rfl, _⟩ := h; rfl)) (fun cdv AA outer s H vs Q E hr h => ⟨_, (pss_cons (ps_set (i := 3) sc_Desk_start.nd rfl (Or.inl rfl) (pe_meth (pv 0) T.cl_Desk m_Desk_skated_by G_Desk_skated_by (hr.mono (by decide)) b_Desk_skated_by .nil (passes_call (takes_of rfl rfl rfl rfl) (fun _ _ _ _ h => h)) (pa_cons (pv 1) (pa_cons (pv 2) pa_nil))))
      (pss_cons (ps_if (pt_cmpR op_notN (pe_fld (pe_fld (pv 0) rfl) rfl) pe_non (nomark _)) (pss_one (ps_raise rfl (takes_of rfl rfl rfl rfl) (pmk_own0 PySem.F.excBase_Exception T.x_StillSkating T.g_StillSkating T.k_StillSkating (raises_own T.s_StillSkating T.t_StillSkating) (by exact rfl)))) pss_nil)
      (pss_cons (ps_if (PW.pt (pw_or (pt_cmp (pc_din (hu_of hr) (pv 2) (pv 3))) (pw_or1 (PW.pt (pw_and (pt_cmpR op_eq (pv 2) (pe_globI T.k_FREE) (nomark _)) (pw_and1 (pt_cmp (pc_dnotin (hu_of hr) (pe_globI T.k_SHORT) (pv 3))))))))) (pss_one (ps_raise rfl (takes_of rfl rfl rfl rfl) (pmk_own0 PySem.F.excBase_Exception T.x_DoesNotFit T.g_DoesNotFit T.k_DoesNotFit (raises_own T.s_DoesNotFit T.t_DoesNotFit) (by exact rfl)))) pss_nil)
      (pss_cons (ps_fld (pe_fld (pv 0) rfl) (pe_make M_Program G_Program_init (hr.mono (by decide)) rfl T.g_Program b_Program_init .nil pass0 (pa_cons (pv 1) (pa_cons (pv 2) pa_nil))) rfl)
      (pss_one (ps_ret (pe_lst (pa_cons pe_int pa_nil)))))))), ?_⟩)
  obtain ⟨d, M, N, s0, w0, f0, rfl, hD, hk⟩ := h
  have un : Kg56.spec s0 (.start w0 f0) = if whoOk s0 w0 f0 = false then (s0, Kg56.num (-1)) else if s0.now.isSome = true then (s0, Kg56.num (-3)) else
    if (s0.of w0.toNat (f0 == 1)).isSome = true ∨ (f0 = 1 ∧ (s0.of w0.toNat false).isNone = true) then (s0, Kg56.num (-4)) else ({ s0 with now := some (w0.toNat, ⟨f0 == 1, [], [], 0, 0, 0⟩) }, Kg56.num 0) := rfl
  obtain ⟨dx, c, m1, hd, m3, m4, hc⟩ := id hD
  refine ⟨_, rfl, d, dx, _, rfl, hd, rfl, _, rfl, _, rfl, d, M, N, s0, w0, f0, rfl, hD, fun hw => hk.no1 (un.trans (if_pos hw)), fun hw v H1 k0 e1 hk0 hov => ?_⟩
  rw [if_neg (by rw [hw]; decide)] at un
  have hlt := (List.getElem?_eq_some_iff.mp hk0).1
  have hf : 0 ≤ f0 ∧ f0 ≤ 1 ∧ 0 ≤ w0 := by
    unfold whoOk at hw
    rw [Bool.and_eq_true, Bool.and_eq_true, decide_eq_true_eq] at hw
    exact ⟨(wi.mp hw.1).1, (wi.mp hw.1).2, hw.2.1⟩
  obtain ⟨b, hb1, hb2⟩ := bit ⟨hf.1, hf.2.1⟩
  have hof : ∀ b, s0.of w0.toNat b = k0.of b := fun b => by
    unfold Kg56.State.of
    rw [hk0]
    rfl
  rw [hb2, hof, hof] at un
  obtain ⟨dd, kvs, rfl, z1, z2, z3⟩ := hov
  rcases hc with ⟨rfl, hb⟩ | ⟨ok, p, rfl, pM, cx, tf, sk, pv, ds, r1, r2, r3, r4, r5, r6, r7, r8⟩
  · rw [hb.2.1] at hlt
    exact absurd hlt (Nat.not_lt_zero _)
  refine ⟨_, rfl, d, _, dx, _, _, rfl, e1 _ _ hd, T.cl_Desk, T.na_Desk_competition, rfl, p, _, cx, _, _, rfl, e1 _ _ r1, T.cl_Competition, T.na_Competition_program, rfl, rfl, _, rfl, ?_⟩
  cases hn : s0.now with
  | some x =>
    rw [hn] at un r8
    obtain ⟨pr, tl, rfl, _⟩ := r8
    rw [non_no]
    exact hk.no3 (un.trans (if_pos rfl)) H1 e1
  | none =>
    rw [hn] at un r8
    cases r8
    have un : Kg56.spec s0 (.start w0 f0) = if (k0.of b).isSome = true ∨ (f0 = 1 ∧ (k0.of false).isNone = true) then (s0, Kg56.num (-4)) else ({ s0 with now := some (w0.toNat, ⟨b, [], [], 0, 0, 0⟩) }, Kg56.num 0) := un
    refine ⟨_, rfl, _, rfl, dd, _, rfl, by rw [hb1]; exact DGet.k (k := bk b) z1, _, rfl, ?_⟩
    rw [(z3 b).is]
    by_cases cb : (k0.of b).isSome = true
    · exact t_yes cb (hk.no4 (un.trans (if_pos (.inl cb))) H1 e1)
    refine t_no (Bool.eq_false_iff.mpr cb) ?_
    refine tAnd_of (c := decide (V.int f0 = V.int 1)) (b := !(valV kvs (bk false)).isSome) (fun Q q => ⟨_, rfl, rfl, _, rfl, q⟩) (fun Q q => ⟨_, rfl, dd, _, rfl, DGet.k (k := bk false) z1, _, rfl, q⟩) ?_
    rw [(z3 false).is]
    by_cases cs : f0 = 1 ∧ (k0.of false).isNone = true
    · rw [iT cs.1, Option.isSome_eq_false_iff.mpr cs.2]
      exact hk.no4 (un.trans (if_pos (.inr cs))) H1 e1
    have un2 := un.trans (if_neg (fun z => z.elim cb cs))
    have cf0 : (decide (V.int f0 = V.int 1) && !(k0.of false).isSome) = false := by
      by_cases f1 : f0 = 1
      · have : (k0.of false).isSome = true := by
          cases q : k0.of false with
          | some y => rfl
          | none => exact absurd ⟨f1, by rw [q]; rfl⟩ cs
        rw [this, Bool.not_true, Bool.and_false]
      · rw [iF f1, Bool.false_and]
    rw [cf0]
    refine t_no rfl ?_
    refine ⟨_, rfl, _, rfl, ?_⟩
    intro x dx2 nx nd ne
    refine ⟨.int w0, .int f0, made1 (vs := [.int w0, .int f0]) nx nd fun H0 H3 hx0 e0 e3 hP => ⟨rfl, ?_⟩⟩
    obtain ⟨tl, mk, ht, hm, hne, h3t, h3m, h3x⟩ := hP
    have e13 := e1.trans e3
    refine ⟨_, rfl, d, _, dx, _, _, rfl, e13 _ _ hd, T.cl_Desk, T.na_Desk_competition, rfl, p, _, cx, _, rfl, e13 _ _ r1, T.cl_Competition, T.na_Competition_program, by show 4 < 1000; decide, ?_⟩
    refine ⟨by show 1 ≤ sizeLine; decide, fun l hl => ?_⟩
    have x0 : H x = none := Evl.fresh_back e1 nx
    have tl0 : H tl = none := Evl.fresh_back (e1.trans e0) ht
    have mk0 : H mk = none := Evl.fresh_back (e1.trans e0) hm
    have pnx : p ≠ x := ne_of_none r1 x0
    have pnt : p ≠ tl := ne_of_none r1 tl0
    have pnm : p ≠ mk := ne_of_none r1 mk0
    have txn : tl ≠ x := fun z => hx0 (by rw [← z]; exact ht)
    have mxn : mk ≠ x := fun z => hx0 (by rw [← z]; exact hm)
    have g0 : Fr M (fun q => M q ∨ q = x ∨ q = tl) H H := Fr.grow (fun q => .inl) fun q z => z.imp id fun z => z.elim (fun z => by rw [z]; exact x0) fun z => by rw [z]; exact tl0
    have g := (g0.trans (Fr.ex e13)).trans (Fr.upd (o := .ins A.cCompetition cx (putF "program" (.ref x) (cf s0 tf sk .non))) (q := p) (.inl pM))
    have at_ : ∀ {q : Addr} {o : HO}, q ≠ p → H q = some o → (upd H3 p (.ins A.cCompetition cx (putF "program" (.ref x) (cf s0 tf sk .non)))) q = some o := fun h1 h2 => (upd_ne h1).trans (e13 _ _ h2)
    have ft := foot g m3 m4 fun q h1 h2 => by
      rcases h1 with h1 | rfl | rfl
      · exact absurd h1 h2
      · rw [upd_ne (Ne.symm pnx), h3x]; intro z; cases z
      · rw [upd_ne (Ne.symm pnt), h3t]; intro z; cases z
    have fe := fz_both (N := N) g
    have fm := far m3 m4 mk0
    refine hk.list (o := []) un2 (by decide) g ⟨dx, .ref p, .inl m1, at_ (ne_of hd r1 (flen_ne (by show ¬ 1 = 4; decide))) hd, ft.1, ft.2, .inr ⟨⟨ok.judges, ok.factors, ok.skaters, ok.over, ?_⟩, p, rfl, .inl pM, cx, tf, sk, .ref x, ds, upd_same.trans rfl, fe _ _ r2, .inl r3, at_ (ne_of r4 r1 (by intro z; cases z)) r4, r5, fun q hq => .inl (r6 q hq), r7.mono_mem fun a b ha q => q.keep (fun o h => ?_) fe, x, tl, rfl, .inr (.inl rfl), .inr (.inr rfl), ?_, dx2, mk, [], [], ?_, ?_, .nil, ?_, .nil⟩⟩ hl
    · intro w1 p1 e
      have e : some (w0.toNat, (⟨b, [], [], 0, 0, 0⟩ : Kg56.Program)) = some (w1, p1) := e
      cases e
      refine ⟨hlt, ?_, fun _ z => (nomatch z), Nat.zero_le _, Nat.zero_le _, fun _ z => (nomatch z)⟩
      show s0.of w0.toNat b = none
      rw [hof]
      cases q : k0.of b with
      | none => rfl
      | some y => exact absurd (by rw [q]; rfl) cb
    · obtain ⟨kvs', h', _⟩ := q
      exact at_ (ne_of h' r1 (by intro z; cases z)) h
    · exact fun z => by rw [z, r4] at tl0; cases tl0
    · rw [upd_ne (Ne.symm pnx), h3x]
      have ew : ((w0.toNat : Nat) : Int) = w0 := by omega
      show _ = some (HO.ins A.cProgram dx2 [("skater", .int ((w0.toNat : Nat) : Int)), ("free", fv b), ("tellings", .ref tl), ("marks", .ref mk), ("falls", .int 0), ("off", .int 0), ("seconds", .int 0)])
      rw [ew, fvk, ← hb1]
    · rw [upd_ne (Ne.symm pnt)]
      exact h3t
    · refine fz_of (fun z => ?_) ?_
      · rcases z with (z | z | z) | z
        · exact fm.1 z
        · exact mxn z
        · exact hne z.symm
        · exact fm.2 z
      · rw [upd_ne (Ne.symm pnm)]
        exact h3m
end
end Sk
set_option maxHeartbeats 2000000
/-! # The desk: end -/
namespace Sk
open PySem PySem.Spec PyProof.Rows L2
open Evl (Ex)
abbrev st_Desk_end : Stmt := inClass (top 109) 8
theorem sc_Desk_end : FnScope ["self", "program", "outcome"] ["self"] (defScope st_Desk_end) := ⟨rfl, rfl, rfl, by decide +kernel, rfl, by decide +kernel, by decide +kernel⟩
def sp_Desk_end (A : Ads) : Sp := fun vs H Q E => ∃ d M N s, vs = [.ref d] ∧ DeskAt A M N H d s ∧ After A M N H d (Kg56.spec s .end_) Q E
/-- a skater with one more program -/
def with_ (k : Kg56.Skater) (p : Kg56.Program) (x : Kg56.Score) : Kg56.Skater := if p.free = true then { k with free := some (p, x) } else { k with short := some (p, x) }
theorem with_of (k : Kg56.Skater) (p : Kg56.Program) (x : Kg56.Score) (b : Bool) : (with_ k p x).of b = if b = p.free then some (p, x) else k.of b := by
  unfold with_
  cases hf : p.free <;> cases b <;> rfl
theorem with_segs {k : Kg56.Skater} {p : Kg56.Program} {x : Kg56.Score} (h : k.of p.free = none) : segs (with_ k p x) = segs k + 1 := by
  unfold with_ segs
  cases hf : p.free
  · rw [hf] at h
    have h : k.short = none := h
    rw [if_neg Bool.false_ne_true, h]
    show 1 + k.free.isSome.toNat = 0 + k.free.isSome.toNat + 1
    omega
  · rw [hf] at h
    have h : k.free = none := h
    rw [if_pos rfl, h]
    rfl
theorem set_is {l : List Kg56.Skater} {i : Nat} {k : Kg56.Skater} (h : l[i]? = some k) (f : Kg56.Skater → Kg56.Skater) : (l.zipIdx.map fun x => if x.2 = i then f x.1 else x.1) = l.set i (f k) := by
  apply List.ext_getElem?
  intro j
  rw [List.getElem?_map, List.getElem?_zipIdx, List.getElem?_set]
  by_cases c : i = j
  · subst c
    rw [h, if_pos rfl, if_pos (List.getElem?_eq_some_iff.mp h).1]
    simp
  · rw [if_neg c]
    cases hj : l[j]? with
    | none => rfl
    | some a =>
      simp
      omega
theorem set_skater {s : Kg56.State} {w : Nat} {k : Kg56.Skater} (h : s.skaters[w]? = some k) (p : Kg56.Program) (x : Kg56.Score) : Kg56.setSkater s w p x = { s with now := none, skaters := s.skaters.set w (with_ k p x) } := by
  have := set_is h fun k => with_ k p x
  unfold Kg56.setSkater
  rw [← this]
  rfl
theorem All2.set_mem {α β : Type} {R S : α → β → Prop} {b : β} : ∀ {l : List α} {m : List β} {i : Nat} {a : α}, All2 R l m → l.Nodup → l[i]? = some a → S a b → (∀ x y, x ∈ l → x ≠ a → R x y → S x y) → All2 S l (m.set i b)
  | x :: l, y :: m, 0, a, .cons h t, hn, hi, hS, f => by
    have hn2 := List.nodup_cons.mp hn
    cases hi
    exact .cons hS (t.mono_mem fun u v hu q => f u v (List.mem_cons_of_mem _ hu) (fun z => hn2.1 (z ▸ hu)) q)
  | x :: l, y :: m, i + 1, a, .cons h t, hn, hi, hS, f => by
    have hn2 := List.nodup_cons.mp hn
    have hi : l[i]? = some a := hi
    refine .cons (f x y List.mem_cons_self (fun z => hn2.1 (z ▸ List.mem_of_getElem? hi)) h) (t.set_mem hn2.2 hi hS fun u v hu => f u v (List.mem_cons_of_mem _ hu))
section
variable {P : Program} {w : World} {K : PySem.W.Frag} {mg : Str → Option Value} {base : Heap} {A : Ads}
theorem ok_Desk_end (T : Txt K w mg A) (F0 : FunM K A.cDesk "end" "Desk.end" st_Desk_end)
    (c_Desk_open_program : CalM P w K mg base (L2.CX P w) 1 A.cDesk "open_program" ["self"] (sp_Desk_open_program A))
    (c_outcome_of : CalF P w K mg base CX0 7 "outcome_of" ["program", "factor"] (sp_outcome_of K A)) : CalM P w K mg base (L2.CX P w) 8 A.cDesk "end" ["self"] (sp_Desk_end A) := by
  obtain ⟨f_Desk_open_program, fd_Desk_open_program, G_Desk_open_program, m_Desk_open_program, b_Desk_open_program⟩ := c_Desk_open_program
  obtain ⟨f_outcome_of, fd_outcome_of, G_outcome_of, mg_outcome_of, kp_outcome_of, b_outcome_of⟩ := c_outcome_of
  obtain ⟨f, fd, F, gF⟩ := F0
  refine ⟨f, fd, ?_, gF, F.binds (ps := ["self"]) fun _ _ _ _ _ _ us hl => match us, hl with | [_], _ => rfl⟩
  refine F.okX sc_Desk_end (fun vs H Q E h => by first | (obtain ⟨rfl, _⟩ := h; rfl) | (obtain ⟨_, rfl, _⟩ := h; rfl) | (obtain ⟨_, _, rfl, _⟩ := h; rfl) | (obtain ⟨_, _, _, rfl, _⟩ := h; rfl) | (obtain ⟨_, _, _, _, rfl, _⟩ := h; rfl) | (obtain ⟨_, _, _, _, _, rfl, _⟩ := h; rfl) | (obtain ⟨_, _, _, _, _, _, rfl, _⟩ := h; rfl) | (obtain ⟨_, _, _, _, _, _, _, rfl, _⟩ := h; rfl) | (obtain ⟨_, _, _, _, _, _, _, _, rfl, _⟩ := h; rfl) | (obtain ⟨_, _, _, _, _, _, _, _, _, rfl, _⟩ := h; rfl) | (obtain ⟨_, _, _, _, _, _, _, _, _, _, rfl, _⟩ := h; rfl)) (fun cdv AA outer s H vs Q E hr h => ⟨_, (pss_cons (ps_set (i := 1) sc_Desk_end.nd rfl (Or.inl rfl) (pe_meth0 (pv 0) T.cl_Desk m_Desk_open_program G_Desk_open_program (hr.mono (by decide)) b_Desk_open_program .nil (passes_call (takes_of rfl rfl rfl rfl) (fun _ _ _ _ h => h))))
      (pss_cons (ps_if (pt_cmpR op_eq (pe_callB call_len_seq (by rfl) T.b_len (by decide +kernel) (pa_cons (pe_fld (pv 1) rfl) pa_nil)) pe_int (nomark _)) (pss_one (ps_raise rfl (takes_of rfl rfl rfl rfl) (pmk_own0 PySem.F.excBase_Exception T.x_DoesNotFit T.g_DoesNotFit T.k_DoesNotFit (raises_own T.s_DoesNotFit T.t_DoesNotFit) (by exact rfl)))) pss_nil)
      (pss_cons (ps_set (i := 2) sc_Desk_end.nd rfl (Or.inl rfl) (pe_call G_outcome_of (hr.mono (by decide)) rfl mg_outcome_of kp_outcome_of b_outcome_of .nil pass0 (pa_cons (pv 1) (pa_cons (pe_ix ix_tup (pe_fld (pe_fld (pv 0) rfl) rfl) (pe_fld (pv 1) rfl) (fun _ _ => rfl)) pa_nil))))
      (pss_cons (ps_dput (hu_of hr) (pe_ix ix_list (pe_fld (pe_fld (pv 0) rfl) rfl) (pe_fld (pv 1) rfl) (fun _ _ => rfl)) (pe_fld (pv 1) rfl) (pv 2) rfl)
      (pss_cons (ps_fld (pe_fld (pv 0) rfl) pe_non rfl)
      (pss_one (ps_ret (pe_lst (pa_cons (pe_fld (pv 2) rfl) (pa_cons (pe_fld (pv 2) rfl) (pa_cons (pe_fld (pv 2) rfl) (pa_cons (pe_fld (pv 2) rfl) pa_nil)))))))))))), ?_⟩)
  obtain ⟨d, M, N, s0, rfl, hD, hk⟩ := h
  have un : Kg56.spec s0 .end_ = (match s0.now with
    | some x => if x.2.marks = [] then (s0, Kg56.num (-4)) else
      (Kg56.setSkater s0 x.1 x.2 ⟨x.2.elementsScore, x.2.components (if x.2.free = true then s0.factors.2 else s0.factors.1), x.2.cost⟩, ⟨Kg56.Score.all ⟨x.2.elementsScore, x.2.components (if x.2.free = true then s0.factors.2 else s0.factors.1), x.2.cost⟩, [x.2.elementsScore, x.2.components (if x.2.free = true then s0.factors.2 else s0.factors.1), (x.2.cost : Int)]⟩)
    | none => (s0, Kg56.num (-2))) := rfl
  obtain ⟨dx, c, m1, hd, m3, m4, hc⟩ := hD
  rcases hc with ⟨rfl, hb⟩ | ⟨ok, p, rfl, pM, cx, tf, sk, pv, ds, r1, r2, r3, r4, r5, r6, r7, r8⟩
  · rw [hb.2.2] at un
    exact ⟨_, rfl, d, dx, _, rfl, hd, rfl, d, dx, _, rfl, hd, .inl ⟨rfl, hk.no2 un H (Ex.refl _)⟩⟩
  cases hn : s0.now with
  | none =>
    rw [hn] at un r8
    cases r8
    exact ⟨_, rfl, d, dx, _, rfl, hd, rfl, d, dx, _, rfl, hd, .inr ⟨p, cx, _, _, _, _, rfl, r1, fun _ => hk.no2 un H (Ex.refl _), fun z => absurd rfl z⟩⟩
  | some x =>
    obtain ⟨w0, pg⟩ := x
    rw [hn] at un r8
    obtain ⟨pr, tl, rfl, t2, t3, t4, t5⟩ := r8
    refine ⟨_, rfl, d, dx, _, rfl, hd, rfl, d, dx, _, rfl, hd, .inr ⟨p, cx, _, _, _, _, rfl, r1, (fun z => nomatch z), fun _ => ?_⟩⟩
    have un : Kg56.spec s0 .end_ = if pg.marks = [] then (s0, Kg56.num (-4)) else
      (Kg56.setSkater s0 w0 pg ⟨pg.elementsScore, pg.components (if pg.free = true then s0.factors.2 else s0.factors.1), pg.cost⟩, ⟨Kg56.Score.all ⟨pg.elementsScore, pg.components (if pg.free = true then s0.factors.2 else s0.factors.1), pg.cost⟩, [pg.elementsScore, pg.components (if pg.free = true then s0.factors.2 else s0.factors.1), (pg.cost : Int)]⟩) := un
    obtain ⟨px, mk, us, ms, u1, u2, u3, u4, u5⟩ := id t5
    obtain ⟨nw1, nw2, okp⟩ := ok.now w0 pg hn
    have hml : ms.length = pg.marks.length := u5.len
    refine ⟨_, rfl, pr, _, px, _, _, rfl, u1, T.cl_Program, T.na_Program_marks, rfl, mk, _, rfl, .inl (SqL.of (fz_in _ _ u4)), rfl, _, rfl, ?_⟩
    by_cases c0 : pg.marks = []
    · exact t_yes (iT (by rw [hml, c0]; rfl)) (hk.no4 (un.trans (if_pos c0)) H (Ex.refl _))
    refine t_no (iF (by rw [hml]; intro z; exact c0 (List.length_eq_zero_iff.mp (by omega)))) ?_
    have hX := score_is pg (if pg.free = true then s0.factors.2 else s0.factors.1) (fun t ht => (okp.1 t ht).1)
    generalize hF : (if pg.free = true then s0.factors.2 else s0.factors.1) = F0 at un hX
    have un2 : Kg56.spec s0 .end_ = (Kg56.setSkater s0 w0 pg (scoreM pg F0), ⟨(scoreM pg F0).all, [(scoreM pg F0).elements, (scoreM pg F0).components, ((scoreM pg F0).cost : Int)]⟩) := by
      rw [un, if_neg c0, hX]
    obtain ⟨k0, hk0⟩ : ∃ k0, s0.skaters[w0]? = some k0 := ⟨_, List.getElem?_eq_getElem nw1⟩
    rw [set_skater hk0] at un2
    obtain ⟨d0, hd0, kvs, z1, z2, z3⟩ := r7.get2 hk0
    have hkn : k0.of pg.free = none := by
      unfold Kg56.State.of at nw2
      rw [hk0] at nw2
      exact nw2
    have hF1 : F0 ≤ 1000 := by
      have := ok.factors
      rw [← hF]
      split <;> omega
    have hat : atI [V.int (s0.factors.1 : Int), V.int (s0.factors.2 : Int)] (pg.free.toNat : Int) = some (.int (F0 : Int)) := by
      rw [← hF]
      cases pg.free <;> rfl
    refine ⟨_, rfl, _, rfl, d, _, dx, _, _, rfl, hd, T.cl_Desk, T.na_Desk_competition, rfl, p, _, cx, _, _, rfl, r1, T.cl_Competition, T.na_Competition_factors, rfl, ?_⟩
    refine ⟨_, rfl, pr, _, px, _, _, rfl, u1, T.cl_Program, T.na_Program_free, rfl, tf, _, _, _, rfl, rfl, SqT.of (fz_in _ _ r2), hat, ?_⟩
    have hj := ok.judges
    refine ⟨pr, w0, pg, F0, rfl, t5.prog fz_in, ⟨fun t ht => ?_, okp.2.1, okp.2.2.1, fun r hr => ?_⟩, hF1, fun v H1 e1 hO => ?_⟩
    · obtain ⟨q1, q2, q3⟩ := okp.1 t ht
      exact ⟨q1, by omega, by omega, q3⟩
    · have := okp.2.2.2 r hr
      omega
    obtain ⟨po, dxo, lo, wo, rfl, o1, o2, o3⟩ := id hO
    have dM : M d0 := r6 d0 (List.mem_of_getElem? hd0)
    have o1' := nw_in _ _ o1
    have u1' := e1 _ _ u1
    have pod : po ≠ d0 := fun z => by
      have := nw_out o1
      rw [z, z1] at this
      cases this
    have pop : po ≠ p := fun z => by
      have := nw_out o1
      rw [z, r1] at this
      cases this
    have dnd : d ≠ d0 := ne_of hd z1 (by intro z; cases z)
    have pnd : p ≠ d0 := ne_of r1 z1 (by intro z; cases z)
    have hsk : (ds.map V.ref)[w0]? = some (V.ref d0) := by rw [List.getElem?_map, hd0]; rfl
    have hkl : kvs.length < sizeLine := Nat.lt_of_le_of_lt (Nat.le_trans z2 (segs_le k0)) (by decide)
    refine ⟨_, rfl, _, rfl, d, _, dx, _, _, rfl, e1 _ _ hd, T.cl_Desk, T.na_Desk_competition, rfl, p, _, cx, _, _, rfl, e1 _ _ r1, T.cl_Competition, T.na_Competition_skated, rfl, ?_⟩
    refine ⟨_, rfl, pr, _, px, _, _, rfl, u1', T.cl_Program, T.na_Program_skater, rfl, sk, _, _, _, rfl, rfl, SqL.of (e1 _ _ r4), atI_nat hsk, ?_⟩
    refine ⟨_, rfl, pr, _, px, _, _, rfl, u1', T.cl_Program, T.na_Program_free, rfl, d0, _, rfl, DPut.k (k := bk pg.free) (e1 _ _ z1) hkl, ?_⟩
    refine ⟨_, rfl, d, _, dx, _, _, rfl, (upd_ne dnd).trans (e1 _ _ hd), T.cl_Desk, T.na_Desk_competition, rfl, p, _, cx, _, rfl, (upd_ne pnd).trans (e1 _ _ r1), T.cl_Competition, T.na_Competition_program, by show 4 < 1000; decide, ?_⟩
    have o4 : ∀ {o : HO}, (upd (upd H1 d0 (.dK (putK kvs (bk pg.free) (.ref po)))) p o) po = _ := fun {o} => ((upd_ne pop).trans (upd_ne pod)).trans o1'
    refine ⟨_, rfl, po, _, dxo, _, _, rfl, o4, T.cl_Outcome, T.na_Outcome_score, rfl, _, rfl, po, _, dxo, _, _, rfl, o4, T.cl_Outcome, T.na_Outcome_came_to, rfl, _, rfl, po, _, dxo, _, _, rfl, o4, T.cl_Outcome, T.na_Outcome_components, rfl, _, rfl, po, _, dxo, _, _, rfl, o4, T.cl_Outcome, T.na_Outcome_taken_off, rfl, by show 4 ≤ sizeLine; decide, fun l hl => ?_⟩
    have g : Fr M M H (upd (upd H1 d0 (.dK (putK kvs (bk pg.free) (.ref po)))) p (.ins A.cCompetition cx (putF "program" .non (cf s0 tf sk (.ref pr))))) := (Fr.ex e1).trans ((Fr.upd dM).trans (Fr.upd pM))
    have at_ : ∀ {q : Addr} {o : HO}, q ≠ p → q ≠ d0 → H q = some o → (upd (upd H1 d0 (.dK (putK kvs (bk pg.free) (.ref po)))) p (.ins A.cCompetition cx (putF "program" .non (cf s0 tf sk (.ref pr))))) q = some o := fun h1 h2 h3 => (upd_ne h1).trans ((upd_ne h2).trans (e1 _ _ h3))
    have ft := foot g m3 m4 fun q h1 h2 => absurd h1 h2
    have fe := fz_both (N := N) g
    have hall : 0 ≤ (scoreM pg F0).all := all_pos _
    refine hk.list un2 hall g ⟨dx, .ref p, m1, at_ (ne_of hd r1 (flen_ne (by show ¬ 1 = 4; decide))) dnd hd, ft.1, ft.2, .inr ⟨⟨ok.judges, ok.factors, ?_, ?_, fun _ _ z => nomatch z⟩, p, rfl, pM, cx, tf, sk, .non, ds, upd_same.trans rfl, fe _ _ r2, r3, at_ (ne_of r4 r1 (by intro z; cases z)) (ne_of r4 z1 (by intro z; cases z)) r4, r5, r6, ?_, rfl⟩⟩ hl
    · show (s0.skaters.set w0 _).length ≤ 30
      rw [List.length_set]
      exact ok.skaters
    · intro k hk' b x hx
      rcases List.mem_or_eq_of_mem_set hk' with z | z
      · exact ok.over k z b x hx
      · rw [z, with_of] at hx
        split at hx
        · cases hx
          exact ⟨fun t ht => (okp.1 t ht).1, okp.2.1⟩
        · exact ok.over k0 (List.mem_of_getElem? hk0) b x hx
    · refine r7.set_mem r5 hd0 ⟨putK kvs (bk pg.free) (.ref po), ?_, ?_, fun b => ?_⟩ fun a b ha hne q => q.keep (fun o h => ?_) fe
      · rw [upd_ne (Ne.symm pnd), upd_same]
      · rw [with_segs hkn]
        exact Nat.le_trans (length_putK _ _ _) (Nat.succ_le_succ z2)
      · rw [valV_put, with_of]
        by_cases cb : b = pg.free
        · rw [if_pos (by rw [cb]), if_pos cb]
          refine OutAt.mono (fun q o hq => ?_) hO
          have q0 := nw_out hq
          have fq := far m3 m4 q0
          refine fz_of (fun z => z.elim fq.1 fq.2) ?_
          rw [upd_ne (fun z => by rw [z, r1] at q0; cases q0), upd_ne (fun z => by rw [z, z1] at q0; cases q0)]
          exact nw_in _ _ hq
        · rw [if_neg (fun z => cb (by
            have : (b.toNat : Int) = (pg.free.toNat : Int) := by simpa [bk] using z
            cases b <;> cases h : pg.free <;> first | rfl | (rw [h] at this; cases this))), if_neg cb]
          exact (z3 b).mono fe
      · obtain ⟨kvs', h', _⟩ := q
        exact at_ (ne_of h' r1 (by intro z; cases z)) hne h
end
end Sk
set_option maxHeartbeats 2000000
/-! # The line of calls, taken number by number -/
namespace Sk
open PySem PySem.Spec PyProof.Rows L2
open Evl (Ex)
abbrev st_Line_is_over : Stmt := inClass (top 114) 1
theorem sc_Line_is_over : FnScope ["self"] ["self"] (defScope st_Line_is_over) := ⟨rfl, rfl, rfl, by decide +kernel, rfl, by decide +kernel, by decide +kernel⟩
abbrev st_Line_take_number : Stmt := inClass (top 114) 2
theorem sc_Line_take_number : FnScope ["self"] ["self"] (defScope st_Line_take_number) := ⟨rfl, rfl, rfl, by decide +kernel, rfl, by decide +kernel, by decide +kernel⟩
abbrev st_Line_take_row : Stmt := inClass (top 114) 3
theorem sc_Line_take_row : FnScope ["self", "first"] ["self"] (defScope st_Line_take_row) := ⟨rfl, rfl, rfl, by decide +kernel, rfl, by decide +kernel, by decide +kernel⟩
def LineAt (K : PySem.W.Frag) (A : Ads) (H : Hp) (ln lc : Addr) (cs : List Int) (k : Nat) : Prop := (∃ dx, H ln = some (.ins A.cLine dx [("calls", .ref lc), ("place", .int (k : Int))])) ∧ SqL K H lc (cs.map V.int)
/-- a list that is read stays where its place is kept -/
theorem sq_keep {K : PySem.W.Frag} {H H' : Hp} {a : Addr} {xs : List V} (h : SqL K H a xs) (e : ∀ o, H a = some o → H' a = some o) : SqL K H' a xs := by
  rcases h with (h | ⟨o, h⟩) | h
  · exact .inl (.inl (e _ h))
  · exact .inl (.inr ⟨o, e _ h⟩)
  · exact .inr h
theorem sq_upd {K : PySem.W.Frag} {H : Hp} {a ln C dx : Addr} {fs : List (Str × V)} {o : HO} {xs : List V} (h : SqL K H a xs) (hl : H ln = some (.ins C dx fs)) : SqL K (upd H ln o) a xs := by
  rcases h with (h | ⟨u, h⟩) | h
  · exact .inl (.inl ((upd_ne (ne_of h hl (by intro z; cases z))).trans h))
  · exact .inl (.inr ⟨u, (upd_ne (ne_of h hl (by intro z; cases z))).trans h⟩)
  · exact .inr h
/-- the line alone has moved; new things may be there -/
def Mv (ln : Addr) (H H' : Hp) : Prop := (∀ q o, q ≠ ln → H q = some o → H' q = some o) ∧ ∀ q, H q ≠ none → H' q ≠ none
theorem Mv.refl (ln : Addr) (H : Hp) : Mv ln H H := ⟨fun _ _ _ e => e, fun _ e => e⟩
theorem Mv.trans {ln : Addr} {H H1 H2 : Hp} (a : Mv ln H H1) (b : Mv ln H1 H2) : Mv ln H H2 := ⟨fun q o h e => b.1 q o h (a.1 q o h e), fun q e => b.2 q (a.2 q e)⟩
theorem Mv.upd {ln : Addr} {H : Hp} {o : HO} : Mv ln H (upd H ln o) := ⟨fun q o' h e => by rw [upd_ne h]; exact e, fun q e => by
  by_cases z : q = ln
  · rw [z, upd_same]; intro y; cases y
  · rw [upd_ne z]; exact e⟩
theorem Mv.ex {ln : Addr} {H H' : Hp} (e : Ex H H') : Mv ln H H' := ⟨fun q o _ h => e q o h, (Fr.ex (M := fun _ => False) e).2.2.2⟩
theorem DeskAt.mv {A : Ads} {M N : Addr → Prop} {H H' : Hp} {d ln : Addr} {s : Kg56.State} (h : DeskAt A M N H d s) (hn : N ln) (m : Mv ln H H') : DeskAt A M N H' d s := by
  obtain ⟨_, _, _, _, h3, h4, _⟩ := id h
  have hl : H ln ≠ none := h4 ln hn
  have e : Ex H (fun q => if q = ln then H ln else H' q) := fun q o hq => by
    show (if q = ln then H ln else H' q) = some o
    by_cases z : q = ln
    · rw [if_pos z, ← z]; exact hq
    · rw [if_neg z]; exact m.1 q o z hq
  refine (h.ext e).other (fun q hq => ?_) (fun q hq => m.2 q (h4 q hq))
  show H' q = if q = ln then H ln else H' q
  rw [if_neg (fun z => hq (by rw [z]; exact hn))]
def sp_Line_is_over (K : PySem.W.Frag) (A : Ads) : Sp := fun vs H Q _ => ∃ ln lc cs k, vs = [.ref ln] ∧ LineAt K A H ln lc cs k ∧ Q (.bl (decide (k = cs.length))) H
def sp_Line_take_number (K : PySem.W.Frag) (A : Ads) : Sp := fun vs H Q _ => ∃ ln lc cs k z, vs = [.ref ln] ∧ LineAt K A H ln lc cs k ∧ cs[k]? = some z ∧ ∀ H', Mv ln H H' → LineAt K A H' ln lc cs (k + 1) → Q (.int z) H'
def sp_Line_take_row (K : PySem.W.Frag) (A : Ads) : Sp := fun vs H Q _ => ∃ ln lc cs k n, vs = [.ref ln] ∧ LineAt K A H ln lc cs k ∧ cs[k]? = some ((n : Nat) : Int) ∧ k + 1 + n ≤ cs.length ∧
  ∀ l H', Mv ln H H' → LineAt K A H' ln lc cs (k + 1 + n) → H l = none → H' l = some (.lst (((cs.drop (k + 1)).take n).map V.int)) → Q (.ref l) H'
section
variable {P : Program} {w : World} {K : PySem.W.Frag} {mg : Str → Option Value} {base : Heap} {A : Ads}
theorem ok_Line_is_over (T : Txt K w mg A) (F0 : FunM K A.cLine "is_over" "Line.is_over" st_Line_is_over) : CalM P w K mg base CX0 1 A.cLine "is_over" ["self"] (sp_Line_is_over K A) := by
  obtain ⟨f, fd, F, gF⟩ := F0
  refine ⟨f, fd, ?_, gF, F.binds (ps := ["self"]) fun _ _ _ _ _ _ us hl => match us, hl with | [_], _ => rfl⟩
  refine F.ok sc_Line_is_over (fun vs H Q E h => by first | (obtain ⟨rfl, _⟩ := h; rfl) | (obtain ⟨_, rfl, _⟩ := h; rfl) | (obtain ⟨_, _, rfl, _⟩ := h; rfl) | (obtain ⟨_, _, _, rfl, _⟩ := h; rfl) | (obtain ⟨_, _, _, _, rfl, _⟩ := h; rfl) | (obtain ⟨_, _, _, _, _, rfl, _⟩ := h; rfl) | (obtain ⟨_, _, _, _, _, _, rfl, _⟩ := h; rfl) | (obtain ⟨_, _, _, _, _, _, _, rfl, _⟩ := h; rfl) | (obtain ⟨_, _, _, _, _, _, _, _, rfl, _⟩ := h; rfl) | (obtain ⟨_, _, _, _, _, _, _, _, _, rfl, _⟩ := h; rfl) | (obtain ⟨_, _, _, _, _, _, _, _, _, _, rfl, _⟩ := h; rfl)) (fun cdv AA outer s H vs Q E hr h => ⟨_, (pss_one (ps_ret (pe_cmpR op_eq (pe_fld (pv 0) rfl) (pe_callB call_len_seq (by rfl) T.b_len (by decide +kernel) (pa_cons (pe_fld (pv 0) rfl) pa_nil)) (nomark _)))), ?_⟩)
  obtain ⟨ln, lc, cs, k, rfl, ⟨⟨dx, h1⟩, h2⟩, q⟩ := h
  refine ⟨_, rfl, ln, _, dx, _, _, rfl, h1, T.cl_Line, T.na_Line_place, rfl, _, rfl, ln, _, dx, _, _, rfl, h1, T.cl_Line, T.na_Line_calls, rfl, lc, _, rfl, .inl h2, rfl, ?_⟩
  have e : decide (V.int (k : Int) = V.int (((cs.map V.int).length : Nat) : Int)) = decide (k = cs.length) := by
    rw [List.length_map]
    by_cases z : k = cs.length
    · rw [iT (by rw [z]), decide_eq_true z]
    · rw [iF (by omega), decide_eq_false z]
  show Q (.bl (decide (V.int (k : Int) = V.int (((cs.map V.int).length : Nat) : Int)))) H
  rw [e]
  exact q
theorem ok_Line_take_number (T : Txt K w mg A) (F0 : FunM K A.cLine "take_number" "Line.take_number" st_Line_take_number) : CalM P w K mg base CX0 1 A.cLine "take_number" ["self"] (sp_Line_take_number K A) := by
  obtain ⟨f, fd, F, gF⟩ := F0
  refine ⟨f, fd, ?_, gF, F.binds (ps := ["self"]) fun _ _ _ _ _ _ us hl => match us, hl with | [_], _ => rfl⟩
  refine F.ok sc_Line_take_number (fun vs H Q E h => by first | (obtain ⟨rfl, _⟩ := h; rfl) | (obtain ⟨_, rfl, _⟩ := h; rfl) | (obtain ⟨_, _, rfl, _⟩ := h; rfl) | (obtain ⟨_, _, _, rfl, _⟩ := h; rfl) | (obtain ⟨_, _, _, _, rfl, _⟩ := h; rfl) | (obtain ⟨_, _, _, _, _, rfl, _⟩ := h; rfl) | (obtain ⟨_, _, _, _, _, _, rfl, _⟩ := h; rfl) | (obtain ⟨_, _, _, _, _, _, _, rfl, _⟩ := h; rfl) | (obtain ⟨_, _, _, _, _, _, _, _, rfl, _⟩ := h; rfl) | (obtain ⟨_, _, _, _, _, _, _, _, _, rfl, _⟩ := h; rfl) | (obtain ⟨_, _, _, _, _, _, _, _, _, _, rfl, _⟩ := h; rfl)) (fun cdv AA outer s H vs Q E hr h => ⟨_, (pss_cons (ps_fld (pv 0) (pe_op op_add (pe_fld (pv 0) rfl) pe_int) rfl)
      (pss_one (ps_ret (pe_ix ix_list (pe_fld (pv 0) rfl) (pe_op op_sub (pe_fld (pv 0) rfl) pe_int) (fun _ _ => rfl))))), ?_⟩)
  obtain ⟨ln, lc, cs, k, z, rfl, ⟨⟨dx, h1⟩, h2⟩, hz, q⟩ := h
  refine ⟨_, rfl, ln, _, dx, _, _, rfl, h1, T.cl_Line, T.na_Line_place, rfl, _, _, rfl, rfl, _, rfl, ln, _, dx, _, rfl, h1, T.cl_Line, T.na_Line_place, by show 2 < 1000; decide, ?_⟩
  refine ⟨_, rfl, ln, _, dx, _, _, rfl, upd_same, T.cl_Line, T.na_Line_calls, rfl, _, rfl, ln, _, dx, _, _, rfl, upd_same, T.cl_Line, T.na_Line_place, rfl, _, _, rfl, rfl, lc, _, (k : Int), .int z, rfl, ?_, sq_upd h2 h1, atI_nat (by rw [List.getElem?_map, hz]; rfl), ?_⟩
  · show V.int (((k : Int) + 1) - 1) = V.int (k : Int)
    rw [show ((k : Int) + 1) - 1 = (k : Int) by omega]
  · exact q _ Mv.upd ⟨⟨dx, upd_same.trans rfl⟩, sq_upd h2 h1⟩
theorem ok_Line_take_row (T : Txt K w mg A) (F0 : FunM K A.cLine "take_row" "Line.take_row" st_Line_take_row) : CalM P w K mg base CX0 1 A.cLine "take_row" ["self"] (sp_Line_take_row K A) := by
  obtain ⟨f, fd, F, gF⟩ := F0
  refine ⟨f, fd, ?_, gF, F.binds (ps := ["self"]) fun _ _ _ _ _ _ us hl => match us, hl with | [_], _ => rfl⟩
  refine F.ok sc_Line_take_row (fun vs H Q E h => by first | (obtain ⟨rfl, _⟩ := h; rfl) | (obtain ⟨_, rfl, _⟩ := h; rfl) | (obtain ⟨_, _, rfl, _⟩ := h; rfl) | (obtain ⟨_, _, _, rfl, _⟩ := h; rfl) | (obtain ⟨_, _, _, _, rfl, _⟩ := h; rfl) | (obtain ⟨_, _, _, _, _, rfl, _⟩ := h; rfl) | (obtain ⟨_, _, _, _, _, _, rfl, _⟩ := h; rfl) | (obtain ⟨_, _, _, _, _, _, _, rfl, _⟩ := h; rfl) | (obtain ⟨_, _, _, _, _, _, _, _, rfl, _⟩ := h; rfl) | (obtain ⟨_, _, _, _, _, _, _, _, _, rfl, _⟩ := h; rfl) | (obtain ⟨_, _, _, _, _, _, _, _, _, _, rfl, _⟩ := h; rfl)) (fun cdv AA outer s H vs Q E hr h => ⟨_, (pss_cons (ps_set (i := 1) sc_Line_take_row.nd rfl (Or.inl rfl) (pe_op op_add (pe_fld (pv 0) rfl) pe_int))
      (pss_cons (ps_fld (pv 0) (pe_op op_add (pv 1) (pe_ix ix_list (pe_fld (pv 0) rfl) (pe_fld (pv 0) rfl) (fun _ _ => rfl))) rfl)
      (pss_one (ps_ret (pe_slice sl_list (pe_fld (pv 0) rfl) (po_some (pv 1)) (po_some (pe_fld (pv 0) rfl))))))), ?_⟩)
  obtain ⟨ln, lc, cs, k, n, rfl, ⟨⟨dx, h1⟩, h2⟩, hz, hle, q⟩ := h
  refine ⟨_, rfl, ln, _, dx, _, _, rfl, h1, T.cl_Line, T.na_Line_place, rfl, _, _, rfl, rfl, ?_⟩
  refine ⟨_, rfl, _, rfl, ln, _, dx, _, _, rfl, h1, T.cl_Line, T.na_Line_calls, rfl, _, rfl, ln, _, dx, _, _, rfl, h1, T.cl_Line, T.na_Line_place, rfl, lc, _, _, _, rfl, rfl, h2, atI_nat (by rw [List.getElem?_map, hz]; rfl), _, _, rfl, rfl, _, rfl, ln, _, dx, _, rfl, h1, T.cl_Line, T.na_Line_place, by show 2 < 1000; decide, ?_⟩
  refine ⟨_, rfl, ln, _, dx, _, _, rfl, upd_same, T.cl_Line, T.na_Line_calls, rfl, _, rfl, _, rfl, _, rfl, ln, _, dx, _, _, rfl, upd_same, T.cl_Line, T.na_Line_place, rfl, _, rfl, lc, _, rfl, sq_upd h2 h1, fun l hl => ?_⟩
  have e1 : (upd H ln (.ins A.cLine dx (putF "place" (.int ((k : Int) + 1 + (n : Int))) [("calls", .ref lc), ("place", .int (k : Int))]))) ln = some (.ins A.cLine dx [("calls", .ref lc), ("place", .int ((k + 1 + n : Nat) : Int))]) := by
    rw [upd_same, show (((k + 1 + n : Nat) : Nat) : Int) = (k : Int) + 1 + (n : Int) by omega]
    rfl
  have hl0 : H l = none := by
    by_cases z : l = ln
    · rw [z, e1] at hl; cases hl
    · rw [upd_ne z] at hl; exact hl
  refine q l _ (Mv.upd.trans (Mv.ex (Ex.one hl))) ⟨⟨dx, up_at e1 hl⟩, Evl.ex_l (Ex.one hl) (sq_upd h2 h1)⟩ hl0 (upd_same.trans ?_)
  have ec : cutV (cs.map V.int) (some ((k : Int) + 1)) (some ((k : Int) + 1 + (n : Int))) = ((cs.drop (k + 1)).take n).map V.int := by
    unfold cutV HT.sIx
    simp only
    rw [if_neg (by omega), if_neg (by omega), List.length_map]
    have a1 : min ((k : Int) + 1).toNat cs.length = k + 1 := by omega
    have a2 : min ((k : Int) + 1 + (n : Int)).toNat cs.length = k + 1 + n := by omega
    rw [a1, a2, List.map_take, List.map_drop]
    congr 1
    omega
  exact congrArg (fun z => some (HO.lst z)) ec
end
end Sk
/-! # A call read off the list -/
namespace Sk
def LRow (cs : List Int) (k n : Nat) (x : List Int) : Prop := cs[k]? = some ((n : Nat) : Int) ∧ k + 1 + n ≤ cs.length ∧ (cs.drop (k + 1)).take n = x
inductive Parsed (cs : List Int) (k : Nat) (rest : List Int) : Int → Kg56.Call → Prop
  | c1 (a b c : Int) (h1 : cs[k + 1]? = some a) (h2 : cs[k + 1 + 1]? = some b) (h3 : cs[k + 1 + 1 + 1]? = some c) (h : cs.drop (k + 1 + 1 + 1 + 1) = rest) : Parsed cs k rest 1 (.begin_ a b c)
  | c2 (h : cs.drop (k + 1) = rest) : Parsed cs k rest 2 .skater
  | c3 (n : Nat) (x : List Int) (h1 : LRow cs (k + 1) n x) (h : cs.drop (k + 1 + 1 + n) = rest) : Parsed cs k rest 3 (.read x)
  | c4 (a b : Int) (h1 : cs[k + 1]? = some a) (h2 : cs[k + 1 + 1]? = some b) (h : cs.drop (k + 1 + 1 + 1) = rest) : Parsed cs k rest 4 (.start a b)
  | c5 (a : Int) (n m : Nat) (x y : List Int) (h1 : cs[k + 1]? = some a) (h2 : LRow cs (k + 1 + 1) n x) (h3 : LRow cs (k + 1 + 1 + 1 + n) m y) (h : cs.drop (k + 1 + 1 + 1 + n + 1 + m) = rest) : Parsed cs k rest 5 (.element a x y)
  | c6 (n m o : Nat) (x y z : List Int) (h1 : LRow cs (k + 1) n x) (h2 : LRow cs (k + 1 + 1 + n) m y) (h3 : LRow cs (k + 1 + 1 + n + 1 + m) o z) (h : cs.drop (k + 1 + 1 + n + 1 + m + 1 + o) = rest) : Parsed cs k rest 6 (.marks x y z)
  | c7 (a b c : Int) (h1 : cs[k + 1]? = some a) (h2 : cs[k + 1 + 1]? = some b) (h3 : cs[k + 1 + 1 + 1]? = some c) (h : cs.drop (k + 1 + 1 + 1 + 1) = rest) : Parsed cs k rest 7 (.faults a b c)
  | c8 (h : cs.drop (k + 1) = rest) : Parsed cs k rest 8 .end_
  | c9 (a b : Int) (h1 : cs[k + 1]? = some a) (h2 : cs[k + 1 + 1]? = some b) (h : cs.drop (k + 1 + 1 + 1) = rest) : Parsed cs k rest 9 (.sheet a b)
  | c10 (a : Int) (h1 : cs[k + 1]? = some a) (h : cs.drop (k + 1 + 1) = rest) : Parsed cs k rest 10 (.places a)
  | c11 (h : cs.drop (k + 1) = rest) : Parsed cs k rest 11 .all
theorem at_cons {cs r : List Int} {k : Nat} {z : Int} (h : cs.drop k = z :: r) : cs[k]? = some z ∧ cs.drop (k + 1) = r := by
  constructor
  · have := congrArg (fun l => l[0]?) h
    simpa [List.getElem?_drop] using this
  · have := congrArg List.tail h
    simpa using this
theorem row_at {cs x s : List Int} {k : Nat} (h : PyFlat.row (cs.drop k) = some (x, s)) : ∃ n, LRow cs k n x ∧ cs.drop (k + 1 + n) = s := by
  cases hd : cs.drop k with
  | nil => rw [hd] at h; cases h
  | cons m r =>
    obtain ⟨h1, h2⟩ := at_cons hd
    rw [hd] at h
    have h : (if 0 ≤ m ∧ m.toNat ≤ r.length then some (r.take m.toNat, r.drop m.toNat) else none) = some (x, s) := h
    split at h
    · rename_i c
      cases h
      have hl := congrArg List.length h2
      have hk := (List.getElem?_eq_some_iff.mp h1).1
      rw [List.length_drop] at hl
      refine ⟨m.toNat, ⟨?_, by omega, by rw [h2]⟩, ?_⟩
      · rw [h1, Int.toNat_of_nonneg c.1]
      · rw [← h2, List.drop_drop]
    · cases h
theorem rows_at {cs t : List Int} {xs : List (List Int)} {k i : Nat} (h : PyFlat.rows (i + 1) (cs.drop k) = some (xs, t)) : ∃ n x ys, LRow cs k n x ∧ xs = x :: ys ∧ PyFlat.rows i (cs.drop (k + 1 + n)) = some (ys, t) := by
  have h : (match PyFlat.row (cs.drop k) with
    | none => none
    | some (x, s) => match PyFlat.rows i s with
      | none => none
      | some (xs, t) => some (x :: xs, t)) = some (xs, t) := h
  cases hr : PyFlat.row (cs.drop k) with
  | none => rw [hr] at h; cases h
  | some p =>
    obtain ⟨x, s⟩ := p
    rw [hr] at h
    have h : (match PyFlat.rows i s with
      | none => none
      | some (xs, t) => some (x :: xs, t)) = some (xs, t) := h
    obtain ⟨n, h1, h2⟩ := row_at hr
    cases hs : PyFlat.rows i s with
    | none => rw [hs] at h; cases h
    | some p =>
      obtain ⟨ys, t'⟩ := p
      rw [hs] at h
      cases h
      exact ⟨n, x, ys, h1, rfl, by rw [h2]; exact hs⟩
theorem call_at {cs rest : List Int} {k : Nat} {c : List (List Int)} (h : PyFlat.call PyKg56.shape (cs.drop k) = some (c, rest)) : ∃ p n j xs, cs[k]? = some p ∧ PyKg56.shape p = some (n, j) ∧ n ≤ (cs.drop (k + 1)).length ∧ PyFlat.rows j ((cs.drop (k + 1)).drop n) = some (xs, rest) ∧ c = (p :: (cs.drop (k + 1)).take n) :: xs := by
  cases hd : cs.drop k with
  | nil => rw [hd] at h; cases h
  | cons p r =>
    obtain ⟨h1, h2⟩ := at_cons hd
    rw [hd] at h
    have h : (match PyKg56.shape p with
      | none => none
      | some (n, k) => if r.length < n then none else match PyFlat.rows k (r.drop n) with
        | none => none
        | some (xs, t) => some ((p :: r.take n) :: xs, t)) = some (c, rest) := h
    cases hs : PyKg56.shape p with
    | none => rw [hs] at h; cases h
    | some q =>
      obtain ⟨n, j⟩ := q
      rw [hs] at h
      have h : (if r.length < n then none else match PyFlat.rows j (r.drop n) with
        | none => none
        | some (xs, t) => some ((p :: r.take n) :: xs, t)) = some (c, rest) := h
      split at h
      · cases h
      · rename_i hn
        cases hr : PyFlat.rows j (r.drop n) with
        | none => rw [hr] at h; cases h
        | some q =>
          obtain ⟨xs, t⟩ := q
          rw [hr] at h
          cases h
          refine ⟨p, n, j, xs, h1, hs, ?_, ?_, ?_⟩
          · rw [h2]; omega
          · rw [h2]; exact hr
          · rw [h2]
theorem take1 {cs : List Int} {k : Nat} (h : 1 ≤ (cs.drop k).length) : ∃ a, cs[k]? = some a ∧ (cs.drop k).take 1 = [a] ∧ (cs.drop k).drop 1 = cs.drop (k + 1) := by
  cases hd : cs.drop k with
  | nil => rw [hd] at h; simp at h
  | cons a r =>
    obtain ⟨h1, h2⟩ := at_cons hd
    exact ⟨a, h1, rfl, by rw [h2]; rfl⟩
theorem take2 {cs : List Int} {k : Nat} (h : 2 ≤ (cs.drop k).length) : ∃ a b, cs[k]? = some a ∧ cs[k + 1]? = some b ∧ (cs.drop k).take 2 = [a, b] ∧ (cs.drop k).drop 2 = cs.drop (k + 1 + 1) := by
  cases hd : cs.drop k with
  | nil => rw [hd] at h; simp at h
  | cons a r =>
    obtain ⟨h1, h2⟩ := at_cons hd
    rw [hd] at h
    obtain ⟨b, q1, q2, q3⟩ := take1 (cs := cs) (k := k + 1) (by rw [h2]; simpa using h)
    rw [h2] at q2 q3
    refine ⟨a, b, h1, q1, ?_, q3⟩
    show a :: r.take 1 = _
    rw [q2]
theorem take3 {cs : List Int} {k : Nat} (h : 3 ≤ (cs.drop k).length) : ∃ a b c, cs[k]? = some a ∧ cs[k + 1]? = some b ∧ cs[k + 1 + 1]? = some c ∧ (cs.drop k).take 3 = [a, b, c] ∧ (cs.drop k).drop 3 = cs.drop (k + 1 + 1 + 1) := by
  cases hd : cs.drop k with
  | nil => rw [hd] at h; simp at h
  | cons a r =>
    obtain ⟨h1, h2⟩ := at_cons hd
    rw [hd] at h
    obtain ⟨b, c, q0, q1, q2, q3⟩ := take2 (cs := cs) (k := k + 1) (by rw [h2]; simpa using h)
    rw [h2] at q2 q3
    refine ⟨a, b, c, h1, q0, q1, ?_, q3⟩
    show a :: r.take 2 = _
    rw [q2]
theorem rows_none {t : List Int} {r : List Int} {xs : List (List Int)} (h : PyFlat.rows 0 r = some (xs, t)) : xs = [] ∧ r = t := by
  cases h
  exact ⟨rfl, rfl⟩
theorem parsed {cs rest : List Int} {k : Nat} {c : List (List Int)} {kc : Kg56.Call} (h : PyFlat.call PyKg56.shape (cs.drop k) = some (c, rest)) (hk : Kg56Neutral.callOf (PyKg56.whole c) = some kc) : ∃ p, cs[k]? = some p ∧ Parsed cs k rest p kc := by
  obtain ⟨p, n, j, xs, hp, hs, hn, hr, rfl⟩ := call_at h
  refine ⟨p, hp, ?_⟩
  unfold PyKg56.shape at hs
  by_cases p1 : p = 1
  · subst p1
    cases hs
    obtain ⟨a, b, c, q1, q2, q3, q4, q5⟩ := take3 hn
    obtain ⟨rfl, hr0⟩ := rows_none hr
    rw [q4] at hk
    cases hk
    exact .c1 a b c q1 q2 q3 (q5 ▸ hr0)
  rw [if_neg p1] at hs
  by_cases p2 : p = 2
  · subst p2
    cases hs
    rw [List.drop_zero] at hr
    obtain ⟨rfl, hr0⟩ := rows_none hr
    cases hk
    exact .c2 hr0
  rw [if_neg p2] at hs
  by_cases p3 : p = 3
  · subst p3
    cases hs
    rw [List.drop_zero] at hr
    obtain ⟨n, x, ys, r1, rfl, hr1⟩ := rows_at hr
    obtain ⟨rfl, hr0⟩ := rows_none hr1
    cases hk
    exact .c3 n x r1 hr0
  rw [if_neg p3] at hs
  by_cases p4 : p = 4
  · subst p4
    cases hs
    obtain ⟨a, b, q1, q2, q4, q5⟩ := take2 hn
    obtain ⟨rfl, hr0⟩ := rows_none hr
    rw [q4] at hk
    cases hk
    exact .c4 a b q1 q2 (q5 ▸ hr0)
  rw [if_neg p4] at hs
  by_cases p5 : p = 5
  · subst p5
    cases hs
    obtain ⟨a, q1, q4, q5⟩ := take1 hn
    rw [q5] at hr
    obtain ⟨n, x, ys, r1, rfl, hr1⟩ := rows_at hr
    obtain ⟨m, y, zs, r2, rfl, hr2⟩ := rows_at hr1
    obtain ⟨rfl, hr0⟩ := rows_none hr2
    rw [q4] at hk
    cases hk
    exact .c5 a n m x y q1 r1 r2 hr0
  rw [if_neg p5] at hs
  by_cases p6 : p = 6
  · subst p6
    cases hs
    rw [List.drop_zero] at hr
    obtain ⟨n, x, ys, r1, rfl, hr1⟩ := rows_at hr
    obtain ⟨m, y, zs, r2, rfl, hr2⟩ := rows_at hr1
    obtain ⟨o, z, us, r3, rfl, hr3⟩ := rows_at hr2
    obtain ⟨rfl, hr0⟩ := rows_none hr3
    cases hk
    exact .c6 n m o x y z r1 r2 r3 hr0
  rw [if_neg p6] at hs
  by_cases p7 : p = 7
  · subst p7
    cases hs
    obtain ⟨a, b, c, q1, q2, q3, q4, q5⟩ := take3 hn
    obtain ⟨rfl, hr0⟩ := rows_none hr
    rw [q4] at hk
    cases hk
    exact .c7 a b c q1 q2 q3 (q5 ▸ hr0)
  rw [if_neg p7] at hs
  by_cases p8 : p = 8
  · subst p8
    cases hs
    rw [List.drop_zero] at hr
    obtain ⟨rfl, hr0⟩ := rows_none hr
    cases hk
    exact .c8 hr0
  rw [if_neg p8] at hs
  by_cases p9 : p = 9
  · subst p9
    cases hs
    obtain ⟨a, b, q1, q2, q4, q5⟩ := take2 hn
    obtain ⟨rfl, hr0⟩ := rows_none hr
    rw [q4] at hk
    cases hk
    exact .c9 a b q1 q2 (q5 ▸ hr0)
  rw [if_neg p9] at hs
  by_cases p10 : p = 10
  · subst p10
    cases hs
    obtain ⟨a, q1, q4, q5⟩ := take1 hn
    obtain ⟨rfl, hr0⟩ := rows_none hr
    rw [q4] at hk
    cases hk
    exact .c10 a q1 (q5 ▸ hr0)
  rw [if_neg p10] at hs
  by_cases p11 : p = 11
  · subst p11
    cases hs
    rw [List.drop_zero] at hr
    obtain ⟨rfl, hr0⟩ := rows_none hr
    cases hk
    exact .c11 hr0
  rw [if_neg p11] at hs
  cases hs
/-- what was refused is one of five and changed nothing -/
def Told (s : Kg56.State) (r : Kg56.State × Kg56.Ans) : Prop := 0 ≤ r.2.value ∨ (r.1 = s ∧ ∃ z, (z = -1 ∨ z = -2 ∨ z = -3 ∨ z = -4 ∨ z = -5) ∧ r.2 = Kg56.num z)
theorem Told.ite {s : Kg56.State} {c : Prop} [Decidable c] {a b : Kg56.State × Kg56.Ans} (ha : Told s a) (hb : Told s b) : Told s (if c then a else b) := by
  split
  · exact ha
  · exact hb
theorem Told.no {s : Kg56.State} {z : Int} (h : z = -1 ∨ z = -2 ∨ z = -3 ∨ z = -4 ∨ z = -5) : Told s (s, Kg56.num z) := .inr ⟨rfl, z, h, rfl⟩
theorem Told.nat {s s' : Kg56.State} {n : Nat} {o : List Int} : Told s (s', ⟨(n : Int), o⟩) := .inl (by show (0 : Int) ≤ (n : Int); omega)
theorem spec_told (s : Kg56.State) (c : Kg56.Call) : Told s (Kg56.spec s c) := by
  cases c with
  | begin_ j a b => exact Told.ite (.no (.inl rfl)) (.nat (n := 0))
  | skater => exact Told.ite (.no (.inr (.inl rfl))) (.ite (.no (by decide)) .nat)
  | read t =>
    show Told s (s, if Kg56.textOk t = false then Kg56.num (-1) else _)
    split
    · exact .no (by decide)
    · cases Kg56.element? (Kg56.nats t) with
      | none => exact .no (by decide)
      | some e => exact .nat
  | start w f => exact Told.ite (.no (by decide)) (.ite (.no (by decide)) (.ite (.no (by decide)) (.nat (n := 0))))
  | element x t g =>
    show Told s (match s.now with
      | some x => _
      | none => _)
    cases s.now with
    | none => exact .no (by decide)
    | some p =>
      refine Told.ite (.no (by decide)) ?_
      cases Kg56.element? (Kg56.nats t) with
      | none => exact .no (by decide)
      | some e => exact Told.ite (.no (by decide)) .nat
  | marks a b c =>
    show Told s (match s.now with
      | some x => _
      | none => _)
    cases s.now with
    | none => exact .no (by decide)
    | some p => exact Told.ite (.no (by decide)) (.nat (n := 0))
  | faults a b t =>
    show Told s (match s.now with
      | some x => _
      | none => _)
    cases s.now with
    | none => exact .no (by decide)
    | some p => exact Told.ite (.no (by decide)) (.nat (n := 0))
  | end_ =>
    show Told s (match s.now with
      | some x => _
      | none => _)
    cases s.now with
    | none => exact .no (by decide)
    | some p => exact Told.ite (.no (by decide)) (.inl (Int.le_max_left _ _))
  | sheet w f =>
    refine Told.ite (.no (by decide)) ?_
    cases s.of w.toNat (f == 1) with
    | none => exact .no (by decide)
    | some x => exact .nat
  | places f => exact Told.ite (.no (by decide)) .nat
  | all => exact .nat
end Sk
set_option maxHeartbeats 4000000
/-! # The next call -/
namespace Sk
open PySem PySem.Spec PyProof.Rows L2
open Evl (Ex)
abbrev st_call_next : Stmt := top 117
theorem sc_call_next : FnScope ["desk", "line", "call"] ["desk", "line"] (defScope st_call_next) := ⟨rfl, rfl, rfl, by decide +kernel, rfl, by decide +kernel, by decide +kernel⟩
/-- behind the next call: what was answered or refused, the line behind the call -/
def Next (K : PySem.W.Frag) (A : Ads) (M N : Addr → Prop) (H : Hp) (ln lc : Addr) (cs rest : List Int) (d : Addr) (r : Kg56.State × Kg56.Ans) (Q : VK) (E : XK) : Prop :=
  (0 ≤ r.2.value → ∀ M' H' l k', (∀ q o, N q → q ≠ ln → H q = some o → H' q = some o) → DeskAt A M' N H' d r.1 → LineAt K A H' ln lc cs k' → k' ≤ cs.length → cs.drop k' = rest → ¬ N l → ¬ M' l → H' l = some (.lst ((r.2.value :: r.2.out).map V.int)) → Q (.ref l) H') ∧
  (r.2.value < 0 → ∀ M' H' k', (∀ q o, N q → q ≠ ln → H q = some o → H' q = some o) → DeskAt A M' N H' d r.1 → LineAt K A H' ln lc cs k' → k' ≤ cs.length → cs.drop k' = rest → E (.ref (refuse A r.2.value)) none H')
theorem spec_same {s : Kg56.State} {c : Kg56.Call} (h : (Kg56.spec s c).2.value < 0) : (Kg56.spec s c).1 = s := by
  rcases spec_told s c with z | z
  · omega
  · exact z.1
theorem next_after {K : PySem.W.Frag} {A : Ads} {M N : Addr → Prop} {H H3 : Hp} {ln lc d : Addr} {cs rest : List Int} {k' : Nat} {s : Kg56.State} {c : Kg56.Call} {Q : VK} {E : XK} (X : Next K A M N H ln lc cs rest d (Kg56.spec s c) Q E) (hn : N ln) (hc : N lc ∨ ∀ H, SqL K H lc (cs.map V.int)) (D : DeskAt A M N H3 d s) (m : Mv ln H H3)
    (L : LineAt K A H3 ln lc cs k') (hle : k' ≤ cs.length) (hr : cs.drop k' = rest) : After A M N H3 d (Kg56.spec s c) Q E := by
  have nm : ∀ q, N q → ¬ M q := fun q hq hm => by
    obtain ⟨_, _, _, _, h3, _⟩ := D
    exact (h3 q hm).2 hq
  have l0 : ∀ {l}, H3 l = none → ¬ N l := fun {l} h hn => by
    obtain ⟨_, _, _, _, _, h4, _⟩ := D
    exact h4 l hn h
  obtain ⟨⟨dx, L1⟩, L2⟩ := L
  refine ⟨fun hz M' H' l f D' hl hM hl' => X.1 hz M' H' l k' (fun q o nq hq h => f.1 q o (m.1 q o hq h) (nm q nq)) D' ⟨⟨dx, f.1 _ _ L1 (nm ln hn)⟩, hc.elim (fun hc => sq_keep L2 fun o h => f.1 _ _ h (nm lc hc)) fun h => h _⟩ hle hr (l0 hl) hM hl', fun hz H' e => X.2 hz M H' k' (fun q o nq hq h => e _ _ (m.1 q o hq h)) ?_ ⟨⟨dx, e _ _ L1⟩, Evl.ex_l e L2⟩ hle hr⟩
  rw [spec_same hz]
  exact D.ext e
def sp_call_next (K : PySem.W.Frag) (A : Ads) : Sp := fun vs H Q E => ∃ d ln, vs = [.ref d, .ref ln] ∧ ∃ M N s lc cs k c rest kc, DeskAt A M N H d s ∧ N ln ∧ (N lc ∨ ∀ H, SqL K H lc (cs.map V.int)) ∧ LineAt K A H ln lc cs k ∧ PyFlat.call PyKg56.shape (cs.drop k) = some (c, rest) ∧ Kg56Neutral.callOf (PyKg56.whole c) = some kc ∧ Next K A M N H ln lc cs rest d (Kg56.spec s kc) Q E
theorem num_go {K : PySem.W.Frag} {A : Ads} {σ : L2.St} {H : Hp} {Q : VK} {ln lc : Addr} {cs : List Int} {k : Nat} {z : Int} (hσ : σ[1]? = some (some (.ref ln))) (L : LineAt K A H ln lc cs k) (hz : cs[k]? = some z) (q : ∀ H', Mv ln H H' → LineAt K A H' ln lc cs (k + 1) → Q (.int z) H') :
    tMeth A.cLine "take_number" (sp_Line_take_number K A) [] E0 (tVar 1) tNil σ H Q := by
  obtain ⟨⟨dx, h⟩, _⟩ := id L
  exact ⟨_, hσ, ln, dx, _, rfl, h, rfl, ln, lc, cs, k, z, rfl, L, hz, q⟩
theorem row_go {K : PySem.W.Frag} {A : Ads} {σ : L2.St} {H : Hp} {Q : VK} {ln lc : Addr} {cs x : List Int} {k n : Nat} (hσ : σ[1]? = some (some (.ref ln))) (L : LineAt K A H ln lc cs k) (hz : LRow cs k n x)
    (q : ∀ l H', Mv ln H H' → LineAt K A H' ln lc cs (k + 1 + n) → H l = none → H' l = some (.lst (x.map V.int)) → Q (.ref l) H') : tMeth A.cLine "take_row" (sp_Line_take_row K A) [] E0 (tVar 1) tNil σ H Q := by
  obtain ⟨⟨dx, h⟩, _⟩ := id L
  obtain ⟨h1, h2, h3⟩ := hz
  exact ⟨_, hσ, ln, dx, _, rfl, h, rfl, ln, lc, cs, k, n, rfl, L, h1, h2, fun l H' m L' hl hl' => q l H' m L' hl (by rw [hl', h3])⟩
theorem eq_no {σ : L2.St} {H : Hp} {D : Ends} {p c : Int} {body : TS} (hσ : σ[2]? = some (some (.int p))) (h : ¬ p = c) (k : D.nx σ H) : tIfS (tTest (tOp rEq (tVar 2) (tC (.int c)))) body tNext D σ H :=
  ⟨_, hσ, rfl, _, rfl, t_no (iF h) k⟩
theorem eq_yes {σ : L2.St} {H : Hp} {D : Ends} {p c : Int} {body : TS} (hσ : σ[2]? = some (some (.int p))) (h : p = c) (k : body D σ H) : tIfS (tTest (tOp rEq (tVar 2) (tC (.int c)))) body tNext D σ H :=
  ⟨_, hσ, rfl, _, rfl, t_yes (iT h) k⟩
theorem nin {A : Ads} {M N : Addr → Prop} {H : Hp} {d l : Addr} {s : Kg56.State} (D : DeskAt A M N H d s) (h : H l = none) : ¬ both M N l := by
  obtain ⟨_, _, _, _, h3, h4, _⟩ := D
  exact fun z => z.elim (fun m => (h3 l m).1 h) (fun n => h4 l n h)
theorem LineAt.ne {K : PySem.W.Frag} {A : Ads} {H : Hp} {ln lc l : Addr} {cs : List Int} {k : Nat} (L : LineAt K A H ln lc cs k) (h : H l = none) : l ≠ ln := fun z => by
  obtain ⟨⟨dx, h1⟩, _⟩ := L
  rw [z, h1] at h
  cases h
section
variable {P : Program} {w : World} {K : PySem.W.Frag} {mg : Str → Option Value} {base : Heap} {A : Ads}
theorem ok_call_next (T : Txt K w mg A) (F0 : FunF K mg "call_next" st_call_next)
    (c_Line_take_number : CalM P w K mg base CX0 1 A.cLine "take_number" ["self"] (sp_Line_take_number K A))
    (c_Desk_begin : CalM P w K mg base (L2.CX P w) 3 A.cDesk "begin" ["self", "judges", "short", "free"] (sp_Desk_begin A))
    (c_Desk_add_skater : CalM P w K mg base (L2.CX P w) 1 A.cDesk "add_skater" ["self"] (sp_Desk_add_skater A))
    (c_Desk_read : CalM P w K mg base (L2.CX P w) 8 A.cDesk "read" ["self", "text"] (sp_Desk_read A))
    (c_Line_take_row : CalM P w K mg base CX0 1 A.cLine "take_row" ["self"] (sp_Line_take_row K A))
    (c_Desk_start : CalM P w K mg base (L2.CX P w) 3 A.cDesk "start" ["self", "skater", "free"] (sp_Desk_start A))
    (c_Desk_tell_element : CalM P w K mg base (L2.CX P w) 8 A.cDesk "tell_element" ["self", "second", "text", "grades"] (sp_Desk_tell_element A))
    (c_Desk_tell_marks : CalM P w K mg base (L2.CX P w) 3 A.cDesk "tell_marks" ["self", "one", "two", "three"] (sp_Desk_tell_marks A))
    (c_Desk_tell_faults : CalM P w K mg base (L2.CX P w) 2 A.cDesk "tell_faults" ["self", "falls", "off", "seconds"] (sp_Desk_tell_faults A))
    (c_Desk_end : CalM P w K mg base (L2.CX P w) 8 A.cDesk "end" ["self"] (sp_Desk_end A))
    (c_Desk_sheet : CalM P w K mg base (L2.CX P w) 3 A.cDesk "sheet" ["self", "skater", "free"] (sp_Desk_sheet A))
    (c_Desk_segment_places : CalM P w K mg base (L2.CX P w) 4 A.cDesk "segment_places" ["self", "free"] (sp_Desk_segment_places A))
    (c_Desk_places_in_all : CalM P w K mg base CX0 5 A.cDesk "places_in_all" ["self"] (sp_Desk_places_in_all A)) : CalF P w K mg base (L2.CX P w) 9 "call_next" ["desk", "line"] (sp_call_next K A) := by
  obtain ⟨f_Line_take_number, fd_Line_take_number, G_Line_take_number, m_Line_take_number, b_Line_take_number⟩ := c_Line_take_number
  obtain ⟨f_Desk_begin, fd_Desk_begin, G_Desk_begin, m_Desk_begin, b_Desk_begin⟩ := c_Desk_begin
  obtain ⟨f_Desk_add_skater, fd_Desk_add_skater, G_Desk_add_skater, m_Desk_add_skater, b_Desk_add_skater⟩ := c_Desk_add_skater
  obtain ⟨f_Desk_read, fd_Desk_read, G_Desk_read, m_Desk_read, b_Desk_read⟩ := c_Desk_read
  obtain ⟨f_Line_take_row, fd_Line_take_row, G_Line_take_row, m_Line_take_row, b_Line_take_row⟩ := c_Line_take_row
  obtain ⟨f_Desk_start, fd_Desk_start, G_Desk_start, m_Desk_start, b_Desk_start⟩ := c_Desk_start
  obtain ⟨f_Desk_tell_element, fd_Desk_tell_element, G_Desk_tell_element, m_Desk_tell_element, b_Desk_tell_element⟩ := c_Desk_tell_element
  obtain ⟨f_Desk_tell_marks, fd_Desk_tell_marks, G_Desk_tell_marks, m_Desk_tell_marks, b_Desk_tell_marks⟩ := c_Desk_tell_marks
  obtain ⟨f_Desk_tell_faults, fd_Desk_tell_faults, G_Desk_tell_faults, m_Desk_tell_faults, b_Desk_tell_faults⟩ := c_Desk_tell_faults
  obtain ⟨f_Desk_end, fd_Desk_end, G_Desk_end, m_Desk_end, b_Desk_end⟩ := c_Desk_end
  obtain ⟨f_Desk_sheet, fd_Desk_sheet, G_Desk_sheet, m_Desk_sheet, b_Desk_sheet⟩ := c_Desk_sheet
  obtain ⟨f_Desk_segment_places, fd_Desk_segment_places, G_Desk_segment_places, m_Desk_segment_places, b_Desk_segment_places⟩ := c_Desk_segment_places
  obtain ⟨f_Desk_places_in_all, fd_Desk_places_in_all, G_Desk_places_in_all, m_Desk_places_in_all, b_Desk_places_in_all⟩ := c_Desk_places_in_all
  obtain ⟨f, fd, F, gF⟩ := F0
  refine ⟨f, fd, ?_, gF, F.kp, F.binds (ps := ["desk", "line"]) fun _ _ _ _ _ _ us hl => match us, hl with | [_, _], _ => rfl⟩
  refine F.okX sc_call_next (fun vs H Q E h => by first | (obtain ⟨rfl, _⟩ := h; rfl) | (obtain ⟨_, rfl, _⟩ := h; rfl) | (obtain ⟨_, _, rfl, _⟩ := h; rfl) | (obtain ⟨_, _, _, rfl, _⟩ := h; rfl) | (obtain ⟨_, _, _, _, rfl, _⟩ := h; rfl) | (obtain ⟨_, _, _, _, _, rfl, _⟩ := h; rfl) | (obtain ⟨_, _, _, _, _, _, rfl, _⟩ := h; rfl) | (obtain ⟨_, _, _, _, _, _, _, rfl, _⟩ := h; rfl) | (obtain ⟨_, _, _, _, _, _, _, _, rfl, _⟩ := h; rfl) | (obtain ⟨_, _, _, _, _, _, _, _, _, rfl, _⟩ := h; rfl) | (obtain ⟨_, _, _, _, _, _, _, _, _, _, rfl, _⟩ := h; rfl)) (fun cdv AA outer s H vs Q E hr h => ⟨_, (pss_cons (ps_set (i := 2) sc_call_next.nd rfl (Or.inl rfl) (pe_meth0 (pv 1) T.cl_Line m_Line_take_number G_Line_take_number (hr.mono (by decide)) b_Line_take_number .nil pass0))
      (pss_cons (ps_if (pt_cmpR op_eq (pv 2) pe_int (nomark _)) (pss_one (ps_ret (pe_meth (pv 0) T.cl_Desk m_Desk_begin G_Desk_begin (hr.mono (by decide)) b_Desk_begin .nil (passes_call (takes_of rfl rfl rfl rfl) (fun _ _ _ _ h => h)) (pa_cons (pe_meth0 (pv 1) T.cl_Line m_Line_take_number G_Line_take_number (hr.mono (by decide)) b_Line_take_number .nil pass0) (pa_cons (pe_meth0 (pv 1) T.cl_Line m_Line_take_number G_Line_take_number (hr.mono (by decide)) b_Line_take_number .nil pass0) (pa_cons (pe_meth0 (pv 1) T.cl_Line m_Line_take_number G_Line_take_number (hr.mono (by decide)) b_Line_take_number .nil pass0) pa_nil)))))) pss_nil)
      (pss_cons (ps_if (pt_cmpR op_eq (pv 2) pe_int (nomark _)) (pss_one (ps_ret (pe_meth0 (pv 0) T.cl_Desk m_Desk_add_skater G_Desk_add_skater (hr.mono (by decide)) b_Desk_add_skater .nil (passes_call (takes_of rfl rfl rfl rfl) (fun _ _ _ _ h => h))))) pss_nil)
      (pss_cons (ps_if (pt_cmpR op_eq (pv 2) pe_int (nomark _)) (pss_one (ps_ret (pe_meth (pv 0) T.cl_Desk m_Desk_read G_Desk_read (hr.mono (by decide)) b_Desk_read .nil (passes_call (takes_of rfl rfl rfl rfl) (fun _ _ _ _ h => h)) (pa_cons (pe_meth0 (pv 1) T.cl_Line m_Line_take_row G_Line_take_row (hr.mono (by decide)) b_Line_take_row .nil pass0) pa_nil)))) pss_nil)
      (pss_cons (ps_if (pt_cmpR op_eq (pv 2) pe_int (nomark _)) (pss_one (ps_ret (pe_meth (pv 0) T.cl_Desk m_Desk_start G_Desk_start (hr.mono (by decide)) b_Desk_start .nil (passes_call (takes_of rfl rfl rfl rfl) (fun _ _ _ _ h => h)) (pa_cons (pe_meth0 (pv 1) T.cl_Line m_Line_take_number G_Line_take_number (hr.mono (by decide)) b_Line_take_number .nil pass0) (pa_cons (pe_meth0 (pv 1) T.cl_Line m_Line_take_number G_Line_take_number (hr.mono (by decide)) b_Line_take_number .nil pass0) pa_nil))))) pss_nil)
      (pss_cons (ps_if (pt_cmpR op_eq (pv 2) pe_int (nomark _)) (pss_one (ps_ret (pe_meth (pv 0) T.cl_Desk m_Desk_tell_element G_Desk_tell_element (hr.mono (by decide)) b_Desk_tell_element .nil (passes_call (takes_of rfl rfl rfl rfl) (fun _ _ _ _ h => h)) (pa_cons (pe_meth0 (pv 1) T.cl_Line m_Line_take_number G_Line_take_number (hr.mono (by decide)) b_Line_take_number .nil pass0) (pa_cons (pe_meth0 (pv 1) T.cl_Line m_Line_take_row G_Line_take_row (hr.mono (by decide)) b_Line_take_row .nil pass0) (pa_cons (pe_meth0 (pv 1) T.cl_Line m_Line_take_row G_Line_take_row (hr.mono (by decide)) b_Line_take_row .nil pass0) pa_nil)))))) pss_nil)
      (pss_cons (ps_if (pt_cmpR op_eq (pv 2) pe_int (nomark _)) (pss_one (ps_ret (pe_meth (pv 0) T.cl_Desk m_Desk_tell_marks G_Desk_tell_marks (hr.mono (by decide)) b_Desk_tell_marks .nil (passes_call (takes_of rfl rfl rfl rfl) (fun _ _ _ _ h => h)) (pa_cons (pe_meth0 (pv 1) T.cl_Line m_Line_take_row G_Line_take_row (hr.mono (by decide)) b_Line_take_row .nil pass0) (pa_cons (pe_meth0 (pv 1) T.cl_Line m_Line_take_row G_Line_take_row (hr.mono (by decide)) b_Line_take_row .nil pass0) (pa_cons (pe_meth0 (pv 1) T.cl_Line m_Line_take_row G_Line_take_row (hr.mono (by decide)) b_Line_take_row .nil pass0) pa_nil)))))) pss_nil)
      (pss_cons (ps_if (pt_cmpR op_eq (pv 2) pe_int (nomark _)) (pss_one (ps_ret (pe_meth (pv 0) T.cl_Desk m_Desk_tell_faults G_Desk_tell_faults (hr.mono (by decide)) b_Desk_tell_faults .nil (passes_call (takes_of rfl rfl rfl rfl) (fun _ _ _ _ h => h)) (pa_cons (pe_meth0 (pv 1) T.cl_Line m_Line_take_number G_Line_take_number (hr.mono (by decide)) b_Line_take_number .nil pass0) (pa_cons (pe_meth0 (pv 1) T.cl_Line m_Line_take_number G_Line_take_number (hr.mono (by decide)) b_Line_take_number .nil pass0) (pa_cons (pe_meth0 (pv 1) T.cl_Line m_Line_take_number G_Line_take_number (hr.mono (by decide)) b_Line_take_number .nil pass0) pa_nil)))))) pss_nil)
      (pss_cons (ps_if (pt_cmpR op_eq (pv 2) pe_int (nomark _)) (pss_one (ps_ret (pe_meth0 (pv 0) T.cl_Desk m_Desk_end G_Desk_end (hr.mono (by decide)) b_Desk_end .nil (passes_call (takes_of rfl rfl rfl rfl) (fun _ _ _ _ h => h))))) pss_nil)
      (pss_cons (ps_if (pt_cmpR op_eq (pv 2) pe_int (nomark _)) (pss_one (ps_ret (pe_meth (pv 0) T.cl_Desk m_Desk_sheet G_Desk_sheet (hr.mono (by decide)) b_Desk_sheet .nil (passes_call (takes_of rfl rfl rfl rfl) (fun _ _ _ _ h => h)) (pa_cons (pe_meth0 (pv 1) T.cl_Line m_Line_take_number G_Line_take_number (hr.mono (by decide)) b_Line_take_number .nil pass0) (pa_cons (pe_meth0 (pv 1) T.cl_Line m_Line_take_number G_Line_take_number (hr.mono (by decide)) b_Line_take_number .nil pass0) pa_nil))))) pss_nil)
      (pss_cons (ps_if (pt_cmpR op_eq (pv 2) pe_int (nomark _)) (pss_one (ps_ret (pe_meth (pv 0) T.cl_Desk m_Desk_segment_places G_Desk_segment_places (hr.mono (by decide)) b_Desk_segment_places .nil (passes_call (takes_of rfl rfl rfl rfl) (fun _ _ _ _ h => h)) (pa_cons (pe_meth0 (pv 1) T.cl_Line m_Line_take_number G_Line_take_number (hr.mono (by decide)) b_Line_take_number .nil pass0) pa_nil)))) pss_nil)
      (pss_cons (ps_if (pt_cmpR op_eq (pv 2) pe_int (nomark _)) (pss_one (ps_ret (pe_meth0 (pv 0) T.cl_Desk m_Desk_places_in_all G_Desk_places_in_all (hr.mono (by decide)) b_Desk_places_in_all .nil pass0))) pss_nil)
      (pss_one ps_never))))))))))))), ?_⟩)
  obtain ⟨d, ln, rfl, M, N, s0, lc, cs, k, c, rest, kc, hD, nln, nlc, L0, hcall, hkc, X⟩ := h
  obtain ⟨p, hp, hP⟩ := parsed hcall hkc
  refine num_go rfl L0 hp fun H1 m1 L1 => ?_
  have D1 := hD.mv nln m1
  have hk0 : k + 1 ≤ cs.length := (List.getElem?_eq_some_iff.mp hp).1
  cases hP with
  | c1 a b c h1 h2 h3 h =>
    refine eq_yes rfl rfl ?_
    obtain ⟨dx, _, _, hd, _⟩ := id D1
    refine ⟨_, rfl, d, dx, _, rfl, hd, rfl, num_go rfl L1 h1 fun H2 m2 L2 => num_go rfl L2 h2 fun H3 m3 L3 => num_go rfl L3 h3 fun H4 m4 L4 => ?_⟩
    have m := ((m1.trans m2).trans m3).trans m4
    exact ⟨d, M, N, s0, a, b, c, rfl, hD.mv nln m, next_after X nln nlc (hD.mv nln m) m L4 (List.getElem?_eq_some_iff.mp h3).1 h⟩
  | c2 h =>
    refine eq_no rfl (by decide) (eq_yes rfl rfl ?_)
    obtain ⟨dx, _, _, hd, _⟩ := id D1
    exact ⟨_, rfl, d, dx, _, rfl, hd, rfl, d, M, N, s0, rfl, D1, next_after X nln nlc D1 m1 L1 hk0 h⟩
  | c3 n x h1 h =>
    refine eq_no rfl (by decide) (eq_no rfl (by decide) (eq_yes rfl rfl ?_))
    obtain ⟨dx, _, _, hd, _⟩ := id D1
    refine ⟨_, rfl, d, dx, _, rfl, hd, rfl, row_go rfl L1 h1 fun l H2 m2 L2 hl hl' => ?_⟩
    have m := m1.trans m2
    exact ⟨d, M, N, s0, l, x, rfl, hl', hD.mv nln m, next_after X nln nlc (hD.mv nln m) m L2 h1.2.1 h⟩
  | c4 a b h1 h2 h =>
    refine eq_no rfl (by decide) (eq_no rfl (by decide) (eq_no rfl (by decide) (eq_yes rfl rfl ?_)))
    obtain ⟨dx, _, _, hd, _⟩ := id D1
    refine ⟨_, rfl, d, dx, _, rfl, hd, rfl, num_go rfl L1 h1 fun H2 m2 L2 => num_go rfl L2 h2 fun H3 m3 L3 => ?_⟩
    have m := (m1.trans m2).trans m3
    exact ⟨d, M, N, s0, a, b, rfl, hD.mv nln m, next_after X nln nlc (hD.mv nln m) m L3 (List.getElem?_eq_some_iff.mp h2).1 h⟩
  | c5 a n m_ x y h1 h2 h3 h =>
    refine eq_no rfl (by decide) (eq_no rfl (by decide) (eq_no rfl (by decide) (eq_no rfl (by decide) (eq_yes rfl rfl ?_))))
    obtain ⟨dx, _, _, hd, _⟩ := id D1
    refine ⟨_, rfl, d, dx, _, rfl, hd, rfl, num_go rfl L1 h1 fun H2 m2 L2 => row_go rfl L2 h2 fun l3 H3 m3 L3 hl3 hl3' => row_go rfl L3 h3 fun l4 H4 m4 L4 hl4 hl4' => ?_⟩
    have m123 := (m1.trans m2).trans m3
    have m := m123.trans m4
    exact ⟨d, M, N, s0, a, l3, l4, x, y, rfl, m4.1 _ _ (L2.ne hl3) hl3', fz_of (nin (hD.mv nln m123) hl4) hl4', hD.mv nln m, next_after X nln nlc (hD.mv nln m) m L4 h3.2.1 h⟩
  | c6 n m_ o x y z h1 h2 h3 h =>
    refine eq_no rfl (by decide) (eq_no rfl (by decide) (eq_no rfl (by decide) (eq_no rfl (by decide) (eq_no rfl (by decide) (eq_yes rfl rfl ?_)))))
    obtain ⟨dx, _, _, hd, _⟩ := id D1
    refine ⟨_, rfl, d, dx, _, rfl, hd, rfl, row_go rfl L1 h1 fun l2 H2 m2 L2 hl2 hl2' => row_go rfl L2 h2 fun l3 H3 m3 L3 hl3 hl3' => row_go rfl L3 h3 fun l4 H4 m4 L4 hl4 hl4' => ?_⟩
    have m12 := m1.trans m2
    have m123 := m12.trans m3
    have m := m123.trans m4
    exact ⟨d, M, N, s0, l2, l3, l4, x, y, z, rfl, fz_of (nin D1 hl2) (m4.1 _ _ (L1.ne hl2) (m3.1 _ _ (L1.ne hl2) hl2')), fz_of (nin (hD.mv nln m12) hl3) (m4.1 _ _ (L2.ne hl3) hl3'), fz_of (nin (hD.mv nln m123) hl4) hl4', hD.mv nln m, next_after X nln nlc (hD.mv nln m) m L4 h3.2.1 h⟩
  | c7 a b c h1 h2 h3 h =>
    refine eq_no rfl (by decide) (eq_no rfl (by decide) (eq_no rfl (by decide) (eq_no rfl (by decide) (eq_no rfl (by decide) (eq_no rfl (by decide) (eq_yes rfl rfl ?_))))))
    obtain ⟨dx, _, _, hd, _⟩ := id D1
    refine ⟨_, rfl, d, dx, _, rfl, hd, rfl, num_go rfl L1 h1 fun H2 m2 L2 => num_go rfl L2 h2 fun H3 m3 L3 => num_go rfl L3 h3 fun H4 m4 L4 => ?_⟩
    have m := ((m1.trans m2).trans m3).trans m4
    exact ⟨d, M, N, s0, a, b, c, rfl, hD.mv nln m, next_after X nln nlc (hD.mv nln m) m L4 (List.getElem?_eq_some_iff.mp h3).1 h⟩
  | c8 h =>
    refine eq_no rfl (by decide) (eq_no rfl (by decide) (eq_no rfl (by decide) (eq_no rfl (by decide) (eq_no rfl (by decide) (eq_no rfl (by decide) (eq_no rfl (by decide) (eq_yes rfl rfl ?_)))))))
    obtain ⟨dx, _, _, hd, _⟩ := id D1
    exact ⟨_, rfl, d, dx, _, rfl, hd, rfl, d, M, N, s0, rfl, D1, next_after X nln nlc D1 m1 L1 hk0 h⟩
  | c9 a b h1 h2 h =>
    refine eq_no rfl (by decide) (eq_no rfl (by decide) (eq_no rfl (by decide) (eq_no rfl (by decide) (eq_no rfl (by decide) (eq_no rfl (by decide) (eq_no rfl (by decide) (eq_no rfl (by decide) (eq_yes rfl rfl ?_))))))))
    obtain ⟨dx, _, _, hd, _⟩ := id D1
    refine ⟨_, rfl, d, dx, _, rfl, hd, rfl, num_go rfl L1 h1 fun H2 m2 L2 => num_go rfl L2 h2 fun H3 m3 L3 => ?_⟩
    have m := (m1.trans m2).trans m3
    exact ⟨d, M, N, s0, a, b, rfl, hD.mv nln m, next_after X nln nlc (hD.mv nln m) m L3 (List.getElem?_eq_some_iff.mp h2).1 h⟩
  | c10 a h1 h =>
    refine eq_no rfl (by decide) (eq_no rfl (by decide) (eq_no rfl (by decide) (eq_no rfl (by decide) (eq_no rfl (by decide) (eq_no rfl (by decide) (eq_no rfl (by decide) (eq_no rfl (by decide) (eq_no rfl (by decide) (eq_yes rfl rfl ?_)))))))))
    obtain ⟨dx, _, _, hd, _⟩ := id D1
    refine ⟨_, rfl, d, dx, _, rfl, hd, rfl, num_go rfl L1 h1 fun H2 m2 L2 => ?_⟩
    have m := m1.trans m2
    exact ⟨d, M, N, s0, a, rfl, hD.mv nln m, next_after X nln nlc (hD.mv nln m) m L2 (List.getElem?_eq_some_iff.mp h1).1 h⟩
  | c11 h =>
    refine eq_no rfl (by decide) (eq_no rfl (by decide) (eq_no rfl (by decide) (eq_no rfl (by decide) (eq_no rfl (by decide) (eq_no rfl (by decide) (eq_no rfl (by decide) (eq_no rfl (by decide) (eq_no rfl (by decide) (eq_no rfl (by decide) (eq_yes rfl rfl ?_))))))))))
    obtain ⟨dx, _, _, hd, _⟩ := id D1
    refine ⟨_, rfl, d, dx, _, rfl, hd, rfl, d, M, N, s0, rfl, D1, (next_after X nln nlc D1 m1 L1 hk0 h).1, fun hz => ?_⟩
    exact absurd hz (by show ¬ ((_ : Nat) : Int) < 0; omega)
end
end Sk
set_option maxHeartbeats 4000000
/-! # What the next call answers; all calls -/
namespace Sk
open PySem PySem.Spec PyProof.Rows L2
open Evl (Ex)
abbrev st_answer_of : Stmt := top 116
theorem sc_answer_of : FnScope ["desk", "line"] ["desk", "line"] (defScope st_answer_of) := ⟨rfl, rfl, rfl, by decide +kernel, rfl, by decide +kernel, by decide +kernel⟩
abbrev st_answers : Stmt := top 115
theorem sc_answers : FnScope ["calls", "line", "desk", "answered", "answer"] ["calls"] (defScope st_answers) := ⟨rfl, rfl, rfl, by decide +kernel, rfl, by decide +kernel, by decide +kernel⟩
def sp_answer_of (K : PySem.W.Frag) (A : Ads) : Sp := fun vs H Q _ => ∃ d ln, vs = [.ref d, .ref ln] ∧ ∃ M N s lc cs k c rest kc, DeskAt A M N H d s ∧ N ln ∧ (N lc ∨ ∀ H, SqL K H lc (cs.map V.int)) ∧ LineAt K A H ln lc cs k ∧ PyFlat.call PyKg56.shape (cs.drop k) = some (c, rest) ∧ Kg56Neutral.callOf (PyKg56.whole c) = some kc ∧
  ∀ M' H' l k', (∀ q o, N q → q ≠ ln → H q = some o → H' q = some o) → DeskAt A M' N H' d (Kg56.spec s kc).1 → LineAt K A H' ln lc cs k' → k' ≤ cs.length → cs.drop k' = rest → ¬ N l → ¬ M' l → H' l = some (.lst (((Kg56.spec s kc).2.value :: (Kg56.spec s kc).2.out).map V.int)) → Q (.ref l) H'
/-! ### all calls -/
def dueFrom (s : Kg56.State) (raws : List (List (List Int))) : List Int := PyFlat.told (PyFlat.played Kg56Neutral.step s (raws.map PyKg56.whole))
theorem due_cons {s : Kg56.State} {c : List (List Int)} {kc : Kg56.Call} {raws : List (List (List Int))} (h : Kg56Neutral.callOf (PyKg56.whole c) = some kc) :
    dueFrom s (c :: raws) = (((Kg56.spec s kc).2.value :: (Kg56.spec s kc).2.out).length : Int) :: ((Kg56.spec s kc).2.value :: (Kg56.spec s kc).2.out) ++ dueFrom (Kg56.spec s kc).1 raws := by
  have e : Kg56Neutral.step s (PyKg56.whole c) = ((Kg56.spec s kc).1, (Kg56.spec s kc).2.value :: (Kg56.spec s kc).2.out) := by
    unfold Kg56Neutral.step
    rw [h]
  show PyFlat.told ((Kg56Neutral.step s (PyKg56.whole c)).2 :: PyFlat.played Kg56Neutral.step (Kg56Neutral.step s (PyKg56.whole c)).1 (raws.map PyKg56.whole)) = _
  rw [e]
  rfl
theorem calls_nil {f : Nat} {raws : List (List (List Int))} (h : PyFlat.calls PyKg56.shape f [] = some raws) : raws = [] := by
  cases f <;> cases h <;> rfl
theorem calls_cons {f : Nat} {p : Int} {r : List Int} {raws : List (List (List Int))} (h : PyFlat.calls PyKg56.shape f (p :: r) = some raws) :
    ∃ f' c t cs', PyFlat.call PyKg56.shape (p :: r) = some (c, t) ∧ PyFlat.calls PyKg56.shape f' t = some cs' ∧ raws = c :: cs' := by
  cases f with
  | zero => cases h
  | succ f =>
    have h : (match PyFlat.call PyKg56.shape (p :: r) with
      | none => none
      | some (c, t) => match PyFlat.calls PyKg56.shape f t with
        | none => none
        | some cs => some (c :: cs)) = some raws := h
    cases hc : PyFlat.call PyKg56.shape (p :: r) with
    | none => rw [hc] at h; cases h
    | some q =>
      obtain ⟨c, t⟩ := q
      rw [hc] at h
      have h : (match PyFlat.calls PyKg56.shape f t with
        | none => none
        | some cs => some (c :: cs)) = some raws := h
      cases hs : PyFlat.calls PyKg56.shape f t with
      | none => rw [hs] at h; cases h
      | some cs' =>
        rw [hs] at h
        cases h
        exact ⟨f, c, t, cs', rfl, hs, rfl⟩
theorem asked_call {c : List (List Int)} (h : Kg56Neutral.asked1 c = true) : ∃ kc, Kg56Neutral.callOf c = some kc := by
  unfold Kg56Neutral.asked1 at h
  split at h <;> first
    | exact ⟨_, rfl⟩
    | cases h
/-- what is asked of a line, taken apart -/
theorem asked_line {cs : List Int} (h : PyKg56.answers_asked cs = true) : ∃ raws, PyFlat.calls PyKg56.shape cs.length cs = some raws ∧ (∀ c ∈ raws, ∃ kc, Kg56Neutral.callOf (PyKg56.whole c) = some kc) ∧ PyKg56.answers cs = dueFrom Kg56.init raws ∧ (PyKg56.answers cs).length ≤ 10000000 := by
  unfold PyKg56.answers_asked at h
  cases hr : PyFlat.calls PyKg56.shape cs.length cs with
  | none => rw [hr] at h; cases h
  | some raws =>
    rw [hr] at h
    simp only [Bool.and_eq_true] at h
    refine ⟨raws, rfl, fun c hc => ?_, ?_, ?_⟩
    · have h1 := h.1.2
      unfold Kg56Neutral.asked at h1
      rw [Bool.and_eq_true, List.all_eq_true] at h1
      exact asked_call (h1.1 _ (List.mem_map.mpr ⟨c, hc, rfl⟩))
    · unfold PyKg56.answers PyKg56.calls
      rw [hr]
      rfl
    · have h2 := h.2
      unfold PyFlat.short at h2
      exact of_decide_eq_true h2
def sp_answers (K : PySem.W.Frag) : Sp := fun vs H Q _ => ∃ lc cs, vs = [.ref lc] ∧ SqL K H lc (cs.map V.int) ∧ PyKg56.answers_asked cs = true ∧ ∀ an H', H' an = some (.lst ((PyKg56.answers cs).map V.int)) → Q (.ref an) H'
section
variable {P : Program} {w : World} {K : PySem.W.Frag} {mg : Str → Option Value} {base : Heap} {A : Ads}
theorem ok_answer_of (T : Txt K w mg A) (F0 : FunF K mg "answer_of" st_answer_of)
    (c_call_next : CalF P w K mg base (L2.CX P w) 9 "call_next" ["desk", "line"] (sp_call_next K A)) : CalF P w K mg base CX0 10 "answer_of" ["desk", "line"] (sp_answer_of K A) := by
  obtain ⟨f_call_next, fd_call_next, G_call_next, mg_call_next, kp_call_next, b_call_next⟩ := c_call_next
  obtain ⟨f, fd, F, gF⟩ := F0
  refine ⟨f, fd, ?_, gF, F.kp, F.binds (ps := ["desk", "line"]) fun _ _ _ _ _ _ us hl => match us, hl with | [_, _], _ => rfl⟩
  refine F.ok sc_answer_of (fun vs H Q E h => by first | (obtain ⟨rfl, _⟩ := h; rfl) | (obtain ⟨_, rfl, _⟩ := h; rfl) | (obtain ⟨_, _, rfl, _⟩ := h; rfl) | (obtain ⟨_, _, _, rfl, _⟩ := h; rfl) | (obtain ⟨_, _, _, _, rfl, _⟩ := h; rfl) | (obtain ⟨_, _, _, _, _, rfl, _⟩ := h; rfl) | (obtain ⟨_, _, _, _, _, _, rfl, _⟩ := h; rfl) | (obtain ⟨_, _, _, _, _, _, _, rfl, _⟩ := h; rfl) | (obtain ⟨_, _, _, _, _, _, _, _, rfl, _⟩ := h; rfl) | (obtain ⟨_, _, _, _, _, _, _, _, _, rfl, _⟩ := h; rfl) | (obtain ⟨_, _, _, _, _, _, _, _, _, _, rfl, _⟩ := h; rfl)) (fun cdv AA outer s H vs Q E hr h => ⟨_, (pss_one (ps_try_many (Wout := fun _ _ _ _ => False) rfl rfl takes0 (fun W pn xe tk _ => (pss_one (ps_ret (pe_callS G_call_next (hr.mono (by decide)) rfl mg_call_next kp_call_next b_call_next (fun σ => passAt tk σ) (pa_cons (pv 0) (pa_cons (pv 1) pa_nil)))))) (.cons ⟨rfl, by decide, .inl T.g_WrongValue⟩ (fun _ _ _ _ _ _ _ => (pss_one (ps_ret (pe_lst (pa_cons (pe_un un_neg pe_int) pa_nil))))) (.cons ⟨rfl, by decide, .inl T.g_NothingOpen⟩ (fun _ _ _ _ _ _ _ => (pss_one (ps_ret (pe_lst (pa_cons (pe_un un_neg pe_int) pa_nil))))) (.cons ⟨rfl, by decide, .inl T.g_StillSkating⟩ (fun _ _ _ _ _ _ _ => (pss_one (ps_ret (pe_lst (pa_cons (pe_un un_neg pe_int) pa_nil))))) (.cons ⟨rfl, by decide, .inl T.g_DoesNotFit⟩ (fun _ _ _ _ _ _ _ => (pss_one (ps_ret (pe_lst (pa_cons (pe_un un_neg pe_int) pa_nil))))) (.cons ⟨rfl, by decide, .inl T.g_NoRoom⟩ (fun _ _ _ _ _ _ _ => (pss_one (ps_ret (pe_lst (pa_cons (pe_un un_neg pe_int) pa_nil))))) .nil))))))), ?_⟩)
  obtain ⟨d, ln, rfl, M, N, s0, lc, cs, k, c, rest, kc, hD, nln, nlc, L0, hcall, hkc, X⟩ := h
  refine ⟨_, rfl, _, rfl, d, ln, rfl, M, N, s0, lc, cs, k, c, rest, kc, hD, nln, nlc, L0, hcall, hkc, fun _ M' H' l k' => X M' H' l k', fun hz M' H' k' fr D' L' hle hr => ?_⟩
  rcases spec_told s0 kc with z | ⟨_, z, hz5, hr2⟩
  · omega
  have fin : ∀ (l : Addr) (z' : Int), z' = z → H' l = none → Q (.ref l) (upd H' l (.lst [V.int z'])) := fun l z' e hl => by
    subst e
    have ex := Ex.one (o := .lst [V.int z']) hl
    obtain ⟨⟨dxl, q1⟩, q2⟩ := L'
    refine X M' _ l k' (fun q o nq hq h => ex _ _ (fr q o nq hq h)) (D'.ext ex) ⟨⟨dxl, ex _ _ q1⟩, Evl.ex_l ex q2⟩ hle hr ?_ ?_ ?_
    · exact fun m => by
        obtain ⟨_, _, _, _, _, h4, _⟩ := D'
        exact h4 l m hl
    · exact fun m => by
        obtain ⟨_, _, _, _, h3, _⟩ := D'
        exact (h3 l m).1 hl
    · rw [upd_same, hr2]
      rfl
  rw [hr2]
  show WE _ _ (.ref (refuse A z)) none H'
  rcases hz5 with rfl | rfl | rfl | rfl | rfl
  · exact ⟨_, T.e_WrongValue_WrongValue, fun _ a ha => ⟨1, rfl, by show 1 ≤ sizeLine; decide, fun l hl => fin l _ rfl hl⟩, fun h => nomatch h⟩
  · exact ⟨_, T.e_NothingOpen_WrongValue, fun h => (nomatch h), fun _ => ⟨_, T.e_NothingOpen_NothingOpen, fun _ a ha => ⟨2, rfl, by show 1 ≤ sizeLine; decide, fun l hl => fin l _ rfl hl⟩, fun h => nomatch h⟩⟩
  · exact ⟨_, T.e_StillSkating_WrongValue, fun h => (nomatch h), fun _ => ⟨_, T.e_StillSkating_NothingOpen, fun h => (nomatch h), fun _ => ⟨_, T.e_StillSkating_StillSkating, fun _ a ha => ⟨3, rfl, by show 1 ≤ sizeLine; decide, fun l hl => fin l _ rfl hl⟩, fun h => nomatch h⟩⟩⟩
  · exact ⟨_, T.e_DoesNotFit_WrongValue, fun h => (nomatch h), fun _ => ⟨_, T.e_DoesNotFit_NothingOpen, fun h => (nomatch h), fun _ => ⟨_, T.e_DoesNotFit_StillSkating, fun h => (nomatch h), fun _ => ⟨_, T.e_DoesNotFit_DoesNotFit, fun _ a ha => ⟨4, rfl, by show 1 ≤ sizeLine; decide, fun l hl => fin l _ rfl hl⟩, fun h => nomatch h⟩⟩⟩⟩
  · exact ⟨_, T.e_NoRoom_WrongValue, fun h => (nomatch h), fun _ => ⟨_, T.e_NoRoom_NothingOpen, fun h => (nomatch h), fun _ => ⟨_, T.e_NoRoom_StillSkating, fun h => (nomatch h), fun _ => ⟨_, T.e_NoRoom_DoesNotFit, fun h => (nomatch h), fun _ => ⟨_, T.e_NoRoom_NoRoom, fun _ a ha => ⟨5, rfl, by show 1 ≤ sizeLine; decide, fun l hl => fin l _ rfl hl⟩, fun h => nomatch h⟩⟩⟩⟩⟩
theorem ok_answers (T : Txt K w mg A) {f : Addr} {fd : FuncData} (F : Fun K "answers" "answers" st_answers f fd)
    (c_Line_init : CalI P w K mg base CX0 1 A.cLine ["self", "calls"] (sp_Line_init A))
    (c_Desk_init : CalI P w K mg base CX0 1 A.cDesk ["self"] (sp_Desk_init A))
    (c_Line_is_over : CalM P w K mg base CX0 1 A.cLine "is_over" ["self"] (sp_Line_is_over K A))
    (c_answer_of : CalF P w K mg base CX0 10 "answer_of" ["desk", "line"] (sp_answer_of K A)) : FnOk P w K mg base CX0 11 f fd ["calls"] (sp_answers K) := by
  obtain ⟨f_Line_init, fd_Line_init, G_Line_init, M_Line, b_Line_init⟩ := c_Line_init
  obtain ⟨f_Desk_init, fd_Desk_init, G_Desk_init, M_Desk, b_Desk_init⟩ := c_Desk_init
  obtain ⟨f_Line_is_over, fd_Line_is_over, G_Line_is_over, m_Line_is_over, b_Line_is_over⟩ := c_Line_is_over
  obtain ⟨f_answer_of, fd_answer_of, G_answer_of, mg_answer_of, kp_answer_of, b_answer_of⟩ := c_answer_of
  refine F.ok sc_answers (fun vs H Q E h => by first | (obtain ⟨rfl, _⟩ := h; rfl) | (obtain ⟨_, rfl, _⟩ := h; rfl) | (obtain ⟨_, _, rfl, _⟩ := h; rfl) | (obtain ⟨_, _, _, rfl, _⟩ := h; rfl) | (obtain ⟨_, _, _, _, rfl, _⟩ := h; rfl) | (obtain ⟨_, _, _, _, _, rfl, _⟩ := h; rfl) | (obtain ⟨_, _, _, _, _, _, rfl, _⟩ := h; rfl) | (obtain ⟨_, _, _, _, _, _, _, rfl, _⟩ := h; rfl) | (obtain ⟨_, _, _, _, _, _, _, _, rfl, _⟩ := h; rfl) | (obtain ⟨_, _, _, _, _, _, _, _, _, rfl, _⟩ := h; rfl) | (obtain ⟨_, _, _, _, _, _, _, _, _, _, rfl, _⟩ := h; rfl)) (fun cdv AA outer s H vs Q E hr h => ⟨_, (pss_cons (ps_set (i := 1) sc_answers.nd rfl (Or.inl rfl) (pe_make M_Line G_Line_init (hr.mono (by decide)) rfl T.g_Line b_Line_init .nil pass0 (pa_cons (pv 0) pa_nil)))
      (pss_cons (ps_set (i := 2) sc_answers.nd rfl (Or.inl rfl) (pe_make0 M_Desk G_Desk_init (hr.mono (by decide)) rfl T.g_Desk b_Desk_init .nil pass0))
      (pss_cons (ps_set (i := 3) sc_answers.nd rfl (Or.inl rfl) (pe_lst pa_nil))
      (pss_cons (ps_while PassesOwn.never (pt_not (pt_val (pe_meth0 (pv 1) T.cl_Line m_Line_is_over G_Line_is_over (hr.mono (by decide)) b_Line_is_over .nil pass0))) (pss_cons (ps_set (i := 4) sc_answers.nd rfl (Or.inl rfl) (pe_call G_answer_of (hr.mono (by decide)) rfl mg_answer_of kp_answer_of b_answer_of .nil pass0 (pa_cons (pv 2) (pa_cons (pv 1) pa_nil))))
      (pss_cons (ps_expr (pe_bm PySem.F.plainAttrs_list PySem.F.slot_list_append PySem.F.type_list_append mt_append (pv 3) (pa_cons (pe_callB call_len_seq (by rfl) T.b_len (by decide +kernel) (pa_cons (pv 4) pa_nil)) pa_nil)))
      (pss_one (ps_expr (pe_bm PySem.F.plainAttrs_list PySem.F.slot_list_extend PySem.F.type_list_extend mt_extend (pv 3) (pa_cons (pv 4) pa_nil)))))))
      (pss_one (ps_ret (pv 3))))))), ?_⟩)
  obtain ⟨lc, cs, rfl, hS, hask, X⟩ := h
  obtain ⟨raws, hcalls, hkc, hdue, h10⟩ := asked_line hask
  refine ⟨_, rfl, ?_⟩
  intro ln dxl nln ndl nel
  refine ⟨.ref lc, made0 (vs := [.ref lc]) nln ndl fun H1 e1 h1 => ⟨rfl, ?_⟩⟩
  intro d dxd nd ndd ned
  refine made0 (vs := []) nd ndd fun H2 e2 h2 => ⟨rfl, ?_⟩
  refine ⟨Nat.zero_le _, fun an han => ?_⟩
  have e3 := Ex.one (o := .lst []) han
  have e12 := e1.trans e2
  have e13 := e12.trans e3
  have ln0 : H ln = none := nln
  have an0 : H an = none := Evl.fresh_back e12 han
  have d0 : H d = none := Evl.fresh_back e1 nd
  have lnd : ln ≠ d := fun z => by rw [← z, h1] at nd; cases nd
  have lnan : ln ≠ an := fun z => by rw [← z, e2 _ _ h1] at han; cases han
  have dan : d ≠ an := fun z => by rw [← z, h2] at han; cases han
  -- where what is handed in stands
  have lcn : (H lc ≠ none ∧ lc ≠ an) ∨ ∀ H, SqL K H lc (cs.map V.int) := by
    rcases hS with (h | ⟨u, h⟩) | h
    · exact .inl ⟨(by rw [h]; intro z; cases z), ne_of_none h an0⟩
    · exact .inl ⟨(by rw [h]; intro z; cases z), ne_of_none h an0⟩
    · exact .inr fun _ => .inr h
  generalize hNd : (fun q => q = ln ∨ q = an ∨ (q = lc ∧ H lc ≠ none)) = N
  have nN : ∀ q, N q ↔ (q = ln ∨ q = an ∨ (q = lc ∧ H lc ≠ none)) := fun q => by rw [← hNd]
  have nlc : N lc ∨ ∀ H, SqL K H lc (cs.map V.int) := lcn.imp (fun z => (nN lc).mpr (.inr (.inr ⟨rfl, z.1⟩))) id
  have nln' : N ln := (nN ln).mpr (.inl rfl)
  have nan' : N an := (nN an).mpr (.inr (.inl rfl))
  have lcKeep : ∀ {Ha Hb : Hp}, SqL K Ha lc (cs.map V.int) → (∀ q o, q ≠ an → Ha q = some o → Hb q = some o) → SqL K Hb lc (cs.map V.int) := fun h e => by
    rcases lcn with z | z
    · exact sq_keep h fun o ho => e lc o z.2 ho
    · exact z _
  have L3 : LineAt K A (upd H2 an (.lst [])) ln lc cs 0 := ⟨⟨dxl, e3 _ _ (e2 _ _ h1)⟩, Evl.ex_l e13 hS⟩
  have D3 : DeskAt A (fun q => q = d) N (upd H2 an (.lst [])) d Kg56.init := by
    refine ⟨dxd, .non, rfl, e3 _ _ h2, fun q hq => ?_, fun q hq => ?_, .inl ⟨rfl, rfl, rfl, rfl⟩⟩
    · have hq : q = d := hq
      subst hq
      refine ⟨(by rw [e3 _ _ h2]; intro z; cases z), fun hn => ?_⟩
      rcases (nN q).mp hn with z | z | ⟨z, z2⟩
      · exact lnd z.symm
      · exact dan z
      · exact z2 (z ▸ d0)
    · rcases (nN q).mp hq with z | z | ⟨z, z2⟩
      · rw [z, e3 _ _ (e2 _ _ h1)]; intro y; cases y
      · rw [z, upd_same]; intro y; cases y
      · rw [z]
        cases c : H lc with
        | none => exact absurd c z2
        | some o => rw [e13 _ _ c]; intro y; cases y
  refine ⟨fun m σ H' => ∃ v M s k done raws' f', σ = [some (.ref lc), some (.ref ln), some (.ref d), some (.ref an), v] ∧ DeskAt A M N H' d s ∧ LineAt K A H' ln lc cs k ∧ k ≤ cs.length ∧ H' an = some (.lst (done.map V.int)) ∧
    PyFlat.calls PyKg56.shape f' (cs.drop k) = some raws' ∧ (∀ c ∈ raws', ∃ kc, Kg56Neutral.callOf (PyKg56.whole c) = some kc) ∧ done ++ dueFrom s raws' = PyKg56.answers cs ∧ m = raws'.length,
    ⟨_, none, _, _, 0, [], raws, cs.length, rfl, D3, L3, Nat.zero_le _, upd_same, hcalls, hkc, by rw [hdue]; rfl, rfl⟩, ?_⟩
  rintro m σ H' ⟨v, M, s0, k, done, raws', f', rfl, D, L, hk, ha, hc, hkc', hd, rfl⟩
  obtain ⟨⟨dx1, L1⟩, L2⟩ := id L
  refine ⟨_, rfl, ln, dx1, _, rfl, L1, rfl, ln, lc, cs, k, rfl, L, _, rfl, ?_⟩
  by_cases hend : k = cs.length
  · rw [decide_eq_true hend]
    refine t_no rfl ?_
    have hr : raws' = [] := by
      rw [hend, List.drop_length] at hc
      exact calls_nil hc
    subst hr
    have hd : done = PyKg56.answers cs := by
      rw [← hd]
      exact (List.append_nil _).symm
    exact ⟨_, rfl, X an H' (by rw [ha, hd])⟩
  · rw [decide_eq_false hend]
    refine t_yes rfl ?_
    cases hdr : cs.drop k with
    | nil =>
      have := congrArg List.length hdr
      rw [List.length_drop] at this
      simp at this
      omega
    | cons p r =>
      rw [hdr] at hc
      obtain ⟨f2, c, t, raws2, hcall, hc2, rfl⟩ := calls_cons hc
      rw [← hdr] at hcall
      obtain ⟨kc, hk1⟩ := hkc' c List.mem_cons_self
      have hdue2 := due_cons (s := s0) (raws := raws2) hk1
      rw [hdue2] at hd
      have hlen : done.length + 1 + ((Kg56.spec s0 kc).2.value :: (Kg56.spec s0 kc).2.out).length ≤ 10000000 := by
        have := congrArg List.length hd
        simp only [List.length_append, List.length_cons] at this ⊢
        omega
      refine ⟨fun σ' H'' => ∃ v M s k done raws' f', σ' = [some (.ref lc), some (.ref ln), some (.ref d), some (.ref an), v] ∧ DeskAt A M N H'' d s ∧ LineAt K A H'' ln lc cs k ∧ k ≤ cs.length ∧ H'' an = some (.lst (done.map V.int)) ∧
        PyFlat.calls PyKg56.shape f' (cs.drop k) = some raws' ∧ (∀ c ∈ raws', ∃ kc, Kg56Neutral.callOf (PyKg56.whole c) = some kc) ∧ done ++ dueFrom s raws' = PyKg56.answers cs ∧ raws'.length = raws2.length, ?_, ?_⟩
      · rintro σ' H'' ⟨v, M, s, k, done, raws', f', q1, q2, q3, q4, q5, q6, q7, q8, q9⟩
        exact ⟨raws'.length, by rw [q9]; exact Nat.lt_succ_self _, v, M, s, k, done, raws', f', q1, q2, q3, q4, q5, q6, q7, q8, rfl⟩
      · refine ⟨_, rfl, _, rfl, d, ln, rfl, M, N, s0, lc, cs, k, c, t, kc, D, nln', nlc, L, hcall, hk1, fun M2 H2' l k' fr D2 L2' hle hr2 hlN hlM hl => ?_⟩
        have ha2 : H2' an = some (.lst (done.map V.int)) := fr an _ nan' (Ne.symm lnan) ha
        have lan : l ≠ an := fun z => hlN (z ▸ nan')
        generalize hA : (Kg56.spec s0 kc).2.value :: (Kg56.spec s0 kc).2.out = ans at hd hlen hl
        refine ⟨_, rfl, .inl ⟨rfl, _, SqL.of ha2⟩, ?_⟩
        refine ⟨_, rfl, l, _, rfl, .inl (SqL.of hl), ?_⟩
        refine ⟨an, done.map V.int, _, rfl, rfl, ha2, ?_, ?_⟩
        · rw [List.length_map]
          exact Nat.lt_of_le_of_lt (m := 10000000) (by omega) (by decide)
        refine ⟨_, rfl, .inl ⟨rfl, _, SqL.of upd_same⟩, ?_⟩
        have e5 : (((ans.map V.int).length : Nat) : Int) = ((ans.length : Nat) : Int) := by rw [List.length_map]
        rw [e5]
        refine ⟨_, rfl, an, l, _, _, rfl, rfl, upd_same, (upd_ne lan).trans hl, ?_, ?_⟩
        · refine Nat.le_trans (m := 10000000) ?_ (by decide)
          simp only [List.length_append, List.length_map, List.length_cons, List.length_nil]
          omega
        · have mv : Mv an H2' (upd (upd H2' an (.lst (done.map V.int ++ [V.int ((ans.length : Nat) : Int)]))) an (.lst (done.map V.int ++ [V.int ((ans.length : Nat) : Int)] ++ ans.map V.int))) := Mv.upd.trans Mv.upd
          obtain ⟨⟨dx2, q1⟩, q2⟩ := id L2'
          refine ⟨_, M2, (Kg56.spec s0 kc).1, k', done ++ ((ans.length : Nat) : Int) :: ans, raws2, f2, rfl, D2.mv nan' mv, ⟨⟨dx2, mv.1 _ _ lnan q1⟩, lcKeep q2 fun q o hq h => mv.1 q o hq h⟩, hle, ?_, by rw [hr2]; exact hc2, fun c hc => hkc' c (List.mem_cons_of_mem _ hc), ?_, rfl⟩
          · rw [upd_same]
            simp only [List.map_append, List.map_cons, List.append_assoc, List.singleton_append]
          · rw [← hd]
            simp only [List.append_assoc, List.cons_append]
end
end Sk
set_option maxHeartbeats 2000000
namespace Sk
open PySem PySem.Spec PyProof.Rows L2
open Evl (Ex)
section
variable {P : Program} {w : World} {K : PySem.W.Frag} {mg : Str → Option Value} {base : Heap} {A : Ads}
theorem ok_spin_worth (T : Txt K w mg A) (F0 : FunF K mg "spin_worth" st_spin_worth) : CalF P w K mg base CX0 1 "spin_worth" ["position", "flying", "change", "level"] (sp_spin_worth) := by
  obtain ⟨f, fd, F, gF⟩ := F0
  refine ⟨f, fd, ?_, gF, F.kp, F.binds (ps := ["position", "flying", "change", "level"]) fun _ _ _ _ _ _ us hl => match us, hl with | [_, _, _, _], _ => rfl⟩
  refine F.ok sc_spin_worth (fun vs H Q E h => by first | (obtain ⟨rfl, _⟩ := h; rfl) | (obtain ⟨_, rfl, _⟩ := h; rfl) | (obtain ⟨_, _, rfl, _⟩ := h; rfl) | (obtain ⟨_, _, _, rfl, _⟩ := h; rfl) | (obtain ⟨_, _, _, _, rfl, _⟩ := h; rfl) | (obtain ⟨_, _, _, _, _, rfl, _⟩ := h; rfl) | (obtain ⟨_, _, _, _, _, _, rfl, _⟩ := h; rfl) | (obtain ⟨_, _, _, _, _, _, _, rfl, _⟩ := h; rfl) | (obtain ⟨_, _, _, _, _, _, _, _, rfl, _⟩ := h; rfl) | (obtain ⟨_, _, _, _, _, _, _, _, _, rfl, _⟩ := h; rfl) | (obtain ⟨_, _, _, _, _, _, _, _, _, _, rfl, _⟩ := h; rfl)) (fun cdv AA outer s H vs Q E hr h => ⟨_, (pss_one (ps_ret (pe_op op_add (pe_op op_add (pe_ix ix_tup (pe_ix ix_tup (pe_globR T.k_SPIN_WORTHS.1) (pv 0) (fun _ _ => rfl)) (pv 3) (fun _ _ => rfl)) (pe_op op_mul (pv 1) (pe_globI T.k_FLYING_WORTH))) (pe_op op_mul (pv 2) (pe_globI T.k_CHANGE_WORTH))))), ?_⟩)
  obtain ⟨p, f1, c, l, rfl, ⟨hp, hf, hc, hl⟩, k⟩ := h
  obtain ⟨row, v, e1, e2, e3⟩ := spinW hp hf hc hl
  obtain ⟨xs, a, h1, h2, h3⟩ := tupN_at T.k_SPIN_WORTHS.2 (getN e1)
  obtain ⟨h4, h5⟩ := tupI_at h3 H (getI e2)
  refine ⟨_, rfl, _, _, _, _, rfl, rfl, h1 H, h2, _, rfl, _, _, _, _, rfl, rfl, h4, h5, ?_⟩
  refine ⟨_, rfl, _, _, rfl, rfl, mulOk ⟨by omega, by omega⟩, _, _, rfl, rfl, _, rfl, _, _, rfl, rfl, mulOk ⟨by omega, by omega⟩, _, _, rfl, rfl, ?_⟩
  have e : (v : Int) + (f1 : Int) * 50 + (c : Int) * 50 = ((Kg56.spinWorth (10 * f1 + 5 * c + p) l : Nat) : Int) := by
    rw [e3]
    omega
  show Q (.int ((v : Int) + (f1 : Int) * 50 + (c : Int) * 50)) H
  rw [e]
  exact k
theorem ok_steps_worth (T : Txt K w mg A) (F0 : FunF K mg "steps_worth" st_steps_worth) : CalF P w K mg base CX0 1 "steps_worth" ["level"] (sp_steps_worth) := by
  obtain ⟨f, fd, F, gF⟩ := F0
  refine ⟨f, fd, ?_, gF, F.kp, F.binds (ps := ["level"]) fun _ _ _ _ _ _ us hl => match us, hl with | [_], _ => rfl⟩
  refine F.ok sc_steps_worth (fun vs H Q E h => by first | (obtain ⟨rfl, _⟩ := h; rfl) | (obtain ⟨_, rfl, _⟩ := h; rfl) | (obtain ⟨_, _, rfl, _⟩ := h; rfl) | (obtain ⟨_, _, _, rfl, _⟩ := h; rfl) | (obtain ⟨_, _, _, _, rfl, _⟩ := h; rfl) | (obtain ⟨_, _, _, _, _, rfl, _⟩ := h; rfl) | (obtain ⟨_, _, _, _, _, _, rfl, _⟩ := h; rfl) | (obtain ⟨_, _, _, _, _, _, _, rfl, _⟩ := h; rfl) | (obtain ⟨_, _, _, _, _, _, _, _, rfl, _⟩ := h; rfl) | (obtain ⟨_, _, _, _, _, _, _, _, _, rfl, _⟩ := h; rfl) | (obtain ⟨_, _, _, _, _, _, _, _, _, _, rfl, _⟩ := h; rfl)) (fun cdv AA outer s H vs Q E hr h => ⟨_, (pss_one (ps_ret (pe_ix ix_tup (pe_globR T.k_STEPS_WORTHS.1) (pv 0) (fun _ _ => rfl)))), ?_⟩)
  obtain ⟨l, rfl, hl, k⟩ := h
  have e2 := stepsW ⟨l, hl⟩
  obtain ⟨h4, h5⟩ := tupI_at T.k_STEPS_WORTHS.2 H (getI e2)
  exact ⟨_, rfl, _, _, _, _, rfl, rfl, h4, h5, k⟩
theorem ok_check_number (T : Txt K w mg A) (F0 : FunF K mg "check_number" st_check_number) : CalF P w K mg base (L2.CX P w) 1 "check_number" ["number", "least", "most"] (sp_check_number A) := by
  obtain ⟨f, fd, F, gF⟩ := F0
  refine ⟨f, fd, ?_, gF, F.kp, F.binds (ps := ["number", "least", "most"]) fun _ _ _ _ _ _ us hl => match us, hl with | [_, _, _], _ => rfl⟩
  refine F.okX sc_check_number (fun vs H Q E h => by first | (obtain ⟨rfl, _⟩ := h; rfl) | (obtain ⟨_, rfl, _⟩ := h; rfl) | (obtain ⟨_, _, rfl, _⟩ := h; rfl) | (obtain ⟨_, _, _, rfl, _⟩ := h; rfl) | (obtain ⟨_, _, _, _, rfl, _⟩ := h; rfl) | (obtain ⟨_, _, _, _, _, rfl, _⟩ := h; rfl) | (obtain ⟨_, _, _, _, _, _, rfl, _⟩ := h; rfl) | (obtain ⟨_, _, _, _, _, _, _, rfl, _⟩ := h; rfl) | (obtain ⟨_, _, _, _, _, _, _, _, rfl, _⟩ := h; rfl) | (obtain ⟨_, _, _, _, _, _, _, _, _, rfl, _⟩ := h; rfl) | (obtain ⟨_, _, _, _, _, _, _, _, _, _, rfl, _⟩ := h; rfl)) (fun cdv AA outer s H vs Q E hr h => ⟨_, (pss_one (ps_if (pt_not (pt_chain op_le op_le (pv 1) (pv 0) (pv 2))) (pss_one (ps_raise rfl (takes_of rfl rfl rfl rfl) (pmk_own0 PySem.F.excBase_Exception T.x_WrongValue T.g_WrongValue T.k_WrongValue (raises_own T.s_WrongValue T.t_WrongValue) (by exact rfl)))) pss_nil)), ?_⟩)
  obtain ⟨n, a, b, rfl, k, e⟩ := h
  refine ⟨_, rfl, _, rfl, _, _, rfl, rfl, _, rfl, ?_⟩
  by_cases c1 : a ≤ n
  · refine t_yes (decide_eq_true c1) ⟨_, rfl, _, _, rfl, rfl, _, rfl, ?_⟩
    by_cases c2 : n ≤ b
    · rw [decide_eq_true c2]
      exact k ⟨c1, c2⟩
    · rw [decide_eq_false c2]
      exact e fun z => c2 z.2
  · refine t_no (decide_eq_false c1) ?_
    exact ⟨_, rfl, e fun z => c1 z.1⟩
end
end Sk
set_option maxHeartbeats 2000000
/-! # What the top has written, read -/
namespace Sk
open PySem PySem.Spec PyProof.Rows L2
theorem intsA_ok : ∀ {vs : List Value} {ns : List Int}, intsA vs ns = true → Vals (ns.map V.int) vs
  | [], [], _ => .nil
  | [], _ :: _, h => by cases h
  | v :: _, [], h => by cases v <;> cases h
  | v :: r, i :: l, h => by
    cases v with
    | int j t =>
      obtain ⟨h1, h2⟩ := Bool.and_eq_true_iff.mp (show (decide (j = i) && intsA r l) = true from h)
      exact .cons ⟨t, by rw [of_decide_eq_true h1]⟩ (intsA_ok h2)
    | _ => cases h
theorem seqA_ok {K : PySem.W.Frag} {a : Addr} {p : List Value → Bool} (h : seqA K a p = true) : ∃ (o : Obj) (its : Array Value) (n : Nat), K.lookup a = some o ∧ o.cls = .type "tuple" ∧ o.data = .seq its n ∧ its.size ≤ sizeLine ∧ p its.toList = true := by
  unfold seqA at h
  cases q : K.lookup a with
  | none => rw [q] at h; cases h
  | some o =>
    rw [q] at h
    obtain ⟨oc, od, dt, sl⟩ := o
    cases oc with
    | type c =>
      cases dt with
      | seq its n =>
        obtain ⟨h1, h2⟩ := Bool.and_eq_true_iff.mp (show (decide (c = "tuple") && (decide (its.size ≤ sizeLine) && p its.toList)) = true from h)
        obtain ⟨h3, h4⟩ := Bool.and_eq_true_iff.mp h2
        exact ⟨_, its, n, rfl, congrArg Value.type (of_decide_eq_true h1), rfl, of_decide_eq_true h3, h4⟩
      | _ => cases h
    | _ => cases h
theorem tupA_ok {K : PySem.W.Frag} {a : Addr} {ns : List Int} (h : tupA K a ns = true) : TupI K a ns := fun H => by
  obtain ⟨o, its, n, h1, h2, h3, h4, h5⟩ := seqA_ok h
  exact .inr ⟨o, its, n, h1, h2, h3, h4, intsA_ok h5⟩
theorem rowsA_ok {K : PySem.W.Frag} : ∀ {vs : List Value} {nss : List (List Int)}, rowsA K vs nss = true → ∃ as : List Addr, Vals (as.map V.ref) vs ∧ All2 (TupI K) as nss
  | [], [], _ => ⟨[], .nil, .nil⟩
  | [], _ :: _, h => by cases h
  | v :: _, [], h => by cases v <;> cases h
  | v :: r, i :: l, h => by
    cases v with
    | ref b =>
      obtain ⟨h1, h2⟩ := Bool.and_eq_true_iff.mp (show (tupA K b i && rowsA K r l) = true from h)
      obtain ⟨as, q1, q2⟩ := rowsA_ok h2
      exact ⟨b :: as, .cons rfl q1, .cons (tupA_ok h1) q2⟩
    | _ => cases h
theorem tupsA_ok {K : PySem.W.Frag} {a : Addr} {nss : List (List Int)} (h : tupsA K a nss = true) : TupN K a nss := by
  obtain ⟨o, its, n, h1, h2, h3, h4, h5⟩ := seqA_ok h
  obtain ⟨as, q1, q2⟩ := rowsA_ok h5
  exact ⟨as, fun H => .inr ⟨o, its, n, h1, h2, h3, h4, q1⟩, q2⟩
theorem entA_ok : ∀ {es : List DictEntry} {kvs : List (Str × Int)}, entA es kvs = true → EntsAre es kvs
  | [], [], _ => .nil
  | [], _ :: _, h => by cases h
  | _ :: _, [], h => by cases h
  | e :: r, (k, v) :: l, h => by
    have h1 : (match e.key, e.val with
      | .str k' _, .int v' _ => decide (k' = k) && (decide (v' = v) && entA r l)
      | _, _ => false) = true := h
    cases hk : e.key with
    | str k' t =>
      cases hv : e.val with
      | int v' u =>
        rw [hk, hv] at h1
        obtain ⟨h2, h3⟩ := Bool.and_eq_true_iff.mp (show (decide (k' = k) && (decide (v' = v) && entA r l)) = true from h1)
        obtain ⟨h4, h5⟩ := Bool.and_eq_true_iff.mp h3
        exact .cons (t := t) (u := u) (by rw [hk, of_decide_eq_true h2]) (by rw [hv, of_decide_eq_true h4]) (entA_ok h5)
      | _ => rw [hk, hv] at h1; cases h1
    | _ => rw [hk] at h1; cases h1
theorem dict_ok {K : PySem.W.Frag} {w : World} {a : Addr} {kvs : List (Str × Int)} (h : entsA K a kvs = true) (d : ∃ es n, KDict K w a es n) : WDict K w a kvs := by
  obtain ⟨es, n, d1, d2, d3⟩ := d
  unfold entsA at h
  rw [d1] at h
  exact ⟨es, n, d1, d2, d3, entA_ok h⟩
theorem exo_ok {K : PySem.W.Frag} {a : Addr} (h : exoA K a = true) : PySem.W.excIn K a [.type "Exception", .type "BaseException", .type "object"] "Exception.__new__" = true ∧ PySem.W.keepIn K (.ref a) = true ∧ PySem.W.subIn K (.ref a) (.type "BaseException") = some true ∧ PySem.W.typeIn K (.ref a) = some (.type "type") := by
  obtain ⟨h1, h⟩ := Bool.and_eq_true_iff.mp h
  obtain ⟨h2, h⟩ := Bool.and_eq_true_iff.mp h
  obtain ⟨h3, h4⟩ := Bool.and_eq_true_iff.mp h
  exact ⟨h1, h2, of_decide_eq_true h3, of_decide_eq_true h4⟩
/-- a def without defaults -/
theorem fun_of {K : PySem.W.Frag} {x q : Str} {st : Stmt} {f : Addr} {fd : FuncData} (F : FunD K x q (defArgs st) (defBody st) (defScope st) [] [] f fd) : Fun K x q st f fd := by
  obtain ⟨oc, od, dV, kV, doc, pm, an, cdv, ct, sl, e, lk, cd, hd, _⟩ := F.ex
  rcases hd with ⟨_, rfl⟩ | ⟨h, _⟩
  · exact ⟨⟨oc, od, kV, doc, pm, an, cdv, ct, sl, e, lk, cd⟩, F.kp⟩
  · exact absurd rfl h
theorem extra_at {K : PySem.W.Frag} {w : World} (e : obsA K = valA w) (i : Nat) {b : Bool} (h : (extras K)[i]? = some b) : b = true := by
  have h1 : (extras K).all id = true := congrArg (fun z : Al => z.2) e
  exact List.all_eq_true.mp h1 b (List.mem_of_getElem? h)
end Sk
set_option maxHeartbeats 4000000
/-! # The end -/
namespace Sk
open PySem PySem.Spec PyProof.Rows L2
section
variable {w : World} {K : PySem.W.Frag} {h : Heap} {mg : Str → Option Value}
def adsOf (K : PySem.W.Frag) : Ads where
  cTelling := He.ga K "Telling"
  cProgram := He.ga K "Program"
  cCompetition := He.ga K "Competition"
  cStanding := He.ga K "Standing"
  cJump := He.ga K "Jump"
  cJumps := He.ga K "Jumps"
  cSpin := He.ga K "Spin"
  cSteps := He.ga K "Steps"
  cOtherSteps := He.ga K "OtherSteps"
  cGoneBy := He.ga K "GoneBy"
  cValue := He.ga K "Value"
  cOutcome := He.ga K "Outcome"
  cDesk := He.ga K "Desk"
  cLine := He.ga K "Line"
  cWrongValue := He.ga K "WrongValue"
  cNothingOpen := He.ga K "NothingOpen"
  cStillSkating := He.ga K "StillSkating"
  cDoesNotFit := He.ga K "DoesNotFit"
  cNoRoom := He.ga K "NoRoom"
  aJUMP_WORTHS := He.ga K "JUMP_WORTHS"
  aSPIN_WORTHS := He.ga K "SPIN_WORTHS"
  aSTEPS_WORTHS := He.ga K "STEPS_WORTHS"
  aMOST_OF_GROUP := He.ga K "MOST_OF_GROUP"
  aMOST_ROWS := He.ga K "MOST_ROWS"
  aMOST_OF_THREE := He.ga K "MOST_OF_THREE"
  aMOST_TIMES := He.ga K "MOST_TIMES"
  aMOST_LATE := He.ga K "MOST_LATE"
  aTURNS := He.ga K "TURNS"
  aKINDS := He.ga K "KINDS"
  aPOSITIONS := He.ga K "POSITIONS"
  aLEVELS := He.ga K "LEVELS"
/-- what the walk of the top tells -/
theorem txt_of (X : K.In h) (G : h.Ns mainGlobals mg) (e : obsA K = valA w) (c : He.SaysT fas fns tbs w K) : Txt K w mg (adsOf K) where
  cl_Telling := He.cls_ok (x := "Telling") (c.d.fact 0)
  g_Telling := He.glo_ok X G (x := "Telling") (c.d.fact 1)
  na_Telling_second := He.noat_ok (x := "Telling") (f := "second") (c.d.fact 2)
  na_Telling_element := He.noat_ok (x := "Telling") (f := "element") (c.d.fact 3)
  na_Telling_grades := He.noat_ok (x := "Telling") (f := "grades") (c.d.fact 4)
  cl_Program := He.cls_ok (x := "Program") (c.d.fact 5)
  g_Program := He.glo_ok X G (x := "Program") (c.d.fact 6)
  na_Program_skater := He.noat_ok (x := "Program") (f := "skater") (c.d.fact 7)
  na_Program_free := He.noat_ok (x := "Program") (f := "free") (c.d.fact 8)
  na_Program_tellings := He.noat_ok (x := "Program") (f := "tellings") (c.d.fact 9)
  na_Program_marks := He.noat_ok (x := "Program") (f := "marks") (c.d.fact 10)
  na_Program_falls := He.noat_ok (x := "Program") (f := "falls") (c.d.fact 11)
  na_Program_off := He.noat_ok (x := "Program") (f := "off") (c.d.fact 12)
  na_Program_seconds := He.noat_ok (x := "Program") (f := "seconds") (c.d.fact 13)
  cl_Competition := He.cls_ok (x := "Competition") (c.d.fact 14)
  g_Competition := He.glo_ok X G (x := "Competition") (c.d.fact 15)
  na_Competition_judges := He.noat_ok (x := "Competition") (f := "judges") (c.d.fact 16)
  na_Competition_factors := He.noat_ok (x := "Competition") (f := "factors") (c.d.fact 17)
  na_Competition_skated := He.noat_ok (x := "Competition") (f := "skated") (c.d.fact 18)
  na_Competition_program := He.noat_ok (x := "Competition") (f := "program") (c.d.fact 19)
  cl_Standing := He.cls_ok (x := "Standing") (c.d.fact 20)
  g_Standing := He.glo_ok X G (x := "Standing") (c.d.fact 21)
  na_Standing_skater := He.noat_ok (x := "Standing") (f := "skater") (c.d.fact 22)
  na_Standing_score := He.noat_ok (x := "Standing") (f := "score") (c.d.fact 23)
  na_Standing_weights := He.noat_ok (x := "Standing") (f := "weights") (c.d.fact 24)
  cl_Jump := He.cls_ok (x := "Jump") (c.d.fact 25)
  g_Jump := He.glo_ok X G (x := "Jump") (c.d.fact 26)
  na_Jump_kind := He.noat_ok (x := "Jump") (f := "kind") (c.d.fact 27)
  na_Jump_turns := He.noat_ok (x := "Jump") (f := "turns") (c.d.fact 28)
  na_Jump_edge := He.noat_ok (x := "Jump") (f := "edge") (c.d.fact 29)
  na_Jump_missing := He.noat_ok (x := "Jump") (f := "missing") (c.d.fact 30)
  na_Jump_worth := He.noat_ok (x := "Jump") (f := "worth") (c.d.fact 31)
  cl_Jumps := He.cls_ok (x := "Jumps") (c.d.fact 32)
  g_Jumps := He.glo_ok X G (x := "Jumps") (c.d.fact 33)
  na_Jumps_group := He.noat_ok (x := "Jumps") (f := "group") (c.d.fact 34)
  na_Jumps_jumps := He.noat_ok (x := "Jumps") (f := "jumps") (c.d.fact 35)
  cl_Spin := He.cls_ok (x := "Spin") (c.d.fact 36)
  g_Spin := He.glo_ok X G (x := "Spin") (c.d.fact 37)
  na_Spin_group := He.noat_ok (x := "Spin") (f := "group") (c.d.fact 38)
  na_Spin_name := He.noat_ok (x := "Spin") (f := "name") (c.d.fact 39)
  na_Spin_level := He.noat_ok (x := "Spin") (f := "level") (c.d.fact 40)
  na_Spin_worth := He.noat_ok (x := "Spin") (f := "worth") (c.d.fact 41)
  cl_Steps := He.cls_ok (x := "Steps") (c.d.fact 42)
  g_Steps := He.glo_ok X G (x := "Steps") (c.d.fact 43)
  na_Steps_group := He.noat_ok (x := "Steps") (f := "group") (c.d.fact 44)
  na_Steps_level := He.noat_ok (x := "Steps") (f := "level") (c.d.fact 45)
  na_Steps_worth := He.noat_ok (x := "Steps") (f := "worth") (c.d.fact 46)
  cl_OtherSteps := He.cls_ok (x := "OtherSteps") (c.d.fact 47)
  g_OtherSteps := He.glo_ok X G (x := "OtherSteps") (c.d.fact 48)
  na_OtherSteps_group := He.noat_ok (x := "OtherSteps") (f := "group") (c.d.fact 49)
  na_OtherSteps_worth := He.noat_ok (x := "OtherSteps") (f := "worth") (c.d.fact 50)
  cl_GoneBy := He.cls_ok (x := "GoneBy") (c.d.fact 51)
  g_GoneBy := He.glo_ok X G (x := "GoneBy") (c.d.fact 52)
  na_GoneBy_free := He.noat_ok (x := "GoneBy") (f := "free") (c.d.fact 53)
  na_GoneBy_in_rows := He.noat_ok (x := "GoneBy") (f := "in_rows") (c.d.fact 54)
  cl_Value := He.cls_ok (x := "Value") (c.d.fact 55)
  g_Value := He.glo_ok X G (x := "Value") (c.d.fact 56)
  na_Value_worth := He.noat_ok (x := "Value") (f := "worth") (c.d.fact 57)
  na_Value_goes_by := He.noat_ok (x := "Value") (f := "goes_by") (c.d.fact 58)
  cl_Outcome := He.cls_ok (x := "Outcome") (c.d.fact 59)
  g_Outcome := He.glo_ok X G (x := "Outcome") (c.d.fact 60)
  na_Outcome_judged := He.noat_ok (x := "Outcome") (f := "judged") (c.d.fact 61)
  na_Outcome_came_to := He.noat_ok (x := "Outcome") (f := "came_to") (c.d.fact 62)
  na_Outcome_components := He.noat_ok (x := "Outcome") (f := "components") (c.d.fact 63)
  na_Outcome_taken_off := He.noat_ok (x := "Outcome") (f := "taken_off") (c.d.fact 64)
  na_Outcome_score := He.noat_ok (x := "Outcome") (f := "score") (c.d.fact 65)
  cl_Desk := He.cls_ok (x := "Desk") (c.d.fact 66)
  g_Desk := He.glo_ok X G (x := "Desk") (c.d.fact 67)
  na_Desk_competition := He.noat_ok (x := "Desk") (f := "competition") (c.d.fact 68)
  cl_Line := He.cls_ok (x := "Line") (c.d.fact 69)
  g_Line := He.glo_ok X G (x := "Line") (c.d.fact 70)
  na_Line_calls := He.noat_ok (x := "Line") (f := "calls") (c.d.fact 71)
  na_Line_place := He.noat_ok (x := "Line") (f := "place") (c.d.fact 72)
  g_WrongValue := He.glo_ok X G (x := "WrongValue") (c.d.fact 73)
  x_WrongValue := (exo_ok (extra_at e 12 rfl)).1
  k_WrongValue := (exo_ok (extra_at e 12 rfl)).2.1
  s_WrongValue := (exo_ok (extra_at e 12 rfl)).2.2.1
  t_WrongValue := (exo_ok (extra_at e 12 rfl)).2.2.2
  e_WrongValue_WrongValue := He.exm_ok (x := "WrongValue") (y := "WrongValue") (b := true) (c.d.fact 74)
  g_NothingOpen := He.glo_ok X G (x := "NothingOpen") (c.d.fact 75)
  x_NothingOpen := (exo_ok (extra_at e 13 rfl)).1
  k_NothingOpen := (exo_ok (extra_at e 13 rfl)).2.1
  s_NothingOpen := (exo_ok (extra_at e 13 rfl)).2.2.1
  t_NothingOpen := (exo_ok (extra_at e 13 rfl)).2.2.2
  e_NothingOpen_WrongValue := He.exm_ok (x := "NothingOpen") (y := "WrongValue") (b := false) (c.d.fact 76)
  e_NothingOpen_NothingOpen := He.exm_ok (x := "NothingOpen") (y := "NothingOpen") (b := true) (c.d.fact 77)
  g_StillSkating := He.glo_ok X G (x := "StillSkating") (c.d.fact 78)
  x_StillSkating := (exo_ok (extra_at e 14 rfl)).1
  k_StillSkating := (exo_ok (extra_at e 14 rfl)).2.1
  s_StillSkating := (exo_ok (extra_at e 14 rfl)).2.2.1
  t_StillSkating := (exo_ok (extra_at e 14 rfl)).2.2.2
  e_StillSkating_WrongValue := He.exm_ok (x := "StillSkating") (y := "WrongValue") (b := false) (c.d.fact 79)
  e_StillSkating_NothingOpen := He.exm_ok (x := "StillSkating") (y := "NothingOpen") (b := false) (c.d.fact 80)
  e_StillSkating_StillSkating := He.exm_ok (x := "StillSkating") (y := "StillSkating") (b := true) (c.d.fact 81)
  g_DoesNotFit := He.glo_ok X G (x := "DoesNotFit") (c.d.fact 82)
  x_DoesNotFit := (exo_ok (extra_at e 15 rfl)).1
  k_DoesNotFit := (exo_ok (extra_at e 15 rfl)).2.1
  s_DoesNotFit := (exo_ok (extra_at e 15 rfl)).2.2.1
  t_DoesNotFit := (exo_ok (extra_at e 15 rfl)).2.2.2
  e_DoesNotFit_WrongValue := He.exm_ok (x := "DoesNotFit") (y := "WrongValue") (b := false) (c.d.fact 83)
  e_DoesNotFit_NothingOpen := He.exm_ok (x := "DoesNotFit") (y := "NothingOpen") (b := false) (c.d.fact 84)
  e_DoesNotFit_StillSkating := He.exm_ok (x := "DoesNotFit") (y := "StillSkating") (b := false) (c.d.fact 85)
  e_DoesNotFit_DoesNotFit := He.exm_ok (x := "DoesNotFit") (y := "DoesNotFit") (b := true) (c.d.fact 86)
  g_NoRoom := He.glo_ok X G (x := "NoRoom") (c.d.fact 87)
  x_NoRoom := (exo_ok (extra_at e 16 rfl)).1
  k_NoRoom := (exo_ok (extra_at e 16 rfl)).2.1
  s_NoRoom := (exo_ok (extra_at e 16 rfl)).2.2.1
  t_NoRoom := (exo_ok (extra_at e 16 rfl)).2.2.2
  e_NoRoom_WrongValue := He.exm_ok (x := "NoRoom") (y := "WrongValue") (b := false) (c.d.fact 88)
  e_NoRoom_NothingOpen := He.exm_ok (x := "NoRoom") (y := "NothingOpen") (b := false) (c.d.fact 89)
  e_NoRoom_StillSkating := He.exm_ok (x := "NoRoom") (y := "StillSkating") (b := false) (c.d.fact 90)
  e_NoRoom_DoesNotFit := He.exm_ok (x := "NoRoom") (y := "DoesNotFit") (b := false) (c.d.fact 91)
  e_NoRoom_NoRoom := He.exm_ok (x := "NoRoom") (y := "NoRoom") (b := true) (c.d.fact 92)
  k_SHORT := He.int_ok X G (x := "SHORT") (i := 0) (c.d.fact 93)
  k_FREE := He.int_ok X G (x := "FREE") (i := 1) (c.d.fact 94)
  k_SALCHOW := He.int_ok X G (x := "SALCHOW") (i := 1) (c.d.fact 95)
  k_FLIP := He.int_ok X G (x := "FLIP") (i := 3) (c.d.fact 96)
  k_SMALL := He.int_ok X G (x := "SMALL") (i := 6) (c.d.fact 97)
  k_WRONG_EDGE := He.int_ok X G (x := "WRONG_EDGE") (i := 1) (c.d.fact 98)
  k_DOUBTED_EDGE := He.int_ok X G (x := "DOUBTED_EDGE") (i := 2) (c.d.fact 99)
  k_QUARTER_MISSING := He.int_ok X G (x := "QUARTER_MISSING") (i := 1) (c.d.fact 100)
  k_MORE_MISSING := He.int_ok X G (x := "MORE_MISSING") (i := 2) (c.d.fact 101)
  k_HALF_MISSING := He.int_ok X G (x := "HALF_MISSING") (i := 3) (c.d.fact 102)
  k_JUMP_WORTHS := ⟨He.glo_ok X G (x := "JUMP_WORTHS") (c.d.fact 103), tupsA_ok (extra_at e 0 rfl)⟩
  k_SPIN_WORTHS := ⟨He.glo_ok X G (x := "SPIN_WORTHS") (c.d.fact 104), tupsA_ok (extra_at e 1 rfl)⟩
  k_FLYING_WORTH := He.int_ok X G (x := "FLYING_WORTH") (i := 50) (c.d.fact 105)
  k_CHANGE_WORTH := He.int_ok X G (x := "CHANGE_WORTH") (i := 50) (c.d.fact 106)
  k_STEPS_WORTHS := ⟨He.glo_ok X G (x := "STEPS_WORTHS") (c.d.fact 107), tupA_ok (extra_at e 2 rfl)⟩
  k_OTHER_STEPS_WORTH := He.int_ok X G (x := "OTHER_STEPS_WORTH") (i := 200) (c.d.fact 108)
  k_JUMPS := He.int_ok X G (x := "JUMPS") (i := 0) (c.d.fact 109)
  k_SPIN := He.int_ok X G (x := "SPIN") (i := 1) (c.d.fact 110)
  k_STEPS := He.int_ok X G (x := "STEPS") (i := 2) (c.d.fact 111)
  k_OTHER_STEPS := He.int_ok X G (x := "OTHER_STEPS") (i := 3) (c.d.fact 112)
  k_MOST_BYTES := He.int_ok X G (x := "MOST_BYTES") (i := 40) (c.d.fact 113)
  k_MOST_JUMPS := He.int_ok X G (x := "MOST_JUMPS") (i := 3) (c.d.fact 114)
  k_SIGNS := He.str_ok X G (x := "SIGNS") (z := "!+1234<ABCEFLSTUehopqtuz") (c.d.fact 115)
  k_TURNS := ⟨He.glo_ok X G (x := "TURNS") (c.d.fact 116), dict_ok (extra_at e 3 rfl) (c.tab 0)⟩
  k_KINDS := ⟨He.glo_ok X G (x := "KINDS") (c.d.fact 117), dict_ok (extra_at e 4 rfl) (c.tab 1)⟩
  k_POSITIONS := ⟨He.glo_ok X G (x := "POSITIONS") (c.d.fact 118), dict_ok (extra_at e 5 rfl) (c.tab 2)⟩
  k_LEVELS := ⟨He.glo_ok X G (x := "LEVELS") (c.d.fact 119), dict_ok (extra_at e 6 rfl) (c.tab 3)⟩
  k_LEAST_TO_LEAVE_OUT := He.int_ok X G (x := "LEAST_TO_LEAVE_OUT") (i := 5) (c.d.fact 120)
  k_QUARTER := He.int_ok X G (x := "QUARTER") (i := 25) (c.d.fact 121)
  k_MOST_OF_GROUP := ⟨He.glo_ok X G (x := "MOST_OF_GROUP") (c.d.fact 122), tupsA_ok (extra_at e 7 rfl)⟩
  k_MOST_ROWS := ⟨He.glo_ok X G (x := "MOST_ROWS") (c.d.fact 123), tupA_ok (extra_at e 8 rfl)⟩
  k_MOST_OF_THREE := ⟨He.glo_ok X G (x := "MOST_OF_THREE") (c.d.fact 124), tupA_ok (extra_at e 9 rfl)⟩
  k_LEAST_TURNS := He.int_ok X G (x := "LEAST_TURNS") (i := 3) (c.d.fact 125)
  k_MOST_TIMES := ⟨He.glo_ok X G (x := "MOST_TIMES") (c.d.fact 126), tupA_ok (extra_at e 10 rfl)⟩
  k_WHOLE := He.int_ok X G (x := "WHOLE") (i := 100) (c.d.fact 127)
  k_SECOND_BY_ITSELF := He.int_ok X G (x := "SECOND_BY_ITSELF") (i := 70) (c.d.fact 128)
  k_MOST_LATE := ⟨He.glo_ok X G (x := "MOST_LATE") (c.d.fact 129), tupA_ok (extra_at e 11 rfl)⟩
  k_LATE_SHARE := He.int_ok X G (x := "LATE_SHARE") (i := 110) (c.d.fact 130)
  k_POINT := He.int_ok X G (x := "POINT") (i := 100) (c.d.fact 131)
  k_SECONDS_A_POINT := He.int_ok X G (x := "SECONDS_A_POINT") (i := 5) (c.d.fact 132)
  k_MOST_SKATERS := He.int_ok X G (x := "MOST_SKATERS") (i := 30) (c.d.fact 133)
  k_MOST_TELLINGS := He.int_ok X G (x := "MOST_TELLINGS") (i := 20) (c.d.fact 134)
  k_MOST_FALLS := He.int_ok X G (x := "MOST_FALLS") (i := 20) (c.d.fact 135)
  k_MOST_POINTS_OFF := He.int_ok X G (x := "MOST_POINTS_OFF") (i := 20) (c.d.fact 136)
  k_MOST_SECONDS := He.int_ok X G (x := "MOST_SECONDS") (i := 300) (c.d.fact 137)
  b_enumerate := He.free_ok X G (x := "enumerate") (c.d.fact 138)
  b_len := He.free_ok X G (x := "len") (c.d.fact 139)
  b_list := He.free_ok X G (x := "list") (c.d.fact 140)
  b_max := He.free_ok X G (x := "max") (c.d.fact 141)
  b_ord := He.free_ok X G (x := "ord") (c.d.fact 142)
  b_sorted := He.free_ok X G (x := "sorted") (c.d.fact 143)
  b_sum := He.free_ok X G (x := "sum") (c.d.fact 144)
  b_zip := He.free_ok X G (x := "zip") (c.d.fact 145)
theorem fn_Telling_init (c : He.SaysT fas fns tbs w K) : FunI K (adsOf K).cTelling "Telling.__init__" st_Telling_init := by
  obtain ⟨fd, F⟩ := c.d.def_ 0 (d := ⟨("Telling", some "__init__"), "__init__", "Telling.__init__", defArgs st_Telling_init, defBody st_Telling_init, defScope st_Telling_init, [], []⟩) rfl
  exact ⟨_, fd, fun_of F, He.mkr_ok (x := "Telling") (c.d.fact 146)⟩
theorem fn_Program_init (c : He.SaysT fas fns tbs w K) : FunI K (adsOf K).cProgram "Program.__init__" st_Program_init := by
  obtain ⟨fd, F⟩ := c.d.def_ 1 (d := ⟨("Program", some "__init__"), "__init__", "Program.__init__", defArgs st_Program_init, defBody st_Program_init, defScope st_Program_init, [], []⟩) rfl
  exact ⟨_, fd, fun_of F, He.mkr_ok (x := "Program") (c.d.fact 147)⟩
theorem fn_Competition_init (c : He.SaysT fas fns tbs w K) : FunI K (adsOf K).cCompetition "Competition.__init__" st_Competition_init := by
  obtain ⟨fd, F⟩ := c.d.def_ 2 (d := ⟨("Competition", some "__init__"), "__init__", "Competition.__init__", defArgs st_Competition_init, defBody st_Competition_init, defScope st_Competition_init, [], []⟩) rfl
  exact ⟨_, fd, fun_of F, He.mkr_ok (x := "Competition") (c.d.fact 148)⟩
theorem fn_Standing_init (c : He.SaysT fas fns tbs w K) : FunI K (adsOf K).cStanding "Standing.__init__" st_Standing_init := by
  obtain ⟨fd, F⟩ := c.d.def_ 3 (d := ⟨("Standing", some "__init__"), "__init__", "Standing.__init__", defArgs st_Standing_init, defBody st_Standing_init, defScope st_Standing_init, [], []⟩) rfl
  exact ⟨_, fd, fun_of F, He.mkr_ok (x := "Standing") (c.d.fact 149)⟩
theorem fn_places_of (X : K.In h) (G : h.Ns mainGlobals mg) (c : He.SaysT fas fns tbs w K) : FunF K mg "places_of" st_places_of := by
  obtain ⟨fd, F⟩ := c.d.def_ 4 (d := ⟨("places_of", none), "places_of", "places_of", defArgs st_places_of, defBody st_places_of, defScope st_places_of, [], []⟩) rfl
  exact ⟨_, fd, fun_of F, He.glo_ok X G (x := "places_of") (c.d.fact 150)⟩
theorem fn_standings_in_segment (X : K.In h) (G : h.Ns mainGlobals mg) (c : He.SaysT fas fns tbs w K) : FunF K mg "standings_in_segment" st_standings_in_segment := by
  obtain ⟨fd, F⟩ := c.d.def_ 5 (d := ⟨("standings_in_segment", none), "standings_in_segment", "standings_in_segment", defArgs st_standings_in_segment, defBody st_standings_in_segment, defScope st_standings_in_segment, [], []⟩) rfl
  exact ⟨_, fd, fun_of F, He.glo_ok X G (x := "standings_in_segment") (c.d.fact 151)⟩
theorem fn_tie_weight (X : K.In h) (G : h.Ns mainGlobals mg) (c : He.SaysT fas fns tbs w K) : FunF K mg "tie_weight" st_tie_weight := by
  obtain ⟨fd, F⟩ := c.d.def_ 6 (d := ⟨("tie_weight", none), "tie_weight", "tie_weight", defArgs st_tie_weight, defBody st_tie_weight, defScope st_tie_weight, [], []⟩) rfl
  exact ⟨_, fd, fun_of F, He.glo_ok X G (x := "tie_weight") (c.d.fact 152)⟩
theorem fn_standings_in_all (X : K.In h) (G : h.Ns mainGlobals mg) (c : He.SaysT fas fns tbs w K) : FunF K mg "standings_in_all" st_standings_in_all := by
  obtain ⟨fd, F⟩ := c.d.def_ 7 (d := ⟨("standings_in_all", none), "standings_in_all", "standings_in_all", defArgs st_standings_in_all, defBody st_standings_in_all, defScope st_standings_in_all, [], []⟩) rfl
  exact ⟨_, fd, fun_of F, He.glo_ok X G (x := "standings_in_all") (c.d.fact 153)⟩
theorem fn_standing_in_all (X : K.In h) (G : h.Ns mainGlobals mg) (c : He.SaysT fas fns tbs w K) : FunF K mg "standing_in_all" st_standing_in_all := by
  obtain ⟨fd, F⟩ := c.d.def_ 8 (d := ⟨("standing_in_all", none), "standing_in_all", "standing_in_all", defArgs st_standing_in_all, defBody st_standing_in_all, defScope st_standing_in_all, [], []⟩) rfl
  exact ⟨_, fd, fun_of F, He.glo_ok X G (x := "standing_in_all") (c.d.fact 154)⟩
theorem fn_hundredths (X : K.In h) (G : h.Ns mainGlobals mg) (c : He.SaysT fas fns tbs w K) : FunF K mg "hundredths" st_hundredths := by
  obtain ⟨fd, F⟩ := c.d.def_ 9 (d := ⟨("hundredths", none), "hundredths", "hundredths", defArgs st_hundredths, defBody st_hundredths, defScope st_hundredths, [], []⟩) rfl
  exact ⟨_, fd, fun_of F, He.glo_ok X G (x := "hundredths") (c.d.fact 155)⟩
theorem fn_jump_worth (X : K.In h) (G : h.Ns mainGlobals mg) (c : He.SaysT fas fns tbs w K) : FunF K mg "jump_worth" st_jump_worth := by
  obtain ⟨fd, F⟩ := c.d.def_ 10 (d := ⟨("jump_worth", none), "jump_worth", "jump_worth", defArgs st_jump_worth, defBody st_jump_worth, defScope st_jump_worth, [], []⟩) rfl
  exact ⟨_, fd, fun_of F, He.glo_ok X G (x := "jump_worth") (c.d.fact 156)⟩
theorem fn_jump_share (X : K.In h) (G : h.Ns mainGlobals mg) (c : He.SaysT fas fns tbs w K) : FunF K mg "jump_share" st_jump_share := by
  obtain ⟨fd, F⟩ := c.d.def_ 11 (d := ⟨("jump_share", none), "jump_share", "jump_share", defArgs st_jump_share, defBody st_jump_share, defScope st_jump_share, [], []⟩) rfl
  exact ⟨_, fd, fun_of F, He.glo_ok X G (x := "jump_share") (c.d.fact 157)⟩
theorem fn_spin_worth (X : K.In h) (G : h.Ns mainGlobals mg) (c : He.SaysT fas fns tbs w K) : FunF K mg "spin_worth" st_spin_worth := by
  obtain ⟨fd, F⟩ := c.d.def_ 12 (d := ⟨("spin_worth", none), "spin_worth", "spin_worth", defArgs st_spin_worth, defBody st_spin_worth, defScope st_spin_worth, [], []⟩) rfl
  exact ⟨_, fd, fun_of F, He.glo_ok X G (x := "spin_worth") (c.d.fact 158)⟩
theorem fn_steps_worth (X : K.In h) (G : h.Ns mainGlobals mg) (c : He.SaysT fas fns tbs w K) : FunF K mg "steps_worth" st_steps_worth := by
  obtain ⟨fd, F⟩ := c.d.def_ 13 (d := ⟨("steps_worth", none), "steps_worth", "steps_worth", defArgs st_steps_worth, defBody st_steps_worth, defScope st_steps_worth, [], []⟩) rfl
  exact ⟨_, fd, fun_of F, He.glo_ok X G (x := "steps_worth") (c.d.fact 159)⟩
theorem fn_Jump_init (c : He.SaysT fas fns tbs w K) : FunI K (adsOf K).cJump "Jump.__init__" st_Jump_init := by
  obtain ⟨fd, F⟩ := c.d.def_ 14 (d := ⟨("Jump", some "__init__"), "__init__", "Jump.__init__", defArgs st_Jump_init, defBody st_Jump_init, defScope st_Jump_init, [], []⟩) rfl
  exact ⟨_, fd, fun_of F, He.mkr_ok (x := "Jump") (c.d.fact 160)⟩
theorem fn_Jumps_init (c : He.SaysT fas fns tbs w K) : FunI K (adsOf K).cJumps "Jumps.__init__" st_Jumps_init := by
  obtain ⟨fd, F⟩ := c.d.def_ 15 (d := ⟨("Jumps", some "__init__"), "__init__", "Jumps.__init__", defArgs st_Jumps_init, defBody st_Jumps_init, defScope st_Jumps_init, [], []⟩) rfl
  exact ⟨_, fd, fun_of F, He.mkr_ok (x := "Jumps") (c.d.fact 161)⟩
theorem fn_Jumps_described (c : He.SaysT fas fns tbs w K) : FunM K (adsOf K).cJumps "described" "Jumps.described" st_Jumps_described := by
  obtain ⟨fd, F⟩ := c.d.def_ 16 (d := ⟨("Jumps", some "described"), "described", "Jumps.described", defArgs st_Jumps_described, defBody st_Jumps_described, defScope st_Jumps_described, [], []⟩) rfl
  exact ⟨_, fd, fun_of F, He.meth_ok (x := "Jumps") (m := "described") (c.d.fact 162)⟩
theorem fn_Spin_init (c : He.SaysT fas fns tbs w K) : FunI K (adsOf K).cSpin "Spin.__init__" st_Spin_init := by
  obtain ⟨fd, F⟩ := c.d.def_ 17 (d := ⟨("Spin", some "__init__"), "__init__", "Spin.__init__", defArgs st_Spin_init, defBody st_Spin_init, defScope st_Spin_init, [], []⟩) rfl
  exact ⟨_, fd, fun_of F, He.mkr_ok (x := "Spin") (c.d.fact 163)⟩
theorem fn_Spin_described (c : He.SaysT fas fns tbs w K) : FunM K (adsOf K).cSpin "described" "Spin.described" st_Spin_described := by
  obtain ⟨fd, F⟩ := c.d.def_ 18 (d := ⟨("Spin", some "described"), "described", "Spin.described", defArgs st_Spin_described, defBody st_Spin_described, defScope st_Spin_described, [], []⟩) rfl
  exact ⟨_, fd, fun_of F, He.meth_ok (x := "Spin") (m := "described") (c.d.fact 164)⟩
theorem fn_Steps_init (c : He.SaysT fas fns tbs w K) : FunI K (adsOf K).cSteps "Steps.__init__" st_Steps_init := by
  obtain ⟨fd, F⟩ := c.d.def_ 19 (d := ⟨("Steps", some "__init__"), "__init__", "Steps.__init__", defArgs st_Steps_init, defBody st_Steps_init, defScope st_Steps_init, [], []⟩) rfl
  exact ⟨_, fd, fun_of F, He.mkr_ok (x := "Steps") (c.d.fact 165)⟩
theorem fn_Steps_described (c : He.SaysT fas fns tbs w K) : FunM K (adsOf K).cSteps "described" "Steps.described" st_Steps_described := by
  obtain ⟨fd, F⟩ := c.d.def_ 20 (d := ⟨("Steps", some "described"), "described", "Steps.described", defArgs st_Steps_described, defBody st_Steps_described, defScope st_Steps_described, [], []⟩) rfl
  exact ⟨_, fd, fun_of F, He.meth_ok (x := "Steps") (m := "described") (c.d.fact 166)⟩
theorem fn_OtherSteps_init (c : He.SaysT fas fns tbs w K) : FunI K (adsOf K).cOtherSteps "OtherSteps.__init__" st_OtherSteps_init := by
  obtain ⟨fd, F⟩ := c.d.def_ 21 (d := ⟨("OtherSteps", some "__init__"), "__init__", "OtherSteps.__init__", defArgs st_OtherSteps_init, defBody st_OtherSteps_init, defScope st_OtherSteps_init, [], []⟩) rfl
  exact ⟨_, fd, fun_of F, He.mkr_ok (x := "OtherSteps") (c.d.fact 167)⟩
theorem fn_OtherSteps_described (c : He.SaysT fas fns tbs w K) : FunM K (adsOf K).cOtherSteps "described" "OtherSteps.described" st_OtherSteps_described := by
  obtain ⟨fd, F⟩ := c.d.def_ 22 (d := ⟨("OtherSteps", some "described"), "described", "OtherSteps.described", defArgs st_OtherSteps_described, defBody st_OtherSteps_described, defScope st_OtherSteps_described, [], []⟩) rfl
  exact ⟨_, fd, fun_of F, He.meth_ok (x := "OtherSteps") (m := "described") (c.d.fact 168)⟩
theorem fn_check_text (X : K.In h) (G : h.Ns mainGlobals mg) (c : He.SaysT fas fns tbs w K) : FunF K mg "check_text" st_check_text := by
  obtain ⟨fd, F⟩ := c.d.def_ 23 (d := ⟨("check_text", none), "check_text", "check_text", defArgs st_check_text, defBody st_check_text, defScope st_check_text, [], []⟩) rfl
  exact ⟨_, fd, fun_of F, He.glo_ok X G (x := "check_text") (c.d.fact 169)⟩
theorem fn_element_of (X : K.In h) (G : h.Ns mainGlobals mg) (c : He.SaysT fas fns tbs w K) : FunF K mg "element_of" st_element_of := by
  obtain ⟨fd, F⟩ := c.d.def_ 24 (d := ⟨("element_of", none), "element_of", "element_of", defArgs st_element_of, defBody st_element_of, defScope st_element_of, [], []⟩) rfl
  exact ⟨_, fd, fun_of F, He.glo_ok X G (x := "element_of") (c.d.fact 170)⟩
theorem fn_text_of (X : K.In h) (G : h.Ns mainGlobals mg) (c : He.SaysT fas fns tbs w K) : FunF K mg "text_of" st_text_of := by
  obtain ⟨fd, F⟩ := c.d.def_ 25 (d := ⟨("text_of", none), "text_of", "text_of", defArgs st_text_of, defBody st_text_of, defScope st_text_of, [], []⟩) rfl
  exact ⟨_, fd, fun_of F, He.glo_ok X G (x := "text_of") (c.d.fact 171)⟩
theorem fn_level_of (X : K.In h) (G : h.Ns mainGlobals mg) (c : He.SaysT fas fns tbs w K) : FunF K mg "level_of" st_level_of := by
  obtain ⟨fd, F⟩ := c.d.def_ 26 (d := ⟨("level_of", none), "level_of", "level_of", defArgs st_level_of, defBody st_level_of, defScope st_level_of, [], []⟩) rfl
  exact ⟨_, fd, fun_of F, He.glo_ok X G (x := "level_of") (c.d.fact 172)⟩
theorem fn_spin_of (X : K.In h) (G : h.Ns mainGlobals mg) (c : He.SaysT fas fns tbs w K) : FunF K mg "spin_of" st_spin_of := by
  obtain ⟨fd, F⟩ := c.d.def_ 27 (d := ⟨("spin_of", none), "spin_of", "spin_of", defArgs st_spin_of, defBody st_spin_of, defScope st_spin_of, [], []⟩) rfl
  exact ⟨_, fd, fun_of F, He.glo_ok X G (x := "spin_of") (c.d.fact 173)⟩
theorem fn_jumps_of (X : K.In h) (G : h.Ns mainGlobals mg) (c : He.SaysT fas fns tbs w K) : FunF K mg "jumps_of" st_jumps_of := by
  obtain ⟨fd, F⟩ := c.d.def_ 28 (d := ⟨("jumps_of", none), "jumps_of", "jumps_of", defArgs st_jumps_of, defBody st_jumps_of, defScope st_jumps_of, [], []⟩) rfl
  exact ⟨_, fd, fun_of F, He.glo_ok X G (x := "jumps_of") (c.d.fact 174)⟩
theorem fn_may_be_small (X : K.In h) (G : h.Ns mainGlobals mg) (c : He.SaysT fas fns tbs w K) : FunF K mg "may_be_small" st_may_be_small := by
  obtain ⟨fd, F⟩ := c.d.def_ 29 (d := ⟨("may_be_small", none), "may_be_small", "may_be_small", defArgs st_may_be_small, defBody st_may_be_small, defScope st_may_be_small, [], []⟩) rfl
  exact ⟨_, fd, fun_of F, He.glo_ok X G (x := "may_be_small") (c.d.fact 175)⟩
theorem fn_jump_of (X : K.In h) (G : h.Ns mainGlobals mg) (c : He.SaysT fas fns tbs w K) : FunF K mg "jump_of" st_jump_of := by
  obtain ⟨fd, F⟩ := c.d.def_ 30 (d := ⟨("jump_of", none), "jump_of", "jump_of", defArgs st_jump_of, defBody st_jump_of, defScope st_jump_of, [], []⟩) rfl
  exact ⟨_, fd, fun_of F, He.glo_ok X G (x := "jump_of") (c.d.fact 176)⟩
theorem fn_without_ending (X : K.In h) (G : h.Ns mainGlobals mg) (c : He.SaysT fas fns tbs w K) : FunF K mg "without_ending" st_without_ending := by
  obtain ⟨fd, F⟩ := c.d.def_ 31 (d := ⟨("without_ending", none), "without_ending", "without_ending", defArgs st_without_ending, defBody st_without_ending, defScope st_without_ending, [], []⟩) rfl
  exact ⟨_, fd, fun_of F, He.glo_ok X G (x := "without_ending") (c.d.fact 177)⟩
theorem fn_nearest (X : K.In h) (G : h.Ns mainGlobals mg) (c : He.SaysT fas fns tbs w K) : FunF K mg "nearest" st_nearest := by
  obtain ⟨fd, F⟩ := c.d.def_ 32 (d := ⟨("nearest", none), "nearest", "nearest", defArgs st_nearest, defBody st_nearest, defScope st_nearest, [], []⟩) rfl
  exact ⟨_, fd, fun_of F, He.glo_ok X G (x := "nearest") (c.d.fact 178)⟩
theorem fn_put_together (X : K.In h) (G : h.Ns mainGlobals mg) (c : He.SaysT fas fns tbs w K) : FunF K mg "put_together" st_put_together := by
  obtain ⟨fd, F⟩ := c.d.def_ 33 (d := ⟨("put_together", none), "put_together", "put_together", defArgs st_put_together, defBody st_put_together, defScope st_put_together, [], []⟩) rfl
  exact ⟨_, fd, fun_of F, He.glo_ok X G (x := "put_together") (c.d.fact 179)⟩
theorem fn_grades_make (X : K.In h) (G : h.Ns mainGlobals mg) (c : He.SaysT fas fns tbs w K) : FunF K mg "grades_make" st_grades_make := by
  obtain ⟨fd, F⟩ := c.d.def_ 34 (d := ⟨("grades_make", none), "grades_make", "grades_make", defArgs st_grades_make, defBody st_grades_make, defScope st_grades_make, [], []⟩) rfl
  exact ⟨_, fd, fun_of F, He.glo_ok X G (x := "grades_make") (c.d.fact 180)⟩
theorem fn_component (X : K.In h) (G : h.Ns mainGlobals mg) (c : He.SaysT fas fns tbs w K) : FunF K mg "component" st_component := by
  obtain ⟨fd, F⟩ := c.d.def_ 35 (d := ⟨("component", none), "component", "component", defArgs st_component, defBody st_component, defScope st_component, [], []⟩) rfl
  exact ⟨_, fd, fun_of F, He.glo_ok X G (x := "component") (c.d.fact 181)⟩
theorem fn_components_make (X : K.In h) (G : h.Ns mainGlobals mg) (c : He.SaysT fas fns tbs w K) : FunF K mg "components_make" st_components_make := by
  obtain ⟨fd, F⟩ := c.d.def_ 36 (d := ⟨("components_make", none), "components_make", "components_make", defArgs st_components_make, defBody st_components_make, defScope st_components_make, [], []⟩) rfl
  exact ⟨_, fd, fun_of F, He.glo_ok X G (x := "components_make") (c.d.fact 182)⟩
theorem fn_those_that_count (X : K.In h) (G : h.Ns mainGlobals mg) (c : He.SaysT fas fns tbs w K) : FunF K mg "those_that_count" st_those_that_count := by
  obtain ⟨fd, F⟩ := c.d.def_ 37 (d := ⟨("those_that_count", none), "those_that_count", "those_that_count", defArgs st_those_that_count, defBody st_those_that_count, defScope st_those_that_count, [], []⟩) rfl
  exact ⟨_, fd, fun_of F, He.glo_ok X G (x := "those_that_count") (c.d.fact 183)⟩
theorem fn_has_room (X : K.In h) (G : h.Ns mainGlobals mg) (c : He.SaysT fas fns tbs w K) : FunF K mg "has_room" st_has_room := by
  obtain ⟨fd, F⟩ := c.d.def_ 38 (d := ⟨("has_room", none), "has_room", "has_room", defArgs st_has_room, defBody st_has_room, defScope st_has_room, [], []⟩) rfl
  exact ⟨_, fd, fun_of F, He.glo_ok X G (x := "has_room") (c.d.fact 184)⟩
theorem fn_row_has_room (X : K.In h) (G : h.Ns mainGlobals mg) (c : He.SaysT fas fns tbs w K) : FunF K mg "row_has_room" st_row_has_room := by
  obtain ⟨fd, F⟩ := c.d.def_ 39 (d := ⟨("row_has_room", none), "row_has_room", "row_has_room", defArgs st_row_has_room, defBody st_row_has_room, defScope st_row_has_room, [], []⟩) rfl
  exact ⟨_, fd, fun_of F, He.glo_ok X G (x := "row_has_room") (c.d.fact 185)⟩
theorem fn_GoneBy_init (c : He.SaysT fas fns tbs w K) : FunI K (adsOf K).cGoneBy "GoneBy.__init__" st_GoneBy_init := by
  obtain ⟨fd, F⟩ := c.d.def_ 40 (d := ⟨("GoneBy", some "__init__"), "__init__", "GoneBy.__init__", defArgs st_GoneBy_init, defBody st_GoneBy_init, defScope st_GoneBy_init, [], []⟩) rfl
  exact ⟨_, fd, fun_of F, He.mkr_ok (x := "GoneBy") (c.d.fact 186)⟩
theorem fn_GoneBy_take (c : He.SaysT fas fns tbs w K) : FunM K (adsOf K).cGoneBy "take" "GoneBy.take" st_GoneBy_take := by
  obtain ⟨fd, F⟩ := c.d.def_ 41 (d := ⟨("GoneBy", some "take"), "take", "GoneBy.take", defArgs st_GoneBy_take, defBody st_GoneBy_take, defScope st_GoneBy_take, [], []⟩) rfl
  exact ⟨_, fd, fun_of F, He.meth_ok (x := "GoneBy") (m := "take") (c.d.fact 187)⟩
theorem fn_share_left (X : K.In h) (G : h.Ns mainGlobals mg) (c : He.SaysT fas fns tbs w K) : FunF K mg "share_left" st_share_left := by
  obtain ⟨fd, F⟩ := c.d.def_ 42 (d := ⟨("share_left", none), "share_left", "share_left", defArgs st_share_left, defBody st_share_left, defScope st_share_left, [], []⟩) rfl
  exact ⟨_, fd, fun_of F, He.glo_ok X G (x := "share_left") (c.d.fact 188)⟩
theorem fn_Value_init (c : He.SaysT fas fns tbs w K) : FunI K (adsOf K).cValue "Value.__init__" st_Value_init := by
  obtain ⟨fd, F⟩ := c.d.def_ 43 (d := ⟨("Value", some "__init__"), "__init__", "Value.__init__", defArgs st_Value_init, defBody st_Value_init, defScope st_Value_init, [], []⟩) rfl
  exact ⟨_, fd, fun_of F, He.mkr_ok (x := "Value") (c.d.fact 189)⟩
theorem fn_values_of (X : K.In h) (G : h.Ns mainGlobals mg) (c : He.SaysT fas fns tbs w K) : FunF K mg "values_of" st_values_of := by
  obtain ⟨fd, F⟩ := c.d.def_ 44 (d := ⟨("values_of", none), "values_of", "values_of", defArgs st_values_of, defBody st_values_of, defScope st_values_of, [], []⟩) rfl
  exact ⟨_, fd, fun_of F, He.glo_ok X G (x := "values_of") (c.d.fact 190)⟩
theorem fn_value_of (X : K.In h) (G : h.Ns mainGlobals mg) (c : He.SaysT fas fns tbs w K) : FunF K mg "value_of" st_value_of := by
  obtain ⟨fd, F⟩ := c.d.def_ 45 (d := ⟨("value_of", none), "value_of", "value_of", defArgs st_value_of, defBody st_value_of, defScope st_value_of, [], []⟩) rfl
  exact ⟨_, fd, fun_of F, He.glo_ok X G (x := "value_of") (c.d.fact 191)⟩
theorem fn_value_of_jumps (X : K.In h) (G : h.Ns mainGlobals mg) (c : He.SaysT fas fns tbs w K) : FunF K mg "value_of_jumps" st_value_of_jumps := by
  obtain ⟨fd, F⟩ := c.d.def_ 46 (d := ⟨("value_of_jumps", none), "value_of_jumps", "value_of_jumps", defArgs st_value_of_jumps, defBody st_value_of_jumps, defScope st_value_of_jumps, [], []⟩) rfl
  exact ⟨_, fd, fun_of F, He.glo_ok X G (x := "value_of_jumps") (c.d.fact 192)⟩
theorem fn_late_places (X : K.In h) (G : h.Ns mainGlobals mg) (c : He.SaysT fas fns tbs w K) : FunF K mg "late_places" st_late_places := by
  obtain ⟨fd, F⟩ := c.d.def_ 47 (d := ⟨("late_places", none), "late_places", "late_places", defArgs st_late_places, defBody st_late_places, defScope st_late_places, [], []⟩) rfl
  exact ⟨_, fd, fun_of F, He.glo_ok X G (x := "late_places") (c.d.fact 193)⟩
theorem fn_Outcome_init (c : He.SaysT fas fns tbs w K) : FunI K (adsOf K).cOutcome "Outcome.__init__" st_Outcome_init := by
  obtain ⟨fd, F⟩ := c.d.def_ 48 (d := ⟨("Outcome", some "__init__"), "__init__", "Outcome.__init__", defArgs st_Outcome_init, defBody st_Outcome_init, defScope st_Outcome_init, [], []⟩) rfl
  exact ⟨_, fd, fun_of F, He.mkr_ok (x := "Outcome") (c.d.fact 194)⟩
theorem fn_outcome_of (X : K.In h) (G : h.Ns mainGlobals mg) (c : He.SaysT fas fns tbs w K) : FunF K mg "outcome_of" st_outcome_of := by
  obtain ⟨fd, F⟩ := c.d.def_ 49 (d := ⟨("outcome_of", none), "outcome_of", "outcome_of", defArgs st_outcome_of, defBody st_outcome_of, defScope st_outcome_of, [], []⟩) rfl
  exact ⟨_, fd, fun_of F, He.glo_ok X G (x := "outcome_of") (c.d.fact 195)⟩
theorem fn_judged_tellings (X : K.In h) (G : h.Ns mainGlobals mg) (c : He.SaysT fas fns tbs w K) : FunF K mg "judged_tellings" st_judged_tellings := by
  obtain ⟨fd, F⟩ := c.d.def_ 50 (d := ⟨("judged_tellings", none), "judged_tellings", "judged_tellings", defArgs st_judged_tellings, defBody st_judged_tellings, defScope st_judged_tellings, [], []⟩) rfl
  exact ⟨_, fd, fun_of F, He.glo_ok X G (x := "judged_tellings") (c.d.fact 196)⟩
theorem fn_points_off (X : K.In h) (G : h.Ns mainGlobals mg) (c : He.SaysT fas fns tbs w K) : FunF K mg "points_off" st_points_off := by
  obtain ⟨fd, F⟩ := c.d.def_ 51 (d := ⟨("points_off", none), "points_off", "points_off", defArgs st_points_off, defBody st_points_off, defScope st_points_off, [], []⟩) rfl
  exact ⟨_, fd, fun_of F, He.glo_ok X G (x := "points_off") (c.d.fact 197)⟩
theorem fn_Desk_init (c : He.SaysT fas fns tbs w K) : FunI K (adsOf K).cDesk "Desk.__init__" st_Desk_init := by
  obtain ⟨fd, F⟩ := c.d.def_ 52 (d := ⟨("Desk", some "__init__"), "__init__", "Desk.__init__", defArgs st_Desk_init, defBody st_Desk_init, defScope st_Desk_init, [], []⟩) rfl
  exact ⟨_, fd, fun_of F, He.mkr_ok (x := "Desk") (c.d.fact 198)⟩
theorem fn_Desk_begin (c : He.SaysT fas fns tbs w K) : FunM K (adsOf K).cDesk "begin" "Desk.begin" st_Desk_begin := by
  obtain ⟨fd, F⟩ := c.d.def_ 53 (d := ⟨("Desk", some "begin"), "begin", "Desk.begin", defArgs st_Desk_begin, defBody st_Desk_begin, defScope st_Desk_begin, [], []⟩) rfl
  exact ⟨_, fd, fun_of F, He.meth_ok (x := "Desk") (m := "begin") (c.d.fact 199)⟩
theorem fn_Desk_add_skater (c : He.SaysT fas fns tbs w K) : FunM K (adsOf K).cDesk "add_skater" "Desk.add_skater" st_Desk_add_skater := by
  obtain ⟨fd, F⟩ := c.d.def_ 54 (d := ⟨("Desk", some "add_skater"), "add_skater", "Desk.add_skater", defArgs st_Desk_add_skater, defBody st_Desk_add_skater, defScope st_Desk_add_skater, [], []⟩) rfl
  exact ⟨_, fd, fun_of F, He.meth_ok (x := "Desk") (m := "add_skater") (c.d.fact 200)⟩
theorem fn_Desk_read (c : He.SaysT fas fns tbs w K) : FunM K (adsOf K).cDesk "read" "Desk.read" st_Desk_read := by
  obtain ⟨fd, F⟩ := c.d.def_ 55 (d := ⟨("Desk", some "read"), "read", "Desk.read", defArgs st_Desk_read, defBody st_Desk_read, defScope st_Desk_read, [], []⟩) rfl
  exact ⟨_, fd, fun_of F, He.meth_ok (x := "Desk") (m := "read") (c.d.fact 201)⟩
theorem fn_Desk_start (c : He.SaysT fas fns tbs w K) : FunM K (adsOf K).cDesk "start" "Desk.start" st_Desk_start := by
  obtain ⟨fd, F⟩ := c.d.def_ 56 (d := ⟨("Desk", some "start"), "start", "Desk.start", defArgs st_Desk_start, defBody st_Desk_start, defScope st_Desk_start, [], []⟩) rfl
  exact ⟨_, fd, fun_of F, He.meth_ok (x := "Desk") (m := "start") (c.d.fact 202)⟩
theorem fn_Desk_tell_element (c : He.SaysT fas fns tbs w K) : FunM K (adsOf K).cDesk "tell_element" "Desk.tell_element" st_Desk_tell_element := by
  obtain ⟨fd, F⟩ := c.d.def_ 57 (d := ⟨("Desk", some "tell_element"), "tell_element", "Desk.tell_element", defArgs st_Desk_tell_element, defBody st_Desk_tell_element, defScope st_Desk_tell_element, [], []⟩) rfl
  exact ⟨_, fd, fun_of F, He.meth_ok (x := "Desk") (m := "tell_element") (c.d.fact 203)⟩
theorem fn_Desk_tell_marks (c : He.SaysT fas fns tbs w K) : FunM K (adsOf K).cDesk "tell_marks" "Desk.tell_marks" st_Desk_tell_marks := by
  obtain ⟨fd, F⟩ := c.d.def_ 58 (d := ⟨("Desk", some "tell_marks"), "tell_marks", "Desk.tell_marks", defArgs st_Desk_tell_marks, defBody st_Desk_tell_marks, defScope st_Desk_tell_marks, [], []⟩) rfl
  exact ⟨_, fd, fun_of F, He.meth_ok (x := "Desk") (m := "tell_marks") (c.d.fact 204)⟩
theorem fn_Desk_tell_faults (c : He.SaysT fas fns tbs w K) : FunM K (adsOf K).cDesk "tell_faults" "Desk.tell_faults" st_Desk_tell_faults := by
  obtain ⟨fd, F⟩ := c.d.def_ 59 (d := ⟨("Desk", some "tell_faults"), "tell_faults", "Desk.tell_faults", defArgs st_Desk_tell_faults, defBody st_Desk_tell_faults, defScope st_Desk_tell_faults, [], []⟩) rfl
  exact ⟨_, fd, fun_of F, He.meth_ok (x := "Desk") (m := "tell_faults") (c.d.fact 205)⟩
theorem fn_Desk_end (c : He.SaysT fas fns tbs w K) : FunM K (adsOf K).cDesk "end" "Desk.end" st_Desk_end := by
  obtain ⟨fd, F⟩ := c.d.def_ 60 (d := ⟨("Desk", some "end"), "end", "Desk.end", defArgs st_Desk_end, defBody st_Desk_end, defScope st_Desk_end, [], []⟩) rfl
  exact ⟨_, fd, fun_of F, He.meth_ok (x := "Desk") (m := "end") (c.d.fact 206)⟩
theorem fn_Desk_sheet (c : He.SaysT fas fns tbs w K) : FunM K (adsOf K).cDesk "sheet" "Desk.sheet" st_Desk_sheet := by
  obtain ⟨fd, F⟩ := c.d.def_ 61 (d := ⟨("Desk", some "sheet"), "sheet", "Desk.sheet", defArgs st_Desk_sheet, defBody st_Desk_sheet, defScope st_Desk_sheet, [], []⟩) rfl
  exact ⟨_, fd, fun_of F, He.meth_ok (x := "Desk") (m := "sheet") (c.d.fact 207)⟩
theorem fn_Desk_segment_places (c : He.SaysT fas fns tbs w K) : FunM K (adsOf K).cDesk "segment_places" "Desk.segment_places" st_Desk_segment_places := by
  obtain ⟨fd, F⟩ := c.d.def_ 62 (d := ⟨("Desk", some "segment_places"), "segment_places", "Desk.segment_places", defArgs st_Desk_segment_places, defBody st_Desk_segment_places, defScope st_Desk_segment_places, [], []⟩) rfl
  exact ⟨_, fd, fun_of F, He.meth_ok (x := "Desk") (m := "segment_places") (c.d.fact 208)⟩
theorem fn_Desk_places_in_all (c : He.SaysT fas fns tbs w K) : FunM K (adsOf K).cDesk "places_in_all" "Desk.places_in_all" st_Desk_places_in_all := by
  obtain ⟨fd, F⟩ := c.d.def_ 63 (d := ⟨("Desk", some "places_in_all"), "places_in_all", "Desk.places_in_all", defArgs st_Desk_places_in_all, defBody st_Desk_places_in_all, defScope st_Desk_places_in_all, [], []⟩) rfl
  exact ⟨_, fd, fun_of F, He.meth_ok (x := "Desk") (m := "places_in_all") (c.d.fact 209)⟩
theorem fn_Desk_skated_by (c : He.SaysT fas fns tbs w K) : FunM K (adsOf K).cDesk "skated_by" "Desk.skated_by" st_Desk_skated_by := by
  obtain ⟨fd, F⟩ := c.d.def_ 64 (d := ⟨("Desk", some "skated_by"), "skated_by", "Desk.skated_by", defArgs st_Desk_skated_by, defBody st_Desk_skated_by, defScope st_Desk_skated_by, [], []⟩) rfl
  exact ⟨_, fd, fun_of F, He.meth_ok (x := "Desk") (m := "skated_by") (c.d.fact 210)⟩
theorem fn_Desk_skated_by_each (c : He.SaysT fas fns tbs w K) : FunM K (adsOf K).cDesk "skated_by_each" "Desk.skated_by_each" st_Desk_skated_by_each := by
  obtain ⟨fd, F⟩ := c.d.def_ 65 (d := ⟨("Desk", some "skated_by_each"), "skated_by_each", "Desk.skated_by_each", defArgs st_Desk_skated_by_each, defBody st_Desk_skated_by_each, defScope st_Desk_skated_by_each, [], []⟩) rfl
  exact ⟨_, fd, fun_of F, He.meth_ok (x := "Desk") (m := "skated_by_each") (c.d.fact 211)⟩
theorem fn_Desk_open_program (c : He.SaysT fas fns tbs w K) : FunM K (adsOf K).cDesk "open_program" "Desk.open_program" st_Desk_open_program := by
  obtain ⟨fd, F⟩ := c.d.def_ 66 (d := ⟨("Desk", some "open_program"), "open_program", "Desk.open_program", defArgs st_Desk_open_program, defBody st_Desk_open_program, defScope st_Desk_open_program, [], []⟩) rfl
  exact ⟨_, fd, fun_of F, He.meth_ok (x := "Desk") (m := "open_program") (c.d.fact 212)⟩
theorem fn_check_number (X : K.In h) (G : h.Ns mainGlobals mg) (c : He.SaysT fas fns tbs w K) : FunF K mg "check_number" st_check_number := by
  obtain ⟨fd, F⟩ := c.d.def_ 67 (d := ⟨("check_number", none), "check_number", "check_number", defArgs st_check_number, defBody st_check_number, defScope st_check_number, [], []⟩) rfl
  exact ⟨_, fd, fun_of F, He.glo_ok X G (x := "check_number") (c.d.fact 213)⟩
theorem fn_check_row (X : K.In h) (G : h.Ns mainGlobals mg) (c : He.SaysT fas fns tbs w K) : FunF K mg "check_row" st_check_row := by
  obtain ⟨fd, F⟩ := c.d.def_ 68 (d := ⟨("check_row", none), "check_row", "check_row", defArgs st_check_row, defBody st_check_row, defScope st_check_row, [], []⟩) rfl
  exact ⟨_, fd, fun_of F, He.glo_ok X G (x := "check_row") (c.d.fact 214)⟩
theorem fn_Line_init (c : He.SaysT fas fns tbs w K) : FunI K (adsOf K).cLine "Line.__init__" st_Line_init := by
  obtain ⟨fd, F⟩ := c.d.def_ 69 (d := ⟨("Line", some "__init__"), "__init__", "Line.__init__", defArgs st_Line_init, defBody st_Line_init, defScope st_Line_init, [], []⟩) rfl
  exact ⟨_, fd, fun_of F, He.mkr_ok (x := "Line") (c.d.fact 215)⟩
theorem fn_Line_is_over (c : He.SaysT fas fns tbs w K) : FunM K (adsOf K).cLine "is_over" "Line.is_over" st_Line_is_over := by
  obtain ⟨fd, F⟩ := c.d.def_ 70 (d := ⟨("Line", some "is_over"), "is_over", "Line.is_over", defArgs st_Line_is_over, defBody st_Line_is_over, defScope st_Line_is_over, [], []⟩) rfl
  exact ⟨_, fd, fun_of F, He.meth_ok (x := "Line") (m := "is_over") (c.d.fact 216)⟩
theorem fn_Line_take_number (c : He.SaysT fas fns tbs w K) : FunM K (adsOf K).cLine "take_number" "Line.take_number" st_Line_take_number := by
  obtain ⟨fd, F⟩ := c.d.def_ 71 (d := ⟨("Line", some "take_number"), "take_number", "Line.take_number", defArgs st_Line_take_number, defBody st_Line_take_number, defScope st_Line_take_number, [], []⟩) rfl
  exact ⟨_, fd, fun_of F, He.meth_ok (x := "Line") (m := "take_number") (c.d.fact 217)⟩
theorem fn_Line_take_row (c : He.SaysT fas fns tbs w K) : FunM K (adsOf K).cLine "take_row" "Line.take_row" st_Line_take_row := by
  obtain ⟨fd, F⟩ := c.d.def_ 72 (d := ⟨("Line", some "take_row"), "take_row", "Line.take_row", defArgs st_Line_take_row, defBody st_Line_take_row, defScope st_Line_take_row, [], []⟩) rfl
  exact ⟨_, fd, fun_of F, He.meth_ok (x := "Line") (m := "take_row") (c.d.fact 218)⟩
theorem fn_answers (X : K.In h) (G : h.Ns mainGlobals mg) (c : He.SaysT fas fns tbs w K) : FunF K mg "answers" st_answers := by
  obtain ⟨fd, F⟩ := c.d.def_ 73 (d := ⟨("answers", none), "answers", "answers", defArgs st_answers, defBody st_answers, defScope st_answers, [], []⟩) rfl
  exact ⟨_, fd, fun_of F, He.glo_ok X G (x := "answers") (c.d.fact 219)⟩
theorem fn_answer_of (X : K.In h) (G : h.Ns mainGlobals mg) (c : He.SaysT fas fns tbs w K) : FunF K mg "answer_of" st_answer_of := by
  obtain ⟨fd, F⟩ := c.d.def_ 74 (d := ⟨("answer_of", none), "answer_of", "answer_of", defArgs st_answer_of, defBody st_answer_of, defScope st_answer_of, [], []⟩) rfl
  exact ⟨_, fd, fun_of F, He.glo_ok X G (x := "answer_of") (c.d.fact 220)⟩
theorem fn_call_next (X : K.In h) (G : h.Ns mainGlobals mg) (c : He.SaysT fas fns tbs w K) : FunF K mg "call_next" st_call_next := by
  obtain ⟨fd, F⟩ := c.d.def_ 75 (d := ⟨("call_next", none), "call_next", "call_next", defArgs st_call_next, defBody st_call_next, defScope st_call_next, [], []⟩) rfl
  exact ⟨_, fd, fun_of F, He.glo_ok X G (x := "call_next") (c.d.fact 221)⟩
theorem all_defs {P : Program} {base : Heap} {f : Addr} {fd : FuncData} (X : K.In h) (G : h.Ns mainGlobals mg) (e : obsA K = valA w) (F : Fun K "answers" "answers" st_answers f fd) : FnOk P w K mg base CX0 11 f fd ["calls"] (sp_answers K) := by
  have c : He.SaysT fas fns tbs w K := congrArg (fun z : Al => z.1) e
  have T := txt_of X G e c
  have c_hundredths : CalF P w K mg base CX0 1 "hundredths" ["share", "number"] (sp_hundredths) := ok_hundredths T (fn_hundredths X G c) 
  have c_jump_share : CalF P w K mg base CX0 1 "jump_share" ["edge", "missing"] (sp_jump_share) := ok_jump_share T (fn_jump_share X G c) 
  have c_jump_worth : CalF P w K mg base CX0 2 "jump_worth" ["kind", "turns", "edge", "missing"] (sp_jump_worth) := ok_jump_worth T (fn_jump_worth X G c) c_hundredths c_jump_share
  have c_spin_worth : CalF P w K mg base CX0 1 "spin_worth" ["position", "flying", "change", "level"] (sp_spin_worth) := ok_spin_worth T (fn_spin_worth X G c) 
  have c_steps_worth : CalF P w K mg base CX0 1 "steps_worth" ["level"] (sp_steps_worth) := ok_steps_worth T (fn_steps_worth X G c) 
  have c_check_number : CalF P w K mg base (L2.CX P w) 1 "check_number" ["number", "least", "most"] (sp_check_number (adsOf K)) := ok_check_number T (fn_check_number X G c) 
  have c_Jump_init : CalI P w K mg base CX0 3 (adsOf K).cJump ["self", "kind", "turns", "edge", "missing"] (sp_Jump_init (adsOf K)) := ok_Jump_init T (fn_Jump_init c) c_jump_worth
  have c_Jumps_init : CalI P w K mg base CX0 1 (adsOf K).cJumps ["self", "jumps"] (sp_Jumps_init (adsOf K)) := ok_Jumps_init T (fn_Jumps_init c) 
  have c_Spin_init : CalI P w K mg base CX0 2 (adsOf K).cSpin ["self", "position", "flying", "change", "level"] (sp_Spin_init (adsOf K)) := ok_Spin_init T (fn_Spin_init c) c_spin_worth
  have c_Steps_init : CalI P w K mg base CX0 2 (adsOf K).cSteps ["self", "level"] (sp_Steps_init (adsOf K)) := ok_Steps_init T (fn_Steps_init c) c_steps_worth
  have c_OtherSteps_init : CalI P w K mg base CX0 1 (adsOf K).cOtherSteps ["self"] (sp_OtherSteps_init (adsOf K)) := ok_OtherSteps_init T (fn_OtherSteps_init c) 
  have c_Telling_init : CalI P w K mg base CX0 1 (adsOf K).cTelling ["self", "second", "element", "grades"] (sp_Telling_init (adsOf K)) := ok_Telling_init T (fn_Telling_init c) 
  have c_Standing_init : CalI P w K mg base CX0 1 (adsOf K).cStanding ["self", "skater", "score", "weights"] (sp_Standing_init (adsOf K)) := ok_Standing_init T (fn_Standing_init c) 
  have c_Value_init : CalI P w K mg base CX0 1 (adsOf K).cValue ["self", "worth", "goes_by"] (sp_Value_init (adsOf K)) := ok_Value_init T (fn_Value_init c) 
  have c_Line_init : CalI P w K mg base CX0 1 (adsOf K).cLine ["self", "calls"] (sp_Line_init (adsOf K)) := ok_Line_init T (fn_Line_init c) 
  have c_Desk_init : CalI P w K mg base CX0 1 (adsOf K).cDesk ["self"] (sp_Desk_init (adsOf K)) := ok_Desk_init T (fn_Desk_init c) 
  have c_Program_init : CalI P w K mg base CX0 1 (adsOf K).cProgram ["self", "skater", "free"] (sp_Program_init (adsOf K)) := ok_Program_init T (fn_Program_init c) 
  have c_Competition_init : CalI P w K mg base CX0 1 (adsOf K).cCompetition ["self", "judges", "short", "free"] (sp_Competition_init (adsOf K)) := ok_Competition_init T (fn_Competition_init c) 
  have c_GoneBy_init : CalI P w K mg base CX0 1 (adsOf K).cGoneBy ["self", "free"] (sp_GoneBy_init (adsOf K)) := ok_GoneBy_init T (fn_GoneBy_init c) 
  have c_OtherSteps_described : CalM P w K mg base CX0 1 (adsOf K).cOtherSteps "described" ["self"] (sp_OtherSteps_described (adsOf K)) := ok_OtherSteps_described T (fn_OtherSteps_described c) 
  have c_Steps_described : CalM P w K mg base CX0 1 (adsOf K).cSteps "described" ["self"] (sp_Steps_described (adsOf K)) := ok_Steps_described T (fn_Steps_described c) 
  have c_Spin_described : CalM P w K mg base CX0 1 (adsOf K).cSpin "described" ["self"] (sp_Spin_described (adsOf K)) := ok_Spin_described T (fn_Spin_described c) 
  have c_Jumps_described : CalM P w K mg base CX0 1 (adsOf K).cJumps "described" ["self"] (sp_Jumps_described (adsOf K)) := ok_Jumps_described T (fn_Jumps_described c) 
  have c_check_text : CalF P w K mg base (L2.CX P w) 1 "check_text" ["numbers"] (sp_check_text K (adsOf K)) := ok_check_text T (fn_check_text X G c) 
  have c_check_row : CalF P w K mg base (L2.CX P w) 2 "check_row" ["row", "judges", "least", "most"] (sp_check_row K (adsOf K)) := ok_check_row T (fn_check_row X G c) c_check_number
  have c_put_together : CalF P w K mg base CX0 1 "put_together" ["numbers"] (sp_put_together K) := ok_put_together T (fn_put_together X G c) 
  have c_nearest0 : CalF P w K mg base CX0 1 "nearest" ["number", "divisor"] (sp_nearest0) := ok_nearest0 T (fn_nearest X G c) 
  have c_nearest : CalF P w K mg base CX0 2 "nearest" ["number", "divisor"] (sp_nearest) := ok_nearest T (fn_nearest X G c) c_nearest0
  have c_grades_make : CalF P w K mg base CX0 3 "grades_make" ["grades", "goes_by"] (sp_grades_make K) := ok_grades_make T (fn_grades_make X G c) c_put_together c_nearest
  have c_component : CalF P w K mg base CX0 3 "component" ["marks"] (sp_component K) := ok_component T (fn_component X G c) c_put_together c_nearest
  have c_components_make : CalF P w K mg base CX0 4 "components_make" ["rows", "factor"] (sp_components_make K) := ok_components_make T (fn_components_make X G c) c_nearest c_component
  have c_points_off : CalF P w K mg base CX0 1 "points_off" ["falls", "off", "seconds"] (sp_points_off) := ok_points_off T (fn_points_off X G c) 
  have c_row_has_room : CalF P w K mg base CX0 1 "row_has_room" ["length", "lengths", "free"] (sp_row_has_room K) := ok_row_has_room T (fn_row_has_room X G c) 
  have c_has_room : CalF P w K mg base CX0 2 "has_room" ["element", "ahead", "free"] (sp_has_room K (adsOf K)) := ok_has_room T (fn_has_room X G c) c_row_has_room
  have c_those_that_count : CalF P w K mg base CX0 3 "those_that_count" ["tellings", "free"] (sp_those_that_count K (adsOf K)) := ok_those_that_count T (fn_those_that_count X G c) c_has_room
  have c_share_left : CalF P w K mg base CX0 1 "share_left" ["ahead", "in_row", "free"] (sp_share_left K) := ok_share_left T (fn_share_left X G c) 
  have c_GoneBy_take : CalM P w K mg base CX0 2 (adsOf K).cGoneBy "take" ["self", "jump", "in_row"] (sp_GoneBy_take K (adsOf K)) := ok_GoneBy_take T (fn_GoneBy_take c) c_share_left
  have c_value_of_jumps : CalF P w K mg base CX0 3 "value_of_jumps" ["jumps", "gone_by"] (sp_value_of_jumps K (adsOf K)) := ok_value_of_jumps T (fn_value_of_jumps X G c) c_GoneBy_take c_hundredths c_Value_init
  have c_value_of : CalF P w K mg base CX0 4 "value_of" ["element", "counts", "gone_by"] (sp_value_of K (adsOf K)) := ok_value_of T (fn_value_of X G c) c_Value_init c_value_of_jumps
  have c_late_places : CalF P w K mg base CX0 1 "late_places" ["tellings", "counted", "free"] (sp_late_places K (adsOf K)) := ok_late_places T (fn_late_places X G c) 
  have c_values_of : CalF P w K mg base CX0 5 "values_of" ["tellings", "free"] (sp_values_of K (adsOf K)) := ok_values_of T (fn_values_of X G c) c_those_that_count c_GoneBy_init c_value_of c_late_places c_hundredths
  have c_judged_tellings : CalF P w K mg base CX0 6 "judged_tellings" ["program"] (sp_judged_tellings K (adsOf K)) := ok_judged_tellings T (fn_judged_tellings X G c) c_values_of c_grades_make
  have c_Outcome_init : CalI P w K mg base CX0 1 (adsOf K).cOutcome ["self", "judged", "components", "taken_off"] (sp_Outcome_init (adsOf K)) := ok_Outcome_init T (fn_Outcome_init c) 
  have c_outcome_of : CalF P w K mg base CX0 7 "outcome_of" ["program", "factor"] (sp_outcome_of K (adsOf K)) := ok_outcome_of T (fn_outcome_of X G c) c_judged_tellings c_components_make c_Outcome_init c_points_off
  have c_tie_weight : CalF P w K mg base CX0 1 "tie_weight" ["outcome", "free"] (sp_tie_weight (adsOf K)) := ok_tie_weight T (fn_tie_weight X G c) 
  have c_standings_in_segment : CalF P w K mg base CX0 3 "standings_in_segment" ["skated", "free"] (sp_standings_in_segment K (adsOf K)) := ok_standings_in_segment T (fn_standings_in_segment X G c) c_Standing_init c_tie_weight
  have c_standing_in_all : CalF P w K mg base CX0 3 "standing_in_all" ["skater", "over"] (sp_standing_in_all (adsOf K)) := ok_standing_in_all T (fn_standing_in_all X G c) c_Standing_init
  have c_standings_in_all : CalF P w K mg base CX0 4 "standings_in_all" ["skated"] (sp_standings_in_all K (adsOf K)) := ok_standings_in_all T (fn_standings_in_all X G c) c_standing_in_all
  have c_places_of : CalF P w K mg base CX0 1 "places_of" ["standings"] (sp_places_of K (adsOf K)) := ok_places_of T (fn_places_of X G c) 
  have c_level_of : CalF P w K mg base (L2.CX P w) 1 "level_of" ["text"] (sp_level_of (adsOf K)) := ok_level_of T (fn_level_of X G c) 
  have c_without_ending : CalF P w K mg base CX0 1 "without_ending" ["text", "endings"] (sp_without_ending K) := ok_without_ending T (fn_without_ending X G c) 
  have c_may_be_small : CalF P w K mg base CX0 1 "may_be_small" ["jumps", "place"] (sp_may_be_small K (adsOf K)) := ok_may_be_small T (fn_may_be_small X G c) 
  have c_spin_of : CalF P w K mg base (L2.CX P w) 4 "spin_of" ["name", "level"] (sp_spin_of (adsOf K)) := ok_spin_of T (fn_spin_of X G c) c_Spin_init c_level_of
  have c_jump_of : CalF P w K mg base (L2.CX P w) 5 "jump_of" ["text"] (sp_jump_of (adsOf K)) := ok_jump_of T (fn_jump_of X G c) c_Jump_init c_without_ending
  have c_text_of : CalF P w K mg base (L2.CX P w) 1 "text_of" ["numbers"] (sp_text_of K (adsOf K)) := ok_text_of T (fn_text_of X G c) 
  have c_jumps_of : CalF P w K mg base (L2.CX P w) 6 "jumps_of" ["text"] (sp_jumps_of (adsOf K)) := ok_jumps_of T (fn_jumps_of X G c) c_jump_of c_may_be_small c_Jumps_init
  have c_Desk_skated_by_each : CalM P w K mg base CX0 1 (adsOf K).cDesk "skated_by_each" ["self"] (sp_Desk_skated_by_each (adsOf K)) := ok_Desk_skated_by_each T (fn_Desk_skated_by_each c) 
  have c_Desk_open_program : CalM P w K mg base (L2.CX P w) 1 (adsOf K).cDesk "open_program" ["self"] (sp_Desk_open_program (adsOf K)) := ok_Desk_open_program T (fn_Desk_open_program c) 
  have c_Desk_skated_by : CalM P w K mg base (L2.CX P w) 2 (adsOf K).cDesk "skated_by" ["self", "skater", "free"] (sp_Desk_skated_by (adsOf K)) := ok_Desk_skated_by T (fn_Desk_skated_by c) c_check_number c_Desk_skated_by_each
  have c_Desk_begin : CalM P w K mg base (L2.CX P w) 3 (adsOf K).cDesk "begin" ["self", "judges", "short", "free"] (sp_Desk_begin (adsOf K)) := ok_Desk_begin T (fn_Desk_begin c) c_check_number c_Competition_init
  have c_Desk_add_skater : CalM P w K mg base (L2.CX P w) 1 (adsOf K).cDesk "add_skater" ["self"] (sp_Desk_add_skater (adsOf K)) := ok_Desk_add_skater T (fn_Desk_add_skater c) 
  have c_Desk_segment_places : CalM P w K mg base (L2.CX P w) 4 (adsOf K).cDesk "segment_places" ["self", "free"] (sp_Desk_segment_places (adsOf K)) := ok_Desk_segment_places T (fn_Desk_segment_places c) c_check_number c_places_of c_standings_in_segment c_Desk_skated_by_each
  have c_Desk_places_in_all : CalM P w K mg base CX0 5 (adsOf K).cDesk "places_in_all" ["self"] (sp_Desk_places_in_all (adsOf K)) := ok_Desk_places_in_all T (fn_Desk_places_in_all c) c_places_of c_standings_in_all c_Desk_skated_by_each
  have c_Desk_sheet : CalM P w K mg base (L2.CX P w) 3 (adsOf K).cDesk "sheet" ["self", "skater", "free"] (sp_Desk_sheet (adsOf K)) := ok_Desk_sheet T (fn_Desk_sheet c) c_Desk_skated_by
  have c_Desk_tell_faults : CalM P w K mg base (L2.CX P w) 2 (adsOf K).cDesk "tell_faults" ["self", "falls", "off", "seconds"] (sp_Desk_tell_faults (adsOf K)) := ok_Desk_tell_faults T (fn_Desk_tell_faults c) c_Desk_open_program c_check_number
  have c_Desk_tell_marks : CalM P w K mg base (L2.CX P w) 3 (adsOf K).cDesk "tell_marks" ["self", "one", "two", "three"] (sp_Desk_tell_marks (adsOf K)) := ok_Desk_tell_marks T (fn_Desk_tell_marks c) c_Desk_open_program c_check_row
  have c_Desk_start : CalM P w K mg base (L2.CX P w) 3 (adsOf K).cDesk "start" ["self", "skater", "free"] (sp_Desk_start (adsOf K)) := ok_Desk_start T (fn_Desk_start c) c_Desk_skated_by c_Program_init
  have c_Desk_end : CalM P w K mg base (L2.CX P w) 8 (adsOf K).cDesk "end" ["self"] (sp_Desk_end (adsOf K)) := ok_Desk_end T (fn_Desk_end c) c_Desk_open_program c_outcome_of
  have c_Line_is_over : CalM P w K mg base CX0 1 (adsOf K).cLine "is_over" ["self"] (sp_Line_is_over K (adsOf K)) := ok_Line_is_over T (fn_Line_is_over c) 
  have c_Line_take_number : CalM P w K mg base CX0 1 (adsOf K).cLine "take_number" ["self"] (sp_Line_take_number K (adsOf K)) := ok_Line_take_number T (fn_Line_take_number c) 
  have c_Line_take_row : CalM P w K mg base CX0 1 (adsOf K).cLine "take_row" ["self"] (sp_Line_take_row K (adsOf K)) := ok_Line_take_row T (fn_Line_take_row c) 
  have c_element_of : CalF P w K mg base (L2.CX P w) 7 "element_of" ["numbers"] (sp_element_of K (adsOf K)) := ok_element_of T (fn_element_of X G c) c_text_of c_OtherSteps_init c_Steps_init c_level_of c_spin_of c_jumps_of
  have c_Desk_read : CalM P w K mg base (L2.CX P w) 8 (adsOf K).cDesk "read" ["self", "text"] (sp_Desk_read (adsOf K)) := ok_Desk_read T (fn_Desk_read c) c_check_text c_Jumps_described c_element_of c_Spin_described c_Steps_described c_OtherSteps_described
  have c_Desk_tell_element : CalM P w K mg base (L2.CX P w) 8 (adsOf K).cDesk "tell_element" ["self", "second", "text", "grades"] (sp_Desk_tell_element (adsOf K)) := ok_Desk_tell_element T (fn_Desk_tell_element c) c_Desk_open_program c_check_text c_check_number c_check_row c_element_of c_Telling_init
  have c_call_next : CalF P w K mg base (L2.CX P w) 9 "call_next" ["desk", "line"] (sp_call_next K (adsOf K)) := ok_call_next T (fn_call_next X G c) c_Line_take_number c_Desk_begin c_Desk_add_skater c_Desk_read c_Line_take_row c_Desk_start c_Desk_tell_element c_Desk_tell_marks c_Desk_tell_faults c_Desk_end c_Desk_sheet c_Desk_segment_places c_Desk_places_in_all
  have c_answer_of : CalF P w K mg base CX0 10 "answer_of" ["desk", "line"] (sp_answer_of K (adsOf K)) := ok_answer_of T (fn_answer_of X G c) c_call_next
  exact ok_answers T F c_Line_init c_Desk_init c_Line_is_over c_answer_of
end
end Sk
set_option maxHeartbeats 4000000
/-! # The end -/
namespace Sk
open PySem PySem.Spec PyProof.Rows L2
open PySem.W (Codec OpenSpec)
/-- the walk of a specification's row, where the promise hangs on a written part that the head's facts give -/
theorem walk_far {row : OpenSpec} {k : Nat} {q : Program} {lo : List Str} {XP : (Str → Option Value) → Heap → Prop} {YP : World → Heap → Prop} {d : DefRec} {ps : List Str} {sp : PySem.W.Frag → Sp} (hwell : row.wellSaid = true) (hdf : d.params.defaults = []) (hlen : row.args.length = ps.length) (hr : Room k callerA)
    (F : ∀ (w : World) (mg : Str → Option Value) (fa : Addr) (h : Heap), YP w h → h.Ns mainGlobals mg → mg d.name = some (.ref fa) → ∃ (K : PySem.W.Frag) (fd : FuncData), K.In h ∧ (∀ (s : Shared) (us : List Value), us.length = ps.length → BindsTo s fd ⟨us, []⟩ (ps.zip us)) ∧
      ∀ base : Heap, K.In base → base.Ns mainGlobals mg → FnOk row.prog w K mg base CX0 k fa fd ps (sp K))
    (hsp : ∀ (K : PySem.W.Frag) (H : Hp) (xs : List V) (a : Codec.denoteAll row.args), OnlyF H → Codec.withinAll row.args a = true → Codec.app row.args row.asked a = true → DwAll K H xs (Codec.encAll row.args a) → sp K xs H (fun v H1 => Dw K H1 v (row.ret.enc (Codec.app row.args row.f a))) fun _ _ _ => False) :
    PySem.W.WalkOS q lo XP YP row d [] (fun f vs => PySem.call f vs) := by
  intro w t0 t1 mg mb G Y fa o pm cd doc dV kV ho hd hcd hD hmg hg args vals as hpre hlay hrd hwl hlo
  obtain ⟨a, p1, p2⟩ := PySem.W.os_pre_some hpre
  obtain ⟨p3, hwi⟩ := Codec.encAll_of_decAll row.args args a p1
  subst p3
  obtain ⟨K, fd, KX, hb, hF⟩ := F w mg fa _ Y G.T.g hmg
  have go := spec_call (R := []) (cl := classAt t0.heap) (d0 := row.ret.enc (Codec.app row.args row.f a)) KX G.T.g G.T.b G.T.builtins G.T.nolimit hg hwl (pl_encAll _ _) (layable_weight hlay) hr hF hb (by rw [encAll_len]; exact hlen) (fun H xs hO hS => hsp K H xs a hO hwi p2 hS) fun H e s1 z => z
  refine PySem.W.enter_call (codeAny_mono go fun res s2 hq => ?_)
  obtain ⟨u, as1, rfl, q1, q2, q3, q4⟩ := hq
  refine ⟨.inl ⟨u, _, as1, rfl, fun _ => rfl, q1, ?_, fun z => Bool.noConfusion (show false = true from z)⟩, q2, q3, q4⟩
  exact (OpenSpec.post_iff hwell hwi _ _).mpr rfl
theorem left_top : PySem.W.LeftO PP qv loose (fun s => PySem.W.xlAt qv [] s && PySem.W.recOk [] s) hk.obs hk.val 8600 true :=
  HandSHeadRun.left_one (M := 8000) (by kernel_rfl) (by decide) (fun s => by kernel_rfl) (by decide) fun w os => by
    have z := run_all w os
    have eo : obT = fun s => hk.obs s.abs := funext obT_eq
    rw [eo] at z
    simp only [HandSHeadRun.endQ_eq, HandSHeadRun.seenQ_eq]
    exact z
end Sk
open PySem PySem.W PySem.Calls PyProof.Rows
theorem PySem.Challenge.cw_skatingmarks_s01_answers_holds : PySem.Challenge.rw_skatingmarks_s01_answers.Holds := by
  refine holds_os (r := PySem.Challenge.rw_skatingmarks_s01_answers) (q := Sk.qv) (loose := Sk.loose) (XP := XL Sk.qv []) (YP := Sk.hk.says) (kwd := []) Sk.left_top Sk.hk.of Sk.hk.keeps
    (fun s z => xl_of s (Bool.and_eq_true_iff.mp z).1) XL.keeps (by rfl) (by rfl) (by rfl) (fun s z => recFacts_of (Bool.and_eq_true_iff.mp z).2) os_shapes (by first | assumption | decide +kernel) (by decide +kernel) ⟨rfl, rfl, rfl, rfl, rfl, by decide +kernel⟩ ?hw ?hc
  case hw => exact ⟨[.list [.int 2]], by decide +kernel, by decide +kernel⟩
  case hc =>
    refine Sk.walk_far (row := PySem.Challenge.rw_skatingmarks_s01_answers) (k := 11) (ps := ["calls"]) (sp := Sk.sp_answers) (by decide +kernel) rfl rfl ⟨rfl, by decide, by decide⟩ ?F ?S
    case F =>
      intro w mg fa h Y G hmg
      obtain ⟨K, KX, e⟩ := Y
      have c : He.SaysT Sk.fas Sk.fns Sk.tbs w K := congrArg (fun z : Sk.Al => z.1) e
      have hmg : mg ("answers" : PySem.Str) = some (.ref fa) := hmg
      have z := hmg.symm.trans (He.glo_ok KX G (x := "answers") (c.d.fact 219))
      cases z
      obtain ⟨fd, F0⟩ := c.d.def_ 73 (d := ⟨("answers", none), "answers", "answers", L2.defArgs Sk.st_answers, L2.defBody Sk.st_answers, L2.defScope Sk.st_answers, [], []⟩) rfl
      have F1 : L2.FunD K "answers" "answers" (L2.defArgs Sk.st_answers) (L2.defBody Sk.st_answers) (L2.defScope Sk.st_answers) [] [] (He.ga K "answers") fd := F0
      have F := Sk.fun_of F1
      refine ⟨K, fd, KX, fun s us hl => ?_, fun base _ _ => Sk.all_defs KX G e F⟩
      obtain ⟨oc, od, kV, doc, pm, an, cdv, ct, osl, rfl, lk, hcd⟩ := F.ex
      match us, hl with
      | [_], _ => exact .of_eq rfl
    case S =>
      intro K H xs a hO hwi hask hx
      cases hx with
      | cons h1 h2 =>
        cases h2
        cases h1 with
        | lst hs ha =>
          have e := L2.ints_dw a.1 _ ha
          subst e
          exact ⟨_, a.1, rfl, hs, hask, fun an H1 hp => .lst (L2.SqL.of hp) (L2.dw_ints _)⟩
