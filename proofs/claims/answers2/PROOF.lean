import PyProof.Rows.All
import Wide.All
import OpenK.AllK
import Wide.FinOn
import PyProof.EqAt
import PyProof.EqKinds
import PyProof.TupleCall
import KE.BitLaws
import Open.SpecLaws
import KE.OsHead
import KE.OsGo
import PySem.Challenge.RW_dayahead_s01_answers
set_option Elab.async false
set_option maxRecDepth 100000
set_option maxHeartbeats 0
noncomputable section
namespace DA
open PySem PySem.W PyProof.Rows
abbrev pgm : Program := PySem.Challenge.pw_dayahead_s01_answers
def hO5 (_ : Params) : Obj := ⟨.type "tuple", none, .seq #[] 0, #[]⟩
def hO6 (_ : Params) : Obj := ⟨.none, none, .fields #[], #[]⟩
def hO7 (_ : Params) : Obj := ⟨.type "code", none, .fields #[.str "<module>" 182, .str "<module>" 183, .str "/claim/cut.py" 184, .int 1 0, .int 0 0, .int 0 0, .int 0 0, .int 0 0, .ref 11, .bool false, .int 181 0, .ref 12, .none, .none, .none, .none, .int 185 0, .int 1 0, .str "/claim/cut.py" 186], #[]⟩
def hO8 (_ : Params) : Obj := ⟨.type "frame", none, .plain, #[some (.ref 13), some (.ref 3), some (.ref 3), none, some (.str "__main__" 164), none, some (.ref 0)]⟩
def hpA (P : Params) : Heap := { objs := ⟨[boot_o_0 P, boot_o_1 P, boot_o_2 P, boot_o_3 P, boot_o_4 P, boot_o_5 P, boot_o_6 P, boot_o_7 P, boot_o_8 P, boot_o_9 P, boot_o_10 P, hO5 P, hO6 P, hO7 P, hO8 P]⟩ }
def trA (P : Params) : BT := .node (boot_o_0 P) (.node (boot_o_1 P) (.node (boot_o_3 P) (.node (boot_o_7 P) .nil .nil) (.node (hO5 P) .nil .nil)) (.node (boot_o_5 P) (.node (boot_o_9 P) .nil .nil) (.node (hO7 P) .nil .nil)))
  (.node (boot_o_2 P) (.node (boot_o_4 P) (.node (boot_o_8 P) .nil .nil) (.node (hO6 P) .nil .nil)) (.node (boot_o_6 P) (.node (boot_o_10 P) .nil .nil) (.node (hO8 P) .nil .nil)))
def envA : Env := { scope := pgm.main.scope, locals := mainNs, globals := mainNs, cells := [], code := .ref 13, frame := some 14 }
abbrev pz : Pos := ⟨0, 0, 0, 0⟩
abbrev bodyA : List Stmt := behindTheImports pgm
abbrev codeA : Code := .body bodyA envA
abbrev sT (w : World) (os : OsState) : SharedT := ⟨trA w.params, 15, {}, ⟨[]⟩, {}, 187, os⟩
theorem h_pre : ∀ w : World, (fun os => topGo treeTable pgm w 11 (some (.ref 6)) 12 { heap := boot_heap w.params, drawn := boot_drawn, toks := boot_toks, os := os } (topStub pgm)) = fun os => some (({ heap := hpA w.params, toks := 187, os := os } : Shared), (⟨denote treeTable codeA, codeA, pz, [topFrame pz]⟩ : Thread)) := fun w => by kernel_rfl
theorem h_block : ∀ w : World, (fun os => segRun treeTable pgm w 11 (some (.ref 6)) 1 1 { heap := hpA w.params, toks := 187, os := os } (blockOf bodyA envA codeA pz [topFrame pz])) = fun os => some (Flow.next, (sT w os).abs, codeA, pz) := fun w => by kernel_rfl
end DA
end
set_option Elab.async false
set_option maxRecDepth 100000
set_option maxHeartbeats 0
noncomputable section
namespace DA
open PySem PySem.W PyProof.Rows
abbrev kh (P : Params) (x : Str) := PyData.keyHash P x
def topK (i : Nat) : Stmt := pgm.main.body.getD i (.Pass ⟨0, 0, 0, 0⟩)
def inC (s : Stmt) (j : Nat) : Stmt := match s with
  | .ClassDef _ _ _ body _ _ _ _ _ _ _ => body.getD j (.Pass ⟨0, 0, 0, 0⟩)
  | _ => .Pass ⟨0, 0, 0, 0⟩
def dA (s : Stmt) : Arguments := match s with
  | .FunctionDef _ a _ _ _ _ _ _ _ _ => a
  | _ => { posonlyargs := [], args := [], vararg := none, kwonlyargs := [], kw_defaults := [], kwarg := none, defaults := [] }
def dB (s : Stmt) : List Stmt := match s with
  | .FunctionDef _ _ b _ _ _ _ _ _ _ => b
  | _ => []
def dS (s : Stmt) : Scope := match s with
  | .FunctionDef _ _ _ _ _ _ sc _ _ _ => sc
  | _ => { kind := .function, names := [], isGenerator := false, isCoroutine := false }
def KF (P : Params) : Frag :=
 (nat_lit 2, ⟨.none, .none, (.dict #[] 0), #[]⟩) ::
 (nat_lit 3, ⟨(.type "dict"), .none, (.dict #[⟨kh P "__name__", (.str "__name__" 165), (.str "dayahead.promises" 650)⟩, ⟨kh P "__doc__", (.str "__doc__" 166), .none⟩, ⟨kh P "__package__", (.str "__package__" 167), .none⟩, ⟨kh P "__loader__", (.str "__loader__" 168), (.builtin "__main__.__loader__#opaque")⟩, ⟨kh P "__spec__", (.str "__spec__" 169), .none⟩, ⟨kh P "__annotations__", (.str "__annotations__" 170), (.ref 6)⟩, ⟨kh P "__builtins__", (.str "__builtins__" 171), (.ref 4)⟩, ⟨kh P "__file__", (.str "__file__" 173), (.str "/claim/cut.py" 172)⟩, ⟨kh P "__cached__", (.str "__cached__" 174), .none⟩, ⟨kh P "common_part", (.str "common_part" 197), (.ref 21)⟩, ⟨kh P "ratio", (.str "ratio" 206), (.ref 28)⟩, ⟨kh P "add", (.str "add" 214), (.ref 35)⟩, ⟨kh P "times", (.str "times" 222), (.ref 42)⟩, ⟨kh P "is_less", (.str "is_less" 230), (.ref 49)⟩, ⟨kh P "choices", (.str "choices" 246), (.ref 56)⟩, ⟨kh P "pivot_row", (.str "pivot_row" 255), (.ref 63)⟩, ⟨kh P "cleared", (.str "cleared" 261), (.ref 68)⟩, ⟨kh P "solved", (.str "solved" 267), (.ref 73)⟩, ⟨kh P "narrowed", (.str "narrowed" 273), (.ref 78)⟩, ⟨kh P "corner_on", (.str "corner_on" 279), (.ref 83)⟩, ⟨kh P "find_corners", (.str "find_corners" 290), (.ref 90)⟩, ⟨kh P "are_fair", (.str "are_fair" 296), (.ref 95)⟩, ⟨kh P "worth_by", (.str "worth_by" 307), (.ref 102)⟩, ⟨kh P "least_and_greatest", (.str "least_and_greatest" 319), (.ref 109)⟩, ⟨kh P "together", (.str "together" 327), (.ref 114)⟩, ⟨kh P "is_money_for_nothing", (.str "is_money_for_nothing" 336), (.ref 121)⟩, ⟨kh P "NONE_SUCH", (.str "NONE_SUCH" 341), (.int (-2) 340)⟩, ⟨kh P "NOT_FAIR", (.str "NOT_FAIR" 344), (.int (-16) 343)⟩, ⟨kh P "OUT_OF_RANGE", (.str "OUT_OF_RANGE" 347), (.int (-22) 346)⟩, ⟨kh P "TOO_MANY", (.str "TOO_MANY" 350), (.int (-28) 349)⟩, ⟨kh P "MOST_THAT_MAY_COME", (.str "MOST_THAT_MAY_COME" 352), (.int 4 351)⟩, ⟨kh P "MOST_THINGS", (.str "MOST_THINGS" 354), (.int 2 353)⟩, ⟨kh P "MOST", (.str "MOST" 356), (.int 1000 355)⟩, ⟨kh P "MOST_X", (.str "MOST_X" 358), (.int 1000000 357)⟩, ⟨kh P "Thing", (.str "Thing" 389), (.ref 138)⟩, ⟨kh P "Day", (.str "Day" 649), (.ref 338)⟩, ⟨kh P "NOT_BEGUN", (.str "NOT_BEGUN" 654), (.int (-11) 653)⟩, ⟨kh P "BEGIN", (.str "BEGIN" 656), (.int 0 655)⟩, ⟨kh P "THING", (.str "THING" 658), (.int 1 657)⟩, ⟨kh P "DROP", (.str "DROP" 660), (.int 2 659)⟩, ⟨kh P "PRICE", (.str "PRICE" 662), (.int 3 661)⟩, ⟨kh P "FAIR", (.str "FAIR" 664), (.int 4 663)⟩, ⟨kh P "CORNERS", (.str "CORNERS" 666), (.int 5 665)⟩, ⟨kh P "PROMISE", (.str "PROMISE" 668), (.int 6 667)⟩, ⟨kh P "MAY", (.str "MAY" 670), (.int 7 669)⟩, ⟨kh P "ONE", (.str "ONE" 672), (.int 8 671)⟩, ⟨kh P "CALL", (.str "CALL" 674), (.int 9 673)⟩, ⟨kh P "PUT", (.str "PUT" 676), (.int 10 675)⟩, ⟨kh P "WHOLE", (.str "WHOLE" 678), (.int 11 677)⟩, ⟨kh P "OF", (.str "OF" 680), (.int 12 679)⟩, ⟨kh P "FREE", (.str "FREE" 682), (.int 13 681)⟩, ⟨kh P "PAYS", (.str "PAYS" 684), (.int 14 683)⟩, ⟨kh P "WOULD", (.str "WOULD" 686), (.int 15 685)⟩, ⟨kh P "LOOK", (.str "LOOK" 688), (.int 16 687)⟩, ⟨kh P "RATE", (.str "RATE" 690), (.int 17 689)⟩, ⟨kh P "STATE", (.str "STATE" 692), (.int 18 691)⟩, ⟨kh P "PLAIN_NUMBERS", (.str "PLAIN_NUMBERS" 712), (.ref 343)⟩, ⟨kh P "has_row", (.str "has_row" 719), (.ref 350)⟩, ⟨kh P "about_things", (.str "about_things" 729), (.ref 357)⟩, ⟨kh P "about_fairness", (.str "about_fairness" 739), (.ref 364)⟩, ⟨kh P "about_promises", (.str "about_promises" 749), (.ref 371)⟩, ⟨kh P "answered", (.str "answered" 760), (.ref 378)⟩, ⟨kh P "answers", (.str "answers" 774), (.ref 385)⟩] 63), #[]⟩) ::
 (nat_lit 15, ⟨(.type "tuple"), .none, (.seq #[] 0), #[]⟩) ::
 (nat_lit 17, ⟨(.type "tuple"), .none, (.seq #[(.str "a" 192), (.str "b" 193), (.str "rest" 194)] 0), #[]⟩) ::
 (nat_lit 18, ⟨(.type "tuple"), .none, (.seq #[] 0), #[]⟩) ::
 (nat_lit 20, ⟨(.type "code"), .none, (.fields #[(.str "common_part" 189), (.str "common_part" 190), (.str "/claim/cut.py" 191), (.int 2 0), (.int 2 0), (.int 0 0), (.int 0 0), (.int 3 0), (.ref 15), (.bool .true), (.int 181 0), (.ref 16), .none, (.ref 17), (.ref 18), (.ref 19), (.int 195 0), (.int 2 0), (.str "/claim/cut.py" 196)]), #[]⟩) ::
 (nat_lit 21, ⟨(.type "function"), .none, (.func ⟨"common_part", "common_part", dA (topK 1), .stmts (dB (topK 1)), dS (topK 1), 3, [], .none, .none, .none, (.str "dayahead.ratio" 187), .none, (.ref 20), .none, 0⟩), #[]⟩) ::
 (nat_lit 22, ⟨(.type "tuple"), .none, (.seq #[] 0), #[]⟩) ::
 (nat_lit 24, ⟨(.type "tuple"), .none, (.seq #[(.str "above" 201), (.str "below" 202), (.str "part" 203)] 0), #[]⟩) ::
 (nat_lit 25, ⟨(.type "tuple"), .none, (.seq #[] 0), #[]⟩) ::
 (nat_lit 27, ⟨(.type "code"), .none, (.fields #[(.str "ratio" 198), (.str "ratio" 199), (.str "/claim/cut.py" 200), (.int 10 0), (.int 2 0), (.int 0 0), (.int 0 0), (.int 3 0), (.ref 22), (.bool .true), (.int 181 0), (.ref 23), .none, (.ref 24), (.ref 25), (.ref 26), (.int 204 0), (.int 10 0), (.str "/claim/cut.py" 205)]), #[]⟩) ::
 (nat_lit 28, ⟨(.type "function"), .none, (.func ⟨"ratio", "ratio", dA (topK 2), .stmts (dB (topK 2)), dS (topK 2), 3, [], .none, .none, .none, (.str "dayahead.ratio" 187), .none, (.ref 27), .none, 0⟩), #[]⟩) ::
 (nat_lit 29, ⟨(.type "tuple"), .none, (.seq #[] 0), #[]⟩) ::
 (nat_lit 31, ⟨(.type "tuple"), .none, (.seq #[(.str "one" 210), (.str "other" 211)] 0), #[]⟩) ::
 (nat_lit 32, ⟨(.type "tuple"), .none, (.seq #[] 0), #[]⟩) ::
 (nat_lit 34, ⟨(.type "code"), .none, (.fields #[(.str "add" 207), (.str "add" 208), (.str "/claim/cut.py" 209), (.int 15 0), (.int 2 0), (.int 0 0), (.int 0 0), (.int 3 0), (.ref 29), (.bool .true), (.int 181 0), (.ref 30), .none, (.ref 31), (.ref 32), (.ref 33), (.int 212 0), (.int 15 0), (.str "/claim/cut.py" 213)]), #[]⟩) ::
 (nat_lit 35, ⟨(.type "function"), .none, (.func ⟨"add", "add", dA (topK 3), .stmts (dB (topK 3)), dS (topK 3), 3, [], .none, .none, .none, (.str "dayahead.ratio" 187), .none, (.ref 34), .none, 0⟩), #[]⟩) ::
 (nat_lit 36, ⟨(.type "tuple"), .none, (.seq #[] 0), #[]⟩) ::
 (nat_lit 38, ⟨(.type "tuple"), .none, (.seq #[(.str "number" 218), (.str "one" 219)] 0), #[]⟩) ::
 (nat_lit 39, ⟨(.type "tuple"), .none, (.seq #[] 0), #[]⟩) ::
 (nat_lit 41, ⟨(.type "code"), .none, (.fields #[(.str "times" 215), (.str "times" 216), (.str "/claim/cut.py" 217), (.int 17 0), (.int 2 0), (.int 0 0), (.int 0 0), (.int 3 0), (.ref 36), (.bool .true), (.int 181 0), (.ref 37), .none, (.ref 38), (.ref 39), (.ref 40), (.int 220 0), (.int 17 0), (.str "/claim/cut.py" 221)]), #[]⟩) ::
 (nat_lit 42, ⟨(.type "function"), .none, (.func ⟨"times", "times", dA (topK 4), .stmts (dB (topK 4)), dS (topK 4), 3, [], .none, .none, .none, (.str "dayahead.ratio" 187), .none, (.ref 41), .none, 0⟩), #[]⟩) ::
 (nat_lit 43, ⟨(.type "tuple"), .none, (.seq #[] 0), #[]⟩) ::
 (nat_lit 45, ⟨(.type "tuple"), .none, (.seq #[(.str "one" 226), (.str "other" 227)] 0), #[]⟩) ::
 (nat_lit 46, ⟨(.type "tuple"), .none, (.seq #[] 0), #[]⟩) ::
 (nat_lit 48, ⟨(.type "code"), .none, (.fields #[(.str "is_less" 223), (.str "is_less" 224), (.str "/claim/cut.py" 225), (.int 19 0), (.int 2 0), (.int 0 0), (.int 0 0), (.int 3 0), (.ref 43), (.bool .true), (.int 181 0), (.ref 44), .none, (.ref 45), (.ref 46), (.ref 47), (.int 228 0), (.int 19 0), (.str "/claim/cut.py" 229)]), #[]⟩) ::
 (nat_lit 49, ⟨(.type "function"), .none, (.func ⟨"is_less", "is_less", dA (topK 5), .stmts (dB (topK 5)), dS (topK 5), 3, [], .none, .none, .none, (.str "dayahead.ratio" 187), .none, (.ref 48), .none, 0⟩), #[]⟩) ::
 (nat_lit 50, ⟨(.type "tuple"), .none, (.seq #[] 0), #[]⟩) ::
 (nat_lit 52, ⟨(.type "tuple"), .none, (.seq #[(.str "count" 236), (.str "found" 237), (.str "layer" 238), (.str "size" 239), (.str "longer" 240), (.str "chosen" 241), (.str "start" 242), (.str "number" 243)] 0), #[]⟩) ::
 (nat_lit 53, ⟨(.type "tuple"), .none, (.seq #[] 0), #[]⟩) ::
 (nat_lit 55, ⟨(.type "code"), .none, (.fields #[(.str "choices" 233), (.str "choices" 234), (.str "/claim/cut.py" 235), (.int 22 0), (.int 1 0), (.int 0 0), (.int 0 0), (.int 3 0), (.ref 50), (.bool .true), (.int 181 0), (.ref 51), .none, (.ref 52), (.ref 53), (.ref 54), (.int 244 0), (.int 22 0), (.str "/claim/cut.py" 245)]), #[]⟩) ::
 (nat_lit 56, ⟨(.type "function"), .none, (.func ⟨"choices", "choices", dA (topK 7), .stmts (dB (topK 7)), dS (topK 7), 3, [], .none, .none, .none, (.str "dayahead.corners" 231), .none, (.ref 55), .none, 0⟩), #[]⟩) ::
 (nat_lit 57, ⟨(.type "tuple"), .none, (.seq #[] 0), #[]⟩) ::
 (nat_lit 59, ⟨(.type "tuple"), .none, (.seq #[(.str "rows" 250), (.str "column" 251), (.str "number" 252)] 0), #[]⟩) ::
 (nat_lit 60, ⟨(.type "tuple"), .none, (.seq #[] 0), #[]⟩) ::
 (nat_lit 62, ⟨(.type "code"), .none, (.fields #[(.str "pivot_row" 247), (.str "pivot_row" 248), (.str "/claim/cut.py" 249), (.int 34 0), (.int 2 0), (.int 0 0), (.int 0 0), (.int 3 0), (.ref 57), (.bool .true), (.int 181 0), (.ref 58), .none, (.ref 59), (.ref 60), (.ref 61), (.int 253 0), (.int 34 0), (.str "/claim/cut.py" 254)]), #[]⟩) ::
 (nat_lit 63, ⟨(.type "function"), .none, (.func ⟨"pivot_row", "pivot_row", dA (topK 8), .stmts (dB (topK 8)), dS (topK 8), 3, [], .none, .none, .none, (.str "dayahead.corners" 231), .none, (.ref 62), .none, 0⟩), #[]⟩) ::
 (nat_lit 64, ⟨(.type "tuple"), .none, (.seq #[] 0), #[]⟩) ::
 (nat_lit 67, ⟨(.type "code"), .none, (.fields #[(.str "cleared" 256), (.str "cleared" 257), (.str "/claim/cut.py" 258), (.int 39 0), (.int 2 0), (.int 0 0), (.int 0 0), (.int 3 0), (.ref 64), (.bool .true), (.int 181 0), (.ref 65), .none, .none, .none, (.ref 66), (.int 259 0), (.int 39 0), (.str "/claim/cut.py" 260)]), #[]⟩) ::
 (nat_lit 68, ⟨(.type "function"), .none, (.func ⟨"cleared", "cleared", dA (topK 9), .stmts (dB (topK 9)), dS (topK 9), 3, [], .none, .none, .none, (.str "dayahead.corners" 231), .none, (.ref 67), .none, 0⟩), #[]⟩) ::
 (nat_lit 69, ⟨(.type "tuple"), .none, (.seq #[] 0), #[]⟩) ::
 (nat_lit 72, ⟨(.type "code"), .none, (.fields #[(.str "solved" 262), (.str "solved" 263), (.str "/claim/cut.py" 264), (.int 48 0), (.int 2 0), (.int 0 0), (.int 0 0), (.int 3 0), (.ref 69), (.bool .true), (.int 181 0), (.ref 70), .none, .none, .none, (.ref 71), (.int 265 0), (.int 48 0), (.str "/claim/cut.py" 266)]), #[]⟩) ::
 (nat_lit 73, ⟨(.type "function"), .none, (.func ⟨"solved", "solved", dA (topK 10), .stmts (dB (topK 10)), dS (topK 10), 3, [], .none, .none, .none, (.str "dayahead.corners" 231), .none, (.ref 72), .none, 0⟩), #[]⟩) ::
 (nat_lit 74, ⟨(.type "tuple"), .none, (.seq #[] 0), #[]⟩) ::
 (nat_lit 77, ⟨(.type "code"), .none, (.fields #[(.str "narrowed" 268), (.str "narrowed" 269), (.str "/claim/cut.py" 270), (.int 62 0), (.int 2 0), (.int 0 0), (.int 0 0), (.int 3 0), (.ref 74), (.bool .true), (.int 181 0), (.ref 75), .none, .none, .none, (.ref 76), (.int 271 0), (.int 62 0), (.str "/claim/cut.py" 272)]), #[]⟩) ::
 (nat_lit 78, ⟨(.type "function"), .none, (.func ⟨"narrowed", "narrowed", dA (topK 11), .stmts (dB (topK 11)), dS (topK 11), 3, [], .none, .none, .none, (.str "dayahead.corners" 231), .none, (.ref 77), .none, 0⟩), #[]⟩) ::
 (nat_lit 79, ⟨(.type "tuple"), .none, (.seq #[] 0), #[]⟩) ::
 (nat_lit 82, ⟨(.type "code"), .none, (.fields #[(.str "corner_on" 274), (.str "corner_on" 275), (.str "/claim/cut.py" 276), (.int 64 0), (.int 3 0), (.int 0 0), (.int 0 0), (.int 3 0), (.ref 79), (.bool .true), (.int 181 0), (.ref 80), .none, .none, .none, (.ref 81), (.int 277 0), (.int 64 0), (.str "/claim/cut.py" 278)]), #[]⟩) ::
 (nat_lit 83, ⟨(.type "function"), .none, (.func ⟨"corner_on", "corner_on", dA (topK 12), .stmts (dB (topK 12)), dS (topK 12), 3, [], .none, .none, .none, (.str "dayahead.corners" 231), .none, (.ref 82), .none, 0⟩), #[]⟩) ::
 (nat_lit 84, ⟨(.type "tuple"), .none, (.seq #[] 0), #[]⟩) ::
 (nat_lit 86, ⟨(.type "tuple"), .none, (.seq #[(.str "rows" 283), (.str "count" 284), (.str "found" 285), (.str "chosen" 286), (.str "corner" 287)] 0), #[]⟩) ::
 (nat_lit 87, ⟨(.type "tuple"), .none, (.seq #[] 0), #[]⟩) ::
 (nat_lit 89, ⟨(.type "code"), .none, (.fields #[(.str "find_corners" 280), (.str "find_corners" 281), (.str "/claim/cut.py" 282), (.int 74 0), (.int 2 0), (.int 0 0), (.int 0 0), (.int 3 0), (.ref 84), (.bool .true), (.int 181 0), (.ref 85), .none, (.ref 86), (.ref 87), (.ref 88), (.int 288 0), (.int 74 0), (.str "/claim/cut.py" 289)]), #[]⟩) ::
 (nat_lit 90, ⟨(.type "function"), .none, (.func ⟨"find_corners", "find_corners", dA (topK 13), .stmts (dB (topK 13)), dS (topK 13), 3, [], .none, .none, .none, (.str "dayahead.corners" 231), .none, (.ref 89), .none, 0⟩), #[]⟩) ::
 (nat_lit 91, ⟨(.type "tuple"), .none, (.seq #[] 0), #[]⟩) ::
 (nat_lit 94, ⟨(.type "code"), .none, (.fields #[(.str "are_fair" 291), (.str "are_fair" 292), (.str "/claim/cut.py" 293), (.int 81 0), (.int 2 0), (.int 0 0), (.int 0 0), (.int 3 0), (.ref 91), (.bool .true), (.int 181 0), (.ref 92), .none, .none, .none, (.ref 93), (.int 294 0), (.int 81 0), (.str "/claim/cut.py" 295)]), #[]⟩) ::
 (nat_lit 95, ⟨(.type "function"), .none, (.func ⟨"are_fair", "are_fair", dA (topK 14), .stmts (dB (topK 14)), dS (topK 14), 3, [], .none, .none, .none, (.str "dayahead.corners" 231), .none, (.ref 94), .none, 0⟩), #[]⟩) ::
 (nat_lit 96, ⟨(.type "tuple"), .none, (.seq #[] 0), #[]⟩) ::
 (nat_lit 98, ⟨(.type "tuple"), .none, (.seq #[(.str "prices" 300), (.str "pays" 301), (.str "worth" 302), (.str "price" 303), (.str "paid" 304)] 0), #[]⟩) ::
 (nat_lit 99, ⟨(.type "tuple"), .none, (.seq #[] 0), #[]⟩) ::
 (nat_lit 101, ⟨(.type "code"), .none, (.fields #[(.str "worth_by" 297), (.str "worth_by" 298), (.str "/claim/cut.py" 299), (.int 86 0), (.int 2 0), (.int 0 0), (.int 0 0), (.int 3 0), (.ref 96), (.bool .true), (.int 181 0), (.ref 97), .none, (.ref 98), (.ref 99), (.ref 100), (.int 305 0), (.int 86 0), (.str "/claim/cut.py" 306)]), #[]⟩) ::
 (nat_lit 102, ⟨(.type "function"), .none, (.func ⟨"worth_by", "worth_by", dA (topK 15), .stmts (dB (topK 15)), dS (topK 15), 3, [], .none, .none, .none, (.str "dayahead.corners" 231), .none, (.ref 101), .none, 0⟩), #[]⟩) ::
 (nat_lit 103, ⟨(.type "tuple"), .none, (.seq #[] 0), #[]⟩) ::
 (nat_lit 105, ⟨(.type "tuple"), .none, (.seq #[(.str "corners" 311), (.str "pays" 312), (.str "least" 313), (.str "greatest" 314), (.str "corner" 315), (.str "worth" 316)] 0), #[]⟩) ::
 (nat_lit 106, ⟨(.type "tuple"), .none, (.seq #[] 0), #[]⟩) ::
 (nat_lit 108, ⟨(.type "code"), .none, (.fields #[(.str "least_and_greatest" 308), (.str "least_and_greatest" 309), (.str "/claim/cut.py" 310), (.int 91 0), (.int 2 0), (.int 0 0), (.int 0 0), (.int 3 0), (.ref 103), (.bool .true), (.int 181 0), (.ref 104), .none, (.ref 105), (.ref 106), (.ref 107), (.int 317 0), (.int 91 0), (.str "/claim/cut.py" 318)]), #[]⟩) ::
 (nat_lit 109, ⟨(.type "function"), .none, (.func ⟨"least_and_greatest", "least_and_greatest", dA (topK 16), .stmts (dB (topK 16)), dS (topK 16), 3, [], .none, .none, .none, (.str "dayahead.corners" 231), .none, (.ref 108), .none, 0⟩), #[]⟩) ::
 (nat_lit 110, ⟨(.type "tuple"), .none, (.seq #[] 0), #[]⟩) ::
 (nat_lit 113, ⟨(.type "code"), .none, (.fields #[(.str "together" 322), (.str "together" 323), (.str "/claim/cut.py" 324), (.int 102 0), (.int 2 0), (.int 0 0), (.int 0 0), (.int 3 0), (.ref 110), (.bool .true), (.int 181 0), (.ref 111), .none, .none, .none, (.ref 112), (.int 325 0), (.int 102 0), (.str "/claim/cut.py" 326)]), #[]⟩) ::
 (nat_lit 114, ⟨(.type "function"), .none, (.func ⟨"together", "together", dA (topK 18), .stmts (dB (topK 18)), dS (topK 18), 3, [], .none, .none, .none, (.str "dayahead.pieces" 320), .none, (.ref 113), .none, 0⟩), #[]⟩) ::
 (nat_lit 115, ⟨(.type "tuple"), .none, (.seq #[] 0), #[]⟩) ::
 (nat_lit 117, ⟨(.type "tuple"), .none, (.seq #[(.str "made" 331), (.str "cost" 332), (.str "paid" 333)] 0), #[]⟩) ::
 (nat_lit 118, ⟨(.type "tuple"), .none, (.seq #[] 0), #[]⟩) ::
 (nat_lit 120, ⟨(.type "code"), .none, (.fields #[(.str "is_money_for_nothing" 328), (.str "is_money_for_nothing" 329), (.str "/claim/cut.py" 330), (.int 108 0), (.int 1 0), (.int 0 0), (.int 0 0), (.int 3 0), (.ref 115), (.bool .true), (.int 181 0), (.ref 116), .none, (.ref 117), (.ref 118), (.ref 119), (.int 334 0), (.int 108 0), (.str "/claim/cut.py" 335)]), #[]⟩) ::
 (nat_lit 121, ⟨(.type "function"), .none, (.func ⟨"is_money_for_nothing", "is_money_for_nothing", dA (topK 19), .stmts (dB (topK 19)), dS (topK 19), 3, [], .none, .none, .none, (.str "dayahead.pieces" 320), .none, (.ref 120), .none, 0⟩), #[]⟩) ::
 (nat_lit 129, ⟨(.type "tuple"), .none, (.seq #[] 0), #[]⟩) ::
 (nat_lit 131, ⟨(.type "tuple"), .none, (.seq #[(.str "self" 374), (.str "cost" 375), (.str "worths" 376)] 0), #[]⟩) ::
 (nat_lit 132, ⟨(.type "tuple"), .none, (.seq #[] 0), #[]⟩) ::
 (nat_lit 134, ⟨(.type "code"), .none, (.fields #[(.str "__init__" 371), (.str "Thing.__init__" 372), (.str "/claim/cut.py" 373), (.int 123 0), (.int 3 0), (.int 0 0), (.int 0 0), (.int 3 0), (.ref 129), (.bool .true), (.int 181 0), (.ref 130), .none, (.ref 131), (.ref 132), (.ref 133), (.int 377 0), (.int 123 0), (.str "/claim/cut.py" 378)]), #[]⟩) ::
 (nat_lit 135, ⟨(.type "function"), .none, (.func ⟨"__init__", "Thing.__init__", dA (inC (topK 29) 0), .stmts (dB (inC (topK 29) 0)), dS (inC (topK 29) 0), 3, [], .none, .none, .none, (.str "dayahead.day" 337), .none, (.ref 134), .none, 0⟩), #[]⟩) ::
 (nat_lit 136, ⟨(.type "tuple"), .none, (.seq #[(.str "cost" 380), (.str "worths" 381)] 0), #[]⟩) ::
 (nat_lit 137, ⟨(.type "dict"), .none, (.dict #[⟨kh P "__module__", (.str "__module__" 366), (.str "dayahead.day" 337)⟩, ⟨kh P "__firstlineno__", (.str "__firstlineno__" 370), (.int 121 369)⟩, ⟨kh P "__init__", (.str "__init__" 379), (.ref 135)⟩, ⟨kh P "__static_attributes__", (.str "__static_attributes__" 382), (.ref 136)⟩, ⟨kh P "__dict__", (.str "__dict__" 384), (.ref 139)⟩, ⟨kh P "__weakref__", (.str "__weakref__" 386), (.ref 140)⟩, ⟨kh P "__doc__", (.str "__doc__" 387), .none⟩] 4), #[]⟩) ::
 (nat_lit 138, ⟨(.type "type"), .none, (.cls ⟨"Thing", [(.type "object")], [(.ref 138), (.type "object")], 137, "Thing", .true, [], [], .false, .none, .false⟩), #[.none, .none, (.some (.str "Thing" 359)), (.some (.str "Thing" 367)), (.some (.builtin "object.__new__")), (.some (.bool .true))]⟩) ::
 (nat_lit 139, ⟨(.type "getset_descriptor"), .none, (.fields #[(.str "__dict__" 383), (.ref 138), (.builtin "function.__dict__"), (.builtin "function.__dict__#set")]), #[]⟩) ::
 (nat_lit 140, ⟨(.type "getset_descriptor"), .none, (.fields #[(.str "__weakref__" 385), (.ref 138), (.builtin "ExceptionGroup.__weakref__"), .none]), #[]⟩) ::
 (nat_lit 150, ⟨(.type "tuple"), .none, (.seq #[] 0), #[]⟩) ::
 (nat_lit 152, ⟨(.type "tuple"), .none, (.seq #[(.str "self" 405)] 0), #[]⟩) ::
 (nat_lit 153, ⟨(.type "tuple"), .none, (.seq #[] 0), #[]⟩) ::
 (nat_lit 155, ⟨(.type "code"), .none, (.fields #[(.str "__init__" 402), (.str "Day.__init__" 403), (.str "/claim/cut.py" 404), (.int 128 0), (.int 1 0), (.int 0 0), (.int 0 0), (.int 3 0), (.ref 150), (.bool .true), (.int 181 0), (.ref 151), .none, (.ref 152), (.ref 153), (.ref 154), (.int 406 0), (.int 128 0), (.str "/claim/cut.py" 407)]), #[]⟩) ::
 (nat_lit 156, ⟨(.type "function"), .none, (.func ⟨"__init__", "Day.__init__", dA (inC (topK 30) 0), .stmts (dB (inC (topK 30) 0)), dS (inC (topK 30) 0), 3, [], .none, .none, .none, (.str "dayahead.day" 337), .none, (.ref 155), .none, 0⟩), #[]⟩) ::
 (nat_lit 157, ⟨(.type "tuple"), .none, (.seq #[] 0), #[]⟩) ::
 (nat_lit 159, ⟨(.type "tuple"), .none, (.seq #[(.str "self" 412), (.str "n" 413), (.str "p" 414), (.str "b" 415)] 0), #[]⟩) ::
 (nat_lit 160, ⟨(.type "tuple"), .none, (.seq #[] 0), #[]⟩) ::
 (nat_lit 162, ⟨(.type "code"), .none, (.fields #[(.str "begin" 409), (.str "Day.begin" 410), (.str "/claim/cut.py" 411), (.int 135 0), (.int 4 0), (.int 0 0), (.int 0 0), (.int 3 0), (.ref 157), (.bool .true), (.int 181 0), (.ref 158), .none, (.ref 159), (.ref 160), (.ref 161), (.int 416 0), (.int 135 0), (.str "/claim/cut.py" 417)]), #[]⟩) ::
 (nat_lit 163, ⟨(.type "function"), .none, (.func ⟨"begin", "Day.begin", dA (inC (topK 30) 1), .stmts (dB (inC (topK 30) 1)), dS (inC (topK 30) 1), 3, [], .none, .none, .none, (.str "dayahead.day" 337), .none, (.ref 162), .none, 0⟩), #[]⟩) ::
 (nat_lit 164, ⟨(.type "tuple"), .none, (.seq #[] 0), #[]⟩) ::
 (nat_lit 166, ⟨(.type "tuple"), .none, (.seq #[(.str "self" 422), (.str "p" 423), (.str "worths" 424)] 0), #[]⟩) ::
 (nat_lit 167, ⟨(.type "tuple"), .none, (.seq #[] 0), #[]⟩) ::
 (nat_lit 169, ⟨(.type "code"), .none, (.fields #[(.str "thing" 419), (.str "Day.thing" 420), (.str "/claim/cut.py" 421), (.int 145 0), (.int 3 0), (.int 0 0), (.int 0 0), (.int 3 0), (.ref 164), (.bool .true), (.int 181 0), (.ref 165), .none, (.ref 166), (.ref 167), (.ref 168), (.int 425 0), (.int 145 0), (.str "/claim/cut.py" 426)]), #[]⟩) ::
 (nat_lit 170, ⟨(.type "function"), .none, (.func ⟨"thing", "Day.thing", dA (inC (topK 30) 2), .stmts (dB (inC (topK 30) 2)), dS (inC (topK 30) 2), 3, [], .none, .none, .none, (.str "dayahead.day" 337), .none, (.ref 169), .none, 0⟩), #[]⟩) ::
 (nat_lit 171, ⟨(.type "tuple"), .none, (.seq #[] 0), #[]⟩) ::
 (nat_lit 173, ⟨(.type "tuple"), .none, (.seq #[(.str "self" 431), (.str "t" 432)] 0), #[]⟩) ::
 (nat_lit 174, ⟨(.type "tuple"), .none, (.seq #[] 0), #[]⟩) ::
 (nat_lit 176, ⟨(.type "code"), .none, (.fields #[(.str "drop" 428), (.str "Day.drop" 429), (.str "/claim/cut.py" 430), (.int 153 0), (.int 2 0), (.int 0 0), (.int 0 0), (.int 3 0), (.ref 171), (.bool .true), (.int 181 0), (.ref 172), .none, (.ref 173), (.ref 174), (.ref 175), (.int 433 0), (.int 153 0), (.str "/claim/cut.py" 434)]), #[]⟩) ::
 (nat_lit 177, ⟨(.type "function"), .none, (.func ⟨"drop", "Day.drop", dA (inC (topK 30) 3), .stmts (dB (inC (topK 30) 3)), dS (inC (topK 30) 3), 3, [], .none, .none, .none, (.str "dayahead.day" 337), .none, (.ref 176), .none, 0⟩), #[]⟩) ::
 (nat_lit 178, ⟨(.type "tuple"), .none, (.seq #[] 0), #[]⟩) ::
 (nat_lit 180, ⟨(.type "tuple"), .none, (.seq #[(.str "self" 439), (.str "t" 440), (.str "p" 441), (.str "refused" 442), (.str "thing" 443), (.str "was" 444)] 0), #[]⟩) ::
 (nat_lit 181, ⟨(.type "tuple"), .none, (.seq #[] 0), #[]⟩) ::
 (nat_lit 183, ⟨(.type "code"), .none, (.fields #[(.str "price" 436), (.str "Day.price" 437), (.str "/claim/cut.py" 438), (.int 159 0), (.int 3 0), (.int 0 0), (.int 0 0), (.int 3 0), (.ref 178), (.bool .true), (.int 181 0), (.ref 179), .none, (.ref 180), (.ref 181), (.ref 182), (.int 445 0), (.int 159 0), (.str "/claim/cut.py" 446)]), #[]⟩) ::
 (nat_lit 184, ⟨(.type "function"), .none, (.func ⟨"price", "Day.price", dA (inC (topK 30) 4), .stmts (dB (inC (topK 30) 4)), dS (inC (topK 30) 4), 3, [], .none, .none, .none, (.str "dayahead.day" 337), .none, (.ref 183), .none, 0⟩), #[]⟩) ::
 (nat_lit 185, ⟨(.type "tuple"), .none, (.seq #[] 0), #[]⟩) ::
 (nat_lit 187, ⟨(.type "tuple"), .none, (.seq #[(.str "self" 451), (.str "t" 452), (.str "thing" 453)] 0), #[]⟩) ::
 (nat_lit 188, ⟨(.type "tuple"), .none, (.seq #[] 0), #[]⟩) ::
 (nat_lit 190, ⟨(.type "code"), .none, (.fields #[(.str "look" 448), (.str "Day.look" 449), (.str "/claim/cut.py" 450), (.int 168 0), (.int 2 0), (.int 0 0), (.int 0 0), (.int 3 0), (.ref 185), (.bool .true), (.int 181 0), (.ref 186), .none, (.ref 187), (.ref 188), (.ref 189), (.int 454 0), (.int 168 0), (.str "/claim/cut.py" 455)]), #[]⟩) ::
 (nat_lit 191, ⟨(.type "function"), .none, (.func ⟨"look", "Day.look", dA (inC (topK 30) 5), .stmts (dB (inC (topK 30) 5)), dS (inC (topK 30) 5), 3, [], .none, .none, .none, (.str "dayahead.day" 337), .none, (.ref 190), .none, 0⟩), #[]⟩) ::
 (nat_lit 192, ⟨(.type "tuple"), .none, (.seq #[] 0), #[]⟩) ::
 (nat_lit 194, ⟨(.type "tuple"), .none, (.seq #[(.str "self" 460), (.str "told" 461)] 0), #[]⟩) ::
 (nat_lit 195, ⟨(.type "tuple"), .none, (.seq #[] 0), #[]⟩) ::
 (nat_lit 197, ⟨(.type "code"), .none, (.fields #[(.str "rate" 457), (.str "Day.rate" 458), (.str "/claim/cut.py" 459), (.int 174 0), (.int 1 0), (.int 0 0), (.int 0 0), (.int 3 0), (.ref 192), (.bool .true), (.int 181 0), (.ref 193), .none, (.ref 194), (.ref 195), (.ref 196), (.int 462 0), (.int 174 0), (.str "/claim/cut.py" 463)]), #[]⟩) ::
 (nat_lit 198, ⟨(.type "function"), .none, (.func ⟨"rate", "Day.rate", dA (inC (topK 30) 6), .stmts (dB (inC (topK 30) 6)), dS (inC (topK 30) 6), 3, [], .none, .none, .none, (.str "dayahead.day" 337), .none, (.ref 197), .none, 0⟩), #[]⟩) ::
 (nat_lit 199, ⟨(.type "tuple"), .none, (.seq #[] 0), #[]⟩) ::
 (nat_lit 201, ⟨(.type "tuple"), .none, (.seq #[(.str "self" 468)] 0), #[]⟩) ::
 (nat_lit 202, ⟨(.type "tuple"), .none, (.seq #[] 0), #[]⟩) ::
 (nat_lit 204, ⟨(.type "code"), .none, (.fields #[(.str "state" 465), (.str "Day.state" 466), (.str "/claim/cut.py" 467), (.int 179 0), (.int 1 0), (.int 0 0), (.int 0 0), (.int 3 0), (.ref 199), (.bool .true), (.int 181 0), (.ref 200), .none, (.ref 201), (.ref 202), (.ref 203), (.int 469 0), (.int 179 0), (.str "/claim/cut.py" 470)]), #[]⟩) ::
 (nat_lit 205, ⟨(.type "function"), .none, (.func ⟨"state", "Day.state", dA (inC (topK 30) 7), .stmts (dB (inC (topK 30) 7)), dS (inC (topK 30) 7), 3, [], .none, .none, .none, (.str "dayahead.day" 337), .none, (.ref 204), .none, 0⟩), #[]⟩) ::
 (nat_lit 206, ⟨(.type "tuple"), .none, (.seq #[] 0), #[]⟩) ::
 (nat_lit 208, ⟨(.type "tuple"), .none, (.seq #[(.str "self" 475)] 0), #[]⟩) ::
 (nat_lit 209, ⟨(.type "tuple"), .none, (.seq #[] 0), #[]⟩) ::
 (nat_lit 211, ⟨(.type "code"), .none, (.fields #[(.str "fair" 472), (.str "Day.fair" 473), (.str "/claim/cut.py" 474), (.int 182 0), (.int 1 0), (.int 0 0), (.int 0 0), (.int 3 0), (.ref 206), (.bool .true), (.int 181 0), (.ref 207), .none, (.ref 208), (.ref 209), (.ref 210), (.int 476 0), (.int 182 0), (.str "/claim/cut.py" 477)]), #[]⟩) ::
 (nat_lit 212, ⟨(.type "function"), .none, (.func ⟨"fair", "Day.fair", dA (inC (topK 30) 8), .stmts (dB (inC (topK 30) 8)), dS (inC (topK 30) 8), 3, [], .none, .none, .none, (.str "dayahead.day" 337), .none, (.ref 211), .none, 0⟩), #[]⟩) ::
 (nat_lit 213, ⟨(.type "tuple"), .none, (.seq #[] 0), #[]⟩) ::
 (nat_lit 215, ⟨(.type "tuple"), .none, (.seq #[(.str "self" 482), (.str "t" 483), (.str "p" 484), (.str "refused" 485), (.str "rows" 486)] 0), #[]⟩) ::
 (nat_lit 216, ⟨(.type "tuple"), .none, (.seq #[] 0), #[]⟩) ::
 (nat_lit 218, ⟨(.type "code"), .none, (.fields #[(.str "would" 479), (.str "Day.would" 480), (.str "/claim/cut.py" 481), (.int 185 0), (.int 3 0), (.int 0 0), (.int 0 0), (.int 3 0), (.ref 213), (.bool .true), (.int 181 0), (.ref 214), .none, (.ref 215), (.ref 216), (.ref 217), (.int 487 0), (.int 185 0), (.str "/claim/cut.py" 488)]), #[]⟩) ::
 (nat_lit 219, ⟨(.type "function"), .none, (.func ⟨"would", "Day.would", dA (inC (topK 30) 9), .stmts (dB (inC (topK 30) 9)), dS (inC (topK 30) 9), 3, [], .none, .none, .none, (.str "dayahead.day" 337), .none, (.ref 218), .none, 0⟩), #[]⟩) ::
 (nat_lit 220, ⟨(.type "tuple"), .none, (.seq #[] 0), #[]⟩) ::
 (nat_lit 222, ⟨(.type "tuple"), .none, (.seq #[(.str "self" 493), (.str "found" 494), (.str "told" 495), (.str "corner" 496), (.str "price" 497)] 0), #[]⟩) ::
 (nat_lit 223, ⟨(.type "tuple"), .none, (.seq #[] 0), #[]⟩) ::
 (nat_lit 225, ⟨(.type "code"), .none, (.fields #[(.str "corners" 490), (.str "Day.corners" 491), (.str "/claim/cut.py" 492), (.int 193 0), (.int 1 0), (.int 0 0), (.int 0 0), (.int 3 0), (.ref 220), (.bool .true), (.int 181 0), (.ref 221), .none, (.ref 222), (.ref 223), (.ref 224), (.int 498 0), (.int 193 0), (.str "/claim/cut.py" 499)]), #[]⟩) ::
 (nat_lit 226, ⟨(.type "function"), .none, (.func ⟨"corners", "Day.corners", dA (inC (topK 30) 10), .stmts (dB (inC (topK 30) 10)), dS (inC (topK 30) 10), 3, [], .none, .none, .none, (.str "dayahead.day" 337), .none, (.ref 225), .none, 0⟩), #[]⟩) ::
 (nat_lit 227, ⟨(.type "tuple"), .none, (.seq #[] 0), #[]⟩) ::
 (nat_lit 229, ⟨(.type "tuple"), .none, (.seq #[(.str "self" 504), (.str "corners" 505)] 0), #[]⟩) ::
 (nat_lit 230, ⟨(.type "tuple"), .none, (.seq #[] 0), #[]⟩) ::
 (nat_lit 232, ⟨(.type "code"), .none, (.fields #[(.str "whole" 501), (.str "Day.whole" 502), (.str "/claim/cut.py" 503), (.int 201 0), (.int 1 0), (.int 0 0), (.int 0 0), (.int 3 0), (.ref 227), (.bool .true), (.int 181 0), (.ref 228), .none, (.ref 229), (.ref 230), (.ref 231), (.int 506 0), (.int 201 0), (.str "/claim/cut.py" 507)]), #[]⟩) ::
 (nat_lit 233, ⟨(.type "function"), .none, (.func ⟨"whole", "Day.whole", dA (inC (topK 30) 11), .stmts (dB (inC (topK 30) 11)), dS (inC (topK 30) 11), 3, [], .none, .none, .none, (.str "dayahead.day" 337), .none, (.ref 232), .none, 0⟩), #[]⟩) ::
 (nat_lit 234, ⟨(.type "tuple"), .none, (.seq #[] 0), #[]⟩) ::
 (nat_lit 236, ⟨(.type "tuple"), .none, (.seq #[(.str "self" 512), (.str "some" 513), (.str "made" 514)] 0), #[]⟩) ::
 (nat_lit 237, ⟨(.type "tuple"), .none, (.seq #[] 0), #[]⟩) ::
 (nat_lit 239, ⟨(.type "code"), .none, (.fields #[(.str "free" 509), (.str "Day.free" 510), (.str "/claim/cut.py" 511), (.int 207 0), (.int 2 0), (.int 0 0), (.int 0 0), (.int 3 0), (.ref 234), (.bool .true), (.int 181 0), (.ref 235), .none, (.ref 236), (.ref 237), (.ref 238), (.int 515 0), (.int 207 0), (.str "/claim/cut.py" 516)]), #[]⟩) ::
 (nat_lit 240, ⟨(.type "function"), .none, (.func ⟨"free", "Day.free", dA (inC (topK 30) 12), .stmts (dB (inC (topK 30) 12)), dS (inC (topK 30) 12), 3, [], .none, .none, .none, (.str "dayahead.day" 337), .none, (.ref 239), .none, 0⟩), #[]⟩) ::
 (nat_lit 241, ⟨(.type "tuple"), .none, (.seq #[] 0), #[]⟩) ::
 (nat_lit 243, ⟨(.type "tuple"), .none, (.seq #[(.str "self" 521), (.str "some" 522), (.str "made" 523)] 0), #[]⟩) ::
 (nat_lit 244, ⟨(.type "tuple"), .none, (.seq #[] 0), #[]⟩) ::
 (nat_lit 246, ⟨(.type "code"), .none, (.fields #[(.str "pays" 518), (.str "Day.pays" 519), (.str "/claim/cut.py" 520), (.int 213 0), (.int 2 0), (.int 0 0), (.int 0 0), (.int 3 0), (.ref 241), (.bool .true), (.int 181 0), (.ref 242), .none, (.ref 243), (.ref 244), (.ref 245), (.int 524 0), (.int 213 0), (.str "/claim/cut.py" 525)]), #[]⟩) ::
 (nat_lit 247, ⟨(.type "function"), .none, (.func ⟨"pays", "Day.pays", dA (inC (topK 30) 13), .stmts (dB (inC (topK 30) 13)), dS (inC (topK 30) 13), 3, [], .none, .none, .none, (.str "dayahead.day" 337), .none, (.ref 246), .none, 0⟩), #[]⟩) ::
 (nat_lit 248, ⟨(.type "tuple"), .none, (.seq #[] 0), #[]⟩) ::
 (nat_lit 250, ⟨(.type "tuple"), .none, (.seq #[(.str "self" 530), (.str "pays" 531)] 0), #[]⟩) ::
 (nat_lit 251, ⟨(.type "tuple"), .none, (.seq #[] 0), #[]⟩) ::
 (nat_lit 253, ⟨(.type "code"), .none, (.fields #[(.str "promise" 527), (.str "Day.promise" 528), (.str "/claim/cut.py" 529), (.int 219 0), (.int 2 0), (.int 0 0), (.int 0 0), (.int 3 0), (.ref 248), (.bool .true), (.int 181 0), (.ref 249), .none, (.ref 250), (.ref 251), (.ref 252), (.int 532 0), (.int 219 0), (.str "/claim/cut.py" 533)]), #[]⟩) ::
 (nat_lit 254, ⟨(.type "function"), .none, (.func ⟨"promise", "Day.promise", dA (inC (topK 30) 14), .stmts (dB (inC (topK 30) 14)), dS (inC (topK 30) 14), 3, [], .none, .none, .none, (.str "dayahead.day" 337), .none, (.ref 253), .none, 0⟩), #[]⟩) ::
 (nat_lit 255, ⟨(.type "tuple"), .none, (.seq #[] 0), #[]⟩) ::
 (nat_lit 257, ⟨(.type "tuple"), .none, (.seq #[(.str "self" 538), (.str "x" 539), (.str "y" 540), (.str "pays" 541), (.str "span" 542), (.str "asked" 543)] 0), #[]⟩) ::
 (nat_lit 258, ⟨(.type "tuple"), .none, (.seq #[] 0), #[]⟩) ::
 (nat_lit 260, ⟨(.type "code"), .none, (.fields #[(.str "may" 535), (.str "Day.may" 536), (.str "/claim/cut.py" 537), (.int 224 0), (.int 4 0), (.int 0 0), (.int 0 0), (.int 3 0), (.ref 255), (.bool .true), (.int 181 0), (.ref 256), .none, (.ref 257), (.ref 258), (.ref 259), (.int 544 0), (.int 224 0), (.str "/claim/cut.py" 545)]), #[]⟩) ::
 (nat_lit 261, ⟨(.type "function"), .none, (.func ⟨"may", "Day.may", dA (inC (topK 30) 15), .stmts (dB (inC (topK 30) 15)), dS (inC (topK 30) 15), 3, [], .none, .none, .none, (.str "dayahead.day" 337), .none, (.ref 260), .none, 0⟩), #[]⟩) ::
 (nat_lit 262, ⟨(.type "tuple"), .none, (.seq #[] 0), #[]⟩) ::
 (nat_lit 264, ⟨(.type "tuple"), .none, (.seq #[(.str "self" 550), (.str "pays" 551)] 0), #[]⟩) ::
 (nat_lit 265, ⟨(.type "tuple"), .none, (.seq #[] 0), #[]⟩) ::
 (nat_lit 267, ⟨(.type "code"), .none, (.fields #[(.str "one" 547), (.str "Day.one" 548), (.str "/claim/cut.py" 549), (.int 235 0), (.int 2 0), (.int 0 0), (.int 0 0), (.int 3 0), (.ref 262), (.bool .true), (.int 181 0), (.ref 263), .none, (.ref 264), (.ref 265), (.ref 266), (.int 552 0), (.int 235 0), (.str "/claim/cut.py" 553)]), #[]⟩) ::
 (nat_lit 268, ⟨(.type "function"), .none, (.func ⟨"one", "Day.one", dA (inC (topK 30) 16), .stmts (dB (inC (topK 30) 16)), dS (inC (topK 30) 16), 3, [], .none, .none, .none, (.str "dayahead.day" 337), .none, (.ref 267), .none, 0⟩), #[]⟩) ::
 (nat_lit 269, ⟨(.type "tuple"), .none, (.seq #[] 0), #[]⟩) ::
 (nat_lit 272, ⟨(.type "code"), .none, (.fields #[(.str "call" 555), (.str "Day.call" 556), (.str "/claim/cut.py" 557), (.int 238 0), (.int 3 0), (.int 0 0), (.int 0 0), (.int 3 0), (.ref 269), (.bool .true), (.int 181 0), (.ref 270), .none, .none, .none, (.ref 271), (.int 558 0), (.int 238 0), (.str "/claim/cut.py" 559)]), #[]⟩) ::
 (nat_lit 273, ⟨(.type "function"), .none, (.func ⟨"call", "Day.call", dA (inC (topK 30) 17), .stmts (dB (inC (topK 30) 17)), dS (inC (topK 30) 17), 3, [], .none, .none, .none, (.str "dayahead.day" 337), .none, (.ref 272), .none, 0⟩), #[]⟩) ::
 (nat_lit 274, ⟨(.type "tuple"), .none, (.seq #[] 0), #[]⟩) ::
 (nat_lit 277, ⟨(.type "code"), .none, (.fields #[(.str "put" 561), (.str "Day.put" 562), (.str "/claim/cut.py" 563), (.int 244 0), (.int 3 0), (.int 0 0), (.int 0 0), (.int 3 0), (.ref 274), (.bool .true), (.int 181 0), (.ref 275), .none, .none, .none, (.ref 276), (.int 564 0), (.int 244 0), (.str "/claim/cut.py" 565)]), #[]⟩) ::
 (nat_lit 278, ⟨(.type "function"), .none, (.func ⟨"put", "Day.put", dA (inC (topK 30) 18), .stmts (dB (inC (topK 30) 18)), dS (inC (topK 30) 18), 3, [], .none, .none, .none, (.str "dayahead.day" 337), .none, (.ref 277), .none, 0⟩), #[]⟩) ::
 (nat_lit 279, ⟨(.type "tuple"), .none, (.seq #[] 0), #[]⟩) ::
 (nat_lit 282, ⟨(.type "code"), .none, (.fields #[(.str "of" 567), (.str "Day.of" 568), (.str "/claim/cut.py" 569), (.int 250 0), (.int 2 0), (.int 0 0), (.int 0 0), (.int 3 0), (.ref 279), (.bool .true), (.int 181 0), (.ref 280), .none, .none, .none, (.ref 281), (.int 570 0), (.int 250 0), (.str "/claim/cut.py" 571)]), #[]⟩) ::
 (nat_lit 283, ⟨(.type "function"), .none, (.func ⟨"of", "Day.of", dA (inC (topK 30) 19), .stmts (dB (inC (topK 30) 19)), dS (inC (topK 30) 19), 3, [], .none, .none, .none, (.str "dayahead.day" 337), .none, (.ref 282), .none, 0⟩), #[]⟩) ::
 (nat_lit 284, ⟨(.type "tuple"), .none, (.seq #[] 0), #[]⟩) ::
 (nat_lit 286, ⟨(.type "tuple"), .none, (.seq #[(.str "self" 576), (.str "t" 577)] 0), #[]⟩) ::
 (nat_lit 287, ⟨(.type "tuple"), .none, (.seq #[] 0), #[]⟩) ::
 (nat_lit 289, ⟨(.type "code"), .none, (.fields #[(.str "has_thing" 573), (.str "Day.has_thing" 574), (.str "/claim/cut.py" 575), (.int 255 0), (.int 2 0), (.int 0 0), (.int 0 0), (.int 3 0), (.ref 284), (.bool .true), (.int 181 0), (.ref 285), .none, (.ref 286), (.ref 287), (.ref 288), (.int 578 0), (.int 255 0), (.str "/claim/cut.py" 579)]), #[]⟩) ::
 (nat_lit 290, ⟨(.type "function"), .none, (.func ⟨"has_thing", "Day.has_thing", dA (inC (topK 30) 20), .stmts (dB (inC (topK 30) 20)), dS (inC (topK 30) 20), 3, [], .none, .none, .none, (.str "dayahead.day" 337), .none, (.ref 289), .none, 0⟩), #[]⟩) ::
 (nat_lit 291, ⟨(.type "tuple"), .none, (.seq #[] 0), #[]⟩) ::
 (nat_lit 293, ⟨(.type "tuple"), .none, (.seq #[(.str "self" 584), (.str "t" 585), (.str "number" 586)] 0), #[]⟩) ::
 (nat_lit 294, ⟨(.type "tuple"), .none, (.seq #[] 0), #[]⟩) ::
 (nat_lit 296, ⟨(.type "code"), .none, (.fields #[(.str "refusal" 581), (.str "Day.refusal" 582), (.str "/claim/cut.py" 583), (.int 258 0), (.int 3 0), (.int 0 0), (.int 0 0), (.int 3 0), (.ref 291), (.bool .true), (.int 181 0), (.ref 292), .none, (.ref 293), (.ref 294), (.ref 295), (.int 587 0), (.int 258 0), (.str "/claim/cut.py" 588)]), #[]⟩) ::
 (nat_lit 297, ⟨(.type "function"), .none, (.func ⟨"refusal", "Day.refusal", dA (inC (topK 30) 21), .stmts (dB (inC (topK 30) 21)), dS (inC (topK 30) 21), 3, [], .none, .none, .none, (.str "dayahead.day" 337), .none, (.ref 296), .none, 0⟩), #[]⟩) ::
 (nat_lit 298, ⟨(.type "tuple"), .none, (.seq #[] 0), #[]⟩) ::
 (nat_lit 301, ⟨(.type "code"), .none, (.fields #[(.str "is_row" 590), (.str "Day.is_row" 591), (.str "/claim/cut.py" 592), (.int 265 0), (.int 2 0), (.int 0 0), (.int 0 0), (.int 3 0), (.ref 298), (.bool .true), (.int 181 0), (.ref 299), .none, .none, .none, (.ref 300), (.int 593 0), (.int 265 0), (.str "/claim/cut.py" 594)]), #[]⟩) ::
 (nat_lit 302, ⟨(.type "function"), .none, (.func ⟨"is_row", "Day.is_row", dA (inC (topK 30) 22), .stmts (dB (inC (topK 30) 22)), dS (inC (topK 30) 22), 3, [], .none, .none, .none, (.str "dayahead.day" 337), .none, (.ref 301), .none, 0⟩), #[]⟩) ::
 (nat_lit 303, ⟨(.type "tuple"), .none, (.seq #[] 0), #[]⟩) ::
 (nat_lit 306, ⟨(.type "code"), .none, (.fields #[(.str "is_some" 596), (.str "Day.is_some" 597), (.str "/claim/cut.py" 598), (.int 268 0), (.int 2 0), (.int 0 0), (.int 0 0), (.int 3 0), (.ref 303), (.bool .true), (.int 181 0), (.ref 304), .none, .none, .none, (.ref 305), (.int 599 0), (.int 268 0), (.str "/claim/cut.py" 600)]), #[]⟩) ::
 (nat_lit 307, ⟨(.type "function"), .none, (.func ⟨"is_some", "Day.is_some", dA (inC (topK 30) 23), .stmts (dB (inC (topK 30) 23)), dS (inC (topK 30) 23), 3, [], .none, .none, .none, (.str "dayahead.day" 337), .none, (.ref 306), .none, 0⟩), #[]⟩) ::
 (nat_lit 308, ⟨(.type "tuple"), .none, (.seq #[] 0), #[]⟩) ::
 (nat_lit 310, ⟨(.type "tuple"), .none, (.seq #[(.str "self" 605), (.str "rows" 606), (.str "thing" 607)] 0), #[]⟩) ::
 (nat_lit 311, ⟨(.type "tuple"), .none, (.seq #[] 0), #[]⟩) ::
 (nat_lit 313, ⟨(.type "code"), .none, (.fields #[(.str "rows" 602), (.str "Day.rows" 603), (.str "/claim/cut.py" 604), (.int 271 0), (.int 1 0), (.int 0 0), (.int 0 0), (.int 3 0), (.ref 308), (.bool .true), (.int 181 0), (.ref 309), .none, (.ref 310), (.ref 311), (.ref 312), (.int 608 0), (.int 271 0), (.str "/claim/cut.py" 609)]), #[]⟩) ::
 (nat_lit 314, ⟨(.type "function"), .none, (.func ⟨"rows", "Day.rows", dA (inC (topK 30) 24), .stmts (dB (inC (topK 30) 24)), dS (inC (topK 30) 24), 3, [], .none, .none, .none, (.str "dayahead.day" 337), .none, (.ref 313), .none, 0⟩), #[]⟩) ::
 (nat_lit 315, ⟨(.type "tuple"), .none, (.seq #[] 0), #[]⟩) ::
 (nat_lit 317, ⟨(.type "tuple"), .none, (.seq #[(.str "self" 614)] 0), #[]⟩) ::
 (nat_lit 318, ⟨(.type "tuple"), .none, (.seq #[] 0), #[]⟩) ::
 (nat_lit 320, ⟨(.type "code"), .none, (.fields #[(.str "all_corners" 611), (.str "Day.all_corners" 612), (.str "/claim/cut.py" 613), (.int 277 0), (.int 1 0), (.int 0 0), (.int 0 0), (.int 3 0), (.ref 315), (.bool .true), (.int 181 0), (.ref 316), .none, (.ref 317), (.ref 318), (.ref 319), (.int 615 0), (.int 277 0), (.str "/claim/cut.py" 616)]), #[]⟩) ::
 (nat_lit 321, ⟨(.type "function"), .none, (.func ⟨"all_corners", "Day.all_corners", dA (inC (topK 30) 25), .stmts (dB (inC (topK 30) 25)), dS (inC (topK 30) 25), 3, [], .none, .none, .none, (.str "dayahead.day" 337), .none, (.ref 320), .none, 0⟩), #[]⟩) ::
 (nat_lit 322, ⟨(.type "tuple"), .none, (.seq #[] 0), #[]⟩) ::
 (nat_lit 324, ⟨(.type "tuple"), .none, (.seq #[(.str "self" 621), (.str "pays" 622), (.str "corners" 623)] 0), #[]⟩) ::
 (nat_lit 325, ⟨(.type "tuple"), .none, (.seq #[] 0), #[]⟩) ::
 (nat_lit 327, ⟨(.type "code"), .none, (.fields #[(.str "span" 618), (.str "Day.span" 619), (.str "/claim/cut.py" 620), (.int 280 0), (.int 2 0), (.int 0 0), (.int 0 0), (.int 3 0), (.ref 322), (.bool .true), (.int 181 0), (.ref 323), .none, (.ref 324), (.ref 325), (.ref 326), (.int 624 0), (.int 280 0), (.str "/claim/cut.py" 625)]), #[]⟩) ::
 (nat_lit 328, ⟨(.type "function"), .none, (.func ⟨"span", "Day.span", dA (inC (topK 30) 26), .stmts (dB (inC (topK 30) 26)), dS (inC (topK 30) 26), 3, [], .none, .none, .none, (.str "dayahead.day" 337), .none, (.ref 327), .none, 0⟩), #[]⟩) ::
 (nat_lit 329, ⟨(.type "tuple"), .none, (.seq #[] 0), #[]⟩) ::
 (nat_lit 331, ⟨(.type "tuple"), .none, (.seq #[(.str "self" 630), (.str "pays" 631), (.str "span" 632), (.str "told" 633)] 0), #[]⟩) ::
 (nat_lit 332, ⟨(.type "tuple"), .none, (.seq #[] 0), #[]⟩) ::
 (nat_lit 334, ⟨(.type "code"), .none, (.fields #[(.str "priced" 627), (.str "Day.priced" 628), (.str "/claim/cut.py" 629), (.int 286 0), (.int 2 0), (.int 0 0), (.int 0 0), (.int 3 0), (.ref 329), (.bool .true), (.int 181 0), (.ref 330), .none, (.ref 331), (.ref 332), (.ref 333), (.int 634 0), (.int 286 0), (.str "/claim/cut.py" 635)]), #[]⟩) ::
 (nat_lit 335, ⟨(.type "function"), .none, (.func ⟨"priced", "Day.priced", dA (inC (topK 30) 27), .stmts (dB (inC (topK 30) 27)), dS (inC (topK 30) 27), 3, [], .none, .none, .none, (.str "dayahead.day" 337), .none, (.ref 334), .none, 0⟩), #[]⟩) ::
 (nat_lit 336, ⟨(.type "tuple"), .none, (.seq #[(.str "back" 637), (.str "begun" 638), (.str "lent" 639), (.str "things" 640), (.str "width" 641)] 0), #[]⟩) ::
 (nat_lit 337, ⟨(.type "dict"), .none, (.dict #[⟨kh P "__module__", (.str "__module__" 397), (.str "dayahead.day" 337)⟩, ⟨kh P "__firstlineno__", (.str "__firstlineno__" 401), (.int 126 400)⟩, ⟨kh P "__init__", (.str "__init__" 408), (.ref 156)⟩, ⟨kh P "begin", (.str "begin" 418), (.ref 163)⟩, ⟨kh P "thing", (.str "thing" 427), (.ref 170)⟩, ⟨kh P "drop", (.str "drop" 435), (.ref 177)⟩, ⟨kh P "price", (.str "price" 447), (.ref 184)⟩, ⟨kh P "look", (.str "look" 456), (.ref 191)⟩, ⟨kh P "rate", (.str "rate" 464), (.ref 198)⟩, ⟨kh P "state", (.str "state" 471), (.ref 205)⟩, ⟨kh P "fair", (.str "fair" 478), (.ref 212)⟩, ⟨kh P "would", (.str "would" 489), (.ref 219)⟩, ⟨kh P "corners", (.str "corners" 500), (.ref 226)⟩, ⟨kh P "whole", (.str "whole" 508), (.ref 233)⟩, ⟨kh P "free", (.str "free" 517), (.ref 240)⟩, ⟨kh P "pays", (.str "pays" 526), (.ref 247)⟩, ⟨kh P "promise", (.str "promise" 534), (.ref 254)⟩, ⟨kh P "may", (.str "may" 546), (.ref 261)⟩, ⟨kh P "one", (.str "one" 554), (.ref 268)⟩, ⟨kh P "call", (.str "call" 560), (.ref 273)⟩, ⟨kh P "put", (.str "put" 566), (.ref 278)⟩, ⟨kh P "of", (.str "of" 572), (.ref 283)⟩, ⟨kh P "has_thing", (.str "has_thing" 580), (.ref 290)⟩, ⟨kh P "refusal", (.str "refusal" 589), (.ref 297)⟩, ⟨kh P "is_row", (.str "is_row" 595), (.ref 302)⟩, ⟨kh P "is_some", (.str "is_some" 601), (.ref 307)⟩, ⟨kh P "rows", (.str "rows" 610), (.ref 314)⟩, ⟨kh P "all_corners", (.str "all_corners" 617), (.ref 321)⟩, ⟨kh P "span", (.str "span" 626), (.ref 328)⟩, ⟨kh P "priced", (.str "priced" 636), (.ref 335)⟩, ⟨kh P "__static_attributes__", (.str "__static_attributes__" 642), (.ref 336)⟩, ⟨kh P "__dict__", (.str "__dict__" 644), (.ref 339)⟩, ⟨kh P "__weakref__", (.str "__weakref__" 646), (.ref 340)⟩, ⟨kh P "__doc__", (.str "__doc__" 647), .none⟩] 4), #[]⟩) ::
 (nat_lit 338, ⟨(.type "type"), .none, (.cls ⟨"Day", [(.type "object")], [(.ref 338), (.type "object")], 337, "Day", .true, [], [], .false, .none, .false⟩), #[.none, .none, (.some (.str "Day" 390)), (.some (.str "Day" 398)), (.some (.builtin "object.__new__")), (.some (.bool .true))]⟩) ::
 (nat_lit 339, ⟨(.type "getset_descriptor"), .none, (.fields #[(.str "__dict__" 643), (.ref 338), (.builtin "function.__dict__"), (.builtin "function.__dict__#set")]), #[]⟩) ::
 (nat_lit 340, ⟨(.type "getset_descriptor"), .none, (.fields #[(.str "__weakref__" 645), (.ref 338), (.builtin "ExceptionGroup.__weakref__"), .none]), #[]⟩) ::
 (nat_lit 343, ⟨(.type "tuple"), .none, (.seq #[(.int 3 693), (.int 1 694), (.int 1 695), (.int 2 696), (.int 0 697), (.int 0 698), (.int 0 699), (.int 2 700), (.int 0 701), (.int 2 702), (.int 2 703), (.int 0 704), (.int 1 705), (.int 0 706), (.int 0 707), (.int 2 708), (.int 1 709), (.int 0 710), (.int 0 711)] 0), #[]⟩) ::
 (nat_lit 344, ⟨(.type "tuple"), .none, (.seq #[] 0), #[]⟩) ::
 (nat_lit 346, ⟨(.type "tuple"), .none, (.seq #[(.str "number" 716)] 0), #[]⟩) ::
 (nat_lit 347, ⟨(.type "tuple"), .none, (.seq #[] 0), #[]⟩) ::
 (nat_lit 349, ⟨(.type "code"), .none, (.fields #[(.str "has_row" 713), (.str "has_row" 714), (.str "/claim/cut.py" 715), (.int 316 0), (.int 1 0), (.int 0 0), (.int 0 0), (.int 3 0), (.ref 344), (.bool .true), (.int 181 0), (.ref 345), .none, (.ref 346), (.ref 347), (.ref 348), (.int 717 0), (.int 316 0), (.str "/claim/cut.py" 718)]), #[]⟩) ::
 (nat_lit 350, ⟨(.type "function"), .none, (.func ⟨"has_row", "has_row", dA (topK 53), .stmts (dB (topK 53)), dS (topK 53), 3, [], .none, .none, .none, (.str "dayahead.promises" 650), .none, (.ref 349), .none, 0⟩), #[]⟩) ::
 (nat_lit 351, ⟨(.type "tuple"), .none, (.seq #[] 0), #[]⟩) ::
 (nat_lit 353, ⟨(.type "tuple"), .none, (.seq #[(.str "day" 723), (.str "number" 724), (.str "plain" 725), (.str "row" 726)] 0), #[]⟩) ::
 (nat_lit 354, ⟨(.type "tuple"), .none, (.seq #[] 0), #[]⟩) ::
 (nat_lit 356, ⟨(.type "code"), .none, (.fields #[(.str "about_things" 720), (.str "about_things" 721), (.str "/claim/cut.py" 722), (.int 318 0), (.int 4 0), (.int 0 0), (.int 0 0), (.int 3 0), (.ref 351), (.bool .true), (.int 181 0), (.ref 352), .none, (.ref 353), (.ref 354), (.ref 355), (.int 727 0), (.int 318 0), (.str "/claim/cut.py" 728)]), #[]⟩) ::
 (nat_lit 357, ⟨(.type "function"), .none, (.func ⟨"about_things", "about_things", dA (topK 54), .stmts (dB (topK 54)), dS (topK 54), 3, [], .none, .none, .none, (.str "dayahead.promises" 650), .none, (.ref 356), .none, 0⟩), #[]⟩) ::
 (nat_lit 358, ⟨(.type "tuple"), .none, (.seq #[] 0), #[]⟩) ::
 (nat_lit 360, ⟨(.type "tuple"), .none, (.seq #[(.str "day" 733), (.str "number" 734), (.str "plain" 735), (.str "row" 736)] 0), #[]⟩) ::
 (nat_lit 361, ⟨(.type "tuple"), .none, (.seq #[] 0), #[]⟩) ::
 (nat_lit 363, ⟨(.type "code"), .none, (.fields #[(.str "about_fairness" 730), (.str "about_fairness" 731), (.str "/claim/cut.py" 732), (.int 332 0), (.int 4 0), (.int 0 0), (.int 0 0), (.int 3 0), (.ref 358), (.bool .true), (.int 181 0), (.ref 359), .none, (.ref 360), (.ref 361), (.ref 362), (.int 737 0), (.int 332 0), (.str "/claim/cut.py" 738)]), #[]⟩) ::
 (nat_lit 364, ⟨(.type "function"), .none, (.func ⟨"about_fairness", "about_fairness", dA (topK 55), .stmts (dB (topK 55)), dS (topK 55), 3, [], .none, .none, .none, (.str "dayahead.promises" 650), .none, (.ref 363), .none, 0⟩), #[]⟩) ::
 (nat_lit 365, ⟨(.type "tuple"), .none, (.seq #[] 0), #[]⟩) ::
 (nat_lit 367, ⟨(.type "tuple"), .none, (.seq #[(.str "day" 743), (.str "number" 744), (.str "plain" 745), (.str "row" 746)] 0), #[]⟩) ::
 (nat_lit 368, ⟨(.type "tuple"), .none, (.seq #[] 0), #[]⟩) ::
 (nat_lit 370, ⟨(.type "code"), .none, (.fields #[(.str "about_promises" 740), (.str "about_promises" 741), (.str "/claim/cut.py" 742), (.int 346 0), (.int 4 0), (.int 0 0), (.int 0 0), (.int 3 0), (.ref 365), (.bool .true), (.int 181 0), (.ref 366), .none, (.ref 367), (.ref 368), (.ref 369), (.int 747 0), (.int 346 0), (.str "/claim/cut.py" 748)]), #[]⟩) ::
 (nat_lit 371, ⟨(.type "function"), .none, (.func ⟨"about_promises", "about_promises", dA (topK 56), .stmts (dB (topK 56)), dS (topK 56), 3, [], .none, .none, .none, (.str "dayahead.promises" 650), .none, (.ref 370), .none, 0⟩), #[]⟩) ::
 (nat_lit 372, ⟨(.type "tuple"), .none, (.seq #[] 0), #[]⟩) ::
 (nat_lit 374, ⟨(.type "tuple"), .none, (.seq #[(.str "day" 753), (.str "number" 754), (.str "plain" 755), (.str "row" 756), (.str "answer" 757)] 0), #[]⟩) ::
 (nat_lit 375, ⟨(.type "tuple"), .none, (.seq #[] 0), #[]⟩) ::
 (nat_lit 377, ⟨(.type "code"), .none, (.fields #[(.str "answered" 750), (.str "answered" 751), (.str "/claim/cut.py" 752), (.int 360 0), (.int 4 0), (.int 0 0), (.int 0 0), (.int 3 0), (.ref 372), (.bool .true), (.int 181 0), (.ref 373), .none, (.ref 374), (.ref 375), (.ref 376), (.int 758 0), (.int 360 0), (.str "/claim/cut.py" 759)]), #[]⟩) ::
 (nat_lit 378, ⟨(.type "function"), .none, (.func ⟨"answered", "answered", dA (topK 57), .stmts (dB (topK 57)), dS (topK 57), 3, [], .none, .none, .none, (.str "dayahead.promises" 650), .none, (.ref 377), .none, 0⟩), #[]⟩) ::
 (nat_lit 379, ⟨(.type "tuple"), .none, (.seq #[] 0), #[]⟩) ::
 (nat_lit 381, ⟨(.type "tuple"), .none, (.seq #[(.str "calls" 764), (.str "day" 765), (.str "told" 766), (.str "at" 767), (.str "number" 768), (.str "plain" 769), (.str "row" 770), (.str "answer" 771)] 0), #[]⟩) ::
 (nat_lit 382, ⟨(.type "tuple"), .none, (.seq #[] 0), #[]⟩) ::
 (nat_lit 384, ⟨(.type "code"), .none, (.fields #[(.str "answers" 761), (.str "answers" 762), (.str "/claim/cut.py" 763), (.int 371 0), (.int 1 0), (.int 0 0), (.int 0 0), (.int 3 0), (.ref 379), (.bool .true), (.int 181 0), (.ref 380), .none, (.ref 381), (.ref 382), (.ref 383), (.int 772 0), (.int 371 0), (.str "/claim/cut.py" 773)]), #[]⟩) ::
 (nat_lit 385, ⟨(.type "function"), .none, (.func ⟨"answers", "answers", dA (topK 58), .stmts (dB (topK 58)), dS (topK 58), 3, [], .none, .none, .none, (.str "dayahead.promises" 650), .none, (.ref 384), .none, 0⟩), #[]⟩) :: []
def KA : List Addr := [nat_lit 2, nat_lit 3, nat_lit 15, nat_lit 17, nat_lit 18, nat_lit 20, nat_lit 21, nat_lit 22, nat_lit 24, nat_lit 25, nat_lit 27, nat_lit 28, nat_lit 29, nat_lit 31, nat_lit 32, nat_lit 34, nat_lit 35, nat_lit 36, nat_lit 38, nat_lit 39, nat_lit 41, nat_lit 42, nat_lit 43, nat_lit 45, nat_lit 46, nat_lit 48, nat_lit 49, nat_lit 50, nat_lit 52, nat_lit 53, nat_lit 55, nat_lit 56, nat_lit 57, nat_lit 59, nat_lit 60, nat_lit 62, nat_lit 63, nat_lit 64, nat_lit 67, nat_lit 68, nat_lit 69, nat_lit 72, nat_lit 73, nat_lit 74, nat_lit 77, nat_lit 78, nat_lit 79, nat_lit 82, nat_lit 83, nat_lit 84, nat_lit 86, nat_lit 87, nat_lit 89, nat_lit 90, nat_lit 91, nat_lit 94, nat_lit 95, nat_lit 96, nat_lit 98, nat_lit 99, nat_lit 101, nat_lit 102, nat_lit 103, nat_lit 105, nat_lit 106, nat_lit 108, nat_lit 109, nat_lit 110, nat_lit 113, nat_lit 114, nat_lit 115, nat_lit 117, nat_lit 118, nat_lit 120, nat_lit 121, nat_lit 129, nat_lit 131, nat_lit 132, nat_lit 134, nat_lit 135, nat_lit 136, nat_lit 137, nat_lit 138, nat_lit 139, nat_lit 140, nat_lit 150, nat_lit 152, nat_lit 153, nat_lit 155, nat_lit 156, nat_lit 157, nat_lit 159, nat_lit 160, nat_lit 162, nat_lit 163, nat_lit 164, nat_lit 166, nat_lit 167, nat_lit 169, nat_lit 170, nat_lit 171, nat_lit 173, nat_lit 174, nat_lit 176, nat_lit 177, nat_lit 178, nat_lit 180, nat_lit 181, nat_lit 183, nat_lit 184, nat_lit 185, nat_lit 187, nat_lit 188, nat_lit 190, nat_lit 191, nat_lit 192, nat_lit 194, nat_lit 195, nat_lit 197, nat_lit 198, nat_lit 199, nat_lit 201, nat_lit 202, nat_lit 204, nat_lit 205, nat_lit 206, nat_lit 208, nat_lit 209, nat_lit 211, nat_lit 212, nat_lit 213, nat_lit 215, nat_lit 216, nat_lit 218, nat_lit 219, nat_lit 220, nat_lit 222, nat_lit 223, nat_lit 225, nat_lit 226, nat_lit 227, nat_lit 229, nat_lit 230, nat_lit 232, nat_lit 233, nat_lit 234, nat_lit 236, nat_lit 237, nat_lit 239, nat_lit 240, nat_lit 241, nat_lit 243, nat_lit 244, nat_lit 246, nat_lit 247, nat_lit 248, nat_lit 250, nat_lit 251, nat_lit 253, nat_lit 254, nat_lit 255, nat_lit 257, nat_lit 258, nat_lit 260, nat_lit 261, nat_lit 262, nat_lit 264, nat_lit 265, nat_lit 267, nat_lit 268, nat_lit 269, nat_lit 272, nat_lit 273, nat_lit 274, nat_lit 277, nat_lit 278, nat_lit 279, nat_lit 282, nat_lit 283, nat_lit 284, nat_lit 286, nat_lit 287, nat_lit 289, nat_lit 290, nat_lit 291, nat_lit 293, nat_lit 294, nat_lit 296, nat_lit 297, nat_lit 298, nat_lit 301, nat_lit 302, nat_lit 303, nat_lit 306, nat_lit 307, nat_lit 308, nat_lit 310, nat_lit 311, nat_lit 313, nat_lit 314, nat_lit 315, nat_lit 317, nat_lit 318, nat_lit 320, nat_lit 321, nat_lit 322, nat_lit 324, nat_lit 325, nat_lit 327, nat_lit 328, nat_lit 329, nat_lit 331, nat_lit 332, nat_lit 334, nat_lit 335, nat_lit 336, nat_lit 337, nat_lit 338, nat_lit 339, nat_lit 340, nat_lit 343, nat_lit 344, nat_lit 346, nat_lit 347, nat_lit 349, nat_lit 350, nat_lit 351, nat_lit 353, nat_lit 354, nat_lit 356, nat_lit 357, nat_lit 358, nat_lit 360, nat_lit 361, nat_lit 363, nat_lit 364, nat_lit 365, nat_lit 367, nat_lit 368, nat_lit 370, nat_lit 371, nat_lit 372, nat_lit 374, nat_lit 375, nat_lit 377, nat_lit 378, nat_lit 379, nat_lit 381, nat_lit 382, nat_lit 384, nat_lit 385]
theorem KA_is : ∀ P, KA = (KF P).map (·.1) := fun _ => by kernel_rfl
end DA
end
set_option Elab.async false
set_option maxRecDepth 100000
set_option maxHeartbeats 0
noncomputable section
namespace DA
open PySem PySem.W PyProof.Rows
abbrev posE : Pos := ⟨371, 0, 387, 15⟩
abbrev runT (w : World) (os : OsState) : Option (Flow × SharedT × Code × Pos) := segRunT treeTable pgm w 11 (some (.ref 6)) 1 2400 (sT w os) (piecesOf bodyA envA codeA pz [topFrame pz])
theorem opt_both {α β γ : Type} {o : Option γ} {f : γ → α} {g : γ → β} {a : α} {b : β} (h1 : o.map f = some a) (h2 : o.map g = some b) : o.map (fun x => (f x, g x)) = some (a, b) := by
  cases o with
  | none => cases h1
  | some x =>
    simp only [Option.map_some, Option.some.injEq] at h1 h2 ⊢
    rw [h1, h2]
theorem h_fin : ∀ (w : World) (s : Shared), topRun treeTable pgm w 11 (some (.ref 6)) 2 s (restOf [] envA codeA posE [topFrame pz]) = some s := fun w s => by kernel_rfl
theorem h_size : ∀ w : World, ((boot_heap w.params).isNs mainGlobals && (Array.mk [] : Array GenState).size == 0, (boot_heap w.params).objs.size, (boot_heap w.params).nsMap mainGlobals "__annotations__") = (true, 11, some (Value.ref 6)) := fun w => by kernel_rfl
theorem left_mk {q : Program} {Xt : Shared → Bool} {α : Type} {Yf : Shared → α} {Ya : World → α} {N : Nat} (hM : Nat.ble 2415 N = true) (h6 : Nat.ble 600 N = true)
    (e4 : opening pgm = plainProg pgm.main.scope.names) (f4 : ∀ s, fenceModules? pgm s = some s)
    (hA : ∀ w os, (runT w os).map (fun x => (x.1, x.2.2)) = some (Flow.next, codeA, posE))
    (hB : ∀ w os, (runT w os).map (fun x => staticsOk (importedModules pgm.main.body) (boot_heap w.params) x.2.1.abs.heap && namesBound pgm x.2.1.abs.heap && gensDone x.2.1.abs && laidKept (boot_heap w.params) x.2.1.abs.heap) = some true)
    (hC : ∀ w os, (runT w os).map (fun x => (openSeen q [] (importedModules pgm.main.body) Xt true x.2.1.abs, Yf x.2.1.abs)) = some (openGood q [], Ya w)) : LeftO pgm q [] Xt Yf Ya N := fun w => by
  obtain ⟨⟨h, gs, d, k, os⟩, e, e'⟩ := Option.map_eq_some_iff.mp (boot_open e4 h6 f4 w)
  obtain ⟨rfl, rfl, rfl, rfl⟩ : h = boot_heap w.params ∧ gs = Array.mk [] ∧ d = boot_drawn ∧ k = boot_toks := by simpa using e'
  obtain ⟨z1, z2, z3⟩ : _ ∧ _ ∧ _ := by simpa only [Prod.mk.injEq] using h_size w
  obtain ⟨⟨fl, s', c, p'⟩, r, a⟩ := Option.map_eq_some_iff.mp (hA w os)
  have a1 : fl = Flow.next ∧ c = codeA ∧ p' = posE := by
    have a : (fl, c, p') = (Flow.next, codeA, posE) := a
    simp only [Prod.mk.injEq] at a
    exact a
  obtain ⟨rfl, rfl, rfl⟩ := a1
  have b := hB w os
  rw [r] at b
  have b : (staticsOk (importedModules pgm.main.body) (boot_heap w.params) s'.abs.heap && namesBound pgm s'.abs.heap && gensDone s'.abs && laidKept (boot_heap w.params) s'.abs.heap) = true := Option.some.inj b
  have cc := hC w os
  rw [r] at cc
  have cc := Option.some.inj cc
  have k1 := piece_app (rest := []) (segRun_of r) (h_fin w s'.abs)
  rw [List.append_nil] at k1
  have k2 := piece_block (congrFun (h_block w) os) k1
  have k3 := go_top (congrFun (h_pre w) os) k2
  have r := topRun_mono (N - 2415) _ _ _ _ k3
  rw [show 12 + (1 + (2400 + 2)) + (N - 2415) = N by have := Nat.le_of_ble_eq_true hM; omega] at r
  have t : topFrom treeTable pgm w N ⟨boot_heap w.params, Array.mk [], boot_drawn, boot_toks, os⟩ = some s'.abs := by
    unfold topFrom
    dsimp only
    rw [z1, z2, z3, r]
    show (match staticsOk (importedModules pgm.main.body) (boot_heap w.params) s'.abs.heap && namesBound pgm s'.abs.heap && gensDone s'.abs && laidKept (boot_heap w.params) s'.abs.heap with | true => _ | false => _) = _
    rw [b]
  unfold openEnds
  rw [e]
  show (topFrom treeTable pgm w N _).map _ = _
  rw [t]
  exact congrArg some cc
end DA
end
set_option Elab.async false
set_option maxRecDepth 100000
set_option maxHeartbeats 0
noncomputable section
namespace DA
open PySem PySem.W PyProof.Rows
def vBody : List Stmt := match pgm.main.body with
  | _ :: a1 :: a2 :: a3 :: a4 :: a5 :: _ :: r => a1 :: a2 :: a3 :: a4 :: a5 :: (r.take 10 ++ (r.drop 11).take 2 ++ (r.drop 14).take 10 ++ r.drop 25)
  | l => l
def vw : Program := { pgm with main := { pgm.main with body := vBody } }
abbrev modsA := importedModules pgm.main.body
abbrev XtA (s : Shared) : Bool := xlAt vw [] s && recOk [] s
abbrev hkA : Hook := kHook KF KA KA_is
abbrev keyA (s : Shared) : Bool := s.heap.keysOk (looseW vw []) ((recsOf vw).map (·.name)) ((litsOf vw).map (·.1)) ((clssOf vw (looseW vw [])).map (·.name)) && s.heap.accountedOkI modsA && s.heap.isNs mainGlobals && s.heap.isNs builtinsNs && tablesOk vw s.heap && XtA s && (if true then s.gens.size == 0 else !leftWithCleanup s.gens)
theorem hA : ∀ w os, (runT w os).map (fun x => (x.1, x.2.2)) = some (Flow.next, codeA, posE) := fun w os => by kernel_rfl
theorem hBY : ∀ w os, (runT w os).map (fun x => ((staticsOk modsA (boot_heap w.params) x.2.1.abs.heap && namesBound pgm x.2.1.abs.heap && gensDone x.2.1.abs && laidKept (boot_heap w.params) x.2.1.abs.heap), hkA.obs x.2.1.abs)) = some (true, hkA.val w) := fun w os => by kernel_rfl
theorem hC1 : ∀ w os, (runT w os).map (fun x => (seen ((recsOf vw).map (·.name)) (ownsOf vw) [] { x.2.1.abs with gens := #[] }, x.2.1.abs.heap.bltView, keyA x.2.1.abs)) = some (expectedOf vw, bltViewBooted, true) := fun w os => by kernel_rfl
theorem hC2 : ∀ w os, (runT w os).map (fun x => (tabsOk vw x.2.1.abs, pinSeenD vw (drecsOf vw) x.2.1.abs, plainSeenE vw (looseW vw []) x.2.1.abs, plainSeenD vw [] x.2.1.abs, wideSeen vw x.2.1.abs, clsSeenW vw [] x.2.1.abs)) = some (true, pinGoodD (drecsOf vw), plainGoodE vw (looseW vw []), plainGoodD vw [], wideGood vw, clsGoodW vw []) := fun w os => by kernel_rfl
theorem leftA : LeftO pgm vw [] XtA hkA.obs hkA.val 4858 := by
  refine left_mk rfl rfl (by kernel_rfl) (fun s => by kernel_rfl) hA (fun w os => ?_) fun w os => ?_
  · obtain ⟨x, r, a⟩ := Option.map_eq_some_iff.mp (hBY w os)
    rw [r]
    exact congrArg (fun y => some y.1) a
  · obtain ⟨x, r, a⟩ := Option.map_eq_some_iff.mp (hBY w os)
    have c1 := hC1 w os
    have c2 := hC2 w os
    rw [r] at c1 c2 ⊢
    have c1 := Option.some.inj c1
    have c2 := Option.some.inj c2
    have ay := congrArg (fun y => y.2) a
    have d1 := congrArg (fun y => y.1) c1
    have d2 := congrArg (fun y => y.2.1) c1
    have d3 := congrArg (fun y => y.2.2) c1
    refine congrArg some (Prod.ext ?_ ay)
    exact Prod.ext d1 (Prod.ext d2 (Prod.ext d3 c2))
end DA
end
set_option Elab.async false
set_option linter.all false
set_option maxRecDepth 100000
namespace L2
open PySem PySem.Spec PyProof.Rows
/-- a key: an int or a str -/
abbrev Key := Sum Int Str
def keyIs : Key → Value → Bool
  | .inl k, v => Value.isInt k v
  | .inr x, v => Value.isStrOf x v
def keyH (w : World) : Key → Int
  | .inl k => hashInt k
  | .inr x => hashStr w x
theorem keyIs_shape : ∀ {k : Key} {v : Value}, keyIs k v = true → (∃ i t, k = Sum.inl i ∧ v = Value.int i t) ∨ (∃ x t, k = Sum.inr x ∧ v = Value.str x t)
  | .inl i, v, h => by
    obtain ⟨t, e⟩ := Value.isInt_shape (k := i) (v := v) h
    exact .inl ⟨i, t, rfl, e⟩
  | .inr x, v, h => by
    obtain ⟨t, e⟩ := Value.isStrOf_shape (x := x) (v := v) h
    exact .inr ⟨x, t, rfl, e⟩
theorem key_ll (a b : Int) : decide ((Sum.inl a : Key) = Sum.inl b) = (a == b) := by
  by_cases e : a = b
  · subst e; simp
  · have h : ¬ (Sum.inl a : Key) = Sum.inl b := fun q => e (Sum.inl.inj q)
    rw [decide_eq_false h]
    exact (beq_eq_false_iff_ne.mpr e).symm
theorem key_rr (a b : Str) : decide ((Sum.inr a : Key) = Sum.inr b) = decide (a = b) := by
  by_cases e : a = b
  · subst e; simp
  · have h : ¬ (Sum.inr a : Key) = Sum.inr b := fun q => e (Sum.inr.inj q)
    rw [decide_eq_false h, decide_eq_false e]
theorem key_lr (a : Int) (b : Str) : decide ((Sum.inl a : Key) = Sum.inr b) = false := decide_eq_false (fun q => nomatch q)
theorem key_rl (a : Str) (b : Int) : decide ((Sum.inr a : Key) = Sum.inl b) = false := decide_eq_false (fun q => nomatch q)
def mixKind (prog : Program) (w : World) : PySem.KeyKind prog w Key where
  is := keyIs
  hash := keyH w
  inj := fun v a b ha hb => by
    rcases keyIs_shape ha with ⟨i, t, rfl, rfl⟩ | ⟨x, t, rfl, rfl⟩
    · rcases keyIs_shape hb with ⟨j, u, rfl, e⟩ | ⟨y, u, rfl, e⟩
      · injection e with e1 _; rw [e1]
      · exact nomatch e
    · rcases keyIs_shape hb with ⟨j, u, rfl, e⟩ | ⟨y, u, rfl, e⟩
      · exact nomatch e
      · injection e with e1 _; rw [e1]
  byValue := fun k v h => by
    rcases keyIs_shape h with ⟨i, t, rfl, rfl⟩ | ⟨x, t, rfl, rfl⟩ <;> rfl
  pyHash := fun hv h => by
    rcases keyIs_shape hv with ⟨i, t, rfl, rfl⟩ | ⟨x, t, rfl, rfl⟩
    · exact wpAny_pyHash_int h
    · exact wpAny_pyHash_str h
  eqBool := fun hu hv h => by
    rcases keyIs_shape hu with ⟨i, t, rfl, rfl⟩ | ⟨x, t, rfl, rfl⟩
    · rcases keyIs_shape hv with ⟨j, u, rfl, rfl⟩ | ⟨y, u, rfl, rfl⟩
      · rw [key_ll] at h; exact wpAny_eqBool_int h
      · rw [key_lr] at h; exact SeqAt.EqAt.int_str i t y u _ _ _ _ h
    · rcases keyIs_shape hv with ⟨j, u, rfl, rfl⟩ | ⟨y, u, rfl, rfl⟩
      · rw [key_rl] at h; exact SeqAt.EqAt.str_int x t j u _ _ _ _ h
      · rw [key_rr] at h; exact wpAny_eqBool_str h
  «strs» := fun k x t v h => by
    rcases keyIs_shape h with ⟨i, u, rfl, e⟩ | ⟨y, u, rfl, e⟩
    · exact nomatch e
    · injection e with e1 _
      subst e1
      cases v <;> rfl
end L2
namespace L2
open PySem PySem.Spec PyProof.Rows
/-- a value, without the heap -/
inductive V where
  | non | bl (b : Bool) | int (i : Int) | str (x : Str) | byt (b : Array UInt8) | flt (b : UInt64) | ref (a : Addr) | ty (n : String)
  deriving DecidableEq
def RelV : V → Value → Prop
  | .non, u => u = Value.none
  | .bl b, u => u = Value.bool b
  | .int i, u => ∃ t, u = Value.int i t
  | .str x, u => ∃ t, u = Value.str x t
  | .byt b, u => ∃ t, u = Value.bytes b t
  | .flt b, u => ∃ t, u = Value.float b t
  | .ref a, u => u = Value.ref a
  | .ty n, u => u = Value.type n
abbrev Vals : List V → List Value → Prop := Paired RelV
theorem Vals.length {xs : List V} {us : List Value} (r : Vals xs us) : xs.length = us.length := Paired.length r
theorem Vals.get : ∀ {xs : List V} {us : List Value} {i : Nat} {x : V}, Vals xs us → xs[i]? = some x → ∃ u, us[i]? = some u ∧ RelV x u
  | _, _, _, _, .nil, e => by simp at e
  | _, _, 0, _, .cons r _, e => by simp at e; subst e; exact ⟨_, rfl, r⟩
  | _, _, i + 1, x, .cons _ t, e => by
    obtain ⟨u, h1, h2⟩ := Vals.get (i := i) (x := x) t (by simpa using e)
    exact ⟨u, by simpa using h1, h2⟩
theorem Vals.set {x : V} {u : Value} (r : RelV x u) : ∀ {xs : List V} {us : List Value} (i : Nat), Vals xs us → Vals (xs.set i x) (us.set i u)
  | _, _, _, .nil => .nil
  | _, _, 0, .cons _ t => .cons r t
  | _, _, i + 1, .cons q t => .cons q (Vals.set r i t)
theorem Vals.append : ∀ {xs ys : List V} {us ws : List Value}, Vals xs us → Vals ys ws → Vals (xs ++ ys) (us ++ ws)
  | _, _, _, _, .nil, s => s
  | _, _, _, _, .cons r t, s => .cons r (Vals.append t s)
theorem Vals.take : ∀ {xs : List V} {us : List Value} (n : Nat), Vals xs us → Vals (xs.take n) (us.take n)
  | _, _, 0, _ => .nil
  | _, _, _ + 1, .nil => .nil
  | _, _, n + 1, .cons r t => .cons r (Vals.take n t)
theorem Vals.drop : ∀ {xs : List V} {us : List Value} (n : Nat), Vals xs us → Vals (xs.drop n) (us.drop n)
  | _, _, 0, r => r
  | _, _, _ + 1, .nil => .nil
  | _, _, n + 1, .cons _ t => Vals.drop n t
def RelO : Option V → Option Value → Prop
  | some v, some u => RelV v u
  | none, none => True
  | _, _ => False
def KV {κ : Type} : List (κ × V) → List (κ × Value) → Prop := Paired fun (p : κ × V) (q : κ × Value) => p.1 = q.1 ∧ RelV p.2 q.2
/-- a key of a dict (00_mix): an int or a text -/
def kV : Key → V
  | .inl i => .int i
  | .inr x => .str x
/-- what stands at a tracked address -/
inductive HO where
  /-- a list -/
  | lst (xs : List V)
  /-- a tuple (never changes) -/
  | tup (xs : List V)
  /-- a dict whose keys are ints and texts; one whose keys are tuples of ints and texts (the empty one is both) -/
  | dK (kvs : List (Key × V)) | dT (kvs : List (List Key × V))
  /-- a set of ints: its members, its size -/
  | set (S : Int → Bool) (n : Nat)
  /-- an instance of the class at C, its dict at dx, its attributes -/
  | ins (C dx : Addr) (fs : List (Str × V))
  /-- the dict of the instance at x -/
  | own (x : Addr)
  /-- the dict of an exception -/
  | xd (fs : List (Str × V))
  /-- a bound method, f of x -/
  | met (f x : Addr)
  /-- a range object lo, lo + 1, .. below hi -/
  | rng (lo hi : Int)
  /-- a thing that is known to the object (the script; a dict while a loop walks it): read, never written while it is so -/
  | frz (o : Obj) (u : HO)
  /-- a code object's table -/
  | tbl (ps : Array Value)
  /-- any other thing, by what is true of its one object (a def of one's own: SetO a S n := HO.ext fun h => ..) -/
  | ext (φ : Heap → Prop)
abbrev Hp := Addr → Option HO
def upd (H : Hp) (a : Addr) (o : HO) : Hp := fun b => if b = a then some o else H b
theorem upd_same {H : Hp} {a : Addr} {o : HO} : upd H a o a = some o := by unfold upd; rw [if_pos rfl]
theorem upd_ne {H : Hp} {a b : Addr} {o : HO} (h : b ≠ a) : upd H a o b = H b := by unfold upd; rw [if_neg h]
theorem upd_upd {H : Hp} {a : Addr} {o u : HO} : upd (upd H a o) a u = upd H a u := by
  funext b; unfold upd; split <;> rfl
/-- two objects of different content stand apart -/
theorem ne_of {H : Hp} {a b : Addr} {o u : HO} (h : H a = some o) (h' : H b = some u) (d : o ≠ u) : a ≠ b := by
  intro e; subst e; rw [h] at h'; exact d (Option.some.inj h')
theorem ne_of_none {H : Hp} {a b : Addr} {o : HO} (h : H a = some o) (h' : H b = none) : a ≠ b := by
  intro e; subst e; rw [h] at h'; cases h'
section
variable (P : Program) (w : World)
def ObjOk (H : Hp) (h : Heap) (a : Addr) : HO → Prop
  | .lst xs => xs.length ≤ sizeLine ∧ ∃ (its : List Value) (n : Nat), Vals xs its ∧ h.get? a = some { cls := .type "list", data := .seq its.toArray n }
  | .tup xs => xs.length ≤ sizeLine ∧ ∃ its : List Value, Vals xs its ∧ IsTup h a its.toArray
  | .dK kvs => kvs.length ≤ sizeLine ∧ (a == sysModules) = false ∧ ∃ vs, KV kvs vs ∧ h.DictOf (mixKind P w) a vs
  | .dT kvs => kvs.length ≤ sizeLine ∧ (a == sysModules) = false ∧ ∃ xs : List (List Key × Addr × Value),
      Paired (fun (p : List Key × V) (q : List Key × Addr × Value) => p.1 = q.1 ∧ H q.2.1 = some (.tup (p.1.map kV)) ∧ RelV p.2 q.2.2) kvs xs ∧
      ∃ o es ep, h.get? a = some o ∧ o.ExactDict ∧ o.data = .dict es ep ∧ es.toList = xs.map (entryOfKey (tupleKind (mixKind P w))) ∧ (xs.map (·.1)).Nodup
  | .set S n => h.SetOf (intKind P w) a S n
  | .ins C dx fs => H dx = some (.own a) ∧ fs.length ≤ 1000 ∧ dx ≠ a ∧ h.get? a = some (PySem.W.instObj C dx) ∧
      ∃ mA, h.Ns1 dx mA ∧ (∀ f, RelO (fs.lookup f) (mA f)) ∧ PySem.Within mA (fs.map (·.1))
  | .own _ => ∃ o, h.get? a = some o
  | .xd fs => ∃ mA, h.Ns1 a mA ∧ ∀ f, RelO (fs.lookup f) (mA f)
  | .rng lo hi => ∃ t u v, h.get? a = some { cls := .type "range", data := .fields #[.int lo t, .int hi u, .int 1 v] }
  | .frz o u => h.get? a = some o ∧ ObjOk H h a u
  | .tbl ps => h.get? a = some { cls := .none, data := .fields ps }
  | .met f x => h.get? a = some (PySem.W.methodObj (.ref f) (.ref x))
  | .ext φ => φ h ∧ (∃ o, h.get? a = some o) ∧ ∀ h1 h2 : Heap, φ h1 → (∀ o, h1.get? a = some o → h2.get? a = some o) → φ h2
/-- the abstract heap is held -/
def HOk (H : Hp) (h : Heap) : Prop := ∀ a o, H a = some o → ObjOk P w H h a o
end
section
variable {P : Program} {w : World} {H H' : Hp} {h h' : Heap} {a : Addr} {o : HO}
theorem ObjOk.lt (x : ObjOk P w H h a o) : a < h.objs.size := by
  cases o with
  | lst xs => obtain ⟨_, _, _, _, e⟩ := x; exact Heap.lt_size e
  | tup xs => obtain ⟨_, _, _, p⟩ := x; exact p.lt
  | dK kvs => obtain ⟨_, _, _, _, o, _, _, e, _⟩ := x; exact Heap.lt_size e
  | dT kvs => obtain ⟨_, _, _, _, o, _, _, e, _⟩ := x; exact Heap.lt_size e
  | set S n => obtain ⟨o, _, _, _, e, _⟩ := x; exact Heap.lt_size e
  | ins C dx fs => obtain ⟨_, _, _, e, _⟩ := x; exact Heap.lt_size e
  | own y => obtain ⟨_, e⟩ := x; exact Heap.lt_size e
  | xd fs => obtain ⟨_, ⟨_, _, _, e, _⟩, _⟩ := x; exact Heap.lt_size e
  | rng lo hi => obtain ⟨_, _, _, e⟩ := x; exact Heap.lt_size e
  | frz ob u => obtain ⟨e, _⟩ := x; exact Heap.lt_size e
  | tbl ps => exact Heap.lt_size (show h.get? a = some _ from x)
  | met f y => exact Heap.lt_size (show h.get? a = some _ from x)
  | ext φ => obtain ⟨_, ⟨_, e⟩, _⟩ := x; exact Heap.lt_size e
theorem Paired.mapP {α β : Type} {F G : α → β → Prop} : ∀ {l₁ : List α} {l₂ : List β}, Paired F l₁ l₂ → (∀ a b, F a b → G a b) → Paired G l₁ l₂
  | _, _, .nil, _ => .nil
  | _, _, .cons r t, f => .cons (f _ _ r) (Paired.mapP t f)
/-- what an object's description leans on: its own object, its own dict, the tuples -/
theorem ObjOk.stay (x : ObjOk P w H h a o) (k : ∀ b u, (b = a ∨ H b = some (.own a)) → h.get? b = some u → h'.get? b = some u)
    (ho : ∀ b, H b = some (.own a) → H' b = some (.own a)) (ht : ∀ b xs, H b = some (.tup xs) → H' b = some (.tup xs)) : ObjOk P w H' h' a o := by
  induction o with
  | lst xs => obtain ⟨z, its, n, r, e⟩ := x; exact ⟨z, its, n, r, k _ _ (.inl rfl) e⟩
  | tup xs => obtain ⟨z, its, r, ob, e, c⟩ := x; exact ⟨z, its, r, ob, k _ _ (.inl rfl) e, c⟩
  | dK kvs => obtain ⟨z, y, vs, r, ob, es, ep, e, c⟩ := x; exact ⟨z, y, vs, r, ob, es, ep, k _ _ (.inl rfl) e, c⟩
  | dT kvs =>
    obtain ⟨z, y, xs, r, ob, es, ep, e, c⟩ := x
    exact ⟨z, y, xs, Paired.mapP r fun p q z => ⟨z.1, ht _ _ z.2.1, z.2.2⟩, ob, es, ep, k _ _ (.inl rfl) e, c⟩
  | set S n => obtain ⟨ob, es, ep, t, e, c⟩ := x; exact ⟨ob, es, ep, t, k _ _ (.inl rfl) e, c⟩
  | ins C dx fs =>
    obtain ⟨d, z, ne, e, mA, ⟨od, es, ep, e2, c⟩, r⟩ := x
    exact ⟨ho _ d, z, ne, k _ _ (.inl rfl) e, mA, ⟨od, es, ep, k _ _ (.inr d) e2, c⟩, r⟩
  | own y => obtain ⟨ob, e⟩ := x; exact ⟨ob, k _ _ (.inl rfl) e⟩
  | xd fs => obtain ⟨mA, ⟨od, es, ep, e, c⟩, r⟩ := x; exact ⟨mA, ⟨od, es, ep, k _ _ (.inl rfl) e, c⟩, r⟩
  | rng lo hi => obtain ⟨t, u, v, e⟩ := x; exact ⟨t, u, v, k _ _ (.inl rfl) e⟩
  | frz ob u ih => obtain ⟨e, q⟩ := x; exact ⟨k _ _ (.inl rfl) e, ih q⟩
  | tbl ps =>
    have e : h.get? a = some { cls := .none, data := .fields ps } := x
    show h'.get? a = some { cls := .none, data := .fields ps }
    exact k a _ (.inl rfl) e
  | met f y =>
    have e : h.get? a = some (PySem.W.methodObj (.ref f) (.ref y)) := x
    show h'.get? a = some (PySem.W.methodObj (.ref f) (.ref y))
    exact k a _ (.inl rfl) e
  | ext φ => obtain ⟨p, ⟨o, e⟩, st⟩ := x; exact ⟨st _ _ p fun o q => k _ _ (.inl rfl) q, ⟨o, k _ _ (.inl rfl) e⟩, st⟩
theorem HOk.lt (x : HOk P w H h) (e : H a = some o) : a < h.objs.size := (x a o e).lt
theorem HOk.fresh (x : HOk P w H h) (e : h.objs.size ≤ a) : H a = none := by
  cases q : H a with
  | none => rfl
  | some u => exact absurd (Nat.lt_of_lt_of_le (x.lt q) e) (Nat.lt_irrefl _)
/-- every object of the heap is kept -/
theorem HOk.kept (x : HOk P w H h) (k : ∀ b u, h.get? b = some u → h'.get? b = some u) : HOk P w H h' := fun a o e =>
  (x a o e).stay (fun b u _ q => k b u q) (fun _ q => q) fun _ _ q => q
/-- a new object is laid and tracked -/
theorem HOk.laid (x : HOk P w H h) (k : ∀ b u, h.get? b = some u → h'.get? b = some u) (hp : h.objs.size ≤ a) (new : ObjOk P w (upd H a o) h' a o) : HOk P w (upd H a o) h' := fun b u e => by
  have hn := x.fresh hp
  by_cases hb : b = a
  · subst hb; rw [upd_same] at e; cases e; exact new
  · rw [upd_ne hb] at e
    exact (x b u e).stay (fun c v _ q => k c v q) (fun c q => by rw [upd_ne (ne_of_none q hn)]; exact q) fun c xs q => by rw [upd_ne (ne_of_none q hn)]; exact q
end
/-- what may be read as u: it is u, or a known u -/
def Rd (H : Hp) (a : Addr) (u : HO) : Prop := H a = some u ∨ ∃ o, H a = some (.frz o u)
theorem Rd.ok {P : Program} {w : World} {H : Hp} {h : Heap} {a : Addr} {u : HO} (r : Rd H a u) (x : HOk P w H h) : ObjOk P w H h a u := by
  rcases r with r | ⟨o, r⟩
  · exact x a u r
  · obtain ⟨_, q⟩ := x a _ r
    exact q
/-- what may be written -/
def Mut : Option HO → Prop
  | some (.lst _) => True
  | some (.dK _) => True
  | some (.dT _) => True
  | some (.set _ _) => True
  | some (.ins _ _ _) => True
  | some (.ext _) => True
  | _ => False
section
variable {P : Program} {w : World} {H : Hp} {h h' : Heap} {x e : Addr} {o' : HO}
/-- the object at e is changed: x itself, or the dict of the instance x -/
theorem HOk.write (ok : HOk P w H h) (mu : Mut (H x)) (he : e = x ∨ H e = some (.own x)) (k : ∀ b u, b ≠ e → h.get? b = some u → h'.get? b = some u) (heo : ∃ u, h'.get? e = some u)
    (new : ObjOk P w (upd H x o') h' x o') : HOk P w (upd H x o') h' := fun b u q => by
  have nown : ∀ c y, H c = some (.own y) → c ≠ x := fun c y r z => by subst z; rw [r] at mu; exact mu
  have ntup : ∀ c xs, H c = some (.tup xs) → c ≠ x := fun c xs r z => by subst z; rw [r] at mu; exact mu
  by_cases hb : b = x
  · subst hb; rw [upd_same] at q; cases q; exact new
  · rw [upd_ne hb] at q
    by_cases hbe : b = e
    · have q' : H b = some (.own x) := by
        rcases he with z | z
        · exact absurd (hbe.trans z) hb
        · rw [hbe]; exact z
      rw [q] at q'; cases q'
      obtain ⟨v, hv⟩ := heo
      exact ⟨v, by rw [hbe]; exact hv⟩
    · refine (ok b u q).stay (fun c v hc r => k c v ?_ r) (fun c r => by rw [upd_ne (nown c b r)]; exact r) fun c xs r => by rw [upd_ne (ntup c xs r)]; exact r
      rcases hc with rfl | hc
      · exact hbe
      · rintro rfl
        rcases he with z | z
        · exact nown c b hc z
        · rw [hc] at z; cases z; exact hb rfl
end
structure Un (fs ex : List Addr) (H H' : Hp) (h h' : Heap) : Prop where
  keep : ∀ b o, h.get? b = some o → H b = none → b ∉ fs → b ∉ ex → h'.get? b = some o
  slot : ∀ b o, h.get? b = some o → H b = none → b ∈ fs → b ∉ ex → ∃ sl, h'.get? b = some { o with slots := sl }
  free : ∀ b o, h.get? b = some o → H b = none → b ∉ ex → H' b = none
  there : ∀ b o, h.get? b = some o → b ∉ ex → ∃ o', h'.get? b = some o'
  tups : ∀ b xs, H b = some (.tup xs) → H' b = some (.tup xs)
  frzs : ∀ b o u, H b = some (.frz o u) → H' b = some (.frz o u)
  tbls : ∀ b ps, H b = some (.tbl ps) → ∃ more, H' b = some (.tbl (ps ++ more))
section
variable {fs fs' ex ex' : List Addr} {H H1 H2 : Hp} {h h1 h2 h' : Heap} {a x e : Addr} {o : HO}
theorem Un.any (u : Un fs ex H H1 h h1) {b : Addr} {ob : Obj} (q : h.get? b = some ob) (n : H b = none) (hx : b ∉ ex) : ∃ sl, h1.get? b = some { ob with slots := sl } := by
  by_cases hb : b ∈ fs
  · exact u.slot b ob q n hb hx
  · exact ⟨ob.slots, u.keep b ob q n hb hx⟩
theorem Un.kept (k : ∀ b u, h.get? b = some u → h'.get? b = some u) : Un fs ex H H h h' :=
  ⟨fun b ob q _ _ _ => k b ob q, fun b ob q _ _ _ => ⟨ob.slots, k b ob q⟩, fun _ _ _ n _ => n, fun b ob q _ => ⟨ob, k b ob q⟩, fun _ _ q => q, fun _ _ _ q => q, fun _ ps q => ⟨#[], by rw [q]; simp⟩⟩
theorem Un.refl : Un fs ex H H h h := Un.kept fun _ _ q => q
theorem Un.laid (k : ∀ b u, h.get? b = some u → h'.get? b = some u) (hp : h.objs.size ≤ a) (hn : H a = none) : Un fs ex H (upd H a o) h h' where
  keep := fun b u q _ _ _ => k b u q
  slot := fun b u q _ _ _ => ⟨u.slots, k b u q⟩
  free := fun b u q n _ => by rw [upd_ne (Nat.ne_of_lt (Nat.lt_of_lt_of_le (Heap.lt_size q) hp))]; exact n
  there := fun b u q _ => ⟨u, k b u q⟩
  tups := fun b xs q => by rw [upd_ne (ne_of_none q hn)]; exact q
  frzs := fun b u xs q => by rw [upd_ne (ne_of_none q hn)]; exact q
  tbls := fun b ps q => ⟨#[], by rw [upd_ne (ne_of_none q hn), q]; simp⟩
theorem Un.write (mu : Mut (H x)) (he : e = x ∨ H e = some (.own x)) (k : ∀ b u, b ≠ e → h.get? b = some u → h'.get? b = some u) (heo : ∃ u, h'.get? e = some u) : Un fs ex H (upd H x o) h h' := by
  have hx : ∀ b, H b = none → b ≠ x := fun b n z => by subst z; rw [n] at mu; exact mu
  have hb : ∀ b, H b = none → b ≠ e := fun b n z => by
    subst z
    rcases he with r | r
    · exact hx b n r
    · rw [n] at r; cases r
  have hm : ∀ b u, H b = some u → ¬ Mut (some u) → b ≠ x := fun b u q nm z => by subst z; rw [q] at mu; exact nm mu
  refine ⟨fun b u q n _ _ => k b u (hb b n) q, fun b u q n _ _ => ⟨u.slots, k b u (hb b n) q⟩, fun b u q n _ => by rw [upd_ne (hx b n)]; exact n, fun b u q _ => ?_,
    fun b xs q => by rw [upd_ne (hm b _ q fun z => z)]; exact q, fun b u xs q => by rw [upd_ne (hm b _ q fun z => z)]; exact q, fun b ps q => ⟨#[], by rw [upd_ne (hm b _ q fun z => z), q]; simp⟩⟩
  by_cases hbe : b = e
  · subst hbe; exact heo
  · exact ⟨u, k b u hbe q⟩
end
def trk (h : Heap) (H : Hp) : List Addr := (List.range h.objs.size).filter fun a => (H a).isSome
def hidT (h : Heap) (H : Hp) : Heap := PySem.W.hideAll h (trk h H)
theorem hidT_size (h : Heap) (H : Hp) : (hidT h H).objs.size = h.objs.size := PySem.W.hideAll_size _ _
theorem hidT_get {h : Heap} {H : Hp} {b : Addr} {o : Obj} (e : h.get? b = some o) (n : H b = none) : (hidT h H).get? b = some o :=
  PySem.W.hideAll_get _ e fun hm => by
    have q : (H b).isSome = true := (List.mem_filter.mp hm).2
    rw [n] at q; simp at q
theorem of_hidT {h : Heap} {H : Hp} {b : Addr} {o : Obj} (e : (hidT h H).get? b = some o) : h.get? b = some o ∧ H b = none := by
  have e' : h.get? b = some o := PySem.W.of_hideAll (trk h H) e
  refine ⟨e', ?_⟩
  cases q : H b with
  | none => rfl
  | some x =>
    have hm : b ∈ trk h H := List.mem_filter.mpr ⟨List.mem_range.mpr (Heap.lt_size e'), by simp [q]⟩
    have z : (hidT h H).get? b = none := PySem.W.hideAll_none (trk h H) hm
    rw [z] at e; cases e
end L2
namespace L2
open PySem PySem.Spec PyProof.Rows
/-- the module's facts, over the base: the heap at the law's entry without what is tracked there -/
structure Mod (K : PySem.W.Frag) (mg : Str → Option Value) (base : Heap) : Prop where
  kin : K.In base
  glob : base.Ns mainGlobals mg
  blt : ∃ mb, base.Ns builtinsNs mb ∧ ∀ x : Str, x ≠ "__name__" → mb x = bootBuiltins x
  nolimit : base.NoLimit
/-- the context: a def's body (or a comprehension's block) running. base: fixed through the whole law; s₀, H₀: the entry; outer: the frames whose slots others may change (a def's callers); stack: all frames that run;
   ex: iterators that were made ahead of the entry and are walked here (a comprehension's); fn: the names whose cells were made at the entry (a def: all; a comprehension's block: its own); calm: not within an except suite; pn: pins that every state bears; xe: what is wanted of an exception that leaves the code -/
structure Cx where
  prog : Program
  w : World
  K : PySem.W.Frag
  mg : Str → Option Value
  base : Heap
  A : Around
  N : List Str
  s_0 : Shared
  H_0 : Hp
  env : Env
  outer : List Env
  stack : List Env
  ex : List Addr
  fn : Str → Bool
  calm : Bool
  pn : List (Addr × Obj)
  xe : Value → Shared → Prop
/-- the callers' frames -/
def frs (l : List Env) : List Addr := l.filterMap (·.frame)
abbrev Cx.fs (X : Cx) : List Addr := frs X.outer
def Vis (sc : Scope) (x : Str) : Prop := sc.names.lookup x = some .local ∨ sc.names.lookup x = some .cell ∨ sc.names.lookup x = some .free
def Loc (sc : Scope) (x : Str) : Prop := sc.names.lookup x = some .local ∨ sc.names.lookup x = some .cell
def Look (env : Env) (h : Heap) (m : Str → Option Value) (x : Str) (u : Value) : Prop :=
  (env.kindOf x = some .local ∧ m x = some u) ∨ ((env.kindOf x = some .cell ∨ env.kindOf x = some .free) ∧ ∃ c, env.cells.lookup x = some c ∧ h.IsCell c (some u))
structure Cx.Ok (X : Cx) : Prop where
  mod : Mod X.K X.mg X.base
  kind : X.env.scope.kind = .function
  glob : X.env.globals = mainGlobals
  blt : X.env.builtins = builtinsNs
  above : X.s_0.heap.objs.size ≤ X.env.locals
  inj : ∀ x y c, X.env.cells.lookup x = some c → X.env.cells.lookup y = some c → x = y
  has : ∀ x, (X.env.kindOf x = some .cell ∨ X.env.kindOf x = some .free) → ∃ c, X.env.cells.lookup x = some c
  cab : ∀ x c, X.fn x = true → X.env.cells.lookup x = some c → X.s_0.heap.objs.size ≤ c
  hd : X.calm = true → X.A.handled = none
  frames : X.A.frames = some X.stack
  stk : X.stack = X.outer ∨ (X.stack = X.env :: X.outer ∧ X.env.frame = some X.env.locals)
  exf : ∀ b ∈ X.ex, b ≠ X.env.locals ∧ ∀ x c, X.env.cells.lookup x = some c → c ≠ b
  bs : ∀ b o, X.base.get? b = some o → X.s_0.heap.get? b = some o ∧ X.H_0 b = none
  bsz : X.base.objs.size ≤ X.s_0.heap.objs.size
  noex : ∀ b o, X.base.get? b = some o → b ∉ X.ex
  exfs : ∀ b ∈ X.ex, b ∉ X.fs
  funs : X.s_0.heap.FunFrames X.base X.outer
  frf : ∀ b ∈ X.fs, X.H_0 b = none
structure Inv (X : Cx) (pins : List (Addr × Obj)) (σ : List (Option V)) (H : Hp) (s : Shared) : Prop where
  ok : X.Ok
  os : s.os = X.s_0.os
  bare : AllBare s.gens
  base : Un X.fs X.ex X.H_0 H X.s_0.heap s.heap
  loc : ∃ m, s.heap.Ns X.env.locals m ∧ ∀ (i : Nat) (x : Str) (v : V), X.N[i]? = some x → σ[i]? = some (some v) → Vis X.env.scope x → ∃ u, RelV v u ∧ Look X.env s.heap m x u
  cell : ∀ x c, X.env.cells.lookup x = some c → ∃ v, s.heap.IsCell c v
  free : H X.env.locals = none
  freeC : ∀ x c, X.env.cells.lookup x = some c → H c = none
  pin : ∀ p ∈ X.pn ++ pins, s.heap.get? p.1 = some p.2 ∧ H p.1 = none ∧ p.1 ≠ X.env.locals ∧ p.1 ∉ X.fs ∧ ∀ v, p.2.data ≠ .cell v
  hok : HOk X.prog X.w H s.heap
  len : σ.length = X.N.length
section
variable {X : Cx} {pins : List (Addr × Obj)} {σ : List (Option V)} {H H' : Hp} {s : Shared} {h' : Heap}
theorem Cx.Ok.nofr (ok : X.Ok) {b : Addr} {o : Obj} (e : X.base.get? b = some o) : b ∉ X.fs := fun hb => by
  have := (ok.funs.mem hb).1
  rw [e] at this; cases this
theorem Inv.bs (I : Inv X pins σ H s) : ∀ b o, X.base.get? b = some o → s.heap.get? b = some o ∧ H b = none := fun b o e =>
  ⟨I.base.keep b o (I.ok.bs b o e).1 (I.ok.bs b o e).2 (I.ok.nofr e) (I.ok.noex b o e), I.base.free b o (I.ok.bs b o e).1 (I.ok.bs b o e).2 (I.ok.noex b o e)⟩
theorem Inv.bk (I : Inv X pins σ H s) : ∀ b o, X.base.get? b = some o → s.heap.get? b = some o := fun b o e => (I.bs b o e).1
theorem Inv.mod (I : Inv X pins σ H s) : Mod X.K X.mg X.base := I.ok.mod
theorem Inv.kIn (I : Inv X pins σ H s) : X.K.In s.heap := I.ok.mod.kin.keeps I.bk
theorem Inv.lt (I : Inv X pins σ H s) : X.env.locals < s.heap.objs.size := let ⟨_, hn, _⟩ := I.loc; hn.lt
theorem Inv.sz (I : Inv X pins σ H s) : X.s_0.heap.objs.size ≤ s.heap.objs.size := Nat.le_trans I.ok.above (Nat.le_of_lt I.lt)
theorem Inv.nofs (I : Inv X pins σ H s) {a : Addr} (h : s.heap.objs.size ≤ a) : a ∉ X.fs := fun hb => by
  obtain ⟨_, o, ho, _⟩ := I.ok.funs.mem hb
  exact absurd (Nat.lt_of_lt_of_le (Heap.lt_size ho) (Nat.le_trans I.sz h)) (Nat.lt_irrefl _)
theorem Inv.cne (I : Inv X pins σ H s) : ∀ x c, X.env.cells.lookup x = some c → c ≠ X.env.locals := fun x c e z => by
  obtain ⟨v, o, ho, hd⟩ := I.cell x c e
  obtain ⟨m, ⟨o', es, ep, ho', hd', _⟩, _⟩ := I.loc
  rw [z, ho'] at ho; cases ho; rw [hd'] at hd; cases hd
theorem Inv.funs (I : Inv X pins σ H s) : s.heap.FunFrames X.base X.outer := by
  have all : ∀ (l : List Env), (∀ b ∈ frs l, b ∈ X.fs) → X.s_0.heap.FunFrames X.base l → s.heap.FunFrames X.base l := by
    intro l
    induction l with
    | nil => intro _ _; trivial
    | cons env r ih =>
      intro hs hl
      obtain ⟨hk, ⟨L, o, hf, hn, ho, hd⟩, hr⟩ := hl
      have hL : L ∈ X.fs := hs L (by unfold frs; rw [List.filterMap_cons, hf]; exact List.mem_cons_self)
      obtain ⟨sl, e⟩ := I.base.slot L o ho (I.ok.frf L hL) hL fun z => I.ok.exfs L z hL
      exact ⟨hk, ⟨L, _, hf, hn, e, hd⟩, ih (fun b hb => hs b (by unfold frs; rw [List.filterMap_cons, hf]; exact List.mem_cons_of_mem _ hb)) hr⟩
  exact all X.outer (fun _ hb => hb) I.ok.funs
/-- the frames that run, for a call -/
theorem Inv.stack (I : Inv X pins σ H s) : s.heap.FunFrames X.base X.stack := by
  rcases I.ok.stk with e | ⟨e, hf⟩
  · rw [e]; exact I.funs
  · rw [e]
    obtain ⟨m, hn, _⟩ := I.loc
    refine .cons (by rw [I.ok.kind]; decide) hf hn ?_ I.funs
    exact Heap.get?_none_of_le (Nat.le_trans I.ok.bsz I.ok.above)
theorem Inv.stkSub (I : Inv X pins σ H s) : ∀ b ∈ frs X.stack, b ∈ X.env.locals :: X.fs := fun b hb => by
  rcases I.ok.stk with e | ⟨e, hf⟩
  · rw [e] at hb; exact List.mem_cons_of_mem _ hb
  · rw [e] at hb
    unfold frs at hb
    rw [List.filterMap_cons, hf] at hb
    exact hb
theorem Inv.stkFree (I : Inv X pins σ H s) : ∀ b ∈ frs X.stack, H b = none := fun b hb => by
  rcases List.mem_cons.mp (I.stkSub b hb) with e | hb
  · rw [e]; exact I.free
  · obtain ⟨_, o, ho, _⟩ := I.ok.funs.mem hb
    exact I.base.free b o ho (I.ok.frf b hb) fun z => I.ok.exfs b z hb
/-- THE STEP: the untracked objects but the frame and the records at ch are kept (the callers' frames up to slots), the frame's map is kept, the new abstract heap is held -/
theorem Inv.step {g' : Array GenState} {t' : Nat} {d' : Drawn} {ch : List Addr} (I : Inv X pins σ H s)
    (hch : ∀ b ∈ ch, (b ∈ X.ex ∨ X.s_0.heap.objs.size ≤ b) ∧ b ≠ X.env.locals ∧ (∀ x c, X.env.cells.lookup x = some c → c ≠ b) ∧ ∀ p ∈ X.pn ++ pins, p.1 ≠ b)
    (keep : ∀ b o, b ≠ X.env.locals → b ∉ X.fs → b ∉ ch → s.heap.get? b = some o → H b = none → h'.get? b = some o)
    (slot : ∀ b o, b ≠ X.env.locals → b ∈ X.fs → b ∉ ch → s.heap.get? b = some o → H b = none → ∃ sl, h'.get? b = some { o with slots := sl }) (free : ∀ b o, b ∉ ch → s.heap.get? b = some o → H b = none → H' b = none)
    (there : ∀ b o, b ∉ ch → s.heap.get? b = some o → ∃ o', h'.get? b = some o')
    (tups : ∀ b xs, H b = some (.tup xs) → H' b = some (.tup xs)) (frzs : ∀ b o u, H b = some (.frz o u) → H' b = some (.frz o u)) (tbls : ∀ b ps, H b = some (.tbl ps) → ∃ more, H' b = some (.tbl (ps ++ more)))
    (ns : ∀ m, s.heap.Ns X.env.locals m → h'.Ns X.env.locals m) (hok : HOk X.prog X.w H' h') (hg : AllBare g') :
    Inv X pins σ H' { s with heap := h', gens := g', drawn := d', toks := t' } := by
  have neL : ∀ b o, X.s_0.heap.get? b = some o → b ≠ X.env.locals := fun b o e => Nat.ne_of_lt (Nat.lt_of_lt_of_le (Heap.lt_size e) I.ok.above)
  have neC : ∀ b o, X.s_0.heap.get? b = some o → b ∉ X.ex → b ∉ ch := fun b o e hx hb => by
    rcases (hch b hb).1 with z | z
    · exact hx z
    · exact absurd (Nat.lt_of_lt_of_le (Heap.lt_size e) z) (Nat.lt_irrefl _)
  have cellK : ∀ x c, X.env.cells.lookup x = some c → ∀ v, s.heap.IsCell c v → h'.IsCell c v := fun x c e v ⟨o, ho, hd⟩ => by
    have nch : c ∉ ch := fun z => (hch c z).2.2.1 x c e rfl
    by_cases hc : c ∈ X.fs
    · obtain ⟨sl, q⟩ := slot c o (I.cne x c e) hc nch ho (I.freeC x c e)
      exact ⟨_, q, hd⟩
    · exact ⟨o, keep c o (I.cne x c e) hc nch ho (I.freeC x c e), hd⟩
  refine ⟨I.ok, I.os, hg, ⟨fun b o e n hb hx => ?_, fun b o e n hb hx => ?_, fun b o e n hx => ?_, fun b o e hx => ?_, fun b xs e => tups b xs (I.base.tups b xs e), fun b o xs e => frzs b o xs (I.base.frzs b o xs e), fun b ps e => ?_⟩, ?_, fun x c e => ?_, ?_, fun x c e => ?_, fun p hp => ?_, hok, I.len⟩
  · exact keep b o (neL b o e) hb (neC b o e hx) (I.base.keep b o e n hb hx) (I.base.free b o e n hx)
  · obtain ⟨sl, e1⟩ := I.base.slot b o e n hb hx
    obtain ⟨sl', e2⟩ := slot b _ (neL b o e) hb (neC b o e hx) e1 (I.base.free b o e n hx)
    exact ⟨sl', e2⟩
  · obtain ⟨o', e1⟩ := I.base.there b o e hx
    exact free b o' (neC b o e hx) e1 (I.base.free b o e n hx)
  · obtain ⟨o', e1⟩ := I.base.there b o e hx
    exact there b o' (neC b o e hx) e1
  · obtain ⟨m1, e1⟩ := I.base.tbls b ps e
    obtain ⟨m2, e2⟩ := tbls b _ e1
    exact ⟨m1 ++ m2, by rw [e2, Array.append_assoc]⟩
  · obtain ⟨m, hn, hl⟩ := I.loc
    refine ⟨m, ns m hn, fun i x v e1 e2 e3 => ?_⟩
    obtain ⟨u, r, l⟩ := hl i x v e1 e2 e3
    refine ⟨u, r, ?_⟩
    rcases l with l | ⟨k, c, e, z⟩
    · exact .inl l
    · exact .inr ⟨k, c, e, cellK x c e _ z⟩
  · obtain ⟨v, z⟩ := I.cell x c e
    exact ⟨v, cellK x c e v z⟩
  · obtain ⟨m, ⟨o, _, _, ho, _⟩, _⟩ := I.loc
    exact free _ o (fun z => (hch _ z).2.1 rfl) ho I.free
  · obtain ⟨v, o, ho, hd⟩ := I.cell x c e
    exact free c o (fun z => (hch c z).2.2.1 x c e rfl) ho (I.freeC x c e)
  · obtain ⟨e, n, ne, nf, d⟩ := I.pin p hp
    have nch : p.1 ∉ ch := fun z => (hch p.1 z).2.2.2 p hp rfl
    exact ⟨keep p.1 p.2 ne nf nch e n, free p.1 p.2 nch e n, ne, nf, d⟩
/-- .. where the frame's own object is kept too -/
theorem Inv.un {t' : Nat} (I : Inv X pins σ H s) (u : Un X.fs [] H H' s.heap h') (hok : HOk X.prog X.w H' h') : Inv X pins σ H' { s with heap := h', toks := t' } := by
  obtain ⟨m, ⟨o, es, ep, ho, r⟩, _⟩ := id I.loc
  obtain ⟨sl, hL⟩ := u.any ho I.free (by simp)
  exact I.step (g' := s.gens) (d' := s.drawn) (ch := []) (fun _ z => nomatch z) (fun b o _ hb _ e n => u.keep b o e n hb (by simp)) (fun b o _ hb _ e n => u.slot b o e n hb (by simp)) (fun b o _ e n => u.free b o e n (by simp)) (fun b o _ e => u.there b o e (by simp)) u.tups u.frzs u.tbls (fun m' hm => by
    obtain ⟨o', es', ep', ho', r'⟩ := hm
    rw [ho] at ho'; cases ho'
    exact ⟨_, es', ep', hL, r'⟩) hok I.bare
/-- behind a call (or a comprehension's block): the slots of this frame may have changed too, the records at ch may have turned -/
theorem Inv.call {g' : Array GenState} {t' : Nat} {d' : Drawn} {ch : List Addr} (I : Inv X pins σ H s) (u : Un (frs X.stack) ch H H' s.heap h') (hok : HOk X.prog X.w H' h') (hg : AllBare g')
    (hch : ∀ b ∈ ch, (b ∈ X.ex ∨ X.s_0.heap.objs.size ≤ b) ∧ b ≠ X.env.locals ∧ (∀ x c, X.env.cells.lookup x = some c → c ≠ b) ∧ ∀ p ∈ X.pn ++ pins, p.1 ≠ b) :
    Inv X pins σ H' { s with heap := h', gens := g', drawn := d', toks := t' } := by
  obtain ⟨m, ⟨o, es, ep, ho, r⟩, _⟩ := id I.loc
  obtain ⟨sl, hL⟩ := u.any ho I.free fun z => (hch _ z).2.1 rfl
  exact I.step (ch := ch) hch (fun b o hL hb hc e n => u.keep b o e n (fun z => (List.mem_cons.mp (I.stkSub b z)).elim hL hb) hc) (fun b o _ _ hc e n => u.any e n hc) (fun b o hc e n => u.free b o e n hc) (fun b o hc e => u.there b o e hc) u.tups u.frzs u.tbls (fun m' hm => by
    obtain ⟨o', es', ep', ho', r'⟩ := hm
    rw [ho] at ho'; cases ho'
    exact ⟨_, es', ep', hL, r'⟩) hok hg
/-- an untracked record of ours (an iterator) has turned -/
theorem Inv.turned {t' : Nat} {it : Addr} (I : Inv X pins σ H s) (k : ∀ b o, b ≠ it → s.heap.get? b = some o → h'.get? b = some o) (hn : H it = none) (hL : it ≠ X.env.locals)
    (h1 : it ∈ X.ex ∨ X.s_0.heap.objs.size ≤ it) (h2 : ∀ x c, X.env.cells.lookup x = some c → c ≠ it) (h3 : ∀ p ∈ X.pn ++ pins, p.1 ≠ it) : Inv X pins σ H { s with heap := h', toks := t' } := by
  have nit : ∀ b u, H b = some u → b ≠ it := fun b u e z => by rw [z, hn] at e; cases e
  refine I.step (g' := s.gens) (d' := s.drawn) (ch := [it]) (fun b hb => ?_) (fun b o _ _ hc e _ => k b o (fun z => hc (by simp [z])) e) (fun b o _ _ hc e _ => ⟨o.slots, k b o (fun z => hc (by simp [z])) e⟩) (fun _ _ _ _ n => n)
    (fun b o hc e => ⟨o, k b o (fun z => hc (by simp [z])) e⟩) (fun _ _ e => e) (fun _ _ _ e => e) (fun b ps e => ⟨#[], by rw [e]; simp⟩) (fun m hm => ?_) (fun b u e => ?_) I.bare
  · have e : b = it := by simpa using hb
    subst e
    exact ⟨h1, hL, h2, h3⟩
  · obtain ⟨o, es, ep, ho, r⟩ := hm
    exact ⟨o, es, ep, k _ o (Ne.symm hL) ho, r⟩
  · refine (I.hok b u e).stay (fun c v hc q => k c v ?_ q) (fun _ q => q) fun _ _ q => q
    rcases hc with z | z
    · rw [z]; exact nit b u e
    · exact nit c _ z
theorem Inv.tok (I : Inv X pins σ H s) (t : Nat) : Inv X pins σ H { s with toks := t } := I.un (h' := s.heap) (t' := t) Un.refl I.hok
/-- all objects kept -/
theorem Inv.kept {t' : Nat} (I : Inv X pins σ H s) (k : ∀ b u, s.heap.get? b = some u → h'.get? b = some u) : Inv X pins σ H { s with heap := h', toks := t' } := I.un (Un.kept k) (I.hok.kept k)
/-- a new object laid and tracked -/
theorem Inv.laid {a : Addr} {o : HO} {t' : Nat} (I : Inv X pins σ H s) (k : ∀ b u, s.heap.get? b = some u → h'.get? b = some u) (hp : s.heap.objs.size ≤ a) (new : ObjOk X.prog X.w (upd H a o) h' a o) :
    Inv X pins σ (upd H a o) { s with heap := h', toks := t' } := I.un (Un.laid k hp (I.hok.fresh hp)) (I.hok.laid k hp new)
/-- an object written -/
theorem Inv.write {x e : Addr} {o : HO} {t' : Nat} (I : Inv X pins σ H s) (mu : Mut (H x)) (he : e = x ∨ H e = some (.own x)) (k : ∀ b u, b ≠ e → s.heap.get? b = some u → h'.get? b = some u) (heo : ∃ u, h'.get? e = some u)
    (new : ObjOk X.prog X.w (upd H x o) h' x o) : Inv X pins σ (upd H x o) { s with heap := h', toks := t' } := I.un (Un.write mu he k heo) (I.hok.write mu he k heo new)
/-- forgetting slots, pins -/
theorem Inv.weak {σ' : List (Option V)} (I : Inv X pins σ H s) (hl : σ'.length = σ.length) (w : ∀ (i : Nat) v, σ'[i]? = some (some v) → σ[i]? = some (some v)) : Inv X pins σ' H s :=
  ⟨I.ok, I.os, I.bare, I.base, let ⟨m, hn, hl'⟩ := I.loc; ⟨m, hn, fun i x v e1 e2 e3 => hl' i x v e1 (w i v e2) e3⟩, I.cell, I.free, I.freeC, I.pin, I.hok, hl.trans I.len⟩
theorem Inv.pins_of {pins' : List (Addr × Obj)} (I : Inv X pins σ H s) (h : ∀ p ∈ pins', s.heap.get? p.1 = some p.2 ∧ H p.1 = none ∧ p.1 ≠ X.env.locals ∧ p.1 ∉ X.fs ∧ ∀ v, p.2.data ≠ .cell v) : Inv X pins' σ H s :=
  ⟨I.ok, I.os, I.bare, I.base, I.loc, I.cell, I.free, I.freeC, fun p hp => (List.mem_append.mp hp).elim (fun z => I.pin p (List.mem_append_left _ z)) (h p), I.hok, I.len⟩
theorem nodup_ix {N : List Str} (hN : N.Nodup) {i j : Nat} {x : Str} (a : N[i]? = some x) (b : N[j]? = some x) : i = j := by
  obtain ⟨h1, e1⟩ := List.getElem?_eq_some_iff.mp a
  obtain ⟨h2, e2⟩ := List.getElem?_eq_some_iff.mp b
  exact (List.getElem_inj hN).mp (e1.trans e2.symm)
/-- a name is stored; what changed -/
theorem store_ok2 {M : Model} {A : Around} {E : Value → Shared → Prop} {i : Nat} {x : Str} {v : V} {u : Value} {Q : Unit → Shared → Prop} (I : Inv X pins σ H s) (hN : X.N.Nodup) (hi : X.N[i]? = some x) (hx : Loc X.env.scope x) (r : RelV v u)
    (h : ∀ s', Inv X pins (σ.set i (some v)) H s' → (∃ a, Heap.SameBut a s.heap s'.heap ∧ (a = X.env.locals ∨ X.env.cells.lookup x = some a)) → Q () s') (hf : X.fn x = true ∨ X.env.scope.names.lookup x = some .local := by first | exact .inl rfl | exact .inr rfl | assumption) : wpAny M A (storeName X.env x u) Q E s := by
  obtain ⟨m, hn, hl⟩ := id I.loc
  have hcls : (X.env.scope.kind == .class || (X.env.scope.kind == .module && X.env.locals != X.env.globals)) = false := by rw [I.ok.kind]; rfl
  have hiσ : i < σ.length := by rw [I.len]; exact (List.getElem?_eq_some_iff.mp hi).1
  have cne := I.cne
  have tracked : ∀ {a : Addr} {h' : Heap}, (∃ o, s.heap.get? a = some o ∧ H a = none) → Heap.SameBut a s.heap h' → HOk X.prog X.w H h' := fun {a h'} ha hs b ob e => by
    obtain ⟨_, _, hfree⟩ := ha
    refine (I.hok b ob e).stay (fun c w' hc q => (hs.2 c ?_).trans q) (fun _ q => q) fun _ _ q => q
    rintro rfl
    rcases hc with rfl | hc
    · rw [hfree] at e; cases e
    · rw [hfree] at hc; cases hc
  rcases hx with hk | hk
  · refine wpAny_storeName_local hk hn (fun h' hn' hs => ?_) hcls
    obtain ⟨oL, _, _, hoL, _⟩ := id hn
    refine h _ ⟨I.ok, I.os, I.bare, ⟨fun b o e n hb hx => ?_, fun b o e n hb hx => ?_, I.base.free, fun b o e hx => ?_, I.base.tups, I.base.frzs, I.base.tbls⟩, ⟨_, hn', fun j y v' e1 e2 e3 => ?_⟩, fun y c e => ?_, I.free, I.freeC, fun p hp => ?_, tracked ⟨oL, hoL, I.free⟩ hs, by simpa using I.len⟩ ⟨_, hs, .inl rfl⟩
    · exact (hs.2 b (Nat.ne_of_lt (Nat.lt_of_lt_of_le (Heap.lt_size e) I.ok.above))).trans (I.base.keep b o e n hb hx)
    · obtain ⟨sl, e1⟩ := I.base.slot b o e n hb hx
      exact ⟨sl, (hs.2 b (Nat.ne_of_lt (Nat.lt_of_lt_of_le (Heap.lt_size e) I.ok.above))).trans e1⟩
    · obtain ⟨o', e1⟩ := I.base.there b o e hx
      exact ⟨o', (hs.2 b (Nat.ne_of_lt (Nat.lt_of_lt_of_le (Heap.lt_size e) I.ok.above))).trans e1⟩
    · by_cases hj : j = i
      · subst hj
        rw [hi] at e1; cases e1
        rw [List.getElem?_set_self hiσ] at e2
        cases e2
        exact ⟨u, r, .inl ⟨hk, by simp⟩⟩
      · rw [List.getElem?_set_ne (Ne.symm hj)] at e2
        obtain ⟨u', r', q⟩ := hl j y v' e1 e2 e3
        refine ⟨u', r', ?_⟩
        rcases q with ⟨k, e⟩ | ⟨k, c, e, z⟩
        · refine .inl ⟨k, ?_⟩
          have : y ≠ x := fun e => hj (nodup_ix hN e1 (e ▸ hi))
          simp [this, e]
        · exact .inr ⟨k, c, e, z.sameBut hs (cne y c e)⟩
    · obtain ⟨w', z⟩ := I.cell y c e
      exact ⟨w', z.sameBut hs (cne y c e)⟩
    · obtain ⟨e, n, ne, nf, d⟩ := I.pin p hp
      exact ⟨(hs.2 p.1 ne).trans e, n, ne, nf, d⟩
  · have hfn : X.fn x = true := by
      rcases hf with z | z
      · exact z
      · rw [z] at hk; cases hk
    obtain ⟨c, hc⟩ := I.ok.has x (.inl hk)
    obtain ⟨w', z⟩ := I.cell x c hc
    refine wpAny_storeName_cell I.ok.kind hk hc z (fun h' hc' hs => ?_)
    obtain ⟨oc, hoc, hocd⟩ := id z
    refine h { s with heap := h' } ⟨I.ok, I.os, I.bare, ⟨fun b o e n hb hx => ?_, fun b o e n hb hx => ?_, I.base.free, fun b o e hx => ?_, I.base.tups, I.base.frzs, I.base.tbls⟩, ⟨m, hn.sameBut hs (Ne.symm (cne x c hc)), fun j y v' e1 e2 e3 => ?_⟩, fun y c' e => ?_, I.free, I.freeC, fun p hp => ?_, tracked ⟨oc, hoc, I.freeC x c hc⟩ hs, by simpa using I.len⟩ ⟨c, hs, .inr hc⟩
    · exact (hs.2 b (Nat.ne_of_lt (Nat.lt_of_lt_of_le (Heap.lt_size e) (I.ok.cab x c hfn hc)))).trans (I.base.keep b o e n hb hx)
    · obtain ⟨sl, e1⟩ := I.base.slot b o e n hb hx
      exact ⟨sl, (hs.2 b (Nat.ne_of_lt (Nat.lt_of_lt_of_le (Heap.lt_size e) (I.ok.cab x c hfn hc)))).trans e1⟩
    · obtain ⟨o', e1⟩ := I.base.there b o e hx
      exact ⟨o', (hs.2 b (Nat.ne_of_lt (Nat.lt_of_lt_of_le (Heap.lt_size e) (I.ok.cab x c hfn hc)))).trans e1⟩
    · by_cases hj : j = i
      · subst hj
        rw [hi] at e1; cases e1
        rw [List.getElem?_set_self hiσ] at e2
        cases e2
        exact ⟨u, r, .inr ⟨.inl hk, c, hc, hc'⟩⟩
      · rw [List.getElem?_set_ne (Ne.symm hj)] at e2
        obtain ⟨u', r', q⟩ := hl j y v' e1 e2 e3
        refine ⟨u', r', ?_⟩
        rcases q with q | ⟨k, c', e, z'⟩
        · exact .inl q
        · refine .inr ⟨k, c', e, z'.sameBut hs ?_⟩
          rintro rfl
          exact hj (nodup_ix hN e1 (I.ok.inj _ _ _ e hc ▸ hi))
    · by_cases hcc : c' = c
      · subst hcc; exact ⟨_, hc'⟩
      · obtain ⟨w2, z2⟩ := I.cell y c' e
        exact ⟨w2, z2.sameBut hs hcc⟩
    · obtain ⟨e, n, ne, nf, d⟩ := I.pin p hp
      refine ⟨(hs.2 p.1 ?_).trans e, n, ne, nf, d⟩
      intro q
      rw [q, hoc] at e
      have q' : oc = p.2 := Option.some.inj e
      exact d w' (by rw [← q']; exact hocd)
theorem store_ok {M : Model} {A : Around} {E : Value → Shared → Prop} {i : Nat} {x : Str} {v : V} {u : Value} {Q : Unit → Shared → Prop} (I : Inv X pins σ H s) (hN : X.N.Nodup) (hi : X.N[i]? = some x) (hx : Loc X.env.scope x) (r : RelV v u)
    (h : ∀ s', Inv X pins (σ.set i (some v)) H s' → Q () s') (hf : X.fn x = true ∨ X.env.scope.names.lookup x = some .local := by first | exact .inl rfl | exact .inr rfl | assumption) : wpAny M A (storeName X.env x u) Q E s :=
  store_ok2 I hN hi hx r (fun s' I' _ => h s' I') hf
/-- behind a call or a block, the state as it is -/
theorem Inv.call' {s' : Shared} {ch : List Addr} (I : Inv X pins σ H s) (ho : s'.os = s.os) (u : Un (frs X.stack) ch H H' s.heap s'.heap) (hok : HOk X.prog X.w H' s'.heap) (hg : AllBare s'.gens)
    (hch : ∀ b ∈ ch, (b ∈ X.ex ∨ X.s_0.heap.objs.size ≤ b) ∧ b ≠ X.env.locals ∧ (∀ x c, X.env.cells.lookup x = some c → c ≠ b) ∧ ∀ p ∈ X.pn ++ pins, p.1 ≠ b) : Inv X pins σ H' s' := by
  obtain ⟨h', g', d', t', o'⟩ := s'
  have e : o' = s.os := ho
  subst e
  exact I.call (g' := g') (t' := t') (d' := d') u hok hg hch
end
/-- an exception: its class, its own dict's address (where it has one), the abstract heap behind it -/
abbrev XK := Value → Option Addr → Hp → Prop
abbrev St := List (Option V)
abbrev VK := V → Hp → Prop
/-- an expression's reading; a test's; an argument list's -/
abbrev TE := St → Hp → VK → Prop
abbrev TT := St → Hp → (Bool → Hp → Prop) → Prop
abbrev TA := St → Hp → (List V → Hp → Prop) → Prop
/-- what is wanted behind a statement -/
structure Ends where
  nx : St → Hp → Prop
  rt : VK
  bk : St → Hp → Prop := fun _ _ => False
  ct : St → Hp → Prop := fun _ _ => False
abbrev TS := Ends → St → Hp → Prop
def EP (X : Cx) (pins : List (Addr × Obj)) (σ : St) (Q : VK) (u : Value) (s' : Shared) : Prop := ∃ v H', Inv X pins σ H' s' ∧ RelV v u ∧ Q v H'
def TP (X : Cx) (pins : List (Addr × Obj)) (σ : St) (Q : Bool → Hp → Prop) (b : Bool) (s' : Shared) : Prop := ∃ H', Inv X pins σ H' s' ∧ Q b H'
def AP (X : Cx) (pins : List (Addr × Obj)) (σ : St) (Q : List V → Hp → Prop) (us : List Value) (s' : Shared) : Prop := ∃ vs H', Inv X pins σ H' s' ∧ Vals vs us ∧ Q vs H'
def SP (X : Cx) (pins : List (Addr × Obj)) (D : Ends) (f : Flow) (s' : Shared) : Prop :=
  match f with
  | .next => ∃ σ' H', Inv X pins σ' H' s' ∧ D.nx σ' H'
  | .brk => ∃ σ' H', Inv X pins σ' H' s' ∧ D.bk σ' H'
  | .cont => ∃ σ' H', Inv X pins σ' H' s' ∧ D.ct σ' H'
  | .ret u => ∃ v σ' H', Inv X pins σ' H' s' ∧ RelV v u ∧ D.rt v H'
def PE (X : Cx) (e : Expr) (t : TE) : Prop :=
  ∀ (pins : List (Addr × Obj)) (s : Shared) (σ : St) (H : Hp) (Q : VK), Inv X pins σ H s → t σ H Q → wpAny (model X.prog X.w) X.A (eval e X.env) (EP X pins σ Q) X.xe s
def PT (X : Cx) (e : Expr) (t : TT) : Prop :=
  ∀ (pins : List (Addr × Obj)) (s : Shared) (σ : St) (H : Hp) (Q : Bool → Hp → Prop), Inv X pins σ H s → t σ H Q → wpAny (model X.prog X.w) X.A (isTrue e X.env (eval e X.env)) (TP X pins σ Q) X.xe s
/-- a test whatever its 'whole' is (and, or) -/
def PW (X : Cx) (e : Expr) (t : TT) : Prop :=
  ∀ (whole : Sem Value) (pins : List (Addr × Obj)) (s : Shared) (σ : St) (H : Hp) (Q : Bool → Hp → Prop), Inv X pins σ H s → t σ H Q → wpAny (model X.prog X.w) X.A (isTrue e X.env whole) (TP X pins σ Q) X.xe s
theorem PW.pt {X : Cx} {e : Expr} {t : TT} (h : PW X e t) : PT X e t := h _
/-- an argument list (no star), from the left -/
def PA (X : Cx) (es : List Expr) (t : TA) : Prop :=
  ∀ (pos : Pos) (pins : List (Addr × Obj)) (s : Shared) (σ : St) (H : Hp) (Q : List V → Hp → Prop), Inv X pins σ H s → t σ H Q → wpAny (model X.prog X.w) X.A (spliced (backTo pos (starEach es X.env))) (AP X pins σ Q) X.xe s
def PS (X : Cx) (st : Stmt) (t : TS) : Prop :=
  ∀ (pins : List (Addr × Obj)) (s : Shared) (σ : St) (H : Hp) (D : Ends), Inv X pins σ H s → t D σ H → wpAny (model X.prog X.w) X.A (exec st X.env) (SP X pins D) X.xe s
def PSs (X : Cx) (st : List Stmt) (t : TS) : Prop :=
  ∀ (pins : List (Addr × Obj)) (s : Shared) (σ : St) (H : Hp) (D : Ends), Inv X pins σ H s → t D σ H → wpAny (model X.prog X.w) X.A (execs st X.env) (SP X pins D) X.xe s
/-- weaken the end -/
theorem thn {α : Type} {t : Sem α} {Q Q' : α → Shared → Prop} {M : Model} {A : Around} {E : Value → Shared → Prop} {s : Shared} (h : wpAny M A t Q E s) (hQ : ∀ a s, Q a s → Q' a s) : wpAny M A t Q' E s := wpAny_mono h hQ fun _ _ x => x
end L2
namespace L2
open PySem PySem.Spec PyProof.Rows
section
variable {X : Cx}
def tVar (i : Nat) : TE := fun σ H Q => ∃ v, σ[i]? = some (some v) ∧ Q v H
def tC (v : V) : TE := fun _ H Q => Q v H
theorem pe_var {i : Nat} {x : Str} {pos : Pos} (hN : X.N[i]? = some x) (hv : Vis X.env.scope x) (hd : (x == ("__debug__" : Str)) = false := by decide) (hcd : (x == ("__classdict__" : Str)) = false := by decide) : PE X (.Name x pos) (tVar i) := by
  intro pins s σ H Q I h
  obtain ⟨v, e, h⟩ := h
  obtain ⟨m, hn, hl⟩ := I.loc
  obtain ⟨u, r, l⟩ := hl i x v hN e hv
  have fin : EP X pins σ Q u s := ⟨v, H, I, r, h⟩
  rcases l with ⟨hk, hm⟩ | ⟨hk, c, hc, hcell⟩
  · exact wpAny_Name (wpAny_loadName_local I.ok.kind hk hn hm fin) hd
  · rcases hk with hk | hk
    · exact wpAny_Name (wpAny_loadName_cell I.ok.kind hk hc hcell fin) hd
    · exact wpAny_Name (wpAny_loadName_free I.ok.kind hk hc hcell fin hcd) hd
theorem pe_int {i j pos} : PE X (.Constant (.int i) j pos) (tC (.int i)) := fun _ _ _ H _ I h => wpAny_Constant_int ⟨.int i, H, I.tok _, ⟨_, rfl⟩, h⟩
theorem pe_bl {b j pos} : PE X (.Constant (.bool b) j pos) (tC (.bl b)) := fun _ _ _ H _ I h => Constant_bool ⟨.bl b, H, I, rfl, h⟩
theorem pe_non {j pos} : PE X (.Constant .none j pos) (tC .non) := fun _ _ _ H _ I h => Constant_none ⟨.non, H, I, rfl, h⟩
/-- a global name of the def -/
def Gl (X : Cx) (x : Str) : Prop := X.env.kindOf x = some .globalImplicit
theorem ld_glob {E : Value → Shared → Prop} {pins : List (Addr × Obj)} {s : Shared} {σ : St} {H : Hp} {x : Str} {u : Value} {pos : Pos} {Q : Value → Shared → Prop} (I : Inv X pins σ H s) (hg : Gl X x) (hm : X.mg x = some u) (h : Q u s)
    (hd : (x == ("__debug__" : Str)) = false := by decide) : wpAny (model X.prog X.w) X.A (eval (.Name x pos) X.env) Q E s :=
  Calls.Name_function_global I.ok.kind hg (Calls.loadGlobal_global (by rw [I.ok.glob]; exact I.mod.glob.keeps I.bk) hm h) hd
theorem ld_blt {E : Value → Shared → Prop} {pins : List (Addr × Obj)} {s : Shared} {σ : St} {H : Hp} {x : Str} {u : Value} {pos : Pos} {Q : Value → Shared → Prop} (I : Inv X pins σ H s) (hg : Gl X x) (hm : X.mg x = none) (hv : bootBuiltins x = some u) (h : Q u s)
    (hn : x ≠ "__name__" := by decide) (hd : (x == ("__debug__" : Str)) = false := by decide) : wpAny (model X.prog X.w) X.A (eval (.Name x pos) X.env) Q E s := by
  obtain ⟨mb, h1, h2⟩ := I.mod.blt
  exact Calls.Name_function_global I.ok.kind hg (Calls.loadGlobal_builtin (by rw [I.ok.glob]; exact I.mod.glob.keeps I.bk) hm (by rw [I.ok.blt]; exact h1.keeps I.bk) ((h2 x hn).trans hv) h) hd
/-- a module's constant, a class, a function, as a value -/
theorem pe_glob {x : Str} {v : V} {u : Value} {pos : Pos} (hg : Gl X x) (hm : X.mg x = some u) (r : RelV v u) (hd : (x == ("__debug__" : Str)) = false := by decide) : PE X (.Name x pos) (tC v) :=
  fun _ _ _ H _ I h => ld_glob I hg hm ⟨v, H, I, r, h⟩ hd
variable {a b : Expr} {ta tb : TE} {pos : Pos}
/-- a comparison as a value, as a test -/
def tB (t : TE) : TT := fun σ H Q => t σ H fun x H1 => ∃ c, x = .bl c ∧ Q c H1
/-- an expression whose value is a bool, as a test -/
theorem pt_val {e : Expr} {t : TE} (h : PE X e t) (he : ∀ whole, isTrue e X.env whole = (do let v ← whole; standAt e.pos; holding [v] (truthy v)) := by intro _; rfl) : PT X e (tB t) := by
  intro pins s σ H Q I hw
  refine isTrue_plain (thn (h pins s σ H _ I hw) fun v s1 ⟨x, H1, I1, r1, q1⟩ => ?_) (he _)
  obtain ⟨d, rfl, q⟩ := q1
  cases r1
  exact wpAny_truthy_bool ⟨H1, I1, q⟩
variable {tA tB' : TT} {rest : List Expr}
def tAnd (t u : TT) : TT := fun σ H Q => t σ H fun c H1 => if c = true then u σ H1 Q else Q false H1
def tOr (t u : TT) : TT := fun σ H Q => t σ H fun c H1 => if c = true then Q true H1 else u σ H1 Q
def tNot (t : TT) : TT := fun σ H Q => t σ H fun c H1 => Q (!c) H1
theorem pw_and1 (ha : PT X a tA) : PW X (.BoolOp .And [a] pos) tA := by
  intro wh pins s σ H Q I h
  refine isTrue_and (thn (ha pins s σ H Q I h) fun c s1 e => ?_)
  cases c with
  | true => exact isTrue_and_nil e
  | false => exact e
theorem pw_or1 (ha : PT X a tA) : PW X (.BoolOp .Or [a] pos) tA := by
  intro wh pins s σ H Q I h
  refine isTrue_or (thn (ha pins s σ H Q I h) fun c s1 e => ?_)
  cases c with
  | false => exact isTrue_or_nil e
  | true => exact e
theorem pw_and (ha : PT X a tA) (hb : PW X (.BoolOp .And (b :: rest) pos) tB') : PW X (.BoolOp .And (a :: b :: rest) pos) (tAnd tA tB') := by
  intro wh pins s σ H Q I h
  refine isTrue_and (thn (ha pins s σ H _ I h) fun c s1 ⟨H1, I1, q1⟩ => ?_)
  cases c with
  | true => exact hb wh pins s1 σ H1 Q I1 q1
  | false => exact ⟨H1, I1, q1⟩
theorem pw_or (ha : PT X a tA) (hb : PW X (.BoolOp .Or (b :: rest) pos) tB') : PW X (.BoolOp .Or (a :: b :: rest) pos) (tOr tA tB') := by
  intro wh pins s σ H Q I h
  refine isTrue_or (thn (ha pins s σ H _ I h) fun c s1 ⟨H1, I1, q1⟩ => ?_)
  cases c with
  | true => exact ⟨H1, I1, q1⟩
  | false => exact hb wh pins s1 σ H1 Q I1 q1
theorem pt_not (ha : PT X a tA) : PT X (.UnaryOp .Not a pos) (tNot tA) := by
  intro pins s σ H Q I h
  exact isTrue_not (ha pins s σ H (fun c H1 => Q (!c) H1) I h)
/-- .. as values (bools) -/
def tAndV (ta tb : TE) : TE := fun σ H Q => ta σ H fun x H1 => ∃ c, x = .bl c ∧ if c = true then tb σ H1 Q else Q (.bl false) H1
def tOrV (ta tb : TE) : TE := fun σ H Q => ta σ H fun x H1 => ∃ c, x = .bl c ∧ if c = true then Q (.bl true) H1 else tb σ H1 Q
theorem pe_one {op} {t : TE} (h : PE X a t) : PE X (.BoolOp op [a] pos) t := fun pins s σ H Q I hw => BoolOp_one (h pins s σ H Q I hw)
theorem pe_and (ha : PE X a ta) (hb : PE X (.BoolOp .And (b :: rest) pos) tb) : PE X (.BoolOp .And (a :: b :: rest) pos) (tAndV ta tb) := by
  intro pins s σ H Q I h
  refine BoolOp_and (thn (ha pins s σ H _ I h) fun v s1 ⟨x, H1, I1, r1, q1⟩ => ?_)
  obtain ⟨c, rfl, q1⟩ := q1
  cases r1
  refine wpAny_truthy_bool ?_
  cases c with
  | true => exact hb pins s1 σ H1 Q I1 q1
  | false => exact ⟨.bl false, H1, I1, rfl, q1⟩
theorem pe_or (ha : PE X a ta) (hb : PE X (.BoolOp .Or (b :: rest) pos) tb) : PE X (.BoolOp .Or (a :: b :: rest) pos) (tOrV ta tb) := by
  intro pins s σ H Q I h
  refine BoolOp_or (thn (ha pins s σ H _ I h) fun v s1 ⟨x, H1, I1, r1, q1⟩ => ?_)
  obtain ⟨c, rfl, q1⟩ := q1
  cases r1
  refine wpAny_truthy_bool ?_
  cases c with
  | false => exact hb pins s1 σ H1 Q I1 q1
  | true => exact ⟨.bl true, H1, I1, rfl, q1⟩
/-- a if t else b -/
def tIf (t : TT) (ta tb : TE) : TE := fun σ H Q => t σ H fun c H1 => if c = true then ta σ H1 Q else tb σ H1 Q
theorem pe_ifExp {c : Expr} (hc : PT X c tA) (ha : PE X a ta) (hb : PE X b tb) : PE X (.IfExp c a b pos) (tIf tA ta tb) := by
  intro pins s σ H Q I h
  refine wpAny_IfExp (thn (hc pins s σ H _ I h) fun d s1 ⟨H1, I1, q1⟩ => ?_)
  cases d with
  | true => exact ha pins s1 σ H1 Q I1 q1
  | false => exact hb pins s1 σ H1 Q I1 q1
end
end L2
namespace L2
open PySem PySem.Spec PyProof.Rows
def SqL (K : PySem.W.Frag) (H : Hp) (a : Addr) (xs : List V) : Prop :=
  Rd H a (.lst xs) ∨
    ∃ (o : Obj) (its : Array Value) (n : Nat), K.lookup a = some o ∧ o.cls = .type "list" ∧ o.dict = none ∧ o.data = .seq its n ∧ its.size ≤ sizeLine ∧ Vals xs its.toList
def SqT (K : PySem.W.Frag) (H : Hp) (a : Addr) (xs : List V) : Prop :=
  Rd H a (.tup xs) ∨
    ∃ (o : Obj) (its : Array Value) (n : Nat), K.lookup a = some o ∧ o.cls = .type "tuple" ∧ o.data = .seq its n ∧ its.size ≤ sizeLine ∧ Vals xs its.toList
def absV : Value → Option V
  | .none => some .non
  | .bool b => some (.bl b)
  | .int i _ => some (.int i)
  | .str x _ => some (.str x)
  | .bytes b _ => some (.byt b)
  | .float b _ => some (.flt b)
  | .ref a => some (.ref a)
  | .type n => some (.ty n)
  | _ => none
theorem RelV.abs {x : V} {u : Value} (r : RelV x u) : absV u = some x := by
  cases x with
  | non => cases r; rfl
  | bl _ => cases r; rfl
  | int _ => obtain ⟨t, rfl⟩ := r; rfl
  | str _ => obtain ⟨t, rfl⟩ := r; rfl
  | byt _ => obtain ⟨t, rfl⟩ := r; rfl
  | flt _ => obtain ⟨t, rfl⟩ := r; rfl
  | ref _ => cases r; rfl
  | ty _ => cases r; rfl
theorem RelV.inj {x y : V} {u : Value} (r : RelV x u) (q : RelV y u) : x = y := Option.some.inj (r.abs.symm.trans q.abs)
theorem Vals.inj : ∀ {xs ys : List V} {us : List Value}, Vals xs us → Vals ys us → xs = ys
  | _, _, _, .nil, .nil => rfl
  | _, _, _, .cons r t, .cons r' t' => by rw [r.inj r', Vals.inj t t']
section
variable {X : Cx} {pins : List (Addr × Obj)} {σ : St} {H : Hp} {s : Shared} {a : Addr} {xs ys : List V}
theorem SqL.of {K : PySem.W.Frag} (h : H a = some (.lst xs)) : SqL K H a xs := .inl (.inl h)
theorem SqT.of {K : PySem.W.Frag} (h : H a = some (.tup xs)) : SqT K H a xs := .inl (.inl h)
theorem Inv.list (I : Inv X pins σ H s) (h : SqL X.K H a xs) : ∃ its : List Value, Vals xs its ∧ PlainL s.heap a its.toArray ∧ xs.length ≤ sizeLine := by
  rcases h with h | ⟨o, its, n, hk, hc, hd, hs, hz, r⟩
  · obtain ⟨z, its, n, r, e⟩ := h.ok I.hok
    exact ⟨its, r, ⟨_, n, e, rfl, rfl, rfl⟩, z⟩
  · refine ⟨its.toList, r, ⟨o, n, I.kIn a o hk, hc, hd, by simpa using hs⟩, ?_⟩
    have e := r.length
    simp only [Array.length_toList] at e
    omega
theorem Inv.tuple (I : Inv X pins σ H s) (h : SqT X.K H a xs) : ∃ its : List Value, Vals xs its ∧ IsTup s.heap a its.toArray ∧ xs.length ≤ sizeLine := by
  rcases h with h | ⟨o, its, n, hk, hc, hs, hz, r⟩
  · obtain ⟨z, its, r, p⟩ := h.ok I.hok
    exact ⟨its, r, p, z⟩
  · refine ⟨its.toList, r, ⟨o, I.kIn a o hk, hc, n, by simpa using hs⟩, ?_⟩
    have e := r.length
    simp only [Array.length_toList] at e
    omega
theorem Inv.list_inj (I : Inv X pins σ H s) (h : SqL X.K H a xs) (h' : SqL X.K H a ys) : xs = ys := by
  obtain ⟨its, r, ⟨o, n, e, _, _, d⟩, _⟩ := I.list h
  obtain ⟨its', r', ⟨o', n', e', _, _, d'⟩, _⟩ := I.list h'
  rw [e] at e'; cases e'
  rw [d] at d'
  injection d' with d1 _
  have : its = its' := by simpa using congrArg Array.toList d1
  subst this
  exact r.inj r'
end
abbrev Cx.wish (X : Cx) (E : Value → Shared → Prop) : Cx := { X with xe := E }
/-- no exception leaves -/
abbrev Cx.nox (X : Cx) : Cx := X.wish fun _ _ => False
theorem Cx.Ok.wish {X : Cx} (ok : X.Ok) (E : Value → Shared → Prop) : (X.wish E).Ok :=
  ⟨ok.mod, ok.kind, ok.glob, ok.blt, ok.above, ok.inj, ok.has, ok.cab, ok.hd, ok.frames, ok.stk, ok.exf, ok.bs, ok.bsz, ok.noex, ok.exfs, ok.funs, ok.frf⟩
theorem Cx.Ok.unwish {X : Cx} {E : Value → Shared → Prop} (ok : (X.wish E).Ok) : X.Ok :=
  ⟨ok.mod, ok.kind, ok.glob, ok.blt, ok.above, ok.inj, ok.has, ok.cab, ok.hd, ok.frames, ok.stk, ok.exf, ok.bs, ok.bsz, ok.noex, ok.exfs, ok.funs, ok.frf⟩
section
variable {X : Cx} {pins : List (Addr × Obj)} {σ : St} {H : Hp} {s : Shared} {E : Value → Shared → Prop}
theorem Inv.wish (I : Inv X pins σ H s) (E : Value → Shared → Prop) : Inv (X.wish E) pins σ H s := ⟨I.ok.wish E, I.os, I.bare, I.base, I.loc, I.cell, I.free, I.freeC, I.pin, I.hok, I.len⟩
theorem Inv.unwish (I : Inv (X.wish E) pins σ H s) : Inv X pins σ H s := ⟨I.ok.unwish, I.os, I.bare, I.base, I.loc, I.cell, I.free, I.freeC, I.pin, I.hok, I.len⟩
theorem SP.unwish {D : Ends} {f : Flow} {s' : Shared} (h : SP (X.wish E) pins D f s') : SP X pins D f s' := by
  cases f with
  | next => obtain ⟨σ', H', I, q⟩ := h; exact ⟨σ', H', I.unwish, q⟩
  | brk => obtain ⟨σ', H', I, q⟩ := h; exact ⟨σ', H', I.unwish, q⟩
  | cont => obtain ⟨σ', H', I, q⟩ := h; exact ⟨σ', H', I.unwish, q⟩
  | ret u => obtain ⟨v, σ', H', I, r, q⟩ := h; exact ⟨v, σ', H', I.unwish, r, q⟩
theorem PSs.nox {st : List Stmt} {t : TS} (h : PSs X.nox st t) : PSs X st t := fun pins s σ H D I hw =>
  wpAny_mono (h pins s σ H D (I.wish _) hw) (fun _ _ q => q.unwish) fun _ _ z => False.elim z
end
section
variable {X : Cx} {st : Stmt} {rest : List Stmt} {t u : TS} {e : Expr} {te : TE} {pos : Pos}
def tNext : TS := fun D σ H => D.nx σ H
def tSeq (t u : TS) : TS := fun D σ H => t { D with nx := u D } σ H
theorem pss_nil : PSs X [] tNext := fun _ _ σ H _ I h => wpAny_execs_nil ⟨σ, H, I, h⟩
theorem pss_cons (h1 : PS X st t) (h2 : PSs X rest u) : PSs X (st :: rest) (tSeq t u) := by
  intro pins s σ H D I h
  refine wpAny_execs_cons (thn (h1 pins s σ H { D with nx := u D } I h) fun f s1 q => ?_)
  cases f with
  | next =>
    obtain ⟨σ', H', I', q⟩ := q
    exact h2 pins s1 σ' H' D I' q
  | ret v => exact q
  | brk => exact q
  | cont => exact q
theorem pss_one (h1 : PS X st t) : PSs X [st] t := by
  intro pins s σ H D I h
  refine wpAny_execs_cons (thn (h1 pins s σ H D I h) fun f s1 q => ?_)
  cases f with
  | next => exact wpAny_execs_nil q
  | ret v => exact q
  | brk => exact q
  | cont => exact q
/-- in a def's body nothing is shown -/
theorem Inv.quiet {pins : List (Addr × Obj)} {σ : St} {H : Hp} {s : Shared} (I : Inv X pins σ H s) : interactive X.env = false := by simp [interactive, I.ok.kind]
/-- an expression whose value is dropped -/
def tDrop (te : TE) : TS := fun D σ H => te σ H fun _ H1 => D.nx σ H1
theorem ps_expr (he : PE X e te) (hs : swapsWith e none pos.line X.env = pure false := by rfl) : PS X (.Expr e pos) (tDrop te) := by
  intro pins s σ H D I h
  exact wpAny_Expr_any (thn (he pins s σ H _ I h) fun v s1 ⟨x, H1, I1, r1, q1⟩ => ⟨σ, H1, I1, q1⟩) I.quiet hs
def tRet (te : TE) : TS := fun D σ H => te σ H D.rt
theorem ps_ret (he : PE X e te) : PS X (.Return (some e) pos) (tRet te) := by
  intro pins s σ H D I h
  exact wpAny_Return_some (thn (he pins s σ H _ I h) fun v s1 ⟨x, H1, I1, r1, q1⟩ => ⟨x, σ, H1, I1, r1, q1⟩)
def tIfS (c : TT) (t u : TS) : TS := fun D σ H => c σ H fun b H1 => if b = true then t D σ H1 else u D σ H1
theorem ps_if {c : Expr} {a b : List Stmt} {tc : TT} (hc : PT X c tc) (ha : PSs X a t) (hb : PSs X b u) : PS X (.If c a b pos) (tIfS tc t u) := by
  intro pins s σ H D I h
  refine wpAny_If (thn (hc pins s σ H _ I h) fun d s1 ⟨H1, I1, q1⟩ => ?_)
  cases d with
  | true => exact ha pins s1 σ H1 D I1 q1
  | false => exact hb pins s1 σ H1 D I1 q1
end
abbrev TG := V → St → Hp → (St → Hp → Prop) → Prop
abbrev TGs := List V → St → Hp → (St → Hp → Prop) → Prop
def PG (X : Cx) (target : Expr) (t : TG) : Prop :=
  ∀ (pins : List (Addr × Obj)) (s : Shared) (σ : St) (H : Hp) (v : V) (u : Value) (Q : St → Hp → Prop), Inv X pins σ H s → RelV v u → t v σ H Q →
    wpAny (model X.prog X.w) X.A (assign target X.env u) (fun _ s' => ∃ σ' H', Inv X pins σ' H' s' ∧ Q σ' H') X.xe s
/-- several targets, one after another -/
def PGs (X : Cx) (ts : List Expr) (t : TGs) : Prop :=
  ∀ (pins : List (Addr × Obj)) (s : Shared) (σ : St) (H : Hp) (vs : List V) (us : List Value) (Q : St → Hp → Prop), Inv X pins σ H s → Vals vs us → t vs σ H Q →
    wpAny (model X.prog X.w) X.A (assignInOrder ((assignEach ts X.env).map (·.2)) us) (fun _ s' => ∃ σ' H', Inv X pins σ' H' s' ∧ Q σ' H') X.xe s
/-- o[i] = v, by values -/
abbrev TSet := V → V → V → Hp → (Hp → Prop) → Prop
def PSet (X : Cx) (t : TSet) : Prop :=
  ∀ (pins : List (Addr × Obj)) (s : Shared) (σ : St) (H : Hp) (o i v : V) (ov iv u : Value) (Q : Hp → Prop), Inv X pins σ H s → RelV o ov → RelV i iv → RelV v u → t o i v H Q →
    wpAny (model X.prog X.w) X.A (setItem ov iv u) (fun _ s' => ∃ H', Inv X pins σ H' s' ∧ Q H') X.xe s
/-- a op= b, by values -/
abbrev TIp := V → V → Hp → VK → Prop
def PIp (X : Cx) (op : Operator) (t : TIp) : Prop :=
  ∀ (pins : List (Addr × Obj)) (s : Shared) (σ : St) (H : Hp) (x y : V) (v u : Value) (Q : VK), Inv X pins σ H s → RelV x v → RelV y u → t x y H Q →
    wpAny (model X.prog X.w) X.A (inplaceOp op v u) (EP X pins σ Q) X.xe s
section
variable {X : Cx} {pos : Pos}
def gName (i : Nat) : TG := fun v σ H Q => Q (σ.set i (some v)) H
theorem pg_name {i : Nat} {x : Str} (hN : X.N.Nodup) (hi : X.N[i]? = some x) (hx : Loc X.env.scope x) (hf : X.fn x = true ∨ X.env.scope.names.lookup x = some .local := by first | exact .inl rfl | exact .inr rfl | assumption) : PG X (.Name x pos) (gName i) := by
  intro pins s σ H v u Q I r h
  exact wpAny_assign_Name (store_ok I hN hi hx r (fun s' I' => ⟨_, H, I', h⟩) hf)
def gNil : TGs := fun vs σ H Q => vs = [] ∧ Q σ H
def gCons (t : TG) (u : TGs) : TGs := fun vs σ H Q => ∃ v r, vs = v :: r ∧ t v σ H fun σ' H' => u r σ' H' Q
theorem pgs_nil : PGs X [] gNil := by
  intro pins s σ H vs us Q I r h
  obtain ⟨e, h⟩ := h
  subst e
  cases r
  exact assignInOrder_nil ⟨σ, H, I, h⟩
theorem pgs_cons {e : Expr} {es : List Expr} {t : TG} {u : TGs} (h1 : PG X e t) (h2 : PGs X es u)
    (hs : (assignEach (e :: es) X.env).map (·.2) = assign e X.env :: (assignEach es X.env).map (·.2) := by rfl) : PGs X (e :: es) (gCons t u) := by
  intro pins s σ H vs us Q I r h
  obtain ⟨v, vr, e1, h⟩ := h
  subst e1
  cases r with
  | cons r rr =>
    rw [hs]
    refine assignInOrder_cons (thn (h1 pins s σ H _ _ _ I r h) fun _ s1 ⟨σ1, H1, I1, q1⟩ => ?_)
    exact h2 pins s1 σ1 H1 _ _ Q I1 rr q1
/-- (a, b, ..) = a tuple of that length -/
def gTup (K : PySem.W.Frag) (n : Nat) (t : TGs) : TG := fun v σ H Q => ∃ a xs, v = .ref a ∧ SqT K H a xs ∧ xs.length = n ∧ t xs σ H Q
theorem pg_tup {es : List Expr} {k : Nat} {t : TGs} {n : Nat} (hc : X.calm = true) (h : PGs X es t)
    (hn : (assignEach es X.env).length = n := by rfl) (hst : (assignEach es X.env).findIdx? (·.1) = none := by rfl) : PG X (.Tuple es k pos) (gTup X.K n t) := by
  intro pins s σ H v u Q I r hw
  obtain ⟨a, xs, e1, hq, hl, hw⟩ := hw
  subst e1
  cases r
  obtain ⟨its, rv, ht, hz⟩ := I.tuple hq
  refine assign_Tuple_tuple (I.ok.hd hc) ht (by simp [hn, ← hl, rv.length]) hst fun h' hx => ?_
  have I1 : Inv X pins σ H { s with heap := h' } := I.kept (t' := s.toks) fun b o e => hx b o (Nat.ne_of_lt (Heap.lt_size e)) e
  exact h pins _ σ H xs _ Q I1 (by simpa using rv) hw
/-- o[i] = .. -/
def gSub (to ti : TE) (t : TSet) : TG := fun v σ H Q => to σ H fun o H1 => ti σ H1 fun i H2 => t o i v H2 fun H3 => Q σ H3
theorem pg_sub {o i : Expr} {to ti : TE} {t : TSet} (ho : PE X o to) (hi : PE X i ti) (hs : PSet X t)
    (ha : ∀ v, assign (.Subscript o i pos) X.env v = (do
      let ov ← holding [v] (eval o X.env)
      let iv ← holding [v, ov] (eval i X.env)
      standAt pos
      holding [v, ov, iv] (setItem ov iv v)
      release [v, ov, iv] []) := by intro _; rfl) : PG X (.Subscript o i pos) (gSub to ti t) := by
  intro pins s σ H v u Q I r h
  rw [ha]
  refine wpAny_bind (wpAny_holding (thn (ho pins s σ H _ I h) fun ov s1 ⟨x, H1, I1, r1, q1⟩ => ?_))
  refine wpAny_bind (wpAny_holding (thn (hi pins s1 σ H1 _ I1 q1) fun iv s2 ⟨y, H2, I2, r2, q2⟩ => ?_))
  refine wpAny_bind (wpAny_standAt (wpAny_bind (wpAny_holding (thn (hs pins s2 σ H2 x y v ov iv u _ I2 r1 r2 r q2) fun _ s3 ⟨H3, I3, q3⟩ => ?_))))
  exact wpAny_release ⟨σ, H3, I3, q3⟩
/-- target = value -/
def tAsg (te : TE) (g : TG) : TS := fun D σ H => te σ H fun x H1 => g x σ H1 D.nx
theorem ps_asg {tg e : Expr} {te : TE} {g : TG} (he : PE X e te) (hg : PG X tg g) (hs : swapsWithSole [tg] e pos.line X.env = pure false := by rfl) (hw : swappedStores [tg] e X.env = pure none := by rfl)
    (h1 : (assignEach [tg] X.env).map (·.2) = [assign tg X.env] := by rfl) : PS X (.Assign [tg] e pos) (tAsg te g) := by
  intro pins s σ H D I h
  refine wpAny_Assign_stores (thn (he pins s σ H _ I h) fun v s1 ⟨x, H1, I1, r1, q1⟩ => ?_) hs hw
  rw [h1]
  exact thn (hg pins s1 σ H1 x v _ I1 r1 q1) fun _ s2 q => q
/-- name = value -/
theorem ps_set {i : Nat} {x : Str} {e : Expr} {te : TE} {pos' : Pos} (hN : X.N.Nodup) (hi : X.N[i]? = some x) (hx : Loc X.env.scope x) (he : PE X e te) (hs : swapsWith e (some (.Name x pos')) pos.line X.env = pure false := by rfl) (hf : X.fn x = true ∨ X.env.scope.names.lookup x = some .local := by first | exact .inl rfl | exact .inr rfl | assumption) :
    PS X (.Assign [.Name x pos'] e pos) (tAsg te (gName i)) := by
  intro pins s σ H D I h
  refine wpAny_Assign_Name (thn (he pins s σ H _ I h) fun v s1 ⟨y, H1, I1, r1, q1⟩ => ?_) hs
  exact store_ok I1 hN hi hx r1 (fun s2 I2 => ⟨_, H1, I2, q1⟩) hf
/-- name op= e -/
def tAug (i : Nat) (te : TE) (ti : TIp) : TS := fun D σ H => ∃ x, σ[i]? = some (some x) ∧ te σ H fun y H1 => ti x y H1 fun z H2 => D.nx (σ.set i (some z)) H2
theorem ps_aug {i : Nat} {x : Str} {e : Expr} {te : TE} {op : Operator} {ti : TIp} {pos' : Pos} (hN : X.N.Nodup) (hi : X.N[i]? = some x) (hx : Loc X.env.scope x) (he : PE X e te) (ho : PIp X op ti) (hf : X.fn x = true ∨ X.env.scope.names.lookup x = some .local := by first | exact .inl rfl | exact .inr rfl | assumption) :
    PS X (.AugAssign (.Name x pos') op e pos) (tAug i te ti) := by
  intro pins s σ H D I h
  obtain ⟨v, e1, h⟩ := h
  obtain ⟨m, hn, hl⟩ := I.loc
  have vis : Vis X.env.scope x := by rcases hx with k | k; exact .inl k; exact .inr (.inl k)
  obtain ⟨u, r, l⟩ := hl i x v hi e1 vis
  refine wpAny_AugAssign_Name ?_
  have go : wpAny (model X.prog X.w) X.A (eval e X.env) (fun w s₂ => wpAny (model X.prog X.w) X.A (inplaceOp op u w) (fun r s₃ => wpAny (model X.prog X.w) X.A (storeName X.env x r) (fun _ => SP X pins D .next) X.xe s₃) X.xe s₂) X.xe s := by
    refine thn (he pins s σ H _ I h) fun w s1 ⟨y, H1, I1, r1, q1⟩ => ?_
    refine thn (ho pins s1 σ H1 v y u w _ I1 r r1 q1) fun z s2 ⟨zv, H2, I2, r2, q2⟩ => ?_
    exact store_ok I2 hN hi hx r2 (fun s3 I3 => ⟨_, H2, I3, q2⟩) hf
  rcases l with ⟨hk, hm⟩ | ⟨hk, c, hc, hcell⟩
  · exact wpAny_loadName_local I.ok.kind hk hn hm go
  · rcases hk with hk | hk
    · exact wpAny_loadName_cell I.ok.kind hk hc hcell go
    · rcases hx with k | k
      · have : X.env.scope.names.lookup x = some .free := hk
        rw [k] at this; cases this
      · have : X.env.scope.names.lookup x = some .free := hk
        rw [k] at this; cases this
/-- ints -/
def ipI (f : Int → Int → Int) : TIp := fun x y H Q => ∃ i j, x = .int i ∧ y = .int j ∧ Q (.int (f i j)) H
theorem ip_add : PIp X .Add (ipI fun i j => i + j) := by
  intro pins s σ H x y v u Q I r1 r2 h
  obtain ⟨i, j, e1, e2, q⟩ := h
  subst e1; subst e2
  obtain ⟨t, rfl⟩ := r1
  obtain ⟨t', rfl⟩ := r2
  exact iadd_int ⟨.int _, H, I.tok _, ⟨_, rfl⟩, q⟩
end
section
variable {X : Cx} {pos : Pos}
/-- the invariant W with its measure -/
def tWhile (c : TT) (tb : TS) : TS := fun D σ H => ∃ W : Nat → St → Hp → Prop, (∃ m, W m σ H) ∧ ∀ m σ H, W m σ H →
  c σ H fun b H1 => if b = true then ∃ N : St → Hp → Prop, (∀ σ' H', N σ' H' → ∃ m', m' < m ∧ W m' σ' H') ∧ tb { D with nx := N, ct := N, bk := D.nx } σ H1 else D.nx σ H1
theorem ps_while {c : Expr} {body : List Stmt} {tc : TT} {tb : TS} (hp : PassesOwn (model X.prog X.w) X.A X.env X.xe) (hc : PT X c tc) (hb : PSs X body tb) : PS X (.While c body [] pos) (tWhile tc tb) := by
  intro pins s σ H D I h
  obtain ⟨W, ⟨m0, w0⟩, turn⟩ := h
  refine wpAny_While (codeAny_whileLoop (fun n s' => ∃ σ' H', Inv X pins σ' H' s' ∧ W n σ' H') ?_ m0 ⟨σ, H, I, w0⟩)
  rintro n s1 ⟨σ1, H1, I1, w1⟩
  refine wpAny_passesOwn hp (thn (hc pins s1 σ1 H1 _ I1 (turn n σ1 H1 w1)) fun b s2 ⟨H2, I2, q2⟩ => ?_)
  cases b with
  | true =>
    obtain ⟨N, hN, q2⟩ := q2
    rw [if_pos rfl]
    refine wpAny_passesOwn hp (thn (hb pins s2 σ1 H2 _ I2 q2) fun f s3 q3 => ?_)
    cases f with
    | next =>
      obtain ⟨σ3, H3, I3, n3⟩ := q3
      obtain ⟨m', hm, w3⟩ := hN σ3 H3 n3
      exact ⟨m', hm, σ3, H3, I3, w3⟩
    | cont =>
      obtain ⟨σ3, H3, I3, n3⟩ := q3
      obtain ⟨m', hm, w3⟩ := hN σ3 H3 n3
      exact ⟨m', hm, σ3, H3, I3, w3⟩
    | brk => exact q3
    | ret v => exact q3
  | false =>
    rw [if_neg Bool.false_ne_true]
    exact wpAny_execs_nil ⟨σ1, H2, I2, q2⟩
end
/-- at turn i: it yields x (the heap may grow), or it stops -/
structure It where
  go : Nat → Hp → Prop
  yld : Nat → Hp → V → Hp → Prop
  stop : Nat → Hp → Prop
/-- the iterator's own objects may turn: they are not the frame's, not pinned, younger than the entry (or a comprehension's own) -/
def FpOk (X : Cx) (pins : List (Addr × Obj)) (H : Hp) (b : Addr) : Prop :=
  H b = none ∧ b ≠ X.env.locals ∧ b ∉ X.fs ∧ (b ∈ X.ex ∨ X.s_0.heap.objs.size ≤ b) ∧ (∀ x c, X.env.cells.lookup x = some c → c ≠ b) ∧ ∀ p ∈ X.pn ++ pins, p.1 ≠ b
theorem Inv.fpOk {X : Cx} {pins : List (Addr × Obj)} {σ : St} {H H' : Hp} {s : Shared} {b : Addr} (I : Inv X pins σ H s) (hb : s.heap.objs.size ≤ b) (hn : H' b = none) : FpOk X pins H' b := by
  refine ⟨hn, Nat.ne_of_gt (Nat.lt_of_lt_of_le I.lt hb), I.nofs hb, .inr (Nat.le_trans I.sz hb), fun x c e z => ?_, fun p hp z => ?_⟩
  · obtain ⟨v, q⟩ := I.cell x c e
    exact absurd (Nat.lt_of_lt_of_le q.lt (by rw [z]; exact hb)) (Nat.lt_irrefl _)
  · exact absurd (Nat.lt_of_lt_of_le (Heap.lt_size (I.pin p hp).1) (by rw [z]; exact hb)) (Nat.lt_irrefl _)
structure Turn (P : Program) (w : World) (K : PySem.W.Frag) (tg : Expr) (J : It) (fp : List Addr) (it : Addr) (tn : Nat → Heap → Prop) : Prop where
  mem : it ∈ fp
  obj : ∀ i h, tn i h → ∀ b ∈ fp, ∃ o, h.get? b = some o ∧ ∀ v, o.data ≠ .cell v
  keep : ∀ i h h', tn i h → (∀ b ∈ fp, ∀ o, h.get? b = some o → h'.get? b = some o) → tn i h'
  item : ∀ (X : Cx), X.prog = P → X.w = w → X.K = K → X.calm = true → ∀ (i : Nat) (pins : List (Addr × Obj)) (s : Shared) (σ : St) (H : Hp) (E : Value → Shared → Prop), Inv X pins σ H s → (∀ b ∈ fp, FpOk X pins H b) → tn i s.heap → J.go i H →
    wpAny (model P w) X.A (pyNext (.ref it)) (fun r s1 => ∃ u, r = some u ∧
      wpAny (model P w) X.A (letOwnedTupleGo tg (.ref it) u) (fun _ s2 => ∃ x H', Inv X pins σ H' s2 ∧ RelV x u ∧ J.yld i H x H' ∧ tn (i + 1) s2.heap ∧ ∀ b ∈ fp, H' b = none) E s1) E s
  done : ∀ (X : Cx), X.prog = P → X.w = w → X.K = K → X.calm = true → ∀ (i : Nat) (pins : List (Addr × Obj)) (s : Shared) (σ : St) (H : Hp) (E : Value → Shared → Prop), Inv X pins σ H s → (∀ b ∈ fp, FpOk X pins H b) → tn i s.heap → J.stop i H →
    wpAny (model P w) X.A (pyNext (.ref it)) (fun r s1 => r = none ∧ Inv X pins σ H s1) E s
  self : ∀ (A : Around) (i : Nat) (s : Shared) (Q : Value → Shared → Prop) (E : Value → Shared → Prop), tn i s.heap → Q (.ref it) s → wpAny (model P w) A (pyIter (.ref it)) Q E s
abbrev TI := St → Hp → (It → Hp → Prop) → Prop
/-- an iterator has come -/
def PIE (X : Cx) (pins : List (Addr × Obj)) (σ : St) (tg : Expr) (R : It → Hp → Prop) (itv : Value) (s2 : Shared) : Prop :=
  ∃ (it : Addr) (fp : List Addr) (tn : Nat → Heap → Prop) (J : It) (H' : Hp), itv = .ref it ∧ Inv X pins σ H' s2 ∧ Turn X.prog X.w X.K tg J fp it tn ∧ tn 0 s2.heap ∧ (∀ b ∈ fp, FpOk X pins H' b) ∧ R J H'
def PI (X : Cx) (tg iter : Expr) (wi : TI) : Prop :=
  ∀ (pins : List (Addr × Obj)) (s : Shared) (σ : St) (H : Hp) (R : It → Hp → Prop), Inv X pins σ H s → wi σ H R →
    wpAny (model X.prog X.w) X.A (eval iter X.env) (fun v s1 => wpAny (model X.prog X.w) X.A (pyIter v) (PIE X pins σ tg R) X.xe s1) X.xe s
/-- the step ahead of the store is nothing for an iterator that keeps no tuple -/
theorem go_of {M : Model} {A : Around} {E : Value → Shared → Prop} {s : Shared} {tg : Expr} {it : Addr} {u : Value} {o : Obj} {n : String} {vs : Array Value} {Q : Unit → Shared → Prop} (ho : s.heap.get? it = some o) (hc : o.cls = .type n) (hd : o.data = .fields vs)
    (hn : ["enumerate", "zip", "dict_itemiterator", "dict_reverseitemiterator", "odict_iterator", "itertools.zip_longest", "itertools.pairwise"].contains n = false) (hQ : Q () s) : wpAny M A (letOwnedTupleGo tg (.ref it) u) Q E s := by
  unfold letOwnedTupleGo
  cases tg <;> first
    | exact wpAny_pure hQ
    | (cases u <;> first
        | exact wpAny_pure hQ
        | (refine wpAny_bind (wpAny_load ho ?_)
           rw [hc, hd]
           show wpAny M A (if (["enumerate", "zip", "dict_itemiterator", "dict_reverseitemiterator", "odict_iterator", "itertools.zip_longest", "itertools.pairwise"].contains n && vs[0]? == some (rawInt _)) = true then _ else _) Q E s
           rw [if_neg (by intro h; rw [hn, Bool.false_and] at h; cases h)]
           exact wpAny_pure hQ))
/-- the list at a, as it stands at each turn (a loop may append to it) -/
def Itl (K : PySem.W.Frag) (a : Addr) : It :=
  ⟨fun i H => ∃ xs x, SqL K H a xs ∧ xs[i]? = some x, fun i H x H' => H' = H ∧ ∀ xs, SqL K H a xs → xs[i]? = some x, fun i H => ∃ xs, SqL K H a xs ∧ xs.length ≤ i⟩
/-- lo, lo + 1, .. (n of them) -/
def Itr (lo : Int) (n : Nat) : It := ⟨fun i _ => i < n, fun i H x H' => H' = H ∧ x = .int (lo + i), fun i _ => n ≤ i⟩
theorem turn_list {P : Program} {w : World} {K : PySem.W.Frag} {tg : Expr} (a it : Addr) : Turn P w K tg (Itl K a) [it] it (fun i h => h.IsListIter it a i) where
  mem := by simp
  obj := fun i h st b hb => by
    have e : b = it := by simpa using hb
    subst e
    obtain ⟨o, e, c, d⟩ := st
    exact ⟨o, e, fun v z => by rw [d] at z; cases z⟩
  keep := fun i h h' st k => st.at fun o e => k it (by simp) o e
  item := by
    intro X hP hw hK hc i pins s σ H E I hf st hg
    subst hP hw hK
    obtain ⟨xs, x, hq, hx⟩ := hg
    obtain ⟨its, rv, p, hz⟩ := I.list hq
    obtain ⟨u, hu, ru⟩ := rv.get hx
    obtain ⟨f0, f1, f2, f3, f4, f5⟩ := hf it (by simp)
    refine wpAny_pyNext_list_item st p.isList (x := u) (by simpa using hu) fun h' st' sb => ?_
    have I1 : Inv X pins σ H { s with heap := h' } := I.turned (t' := s.toks) (fun b o hb e => (sb.2 b hb).trans e) f0 f1 f3 f4 f5
    obtain ⟨o, e, c, d⟩ := id st'
    exact ⟨u, rfl, go_of (s := { s with heap := h' }) e c d (by decide) ⟨x, H, I1, ru, ⟨rfl, fun ys hy => by rw [I.list_inj hy hq]; exact hx⟩, st', fun b hb => (hf b hb).1⟩⟩
  done := by
    intro X hP hw hK hc i pins s σ H E I hf st hg
    subst hP hw hK
    obtain ⟨xs, hq, hx⟩ := hg
    obtain ⟨its, rv, p, hz⟩ := I.list hq
    obtain ⟨f0, f1, f2, f3, f4, f5⟩ := hf it (by simp)
    have hl := rv.length
    exact wpAny_pyNext_list_end (I.ok.hd hc) st p.isList (by simp; omega) fun h' eb => ⟨rfl, I.turned (t' := s.toks) (fun b o hb e => eb b o hb e) f0 f1 f3 f4 f5⟩
  self := fun _ _ _ _ _ st h => wpAny_pyIter_listiter st h
theorem turn_range {P : Program} {w : World} {K : PySem.W.Frag} {tg : Expr} (it : Addr) (lo : Int) (n : Nat) : Turn P w K tg (Itr lo n) [it] it (fun i h => IsRangeIter h it (lo + (i : Nat) * 1) ((n : Int) - (i : Nat)) 1) where
  mem := by simp
  obj := fun i h st b hb => by
    have e : b = it := by simpa using hb
    subst e
    exact ⟨_, st, fun v z => by
      have z' : Data.fields _ = Data.cell v := z
      cases z'⟩
  keep := fun i h h' st k => k it (by simp) _ st
  item := by
    intro X hP hw hK hc i pins s σ H E I hf st hg
    subst hP hw hK
    obtain ⟨f0, f1, f2, f3, f4, f5⟩ := hf it (by simp)
    have W := Walks.range (prog := X.prog) (w := X.w) (I.ok.hd hc) it lo 1 n
    refine W.item i s _ _ hg st fun v h' tk hv st' kk => ?_
    obtain ⟨t, rfl⟩ := hv
    have I1 : Inv X pins σ H { s with heap := h', toks := tk } := I.turned (fun b o hb e => kk b o (by simpa using hb) e) f0 f1 f3 f4 f5
    refine ⟨_, rfl, go_of (s := { s with heap := h', toks := tk }) (n := "range_iterator") st' rfl rfl (by decide) ⟨.int (lo + i), H, I1, ⟨t, ?_⟩, ⟨rfl, rfl⟩, st', fun b hb => (hf b hb).1⟩⟩
    rw [Int.mul_one]
  done := by
    intro X hP hw hK hc i pins s σ H E I hf st hg
    subst hP hw hK
    obtain ⟨f0, f1, f2, f3, f4, f5⟩ := hf it (by simp)
    exact wpAny_pyNext_range_end (I.ok.hd hc) st (by have : n ≤ i := hg; omega) fun h' eb => ⟨rfl, I.turned (t' := s.toks) (fun b o hb e => eb b o hb e) f0 f1 f3 f4 f5⟩
  self := fun _ _ _ _ _ st h => wpAny_pyIter_rangeiter st h
end L2
namespace L2
open PySem PySem.Spec PyProof.Rows
section
variable {X : Cx} {tg : Expr}
def iList (K : PySem.W.Frag) (tl : TE) : TI := fun σ H R => tl σ H fun x H1 => ∃ a, x = .ref a ∧ (∃ xs, SqL K H1 a xs) ∧ R (Itl K a) H1
theorem pi_list {l : Expr} {tl : TE} (hl : PE X l tl) : PI X tg l (iList X.K tl) := by
  intro pins s σ H R I h
  refine thn (hl pins s σ H _ I h) fun v s1 ⟨x, H1, I1, r1, q1⟩ => ?_
  obtain ⟨a, e, ⟨xs, hq⟩, q⟩ := q1
  subst e
  cases r1
  obtain ⟨its, rv, p, hz⟩ := I1.list hq
  refine wpAny_pyIter_list p.isList ?_
  refine ⟨s1.heap.objs.size, [s1.heap.objs.size], _, _, H1, rfl, I1.kept (t' := s1.toks) fun b o e => Heap.get?_push_of_some _ e, turn_list a _, ⟨_, Heap.get?_push_size _ rfl, rfl, rfl⟩, fun b hb => ?_, q⟩
  have e : b = s1.heap.objs.size := by simpa using hb
  subst e
  exact I1.fpOk (Nat.le_refl _) (I1.hok.fresh (Nat.le_refl _))
/-- a range object just made, walked -/
theorem range_it {pins : List (Addr × Obj)} {σ : St} {H : Hp} {s : Shared} {R : It → Hp → Prop} {E : Value → Shared → Prop} {lo hi : Int} {t u v : Tok} {tk : Nat} (I : Inv X pins σ H s) (h1 : -(2 ^ 62) ≤ lo) (h2 : lo < 2 ^ 62) (h3 : -(2 ^ 62) ≤ hi) (h4 : hi < 2 ^ 62)
    (q : R (Itr lo (hi - lo).toNat) H) : wpAny (model X.prog X.w) X.A (pyIter (.ref s.heap.objs.size)) (PIE X pins σ tg R) E { s with heap := s.heap.push { cls := .type "range", data := .fields #[.int lo t, .int hi u, .int 1 v] }, toks := tk } := by
  refine wpAny_pyIter_range (IsRange.new ..) (small_one h1 h2 h3 h4) ?_
  have I1 : Inv X pins σ H { s with heap := s.heap.push { cls := .type "range", data := .fields #[.int lo t, .int hi u, .int 1 v] }, toks := tk } := I.kept fun b o e => Heap.get?_push_of_some _ e
  refine ⟨(s.heap.push { cls := .type "range", data := .fields #[.int lo t, .int hi u, .int 1 v] }).objs.size, [(s.heap.push { cls := .type "range", data := .fields #[.int lo t, .int hi u, .int 1 v] }).objs.size], _, _, H, rfl,
    I1.kept (t' := tk) fun b o e => Heap.get?_push_of_some _ e, turn_range _ lo (hi - lo).toNat, ?_, fun b hb => ?_, q⟩
  · have e1 : lo + ((0 : Nat) : Int) * 1 = lo := by simp
    have e2 : (((hi - lo).toNat : Nat) : Int) - ((0 : Nat) : Int) = Builtin.Range.rangeSize lo hi 1 := by rw [rangeSize_one]; split <;> omega
    show IsRangeIter _ _ (lo + ((0 : Nat) : Int) * 1) ((((hi - lo).toNat : Nat) : Int) - ((0 : Nat) : Int)) 1
    rw [e1, e2]
    exact Heap.get?_push_size _ rfl
  · have e : b = (s.heap.push { cls := .type "range", data := .fields #[.int lo t, .int hi u, .int 1 v] }).objs.size := by simpa using hb
    subst e
    exact I1.fpOk (Nat.le_refl _) (I1.hok.fresh (Nat.le_refl _))
def iRng1 (ta : TA) : TI := fun σ H R => ta σ H fun vs H1 => ∃ j : Int, vs = [.int j] ∧ -(2 ^ 62) ≤ j ∧ j < 2 ^ 62 ∧ R (Itr 0 j.toNat) H1
def iRng2 (ta : TA) : TI := fun σ H R => ta σ H fun vs H1 => ∃ i j : Int, vs = [.int i, .int j] ∧ (-(2 ^ 62) ≤ i ∧ i < 2 ^ 62 ∧ -(2 ^ 62) ≤ j ∧ j < 2 ^ 62) ∧ R (Itr i (j - i).toNat) H1
theorem pi_range1 {a : Expr} {ta : TA} {p pos : Pos} (hg : Gl X "range") (hm : X.mg "range" = none) (ha : PA X [a] ta) (hs : starEach [a] X.env = [(false, eval a X.env)] := by rfl) : PI X tg (.Call (.Name "range" p) [a] [] pos) (iRng1 ta) := by
  intro pins s σ H R I h
  refine Call_ (ld_blt I hg hm boot_range (PyProof.Rows.callWith_type1 (thn (ha pos pins s σ H _ I h) fun us s1 ⟨vs, H1, I1, r1, q1⟩ => ?_) hs rfl))
  obtain ⟨j, e, q1, q2, q⟩ := q1
  subst e
  cases r1 with
  | cons r rr =>
    cases rr
    obtain ⟨t, rfl⟩ := r
    exact call_range_1 (range_it I1 (by omega) (by omega) q1 q2 (by simpa using q))
theorem pi_range2 {a b : Expr} {ta : TA} {p pos : Pos} (hg : Gl X "range") (hm : X.mg "range" = none) (ha : PA X [a, b] ta) (hs : starEach [a, b] X.env = [(false, eval a X.env), (false, eval b X.env)] := by rfl) (hs2 : starEach [b] X.env = [(false, eval b X.env)] := by rfl) :
    PI X tg (.Call (.Name "range" p) [a, b] [] pos) (iRng2 ta) := by
  intro pins s σ H R I h
  refine Call_ (ld_blt I hg hm boot_range (PyProof.Rows.callWith_type1 (thn (ha pos pins s σ H _ I h) fun us s1 ⟨vs, H1, I1, r1, q1⟩ => ?_) (by rw [hs, hs2]) (by rw [hs2]; rfl)))
  obtain ⟨i, j, e, ⟨q1, q2, q3, q4⟩, q⟩ := q1
  subst e
  cases r1 with
  | cons r rr =>
    cases rr with
    | cons r' rr =>
      cases rr
      obtain ⟨t, rfl⟩ := r
      obtain ⟨t', rfl⟩ := r'
      exact call_range_2 (range_it I1 q1 q2 q3 q4 q)
/-- W: the invariant by the turn and a measure; N: what the body is to reach -/
def tFor (wi : TI) (g : TG) (tb : TS) : TS := fun D σ H => wi σ H fun J H1 => ∃ W : Nat → Nat → St → Hp → Prop, (∃ m, W 0 m σ H1) ∧ ∀ i m σ H, W i m σ H →
  (J.stop i H ∧ D.nx σ H) ∨ (J.go i H ∧ ∃ N : St → Hp → Prop, (∀ σ' H', N σ' H' → ∃ m', m' < m ∧ W (i + 1) m' σ' H') ∧ ∀ x H', J.yld i H x H' → g x σ H' fun σ2 H2 => tb { D with nx := N, ct := N, bk := D.nx } σ2 H2)
/-- the records at fp as they stand -/
def pinsAt (fp : List Addr) (h : Heap) : List (Addr × Obj) := fp.filterMap fun b => (h.get? b).map fun o => (b, o)
theorem mem_pinsAt {fp : List Addr} {h : Heap} {b : Addr} {o : Obj} (hb : b ∈ fp) (e : h.get? b = some o) : (b, o) ∈ pinsAt fp h := List.mem_filterMap.mpr ⟨b, hb, by rw [e]; rfl⟩
theorem of_pinsAt {fp : List Addr} {h : Heap} {p : Addr × Obj} (hp : p ∈ pinsAt fp h) : p.1 ∈ fp ∧ h.get? p.1 = some p.2 := by
  obtain ⟨b, hb, e⟩ := List.mem_filterMap.mp hp
  cases q : h.get? b with
  | none => rw [q] at e; cases e
  | some o =>
    rw [q] at e
    have e' : (b, o) = p := Option.some.inj e
    subst e'
    exact ⟨hb, q⟩
theorem Inv.pinned {pins : List (Addr × Obj)} {σ : St} {H : Hp} {s : Shared} {fp : List Addr} (I : Inv X pins σ H s) (hf : ∀ b ∈ fp, FpOk X pins H b) (ho : ∀ b ∈ fp, ∃ o, s.heap.get? b = some o ∧ ∀ v, o.data ≠ .cell v) : Inv X (pins ++ pinsAt fp s.heap) σ H s :=
  I.pins_of fun p hp => (List.mem_append.mp hp).elim (fun z => I.pin p (List.mem_append_right _ z)) fun z => by
    obtain ⟨hb, e⟩ := of_pinsAt z
    obtain ⟨f0, f1, f2, _⟩ := hf p.1 hb
    obtain ⟨o, e', d⟩ := ho p.1 hb
    rw [e] at e'; cases e'
    exact ⟨e, f0, f1, f2, d⟩
theorem Inv.unpinned {pins pl : List (Addr × Obj)} {σ : St} {H : Hp} {s : Shared} (I : Inv X (pins ++ pl) σ H s) : Inv X pins σ H s := I.pins_of fun p hp => I.pin p (List.mem_append_right _ (List.mem_append_left _ hp))
theorem ps_for {iter : Expr} {body : List Stmt} {wi : TI} {g : TG} {tb : TS} {pos : Pos} (hp : PassesOwn (model X.prog X.w) X.A X.env X.xe) (hc : X.calm = true) (hi : PI X tg iter wi) (hg : PG X tg g) (hb : PSs X body tb)
    (hs : ∀ x, foldedSetIterable iter X.env x = pure x := by intro _; rfl) : PS X (.For tg iter body [] pos) (tFor wi g tb) := by
  intro pins s σ H D I h
  refine wpAny_For (thn (hi pins s σ H _ I h) fun v s1 h1 => thn h1 fun itv s2 h2 => ?_) hs
  obtain ⟨it, fp, tn, J, H2, e, I2, T, st2, f2, W, ⟨m0, w0⟩, turn⟩ := h2
  subst e
  -- what stays true of the iterator's objects through the loop
  have stat : ∀ {H' : Hp}, (∀ b ∈ fp, H' b = none) → ∀ b ∈ fp, FpOk X pins H' b := fun hn b hb => ⟨hn b hb, (f2 b hb).2⟩
  refine codeAny_forLoop_any (fun n s' => ∃ i σ' H', Inv X pins σ' H' s' ∧ tn i s'.heap ∧ (∀ b ∈ fp, H' b = none) ∧ W i n σ' H') ?_ m0 ⟨0, σ, H2, I2, st2, fun b hb => (f2 b hb).1, w0⟩
  rintro n s3 ⟨i, σ3, H3, I3, st3, fr3, w3⟩
  rcases turn i n σ3 H3 w3 with ⟨stop, qn⟩ | ⟨go, N, hN, step⟩
  · refine wpAny_passesOwn hp (thn (T.done X rfl rfl rfl hc i pins s3 σ3 H3 X.xe I3 (stat fr3) st3 stop) fun r s4 ⟨hr, I4⟩ => ?_)
    subst hr
    exact wpAny_execs_nil ⟨σ3, H3, I4, qn⟩
  · refine wpAny_passesOwn hp (thn (T.item X rfl rfl rfl hc i pins s3 σ3 H3 X.xe I3 (stat fr3) st3 go) fun r s4 ⟨u, hr, h4⟩ => ?_)
    subst hr
    refine wpAny_passesOwn hp (thn h4 fun _ s5 ⟨x, H5, I5, r5, y5, st5, fr5⟩ => ?_)
    have I5' := I5.pinned (stat fr5) (T.obj _ _ st5)
    refine wpAny_passesOwn hp (thn (hg _ s5 σ3 H5 x u _ I5' r5 (step x H5 y5)) fun _ s6 ⟨σ6, H6, I6, q6⟩ => ?_)
    refine wpAny_passesOwn hp (thn (hb _ s6 σ6 H6 _ I6 q6) fun f s7 q7 => ?_)
    have again : ∀ {σ7 : St} {H7 : Hp}, Inv X (pins ++ pinsAt fp s5.heap) σ7 H7 s7 → N σ7 H7 → ∃ m, m < n ∧ ∃ i σ' H', Inv X pins σ' H' s7 ∧ tn i s7.heap ∧ (∀ b ∈ fp, H' b = none) ∧ W i m σ' H' := fun {σ7 H7} I7 n7 => by
      obtain ⟨m', hm, w7⟩ := hN σ7 H7 n7
      refine ⟨m', hm, i + 1, σ7, H7, I7.unpinned, T.keep _ _ _ st5 fun b hb o e => (I7.pin (b, o) (List.mem_append_right _ (List.mem_append_right _ (mem_pinsAt hb e)))).1, fun b hb => ?_, w7⟩
      obtain ⟨o, e, d⟩ := T.obj _ _ st5 b hb
      exact (I7.pin (b, o) (List.mem_append_right _ (List.mem_append_right _ (mem_pinsAt hb e)))).2.1
    cases f with
    | next => obtain ⟨σ7, H7, I7, n7⟩ := q7; exact again I7 n7
    | cont => obtain ⟨σ7, H7, I7, n7⟩ := q7; exact again I7 n7
    | brk => obtain ⟨σ7, H7, I7, q7⟩ := q7; exact ⟨σ7, H7, I7.unpinned, q7⟩
    | ret v => obtain ⟨x7, σ7, H7, I7, r7, q7⟩ := q7; exact ⟨x7, σ7, H7, I7.unpinned, r7, q7⟩
end
/-- over a list that the body leaves as it is -/
theorem for_list {K : PySem.W.Frag} {a : Addr} {xs : List V} {g : TG} {tb : TS} {D : Ends} {σ : St} {H : Hp} (Pv : Nat → St → Hp → Prop) (h0 : Pv 0 σ H) (hl : ∀ i σ H, i ≤ xs.length → Pv i σ H → SqL K H a xs)
    (hs : ∀ i x σ H, xs[i]? = some x → Pv i σ H → g x σ H fun σ2 H2 => tb { D with nx := Pv (i + 1), ct := Pv (i + 1), bk := D.nx } σ2 H2) (hd : ∀ σ H, Pv xs.length σ H → D.nx σ H) :
    ∃ W : Nat → Nat → St → Hp → Prop, (∃ m, W 0 m σ H) ∧ ∀ i m σ H, W i m σ H →
      ((Itl K a).stop i H ∧ D.nx σ H) ∨ ((Itl K a).go i H ∧ ∃ N : St → Hp → Prop, (∀ σ' H', N σ' H' → ∃ m', m' < m ∧ W (i + 1) m' σ' H') ∧ ∀ x H', (Itl K a).yld i H x H' → g x σ H' fun σ2 H2 => tb { D with nx := N, ct := N, bk := D.nx } σ2 H2) := by
  refine ⟨fun i m σ H => m = xs.length - i ∧ i ≤ xs.length ∧ Pv i σ H, ⟨xs.length, by simp, Nat.zero_le _, h0⟩, ?_⟩
  rintro i m σ H ⟨rfl, hi, p⟩
  have q := hl i σ H hi p
  by_cases hlt : i < xs.length
  · refine .inr ⟨⟨xs, xs[i], q, by simp [hlt]⟩, Pv (i + 1), fun σ' H' p' => ⟨xs.length - (i + 1), by omega, rfl, hlt, p'⟩, fun x H' y => ?_⟩
    obtain ⟨e, y⟩ := y
    subst e
    exact hs i x σ _ (y xs q) p
  · have e : i = xs.length := by omega
    subst e
    exact .inl ⟨⟨xs, q, Nat.le_refl _⟩, hd σ H p⟩
theorem for_range {lo : Int} {n : Nat} {g : TG} {tb : TS} {D : Ends} {σ : St} {H : Hp} (Pv : Nat → St → Hp → Prop) (h0 : Pv 0 σ H)
    (hs : ∀ i σ H, i < n → Pv i σ H → g (.int (lo + i)) σ H fun σ2 H2 => tb { D with nx := Pv (i + 1), ct := Pv (i + 1), bk := D.nx } σ2 H2) (hd : ∀ σ H, Pv n σ H → D.nx σ H) :
    ∃ W : Nat → Nat → St → Hp → Prop, (∃ m, W 0 m σ H) ∧ ∀ i m σ H, W i m σ H →
      ((Itr lo n).stop i H ∧ D.nx σ H) ∨ ((Itr lo n).go i H ∧ ∃ N : St → Hp → Prop, (∀ σ' H', N σ' H' → ∃ m', m' < m ∧ W (i + 1) m' σ' H') ∧ ∀ x H', (Itr lo n).yld i H x H' → g x σ H' fun σ2 H2 => tb { D with nx := N, ct := N, bk := D.nx } σ2 H2) := by
  refine ⟨fun i m σ H => m = n - i ∧ i ≤ n ∧ Pv i σ H, ⟨n, by simp, Nat.zero_le _, h0⟩, ?_⟩
  rintro i m σ H ⟨rfl, hi, p⟩
  by_cases hlt : i < n
  · refine .inr ⟨hlt, Pv (i + 1), fun σ' H' p' => ⟨n - (i + 1), by omega, rfl, hlt, p'⟩, fun x H' y => ?_⟩
    obtain ⟨e, y⟩ := y
    subst e y
    exact hs i σ _ hlt p
  · have e : i = n := by omega
    subst e
    exact .inl ⟨Nat.le_refl _, hd σ H p⟩
/-- while, by a word and a measure of the state -/
theorem while_by {c : TT} {tb : TS} {D : Ends} {σ : St} {H : Hp} (Pv : St → Hp → Prop) (μ : St → Hp → Nat) (h0 : Pv σ H)
    (hs : ∀ σ H, Pv σ H → c σ H fun b H1 => if b = true then tb { D with nx := fun σ' H' => Pv σ' H' ∧ μ σ' H' < μ σ H, ct := fun σ' H' => Pv σ' H' ∧ μ σ' H' < μ σ H, bk := D.nx } σ H1 else D.nx σ H1)
    (mono : ∀ σ H Q Q', (∀ b H1, Q b H1 → Q' b H1) → c σ H Q → c σ H Q') : tWhile c tb D σ H := by
  refine ⟨fun m σ H => m = μ σ H ∧ Pv σ H, ⟨_, rfl, h0⟩, ?_⟩
  rintro m σ H ⟨rfl, p⟩
  refine mono σ H _ _ (fun b H1 q => ?_) (hs σ H p)
  cases b with
  | true => exact ⟨_, fun σ' H' ⟨p', l⟩ => ⟨_, l, rfl, p'⟩, q⟩
  | false => exact q
end L2
namespace L2
open PySem PySem.Spec PyProof.Rows
abbrev R2 := V → V → Hp → VK → Prop
/-- a two-place operation on values: f is binaryOp op, inplaceOp op or compareOp op -/
def OpR (X : Cx) (f : Value → Value → Sem Value) (r : R2) : Prop :=
  ∀ (pins : List (Addr × Obj)) (s : Shared) (σ : St) (H : Hp) (x y : V) (v u : Value) (Q : VK), Inv X pins σ H s → RelV x v → RelV y u → r x y H Q →
    wpAny (model X.prog X.w) X.A (f v u) (EP X pins σ Q) X.xe s
/-- a one-place operation -/
def UnR (X : Cx) (f : Value → Sem Value) (r : V → Hp → VK → Prop) : Prop :=
  ∀ (pins : List (Addr × Obj)) (s : Shared) (σ : St) (H : Hp) (x : V) (v : Value) (Q : VK), Inv X pins σ H s → RelV x v → r x H Q →
    wpAny (model X.prog X.w) X.A (f v) (EP X pins σ Q) X.xe s
/-- a call of a value that is known (a builtin, a type) with values -/
def CallR (X : Cx) (f : Value) (r : List V → Hp → VK → Prop) : Prop :=
  ∀ (pins : List (Addr × Obj)) (s : Shared) (σ : St) (H : Hp) (xs : List V) (us : List Value) (Q : VK), Inv X pins σ H s → Vals xs us → r xs H Q →
    wpAny (model X.prog X.w) X.A (call f us) (EP X pins σ Q) X.xe s
def tOp (r : R2) (ta tb : TE) : TE := fun σ H Q => ta σ H fun x H1 => tb σ H1 fun y H2 => r x y H2 Q
def tUn (r : V → Hp → VK → Prop) (ta : TE) : TE := fun σ H Q => ta σ H fun x H1 => r x H1 Q
/-- ints in, under C, and a value out -/
def rI (C : Int → Int → Prop) (g : Int → Int → V) : R2 := fun x y H Q => ∃ i j, x = .int i ∧ y = .int j ∧ C i j ∧ Q (g i j) H
def rI0 (g : Int → Int → V) : R2 := fun x y H Q => ∃ i j, x = .int i ∧ y = .int j ∧ Q (g i j) H
def rU (g : Int → V) : V → Hp → VK → Prop := fun x H Q => ∃ i, x = .int i ∧ Q (g i) H
section
variable {X : Cx} {a b c : Expr} {ta tb tc : TE} {pos : Pos}
theorem binT (ha : PE X a ta) (hb : PE X b tb) {pins : List (Addr × Obj)} {s : Shared} {σ : St} {H : Hp} {R : V → V → Hp → Prop} (I : Inv X pins σ H s)
    (h : ta σ H fun x H1 => tb σ H1 fun y H2 => R x y H2) {Q : Value → Shared → Prop} {f : Value → Value → Sem Value}
    (hf : ∀ v u s2 x y H2, Inv X pins σ H2 s2 → RelV x v → RelV y u → R x y H2 → wpAny (model X.prog X.w) X.A (f v u) Q X.xe s2) :
    wpAny (model X.prog X.w) X.A (eval a X.env) (fun v s₁ => wpAny (model X.prog X.w) X.A (eval b X.env) (fun u s₂ => wpAny (model X.prog X.w) X.A (f v u) Q X.xe s₂) X.xe s₁) X.xe s := by
  refine thn (ha pins s σ H _ I h) fun v s1 ⟨x, H1, I1, r1, q1⟩ => ?_
  refine thn (hb pins s1 σ H1 _ I1 q1) fun u s2 ⟨y, H2, I2, r2, q2⟩ => ?_
  exact hf v u s2 x y H2 I2 r1 r2 q2
theorem pe_op {op : Operator} {r : R2} (ho : OpR X (binaryOp op) r) (ha : PE X a ta) (hb : PE X b tb) : PE X (.BinOp a op b pos) (tOp r ta tb) := by
  intro pins s σ H Q I h
  exact wpAny_BinOp (binT ha hb I h fun v u s2 x y H2 I2 rx ry q => ho pins s2 σ H2 x y v u Q I2 rx ry q)
theorem pe_un {op : UnaryOp} {r : V → Hp → VK → Prop} (ho : UnR X (unaryOp op) r) (ha : PE X a ta) : PE X (.UnaryOp op a pos) (tUn r ta) := by
  intro pins s σ H Q I h
  exact UnaryOp_ (thn (ha pins s σ H _ I h) fun v s1 ⟨x, H1, I1, r1, q1⟩ => ho pins s1 σ H1 x v Q I1 r1 q1)
theorem opI {f : Value → Value → Sem Value} {C : Int → Int → Prop} {g : Int → Int → Int}
    (rule : ∀ (i j : Int) (t u : Tok) (s : Shared) (Q : Value → Shared → Prop) (E : Value → Shared → Prop), C i j → Q (.int (g i j) s.toks) { s with toks := s.toks + 1 } → wpAny (model X.prog X.w) X.A (f (.int i t) (.int j u)) Q E s) :
    OpR X f (rI C fun i j => .int (g i j)) := by
  intro pins s σ H x y v u Q I rx ry h
  obtain ⟨i, j, rfl, rfl, hc, q⟩ := h
  obtain ⟨t, rfl⟩ := rx
  obtain ⟨t', rfl⟩ := ry
  exact rule i j t t' s _ _ hc ⟨.int (g i j), H, I.tok _, ⟨_, rfl⟩, q⟩
theorem opI0 {f : Value → Value → Sem Value} {g : Int → Int → Int}
    (rule : ∀ (i j : Int) (t u : Tok) (s : Shared) (Q : Value → Shared → Prop) (E : Value → Shared → Prop), Q (.int (g i j) s.toks) { s with toks := s.toks + 1 } → wpAny (model X.prog X.w) X.A (f (.int i t) (.int j u)) Q E s) :
    OpR X f (rI0 fun i j => .int (g i j)) := by
  intro pins s σ H x y v u Q I rx ry h
  obtain ⟨i, j, rfl, rfl, q⟩ := h
  obtain ⟨t, rfl⟩ := rx
  obtain ⟨t', rfl⟩ := ry
  exact rule i j t t' s _ _ ⟨.int (g i j), H, I.tok _, ⟨_, rfl⟩, q⟩
theorem opB0 {f : Value → Value → Sem Value} {g : Int → Int → Bool}
    (rule : ∀ (i j : Int) (t u : Tok) (s : Shared) (Q : Value → Shared → Prop) (E : Value → Shared → Prop), Q (.bool (g i j)) s → wpAny (model X.prog X.w) X.A (f (.int i t) (.int j u)) Q E s) :
    OpR X f (rI0 fun i j => .bl (g i j)) := by
  intro pins s σ H x y v u Q I rx ry h
  obtain ⟨i, j, rfl, rfl, q⟩ := h
  obtain ⟨t, rfl⟩ := rx
  obtain ⟨t', rfl⟩ := ry
  exact rule i j t t' s _ _ ⟨.bl (g i j), H, I, rfl, q⟩
theorem op_add : OpR X (binaryOp .Add) (rI0 fun i j => .int (i + j)) := opI0 fun _ _ _ _ _ _ _ q => add_int q
theorem op_sub : OpR X (binaryOp .Sub) (rI0 fun i j => .int (i - j)) := opI0 fun _ _ _ _ _ _ _ q => sub_int q
/-- % by a positive divisor of any size -/
theorem op_mod : OpR X (binaryOp .Mod) (rI (fun _ j => 0 < j) fun i j => .int (i % j)) := opI fun i j _ _ _ _ _ hc q => by
  have h1 : (0 : Int) < j := hc
  exact mod_int' (by omega) (by rw [Int.fmod_eq_emod_of_nonneg i (by omega)]; exact q)
theorem unI {f : Value → Sem Value} {g : Int → Int}
    (rule : ∀ (i : Int) (t : Tok) (s : Shared) (Q : Value → Shared → Prop) (E : Value → Shared → Prop), Q (.int (g i) s.toks) { s with toks := s.toks + 1 } → wpAny (model X.prog X.w) X.A (f (.int i t)) Q E s) :
    UnR X f (rU fun i => .int (g i)) := by
  intro pins s σ H x v Q I rx h
  obtain ⟨i, rfl, q⟩ := h
  obtain ⟨t, rfl⟩ := rx
  exact rule i t s _ _ ⟨.int (g i), H, I.tok _, ⟨_, rfl⟩, q⟩
theorem un_neg : UnR X (unaryOp .USub) (rU fun i => .int (-i)) := unI fun _ _ _ _ _ q => neg_int q
end
/-- the scalars that == tells apart as data does -/
def scal : V → V → Bool
  | .non, .non => true | .non, .int _ => true | .int _, .non => true | .non, .bl _ => true | .bl _, .non => true | .non, .str _ => true | .str _, .non => true
  | .int _, .int _ => true | .bl _, .bl _ => true | .str _, .str _ => true | .byt _, .byt _ => true
  | .int _, .str _ => true | .str _, .int _ => true | .bl _, .str _ => true | .str _, .bl _ => true
  | _, _ => false
def rEq : R2 := fun x y H Q => scal x y = true ∧ Q (.bl (decide (x = y))) H
def rNe : R2 := fun x y H Q => scal x y = true ∧ Q (.bl (!decide (x = y))) H
theorem dec_int {i j : Int} : decide (V.int i = V.int j) = (i == j) := by
  rw [Bool.eq_iff_iff]
  simp
theorem dec_bl {i j : Bool} : decide (V.bl i = V.bl j) = (i == j) := by
  rw [Bool.eq_iff_iff]
  simp
theorem dec_str {i j : Str} : decide (V.str i = V.str j) = (i == j) := by
  rw [Bool.eq_iff_iff]
  simp
theorem dec_byt {i j : Array UInt8} : decide (V.byt i = V.byt j) = (i.toList == j.toList) := by
  rw [Bool.eq_iff_iff]
  cases i
  cases j
  simp
section
variable {X : Cx} {a b c : Expr} {ta tb tc : TE} {pos : Pos}
theorem fin_bl {pins : List (Addr × Obj)} {σ : St} {H : Hp} {s : Shared} {Q : VK} {k k' : Bool} (I : Inv X pins σ H s) (q : Q (.bl k) H) (e : k = k') : EP X pins σ Q (.bool k') s := by
  subst e
  exact ⟨.bl k, H, I, rfl, q⟩
theorem op_eq : OpR X (compareOp .Eq) rEq := by
  intro pins s σ H x y v u Q I rx ry h
  obtain ⟨hs, q⟩ := h
  cases x with
  | non =>
    cases rx
    cases y with
    | non => cases ry; exact PySem.EqNone.eq_none_none (fin_bl I q (by simp))
    | bl j => cases ry; exact PySem.EqNone.eq_none_bool (fin_bl I q (by simp))
    | int j => obtain ⟨t', rfl⟩ := ry; exact PySem.EqNone.eq_none_int (fin_bl I q (by simp))
    | str j => obtain ⟨t', rfl⟩ := ry; exact PySem.EqNone.eq_none_str (fin_bl I q (by simp))
    | _ => exact absurd (show false = true from hs) Bool.false_ne_true
  | bl i =>
    cases rx
    cases y with
    | non => cases ry; exact PySem.EqNone.eq_bool_none (fin_bl I q (by simp))
    | bl j => cases ry; exact eq_bool (fin_bl I q dec_bl)
    | str j => obtain ⟨t', rfl⟩ := ry; exact PySem.EqMixed.eq_bool_str (fin_bl I q (by simp))
    | _ => exact absurd (show false = true from hs) Bool.false_ne_true
  | int i =>
    obtain ⟨t, rfl⟩ := rx
    cases y with
    | non => cases ry; exact PySem.EqNone.eq_int_none (fin_bl I q (by simp))
    | int j => obtain ⟨t', rfl⟩ := ry; exact eq_int (fin_bl I q dec_int)
    | str j => obtain ⟨t', rfl⟩ := ry; exact PySem.EqMixed.eq_int_str (fin_bl I q (by simp))
    | _ => exact absurd (show false = true from hs) Bool.false_ne_true
  | str i =>
    obtain ⟨t, rfl⟩ := rx
    cases y with
    | non => cases ry; exact PySem.EqNone.eq_str_none (fin_bl I q (by simp))
    | bl j => cases ry; exact PySem.EqMixed.eq_str_bool (fin_bl I q (by simp))
    | int j => obtain ⟨t', rfl⟩ := ry; exact PySem.EqMixed.eq_str_int (fin_bl I q (by simp))
    | str j => obtain ⟨t', rfl⟩ := ry; exact eq_str (fin_bl I q dec_str)
    | _ => exact absurd (show false = true from hs) Bool.false_ne_true
  | byt i =>
    obtain ⟨t, rfl⟩ := rx
    cases y with
    | byt j => obtain ⟨t', rfl⟩ := ry; exact PySem.W.eq_bytes (fin_bl I q dec_byt)
    | _ => exact absurd (show false = true from hs) Bool.false_ne_true
  | _ => cases y <;> exact absurd (show false = true from hs) Bool.false_ne_true
theorem op_ne : OpR X (compareOp .NotEq) rNe := by
  intro pins s σ H x y v u Q I rx ry h
  obtain ⟨hs, q⟩ := h
  cases x with
  | non =>
    cases rx
    cases y with
    | non => cases ry; exact PySem.EqNone.ne_none_none (fin_bl I q (by simp))
    | bl j => cases ry; exact PySem.EqNone.ne_none_bool (fin_bl I q (by simp))
    | int j => obtain ⟨t', rfl⟩ := ry; exact PySem.EqNone.ne_none_int (fin_bl I q (by simp))
    | str j => obtain ⟨t', rfl⟩ := ry; exact PySem.EqNone.ne_none_str (fin_bl I q (by simp))
    | _ => exact absurd (show false = true from hs) Bool.false_ne_true
  | bl i =>
    cases rx
    cases y with
    | non => cases ry; exact PySem.EqNone.ne_bool_none (fin_bl I q (by simp))
    | bl j => cases ry; exact ne_bool (fin_bl I q (congrArg not dec_bl))
    | str j => obtain ⟨t', rfl⟩ := ry; exact PySem.EqMixed.ne_bool_str (fin_bl I q (by simp))
    | _ => exact absurd (show false = true from hs) Bool.false_ne_true
  | int i =>
    obtain ⟨t, rfl⟩ := rx
    cases y with
    | non => cases ry; exact PySem.EqNone.ne_int_none (fin_bl I q (by simp))
    | int j => obtain ⟨t', rfl⟩ := ry; exact ne_int (fin_bl I q (congrArg not dec_int))
    | str j => obtain ⟨t', rfl⟩ := ry; exact PySem.EqMixed.ne_int_str (fin_bl I q (by simp))
    | _ => exact absurd (show false = true from hs) Bool.false_ne_true
  | str i =>
    obtain ⟨t, rfl⟩ := rx
    cases y with
    | non => cases ry; exact PySem.EqNone.ne_str_none (fin_bl I q (by simp))
    | bl j => cases ry; exact PySem.EqMixed.ne_str_bool (fin_bl I q (by simp))
    | int j => obtain ⟨t', rfl⟩ := ry; exact PySem.EqMixed.ne_str_int (fin_bl I q (by simp))
    | str j => obtain ⟨t', rfl⟩ := ry; exact ne_str (fin_bl I q (congrArg not dec_str))
    | _ => exact absurd (show false = true from hs) Bool.false_ne_true
  | byt i =>
    obtain ⟨t, rfl⟩ := rx
    cases y with
    | byt j => obtain ⟨t', rfl⟩ := ry; exact PySem.W.ne_bytes (fin_bl I q (congrArg not dec_byt))
    | _ => exact absurd (show false = true from hs) Bool.false_ne_true
  | _ => cases y <;> exact absurd (show false = true from hs) Bool.false_ne_true
theorem op_lt : OpR X (compareOp .Lt) (rI0 fun i j => .bl (decide (i < j))) := opB0 fun _ _ _ _ _ _ _ q => lt_int q
theorem op_le : OpR X (compareOp .LtE) (rI0 fun i j => .bl (decide (i ≤ j))) := opB0 fun _ _ _ _ _ _ _ q => le_int q
theorem op_gt : OpR X (compareOp .Gt) (rI0 fun i j => .bl (decide (j < i))) := opB0 fun _ _ _ _ _ _ _ q => gt_int q
theorem op_ge : OpR X (compareOp .GtE) (rI0 fun i j => .bl (decide (j ≤ i))) := opB0 fun _ _ _ _ _ _ _ q => ge_int q
/-- is None, is not None: the right side a value none -/
theorem op_isN : OpR X (compareOp .Is) (fun x y H Q => y = .non ∧ Q (.bl (decide (x = .non))) H) := by
  intro pins s σ H x y v u Q I rx ry h
  obtain ⟨rfl, q⟩ := h
  cases ry
  refine is_none_gen (fin_bl I q ?_)
  cases x <;> first
    | (cases rx; rfl)
    | (obtain ⟨t, rfl⟩ := rx; rfl)
theorem op_notN : OpR X (compareOp .IsNot) (fun x y H Q => y = .non ∧ Q (.bl (!decide (x = .non))) H) := by
  intro pins s σ H x y v u Q I rx ry h
  obtain ⟨rfl, q⟩ := h
  cases ry
  refine isnot_none_gen (fin_bl I q ?_)
  cases x <;> first
    | (cases rx; rfl)
    | (obtain ⟨t, rfl⟩ := rx; rfl)
theorem nomark (b : Expr) {op : CmpOp} (h : op ≠ .In := by decide) (h2 : op ≠ .NotIn := by decide) : behindInMarks op b = false := by
  have e1 : (op == CmpOp.In) = false := by cases op <;> first | rfl | exact absurd rfl h
  have e2 : (op == CmpOp.NotIn) = false := by cases op <;> first | rfl | exact absurd rfl h2
  cases b <;> simp [behindInMarks, e1, e2]
/-- a comparison as a value; hm: nomark b, or (for in, not in) by with_unfolding_all rfl -/
theorem pe_cmpR {op : CmpOp} {r : R2} (ho : OpR X (compareOp op) r) (ha : PE X a ta) (hb : PE X b tb) (hm : behindInMarks op b = false) : PE X (.Compare a [op] [b] pos) (tOp r ta tb) := by
  intro pins s σ H Q I h
  exact wpAny_Compare1 (binT ha hb I h fun v u s2 x y H2 I2 rx ry q => ho pins s2 σ H2 x y v u Q I2 rx ry q) hm
/-- a reading of a value as a test -/
def tTest (t : TE) : TT := fun σ H Q => t σ H fun x H' => ∃ k, x = .bl k ∧ Q k H'
theorem pt_cmpR {op : CmpOp} {r : R2} (ho : OpR X (compareOp op) r) (ha : PE X a ta) (hb : PE X b tb) (hm : behindInMarks op b = false) : PT X (.Compare a [op] [b] pos) (tTest (tOp r ta tb)) := by
  intro pins s σ H Q I h
  refine wpAny_isTrue_Compare1 (thn (ha pins s σ H _ I h) fun v s1 ⟨x, H1, I1, r1, q1⟩ => thn (hb pins s1 σ H1 _ I1 q1) fun u s2 ⟨y, H2, I2, r2, q2⟩ =>
    thn (ho pins s2 σ H2 x y v u _ I2 r1 r2 q2) fun c s3 ⟨z, H3, I3, r3, k, e, q3⟩ => ?_) hm
  subst e
  cases r3
  exact wpAny_truthy_bool ⟨H3, I3, q3⟩
/-- a op1 b op2 c -/
def tChain (r r' : R2) (ta tb tc : TE) : TE := fun σ H Q => ta σ H fun x H1 => tb σ H1 fun y H2 => r x y H2 fun z H3 => ∃ k, z = .bl k ∧
  (if k = true then tc σ H3 fun w' H4 => r' y w' H4 Q else Q (.bl false) H3)
theorem pt_chain {op op' : CmpOp} {r r' : R2} (ho : OpR X (compareOp op) r) (ho' : OpR X (compareOp op') r') (ha : PE X a ta) (hb : PE X b tb) (hc : PE X c tc)
    (hm : lastMarks [op, op'] [b, c] = false := by with_unfolding_all rfl) : PT X (.Compare a [op, op'] [b, c] pos) (tTest (tChain r r' ta tb tc)) := by
  intro pins s σ H Q I h
  refine isTrue_chain (thn (ha pins s σ H _ I h) fun v s1 ⟨x, H1, I1, r1, q1⟩ => test_link (thn (hb pins s1 σ H1 _ I1 q1) fun u s2 ⟨y, H2, I2, r2, q2⟩ =>
    thn (ho pins s2 σ H2 x y v u _ I2 r1 r2 q2) fun d s3 ⟨z, H3, I3, r3, k, e, q3⟩ => ?_)) hm
  subst e
  cases r3
  refine wpAny_truthy_bool ?_
  cases k with
  | false =>
    obtain ⟨k', e', q'⟩ := q3
    cases e'
    exact ite_ff ⟨H3, I3, q'⟩
  | true =>
    refine ite_tt (test_last (thn (hc pins s3 σ H3 _ I3 q3) fun w' s4 ⟨z', H4, I4, r4, q4⟩ => thn (ho' pins s4 σ H4 y z' u w' _ I4 r2 r4 q4) fun d' s5 ⟨z2, H5, I5, r5, k2, e2, q5⟩ => ?_))
    subst e2
    cases r5
    exact wpAny_truthy_bool ⟨H5, I5, q5⟩
theorem line63 : (sizeLine : Nat) < 2 ^ 63 := by rw [sizeLine_eq]; decide
theorem vals1 {x : V} {us : List Value} (r : Vals [x] us) : ∃ u, us = [u] ∧ RelV x u := by
  cases r with
  | cons r1 r2 => cases r2; exact ⟨_, rfl, r1⟩
theorem vals2 {x y : V} {us : List Value} (r : Vals [x, y] us) : ∃ u w', us = [u, w'] ∧ RelV x u ∧ RelV y w' := by
  cases r with
  | cons r1 r2 =>
    cases r2 with
    | cons r3 r4 => cases r4; exact ⟨_, _, rfl, r1, r3⟩
theorem call_abs : CallR X (.builtin "abs") (fun xs H Q => ∃ i, xs = [.int i] ∧ Q (.int (if i < 0 then -i else i)) H) := by
  intro pins s σ H xs us Q I r h
  obtain ⟨i, rfl, q⟩ := h
  obtain ⟨u, rfl, t, rfl⟩ := vals1 r
  exact call_abs_int fun u tk => ⟨.int (if i < 0 then -i else i), H, I.tok _, ⟨_, rfl⟩, q⟩
theorem call_max2 (hc : X.calm = true) : CallR X (.builtin "max") (fun xs H Q => ∃ i j, xs = [.int i, .int j] ∧ Q (.int (if j > i then j else i)) H) := by
  intro pins s σ H xs us Q I r h
  obtain ⟨i, j, rfl, q⟩ := h
  obtain ⟨u, w', rfl, ⟨t, rfl⟩, ⟨t', rfl⟩⟩ := vals2 r
  refine max_two_ints (I.ok.hd hc) fun h' tk k => ⟨_, H, I.kept k, ?_, q⟩
  by_cases hj : j > i
  · rw [if_pos hj, if_pos hj]; exact ⟨_, rfl⟩
  · rw [if_neg hj, if_neg hj]; exact ⟨_, rfl⟩
end
end L2
namespace L2
open PySem PySem.Spec PyProof.Rows
structure ObjM (h : Heap) (x dx C : Addr) (mA : Str → Option Value) : Prop where
  obj : h.get? x = some (PySem.W.instObj C dx)
  ns : h.Ns1 dx mA
  ne : dx ≠ x
theorem lookIn_ns {h : Heap} {dx : Addr} {mA : Str → Option Value} (n : h.Ns1 dx mA) : ∃ od, h.get? dx = some od ∧ ∀ name, PySem.W.lookIn name od = some (mA name) := by
  obtain ⟨o, es, ep, ho, hd, hk, _, hm⟩ := n
  refine ⟨o, ho, fun name => ?_⟩
  have e := hm name
  unfold nsFind findBy at e
  rw [← Array.find?_toList] at e
  unfold PySem.W.lookIn
  rw [hd]
  dsimp only
  split
  · rename_i y q
    rw [q] at e
    exact congrArg some e
  · rename_i q
    rw [q] at e
    have a : es.toList.any (·.refKey) = false := by
      rw [List.any_eq_false]
      intro y hy
      obtain ⟨z, t, hkey⟩ := hk y (Array.mem_toList_iff.mp hy)
      simp [DictEntry.refKey, hkey]
    have a' : ¬ es.toList.any (·.refKey) = true := by rw [a]; exact Bool.false_ne_true
    rw [if_neg a']
    exact congrArg some e
theorem ObjM.look {h : Heap} {x dx C : Addr} {mA : Str → Option Value} (I : ObjM h x dx C mA) : ∃ od, PySem.W.InstAt h x (PySem.W.instObj C dx) C (some od) ∧ ∀ name, PySem.W.lookIn name od = some (mA name) :=
  let ⟨od, ho, hl⟩ := lookIn_ns I.ns
  ⟨od, ⟨I.obj, rfl, rfl, ho⟩, hl⟩
section
variable {prog : Program} {w : World} {A : Around} {E : Value → Shared → Prop} {s : Shared} {K : PySem.W.Frag} {x dx C f : Addr} {mA : Str → Option Value} {name : Str} {v : Value}
theorem get_map {expr : Bool} {Q : Value → Shared → Prop} (X : K.In s.heap) (I : ObjM s.heap x dx C mA) (hg : PySem.W.plainGet K C name = true) (hh : PySem.W.hasDictIn K C = true)
    (ha : PySem.W.findIn K (.ref C) name = some none) (hv : mA name = some v) (hv' : PySem.W.handedIn v = true) (h : Q v { s with toks := s.toks + 1 }) :
    wpAny (model prog w) A (getAttr (.ref x) name expr) Q E s := by
  obtain ⟨od, J, hl⟩ := I.look
  exact PySem.W.get_value X J (PySem.W.plainGet_of hg).1 (PySem.W.findObj_own hh ha rfl (by rw [hl, hv])) hv' h
theorem get_meth {pl : Sem Bool} {Q : Value × List Value → Shared → Prop} (X : K.In s.heap) (I : ObjM s.heap x dx C mA) (hg : PySem.W.plainGet K C name = true)
    (hf : PySem.W.findIn K (.ref C) name = some (some (.ref f))) (ht : PySem.W.isFn K (.ref f) = true) (hv : mA name = none) (h : Q (.ref f, [.ref x]) s) :
    wpAny (model prog w) A (getMethod (.ref x) name pl) Q E s := by
  obtain ⟨od, J, hl⟩ := I.look
  exact PySem.W.method_fn X J (PySem.W.plainGet_of hg).1 (PySem.W.plainGet_of hg).2 hf (beq_iff_eq.mp ht) (by show (PySem.W.lookIn name od).map (·.isSome) = some false; rw [hl, hv]; rfl) h
theorem set_map {ns : List Str} {Q : Unit → Shared → Prop} (X : K.In s.heap) (I : ObjM s.heap x dx C mA)
    (hs : PySem.W.findIn K (.ref C) "__setattr__" = some (some (.builtin "object.__setattr__"))) (hp : PySem.W.plainOver K C = true) (ht : PySem.W.takerIn K C name = some none) (hh : PySem.W.hasDictIn K C = true)
    (hw : PySem.Within mA ns) (hsz : ns.length ≤ sizeLine)
    (h : ∀ h', ObjM h' x dx C (fun y => if y = name then some v else mA y) → Heap.SameBut dx s.heap h' → Q () { s with heap := h', toks := s.toks + 2 }) :
    wpAny (model prog w) A (setAttr (.ref x) name v) Q E s := by
  obtain ⟨od, J, hl⟩ := I.look
  refine PySem.W.set_plain X J hs (PySem.W.osa_open (s := { s with toks := s.toks + 1 }) (r := none) X J hp ht fun b => ?_)
  obtain ⟨cd, hc, hd'⟩ := PySem.W.any_some hh
  have hx : s.heap.get? x = some ⟨.ref C, some dx, .plain, #[]⟩ := I.obj
  refine wpAny_bind (wpAny_pure (wpAny_bind (wpAny_bind (wpAny_loadPart hx (wpAny_bind (PySem.W.Looks.here (s := { s with toks := s.toks + 1 }) (PySem.W.looks_clsIn X hc) ?_))))))
  rw [hd']
  refine wpAny_pure (a := some dx) (wpAny_bind (wpAny_pure (wpAny_bind ?_)))
  refine wpAny_nsSet1 (s := { s with toks := s.toks + 1 }) I.ns fun h' hn2 hs2 => ?_
  obtain ⟨oD, esD, epD, hoD, hdD, hcD⟩ := hn2.count (PySem.Within.cons name v hw)
  refine wpAny_bind (wpAny_lookBehind hoD (by rw [hdD]; exact pastItsLine_dict (Nat.le_trans hcD (by rw [List.length_cons]; omega))) ?_)
  exact wpAny_pure (h _ ⟨(hs2.2 _ (Ne.symm I.ne)).trans I.obj, hn2, I.ne⟩ hs2)
/-- C(..): the dict at the heap's end, the instance behind it; then its __init__ -/
theorem make_map {R : Result → Shared → Prop} {vs : List Value} {kw : List (Str × Value)} (X : K.In s.heap) (hm : PySem.W.makesIn K C = true)
    (hi : PySem.W.findIn K (.ref C) "__init__" = some (some (.ref f))) (hf : PySem.W.typeIn K (.ref f) = some (.type "function"))
    (h : codeAny (model prog w) (A.under (.builtin "type.__call__" ⟨.ref C :: vs, kw⟩)) (.call (.ref f) ⟨.ref (s.heap.objs.size + 1) :: vs, kw⟩) (PySem.W.InitBack (s.heap.objs.size + 1) R)
      { s with heap := (s.heap.push PySem.W.emptyDict).push (PySem.W.instObj C s.heap.objs.size) }) :
    codeAny (model prog w) A (.call (.ref C) ⟨vs, kw⟩) R s := by
  obtain ⟨hh, g, d, t, os⟩ := s
  exact PySem.W.make_core (PySem.W.makes_of X hm) (PySem.W.looks_findIn X hi) (fun self => PySem.W.bind_fn X self hf) (.inl rfl) h
end
def putF (f : Str) (v : V) : List (Str × V) → List (Str × V)
  | [] => [(f, v)]
  | (g, x) :: r => if g = f then (g, v) :: r else (g, x) :: putF f v r
theorem lookup_putF (f g : Str) (v : V) : ∀ fs : List (Str × V), (putF f v fs).lookup g = if g = f then some v else fs.lookup g
  | [] => by
    show List.lookup g [(f, v)] = _
    by_cases h : g = f
    · have hb : (g == f) = true := beq_iff_eq.mpr h
      simp only [List.lookup, hb, if_pos h]
    · have hb : (g == f) = false := beq_eq_false_iff_ne.mpr h
      simp only [List.lookup, hb, if_neg h]
  | (k, x) :: r => by
    have ih := lookup_putF f g v r
    rw [show putF f v ((k, x) :: r) = (if k = f then (k, v) :: r else (k, x) :: putF f v r) from rfl]
    by_cases hk : k = f
    · rw [if_pos hk]
      by_cases h : g = k
      · have hb : (g == k) = true := beq_iff_eq.mpr h
        simp only [List.lookup, hb, if_pos (h.trans hk)]
      · have hb : (g == k) = false := beq_eq_false_iff_ne.mpr h
        simp only [List.lookup, hb, if_neg (fun e : g = f => h (e.trans hk.symm))]
    · rw [if_neg hk]
      by_cases h : g = k
      · have hb : (g == k) = true := beq_iff_eq.mpr h
        simp only [List.lookup, hb, if_neg (fun e : g = f => hk (h.symm.trans e))]
      · have hb : (g == k) = false := beq_eq_false_iff_ne.mpr h
        simp only [List.lookup, hb]
        exact ih
theorem keys_putF (f : Str) (v : V) : ∀ fs : List (Str × V), f ∈ (putF f v fs).map (·.1) ∧ ∀ g, g ∈ fs.map (·.1) → g ∈ (putF f v fs).map (·.1)
  | [] => ⟨by simp [putF], fun g h => by simp at h⟩
  | (k, x) :: r => by
    obtain ⟨i1, i2⟩ := keys_putF f v r
    rw [show putF f v ((k, x) :: r) = (if k = f then (k, v) :: r else (k, x) :: putF f v r) from rfl]
    by_cases hk : k = f
    · rw [if_pos hk]
      subst hk
      exact ⟨by simp, fun g h => by simpa using h⟩
    · rw [if_neg hk]
      refine ⟨?_, fun g h => ?_⟩
      · rw [List.map_cons]
        exact List.mem_cons_of_mem _ i1
      · rw [List.map_cons] at h ⊢
        rcases List.mem_cons.mp h with e | e
        · exact List.mem_cons.mpr (.inl e)
        · exact List.mem_cons_of_mem _ (i2 g e)
theorem length_putF (f : Str) (v : V) : ∀ fs : List (Str × V), (putF f v fs).length ≤ fs.length + 1
  | [] => by simp [putF]
  | (k, x) :: r => by
    have ih := length_putF f v r
    rw [show putF f v ((k, x) :: r) = (if k = f then (k, v) :: r else (k, x) :: putF f v r) from rfl]
    by_cases hk : k = f
    · rw [if_pos hk, List.length_cons, List.length_cons]; omega
    · rw [if_neg hk, List.length_cons, List.length_cons]; omega
theorem RelO.some_of {v : V} {o : Option Value} (r : RelO (some v) o) : ∃ u, o = some u ∧ RelV v u := by
  cases o with
  | none => exact (show False from r).elim
  | some u => exact ⟨u, rfl, r⟩
theorem RelO.none_of {o : Option Value} (r : RelO none o) : o = none := by
  cases o with
  | none => rfl
  | some u => exact (show False from r).elim
theorem handed_of {v : V} {u : Value} (r : RelV v u) : PySem.W.handedIn u = true := by
  cases v with
  | non => cases (show u = Value.none from r); rfl
  | bl b => cases (show u = Value.bool b from r); rfl
  | int i => obtain ⟨t, e⟩ := (show ∃ t, u = Value.int i t from r); cases e; rfl
  | str x => obtain ⟨t, e⟩ := (show ∃ t, u = Value.str x t from r); cases e; rfl
  | byt b => obtain ⟨t, e⟩ := (show ∃ t, u = Value.bytes b t from r); cases e; rfl
  | flt b => obtain ⟨t, e⟩ := (show ∃ t, u = Value.float b t from r); cases e; rfl
  | ref a => cases (show u = Value.ref a from r); rfl
  | ty n => cases (show u = Value.type n from r); rfl
section
variable {P : Program} {w : World} {H H' : Hp} {h h' : Heap} {a C dx : Addr} {fs fs' : List (Str × V)}
theorem ins_get (hok : HOk P w H h) (e : H a = some (.ins C dx fs)) : ∃ mA, ObjM h a dx C mA ∧ (∀ f, RelO (fs.lookup f) (mA f)) ∧ PySem.Within mA (fs.map (·.1)) ∧ fs.length ≤ 1000 ∧ H dx = some (.own a) := by
  obtain ⟨d, z, ne, ob, mA, n, r, q⟩ := (show ObjOk P w H h a (.ins C dx fs) from hok a _ e)
  exact ⟨mA, ⟨ob, n, ne⟩, r, q, z, d⟩
end
structure Cls (K : PySem.W.Frag) (C : Addr) : Prop where
  pg : PySem.W.plainGet K C Str.empty = true
  hd : PySem.W.hasDictIn K C = true
  po : PySem.W.plainOver K C = true
  sa : PySem.W.findIn K (.ref C) "__setattr__" = some (some (.builtin "object.__setattr__"))
theorem Cls.get {K : PySem.W.Frag} {C : Addr} (c : Cls K C) (f : Str) : PySem.W.plainGet K C f = true := c.pg
/-- no class of it has the name -/
def NoAttr (K : PySem.W.Frag) (C : Addr) (f : Str) : Prop := PySem.W.findIn K (.ref C) f = some none
theorem NoAttr.taker {K : PySem.W.Frag} {C : Addr} {f : Str} (n : NoAttr K C f) : PySem.W.takerIn K C f = some none := by
  unfold PySem.W.takerIn
  rw [show PySem.W.findIn K (.ref C) f = some none from n]
  rfl
/-- a method: a plain def of the class or of one above it -/
structure Meth (K : PySem.W.Frag) (C : Addr) (m : Str) (f : Addr) : Prop where
  at_ : PySem.W.findIn K (.ref C) m = some (some (.ref f))
  fn : PySem.W.isFn K (.ref f) = true
  kp : PySem.W.keepIn K (.ref f) = true
section
variable {X : Cx} {pins : List (Addr × Obj)} {σ : St} {H : Hp} {s : Shared} {a C dx : Addr} {fs : List (Str × V)} {f : Str} {v : V} {A : Around} {E : Value → Shared → Prop}
theorem getattr_ok {b : Bool} {Q : Value → Shared → Prop} (I : Inv X pins σ H s) (e : H a = some (.ins C dx fs)) (c : Cls X.K C) (n : NoAttr X.K C f) (l : fs.lookup f = some v)
    (h : ∀ u s', Inv X pins σ H s' → RelV v u → Q u s') : wpAny (model X.prog X.w) A (getAttr (.ref a) f b) Q E s := by
  obtain ⟨mA, O, r, _, _, _⟩ := ins_get I.hok e
  obtain ⟨u, hu, ru⟩ := RelO.some_of (v := v) (o := mA f) (by rw [← l]; exact r f)
  exact get_map I.kIn O (c.get f) c.hd n hu (handed_of ru) (h u _ (I.tok _) ru)
theorem getmeth_ok {m : Str} {g : Addr} {pl : Sem Bool} {Q : Value × List Value → Shared → Prop} (I : Inv X pins σ H s) (e : H a = some (.ins C dx fs)) (c : Cls X.K C) (k : Meth X.K C m g) (l : fs.lookup m = none)
    (h : Q (.ref g, [.ref a]) s) : wpAny (model X.prog X.w) A (getMethod (.ref a) m pl) Q E s := by
  obtain ⟨mA, O, r, _, _, _⟩ := ins_get I.hok e
  have hn : mA m = none := RelO.none_of (by rw [← l]; exact r m)
  exact get_meth I.kIn O (c.get m) k.at_ k.fn hn h
theorem setattr_ok {y : V} {u : Value} {Q : Unit → Shared → Prop} (I : Inv X pins σ H s) (e : H a = some (.ins C dx fs)) (c : Cls X.K C) (n : NoAttr X.K C f) (hl : fs.length < 1000) (ry : RelV y u)
    (h : ∀ s', Inv X pins σ (upd H a (.ins C dx (putF f y fs))) s' → Q () s') : wpAny (model X.prog X.w) A (setAttr (.ref a) f u) Q E s := by
  obtain ⟨mA, O, r, wi, _, ho⟩ := ins_get I.hok e
  have hz : (fs.map (·.1)).length ≤ sizeLine := by rw [List.length_map, sizeLine_eq]; omega
  refine set_map I.kIn O c.sa c.po n.taker c.hd wi hz fun h' O' sb => h _ ?_
  have hd : ∃ o, h'.get? dx = some o := let ⟨o, _, _, e', _⟩ := O'.ns; ⟨o, e'⟩
  refine I.write (x := a) (e := dx) (by rw [e]; exact True.intro) (.inr ho) (fun b q hb z => (sb.2 b hb).trans z) hd ?_
  refine ⟨by rw [upd_ne O.ne]; exact ho, ?_, O.ne, O'.obj, _, O'.ns, fun g => ?_, fun g hg => ?_⟩
  · have := length_putF f y fs; omega
  · show RelO ((putF f y fs).lookup g) (if g = f then some u else mA g)
    rw [lookup_putF]
    by_cases q : g = f
    · rw [if_pos q, if_pos q]; exact ry
    · rw [if_neg q, if_neg q]; exact r g
  · by_cases q : g = f
    · rw [q]; exact (keys_putF f y fs).1
    · refine (keys_putF f y fs).2 g (wi g fun z => hg ?_)
      show (if g = f then some u else mA g) = none
      rw [if_neg q]; exact z
/-- a new instance, tracked, without attributes -/
theorem Inv.made (I : Inv X pins σ H s) : Inv X pins σ (upd (upd H s.heap.objs.size (.own (s.heap.objs.size + 1))) (s.heap.objs.size + 1) (.ins C s.heap.objs.size []))
    { s with heap := (s.heap.push PySem.W.emptyDict).push (PySem.W.instObj C s.heap.objs.size) } := by
  have e1 : (s.heap.push PySem.W.emptyDict).get? s.heap.objs.size = some PySem.W.emptyDict := Heap.get?_push_size s.heap rfl
  have e2 : ((s.heap.push PySem.W.emptyDict).push (PySem.W.instObj C s.heap.objs.size)).get? (s.heap.objs.size + 1) = some (PySem.W.instObj C s.heap.objs.size) := by
    have := Heap.get?_push_size (s.heap.push PySem.W.emptyDict) (o := PySem.W.instObj C s.heap.objs.size) rfl
    rwa [Heap.size_push] at this
  have e3 : (s.heap.push PySem.W.emptyDict).Ns s.heap.objs.size (fun _ => none) := ⟨PySem.W.emptyDict, #[], _, e1, rfl, (fun e he => absurd he (by simp)), fun _ => rfl⟩
  have I1 := I.laid (a := s.heap.objs.size) (o := .own (s.heap.objs.size + 1)) (h' := s.heap.push PySem.W.emptyDict) (t' := s.toks) (fun b u q => Heap.get?_push_of_some _ q) (Nat.le_refl _) ⟨_, e1⟩
  refine I1.laid (a := s.heap.objs.size + 1) (o := .ins C s.heap.objs.size []) (t' := s.toks) (fun b u q => Heap.get?_push_of_some _ q) (Nat.le_of_eq (Heap.size_push _ _)) ?_
  have ne : s.heap.objs.size ≠ s.heap.objs.size + 1 := Nat.ne_of_lt (Nat.lt_succ_self _)
  refine ⟨by rw [upd_ne ne, upd_same], Nat.zero_le _, ne, e2, fun _ => none, (Heap.Ns1.of_empty e3).at fun o q => Heap.get?_push_of_some _ q, fun _ => True.intro, fun y hy => absurd rfl hy⟩
/-- e.f where nothing but the object is asked: through attributeBase (super) and the last hold -/
theorem attr_of {prog : Program} {w : World} {env : Env} {e : Expr} {f : Str} {pos : Pos} {s : Shared} {Q : Value → Shared → Prop} (hb : attributeBase e f env (eval e env) = eval e env)
    (h : wpAny (model prog w) A (eval e env) (fun o s₁ => wpAny (model prog w) A (getAttr o f true) Q E s₁) E s) : wpAny (model prog w) A (eval (.Attribute e f pos) env) Q E s :=
  Attribute_any_ h (by rw [arm_eval_Attribute, hb])
end
/-- e.f, an attribute of the instance -/
def tFld (K : PySem.W.Frag) (ta : TE) (f : Str) : TE := fun σ H Q => ta σ H fun x H1 => ∃ a C dx fs v, x = .ref a ∧ H1 a = some (.ins C dx fs) ∧ Cls K C ∧ NoAttr K C f ∧ fs.lookup f = some v ∧ Q v H1
/-- e.f = value -/
def sFld (K : PySem.W.Frag) (ta tv : TE) (f : Str) : TS := fun D σ H => tv σ H fun y H1 => ta σ H1 fun x H2 => ∃ a C dx fs, x = .ref a ∧ H2 a = some (.ins C dx fs) ∧ Cls K C ∧ NoAttr K C f ∧ fs.length < 1000 ∧
  D.nx σ (upd H2 a (.ins C dx (putF f y fs)))
section
variable {X : Cx} {o e value : Expr} {f : Str} {pos pos' tpos : Pos} {ta tv : TE}
theorem pe_fld (he : PE X e ta) (hb : attributeBase e f X.env (eval e X.env) = eval e X.env) : PE X (.Attribute e f pos) (tFld X.K ta f) := by
  intro pins s σ H Q I h
  refine attr_of hb (thn (he pins s σ H _ I h) fun u s1 ⟨x, H1, I1, rx, a, C, dx, fs, v, ex, ea, c, n, l, q⟩ => ?_)
  subst ex
  obtain rfl : u = Value.ref a := rx
  exact getattr_ok I1 ea c n l fun u' s2 I2 ru => ⟨v, H1, I2, ru, q⟩
theorem ps_fld (ha : PE X o ta) (hv : PE X value tv) (hs : swapsWith value (some (.Attribute o f pos')) pos.line X.env = pure false) : PS X (.Assign [.Attribute o f pos'] value pos) (sFld X.K ta tv f) := by
  intro pins s σ H D I h
  refine plainObj_wpAny_Assign_Attribute (thn (hv pins s σ H _ I h) fun u s1 ⟨y, H1, I1, ry, q⟩ => thn (ha pins s1 σ H1 _ I1 q) fun ov s2 ⟨x, H2, I2, rx, a, C, dx, fs, ex, ea, c, n, l, q2⟩ => ?_) hs
  subst ex
  obtain rfl : ov = Value.ref a := rx
  exact setattr_ok I2 ea c n l ry fun s3 I3 => ⟨σ, _, I3, q2⟩
end
section
variable {X : Cx} {pins : List (Addr × Obj)} {σ : St} {H : Hp} {s : Shared} {A : Around} {E : Value → Shared → Prop} {Q : Value → Shared → Prop} {c : Value} {b : Bool}
end
end L2
namespace L2
open PySem PySem.Spec PyProof.Rows
structure Room (k : Nat) (A : Around) : Prop where
  hd : A.handled = none
  dp : A.depth + 3 * k + 5 < recursionLimit
  un : A.units + 16 * k + 200 < cLine
theorem Room.mono {j k : Nat} {A : Around} (r : Room k A) (h : j ≤ k) : Room j A := ⟨r.hd, by have := r.dp; omega, by have := r.un; omega⟩
theorem Room.deeper {k : Nat} {A : Around} (r : Room (k + 1) A) (env : Env) : Room k (A.deeper env) :=
  ⟨r.hd, by have := r.dp; show A.depth + 1 + 3 * k + 5 < _; omega, by have := r.un; show A.units + 3 + 16 * k + 200 < _; omega⟩
theorem make_depth {A : Around} {C : Addr} {us : List Value} {kw : List (Str × Value)} : (A.under (.builtin "type.__call__" ⟨.ref C :: us, kw⟩)).depth = A.depth + 1 := by
  first | rfl | simp [Around.under, Code.weight, Code.isCreation, Code.isGuard, Code.isCaller, Code.frames, Code.isFrame, guardIds]
theorem make_units {A : Around} {C : Addr} {us : List Value} {kw : List (Str × Value)} : (A.under (.builtin "type.__call__" ⟨.ref C :: us, kw⟩)).units = A.units + 1 := by
  first | rfl | simp [Around.under, Code.cUnits, Code.frames, Code.isFrame]
theorem Room.make {k : Nat} {A : Around} (r : Room (k + 1) A) (C : Addr) (us : List Value) (kw : List (Str × Value)) : Room k (A.under (.builtin "type.__call__" ⟨.ref C :: us, kw⟩)) :=
  ⟨r.hd, by have := r.dp; rw [make_depth]; omega, by have := r.un; rw [make_units]; omega⟩
theorem Room.depth {k : Nat} {A : Around} (r : Room k A) : A.depth < recursionLimit := by have := r.dp; omega
theorem Room.units {k : Nat} {A : Around} (r : Room k A) : A.units + 64 < cLine := by have := r.un; omega
def tNil : TA := fun _ H Q => Q [] H
def tCons (ta : TE) (tr : TA) : TA := fun σ H Q => ta σ H fun x H1 => tr σ H1 fun xs H2 => Q (x :: xs) H2
section
variable {X : Cx} {e : Expr} {es : List Expr} {te : TE} {t : TA} {pos : Pos}
theorem pa_nil : PA X [] tNil := fun _ _ _ _ H Q I h => Calls.spliced_nil ⟨[], H, I, .nil, h⟩
theorem pa_cons (ha : PE X e te) (hr : PA X es t) (hs : starEach (e :: es) X.env = (false, eval e X.env) :: starEach es X.env := by rfl) : PA X (e :: es) (tCons te t) := by
  intro pos pins s σ H Q I h
  rw [hs]
  show wpAny _ _ (spliced ((false, eval e X.env) :: backTo pos (starEach es X.env))) _ _ s
  refine Calls.spliced_cons (thn (ha pins s σ H _ I h) fun u s1 ⟨x, H1, I1, r1, q1⟩ => ?_)
  exact thn (hr pos pins s1 σ H1 _ I1 q1) fun us s2 ⟨xs, H2, I2, r2, q2⟩ => ⟨x :: xs, H2, I2, .cons r1 r2, q2⟩
/-- a tuple, a list of written items -/
def tTup (t : TA) : TE := fun σ H Q => t σ H fun xs H1 => xs.length ≤ sizeLine ∧ ∀ p, H1 p = none → Q (.ref p) (upd H1 p (.tup xs))
def tLst (t : TA) : TE := fun σ H Q => t σ H fun xs H1 => xs.length ≤ sizeLine ∧ ∀ p, H1 p = none → Q (.ref p) (upd H1 p (.lst xs))
theorem pe_tup {x1} (h : PA X es t) : PE X (.Tuple es x1 pos) (tTup t) := by
  intro pins s σ H Q I hq
  refine wpAny_Tuple_spliced (thn (h pos pins s σ H _ I hq) fun us s1 ⟨xs, H1, I1, r, z, q⟩ => ⟨by rw [← r.length]; exact z, ?_⟩)
  have hf : H1 s1.heap.objs.size = none := I1.hok.fresh (Nat.le_refl _)
  refine ⟨.ref s1.heap.objs.size, upd H1 s1.heap.objs.size (.tup xs), I1.laid (t' := s1.toks) (fun b u e => Heap.get?_push_of_some _ e) (Nat.le_refl _) ?_, rfl, q _ hf⟩
  exact ⟨z, us, r, ⟨_, Heap.get?_push_size _ rfl, rfl, _, rfl⟩⟩
theorem pe_lst (h : PA X es t) : PE X (.List es pos) (tLst t) := by
  intro pins s σ H Q I hq
  refine wpAny_List_spliced (thn (h pos pins s σ H _ I hq) fun us s1 ⟨xs, H1, I1, r, z, q⟩ => ⟨by rw [← r.length]; exact z, ?_⟩)
  have hf : H1 s1.heap.objs.size = none := I1.hok.fresh (Nat.le_refl _)
  refine ⟨.ref s1.heap.objs.size, upd H1 s1.heap.objs.size (.lst xs), I1.laid (t' := s1.toks) (fun b u e => Heap.get?_push_of_some _ e) (Nat.le_refl _) ?_, rfl, q _ hf⟩
  exact ⟨z, us, 0, r, Heap.get?_push_size _ rfl⟩
end
/-- a def's promise: the bound arguments in the parameters' order, the heap, the wanted end, the wanted exception -/
abbrev Sp := List V → Hp → VK → XK → Prop
/-- how an exception lies behind a call (file 08 gives it): the callers' frames, abstract heap and state ahead of the call, the wish, the exception, the state -/
abbrev CXT := List Env → Hp → Shared → XK → Value → Shared → Prop
/-- the state at a call -/
structure Env0 (P : Program) (w : World) (K : PySem.W.Frag) (mg : Str → Option Value) (base : Heap) (A : Around) (outer : List Env) (s : Shared) (H : Hp) : Prop where
  frames : A.frames = some outer
  mod : Mod K mg base
  bs : ∀ b o, base.get? b = some o → s.heap.get? b = some o ∧ H b = none
  bsz : base.objs.size ≤ s.heap.objs.size
  funs : s.heap.FunFrames base outer
  frf : ∀ b ∈ frs outer, H b = none
  hok : HOk P w H s.heap
  bare : AllBare s.gens
/-- a call's end -/
def CE (outer : List Env) (P : Program) (w : World) (H : Hp) (s : Shared) (Q : VK) (u : Value) (s' : Shared) : Prop :=
  ∃ v H', s'.os = s.os ∧ AllBare s'.gens ∧ Un (frs outer) [] H H' s.heap s'.heap ∧ HOk P w H' s'.heap ∧ RelV v u ∧ Q v H'
def CR (CX : CXT) (outer : List Env) (P : Program) (w : World) (H : Hp) (s : Shared) (Q : VK) (E : XK) (r : Result) (s' : Shared) : Prop :=
  match r with
  | .ok (.ret u) => CE outer P w H s Q u s'
  | .ok _ => False
  | .error e => CX outer H s E e s'
structure FnOk (P : Program) (w : World) (K : PySem.W.Frag) (mg : Str → Option Value) (base : Heap) (CX : CXT) (k : Nat) (f : Addr) (fd : FuncData) (ps : List Str) (sp : Sp) : Prop where
  len : ∀ vs H Q E, sp vs H Q E → vs.length = ps.length
  run : ∀ (A : Around) (outer : List Env) (s : Shared) (H : Hp) (args : Args) (us : List Value) (vs : List V) (Q : VK) (E : XK), Room k A → Env0 P w K mg base A outer s H → BindsTo s fd args (ps.zip us) → Vals vs us → sp vs H Q E →
    codeAny (model P w) A (.call (.ref f) args) (CR CX outer P w H s Q E) s
theorem Env0.make {P : Program} {w : World} {K : PySem.W.Frag} {mg : Str → Option Value} {base : Heap} {A : Around} {outer : List Env} {s : Shared} {H : Hp} (e : Env0 P w K mg base A outer s H) (C : Addr) (us : List Value) (kw : List (Str × Value)) :
    Env0 P w K mg base (A.under (.builtin "type.__call__" ⟨.ref C :: us, kw⟩)) outer s H := ⟨by first | exact e.frames | (simpa [Around.under, Code.envs, Code.isFrame, pushEnvs] using e.frames), e.mod, e.bs, e.bsz, e.funs, e.frf, e.hok, e.bare⟩
section
variable {X : Cx} {pins : List (Addr × Obj)} {σ : St} {H : Hp} {s s' : Shared}
/-- from a body: what a callee wants -/
theorem Inv.env0 (I : Inv X pins σ H s) : Env0 X.prog X.w X.K X.mg X.base X.A X.stack s H :=
  ⟨I.ok.frames, I.ok.mod, I.bs, Nat.le_trans I.ok.bsz I.sz, I.stack, I.stkFree, I.hok, I.bare⟩
/-- behind a call -/
theorem Inv.after {Q : VK} {u : Value} (I : Inv X pins σ H s) (h : CE X.stack X.prog X.w H s Q u s') : EP X pins σ Q u s' := by
  obtain ⟨v, H', os, bare, un, hok, r, q⟩ := h
  obtain ⟨hh, g, d, t, os'⟩ := s'
  obtain rfl : os' = s.os := os
  exact ⟨v, H', I.call (h' := hh) (g' := g) (d' := d) (t' := t) (ch := []) un hok bare (fun b z => absurd z (by simp)), r, q⟩
end
/-- f(..): the written arguments, then the defaults dvs; E: what is wanted of an exception -/
def tCall (sp : Sp) (dvs : List V) (E : XK) (t : TA) : TE := fun σ H Q => t σ H fun vs H1 => sp (vs ++ dvs) H1 Q E
/-- o.m(..) of an instance of the class at C -/
def tMeth (C : Addr) (m : Str) (sp : Sp) (dvs : List V) (E : XK) (ta : TE) (t : TA) : TE := fun σ H Q => ta σ H fun x H1 => ∃ a dx fs, x = .ref a ∧ H1 a = some (.ins C dx fs) ∧ fs.lookup m = none ∧
  t σ H1 fun vs H2 => sp (x :: (vs ++ dvs)) H2 Q E
/-- C(..): a new instance and its dict, then __init__ -/
def tMake (C : Addr) (sp : Sp) (dvs : List V) (E : XK) (t : TA) : TE := fun σ H Q => t σ H fun vs H1 => ∀ x dx, H1 x = none → H1 dx = none → dx ≠ x →
  sp (.ref x :: (vs ++ dvs)) (upd (upd H1 dx (.own x)) x (.ins C dx [])) (fun v H2 => v = .non ∧ Q (.ref x) H2) E
/-- how the parameters are bound: us the positional arguments, kw the keywords' values by name, ds the defaults that fill up -/
def Binds (K : PySem.W.Frag) (fd : FuncData) (ps : List Str) (ds : List Value) : Prop :=
  ∀ (s : Shared) (us : List Value), K.In s.heap → (us ++ ds).length = ps.length → BindsTo s fd ⟨us, []⟩ (ps.zip (us ++ ds))
/-- every parameter is given -/
theorem Binds.all {K : PySem.W.Frag} {fd : FuncData} {ps : List Str} (h : ∀ us : List Value, us.length = ps.length → bindArgs fd ⟨us, []⟩ = pure (ps.zip us)) : Binds K fd ps [] := fun s us _ hl => by
  rw [List.append_nil] at hl ⊢
  exact .of_eq (h us hl)
/-- an exception of a callee reaches what this body wants of exceptions -/
def Passes (CX : CXT) (X : Cx) (E : XK) : Prop := ∀ (pins : List (Addr × Obj)) (σ : St) (H : Hp) (s : Shared) (e : Value) (s' : Shared), Inv X pins σ H s → CX X.stack H s E e s' → X.xe e s'
section
variable {X : Cx} {CX : CXT} {k : Nat} {f C : Addr} {fd : FuncData} {ps : List Str} {sp : Sp} {dvs : List V} {ds : List Value} {E : XK} {x m : Str} {p pos apos : Pos} {e o : Expr} {es : List Expr} {ta : TE} {t : TA}
/-- the callee runs -/
theorem run_fn {pins : List (Addr × Obj)} {σ : St} {H : Hp} {s : Shared} {Q : VK} {us : List Value} {vs : List V} (F : FnOk X.prog X.w X.K X.mg X.base CX k f fd ps sp) (hr : Room k X.A) (hb : Binds X.K fd ps ds) (hd : Vals dvs ds) (hx : Passes CX X E)
    (I : Inv X pins σ H s) (r : Vals vs us) (h : sp (vs ++ dvs) H Q E) : wpAny (model X.prog X.w) X.A (call (.ref f) us) (EP X pins σ Q) X.xe s := by
  have r2 : Vals (vs ++ dvs) (us ++ ds) := r.append hd
  have hl : (us ++ ds).length = ps.length := by rw [← r2.length]; exact F.len _ _ _ _ h
  refine wpAny_call (codeAny_mono (F.run X.A X.stack s H ⟨us, []⟩ (us ++ ds) (vs ++ dvs) Q E hr I.env0 (hb s us I.kIn hl) r2 h) fun r s' hq => ?_)
  cases r with
  | error e => exact hx pins σ H s e s' I hq
  | ok fl =>
    cases fl with
    | ret u => exact I.after hq
    | next => exact False.elim hq
    | brk => exact False.elim hq
    | cont => exact False.elim hq
theorem pe_call (F : FnOk X.prog X.w X.K X.mg X.base CX k f fd ps sp) (hr : Room k X.A) (hg : Gl X x) (hm : X.mg x = some (.ref f)) (hk : PySem.W.keepIn X.K (.ref f) = true) (hb : Binds X.K fd ps ds) (hd : Vals dvs ds) (hx : Passes CX X E)
    (ha : PA X (e :: es) t) (hdb : (x == ("__debug__" : Str)) = false := by decide) (he : starEach (e :: es) X.env = (false, eval e X.env) :: starEach es X.env := by rfl) (hpl : (backTo pos (starEach es X.env)).any (·.1) = false := by rfl) :
    PE X (.Call (.Name x p) (e :: es) [] pos) (tCall sp dvs E t) := by
  intro pins s σ H Q I h
  refine wpAny_Call_Name_kw (ld_glob I hg hm ?_ hdb)
  refine PySem.W.callWith_K (h₀ := X.base) I.ok.mod.kin hk (thn (ha pos pins s σ H _ I h) fun us s1 ⟨vs, H1, I1, r, q⟩ => ⟨I1.kIn, ?_⟩) he hpl
  exact run_fn F hr hb hd hx I1 r q
/-- o.m(e, ..) -/
theorem pe_meth {pl : Sem Bool} (he : PE X o ta) (c : Cls X.K C) (hm : Meth X.K C m f) (F : FnOk X.prog X.w X.K X.mg X.base CX k f fd ps sp) (hr : Room k X.A) (hb : Binds X.K fd ps ds) (hd : Vals dvs ds) (hx : Passes CX X E) (ha : PA X (e :: es) t)
    (hst : starEach (e :: es) X.env = (false, eval e X.env) :: starEach es X.env := by rfl) (hpl : (backTo pos (starEach es X.env)).any (·.1) = false := by rfl)
    (ht : eval (.Call (.Attribute o m apos) (e :: es) [] pos) X.env = (do
      let ov ← eval o X.env
      standAt apos.atName
      let (f, first) ← holding [ov] (getMethod ov m pl)
      callWith pos f first (backTo pos (starEach (e :: es) X.env)) (backToKw pos (keywordEach [] X.env))) := by rfl) :
    PE X (.Call (.Attribute o m apos) (e :: es) [] pos) (tMeth C m sp dvs E ta t) := by
  intro pins s σ H Q I h
  refine PySem.W.methodCall_KW (pl := pl) (thn (he pins s σ H _ I h) fun u s1 ⟨x, H1, I1, rx, a, dx, fs, ex, ea, l, q⟩ => ?_) ht
  subst ex
  obtain rfl : u = Value.ref a := rx
  refine getmeth_ok I1 ea c hm l ?_
  refine PySem.W.callWith_K (first := [.ref a]) (h₀ := X.base) I.ok.mod.kin hm.kp (thn (ha pos pins s1 σ H1 _ I1 q) fun us s2 ⟨vs, H2, I2, r, q2⟩ => ⟨I2.kIn, ?_⟩) hst hpl
  exact run_fn (us := .ref a :: us) (vs := .ref a :: vs) F hr hb hd hx I2 (.cons rfl r) q2
/-- o.m() -/
theorem pe_meth0 {pl : Sem Bool} (he : PE X o ta) (c : Cls X.K C) (hm : Meth X.K C m f) (F : FnOk X.prog X.w X.K X.mg X.base CX k f fd ps sp) (hr : Room k X.A) (hb : Binds X.K fd ps ds) (hd : Vals dvs ds) (hx : Passes CX X E)
    (ht : eval (.Call (.Attribute o m apos) [] [] pos) X.env = (do
      let ov ← eval o X.env
      standAt apos.atName
      let (f, first) ← holding [ov] (getMethod ov m pl)
      callWith pos f first (backTo pos (starEach [] X.env)) (backToKw pos (keywordEach [] X.env))) := by rfl) :
    PE X (.Call (.Attribute o m apos) [] [] pos) (tMeth C m sp dvs E ta tNil) := by
  intro pins s σ H Q I h
  refine PySem.W.methodCall_KW (pl := pl) (thn (he pins s σ H _ I h) fun u s1 ⟨x, H1, I1, rx, a, dx, fs, ex, ea, l, q⟩ => ?_) ht
  subst ex
  obtain rfl : u = Value.ref a := rx
  refine getmeth_ok I1 ea c hm l ?_
  exact PySem.W.callWith_K0 (first := [.ref a]) I1.kIn hm.kp (run_fn (us := [.ref a]) (vs := [.ref a]) F hr hb hd hx I1 (.cons rfl .nil) q)
/-- what a class must have to be made -/
structure Mk (K : PySem.W.Frag) (C f : Addr) : Prop where
  makes : PySem.W.makesIn K C = true
  init : PySem.W.findIn K (.ref C) "__init__" = some (some (.ref f))
  fn : PySem.W.isFn K (.ref f) = true
  kp : PySem.W.keepIn K (.ref C) = true
theorem run_make {pins : List (Addr × Obj)} {σ : St} {H : Hp} {s : Shared} {Q : VK} {us : List Value} {vs : List V} (M : Mk X.K C f) (F : FnOk X.prog X.w X.K X.mg X.base CX k f fd ps sp) (hr : Room (k + 1) X.A) (hb : Binds X.K fd ps ds) (hd : Vals dvs ds)
    (hx : Passes CX X E) (I : Inv X pins σ H s) (r : Vals vs us)
    (h : ∀ x dx, H x = none → H dx = none → dx ≠ x → sp (.ref x :: (vs ++ dvs)) (upd (upd H dx (.own x)) x (.ins C dx [])) (fun v H2 => v = .non ∧ Q (.ref x) H2) E) :
    wpAny (model X.prog X.w) X.A (call (.ref C) us) (EP X pins σ Q) X.xe s := by
  have hq := h (s.heap.objs.size + 1) s.heap.objs.size (I.hok.fresh (Nat.le_succ _)) (I.hok.fresh (Nat.le_refl _)) (Nat.ne_of_lt (Nat.lt_succ_self _))
  have I2 := Inv.made (C := C) I
  have r2 : Vals (V.ref (s.heap.objs.size + 1) :: (vs ++ dvs)) (Value.ref (s.heap.objs.size + 1) :: (us ++ ds)) := .cons rfl (r.append hd)
  have hl : (Value.ref (s.heap.objs.size + 1) :: us ++ ds).length = ps.length := by
    have e := r2.length
    rw [F.len _ _ _ _ hq] at e
    exact e.symm
  refine wpAny_call (make_map (f := f) I.kIn M.makes M.init (beq_iff_eq.mp M.fn) (codeAny_mono (F.run _ X.stack _ _ ⟨Value.ref (s.heap.objs.size + 1) :: us, []⟩ (Value.ref (s.heap.objs.size + 1) :: (us ++ ds)) _ _ E (hr.make C us [])
    (I2.env0.make C us []) (hb _ (Value.ref (s.heap.objs.size + 1) :: us) I2.kIn hl) r2 hq) fun r s' hq' => ?_))
  cases r with
  | error e => exact hx pins σ _ _ e s' I2 hq'
  | ok fl =>
    cases fl with
    | ret u =>
      obtain ⟨v, H', I3, rv, ev, q3⟩ := I2.after hq'
      subst ev
      exact ⟨rv, ⟨V.ref (s.heap.objs.size + 1), H', I3, rfl, q3⟩⟩
    | next => exact False.elim hq'
    | brk => exact False.elim hq'
    | cont => exact False.elim hq'
theorem pe_make (M : Mk X.K C f) (F : FnOk X.prog X.w X.K X.mg X.base CX k f fd ps sp) (hr : Room (k + 1) X.A) (hg : Gl X x) (hm : X.mg x = some (.ref C)) (hb : Binds X.K fd ps ds) (hd : Vals dvs ds) (hx : Passes CX X E)
    (ha : PA X (e :: es) t) (hdb : (x == ("__debug__" : Str)) = false := by decide) (he : starEach (e :: es) X.env = (false, eval e X.env) :: starEach es X.env := by rfl) (hpl : (backTo pos (starEach es X.env)).any (·.1) = false := by rfl) :
    PE X (.Call (.Name x p) (e :: es) [] pos) (tMake C sp dvs E t) := by
  intro pins s σ H Q I h
  refine wpAny_Call_Name_kw (ld_glob I hg hm ?_ hdb)
  refine PySem.W.callWith_K (h₀ := X.base) I.ok.mod.kin M.kp (thn (ha pos pins s σ H _ I h) fun us s1 ⟨vs, H1, I1, r, q⟩ => ⟨I1.kIn, ?_⟩) he hpl
  exact run_make M F hr hb hd hx I1 r q
theorem pe_make0 (M : Mk X.K C f) (F : FnOk X.prog X.w X.K X.mg X.base CX k f fd ps sp) (hr : Room (k + 1) X.A) (hg : Gl X x) (hm : X.mg x = some (.ref C)) (hb : Binds X.K fd ps ds) (hd : Vals dvs ds) (hx : Passes CX X E)
    (hdb : (x == ("__debug__" : Str)) = false := by decide) : PE X (.Call (.Name x p) [] [] pos) (tMake C sp dvs E tNil) := by
  intro pins s σ H Q I h
  refine wpAny_Call_Name_kw (ld_glob I hg hm ?_ hdb)
  exact PySem.W.callWith_K0 I.kIn M.kp (run_make (us := []) M F hr hb hd hx I .nil h)
end
section
variable {X : Cx} {CX : CXT} {k : Nat} {f C : Addr} {fd : FuncData} {ps ks : List Str} {sp : Sp} {E : XK} {x m : Str} {p pos apos kpos : Pos} {e o : Expr} {es : List Expr} {kws : List Keyword} {te ta : TE} {t tk : TA} {nm : Option Str}
variable {g : List Value → List Value → List Value} {gV : List V → List V → List V}
end
/-- names: the parameters first -/
structure FnScope (N P : List Str) (sc : Scope) : Prop where
  kind : sc.kind = .function
  co : sc.isCoroutine = false
  gen : sc.isGenerator = false
  nd : N.Nodup
  pre : N.take P.length = P
  par : ∀ x ∈ P, sc.names.lookup x = some .local ∨ sc.names.lookup x = some .cell
  nofree : ∀ y ∈ sc.names, y.2 ≠ .free
theorem bindL_out {kindOf : Str → Option NameKind} {x : Str} : ∀ {binds : List (Str × Value)} {m : Str → Option Value}, (∀ v, (x, v) ∉ binds) → bindL kindOf binds m x = m x
  | [], _, _ => rfl
  | (n, v) :: r, m, h => by
    unfold bindL
    rw [bindL_out fun w hw => h w (List.mem_cons_of_mem _ hw)]
    split
    · have : x ≠ n := by rintro rfl; exact h v List.mem_cons_self
      simp [this]
    · rfl
theorem bindC_out {kindOf : Str → Option NameKind} {x : Str} : ∀ {binds : List (Str × Value)} {m : Str → Option Value}, (∀ v, (x, v) ∉ binds) → bindC kindOf binds m x = m x
  | [], _, _ => rfl
  | (n, v) :: r, m, h => by
    unfold bindC
    rw [bindC_out fun w hw => h w (List.mem_cons_of_mem _ hw)]
    split
    · rfl
    · have : x ≠ n := by rintro rfl; exact h v List.mem_cons_self
      simp [this]
theorem bindL_get {kindOf : Str → Option NameKind} {x : Str} {v : Value} : ∀ {P : List Str} {vs : List Value} {i : Nat} {m : Str → Option Value}, P.Nodup → P[i]? = some x → vs[i]? = some v → kindOf x = some .local →
    bindL kindOf (P.zip vs) m x = some v
  | [], _, _, _, _, h, _, _ => by simp at h
  | _ :: _, [], _, _, _, _, h, _ => by simp at h
  | p :: P, w :: vs, 0, m, nd, h1, h2, hk => by
    simp at h1 h2; subst h1; subst h2
    show bindL kindOf ((p, w) :: P.zip vs) m p = _
    unfold bindL
    rw [bindL_out fun v hv => (List.nodup_cons.mp nd).1 (List.of_mem_zip hv).1, if_pos hk]
    simp
  | p :: P, w :: vs, i + 1, m, nd, h1, h2, hk => by
    show bindL kindOf ((p, w) :: P.zip vs) m x = _
    unfold bindL
    exact bindL_get (i := i) (List.nodup_cons.mp nd).2 (by simpa using h1) (by simpa using h2) hk
theorem bindC_get {kindOf : Str → Option NameKind} {x : Str} {v : Value} : ∀ {P : List Str} {vs : List Value} {i : Nat} {m : Str → Option Value}, P.Nodup → P[i]? = some x → vs[i]? = some v → kindOf x ≠ some .local →
    bindC kindOf (P.zip vs) m x = some v
  | [], _, _, _, _, h, _, _ => by simp at h
  | _ :: _, [], _, _, _, _, h, _ => by simp at h
  | p :: P, w :: vs, 0, m, nd, h1, h2, hk => by
    simp at h1 h2; subst h1; subst h2
    show bindC kindOf ((p, w) :: P.zip vs) m p = _
    unfold bindC
    rw [bindC_out fun v hv => (List.nodup_cons.mp nd).1 (List.of_mem_zip hv).1, if_neg hk]
    simp
  | p :: P, w :: vs, i + 1, m, nd, h1, h2, hk => by
    show bindC kindOf ((p, w) :: P.zip vs) m x = _
    unfold bindC
    exact bindC_get (i := i) (List.nodup_cons.mp nd).2 (by simpa using h1) (by simpa using h2) hk
/-- the names' values at the entry -/
def start (N : List Str) (vs : List V) : St := vs.map some ++ List.replicate (N.length - vs.length) none
/-- the context of a def's body, at its entry; an exception leaves the frame, then lies as CX says -/
def cxOf (CX : CXT) (P : Program) (w : World) (K : PySem.W.Frag) (mg : Str → Option Value) (base : Heap) (N : List Str) (qual : Str) (scope : Scope) (f : Addr) (cd : Value) (A : Around) (outer : List Env) (s : Shared) (H : Hp) (E : XK) : Cx where
  prog := P
  w := w
  K := K
  mg := mg
  base := base
  A := A.deeper (envOfC qual scope s.heap.objs.size f cd)
  N := N
  s_0 := s
  H_0 := H
  env := envOfC qual scope s.heap.objs.size f cd
  outer := outer
  stack := envOfC qual scope s.heap.objs.size f cd :: outer
  ex := []
  calm := true
  fn := fun _ => true
  pn := []
  xe := fun e s' => wpAny (model P w) (A.deeper (envOfC qual scope s.heap.objs.size f cd)) (leaving (envOfC qual scope s.heap.objs.size f cd) e) (fun _ s'' => CX outer H s E e s'') (fun e' s'' => CX outer H s E e' s'') s'
theorem cell_has {sc : Scope} {n : Nat} {x : Str} (h : sc.names.lookup x = some .cell) : ∃ c, (cellsFrom n sc.names []).lookup x = some c := by
  have q := PySem.W.cellsFrom_some sc.names n [] (.inl h)
  exact Option.isSome_iff_exists.mp q
theorem inv_start {CX : CXT} {P : Program} {w : World} {K : PySem.W.Frag} {mg : Str → Option Value} {base : Heap} {N ps : List Str} {qual : Str} {scope : Scope} {f : Addr} {cd : Value} {A : Around} {outer : List Env} {s s1 : Shared} {H : Hp} {E : XK} {us : List Value} {vs : List V}
    (S : FnScope N ps scope) (hd : A.handled = none) (e0 : Env0 P w K mg base A outer s H) (hl : vs.length = ps.length) (r : Vals vs us)
    (x : InCallC s s.heap.objs.size (bindL (envOfC qual scope s.heap.objs.size f cd).kindOf (ps.zip us) fun _ => none) (cellsFrom (s.heap.objs.size + 1) scope.names []) (bindC (envOfC qual scope s.heap.objs.size f cd).kindOf (ps.zip us) fun _ => none) s1) :
    Inv (cxOf CX P w K mg base N qual scope f cd A outer s H E) [] (start N vs) H s1 := by
  have hpl : ps.length ≤ N.length := by have := congrArg List.length S.pre; rw [List.length_take] at this; omega
  obtain ⟨h1, tk, rfl, hk⟩ := x.done
  have noA : ∀ b : Addr, b ∉ (cxOf CX P w K mg base N qual scope f cd A outer s H E).ex := fun b z => absurd (show b ∈ ([] : List Addr) from z) (by simp)
  refine ⟨⟨e0.mod, S.kind, rfl, rfl, Nat.le_refl _, fun y z c h1 h2 => ?_, fun y hy => ?_, fun y c _ h => ?_, fun _ => hd, Around.frames_deeper e0.frames, .inr ⟨rfl, rfl⟩, fun b z => absurd z (noA b), e0.bs, e0.bsz, fun b _ _ => noA b, fun b z => absurd z (noA b), e0.funs, e0.frf⟩,
    rfl, e0.bare, Un.kept hk, ⟨_, x.toInCall.ns, fun i y v h1 h2 h3 => ?_⟩, fun y c h => ⟨_, x.cell y c h⟩, e0.hok.fresh (Nat.le_refl _), fun y c h => ?_, fun p hp => absurd (show p ∈ ([] : List (Addr × Obj)) from hp) (by simp), e0.hok.kept hk, ?_⟩
  · exact name_of_addr x.apart (PySem.mem_of_lookup h1) (PySem.mem_of_lookup h2)
  · have hy : scope.names.lookup y = some .cell ∨ scope.names.lookup y = some .free := hy
    rcases hy with hy | hy
    · exact cell_has hy
    · exact absurd rfl (S.nofree _ (PySem.mem_of_lookup hy))
  · exact Nat.le_of_lt (x.above y c (PySem.mem_of_lookup h))
  · have hi : i < vs.length := by
      unfold start at h2
      by_cases hi : i < vs.length
      · exact hi
      · rw [List.getElem?_append_right (by simpa using hi)] at h2
        rw [List.getElem?_replicate] at h2
        split at h2 <;> cases h2
    have ha : vs[i]? = some v := by
      unfold start at h2
      rw [List.getElem?_append_left (by simpa using hi), List.getElem?_map] at h2
      cases e : vs[i]? with
      | none => rw [e] at h2; cases h2
      | some a => rw [e] at h2; cases h2; rfl
    obtain ⟨u, hu, rv⟩ := r.get ha
    have hp : ps[i]? = some y := by
      rw [← S.pre, List.getElem?_take_of_lt (by omega)]; exact h1
    have ndP : ps.Nodup := by rw [← S.pre]; exact S.nd.sublist (List.take_sublist _ _)
    refine ⟨u, rv, ?_⟩
    rcases S.par y (List.mem_of_getElem? hp) with k | k
    · exact .inl ⟨k, bindL_get ndP hp hu k⟩
    · obtain ⟨c, e⟩ := cell_has (n := s.heap.objs.size + 1) k
      refine .inr ⟨.inl k, c, e, ?_⟩
      have q := x.cell y c e
      rw [bindC_get ndP hp hu (by show scope.names.lookup y ≠ _; rw [k]; decide)] at q
      exact q
  · exact e0.hok.fresh (Nat.le_of_lt (x.above y c (PySem.mem_of_lookup h)))
  · unfold start
    show _ = N.length
    rw [List.length_append, List.length_map, List.length_replicate]
    omega
/-- THE RULE: a def (or a method) of the text, by its body. The body's reading t is chosen for each entry; it is run at the parameters' values -/
theorem fn_of {CX : CXT} {P : Program} {w : World} {K : PySem.W.Frag} {mg : Str → Option Value} {base : Heap} {k : Nat} {f : Addr} {name qual : Str} {params : Arguments} {body : List Stmt} {scope : Scope} {dV kV doc pm cdv ct oc : Value} {an od : Option Addr}
    {osl : Array (Option Value)} {N ps : List Str} {sp : Sp} (lk : K.lookup f = some ⟨oc, od, .func (PySem.W.fnOf name qual params body scope dV kV doc pm an cdv ct), osl⟩) (hcd : PySem.W.codeIn K cdv qual = true) (S : FnScope N ps scope)
    (len : ∀ vs H Q E, sp vs H Q E → vs.length = ps.length)
    (hbody : ∀ (A : Around) (outer : List Env) (s : Shared) (H : Hp) (vs : List V) (Q : VK) (E : XK), Room k (A.deeper (envOfC qual scope s.heap.objs.size f cdv)) → sp vs H Q E →
      ∃ t, PSs (cxOf CX P w K mg base N qual scope f cdv A outer s H E) body t ∧ t { nx := fun _ H' => Q .non H', rt := Q } (start N vs) H) :
    FnOk P w K mg base CX (k + 1) f (PySem.W.fnOf name qual params body scope dV kV doc pm an cdv ct) ps sp := by
  refine ⟨len, fun A outer s H args us vs Q E hr e0 hb r hsp => ?_⟩
  have hl := len _ _ _ _ hsp
  have KX : K.In s.heap := e0.mod.kin.keeps fun b o e => (e0.bs b o e).1
  have lim : s.heap.NoLimit := e0.mod.nolimit.keeps fun b o e => (e0.bs b o e).1
  have hkind : ∀ y ∈ ps.zip us, scope.names.lookup y.1 = some .local ∨ (scope.names.lookup y.1 = some .cell ∧ ((cellsFrom (s.heap.objs.size + 1) scope.names []).lookup y.1).isSome = true) := fun ⟨n, v⟩ hy => by
    rcases S.par n (List.of_mem_zip hy).1 with q | q
    · exact .inl q
    · exact .inr ⟨q, PySem.W.cellsFrom_some _ _ _ (.inl q)⟩
  refine codeAny_call_function hr.depth (KX _ _ lk) rfl S.co S.gen rfl (PySem.W.codeRec_of KX hcd) (hb _ _ _ _ ?_)
  refine wpAny_newFunctionEnv_cells S.kind hkind fun env he s1 x => ?_
  subst he
  refine ⟨lim.keeps x.toInCall.keep, codeAny_func ?_⟩
  obtain ⟨t, ht, hq⟩ := hbody A outer s H vs Q E (hr.deeper _) hsp
  have I : Inv (cxOf CX P w K mg base N qual scope f cdv A outer s H E) [] (start N vs) H s1 := inv_start S hr.hd e0 hl r x
  refine wpAny_mono (ht [] s1 (start N vs) H _ I hq) (fun fl s' hs => ?_) fun e s' hs => hs
  have fin : ∀ {σ' : St} {H' : Hp} {v : V} {u : Value}, Inv (cxOf CX P w K mg base N qual scope f cdv A outer s H E) [] σ' H' s' → RelV v u → Q v H' → CE outer P w H s Q u s' :=
    fun {σ' H' v u} J rv q => ⟨v, H', J.os, J.bare, J.base, J.hok, rv, q⟩
  cases fl with
  | ret u =>
    obtain ⟨v, σ', H', J, rv, q⟩ := hs
    exact fin J rv q
  | next =>
    obtain ⟨σ', H', J, q⟩ := hs
    exact fin (v := V.non) (u := Value.none) J rfl q
  | brk =>
    obtain ⟨_, _, _, q⟩ := hs
    exact False.elim q
  | cont =>
    obtain ⟨_, _, _, q⟩ := hs
    exact False.elim q
end L2
namespace L2
open PySem PySem.Spec PyProof.Rows
section
variable {X : Cx} {x : Str} {p pos : Pos} {e : Expr} {es : List Expr} {t : TA} {id T : String} {r : List V → Hp → VK → Prop}
def tCB (r : List V → Hp → VK → Prop) (t : TA) : TE := fun σ H Q => t σ H fun vs H1 => r vs H1 Q
/-- f(e, ..), f a built-in function -/
theorem pe_callB (hc : CallR X (.builtin id) r) (hg : Gl X x) (hm : X.mg x = none) (hv : bootBuiltins x = some (.builtin id)) (ha : PA X (e :: es) t) (hn : x ≠ "__name__" := by decide) (hdb : (x == ("__debug__" : Str)) = false := by decide)
    (he : starEach (e :: es) X.env = (false, eval e X.env) :: starEach es X.env := by rfl) (hpl : (backTo pos (starEach es X.env)).any (·.1) = false := by rfl) : PE X (.Call (.Name x p) (e :: es) [] pos) (tCB r t) := by
  intro pins s σ H Q I h
  refine wpAny_Call_Name_kw (ld_blt I hg hm hv ?_ hn hdb)
  exact PyProof.Rows.callWith_builtin1 (thn (ha pos pins s σ H _ I h) fun us s1 ⟨vs, H1, I1, r1, q1⟩ => hc pins s1 σ H1 vs us Q I1 r1 q1) he hpl
/-- T(e, ..), T a built-in type -/
theorem pe_callTy (hc : CallR X (.type T) r) (hg : Gl X x) (hm : X.mg x = none) (hv : bootBuiltins x = some (.type T)) (ha : PA X (e :: es) t) (hn : x ≠ "__name__" := by decide) (hdb : (x == ("__debug__" : Str)) = false := by decide)
    (he : starEach (e :: es) X.env = (false, eval e X.env) :: starEach es X.env := by rfl) (hpl : (backTo pos (starEach es X.env)).any (·.1) = false := by rfl) : PE X (.Call (.Name x p) (e :: es) [] pos) (tCB r t) := by
  intro pins s σ H Q I h
  refine wpAny_Call_Name_kw (ld_blt I hg hm hv ?_ hn hdb)
  exact PyProof.Rows.callWith_type1 (thn (ha pos pins s σ H _ I h) fun us s1 ⟨vs, H1, I1, r1, q1⟩ => hc pins s1 σ H1 vs us Q I1 r1 q1) he hpl
end
end L2
namespace HT
open PySem PyProof.Rows
section
open PySem.SeqAt
open PySem.AutoSeq1 (wpAny_loadPart')
open PySem.MeetsSeq PySem.MeetsSeq2 PySem.MeetsSeq3
end
section
variable {prog : Program} {w : World} {A : Around} {E : Value → Shared → Prop} {s : Shared}
/-- a slice's bound as a place among n (d where it is left out) -/
def sIx (n d : Nat) : Option Int → Nat
  | none => d
  | some v => if v < 0 then (v + (n : Int)).toNat else min v.toNat n
theorem sIx_none (n d : Nat) : sIx n d none = d := rfl
theorem sIx_nat (n d k : Nat) : sIx n d (some (k : Int)) = min k n := by
  show (if (k : Int) < 0 then ((k : Int) + (n : Int)).toNat else min (k : Int).toNat n) = min k n
  rw [if_neg (by omega), Int.toNat_natCast]
end
end HT
namespace L2
open PySem PySem.Spec PyProof.Rows
abbrev TO := St → Hp → (Option Int → Hp → Prop) → Prop
/-- a slice's part (left out, or an int) -/
def PO (X : Cx) (e : Option Expr) (t : TO) : Prop :=
  ∀ (pins : List (Addr × Obj)) (s : Shared) (σ : St) (H : Hp) (Q : Option Int → Hp → Prop), Inv X pins σ H s → t σ H Q →
    wpAny (model X.prog X.w) X.A (evalPart e X.env) (fun u s' => ∃ o H', Inv X pins σ H' s' ∧ IsPart u o ∧ Q o H') X.xe s
def tNoPart : TO := fun _ H Q => Q none H
def tPart (t : TE) : TO := fun σ H Q => t σ H fun x H1 => ∃ i, x = .int i ∧ Q (some i) H1
section
variable {X : Cx} {e : Expr} {te : TE} {lo hi : Option Expr} {tl th : TO} {pos p2 : Pos}
theorem po_none : PO X none tNoPart := by
  intro pins s σ H Q I h
  rw [evalPart_none]
  exact wpAny_pure ⟨none, H, I, .none, h⟩
theorem po_some (h : PE X e te) : PO X (some e) (tPart te) := by
  intro pins s σ H Q I hw
  rw [evalPart_some]
  refine thn (h pins s σ H _ I hw) fun u s1 ⟨x, H1, I1, r1, q1⟩ => ?_
  obtain ⟨i, rfl, q⟩ := q1
  obtain ⟨t, rfl⟩ := r1
  exact ⟨some i, H1, I1, .int i t, q⟩
/-- what a slice of a value is, by values: the slice object stands at sl -/
def SlR (X : Cx) (r : V → Option Int → Option Int → Hp → VK → Prop) : Prop :=
  ∀ (pins : List (Addr × Obj)) (s : Shared) (σ : St) (H : Hp) (x : V) (v vl vu : Value) (lo hi : Option Int) (sl : Addr) (Q : VK), Inv X pins σ H s → RelV x v → s.heap.IsSliceOf sl vl vu .none → IsPart vl lo → IsPart vu hi → r x lo hi H Q →
    ∃ T id, typeLookup (.type T) "__getitem__" = pure (some (.builtin id)) ∧ s.TypeIs v T ∧ wpAny (model X.prog X.w) X.A (getItem v (.ref sl)) (EP X pins σ Q) X.xe s
def tSl (r : V → Option Int → Option Int → Hp → VK → Prop) (te : TE) (tl th : TO) : TE := fun σ H Q => te σ H fun x H1 => tl σ H1 fun l H2 => th σ H2 fun u H3 => r x l u H3 Q
/-- a[lo:hi], any a -/
theorem pe_slice {r : V → Option Int → Option Int → Hp → VK → Prop} (hr : SlR X r) (he : PE X e te) (hl : PO X lo tl) (hu : PO X hi th) : PE X (.Subscript e (.Slice lo hi none p2) pos) (tSl r te tl th) := by
  intro pins s σ H Q I h
  refine Subscript_ (thn (he pins s σ H _ I h) fun v s1 ⟨x, H1, I1, r1, q1⟩ => ?_)
  refine wpAny_Slice (thn (hl pins s1 σ H1 _ I1 q1) fun vl s2 ⟨l, H2, I2, pl, q2⟩ => thn (hu pins s2 σ H2 _ I2 q2) fun vu s3 ⟨u, H3, I3, pu, q3⟩ => ?_)
  rw [evalPart_none]
  refine wpAny_pure ?_
  have I4 : Inv X pins σ H3 { s3 with heap := s3.heap.push { cls := .type "slice", data := .fields #[vl, vu, .none] } } := I3.kept (t' := s3.toks) fun b ob q => Heap.get?_push_of_some _ q
  obtain ⟨T, id, hT, ht, hg⟩ := hr pins { s3 with heap := s3.heap.push { cls := .type "slice", data := .fields #[vl, vu, .none] } } σ H3 x v vl vu l u s3.heap.objs.size Q I4 r1 (Heap.IsSliceOf.new ..) pl pu q3
  show wpAny (model X.prog X.w) X.A (subscriptTail e (.Slice lo hi none p2) v (.ref s3.heap.objs.size)) (EP X pins σ Q) X.xe { s3 with heap := s3.heap.push { cls := .type "slice", data := .fields #[vl, vu, .none] } }
  exact tail_any (ops := [.ref s3.heap.objs.size, v]) ht hT hg (by with_unfolding_all rfl)
/-- the items of xs[lo:hi] -/
def cutV (xs : List V) (lo hi : Option Int) : List V := (xs.drop (HT.sIx xs.length 0 lo)).take (HT.sIx xs.length xs.length hi - HT.sIx xs.length 0 lo)
theorem cutV_length (xs : List V) (lo hi : Option Int) : (cutV xs lo hi).length ≤ xs.length := by
  unfold cutV
  rw [List.length_take, List.length_drop]
  omega
end
end L2
namespace L2
open PySem PySem.Spec PyProof.Rows
/-- the place that an index of any sign means -/
def ixN (n : Nat) (i : Int) : Option Nat := if 0 ≤ i then (if i < n then some i.toNat else none) else if -(n : Int) ≤ i then some (i + n).toNat else none
def atI {α : Type} (xs : List α) (i : Int) : Option α := (ixN xs.length i).bind fun j => xs[j]?
theorem ixN_seq {n : Nat} {i : Int} {j : Nat} (h : ixN n i = some j) : seqIndex? i n = some j ∧ j < n ∧ -(n : Int) ≤ i ∧ i < n := by
  unfold ixN at h
  by_cases h0 : 0 ≤ i
  · rw [if_pos h0] at h
    by_cases h1 : i < n
    · rw [if_pos h1] at h
      have e : i.toNat = j := Option.some.inj h
      exact ⟨by rw [seqIndex_of h0 h1, e], by omega, by omega, h1⟩
    · rw [if_neg h1] at h; cases h
  · rw [if_neg h0] at h
    by_cases h1 : -(n : Int) ≤ i
    · rw [if_pos h1] at h
      have e : (i + n).toNat = j := Option.some.inj h
      exact ⟨by rw [seqIndex_neg (by omega) h1, e], by omega, h1, by omega⟩
    · rw [if_neg h1] at h; cases h
theorem atI_get {α : Type} {xs : List α} {i : Int} {v : α} (h : atI xs i = some v) : ∃ j, seqIndex? i xs.length = some j ∧ xs[j]? = some v ∧ j < xs.length ∧ -(xs.length : Int) ≤ i ∧ i < xs.length := by
  unfold atI at h
  cases e : ixN xs.length i with
  | none => rw [e] at h; cases h
  | some j =>
    rw [e] at h
    obtain ⟨h1, h2, h3, h4⟩ := ixN_seq e
    exact ⟨j, h1, h, h2, h3, h4⟩
theorem atI_nat {α : Type} {xs : List α} {j : Nat} {v : α} (h : xs[j]? = some v) : atI xs (j : Int) = some v := by
  have hj : j < xs.length := (List.getElem?_eq_some_iff.mp h).1
  have e : ixN xs.length (j : Int) = some j := by
    unfold ixN
    rw [if_pos (by omega), if_pos (by omega)]; simp
  unfold atI; rw [e]; exact h
theorem atI_last {α : Type} (xs : List α) (v : α) : atI (xs ++ [v]) (-1) = some v := by
  have hl : (xs ++ [v]).length = xs.length + 1 := by simp
  have e : ixN (xs ++ [v]).length (-1) = some xs.length := by
    unfold ixN
    rw [hl, if_neg (by decide), if_pos (by omega)]
    congr 1
    omega
  unfold atI
  rw [e]
  show (xs ++ [v])[xs.length]? = some v
  simp
/-- what stands as an index of a plain subscript -/
def PlainIx (b : Expr) : Prop := ∀ o i, subscripted b false o i = operate [o, i] (getItem o i)
/-- a subscript by values -/
def IxR (X : Cx) (r : R2) : Prop :=
  ∀ (value slice : Expr) (pins : List (Addr × Obj)) (s : Shared) (σ : St) (H : Hp) (x y : V) (v u : Value) (Q : VK), Inv X pins σ H s → RelV x v → RelV y u → r x y H Q →
    subscripted slice false v u = operate [v, u] (getItem v u) → wpAny (model X.prog X.w) X.A (subscriptTail value slice v u) (EP X pins σ Q) X.xe s
/-- a call of a builtin's method by values: the receiver, the arguments -/
def MtR (X : Cx) (id : String) (r : V → List V → Hp → VK → Prop) : Prop :=
  ∀ (pins : List (Addr × Obj)) (s : Shared) (σ : St) (H : Hp) (x : V) (xs : List V) (v : Value) (us : List Value) (Q : VK), Inv X pins σ H s → RelV x v → Vals xs us → r x xs H Q →
    wpAny (model X.prog X.w) X.A (call (.builtin id) (v :: us)) (EP X pins σ Q) X.xe s
section
variable {X : Cx} {a b : Expr} {ta tb : TE} {pos : Pos}
/-- a[b] -/
theorem pe_ix {r : R2} (hr : IxR X r) (ha : PE X a ta) (hb : PE X b tb) (hs : PlainIx b) : PE X (.Subscript a b pos) (tOp r ta tb) := by
  intro pins s σ H Q I h
  exact Subscript_ (binT ha hb I h fun v u s2 x y H2 I2 rx ry q => hr a b pins s2 σ H2 x y v u Q I2 rx ry q (hs _ _))
def rIxL (K : PySem.W.Frag) : R2 := fun x y H Q => ∃ p xs i v, x = .ref p ∧ y = .int i ∧ SqL K H p xs ∧ atI xs i = some v ∧ Q v H
def rIxT (K : PySem.W.Frag) : R2 := fun x y H Q => ∃ p xs i v, x = .ref p ∧ y = .int i ∧ SqT K H p xs ∧ atI xs i = some v ∧ Q v H
theorem ix_list : IxR X (rIxL X.K) := by
  intro value slice pins s σ H x y v u Q I rx ry h hs
  obtain ⟨p, xs, i, z, rfl, rfl, hq, he, q⟩ := h
  cases rx
  obtain ⟨t, rfl⟩ := ry
  obtain ⟨its, r, pl, hz⟩ := I.list hq
  obtain ⟨j, h1, h2, h3, h4, h5⟩ := atI_get he
  obtain ⟨w, ew, rw'⟩ := r.get h2
  have hl := r.length
  have hn := line63
  have fin : EP X pins σ Q w s := ⟨z, H, I, rw', q⟩
  by_cases h0 : 0 ≤ i
  · have hj : i.toNat = j := by
      rw [seqIndex_of h0 h5] at h1
      exact Option.some.inj h1
    exact item_listR pl.isList h0 (by omega) (by rw [hj]; simpa using ew) fin hs
  · have hj : (i + (its.toArray.size : Int)).toNat = j := by
      rw [seqIndex_neg (by omega) h4] at h1
      rw [List.size_toArray, ← hl]
      exact Option.some.inj h1
    exact subscriptTail_builtinR (x := w) pl.isList.typeIs slot_list_getitem.lookup
      (wpAny_getItem_list_neg (Q := fun r s' => r = w ∧ EP X pins σ Q r s') pl.isList (by omega) (by rw [List.size_toArray] <;> omega) (by omega) (by rw [hj]; simpa using ew) ⟨rfl, fin⟩) hs
theorem ix_tup : IxR X (rIxT X.K) := by
  intro value slice pins s σ H x y v u Q I rx ry h hs
  obtain ⟨p, xs, i, z, rfl, rfl, hq, he, q⟩ := h
  cases rx
  obtain ⟨t, rfl⟩ := ry
  obtain ⟨its, r, pl, hz⟩ := I.tuple hq
  obtain ⟨j, h1, h2, h3, h4, h5⟩ := atI_get he
  obtain ⟨w, ew, rw'⟩ := r.get h2
  have hl := r.length
  have hn := line63
  have fin : EP X pins σ Q w s := ⟨z, H, I, rw', q⟩
  exact subscriptTail_builtinR (x := w) pl.typeIs slot_tuple_getitem.lookup
    (getItem_tuple (j := j) (Q := fun r s' => r = w ∧ EP X pins σ Q r s') pl (by omega) (by omega) (by rw [List.size_toArray, ← hl]; exact h1) (by simpa using ew) ⟨rfl, fin⟩) hs
/-- the list's object behind a store -/
theorem mapSeq_set (its : List Value) (n j : Nat) (u : Value) : Obj.mapSeq (·.setIfInBounds j u) { cls := .type "list", data := .seq its.toArray n } = { cls := .type "list", data := .seq (its.set j u).toArray n } := by
  simp [Obj.mapSeq]
theorem Inv.lst {pins : List (Addr × Obj)} {σ : St} {H : Hp} {s : Shared} {p : Addr} {xs : List V} (I : Inv X pins σ H s) (h : H p = some (.lst xs)) :
    ∃ (its : List Value) (n : Nat), Vals xs its ∧ s.heap.get? p = some { cls := .type "list", data := .seq its.toArray n } ∧ xs.length ≤ sizeLine := by
  obtain ⟨z, its, n, r, e⟩ := I.hok p _ h
  exact ⟨its, n, r, e, z⟩
/-- the list at p is written by an update of its object -/
theorem Inv.lstUpd {pins : List (Addr × Obj)} {σ : St} {H : Hp} {s : Shared} {p : Addr} {xs ys : List V} {its its' : List Value} {n n' : Nat} {f : Obj → Obj} (I : Inv X pins σ H s) (h : H p = some (.lst xs))
    (ho : s.heap.get? p = some { cls := .type "list", data := .seq its.toArray n }) (hf : f { cls := .type "list", data := .seq its.toArray n } = { cls := .type "list", data := .seq its'.toArray n' }) (r : Vals ys its') (hz : ys.length ≤ sizeLine) (t : Nat) :
    Inv X pins σ (upd H p (.lst ys)) { s with heap := s.heap.update p f, toks := t } := by
  have e : (s.heap.update p f).get? p = some { cls := .type "list", data := .seq its'.toArray n' } := by
    rw [Heap.get?_update_self f ho (by rw [hf] <;> rfl), hf]
  refine I.write (x := p) (e := p) (by rw [h]; trivial) (.inl rfl) (fun b u hb q => (Heap.get?_update_other _ _ (Ne.symm hb)).trans q) ⟨_, e⟩ ?_
  exact ⟨hz, its', n', r, e⟩
def rSetL : V → V → V → Hp → (Hp → Prop) → Prop := fun o i v H Q => ∃ p xs k j, o = .ref p ∧ i = .int k ∧ H p = some (.lst xs) ∧ ixN xs.length k = some j ∧ Q (upd H p (.lst (xs.set j v)))
theorem set_list : PSet X rSetL := by
  intro pins s σ H o i v ov iv u Q I ro ri rv h
  obtain ⟨p, xs, k, j, rfl, rfl, hp, hj, q⟩ := h
  cases ro
  obtain ⟨t, rfl⟩ := ri
  obtain ⟨its, n, r, ho, hz⟩ := I.lst hp
  obtain ⟨h1, h2, h3, h4⟩ := ixN_seq hj
  have hl := r.length
  have hn := line63
  have I' : Inv X pins σ (upd H p (.lst (xs.set j v))) { s with heap := s.heap.update p (Obj.mapSeq (·.setIfInBounds j u)) } :=
    I.lstUpd hp ho (mapSeq_set its n j u) (r.set rv j) (by rw [List.length_set]; exact hz) s.toks
  by_cases h0 : 0 ≤ k
  · have hk : k.toNat = j := by
      rw [seqIndex_of h0 h4] at h1
      exact Option.some.inj h1
    exact PySem.W.ki_setAt ho h0 (by omega) (by rw [List.size_toArray, ← hl]; exact h4) (by rw [hk]; exact ⟨_, I', q⟩)
  · have hk : (k + (its.toArray.size : Int)).toNat = j := by
      rw [seqIndex_neg (by omega) h3] at h1
      rw [List.size_toArray, ← hl]
      exact Option.some.inj h1
    exact PySem.W.ki_setBack ho (by omega) (by rw [List.size_toArray, ← hl]; exact h3) (by omega) (by rw [hk]; exact ⟨_, I', q⟩)
theorem slice_bounds (lo hi : Option Int) (n : Nat) : (sliceBounds lo hi none n).1 = ((HT.sIx n 0 lo : Nat) : Int) ∧ (sliceBounds lo hi none n).2.1 = ((HT.sIx n n hi : Nat) : Int) ∧ (sliceBounds lo hi none n).2.2 = 1 := by
  refine ⟨?_, ?_, rfl⟩
  · cases lo with
    | none => simp [sliceBounds, HT.sIx]
    | some i =>
      simp only [sliceBounds, HT.sIx, Option.getD_none, show (1 : Int) > 0 by decide, if_true]
      by_cases h : i < 0
      · simp only [h, if_true] <;> omega
      · simp only [h, if_false] <;> omega
  · cases hi with
    | none => simp [sliceBounds, HT.sIx]
    | some i =>
      simp only [sliceBounds, HT.sIx, Option.getD_none, show (1 : Int) > 0 by decide, if_true]
      by_cases h : i < 0
      · simp only [h, if_true] <;> omega
      · simp only [h, if_false] <;> omega
theorem slicePick_cut (its : List Value) (lo hi : Option Int) : slicePick its.toArray lo hi none = ((its.drop (HT.sIx its.length 0 lo)).take (HT.sIx its.length its.length hi - HT.sIx its.length 0 lo)).toArray := by
  obtain ⟨h1, h2, h3⟩ := slice_bounds lo hi its.toArray.size
  unfold slicePick
  rw [h1, h2, h3]
  simp only [sliceRange_one, pick_run, List.size_toArray] <;> rfl
/-- xs[lo:hi] of a list: a new list -/
def rSlL (K : PySem.W.Frag) : V → Option Int → Option Int → Hp → VK → Prop := fun x lo hi H Q => ∃ a xs, x = .ref a ∧ SqL K H a xs ∧ ∀ p, H p = none → Q (.ref p) (upd H p (.lst (cutV xs lo hi)))
theorem sl_list : SlR X (rSlL X.K) := by
  intro pins s σ H x v vl vu lo hi sl Q I rx hs pl pu h
  obtain ⟨a, xs, rfl, hx, q⟩ := h
  cases rx
  obtain ⟨its, r, ht, hz⟩ := I.list hx
  have hlen := r.length
  refine ⟨"list", _, slot_list_getitem.lookup, ht.isList.typeIs, ?_⟩
  refine wpAny_getItem_list_slice ht.isList hs pl pu .none (by simp) ?_ (by rw [List.size_toArray] <;> omega)
  rw [slicePick_cut, ← hlen]
  refine ⟨.ref s.heap.objs.size, _, I.laid (t' := s.toks) (o := .lst (cutV xs lo hi)) (fun b ob q => Heap.get?_push_of_some _ q) (Nat.le_refl _) ?_, rfl, q _ (I.hok.fresh (Nat.le_refl _))⟩
  exact ⟨Nat.le_trans (cutV_length xs lo hi) hz, _, 0, (r.drop (HT.sIx xs.length 0 lo)).take (HT.sIx xs.length xs.length hi - HT.sIx xs.length 0 lo), Heap.get?_push_size _ rfl⟩
def flatV : V → Bool
  | .non => true
  | .bl _ => true
  | .int _ => true
  | .str _ => true
  | _ => false
/-- == of flat values -/
def eqV : V → V → Bool
  | .non, .non => true
  | .bl a, .bl b => a == b
  | .bl a, .int b => (if a then 1 else 0) == b
  | .int a, .bl b => a == (if b then 1 else 0)
  | .int a, .int b => a == b
  | .str a, .str b => a == b
  | _, _ => false
theorem eqAt_V {A : Around} {s : Shared} {y x : V} {u v : Value} (ry : RelV y u) (rx : RelV x v) (fy : flatV y = true) (fx : flatV x = true) : SeqAt.EqAt A s u v (eqV y x) := by
  cases y with
  | non =>
    cases ry
    cases x with
    | non => cases rx; exact SeqAt.EqAt.same _
    | bl b => cases rx; exact SeqAt.EqAt.none_bool b
    | int b => obtain ⟨t, rfl⟩ := rx; exact SeqAt.EqAt.none_int b t
    | str b => obtain ⟨t, rfl⟩ := rx; exact SeqAt.EqAt.none_str b t
    | _ => exact absurd (show false = true from fx) Bool.false_ne_true
  | bl a =>
    cases ry
    cases x with
    | non => cases rx; exact SeqAt.EqAt.bool_none a
    | bl b => cases rx; exact SeqAt.EqAt.bool_bool a b
    | int b => obtain ⟨t, rfl⟩ := rx; exact SeqAt.EqAt.bool_int a b t
    | str b => obtain ⟨t, rfl⟩ := rx; exact SeqAt.EqAt.bool_str a b t
    | _ => exact absurd (show false = true from fx) Bool.false_ne_true
  | int a =>
    obtain ⟨t', rfl⟩ := ry
    cases x with
    | non => cases rx; exact SeqAt.EqAt.int_none a t'
    | bl b => cases rx; exact SeqAt.EqAt.int_bool a t' b
    | int b => obtain ⟨t, rfl⟩ := rx; exact SeqAt.EqAt.int_int a t' b t
    | str b => obtain ⟨t, rfl⟩ := rx; exact SeqAt.EqAt.int_str a t' b t
    | _ => exact absurd (show false = true from fx) Bool.false_ne_true
  | str a =>
    obtain ⟨t', rfl⟩ := ry
    cases x with
    | non => cases rx; exact SeqAt.EqAt.str_none a t'
    | bl b => cases rx; exact SeqAt.EqAt.str_bool a t' b
    | int b => obtain ⟨t, rfl⟩ := rx; exact SeqAt.EqAt.str_int a t' b t
    | str b => obtain ⟨t, rfl⟩ := rx; exact SeqAt.EqAt.str_str a t' b t
    | _ => exact absurd (show false = true from fx) Bool.false_ne_true
  | _ => exact absurd (show false = true from fy) Bool.false_ne_true
/-- the items' answers, read off the values (a value's own answer does not lean on its token) -/
def eqU (x : V) (u : Value) : Bool := match u with
  | .none => eqV .non x
  | .bool b => eqV (.bl b) x
  | .int i _ => eqV (.int i) x
  | .str z _ => eqV (.str z) x
  | _ => false
theorem eqU_of {x y : V} {u : Value} (r : RelV y u) (f : flatV y = true) : eqU x u = eqV y x := by
  cases y with
  | non => cases r; rfl
  | bl b => cases r; rfl
  | int i => obtain ⟨t, rfl⟩ := r; rfl
  | str z => obtain ⟨t, rfl⟩ := r; rfl
  | _ => exact absurd (show false = true from f) Bool.false_ne_true
theorem any_eqU {x : V} : ∀ {xs : List V} {us : List Value}, Vals xs us → xs.all flatV = true → us.any (eqU x) = xs.any fun y => eqV y x
  | _, _, .nil, _ => rfl
  | y :: xs, u :: us, .cons r t, f => by
    rw [List.all_cons, Bool.and_eq_true] at f
    rw [List.any_cons, List.any_cons, eqU_of r f.1, any_eqU t f.2]
theorem mem_eqAt {A : Around} {s : Shared} {x : V} {v : Value} (rx : RelV x v) (fx : flatV x = true) : ∀ {xs : List V} {us : List Value}, Vals xs us → xs.all flatV = true → ∀ u ∈ us, SeqAt.EqAt A s u v (eqU x u)
  | _, _, .nil, _ => fun u hu => by cases hu
  | y :: xs, u :: us, .cons r t, f => fun u' hu => by
    rw [List.all_cons, Bool.and_eq_true] at f
    rcases List.mem_cons.mp hu with rfl | hu
    · rw [eqU_of r f.1]; exact eqAt_V r rx f.1 fx
    · exact mem_eqAt rx fx t f.2 u' hu
def inV (x : V) (xs : List V) : Bool := xs.any fun y => eqV y x
/-- x in a list or tuple of flat items -/
def rIn (K : PySem.W.Frag) (neg : Bool) : R2 := fun x y H Q => ∃ p xs, y = .ref p ∧ (SqL K H p xs ∨ SqT K H p xs) ∧ flatV x = true ∧ xs.all flatV = true ∧ Q (.bl (if neg then !inV x xs else inV x xs)) H
theorem op_in_seq : OpR X (compareOp .In) (rIn X.K false) := by
  intro pins s σ H x y v u Q I rx ry h
  obtain ⟨p, xs, rfl, hq, fx, fs, q⟩ := h
  cases ry
  rcases hq with hq | hq
  · obtain ⟨its, r, pl, hz⟩ := I.list hq
    refine SeqAt.in_listAt (eqU x) pl.isList (fun w hw => mem_eqAt rx fx r fs w (by simpa using hw)) ⟨.bl _, H, I, rfl, ?_⟩
    rw [show its.toArray.any (eqU x) = its.any (eqU x) by simp, any_eqU r fs]
    exact q
  · obtain ⟨its, r, pl, hz⟩ := I.tuple hq
    refine SeqAt.in_tupleAt (eqU x) pl (fun w hw => mem_eqAt rx fx r fs w (by simpa using hw)) ⟨.bl _, H, I, rfl, ?_⟩
    rw [show its.toArray.any (eqU x) = its.any (eqU x) by simp, any_eqU r fs]
    exact q
theorem call_len_seq : CallR X (.builtin "len") (fun xs H Q => ∃ p ys, xs = [.ref p] ∧ (SqL X.K H p ys ∨ SqT X.K H p ys) ∧ Q (.int ys.length) H) := by
  intro pins s σ H xs us Q I r h
  obtain ⟨p, ys, rfl, hq, q⟩ := h
  obtain ⟨u, rfl, rx⟩ := vals1 r
  cases rx
  have hn := line63
  rcases hq with hq | hq
  · obtain ⟨its, r', pl, hz⟩ := I.list hq
    have hlen := r'.length
    exact Calls.call_len_list pl.isList (by simp only [List.size_toArray] <;> omega) ⟨.int ys.length, H, I.tok _, ⟨s.toks + 1, by rw [List.size_toArray, hlen]⟩, q⟩
  · obtain ⟨its, r', pl, hz⟩ := I.tuple hq
    have hlen := r'.length
    exact len_tuple pl (by simp only [List.size_toArray] <;> omega) ⟨.int ys.length, H, I.tok _, ⟨s.toks + 1, by rw [List.size_toArray, hlen]⟩, q⟩
theorem call_list_of : CallR X (.type "list") (fun xs H Q => ∃ p ys, xs = [.ref p] ∧ (SqL X.K H p ys ∨ SqT X.K H p ys) ∧ ∀ l, H l = none → Q (.ref l) (upd H l (.lst ys))) := by
  intro pins s σ H xs us Q I r h
  obtain ⟨p, ys, rfl, hq, q⟩ := h
  obtain ⟨u, rfl, rx⟩ := vals1 r
  cases rx
  have fin : ∀ (its : List Value), Vals ys its → ys.length ≤ sizeLine → ∀ (h' : Heap) (c' : Nat), (∀ b o', s.heap.get? b = some o' → h'.get? b = some o') →
      h'.get? s.heap.objs.size = some { cls := .type "list", dict := none, data := .seq its.toArray c', slots := #[] } → EP X pins σ Q (.ref s.heap.objs.size) { s with heap := h' } := fun its r' hz h' c' kp e =>
    ⟨.ref s.heap.objs.size, _, I.laid (t' := s.toks) kp (Nat.le_refl _) (show ObjOk X.prog X.w _ h' _ (.lst ys) from ⟨hz, its, c', r', e⟩), rfl, q _ (I.hok.fresh (Nat.le_refl _))⟩
  rcases hq with hq | hq
  · obtain ⟨its, r', pl, hz⟩ := I.list hq
    have hlen := r'.length
    obtain ⟨o, ho, hc, n, hd⟩ := pl.isList
    exact call_list_seq p (.inl rfl) ho hc hd (fun h' c' kp e => fin its r' hz h' c' kp e) (by simp only [List.size_toArray] <;> omega)
  · obtain ⟨its, r', pl, hz⟩ := I.tuple hq
    have hlen := r'.length
    obtain ⟨o, ho, hc, n, hd⟩ := pl
    exact call_list_seq p (.inr rfl) ho hc hd (fun h' c' kp e => fin its r' hz h' c' kp e) (by simp only [List.size_toArray] <;> omega)
/-- the value is of that builtin type -/
def tyV (K : PySem.W.Frag) (T : String) (x : V) (H : Hp) : Prop := match x with
  | .str _ => T = "str"
  | .int _ => T = "int"
  | .ref p => (T = "list" ∧ ∃ xs, SqL K H p xs) ∨ (T = "tuple" ∧ ∃ o, K.lookup p = some o ∧ o.cls = .type "tuple" ∧ o.dict = none) ∨
      (T = "dict" ∧ ((∃ kvs, H p = some (.dK kvs)) ∨ ∃ kvs, H p = some (.dT kvs))) ∨ (T = "set" ∧ ∃ S n, H p = some (.set S n))
  | _ => False
theorem tyV_is {pins : List (Addr × Obj)} {σ : St} {H : Hp} {s : Shared} {T : String} {x : V} {v : Value} (I : Inv X pins σ H s) (r : RelV x v) (ty : tyV X.K T x H) :
    s.TypeIs v T ∧ ∀ a, v = .ref a → ∃ ob, s.heap.get? a = some ob ∧ ob.dict = none := by
  cases x with
  | str z =>
    obtain ⟨t, rfl⟩ := r
    cases (show T = "str" from ty)
    exact ⟨typeIs_str s z t, fun _ e => nomatch e⟩
  | int i =>
    obtain ⟨t, rfl⟩ := r
    cases (show T = "int" from ty)
    exact ⟨typeIs_int s i t, fun _ e => nomatch e⟩
  | ref p =>
    cases r
    rcases ty with ⟨rfl, xs, hq⟩ | ⟨rfl, o, hk, hc, hd⟩ | ⟨rfl, hk⟩ | ⟨rfl, S, n, hk⟩
    · obtain ⟨its, _, pl, _⟩ := I.list hq
      refine ⟨pl.isList.typeIs, fun a e => ?_⟩
      cases e
      obtain ⟨o, n, e, c, hd, _⟩ := pl
      exact ⟨o, e, hd⟩
    · refine ⟨⟨o, I.kIn p o hk, hc⟩, fun a e => ?_⟩
      cases e
      exact ⟨o, I.kIn _ o hk, hd⟩
    · have z : ∃ o, s.heap.get? p = some o ∧ o.ExactDict := by
        rcases hk with ⟨kvs, hk⟩ | ⟨kvs, hk⟩
        · obtain ⟨_, _, _, _, o, _, _, e, ex, _⟩ := I.hok p _ hk
          exact ⟨o, e, ex⟩
        · obtain ⟨_, _, _, _, o, _, _, e, ex, _⟩ := I.hok p _ hk
          exact ⟨o, e, ex⟩
      obtain ⟨o, e, ex⟩ := z
      refine ⟨⟨o, e, ex.1⟩, fun a e2 => ?_⟩
      cases e2
      exact ⟨o, e, ex.2.1⟩
    · obtain ⟨o, _, _, _, e, ex, _⟩ := I.hok p _ hk
      refine ⟨⟨o, e, ex.1⟩, fun a e2 => ?_⟩
      cases e2
      exact ⟨o, e, ex.2.1⟩
  | _ => exact False.elim ty
def tBM (K : PySem.W.Frag) (T : String) (r : V → List V → Hp → VK → Prop) (to : TE) (t : TA) : TE := fun σ H Q => to σ H fun x H1 => tyV K T x H1 ∧ t σ H1 fun xs H2 => r x xs H2 Q
variable {o e : Expr} {es : List Expr} {to : TE} {t : TA} {name : Str} {apos cpos : Pos} {T id : String} {r : V → List V → Hp → VK → Prop}
theorem pe_bm (pa : PlainAttrs T) (slot : Slot T name id) (hty : typeOf (.builtin id) = pure (.type "method_descriptor")) (hm : MtR X id r) (ho : PE X o to) (ha : PA X (e :: es) t)
    (hbase : attributeBase o name X.env (eval o X.env) = eval o X.env := by rfl)
    (hfew : ((backTo cpos (starEach (e :: es) X.env)).all (fun x => !x.1) && (backToKw cpos (keywordEach [] X.env)).all (fun x => x.1.isSome)
      && decide ((e :: es).length + ([] : List Keyword).length + (if ([] : List Keyword).isEmpty then 0 else 1) < 30)) = true := by rfl)
    (hline : (apos.endLine == cpos.line) = true := by rfl) (hs : starEach (e :: es) X.env = (false, eval e X.env) :: starEach es X.env := by rfl) (hplain : (backTo cpos (starEach es X.env)).any (·.1) = false := by rfl) :
    PE X (.Call (.Attribute o name apos) (e :: es) [] cpos) (tBM X.K T r to t) := by
  intro pins s σ H Q I h
  refine wpAny_Call_method_late hbase hfew hline rfl (thn (ho pins s σ H _ I h) fun v s1 ⟨x, H1, I1, r1, ty, q1⟩ => ?_)
  obtain ⟨h1, h2⟩ := tyV_is I1 r1 ty
  refine ⟨T, id, pa, slot, hty, h1, h2, ?_⟩
  have hA := ha cpos pins s1 σ H1 _ I1 q1
  rw [hs] at hA ⊢
  refine Calls.callWith_builtin (by show (false || (backTo cpos (starEach es X.env)).any (·.1)) = false; rw [hplain] <;> rfl) (Calls.evalArgs_plain ?_)
  exact thn hA fun us s2 ⟨vs, H2, I2, r2, q2⟩ => hm pins s2 σ H2 x vs v us Q I2 r1 r2 q2
/- xs.append(e), list.index on a module's tuple .. are MtR facts of 06m -/
end
end L2
namespace L2
open PySem PySem.Spec PyProof.Rows
def MtM (X : Cx) (id : String) (r : V → List V → Hp → VK → Prop) : Prop :=
  ∀ (pins : List (Addr × Obj)) (s : Shared) (σ : St) (H : Hp) (x : V) (xs : List V) (v : Value) (us : List Value) (Q : VK), Inv X pins σ H s → RelV x v → Vals xs us → r x xs H Q →
    wpAny (model X.prog X.w) X.A (call (.builtin id) (v :: us)) (EP X pins σ Q) X.xe s
theorem Vals.one : ∀ {x : V} {us : List Value}, Vals [x] us → ∃ u, us = [u] ∧ RelV x u
  | _, _, .cons r .nil => ⟨_, rfl, r⟩
theorem Vals.eraseIdx : ∀ {xs : List V} {us : List Value} (i : Nat), Vals xs us → Vals (xs.eraseIdx i) (us.eraseIdx i)
  | _, _, _, .nil => .nil
  | _, _, 0, .cons _ t => t
  | _, _, i + 1, .cons r t => .cons r (Vals.eraseIdx i t)
theorem Vals.rep {xs : List V} {us : List Value} (h : Vals xs us) : ∀ k : Nat, Vals (List.replicate k xs).flatten (List.replicate k us).flatten
  | 0 => .nil
  | k + 1 => by
    rw [List.replicate_succ, List.replicate_succ, List.flatten_cons, List.flatten_cons]
    exact Vals.append h (Vals.rep h k)
theorem len_erase {α : Type} : ∀ (l : List α) (i : Nat), (l.eraseIdx i).length ≤ l.length
  | [], _ => Nat.le_refl _
  | _ :: _, 0 => Nat.le_succ _
  | _ :: r, i + 1 => Nat.succ_le_succ (len_erase r i)
theorem foldl_rep (its : List Value) : ∀ (k : Nat) (acc : List Value),
    List.foldl (fun x1 x2 => x1 ++ x2) acc.toArray (List.replicate k its.toArray) = (acc ++ (List.replicate k its).flatten).toArray
  | 0, acc => by simp
  | k + 1, acc => by
    have e : acc.toArray ++ its.toArray = (acc ++ its).toArray := by simp
    have e2 : (acc ++ its) ++ (List.replicate k its).flatten = acc ++ (List.replicate (k + 1) its).flatten := by
      rw [List.replicate_succ, List.flatten_cons, List.append_assoc]
    rw [← e2, ← foldl_rep its k (acc ++ its), ← e, List.replicate_succ, List.foldl_cons]
section
variable {X : Cx} {pins : List (Addr × Obj)} {σ : St} {H : Hp} {s : Shared} {l b : Addr} {xs ys zs : List V}
theorem Inv.lset {its its' : List Value} {n : Nat} {f : Array Value → Array Value} {t' : Nat} (I : Inv X pins σ H s) (hH : H l = some (.lst xs))
    (e : s.heap.get? l = some { cls := .type "list", data := .seq its.toArray n }) (hf : f its.toArray = its'.toArray) (hv : Vals ys its') (hz : ys.length ≤ sizeLine) :
    Inv X pins σ (upd H l (.lst ys)) { s with heap := s.heap.update l (Obj.mapSeq f), toks := t' } := by
  have q := PySem.IsL.update e f
  rw [hf] at q
  refine I.write (x := l) (e := l) (by rw [hH]; exact trivial) (.inl rfl) (fun b' u hb hu => (Heap.get?_update_other s.heap (Obj.mapSeq f) (Ne.symm hb)).trans hu) ⟨_, q⟩ ?_
  exact ⟨hz, its', _, hv, q⟩
theorem Inv.lnew {its : List Value} {t' : Nat} (I : Inv X pins σ H s) (hv : Vals ys its) (hz : ys.length ≤ sizeLine) :
    Inv X pins σ (upd H s.heap.objs.size (.lst ys)) { s with heap := s.heap.push { cls := .type "list", data := .seq its.toArray }, toks := t' } :=
  I.laid (fun _ _ q => Heap.get?_push_of_some _ q) (Nat.le_refl _) ⟨hz, its, 0, hv, Heap.get?_push_size _ rfl⟩
theorem Inv.fresh (I : Inv X pins σ H s) : H s.heap.objs.size = none := I.hok.fresh (Nat.le_refl _)
theorem Inv.lstM (I : Inv X pins σ H s) (hH : H l = some (.lst xs)) : xs.length ≤ sizeLine ∧ ∃ (its : List Value) (n : Nat), Vals xs its ∧ xs.length = its.length ∧ s.heap.get? l = some { cls := .type "list", data := .seq its.toArray n } := by
  obtain ⟨z, its, n, r, e⟩ := I.hok l _ hH
  exact ⟨z, its, n, r, r.length, e⟩
theorem notLongL {n : Nat} (h : n ≤ sizeLine) : Builtin.List.listTooLong n = false := by
  unfold Builtin.List.listTooLong
  exact decide_eq_false (by omega)
end
section
variable {X : Cx}
def rAppend : V → List V → Hp → VK → Prop := fun x vs H Q => ∃ l xs y, x = .ref l ∧ vs = [y] ∧ H l = some (.lst xs) ∧ xs.length < sizeLine ∧ Q .non (upd H l (.lst (xs ++ [y])))
theorem mt_append : MtM X "list.append" rAppend := by
  intro pins s σ H x vs v us Q I rx rv h
  obtain ⟨l, xs, y, rfl, rfl, hH, hz, q⟩ := h
  cases rx
  obtain ⟨u, rfl, ru⟩ := rv.one
  obtain ⟨z, its, n, r, hl, e⟩ := I.lstM hH
  refine call_meets F.slot_list_append ⟨_, e, rfl⟩ F.entry_list_append (F.args_list_append_2 _ _) (PySem.list_append l its.toArray n u (by rw [List.size_toArray]; omega)) ⟨e, ?_⟩
  refine ⟨.non, _, I.lset (its' := its ++ [u]) hH e (by simp) (r.append (.cons ru .nil)) ?_, rfl, q⟩
  rw [List.length_append, List.length_singleton]
  omega
def rExtend : V → List V → Hp → VK → Prop := fun x vs H Q => ∃ l b xs zs, x = .ref l ∧ vs = [.ref b] ∧ H l = some (.lst xs) ∧ H b = some (.lst zs) ∧ xs.length + zs.length ≤ sizeLine ∧ Q .non (upd H l (.lst (xs ++ zs)))
theorem mt_extend : MtM X "list.extend" rExtend := by
  intro pins s σ H x vs v us Q I rx rv h
  obtain ⟨l, b, xs, zs, rfl, rfl, hH, hB, hz, q⟩ := h
  cases rx
  obtain ⟨u, rfl, ru⟩ := rv.one
  cases ru
  obtain ⟨z, its, n, r, hl, e⟩ := I.lstM hH
  obtain ⟨z2, its2, n2, r2, hl2, e2⟩ := I.lstM hB
  have hsz : its.toArray.size + its2.toArray.size ≤ sizeLine := by rw [List.size_toArray, List.size_toArray]; omega
  have hlong : ¬ (!its.toArray.isEmpty && Builtin.List.listTooLong (its.toArray.size + its2.toArray.size)) = true := by
    rw [notLongL hsz, Bool.and_false]
    exact Bool.false_ne_true
  refine call_meets F.slot_list_extend ⟨_, e, rfl⟩ F.entry_list_extend (F.args_list_extend_2 _ _)
    (AutoSeq1.list_extend_list_list_0 l its.toArray n b its2.toArray n2 hlong (by rw [List.size_toArray]; omega) (by omega)) ⟨e, e2, ?_⟩
  refine ⟨.non, _, I.lset (its' := its ++ its2) hH e (by simp) (r.append r2) ?_, rfl, q⟩
  rw [List.length_append]
  omega
def rPopAt : V → List V → Hp → VK → Prop := fun x vs H Q => ∃ l xs i k y, x = .ref l ∧ vs = [.int i] ∧ H l = some (.lst xs) ∧ -(2 ^ 63) ≤ i ∧ i < 2 ^ 63 ∧ seqIndex? i xs.length = some k ∧ xs[k]? = some y ∧ Q y (upd H l (.lst (xs.eraseIdx k)))
theorem mt_popAt : MtM X "list.pop" rPopAt := by
  intro pins s σ H x vs v us Q I rx rv h
  obtain ⟨l, xs, i, k, y, rfl, rfl, hH, h1, h2, hk, hy, q⟩ := h
  cases rx
  obtain ⟨u, rfl, ru⟩ := rv.one
  obtain ⟨t, rfl⟩ := ru
  obtain ⟨z, its, n, r, hl, e⟩ := I.lstM hH
  obtain ⟨w, hw, rw'⟩ := r.get hy
  refine call_meets F.slot_list_pop ⟨_, e, rfl⟩ F.entry_list_pop (F.args_list_pop_2 _ _)
    (MeetsSeq.list_pop_at l its.toArray n i t k w (fitsIndex_both h1 h2) (by rw [List.size_toArray, ← hl]; exact hk) (by rw [← Array.getElem?_toList]; exact hw) (by rw [List.size_toArray]; omega)) ⟨e, ?_⟩
  refine ⟨y, _, I.lset (its' := its.eraseIdx k) hH e ?_ (r.eraseIdx k) ?_, rw', q⟩
  · show its.toArray.eraseIdxIfInBounds k = (its.eraseIdx k).toArray
    rw [List.eraseIdxIfInBounds_toArray]
  · have := len_erase xs k
    omega
def rCat : R2 := fun x y H Q => ∃ l b xs zs, x = .ref l ∧ y = .ref b ∧ H l = some (.lst xs) ∧ H b = some (.lst zs) ∧ xs.length + zs.length ≤ sizeLine ∧ ∀ p, H p = none → Q (.ref p) (upd H p (.lst (xs ++ zs)))
theorem op_cat : OpR X (binaryOp .Add) rCat := by
  intro pins s σ H x y v u Q I rx ry h
  obtain ⟨l, b, xs, zs, rfl, rfl, hH, hB, hz, q⟩ := h
  cases rx
  cases ry
  obtain ⟨z, its, n, r, hl, e⟩ := I.lstM hH
  obtain ⟨z2, its2, n2, r2, hl2, e2⟩ := I.lstM hB
  refine PySem.P.add_list e e2 ?_ (by rw [List.size_toArray, List.size_toArray]; omega)
  have ea : its.toArray ++ its2.toArray = (its ++ its2).toArray := by simp
  rw [ea]
  exact ⟨.ref _, _, I.lnew (t' := s.toks) (r.append r2) (by rw [List.length_append]; omega), rfl, q _ I.fresh⟩
/-- a list times an int (a negative one is nothing) -/
def rRep : R2 := fun x y H Q => ∃ l k xs, x = .ref l ∧ y = .int k ∧ H l = some (.lst xs) ∧ -(2 ^ 63) ≤ k ∧ k < 2 ^ 63 ∧ xs.length * k.toNat ≤ sizeLine ∧
  ∀ p, H p = none → Q (.ref p) (upd H p (.lst (List.replicate k.toNat xs).flatten))
theorem len_rep {α : Type} (xs : List α) (k : Nat) : (List.replicate k xs).flatten.length = k * xs.length := by
  induction k with
  | zero => simp
  | succ k ih => rw [List.replicate_succ, List.flatten_cons, List.length_append, ih, Nat.succ_mul, Nat.add_comm]
theorem op_rep : OpR X (binaryOp .Mult) rRep := by
  intro pins s σ H x y v u Q I rx ry h
  obtain ⟨l, k, xs, rfl, rfl, hH, h1, h2, hz, q⟩ := h
  cases rx
  obtain ⟨t, rfl⟩ := ry
  obtain ⟨z, its, n, r, hl, e⟩ := I.lstM hH
  have hlen : its.toArray.size * k.toNat ≤ sizeLine := by rw [List.size_toArray, ← hl]; exact hz
  have hcap : ¬ its.toArray.size * k.toNat > (2 ^ 63 - 1) / 8 := by
    have : (sizeLine : Nat) ≤ (2 ^ 63 - 1) / 8 := by decide
    omega
  have hfit : ¬ (!Builtin.List.listFitsIndex k) = true := by
    rw [fitsIndex_both h1 h2]
    exact Bool.false_ne_true
  have hlong : ¬ Builtin.List.listTooLong (its.toArray.size * k.toNat) = true := by
    rw [notLongL hlen]
    exact Bool.false_ne_true
  have hnew : List.foldl (fun x1 x2 => x1 ++ x2) #[] (List.replicate (if its.toArray.isEmpty = true then 0 else k.toNat) its.toArray) = (List.replicate k.toNat its).flatten.toArray := by
    have f0 : ∀ m : Nat, List.foldl (fun x1 x2 => x1 ++ x2) #[] (List.replicate m its.toArray) = (List.replicate m its).flatten.toArray := fun m => by
      have := foldl_rep its m []
      rw [List.nil_append] at this
      exact this
    rw [f0]
    cases its with
    | nil => simp
    | cons a r' => rw [if_neg (by simp)]
  refine wpAny_binaryOp_repeat_ref (T := "list") (U := "int") (by decide) ⟨_, e, rfl⟩ (fun s' => typeIs_int s' k t) noFill_list_mul F.fills_int_mul F.slot_int_rmul repeat_list F.slot_int_index.lookup
    (call_meets F.slot_int_rmul (typeIs_int s k t) F.entry_int_rmul (F.args_int_rmul_2 _ _) (int___rmul___int_list k t l its.toArray n)
      ⟨e, rfl, ⟨_, e, rfl⟩, call_meets F.slot_list_mul ⟨_, e, rfl⟩ F.entry_list_mul (F.args_list_mul_2 _ _) (AutoListH.list___mul___list_int_3 l its.toArray n k t hfit hcap hlong) ⟨e, ?_⟩⟩)
  rw [hnew]
  exact ⟨.ref _, _, I.lnew (t' := s.toks) (r.rep k.toNat) (by rw [len_rep, Nat.mul_comm]; exact hz), rfl, q _ I.fresh⟩
end
section
variable {prog : Program} {w : World} {A : Around} {E : Value → Shared → Prop} {s : Shared}
set_option maxRecDepth 100000 in
end
section
variable {X : Cx}
end
end L2
namespace L2
open PySem PySem.Spec PyProof.Rows
theorem Vals.ints : ∀ {ns : List Int} {us : List Value}, Vals (ns.map V.int) us → IntsAre us ns
  | [], us, h => by
    rw [List.map_nil] at h
    cases h
    exact IntsAre.nil
  | n :: ns, us, h => by
    rw [List.map_cons] at h
    cases h with
    | cons r t =>
      obtain ⟨k, rfl⟩ := r
      exact IntsAre.cons n k (Vals.ints t)
theorem Vals.bls : ∀ {bs : List Bool} {us : List Value}, Vals (bs.map V.bl) us → us = bs.map Value.bool
  | [], us, h => by
    rw [List.map_nil] at h
    cases h
    rfl
  | b :: bs, us, h => by
    rw [List.map_cons] at h
    cases h with
    | cons r t =>
      cases r
      rw [Vals.bls t, List.map_cons]
theorem Vals.ref1 {a : Addr} {us : List Value} (r : Vals [V.ref a] us) : us = [Value.ref a] := by
  cases r with
  | cons r t =>
    cases t
    cases r
    rfl
section
variable {prog : Program} {w : World} {A : Around} {E : Value → Shared → Prop} {s : Shared} {l : Addr} {its : List Value} {ns : List Int} {Q : Value → Shared → Prop}
theorem max_raw (hh : A.handled = none) (hl : s.heap.IsList l its.toArray) (hi : IntsAre its ns) (hne : 0 < ns.length)
    (h : ∀ h' tk M t', (∀ b o, s.heap.get? b = some o → h'.get? b = some o) → M ∈ ns → (∀ a, a ∈ ns → a ≤ M) → Q (.int M t') { s with heap := h', toks := tk }) : wpAny (model prog w) A (call (.builtin "max") [.ref l]) Q E s := by
  obtain ⟨xs, e⟩ := hi.allInts.items
  have hn : numsOf (intItems xs).toList = ns := by rw [← e]; exact hi.numsOf
  rw [nums_intItems] at hn
  subst hn
  rw [e] at hl
  have hsz : 0 < xs.size := by simpa using hne
  refine PySem.max_intList hh hl hsz fun v h' tk hv hk => ?_
  obtain ⟨t, rfl⟩ := intItems_at hv
  obtain ⟨h1, h2⟩ := argBest_gt (numAt xs) (xs.size - 1)
  refine h h' tk _ t hk ?_ fun a ha => ?_
  · rw [numAt_eq]; exact PySem.getD_mem (by rw [List.length_map, Array.length_toList]; omega)
  · obtain ⟨j, hj, rfl⟩ := mem_getD ha
    rw [List.length_map, Array.length_toList] at hj
    rw [← numAt_eq]; exact h2 j (by omega)
theorem min_raw (hh : A.handled = none) (hl : s.heap.IsList l its.toArray) (hi : IntsAre its ns) (hne : 0 < ns.length)
    (h : ∀ h' tk M t', (∀ b o, s.heap.get? b = some o → h'.get? b = some o) → M ∈ ns → (∀ a, a ∈ ns → M ≤ a) → Q (.int M t') { s with heap := h', toks := tk }) : wpAny (model prog w) A (call (.builtin "min") [.ref l]) Q E s := by
  obtain ⟨xs, e⟩ := hi.allInts.items
  have hn : numsOf (intItems xs).toList = ns := by rw [← e]; exact hi.numsOf
  rw [nums_intItems] at hn
  subst hn
  rw [e] at hl
  have hsz : 0 < xs.size := by simpa using hne
  refine PySem.min_intList hh hl hsz fun v h' tk hv hk => ?_
  obtain ⟨t, rfl⟩ := intItems_at hv
  obtain ⟨h1, h2⟩ := argBest_lt (numAt xs) (xs.size - 1)
  refine h h' tk _ t hk ?_ fun a ha => ?_
  · rw [numAt_eq]; exact PySem.getD_mem (by rw [List.length_map, Array.length_toList]; omega)
  · obtain ⟨j, hj, rfl⟩ := mem_getD ha
    rw [List.length_map, Array.length_toList] at hj
    rw [← numAt_eq]; exact h2 j (by omega)
end
section
variable {X : Cx}
/-- max(xs), min(xs) of a list of ints -/
def rMax (K : PySem.W.Frag) : List V → Hp → VK → Prop := fun vs H Q => ∃ (a : Addr) (ns : List Int), vs = [V.ref a] ∧ SqL K H a (ns.map V.int) ∧ 0 < ns.length ∧ ∀ m, m ∈ ns → (∀ y, y ∈ ns → y ≤ m) → Q (.int m) H
def rMin (K : PySem.W.Frag) : List V → Hp → VK → Prop := fun vs H Q => ∃ (a : Addr) (ns : List Int), vs = [V.ref a] ∧ SqL K H a (ns.map V.int) ∧ 0 < ns.length ∧ ∀ m, m ∈ ns → (∀ y, y ∈ ns → m ≤ y) → Q (.int m) H
theorem cr_max (hc : X.calm = true) : CallR X (.builtin "max") (rMax X.K) := by
  intro pins s σ H vs us Q I r h
  obtain ⟨a, ns, rfl, hs, hne, q⟩ := h
  obtain ⟨its, rv, hl, _⟩ := I.list hs
  rw [Vals.ref1 r]
  exact max_raw (I.ok.hd hc) hl.isList rv.ints hne fun h' tk m t' hk h1 h2 => ⟨.int _, H, I.kept hk, ⟨_, rfl⟩, q m h1 h2⟩
theorem cr_min (hc : X.calm = true) : CallR X (.builtin "min") (rMin X.K) := by
  intro pins s σ H vs us Q I r h
  obtain ⟨a, ns, rfl, hs, hne, q⟩ := h
  obtain ⟨its, rv, hl, _⟩ := I.list hs
  rw [Vals.ref1 r]
  exact min_raw (I.ok.hd hc) hl.isList rv.ints hne fun h' tk m t' hk h1 h2 => ⟨.int _, H, I.kept hk, ⟨_, rfl⟩, q m h1 h2⟩
end
section
variable {X : Cx}
end
section
variable {X : Cx}
end
theorem iter_any {prog : Program} {w : World} {A : Around} {E : Value → Shared → Prop} {s : Shared} {l : Addr} {items : Array Value} {Q : Value → Shared → Prop} (hl : s.heap.IsList l items)
    (h : ∀ s₂ : Shared, s₂ = { s with heap := s.heap.push { cls := .type "list_iterator", data := .fields #[.ref l, .int 0 0] } } →
      (s₂.heap.IsListIter s.heap.objs.size l 0 ∧ s₂.heap.IsList l items) → l ≠ s.heap.objs.size → Q (.ref s.heap.objs.size) s₂) : wpAny (model prog w) A (pyIter (.ref l)) Q E s := by
  have hlt : l < s.heap.objs.size := by obtain ⟨_, e, _⟩ := hl; exact Heap.lt_size e
  exact wpAny_pyIter_list hl (h _ rfl ⟨⟨_, Heap.get?_push_size _ rfl, rfl, rfl⟩, hl.push _⟩ (Nat.ne_of_lt hlt))
theorem truth_bools {prog : Program} {w : World} {A : Around} {bs : List Bool} {its : List Value} (e : its = bs.map Value.bool) :
    TruthOf prog w A (fun i v => its.toArray[i]? = some v) (fun i => bs.getD i false) := fun i v s Q E hv hq => by
  have hv' : its[i]? = some v := by simpa using hv
  rw [e, List.getElem?_map] at hv'
  obtain ⟨b, hb, rfl⟩ := Option.map_eq_some_iff.mp hv'
  have hg : bs.getD i false = b := by rw [List.getD_eq_getElem?_getD, hb] <;> rfl
  have hq' : Q (bs.getD i false) s := hq
  rw [hg] at hq'
  exact wpAny_truthy_bool hq'
theorem any_range : ∀ bs : List Bool, (List.range bs.length).any (fun i => bs.getD i false) = bs.any id
  | [] => rfl
  | b :: bs => by
    rw [List.length_cons, List.range_succ_eq_map, List.any_cons, List.any_map, List.any_cons, ← any_range bs]
    all_goals rfl
theorem all_range : ∀ bs : List Bool, (List.range bs.length).all (fun i => bs.getD i false) = bs.all id
  | [] => rfl
  | b :: bs => by
    rw [List.length_cons, List.range_succ_eq_map, List.all_cons, List.all_map, List.all_cons, ← all_range bs]
    all_goals rfl
section
variable {X : Cx}
def rAny (K : PySem.W.Frag) : List V → Hp → VK → Prop := fun vs H Q => ∃ (a : Addr) (bs : List Bool), vs = [V.ref a] ∧ SqL K H a (bs.map V.bl) ∧ Q (.bl (bs.any id)) H
def rAll (K : PySem.W.Frag) : List V → Hp → VK → Prop := fun vs H Q => ∃ (a : Addr) (bs : List Bool), vs = [V.ref a] ∧ SqL K H a (bs.map V.bl) ∧ Q (.bl (bs.all id)) H
theorem cr_any (hc : X.calm = true) : CallR X (.builtin "any") (rAny X.K) := by
  intro pins s σ H vs us Q I r h
  obtain ⟨a, bs, rfl, hs, q⟩ := h
  obtain ⟨its, rv, hl, _⟩ := I.list hs
  rw [Vals.ref1 r]
  have hb := rv.bls
  refine call_any_walk (iter_any hl.isList fun s₂ e2 st hne => ?_)
  subst e2
  refine ⟨_, _, _, _, _, _, _, rfl, Walks.list (A := X.A.in1) (I.ok.hd hc) _ a hne its.toArray, st, truth_bools hb, fun h' tk hk => ?_⟩
  refine ⟨.bl _, H, I.kept fun b o eo => hk b o (fun hmem => ?_) (Heap.get?_push_of_some _ eo), ?_, q⟩
  · rcases List.mem_cons.mp hmem with e1 | hmem
    · exact absurd (e1 ▸ Heap.lt_size eo) (Nat.lt_irrefl _)
    · cases hmem
  · show Value.bool _ = Value.bool _
    rw [← any_range, hb, List.size_toArray, List.length_map]
theorem cr_all (hc : X.calm = true) : CallR X (.builtin "all") (rAll X.K) := by
  intro pins s σ H vs us Q I r h
  obtain ⟨a, bs, rfl, hs, q⟩ := h
  obtain ⟨its, rv, hl, _⟩ := I.list hs
  rw [Vals.ref1 r]
  have hb := rv.bls
  refine call_all_walk (iter_any hl.isList fun s₂ e2 st hne => ?_)
  subst e2
  refine ⟨_, _, _, _, _, _, _, rfl, Walks.list (A := X.A.in1) (I.ok.hd hc) _ a hne its.toArray, st, truth_bools hb, fun h' tk hk => ?_⟩
  refine ⟨.bl _, H, I.kept fun b o eo => hk b o (fun hmem => ?_) (Heap.get?_push_of_some _ eo), ?_, q⟩
  · rcases List.mem_cons.mp hmem with e1 | hmem
    · exact absurd (e1 ▸ Heap.lt_size eo) (Nat.lt_irrefl _)
    · cases hmem
  · show Value.bool _ = Value.bool _
    rw [← all_range, hb, List.size_toArray, List.length_map]
end
mutual
inductive Dp (K : PySem.W.Frag) (H : Hp) : V → PyData → Prop
  | non : Dp K H .non .none
  | bl (b : Bool) : Dp K H (.bl b) (.bool b)
  | int (i : Int) : Dp K H (.int i) (.int i)
  | str (x : Str) : Dp K H (.str x) (.str x)
  | lst {a : Addr} {xs : List V} {ds : List PyData} : SqL K H a xs → DpAll K H xs ds → Dp K H (.ref a) (.list ds)
  | tup {a : Addr} {xs : List V} {ds : List PyData} : SqT K H a xs → DpAll K H xs ds → Dp K H (.ref a) (.tuple ds)
inductive DpAll (K : PySem.W.Frag) (H : Hp) : List V → List PyData → Prop
  | nil : DpAll K H [] []
  | cons {v : V} {vs : List V} {d : PyData} {ds : List PyData} : Dp K H v d → DpAll K H vs ds → DpAll K H (v :: vs) (d :: ds)
end
section
variable {X : Cx} {pins : List (Addr × Obj)} {σ : St} {H : Hp} {s : Shared}
mutual
theorem Dp.reads (I : Inv X pins σ H s) : ∀ (d : PyData) (v : V) (u : Value), Dp X.K H v d → RelV v u → ∃ as, Reads s.heap u d as
  | .none, _, _, h, r => by
    cases h
    cases r
    exact ⟨_, Reads.none⟩
  | .bool b, _, _, h, r => by
    cases h
    cases r
    exact ⟨_, Reads.bool b⟩
  | .int i, _, _, h, r => by
    cases h
    obtain ⟨t, rfl⟩ := r
    exact ⟨_, Reads.int i t⟩
  | .str x, _, _, h, r => by
    cases h
    obtain ⟨t, rfl⟩ := r
    exact ⟨_, Reads.str x t⟩
  | .list ds, _, _, h, r => by
    cases h with
    | lst hs ha =>
      cases r
      obtain ⟨its, rv, ⟨o, n, ho, hc, _, hd⟩, _⟩ := I.list hs
      obtain ⟨as, hr⟩ := Dp.readsAll I ds _ its ha rv
      exact ⟨_, Reads.list ho hc hd hr⟩
  | .tuple ds, _, _, h, r => by
    cases h with
    | tup hs ha =>
      cases r
      obtain ⟨its, rv, ⟨o, ho, hc, n, hd⟩, _⟩ := I.tuple hs
      obtain ⟨as, hr⟩ := Dp.readsAll I ds _ its ha rv
      exact ⟨_, Reads.tuple ho hc hd hr⟩
  | .dict _, _, _, h, _ => by cases h
theorem Dp.readsAll (I : Inv X pins σ H s) : ∀ (ds : List PyData) (vs : List V) (us : List Value), DpAll X.K H vs ds → Vals vs us → ∃ as, ReadsAll s.heap us ds as
  | [], _, _, h, r => by
    cases h
    cases r
    exact ⟨_, ReadsAll.nil⟩
  | d :: ds, _, _, h, r => by
    cases h with
    | cons h1 h2 =>
      cases r with
      | cons r1 r2 =>
        obtain ⟨as, q1⟩ := Dp.reads I d _ _ h1 r1
        obtain ⟨bs, q2⟩ := Dp.readsAll I ds _ _ h2 r2
        exact ⟨_, ReadsAll.cons q1 q2⟩
end
end
section
variable {X : Cx}
def rEqD (K : PySem.W.Frag) : R2 := fun x y H Q => ∃ d e, Dp K H x d ∧ Dp K H y e ∧ SeqAt.shaped d = true ∧ SeqAt.shaped e = true ∧ Q (.bl (PyData.eqv d e)) H
theorem op_eqD (hu : X.A.units + 64 < cLine) : OpR X (compareOp .Eq) (rEqD X.K) := by
  intro pins s σ H x y v u Q I rx ry h
  obtain ⟨d, e, hd, he, sd, se, q⟩ := h
  obtain ⟨as, r1⟩ := Dp.reads I d x v hd rx
  obtain ⟨bs, r2⟩ := Dp.reads I e y u he ry
  exact SeqAt.compareEq_shaped r1 r2 sd se hu ⟨.bl _, H, I, rfl, q⟩
end
end L2
namespace L2
open PySem PySem.Spec PyProof.Rows
abbrev CellAt (h : Heap) (c : Addr) (v : Option Value) : Prop := h.IsCell c v
def relS (scope sc : Scope) : Scope :=
  { scope with names := scope.names.map fun (n, k) => if (k == .free && sc.kind == .function && sc.names.lookup n == some .cell) then (n, .cell) else (n, k) }
def cloFrom (cells : List (Str × Addr)) : List (Str × NameKind) → List (Str × Addr) → List (Str × Addr)
  | [], acc => acc
  | (n, k) :: r, acc => if k == .free then cloFrom cells r ((n, (cells.lookup n).getD 0) :: acc) else cloFrom cells r acc
theorem closure_loop (env : Env) (f : Str × NameKind → List (Str × Addr) → Sem (ForInStep (List (Str × Addr))))
    (hf : ∀ n k c, f (n, k) c = if k == .free then (do let a ← cellOf env n; pure (.yield ((n, a) :: c))) else pure (.yield c)) :
    ∀ (names : List (Str × NameKind)) (acc : List (Str × Addr)), (∀ y ∈ names, y.2 = .free → ∃ c, env.cells.lookup y.1 = some c) → forIn names acc f = pure (cloFrom env.cells names acc)
  | [], acc, _ => by rw [List.forIn_nil]; rfl
  | (n, k) :: r, acc, h => by
    rw [List.forIn_cons, hf]
    have ih := fun acc => closure_loop env f hf r acc fun y hy => h y (List.mem_cons_of_mem _ hy)
    unfold cloFrom
    by_cases hk : (k == NameKind.free) = true
    · rw [if_pos hk, if_pos hk]
      obtain ⟨c, hc⟩ := h (n, k) List.mem_cons_self (by simpa using hk)
      have e : cellOf env n = pure c := by unfold cellOf; rw [hc]
      rw [e]
      have e2 : (env.cells.lookup n).getD 0 = c := by rw [hc]; rfl
      rw [e2]
      exact ih _
    · rw [if_neg hk, if_neg hk]
      exact ih _
theorem closure_ok {scope : Scope} {env : Env} (h : ∀ y ∈ scope.names, y.2 = .free → ∃ c, env.cells.lookup y.1 = some c) : closureFor scope env = pure (cloFrom env.cells scope.names []) := by
  simp only [closureFor]
  rw [closure_loop env _ (fun n k c => rfl) scope.names [] h]
  rfl
theorem mem_lookup {α : Type} : ∀ {l : List (Str × α)} {n : Str} {c : α}, (n, c) ∈ l → ∃ c', l.lookup n = some c'
  | (k, v) :: r, n, c, h => by
    rw [List.lookup_cons]
    cases hb : n == k with
    | true => exact ⟨_, rfl⟩
    | false =>
      rcases List.mem_cons.mp h with e | h
      · cases e; simp at hb
      · exact mem_lookup h
theorem cloFrom_mem {cells : List (Str × Addr)} : ∀ {names : List (Str × NameKind)} {acc : List (Str × Addr)} {n : Str} {c : Addr}, (n, c) ∈ cloFrom cells names acc → (n, c) ∈ acc ∨ ((n, .free) ∈ names ∧ c = (cells.lookup n).getD 0)
  | [], _, _, _, h => .inl h
  | (m, k) :: r, acc, n, c, h => by
    unfold cloFrom at h
    split at h
    · rename_i hk
      have hk : k = .free := by simpa using hk
      rcases cloFrom_mem h with h | ⟨h1, h2⟩
      · rcases List.mem_cons.mp h with e | h
        · cases e; exact .inr ⟨hk ▸ List.mem_cons_self, rfl⟩
        · exact .inl h
      · exact .inr ⟨List.mem_cons_of_mem _ h1, h2⟩
    · rcases cloFrom_mem h with h | ⟨h1, h2⟩
      · exact .inl h
      · exact .inr ⟨List.mem_cons_of_mem _ h1, h2⟩
theorem cloFrom_acc {cells : List (Str × Addr)} : ∀ {names : List (Str × NameKind)} {acc : List (Str × Addr)} {p : Str × Addr}, p ∈ acc → p ∈ cloFrom cells names acc
  | [], _, _, h => h
  | (m, k) :: r, acc, p, h => by
    unfold cloFrom
    split
    · exact cloFrom_acc (List.mem_cons_of_mem _ h)
    · exact cloFrom_acc h
theorem cloFrom_has {cells : List (Str × Addr)} : ∀ {names : List (Str × NameKind)} {acc : List (Str × Addr)} {n : Str}, (n, .free) ∈ names → (n, (cells.lookup n).getD 0) ∈ cloFrom cells names acc
  | (m, k) :: r, acc, n, h => by
    unfold cloFrom
    rcases List.mem_cons.mp h with e | h
    · cases e
      exact cloFrom_acc List.mem_cons_self
    · split
      · exact cloFrom_has h
      · exact cloFrom_has h
theorem cells_mem : ∀ {names : List (Str × NameKind)} {h : Heap} {acc : List (Str × Addr)} {x : Str} {c : Addr}, (x, c) ∈ cellsFrom h.objs.size names acc →
    (x, c) ∈ acc ∨ ((x, .cell) ∈ names ∧ h.objs.size ≤ c ∧ CellAt (pushCells h names) c none)
  | [], _, _, _, _, h => .inl h
  | (n, k) :: r, h, acc, x, c, hm => by
    unfold cellsFrom at hm
    unfold pushCells
    split at hm
    · rename_i hk
      rw [if_pos hk]
      have hk : k = .cell := by simpa using hk
      rw [← Heap.size_push h { cls := .type "cell", data := .cell none }] at hm
      rcases cells_mem hm with hm | ⟨h1, h2, h3⟩
      · rcases List.mem_cons.mp hm with e | hm
        · cases e
          exact .inr ⟨hk ▸ List.mem_cons_self, Nat.le_refl _, _, pushCells_keeps r _ _ _ (Heap.get?_push_size _ rfl), rfl⟩
        · exact .inl hm
      · rw [Heap.size_push] at h2
        exact .inr ⟨List.mem_cons_of_mem _ h1, Nat.le_of_succ_le h2, h3⟩
    · rename_i hk
      rw [if_neg hk]
      rcases cells_mem hm with hm | ⟨h1, h2, h3⟩
      · exact .inl hm
      · exact .inr ⟨List.mem_cons_of_mem _ h1, h2, h3⟩
theorem cells_acc : ∀ {names : List (Str × NameKind)} {n : Nat} {acc : List (Str × Addr)} {p : Str × Addr}, p ∈ acc → p ∈ cellsFrom n names acc
  | [], _, _, _, h => h
  | (m, k) :: r, n, acc, p, h => by
    unfold cellsFrom
    split
    · exact cells_acc (List.mem_cons_of_mem _ h)
    · exact cells_acc h
theorem cells_has : ∀ {names : List (Str × NameKind)} {n : Nat} {acc : List (Str × Addr)} {x : Str}, (x, .cell) ∈ names → ∃ c, (x, c) ∈ cellsFrom n names acc
  | (m, k) :: r, n, acc, x, h => by
    unfold cellsFrom
    rcases List.mem_cons.mp h with e | h
    · cases e
      exact ⟨n, cells_acc List.mem_cons_self⟩
    · split
      · exact cells_has h
      · exact cells_has h
theorem cells_inj : ∀ {names : List (Str × NameKind)} {h : Heap} {acc : List (Str × Addr)} {x y : Str} {c : Addr}, (∀ p ∈ acc, p.2 < h.objs.size) → (∀ x y c, (x, c) ∈ acc → (y, c) ∈ acc → x = y) →
    (x, c) ∈ cellsFrom h.objs.size names acc → (y, c) ∈ cellsFrom h.objs.size names acc → x = y
  | [], _, _, _, _, _, _, hi, h1, h2 => hi _ _ _ h1 h2
  | (n, k) :: r, h, acc, x, y, c, hl, hi, h1, h2 => by
    unfold cellsFrom at h1 h2
    split at h1
    · rename_i hk
      rw [if_pos hk] at h2
      rw [← Heap.size_push h { cls := .type "cell", data := .cell none }] at h1 h2
      refine cells_inj (h := h.push _) (fun p hp => ?_) (fun x y c a b => ?_) h1 h2
      · rw [Heap.size_push]
        rcases List.mem_cons.mp hp with rfl | hp
        · exact Nat.lt_succ_self _
        · exact Nat.lt_succ_of_lt (hl p hp)
      · rcases List.mem_cons.mp a with e | a <;> rcases List.mem_cons.mp b with e' | b
        · cases e; cases e'; rfl
        · cases e; exact absurd (hl _ b) (Nat.lt_irrefl _)
        · cases e'; exact absurd (hl _ a) (Nat.lt_irrefl _)
        · exact hi _ _ _ a b
    · rename_i hk
      rw [if_neg hk] at h2
      exact cells_inj hl hi h1 h2
theorem newEnv_comp {M : Model} {A : Around} {E : Value → Shared → Prop} {s : Shared} {scope : Scope} {globals : Addr} {closure : List (Str × Addr)} {qual : Str} {func : Option Addr} {code : Value} {around : Env} {builtins : Addr} {Q : Env → Shared → Prop}
    (h : Q (newEnv scope s.heap.objs.size globals (cellsFrom (s.heap.objs.size + 1) scope.names closure) qual func code (some around) builtins)
      { s with heap := pushCells (s.heap.push { cls := .type "dict", data := .dict #[] }) scope.names }) :
    wpAny M A (newFunctionEnv scope globals closure [] qual func code (some around) builtins) Q E s := by
  simp only [newFunctionEnv, Option.isSome_some, if_true]
  refine wpAny_bind (wpAny_alloc ?_)
  refine wpAny_bind (wpAny_layCells _ (fun n k c => rfl) scope.names closure _ _ ?_)
  rw [show ({ s with heap := s.heap.push { cls := .type "dict", data := .dict #[] } } : Shared).heap.objs.size = s.heap.objs.size + 1 from Heap.size_push ..]
  rw [List.forIn_nil]
  exact wpAny_bind (wpAny_pure (wpAny_pure h))
/-- every name of the written scope, in the scope that runs -/
theorem lookup_relS {sc : Scope} : ∀ {names : List (Str × NameKind)} {x : Str} {k : NameKind},
    (names.map fun (n, k) => if (k == NameKind.free && sc.kind == .function && sc.names.lookup n == some .cell) then (n, NameKind.cell) else (n, k)).lookup x = some k →
    ∃ k', names.lookup x = some k' ∧ (k = k' ∨ (k' = .free ∧ k = .cell))
  | [], _, _, h => by simp at h
  | (n, k₀) :: r, x, k, h => by
    have ih := @lookup_relS sc r x k
    have h' : List.lookup x ((if (k₀ == NameKind.free && sc.kind == .function && sc.names.lookup n == some .cell) = true then (n, NameKind.cell) else (n, k₀)) :: (r.map _)) = some k := h
    cases hx : x == n with
    | true =>
      simp only [List.lookup_cons, hx]
      by_cases hc : (k₀ == NameKind.free && sc.kind == .function && sc.names.lookup n == some .cell) = true
      · rw [if_pos hc] at h'
        simp only [List.lookup_cons, hx] at h'
        cases h'
        simp only [Bool.and_eq_true, beq_iff_eq] at hc
        exact ⟨k₀, rfl, .inr ⟨hc.1.1, rfl⟩⟩
      · rw [if_neg hc] at h'
        simp only [List.lookup_cons, hx] at h'
        cases h'
        exact ⟨_, rfl, .inl rfl⟩
    | false =>
      simp only [List.lookup_cons, hx]
      by_cases hc : (k₀ == NameKind.free && sc.kind == .function && sc.names.lookup n == some .cell) = true
      · rw [if_pos hc] at h'
        simp only [List.lookup_cons, hx] at h'
        exact ih h'
      · rw [if_neg hc] at h'
        simp only [List.lookup_cons, hx] at h'
        exact ih h'
/-- the names of a comprehension's block: its own (with their places in N), or captured -/
structure BlkOk (N : List Str) (sc scope : Scope) (own : List (Str × Nat)) : Prop where
  kind : scope.kind = .function
  uniq : ∀ y ∈ scope.names, scope.names.lookup y.1 = some y.2
  ix : ∀ p ∈ own, N[p.2]? = some p.1
  free : ∀ y ∈ scope.names, y.2 = .free → sc.names.lookup y.1 = some .cell ∨ sc.names.lookup y.1 = some .free
  own : ∀ y ∈ scope.names, y.2 = .local ∨ y.2 = .cell → y.1 ∈ own.map (·.1) ∨ y.1 ∉ N
/-- the slots of the block's own names forgotten -/
def wipe (σ : St) : List Nat → St
  | [] => σ
  | v :: vs => (wipe σ vs).set v none
theorem wipe_length (σ : St) : ∀ vs : List Nat, (wipe σ vs).length = σ.length
  | [] => rfl
  | v :: vs => by unfold wipe; rw [List.length_set, wipe_length σ vs]
theorem wipe_some {σ : St} {i : Nat} {x : V} : ∀ {vs : List Nat}, (wipe σ vs)[i]? = some (some x) → σ[i]? = some (some x) ∧ i ∉ vs
  | [], h => ⟨h, by simp⟩
  | v :: vs, h => by
    unfold wipe at h
    by_cases hi : v = i
    · subst hi
      by_cases hv : v < (wipe σ vs).length
      · rw [List.getElem?_set_self hv] at h; cases h
      · rw [List.getElem?_eq_none (by simpa using hv)] at h; cases h
    · rw [List.getElem?_set_ne hi] at h
      obtain ⟨h1, h2⟩ := wipe_some h
      exact ⟨h1, by simp only [List.mem_cons, not_or]; exact ⟨fun e => hi e.symm, h2⟩⟩
/-- the context of a block that starts at s, its iterator's objects at fp -/
abbrev Cx.blk (X : Cx) (s : Shared) (H : Hp) (scope : Scope) (cenv : Env) (fp : List Addr) : Cx := { X with s_0 := s, H_0 := H, env := cenv, outer := X.stack, ex := fp, fn := fun x => scope.names.lookup x == some .cell, pn := [], xe := fun _ _ => False }
section
variable {X : Cx} {pins : List (Addr × Obj)} {σ : St} {H : Hp} {s : Shared}
theorem block_start {scope : Scope} {own : List (Str × Nat)} {fp : List Addr} (I : Inv X pins σ H s) (ok : BlkOk X.N X.env.scope scope own) (hN : X.N.Nodup) (hfp : ∀ b ∈ fp, FpOk X pins H b ∧ b < s.heap.objs.size) :
    Inv (X.blk s H scope (compEnvC scope (cellsFrom (s.heap.objs.size + 1) scope.names (cloFrom X.env.cells scope.names [])) s.heap.objs.size X.env) fp) [] (wipe σ (own.map (·.2))) H { s with heap := pushCells (s.heap.push { cls := .type "dict", data := .dict #[] }) scope.names } := by
  have hfree : ∀ y ∈ scope.names, y.2 = .free → ∃ c, X.env.cells.lookup y.1 = some c := fun y hy e => by
    rcases ok.free y hy e with k | k
    · exact I.ok.has _ (.inl k)
    · exact I.ok.has _ (.inr k)
  generalize hcenv : compEnvC scope (cellsFrom (s.heap.objs.size + 1) scope.names (cloFrom X.env.cells scope.names [])) s.heap.objs.size X.env = cenv
  have kp : ∀ b o, s.heap.get? b = some o → (pushCells (s.heap.push { cls := .type "dict", data := .dict #[] }) scope.names).get? b = some o := fun b o e => pushCells_keeps _ _ _ _ (Heap.get?_push_of_some _ e)
  have hL : cenv.locals = s.heap.objs.size := by rw [← hcenv]; rfl
  have hcl : cenv.cells = cellsFrom (s.heap.objs.size + 1) scope.names (cloFrom X.env.cells scope.names []) := by rw [← hcenv]; rfl
  have hsc : cenv.scope = relS scope X.env.scope := by rw [← hcenv]; rfl
  rw [← Heap.size_push s.heap { cls := .type "dict", data := .dict #[] }] at hcl
  have cm : ∀ {y c}, (y, c) ∈ cloFrom X.env.cells scope.names [] → X.env.cells.lookup y = some c ∧ c < s.heap.objs.size := fun {y c} hm => by
    rcases cloFrom_mem hm with hm | ⟨h1, rfl⟩
    · cases hm
    · obtain ⟨c, hc⟩ := hfree _ h1 rfl
      rw [hc]
      obtain ⟨w, z⟩ := I.cell _ _ hc
      exact ⟨rfl, z.lt⟩
  have mem : ∀ {y c}, cenv.cells.lookup y = some c → (X.env.cells.lookup y = some c ∧ c < s.heap.objs.size) ∨ (s.heap.objs.size + 1 ≤ c ∧ CellAt (pushCells (s.heap.push { cls := .type "dict", data := .dict #[] }) scope.names) c none) := fun {y c} e => by
    rw [hcl] at e
    rcases cells_mem (PySem.mem_of_lookup e) with hm | ⟨_, h2, h3⟩
    · exact .inl (cm hm)
    · rw [Heap.size_push] at h2; exact .inr ⟨h2, h3⟩
  have look : ∀ {y}, scope.names.lookup y = some .free → ∃ c, cenv.cells.lookup y = some c ∧ X.env.cells.lookup y = some c := fun {y} hl => by
    have hy : (y, NameKind.free) ∈ scope.names := PySem.mem_of_lookup hl
    obtain ⟨c', e'⟩ := mem_lookup (cells_acc (names := scope.names) (n := (s.heap.push { cls := .type "dict", data := .dict #[] }).objs.size) (cloFrom_has (cells := X.env.cells) (acc := []) hy))
    rw [← hcl] at e'
    refine ⟨c', e', ?_⟩
    rw [hcl] at e'
    rcases cells_mem (PySem.mem_of_lookup e') with hm | ⟨h1, _, _⟩
    · exact (cm hm).1
    · have := ok.uniq _ h1
      rw [hl] at this; cases this
  have okB : (X.blk s H scope cenv fp).Ok := by
    refine ⟨I.ok.mod, by show cenv.scope.kind = _; rw [hsc]; exact ok.kind, by show cenv.globals = _; rw [← hcenv]; exact I.ok.glob, by show cenv.builtins = _; rw [← hcenv]; exact I.ok.blt, by show s.heap.objs.size ≤ cenv.locals; rw [hL]; exact Nat.le_refl _,
      fun y z c e1 e2 => ?_, fun y hy => ?_, fun y c z e => ?_, I.ok.hd, I.ok.frames, .inl rfl, fun b hb => ⟨?_, fun y c e z => ?_⟩, I.bs, Nat.le_trans I.ok.bsz I.sz, fun b o e hb => ?_, fun b hb z => ?_, I.stack, I.stkFree⟩
    · have e1 : cenv.cells.lookup y = some c := e1
      have e2 : cenv.cells.lookup z = some c := e2
      rw [hcl] at e1 e2
      refine cells_inj (fun p hp => ?_) (fun y z c a b => I.ok.inj y z c (cm a).1 (cm b).1) (PySem.mem_of_lookup e1) (PySem.mem_of_lookup e2)
      rw [Heap.size_push]
      exact Nat.lt_succ_of_lt (cm (y := p.1) (c := p.2) hp).2
    · show ∃ c, cenv.cells.lookup y = some c
      have key : ∀ k, cenv.kindOf y = some k → (k = .cell ∨ k = .free) → ∃ c, cenv.cells.lookup y = some c := fun k hk hk' => by
        unfold Env.kindOf at hk
        rw [hsc] at hk
        obtain ⟨k', e, r⟩ := lookup_relS hk
        have : k' = .cell ∨ k' = .free := by
          rcases r with rfl | ⟨rfl, _⟩
          · exact hk'
          · exact .inr rfl
        rcases this with rfl | rfl
        · obtain ⟨c, hm⟩ := cells_has (n := (s.heap.push { cls := .type "dict", data := .dict #[] }).objs.size) (acc := cloFrom X.env.cells scope.names []) (PySem.mem_of_lookup e)
          obtain ⟨c', e'⟩ := mem_lookup hm
          exact ⟨c', by rw [hcl]; exact e'⟩
        · obtain ⟨c, h1, _⟩ := look e
          exact ⟨c, h1⟩
      rcases hy with hy | hy
      · exact key _ hy (.inl rfl)
      · exact key _ hy (.inr rfl)
    · have z : (scope.names.lookup y == some NameKind.cell) = true := z
      have z : scope.names.lookup y = some .cell := by simpa using z
      have e : cenv.cells.lookup y = some c := e
      rw [hcl] at e
      rcases cells_mem (PySem.mem_of_lookup e) with hm | ⟨_, h2, _⟩
      · rcases cloFrom_mem hm with hm | ⟨h1, _⟩
        · cases hm
        · have q := ok.uniq _ h1
          rw [z] at q; cases q
      · rw [Heap.size_push] at h2
        exact Nat.le_of_succ_le h2
    · show b ≠ cenv.locals
      rw [hL]; exact Nat.ne_of_lt (hfp b hb).2
    · have e : cenv.cells.lookup y = some c := e
      rcases mem e with ⟨h1, _⟩ | ⟨h1, _⟩
      · exact (hfp b hb).1.2.2.2.2.1 y c h1 z
      · have h2 : s.heap.objs.size + 1 ≤ b := by rw [← z]; exact h1
        exact absurd (Nat.lt_of_lt_of_le (hfp b hb).2 (Nat.le_of_succ_le h2)) (Nat.lt_irrefl _)
    · rcases (hfp b hb).1.2.2.2.1 with z | z
      · exact I.ok.noex b o e z
      · exact absurd (Nat.lt_of_lt_of_le (Heap.lt_size e) (Nat.le_trans I.ok.bsz z)) (Nat.lt_irrefl _)
    · rcases List.mem_cons.mp (I.stkSub b z) with z | z
      · exact (hfp b hb).1.2.1 z
      · exact (hfp b hb).1.2.2.1 z
  refine ⟨okB, rfl, I.bare, Un.kept kp, ⟨fun _ => none, ?_, fun i y av e1 e2 e3 => ?_⟩, fun y c e => ?_, ?_, fun y c e => ?_, fun p hp => ?_, I.hok.kept kp, by rw [wipe_length]; exact I.len⟩
  · show Heap.Ns _ cenv.locals _
    rw [hL]
    exact Heap.Ns.keeps (Heap.Ns.new ..) fun b o e => pushCells_keeps _ _ _ _ e
  · obtain ⟨e2, hne⟩ := wipe_some e2
    have hfr : scope.names.lookup y = some .free ∧ (cenv.kindOf y = some .cell ∨ cenv.kindOf y = some .free) := by
      have key : ∀ k, cenv.scope.names.lookup y = some k → k = .local ∨ k = .cell ∨ k = .free → scope.names.lookup y = some .free ∧ (cenv.kindOf y = some .cell ∨ cenv.kindOf y = some .free) := fun k hk hk' => by
        have hk0 := hk
        rw [hsc] at hk
        obtain ⟨k', e, r⟩ := lookup_relS hk
        have no : ¬ (k' = .local ∨ k' = .cell) := fun hh => by
          rcases ok.own _ (PySem.mem_of_lookup e) hh with e' | e'
          · obtain ⟨p, hp, hpy⟩ := List.mem_map.mp e'
            have e3 := ok.ix p hp
            have : p.1 = y := hpy
            rw [this] at e3
            exact hne (List.mem_map.mpr ⟨p, hp, nodup_ix hN e3 e1⟩)
          · exact e' (List.mem_of_getElem? e1)
        rcases r with rfl | ⟨rfl, rfl⟩
        · rcases hk' with rfl | rfl | rfl
          · exact absurd (.inl rfl) no
          · exact absurd (.inr rfl) no
          · exact ⟨e, .inr hk0⟩
        · exact ⟨e, .inl hk0⟩
      have e3 : Vis cenv.scope y := e3
      rcases e3 with e3 | e3 | e3
      · exact key _ e3 (.inl rfl)
      · exact key _ e3 (.inr (.inl rfl))
      · exact key _ e3 (.inr (.inr rfl))
    obtain ⟨m, hn, hl⟩ := I.loc
    have hvis : Vis X.env.scope y := (ok.free _ (PySem.mem_of_lookup hfr.1) rfl).elim (fun k => .inr (.inl k)) (fun k => .inr (.inr k))
    obtain ⟨w, r, q⟩ := hl i y av e1 e2 hvis
    refine ⟨w, r, .inr ⟨hfr.2, ?_⟩⟩
    obtain ⟨c, h1, h2⟩ := look hfr.1
    rcases q with ⟨k, _⟩ | ⟨_, c', e', z⟩
    · have k : X.env.scope.names.lookup y = some .local := k
      rcases ok.free _ (PySem.mem_of_lookup hfr.1) rfl with k' | k' <;> rw [show X.env.scope.names.lookup y = _ from k'] at k <;> cases k
    · rw [h2] at e'; cases e'
      exact ⟨c, h1, z.keeps kp⟩
  · have e : cenv.cells.lookup y = some c := e
    rcases mem e with ⟨h1, _⟩ | ⟨_, z⟩
    · obtain ⟨w, z⟩ := I.cell y c h1
      exact ⟨w, z.keeps kp⟩
    · exact ⟨_, z⟩
  · show H cenv.locals = none
    rw [hL]; exact I.hok.fresh (Nat.le_refl _)
  · have e : cenv.cells.lookup y = some c := e
    rcases mem e with ⟨h1, _⟩ | ⟨h1, _⟩
    · exact I.freeC y c h1
    · exact I.hok.fresh (Nat.le_of_succ_le h1)
  · exact absurd (show p ∈ ([] : List (Addr × Obj)) ++ [] from hp) (by simp)
/-- an item appended to a tracked list -/
theorem app_ok {E : Value → Shared → Prop} {D : Addr} {xs : List V} {y : V} {v : Value} {Q : Value → Shared → Prop} (I : Inv X pins σ H s) (hD : H D = some (.lst xs)) (hz : xs.length < sizeLine) (r : RelV y v)
    (h : ∀ s', Inv X pins σ (upd H D (.lst (xs ++ [y]))) s' → Q .none s') : wpAny (model X.prog X.w) X.A (call (.builtin "list.append") [.ref D, v]) Q E s := by
  obtain ⟨hz', its, n, ri, e⟩ := I.hok D _ hD
  have hl := ri.length
  refine append_at (hsz := by rw [List.size_toArray]; omega) e fun h' sb ho' => ?_
  refine h { s with heap := h' } (I.write (t' := s.toks) (by rw [hD]; trivial) (.inl rfl) (fun b u hb q => (sb.2 b hb).trans q) ⟨_, ho'⟩ ⟨by rw [List.length_append]; exact hz, its ++ [v], n + 1, ri.append (.cons r .nil), ?_⟩)
  rw [ho']
  simp
/-- a clause's tests -/
def PTs (X : Cx) (ifs : List Expr) (t : TT) : Prop :=
  ∀ (pins : List (Addr × Obj)) (s : Shared) (σ : St) (H : Hp) (Q : Bool → Hp → Prop), Inv X pins σ H s → t σ H Q →
    wpAny (model X.prog X.w) X.A (forIn ifs true fun c r => if r = true then do let ok ← isTrue c X.env (eval c X.env); pure (ForInStep.yield ok) else pure (ForInStep.yield r)) (TP X pins σ Q) X.xe s
def tYes : TT := fun _ H Q => Q true H
theorem pts_nil : PTs X [] tYes := fun _ _ _ H _ I h => wpAny_tests_nil ⟨H, I, h⟩
end
theorem thnF {α : Type} {t : Sem α} {Q Q' : α → Shared → Prop} {M : Model} {A : Around} {E : Value → Shared → Prop} {s : Shared} (h : wpAny M A t Q (fun _ _ => False) s) (hQ : ∀ a s, Q a s → Q' a s) : wpAny M A t Q' E s := wpAny_mono h hQ fun _ _ z => False.elim z
/-- the loop of a list comprehension's block, the target of any form (codeAny_compLoop_tests asks a target that no tuple goes to; statement and proof follow it, PyProof/CompMap.lean:41-61, with the step letOwnedTupleGo kept) -/
theorem compLoop_any {prog : Program} {w : World} {A : Around} {R : Result → Shared → Prop} {s : Shared} {elt target iter : Expr} {ifs : List Expr} {scope : Scope} {pos : Pos} {it acc : Value} {env : Env} (I : Nat → Shared → Prop)
    (turn : ∀ n s, I n s → wpAny (model prog w) A (pyNext it) (fun r s₁ => match r with
      | none => R (.ok .next) s₁
      | some v => wpAny (model prog w) A (letOwnedTupleGo target it v) (fun _ s₁' => wpAny (model prog w) A (assign target env v) (fun _ s₂ =>
          wpAny (model prog w) A (forIn ifs true fun c r => if r = true then do let ok ← isTrue c env (eval c env); pure (ForInStep.yield ok) else pure (ForInStep.yield r)) (fun ok s₃ =>
            if ok = true then wpAny (model prog w) A (eval elt env) (fun x s₄ =>
              wpAny (model prog w) A (call (.builtin "list.append") [acc, x]) (fun _ s₅ => ∃ m, m < n ∧ I m s₅) (notedBy (model prog w) A env fun e s' => R (.error e) s') s₄) (notedBy (model prog w) A env fun e s' => R (.error e) s') s₃
            else ∃ m, m < n ∧ I m s₃) (notedBy (model prog w) A env fun e s' => R (.error e) s') s₂) (notedBy (model prog w) A env fun e s' => R (.error e) s') s₁') (notedBy (model prog w) A env fun e s' => R (.error e) s') s₁) (notedBy (model prog w) A env fun e s' => R (.error e) s') s)
    (n : Nat) (h : I n s) :
    codeAny (model prog w) A (.compLoop (.ListComp elt [⟨target, iter, ifs, 0⟩] scope pos) 0 it acc env) R s := by
  refine codeAny_loop rfl I (fun n s hI => ?_) n h
  show wpAny _ A ((compTurn (.ListComp elt [⟨target, iter, ifs, 0⟩] scope pos) 0 it acc env).onRaise (fun x => do noteFrame x env; theTreesLotGoes x)) _ _ s
  refine wpAny_noted ?_
  rw [compTurn_list]
  refine wpAny_bind (wpAny_standAt (wpAny_bind (wpAny_mono (turn n s hI) (fun r s₁ h₁ => ?_) fun _ _ h' => h')))
  cases r with
  | none => exact wpAny_pure h₁
  | some v =>
    refine wpAny_bind (wpAny_mono h₁ (fun _ s₁' h₁' => ?_) fun _ _ h' => h')
    refine wpAny_bind (wpAny_mono h₁' (fun _ s₂ h₂ => wpAny_bind (wpAny_mono h₂ (fun ok s₃ h₃ => ?_) fun _ _ h' => h')) fun _ _ h' => h')
    cases ok with
    | false => exact wpAny_pure ⟨rfl, h₃⟩
    | true =>
      exact wpAny_bind (wpAny_bind (wpAny_mono h₃ (fun x s₄ h₄ => wpAny_bind (wpAny_mono h₄ (fun _ s₅ h₅ => wpAny_pure (wpAny_pure ⟨rfl, h₅⟩)) fun _ _ h' => h')) fun _ _ h' => h'))
section
variable {X : Cx}
/-- [elt for target in iter if ..]: D the new list; W by the turn and a measure, Nx what a turn is to reach -/
def tLc (wi : TI) (g : TG) (tt : TT) (te : TE) (vs : List Nat) : TE := fun σ H Q => wi σ H fun J H1 => ∀ D, H1 D = none → ∃ W : Nat → Nat → Hp → Prop, (∃ m, W 0 m (upd H1 D (.lst []))) ∧ ∀ i m H, W i m H →
  (J.stop i H ∧ Q (.ref D) H) ∨ (J.go i H ∧ ∃ Nx : Hp → Prop, (∀ H', Nx H' → ∃ m', m' < m ∧ W (i + 1) m' H') ∧ ∀ x H', J.yld i H x H' → g x (wipe σ vs) H' fun σ2 H2 => wipe σ2 vs = wipe σ vs ∧ tt σ2 H2 fun b H3 =>
    if b = true then te σ2 H3 fun y H4 => ∃ acc, H4 D = some (.lst acc) ∧ acc.length < sizeLine ∧ Nx (upd H4 D (.lst (acc ++ [y]))) else Nx H3)
theorem lc_core {pins : List (Addr × Obj)} {s : Shared} {σ : St} {H : Hp} {Q : VK} {elt tg iter : Expr} {ifs : List Expr} {scope : Scope} {own : List (Str × Nat)} {pos pos' : Pos} {wi : TI} {g : TG} {tt : TT} {te : TE} {use : Option (Value → Sem Unit)} {Qf : Value → Shared → Prop}
    (hc : X.calm = true) (hN : X.N.Nodup) (I : Inv X pins σ H s) (hi : PI X tg iter wi) (ok : BlkOk X.N X.env.scope scope own)
    (hg : ∀ (s : Shared) (H : Hp) (C : Addr) (cl : List (Str × Addr)) (fp : List Addr), PG (X.blk s H scope (compEnvC scope cl C X.env) fp) tg g) (ht : ∀ (s : Shared) (H : Hp) (C : Addr) (cl : List (Str × Addr)) (fp : List Addr), PTs (X.blk s H scope (compEnvC scope cl C X.env) fp) ifs tt)
    (he : ∀ (s : Shared) (H : Hp) (C : Addr) (cl : List (Str × Addr)) (fp : List Addr), PE (X.blk s H scope (compEnvC scope cl C X.env) fp) elt te) (hs : ∀ x, foldedSetIterable iter X.env x = pure x)
    (h : tLc wi g tt te (own.map (·.2)) σ H Q)
    (hRR : ∀ D C s' m H', Inv X pins σ H' s' → Q (.ref D) H' → s'.heap.Ns C m → FpOk X pins H' C → compPost (model X.prog X.w) X.A X.xe use Qf (.ref D) C (.ok .next) s') :
    wpAny (model X.prog X.w) X.A (comprehension (.ListComp elt [⟨tg, iter, ifs, 0⟩] scope pos) scope X.env pos' (newList []) false (eval iter X.env) use) Qf X.xe s := by
  have hfree : ∀ y ∈ scope.names, y.2 = .free → ∃ c, X.env.cells.lookup y.1 = some c := fun y hy e => by
    rcases ok.free y hy e with k | k
    · exact I.ok.has _ (.inl k)
    · exact I.ok.has _ (.inr k)
  refine wpAny_comprehension_free (use := use) rfl hs (closure_ok hfree) ok.kind (fun y hy e => by rw [ok.uniq y hy, e])
    (thn (hi pins s σ H _ I h) fun xv s1 hx => thn hx fun itv s2 h2 => ?_)
  obtain ⟨it, fp, tn, J, H2, e, I2, T, st2, f2, q⟩ := h2
  subst e
  refine wpAny_newObj_type (newEnv_comp ?_) (by show 0 ≤ sizeLine; decide)
  generalize hD : s2.heap.objs.size = D
  have hDn : H2 D = none := I2.hok.fresh (Nat.le_of_eq hD)
  obtain ⟨W, ⟨m0, w0⟩, turn⟩ := q D hDn
  -- the new list
  generalize hs3 : ({ s2 with heap := s2.heap.push { cls := .type "list", data := .seq ([] : List Value).toArray } } : Shared) = s3
  have I3 : Inv X pins σ (upd H2 D (.lst [])) s3 := by
    rw [← hs3]
    refine I2.laid (t' := s2.toks) (fun b o e => Heap.get?_push_of_some _ e) (Nat.le_of_eq hD) ⟨Nat.zero_le _, [], 0, .nil, ?_⟩
    rw [← hD]
    exact Heap.get?_push_size _ rfl
  have h3 : s3.heap = s2.heap.push { cls := .type "list", data := .seq ([] : List Value).toArray } := by rw [← hs3]
  have sz : ∀ b ∈ fp, b < s2.heap.objs.size := fun b hb => by
    obtain ⟨o, e, _⟩ := T.obj _ _ st2 b hb
    exact Heap.lt_size e
  have f3 : ∀ b ∈ fp, FpOk X pins (upd H2 D (.lst [])) b ∧ b < s3.heap.objs.size := fun b hb => by
    have hlt := sz b hb
    refine ⟨⟨?_, (f2 b hb).2⟩, by rw [h3, Heap.size_push]; exact Nat.lt_succ_of_lt hlt⟩
    rw [upd_ne (by rw [← hD]; exact Nat.ne_of_lt hlt)]
    exact (f2 b hb).1
  have st3 : tn 0 s3.heap := T.keep _ _ _ st2 fun b _ o e => by rw [h3]; exact Heap.get?_push_of_some _ e
  have I4 := block_start I3 ok hN f3
  have pg := hg s3 (upd H2 D (.lst [])) s3.heap.objs.size (cellsFrom (s3.heap.objs.size + 1) scope.names (cloFrom X.env.cells scope.names [])) fp
  have pt := ht s3 (upd H2 D (.lst [])) s3.heap.objs.size (cellsFrom (s3.heap.objs.size + 1) scope.names (cloFrom X.env.cells scope.names [])) fp
  have pe := he s3 (upd H2 D (.lst [])) s3.heap.objs.size (cellsFrom (s3.heap.objs.size + 1) scope.names (cloFrom X.env.cells scope.names [])) fp
  show codeAny _ _ (.compStart (.ListComp elt [⟨tg, iter, ifs, 0⟩] scope pos) 0 (.ref it) (.ref D) (compEnvC scope (cellsFrom (s3.heap.objs.size + 1) scope.names (cloFrom X.env.cells scope.names [])) s3.heap.objs.size X.env)) (compPost (model X.prog X.w) X.A X.xe use Qf (.ref D) s3.heap.objs.size) { s3 with heap := pushCells (s3.heap.push { cls := .type "dict", data := .dict #[] }) scope.names }
  have nfp : ∀ b ∈ fp, (upd H2 D (.lst [])) b = none := fun b hb => (f3 b hb).1.1
  generalize hce : compEnvC scope (cellsFrom (s3.heap.objs.size + 1) scope.names (cloFrom X.env.cells scope.names [])) s3.heap.objs.size X.env = ce at I4 pg pt pe ⊢
  have cL : ce.locals = s3.heap.objs.size := by subst hce; rfl
  generalize hH3 : upd H2 D (.lst []) = H3 at I3 I4 pg pt pe w0 nfp f3
  generalize hs4 : ({ s3 with heap := pushCells (s3.heap.push { cls := .type "dict", data := .dict #[] }) scope.names } : Shared) = s4 at I4 ⊢
  have st4 : tn 0 s4.heap := T.keep _ _ _ st3 fun b _ o e => by rw [← hs4]; exact pushCells_keeps _ _ _ _ (Heap.get?_push_of_some _ e)
  have stat : ∀ {σ' : St} {H' : Hp} {s' : Shared}, Inv (X.blk s3 H3 scope ce fp) [] σ' H' s' → (∀ b ∈ fp, H' b = none) → ∀ b ∈ fp, FpOk (X.blk s3 H3 scope ce fp) [] H' b := fun {σ' H' s'} I' hn b hb =>
    ⟨hn b hb, (I'.ok.exf b hb).1, I'.ok.exfs b hb, .inl hb, fun x c e => (I'.ok.exf b hb).2 x c e, fun p hp => absurd (show p ∈ ([] : List (Addr × Obj)) ++ [] from hp) (by simp)⟩
  have loop : codeAny (model X.prog X.w) X.A (.compLoop (.ListComp elt [⟨tg, iter, ifs, 0⟩] scope pos) 0 (.ref it) (.ref D) ce) (compPost (model X.prog X.w) X.A X.xe use Qf (.ref D) s3.heap.objs.size) s4 := by
    refine compLoop_any (fun n s' => ∃ i H', Inv (X.blk s3 H3 scope ce fp) [] (wipe σ (own.map (·.2))) H' s' ∧ tn i s'.heap ∧ (∀ b ∈ fp, H' b = none) ∧ W i n H') ?_ m0 ⟨0, H3, I4, st4, nfp, w0⟩
    rintro n s5 ⟨i, H5, I5, st5, n5, w5⟩
    rcases turn i n H5 w5 with ⟨stop, qq⟩ | ⟨go, Nx, hNx, step⟩
    · have td := T.done (X.blk s3 H3 scope ce fp) rfl rfl rfl hc i [] s5 _ H5 (fun _ _ => False) I5 (stat I5 n5) st5 stop
      refine thnF td fun r s6 ⟨hr, I6⟩ => ?_
      subst hr
      -- back in the def's context
      have I7 : Inv X pins σ H5 s6 := I3.call' (ch := fp) I6.os I6.base I6.hok I6.bare fun b hb => ⟨(f3 b hb).1.2.2.2.1, (f3 b hb).1.2.1, (f3 b hb).1.2.2.2.2.1, (f3 b hb).1.2.2.2.2.2⟩
      have nC : H5 s3.heap.objs.size = none := by
        have z : H5 ce.locals = none := I6.free
        rw [cL] at z
        exact z
      obtain ⟨m, hn, _⟩ := I6.loc
      have hn : s6.heap.Ns ce.locals m := hn
      rw [cL] at hn
      exact hRR D s3.heap.objs.size s6 m H5 I7 qq hn (I3.fpOk (Nat.le_refl _) nC)
    · have ti := T.item (X.blk s3 H3 scope ce fp) rfl rfl rfl hc i [] s5 _ H5 (fun _ _ => False) I5 (stat I5 n5) st5 go
      refine thnF ti fun r s6 ⟨u, hr, h6⟩ => ?_
      subst hr
      refine thnF h6 fun _ s7 ⟨x, H7, I7, r7, y7, st7, n7⟩ => ?_
      have I7' := I7.pinned (stat I7 n7) (T.obj _ _ st7)
      refine thnF (pg _ s7 _ H7 x u _ I7' r7 (step x H7 y7)) fun _ s8 ⟨σ8, H8, I8, hw8, q8⟩ => ?_
      refine thnF (pt _ s8 σ8 H8 _ I8 q8) fun b s9 ⟨H9, I9, q9⟩ => ?_
      -- the turn's end
      have fin : ∀ {s' : Shared} {H' : Hp}, Inv (X.blk s3 H3 scope ce fp) ([] ++ pinsAt fp s7.heap) σ8 H' s' → Nx H' → ∃ m, m < n ∧ ∃ i H', Inv (X.blk s3 H3 scope ce fp) [] (wipe σ (own.map (·.2))) H' s' ∧ tn i s'.heap ∧ (∀ b ∈ fp, H' b = none) ∧ W i m H' := fun {s' H'} I' nx => by
        obtain ⟨m', hm, w'⟩ := hNx H' nx
        have pin' : ∀ b ∈ fp, ∀ o, s7.heap.get? b = some o → s'.heap.get? b = some o ∧ H' b = none := fun b hb o e =>
          let z := I'.pin (b, o) (List.mem_append_right _ (List.mem_append_right _ (mem_pinsAt hb e)))
          ⟨z.1, z.2.1⟩
        have hl : (wipe σ (own.map (·.2))).length = σ8.length := by rw [← hw8, wipe_length]
        refine ⟨m', hm, i + 1, H', (I'.unpinned (pins := [])).weak hl (fun j v e => ?_), T.keep _ _ _ st7 fun b hb o e => (pin' b hb o e).1, fun b hb => ?_, w'⟩
        · rw [← hw8] at e
          exact (wipe_some e).1
        · obtain ⟨o, e, _⟩ := T.obj _ _ st7 b hb
          exact (pin' b hb o e).2
      cases b with
      | false =>
        simp only [Bool.false_eq_true, if_false] at q9 ⊢
        exact fin I9 q9
      | true =>
        simp only [if_true] at q9 ⊢
        refine thnF (pe _ s9 σ8 H9 _ I9 q9) fun z s10 ⟨yv, H10, I10, r10, acc, hD10, hz10, nx⟩ => ?_
        exact app_ok (X := X.blk s3 H3 scope ce fp) I10 hD10 hz10 r10 fun s11 I11 => fin I11 nx
  exact codeAny_compStart_list loop (T.self X.A 0 _ _ _ st4 loop)
/-- as a value -/
theorem pe_lc {elt tg iter : Expr} {ifs : List Expr} {scope : Scope} {own : List (Str × Nat)} {pos : Pos} {wi : TI} {g : TG} {tt : TT} {te : TE} (hc : X.calm = true) (hN : X.N.Nodup) (hi : PI X tg iter wi) (ok : BlkOk X.N X.env.scope scope own)
    (hg : ∀ (s : Shared) (H : Hp) (C : Addr) (cl : List (Str × Addr)) (fp : List Addr), PG (X.blk s H scope (compEnvC scope cl C X.env) fp) tg g) (ht : ∀ (s : Shared) (H : Hp) (C : Addr) (cl : List (Str × Addr)) (fp : List Addr), PTs (X.blk s H scope (compEnvC scope cl C X.env) fp) ifs tt)
    (he : ∀ (s : Shared) (H : Hp) (C : Addr) (cl : List (Str × Addr)) (fp : List Addr), PE (X.blk s H scope (compEnvC scope cl C X.env) fp) elt te) (hs : ∀ x, foldedSetIterable iter X.env x = pure x := by intro _; rfl) :
    PE X (.ListComp elt [⟨tg, iter, ifs, 0⟩] scope pos) (tLc wi g tt te (own.map (·.2))) := by
  intro pins s σ H Q I h
  rw [eval_ListComp]
  refine lc_core hc hN I hi ok hg ht he hs h fun D C s' m H' I' q hn f => ⟨m, hn, fun h'' sb => ?_⟩
  obtain ⟨f0, f1, f2, f3, f4, f5⟩ := f
  exact ⟨.ref D, H', I'.turned (t' := s'.toks) (fun b o hb e => (sb.2 b hb).trans e) f0 f1 f3 f4 f5, rfl, q⟩
/-- name = [..] on one line, the name a local -/
theorem ps_setLc {i : Nat} {y : Str} {py : Pos} {elt tg iter : Expr} {ifs : List Expr} {scope : Scope} {own : List (Str × Nat)} {pos spos : Pos} {wi : TI} {g : TG} {tt : TT} {te : TE} (hc : X.calm = true) (hN : X.N.Nodup) (hy : X.N[i]? = some y) (hyl : X.env.scope.names.lookup y = some .local)
    (hsw : swapsWith (.ListComp elt [⟨tg, iter, ifs, 0⟩] scope pos) (some (.Name y py)) spos.line X.env = pure true) (hi : PI X tg iter wi) (ok : BlkOk X.N X.env.scope scope own)
    (hg : ∀ (s : Shared) (H : Hp) (C : Addr) (cl : List (Str × Addr)) (fp : List Addr), PG (X.blk s H scope (compEnvC scope cl C X.env) fp) tg g) (ht : ∀ (s : Shared) (H : Hp) (C : Addr) (cl : List (Str × Addr)) (fp : List Addr), PTs (X.blk s H scope (compEnvC scope cl C X.env) fp) ifs tt)
    (he : ∀ (s : Shared) (H : Hp) (C : Addr) (cl : List (Str × Addr)) (fp : List Addr), PE (X.blk s H scope (compEnvC scope cl C X.env) fp) elt te) (hs : ∀ x, foldedSetIterable iter X.env x = pure x := by intro _; rfl) :
    PS X (.Assign [.Name y py] (.ListComp elt [⟨tg, iter, ifs, 0⟩] scope pos) spos) (tAsg (tLc wi g tt te (own.map (·.2))) (gName i)) := by
  intro pins s σ H D I h
  rw [exec_Assign_Name_used _ _ _ _ hsw]
  refine wpAny_bind (wpAny_standAt (wpAny_bind ?_))
  show wpAny _ X.A (do let _ ← comprehension (.ListComp elt [⟨tg, iter, ifs, 0⟩] scope pos) scope X.env (firstIterPos [⟨tg, iter, ifs, 0⟩] pos) (newList []) false (eval iter X.env) (some (assign (.Name y py) X.env))) _ _ s
  have h : tLc wi g tt te (own.map (·.2)) σ H (fun x H1 => gName i x σ H1 D.nx) := h
  refine wpAny_bind (thn (lc_core (Qf := fun _ s' => SP X pins D .next s') hc hN I hi ok hg ht he hs h fun L C s' m H' I' q hn f => ?_) fun _ s' hq => wpAny_pure (wpAny_pure hq))
  show wpAny _ _ (assign (.Name y py) X.env (.ref L)) _ _ _
  refine wpAny_assign_Name (store_ok2 (v := V.ref L) I' hN hy (.inl hyl) rfl (fun s2 I2 ⟨a, sb, ha⟩ => ?_) (.inr hyl))
  obtain ⟨f0, f1, f2, f3, f4, f5⟩ := f
  have haC : C ≠ a := by
    rcases ha with z | z
    · rw [z]; exact f1
    · exact fun e => f4 y a z e.symm
  refine ⟨m, hn.sameBut sb haC, fun h3 sb3 => ?_⟩
  exact ⟨_, H', I2.turned (t' := s2.toks) (fun b o hb e => (sb3.2 b hb).trans e) f0 f1 f3 f4 f5, q⟩
end
/-- over a range: Pv by the turn and the heap (the new list at D within) -/
theorem lc_range {lo : Int} {n : Nat} {g : TG} {tt : TT} {te : TE} {vs : List Nat} {σ : St} {H1 : Hp} {D : Addr} {Qd : Hp → Prop} (Pv : Nat → Hp → Prop) (h0 : Pv 0 (upd H1 D (.lst [])))
    (hs : ∀ i H, i < n → Pv i H → g (.int (lo + i)) (wipe σ vs) H fun σ2 H2 => wipe σ2 vs = wipe σ vs ∧ tt σ2 H2 fun b H3 =>
      if b = true then te σ2 H3 fun y H4 => ∃ acc, H4 D = some (.lst acc) ∧ acc.length < sizeLine ∧ Pv (i + 1) (upd H4 D (.lst (acc ++ [y]))) else Pv (i + 1) H3) (hd : ∀ H, Pv n H → Qd H) :
    ∃ W : Nat → Nat → Hp → Prop, (∃ m, W 0 m (upd H1 D (.lst []))) ∧ ∀ i m H, W i m H →
      ((Itr lo n).stop i H ∧ Qd H) ∨ ((Itr lo n).go i H ∧ ∃ Nx : Hp → Prop, (∀ H', Nx H' → ∃ m', m' < m ∧ W (i + 1) m' H') ∧ ∀ x H', (Itr lo n).yld i H x H' → g x (wipe σ vs) H' fun σ2 H2 => wipe σ2 vs = wipe σ vs ∧ tt σ2 H2 fun b H3 =>
        if b = true then te σ2 H3 fun y H4 => ∃ acc, H4 D = some (.lst acc) ∧ acc.length < sizeLine ∧ Nx (upd H4 D (.lst (acc ++ [y]))) else Nx H3) := by
  refine ⟨fun i m H => m = n - i ∧ i ≤ n ∧ Pv i H, ⟨n, by simp, Nat.zero_le _, h0⟩, ?_⟩
  rintro i m H ⟨rfl, hi, p⟩
  by_cases hlt : i < n
  · refine .inr ⟨hlt, Pv (i + 1), fun H' p' => ⟨n - (i + 1), by omega, rfl, hlt, p'⟩, fun x H' y => ?_⟩
    obtain ⟨e, y⟩ := y
    subst e y
    exact hs i _ hlt p
  · have e : i = n := by omega
    subst e
    exact .inl ⟨Nat.le_refl _, hd H p⟩
/-- over a list that the block leaves as it is -/
theorem lc_list {K : PySem.W.Frag} {a : Addr} {xs : List V} {g : TG} {tt : TT} {te : TE} {vs : List Nat} {σ : St} {H1 : Hp} {D : Addr} {Qd : Hp → Prop} (Pv : Nat → Hp → Prop) (h0 : Pv 0 (upd H1 D (.lst []))) (hl : ∀ i H, i ≤ xs.length → Pv i H → SqL K H a xs)
    (hs : ∀ i x H, xs[i]? = some x → Pv i H → g x (wipe σ vs) H fun σ2 H2 => wipe σ2 vs = wipe σ vs ∧ tt σ2 H2 fun b H3 =>
      if b = true then te σ2 H3 fun y H4 => ∃ acc, H4 D = some (.lst acc) ∧ acc.length < sizeLine ∧ Pv (i + 1) (upd H4 D (.lst (acc ++ [y]))) else Pv (i + 1) H3) (hd : ∀ H, Pv xs.length H → Qd H) :
    ∃ W : Nat → Nat → Hp → Prop, (∃ m, W 0 m (upd H1 D (.lst []))) ∧ ∀ i m H, W i m H →
      ((Itl K a).stop i H ∧ Qd H) ∨ ((Itl K a).go i H ∧ ∃ Nx : Hp → Prop, (∀ H', Nx H' → ∃ m', m' < m ∧ W (i + 1) m' H') ∧ ∀ x H', (Itl K a).yld i H x H' → g x (wipe σ vs) H' fun σ2 H2 => wipe σ2 vs = wipe σ vs ∧ tt σ2 H2 fun b H3 =>
        if b = true then te σ2 H3 fun y H4 => ∃ acc, H4 D = some (.lst acc) ∧ acc.length < sizeLine ∧ Nx (upd H4 D (.lst (acc ++ [y]))) else Nx H3) := by
  refine ⟨fun i m H => m = xs.length - i ∧ i ≤ xs.length ∧ Pv i H, ⟨xs.length, by simp, Nat.zero_le _, h0⟩, ?_⟩
  rintro i m H ⟨rfl, hi, p⟩
  have q := hl i H hi p
  by_cases hlt : i < xs.length
  · refine .inr ⟨⟨xs, xs[i], q, by simp [hlt]⟩, Pv (i + 1), fun H' p' => ⟨xs.length - (i + 1), by omega, rfl, hlt, p'⟩, fun x H' y => ?_⟩
    obtain ⟨e, y⟩ := y
    subst e
    exact hs i x _ (y xs q) p
  · have e : i = xs.length := by omega
    subst e
    exact .inl ⟨⟨xs, q, Nat.le_refl _⟩, hd H p⟩
def blkC (N : List Str) (sc scope : Scope) (own : List (Str × Nat)) : Bool :=
  (match scope.kind with | .function => true | _ => false) && (scope.names.all fun y => decide (scope.names.lookup y.1 = some y.2)) && (own.all fun p => decide (N[p.2]? = some p.1)) &&
    (scope.names.all fun y => match y.2 with
      | .free => (match sc.names.lookup y.1 with | some .cell => true | some .free => true | _ => false)
      | .local => decide (y.1 ∈ own.map (·.1)) || decide (y.1 ∉ N)
      | .cell => decide (y.1 ∈ own.map (·.1)) || decide (y.1 ∉ N)
      | _ => true)
theorem blkOk_by {N : List Str} {sc scope : Scope} {own : List (Str × Nat)} (h : blkC N sc scope own = true) : BlkOk N sc scope own := by
  unfold blkC at h
  simp only [Bool.and_eq_true, List.all_eq_true, decide_eq_true_eq] at h
  obtain ⟨⟨⟨h1, h2⟩, h3⟩, h4⟩ := h
  refine ⟨?_, h2, h3, fun y hy e => ?_, fun y hy e => ?_⟩
  · split at h1
    · assumption
    · cases h1
  · have q := h4 y hy
    simp only [e] at q
    split at q <;> first | exact .inl (by assumption) | exact .inr (by assumption) | cases q
  · have q := h4 y hy
    rcases e with e | e <;> (simp only [e, Bool.or_eq_true, decide_eq_true_eq] at q; exact q)
end L2
namespace L2
open PySem PySem.Spec PyProof.Rows
section
variable {prog : Program} {w : World} {A : Around} {R : Result → Shared → Prop} {s : Shared} {elt t0 i0 t1 i1 : Expr} {ifs0 ifs1 : List Expr} {scope : Scope} {pos : Pos} {it acc : Value} {env : Env}
end
section
variable {X : Cx}
end
end L2
namespace L2
open PySem PySem.Spec PyProof.Rows
section
variable {κ : Type} [DecidableEq κ]
end
section
variable {P : Program} {w : World} {H : Hp} {h : Heap} {a : Addr}
end
section
variable {X : Cx} {pins : List (Addr × Obj)} {σ : St} {H : Hp} {s : Shared} {a : Addr} {y v : V} {u r : Value} {o : Option V} {A : Around} {E : Value → Shared → Prop}
end
section
variable {X : Cx} {pins : List (Addr × Obj)} {σ : St} {H : Hp} {s : Shared} {a : Addr} {kvs : List (Key × V)} {k : Key} {u : Value} {A : Around} {E : Value → Shared → Prop}
end
section
variable {X : Cx} {o i e value : Expr} {pos pos' tpos : Pos} {td ty tv : TE}
end
section
variable {X : Cx} {pos : Pos}
end
section
variable {X : Cx} {pins : List (Addr × Obj)} {σ : St} {H : Hp} {s : Shared} {a : Addr} {y d : V} {u r : Value} {o : Option V} {A : Around} {E : Value → Shared → Prop}
end
section
variable {X : Cx} {o e f : Expr} {apos cpos : Pos} {td ty tx : TE}
end
section
variable {X : Cx} {pins : List (Addr × Obj)} {σ : St} {H : Hp} {s : Shared} {a : Addr} {kvs : List (Key × V)} {A : Around} {E : Value → Shared → Prop}
end
section
variable {X : Cx} {pins : List (Addr × Obj)} {σ : St} {H : Hp} {s : Shared} {a : Addr} {y : V} {u : Value} {A : Around} {E : Value → Shared → Prop}
end
end L2
namespace L2
open PySem PySem.Spec PyProof.Rows
section
variable {prog : Program} {w : World} {A : Around} {E : Value → Shared → Prop}
end
section
variable {X : Cx}
end
end L2
namespace L2
open PySem PySem.Spec PyProof.Rows
section
variable {X : Cx} {pins : List (Addr × Obj)} {σ : St} {H : Hp} {s : Shared} {h' : Heap}
/-- several records of ours have turned -/
theorem Inv.turnedL {t' : Nat} {ch : List Addr} (I : Inv X pins σ H s) (k : ∀ b o, b ∉ ch → s.heap.get? b = some o → h'.get? b = some o) (hf : ∀ b ∈ ch, FpOk X pins H b) : Inv X pins σ H { s with heap := h', toks := t' } := by
  have nit : ∀ b u, H b = some u → b ∉ ch := fun b u e z => by
    have q := (hf b z).1
    rw [q] at e; cases e
  refine I.step (g' := s.gens) (d' := s.drawn) (ch := ch) (fun b hb => ⟨(hf b hb).2.2.2.1, (hf b hb).2.1, (hf b hb).2.2.2.2.1, (hf b hb).2.2.2.2.2⟩) (fun b o _ _ hc e _ => k b o hc e) (fun b o _ _ hc e _ => ⟨o.slots, k b o hc e⟩)
    (fun _ _ _ _ n => n) (fun b o hc e => ⟨o, k b o hc e⟩) (fun _ _ e => e) (fun _ _ _ e => e) (fun b ps e => ⟨#[], by rw [e]; simp⟩) (fun m hm => ?_) (fun b u e => ?_) I.bare
  · obtain ⟨o, es, ep, ho, r⟩ := hm
    exact ⟨o, es, ep, k _ o (fun z => (hf _ z).2.1 rfl) ho, r⟩
  · refine (I.hok b u e).stay (fun c v hc q => k c v ?_ q) (fun _ q => q) fun _ _ q => q
    rcases hc with z | z
    · rw [z]; exact nit b u e
    · exact nit c _ z
/-- .. and one new object is laid -/
theorem Inv.turnedNew {t' : Nat} {ch : List Addr} {T : Addr} {ob : HO} (I : Inv X pins σ H s) (k : ∀ b o, b ∉ ch → s.heap.get? b = some o → h'.get? b = some o) (hf : ∀ b ∈ ch, FpOk X pins H b) (hT : s.heap.objs.size ≤ T)
    (new : ObjOk X.prog X.w (upd H T ob) h' T ob) : Inv X pins σ (upd H T ob) { s with heap := h', toks := t' } := by
  have hn : H T = none := I.hok.fresh hT
  have nit : ∀ b u, H b = some u → b ∉ ch := fun b u e z => by
    have q := (hf b z).1
    rw [q] at e; cases e
  refine I.step (g' := s.gens) (d' := s.drawn) (ch := ch) (fun b hb => ⟨(hf b hb).2.2.2.1, (hf b hb).2.1, (hf b hb).2.2.2.2.1, (hf b hb).2.2.2.2.2⟩) (fun b o _ _ hc e _ => k b o hc e) (fun b o _ _ hc e _ => ⟨o.slots, k b o hc e⟩)
    (fun b o _ e n => ?_) (fun b o hc e => ⟨o, k b o hc e⟩) (fun b xs e => ?_) (fun b o u e => ?_) (fun b ps e => ⟨#[], ?_⟩) (fun m hm => ?_) (fun b u e => ?_) I.bare
  · rw [upd_ne (Nat.ne_of_lt (Nat.lt_of_lt_of_le (Heap.lt_size e) hT))]; exact n
  · rw [upd_ne (ne_of_none e hn)]; exact e
  · rw [upd_ne (ne_of_none e hn)]; exact e
  · rw [upd_ne (ne_of_none e hn), e]; simp
  · obtain ⟨o, es, ep, ho, r⟩ := hm
    exact ⟨o, es, ep, k _ o (fun z => (hf _ z).2.1 rfl) ho, r⟩
  · by_cases hb : b = T
    · subst hb
      rw [upd_same] at e
      cases e
      exact new
    · rw [upd_ne hb] at e
      refine (I.hok b u e).stay (fun c v hc q => k c v ?_ q) (fun c q => by rw [upd_ne (ne_of_none q hn)]; exact q) fun c xs q => by rw [upd_ne (ne_of_none q hn)]; exact q
      rcases hc with z | z
      · rw [z]; exact nit b u e
      · exact nit c _ z
end
section
variable {X : Cx}
end
section
variable {X : Cx} {tg : Expr}
end
section
variable {X : Cx} {tg : Expr}
end
section
variable {prog : Program} {w : World} {A : Around} {E : Value → Shared → Prop} {s : Shared}
end
section
variable {X : Cx} {pins : List (Addr × Obj)} {σ : St} {H : Hp} {s : Shared} {d : Addr} {o : Obj}
end
section
variable {P : Program} {w : World} {K : PySem.W.Frag} {tg : Expr} {d : Addr} {o : Obj} {es : Array DictEntry} {ep : Nat}
end
section
variable {X : Cx} {tg e : Expr} {td : TE} {apos cpos : Pos}
end
/-- the list at a as it stands at each turn, each item in a new pair -/
def Ite (K : PySem.W.Frag) (a : Addr) : It :=
  ⟨fun i H => ∃ (xs : List V) (x : V), SqL K H a xs ∧ xs[i]? = some x, fun i H v H' => ∃ T x, v = .ref T ∧ H T = none ∧ H' = upd H T (.tup [.int (i : Nat), x]) ∧ ∀ xs, SqL K H a xs → xs[i]? = some x, fun i H => ∃ xs : List V, SqL K H a xs ∧ xs.length ≤ i⟩
theorem turn_enum {P : Program} {w : World} {K : PySem.W.Frag} {elts : List Expr} {kk : Nat} {tpos : Pos} (a e it : Addr) :
    Turn P w K (.Tuple elts kk tpos) (Ite K a) [e, it] e (fun i h => (∃ old, IsEnum h e it ((i : Nat) : Int) old) ∧ h.IsListIter it a i ∧ e ≠ it) where
  mem := by simp
  obj := fun i h st b hb => by
    obtain ⟨⟨old, he⟩, ⟨o, ho, hc, hd⟩, _⟩ := st
    have e' : b = e ∨ b = it := by simpa using hb
    rcases e' with z | z
    · rw [z]; exact ⟨_, he, fun v q => nomatch q⟩
    · rw [z]; exact ⟨o, ho, fun v q => by rw [hd] at q; cases q⟩
  keep := fun i h h' st k => let ⟨⟨old, he⟩, hi, hne⟩ := st; ⟨⟨old, k e (by simp) _ he⟩, hi.at fun o q => k it (by simp) o q, hne⟩
  item := by
    intro X hP hw hK hc i pins s σ H E I hf st hg
    subst hP hw hK
    obtain ⟨⟨old, he⟩, hit, hne⟩ := st
    obtain ⟨xs, x, hq, hx⟩ := hg
    obtain ⟨its, rv, p, hz⟩ := I.list hq
    obtain ⟨u, hu, ru⟩ := rv.get hx
    have hel : e < s.heap.objs.size := Heap.lt_size he
    have hil : it < s.heap.objs.size := by obtain ⟨_, q, _⟩ := hit; exact Heap.lt_size q
    refine wpAny_pyNext_enum_item he hit p.isList (x := u) (by simpa using hu) hne fun h' ho hit' hT hsz hk => ?_
    refine ⟨_, rfl, wpAny_letOwnedTupleGo_enum (s := { s with heap := h', toks := s.toks + 1 }) ho fun h'' he' sb => ?_⟩
    have hT2 : h''.get? s.heap.objs.size = some { cls := .type "tuple", data := .seq #[.int i s.toks, u] } := (sb.2 _ (Nat.ne_of_gt hel)).trans hT
    have new : ObjOk X.prog X.w (upd H s.heap.objs.size (.tup [.int (i : Nat), x])) h'' s.heap.objs.size (.tup [.int (i : Nat), x]) :=
      ⟨by show 2 ≤ sizeLine; decide, [.int i s.toks, u], .cons ⟨_, rfl⟩ (.cons ru .nil), ⟨_, hT2, rfl, _, rfl⟩⟩
    have I1 : Inv X pins σ (upd H s.heap.objs.size (.tup [.int (i : Nat), x])) { s with heap := h'', toks := s.toks + 1 } :=
      I.turnedNew (ch := [e, it]) (fun b ob hb q => (sb.2 b (fun z => hb (by simp [z]))).trans (hk b ob (fun z => hb (by simp [z])) (fun z => hb (by simp [z])) q)) hf (Nat.le_refl _) new
    refine ⟨.ref s.heap.objs.size, _, I1, rfl, ⟨_, x, rfl, I.hok.fresh (Nat.le_refl _), rfl, fun ys hy => by rw [I.list_inj hy hq]; exact hx⟩, ⟨⟨u, ?_⟩, hit'.at fun o q => (sb.2 it (Ne.symm hne)).trans q, hne⟩, fun b hb => ?_⟩
    · have e1 : ((i + 1 : Nat) : Int) = (i : Int) + 1 := by omega
      rw [e1]; exact he'
    · have hb' : b < s.heap.objs.size := by
        have e' : b = e ∨ b = it := by simpa using hb
        rcases e' with z | z
        · rw [z]; exact hel
        · rw [z]; exact hil
      rw [upd_ne (Nat.ne_of_lt hb')]
      exact (hf b hb).1
  done := by
    intro X hP hw hK hc i pins s σ H E I hf st hg
    subst hP hw hK
    obtain ⟨⟨old, he⟩, hit, hne⟩ := st
    obtain ⟨xs, hq, hx⟩ := hg
    obtain ⟨its, rv, p, hz⟩ := I.list hq
    obtain ⟨f0, f1, f2, f3, f4, f5⟩ := hf it (by simp)
    have hl := rv.length
    exact wpAny_pyNext_enum_end (I.ok.hd hc) he hit p.isList (by simp; omega) fun h' eb => ⟨rfl, I.turned (t' := s.toks) (fun b o hb q => eb b o hb q) f0 f1 f3 f4 f5⟩
  self := fun A i s Q E st h => let ⟨⟨_, he⟩, _⟩ := st; wpAny_pyIter_enum he h
def iEnum (K : PySem.W.Frag) (ta : TA) : TI := fun σ H R => ta σ H fun vs H1 => ∃ a xs, vs = [.ref a] ∧ SqL K H1 a xs ∧ R (Ite K a) H1
theorem pi_enum {X : Cx} {e : Expr} {ta : TA} {p pos tpos : Pos} {elts : List Expr} {kk : Nat} (hg : Gl X "enumerate") (hm : X.mg "enumerate" = none) (ha : PA X [e] ta) (hs : starEach [e] X.env = [(false, eval e X.env)] := by rfl) :
    PI X (.Tuple elts kk tpos) (.Call (.Name "enumerate" p) [e] [] pos) (iEnum X.K ta) := by
  intro pins s σ H R I h
  refine Call_ (ld_blt I hg hm boot_enumerate (PyProof.Rows.callWith_type1 (thn (ha pos pins s σ H _ I h) fun us s1 ⟨vs, H1, I1, r1, q1⟩ => ?_) hs rfl))
  obtain ⟨a, xs, ex, hq, q⟩ := q1
  subst ex
  cases r1 with
  | cons r rr =>
    cases rr
    cases r
    obtain ⟨its, rv, p', hz⟩ := I1.list hq
    refine call_enumerate_list p'.isList fun h' he hit hsz hk => wpAny_pyIter_enum he ?_
    have I2 : Inv X pins σ H1 { s1 with heap := h' } := I1.kept (t' := s1.toks) hk
    refine ⟨s1.heap.objs.size + 1, [s1.heap.objs.size + 1, s1.heap.objs.size], _, _, H1, rfl, I2, turn_enum a (s1.heap.objs.size + 1) s1.heap.objs.size, ⟨⟨.none, he⟩, hit, Nat.succ_ne_self _⟩, fun b hb => ?_, q⟩
    have e' : b = s1.heap.objs.size + 1 ∨ b = s1.heap.objs.size := by simpa using hb
    have hle : s1.heap.objs.size ≤ b := by
      rcases e' with z | z
      · rw [z]; exact Nat.le_add_right _ _
      · rw [z]; exact Nat.le_refl _
    exact I1.fpOk hle (I1.hok.fresh hle)
theorem boot_zip5 : bootBuiltins "zip" = some (.type "zip") := by decide +kernel
/-- the lists at a and b as they stand at each turn, the items in new pairs -/
def Itz (K : PySem.W.Frag) (a b : Addr) : It :=
  ⟨fun i H => ∃ (xs ys : List V) (x y : V), SqL K H a xs ∧ SqL K H b ys ∧ xs[i]? = some x ∧ ys[i]? = some y,
    fun i H v H' => ∃ T x y, v = .ref T ∧ H T = none ∧ H' = upd H T (.tup [x, y]) ∧ (∀ xs, SqL K H a xs → xs[i]? = some x) ∧ ∀ ys, SqL K H b ys → ys[i]? = some y,
    fun i H => ∃ xs ys : List V, SqL K H a xs ∧ SqL K H b ys ∧ (xs.length ≤ i ∨ ys.length ≤ i)⟩
theorem turn_zip {P : Program} {w : World} {K : PySem.W.Frag} {elts : List Expr} {kk : Nat} {tpos : Pos} {a b z TI TO i1 i2 : Addr} (D : ZipApart z TI TO i1 i2 a b) :
    Turn P w K (.Tuple elts kk tpos) (Itz K a b) [z, TI, TO, i1, i2] z (fun i h => IsZip h z TI TO .none ∧ IsPair h TI (.ref i1) (.ref i2) ∧ (∃ x y, IsPair h TO x y) ∧ h.IsListIter i1 a i ∧ h.IsListIter i2 b i) where
  mem := by simp
  obj := fun i h st c hc => by
    obtain ⟨hz, hTI, ⟨x, y, hTO⟩, ⟨o1, e1, _, d1⟩, ⟨o2, e2, _, d2⟩⟩ := st
    have e' : c = z ∨ c = TI ∨ c = TO ∨ c = i1 ∨ c = i2 := by simpa using hc
    rcases e' with q | q | q | q | q
    · rw [q]; exact ⟨_, hz, fun v q => nomatch q⟩
    · rw [q]; exact ⟨_, hTI, fun v q => nomatch q⟩
    · rw [q]; exact ⟨_, hTO, fun v q => nomatch q⟩
    · rw [q]; exact ⟨o1, e1, fun v q => by rw [d1] at q; cases q⟩
    · rw [q]; exact ⟨o2, e2, fun v q => by rw [d2] at q; cases q⟩
  keep := fun i h h' st k => by
    obtain ⟨hz, hTI, ⟨x, y, hTO⟩, h1, h2⟩ := st
    exact ⟨k z (by simp) _ hz, k TI (by simp) _ hTI, ⟨x, y, k TO (by simp) _ hTO⟩, h1.at fun o q => k i1 (by simp) o q, h2.at fun o q => k i2 (by simp) o q⟩
  item := by
    intro X hP hw hK hc i pins s σ H E I hf st hg
    subst hP hw hK
    obtain ⟨hz, hTI, ⟨x0, y0, hTO⟩, h1, h2⟩ := st
    obtain ⟨xs, ys, x, y, hqx, hqy, hx, hy⟩ := hg
    obtain ⟨its, rv, p, _⟩ := I.list hqx
    obtain ⟨its2, rv2, p2, _⟩ := I.list hqy
    obtain ⟨u, hu, ru⟩ := rv.get hx
    obtain ⟨u2, hu2, ru2⟩ := rv2.get hy
    have hzl : z < s.heap.objs.size := Heap.lt_size hz
    refine wpAny_pyNext_zip_item D hz hTI hTO h1 h2 p.isList p2.isList (x := u) (y := u2) (by simpa using hu) (by simpa using hu2) fun h' z' TO' h1' h2' hT hsz hk => ?_
    refine ⟨_, rfl, wpAny_letOwnedTupleGo_zip (s := { s with heap := h' }) z' fun h'' z'' sb => ?_⟩
    have hT2 : h''.get? s.heap.objs.size = some { cls := .type "tuple", data := .seq #[u, u2] } := (sb.2 _ (Nat.ne_of_gt hzl)).trans hT
    have new : ObjOk X.prog X.w (upd H s.heap.objs.size (.tup [x, y])) h'' s.heap.objs.size (.tup [x, y]) :=
      ⟨by show 2 ≤ sizeLine; decide, [u, u2], .cons ru (.cons ru2 .nil), ⟨_, hT2, rfl, _, rfl⟩⟩
    have I1 : Inv X pins σ (upd H s.heap.objs.size (.tup [x, y])) { s with heap := h'' } :=
      I.turnedNew (t' := s.toks) (ch := [z, TI, TO, i1, i2]) (fun c o hb q => (sb.2 c (fun q' => hb (by simp [q']))).trans (hk c o (fun q' => hb (by simp [q'])) (fun q' => hb (by simp [q'])) (fun q' => hb (by simp [q'])) (fun q' => hb (by simp [q'])) q)) hf (Nat.le_refl _) new
    refine ⟨.ref s.heap.objs.size, _, I1, rfl, ⟨_, x, y, rfl, I.hok.fresh (Nat.le_refl _), rfl, fun l hl => by rw [I.list_inj hl hqx]; exact hx, fun l hl => by rw [I.list_inj hl hqy]; exact hy⟩, ⟨z'', ?_, ⟨u, u2, ?_⟩, ?_, ?_⟩, fun c hcm => ?_⟩
    · exact (sb.2 _ D.TIz).trans (hk _ _ D.TIz D.TITO D.TIi1 D.TIi2 hTI)
    · exact (sb.2 _ D.TOz).trans TO'
    · exact h1'.at fun o q => (sb.2 _ D.i1z).trans q
    · exact h2'.at fun o q => (sb.2 _ D.i2z).trans q
    · have hlt : c < s.heap.objs.size := by
        have e' : c = z ∨ c = TI ∨ c = TO ∨ c = i1 ∨ c = i2 := by simpa using hcm
        rcases e' with q | q | q | q | q
        · rw [q]; exact hzl
        · rw [q]; exact Heap.lt_size hTI
        · rw [q]; exact Heap.lt_size hTO
        · rw [q]; obtain ⟨_, e1, _⟩ := h1; exact Heap.lt_size e1
        · rw [q]; obtain ⟨_, e2, _⟩ := h2; exact Heap.lt_size e2
      rw [upd_ne (Nat.ne_of_lt hlt)]
      exact (hf c hcm).1
  done := by
    intro X hP hw hK hc i pins s σ H E I hf st hg
    subst hP hw hK
    obtain ⟨hz, hTI, ⟨x0, y0, hTO⟩, h1, h2⟩ := st
    obtain ⟨xs, ys, hqx, hqy, hend⟩ := hg
    obtain ⟨its, rv, p, _⟩ := I.list hqx
    obtain ⟨its2, rv2, p2, _⟩ := I.list hqy
    have l1 := rv.length
    have l2 := rv2.length
    have he : its.toArray[i]? = none ∨ its2.toArray[i]? = none := by
      rcases hend with q | q
      · exact .inl (by simp; omega)
      · exact .inr (by simp; omega)
    exact wpAny_pyNext_zip_end (I.ok.hd hc) D hz hTI hTO h1 h2 p.isList p2.isList he fun h' hk => ⟨rfl, I.turnedL (t' := s.toks) (ch := [z, TI, TO, i1, i2]) (fun c o hb q =>
      hk c o (fun q' => hb (by simp [q'])) (fun q' => hb (by simp [q'])) (fun q' => hb (by simp [q'])) (fun q' => hb (by simp [q'])) q) hf⟩
  self := fun A i s Q E st h => wpAny_pyIter_zip st.1 h
def iZip (K : PySem.W.Frag) (ta : TA) : TI := fun σ H R => ta σ H fun vs H1 => ∃ a b xs ys, vs = [.ref a, .ref b] ∧ SqL K H1 a xs ∧ SqL K H1 b ys ∧ R (Itz K a b) H1
theorem pi_zip {X : Cx} {e e2 : Expr} {ta : TA} {p pos tpos : Pos} {elts : List Expr} {kk : Nat} (hg : Gl X "zip") (hm : X.mg "zip" = none) (ha : PA X [e, e2] ta)
    (hs : starEach [e, e2] X.env = (false, eval e X.env) :: starEach [e2] X.env := by rfl) (hpl : (backTo pos (starEach [e2] X.env)).any (·.1) = false := by rfl) :
    PI X (.Tuple elts kk tpos) (.Call (.Name "zip" p) [e, e2] [] pos) (iZip X.K ta) := by
  intro pins s σ H R I h
  refine Call_ (ld_blt I hg hm boot_zip5 (PyProof.Rows.callWith_type1 (thn (ha pos pins s σ H _ I h) fun us s1 ⟨vs, H1, I1, r1, q1⟩ => ?_) hs hpl))
  obtain ⟨a, b, xs, ys, ex, hqx, hqy, q⟩ := q1
  subst ex
  cases r1 with
  | cons r rr =>
    cases rr with
    | cons r' rr =>
      cases rr
      cases r
      cases r'
      obtain ⟨its, rv, p1, _⟩ := I1.list hqx
      obtain ⟨its2, rv2, p2, _⟩ := I1.list hqy
      have la : a < s1.heap.objs.size := p1.lt
      have lb : b < s1.heap.objs.size := p2.lt
      refine call_zip_2 p1.isList p2.isList fun h' hz hTI hTO h1 h2 hsz hk => wpAny_pyIter_zip hz ?_
      have I2 : Inv X pins σ H1 { s1 with heap := h' } := I1.kept (t' := s1.toks) hk
      refine ⟨s1.heap.objs.size + 4, [s1.heap.objs.size + 4, s1.heap.objs.size + 2, s1.heap.objs.size + 3, s1.heap.objs.size, s1.heap.objs.size + 1], _, _, H1, rfl, I2, turn_zip (PySem.W.ktu_apart s1.heap.objs.size a b la lb), ⟨hz, hTI, ⟨_, _, hTO⟩, h1, h2⟩, fun c hcm => ?_, q⟩
      have e' : c = s1.heap.objs.size + 4 ∨ c = s1.heap.objs.size + 2 ∨ c = s1.heap.objs.size + 3 ∨ c = s1.heap.objs.size ∨ c = s1.heap.objs.size + 1 := by simpa using hcm
      have hle : s1.heap.objs.size ≤ c := by
        rcases e' with z | z | z | z | z
        · rw [z]; exact Nat.le_add_right _ _
        · rw [z]; exact Nat.le_add_right _ _
        · rw [z]; exact Nat.le_add_right _ _
        · rw [z]; exact Nat.le_refl _
        · rw [z]; exact Nat.le_add_right _ _
      exact I1.fpOk hle (I1.hok.fresh hle)
end L2
section 
namespace Bits
open PySem PyProof.Rows
end Bits
end 
section 
namespace TL
open PySem PySem.Builtin PySem.Builtin.Str PySem.StrLaws
end TL
end 
namespace L2
open PySem PySem.Spec PyProof.Rows
section
variable {X : Cx} {pins : List (Addr × Obj)} {σ : St} {H : Hp} {s : Shared} {Q : VK}
end
section
variable {X : Cx}
end
section
variable {X : Cx} {o e : Expr} {to te : TE}
end
end L2
namespace L2
open PySem PySem.Spec PyProof.Rows
section
variable {X : Cx}
end
end L2
namespace Att
open PySem PySem.W PySem.Calls PyProof.Rows
section
variable {prog : Program} {w : World} {A : Around} {E : Value → Shared → Prop} {s : Shared} {K : Frag}
end
end Att
namespace L2
open PySem PySem.Spec PyProof.Rows
end L2
namespace L2
open PySem PySem.Spec PyProof.Rows
end L2
/- THE LAST THEOREM (shape; LID, My.* are yours):
   My.Adr: a structure of the addresses that your layer names (classes, functions); My.Txt K t: a structure (Prop) of the equations over K;
   My.txt_mk : {K} {implicit addresses ..} (e1 : nsIn K mainGlobals "law" = some (some (.ref f))) (e2 : K.lookup f = some ⟨oc, od, .func (fnOf "law" "law" params body scope dV kV doc pm an cdv ct), sl⟩) (e3 : codeIn K cdv "law" = true) .. : ∃ t, My.Txt K t
set_option maxRecDepth 100000 in
set_option maxHeartbeats 0 in
theorem PySem.Challenge.cw_LID_holds : PySem.Challenge.rw_LID.Holds := by
  w_on; o_law; k_head; (case hw => w_witness2)
  k_fill
  refine L2.walk_of (l := PySem.Challenge.rw_LID) (n := 63) (k := 40) (x := "script") (CX := fun w => ..) (sp := fun _ => My.sp_law) rfl (by decide) rfl ⟨rfl, by decide, by decide⟩ (fun w h Y => PySem.W.kIn_of Y) ?F ?S ?C
  case F =>
    intro w mg fa h KX G hmg
    have T : ∃ t, My.Txt (L2.KOf KX) t := by
      dsimp only [L2.KOf]                          -- K must stand as «<heap const> w.params» for k_is
      refine' My.txt_mk ?e1 ?e2 ?e3 ..
      (case e1 => PySem.W.k_is)                    -- in the order: a name -> its address -> its object -> its parts
      (case e2 => PySem.W.k_is)
      ..
    obtain ⟨t, T⟩ := T
    have e0 := hmg.symm.trans (PySem.W.mg_of KX G T.law)
    cases e0                                       -- fa is the law's own address
    exact ⟨_, fun s u => .of_eq rfl, fun base kb nb => My.law_fn T kb nb⟩     -- if «.of_eq rfl» comes too early: refine' ⟨_, ?b, fun base kb nb => My.law_fn T kb nb⟩; exact fun s u => .of_eq rfl
  case S => exact fun w H a ns hl hO hS => ..
  case C => exact ..
(the tactic k_is has no namespace: write k_is) -/
namespace L2
open PySem PySem.Spec PyProof.Rows
/-- the j-th statement of a class's body -/
def inClass (s : Stmt) (j : Nat) : Stmt := match s with
  | .ClassDef _ _ _ body _ _ _ _ _ _ _ => body.getD j (.Pass ⟨0, 0, 0, 0⟩)
  | _ => .Pass ⟨0, 0, 0, 0⟩
def defArgs (s : Stmt) : Arguments := match s with
  | .FunctionDef _ a _ _ _ _ _ _ _ _ => a
  | _ => { posonlyargs := [], args := [], vararg := none, kwonlyargs := [], kw_defaults := [], kwarg := none, defaults := [] }
def defBody (s : Stmt) : List Stmt := match s with
  | .FunctionDef _ _ b _ _ _ _ _ _ _ => b
  | _ => []
def defScope (s : Stmt) : Scope := match s with
  | .FunctionDef _ _ _ _ _ _ sc _ _ _ => sc
  | _ => { kind := .function, names := [], isGenerator := false, isCoroutine := false }
abbrev CX0 : CXT := fun _ _ _ _ _ _ => False
abbrev E0 : XK := fun _ _ _ => False
theorem pass0 {X : Cx} : Passes CX0 X E0 := fun _ _ _ _ _ _ _ h => h.elim
structure Fun (K : PySem.W.Frag) (x qual : Str) (st : Stmt) (f : Addr) (fd : FuncData) : Prop where
  ex : ∃ (oc : Value) (od : Option Addr) (kV doc pm : Value) (an : Option Addr) (cdv ct : Value) (osl : Array (Option Value)),
    fd = PySem.W.fnOf x qual (defArgs st) (defBody st) (defScope st) .none kV doc pm an cdv ct ∧ K.lookup f = some ⟨oc, od, .func fd, osl⟩ ∧ PySem.W.codeIn K cdv qual = true
  kp : PySem.W.keepIn K (.ref f) = true
section
variable {P : Program} {w : World} {K : PySem.W.Frag} {mg : Str → Option Value} {base : Heap}
/-- THE RULE for a def: its body as a term of rules, and the reading of that term -/
theorem Fun.ok {x qual : Str} {st : Stmt} {f : Addr} {fd : FuncData} {N ps : List Str} {k : Nat} {sp : Sp} (F : Fun K x qual st f fd) (S : FnScope N ps (defScope st)) (len : ∀ vs H Q E, sp vs H Q E → vs.length = ps.length)
    (hbody : ∀ (cdv : Value) (A : Around) (outer : List Env) (s : Shared) (H : Hp) (vs : List V) (Q : VK) (E : XK), Room k (A.deeper (envOfC qual (defScope st) s.heap.objs.size f cdv)) → sp vs H Q E →
      ∃ t, PSs (cxOf CX0 P w K mg base N qual (defScope st) f cdv A outer s H E).nox (defBody st) t ∧ t { nx := fun _ H' => Q .non H', rt := Q } (start N vs) H) : FnOk P w K mg base CX0 (k + 1) f fd ps sp := by
  obtain ⟨oc, od, kV, doc, pm, an, cdv, ct, osl, rfl, lk, hcd⟩ := F.ex
  refine fn_of lk hcd S len fun A outer s H vs Q E hr hsp => ?_
  obtain ⟨t, h, q⟩ := hbody cdv A outer s H vs Q E hr hsp
  exact ⟨t, h.nox, q⟩
/-- how its arguments bind (no defaults): h is «fun _ _ _ _ _ _ us hl => match us, hl with | [_, _], _ => rfl», one _ a parameter -/
theorem Fun.binds {x qual : Str} {st : Stmt} {f : Addr} {fd : FuncData} {ps : List Str} (F : Fun K x qual st f fd)
    (h : ∀ (kV doc pm : Value) (an : Option Addr) (cdv ct : Value) (us : List Value), us.length = ps.length → bindArgs (PySem.W.fnOf x qual (defArgs st) (defBody st) (defScope st) .none kV doc pm an cdv ct) ⟨us, []⟩ = pure (ps.zip us)) : Binds K fd ps [] := by
  obtain ⟨oc, od, kV, doc, pm, an, cdv, ct, osl, rfl, lk, hcd⟩ := F.ex
  exact .all (h kV doc pm an cdv ct)
theorem fun_mk {x qual : Str} {st : Stmt} {f : Addr} {oc : Value} {od an : Option Addr} {osl : Array (Option Value)} {kV doc pm cdv ct : Value} (l : K.lookup f = some ⟨oc, od, .func (PySem.W.fnOf x qual (defArgs st) (defBody st) (defScope st) .none kV doc pm an cdv ct), osl⟩)
    (c : PySem.W.codeIn K cdv qual = true) (k : PySem.W.keepIn K (.ref f) = true) : Fun K x qual st f (PySem.W.fnOf x qual (defArgs st) (defBody st) (defScope st) .none kV doc pm an cdv ct) := ⟨⟨oc, od, kV, doc, pm, an, cdv, ct, osl, rfl, l, c⟩, k⟩
end
section
variable {X : Cx}
theorem pv (i : Nat) {x : Str} {pos : Pos} (hN : X.N[i]? = some x := by rfl) (hv : Vis X.env.scope x := by first | exact Or.inl rfl | exact Or.inr (Or.inl rfl) | exact Or.inr (Or.inr rfl)) (hd : (x == ("__debug__" : Str)) = false := by decide)
    (hcd : (x == ("__classdict__" : Str)) = false := by decide) : PE X (.Name x pos) (tVar i) := pe_var hN hv hd hcd
end
theorem ite2 {c A B : Prop} [Decidable c] (h1 : c → A) (h2 : ¬ c → B) : if c then A else B := by
  by_cases h : c
  · rw [if_pos h]
    exact h1 h
  · rw [if_neg h]
    exact h2 h
/-- all that was tracked is as it was -/
def Same (H H' : Hp) : Prop := ∀ b o, H b = some o → H' b = some o
theorem Same.refl (H : Hp) : Same H H := fun _ _ h => h
theorem Same.trans {H H1 H2 : Hp} (a : Same H H1) (b : Same H1 H2) : Same H H2 := fun c o h => b c o (a c o h)
theorem Same.free {H H' : Hp} (e : Same H H') {l : Addr} (h : H' l = Option.none) : H l = Option.none := by
  cases q : H l with
  | none => rfl
  | some o =>
    rw [e l o q] at h
    cases h
section
variable {κ : Type} [DecidableEq κ]
theorem nd_snoc : ∀ {l : List κ} {k : κ}, l.Nodup → ¬ k ∈ l → (l ++ [k]).Nodup
  | [], k, _, _ => by simp
  | a :: r, k, h, hk => by
    obtain ⟨h1, h2⟩ := List.nodup_cons.mp h
    show (a :: (r ++ [k])).Nodup
    refine List.nodup_cons.mpr ⟨fun m => ?_, nd_snoc h2 fun m => hk (List.mem_cons.mpr (Or.inr m))⟩
    rcases List.mem_append.mp m with q | q
    · exact h1 q
    · exact hk (List.mem_cons.mpr (Or.inl (List.mem_singleton.mp q).symm))
end
theorem at_of {xs : List V} {z : Int} {j : Nat} {v : V} (e : z = (j : Int)) (h : xs[j]? = some v) : atI xs z = some v := by
  rw [e]
  exact atI_nat h
theorem nd_ix {α : Type} {l : List α} (hN : l.Nodup) {i j : Nat} {x : α} (a : l[i]? = some x) (b : l[j]? = some x) : i = j := by
  obtain ⟨h1, e1⟩ := List.getElem?_eq_some_iff.mp a
  obtain ⟨h2, e2⟩ := List.getElem?_eq_some_iff.mp b
  exact (List.getElem_inj hN).mp (e1.trans e2.symm)
/-- a new instance and its __init__ leave all that was tracked as it was -/
theorem Same.made {H H1 : Hp} {x dx C : Addr} (nx : H x = Option.none) (nd : H dx = Option.none) (k : ∀ b o, (upd (upd H dx (.own x)) x (.ins C dx [])) b = some o → b ≠ x → H1 b = some o) : Same H H1 := fun b o e =>
  k b o (by rw [upd_ne (ne_of_none e nx), upd_ne (ne_of_none e nd)]; exact e) (ne_of_none e nx)
end L2
section
set_option Elab.async false
set_option linter.all false
set_option maxRecDepth 100000
set_option maxHeartbeats 2000000
namespace L2
open PySem PySem.Spec PyProof.Rows
open PySem.W (WData Codec OpenSpec Well WellAll ReadsW ReadsAllW)
mutual
/-- x stands for the datum d, lists and tuples all the way -/
inductive Dw (K : PySem.W.Frag) (H : Hp) : V → WData → Prop
  | non : Dw K H .non .none
  | bl (b : Bool) : Dw K H (.bl b) (.bool b)
  | int (i : Int) : Dw K H (.int i) (.int i)
  | str (x : Str) : Dw K H (.str x) (.str x)
  | byt (b : Array UInt8) : Dw K H (.byt b) (.bytes b.toList)
  | lst {a : Addr} {xs : List V} {ds : List WData} : SqL K H a xs → DwAll K H xs ds → Dw K H (.ref a) (.list ds)
  | tup {a : Addr} {xs : List V} {ds : List WData} : SqT K H a xs → DwAll K H xs ds → Dw K H (.ref a) (.tuple ds)
inductive DwAll (K : PySem.W.Frag) (H : Hp) : List V → List WData → Prop
  | nil : DwAll K H [] []
  | cons {v : V} {vs : List V} {d : WData} {ds : List WData} : Dw K H v d → DwAll K H vs ds → DwAll K H (v :: vs) (d :: ds)
end
theorem dw_ints {K : PySem.W.Frag} {H : Hp} : ∀ ns : List Int, DwAll K H (ns.map V.int) (ns.map WData.int)
  | [] => .nil
  | n :: r => .cons (.int n) (dw_ints r)
theorem ints_dw {K : PySem.W.Frag} {H : Hp} : ∀ (ns : List Int) (xs : List V), DwAll K H xs (ns.map WData.int) → xs = ns.map V.int
  | [], xs, h => by
    cases h
    rfl
  | n :: r, xs, h => by
    cases h with
    | cons h1 h2 =>
      cases h1
      rw [ints_dw r _ h2] <;> rfl
section
variable {P : Program} {w : World} {K : PySem.W.Frag} {H : Hp} {h : Heap} {R : PySem.W.WRecords} {cl : Str → Option Addr}
theorem sqL_at {a : Addr} {xs : List V} (hok : HOk P w H h) (KX : K.In h) (q : SqL K H a xs) : ∃ (its : List Value) (o : Obj) (n : Nat), Vals xs its ∧ h.get? a = some o ∧ o.cls = .type "list" ∧ o.data = .seq its.toArray n := by
  rcases q with q | ⟨o, its, n, e, hc, _, hd, _, hv⟩
  · obtain ⟨_, its, n, hv, e⟩ := (show ObjOk P w H h a (.lst xs) from q.ok hok)
    exact ⟨its, _, n, hv, e, rfl, rfl⟩
  · exact ⟨its.toList, o, n, hv, KX _ _ e, hc, by simp [hd]⟩
theorem sqT_at {a : Addr} {xs : List V} (hok : HOk P w H h) (KX : K.In h) (q : SqT K H a xs) : ∃ (its : List Value) (o : Obj) (n : Nat), Vals xs its ∧ h.get? a = some o ∧ o.cls = .type "tuple" ∧ o.data = .seq its.toArray n := by
  rcases q with q | ⟨o, its, n, e, hc, hd, _, hv⟩
  · obtain ⟨_, its, hv, o, e, hc, n, hd⟩ := (show ObjOk P w H h a (.tup xs) from q.ok hok)
    exact ⟨its, o, n, hv, e, hc, hd⟩
  · exact ⟨its.toList, o, n, hv, KX _ _ e, hc, by simp [hd]⟩
mutual
theorem Dw.reads (hok : HOk P w H h) (KX : K.In h) : ∀ (d : WData) (v : V) (u : Value), Dw K H v d → RelV v u → ∃ as, ReadsW R cl h u d as
  | .none, _, _, x, r => by
    cases x
    cases r
    exact ⟨_, ReadsW.none⟩
  | .bool b, _, _, x, r => by
    cases x
    cases r
    exact ⟨_, ReadsW.bool b⟩
  | .int i, _, _, x, r => by
    cases x
    obtain ⟨t, rfl⟩ := r
    exact ⟨_, ReadsW.int i t⟩
  | .str s, _, _, x, r => by
    cases x
    obtain ⟨t, rfl⟩ := r
    exact ⟨_, ReadsW.str s t⟩
  | .bytes b, _, _, x, r => by
    cases x
    obtain ⟨t, rfl⟩ := r
    exact ⟨_, ReadsW.bytes _ t⟩
  | .list ds, _, _, x, r => by
    cases x with
    | lst hs ha =>
      cases r
      obtain ⟨its, o, n, rv, ho, hc, hd⟩ := sqL_at hok KX hs
      obtain ⟨as, hr⟩ := Dw.readsAll hok KX ds _ its ha rv
      exact ⟨_, ReadsW.list ho hc hd hr⟩
  | .tuple ds, _, _, x, r => by
    cases x with
    | tup hs ha =>
      cases r
      obtain ⟨its, o, n, rv, ho, hc, hd⟩ := sqT_at hok KX hs
      obtain ⟨as, hr⟩ := Dw.readsAll hok KX ds _ its ha rv
      exact ⟨_, ReadsW.tuple ho hc hd hr⟩
  | .float _, _, _, x, _ => by cases x
  | .dict _, _, _, x, _ => by cases x
  | .bytearray _, _, _, x, _ => by cases x
  | .set _, _, _, x, _ => by cases x
  | .frozenset _, _, _, x, _ => by cases x
  | .obj _ _, _, _, x, _ => by cases x
theorem Dw.readsAll (hok : HOk P w H h) (KX : K.In h) : ∀ (ds : List WData) (vs : List V) (us : List Value), DwAll K H vs ds → Vals vs us → ∃ as, ReadsAllW R cl h us ds as
  | [], _, _, x, r => by
    cases x
    cases r
    exact ⟨_, ReadsAllW.nil⟩
  | d :: ds, _, _, x, r => by
    cases x with
    | cons h1 h2 =>
      cases r with
      | cons r1 r2 =>
        obtain ⟨as, q1⟩ := Dw.reads hok KX d _ _ h1 r1
        obtain ⟨bs, q2⟩ := Dw.readsAll hok KX ds _ _ h2 r2
        exact ⟨_, ReadsAllW.cons q1 q2⟩
end
end
mutual
/-- data that a codec tells -/
def plW : WData → Bool
  | .none => true
  | .bool _ => true
  | .int _ => true
  | .str _ => true
  | .bytes _ => true
  | .list xs => plWs xs
  | .tuple xs => plWs xs
  | _ => false
def plWs : List WData → Bool
  | [] => true
  | x :: r => plW x && plWs r
end
theorem plWs_map {α : Type} {f : α → WData} (h : ∀ a, plW (f a) = true) : ∀ l : List α, plWs (l.map f) = true
  | [] => rfl
  | x :: r => by
    show (plW (f x) && plWs (r.map f)) = true
    rw [h x, plWs_map h r] <;> rfl
theorem pl_enc : ∀ (c : Codec) (a : c.denote), plW (c.enc a) = true
  | .unit, _ => rfl
  | .bool, _ => rfl
  | .int _ _, _ => rfl
  | .nat _ _, _ => rfl
  | .u8, _ => rfl
  | .bytes _ _, _ => rfl
  | .text _ _ _ _, _ => rfl
  | .list _ _ c, a => plWs_map (fun x => pl_enc c x) a
  | .pair c d, a => by
    show (plW (c.enc a.1) && (plW (d.enc a.2) && true)) = true
    rw [pl_enc c a.1, pl_enc d a.2] <;> rfl
  | .triple c d e, a => by
    show (plW (c.enc a.1) && (plW (d.enc a.2.1) && (plW (e.enc a.2.2) && true))) = true
    rw [pl_enc c a.1, pl_enc d a.2.1, pl_enc e a.2.2] <;> rfl
  | .option c, none => rfl
  | .option c, some x => pl_enc c x
theorem pl_encAll : ∀ (cs : List Codec) (a : Codec.denoteAll cs), plWs (Codec.encAll cs a) = true
  | [], _ => rfl
  | c :: cs, a => by
    show (plW (c.enc a.1) && plWs (Codec.encAll cs a.2)) = true
    rw [pl_enc c a.1, pl_encAll cs a.2] <;> rfl
theorem weight_mem : ∀ {xs : List WData} {d : WData}, d ∈ xs → d.weight ≤ WData.weightAll xs
  | [], d, h => absurd h (by simp)
  | x :: r, d, h => by
    show d.weight ≤ x.weight + 1 + WData.weightAll r
    rcases List.mem_cons.mp h with e | m
    · rw [e]
      omega
    · have z := weight_mem m
      omega
def toV : Value → V
  | .none => .non
  | .bool b => .bl b
  | .int i _ => .int i
  | .str x _ => .str x
  | .bytes b _ => .byt b
  | .ref a => .ref a
  | _ => .non
/-- a value of the arguments, its objects among A -/
def OkU (A : List Addr) : Value → Prop
  | .none => True
  | .bool _ => True
  | .int _ _ => True
  | .str _ _ => True
  | .bytes _ _ => True
  | .ref a => a ∈ A
  | _ => False
theorem OkU.mono {A B : List Addr} (h : ∀ a ∈ A, a ∈ B) : ∀ {u : Value}, OkU A u → OkU B u := fun {u} x => by
  cases u with
  | ref a => exact h a x
  | none => trivial
  | bool b => trivial
  | int i t => trivial
  | str s t => trivial
  | bytes b t => trivial
  | _ => exact False.elim x
theorem relV_toV {A : List Addr} {u : Value} (x : OkU A u) : RelV (toV u) u := by
  cases u with
  | ref a => rfl
  | none => rfl
  | bool b => rfl
  | int i t => exact ⟨t, rfl⟩
  | str s t => exact ⟨t, rfl⟩
  | bytes b t => exact ⟨t, rfl⟩
  | _ => exact False.elim x
theorem vals_toV {A : List Addr} : ∀ {vs : List Value}, (∀ u ∈ vs, OkU A u) → Vals (vs.map toV) vs
  | [], _ => .nil
  | u :: r, h => .cons (relV_toV (h u (List.mem_cons_self ..))) (vals_toV fun x hx => h x (List.mem_cons_of_mem _ hx))
/-- an object of the arguments -/
def ArgOb (h : Heap) (A : List Addr) (a : Addr) : Prop := ∃ vs : List Value, vs.length ≤ sizeLine ∧ (∀ u ∈ vs, OkU A u) ∧
  (h.get? a = some { cls := .type "list", data := .seq vs.toArray } ∨ h.get? a = some { cls := .type "tuple", data := .seq vs.toArray })
theorem ArgOb.mono {h : Heap} {A B : List Addr} {a : Addr} (k : ∀ a ∈ A, a ∈ B) (x : ArgOb h A a) : ArgOb h B a := by
  obtain ⟨vs, h1, h2, h3⟩ := x
  exact ⟨vs, h1, fun u hu => (h2 u hu).mono k, h3⟩
theorem wellAll_len {P : Params} {h : Heap} : ∀ {vs : List Value} {ds : List WData}, WellAll P h vs ds → vs.length = ds.length
  | _, _, .nil => rfl
  | _, _, .cons _ b => by
    show _ + 1 = _ + 1
    rw [wellAll_len b]
theorem well_list {P : Params} {h : Heap} {v : Value} {ds : List WData} (x : Well P h v (.list ds)) : ∃ (a : Addr) (vs : List Value), v = .ref a ∧ h.get? a = some { cls := .type "list", data := .seq vs.toArray } ∧ WellAll P h vs ds := by
  cases x with
  | list ho hall => exact ⟨_, _, rfl, ho, hall⟩
theorem well_tuple {P : Params} {h : Heap} {v : Value} {ds : List WData} (x : Well P h v (.tuple ds)) : ∃ (a : Addr) (vs : List Value), v = .ref a ∧ h.get? a = some { cls := .type "tuple", data := .seq vs.toArray } ∧ WellAll P h vs ds := by
  cases x with
  | tuple ho hall => exact ⟨_, _, rfl, ho, hall⟩
theorem well_cons {P : Params} {h : Heap} {us : List Value} {d : WData} {ds : List WData} (x : WellAll P h us (d :: ds)) : ∃ (v : Value) (vs : List Value), us = v :: vs ∧ Well P h v d ∧ WellAll P h vs ds := by
  cases x with
  | cons a b => exact ⟨_, _, rfl, a, b⟩
theorem line_of {n : Nat} (h : n ≤ 1048576) : n ≤ sizeLine := Nat.le_trans h (by decide)
section
variable {P : Params} {h : Heap}
mutual
theorem area_one : ∀ (d : WData) (v : Value), Well P h v d → plW d = true → d.weight ≤ 1048576 → ∃ A : List Addr, OkU A v ∧ ∀ a ∈ A, ArgOb h A a
  | .none, _, x, _, _ => by
    cases x
    exact ⟨[], trivial, fun a m => absurd m (by simp)⟩
  | .bool b, _, x, _, _ => by
    cases x
    exact ⟨[], trivial, fun a m => absurd m (by simp)⟩
  | .int i, _, x, _, _ => by
    cases x
    exact ⟨[], trivial, fun a m => absurd m (by simp)⟩
  | .str s, _, x, _, _ => by
    cases x
    exact ⟨[], trivial, fun a m => absurd m (by simp)⟩
  | .bytes b, _, x, _, _ => by
    cases x
    exact ⟨[], trivial, fun a m => absurd m (by simp)⟩
  | .list ds, _, x, p, z => by
    obtain ⟨a, vs, rfl, ho, hall⟩ := well_list x
    have z2 : WData.weightAll ds ≤ 1048576 := z
    obtain ⟨A, h1, h2⟩ := area_all ds _ hall p fun d hd => Nat.le_trans (weight_mem hd) z2
    have k : ∀ b ∈ A, b ∈ a :: A := fun b hb => List.mem_cons_of_mem _ hb
    refine ⟨a :: A, List.mem_cons_self .., fun b hb => ?_⟩
    rcases List.mem_cons.mp hb with e | m
    · rw [e]
      exact ⟨vs, line_of (by rw [wellAll_len hall]; exact Nat.le_trans (PySem.W.length_le_weightAllW ds) z2), fun u hu => (h1 u hu).mono k, .inl ho⟩
    · exact (h2 b m).mono k
  | .tuple ds, _, x, p, z => by
    obtain ⟨a, vs, rfl, ho, hall⟩ := well_tuple x
    have z2 : WData.weightAll ds ≤ 1048576 := z
    obtain ⟨A, h1, h2⟩ := area_all ds _ hall p fun d hd => Nat.le_trans (weight_mem hd) z2
    have k : ∀ b ∈ A, b ∈ a :: A := fun b hb => List.mem_cons_of_mem _ hb
    refine ⟨a :: A, List.mem_cons_self .., fun b hb => ?_⟩
    rcases List.mem_cons.mp hb with e | m
    · rw [e]
      exact ⟨vs, line_of (by rw [wellAll_len hall]; exact Nat.le_trans (PySem.W.length_le_weightAllW ds) z2), fun u hu => (h1 u hu).mono k, .inr ho⟩
    · exact (h2 b m).mono k
  | .float _, _, _, p, _ => Bool.noConfusion (show false = true from p)
  | .dict _, _, _, p, _ => Bool.noConfusion (show false = true from p)
  | .bytearray _, _, _, p, _ => Bool.noConfusion (show false = true from p)
  | .set _, _, _, p, _ => Bool.noConfusion (show false = true from p)
  | .frozenset _, _, _, p, _ => Bool.noConfusion (show false = true from p)
  | .obj _ _, _, _, p, _ => Bool.noConfusion (show false = true from p)
theorem area_all : ∀ (ds : List WData) (vs : List Value), WellAll P h vs ds → plWs ds = true → (∀ d ∈ ds, d.weight ≤ 1048576) → ∃ A : List Addr, (∀ u ∈ vs, OkU A u) ∧ ∀ a ∈ A, ArgOb h A a
  | [], _, x, _, _ => by
    cases x
    exact ⟨[], fun u m => absurd m (by simp), fun a m => absurd m (by simp)⟩
  | d :: ds, _, x, p, z => by
    obtain ⟨v, vs, rfl, x1, x2⟩ := well_cons x
    have q : plW d = true ∧ plWs ds = true := Bool.and_eq_true_iff.mp p
    obtain ⟨A, a1, a2⟩ := area_one d v x1 q.1 (z d (List.mem_cons_self ..))
    obtain ⟨B, b1, b2⟩ := area_all ds vs x2 q.2 fun e he => z e (List.mem_cons_of_mem _ he)
    have kA : ∀ b ∈ A, b ∈ A ++ B := fun b hb => List.mem_append.mpr (.inl hb)
    have kB : ∀ b ∈ B, b ∈ A ++ B := fun b hb => List.mem_append.mpr (.inr hb)
    refine ⟨A ++ B, fun u hu => ?_, fun b hb => ?_⟩
    · rcases List.mem_cons.mp hu with e | m
      · rw [e]
        exact a1.mono kA
      · exact (b1 u m).mono kB
    · rcases List.mem_append.mp hb with m | m
      · exact (a2 b m).mono kA
      · exact (b2 b m).mono kB
end
end
/-- what is tracked of an argument's object -/
def hoOf (o : Obj) : Option HO := match o.data with
  | .seq vs _ => if (o.cls == Value.type "list") = true then some (.frz o (.lst (vs.toList.map toV))) else some (.frz o (.tup (vs.toList.map toV)))
  | _ => none
def argH (K : PySem.W.Frag) (h : Heap) (A : List Addr) : Hp := fun b => if b ∈ A then (if (K.lookup b).isNone = true then (h.get? b).bind hoOf else none) else none
/-- nothing is tracked but what is known to the object -/
def OnlyF (H : Hp) : Prop := ∀ b, H b = none ∨ ∃ o u, H b = some (.frz o u)
theorem hoOf_lst (vs : List Value) : hoOf { cls := .type "list", data := .seq vs.toArray } = some (.frz { cls := .type "list", data := .seq vs.toArray } (.lst (vs.map toV))) := by
  show (if (Value.type "list" == Value.type "list") = true then some (HO.frz { cls := .type "list", data := .seq vs.toArray } (.lst (vs.toArray.toList.map toV))) else some (HO.frz { cls := .type "list", data := .seq vs.toArray } (.tup (vs.toArray.toList.map toV)))) = _
  rw [if_pos (beq_self_eq_true _)]
theorem hoOf_tup (vs : List Value) : hoOf { cls := .type "tuple", data := .seq vs.toArray } = some (.frz { cls := .type "tuple", data := .seq vs.toArray } (.tup (vs.map toV))) := by
  show (if (Value.type "tuple" == Value.type "list") = true then some (HO.frz { cls := .type "tuple", data := .seq vs.toArray } (.lst (vs.toArray.toList.map toV))) else some (HO.frz { cls := .type "tuple", data := .seq vs.toArray } (.tup (vs.toArray.toList.map toV)))) = _
  rw [if_neg (by decide)]
section
variable {P : Program} {w : World} {K : PySem.W.Frag} {h : Heap} {A : List Addr}
theorem argH_at {b : Addr} {o : Obj} (hb : b ∈ A) (hk : K.lookup b = none) (e : h.get? b = some o) : argH K h A b = hoOf o := by
  unfold argH
  rw [if_pos hb, hk, if_pos (show (none : Option Obj).isNone = true from rfl), e] <;> rfl
theorem of_argH {b : Addr} {u : HO} (q : argH K h A b = some u) : b ∈ A ∧ K.lookup b = none := by
  unfold argH at q
  by_cases hb : b ∈ A
  · rw [if_pos hb] at q
    cases hk : K.lookup b with
    | none => exact ⟨hb, rfl⟩
    | some o =>
      rw [hk, if_neg (by simp)] at q
      cases q
  · rw [if_neg hb] at q
    cases q
/-- what stands tracked -/
theorem argH_is (ar : ∀ a ∈ A, ArgOb h A a) {b : Addr} {u : HO} (q : argH K h A b = some u) : K.lookup b = none ∧ ∃ vs : List Value, vs.length ≤ sizeLine ∧ (∀ u ∈ vs, OkU A u) ∧
    ((h.get? b = some { cls := .type "list", data := .seq vs.toArray } ∧ u = .frz { cls := .type "list", data := .seq vs.toArray } (.lst (vs.map toV))) ∨
     (h.get? b = some { cls := .type "tuple", data := .seq vs.toArray } ∧ u = .frz { cls := .type "tuple", data := .seq vs.toArray } (.tup (vs.map toV)))) := by
  obtain ⟨hb, hk⟩ := of_argH q
  obtain ⟨vs, h1, h2, h3⟩ := ar b hb
  refine ⟨hk, vs, h1, h2, ?_⟩
  rcases h3 with e | e
  · rw [argH_at hb hk e, hoOf_lst] at q
    exact .inl ⟨e, (Option.some.inj q).symm⟩
  · rw [argH_at hb hk e, hoOf_tup] at q
    exact .inr ⟨e, (Option.some.inj q).symm⟩
theorem argH_only (ar : ∀ a ∈ A, ArgOb h A a) : OnlyF (argH K h A) := fun b => by
  cases q : argH K h A b with
  | none => exact .inl rfl
  | some u =>
    obtain ⟨_, vs, _, _, ⟨_, e⟩ | ⟨_, e⟩⟩ := argH_is ar q
    · exact .inr ⟨_, _, by rw [e]⟩
    · exact .inr ⟨_, _, by rw [e]⟩
theorem argH_ok (ar : ∀ a ∈ A, ArgOb h A a) : HOk P w (argH K h A) h := fun b u q => by
  obtain ⟨_, vs, h1, h2, ⟨e, rfl⟩ | ⟨e, rfl⟩⟩ := argH_is ar q
  · exact ⟨e, by rw [List.length_map]; exact h1, vs, _, vals_toV h2, e⟩
  · exact ⟨e, by rw [List.length_map]; exact h1, vs, vals_toV h2, _, e, rfl, _, rfl⟩
theorem seq_inj {c c' : Value} {vs us : List Value} (e : (some { cls := c, data := .seq vs.toArray } : Option Obj) = some { cls := c', data := .seq us.toArray }) : c = c' ∧ vs = us := by
  have e1 := Option.some.inj e
  have e2 : c = c' := congrArg Obj.cls e1
  have e3 : Data.seq vs.toArray = Data.seq us.toArray := congrArg Obj.data e1
  injection e3 with e4
  refine ⟨e2, ?_⟩
  have e5 := congrArg Array.toList e4
  simpa using e5
/-- a list argument -/
theorem argL (KX : K.In h) (ar : ∀ a ∈ A, ArgOb h A a) {a : Addr} {vs : List Value} (ha : a ∈ A) (e : h.get? a = some { cls := .type "list", data := .seq vs.toArray }) : (∀ u ∈ vs, OkU A u) ∧ SqL K (argH K h A) a (vs.map toV) := by
  obtain ⟨us, h1, h2, h3⟩ := ar a ha
  have hu : us = vs := by
    rcases h3 with q | q
    · rw [e] at q
      exact (seq_inj q).2.symm
    · rw [e] at q
      exact absurd (Value.type.inj (seq_inj q).1) (by decide)
  subst hu
  refine ⟨h2, ?_⟩
  cases hk : K.lookup a with
  | none => exact .inl (.inr ⟨_, by rw [argH_at ha hk e, hoOf_lst]⟩)
  | some o =>
    have e2 := KX a o hk
    rw [e] at e2
    obtain rfl := Option.some.inj e2
    exact .inr ⟨_, us.toArray, _, hk, rfl, rfl, rfl, by rw [List.size_toArray]; exact h1, by simpa using vals_toV h2⟩
theorem argT (KX : K.In h) (ar : ∀ a ∈ A, ArgOb h A a) {a : Addr} {vs : List Value} (ha : a ∈ A) (e : h.get? a = some { cls := .type "tuple", data := .seq vs.toArray }) : (∀ u ∈ vs, OkU A u) ∧ SqT K (argH K h A) a (vs.map toV) := by
  obtain ⟨us, h1, h2, h3⟩ := ar a ha
  have hu : us = vs := by
    rcases h3 with q | q
    · rw [e] at q
      exact absurd (Value.type.inj (seq_inj q).1) (by decide)
    · rw [e] at q
      exact (seq_inj q).2.symm
  subst hu
  refine ⟨h2, ?_⟩
  cases hk : K.lookup a with
  | none => exact .inl (.inr ⟨_, by rw [argH_at ha hk e, hoOf_tup]⟩)
  | some o =>
    have e2 := KX a o hk
    rw [e] at e2
    obtain rfl := Option.some.inj e2
    exact .inr ⟨_, us.toArray, _, hk, rfl, rfl, by rw [List.size_toArray]; exact h1, by simpa using vals_toV h2⟩
mutual
theorem dw_one {Pm : Params} (KX : K.In h) (ar : ∀ a ∈ A, ArgOb h A a) : ∀ (d : WData) (v : Value), Well Pm h v d → plW d = true → OkU A v → Dw K (argH K h A) (toV v) d
  | .none, _, x, _, _ => by
    cases x
    exact .non
  | .bool b, _, x, _, _ => by
    cases x
    exact .bl b
  | .int i, _, x, _, _ => by
    cases x
    exact .int i
  | .str s, _, x, _, _ => by
    cases x
    exact .str s
  | .bytes b, _, x, _, _ => by
    cases x
    have z := Dw.byt (K := K) (H := argH K h A) b.toArray
    exact z
  | .list ds, _, x, p, hu => by
    obtain ⟨a, vs, rfl, ho, hall⟩ := well_list x
    obtain ⟨h2, hs⟩ := argL KX ar hu ho
    exact .lst hs (dw_all KX ar ds _ hall p h2)
  | .tuple ds, _, x, p, hu => by
    obtain ⟨a, vs, rfl, ho, hall⟩ := well_tuple x
    obtain ⟨h2, hs⟩ := argT KX ar hu ho
    exact .tup hs (dw_all KX ar ds _ hall p h2)
  | .float _, _, _, p, _ => Bool.noConfusion (show false = true from p)
  | .dict _, _, _, p, _ => Bool.noConfusion (show false = true from p)
  | .bytearray _, _, _, p, _ => Bool.noConfusion (show false = true from p)
  | .set _, _, _, p, _ => Bool.noConfusion (show false = true from p)
  | .frozenset _, _, _, p, _ => Bool.noConfusion (show false = true from p)
  | .obj _ _, _, _, p, _ => Bool.noConfusion (show false = true from p)
theorem dw_all {Pm : Params} (KX : K.In h) (ar : ∀ a ∈ A, ArgOb h A a) : ∀ (ds : List WData) (vs : List Value), WellAll Pm h vs ds → plWs ds = true → (∀ u ∈ vs, OkU A u) → DwAll K (argH K h A) (vs.map toV) ds
  | [], _, x, _, _ => by
    cases x
    exact .nil
  | d :: ds, _, x, p, hu => by
    obtain ⟨v, vs, rfl, x1, x2⟩ := well_cons x
    have q : plW d = true ∧ plWs ds = true := Bool.and_eq_true_iff.mp p
    exact .cons (dw_one KX ar d v x1 q.1 (hu _ (List.mem_cons_self ..))) (dw_all KX ar ds vs x2 q.2 fun u m => hu u (List.mem_cons_of_mem _ m))
end
end
theorem spec_call {P : Program} {w : World} {K : PySem.W.Frag} {mg mb : Str → Option Value} {CX : CXT} {k : Nat} {fa : Addr} {fd : FuncData} {ps : List Str} {sp : Sp} {s₁ : Shared} {vals : List Value} {ds : List WData} {R : PySem.W.WRecords} {cl : Str → Option Addr} {d0 : WData}
    (KX : K.In s₁.heap) (hns : s₁.heap.Ns mainGlobals mg) (hb : s₁.heap.Ns builtinsNs mb) (hbb : ∀ x : Str, x ≠ "__name__" → mb x = bootBuiltins x) (hlim : s₁.heap.NoLimit) (hg : s₁.gens = #[])
    (hwl : WellAll w.params s₁.heap vals ds) (hpl : plWs ds = true) (hwt : ∀ d ∈ ds, d.weight ≤ 1048576) (hr : Room k callerA)
    (F : ∀ base : Heap, K.In base → base.Ns mainGlobals mg → FnOk P w K mg base CX k fa fd ps sp) (hbind : ∀ (s : Shared) (us : List Value), us.length = ps.length → BindsTo s fd ⟨us, []⟩ (ps.zip us)) (hlen : ds.length = ps.length)
    (hsp : ∀ (H : Hp) (xs : List V), OnlyF H → DwAll K H xs ds → sp xs H (fun v H' => Dw K H' v d0) fun _ _ _ => False)
    (hCX : ∀ H e s', CX [] H s₁ (fun _ _ _ => False) e s' → False) :
    codeAny (model P w) callerA (.call (.ref fa) ⟨vals, []⟩) (fun r s' => ∃ u as, r = .ok (.ret u) ∧ ReadsW R cl s'.heap u d0 as ∧ OldK s₁.heap s'.heap ∧ s'.os = s₁.os ∧ AllBare s'.gens) s₁ := by
  obtain ⟨A, ho, ar⟩ := area_all ds vals hwl hpl hwt
  have hO : OnlyF (argH K s₁.heap A) := argH_only ar
  have hok : HOk P w (argH K s₁.heap A) s₁.heap := argH_ok ar
  have hS := dw_all KX ar ds vals hwl hpl ho
  have hV := vals_toV ho
  have hK : ∀ b u, argH K s₁.heap A b = some u → K.lookup b = none := fun b u q => (argH_is ar q).1
  have noA : ∀ {b : Addr} {o : Obj} {es : Array DictEntry} {ep : Nat}, s₁.heap.get? b = some o → o.data = .dict es ep → argH K s₁.heap A b = none := fun {b o es ep} e d => by
    cases q : argH K s₁.heap A b with
    | none => rfl
    | some u =>
      obtain ⟨_, vs, _, _, ⟨e2, _⟩ | ⟨e2, _⟩⟩ := argH_is ar q
      · rw [e2] at e
        cases e
        have d' : Data.seq vs.toArray _ = Data.dict es ep := d
        cases d'
      · rw [e2] at e
        cases e
        have d' : Data.seq vs.toArray _ = Data.dict es ep := d
        cases d'
  generalize argH K s₁.heap A = H at hO hok hS hK noA
  have base_of : ∀ {b : Addr} {o : Obj}, s₁.heap.get? b = some o → H b = none → (hidT s₁.heap H).get? b = some o := fun e n => hidT_get e n
  have nsK : ∀ {b : Addr} {m : Str → Option Value}, s₁.heap.Ns b m → (hidT s₁.heap H).Ns b m := fun {b m} ⟨o, es, ep, e, d, r⟩ => ⟨o, es, ep, base_of e (noA e d), d, r⟩
  have nK : ∀ b o, K.lookup b = some o → H b = none := fun b o e => by
    cases q : H b with
    | none => rfl
    | some u =>
      rw [hK b u q] at e
      cases e
  have hKb : K.In (hidT s₁.heap H) := fun b o e => base_of (KX b o e) (nK b o e)
  have hM : Mod K mg (hidT s₁.heap H) := ⟨hKb, nsK hns, ⟨mb, nsK hb, hbb⟩, let ⟨mc, h1, h2⟩ := hlim; ⟨mc, nsK h1, h2⟩⟩
  have e0 : Env0 P w K mg (hidT s₁.heap H) callerA [] s₁ H := ⟨rfl, hM, fun b o e => of_hidT e, Nat.le_of_eq (hidT_size _ _), trivial, fun b hb => absurd (show b ∈ ([] : List Addr) from hb) (by simp), hok, .of_eq hg⟩
  have hl : vals.length = ps.length := by rw [wellAll_len hwl]; exact hlen
  refine codeAny_mono ((F _ hKb (nsK hns)).run callerA [] s₁ H ⟨vals, []⟩ vals (vals.map toV) _ _ hr e0 (hbind s₁ vals hl) hV (hsp H _ hO hS)) fun r s' x => ?_
  cases r with
  | error e => exact (hCX H e s' x).elim
  | ok fl =>
    cases fl with
    | next => exact False.elim x
    | brk => exact False.elim x
    | cont => exact False.elim x
    | ret u =>
      obtain ⟨v, H', os, bare, un, hok', r', q⟩ := x
      have kept : ∀ b o, s₁.heap.get? b = some o → s'.heap.get? b = some o := fun b o e => by
        cases q2 : H b with
        | none => exact un.keep b o e q2 (by intro z; exact absurd (show b ∈ ([] : List Addr) from z) (by simp)) (by simp)
        | some u2 =>
          rcases hO b with z | ⟨ob, u3, z⟩
          · rw [q2] at z
            cases z
          · have z2 := un.frzs b ob _ z
            obtain ⟨e1, _⟩ := hok b _ z
            obtain ⟨e2, _⟩ := hok' b _ z2
            rw [e] at e1
            cases e1
            exact e2
      have KX' : K.In s'.heap := fun b o e => kept b o (KX b o e)
      obtain ⟨as, hrd⟩ := Dw.reads (R := R) (cl := cl) hok' KX' d0 v u q r'
      exact ⟨u, as, rfl, hrd, OldK.of_keep kept, os, bare⟩
theorem layable_weight {ds : List WData} (h : WData.layableAll ds = true) : ∀ d ∈ ds, d.weight ≤ 1048576 := fun d hd =>
  (PySem.W.layableW_iff.mp (List.all_eq_true.mp h d hd)).2.2
theorem encAll_len : ∀ (cs : List Codec) (a : Codec.denoteAll cs), (Codec.encAll cs a).length = cs.length
  | [], _ => rfl
  | c :: cs, a => by
    show (Codec.encAll cs a.2).length + 1 = cs.length + 1
    rw [encAll_len cs a.2]
/-- the goal that k_headS leaves (case hc), from the promise of the row's def: whatever the arguments that the codecs let and the row asks for, the def gives what stands for enc (f ..) -/
theorem walk_spec {r : OpenSpec} {k : Nat} {q : Program} {loose : List Str} {XP : (Str → Option Value) → Heap → Prop} {YP : World → Heap → Prop} {d : DefRec} {K : Params → PySem.W.Frag} {CX : World → CXT} {ps : List Str} {sp : World → Sp}
    (hwell : r.wellSaid = true) (hdf : d.params.defaults = []) (hlen : r.args.length = ps.length) (hr : Room k callerA)
    (hY : ∀ (w : World) (h : Heap), YP w h → (K w.params).In h)
    (F : ∀ (w : World) (mg : Str → Option Value) (fa : Addr) (h : Heap), YP w h → (K w.params).In h → h.Ns mainGlobals mg → mg d.name = some (.ref fa) →
      ∃ fd : FuncData, (∀ (s : Shared) (us : List Value), us.length = ps.length → BindsTo s fd ⟨us, []⟩ (ps.zip us)) ∧
        ∀ base : Heap, (K w.params).In base → base.Ns mainGlobals mg → FnOk r.prog w (K w.params) mg base (CX w) k fa fd ps (sp w))
    (hsp : ∀ (w : World) (H : Hp) (xs : List V) (a : Codec.denoteAll r.args), OnlyF H → Codec.withinAll r.args a = true → Codec.app r.args r.asked a = true → DwAll (K w.params) H xs (Codec.encAll r.args a) →
      sp w xs H (fun v H' => Dw (K w.params) H' v (r.ret.enc (Codec.app r.args r.f a))) fun _ _ _ => False)
    (hCX : ∀ (w : World) (H : Hp) (s : Shared) (e : Value) (s' : Shared), CX w [] H s (fun _ _ _ => False) e s' → False) :
    PySem.W.WalkOS q loose XP YP r d [] (fun f vs => PySem.call f vs) := by
  intro w s_0 s₁ mg mb G Y fa o pm cd doc dV kV ho hd hcd hD hmg hg args vals as hpre hlay hrd hwl hlo
  obtain ⟨a, e1, e2⟩ := PySem.W.os_pre_some hpre
  obtain ⟨e3, hwi⟩ := Codec.encAll_of_decAll r.args args a e1
  subst e3
  have KX := hY w _ Y
  obtain ⟨fd, hb, hF⟩ := F w mg fa _ Y KX G.T.g hmg
  refine PySem.W.enter_call (codeAny_mono (spec_call (R := []) (cl := classAt s_0.heap) (d0 := r.ret.enc (Codec.app r.args r.f a)) KX G.T.g G.T.b G.T.builtins G.T.nolimit hg hwl (pl_encAll _ _) (layable_weight hlay) hr hF hb (by rw [encAll_len]; exact hlen)
    (fun H xs hO hS => hsp w H xs a hO hwi e2 hS) fun H e s' => hCX w H s₁ e s') fun r' s' hq => ?_)
  obtain ⟨u, as', rfl, h1, h2, h3, h4⟩ := hq
  exact ⟨.inl ⟨u, _, as', rfl, fun _ => rfl, h1, (OpenSpec.post_iff hwell hwi _ _).mpr rfl, fun z => Bool.noConfusion (show false = true from z)⟩, h2, h3, h4⟩
/-- the same where the promise hangs on the written part alone -/
theorem walk_specK {r : OpenSpec} {k : Nat} {q : Program} {loose : List Str} {XP : (Str → Option Value) → Heap → Prop} {YP : World → Heap → Prop} {d : DefRec} {K : Params → PySem.W.Frag} {CX : CXT} {ps : List Str} {sp : PySem.W.Frag → Sp}
    (hwell : r.wellSaid = true) (hdf : d.params.defaults = []) (hlen : r.args.length = ps.length) (hr : Room k callerA)
    (hY : ∀ (w : World) (h : Heap), YP w h → (K w.params).In h)
    (F : ∀ (w : World) (mg : Str → Option Value) (fa : Addr) (h : Heap), YP w h → (K w.params).In h → h.Ns mainGlobals mg → mg d.name = some (.ref fa) →
      ∃ fd : FuncData, (∀ (s : Shared) (us : List Value), us.length = ps.length → BindsTo s fd ⟨us, []⟩ (ps.zip us)) ∧
        ∀ base : Heap, (K w.params).In base → base.Ns mainGlobals mg → FnOk r.prog w (K w.params) mg base CX k fa fd ps (sp (K w.params)))
    (hsp : ∀ (K : PySem.W.Frag) (H : Hp) (xs : List V) (a : Codec.denoteAll r.args), OnlyF H → Codec.withinAll r.args a = true → Codec.app r.args r.asked a = true → DwAll K H xs (Codec.encAll r.args a) →
      sp K xs H (fun v H' => Dw K H' v (r.ret.enc (Codec.app r.args r.f a))) fun _ _ _ => False)
    (hCX : ∀ (H : Hp) (s : Shared) (e : Value) (s' : Shared), CX [] H s (fun _ _ _ => False) e s' → False) :
    PySem.W.WalkOS q loose XP YP r d [] (fun f vs => PySem.call f vs) :=
  walk_spec (K := K) (CX := fun _ => CX) (sp := fun w => sp (K w.params)) hwell hdf hlen hr hY F (fun w H xs a h1 h2 h3 h4 => hsp (K w.params) H xs a h1 h2 h3 h4) fun _ H s e s' => hCX H s e s'
end L2
end
namespace DA
open Su109
def val (f : Fr) : Rat := (f.1 : Rat) / (f.2 : Rat)
def Red (f : Fr) : Prop := 0 < f.2 ∧ Nat.gcd f.1.natAbs f.2 = 1
def sumTo : Nat → (Nat → Rat) → Rat
  | 0, _ => 0
  | n + 1, f => sumTo n f + f n
theorem natCast_ne {n : Nat} (h : 0 < n) : (n : Rat) ≠ 0 := by
  have : n ≠ 0 := by omega
  exact_mod_cast this
theorem low_pos {x : Int} {n : Nat} (h : 0 < n) : low x n = (x / (Nat.gcd x.natAbs n : Int), n / Nat.gcd x.natAbs n) := by
  unfold low
  have : Nat.gcd x.natAbs n ≠ 0 := by
    have := Nat.gcd_pos_of_pos_right x.natAbs h
    omega
  rw [if_neg this]
  rfl
theorem low_spec {x : Int} {n : Nat} (h : 0 < n) : ∃ g : Nat, 0 < g ∧ x = (low x n).1 * g ∧ n = (low x n).2 * g ∧ Red (low x n) := by
  have hg := Nat.gcd_pos_of_pos_right x.natAbs h
  refine ⟨Nat.gcd x.natAbs n, hg, ?_, ?_, ?_⟩
  · rw [low_pos h]
    have : ((Nat.gcd x.natAbs n : Nat) : Int) ∣ x := by
      have := Nat.gcd_dvd_left x.natAbs n
      exact Int.ofNat_dvd_left.mpr this
    exact (Int.ediv_mul_cancel this).symm
  · rw [low_pos h]
    exact (Nat.div_mul_cancel (Nat.gcd_dvd_right x.natAbs n)).symm
  · rw [low_pos h]
    refine ⟨Nat.div_pos (Nat.le_of_dvd h (Nat.gcd_dvd_right _ _)) hg, ?_⟩
    show Nat.gcd (x / (Nat.gcd x.natAbs n : Int)).natAbs _ = 1
    have e : (x / (Nat.gcd x.natAbs n : Int)).natAbs = x.natAbs / Nat.gcd x.natAbs n := by
      have : ((Nat.gcd x.natAbs n : Nat) : Int) ∣ x := Int.ofNat_dvd_left.mpr (Nat.gcd_dvd_left x.natAbs n)
      rw [Int.natAbs_ediv_of_dvd this]
      rfl
    rw [e]
    exact Nat.gcd_div_gcd_div_gcd_of_pos_right h
theorem low_red {x : Int} {n : Nat} (h : 0 < n) : Red (low x n) := by
  obtain ⟨g, _, _, _, r⟩ := low_spec (x := x) h
  exact r
theorem low_val {x : Int} {n : Nat} (h : 0 < n) : val (low x n) = (x : Rat) / (n : Rat) := by
  obtain ⟨g, hg, e1, e2, r⟩ := low_spec (x := x) h
  have a1 : (x : Rat) = ((low x n).1 : Rat) * (g : Rat) := by
    have := congrArg (fun t : Int => (t : Rat)) e1
    rw [← Rat.intCast_natCast g, ← Rat.intCast_mul]
    exact this
  have a2 : (n : Rat) = ((low x n).2 : Rat) * (g : Rat) := by
    have := congrArg (fun t : Nat => (t : Rat)) e2
    simpa using this
  have b := natCast_ne r.1
  have c := natCast_ne hg
  unfold val
  rw [a1, a2]
  grind
theorem over_red {x d : Int} (h : d ≠ 0) : Red (over x d) := by
  unfold over
  split
  · exact low_red (by omega)
  · exact low_red (by omega)
theorem over_val {x d : Int} (h : d ≠ 0) : val (over x d) = (x : Rat) / (d : Rat) := by
  have hd : (d : Rat) ≠ 0 := by exact_mod_cast h
  unfold over
  split
  · rename_i hn
    rw [low_val (by omega)]
    have e : ((d.natAbs : Nat) : Rat) = - (d : Rat) := by
      have : ((d.natAbs : Nat) : Int) = - d := by omega
      rw [← Rat.intCast_natCast, this]
      simp
    rw [e]
    have : ((-x : Int) : Rat) = - (x : Rat) := by simp
    rw [this]
    grind
  · rename_i hn
    rw [low_val (by omega)]
    have e : ((d.natAbs : Nat) : Rat) = (d : Rat) := by
      have : ((d.natAbs : Nat) : Int) = d := by omega
      rw [← Rat.intCast_natCast, this]
    rw [e]
theorem red_ext {f g : Fr} (hf : Red f) (hg : Red g) (e : val f = val g) : f = g := by
  obtain ⟨a, b⟩ := f
  obtain ⟨c, d⟩ := g
  obtain ⟨hb, ga⟩ := hf
  obtain ⟨hd, gc⟩ := hg
  simp only at hb ga hd gc
  unfold val at e
  simp only at e
  have nb := natCast_ne hb
  have nd := natCast_ne hd
  have x : (a : Rat) * (d : Rat) = (c : Rat) * (b : Rat) := by grind
  have x' : a * (d : Int) = c * (b : Int) := by exact_mod_cast x
  have n1 : a.natAbs * d = c.natAbs * b := by
    have := congrArg Int.natAbs x'
    simpa [Int.natAbs_mul] using this
  have d1 : b ∣ d := by
    have : b ∣ a.natAbs * d := ⟨c.natAbs, by rw [n1, Nat.mul_comm]⟩
    exact (Nat.Coprime.dvd_of_dvd_mul_left (show Nat.Coprime b a.natAbs by rw [Nat.coprime_comm]; exact ga) this)
  have d2 : d ∣ b := by
    have : d ∣ c.natAbs * b := ⟨a.natAbs, by rw [← n1, Nat.mul_comm]⟩
    exact (Nat.Coprime.dvd_of_dvd_mul_left (show Nat.Coprime d c.natAbs by rw [Nat.coprime_comm]; exact gc) this)
  have bd : b = d := Nat.dvd_antisymm d1 d2
  subst bd
  have : a = c := by
    have hb' : (b : Int) ≠ 0 := by omega
    exact Int.eq_of_mul_eq_mul_right hb' x'
  rw [this]
theorem plus_red {a b : Fr} (ha : Red a) (hb : Red b) : Red (plus a b) := low_red (Nat.mul_pos ha.1 hb.1)
theorem plus_val {a b : Fr} (ha : Red a) (hb : Red b) : val (plus a b) = val a + val b := by
  unfold plus
  rw [low_val (Nat.mul_pos ha.1 hb.1)]
  have n1 := natCast_ne ha.1
  have n2 := natCast_ne hb.1
  unfold val
  have e : ((a.1 * Int.ofNat b.2 + b.1 * Int.ofNat a.2 : Int) : Rat) = (a.1 : Rat) * (b.2 : Rat) + (b.1 : Rat) * (a.2 : Rat) := by
    rw [Rat.intCast_add, Rat.intCast_mul, Rat.intCast_mul]
    rfl
  have e2 : ((a.2 * b.2 : Nat) : Rat) = (a.2 : Rat) * (b.2 : Rat) := by simp
  rw [e, e2]
  grind
theorem red_zero : Red (0, 1) := ⟨by decide, by decide⟩
theorem val_zero : val (0, 1) = 0 := by unfold val; simp [Rat.div_def]
theorem foldl_plus (f : Nat → Fr) (hf : ∀ c, Red (f c)) : ∀ (n : Nat), Red (((List.range n).map f).foldl plus (0, 1)) ∧ val (((List.range n).map f).foldl plus (0, 1)) = sumTo n (fun c => val (f c))
  | 0 => ⟨red_zero, val_zero⟩
  | n + 1 => by
    obtain ⟨r, v⟩ := foldl_plus f hf n
    rw [List.range_succ, List.map_append, List.foldl_append]
    simp only [List.map_cons, List.map_nil, List.foldl_cons, List.foldl_nil]
    exact ⟨plus_red r (hf n), by rw [plus_val r (hf n), v]; rfl⟩
theorem sumTo_congr {n : Nat} {f g : Nat → Rat} (h : ∀ c, c < n → f c = g c) : sumTo n f = sumTo n g := by
  induction n with
  | zero => rfl
  | succ n ih =>
    show sumTo n f + f n = sumTo n g + g n
    rw [ih (fun c hc => h c (by omega)), h n (by omega)]
theorem worth_term {x : Fr} (hx : Red x) (t : Int) : Red (low (x.1 * t) x.2) ∧ val (low (x.1 * t) x.2) = val x * (t : Rat) := by
  refine ⟨low_red hx.1, ?_⟩
  rw [low_val hx.1]
  have n1 := natCast_ne hx.1
  unfold val
  have : ((x.1 * t : Int) : Rat) = (x.1 : Rat) * (t : Rat) := Rat.intCast_mul _ _
  rw [this]
  grind
theorem worth_red {q : List Fr} (hq : ∀ c, Red (q.getD c (0, 1))) (r : List Int) : Red (worth q r) :=
  (foldl_plus _ (fun c => (worth_term (hq c) (at_ r c)).1) r.length).1
theorem worth_val {q : List Fr} (hq : ∀ c, Red (q.getD c (0, 1))) (r : List Int) :
    val (worth q r) = sumTo r.length (fun c => val (q.getD c (0, 1)) * (at_ r c : Rat)) := by
  have := (foldl_plus (fun c => low ((q.getD c (0, 1)).1 * at_ r c) (q.getD c (0, 1)).2) (fun c => (worth_term (hq c) (at_ r c)).1) r.length).2
  refine this.trans ?_
  exact sumTo_congr (fun c _ => (worth_term (hq c) (at_ r c)).2)
theorem worth_eq {q : List Fr} (hq : ∀ c, Red (q.getD c (0, 1))) (r : List Int) (p : Int) :
    (worth q r == low p 1) = true ↔ sumTo r.length (fun c => val (q.getD c (0, 1)) * (at_ r c : Rat)) = (p : Rat) := by
  rw [beq_iff_eq]
  have e : val (low p 1) = (p : Rat) := by
    rw [low_val (by decide)]
    show (p : Rat) / 1 = p
    grind
  constructor
  · intro h
    rw [← worth_val hq r, h, e]
  · intro h
    refine red_ext (worth_red hq r) (low_red (by decide)) ?_
    rw [worth_val hq r, h, e]
end DA
namespace DA
open Su109
theorem sumTo_succ (n : Nat) (f : Nat → Rat) : sumTo (n + 1) f = sumTo n f + f n := rfl
theorem sumTo_zero {n : Nat} {f : Nat → Rat} (h : ∀ c, c < n → f c = 0) : sumTo n f = 0 := by
  induction n with
  | zero => rfl
  | succ n ih =>
    rw [sumTo_succ, ih (fun c hc => h c (by omega)), h n (by omega)]
    grind
theorem sumTo_split {n a : Nat} {f : Nat → Rat} (ha : a < n) : sumTo n f = f a + sumTo n (fun c => if c = a then 0 else f c) := by
  induction n with
  | zero => omega
  | succ n ih =>
    rw [sumTo_succ, sumTo_succ]
    by_cases e : a = n
    · subst e
      have : sumTo a (fun c => if c = a then 0 else f c) = sumTo a f := sumTo_congr (fun c hc => if_neg (by omega))
      rw [this, if_pos rfl]
      grind
    · rw [ih (by omega), if_neg (fun h => e h.symm)]
      grind
theorem sumTo_one {n a : Nat} {f : Nat → Rat} (ha : a < n) (h : ∀ c, c < n → c ≠ a → f c = 0) : sumTo n f = f a := by
  rw [sumTo_split ha, sumTo_zero (n := n)]
  · grind
  · intro c hc
    by_cases e : c = a
    · exact if_pos e
    · rw [if_neg e, h c hc e]
theorem sumTo_two {n a b : Nat} {f : Nat → Rat} (ha : a < n) (hb : b < n) (hab : a ≠ b) (h : ∀ c, c < n → c ≠ a → c ≠ b → f c = 0) : sumTo n f = f a + f b := by
  rw [sumTo_split ha, sumTo_one hb]
  · rw [if_neg (fun e => hab e.symm)]
  · intro c hc hcb
    by_cases e : c = a
    · exact if_pos e
    · rw [if_neg e, h c hc e hcb]
theorem sumTo_lin (n : Nat) (p r : Rat) (f g : Nat → Rat) : sumTo n (fun c => p * f c - r * g c) = p * sumTo n f - r * sumTo n g := by
  induction n with
  | zero => simp only [sumTo]; grind
  | succ n ih => simp only [sumTo_succ, ih]; grind
def cell (rows : List (List Int)) (i j : Nat) : Int := at_ (rows.getD i []) j
def clearRow (p r : Int) (row kept : List Int) : List Int := List.zipWith (fun a b => p * a - r * b) row kept
def cleared (rows : List (List Int)) (c : Nat) : List (List Int) :=
  rows.mapIdx fun i row => if i = c then rows.getD c [] else clearRow (at_ (rows.getD c []) c) (at_ row c) row (rows.getD c [])
def swapped (rows : List (List Int)) (c f : Nat) : List (List Int) := (rows.set f (rows.getD c [])).set c (rows.getD f [])
def pivot (rows : List (List Int)) (c : Nat) : Option Nat := (List.range' c (rows.length - c)).find? fun i => cell rows i c != 0
def elim : Nat → Nat → List (List Int) → Option (List (List Int))
  | 0, _, rows => some rows
  | m + 1, c, rows => match pivot rows c with
    | none => none
    | some f => elim m (c + 1) (cleared (swapped rows c f) c)
def solved (rows : List (List Int)) (k : Nat) : Option (List Fr) := match elim k 0 rows with
  | none => none
  | some m => if (m.drop k).any (fun r => at_ r k != 0) then none else some ((List.range k).map fun i => over (cell m i k) (cell m i i))
def Wide (w : Nat) (rows : List (List Int)) : Prop := ∀ i, i < rows.length → (rows.getD i []).length = w
def Ker (rows : List (List Int)) (w : Nat) (z : Nat → Rat) : Prop := ∀ i, i < rows.length → sumTo w (fun j => (cell rows i j : Rat) * z j) = 0
theorem cleared_length (rows : List (List Int)) (c : Nat) : (cleared rows c).length = rows.length := by simp [cleared]
theorem swapped_length (rows : List (List Int)) (c f : Nat) : (swapped rows c f).length = rows.length := by simp [swapped]
theorem getD_lt {α : Type} {l : List α} {i : Nat} {d : α} (h : i < l.length) : l.getD i d = l[i] := by
  simp [List.getD, h]
theorem cleared_row {rows : List (List Int)} {c i : Nat} (hi : i < rows.length) :
    (cleared rows c).getD i [] = if i = c then rows.getD c [] else clearRow (cell rows c c) (cell rows i c) (rows.getD i []) (rows.getD c []) := by
  rw [getD_lt (by rw [cleared_length]; exact hi)]
  simp only [cleared, List.getElem_mapIdx]
  unfold cell
  rw [getD_lt hi]
theorem clearRow_at {p r : Int} {row kept : List Int} (h : row.length = kept.length) (j : Nat) : at_ (clearRow p r row kept) j = p * at_ row j - r * at_ kept j := by
  unfold at_ clearRow
  by_cases hj : j < row.length
  · rw [getD_lt (by simp; omega), getD_lt hj, getD_lt (by omega)]
    simp
  · simp [List.getD, List.getElem?_eq_none (show row.length ≤ j by omega), List.getElem?_eq_none (show kept.length ≤ j by omega), List.getElem?_eq_none (show (List.zipWith (fun a b => p * a - r * b) row kept).length ≤ j by simp; omega)]
theorem cleared_cell {w : Nat} {rows : List (List Int)} {c i : Nat} (hw : Wide w rows) (hc : c < rows.length) (hi : i < rows.length) (j : Nat) :
    cell (cleared rows c) i j = if i = c then cell rows c j else cell rows c c * cell rows i j - cell rows i c * cell rows c j := by
  show at_ _ j = _
  rw [cleared_row hi]
  by_cases e : i = c
  · rw [if_pos e, if_pos e]; rfl
  · rw [if_neg e, if_neg e, clearRow_at (by rw [hw i hi, hw c hc])]
    rfl
theorem cleared_wide {w : Nat} {rows : List (List Int)} {c : Nat} (hw : Wide w rows) (hc : c < rows.length) : Wide w (cleared rows c) := by
  intro i hi
  rw [cleared_length] at hi
  rw [cleared_row hi]
  split
  · exact hw c hc
  · simp only [clearRow, List.length_zipWith, hw i hi, hw c hc]; omega
theorem swapped_row {rows : List (List Int)} {c f i : Nat} (hi : i < rows.length) :
    (swapped rows c f).getD i [] = if i = c then rows.getD f [] else if i = f then rows.getD c [] else rows.getD i [] := by
  rw [getD_lt (by rw [swapped_length]; exact hi)]
  simp only [swapped, List.getElem_set]
  by_cases e : i = c
  · rw [if_pos e, if_pos e.symm]
  · rw [if_neg e, if_neg (fun h => e h.symm)]
    by_cases e2 : i = f
    · rw [if_pos e2, if_pos e2.symm]
    · rw [if_neg e2, if_neg (fun h => e2 h.symm), getD_lt hi]
theorem swapped_wide {w : Nat} {rows : List (List Int)} {c f : Nat} (hw : Wide w rows) (hc : c < rows.length) (hf : f < rows.length) : Wide w (swapped rows c f) := by
  intro i hi
  rw [swapped_length] at hi
  rw [swapped_row hi]
  split
  · exact hw f hf
  · split
    · exact hw c hc
    · exact hw i hi
theorem swapped_cell {rows : List (List Int)} {c f i : Nat} (hi : i < rows.length) (j : Nat) :
    cell (swapped rows c f) i j = if i = c then cell rows f j else if i = f then cell rows c j else cell rows i j := by
  show at_ _ j = _
  rw [swapped_row hi]
  by_cases e : i = c
  · rw [if_pos e, if_pos e]; rfl
  · rw [if_neg e, if_neg e]
    by_cases e2 : i = f
    · rw [if_pos e2, if_pos e2]; rfl
    · rw [if_neg e2, if_neg e2]; rfl
theorem swapped_ker {rows : List (List Int)} {c f w : Nat} (hc : c < rows.length) (hf : f < rows.length) (z : Nat → Rat) : Ker (swapped rows c f) w z ↔ Ker rows w z := by
  have key : ∀ i, i < rows.length → ∀ i', i' < rows.length → (∀ j, cell (swapped rows c f) i j = cell rows i' j) → sumTo w (fun j => (cell (swapped rows c f) i j : Rat) * z j) = sumTo w (fun j => (cell rows i' j : Rat) * z j) := by
    intro i _ i' _ h
    exact sumTo_congr (fun j _ => by rw [h j])
  constructor
  · intro h i hi
    by_cases e : i = c
    · rw [← key f hf i hi (fun j => by rw [swapped_cell hf]; by_cases e3 : f = c; · rw [if_pos e3, e, e3]
                                       · rw [if_neg e3, if_pos rfl, e])]
      exact h f (by rw [swapped_length]; exact hf)
    · by_cases e2 : i = f
      · rw [← key c hc i hi (fun j => by rw [swapped_cell hc, if_pos rfl, e2])]
        exact h c (by rw [swapped_length]; exact hc)
      · rw [← key i hi i hi (fun j => by rw [swapped_cell hi, if_neg e, if_neg e2])]
        exact h i (by rw [swapped_length]; exact hi)
  · intro h i hi
    rw [swapped_length] at hi
    by_cases e : i = c
    · rw [key i hi f hf (fun j => by rw [swapped_cell hi, if_pos e])]
      exact h f hf
    · by_cases e2 : i = f
      · rw [key i hi c hc (fun j => by rw [swapped_cell hi, if_neg e, if_pos e2])]
        exact h c hc
      · rw [key i hi i hi (fun j => by rw [swapped_cell hi, if_neg e, if_neg e2])]
        exact h i hi
theorem cleared_sum {w v : Nat} {rows : List (List Int)} {c i : Nat} (hw : Wide w rows) (hc : c < rows.length) (hi : i < rows.length) (hic : i ≠ c) (z : Nat → Rat) :
    sumTo v (fun j => (cell (cleared rows c) i j : Rat) * z j) = (cell rows c c : Rat) * sumTo v (fun j => (cell rows i j : Rat) * z j) - (cell rows i c : Rat) * sumTo v (fun j => (cell rows c j : Rat) * z j) := by
  rw [← sumTo_lin]
  refine sumTo_congr (fun j _ => ?_)
  rw [cleared_cell hw hc hi, if_neg hic, Rat.intCast_sub, Rat.intCast_mul, Rat.intCast_mul]
  grind
theorem cleared_ker {w v : Nat} {rows : List (List Int)} {c : Nat} (hw : Wide w rows) (hc : c < rows.length) (hp : cell rows c c ≠ 0) (z : Nat → Rat) : Ker (cleared rows c) v z ↔ Ker rows v z := by
  have hp' : (cell rows c c : Rat) ≠ 0 := by exact_mod_cast hp
  have hcc : sumTo v (fun j => (cell (cleared rows c) c j : Rat) * z j) = sumTo v (fun j => (cell rows c j : Rat) * z j) :=
    sumTo_congr (fun j _ => by rw [cleared_cell hw hc hc, if_pos rfl])
  constructor
  · intro h i hi
    have h0 := h c (by rw [cleared_length]; exact hc)
    rw [hcc] at h0
    by_cases e : i = c
    · rw [e]; exact h0
    · have h1 := h i (by rw [cleared_length]; exact hi)
      rw [cleared_sum hw hc hi e, h0] at h1
      grind
  · intro h i hi
    rw [cleared_length] at hi
    by_cases e : i = c
    · rw [e, hcc]; exact h c hc
    · rw [cleared_sum hw hc hi e, h i hi, h c hc]
      grind
structure Diag (rows : List (List Int)) (c : Nat) : Prop where
  off : ∀ i j, i < rows.length → j < c → i ≠ j → cell rows i j = 0
  on : ∀ j, j < c → cell rows j j ≠ 0
  le : c ≤ rows.length
theorem pivot_some {rows : List (List Int)} {c f : Nat} (h : pivot rows c = some f) : c ≤ f ∧ f < rows.length ∧ cell rows f c ≠ 0 := by
  unfold pivot at h
  have h1 := List.mem_of_find?_eq_some h
  have h2 := List.find?_some h
  rw [List.mem_range'_1] at h1
  refine ⟨h1.1, by omega, ?_⟩
  simpa using h2
theorem pivot_none {rows : List (List Int)} {c : Nat} (h : pivot rows c = none) : ∀ i, c ≤ i → i < rows.length → cell rows i c = 0 := by
  intro i h1 h2
  unfold pivot at h
  rw [List.find?_eq_none] at h
  have := h i (by rw [List.mem_range'_1]; omega)
  simpa using this
theorem step_diag {w : Nat} {rows : List (List Int)} {c f : Nat} (hw : Wide w rows) (hd : Diag rows c) (hp : pivot rows c = some f) :
    Wide w (cleared (swapped rows c f) c) ∧ Diag (cleared (swapped rows c f) c) (c + 1) ∧ (cleared (swapped rows c f) c).length = rows.length ∧ ∀ v z, Ker (cleared (swapped rows c f) c) v z ↔ Ker rows v z := by
  obtain ⟨h1, h2, h3⟩ := pivot_some hp
  have hc : c < rows.length := by omega
  have hsw := swapped_wide hw hc h2
  have hsl := swapped_length rows c f
  have hcs : c < (swapped rows c f).length := by rw [hsl]; exact hc
  have hpp : cell (swapped rows c f) c c ≠ 0 := by rw [swapped_cell hc, if_pos rfl]; exact h3
  have sd : ∀ i j, i < rows.length → j < c → i ≠ j → cell (swapped rows c f) i j = 0 := by
    intro i j hi hj hij
    rw [swapped_cell hi]
    split
    · exact hd.off f j h2 hj (by omega)
    · split
      · exact hd.off c j hc hj (by omega)
      · exact hd.off i j hi hj hij
  have so : ∀ j, j < c → cell (swapped rows c f) j j ≠ 0 := by
    intro j hj
    rw [swapped_cell (by omega), if_neg (by omega), if_neg (by omega)]
    exact hd.on j hj
  refine ⟨cleared_wide hsw hcs, ⟨?_, ?_, ?_⟩, by rw [cleared_length, hsl], fun v z => (cleared_ker hsw hcs hpp z).trans (swapped_ker hc h2 z)⟩
  · intro i j hi hj hij
    rw [cleared_length, hsl] at hi
    rw [cleared_cell hsw hcs (by rw [hsl]; exact hi)]
    split
    · rename_i e
      exact sd c j hc (by omega) (by omega)
    · rename_i e
      by_cases ej : j = c
      · subst ej
        rw [Int.mul_comm]; omega
      · rw [sd i j hi (by omega) hij, sd c j hc (by omega) (by omega)]
        omega
  · intro j hj
    rw [cleared_cell hsw hcs (by rw [hsl]; omega)]
    split
    · rename_i e
      subst e
      exact hpp
    · rename_i e
      rw [sd c j hc (by omega) (by omega)]
      have := so j (by omega)
      intro h
      have h' : cell (swapped rows c f) c c * cell (swapped rows c f) j j = 0 := by omega
      rcases Int.mul_eq_zero.mp h' with h' | h'
      · exact hpp h'
      · exact this h'
  · rw [cleared_length, hsl]; omega
theorem elim_some {w : Nat} : ∀ (m c : Nat) (rows rows' : List (List Int)), Wide w rows → Diag rows c → elim m c rows = some rows' →
    Wide w rows' ∧ Diag rows' (c + m) ∧ rows'.length = rows.length ∧ ∀ v z, Ker rows' v z ↔ Ker rows v z
  | 0, c, rows, rows', hw, hd, h => by
    simp only [elim, Option.some.injEq] at h
    subst h
    exact ⟨hw, hd, rfl, fun _ _ => Iff.rfl⟩
  | m + 1, c, rows, rows', hw, hd, h => by
    rw [elim] at h
    split at h
    · exact absurd h (by simp)
    · rename_i f hf
      obtain ⟨a, b, l, k⟩ := step_diag hw hd hf
      obtain ⟨a', b', l', k'⟩ := elim_some m (c + 1) _ rows' a b h
      refine ⟨a', ?_, by rw [l', l], fun v z => (k' v z).trans (k v z)⟩
      have : c + 1 + m = c + (m + 1) := by omega
      rw [← this]; exact b'
def witness (rows : List (List Int)) (c j : Nat) : Rat := if j < c then - (cell rows j c : Rat) / (cell rows j j : Rat) else if j = c then 1 else 0
theorem elim_none {w : Nat} : ∀ (m c : Nat) (rows : List (List Int)), Wide w rows → Diag rows c → elim m c rows = none →
    ∃ z : Nat → Rat, (∀ v, c + m ≤ v → Ker rows v z) ∧ (∃ j, j < c + m ∧ z j ≠ 0) ∧ ∀ j, c + m ≤ j → z j = 0
  | 0, c, rows, hw, hd, h => by simp [elim] at h
  | m + 1, c, rows, hw, hd, h => by
    rw [elim] at h
    split at h
    · rename_i hp
      have hz := pivot_none hp
      have w1 : ∀ j, j < c → witness rows c j = - (cell rows j c : Rat) / (cell rows j j : Rat) := fun j hj => if_pos hj
      have w2 : witness rows c c = 1 := by unfold witness; rw [if_neg (by omega), if_pos rfl]
      have w3 : ∀ j, c < j → witness rows c j = 0 := fun j hj => by unfold witness; rw [if_neg (by omega), if_neg (by omega)]
      refine ⟨witness rows c, ?_, ⟨c, by omega, ?_⟩, ?_⟩
      · intro v hv i hi
        have hcv : c < v := by omega
        by_cases ic : i < c
        · have hii : (cell rows i i : Rat) ≠ 0 := by
            have := hd.on i ic
            exact_mod_cast this
          rw [sumTo_two (a := i) (b := c) (by omega) hcv (by omega)]
          · rw [w1 i ic, w2]
            grind
          · intro j hj h1 h2
            by_cases jc : j < c
            · rw [hd.off i j hi jc (by omega)]
              show (0 : Rat) * _ = 0
              grind
            · rw [w3 j (by omega)]; grind
        · refine sumTo_zero ?_
          intro j hj
          by_cases jc : j < c
          · rw [hd.off i j hi jc (by omega)]
            show (0 : Rat) * _ = 0
            grind
          · by_cases e : j = c
            · subst e
              rw [hz i (by omega) hi]
              show (0 : Rat) * _ = 0
              grind
            · rw [w3 j (by omega)]; grind
      · rw [w2]; decide
      · intro j hj
        exact w3 j (by omega)
    · rename_i f hf
      obtain ⟨a, b, l, k⟩ := step_diag hw hd hf
      obtain ⟨z, z1, z2, z3⟩ := elim_none m (c + 1) _ a b h
      have e : c + 1 + m = c + (m + 1) := by omega
      rw [e] at z1 z2 z3
      exact ⟨z, fun v hv => (k v z).mp (z1 v hv), z2, z3⟩
theorem diag_zero (rows : List (List Int)) : Diag rows 0 := ⟨fun _ _ _ h => absurd h (by omega), fun _ h => absurd h (by omega), by omega⟩
/-- the columns ahead of k are apart: nothing but nothing is taken to nothing -/
def Apart (rows : List (List Int)) (k : Nat) : Prop := ∀ z : Nat → Rat, Ker rows k z → ∀ j, j < k → z j = 0
theorem diag_ker {rows : List (List Int)} {k : Nat} (hd : Diag rows k) (z : Nat → Rat) (i : Nat) (hi : i < rows.length) :
    sumTo (k + 1) (fun j => (cell rows i j : Rat) * z j) = (if i < k then (cell rows i i : Rat) * z i else 0) + (cell rows i k : Rat) * z k := by
  rw [sumTo_succ]
  congr 1
  split
  · rename_i h
    exact sumTo_one h (fun j hj hji => by rw [hd.off i j hi hj (by omega)]; show (0 : Rat) * _ = 0; grind)
  · exact sumTo_zero (fun j hj => by rw [hd.off i j hi hj (by omega)]; show (0 : Rat) * _ = 0; grind)
theorem diag_apart {rows : List (List Int)} {k : Nat} (hd : Diag rows k) : Apart rows k := by
  intro z hz j hj
  have hl := hd.le
  have := hz j (by omega)
  rw [sumTo_one hj (fun c hc hcj => by rw [hd.off j c (by omega) hc (by omega)]; show (0 : Rat) * _ = 0; grind)] at this
  have hjj : (cell rows j j : Rat) ≠ 0 := by
    have := hd.on j hj
    exact_mod_cast this
  grind
theorem solved_some {rows : List (List Int)} {k : Nat} {fs : List Fr} (hw : Wide (k + 1) rows) (h : solved rows k = some fs) :
    k ≤ rows.length ∧ fs.length = k ∧ (∀ j, Red (fs.getD j (0, 1))) ∧ Apart rows k ∧ Ker rows (k + 1) (fun j => if j = k then -1 else val (fs.getD j (0, 1))) := by
  unfold solved at h
  split at h
  · simp at h
  · rename_i m hm
    obtain ⟨a, b, l, kk⟩ := elim_some k 0 rows m hw (diag_zero rows) hm
    rw [Nat.zero_add] at b
    split at h
    · simp at h
    · rename_i hn
      simp only [Option.some.injEq] at h
      have hl := b.le
      have hat : ∀ j, j < k → fs.getD j (0, 1) = over (cell m j k) (cell m j j) := by
        intro j hj
        rw [← h, getD_lt (by simp; exact hj)]
        simp
      refine ⟨by omega, by rw [← h]; simp, ?_, ?_, ?_⟩
      · intro j
        by_cases hj : j < k
        · rw [hat j hj]
          exact over_red (b.on j hj)
        · have : fs.getD j (0, 1) = (0, 1) := by
            rw [← h]
            simp [List.getD, List.getElem?_eq_none (show ((List.range k).map fun i => over (cell m i k) (cell m i i)).length ≤ j by simp; omega)]
          rw [this]; exact red_zero
      · intro z hz
        exact diag_apart b z ((kk k z).mpr hz)
      · rw [← kk]
        intro i hi
        rw [diag_ker b _ i hi]
        simp only [if_true]
        split
        · rename_i hik
          have hne := b.on i hik
          have hne' : (cell m i i : Rat) ≠ 0 := by exact_mod_cast hne
          rw [if_neg (by omega), hat i hik, over_val hne]
          grind
        · rename_i hik
          have : cell m i k = 0 := by
            have hx : ¬ (m.drop k).any (fun r => at_ r k != 0) = true := hn
            rw [List.any_eq_true] at hx
            by_cases e : cell m i k = 0
            · exact e
            · exfalso
              refine hx ⟨m[i], ?_, ?_⟩
              · rw [List.mem_drop_iff_getElem]
                exact ⟨i - k, by omega, by congr 1; omega⟩
              · have : at_ m[i] k ≠ 0 := by
                  unfold cell at e
                  rw [getD_lt hi] at e
                  exact e
                simpa using this
          rw [this]
          show (0 : Rat) + 0 * _ = 0
          grind
theorem solved_of {rows : List (List Int)} {k : Nat} {x : Nat → Rat} (hw : Wide (k + 1) rows) (ha : Apart rows k) (hx : Ker rows (k + 1) x) (hk : x k = -1) :
    ∃ fs, solved rows k = some fs ∧ ∀ j, j < k → val (fs.getD j (0, 1)) = x j := by
  unfold solved
  cases hm : elim k 0 rows with
  | none =>
    obtain ⟨z, z1, ⟨j, hj, z2⟩, z3⟩ := elim_none k 0 rows hw (diag_zero rows) hm
    exact absurd (ha z (z1 k (by omega)) j (by omega)) z2
  | some m =>
    obtain ⟨a, b, l, kk⟩ := elim_some k 0 rows m hw (diag_zero rows) hm
    rw [Nat.zero_add] at b
    have hl := b.le
    have hx' := (kk (k + 1) x).mpr hx
    have hn : ¬ (m.drop k).any (fun r => at_ r k != 0) = true := by
      rw [List.any_eq_true]
      rintro ⟨r, hr, hr2⟩
      rw [List.mem_drop_iff_getElem] at hr
      obtain ⟨i, hi, e⟩ := hr
      have := hx' (k + i) (by omega)
      rw [diag_ker b _ (k + i) (by omega), if_neg (by omega), hk] at this
      have h0 : (cell m (k + i) k : Rat) = 0 := by grind
      have h1 : cell m (k + i) k = 0 := by exact_mod_cast h0
      unfold cell at h1
      rw [getD_lt (by omega), e] at h1
      rw [h1] at hr2
      simp at hr2
    simp only
    rw [if_neg hn]
    refine ⟨_, rfl, ?_⟩
    intro j hj
    rw [getD_lt (by simp; exact hj)]
    simp only [List.getElem_map, List.getElem_range]
    have hne := b.on j hj
    have hne' : (cell m j j : Rat) ≠ 0 := by exact_mod_cast hne
    rw [over_val hne]
    have := hx' j (by omega)
    rw [diag_ker b _ j (by omega), if_pos hj, hk] at this
    grind
end DA
namespace DA
open Su109
theorem det1 (a : Int) : det 1 [[a]] = a := by
  simp [det, at_]
theorem det2 (a b c d : Int) : det 2 [[a, b], [c, d]] = a * d - b * c := by
  simp [det, at_, List.range_succ]
  grind
theorem det3 (a b c d e f g h i : Int) : det 3 [[a, b, c], [d, e, f], [g, h, i]] = a * (e * i - f * h) - b * (d * i - f * g) + c * (d * h - e * g) := by
  simp [det, at_, List.range_succ]
  grind
theorem cramer1 {a p : Int} {z e : Rat} (h : (a : Rat) * z = e * p) : (det 1 [[a]] : Rat) * z = e * (det 1 [[p]] : Rat) := by
  rw [det1, det1]; exact h
theorem cramer2 {a b c d p q : Int} {y z w : Rat} (h1 : (a : Rat) * y + b * z = w * p) (h2 : (c : Rat) * y + d * z = w * q) :
    (det 2 [[a, b], [c, d]] : Rat) * y = w * (det 2 [[p, b], [q, d]] : Rat) ∧ (det 2 [[a, b], [c, d]] : Rat) * z = w * (det 2 [[a, p], [c, q]] : Rat) := by
  simp only [det2, Rat.intCast_sub, Rat.intCast_mul]
  constructor <;> grind
theorem cramer3 {a b c d e f g h i p q r : Int} {x y z w : Rat} (h1 : (a : Rat) * x + b * y + c * z = w * p) (h2 : (d : Rat) * x + e * y + f * z = w * q) (h3 : (g : Rat) * x + h * y + i * z = w * r) :
    (det 3 [[a, b, c], [d, e, f], [g, h, i]] : Rat) * x = w * (det 3 [[p, b, c], [q, e, f], [r, h, i]] : Rat) ∧
    (det 3 [[a, b, c], [d, e, f], [g, h, i]] : Rat) * y = w * (det 3 [[a, p, c], [d, q, f], [g, r, i]] : Rat) ∧
    (det 3 [[a, b, c], [d, e, f], [g, h, i]] : Rat) * z = w * (det 3 [[a, b, p], [d, e, q], [g, h, r]] : Rat) := by
  simp only [det3, Rat.intCast_sub, Rat.intCast_add, Rat.intCast_mul]
  refine ⟨?_, ?_, ?_⟩ <;> grind
/-- the matrix that a choice of rows and of columns leaves -/
def sub (a : Abs) (s r : List Nat) : List (List Int) := r.map fun i => s.map fun c => at_ (a.rows.getD i []) c
def subP (a : Abs) (s r : List Nat) (j : Nat) : List (List Int) := (List.range (sub a s r).length).map fun i => ((sub a s r).getD i []).set j (at_ a.prices (r.getD i 0))
theorem cramer {a : Abs} {s r : List Nat} (hs : 0 < s.length) (hs3 : s.length ≤ 3) (hr : r.length = s.length) {z : Nat → Rat} {e : Rat}
    (h : ∀ i, i < s.length → sumTo s.length (fun j => (cell a.rows (r.getD i 0) (s.getD j 0) : Rat) * z j) = e * (at_ a.prices (r.getD i 0) : Rat)) :
    ∀ j, j < s.length → (det s.length (sub a s r) : Rat) * z j = e * (det s.length (subP a s r j) : Rat) := by
  match s, r, hs, hs3, hr with
  | [c], [i], _, _, _ =>
    have h0 := h 0 (by simp)
    simp [sumTo] at h0
    have k := cramer1 (a := cell a.rows i c) (p := at_ a.prices i) (z := z 0) (e := e) (by grind)
    intro j hj
    have : j = 0 := by simp at hj; omega
    subst this
    exact k
  | [c, d], [i, i'], _, _, _ =>
    have h0 := h 0 (by simp)
    have h1 := h 1 (by simp)
    simp [sumTo] at h0 h1
    have k := cramer2 (a := cell a.rows i c) (b := cell a.rows i d) (c := cell a.rows i' c) (d := cell a.rows i' d) (p := at_ a.prices i) (q := at_ a.prices i') (y := z 0) (z := z 1) (w := e) (by grind) (by grind)
    intro j hj
    have : j = 0 ∨ j = 1 := by simp at hj; omega
    rcases this with h | h <;> subst h
    · exact k.1
    · exact k.2
  | [c, d, f], [i, i', i''], _, _, _ =>
    have h0 := h 0 (by simp)
    have h1 := h 1 (by simp)
    have h2 := h 2 (by simp)
    simp [sumTo] at h0 h1 h2
    have k := cramer3 (a := cell a.rows i c) (b := cell a.rows i d) (c := cell a.rows i f) (d := cell a.rows i' c) (e := cell a.rows i' d) (f := cell a.rows i' f)
      (g := cell a.rows i'' c) (h := cell a.rows i'' d) (i := cell a.rows i'' f) (p := at_ a.prices i) (q := at_ a.prices i') (r := at_ a.prices i'') (x := z 0) (y := z 1) (z := z 2) (w := e) (by grind) (by grind) (by grind)
    intro j hj
    have : j = 0 ∨ j = 1 ∨ j = 2 := by simp at hj; omega
    rcases this with h | h | h <;> subst h
    · exact k.1
    · exact k.2.1
    · exact k.2.2
end DA
namespace DA
open Su109
theorem dep32 {a b c d e f : Int} (h1 : a * d - b * c = 0) (h2 : a * f - b * e = 0) (h3 : c * f - d * e = 0) :
    ∃ y z : Int, (y ≠ 0 ∨ z ≠ 0) ∧ a * y + b * z = 0 ∧ c * y + d * z = 0 ∧ e * y + f * z = 0 := by
  by_cases ha : a = 0 ∧ b = 0
  · obtain ⟨ha, hb⟩ := ha
    subst ha hb
    by_cases hc : c = 0 ∧ d = 0
    · obtain ⟨hc, hd⟩ := hc
      subst hc hd
      by_cases he : e = 0 ∧ f = 0
      · obtain ⟨he, hf⟩ := he
        subst he hf
        exact ⟨1, 0, by decide, by decide, by decide, by decide⟩
      · exact ⟨f, -e, by omega, by grind, by grind, by grind⟩
    · exact ⟨d, -c, by omega, by grind, by grind, by grind⟩
  · exact ⟨b, -a, by omega, by grind, by grind, by grind⟩
theorem dep22 {a b c d : Int} (h1 : a * d - b * c = 0) : ∃ y z : Int, (y ≠ 0 ∨ z ≠ 0) ∧ a * y + b * z = 0 ∧ c * y + d * z = 0 := by
  obtain ⟨y, z, h, k1, k2, _⟩ := dep32 (a := a) (b := b) (c := c) (d := d) (e := 0) (f := 0) h1 (by omega) (by omega)
  exact ⟨y, z, h, k1, k2⟩
theorem dep33 {a b c d e f g h i : Int} (hd : a * (e * i - f * h) - b * (d * i - f * g) + c * (d * h - e * g) = 0) :
    ∃ x y z : Int, (x ≠ 0 ∨ y ≠ 0 ∨ z ≠ 0) ∧ a * x + b * y + c * z = 0 ∧ d * x + e * y + f * z = 0 ∧ g * x + h * y + i * z = 0 := by
  by_cases p : b * f - c * e = 0 ∧ c * d - a * f = 0 ∧ a * e - b * d = 0
  · by_cases q : b * i - c * h = 0 ∧ c * g - a * i = 0 ∧ a * h - b * g = 0
    · by_cases r : e * i - f * h = 0 ∧ f * g - d * i = 0 ∧ d * h - e * g = 0
      · obtain ⟨p1, p2, p3⟩ := p
        obtain ⟨q1, q2, q3⟩ := q
        obtain ⟨r1, r2, r3⟩ := r
        by_cases ha : a = 0 ∧ b = 0
        · obtain ⟨ha, hb⟩ := ha
          subst ha hb
          by_cases hc : c = 0
          · subst hc
            by_cases hd' : d = 0 ∧ e = 0
            · obtain ⟨u, v⟩ := hd'
              subst u v
              by_cases hf : f = 0
              · subst hf
                by_cases hg : g = 0 ∧ h = 0
                · obtain ⟨u, v⟩ := hg
                  subst u v
                  exact ⟨1, 0, 0, by decide, by grind, by grind, by grind⟩
                · exact ⟨h, -g, 0, by omega, by grind, by grind, by grind⟩
              · exact ⟨f, 0, 0, by omega, by grind, by grind, by grind⟩
            · exact ⟨e, -d, 0, by omega, by grind, by grind, by grind⟩
          · exact ⟨c, 0, 0, by omega, by grind, by grind, by grind⟩
        · exact ⟨b, -a, 0, by omega, by grind, by grind, by grind⟩
      · exact ⟨e * i - f * h, f * g - d * i, d * h - e * g, by omega, by grind, by grind, by grind⟩
    · exact ⟨b * i - c * h, c * g - a * i, a * h - b * g, by omega, by grind, by grind, by grind⟩
  · exact ⟨b * f - c * e, c * d - a * f, a * e - b * d, by omega, by grind, by grind, by grind⟩
theorem cast2 {a b y z : Int} (h : a * y + b * z = 0) : (a : Rat) * (y : Rat) + (b : Rat) * (z : Rat) = 0 := by
  have := congrArg (fun t : Int => (t : Rat)) h
  simpa using this
theorem cast3 {a b c x y z : Int} (h : a * x + b * y + c * z = 0) : (a : Rat) * (x : Rat) + (b : Rat) * (y : Rat) + (c : Rat) * (z : Rat) = 0 := by
  have := congrArg (fun t : Int => (t : Rat)) h
  simpa using this
theorem cast_ne {x : Int} (h : x ≠ 0) : (x : Rat) ≠ 0 := by exact_mod_cast h
/-- columns that no choice of as many rows tells apart: something is taken to nothing -/
theorem minor {a : Abs} {s : List Nat} (hs : 0 < s.length) (hs3 : s.length ≤ a.rows.length) (hr : a.rows.length ≤ 3)
    (h : ∀ r, r ∈ choose s.length (List.range a.rows.length) → det s.length (sub a s r) = 0) :
    ∃ z : Nat → Rat, (∃ j, j < s.length ∧ z j ≠ 0) ∧ ∀ i, i < a.rows.length → sumTo s.length (fun j => (cell a.rows i (s.getD j 0) : Rat) * z j) = 0 := by
  generalize hR : a.rows.length = R at h hs3 hr
  match s, R, hs, hs3, hr with
  | [c], R, _, h1, h3 =>
    have key : ∀ i, i < R → cell a.rows i c = 0 := by
      intro i hi
      have : [i] ∈ choose 1 (List.range R) := by
        have hRc : R = 1 ∨ R = 2 ∨ R = 3 := by simp at h1; omega
        rcases hRc with e | e | e <;> subst e
        · have : i = 0 := by omega
          subst this; decide
        · have : i = 0 ∨ i = 1 := by omega
          rcases this with e | e <;> subst e <;> decide
        · have : i = 0 ∨ i = 1 ∨ i = 2 := by omega
          rcases this with e | e | e <;> subst e <;> decide
      have := h [i] this
      exact (det1 _).symm.trans this
    refine ⟨fun _ => 1, ⟨0, by simp, by decide⟩, ?_⟩
    intro i hi
    refine sumTo_zero (fun j hj => ?_)
    have : j = 0 := by simp at hj; omega
    subst this
    show ((cell a.rows i c : Int) : Rat) * 1 = 0
    rw [key i hi]; show (0 : Rat) * 1 = 0; grind
  | [c, d], R, _, h1, h3 =>
    have hRc : R = 2 ∨ R = 3 := by simp at h1; omega
    rcases hRc with e | e <;> subst e
    · have k1 := h [0, 1] (show [0, 1] ∈ choose 2 (List.range _) by decide)
      have k1 := (det2 (cell a.rows 0 c) (cell a.rows 0 d) (cell a.rows 1 c) (cell a.rows 1 d)).symm.trans k1
      obtain ⟨y, z, n, e1, e2⟩ := dep22 k1
      refine ⟨fun j => if j = 0 then (y : Rat) else (z : Rat), ?_, ?_⟩
      · rcases n with n | n
        · exact ⟨0, by simp, cast_ne n⟩
        · exact ⟨1, by simp, cast_ne n⟩
      · intro i hi
        have : i = 0 ∨ i = 1 := by omega
        have f1 := cast2 e1
        have f2 := cast2 e2
        rcases this with e | e <;> subst e <;> simp [sumTo] <;> grind
    · have k1 := h [0, 1] (show [0, 1] ∈ choose 2 (List.range _) by decide)
      have k2 := h [0, 2] (show [0, 2] ∈ choose 2 (List.range _) by decide)
      have k3 := h [1, 2] (show [1, 2] ∈ choose 2 (List.range _) by decide)
      have k1 := (det2 (cell a.rows 0 c) (cell a.rows 0 d) (cell a.rows 1 c) (cell a.rows 1 d)).symm.trans k1
      have k2 := (det2 (cell a.rows 0 c) (cell a.rows 0 d) (cell a.rows 2 c) (cell a.rows 2 d)).symm.trans k2
      have k3 := (det2 (cell a.rows 1 c) (cell a.rows 1 d) (cell a.rows 2 c) (cell a.rows 2 d)).symm.trans k3
      obtain ⟨y, z, n, e1, e2, e3⟩ := dep32 k1 k2 k3
      refine ⟨fun j => if j = 0 then (y : Rat) else (z : Rat), ?_, ?_⟩
      · rcases n with n | n
        · exact ⟨0, by simp, cast_ne n⟩
        · exact ⟨1, by simp, cast_ne n⟩
      · intro i hi
        have : i = 0 ∨ i = 1 ∨ i = 2 := by omega
        have f1 := cast2 e1
        have f2 := cast2 e2
        have f3 := cast2 e3
        rcases this with e | e | e <;> subst e <;> simp [sumTo] <;> grind
  | [c, d, f], R, _, h1, h3 =>
    have hRc : R = 3 := by simp at h1; omega
    subst hRc
    have k1 := h [0, 1, 2] (show [0, 1, 2] ∈ choose 3 (List.range _) by decide)
    have k1 := (det3 (cell a.rows 0 c) (cell a.rows 0 d) (cell a.rows 0 f) (cell a.rows 1 c) (cell a.rows 1 d) (cell a.rows 1 f) (cell a.rows 2 c) (cell a.rows 2 d) (cell a.rows 2 f)).symm.trans k1
    obtain ⟨x, y, z, n, e1, e2, e3⟩ := dep33 k1
    refine ⟨fun j => if j = 0 then (x : Rat) else if j = 1 then (y : Rat) else (z : Rat), ?_, ?_⟩
    · rcases n with n | n | n
      · exact ⟨0, by simp, cast_ne n⟩
      · exact ⟨1, by simp, cast_ne n⟩
      · exact ⟨2, by simp, cast_ne n⟩
    · intro i hi
      have : i = 0 ∨ i = 1 ∨ i = 2 := by omega
      have f1 := cast3 e1
      have f2 := cast3 e2
      have f3 := cast3 e3
      rcases this with e | e | e <;> subst e <;> simp [sumTo] <;> grind
  | _ :: _ :: _ :: _ :: _, R, _, h1, h3 => simp at h1; omega
end DA
namespace DA
open Su109
def sumL : List Nat → (Nat → Rat) → Rat
  | [], _ => 0
  | c :: t, f => f c + sumL t f
theorem sumL_congr {s : List Nat} {f g : Nat → Rat} (h : ∀ c, c ∈ s → f c = g c) : sumL s f = sumL s g := by
  induction s with
  | nil => rfl
  | cons c t ih =>
    simp only [sumL]
    rw [h c (by simp), ih (fun d hd => h d (by simp [hd]))]
theorem sumTo_shift (n : Nat) (f : Nat → Rat) : sumTo (n + 1) f = f 0 + sumTo n (fun j => f (j + 1)) := by
  induction n with
  | zero => simp only [sumTo]; grind
  | succ n ih => rw [sumTo_succ, ih, sumTo_succ]; grind
theorem sumTo_list (s : List Nat) (f : Nat → Rat) : sumTo s.length (fun j => f (s.getD j 0)) = sumL s f := by
  induction s with
  | nil => rfl
  | cons c t ih =>
    rw [List.length_cons, sumTo_shift]
    simp only [List.getD_cons_zero, List.getD_cons_succ, sumL, ih]
theorem sumTo_sumL {n : Nat} : ∀ {s : List Nat} {f : Nat → Rat}, s.Nodup → (∀ c, c ∈ s → c < n) → (∀ c, c < n → c ∉ s → f c = 0) → sumTo n f = sumL s f
  | [], f, _, _, h => sumTo_zero (fun c hc => h c hc (by simp))
  | c :: t, f, hn, hl, h => by
    rw [sumTo_split (hl c (by simp))]
    simp only [sumL]
    congr 1
    rw [List.nodup_cons] at hn
    rw [sumTo_sumL (s := t) hn.2 (fun d hd => hl d (by simp [hd]))]
    · exact sumL_congr (fun d hd => if_neg (fun (e : d = c) => hn.1 (e ▸ hd)))
    · intro d hd hdt
      by_cases e : d = c
      · exact if_pos e
      · rw [if_neg e]
        exact h d hd (by simp [e, hdt])
theorem sumL_filter {p : Nat → Bool} {s : List Nat} {f : Nat → Rat} (h : ∀ c, c ∈ s → p c = false → f c = 0) : sumL s f = sumL (s.filter p) f := by
  induction s with
  | nil => rfl
  | cons c t ih =>
    have ih := ih (fun d hd => h d (by simp [hd]))
    cases hp : p c with
    | true =>
      rw [List.filter_cons_of_pos hp]
      simp only [sumL, ih]
    | false =>
      rw [List.filter_cons_of_neg (by simp [hp])]
      simp only [sumL, ih, h c (by simp) hp]
      grind
/-- an object as it is kept -/
structure Good (a : Abs) : Prop where
  one : 1 ≤ a.n
  four : a.n ≤ 4
  pos : 1 ≤ a.price
  two : a.things.length ≤ 2
  wide : ∀ t, t ∈ a.things → t.2.length = a.n
def full (a : Abs) : List (List Int) := (List.replicate a.n (Int.ofNat a.back) ++ [Int.ofNat a.price]) :: a.things.map fun t => t.2.map Int.ofNat ++ [Int.ofNat t.1]
def narrowed (row : List Int) (s : List Nat) : List Int := s.map (fun c => at_ row c) ++ [at_ row (row.length - 1)]
def spread (s : List Nat) (fs : List Fr) (n : Nat) : List Fr := (List.range n).map fun c => if c ∈ s then fs.getD (s.idxOf c) (0, 1) else (0, 1)
def cornerOn (rows : List (List Int)) (s : List Nat) (n : Nat) : Option (List Fr) := match solved (rows.map fun row => narrowed row s) s.length with
  | none => none
  | some fs => if fs.any (fun f => decide (f.1 ≤ 0)) then none else some (spread s fs n)
def choicesAll (n : Nat) : List (List Nat) := (List.range n).flatMap fun k => choose (k + 1) (List.range n)
def mCorners (a : Abs) : List (List Fr) := (choicesAll a.n).filterMap fun s => cornerOn (full a) s a.n
theorem mem_choose {k : Nat} {l s : List Nat} : s ∈ choose k l ↔ s.Sublist l ∧ s.length = k := by
  induction l generalizing k s with
  | nil =>
    cases k with
    | zero => simp [choose]
    | succ k =>
      simp only [choose, List.not_mem_nil, false_iff, List.sublist_nil]
      rintro ⟨h, h2⟩
      subst h
      simp at h2
  | cons x l ih =>
    cases k with
    | zero =>
      simp only [choose, List.mem_singleton]
      constructor
      · rintro rfl; simp
      · rintro ⟨_, h⟩; exact List.length_eq_zero_iff.mp h
    | succ k =>
      simp only [choose, List.mem_append, List.mem_map]
      constructor
      · rintro (⟨t, ht, rfl⟩ | h)
        · have := ih.mp ht
          exact ⟨this.1.cons_cons x, by simp [this.2]⟩
        · have := ih.mp h
          exact ⟨this.1.cons x, this.2⟩
      · rintro ⟨h, hl⟩
        cases h with
        | cons _ h => exact Or.inr (ih.mpr ⟨h, hl⟩)
        | cons_cons _ h => exact Or.inl ⟨_, ih.mpr ⟨h, by simpa using hl⟩, rfl⟩
theorem nodup_range (n : Nat) : (List.range n).Nodup := List.nodup_range
theorem choose_nodup {k n : Nat} {s : List Nat} (h : s ∈ choose k (List.range n)) : s.Nodup ∧ (∀ c, c ∈ s → c < n) ∧ s.length = k := by
  have h := mem_choose.mp h
  exact ⟨h.1.nodup (nodup_range n), fun c hc => List.mem_range.mp (h.1.subset hc), h.2⟩
theorem rows_length (a : Abs) : a.rows.length = a.things.length + 1 := by simp [Abs.rows]
theorem prices_length (a : Abs) : a.prices.length = a.things.length + 1 := by simp [Abs.prices]
theorem full_length (a : Abs) : (full a).length = a.things.length + 1 := by simp [full]
theorem rows_wide {a : Abs} (g : Good a) : Wide a.n a.rows := by
  intro i hi
  rw [getD_lt hi]
  cases i with
  | zero => simp [Abs.rows]
  | succ i =>
    have hi' : i < a.things.length := by rw [rows_length] at hi; omega
    simp only [Abs.rows, List.getElem_cons_succ, List.getElem_map, List.length_map]
    exact g.wide _ (List.getElem_mem hi')
theorem full_row {a : Abs} {i : Nat} (hi : i < a.rows.length) : (full a).getD i [] = a.rows.getD i [] ++ [at_ a.prices i] := by
  rw [rows_length] at hi
  rw [getD_lt (by rw [full_length]; exact hi), getD_lt (by rw [rows_length]; exact hi)]
  unfold at_
  rw [getD_lt (by rw [prices_length]; exact hi)]
  cases i with
  | zero => simp [full, Abs.rows, Abs.prices]
  | succ i => simp [full, Abs.rows, Abs.prices]
def nar (a : Abs) (s : List Nat) : List (List Int) := (full a).map fun row => narrowed row s
theorem nar_length (a : Abs) (s : List Nat) : (nar a s).length = a.rows.length := by simp [nar, full_length, rows_length]
theorem nar_row {a : Abs} {s : List Nat} {i : Nat} (hi : i < a.rows.length) : (nar a s).getD i [] = narrowed ((full a).getD i []) s := by
  rw [getD_lt (by rw [nar_length]; exact hi), getD_lt (by rw [full_length, ← rows_length]; exact hi)]
  simp [nar]
theorem nar_wide (a : Abs) (s : List Nat) : Wide (s.length + 1) (nar a s) := by
  intro i hi
  rw [nar_length] at hi
  rw [nar_row hi]
  simp [narrowed]
theorem at_append_lt {l m : List Int} {j : Nat} (h : j < l.length) : at_ (l ++ m) j = at_ l j := by
  unfold at_
  rw [getD_lt (by simp; omega), getD_lt h, List.getElem_append_left h]
theorem at_append_one {l : List Int} {x : Int} : at_ (l ++ [x]) l.length = x := by
  unfold at_
  rw [getD_lt (by simp)]
  simp
theorem nar_cell {a : Abs} (g : Good a) {s : List Nat} (hs : ∀ c, c ∈ s → c < a.n) {i j : Nat} (hi : i < a.rows.length) (hj : j < s.length) :
    cell (nar a s) i j = cell a.rows i (s.getD j 0) := by
  unfold cell
  rw [nar_row hi, full_row hi]
  unfold narrowed
  have hl := rows_wide g i hi
  rw [at_append_lt (by simp; exact hj)]
  have hm : s.getD j 0 ∈ s := by rw [getD_lt hj]; exact List.getElem_mem hj
  have := hs _ hm
  rw [← at_append_lt (m := [at_ a.prices i]) (show s.getD j 0 < (a.rows.getD i []).length by rw [hl]; exact this)]
  show at_ _ j = _
  unfold at_
  rw [getD_lt (by simp; exact hj), getD_lt hj]
  simp
theorem nar_last {a : Abs} {s : List Nat} {i : Nat} (hi : i < a.rows.length) : cell (nar a s) i s.length = at_ a.prices i := by
  unfold cell
  rw [nar_row hi, full_row hi]
  unfold narrowed
  have : s.length = (s.map (fun c => at_ (a.rows.getD i [] ++ [at_ a.prices i]) c)).length := by simp
  rw [this, at_append_one]
  have : (a.rows.getD i [] ++ [at_ a.prices i]).length - 1 = (a.rows.getD i []).length := by simp
  rw [this, at_append_one]
/-- columns apart, told by the columns -/
def Indep (a : Abs) (s : List Nat) : Prop := ∀ z : Nat → Rat, (∀ i, i < a.rows.length → sumL s (fun c => (cell a.rows i c : Rat) * z c) = 0) → ∀ c, c ∈ s → z c = 0
theorem idx_at {s : List Nat} (hn : s.Nodup) {j : Nat} (hj : j < s.length) : s.idxOf (s.getD j 0) = j := by
  rw [getD_lt hj]
  exact hn.idxOf_getElem j hj
theorem pos_sum (a : Abs) {s : List Nat} (hn : s.Nodup) (z : Nat → Rat) (i : Nat) :
    sumTo s.length (fun j => (cell a.rows i (s.getD j 0) : Rat) * z j) = sumL s (fun c => (cell a.rows i c : Rat) * z (s.idxOf c)) := by
  rw [← sumTo_list]
  refine sumTo_congr (fun j hj => ?_)
  rw [idx_at hn hj]
theorem nar_sum {a : Abs} (g : Good a) {s : List Nat} (hn : s.Nodup) (hs : ∀ c, c ∈ s → c < a.n) (z : Nat → Rat) {i : Nat} (hi : i < a.rows.length) :
    sumTo s.length (fun j => (cell (nar a s) i j : Rat) * z j) = sumL s (fun c => (cell a.rows i c : Rat) * z (s.idxOf c)) := by
  rw [← pos_sum a hn]
  exact sumTo_congr (fun j hj => by rw [nar_cell g hs hi hj])
theorem apart_iff {a : Abs} (g : Good a) {s : List Nat} (hn : s.Nodup) (hs : ∀ c, c ∈ s → c < a.n) : Apart (nar a s) s.length ↔ Indep a s := by
  constructor
  · intro h z hz c hc
    have := h (fun j => z (s.getD j 0)) (by
      intro i hi
      rw [nar_length] at hi
      rw [nar_sum g hn hs _ hi]
      refine Eq.trans ?_ (hz i hi)
      refine sumL_congr (fun d hd => ?_)
      have : s.getD (s.idxOf d) 0 = d := by
        rw [getD_lt (List.idxOf_lt_length_of_mem hd)]
        exact List.getElem_idxOf _
      rw [this]) (s.idxOf c) (List.idxOf_lt_length_of_mem hc)
    have e : s.getD (s.idxOf c) 0 = c := by
      rw [getD_lt (List.idxOf_lt_length_of_mem hc)]
      exact List.getElem_idxOf _
    rw [e] at this
    exact this
  · intro h z hz j hj
    have := h (fun c => z (s.idxOf c)) (by
      intro i hi
      rw [← nar_sum g hn hs _ hi]
      exact hz i (by rw [nar_length]; exact hi)) (s.getD j 0) (by rw [getD_lt hj]; exact List.getElem_mem hj)
    rw [idx_at hn hj] at this
    exact this
/-- prices that fit, nothing off the chosen -/
structure Sol (a : Abs) (s : List Nat) (q : List Fr) : Prop where
  len : q.length = a.n
  red : ∀ c, Red (q.getD c (0, 1))
  off : ∀ c, c < a.n → c ∉ s → q.getD c (0, 1) = (0, 1)
  fit : a.fits q = true
theorem fits_iff {a : Abs} (g : Good a) {q : List Fr} (hq : ∀ c, Red (q.getD c (0, 1))) :
    a.fits q = true ↔ (∀ f, f ∈ q → 0 ≤ f.1) ∧ ∀ i, i < a.rows.length → sumTo a.n (fun c => (cell a.rows i c : Rat) * val (q.getD c (0, 1))) = (at_ a.prices i : Rat) := by
  unfold Abs.fits
  rw [Bool.and_eq_true, List.all_eq_true, List.all_eq_true]
  refine and_congr ?_ ?_
  · constructor
    · intro h f hf
      exact of_decide_eq_true (h f hf)
    · intro h f hf
      exact decide_eq_true (h f hf)
  · constructor
    · intro h i hi
      have := (worth_eq hq _ _).mp (h i (List.mem_range.mpr hi))
      rw [rows_wide g i hi] at this
      rw [← this]
      exact sumTo_congr (fun c _ => by show (at_ _ c : Rat) * _ = _; grind)
    · intro h i hi
      rw [List.mem_range] at hi
      refine (worth_eq hq _ _).mpr ?_
      rw [rows_wide g i hi, ← h i hi]
      exact sumTo_congr (fun c _ => by show _ = (at_ _ c : Rat) * _; grind)
theorem fit_sumL {a : Abs} {s : List Nat} (hn : s.Nodup) (hs : ∀ c, c ∈ s → c < a.n) {q : List Fr} (ho : ∀ c, c < a.n → c ∉ s → q.getD c (0, 1) = (0, 1)) (i : Nat) :
    sumTo a.n (fun c => (cell a.rows i c : Rat) * val (q.getD c (0, 1))) = sumL s (fun c => (cell a.rows i c : Rat) * val (q.getD c (0, 1))) :=
  sumTo_sumL hn hs (fun c hc hcs => by rw [ho c hc hcs, val_zero]; grind)
theorem sumL_sub (s : List Nat) (f g : Nat → Rat) : sumL s (fun c => f c - g c) = sumL s f - sumL s g := by
  induction s with
  | nil => simp only [sumL]; grind
  | cons c t ih => simp only [sumL, ih]; grind
theorem sol_uniq {a : Abs} (g : Good a) {s : List Nat} (hn : s.Nodup) (hs : ∀ c, c ∈ s → c < a.n) (hi : Indep a s) {q q' : List Fr} (h : Sol a s q) (h' : Sol a s q') : q = q' := by
  have e1 := ((fits_iff g h.red).mp h.fit).2
  have e2 := ((fits_iff g h'.red).mp h'.fit).2
  have z := hi (fun c => val (q.getD c (0, 1)) - val (q'.getD c (0, 1))) (by
    intro i hi
    have a1 := e1 i hi
    have a2 := e2 i hi
    rw [fit_sumL hn hs h.off] at a1
    rw [fit_sumL hn hs h'.off] at a2
    have : sumL s (fun c => (cell a.rows i c : Rat) * (val (q.getD c (0, 1)) - val (q'.getD c (0, 1)))) = sumL s (fun c => (cell a.rows i c : Rat) * val (q.getD c (0, 1)) - (cell a.rows i c : Rat) * val (q'.getD c (0, 1))) :=
      sumL_congr (fun c _ => by grind)
    rw [this, sumL_sub, a1, a2]
    grind)
  refine List.ext_getElem (by rw [h.len, h'.len]) ?_
  intro c hc hc'
  have : q.getD c (0, 1) = q'.getD c (0, 1) := by
    by_cases m : c ∈ s
    · refine red_ext (h.red c) (h'.red c) ?_
      have := z c m
      grind
    · rw [h.off c (by rw [← h.len]; exact hc) m, h'.off c (by rw [← h.len]; exact hc) m]
  rw [getD_lt hc, getD_lt hc'] at this
  exact this
end DA
namespace DA
open Su109
theorem range_getD {n c : Nat} {f : Nat → Fr} : ((List.range n).map f).getD c (0, 1) = if c < n then f c else (0, 1) := by
  by_cases h : c < n
  · rw [if_pos h, getD_lt (by simp; exact h)]; simp
  · rw [if_neg h]
    simp [List.getD, List.getElem?_eq_none (show ((List.range n).map f).length ≤ c by simp; omega)]
def ans (a : Abs) (s r : List Nat) : List Fr := (List.range a.n).map fun c => if c ∈ s then over (det s.length (subP a s r (s.idxOf c))) (det s.length (sub a s r)) else (0, 1)
theorem solve_eq (a : Abs) (s r : List Nat) : a.solve s r = if det s.length (sub a s r) = 0 then none else some (ans a s r) := by
  unfold Abs.solve
  show (if det s.length (sub a s r) = 0 then none else some _) = _
  congr 2
  unfold ans
  refine List.map_congr_left (fun c _ => ?_)
  by_cases h : c ∈ s
  · rw [if_pos h, if_pos (by simpa using h)]; rfl
  · rw [if_neg h, if_neg (by simpa using h)]
theorem rows_le3 {a : Abs} (g : Good a) : a.rows.length ≤ 3 := by
  rw [rows_length]; have := g.two; omega
theorem det_indep {a : Abs} (g : Good a) {s r : List Nat} (h0 : 0 < s.length) (hr : r ∈ choose s.length (List.range a.rows.length)) (hd : det s.length (sub a s r) ≠ 0) : Indep a s := by
  obtain ⟨r1, r2, r3⟩ := choose_nodup hr
  have hs3 : s.length ≤ 3 := by
    have := (mem_choose.mp hr).1.length_le
    have h3 := rows_le3 g
    simp at this
    omega
  intro z hz c hc
  have := cramer (a := a) (r := r) (z := fun j => z (s.getD j 0)) (e := 0) h0 hs3 r3 (by
    intro i hi
    have hm : r.getD i 0 < a.rows.length := r2 _ (by rw [getD_lt (by omega)]; exact List.getElem_mem _)
    rw [sumTo_list s (fun c => (cell a.rows (r.getD i 0) c : Rat) * z c), hz _ hm]
    grind) (s.idxOf c) (List.idxOf_lt_length_of_mem hc)
  have e : s.getD (s.idxOf c) 0 = c := by
    rw [getD_lt (List.idxOf_lt_length_of_mem hc)]
    exact List.getElem_idxOf _
  rw [e] at this
  have hd' := cast_ne hd
  grind
theorem solve_sol {a : Abs} (g : Good a) {s r : List Nat} (h0 : 0 < s.length) (hr : r ∈ choose s.length (List.range a.rows.length)) {q : List Fr} (h : a.solve s r = some q) (hf : a.fits q = true) :
    Sol a s q ∧ Indep a s := by
  rw [solve_eq] at h
  split at h
  · simp at h
  · rename_i hd
    refine ⟨?_, det_indep g h0 hr hd⟩
    simp only [Option.some.injEq] at h
    subst h
    refine ⟨by simp [ans], ?_, ?_, hf⟩
    · intro c
      unfold ans
      rw [range_getD]
      split
      · split
        · exact over_red hd
        · exact red_zero
      · exact red_zero
    · intro c hc hcs
      unfold ans
      rw [range_getD, if_pos hc, if_neg hcs]
theorem sol_solve {a : Abs} (g : Good a) {s : List Nat} (h0 : 0 < s.length) (hR : s.length ≤ a.rows.length) (hn : s.Nodup) (hs : ∀ c, c ∈ s → c < a.n) (hi : Indep a s) {q : List Fr} (h : Sol a s q) :
    ∃ r, r ∈ choose s.length (List.range a.rows.length) ∧ a.solve s r = some q := by
  have ex : ∃ r, r ∈ choose s.length (List.range a.rows.length) ∧ det s.length (sub a s r) ≠ 0 := by
    apply Classical.byContradiction
    intro hno
    obtain ⟨z, ⟨j, hj, z1⟩, z2⟩ := minor h0 hR (rows_le3 g) (fun r hr => Classical.byContradiction (fun hd => hno ⟨r, hr, hd⟩))
    have := hi (fun c => z (s.idxOf c)) (by
      intro i hi
      rw [← pos_sum a hn]
      exact z2 i hi) (s.getD j 0) (by rw [getD_lt hj]; exact List.getElem_mem hj)
    rw [idx_at hn hj] at this
    exact z1 this
  obtain ⟨r, hr, hd⟩ := ex
  obtain ⟨r1, r2, r3⟩ := choose_nodup hr
  have hs3 : s.length ≤ 3 := by have := rows_le3 g; omega
  refine ⟨r, hr, ?_⟩
  rw [solve_eq, if_neg hd]
  congr 1
  have key := cramer (a := a) (r := r) (z := fun j => val (q.getD (s.getD j 0) (0, 1))) (e := 1) h0 hs3 r3 (by
    intro i hi
    have hm : r.getD i 0 < a.rows.length := r2 _ (by rw [getD_lt (by omega)]; exact List.getElem_mem _)
    rw [sumTo_list s (fun c => (cell a.rows (r.getD i 0) c : Rat) * val (q.getD c (0, 1))), ← fit_sumL hn hs h.off, ((fits_iff g h.red).mp h.fit).2 _ hm]
    grind)
  refine List.ext_getElem (by simp [ans, h.len]) ?_
  intro c hc hc'
  have hcn : c < a.n := by rw [← h.len]; exact hc'
  have e1 : (ans a s r)[c] = (ans a s r).getD c (0, 1) := (getD_lt hc).symm
  have e2 : q[c] = q.getD c (0, 1) := (getD_lt hc').symm
  rw [e1, e2]
  unfold ans
  rw [range_getD, if_pos hcn]
  by_cases m : c ∈ s
  · rw [if_pos m]
    refine red_ext (over_red hd) (h.red c) ?_
    rw [over_val hd]
    have := key (s.idxOf c) (List.idxOf_lt_length_of_mem m)
    have e : s.getD (s.idxOf c) 0 = c := by
      rw [getD_lt (List.idxOf_lt_length_of_mem m)]
      exact List.getElem_idxOf _
    rw [e] at this
    have hd' := cast_ne hd
    grind
  · rw [if_neg m, h.off c hcn m]
theorem spread_getD {s : List Nat} {fs : List Fr} {n c : Nat} : (spread s fs n).getD c (0, 1) = if c < n then (if c ∈ s then fs.getD (s.idxOf c) (0, 1) else (0, 1)) else (0, 1) := range_getD
theorem cornerOn_eq (a : Abs) (s : List Nat) (n : Nat) : cornerOn (full a) s n = match solved (nar a s) s.length with
  | none => none
  | some fs => if fs.any (fun f => decide (f.1 ≤ 0)) then none else some (spread s fs n) := rfl
theorem corner_sol {a : Abs} (g : Good a) {s : List Nat} (hn : s.Nodup) (hs : ∀ c, c ∈ s → c < a.n) {q : List Fr} (h : cornerOn (full a) s a.n = some q) :
    Sol a s q ∧ Indep a s ∧ (∀ c, c ∈ s → 0 < (q.getD c (0, 1)).1) ∧ s.length ≤ a.rows.length := by
  rw [cornerOn_eq] at h
  split at h
  · simp at h
  · rename_i fs hf
    obtain ⟨k1, k2, k3, k4, k5⟩ := solved_some (nar_wide a s) hf
    rw [nar_length] at k1
    split at h
    · simp at h
    · rename_i hp
      simp only [Option.some.injEq] at h
      subst h
      have hpos : ∀ c, c ∈ s → 0 < ((spread s fs a.n).getD c (0, 1)).1 := by
        intro c hc
        rw [spread_getD, if_pos (hs c hc), if_pos hc]
        have hl : s.idxOf c < fs.length := by rw [k2]; exact List.idxOf_lt_length_of_mem hc
        rw [getD_lt hl]
        apply Classical.byContradiction
        intro hx
        exact hp (List.any_eq_true.mpr ⟨_, List.getElem_mem hl, decide_eq_true (by omega)⟩)
      have hred : ∀ c, Red ((spread s fs a.n).getD c (0, 1)) := by
        intro c
        rw [spread_getD]
        split
        · split
          · exact k3 _
          · exact red_zero
        · exact red_zero
      have hoff : ∀ c, c < a.n → c ∉ s → (spread s fs a.n).getD c (0, 1) = (0, 1) := by
        intro c hc hcs
        rw [spread_getD, if_pos hc, if_neg hcs]
      refine ⟨⟨by simp [spread], hred, hoff, ?_⟩, (apart_iff g hn hs).mp k4, hpos, k1⟩
      rw [fits_iff g hred]
      constructor
      · intro f hf
        obtain ⟨c, hc, e⟩ := List.mem_iff_getElem.mp hf
        have e' : f = (spread s fs a.n).getD c (0, 1) := by rw [getD_lt hc]; exact e.symm
        rw [e']
        by_cases m : c ∈ s
        · have := hpos c m; omega
        · have hcn : c < a.n := by simpa [spread] using hc
          rw [hoff c hcn m]; decide
      · intro i hi
        rw [fit_sumL hn hs hoff]
        have := k5 i (by rw [nar_length]; exact hi)
        rw [sumTo_succ, nar_last hi] at this
        simp only [if_true] at this
        have e : sumTo s.length (fun j => (cell (nar a s) i j : Rat) * if j = s.length then -1 else val (fs.getD j (0, 1))) = sumTo s.length (fun j => (cell (nar a s) i j : Rat) * val (fs.getD j (0, 1))) :=
          sumTo_congr (fun j hj => by rw [if_neg (by omega)])
        rw [e, nar_sum g hn hs _ hi] at this
        have e2 : sumL s (fun c => (cell a.rows i c : Rat) * val ((spread s fs a.n).getD c (0, 1))) = sumL s (fun c => (cell a.rows i c : Rat) * val (fs.getD (s.idxOf c) (0, 1))) :=
          sumL_congr (fun c hc => by rw [spread_getD, if_pos (hs c hc), if_pos hc])
        rw [e2]
        grind
theorem sol_corner {a : Abs} (g : Good a) {s : List Nat} (hn : s.Nodup) (hs : ∀ c, c ∈ s → c < a.n) {q : List Fr} (h : Sol a s q) (hi : Indep a s) (hp : ∀ c, c ∈ s → 0 < (q.getD c (0, 1)).1) :
    cornerOn (full a) s a.n = some q := by
  have hfit := ((fits_iff g h.red).mp h.fit).2
  obtain ⟨fs, e, hv⟩ := solved_of (x := fun j => if j = s.length then -1 else val (q.getD (s.getD j 0) (0, 1))) (nar_wide a s) ((apart_iff g hn hs).mpr hi) (by
    intro i hi
    rw [nar_length] at hi
    rw [sumTo_succ, nar_last hi]
    simp only [if_true]
    have e : sumTo s.length (fun j => (cell (nar a s) i j : Rat) * if j = s.length then -1 else val (q.getD (s.getD j 0) (0, 1))) = sumTo s.length (fun j => (cell a.rows i (s.getD j 0) : Rat) * val (q.getD (s.getD j 0) (0, 1))) :=
      sumTo_congr (fun j hj => by rw [if_neg (by omega), nar_cell g hs hi hj])
    rw [e, sumTo_list s (fun c => (cell a.rows i c : Rat) * val (q.getD c (0, 1))), ← fit_sumL hn hs h.off, hfit i hi]
    grind) (if_pos rfl)
  obtain ⟨k1, k2, k3, k4, k5⟩ := solved_some (nar_wide a s) e
  have same : ∀ j, j < s.length → fs.getD j (0, 1) = q.getD (s.getD j 0) (0, 1) := by
    intro j hj
    refine red_ext (k3 j) (h.red _) ?_
    rw [hv j hj, if_neg (by omega)]
  rw [cornerOn_eq, e]
  have hno : ¬ fs.any (fun f => decide (f.1 ≤ 0)) = true := by
    rw [List.any_eq_true]
    rintro ⟨f, hf, hf0⟩
    obtain ⟨j, hj, ej⟩ := List.mem_iff_getElem.mp hf
    have h1 := of_decide_eq_true hf0
    have h2 := same j (by omega)
    rw [getD_lt hj, ej] at h2
    have h3 := hp (s.getD j 0) (by rw [getD_lt (by omega)]; exact List.getElem_mem _)
    rw [← h2] at h3
    omega
  show (if fs.any (fun f => decide (f.1 ≤ 0)) then none else some (spread s fs a.n)) = some q
  rw [if_neg hno]
  congr 1
  refine List.ext_getElem (by simp [spread, h.len]) ?_
  intro c hc hc'
  have hcn : c < a.n := by rw [← h.len]; exact hc'
  have e1 : (spread s fs a.n)[c] = (spread s fs a.n).getD c (0, 1) := (getD_lt hc).symm
  have e2 : q[c] = q.getD c (0, 1) := (getD_lt hc').symm
  rw [e1, e2, spread_getD, if_pos hcn]
  by_cases m : c ∈ s
  · rw [if_pos m, same _ (List.idxOf_lt_length_of_mem m)]
    have e : s.getD (s.idxOf c) 0 = c := by
      rw [getD_lt (List.idxOf_lt_length_of_mem m)]
      exact List.getElem_idxOf _
    rw [e]
  · rw [if_neg m, h.off c hcn m]
end DA
namespace DA
theorem same_of_subset {l s t : List Nat} (hl : l.Nodup) (hs : s.Sublist l) (ht : t.Sublist l) (h : ∀ c, c ∈ s → c ∈ t) (hle : t.length ≤ s.length) : s = t := by
  induction l generalizing s t with
  | nil => rw [List.sublist_nil.mp hs, List.sublist_nil.mp ht]
  | cons x l ih =>
    rw [List.nodup_cons] at hl
    cases hs with
    | cons _ hs =>
      cases ht with
      | cons _ ht => exact ih hl.2 hs ht h hle
      | @cons_cons t _ _ ht =>
        have hx : x ∉ s := fun hx => hl.1 (hs.subset hx)
        have h' : ∀ c, c ∈ s → c ∈ t := by
          intro c hc
          rcases List.mem_cons.mp (h c hc) with e | e
          · exact absurd (e ▸ hc) hx
          · exact e
        simp only [List.length_cons] at hle
        have e := ih hl.2 hs ht h' (by omega)
        subst e
        omega
    | @cons_cons s _ _ hs =>
      cases ht with
      | cons _ ht =>
        have := h x (by simp)
        exact absurd (ht.subset this) hl.1
      | @cons_cons t _ _ ht =>
        have h' : ∀ c, c ∈ s → c ∈ t := by
          intro c hc
          rcases List.mem_cons.mp (h c (by simp [hc])) with e | e
          · exact absurd (e ▸ hs.subset hc) hl.1
          · exact e
        rw [ih hl.2 hs ht h' (by simpa using hle)]
end DA
namespace DA
open Su109
/-- choices of at most m -/
def upTo (n m : Nat) : List (List Nat) := (List.range m).flatMap fun k => choose (k + 1) (List.range n)
def found (a : Abs) (s : List Nat) : List (List Fr) := ((choose s.length (List.range a.rows.length)).filterMap fun r => a.solve s r).filter fun q => a.fits q
theorem flatMap_congr' {α β : Type} {l : List α} {f g : α → List β} (h : ∀ x, x ∈ l → f x = g x) : l.flatMap f = l.flatMap g := by
  induction l with
  | nil => rfl
  | cons x t ih =>
    rw [List.flatMap_cons, List.flatMap_cons, h x (by simp), ih (fun y hy => h y (by simp [hy]))]
theorem filter_flatMap' {α β : Type} {l : List α} {f : α → List β} {p : β → Bool} : (l.flatMap f).filter p = l.flatMap (fun x => (f x).filter p) := by
  induction l with
  | nil => rfl
  | cons x t ih => rw [List.flatMap_cons, List.flatMap_cons, List.filter_append, ih]
theorem flatMap_flatMap' {α β γ : Type} {l : List α} {f : α → List β} {h : β → List γ} : (l.flatMap f).flatMap h = l.flatMap (fun x => (f x).flatMap h) := by
  induction l with
  | nil => rfl
  | cons x t ih => rw [List.flatMap_cons, List.flatMap_cons, List.flatMap_append, ih]
theorem corners_eq (a : Abs) : a.corners = ((upTo a.n a.rows.length).flatMap (found a)).eraseDups := by
  unfold Abs.corners upTo
  congr 1
  rw [filter_flatMap', flatMap_flatMap']
  refine flatMap_congr' (fun k _ => ?_)
  rw [filter_flatMap']
  refine flatMap_congr' (fun s hs => ?_)
  unfold found
  rw [(mem_choose.mp hs).2]
theorem upTo_sorted : ∀ n, n ≤ 4 → ∀ m, m ≤ 3 → (upTo n m).Pairwise (fun s t => s.length ≤ t.length ∧ s ≠ t) := by
  intro n hn m hm
  have h1 : n = 0 ∨ n = 1 ∨ n = 2 ∨ n = 3 ∨ n = 4 := by omega
  have h2 : m = 0 ∨ m = 1 ∨ m = 2 ∨ m = 3 := by omega
  rcases h1 with e | e | e | e | e <;> subst e <;> rcases h2 with e | e | e | e <;> subst e <;> decide
theorem mem_upTo {n m : Nat} {s : List Nat} : s ∈ upTo n m ↔ s.Sublist (List.range n) ∧ 0 < s.length ∧ s.length ≤ m := by
  unfold upTo
  rw [List.mem_flatMap]
  constructor
  · rintro ⟨k, hk, hs⟩
    have := mem_choose.mp hs
    rw [List.mem_range] at hk
    exact ⟨this.1, by omega, by omega⟩
  · rintro ⟨h1, h2, h3⟩
    exact ⟨s.length - 1, List.mem_range.mpr (by omega), mem_choose.mpr ⟨h1, by omega⟩⟩
theorem mem_found {a : Abs} {s : List Nat} {q : List Fr} : q ∈ found a s ↔ (∃ r, r ∈ choose s.length (List.range a.rows.length) ∧ a.solve s r = some q) ∧ a.fits q = true := by
  unfold found
  rw [List.mem_filter, List.mem_filterMap]
theorem found_sol {a : Abs} (g : Good a) {s : List Nat} (h0 : 0 < s.length) {q : List Fr} (h : q ∈ found a s) : Sol a s q ∧ Indep a s := by
  obtain ⟨⟨r, hr, e⟩, hf⟩ := mem_found.mp h
  exact solve_sol g h0 hr e hf
theorem sol_found {a : Abs} (g : Good a) {s : List Nat} (h0 : 0 < s.length) (hR : s.length ≤ a.rows.length) (hn : s.Nodup) (hs : ∀ c, c ∈ s → c < a.n) (hi : Indep a s) {q : List Fr} (h : Sol a s q) : q ∈ found a s :=
  mem_found.mpr ⟨sol_solve g h0 hR hn hs hi h, h.fit⟩
theorem sub_sets {n : Nat} {s : List Nat} (h : s.Sublist (List.range n)) : s.Nodup ∧ ∀ c, c ∈ s → c < n :=
  ⟨h.nodup (nodup_range n), fun _ hc => List.mem_range.mp (h.subset hc)⟩
theorem indep_filter {a : Abs} {s : List Nat} (p : Nat → Bool) (h : Indep a s) : Indep a (s.filter p) := by
  intro z hz c hc
  rw [List.mem_filter] at hc
  have := h (fun c => if p c then z c else 0) (by
    intro i hi
    rw [sumL_filter (p := p) (fun c _ hp => by simp [hp])]
    rw [← hz i hi]
    exact sumL_congr (fun d hd => by rw [if_pos (List.mem_filter.mp hd).2])) c hc.1
  simpa [hc.2] using this
/-- prices that fit are those of a corner among the choices that are no greater -/
theorem support {a : Abs} (g : Good a) {s : List Nat} (hs : s.Sublist (List.range a.n)) {q : List Fr} (h : Sol a s q) (hi : Indep a s) :
    ∃ t, t.Sublist s ∧ 0 < t.length ∧ Sol a t q ∧ Indep a t ∧ ∀ c, c ∈ t → 0 < (q.getD c (0, 1)).1 := by
  obtain ⟨hn, hl⟩ := sub_sets hs
  have hnn := ((fits_iff g h.red).mp h.fit).1
  have hoff : ∀ c, c < a.n → c ∉ s.filter (fun c => decide (0 < (q.getD c (0, 1)).1)) → q.getD c (0, 1) = (0, 1) := by
    intro c hc hcs
    by_cases m : c ∈ s
    · have hx : ¬ 0 < (q.getD c (0, 1)).1 := by
        intro hx
        exact hcs (List.mem_filter.mpr ⟨m, decide_eq_true hx⟩)
      have hq : c < q.length := by rw [h.len]; exact hc
      have h0 : 0 ≤ (q.getD c (0, 1)).1 := by
        rw [getD_lt hq]; exact hnn _ (List.getElem_mem hq)
      refine red_ext (h.red c) red_zero ?_
      have : (q.getD c (0, 1)).1 = 0 := by omega
      unfold val
      rw [this]
      show (0 : Rat) / _ = 0 / _
      grind
    · exact h.off c hc m
  refine ⟨s.filter (fun c => decide (0 < (q.getD c (0, 1)).1)), List.filter_sublist, ?_, ⟨h.len, h.red, hoff, h.fit⟩, indep_filter _ hi, ?_⟩
  · apply Classical.byContradiction
    intro hz
    have e : s.filter (fun c => decide (0 < (q.getD c (0, 1)).1)) = [] := List.length_eq_zero_iff.mp (by omega)
    have hf := ((fits_iff g h.red).mp h.fit).2 0 (by rw [rows_length]; omega)
    rw [fit_sumL (s := []) (by simp) (by simp) (fun c hc _ => hoff c hc (by rw [e]; simp))] at hf
    simp only [sumL] at hf
    have hp : at_ a.prices 0 = (a.price : Int) := rfl
    rw [hp] at hf
    have h0 : ((a.price : Int) : Rat) = 0 := hf.symm
    have h1 : (a.price : Int) = 0 := by exact_mod_cast h0
    have := g.pos
    omega
  · intro c hc
    exact of_decide_eq_true (List.mem_filter.mp hc).2
theorem eraseDups_same {q : List Fr} : ∀ (l : List (List Fr)), q ∈ l → (∀ b, b ∈ l → b = q) → l.eraseDups = [q]
  | [], h, _ => absurd h (by simp)
  | x :: t, _, h => by
    have hx : x = q := h x (by simp)
    subst hx
    rw [List.eraseDups_cons]
    have : t.filter (fun b => !b == x) = [] := by
      rw [List.filter_eq_nil_iff]
      intro b hb
      have : b = x := h b (by simp [hb])
      simp [this]
    rw [this]
    rfl
theorem removeAll_none {l m : List (List Fr)} (h : ∀ b, b ∈ l → b ∉ m) : l.removeAll m = l := by
  unfold List.removeAll
  rw [List.filter_eq_self]
  intro b hb
  simpa using h b hb
theorem removeAll_all {l m : List (List Fr)} (h : ∀ b, b ∈ l → b ∈ m) : l.removeAll m = [] := by
  unfold List.removeAll
  rw [List.filter_eq_nil_iff]
  intro b hb
  simpa using h b hb
theorem dups {a : Abs} (g : Good a) : ∀ (pre post : List (List Nat)), pre ++ post = upTo a.n a.rows.length →
    (pre.flatMap (found a)).eraseDups = pre.filterMap (fun s => cornerOn (full a) s a.n) := by
  intro pre
  generalize hl : pre.length = m
  induction m generalizing pre with
  | zero =>
    intro post _
    have : pre = [] := List.length_eq_zero_iff.mp hl
    subst this
    rfl
  | succ m ih =>
    intro post e
    obtain ⟨pre', s, rfl⟩ : ∃ p s, pre = p ++ [s] := by
      have hne : pre ≠ [] := by intro h; subst h; simp at hl
      exact ⟨pre.dropLast, pre.getLast hne, (List.dropLast_concat_getLast hne).symm⟩
    have ih := ih pre' (by simpa using hl) (s :: post) (by simpa using e)
    rw [List.flatMap_append, List.filterMap_append, List.eraseDups_append, ih]
    congr 1
    rw [List.flatMap_cons, List.flatMap_nil, List.append_nil]
    have hall : (pre' ++ s :: post) = upTo a.n a.rows.length := by simpa using e
    have hmem : s ∈ upTo a.n a.rows.length := by rw [← hall]; simp
    obtain ⟨hs, h0, hR⟩ := mem_upTo.mp hmem
    obtain ⟨hn, hlt⟩ := sub_sets hs
    have hsort := upTo_sorted a.n g.four a.rows.length (rows_le3 g)
    rw [← hall, List.pairwise_append] at hsort
    cases hp : cornerOn (full a) s a.n with
    | some q =>
      obtain ⟨c1, c2, c3, _⟩ := corner_sol g hn hlt hp
      have hq : q ∈ found a s := sol_found g h0 hR hn hlt c2 c1
      have hsame : ∀ b, b ∈ found a s → b = q := by
        intro b hb
        obtain ⟨b1, b2⟩ := found_sol g h0 hb
        exact sol_uniq g hn hlt c2 b1 c1
      have hout : ∀ b, b ∈ found a s → b ∉ pre'.flatMap (found a) := by
        intro b hb hin
        rw [hsame b hb] at hin
        obtain ⟨t, ht, hqt⟩ := List.mem_flatMap.mp hin
        have htm : t ∈ upTo a.n a.rows.length := by rw [← hall]; simp [ht]
        obtain ⟨ts, t0, tR⟩ := mem_upTo.mp htm
        obtain ⟨d1, d2⟩ := found_sol g t0 hqt
        have hord := hsort.2.2 t ht s (by simp)
        have hsub : ∀ c, c ∈ s → c ∈ t := by
          intro c hc
          apply Classical.byContradiction
          intro hx
          have := c3 c hc
          rw [d1.off c (hlt c hc) hx] at this
          exact absurd this (by decide)
        have : s = t := same_of_subset (nodup_range a.n) hs ts hsub hord.1
        exact hord.2 this.symm
      rw [removeAll_none hout, eraseDups_same _ hq hsame]
      simp [hp]
    | none =>
      have hin : ∀ b, b ∈ found a s → b ∈ pre'.flatMap (found a) := by
        intro b hb
        obtain ⟨b1, b2⟩ := found_sol g h0 hb
        obtain ⟨t, ht, t0, t1, t2, t3⟩ := support g hs b1 b2
        have hts := ht.trans hs
        obtain ⟨tn, tl⟩ := sub_sets hts
        have hle := ht.length_le
        have hne : t ≠ s := by
          intro e
          subst e
          have := sol_corner g tn tl t1 t2 t3
          rw [hp] at this
          simp at this
        have hlt' : t.length < s.length := by
          rcases Nat.lt_or_ge t.length s.length with h | h
          · exact h
          · exact absurd (ht.eq_of_length_le h) hne
        have htm : t ∈ upTo a.n a.rows.length := mem_upTo.mpr ⟨hts, t0, by omega⟩
        rw [← hall] at htm
        refine List.mem_flatMap.mpr ⟨t, ?_, sol_found g t0 (by omega) tn tl t2 t1⟩
        rcases List.mem_append.mp htm with h | h
        · exact h
        · rcases List.mem_cons.mp h with h | h
          · exact absurd h hne
          · have := (List.pairwise_cons.mp hsort.2.1).1 t h
            omega
      rw [removeAll_all hin]
      simp [hp]
end DA
namespace DA
open Su109
theorem upTo_succ (n m : Nat) : upTo n (m + 1) = upTo n m ++ choose (m + 1) (List.range n) := by
  unfold upTo
  rw [List.range_succ, List.flatMap_append]
  simp
theorem upTo_more {a : Abs} (g : Good a) (m : Nat) (h : a.rows.length ≤ m ∨ a.n ≤ m) :
    (upTo a.n (m + 1)).filterMap (fun s => cornerOn (full a) s a.n) = (upTo a.n m).filterMap (fun s => cornerOn (full a) s a.n) := by
  rw [upTo_succ, List.filterMap_append]
  have : (choose (m + 1) (List.range a.n)).filterMap (fun s => cornerOn (full a) s a.n) = [] := by
    rw [List.filterMap_eq_nil_iff]
    intro s hs
    obtain ⟨h1, h2⟩ := mem_choose.mp hs
    obtain ⟨hn, hl⟩ := sub_sets h1
    cases e : cornerOn (full a) s a.n with
    | none => rfl
    | some q =>
      have h3 := (corner_sol g hn hl e).2.2.2
      have h4 := h1.length_le
      simp at h4
      omega
  rw [this, List.append_nil]
theorem upTo_all {a : Abs} (g : Good a) (m : Nat) (h : a.rows.length ≤ m ∨ a.n ≤ m) : ∀ d,
    (upTo a.n (m + d)).filterMap (fun s => cornerOn (full a) s a.n) = (upTo a.n m).filterMap (fun s => cornerOn (full a) s a.n)
  | 0 => rfl
  | d + 1 => by
    rw [← Nat.add_assoc, upTo_more g (m + d) (by omega)]
    exact upTo_all g m h d
/-- the program's corners are the document's -/
theorem mCorners_eq {a : Abs} (g : Good a) : mCorners a = a.corners := by
  rw [corners_eq, dups g _ [] (by simp)]
  show (upTo a.n a.n).filterMap _ = _
  have h1 := upTo_all g a.n (Or.inr (Nat.le_refl _)) a.rows.length
  have h2 := upTo_all g a.rows.length (Or.inl (Nat.le_refl _)) a.n
  rw [← h1, ← h2, Nat.add_comm]
theorem corner_mem {a : Abs} (g : Good a) {q : List Fr} (h : q ∈ a.corners) : q.length = a.n ∧ (∀ c, Red (q.getD c (0, 1))) ∧ ∀ c, 0 ≤ (q.getD c (0, 1)).1 := by
  rw [← mCorners_eq g] at h
  unfold mCorners at h
  obtain ⟨s, hs, e⟩ := List.mem_filterMap.mp h
  have hs' : s ∈ upTo a.n a.n := hs
  obtain ⟨hn, hl⟩ := sub_sets (mem_upTo.mp hs').1
  obtain ⟨k1, _, k3, _⟩ := corner_sol g hn hl e
  refine ⟨k1.len, k1.red, ?_⟩
  intro c
  by_cases m : c ∈ s
  · have := k3 c m; omega
  · by_cases hc : c < a.n
    · rw [k1.off c hc m]; decide
    · have : q.getD c (0, 1) = (0, 1) := by
        simp [List.getD, List.getElem?_eq_none (show q.length ≤ c by rw [k1.len]; omega)]
      rw [this]; decide
def mFair (cs : List (List Fr)) (n : Nat) : Bool := (List.range n).all fun c => cs.any fun q => (q.getD c (0, 1)).1 != 0
theorem mFair_eq {a : Abs} (g : Good a) : mFair a.corners a.n = a.fair := by
  unfold mFair Abs.fair
  have e : ((List.range a.n).all fun c => a.corners.any fun q => (q.getD c (0, 1)).1 != 0) = ((List.range a.n).all fun c => a.corners.any fun q => decide (0 < (q.getD c (0, 1)).1)) := by
    congr 1
    funext c
    rw [Bool.eq_iff_iff, List.any_eq_true, List.any_eq_true]
    constructor
    · rintro ⟨q, hq, h⟩
      have := (corner_mem g hq).2.2 c
      exact ⟨q, hq, decide_eq_true (by have : (q.getD c (0, 1)).1 ≠ 0 := by simpa using h
                                       omega)⟩
    · rintro ⟨q, hq, h⟩
      have := of_decide_eq_true h
      exact ⟨q, hq, bne_iff_ne.mpr (by omega)⟩
  rw [e]
  cases hc : a.corners with
  | nil =>
    have h1 := g.one
    have : (List.range a.n) = 0 :: (List.range (a.n - 1)).map (· + 1) := by
      obtain ⟨k, hk⟩ : ∃ k, a.n = k + 1 := ⟨a.n - 1, by omega⟩
      rw [hk, List.range_succ_eq_map]
      rfl
    rw [this]
    simp
  | cons q t => simp
/-- what a promise is worth by prices, as the program goes through it -/
def mWorth (q : List Fr) (p : List Int) : Fr := (q.zip p).foldl (fun w x => plus w (low (x.1.1 * x.2) x.1.2)) (0, 1)
theorem mWorth_eq {q : List Fr} {p : List Int} (h : q.length = p.length) : mWorth q p = worth q p := by
  unfold mWorth worth
  have : (List.range p.length).map (fun c => low ((q.getD c (0, 1)).1 * at_ p c) (q.getD c (0, 1)).2) = (q.zip p).map (fun x => low (x.1.1 * x.2) x.1.2) := by
    refine List.ext_getElem (by simp [h]) ?_
    intro i h1 h2
    simp only [List.length_map, List.length_range] at h1
    simp only [List.getElem_map, List.getElem_range, List.getElem_zip]
    rw [getD_lt (by omega)]
    unfold at_
    rw [getD_lt h1]
  rw [this, List.foldl_map]
end DA
namespace DA
/-! ### the flat list of calls, one call at a time -/
theorem calls_next {sh : Int → Option (Nat × Nat)} {f : Nat} {p : Int} {r : List Int} {cs : List (List (List Int))} (h : PyFlat.calls sh f (p :: r) = some cs) :
    ∃ n k xs t cs' f', sh p = some (n, k) ∧ n ≤ r.length ∧ PyFlat.rows k (r.drop n) = some (xs, t) ∧ cs = ((p :: r.take n) :: xs) :: cs' ∧ PyFlat.calls sh f' t = some cs' := by
  cases f with
  | zero => simp [PyFlat.calls] at h
  | succ f =>
    rw [PyFlat.calls] at h
    cases hc : PyFlat.call sh (p :: r) with
    | none => rw [hc] at h; cases h
    | some ct =>
      obtain ⟨c, t⟩ := ct
      rw [hc] at h
      simp only at h
      cases ht : PyFlat.calls sh f t with
      | none => rw [ht] at h; cases h
      | some cs' =>
        rw [ht] at h
        simp only [Option.some.injEq] at h
        rw [PyFlat.call] at hc
        cases hs : sh p with
        | none => rw [hs] at hc; cases hc
        | some nk =>
          obtain ⟨n, k⟩ := nk
          rw [hs] at hc
          simp only at hc
          split at hc
          · cases hc
          · rename_i hn
            cases hr : PyFlat.rows k (r.drop n) with
            | none => rw [hr] at hc; cases hc
            | some xt =>
              obtain ⟨xs, t'⟩ := xt
              rw [hr] at hc
              simp only [Option.some.injEq, Prod.mk.injEq] at hc
              obtain ⟨rfl, rfl⟩ := hc
              exact ⟨n, k, xs, t', cs', f, rfl, by omega, hr, h.symm, ht⟩
theorem rows_zero {r : List Int} {xs : List (List Int)} {t : List Int} (h : PyFlat.rows 0 r = some (xs, t)) : xs = [] ∧ t = r := by
  simp only [PyFlat.rows, Option.some.injEq, Prod.mk.injEq] at h
  exact ⟨h.1.symm, h.2.symm⟩
theorem rows_one {r : List Int} {xs : List (List Int)} {t : List Int} (h : PyFlat.rows 1 r = some (xs, t)) :
    ∃ (m : Nat) (s : List Int), r = (m : Int) :: s ∧ m ≤ s.length ∧ xs = [s.take m] ∧ t = s.drop m := by
  simp only [PyFlat.rows] at h
  cases r with
  | nil => simp [PyFlat.row] at h
  | cons x s =>
    rw [PyFlat.row] at h
    by_cases hx : 0 ≤ x ∧ x.toNat ≤ s.length
    · rw [if_pos hx] at h
      simp only [Option.some.injEq, Prod.mk.injEq] at h
      exact ⟨x.toNat, s, by rw [Int.toNat_of_nonneg hx.1], hx.2, h.1.symm, h.2.symm⟩
    · rw [if_neg hx] at h
      cases h
/-! ### what a call is worth -/
abbrev nstep (st : Option Su109.Abs) (c : List (List Int)) : Option Su109.Abs × List Int := Su109Neutral.step st ((PySu109.whole c).headD [])
def tells (z : Option Su109.Abs × Su109.Ans) : Option Su109.Abs × List Int := (z.1, z.2.value :: z.2.out)
theorem st0 (st : Option Su109.Abs) (x y z : Int) : nstep st [[0, x, y, z]] = tells (Su109.step st (.begin_ x.toNat y.toNat z.toNat)) := rfl
theorem st1 (st : Option Su109.Abs) (x : Int) (r : List Int) : nstep st [[1, x], r] = tells (Su109.step st (.thing x.toNat (r.map Int.toNat))) := rfl
theorem st2 (st : Option Su109.Abs) (x : Int) : nstep st [[2, x]] = tells (Su109.step st (.drop x.toNat)) := rfl
theorem st3 (st : Option Su109.Abs) (x y : Int) : nstep st [[3, x, y]] = tells (Su109.step st (.price x.toNat y.toNat)) := rfl
theorem st4 (st : Option Su109.Abs) : nstep st [[4]] = tells (Su109.step st .fair) := rfl
theorem st5 (st : Option Su109.Abs) : nstep st [[5]] = tells (Su109.step st .corners) := rfl
theorem st6 (st : Option Su109.Abs) (r : List Int) : nstep st [[6], r] = tells (Su109.step st (.promise (r.map Int.toNat))) := rfl
theorem st7 (st : Option Su109.Abs) (x y : Int) (r : List Int) : nstep st [[7, x, y], r] = tells (Su109.step st (.may x.toNat y.toNat (r.map Int.toNat))) := rfl
theorem st8 (st : Option Su109.Abs) (r : List Int) : nstep st [[8], r] = tells (Su109.step st (.one (r.map Int.toNat))) := rfl
theorem st9 (st : Option Su109.Abs) (x y : Int) : nstep st [[9, x, y]] = tells (Su109.step st (.call x.toNat y.toNat)) := rfl
theorem st10 (st : Option Su109.Abs) (x y : Int) : nstep st [[10, x, y]] = tells (Su109.step st (.put x.toNat y.toNat)) := rfl
theorem st11 (st : Option Su109.Abs) : nstep st [[11]] = tells (Su109.step st .whole) := rfl
theorem st12 (st : Option Su109.Abs) (x : Int) : nstep st [[12, x]] = tells (Su109.step st (.of x.toNat)) := rfl
theorem st13 (st : Option Su109.Abs) (r : List Int) : nstep st [[13], r] = tells (Su109.step st (.free (r.map Int.toNat))) := rfl
theorem st14 (st : Option Su109.Abs) (r : List Int) : nstep st [[14], r] = tells (Su109.step st (.pays (r.map Int.toNat))) := rfl
theorem st15 (st : Option Su109.Abs) (x y : Int) : nstep st [[15, x, y]] = tells (Su109.step st (.would x.toNat y.toNat)) := rfl
theorem st16 (st : Option Su109.Abs) (x : Int) : nstep st [[16, x]] = tells (Su109.step st (.look x.toNat)) := rfl
theorem st17 (st : Option Su109.Abs) : nstep st [[17]] = tells (Su109.step st .rate) := rfl
theorem st18 (st : Option Su109.Abs) : nstep st [[18]] = tells (Su109.step st .state) := rfl
end DA
namespace DA
theorem inside_row {p : Int} {xs r : List Int} (hp : p = 1 ∨ p = 6 ∨ p = 7 ∨ p = 8 ∨ p = 13 ∨ p = 14) (h : PyInside.call PySu109.bound [p :: xs, r] = true) : r.length ≤ 8 := by
  unfold PyInside.call at h
  simp only [Bool.and_eq_true] at h
  have h2 := h.2
  rcases hp with e | e | e | e | e | e <;> subst e
  · have h3 : (decide (0 ≤ r.length) && decide (r.length ≤ 6) && r.all (PyInside.within 0 4294967295) && PyInside.lists [] []) = true := h2
    simp only [Bool.and_eq_true, decide_eq_true_eq] at h3
    omega
  · have h3 : (decide (0 ≤ r.length) && decide (r.length ≤ 6) && r.all (PyInside.within 0 4294967295) && PyInside.lists [] []) = true := h2
    simp only [Bool.and_eq_true, decide_eq_true_eq] at h3
    omega
  · have h3 : (decide (0 ≤ r.length) && decide (r.length ≤ 6) && r.all (PyInside.within 0 4294967295) && PyInside.lists [] []) = true := h2
    simp only [Bool.and_eq_true, decide_eq_true_eq] at h3
    omega
  · have h3 : (decide (0 ≤ r.length) && decide (r.length ≤ 6) && r.all (PyInside.within 0 4294967295) && PyInside.lists [] []) = true := h2
    simp only [Bool.and_eq_true, decide_eq_true_eq] at h3
    omega
  · have h3 : (decide (0 ≤ r.length) && decide (r.length ≤ 8) && r.all (PyInside.within 0 4294967295) && PyInside.lists [] []) = true := h2
    simp only [Bool.and_eq_true, decide_eq_true_eq] at h3
    omega
  · have h3 : (decide (0 ≤ r.length) && decide (r.length ≤ 8) && r.all (PyInside.within 0 4294967295) && PyInside.lists [] []) = true := h2
    simp only [Bool.and_eq_true, decide_eq_true_eq] at h3
    omega
/-- what is asked, opened -/
theorem asked_open {ns : List Int} (h : PySu109.answers_asked ns = true) : ∃ raw, PyFlat.calls PySu109.shape ns.length ns = some raw ∧ PyInside.calls PySu109.bound raw = true ∧ raw.length ≤ 400 ∧ (PySu109.answers ns).length ≤ 10000000 ∧
    PySu109.answers ns = PyFlat.told (PyFlat.played (fun s c => Su109Neutral.step s (c.headD [])) Su109Neutral.start (raw.map PySu109.whole)) := by
  unfold PySu109.answers_asked at h
  cases hc : PyFlat.calls PySu109.shape ns.length ns with
  | none => rw [hc] at h; cases h
  | some raw =>
    rw [hc] at h
    simp only [Bool.and_eq_true] at h
    refine ⟨raw, rfl, h.1.1.2, of_decide_eq_true h.1.1.1.2, of_decide_eq_true h.2, ?_⟩
    unfold PySu109.answers PySu109.calls
    rw [hc]
/-- the answers to what is left -/
def rest (st : Option Su109.Abs) (raw : List (List (List Int))) : List Int := PyFlat.told (PyFlat.played (fun s c => Su109Neutral.step s (c.headD [])) st (raw.map PySu109.whole))
theorem rest_nil (st : Option Su109.Abs) : rest st [] = [] := rfl
theorem rest_cons (st : Option Su109.Abs) (c : List (List Int)) (cs : List (List (List Int))) : rest st (c :: cs) = (((nstep st c).2.length : Int) :: (nstep st c).2) ++ rest (nstep st c).1 cs := rfl
theorem shape_in {p : Int} {n k : Nat} (h : PySu109.shape p = some (n, k)) : ∃ q : Nat, p = (q : Int) ∧ q ≤ 18 := by
  apply Classical.byContradiction
  intro hn
  have hp : ∀ q : Nat, q ≤ 18 → ¬ p = (q : Int) := fun q hq e => hn ⟨q, e, hq⟩
  unfold PySu109.shape at h
  rw [if_neg (show ¬ p = 0 from hp 0 (by decide))] at h
  rw [if_neg (show ¬ p = 1 from hp 1 (by decide))] at h
  rw [if_neg (show ¬ p = 2 from hp 2 (by decide))] at h
  rw [if_neg (show ¬ p = 3 from hp 3 (by decide))] at h
  rw [if_neg (show ¬ p = 4 from hp 4 (by decide))] at h
  rw [if_neg (show ¬ p = 5 from hp 5 (by decide))] at h
  rw [if_neg (show ¬ p = 6 from hp 6 (by decide))] at h
  rw [if_neg (show ¬ p = 7 from hp 7 (by decide))] at h
  rw [if_neg (show ¬ p = 8 from hp 8 (by decide))] at h
  rw [if_neg (show ¬ p = 9 from hp 9 (by decide))] at h
  rw [if_neg (show ¬ p = 10 from hp 10 (by decide))] at h
  rw [if_neg (show ¬ p = 11 from hp 11 (by decide))] at h
  rw [if_neg (show ¬ p = 12 from hp 12 (by decide))] at h
  rw [if_neg (show ¬ p = 13 from hp 13 (by decide))] at h
  rw [if_neg (show ¬ p = 14 from hp 14 (by decide))] at h
  rw [if_neg (show ¬ p = 15 from hp 15 (by decide))] at h
  rw [if_neg (show ¬ p = 16 from hp 16 (by decide))] at h
  rw [if_neg (show ¬ p = 17 from hp 17 (by decide))] at h
  rw [if_neg (show ¬ p = 18 from hp 18 (by decide))] at h
  cases h
end DA
namespace DA
open Su109 (Fr low over plus less at_ choose Abs pairs)
/-! ### some of each, row by row -/
def tog (x : List Int) (rows : List (List Int)) (w : Nat) : Nat → List Int
  | 0 => List.replicate w 0
  | i + 1 => List.zipWith (fun s m => s + x.getD i 0 * m) (tog x rows w i) (rows.getD i [])
def colS (x : List Int) (rows : List (List Int)) (i c : Nat) : Int := ((List.range i).map fun j => x.getD j 0 * at_ (rows.getD j []) c).foldl (fun u v => u + v) 0
theorem colS_succ (x : List Int) (rows : List (List Int)) (i c : Nat) : colS x rows (i + 1) c = colS x rows i c + x.getD i 0 * at_ (rows.getD i []) c := by
  simp [colS, List.range_succ]
theorem tog_eq {x : List Int} {rows : List (List Int)} {w : Nat} : ∀ {i : Nat}, (∀ j, j < i → (rows.getD j []).length = w) → tog x rows w i = (List.range w).map fun c => colS x rows i c
  | 0, _ => by
    refine List.ext_getElem (by simp [tog]) (fun c h1 h2 => ?_)
    simp [tog, colS]
  | i + 1, h => by
    have ih := tog_eq (x := x) (rows := rows) (w := w) (i := i) (fun j hj => h j (by omega))
    have hw := h i (by omega)
    refine List.ext_getElem (by simp only [tog, ih, List.length_zipWith, List.length_map, List.length_range, hw]; omega) (fun c h1 h2 => ?_)
    simp only [tog, ih, List.getElem_zipWith, List.getElem_map, List.getElem_range, colS_succ]
    have hc : c < w := by simpa using h2
    congr 2
    unfold at_
    exact (getD_lt (by omega)).symm
theorem tog_len {x : List Int} {rows : List (List Int)} {w i : Nat} (h : ∀ j, j < i → (rows.getD j []).length = w) : (tog x rows w i).length = w := by
  rw [tog_eq h]; simp
theorem tog_get {x : List Int} {rows : List (List Int)} {w i c : Nat} (h : ∀ j, j < i → (rows.getD j []).length = w) (hr : (rows.getD i []).length = w) (hc : c < w) : (tog x rows w (i + 1))[c]? = some (at_ (tog x rows w i) c + x.getD i 0 * at_ (rows.getD i []) c) := by
  have l := tog_len (x := x) h
  simp only [tog]
  rw [List.getElem?_eq_getElem (by rw [List.length_zipWith, l, hr]; omega), List.getElem_zipWith]
  unfold at_
  rw [getD_lt (l := tog x rows w i) (by omega), getD_lt (l := rows.getD i []) (by omega)]
/-- what some of each pay, then what they cost -/
def made (a : Abs) (x : List Int) : List Int := tog x (full a) (a.n + 1) a.rows.length
theorem full_w {a : Abs} (g : Good a) {j : Nat} (h : j < a.rows.length) : ((full a).getD j []).length = a.n + 1 := by
  rw [full_row h, List.length_append, rows_wide g j h]; rfl
theorem made_eq {a : Abs} (g : Good a) (x : List Int) : made a x = a.pays x ++ [a.cost x] := by
  unfold made
  rw [tog_eq (fun j hj => full_w g hj), List.range_succ, List.map_append]
  have key : ∀ c j, j ∈ List.range a.rows.length → c < a.n → at_ ((full a).getD j []) c = at_ (a.rows.getD j []) c := by
    intro c j hj hc
    rw [full_row (List.mem_range.mp hj), at_append_lt (by rw [rows_wide g j (List.mem_range.mp hj)]; exact hc)]
  have keyN : ∀ j, j ∈ List.range a.rows.length → at_ ((full a).getD j []) a.n = at_ a.prices j := by
    intro j hj
    have := rows_wide g j (List.mem_range.mp hj)
    rw [full_row (List.mem_range.mp hj)]
    conv => lhs; rw [← this]
    exact at_append_one
  congr 1
  · unfold Abs.pays
    refine List.map_congr_left (fun c hc => ?_)
    unfold colS
    congr 1
    refine List.map_congr_left (fun j hj => ?_)
    rw [key c j hj (List.mem_range.mp hc)]
  · rw [List.map_singleton]
    unfold colS Abs.cost
    congr 2
    refine List.map_congr_left (fun j hj => ?_)
    rw [keyN j hj]
theorem pays_len (a : Abs) (x : List Int) : (a.pays x).length = a.n := by simp [Abs.pays]
theorem pairs_at : ∀ (i : Nat) (l : List Nat), 2 * i + 1 < l.length → (pairs l).getD i 0 = (l.getD (2 * i) 0 : Int) - (l.getD (2 * i + 1) 0 : Int)
  | 0, x :: y :: l, _ => by simp [pairs]
  | i + 1, x :: y :: l, h => by
    have ih := pairs_at i l (by simp at h; omega)
    have e1 : 2 * (i + 1) = 2 * i + 1 + 1 := by omega
    rw [e1]
    simp only [pairs, List.getD_cons_succ]
    exact ih
  | _, [], h => by simp at h
  | _, [_], h => by simp at h
def okFree (l : List Int) (c : Int) : Bool := decide (c ≤ 0) && (l.all (fun y => decide (0 ≤ y)) && (decide (c < 0) || l.any fun y => decide (0 < y)))
theorem free_eq (a : Abs) (x : List Int) : a.free x = okFree (a.pays x) (a.cost x) := rfl
/-- one price is another -/
def priceAt (a : Abs) (t p : Nat) : Abs := { a with things := a.things.modify t fun x => (p, x.2) }
theorem full_price {a : Abs} {t p : Nat} {th : Nat × List Nat} (h : a.things[t]? = some th) : full (priceAt a t p) = (full a).set (t + 1) (th.2.map Int.ofNat ++ [Int.ofNat p]) := by
  have hl : t < a.things.length := (List.getElem?_eq_some_iff.mp h).1
  refine List.ext_getElem? (fun i => ?_)
  cases i with
  | zero => simp [full, priceAt]
  | succ i =>
    simp only [full, priceAt, List.getElem?_cons_succ, List.set_cons_succ, List.getElem?_map, List.getElem?_modify, List.getElem?_set, List.length_map]
    by_cases e : t = i
    · subst e
      have e : a.things[t] = th := (List.getElem?_eq_some_iff.mp h).2
      simp [hl, e]
    · simp only [e, if_false]
      cases a.things[i]? <;> rfl
end DA
set_option Elab.async false
set_option maxRecDepth 100000
set_option maxHeartbeats 2000000
namespace DA
open PySem PySem.Spec PyProof.Rows L2
open Su109 (Fr low over plus less at_)
def top (i : Nat) : Stmt := PySem.Challenge.pw_dayahead_s01_answers.main.body.getD i (.Pass ⟨0, 0, 0, 0⟩)
abbrev sCommon : Stmt := top 1
abbrev sRatio : Stmt := top 2
abbrev sAdd : Stmt := top 3
abbrev sTimes : Stmt := top 4
abbrev sLess : Stmt := top 5
/-- the greatest common part -/
def gcdI (a b : Int) : Int := (Nat.gcd a.natAbs b.natAbs : Nat)
def spCommon : Sp := fun vs H Q _ => ∃ a b : Int, vs = [.int a, .int b] ∧ Q (.int (gcdI a b)) H
theorem gcd_turn {x y : Int} (hx : 0 ≤ x) (hy : 0 < y) : gcdI y (x % y) = gcdI x y := by
  unfold gcdI
  congr 1
  have e : (x % y).natAbs = x.natAbs % y.natAbs := by
    rw [Int.natAbs_emod_of_nonneg hx]
  rw [e, Nat.gcd_comm x.natAbs y.natAbs, Nat.gcd_rec y.natAbs x.natAbs, Nat.gcd_comm]
section
variable {P : Program} {w : World} {K : PySem.W.Frag} {mg : Str → Option Value} {base : Heap}
theorem scCommon : FnScope ["a", "b", "rest"] ["a", "b"] (defScope sCommon) := ⟨rfl, rfl, rfl, by decide +kernel, rfl, by decide +kernel, by decide +kernel⟩
theorem ok_common {f : Addr} {fd : FuncData} (F : Fun K "common_part" "common_part" sCommon f fd) (hab : mg "abs" = none) : FnOk P w K mg base CX0 1 f fd ["a", "b"] spCommon := by
  refine F.ok scCommon (fun vs H Q E h => ?_) (fun cdv A outer s H vs Q E hr h => ?_)
  · obtain ⟨a, b, rfl, _⟩ := h
    rfl
  · obtain ⟨a, b, rfl, k⟩ := h
    refine ⟨_, pss_cons (ps_set (i := 0) scCommon.nd rfl (Or.inl rfl) (pe_callB call_abs (by rfl) hab boot_abs (pa_cons (pv 0) pa_nil)))
      (pss_cons (ps_set (i := 1) scCommon.nd rfl (Or.inl rfl) (pe_callB call_abs (by rfl) hab boot_abs (pa_cons (pv 1) pa_nil)))
      (pss_cons (ps_while PassesOwn.never (pt_cmpR op_ne (pv 1) pe_int (nomark _))
        (pss_cons (ps_set (i := 2) scCommon.nd rfl (Or.inl rfl) (pe_op op_mod (pv 0) (pv 1)))
        (pss_cons (ps_set (i := 0) scCommon.nd rfl (Or.inl rfl) (pv 1))
        (pss_one (ps_set (i := 1) scCommon.nd rfl (Or.inl rfl) (pv 2))))))
      (pss_one (ps_ret (pv 0))))), ?_⟩
    refine ⟨_, rfl, a, rfl, _, rfl, b, rfl, ?_⟩
    refine while_by (fun σ H' => H' = H ∧ ∃ (x y : Int) (r : Option V), σ = [some (.int x), some (.int y), r] ∧ 0 ≤ x ∧ 0 ≤ y ∧ gcdI x y = gcdI a b)
      (fun σ _ => match σ with | [_, some (.int y), _] => y.toNat | _ => 0) ?_ ?_ ?_
    · refine ⟨rfl, _, _, none, rfl, by split <;> omega, by split <;> omega, ?_⟩
      unfold gcdI
      congr 2 <;> split <;> omega
    · rintro σ H' ⟨rfl, x, y, r, rfl, hx, hy, e⟩
      refine ⟨_, rfl, rfl, _, rfl, ?_⟩
      refine ite2 (fun hc => ?_) (fun hc => ?_)
      · have hy0 : 0 < y := by
          have : ¬ y = 0 := by
            intro h0
            subst h0
            simp at hc
          omega
        refine ⟨_, rfl, _, rfl, _, _, rfl, rfl, hy0, _, rfl, _, rfl, ?_⟩
        have hm := Int.emod_nonneg x (show y ≠ 0 by omega)
        have hl := Int.emod_lt_of_pos x hy0
        refine ⟨⟨rfl, _, _, _, rfl, by omega, hm, ?_⟩, ?_⟩
        · rw [gcd_turn hx hy0, e]
        · show (x % y).toNat < y.toNat
          omega
      · have hy0 : y = 0 := by
          apply Classical.byContradiction
          intro h0
          exact hc (by simp [h0])
        subst hy0
        refine ⟨_, rfl, ?_⟩
        have : gcdI a b = x := by
          rw [← e]
          unfold gcdI
          simp
          omega
        rw [this] at k
        exact k
    · intro σ H' Q1 Q2 hm hq
      obtain ⟨v, e1, h1, c, e2, h2⟩ := hq
      exact ⟨v, e1, h1, c, e2, hm _ _ h2⟩
end
end DA
set_option Elab.async false
set_option maxRecDepth 100000
set_option maxHeartbeats 2000000
namespace DA
open PySem PySem.Spec PyProof.Rows L2
open Su109 (Fr low over plus less at_)
/-! ### sizes -/
def Small (x : Int) : Prop := x.natAbs < 2 ^ 1000
theorem op_mulB {X : Cx} : OpR X (binaryOp .Mult) (rI (fun i j => Small i ∧ Small j) fun i j => .int (i * j)) := opI fun i j _ _ _ _ _ hc q =>
  mul_int q (IntMulOk.of_bits (Nat.le_trans (PyProof.Rows.intBits_le (k := 1000) hc.1) (by decide)) (Nat.le_trans (PyProof.Rows.intBits_le (k := 1000) hc.2) (by decide)))
theorem op_fdivB {X : Cx} : OpR X (binaryOp .FloorDiv) (rI (fun _ j => j ≠ 0 ∧ Small j) fun i j => .int (i.fdiv j)) := opI fun i j _ _ _ _ _ hc q =>
  floordiv_int hc.1 q (.inl (PyProof.noPylong_of_log2 (by
    have h0 : j.natAbs ≠ 0 := by have := hc.1; omega
    have : j.natAbs.log2 < 1000 := (Nat.log2_lt h0).mpr hc.2
    omega)))
def frV (f : Fr) : List V := [.int f.1, .int (f.2 : Int)]
/-- both numbers below 2 ^ k -/
def Sz (k : Nat) (f : Fr) : Prop := f.1.natAbs < 2 ^ k ∧ f.2 < 2 ^ k
theorem gcd_pos {a b : Int} (h : b ≠ 0) : 0 < gcdI a b := by
  unfold gcdI
  have := Nat.gcd_pos_of_pos_right a.natAbs (show 0 < b.natAbs by omega)
  omega
theorem gcd_le {a b : Int} (h : b ≠ 0) : (gcdI a b).natAbs ≤ b.natAbs := by
  unfold gcdI
  exact Nat.le_of_dvd (by omega) (Nat.gcd_dvd_right _ _)
theorem gcd_dl (a b : Int) : gcdI a b ∣ a := Int.ofNat_dvd_left.mpr (Nat.gcd_dvd_left _ _)
theorem gcd_dr (a b : Int) : gcdI a b ∣ b := Int.ofNat_dvd_left.mpr (Nat.gcd_dvd_right _ _)
theorem over_pos {a b : Int} (h : 0 < b) : (over a b).1 = a / gcdI a b ∧ ((over a b).2 : Int) = b / gcdI a b := by
  unfold over
  rw [if_neg (by omega), low_pos (by omega)]
  refine ⟨rfl, ?_⟩
  show ((b.natAbs / Nat.gcd a.natAbs b.natAbs : Nat) : Int) = b / ((Nat.gcd a.natAbs b.natAbs : Nat) : Int)
  rw [Int.natCast_ediv]
  congr 1
  omega
theorem over_neg {a b : Int} (h : b < 0) : (over a b).1 = (-a) / gcdI a b ∧ ((over a b).2 : Int) = (-b) / gcdI a b := by
  unfold over
  rw [if_pos h, low_pos (by omega)]
  have e : (-a).natAbs = a.natAbs := Int.natAbs_neg a
  refine ⟨?_, ?_⟩
  · show (-a) / ((Nat.gcd (-a).natAbs b.natAbs : Nat) : Int) = _
    rw [e]; rfl
  · show ((b.natAbs / Nat.gcd (-a).natAbs b.natAbs : Nat) : Int) = (-b) / ((Nat.gcd a.natAbs b.natAbs : Nat) : Int)
    rw [e, Int.natCast_ediv]
    congr 1
    omega
theorem fdiv_pos {a g : Int} (hg : g ∣ a) : a.fdiv g = a / g := Int.fdiv_eq_ediv_of_dvd hg
theorem fdiv_neg {a g : Int} (hg : g ∣ a) : a.fdiv (-g) = (-a) / g := by
  have h : -g ∣ a := Int.neg_dvd.mpr hg
  rw [Int.fdiv_eq_ediv_of_dvd h, Int.ediv_neg, Int.neg_ediv_of_dvd hg]
theorem over_sz {a b : Int} {k : Nat} (hb : b ≠ 0) (h1 : a.natAbs < 2 ^ k) (h2 : b.natAbs < 2 ^ k) : Sz k (over a b) := by
  have key : ∀ (x : Int) (n : Nat), 0 < n → x.natAbs < 2 ^ k → n < 2 ^ k → Sz k (low x n) := by
    intro x n hn hx hn2
    obtain ⟨g, hg, e1, e2, _⟩ := low_spec (x := x) hn
    refine ⟨?_, ?_⟩
    · have : x.natAbs = (low x n).1.natAbs * g := by
        have := congrArg Int.natAbs e1
        rw [Int.natAbs_mul] at this
        simpa using this
      have : (low x n).1.natAbs ≤ x.natAbs := by rw [this]; exact Nat.le_mul_of_pos_right _ hg
      omega
    · have : (low x n).2 ≤ n := by
        have h3 := Nat.le_mul_of_pos_right (low x n).2 hg
        omega
      omega
  unfold over
  split
  · exact key _ _ (by omega) (by rw [Int.natAbs_neg]; exact h1) h2
  · exact key _ _ (by omega) h1 h2
/-! ### ratio -/
def spRatio : Sp := fun vs H Q _ => ∃ a b : Int, vs = [.int a, .int b] ∧ b ≠ 0 ∧ Small b ∧ ∀ (H' : Hp) (p : Addr), Same H H' → H' p = some (.tup (frV (over a b))) → Q (.ref p) H'
theorem same_upd {H : Hp} {p : Addr} {o : HO} (h : H p = none) : Same H (upd H p o) := fun b u e => by
  rw [upd_ne (ne_of_none e h)]; exact e
section
variable {P : Program} {w : World} {K : PySem.W.Frag} {mg : Str → Option Value} {base : Heap}
theorem scRatio : FnScope ["above", "below", "part"] ["above", "below"] (defScope sRatio) := ⟨rfl, rfl, rfl, by decide +kernel, rfl, by decide +kernel, by decide +kernel⟩
theorem ok_ratio {f fc : Addr} {fd fdc : FuncData} (F : Fun K "ratio" "ratio" sRatio f fd) (Fc : Fun K "common_part" "common_part" sCommon fc fdc) (hab : mg "abs" = none) (mc : mg "common_part" = some (.ref fc)) (bc : Binds K fdc ["a", "b"] []) :
    FnOk P w K mg base CX0 2 f fd ["above", "below"] spRatio := by
  have Gc : FnOk P w K mg base CX0 1 fc fdc ["a", "b"] spCommon := ok_common Fc hab
  refine F.ok scRatio (fun vs H Q E h => ?_) (fun cdv A outer s H vs Q E hr h => ?_)
  · obtain ⟨a, b, rfl, _⟩ := h
    rfl
  · obtain ⟨a, b, rfl, hb, hs, k⟩ := h
    refine ⟨_, pss_cons (ps_set (i := 2) scRatio.nd rfl (Or.inl rfl) (pe_call Gc hr rfl mc Fc.kp bc .nil pass0 (pa_cons (pv 0) (pa_cons (pv 1) pa_nil))))
      (pss_cons (ps_if (pt_cmpR op_lt (pv 1) pe_int (nomark _)) (pss_one (ps_set (i := 2) scRatio.nd rfl (Or.inl rfl) (pe_un un_neg (pv 2)))) pss_nil)
      (pss_one (ps_ret (pe_tup (pa_cons (pe_op op_fdivB (pv 0) (pv 2)) (pa_cons (pe_op op_fdivB (pv 1) (pv 2)) pa_nil)))))), ?_⟩
    refine ⟨_, rfl, _, rfl, a, b, rfl, _, rfl, _, _, rfl, rfl, _, rfl, ?_⟩
    have g0 := gcd_pos (a := a) hb
    have gs : Small (gcdI a b) := Nat.lt_of_le_of_lt (gcd_le hb) hs
    refine ite2 (fun hc => ?_) (fun hc => ?_)
    · have hneg : b < 0 := of_decide_eq_true hc
      refine ⟨_, rfl, _, rfl, _, rfl, _, rfl, a, _, rfl, rfl, ⟨by omega, by unfold Small; rw [Int.natAbs_neg]; exact gs⟩, ?_⟩
      refine ⟨_, rfl, _, rfl, b, _, rfl, rfl, ⟨by omega, by unfold Small; rw [Int.natAbs_neg]; exact gs⟩, (by show 2 ≤ sizeLine; decide), fun p hp => ?_⟩
      refine k _ p (same_upd hp) ?_
      rw [upd_same]
      show some (HO.tup [V.int (a.fdiv (-gcdI a b)), V.int (b.fdiv (-gcdI a b))]) = _
      rw [fdiv_neg (gcd_dl a b), fdiv_neg (gcd_dr a b)]
      unfold frV
      rw [(over_neg hneg).1, (over_neg hneg).2]
    · have hpos : 0 < b := by
        have : ¬ b < 0 := fun h => hc (decide_eq_true h)
        omega
      refine ⟨_, rfl, _, rfl, a, _, rfl, rfl, ⟨by omega, gs⟩, ?_⟩
      refine ⟨_, rfl, _, rfl, b, _, rfl, rfl, ⟨by omega, gs⟩, (by show 2 ≤ sizeLine; decide), fun p hp => ?_⟩
      refine k _ p (same_upd hp) ?_
      rw [upd_same]
      show some (HO.tup [V.int (a.fdiv (gcdI a b)), V.int (b.fdiv (gcdI a b))]) = _
      rw [fdiv_pos (gcd_dl a b), fdiv_pos (gcd_dr a b)]
      unfold frV
      rw [(over_pos hpos).1, (over_pos hpos).2]
/-! ### add, times, is_less -/
theorem fr0 (f : Fr) : atI (frV f) 0 = some (.int f.1) := rfl
theorem fr1 (f : Fr) : atI (frV f) 1 = some (.int (f.2 : Int)) := rfl
theorem pow_mul_lt {x y k l : Nat} (hx : x < 2 ^ k) (hy : y < 2 ^ l) : x * y < 2 ^ (k + l) := by
  rw [Nat.pow_add]
  exact Nat.mul_lt_mul'' hx hy
theorem sz_small {k : Nat} (hk : k ≤ 1000) {x : Int} (h : x.natAbs < 2 ^ k) : Small x := Nat.lt_of_lt_of_le h (Nat.pow_le_pow_right (by decide) hk)
def spAdd (K : PySem.W.Frag) : Sp := fun vs H Q _ => ∃ (p q : Addr) (f g : Fr), vs = [.ref p, .ref q] ∧ SqT K H p (frV f) ∧ SqT K H q (frV g) ∧ 0 < f.2 ∧ 0 < g.2 ∧ Sz 800 f ∧ Sz 190 g ∧
  ∀ (H' : Hp) (p : Addr), Same H H' → H' p = some (.tup (frV (plus f g))) → Q (.ref p) H'
theorem plus_over {f g : Fr} (hf : 0 < f.2) (hg : 0 < g.2) : over (f.1 * (g.2 : Int) + g.1 * (f.2 : Int)) ((f.2 : Int) * (g.2 : Int)) = plus f g := by
  unfold over plus
  have : (0 : Int) < (f.2 : Int) * (g.2 : Int) := Int.mul_pos (by omega) (by omega)
  rw [if_neg (by omega)]
  congr 1
theorem scAdd : FnScope ["one", "other"] ["one", "other"] (defScope sAdd) := ⟨rfl, rfl, rfl, by decide +kernel, rfl, by decide +kernel, by decide +kernel⟩
theorem ok_add {f fr : Addr} {fd fdr : FuncData} (F : Fun K "add" "add" sAdd f fd) (kr : PySem.W.keepIn K (.ref fr) = true) (Gr : FnOk P w K mg base CX0 2 fr fdr ["above", "below"] spRatio) (mr : mg "ratio" = some (.ref fr)) (br : Binds K fdr ["above", "below"] []) :
    FnOk P w K mg base CX0 3 f fd ["one", "other"] (spAdd K) := by
  refine F.ok scAdd (fun vs H Q E h => ?_) (fun cdv A outer s H vs Q E hr h => ?_)
  · obtain ⟨p, q, f, g, rfl, _⟩ := h
    rfl
  · obtain ⟨p, q, f, g, rfl, hp, hq, hf, hg, zf, zg, k⟩ := h
    refine ⟨_, pss_one (ps_ret (pe_call Gr hr rfl mr kr br .nil pass0 (pa_cons (pe_op op_add
        (pe_op op_mulB (pe_ix ix_tup (pv 0) pe_int (fun _ _ => rfl)) (pe_ix ix_tup (pv 1) pe_int (fun _ _ => rfl)))
        (pe_op op_mulB (pe_ix ix_tup (pv 1) pe_int (fun _ _ => rfl)) (pe_ix ix_tup (pv 0) pe_int (fun _ _ => rfl))))
      (pa_cons (pe_op op_mulB (pe_ix ix_tup (pv 0) pe_int (fun _ _ => rfl)) (pe_ix ix_tup (pv 1) pe_int (fun _ _ => rfl))) pa_nil)))), ?_⟩
    have sf1 : Small f.1 := sz_small (by decide) zf.1
    have sg1 : Small g.1 := sz_small (by decide) zg.1
    have sf2 : Small (f.2 : Int) := sz_small (k := 800) (by decide) zf.2
    have sg2 : Small (g.2 : Int) := sz_small (k := 190) (by decide) zg.2
    have hpos : (0 : Int) < (f.2 : Int) * (g.2 : Int) := Int.mul_pos (by omega) (by omega)
    refine ⟨_, rfl, p, _, _, _, rfl, rfl, hp, fr0 f, _, rfl, q, _, _, _, rfl, rfl, hq, fr1 g, _, _, rfl, rfl, ⟨sf1, sg2⟩, ?_⟩
    refine ⟨_, rfl, q, _, _, _, rfl, rfl, hq, fr0 g, _, rfl, p, _, _, _, rfl, rfl, hp, fr1 f, _, _, rfl, rfl, ⟨sg1, sf2⟩, _, _, rfl, rfl, ?_⟩
    refine ⟨_, rfl, p, _, _, _, rfl, rfl, hp, fr1 f, _, rfl, q, _, _, _, rfl, rfl, hq, fr1 g, _, _, rfl, rfl, ⟨sf2, sg2⟩, ?_⟩
    refine ⟨_, _, rfl, by omega, ?_, fun H' r hs hr' => k H' r hs ?_⟩
    · refine sz_small (k := 800 + 190) (by decide) ?_
      rw [Int.natAbs_mul]
      exact pow_mul_lt zf.2 zg.2
    · rw [hr']
      have := plus_over hf hg
      exact congrArg (fun z => some (HO.tup (frV z))) this
def spTimes (K : PySem.W.Frag) : Sp := fun vs H Q _ => ∃ (n : Int) (q : Addr) (g : Fr), vs = [.int n, .ref q] ∧ SqT K H q (frV g) ∧ 0 < g.2 ∧ Small n ∧ Sz 490 g ∧
  ∀ (H' : Hp) (p : Addr), Same H H' → H' p = some (.tup (frV (low (g.1 * n) g.2))) → Q (.ref p) H'
theorem scTimes : FnScope ["number", "one"] ["number", "one"] (defScope sTimes) := ⟨rfl, rfl, rfl, by decide +kernel, rfl, by decide +kernel, by decide +kernel⟩
theorem ok_times {f fr : Addr} {fd fdr : FuncData} (F : Fun K "times" "times" sTimes f fd) (kr : PySem.W.keepIn K (.ref fr) = true) (Gr : FnOk P w K mg base CX0 2 fr fdr ["above", "below"] spRatio) (mr : mg "ratio" = some (.ref fr)) (br : Binds K fdr ["above", "below"] []) :
    FnOk P w K mg base CX0 3 f fd ["number", "one"] (spTimes K) := by
  refine F.ok scTimes (fun vs H Q E h => ?_) (fun cdv A outer s H vs Q E hr h => ?_)
  · obtain ⟨n, q, g, rfl, _⟩ := h
    rfl
  · obtain ⟨n, q, g, rfl, hq, hg, sn, zg, k⟩ := h
    refine ⟨_, pss_one (ps_ret (pe_call Gr hr rfl mr kr br .nil pass0 (pa_cons (pe_op op_mulB (pv 0) (pe_ix ix_tup (pv 1) pe_int (fun _ _ => rfl))) (pa_cons (pe_ix ix_tup (pv 1) pe_int (fun _ _ => rfl)) pa_nil)))), ?_⟩
    have sg1 : Small g.1 := sz_small (by decide) zg.1
    have sg2 : Small (g.2 : Int) := sz_small (k := 490) (by decide) zg.2
    refine ⟨_, rfl, _, rfl, q, _, _, _, rfl, rfl, hq, fr0 g, _, _, rfl, rfl, ⟨sn, sg1⟩, ?_⟩
    refine ⟨_, rfl, q, _, _, _, rfl, rfl, hq, fr1 g, _, _, rfl, by omega, sg2, fun H' r hs hr' => k H' r hs ?_⟩
    rw [hr']
    have : over (n * g.1) (g.2 : Int) = low (g.1 * n) g.2 := by
      unfold over
      rw [if_neg (by omega), Int.mul_comm]
      rfl
    exact congrArg (fun z => some (HO.tup (frV z))) this
def spLess (K : PySem.W.Frag) : Sp := fun vs H Q _ => ∃ (p q : Addr) (f g : Fr), vs = [.ref p, .ref q] ∧ SqT K H p (frV f) ∧ SqT K H q (frV g) ∧ Sz 990 f ∧ Sz 990 g ∧ Q (.bl (less f g)) H
theorem scLess : FnScope ["one", "other"] ["one", "other"] (defScope sLess) := ⟨rfl, rfl, rfl, by decide +kernel, rfl, by decide +kernel, by decide +kernel⟩
theorem ok_less {f : Addr} {fd : FuncData} (F : Fun K "is_less" "is_less" sLess f fd) : FnOk P w K mg base CX0 1 f fd ["one", "other"] (spLess K) := by
  refine F.ok scLess (fun vs H Q E h => ?_) (fun cdv A outer s H vs Q E hr h => ?_)
  · obtain ⟨p, q, f, g, rfl, _⟩ := h
    rfl
  · obtain ⟨p, q, f, g, rfl, hp, hq, zf, zg, k⟩ := h
    refine ⟨_, pss_one (ps_ret (pe_cmpR op_lt
        (pe_op op_mulB (pe_ix ix_tup (pv 0) pe_int (fun _ _ => rfl)) (pe_ix ix_tup (pv 1) pe_int (fun _ _ => rfl)))
        (pe_op op_mulB (pe_ix ix_tup (pv 1) pe_int (fun _ _ => rfl)) (pe_ix ix_tup (pv 0) pe_int (fun _ _ => rfl))) (nomark _))), ?_⟩
    have sf1 : Small f.1 := sz_small (by decide) zf.1
    have sg1 : Small g.1 := sz_small (by decide) zg.1
    have sf2 : Small (f.2 : Int) := sz_small (k := 990) (by decide) zf.2
    have sg2 : Small (g.2 : Int) := sz_small (k := 990) (by decide) zg.2
    refine ⟨_, rfl, p, _, _, _, rfl, rfl, hp, fr0 f, _, rfl, q, _, _, _, rfl, rfl, hq, fr1 g, _, _, rfl, rfl, ⟨sf1, sg2⟩, ?_⟩
    exact ⟨_, rfl, q, _, _, _, rfl, rfl, hq, fr0 g, _, rfl, p, _, _, _, rfl, rfl, hp, fr1 f, _, _, rfl, rfl, ⟨sg1, sf2⟩, _, _, rfl, rfl, k⟩
end
end DA
set_option Elab.async false
set_option maxRecDepth 100000
set_option maxHeartbeats 2000000
namespace DA
open PySem PySem.Spec PyProof.Rows L2
open Su109 (Fr low over plus less at_ choose)
abbrev sChoices : Stmt := top 7
/-! ### lists of lists of numbers, laid -/
structure Rows (H : Hp) (as : List Addr) (rows : List (List Int)) : Prop where
  len : as.length = rows.length
  at_ : ∀ (i : Nat) (a : Addr), as[i]? = some a → ∃ r, rows[i]? = some r ∧ H a = some (.lst (r.map V.int))
theorem Rows.nil {H : Hp} : Rows H [] [] := ⟨rfl, fun i a h => by simp at h⟩
theorem Rows.mono {H H' : Hp} {as : List Addr} {rows : List (List Int)} (R : Rows H as rows) (s : Same H H') : Rows H' as rows :=
  ⟨R.len, fun i a h => let ⟨r, h1, h2⟩ := R.at_ i a h; ⟨r, h1, s _ _ h2⟩⟩
theorem Rows.upd {H : Hp} {as : List Addr} {rows : List (List Int)} {p : Addr} {o : HO} (R : Rows H as rows) (n : p ∉ as) : Rows (upd H p o) as rows :=
  ⟨R.len, fun i a h => let ⟨r, h1, h2⟩ := R.at_ i a h; ⟨r, h1, by rw [upd_ne (fun (e : a = p) => n (e ▸ List.mem_of_getElem? h))]; exact h2⟩⟩
theorem Rows.append {H : Hp} {as bs : List Addr} {rows more : List (List Int)} (R : Rows H as rows) (S : Rows H bs more) : Rows H (as ++ bs) (rows ++ more) := by
  refine ⟨by rw [List.length_append, List.length_append, R.len, S.len], fun i a h => ?_⟩
  by_cases hi : i < as.length
  · rw [List.getElem?_append_left hi] at h
    obtain ⟨r, h1, h2⟩ := R.at_ i a h
    exact ⟨r, by rw [List.getElem?_append_left (by rw [← R.len]; exact hi)]; exact h1, h2⟩
  · rw [List.getElem?_append_right (by omega)] at h
    obtain ⟨r, h1, h2⟩ := S.at_ _ a h
    exact ⟨r, by rw [List.getElem?_append_right (by rw [← R.len]; omega), ← R.len]; exact h1, h2⟩
theorem Rows.one {H : Hp} {a : Addr} {r : List Int} (h : H a = some (.lst (r.map V.int))) : Rows H [a] [r] :=
  ⟨rfl, fun i b e => by
    match i, e with
    | 0, e =>
      have : a = b := Option.some.inj e
      subst this
      exact ⟨r, rfl, h⟩
    | i + 1, e => simp at e⟩
theorem Rows.not_mem {H : Hp} {as : List Addr} {rows : List (List Int)} (R : Rows H as rows) {p : Addr} (h : H p = none) : p ∉ as := fun m => by
  obtain ⟨i, hi⟩ := List.mem_iff_getElem?.mp m
  obtain ⟨r, _, h2⟩ := R.at_ i p hi
  rw [h] at h2
  cases h2
theorem same_over {H H' : Hp} {p : Addr} {o : HO} (s : Same H H') (h : H p = none) : Same H (upd H' p o) := fun b u e => by
  rw [upd_ne (ne_of_none e h)]; exact s b u e
/-! ### the choices -/
def startOf (ch : List Int) : Int := match ch.getLast? with
  | some x => x + 1
  | none => 0
def grow (n : Nat) (ch : List Int) : List (List Int) := (List.range ((n : Int) - startOf ch).toNat).map fun (i : Nat) => ch ++ [startOf ch + (i : Int)]
def layerN (n : Nat) : Nat → List (List Int)
  | 0 => [[]]
  | k + 1 => (layerN n k).flatMap (grow n)
def foundN (n k : Nat) : List (List Int) := (List.range k).flatMap fun j => layerN n (j + 1)
def choicesI (n : Nat) : List (List Int) := (choicesAll n).map fun s => s.map Int.ofNat
theorem found_all {n : Nat} (h : n ≤ 4) : foundN n n = choicesI n := by
  have : n = 0 ∨ n = 1 ∨ n = 2 ∨ n = 3 ∨ n = 4 := by omega
  rcases this with e | e | e | e | e <;> subst e <;> decide
theorem layer_len {n : Nat} (h : n ≤ 4) {k : Nat} (hk : k ≤ 4) : (layerN n k).length ≤ 6 := by
  have : n = 0 ∨ n = 1 ∨ n = 2 ∨ n = 3 ∨ n = 4 := by omega
  have : k = 0 ∨ k = 1 ∨ k = 2 ∨ k = 3 ∨ k = 4 := by omega
  rcases ‹n = 0 ∨ _› with e | e | e | e | e <;> subst e <;> rcases ‹k = 0 ∨ _› with e | e | e | e | e <;> subst e <;> decide
theorem layer_item {n : Nat} : ∀ {k : Nat} {ch : List Int}, ch ∈ layerN n k → ch.length = k
  | 0, ch, h => by simp [layerN] at h; subst h; rfl
  | k + 1, ch, h => by
    obtain ⟨c, hc, h2⟩ := List.mem_flatMap.mp h
    obtain ⟨i, _, rfl⟩ := List.mem_map.mp h2
    rw [List.length_append, layer_item hc]
    rfl
theorem start_snoc (ch : List Int) (x : Int) : startOf (ch ++ [x]) = x + 1 := by
  unfold startOf
  rw [List.getLast?_append]
  rfl
theorem layer_start {n : Nat} : ∀ {k : Nat} {ch : List Int}, ch ∈ layerN n k → 0 ≤ startOf ch ∧ startOf ch ≤ n
  | 0, ch, h => by
    simp [layerN] at h
    subst h
    exact ⟨by decide, by show (0 : Int) ≤ n; omega⟩
  | k + 1, ch, h => by
    obtain ⟨c, hc, h2⟩ := List.mem_flatMap.mp h
    obtain ⟨i, hi, rfl⟩ := List.mem_map.mp h2
    have ih := layer_start hc
    rw [List.mem_range] at hi
    rw [start_snoc]
    omega
theorem found_len {n : Nat} (h : n ≤ 4) {k : Nat} (hk : k ≤ 4) : (foundN n k).length ≤ 15 := by
  have : n = 0 ∨ n = 1 ∨ n = 2 ∨ n = 3 ∨ n = 4 := by omega
  have : k = 0 ∨ k = 1 ∨ k = 2 ∨ k = 3 ∨ k = 4 := by omega
  rcases ‹n = 0 ∨ _› with e | e | e | e | e <;> subst e <;> rcases ‹k = 0 ∨ _› with e | e | e | e | e <;> subst e <;> decide
theorem found_succ (n k : Nat) : foundN n (k + 1) = foundN n k ++ layerN n (k + 1) := by
  unfold foundN
  rw [List.range_succ, List.flatMap_append]
  simp
theorem take_snoc {α : Type} : ∀ {l : List α} {i : Nat} {x : α}, l[i]? = some x → l.take (i + 1) = l.take i ++ [x]
  | [], i, x, h => by simp at h
  | a :: l, 0, x, h => by
    have e : a = x := Option.some.inj h
    subst e
    rfl
  | a :: l, i + 1, x, h => by
    have ih := take_snoc (l := l) (i := i) (x := x) h
    show a :: l.take (i + 1) = a :: l.take i ++ [x]
    rw [ih]
    rfl
theorem flat_take_len {α β : Type} (f : α → List β) : ∀ (l : List α) (i : Nat), ((l.take i).flatMap f).length ≤ (l.flatMap f).length
  | [], i => by simp
  | a :: l, 0 => by simp
  | a :: l, i + 1 => by
    have := flat_take_len f l i
    simp only [List.take_succ_cons, List.flatMap_cons, List.length_append]
    omega
theorem line_big : 1000 ≤ sizeLine := by rw [sizeLine_eq]; decide
def spChoices : Sp := fun vs H Q _ => ∃ n : Nat, vs = [.int (n : Int)] ∧ n ≤ 4 ∧ ∀ (H' : Hp) (p : Addr) (as : List Addr), Same H H' → H' p = some (.lst (as.map V.ref)) → Rows H' as (choicesI n) → H p = none → (∀ a, a ∈ as → H a = none) → Q (.ref p) H'
theorem map_ref {as : List Addr} {i : Nat} {y : V} (h : (as.map V.ref)[i]? = some y) : ∃ a, as[i]? = some a ∧ y = .ref a := by
  rw [List.getElem?_map] at h
  cases e : as[i]? with
  | none => rw [e] at h; cases h
  | some a => rw [e] at h; exact ⟨a, rfl, (Option.some.inj h).symm⟩
theorem start_read {K : PySem.W.Frag} {σ : L2.St} {H : Hp} {Q : VK} {i : Nat} {c : Addr} {ch : List Int} (h3 : σ[3]? = some (some (.int (0 + (i : Int))))) (h5 : σ[5]? = some (some (.ref c))) (hc : H c = some (.lst (ch.map V.int))) (hl : ch.length = i) (q : Q (.int (startOf ch)) H) :
    tIf (tTest (tOp (rI0 fun i j => .bl (decide (j < i))) (tVar 3) (tC (.int 0)))) (tOp (rI0 fun i j => .int (i + j)) (tOp (rIxL K) (tVar 5) (tUn (rU fun i => .int (-i)) (tC (.int 1)))) (tC (.int 1))) (tC (.int 0)) σ H Q := by
  refine ⟨_, h3, _, _, rfl, rfl, _, rfl, ?_⟩
  refine ite2 (fun hd => ?_) (fun hd => ?_)
  · have hi : 0 < 0 + (i : Int) := of_decide_eq_true hd
    obtain ⟨pre, x, rfl⟩ : ∃ p x, ch = p ++ [x] := by
      have hne : ch ≠ [] := by intro h; subst h; simp at hl; omega
      exact ⟨ch.dropLast, ch.getLast hne, (List.dropLast_concat_getLast hne).symm⟩
    refine ⟨_, h5, _, rfl, c, _, _, .int x, rfl, rfl, SqL.of hc, ?_, x, 1, rfl, rfl, ?_⟩
    · rw [List.map_append]
      exact atI_last _ _
    · rw [start_snoc] at q
      exact q
  · have hi : i = 0 := by
      have : ¬ 0 < 0 + (i : Int) := fun h => hd (decide_eq_true h)
      omega
    subst hi
    have : ch = [] := List.length_eq_zero_iff.mp hl
    subst this
    exact q
section
variable {P : Program} {w : World} {K : PySem.W.Frag} {mg : Str → Option Value} {base : Heap}
theorem scChoices : FnScope ["count", "found", "layer", "size", "longer", "chosen", "start", "number"] ["count"] (defScope sChoices) := ⟨rfl, rfl, rfl, by decide +kernel, rfl, by decide +kernel, by decide +kernel⟩
theorem ok_choices {f : Addr} {fd : FuncData} (F : Fun K "choices" "choices" sChoices f fd) (hrg : mg "range" = none) : FnOk P w K mg base CX0 1 f fd ["count"] spChoices := by
  refine F.ok scChoices (fun vs H Q E h => ?_) (fun cdv A outer s H vs Q E hr h => ?_)
  · obtain ⟨n, rfl, _⟩ := h
    rfl
  · obtain ⟨n, rfl, hn, k⟩ := h
    refine ⟨_, pss_cons (ps_set (i := 1) scChoices.nd rfl (Or.inl rfl) (pe_lst pa_nil))
      (pss_cons (ps_set (i := 2) scChoices.nd rfl (Or.inl rfl) (pe_lst (pa_cons (pe_lst pa_nil) pa_nil)))
      (pss_cons (ps_for PassesOwn.never rfl (pi_range1 rfl hrg (pa_cons (pv 0) pa_nil)) (pg_name (i := 3) scChoices.nd rfl (Or.inl rfl))
        (pss_cons (ps_set (i := 4) scChoices.nd rfl (Or.inl rfl) (pe_lst pa_nil))
        (pss_cons (ps_for PassesOwn.never rfl (pi_list (pv 2)) (pg_name (i := 5) scChoices.nd rfl (Or.inl rfl))
          (pss_cons (ps_set (i := 6) scChoices.nd rfl (Or.inl rfl) (pe_ifExp (pt_cmpR op_gt (pv 3) pe_int (nomark _)) (pe_op op_add (pe_ix ix_list (pv 5) (pe_un un_neg pe_int) (fun _ _ => rfl)) pe_int) pe_int))
          (pss_one (ps_for PassesOwn.never rfl (pi_range2 rfl hrg (pa_cons (pv 6) (pa_cons (pv 0) pa_nil))) (pg_name (i := 7) scChoices.nd rfl (Or.inl rfl))
            (pss_one (ps_expr (pe_bm PySem.F.plainAttrs_list PySem.F.slot_list_append PySem.F.type_list_append mt_append (pv 4) (pa_cons (pe_op op_cat (pv 5) (pe_lst (pa_cons (pv 7) pa_nil))) pa_nil))))))))
        (pss_cons (ps_expr (pe_bm PySem.F.plainAttrs_list PySem.F.slot_list_extend PySem.F.type_list_extend mt_extend (pv 1) (pa_cons (pv 4) pa_nil)))
        (pss_one (ps_set (i := 2) scChoices.nd rfl (Or.inl rfl) (pv 4)))))))
      (pss_one (ps_ret (pv 1))))), ?_⟩
    have big := line_big
    refine ⟨Nat.zero_le _, fun fo hfo => ?_⟩
    refine ⟨Nat.zero_le _, fun e0 he0 => ⟨(by show 1 ≤ sizeLine; omega), fun la hla => ?_⟩⟩
    have f0 : (upd H fo (.lst [])) fo = some (.lst []) := upd_same
    have n1 : fo ≠ e0 := ne_of_none f0 he0
    have n2 : fo ≠ la := ne_of_none (by rw [upd_ne n1]; exact f0 : (upd (upd H fo (.lst [])) e0 (.lst [])) fo = some (.lst [])) hla
    have n3 : e0 ≠ la := ne_of_none (upd_same : (upd (upd H fo (.lst [])) e0 (.lst [])) e0 = some (.lst [])) hla
    refine ⟨_, rfl, (n : Int), rfl, by omega, by omega, ?_⟩
    refine for_range (lo := 0) (n := (n : Int).toNat) (fun i σ H' => ∃ (la : Addr) (asF asL : List Addr) (v3 v4 v5 v6 v7 : Option V), σ = [some (.int (n : Int)), some (.ref fo), some (.ref la), v3, v4, v5, v6, v7] ∧ Same H H' ∧
      H' fo = some (.lst (asF.map V.ref)) ∧ Rows H' asF (foundN n i) ∧ H' la = some (.lst (asL.map V.ref)) ∧ Rows H' asL (layerN n i) ∧ fo ≠ la ∧ fo ∉ asF ∧ fo ∉ asL ∧ ∀ a, a ∈ asF → H a = none) ?_ ?_ ?_
    · refine ⟨la, [], [e0], none, none, none, none, none, rfl, ?_, ?_, Rows.nil, upd_same, ?_, n2, by simp, by simp [n1], by simp⟩
      · exact same_over (same_over (same_upd hfo) (by have := he0; rw [upd_ne (fun e => n1 e.symm)] at this; exact this)) (by
          have := hla
          rw [upd_ne (fun e => n3 e.symm), upd_ne (fun e => n2 e.symm)] at this
          exact this)
      · rw [upd_ne n2, upd_ne n1, upd_same]
        rfl
      · exact Rows.one (r := []) (by rw [upd_ne n3, upd_same]; rfl)
    · rintro i σ H1 hi ⟨la, asF, asL, v3, v4, v5, v6, v7, rfl, s1, hF, RF, hL, RL, nfl, nF, nL, frF⟩
      have hin : i < n := by omega
      -- longer = []
      refine ⟨Nat.zero_le _, fun lo hlo => ?_⟩
      have lofo : lo ≠ fo := fun e => by rw [e, hF] at hlo; cases hlo
      have lola : lo ≠ la := fun e => by rw [e, hL] at hlo; cases hlo
      have loF := RF.not_mem hlo
      have loL := RL.not_mem hlo
      have loH : H lo = none := s1.free hlo
      refine ⟨_, rfl, la, rfl, ⟨_, SqL.of (by rw [upd_ne (fun e => lola e.symm)]; exact hL)⟩, ?_⟩
      refine for_list (K := K) (a := la) (xs := asL.map V.ref) (fun j σ H' => ∃ (asN : List Addr) (v5 v6 v7 : Option V), σ = [some (.int (n : Int)), some (.ref fo), some (.ref la), some (.int (0 + (i : Int))), some (.ref lo), v5, v6, v7] ∧ Same H H' ∧
        H' fo = some (.lst (asF.map V.ref)) ∧ Rows H' asF (foundN n i) ∧ H' la = some (.lst (asL.map V.ref)) ∧ Rows H' asL (layerN n i) ∧ H' lo = some (.lst (asN.map V.ref)) ∧ Rows H' asN (((layerN n i).take j).flatMap (grow n)) ∧ fo ∉ asN ∧ lo ∉ asN ∧ ∀ a, a ∈ asN → H a = none) ?_ ?_ ?_ ?_
      · refine ⟨[], v5, v6, v7, rfl, same_over s1 loH, ?_, RF.upd loF, ?_, RL.upd loL, upd_same, Rows.nil, by simp, by simp, by simp⟩
        · rw [upd_ne (fun e => lofo e.symm)]; exact hF
        · rw [upd_ne (fun e => lola e.symm)]; exact hL
      · rintro j σ H' _ ⟨_, _, _, _, _, _, _, _, h5, _⟩
        exact SqL.of h5
      · rintro j y σ H2 hj ⟨asN, v5, v6, v7, rfl, s2, hF2, RF2, hL2, RL2, hN2, RN2, nfN, nlN, frN⟩
        obtain ⟨c, hc, rfl⟩ := map_ref hj
        obtain ⟨ch, hch, hcc⟩ := RL2.at_ j c hc
        have chl : ch.length = i := layer_item (List.mem_of_getElem? hch)
        obtain ⟨st0, st1⟩ := layer_start (List.mem_of_getElem? hch)
        refine start_read (i := i) (c := c) rfl rfl hcc chl ?_
        refine ⟨_, rfl, _, rfl, _, _, rfl, ⟨by omega, by omega, by omega, by omega⟩, ?_⟩
        have tk : ((layerN n i).take (j + 1)).flatMap (grow n) = ((layerN n i).take j).flatMap (grow n) ++ grow n ch := by
          rw [take_snoc hch, List.flatMap_append]
          simp
        have gl : (grow n ch).length = ((n : Int) - startOf ch).toNat := by simp [grow]
        refine for_range (lo := startOf ch) (n := ((n : Int) - startOf ch).toNat) (fun m σ H' => ∃ (asM : List Addr) (v7 : Option V), σ = [some (.int (n : Int)), some (.ref fo), some (.ref la), some (.int (0 + (i : Int))), some (.ref lo), some (.ref c), some (.int (startOf ch)), v7] ∧ Same H H' ∧
          H' fo = some (.lst (asF.map V.ref)) ∧ Rows H' asF (foundN n i) ∧ H' la = some (.lst (asL.map V.ref)) ∧ Rows H' asL (layerN n i) ∧ H' lo = some (.lst (asM.map V.ref)) ∧ Rows H' asM (((layerN n i).take j).flatMap (grow n) ++ (grow n ch).take m) ∧ fo ∉ asM ∧ lo ∉ asM ∧ ∀ a, a ∈ asM → H a = none) ?_ ?_ ?_
        · exact ⟨asN, v7, rfl, s2, hF2, RF2, hL2, RL2, hN2, by simpa using RN2, nfN, nlN, frN⟩
        · rintro m σ H3 hm ⟨asM, v7, rfl, s3, hF3, RF3, hL3, RL3, hM3, RM3, nfM, nlM, frM⟩
          have gm : (grow n ch)[m]? = some (ch ++ [startOf ch + (m : Int)]) := by
            unfold grow
            rw [List.getElem?_map, List.getElem?_range hm]
            rfl
          obtain ⟨ch', hch', hcc'⟩ := RL3.at_ j c hc
          have : ch' = ch := Option.some.inj (hch'.symm.trans hch)
          subst this
          have ml : (((layerN n i).take j).flatMap (grow n) ++ (grow n ch').take m).length ≤ 6 := by
            have h1 := layer_len hn (show i + 1 ≤ 4 by omega)
            have h2 := flat_take_len (grow n) (layerN n i) (j + 1)
            rw [tk, List.length_append] at h2
            have h3 : (layerN n (i + 1)).length = ((layerN n i).flatMap (grow n)).length := rfl
            rw [List.length_append, List.length_take]
            omega
          have al : asM.length ≤ 6 := by rw [RM3.len]; exact ml
          refine ⟨_, rfl, .inl ⟨rfl, _, SqL.of hM3⟩, _, rfl, _, rfl, (by show 1 ≤ sizeLine; omega), fun t ht => ?_⟩
          have tc : c ≠ t := ne_of_none hcc' ht
          refine ⟨c, t, _, _, rfl, rfl, (by rw [upd_ne tc]; exact hcc'), upd_same, ?_, fun u hu => ?_⟩
          · rw [List.length_map, chl]
            show i + 1 ≤ sizeLine
            omega
          have ht' : ∀ b o, H3 b = some o → (upd H3 t (.lst [V.int (startOf ch' + (m : Int))])) b = some o := fun b o e => by rw [upd_ne (ne_of_none e ht)]; exact e
          have sA : Same H3 (upd (upd H3 t (.lst [V.int (startOf ch' + (m : Int))])) u (.lst (ch'.map V.int ++ [V.int (startOf ch' + (m : Int))]))) := fun b o e => by
            rw [upd_ne (ne_of_none (ht' b o e) hu)]; exact ht' b o e
          have ufo : fo ≠ u := ne_of_none (ht' _ _ hF3) hu
          have ula : la ≠ u := ne_of_none (ht' _ _ hL3) hu
          have ulo : lo ≠ u := ne_of_none (ht' _ _ hM3) hu
          refine ⟨lo, _, _, rfl, rfl, sA _ _ hM3, (by rw [List.length_map]; omega), ?_⟩
          refine ⟨asM ++ [u], _, rfl, same_over (s3.trans sA) loH, ?_, (RF3.mono sA).upd ?_, ?_, (RL3.mono sA).upd ?_, ?_, ?_, ?_, ?_, ?_⟩
          · rw [upd_ne (fun e => lofo e.symm)]; exact sA _ _ hF3
          · exact loF
          · rw [upd_ne (fun e => lola e.symm)]; exact sA _ _ hL3
          · exact loL
          · rw [upd_same, List.map_append]
            rfl
          · rw [take_snoc gm, ← List.append_assoc]
            refine Rows.append ((RM3.mono sA).upd nlM) (Rows.one ?_)
            rw [upd_ne (fun e => ulo e.symm), upd_same, List.map_append]
            rfl
          · simp [nfM, ufo]
          · simp [nlM, ulo]
          · intro b hb
            rcases List.mem_append.mp hb with h | h
            · exact frM b h
            · rw [List.mem_singleton.mp h]
              exact Same.free (s3.trans ht') hu
        · rintro σ H3 ⟨asM, v7, rfl, s3, hF3, RF3, hL3, RL3, hM3, RM3, nfM, nlM, frM⟩
          refine ⟨asM, _, _, _, rfl, s3, hF3, RF3, hL3, RL3, hM3, ?_, nfM, nlM, frM⟩
          rw [← gl, List.take_length, ← tk] at RM3
          exact RM3
      · rintro σ H2 ⟨asN, v5, v6, v7, rfl, s2, hF2, RF2, hL2, RL2, hN2, RN2, nfN, nlN, frN⟩
        have e : asL.length = (layerN n i).length := RL2.len
        rw [List.length_map, e, List.take_length] at RN2
        have hl1 := found_len hn (show i + 1 ≤ 4 by omega)
        rw [found_succ, List.length_append] at hl1
        have RN3 : Rows H2 asN (layerN n (i + 1)) := RN2
        refine ⟨_, rfl, .inl ⟨rfl, _, SqL.of hF2⟩, _, rfl, fo, lo, _, _, rfl, rfl, hF2, hN2, ?_, ?_⟩
        · rw [List.length_map, List.length_map, RF2.len, RN3.len]
          omega
        refine ⟨_, rfl, lo, asF ++ asN, asN, _, _, _, _, _, rfl, same_over s2 hfo, ?_, ?_, ?_, RN3.upd nfN, fun e => lofo e.symm, ?_, nfN, ?_⟩
        · rw [upd_same, List.map_append]
        · rw [found_succ]
          exact Rows.append (RF2.upd nF) (RN3.upd nfN)
        · rw [upd_ne lofo]; exact hN2
        · simp [nF, nfN]
        · intro b hb
          rcases List.mem_append.mp hb with h | h
          · exact frF b h
          · exact frN b h
    · rintro σ H1 ⟨la, asF, asL, v3, v4, v5, v6, v7, rfl, s1, hF, RF, hL, RL, nfl, nF, nL, frF⟩
      refine ⟨_, rfl, k _ fo asF s1 hF ?_ hfo frF⟩
      have : (n : Int).toNat = n := by omega
      rw [this, found_all hn] at RF
      exact RF
end
end DA
set_option Elab.async false
set_option maxRecDepth 100000
set_option maxHeartbeats 2000000
namespace DA
open PySem PySem.Spec PyProof.Rows L2
open Su109 (Fr low over plus less at_ choose)
abbrev sPivot : Stmt := top 8
abbrev sCleared : Stmt := top 9
/-! ### loops over enumerate and zip, a comprehension over zip -/
theorem for_enum {K : PySem.W.Frag} {a : Addr} {xs : List V} {g : TG} {tb : TS} {D : Ends} {σ : L2.St} {H : Hp} (Pv : Nat → L2.St → Hp → Prop) (h0 : Pv 0 σ H) (hl : ∀ i σ H, i ≤ xs.length → Pv i σ H → SqL K H a xs)
    (hs : ∀ i x σ H T, xs[i]? = some x → Pv i σ H → H T = none → g (.ref T) σ (upd H T (.tup [.int (i : Nat), x])) fun σ2 H2 => tb { D with nx := Pv (i + 1), ct := Pv (i + 1), bk := D.nx } σ2 H2) (hd : ∀ σ H, Pv xs.length σ H → D.nx σ H) :
    ∃ W : Nat → Nat → L2.St → Hp → Prop, (∃ m, W 0 m σ H) ∧ ∀ i m σ H, W i m σ H →
      ((Ite K a).stop i H ∧ D.nx σ H) ∨ ((Ite K a).go i H ∧ ∃ N : L2.St → Hp → Prop, (∀ σ' H', N σ' H' → ∃ m', m' < m ∧ W (i + 1) m' σ' H') ∧ ∀ x H', (Ite K a).yld i H x H' → g x σ H' fun σ2 H2 => tb { D with nx := N, ct := N, bk := D.nx } σ2 H2) := by
  refine ⟨fun i m σ H => m = xs.length - i ∧ i ≤ xs.length ∧ Pv i σ H, ⟨xs.length, by simp, Nat.zero_le _, h0⟩, ?_⟩
  rintro i m σ H ⟨rfl, hi, p⟩
  have q := hl i σ H hi p
  by_cases hlt : i < xs.length
  · refine .inr ⟨⟨xs, xs[i], q, by simp [hlt]⟩, Pv (i + 1), fun σ' H' p' => ⟨xs.length - (i + 1), by omega, rfl, hlt, p'⟩, fun x H' y => ?_⟩
    obtain ⟨T, x', rfl, hT, rfl, y⟩ := y
    exact hs i x' σ _ T (y xs q) p hT
  · have e : i = xs.length := by omega
    subst e
    exact .inl ⟨⟨xs, q, Nat.le_refl _⟩, hd σ H p⟩
theorem for_zip {K : PySem.W.Frag} {a b : Addr} {xs ys : List V} {g : TG} {tb : TS} {D : Ends} {σ : L2.St} {H : Hp} (hxy : xs.length = ys.length) (Pv : Nat → L2.St → Hp → Prop) (h0 : Pv 0 σ H) (hl : ∀ i σ H, i ≤ xs.length → Pv i σ H → SqL K H a xs ∧ SqL K H b ys)
    (hs : ∀ i x y σ H T, xs[i]? = some x → ys[i]? = some y → Pv i σ H → H T = none → g (.ref T) σ (upd H T (.tup [x, y])) fun σ2 H2 => tb { D with nx := Pv (i + 1), ct := Pv (i + 1), bk := D.nx } σ2 H2) (hd : ∀ σ H, Pv xs.length σ H → D.nx σ H) :
    ∃ W : Nat → Nat → L2.St → Hp → Prop, (∃ m, W 0 m σ H) ∧ ∀ i m σ H, W i m σ H →
      ((Itz K a b).stop i H ∧ D.nx σ H) ∨ ((Itz K a b).go i H ∧ ∃ N : L2.St → Hp → Prop, (∀ σ' H', N σ' H' → ∃ m', m' < m ∧ W (i + 1) m' σ' H') ∧ ∀ x H', (Itz K a b).yld i H x H' → g x σ H' fun σ2 H2 => tb { D with nx := N, ct := N, bk := D.nx } σ2 H2) := by
  refine ⟨fun i m σ H => m = xs.length - i ∧ i ≤ xs.length ∧ Pv i σ H, ⟨xs.length, by simp, Nat.zero_le _, h0⟩, ?_⟩
  rintro i m σ H ⟨rfl, hi, p⟩
  obtain ⟨q, q2⟩ := hl i σ H hi p
  by_cases hlt : i < xs.length
  · refine .inr ⟨⟨xs, ys, xs[i], ys[i], q, q2, by simp [hlt], by simp [show i < ys.length by omega]⟩, Pv (i + 1), fun σ' H' p' => ⟨xs.length - (i + 1), by omega, rfl, hlt, p'⟩, fun x H' y => ?_⟩
    obtain ⟨T, x', y', rfl, hT, rfl, y1, y2⟩ := y
    exact hs i x' y' σ _ T (y1 xs q) (y2 ys q2) p hT
  · have e : i = xs.length := by omega
    subst e
    exact .inl ⟨⟨xs, ys, q, q2, .inl (Nat.le_refl _)⟩, hd σ H p⟩
theorem lc_zip {K : PySem.W.Frag} {a b : Addr} {xs ys : List V} {g : TG} {tt : TT} {te : TE} {vs : List Nat} {σ : L2.St} {H1 : Hp} {D : Addr} {Qd : Hp → Prop} (hxy : xs.length = ys.length) (Pv : Nat → Hp → Prop) (h0 : Pv 0 (upd H1 D (.lst []))) (hl : ∀ i H, i ≤ xs.length → Pv i H → SqL K H a xs ∧ SqL K H b ys)
    (hs : ∀ i x y H T, xs[i]? = some x → ys[i]? = some y → Pv i H → H T = none → g (.ref T) (wipe σ vs) (upd H T (.tup [x, y])) fun σ2 H2 => wipe σ2 vs = wipe σ vs ∧ tt σ2 H2 fun b H3 =>
      if b = true then te σ2 H3 fun y H4 => ∃ acc, H4 D = some (.lst acc) ∧ acc.length < sizeLine ∧ Pv (i + 1) (upd H4 D (.lst (acc ++ [y]))) else Pv (i + 1) H3) (hd : ∀ H, Pv xs.length H → Qd H) :
    ∃ W : Nat → Nat → Hp → Prop, (∃ m, W 0 m (upd H1 D (.lst []))) ∧ ∀ i m H, W i m H →
      ((Itz K a b).stop i H ∧ Qd H) ∨ ((Itz K a b).go i H ∧ ∃ Nx : Hp → Prop, (∀ H', Nx H' → ∃ m', m' < m ∧ W (i + 1) m' H') ∧ ∀ x H', (Itz K a b).yld i H x H' → g x (wipe σ vs) H' fun σ2 H2 => wipe σ2 vs = wipe σ vs ∧ tt σ2 H2 fun b H3 =>
        if b = true then te σ2 H3 fun y H4 => ∃ acc, H4 D = some (.lst acc) ∧ acc.length < sizeLine ∧ Nx (upd H4 D (.lst (acc ++ [y]))) else Nx H3) := by
  refine ⟨fun i m H => m = xs.length - i ∧ i ≤ xs.length ∧ Pv i H, ⟨xs.length, by simp, Nat.zero_le _, h0⟩, ?_⟩
  rintro i m H ⟨rfl, hi, p⟩
  obtain ⟨q, q2⟩ := hl i H hi p
  by_cases hlt : i < xs.length
  · refine .inr ⟨⟨xs, ys, xs[i], ys[i], q, q2, by simp [hlt], by simp [show i < ys.length by omega]⟩, Pv (i + 1), fun H' p' => ⟨xs.length - (i + 1), by omega, rfl, hlt, p'⟩, fun x H' y => ?_⟩
    obtain ⟨T, x', y', rfl, hT, rfl, y1, y2⟩ := y
    exact hs i x' y' _ T (y1 xs q) (y2 ys q2) p hT
  · have e : i = xs.length := by omega
    subst e
    exact .inl ⟨⟨xs, ys, q, q2, .inl (Nat.le_refl _)⟩, hd H p⟩
/-! ### tests of numbers -/
theorem ite_ne {x y : Int} {A B : Prop} (h1 : x ≠ y → A) (h2 : x = y → B) : if (!decide (V.int x = V.int y)) = true then A else B := by
  by_cases h : x = y
  · subst h
    rw [if_neg (by simp)]
    exact h2 rfl
  · rw [if_pos (by simp [h])]
    exact h1 h
theorem ite_eq {x y : Int} {A B : Prop} (h1 : x = y → A) (h2 : x ≠ y → B) : if decide (V.int x = V.int y) = true then A else B := by
  by_cases h : x = y
  · subst h
    rw [if_pos (by simp)]
    exact h1 rfl
  · rw [if_neg (by simp [h])]
    exact h2 h
/-! ### pivot_row -/
theorem pivot_is {rows : List (List Int)} {c f : Nat} (h1 : c ≤ f) (h2 : f < rows.length) (h3 : cell rows f c ≠ 0) (h4 : ∀ i, c ≤ i → i < f → cell rows i c = 0) : pivot rows c = some f := by
  unfold pivot
  rw [List.find?_range'_eq_some]
  refine ⟨by simpa using h3, by rw [List.mem_range'_1]; omega, fun j hj1 hj2 => ?_⟩
  simp [h4 j hj1 hj2]
theorem pivot_no {rows : List (List Int)} {c : Nat} (h : ∀ i, c ≤ i → i < rows.length → cell rows i c = 0) : pivot rows c = none := by
  unfold pivot
  rw [List.find?_eq_none]
  intro i hi
  rw [List.mem_range'_1] at hi
  simp [h i hi.1 (by omega)]
theorem Rows.row {H : Hp} {as : List Addr} {rows : List (List Int)} (R : Rows H as rows) {i : Nat} (hi : i < rows.length) : ∃ a, as[i]? = some a ∧ H a = some (.lst ((rows.getD i []).map V.int)) := by
  have h : i < as.length := by rw [R.len]; exact hi
  refine ⟨as[i], List.getElem?_eq_getElem h, ?_⟩
  obtain ⟨r, h1, h2⟩ := R.at_ i as[i] (List.getElem?_eq_getElem h)
  have : rows.getD i [] = r := by
    rw [getD_lt hi]
    rw [List.getElem?_eq_getElem hi] at h1
    exact Option.some.inj h1
  rw [this]
  exact h2
theorem ref_at {as : List Addr} {i : Nat} {a : Addr} (h : as[i]? = some a) : (as.map V.ref)[i]? = some (.ref a) := by rw [List.getElem?_map, h]; rfl
theorem int_at {r : List Int} {j : Nat} (h : j < r.length) : (r.map V.int)[j]? = some (.int (at_ r j)) := by
  unfold at_
  rw [List.getElem?_map, List.getElem?_eq_getElem h, getD_lt h]
  rfl
def vOpt : Option Nat → V
  | none => .non
  | some f => .int (f : Int)
def spPivot : Sp := fun vs H Q _ => ∃ (p : Addr) (as : List Addr) (rows : List (List Int)) (c : Nat), vs = [.ref p, .int (c : Int)] ∧ H p = some (.lst (as.map V.ref)) ∧ Rows H as rows ∧ c < 100 ∧ rows.length < 100 ∧ (∀ i, i < rows.length → c < (rows.getD i []).length) ∧
  Q (vOpt (pivot rows c)) H
section
variable {P : Program} {w : World} {K : PySem.W.Frag} {mg : Str → Option Value} {base : Heap}
theorem scPivot : FnScope ["rows", "column", "number"] ["rows", "column"] (defScope sPivot) := ⟨rfl, rfl, rfl, by decide +kernel, rfl, by decide +kernel, by decide +kernel⟩
theorem ok_pivot {f : Addr} {fd : FuncData} (F : Fun K "pivot_row" "pivot_row" sPivot f fd) (hrg : mg "range" = none) (hln : mg "len" = none) : FnOk P w K mg base CX0 1 f fd ["rows", "column"] spPivot := by
  refine F.ok scPivot (fun vs H Q E h => ?_) (fun cdv A outer s H vs Q E hr h => ?_)
  · obtain ⟨p, as, rows, c, rfl, _⟩ := h
    rfl
  · obtain ⟨p, as, rows, c, rfl, hp, R, hc, hl, hw, k⟩ := h
    refine ⟨_, pss_cons (ps_for PassesOwn.never rfl (pi_range2 rfl hrg (pa_cons (pv 1) (pa_cons (pe_callB call_len_seq (by rfl) hln PySem.boot_len (pa_cons (pv 0) pa_nil)) pa_nil))) (pg_name (i := 2) scPivot.nd rfl (Or.inl rfl))
        (pss_one (ps_if (pt_cmpR op_ne (pe_ix ix_list (pe_ix ix_list (pv 0) (pv 2) (fun _ _ => rfl)) (pv 1) (fun _ _ => rfl)) pe_int (nomark _)) (pss_one (ps_ret (pv 2))) pss_nil)))
      (pss_one (ps_ret pe_non)), ?_⟩
    have al : (as.map V.ref).length = rows.length := by rw [List.length_map, R.len]
    refine ⟨_, rfl, _, rfl, p, _, rfl, .inl (SqL.of hp), (c : Int), _, rfl, ⟨by omega, by omega, by omega, by omega⟩, ?_⟩
    refine for_range (lo := (c : Int)) (fun m σ H' => H' = H ∧ ∃ v : Option V, σ = [some (.ref p), some (.int (c : Int)), v] ∧ ∀ i, c ≤ i → i < c + m → cell rows i c = 0) ?_ ?_ ?_
    · exact ⟨rfl, none, rfl, fun i h1 h2 => by omega⟩
    · rintro m σ H' hm ⟨rfl, v, rfl, hz⟩
      have hi : c + m < rows.length := by rw [al] at hm; omega
      obtain ⟨a, ha, hA⟩ := R.row hi
      refine ⟨_, rfl, _, rfl, p, _, _, _, rfl, rfl, SqL.of hp, at_of (j := c + m) (by omega) (ref_at ha), _, rfl, a, _, _, _, rfl, rfl, SqL.of hA, at_of (j := c) rfl (int_at (hw _ hi)), rfl, _, rfl, ?_⟩
      refine ite_ne (fun hne => ?_) (fun he => ?_)
      · refine ⟨_, rfl, ?_⟩
        have := pivot_is (rows := rows) (c := c) (f := c + m) (by omega) hi hne hz
        rw [this] at k
        have e : ((c + m : Nat) : Int) = (c : Int) + (m : Int) := by omega
        unfold vOpt at k
        simp only [e] at k
        exact k
      · refine ⟨rfl, _, rfl, fun i h1 h2 => ?_⟩
        by_cases e : i = c + m
        · subst e; exact he
        · exact hz i h1 (by omega)
    · rintro σ H' ⟨rfl, v, rfl, hz⟩
      have : pivot rows c = none := pivot_no (fun i h1 h2 => hz i h1 (by rw [al]; omega))
      rw [this] at k
      exact k
end
end DA
set_option Elab.async false
set_option maxRecDepth 100000
set_option maxHeartbeats 2000000
namespace DA
open PySem PySem.Spec PyProof.Rows L2
open Su109 (Fr low over plus less at_ choose)
/-- every number of the rows is small -/
def Bd (k : Nat) (rows : List (List Int)) : Prop := ∀ i j, (cell rows i j).natAbs < 2 ^ k
theorem Bd.small {k : Nat} {rows : List (List Int)} (h : Bd k rows) (hk : k ≤ 1000) (i j : Nat) : Small (cell rows i j) := sz_small hk (h i j)
theorem cleared_at {rows : List (List Int)} {c i : Nat} (hi : i < rows.length) : (cleared rows c)[i]? = some (if i = c then rows.getD c [] else clearRow (cell rows c c) (cell rows i c) (rows.getD i []) (rows.getD c [])) := by
  rw [← cleared_row hi, getD_lt (by rw [cleared_length]; exact hi)]
  exact List.getElem?_eq_getElem (by rw [cleared_length]; exact hi)
theorem clearRow_get {p r : Int} {row kept : List Int} (hl : row.length = kept.length) {j : Nat} (hj : j < row.length) : (clearRow p r row kept)[j]? = some (p * at_ row j - r * at_ kept j) := by
  unfold clearRow at_
  rw [List.getElem?_eq_getElem (by simp; omega), getD_lt hj, getD_lt (by omega)]
  simp
def spCleared : Sp := fun vs H Q _ => ∃ (p : Addr) (as : List Addr) (rows : List (List Int)) (c w : Nat), vs = [.ref p, .int (c : Int)] ∧ H p = some (.lst (as.map V.ref)) ∧ Rows H as rows ∧ Wide w rows ∧ c < w ∧ w < 100 ∧ c < rows.length ∧ rows.length < 100 ∧ Bd 400 rows ∧
  ∀ (H' : Hp) (q : Addr) (bs : List Addr), Same H H' → H' q = some (.lst (bs.map V.ref)) → Rows H' bs (cleared rows c) → H q = none → q ∉ bs → Q (.ref q) H'
section
variable {P : Program} {w : World} {K : PySem.W.Frag} {mg : Str → Option Value} {base : Heap}
theorem scCleared : FnScope ["rows", "column", "kept", "made", "number", "row", "a", "b"] ["rows", "column"] (defScope sCleared) := ⟨rfl, rfl, rfl, by decide +kernel, rfl, by decide +kernel, by decide +kernel⟩
theorem ok_cleared {f : Addr} {fd : FuncData} (F : Fun K "cleared" "cleared" sCleared f fd) (hen : mg "enumerate" = none) (hzp : mg "zip" = none) : FnOk P w K mg base CX0 1 f fd ["rows", "column"] spCleared := by
  refine F.ok scCleared (fun vs H Q E h => ?_) (fun cdv A outer s H vs Q E hr h => ?_)
  · obtain ⟨p, as, rows, c, w, rfl, _⟩ := h
    rfl
  · obtain ⟨p, as, rows, c, w, rfl, hp, R, hw, hcw, hw1, hc, hl, hb, k⟩ := h
    have big := line_big
    refine ⟨_, pss_cons (ps_set (i := 2) scCleared.nd rfl (Or.inr rfl) (pe_ix ix_list (pv 0) (pv 1) (fun _ _ => rfl)))
      (pss_cons (ps_set (i := 3) scCleared.nd rfl (Or.inl rfl) (pe_lst pa_nil))
      (pss_cons (ps_for PassesOwn.never rfl (pi_enum rfl hen (pa_cons (pv 0) pa_nil)) (pg_tup rfl (pgs_cons (pg_name (i := 4) scCleared.nd rfl (Or.inl rfl)) (pgs_cons (pg_name (i := 5) scCleared.nd rfl (Or.inr rfl)) pgs_nil)))
        (pss_one (ps_if (pt_cmpR op_eq (pv 4) (pv 1) (nomark _))
          (pss_one (ps_expr (pe_bm PySem.F.plainAttrs_list PySem.F.slot_list_append PySem.F.type_list_append mt_append (pv 3) (pa_cons (pv 2) pa_nil))))
          (pss_one (ps_expr (pe_bm PySem.F.plainAttrs_list PySem.F.slot_list_append PySem.F.type_list_append mt_append (pv 3) (pa_cons
            (pe_lc rfl scCleared.nd (pi_zip rfl hzp (pa_cons (pv 5) (pa_cons (pv 2) pa_nil))) (blkOk_by (own := [("a", 6), ("b", 7)]) (by show blkC ["rows", "column", "kept", "made", "number", "row", "a", "b"] (defScope sCleared) _ [("a", 6), ("b", 7)] = true; decide +kernel))
              (fun s H C cl fp => (show PG _ _ (gTup K 2 _) from pg_tup rfl (pgs_cons (pg_name (i := 6) scCleared.nd rfl (Or.inl rfl) (Or.inr rfl)) (pgs_cons (pg_name (i := 7) scCleared.nd rfl (Or.inl rfl) (Or.inr rfl)) pgs_nil))))
              (fun s H C cl fp => pts_nil)
              (fun s H C cl fp => pe_op op_sub (pe_op op_mulB (pe_ix (show IxR _ (rIxL K) from ix_list) (pv 2) (pv 1) (fun _ _ => rfl)) (pv 6)) (pe_op op_mulB (pe_ix (show IxR _ (rIxL K) from ix_list) (pv 5) (pv 1) (fun _ _ => rfl)) (pv 7)))) pa_nil)))))))
      (pss_one (ps_ret (pv 3))))), ?_⟩
    obtain ⟨kp, hkp, hK⟩ := R.row hc
    have kl : (rows.getD c []).length = w := hw c hc
    refine ⟨_, rfl, _, rfl, p, _, _, _, rfl, rfl, SqL.of hp, at_of (j := c) rfl (ref_at hkp), Nat.zero_le _, fun mo hmo => ?_⟩
    have sm : Same H (upd H mo (.lst [])) := same_upd hmo
    have al : (as.map V.ref).length = rows.length := by rw [List.length_map, R.len]
    refine ⟨_, rfl, p, _, rfl, SqL.of (sm _ _ hp), ?_⟩
    refine for_enum (K := K) (a := p) (xs := as.map V.ref) (fun i σ H' => ∃ (asM : List Addr) (v4 v5 : Option V), σ = [some (.ref p), some (.int (c : Int)), some (.ref kp), some (.ref mo), v4, v5, none, none] ∧ Same H H' ∧
      H' mo = some (.lst (asM.map V.ref)) ∧ Rows H' asM ((cleared rows c).take i) ∧ mo ∉ asM) ?_ ?_ ?_ ?_
    · exact ⟨[], none, none, rfl, sm, upd_same, by simpa using Rows.nil, by simp⟩
    · rintro i σ H' _ ⟨_, _, _, _, s1, _⟩
      exact SqL.of (s1 _ _ hp)
    · rintro i y σ H1 T hi ⟨asM, v4, v5, rfl, s1, hM, RM, nM⟩ hT
      obtain ⟨a, ha, rfl⟩ := map_ref hi
      have hil : i < rows.length := by
        rw [← R.len]
        exact (List.getElem?_eq_some_iff.mp ha).1
      obtain ⟨a', ha', hA⟩ := R.row hil
      have : a' = a := Option.some.inj (ha'.symm.trans ha)
      subst this
      have rl : (rows.getD i []).length = w := hw i hil
      have s2 : Same H1 (upd H1 T (.tup [.int (i : Nat), .ref a'])) := same_upd hT
      have s12 := s1.trans s2
      have ml : asM.length < 100 := by
        rw [RM.len, List.length_take, cleared_length]
        omega
      refine ⟨T, _, rfl, SqT.of upd_same, rfl, _, _, rfl, _, _, rfl, rfl, ?_⟩
      refine ⟨_, rfl, _, rfl, rfl, _, rfl, ?_⟩
      have ce := cleared_at (c := c) hil
      refine ite_eq (fun he => ?_) (fun hne => ?_)
      · have hic : i = c := by omega
        rw [if_pos hic] at ce
        refine ⟨_, rfl, .inl ⟨rfl, _, SqL.of (s2 _ _ hM)⟩, _, rfl, mo, _, _, rfl, rfl, s2 _ _ hM, (by rw [List.length_map]; omega), ?_⟩
        refine ⟨asM ++ [kp], _, _, rfl, same_over s12 hmo, ?_, ?_, ?_⟩
        · rw [upd_same, List.map_append]; rfl
        · rw [take_snoc ce]
          refine Rows.append ((RM.mono s2).upd nM) (Rows.one ?_)
          rw [upd_ne (ne_of_none hK hmo)]
          exact s12 _ _ hK
        · have : mo ≠ kp := fun e => by rw [e, hK] at hmo; cases hmo
          simp [nM, this]
      · have hic : ¬ i = c := fun e => hne (by omega)
        rw [if_neg hic] at ce
        refine ⟨_, rfl, .inl ⟨rfl, _, SqL.of (s2 _ _ hM)⟩, _, rfl, _, rfl, a', kp, _, _, rfl, SqL.of (s12 _ _ hA), SqL.of (s12 _ _ hK), fun D hD => ?_⟩
        refine lc_zip (K := K) (a := a') (b := kp) (xs := (rows.getD i []).map V.int) (ys := (rows.getD c []).map V.int) (by rw [List.length_map, List.length_map, rl, kl])
          (fun j H' => Same (upd H1 T (.tup [.int (i : Nat), .ref a'])) H' ∧ H' D = some (.lst (((clearRow (cell rows c c) (cell rows i c) (rows.getD i []) (rows.getD c [])).take j).map V.int))) ?_ ?_ ?_ ?_
        · exact ⟨same_upd hD, by rw [upd_same]; simp⟩
        · rintro j H' _ ⟨s3, _⟩
          exact ⟨SqL.of (s3 _ _ (s12 _ _ hA)), SqL.of (s3 _ _ (s12 _ _ hK))⟩
        · rintro j x y H' U hx hy ⟨s3, hD'⟩ hU
          have hj : j < w := by
            have := (List.getElem?_eq_some_iff.mp hx).1
            rw [List.length_map, rl] at this
            exact this
          have ex := int_at (r := rows.getD i []) (j := j) (by omega)
          have ey := int_at (r := rows.getD c []) (j := j) (by omega)
          rw [hx] at ex
          rw [hy] at ey
          cases ex
          cases ey
          have s4 : Same H' (upd H' U (.tup [.int (at_ (rows.getD i []) j), .int (at_ (rows.getD c []) j)])) := same_upd hU
          have s5 := (s12.trans s3).trans s4
          refine ⟨U, _, rfl, SqT.of upd_same, rfl, _, _, rfl, _, _, rfl, rfl, rfl, ?_⟩
          have hA5 := s5 _ _ hA
          have hK5 := s5 _ _ hK
          have bcc := hb.small (by decide) c c
          have bic := hb.small (by decide) i c
          have bij := hb.small (by decide) i j
          have bcj := hb.small (by decide) c j
          refine ⟨_, rfl, _, rfl, kp, _, _, _, rfl, rfl, SqL.of hK5, at_of (j := c) rfl (int_at (by omega)), _, rfl, _, _, rfl, rfl, ⟨bcc, bij⟩, ?_⟩
          refine ⟨_, rfl, _, rfl, a', _, _, _, rfl, rfl, SqL.of hA5, at_of (j := c) rfl (int_at (by omega)), _, rfl, _, _, rfl, rfl, ⟨bic, bcj⟩, _, _, rfl, rfl, ?_⟩
          refine ⟨_, s4 _ _ hD', ?_, same_over (s3.trans s4) hD, ?_⟩
          · rw [List.length_map, List.length_take]
            omega
          · rw [upd_same, take_snoc (clearRow_get (by rw [rl, kl]) (by rw [rl]; exact hj)), List.map_append]
            rfl
        · rintro H' ⟨s3, hD'⟩
          rw [List.length_map] at hD'
          have cl : (clearRow (cell rows c c) (cell rows i c) (rows.getD i []) (rows.getD c [])).length = (rows.getD i []).length := by
            simp only [clearRow, List.length_zipWith, rl, kl]; omega
          rw [← cl, List.take_length] at hD'
          have Dmo : D ≠ mo := fun e => by
            have := s2 _ _ hM
            rw [← e, hD] at this
            cases this
          refine ⟨mo, _, _, rfl, rfl, s3 _ _ (s2 _ _ hM), (by rw [List.length_map]; omega), ?_⟩
          refine ⟨asM ++ [D], _, _, rfl, same_over (s12.trans s3) hmo, ?_, ?_, ?_⟩
          · rw [upd_same, List.map_append]; rfl
          · rw [take_snoc ce]
            refine Rows.append (((RM.mono s2).mono s3).upd nM) (Rows.one ?_)
            rw [upd_ne Dmo]
            exact hD'
          · have : mo ≠ D := fun e => Dmo e.symm
            simp [nM, this]
    · rintro σ H1 ⟨asM, v4, v5, rfl, s1, hM, RM, nM⟩
      rw [al] at RM
      refine ⟨_, rfl, k _ mo asM s1 hM ?_ hmo nM⟩
      have : (cleared rows c).take rows.length = cleared rows c := by
        rw [← cleared_length rows c, List.take_length]
      rw [this] at RM
      exact RM
end
end DA
set_option Elab.async false
set_option maxRecDepth 100000
set_option maxHeartbeats 2000000
namespace DA
open PySem PySem.Spec PyProof.Rows L2
open Su109 (Fr low over plus less at_ choose)
abbrev sSolved : Stmt := top 10
/-! ### sizes through the elimination -/
theorem cell_out {rows : List (List Int)} {i j : Nat} (h : rows.length ≤ i) : cell rows i j = 0 := by
  unfold cell at_
  have : rows.getD i [] = [] := by simp [List.getD, List.getElem?_eq_none h]
  rw [this]
  simp
def bnd (c : Nat) : Nat := 11 * 2 ^ c - 1
theorem bnd_succ (c : Nat) : bnd (c + 1) = 2 * bnd c + 1 := by
  unfold bnd
  have : 0 < 2 ^ c := Nat.two_pow_pos c
  rw [Nat.pow_succ]
  omega
theorem bnd_le {c : Nat} (h : c ≤ 4) : bnd c ≤ 175 := by
  have : c = 0 ∨ c = 1 ∨ c = 2 ∨ c = 3 ∨ c = 4 := by omega
  rcases this with e | e | e | e | e <;> subst e <;> decide
theorem Bd.mono {k l : Nat} {rows : List (List Int)} (h : Bd k rows) (hk : k ≤ l) : Bd l rows := fun i j => Nat.lt_of_lt_of_le (h i j) (Nat.pow_le_pow_right (by decide) hk)
theorem Bd.swapped {k : Nat} {rows : List (List Int)} {c f : Nat} (h : Bd k rows) : Bd k (swapped rows c f) := by
  intro i j
  by_cases hi : i < rows.length
  · rw [swapped_cell hi]
    split
    · exact h f j
    · split
      · exact h c j
      · exact h i j
  · rw [cell_out (by rw [swapped_length]; omega)]
    exact Nat.two_pow_pos k
theorem Bd.cleared {k w : Nat} {rows : List (List Int)} {c : Nat} (h : Bd k rows) (hw : Wide w rows) (hc : c < rows.length) : Bd (2 * k + 1) (cleared rows c) := by
  intro i j
  have hp : 2 ^ k ≤ 2 ^ (2 * k + 1) := Nat.pow_le_pow_right (by decide) (by omega)
  by_cases hi : i < rows.length
  · rw [cleared_cell hw hc hi]
    split
    · exact Nat.lt_of_lt_of_le (h c j) hp
    · have h1 := pow_mul_lt (h c c) (h i j)
      have h2 := pow_mul_lt (h i c) (h c j)
      rw [← Int.natAbs_mul] at h1 h2
      have e : 2 ^ (2 * k + 1) = 2 ^ (k + k) + 2 ^ (k + k) := by
        rw [Nat.pow_succ, Nat.two_mul]
        omega
      rw [e]
      omega
  · rw [cell_out (by rw [cleared_length]; omega)]
    exact Nat.two_pow_pos _
theorem elim_step {m c f : Nat} {rows : List (List Int)} (h : pivot rows c = some f) : elim (m + 1) c rows = elim m (c + 1) (cleared (swapped rows c f) c) := by
  rw [elim, h]
theorem elim_stop {m c : Nat} {rows : List (List Int)} (h : pivot rows c = none) : elim (m + 1) c rows = none := by
  rw [elim, h]
theorem elim_bd {w : Nat} : ∀ (m c : Nat) (rows rows' : List (List Int)), Wide w rows → Diag rows c → elim m c rows = some rows' → Bd (bnd c) rows → Bd (bnd (c + m)) rows'
  | 0, c, rows, rows', _, _, h, hb => by
    simp only [elim, Option.some.injEq] at h
    subst h
    exact hb
  | m + 1, c, rows, rows', hw, hd, h, hb => by
    cases hp : pivot rows c with
    | none => rw [elim_stop hp] at h; cases h
    | some f =>
      rw [elim_step hp] at h
      obtain ⟨a, b, l, _⟩ := step_diag hw hd hp
      obtain ⟨p1, p2, _⟩ := pivot_some hp
      have hc : c < rows.length := by omega
      have hb1 : Bd (bnd (c + 1)) (cleared (swapped rows c f) c) := by
        rw [bnd_succ]
        exact hb.swapped.cleared (swapped_wide hw hc p2) (by rw [swapped_length]; exact hc)
      have := elim_bd m (c + 1) _ rows' a b h hb1
      have e : c + 1 + m = c + (m + 1) := by omega
      rw [e] at this
      exact this
/-- the fractions that come out are small -/
theorem solved_sz {rows : List (List Int)} {k : Nat} {fs : List Fr} (hw : Wide (k + 1) rows) (hk : k ≤ 4) (hb : Bd 10 rows) (h : solved rows k = some fs) : ∀ f, f ∈ fs → Sz 175 f := by
  unfold solved at h
  split at h
  · cases h
  · rename_i m hm
    obtain ⟨a, b, l, _⟩ := elim_some k 0 rows m hw (diag_zero rows) hm
    have hbd := (elim_bd k 0 rows m hw (diag_zero rows) hm hb).mono (l := 175) (bnd_le (by omega))
    rw [Nat.zero_add] at b
    split at h
    · cases h
    · cases h
      intro f hf
      obtain ⟨i, hi, rfl⟩ := List.mem_map.mp hf
      rw [List.mem_range] at hi
      exact over_sz (b.on i hi) (hbd i k) (hbd i i)
/-! ### fractions, laid -/
structure Frs (H : Hp) (as : List Addr) (fs : List Fr) : Prop where
  len : as.length = fs.length
  at_ : ∀ (i : Nat) (a : Addr), as[i]? = some a → ∃ f, fs[i]? = some f ∧ H a = some (.tup (frV f))
theorem Frs.nil {H : Hp} : Frs H [] [] := ⟨rfl, fun i a h => by simp at h⟩
theorem Frs.mono {H H' : Hp} {as : List Addr} {fs : List Fr} (R : Frs H as fs) (s : Same H H') : Frs H' as fs :=
  ⟨R.len, fun i a h => let ⟨r, h1, h2⟩ := R.at_ i a h; ⟨r, h1, s _ _ h2⟩⟩
theorem Frs.not_lst {H : Hp} {as : List Addr} {fs : List Fr} (R : Frs H as fs) {p : Addr} {xs : List V} (h : H p = some (.lst xs)) : p ∉ as := fun m => by
  obtain ⟨i, hi⟩ := List.mem_iff_getElem?.mp m
  obtain ⟨r, _, h2⟩ := R.at_ i p hi
  rw [h] at h2
  cases h2
theorem Frs.upd {H : Hp} {as : List Addr} {fs : List Fr} {p : Addr} {o : HO} (R : Frs H as fs) (n : p ∉ as) : Frs (upd H p o) as fs :=
  ⟨R.len, fun i a h => let ⟨r, h1, h2⟩ := R.at_ i a h; ⟨r, h1, by rw [upd_ne (fun (e : a = p) => n (e ▸ List.mem_of_getElem? h))]; exact h2⟩⟩
theorem Frs.snoc {H : Hp} {as : List Addr} {fs : List Fr} {a : Addr} {f : Fr} (R : Frs H as fs) (h : H a = some (.tup (frV f))) : Frs H (as ++ [a]) (fs ++ [f]) := by
  refine ⟨by simp [R.len], fun i b e => ?_⟩
  by_cases hi : i < as.length
  · rw [List.getElem?_append_left hi] at e
    obtain ⟨r, h1, h2⟩ := R.at_ i b e
    exact ⟨r, by rw [List.getElem?_append_left (by rw [← R.len]; exact hi)]; exact h1, h2⟩
  · rw [List.getElem?_append_right (by omega)] at e
    have hi' : i = as.length := by
      have := (List.getElem?_eq_some_iff.mp e).1
      simp at this
      omega
    subst hi'
    simp at e
    subst e
    exact ⟨f, by rw [List.getElem?_append_right (by rw [R.len]; exact Nat.le_refl _), R.len]; simp, h⟩
/-! ### two rows of a list changed -/
theorem ixN_nat {n j : Nat} (h : j < n) : ixN n (j : Int) = some j := by
  unfold ixN
  rw [if_pos (by omega), if_pos (by omega), Int.toNat_natCast]
theorem Rows.swap {H : Hp} {as : List Addr} {rows : List (List Int)} {c f : Nat} {ac af : Addr} (R : Rows H as rows) (hc : as[c]? = some ac) (hf : as[f]? = some af) : Rows H ((as.set f ac).set c af) (swapped rows c f) := by
  have hcl : c < rows.length := by rw [← R.len]; exact (List.getElem?_eq_some_iff.mp hc).1
  have hfl : f < rows.length := by rw [← R.len]; exact (List.getElem?_eq_some_iff.mp hf).1
  refine ⟨by rw [List.length_set, List.length_set, swapped_length, R.len], fun i a h => ?_⟩
  have hil : i < rows.length := by
    have := (List.getElem?_eq_some_iff.mp h).1
    rw [List.length_set, List.length_set, R.len] at this
    exact this
  refine ⟨(swapped rows c f).getD i [], ?_, ?_⟩
  · rw [getD_lt (by rw [swapped_length]; exact hil)]
    exact List.getElem?_eq_getElem _
  · rw [swapped_row hil]
    by_cases e : i = c
    · subst e
      rw [if_pos rfl]
      rw [List.getElem?_set_self (by rw [List.length_set, R.len]; exact hil)] at h
      obtain ⟨a', h1, h2⟩ := R.row hfl
      have : a' = a := Option.some.inj (h1.symm.trans (hf.trans h))
      subst this
      exact h2
    · rw [if_neg e]
      rw [List.getElem?_set_ne (fun q => e q.symm)] at h
      by_cases e2 : i = f
      · subst e2
        rw [if_pos rfl]
        rw [List.getElem?_set_self (by rw [R.len]; exact hil)] at h
        obtain ⟨a', h1, h2⟩ := R.row hcl
        have : a' = a := Option.some.inj (h1.symm.trans (hc.trans h))
        subst this
        exact h2
      · rw [if_neg e2]
        rw [List.getElem?_set_ne (fun q => e2 q.symm)] at h
        obtain ⟨a', h1, h2⟩ := R.row hil
        have : a' = a := Option.some.inj (h1.symm.trans h)
        subst this
        exact h2
theorem cut_drop (xs : List V) (k : Nat) : cutV xs (some (k : Int)) none = xs.drop k := by
  unfold cutV
  rw [HT.sIx_nat, HT.sIx_none]
  rw [List.take_of_length_le (by rw [List.length_drop]; exact Nat.le_refl _)]
  by_cases h : k ≤ xs.length
  · rw [Nat.min_eq_left h]
  · rw [Nat.min_eq_right (by omega), List.drop_eq_nil_of_le (Nat.le_refl _), List.drop_eq_nil_of_le (by omega)]
/-! ### solved -/
def ResS (rows : List (List Int)) (k : Nat) (H : Hp) (Q : VK) : Prop :=
  (solved rows k = none → ∀ H', Same H H' → Q .non H') ∧ ∀ fs, solved rows k = some fs → ∀ (H' : Hp) (q : Addr) (bs : List Addr), Same H H' → H' q = some (.lst (bs.map V.ref)) → Frs H' bs fs → Q (.ref q) H'
def spSolved : Sp := fun vs H Q _ => ∃ (p : Addr) (as : List Addr) (rows : List (List Int)) (k : Nat), vs = [.ref p, .int (k : Int)] ∧ H p = some (.lst (as.map V.ref)) ∧ Rows H as rows ∧ Wide (k + 1) rows ∧ k ≤ 4 ∧ rows.length < 100 ∧ Bd 10 rows ∧ ResS rows k H Q
section
variable {P : Program} {w : World} {K : PySem.W.Frag} {mg : Str → Option Value} {base : Heap}
theorem scSolved : FnScope ["rows", "count", "column", "found", "swapped", "row", "number"] ["rows", "count"] (defScope sSolved) := ⟨rfl, rfl, rfl, by decide +kernel, rfl, by decide +kernel, by decide +kernel⟩
theorem ok_solved {f fp fc fr : Addr} {fd fdp fdc fdr : FuncData} (F : Fun K "solved" "solved" sSolved f fd) (hls : mg "list" = none) (hrg : mg "range" = none)
    (kp : PySem.W.keepIn K (.ref fp) = true) (Gp : FnOk P w K mg base CX0 1 fp fdp ["rows", "column"] spPivot) (mp : mg "pivot_row" = some (.ref fp)) (bp : Binds K fdp ["rows", "column"] [])
    (kc : PySem.W.keepIn K (.ref fc) = true) (Gc : FnOk P w K mg base CX0 1 fc fdc ["rows", "column"] spCleared) (mc : mg "cleared" = some (.ref fc)) (bc : Binds K fdc ["rows", "column"] [])
    (kr : PySem.W.keepIn K (.ref fr) = true) (Gr : FnOk P w K mg base CX0 2 fr fdr ["above", "below"] spRatio) (mr : mg "ratio" = some (.ref fr)) (br : Binds K fdr ["above", "below"] []) :
    FnOk P w K mg base CX0 3 f fd ["rows", "count"] spSolved := by
  refine F.ok scSolved (fun vs H Q E h => ?_) (fun cdv A outer s H vs Q E hr h => ?_)
  · obtain ⟨p, as, rows, k, rfl, _⟩ := h
    rfl
  · obtain ⟨p0, as0, rows, k, rfl, hp0, R0, hw0, hk, hl, hb0, res⟩ := h
    have big := line_big
    have hr1 : Room 1 _ := hr.mono (by decide)
    refine ⟨_, pss_cons (ps_set (i := 0) scSolved.nd rfl (Or.inr rfl) (pe_callTy call_list_of (by rfl) hls PyProof.Rows.boot_list (pa_cons (pv 0) pa_nil)))
      (pss_cons (ps_for PassesOwn.never rfl (pi_range1 rfl hrg (pa_cons (pv 1) pa_nil)) (pg_name (i := 2) scSolved.nd rfl (Or.inl rfl))
        (pss_cons (ps_set (i := 3) scSolved.nd rfl (Or.inl rfl) (pe_call Gp hr1 rfl mp kp bp .nil pass0 (pa_cons (pv 0) (pa_cons (pv 2) pa_nil))))
        (pss_cons (ps_if (pt_cmpR op_isN (pv 3) pe_non (nomark _)) (pss_one (ps_ret pe_non)) pss_nil)
        (pss_cons (ps_set (i := 4) scSolved.nd rfl (Or.inl rfl) (pe_ix ix_list (pv 0) (pv 3) (fun _ _ => rfl)))
        (pss_cons (ps_asg (pe_ix ix_list (pv 0) (pv 2) (fun _ _ => rfl)) (pg_sub (pv 0) (pv 3) set_list))
        (pss_cons (ps_asg (pv 4) (pg_sub (pv 0) (pv 2) set_list))
        (pss_one (ps_set (i := 0) scSolved.nd rfl (Or.inr rfl) (pe_call Gc hr1 rfl mc kc bc .nil pass0 (pa_cons (pv 0) (pa_cons (pv 2) pa_nil)))))))))))
      (pss_cons (ps_for PassesOwn.never rfl (pi_list (pe_slice sl_list (pv 0) (po_some (pv 1)) po_none)) (pg_name (i := 5) scSolved.nd rfl (Or.inl rfl))
        (pss_one (ps_if (pt_cmpR op_ne (pe_ix ix_list (pv 5) (pv 1) (fun _ _ => rfl)) pe_int (nomark _)) (pss_one (ps_ret pe_non)) pss_nil)))
      (pss_one (ps_ret (pe_lc rfl scSolved.nd (pi_range1 rfl hrg (pa_cons (pv 1) pa_nil)) (blkOk_by (own := [("number", 6)]) (by show blkC ["rows", "count", "column", "found", "swapped", "row", "number"] (defScope sSolved) _ [("number", 6)] = true; decide +kernel))
        (fun s H C cl fp => pg_name (i := 6) scSolved.nd rfl (Or.inl rfl) (Or.inr rfl))
        (fun s H C cl fp => pts_nil)
        (fun s H C cl fp => pe_call Gr hr rfl mr kr br .nil pass0 (pa_cons (pe_ix (show IxR _ (rIxL K) from ix_list) (pe_ix (show IxR _ (rIxL K) from ix_list) (pv 0) (pv 6) (fun _ _ => rfl)) (pv 1) (fun _ _ => rfl))
          (pa_cons (pe_ix (show IxR _ (rIxL K) from ix_list) (pe_ix (show IxR _ (rIxL K) from ix_list) (pv 0) (pv 6) (fun _ _ => rfl)) (pv 6) (fun _ _ => rfl)) pa_nil)))))))), ?_⟩
    refine ⟨_, rfl, p0, _, rfl, .inl (SqL.of hp0), fun p hp => ?_⟩
    have sp : Same H (upd H p (.lst (as0.map V.ref))) := same_upd hp
    refine ⟨_, rfl, (k : Int), rfl, by omega, by omega, ?_⟩
    refine for_range (lo := 0) (n := (k : Int).toNat) (fun i σ H' => ∃ (p : Addr) (as : List Addr) (rws : List (List Int)) (v2 v3 v4 : Option V), σ = [some (.ref p), some (.int (k : Int)), v2, v3, v4, none, none] ∧ Same H H' ∧ H p = none ∧
      H' p = some (.lst (as.map V.ref)) ∧ p ∉ as ∧ Rows H' as rws ∧ Wide (k + 1) rws ∧ rws.length = rows.length ∧ Bd (bnd i) rws ∧ elim (k - i) i rws = elim k 0 rows) ?_ ?_ ?_
    · exact ⟨p, as0, rows, none, none, none, rfl, sp, hp, upd_same, R0.not_mem hp, R0.mono sp, hw0, rfl, hb0, rfl⟩
    · rintro i σ H1 hi ⟨p, as, rws, v2, v3, v4, rfl, s1, np, hP, npa, R, hw, hlen, hb, he⟩
      have hik : i < k := by omega
      have z : (0 : Int) + (i : Int) = (i : Int) := Int.zero_add _
      rw [z]
      refine ⟨_, rfl, _, rfl, p, as, rws, i, rfl, hP, R, by omega, by omega, fun j hj => by rw [hw j hj]; omega, ?_⟩
      have ke : k - i = (k - (i + 1)) + 1 := by omega
      cases hpv : pivot rws i with
      | none =>
        refine ⟨_, rfl, rfl, _, rfl, ite2 (fun _ => ?_) (fun hc => absurd rfl hc)⟩
        refine res.1 ?_ H1 s1
        unfold solved
        rw [← he, ke, elim_stop hpv]
      | some g =>
        obtain ⟨p1, p2, p3⟩ := pivot_some hpv
        refine ⟨_, rfl, rfl, _, rfl, ite2 (fun hc => absurd (show V.int (g : Int) = V.non from of_decide_eq_true hc) (by intro h; cases h)) (fun _ => ?_)⟩
        have hil : i < rws.length := by omega
        obtain ⟨ai, hai, hAi⟩ := R.row hil
        obtain ⟨ag, hag, hAg⟩ := R.row p2
        have lm : (as.map V.ref).length = rws.length := by rw [List.length_map, R.len]
        refine ⟨_, rfl, _, rfl, p, _, _, _, rfl, rfl, SqL.of hP, at_of (j := g) rfl (ref_at hag), ?_⟩
        refine ⟨_, rfl, _, rfl, p, _, _, _, rfl, rfl, SqL.of hP, at_of (j := i) rfl (ref_at hai), ?_⟩
        refine ⟨_, rfl, _, rfl, p, _, _, g, rfl, rfl, hP, ixN_nat (by rw [lm]; exact p2), ?_⟩
        refine ⟨_, rfl, _, rfl, _, rfl, p, _, _, i, rfl, rfl, upd_same, ixN_nat (by rw [List.length_set, lm]; exact hil), ?_⟩
        rw [upd_upd]
        have em : ((as.map V.ref).set g (.ref ai)).set i (.ref ag) = ((as.set g ai).set i ag).map V.ref := by
          rw [List.map_set, List.map_set]
        rw [em]
        have npa' : p ∉ (as.set g ai).set i ag := by
          intro hm
          rcases List.mem_or_eq_of_mem_set hm with h | h
          · rcases List.mem_or_eq_of_mem_set h with h | h
            · exact npa h
            · exact npa (h ▸ List.mem_of_getElem? hai)
          · exact npa (h ▸ List.mem_of_getElem? hag)
        have R2 : Rows (upd H1 p (.lst (((as.set g ai).set i ag).map V.ref))) ((as.set g ai).set i ag) (swapped rws i g) := (R.swap hai hag).upd npa'
        refine ⟨_, rfl, _, rfl, p, _, swapped rws i g, i, k + 1, rfl, upd_same, R2, swapped_wide hw hil p2, by omega, by omega, by rw [swapped_length]; exact hil, by rw [swapped_length]; omega, (hb.swapped).mono (Nat.le_trans (bnd_le (by omega)) (by decide)), fun H3 q bs s3 hq Rb nq nqb => ?_⟩
        have qp : q ≠ p := fun e => by rw [e, upd_same] at nq; cases nq
        have nq1 : H1 q = none := by rw [upd_ne qp] at nq; exact nq
        refine ⟨q, bs, _, _, _, _, rfl, (same_over s1 np).trans s3, s1.free nq1, hq, nqb, Rb, ?_, ?_, ?_, ?_⟩
        · exact cleared_wide (swapped_wide hw hil p2) (by rw [swapped_length]; exact hil)
        · rw [cleared_length, swapped_length, hlen]
        · rw [bnd_succ]
          exact hb.swapped.cleared (swapped_wide hw hil p2) (by rw [swapped_length]; exact hil)
        · rw [← he, ke, elim_step hpv]
    · rintro σ H1 ⟨p, as, m, v2, v3, v4, rfl, s1, np, hP, npa, R, hw, hlen, hb, he⟩
      have tk : (k : Int).toNat = k := by omega
      rw [tk] at hb he
      rw [Nat.sub_self] at he
      have hm : elim k 0 rows = some m := he.symm
      obtain ⟨_, dg, _, _⟩ := elim_some k 0 rows m hw0 (diag_zero rows) hm
      rw [Nat.zero_add] at dg
      have dl := dg.le
      have hbS := hb.mono (l := 175) (bnd_le hk)
      -- for row in rows[count:]
      refine ⟨_, rfl, _, rfl, (k : Int), rfl, p, _, rfl, SqL.of hP, fun sl hsl => ⟨sl, rfl, ⟨_, SqL.of upd_same⟩, ?_⟩⟩
      rw [cut_drop]
      have s2 : Same H1 (upd H1 sl (.lst ((as.map V.ref).drop k))) := same_upd hsl
      refine for_list (K := K) (a := sl) (xs := (as.map V.ref).drop k) (fun j σ H' => ∃ v5 : Option V, σ = [some (.ref p), some (.int (k : Int)), v2, v3, v4, v5, none] ∧ H' = upd H1 sl (.lst ((as.map V.ref).drop k)) ∧ ∀ i, k ≤ i → i < k + j → cell m i k = 0) ?_ ?_ ?_ ?_
      · exact ⟨none, rfl, rfl, fun i h1 h2 => by omega⟩
      · rintro j σ H' _ ⟨_, _, rfl, _⟩
        exact SqL.of upd_same
      · rintro j y σ H' hj ⟨v5, rfl, rfl, hz⟩
        rw [List.getElem?_drop] at hj
        obtain ⟨a, ha, rfl⟩ := map_ref hj
        have hil : k + j < m.length := by rw [← R.len]; exact (List.getElem?_eq_some_iff.mp ha).1
        obtain ⟨a', ha', hA⟩ := R.row hil
        have : a' = a := Option.some.inj (ha'.symm.trans ha)
        subst this
        refine ⟨_, rfl, _, rfl, a', _, _, _, rfl, rfl, SqL.of (s2 _ _ hA), at_of (j := k) rfl (int_at (by rw [hw _ hil]; omega)), rfl, _, rfl, ?_⟩
        refine ite_ne (fun hne => ?_) (fun he0 => ?_)
        · refine res.1 ?_ _ (s1.trans s2)
          unfold solved
          rw [hm]
          simp only
          rw [if_pos]
          rw [List.any_eq_true]
          refine ⟨m[k + j], ?_, ?_⟩
          · rw [List.mem_drop_iff_getElem]
            exact ⟨j, by omega, rfl⟩
          · rw [getD_lt hil] at hne
            simpa using hne
        · refine ⟨_, rfl, rfl, fun i h1 h2 => ?_⟩
          by_cases e : i = k + j
          · subst e; exact he0
          · exact hz i h1 (by omega)
      · rintro σ H' ⟨v5, rfl, rfl, hz⟩
        have dlen : ((as.map V.ref).drop k).length = m.length - k := by rw [List.length_drop, List.length_map, R.len]
        rw [dlen] at hz
        have hsol : solved rows k = some ((List.range k).map fun i => over (cell m i k) (cell m i i)) := by
          unfold solved
          rw [hm]
          simp only
          rw [if_neg]
          rw [List.any_eq_true]
          rintro ⟨r, hr', hr2⟩
          rw [List.mem_drop_iff_getElem] at hr'
          obtain ⟨i, hi, e⟩ := hr'
          have := hz (k + i) (by omega) (by omega)
          unfold cell at this
          rw [getD_lt (by omega), e] at this
          rw [this] at hr2
          simp at hr2
        refine ⟨_, rfl, (k : Int), rfl, by omega, by omega, fun D hD => ?_⟩
        have sD : Same H1 (upd (upd H1 sl (.lst ((as.map V.ref).drop k))) D (.lst [])) := s2.trans (same_upd hD)
        refine lc_range (lo := 0) (n := (k : Int).toNat) (fun j H' => Same (upd H1 sl (.lst ((as.map V.ref).drop k))) H' ∧ ∃ bs, H' D = some (.lst (bs.map V.ref)) ∧ Frs H' bs (((List.range k).map fun i => over (cell m i k) (cell m i i)).take j)) ?_ ?_ ?_
        · exact ⟨same_upd hD, [], upd_same, by simpa using Frs.nil⟩
        · rintro j H' hj ⟨s3, bs, hDb, FB⟩
          have hjk : j < k := by omega
          have z : (0 : Int) + (j : Int) = (j : Int) := Int.zero_add _
          rw [z]
          obtain ⟨a, ha, hA⟩ := R.row (show j < m.length by omega)
          have s4 := s2.trans s3
          have hA' := s4 _ _ hA
          have hP' := s4 _ _ hP
          have rl : (m.getD j []).length = k + 1 := hw j (by omega)
          refine ⟨rfl, ?_⟩
          refine ⟨_, rfl, _, rfl, p, _, _, _, rfl, rfl, SqL.of hP', at_of (j := j) rfl (ref_at ha), _, rfl, a, _, _, _, rfl, rfl, SqL.of hA', at_of (j := k) rfl (int_at (by omega)), ?_⟩
          refine ⟨_, rfl, _, rfl, p, _, _, _, rfl, rfl, SqL.of hP', at_of (j := j) rfl (ref_at ha), _, rfl, a, _, _, _, rfl, rfl, SqL.of hA', at_of (j := j) rfl (int_at (by omega)), ?_⟩
          refine ⟨_, _, rfl, dg.on j hjk, sz_small (by decide) (hbS j j), fun H5 t s5 ht => ?_⟩
          have hD5 := s5 _ _ hDb
          have Dt : t ≠ D := ne_of ht hD5 (by intro z; cases z)
          refine ⟨_, hD5, ?_, ?_⟩
          · rw [List.length_map, FB.len, List.length_take]
            omega
          · refine ⟨same_over (s3.trans s5) hD, bs ++ [t], ?_, ?_⟩
            · rw [upd_same, List.map_append]; rfl
            · have ge : ((List.range k).map fun i => over (cell m i k) (cell m i i))[j]? = some (over (cell m j k) (cell m j j)) := by
                rw [List.getElem?_map, List.getElem?_range hjk]; rfl
              rw [take_snoc ge]
              refine Frs.snoc ((FB.mono s5).upd ((FB.mono s5).not_lst hD5)) ?_
              rw [upd_ne Dt]
              exact ht
        · rintro H' ⟨s3, bs, hDb, FB⟩
          rw [tk] at FB
          have el : ((List.range k).map fun i => over (cell m i k) (cell m i i)).take k = (List.range k).map fun i => over (cell m i k) (cell m i i) := by
            have : ((List.range k).map fun i => over (cell m i k) (cell m i i)).length = k := by simp
            exact List.take_of_length_le (by omega)
          rw [el] at FB
          exact res.2 _ hsol H' D bs ((s1.trans s2).trans s3) hDb FB
end
end DA
set_option Elab.async false
set_option maxRecDepth 100000
set_option maxHeartbeats 2000000
namespace DA
open PySem PySem.Spec PyProof.Rows L2
open Su109 (Fr low over plus less at_ choose)
abbrev sNarrowed : Stmt := top 11
abbrev sCorner : Stmt := top 12
abbrev sFind : Stmt := top 13
/-- every number of the rows is small, row by row -/
def RBd (k : Nat) (rows : List (List Int)) : Prop := ∀ r, r ∈ rows → ∀ j, (at_ r j).natAbs < 2 ^ k
theorem at_nil (j : Nat) : at_ [] j = 0 := by unfold at_; simp
theorem at_map_lt {s : List Nat} {r : List Int} {j : Nat} (h : j < s.length) : at_ (s.map fun c => at_ r c) j = at_ r (s.getD j 0) := by
  rw [getD_lt h]
  show (s.map fun c => at_ r c).getD j 0 = _
  rw [getD_lt (by simp; exact h)]
  simp
theorem narrowed_bd {r : List Int} {s : List Nat} {k : Nat} (h : ∀ j, (at_ r j).natAbs < 2 ^ k) (j : Nat) : (at_ (narrowed r s) j).natAbs < 2 ^ k := by
  unfold narrowed
  by_cases hj : j < s.length
  · rw [at_append_lt (by simp; exact hj), at_map_lt hj]
    exact h _
  · by_cases e : j = s.length
    · have : j = (s.map fun c => at_ r c).length := by simp [e]
      rw [this, at_append_one]
      exact h _
    · have : at_ (s.map (fun c => at_ r c) ++ [at_ r (r.length - 1)]) j = 0 := by
        show (s.map (fun c => at_ r c) ++ [at_ r (r.length - 1)]).getD j 0 = 0
        have hl : (s.map (fun c => at_ r c) ++ [at_ r (r.length - 1)]).length ≤ j := by simp; omega
        rw [List.getD, List.getElem?_eq_none hl]
        rfl
      rw [this]
      exact Nat.two_pow_pos k
theorem nar_bd {rows : List (List Int)} {s : List Nat} {k : Nat} (h : RBd k rows) : Bd k (rows.map fun row => narrowed row s) := by
  intro i j
  by_cases hi : i < rows.length
  · unfold cell
    rw [getD_lt (by simp; exact hi)]
    simp only [List.getElem_map]
    exact narrowed_bd (h _ (List.getElem_mem hi)) j
  · rw [cell_out (by simp; omega)]
    exact Nat.two_pow_pos k
/-! ### narrowed -/
def spNarrowed : Sp := fun vs H Q _ => ∃ (p q : Addr) (r : List Int) (s : List Nat), vs = [.ref p, .ref q] ∧ H p = some (.lst (r.map V.int)) ∧ H q = some (.lst ((s.map Int.ofNat).map V.int)) ∧ (∀ c, c ∈ s → c < r.length) ∧ s.length < 100 ∧ 0 < r.length ∧
  ∀ (H' : Hp) (t : Addr), Same H H' → H' t = some (.lst ((narrowed r s).map V.int)) → Q (.ref t) H'
section
variable {P : Program} {w : World} {K : PySem.W.Frag} {mg : Str → Option Value} {base : Heap}
theorem scNarrowed : FnScope ["row", "chosen", "number"] ["row", "chosen"] (defScope sNarrowed) := ⟨rfl, rfl, rfl, by decide +kernel, rfl, by decide +kernel, by decide +kernel⟩
theorem ok_narrowed {f : Addr} {fd : FuncData} (F : Fun K "narrowed" "narrowed" sNarrowed f fd) : FnOk P w K mg base CX0 1 f fd ["row", "chosen"] spNarrowed := by
  refine F.ok scNarrowed (fun vs H Q E h => ?_) (fun cdv A outer s H vs Q E hr h => ?_)
  · obtain ⟨p, q, r, s, rfl, _⟩ := h
    rfl
  · obtain ⟨p, q, r, ch, rfl, hp, hq, hlt, hl, h0, k⟩ := h
    have big := line_big
    refine ⟨_, pss_one (ps_ret (pe_op op_cat (pe_lc rfl scNarrowed.nd (pi_list (pv 1)) (blkOk_by (own := [("number", 2)]) (by show blkC ["row", "chosen", "number"] (defScope sNarrowed) _ [("number", 2)] = true; decide +kernel))
        (fun s H C cl fp => pg_name (i := 2) scNarrowed.nd rfl (Or.inl rfl) (Or.inr rfl))
        (fun s H C cl fp => pts_nil)
        (fun s H C cl fp => pe_ix (show IxR _ (rIxL K) from ix_list) (pv 0) (pv 2) (fun _ _ => rfl)))
      (pe_lst (pa_cons (pe_ix ix_list (pv 0) (pe_un un_neg pe_int) (fun _ _ => rfl)) pa_nil)))), ?_⟩
    refine ⟨_, rfl, q, rfl, ⟨_, SqL.of hq⟩, fun D hD => ?_⟩
    refine lc_list (K := K) (a := q) (xs := (ch.map Int.ofNat).map V.int) (fun j H' => Same H H' ∧ H' D = some (.lst (((ch.map fun c => at_ r c).take j).map V.int))) ?_ ?_ ?_ ?_
    · exact ⟨same_upd hD, by rw [upd_same]; simp⟩
    · rintro j H' _ ⟨s1, _⟩
      exact SqL.of (s1 _ _ hq)
    · rintro j y H' hj ⟨s1, hD'⟩
      have hjl : j < ch.length := by
        have := (List.getElem?_eq_some_iff.mp hj).1
        simpa using this
      rw [List.getElem?_map, List.getElem?_map, List.getElem?_eq_getElem hjl] at hj
      have ey : V.int (Int.ofNat ch[j]) = y := Option.some.inj hj
      subst ey
      have hc := hlt _ (List.getElem_mem hjl)
      refine ⟨rfl, ?_⟩
      refine ⟨_, rfl, _, rfl, p, _, _, _, rfl, rfl, SqL.of (s1 _ _ hp), at_of (j := ch[j]) rfl (int_at hc), ?_⟩
      refine ⟨_, hD', ?_, same_over s1 hD, ?_⟩
      · rw [List.length_map, List.length_take]
        omega
      · have ge : (ch.map fun c => at_ r c)[j]? = some (at_ r ch[j]) := by
          rw [List.getElem?_map, List.getElem?_eq_getElem hjl]; rfl
        rw [upd_same, take_snoc ge, List.map_append]
        rfl
    · rintro H' ⟨s1, hD'⟩
      have hlm : ((ch.map Int.ofNat).map V.int).length = (ch.map fun c => at_ r c).length := by simp
      rw [hlm, List.take_length] at hD'
      refine ⟨_, rfl, _, rfl, p, _, _, .int (at_ r (r.length - 1)), rfl, rfl, SqL.of (s1 _ _ hp), ?_, ?_⟩
      · obtain ⟨pre, x, rfl⟩ : ∃ p x, r = p ++ [x] := by
          have hne : r ≠ [] := by intro h; subst h; simp at h0
          exact ⟨r.dropLast, r.getLast hne, (List.dropLast_concat_getLast hne).symm⟩
        have : at_ (pre ++ [x]) ((pre ++ [x]).length - 1) = x := by
          have : (pre ++ [x]).length - 1 = pre.length := by simp
          rw [this, at_append_one]
        rw [this, List.map_append]
        exact atI_last _ _
      · refine ⟨(by show 1 ≤ sizeLine; omega), fun t ht => ?_⟩
        have s2 : Same H' (upd H' t (.lst [.int (at_ r (r.length - 1))])) := same_upd ht
        refine ⟨D, t, _, _, rfl, rfl, s2 _ _ hD', upd_same, ?_, fun u hu => ?_⟩
        · simp
          omega
        · refine k _ u ((s1.trans s2).trans (same_upd hu)) ?_
          rw [upd_same]
          unfold narrowed
          rw [List.map_append]
          rfl
/-! ### corner_on -/
def part (s : List Nat) (fs : List Fr) (n j : Nat) : List Fr := (List.range n).map fun c => if c ∈ s.take j then fs.getD (s.idxOf c) (0, 1) else (0, 1)
theorem part_zero (s : List Nat) (fs : List Fr) (n : Nat) : part s fs n 0 = List.replicate n (0, 1) := by
  unfold part
  refine List.ext_getElem (by simp) (fun i h1 h2 => by simp)
theorem part_all (s : List Nat) (fs : List Fr) (n : Nat) : part s fs n s.length = spread s fs n := by
  unfold part spread
  rw [List.take_length]
theorem part_len (s : List Nat) (fs : List Fr) (n j : Nat) : (part s fs n j).length = n := by simp [part]
theorem part_step {s : List Nat} {fs : List Fr} {n j : Nat} (hn : s.Nodup) (hj : j < s.length) {f : Fr} (hf : fs[j]? = some f) : part s fs n (j + 1) = (part s fs n j).set s[j] f := by
  refine List.ext_getElem (by simp [part]) (fun c h1 h2 => ?_)
  have hc : c < n := by simpa [part] using h1
  rw [List.getElem_set]
  simp only [part, List.getElem_map, List.getElem_range]
  rw [take_snoc (List.getElem?_eq_getElem hj)]
  have hidx : s.idxOf s[j] = j := hn.idxOf_getElem j hj
  by_cases e : s[j] = c
  · rw [if_pos e, if_pos (by simp [e]), ← e, hidx]
    simp [List.getD, hf]
  · rw [if_neg e]
    by_cases m : c ∈ s.take j
    · rw [if_pos m, if_pos (List.mem_append.mpr (Or.inl m))]
    · rw [if_neg m, if_neg (fun q => by
        rcases List.mem_append.mp q with q | q
        · exact m q
        · exact e (List.mem_singleton.mp q).symm)]
def ResC (rows : List (List Int)) (s : List Nat) (n : Nat) (H : Hp) (Q : VK) : Prop :=
  (cornerOn rows s n = none → ∀ H', Same H H' → Q .non H') ∧ ∀ q, cornerOn rows s n = some q → ∀ (H' : Hp) (p : Addr) (bs : List Addr), Same H H' → H' p = some (.lst (bs.map V.ref)) → Frs H' bs q → H p = none → Q (.ref p) H'
def spCorner : Sp := fun vs H Q _ => ∃ (p q : Addr) (as : List Addr) (rows : List (List Int)) (s : List Nat) (n : Nat), vs = [.ref p, .ref q, .int (n : Int)] ∧ H p = some (.lst (as.map V.ref)) ∧ Rows H as rows ∧ rows.length < 100 ∧ Wide (n + 1) rows ∧ RBd 10 rows ∧
  H q = some (.lst ((s.map Int.ofNat).map V.int)) ∧ s.Nodup ∧ (∀ c, c ∈ s → c < n) ∧ s.length ≤ 4 ∧ n ≤ 4 ∧ ResC rows s n H Q
theorem Frs.set {H : Hp} {as : List Addr} {fs : List Fr} {a : Addr} {f : Fr} {i : Nat} (R : Frs H as fs) (h : H a = some (.tup (frV f))) : Frs H (as.set i a) (fs.set i f) := by
  refine ⟨by simp [R.len], fun j b e => ?_⟩
  have hjl : j < as.length := by
    have := (List.getElem?_eq_some_iff.mp e).1
    simpa using this
  by_cases hij : i = j
  · subst hij
    rw [List.getElem?_set_self hjl] at e
    cases e
    exact ⟨f, List.getElem?_set_self (by rw [← R.len]; exact hjl), h⟩
  · rw [List.getElem?_set_ne hij] at e
    obtain ⟨g, h1, h2⟩ := R.at_ j b e
    exact ⟨g, by rw [List.getElem?_set_ne hij]; exact h1, h2⟩
theorem Frs.rep {H : Hp} {a : Addr} {f : Fr} (h : H a = some (.tup (frV f))) (n : Nat) : Frs H (List.replicate n a) (List.replicate n f) := by
  refine ⟨by simp, fun j b e => ?_⟩
  have hj : j < n := by
    have := (List.getElem?_eq_some_iff.mp e).1
    simpa using this
  rw [List.getElem?_replicate, if_pos hj] at e
  cases e
  exact ⟨f, by rw [List.getElem?_replicate, if_pos hj], h⟩
theorem rep_one (n : Nat) (v : V) : (List.replicate n [v]).flatten = List.replicate n v := by
  induction n with
  | zero => rfl
  | succ n ih => rw [List.replicate_succ, List.flatten_cons, ih, List.replicate_succ]; rfl
theorem scCorner : FnScope ["rows", "chosen", "count", "found", "prices", "number", "price", "row"] ["rows", "chosen", "count"] (defScope sCorner) := ⟨rfl, rfl, rfl, by decide +kernel, rfl, by decide +kernel, by decide +kernel⟩
theorem ok_corner {f fs fn : Addr} {fd fds fdn : FuncData} (F : Fun K "corner_on" "corner_on" sCorner f fd) (hln : mg "len" = none) (hzp : mg "zip" = none)
    (ks : PySem.W.keepIn K (.ref fs) = true) (Gs : FnOk P w K mg base CX0 3 fs fds ["rows", "count"] spSolved) (ms : mg "solved" = some (.ref fs)) (bs : Binds K fds ["rows", "count"] [])
    (kn : PySem.W.keepIn K (.ref fn) = true) (Gn : FnOk P w K mg base CX0 1 fn fdn ["row", "chosen"] spNarrowed) (mn : mg "narrowed" = some (.ref fn)) (bn : Binds K fdn ["row", "chosen"] []) :
    FnOk P w K mg base CX0 4 f fd ["rows", "chosen", "count"] spCorner := by
  refine F.ok scCorner (fun vs H Q E h => ?_) (fun cdv A outer s H vs Q E hr h => ?_)
  · obtain ⟨p, q, as, rows, s, n, rfl, _⟩ := h
    rfl
  · obtain ⟨p, q, as, rows, ch, n, rfl, hp, R, hl, hw, hb, hq, hnd, hlt, hcl, hn, res⟩ := h
    have big := line_big
    have hr1 : Room 1 _ := hr.mono (by decide)
    refine ⟨_, pss_cons (ps_set (i := 3) scCorner.nd rfl (Or.inl rfl) (pe_call Gs hr rfl ms ks bs .nil pass0 (pa_cons
        (pe_lc rfl scCorner.nd (pi_list (pv 0)) (blkOk_by (own := [("row", 7)]) (by show blkC ["rows", "chosen", "count", "found", "prices", "number", "price", "row"] (defScope sCorner) _ [("row", 7)] = true; decide +kernel))
          (fun s H C cl fp => pg_name (i := 7) scCorner.nd rfl (Or.inl rfl) (Or.inr rfl))
          (fun s H C cl fp => pts_nil)
          (fun s H C cl fp => pe_call Gn hr1 rfl mn kn bn .nil pass0 (pa_cons (pv 7) (pa_cons (pv 1) pa_nil))))
        (pa_cons (pe_callB call_len_seq (by rfl) hln PySem.boot_len (pa_cons (pv 1) pa_nil)) pa_nil))))
      (pss_cons (ps_if (pt_cmpR op_isN (pv 3) pe_non (nomark _)) (pss_one (ps_ret pe_non)) pss_nil)
      (pss_cons (ps_set (i := 4) scCorner.nd rfl (Or.inl rfl) (pe_op op_rep (pe_lst (pa_cons (pe_tup (pa_cons pe_int (pa_cons pe_int pa_nil))) pa_nil)) (pv 2)))
      (pss_cons (ps_for PassesOwn.never rfl (pi_zip rfl hzp (pa_cons (pv 1) (pa_cons (pv 3) pa_nil))) (pg_tup rfl (pgs_cons (pg_name (i := 5) scCorner.nd rfl (Or.inl rfl)) (pgs_cons (pg_name (i := 6) scCorner.nd rfl (Or.inl rfl)) pgs_nil)))
        (pss_cons (ps_if (pt_cmpR op_le (pe_ix ix_tup (pv 6) pe_int (fun _ _ => rfl)) pe_int (nomark _)) (pss_one (ps_ret pe_non)) pss_nil)
        (pss_one (ps_asg (pv 6) (pg_sub (pv 4) (pv 5) set_list)))))
      (pss_one (ps_ret (pv 4)))))), ?_⟩
    refine ⟨_, rfl, p, rfl, ⟨_, SqL.of hp⟩, fun D hD => ?_⟩
    have al : (as.map V.ref).length = rows.length := by rw [List.length_map, R.len]
    refine lc_list (K := K) (a := p) (xs := as.map V.ref) (fun j H' => Same H H' ∧ ∃ asN, H' D = some (.lst (asN.map V.ref)) ∧ D ∉ asN ∧ Rows H' asN ((rows.map fun row => narrowed row ch).take j)) ?_ ?_ ?_ ?_
    · exact ⟨same_upd hD, [], upd_same, by simp, by simpa using Rows.nil⟩
    · rintro j H' _ ⟨s1, _⟩
      exact SqL.of (s1 _ _ hp)
    · rintro j y H' hj ⟨s1, asN, hDn, nD, RN⟩
      obtain ⟨a, ha, rfl⟩ := map_ref hj
      have hjl : j < rows.length := by rw [← R.len]; exact (List.getElem?_eq_some_iff.mp ha).1
      obtain ⟨a', ha', hA⟩ := R.row hjl
      have : a' = a := Option.some.inj (ha'.symm.trans ha)
      subst this
      have rl := hw j hjl
      refine ⟨rfl, ?_⟩
      refine ⟨_, rfl, _, rfl, a', q, rows.getD j [], ch, rfl, s1 _ _ hA, s1 _ _ hq, fun c hc => by rw [rl]; have := hlt c hc; omega, by omega, by omega, fun H5 t s5 ht => ?_⟩
      have hD5 := s5 _ _ hDn
      have tD : t ≠ D := by
        intro e
        subst e
        rw [hD5] at ht
        have := Option.some.inj ht
        injection this with this
        have h2 := congrArg List.length this
        have h3 := congrArg (fun l => l[0]?) this
        simp only [List.getElem?_map] at h3
        cases e1 : asN[0]? with
        | none =>
          have : asN = [] := by
            cases asN with
            | nil => rfl
            | cons x t => simp at e1
          subst this
          simp [narrowed] at h2
        | some x =>
          rw [e1] at h3
          cases e2 : (narrowed (rows.getD j []) ch)[0]? with
          | none => rw [e2] at h3; cases h3
          | some y => rw [e2] at h3; cases h3
      have ge : (rows.map fun row => narrowed row ch)[j]? = some (narrowed (rows.getD j []) ch) := by
        rw [List.getElem?_map, List.getElem?_eq_getElem hjl, getD_lt hjl]; rfl
      refine ⟨_, hD5, ?_, same_over (s1.trans s5) hD, asN ++ [t], ?_, ?_, ?_⟩
      · rw [List.length_map, RN.len, List.length_take, List.length_map]
        omega
      · rw [upd_same, List.map_append]; rfl
      · have : D ≠ t := fun e => tD e.symm
        simp [nD, this]
      · rw [take_snoc ge]
        refine Rows.append ((RN.mono s5).upd nD) (Rows.one ?_)
        rw [upd_ne tD]
        exact ht
    · rintro H1 ⟨s1, asN, hDn, nD, RN⟩
      rw [al] at RN
      have el : (rows.map fun row => narrowed row ch).take rows.length = rows.map fun row => narrowed row ch := by
        have : (rows.map fun row => narrowed row ch).length = rows.length := by simp
        exact List.take_of_length_le (by omega)
      rw [el] at RN
      have wN : Wide (ch.length + 1) (rows.map fun row => narrowed row ch) := by
        intro i hi
        rw [getD_lt hi]
        simp [narrowed]
      have eq : ((ch.map Int.ofNat).map V.int).length = ch.length := by simp
      refine ⟨_, rfl, q, _, rfl, .inl (SqL.of (s1 _ _ hq)), D, asN, rows.map fun row => narrowed row ch, ch.length, by rw [eq]; rfl, hDn, RN, wN, hcl, by simp; omega, nar_bd hb, ?_, ?_⟩
      · intro hs H2 s2
        refine ⟨_, rfl, rfl, _, rfl, ite2 (fun _ => ?_) (fun hc => absurd rfl hc)⟩
        refine res.1 ?_ H2 (s1.trans s2)
        unfold cornerOn
        rw [hs]
      · intro fs hs H2 fo bs s2 hfo FB
        refine ⟨_, rfl, rfl, _, rfl, ite2 (fun hc => absurd (of_decide_eq_true hc) (by intro h; cases h)) (fun _ => ?_)⟩
        have fl : fs.length = ch.length := (solved_some wN hs).2.1
        -- prices = [(0, 1)] * count
        refine ⟨(by show 2 ≤ sizeLine; omega), fun t ht => ⟨(by show 1 ≤ sizeLine; omega), fun l1 hl1 => ?_⟩⟩
        refine ⟨_, rfl, l1, (n : Int), _, rfl, rfl, upd_same, by omega, by omega, ?_, fun pr hpr => ?_⟩
        · show 1 * (n : Int).toNat ≤ sizeLine
          omega
        have tn : (n : Int).toNat = n := by omega
        rw [tn, rep_one]
        have s3 : Same H2 (upd H2 t (.tup [.int 0, .int 1])) := same_upd ht
        have s4 : Same (upd H2 t (.tup [.int 0, .int 1])) (upd (upd H2 t (.tup [.int 0, .int 1])) l1 (.lst [.ref t])) := same_upd hl1
        have s5 := same_upd (o := .lst (List.replicate n (.ref t))) hpr
        have sA := ((s1.trans s2).trans (s3.trans s4)).trans s5
        have prH : H pr = none := ((s1.trans s2).trans (s3.trans s4)).free hpr
        have prn : ((s2.trans (s3.trans s4))) = ((s2.trans (s3.trans s4))) := rfl
        have q2 := sA _ _ hq
        have fo2 := (s3.trans s4 |>.trans s5) _ _ hfo
        have FB2 := FB.mono ((s3.trans s4).trans s5)
        have prfo : fo ≠ pr := ne_of_none ((s3.trans s4) _ _ hfo) hpr
        refine ⟨_, rfl, _, rfl, q, fo, _, _, rfl, SqL.of q2, SqL.of fo2, ?_⟩
        have tt : (upd (upd (upd H2 t (.tup [.int 0, .int 1])) l1 (.lst [.ref t])) pr (.lst (List.replicate n (.ref t)))) t = some (.tup (frV (0, 1))) := s5 _ _ (s4 _ _ upd_same)
        have lz : ((ch.map Int.ofNat).map V.int).length = (bs.map V.ref).length := by rw [List.length_map, List.length_map, List.length_map, FB.len, fl]
        refine for_zip (K := K) (a := q) (b := fo) (xs := (ch.map Int.ofNat).map V.int) (ys := bs.map V.ref) lz
          (fun j σ H' => ∃ (cs : List Addr) (v5 v6 : Option V), σ = [some (.ref p), some (.ref q), some (.int (n : Int)), some (.ref fo), some (.ref pr), v5, v6, none] ∧ Same H H' ∧ H' fo = some (.lst (bs.map V.ref)) ∧ Frs H' bs fs ∧ H' pr = some (.lst (cs.map V.ref)) ∧ Frs H' cs (part ch fs n j) ∧ (∀ i f, i < j → fs[i]? = some f → 0 < f.1)) ?_ ?_ ?_ ?_
        · refine ⟨List.replicate n t, none, none, rfl, sA, fo2, FB2, ?_, ?_, fun i f hi => by omega⟩
          · rw [upd_same, List.map_replicate]
          · rw [part_zero]
            exact Frs.rep tt n
        · rintro j σ H' _ ⟨_, _, _, _, s6, hfo6, _⟩
          exact ⟨SqL.of (s6 _ _ hq), SqL.of hfo6⟩
        · rintro j x y σ H' T hx hy ⟨cs, v5, v6, rfl, s6, hfo6, FB6, hpr6, FC6, hpos⟩ hT
          have hjl : j < ch.length := by
            have := (List.getElem?_eq_some_iff.mp hx).1
            simpa using this
          rw [List.getElem?_map, List.getElem?_map, List.getElem?_eq_getElem hjl] at hx
          have ex : V.int (Int.ofNat ch[j]) = x := Option.some.inj hx
          subst ex
          obtain ⟨b, hb', rfl⟩ := map_ref hy
          obtain ⟨g, hg, hB⟩ := FB6.at_ j b hb'
          have s7 : Same H' (upd H' T (.tup [.int (Int.ofNat ch[j]), .ref b])) := same_upd hT
          refine ⟨T, _, rfl, SqT.of upd_same, rfl, _, _, rfl, _, _, rfl, rfl, ?_⟩
          refine ⟨_, rfl, b, _, _, _, rfl, rfl, SqT.of (s7 _ _ hB), fr0 g, _, _, rfl, rfl, _, rfl, ?_⟩
          refine ite2 (fun hc => ?_) (fun hc => ?_)
          · have h0 : g.1 ≤ 0 := of_decide_eq_true hc
            refine res.1 ?_ _ (s6.trans s7)
            unfold cornerOn
            rw [hs]
            simp only
            rw [if_pos]
            exact List.any_eq_true.mpr ⟨g, List.mem_of_getElem? hg, decide_eq_true h0⟩
          · have h0 : 0 < g.1 := by
              have : ¬ g.1 ≤ 0 := fun h => hc (decide_eq_true h)
              omega
            have cl : (cs.map V.ref).length = n := by rw [List.length_map, FC6.len, part_len]
            have hcn := hlt _ (List.getElem_mem hjl)
            refine ⟨_, rfl, _, rfl, _, rfl, pr, _, _, ch[j], rfl, rfl, s7 _ _ hpr6, ixN_nat (by rw [cl]; exact hcn), ?_⟩
            have nb : pr ∉ bs := (FB6.mono s7).not_lst (s7 _ _ hpr6)
            have nc : pr ∉ cs := (FC6.mono s7).not_lst (s7 _ _ hpr6)
            have npb : pr ≠ b := fun e => nb (e ▸ List.mem_of_getElem? hb')
            have nfo : fo ≠ pr := prfo
            refine ⟨cs.set ch[j] b, _, _, rfl, same_over (s6.trans s7) prH, ?_, (FB6.mono s7).upd nb, ?_, ?_, ?_⟩
            · rw [upd_ne nfo]; exact s7 _ _ hfo6
            · rw [upd_same, List.map_set]
            · rw [part_step hnd hjl hg]
              have : pr ∉ cs.set ch[j] b := fun hm => by
                rcases List.mem_or_eq_of_mem_set hm with h | h
                · exact nc h
                · exact npb h
              exact ((FC6.mono s7).set (s7 _ _ hB)).upd this
            · intro i f hi hf
              by_cases e : i = j
              · subst e
                rw [hg] at hf
                cases hf
                exact h0
              · exact hpos i f (by omega) hf
        · rintro σ H' ⟨cs, v5, v6, rfl, s6, hfo6, FB6, hpr6, FC6, hpos⟩
          rw [List.length_map, List.length_map] at FC6 hpos
          rw [part_all] at FC6
          refine ⟨_, rfl, res.2 _ ?_ H' pr cs s6 hpr6 FC6 prH⟩
          unfold cornerOn
          rw [hs]
          simp only
          rw [if_neg]
          rw [List.any_eq_true]
          rintro ⟨g, hg, hg0⟩
          obtain ⟨i, hi⟩ := List.mem_iff_getElem?.mp hg
          have := hpos i g (by rw [← fl]; exact (List.getElem?_eq_some_iff.mp hi).1) hi
          have := of_decide_eq_true hg0
          omega
end
end DA
set_option Elab.async false
set_option maxRecDepth 100000
set_option maxHeartbeats 2000000
namespace DA
open PySem PySem.Spec PyProof.Rows L2
open Su109 (Fr low over plus less at_ choose least greatest)
abbrev sFair : Stmt := top 14
abbrev sWorth : Stmt := top 15
abbrev sLeast : Stmt := top 16
/-! ### corners, laid -/
structure Crs (H : Hp) (as : List Addr) (qs : List (List Fr)) : Prop where
  len : as.length = qs.length
  at_ : ∀ (i : Nat) (a : Addr), as[i]? = some a → ∃ q bs, qs[i]? = some q ∧ H a = some (.lst (bs.map V.ref)) ∧ Frs H bs q
theorem Crs.nil {H : Hp} : Crs H [] [] := ⟨rfl, fun i a h => by simp at h⟩
theorem Crs.mono {H H' : Hp} {as : List Addr} {qs : List (List Fr)} (R : Crs H as qs) (s : Same H H') : Crs H' as qs :=
  ⟨R.len, fun i a h => let ⟨q, bs, h1, h2, h3⟩ := R.at_ i a h; ⟨q, bs, h1, s _ _ h2, h3.mono s⟩⟩
theorem Crs.upd {H : Hp} {as : List Addr} {qs : List (List Fr)} {p : Addr} {o : HO} {xs : List V} (R : Crs H as qs) (n : p ∉ as) (h : H p = some (.lst xs)) : Crs (upd H p o) as qs :=
  ⟨R.len, fun i a e => let ⟨q, bs, h1, h2, h3⟩ := R.at_ i a e; ⟨q, bs, h1, by rw [upd_ne (fun (e' : a = p) => n (e' ▸ List.mem_of_getElem? e))]; exact h2, h3.upd (h3.not_lst h)⟩⟩
theorem Crs.snoc {H : Hp} {as bs : List Addr} {qs : List (List Fr)} {a : Addr} {q : List Fr} (R : Crs H as qs) (h : H a = some (.lst (bs.map V.ref))) (h2 : Frs H bs q) : Crs H (as ++ [a]) (qs ++ [q]) := by
  refine ⟨by simp [R.len], fun i b e => ?_⟩
  by_cases hi : i < as.length
  · rw [List.getElem?_append_left hi] at e
    obtain ⟨r, cs, h1, h2, h3⟩ := R.at_ i b e
    exact ⟨r, cs, by rw [List.getElem?_append_left (by rw [← R.len]; exact hi)]; exact h1, h2, h3⟩
  · rw [List.getElem?_append_right (by omega)] at e
    have hi' : i = as.length := by
      have := (List.getElem?_eq_some_iff.mp e).1
      simp at this
      omega
    subst hi'
    simp at e
    subst e
    exact ⟨q, bs, by rw [List.getElem?_append_right (by rw [R.len]; exact Nat.le_refl _), R.len]; simp, h, h2⟩
def spFind : Sp := fun vs H Q _ => ∃ (p : Addr) (as : List Addr) (rows : List (List Int)) (n : Nat), vs = [.ref p, .int (n : Int)] ∧ H p = some (.lst (as.map V.ref)) ∧ Rows H as rows ∧ rows.length < 100 ∧ Wide (n + 1) rows ∧ RBd 10 rows ∧ n ≤ 4 ∧
  ∀ (H' : Hp) (q : Addr) (cs : List Addr), Same H H' → H' q = some (.lst (cs.map V.ref)) → Crs H' cs ((choicesAll n).filterMap fun s => cornerOn rows s n) → Q (.ref q) H'
theorem choices_le {n : Nat} (h : n ≤ 4) : (choicesAll n).length ≤ 15 := by
  have : n = 0 ∨ n = 1 ∨ n = 2 ∨ n = 3 ∨ n = 4 := by omega
  rcases this with e | e | e | e | e <;> subst e <;> decide
theorem filterMap_le {α β : Type} (f : α → Option β) (l : List α) : (l.filterMap f).length ≤ l.length := List.length_filterMap_le f l
section
variable {P : Program} {w : World} {K : PySem.W.Frag} {mg : Str → Option Value} {base : Heap}
theorem scFind : FnScope ["rows", "count", "found", "chosen", "corner"] ["rows", "count"] (defScope sFind) := ⟨rfl, rfl, rfl, by decide +kernel, rfl, by decide +kernel, by decide +kernel⟩
theorem ok_find {f fh fc : Addr} {fd fdh fdc : FuncData} (F : Fun K "find_corners" "find_corners" sFind f fd)
    (kh : PySem.W.keepIn K (.ref fh) = true) (Gh : FnOk P w K mg base CX0 1 fh fdh ["count"] spChoices) (mh : mg "choices" = some (.ref fh)) (bh : Binds K fdh ["count"] [])
    (kc : PySem.W.keepIn K (.ref fc) = true) (Gc : FnOk P w K mg base CX0 4 fc fdc ["rows", "chosen", "count"] spCorner) (mc : mg "corner_on" = some (.ref fc)) (bc : Binds K fdc ["rows", "chosen", "count"] []) :
    FnOk P w K mg base CX0 5 f fd ["rows", "count"] spFind := by
  refine F.ok scFind (fun vs H Q E h => ?_) (fun cdv A outer s H vs Q E hr h => ?_)
  · obtain ⟨p, as, rows, n, rfl, _⟩ := h
    rfl
  · obtain ⟨p, as, rows, n, rfl, hp, R, hl, hw, hb, hn, k⟩ := h
    have big := line_big
    have hr1 : Room 1 _ := hr.mono (by decide)
    refine ⟨_, pss_cons (ps_set (i := 2) scFind.nd rfl (Or.inl rfl) (pe_lst pa_nil))
      (pss_cons (ps_for PassesOwn.never rfl (pi_list (pe_call Gh hr1 rfl mh kh bh .nil pass0 (pa_cons (pv 1) pa_nil))) (pg_name (i := 3) scFind.nd rfl (Or.inl rfl))
        (pss_cons (ps_set (i := 4) scFind.nd rfl (Or.inl rfl) (pe_call Gc hr rfl mc kc bc .nil pass0 (pa_cons (pv 0) (pa_cons (pv 3) (pa_cons (pv 1) pa_nil)))))
        (pss_one (ps_if (pt_cmpR op_notN (pv 4) pe_non (nomark _)) (pss_one (ps_expr (pe_bm PySem.F.plainAttrs_list PySem.F.slot_list_append PySem.F.type_list_append mt_append (pv 2) (pa_cons (pv 4) pa_nil)))) pss_nil))))
      (pss_one (ps_ret (pv 2)))), ?_⟩
    refine ⟨Nat.zero_le _, fun fo hfo => ?_⟩
    have s0 : Same H (upd H fo (.lst [])) := same_upd hfo
    refine ⟨_, rfl, n, rfl, hn, fun H1 ca cas s1 hca RC nca ncas => ?_⟩
    have hfo1 := s1 _ _ (upd_same : (upd H fo (.lst [])) fo = some (.lst []))
    have cfo : ca ≠ fo := fun e => by rw [e, upd_same] at nca; cases nca
    have cas_fo : fo ∉ cas := fun m => by have := ncas fo m; rw [upd_same] at this; cases this
    refine ⟨ca, rfl, ⟨_, SqL.of hca⟩, ?_⟩
    have lc : (cas.map V.ref).length = (choicesAll n).length := by rw [List.length_map, RC.len]; simp [choicesI]
    refine for_list (K := K) (a := ca) (xs := cas.map V.ref) (fun j σ H' => ∃ (cs : List Addr) (v3 v4 : Option V), σ = [some (.ref p), some (.int (n : Int)), some (.ref fo), v3, v4] ∧ Same H H' ∧ H' ca = some (.lst (cas.map V.ref)) ∧ Rows H' cas (choicesI n) ∧
      H' fo = some (.lst (cs.map V.ref)) ∧ fo ∉ cs ∧ Crs H' cs (((choicesAll n).take j).filterMap fun s => cornerOn rows s n)) ?_ ?_ ?_ ?_
    · exact ⟨[], none, none, rfl, s0.trans s1, hca, RC, hfo1, by simp, by simpa using Crs.nil⟩
    · rintro j σ H' _ ⟨_, _, _, _, _, h, _⟩
      exact SqL.of h
    · rintro j y σ H2 hj ⟨cs, v3, v4, rfl, s2, hca2, RC2, hfo2, nfo, CC⟩
      obtain ⟨a, ha, rfl⟩ := map_ref hj
      obtain ⟨r, hr', hA⟩ := RC2.at_ j a ha
      obtain ⟨ch, hch, rfl⟩ : ∃ ch, (choicesAll n)[j]? = some ch ∧ r = ch.map Int.ofNat := by
        unfold choicesI at hr'
        rw [List.getElem?_map] at hr'
        cases e : (choicesAll n)[j]? with
        | none => rw [e] at hr'; cases hr'
        | some ch => rw [e] at hr'; exact ⟨ch, rfl, (Option.some.inj hr').symm⟩
      have hm : ch ∈ upTo n n := List.mem_of_getElem? hch
      obtain ⟨m1, m2, m3⟩ := mem_upTo.mp hm
      obtain ⟨nd, lt⟩ := sub_sets m1
      have cl : cs.length ≤ 15 := by
        rw [CC.len]
        have h1 := filterMap_le (fun s => cornerOn rows s n) ((choicesAll n).take j)
        have h2 := choices_le hn
        rw [List.length_take] at h1
        omega
      refine ⟨_, rfl, _, rfl, _, rfl, p, a, as, rows, ch, n, rfl, s2 _ _ hp, R.mono s2, hl, hw, hb, hA, nd, lt, by omega, hn, ?_, ?_⟩
      · intro hnone H3 s3
        refine ⟨_, rfl, rfl, _, rfl, ite2 (fun hc => absurd hc (by decide)) (fun _ => ?_)⟩
        refine ⟨cs, _, _, rfl, s2.trans s3, s3 _ _ hca2, RC2.mono s3, s3 _ _ hfo2, nfo, ?_⟩
        rw [take_snoc hch, List.filterMap_append]
        have : [ch].filterMap (fun s => cornerOn rows s n) = [] := by simp [hnone]
        rw [this, List.append_nil]
        exact CC.mono s3
      · intro q hq H3 t bs s3 ht FT nt
        have tfo : fo ≠ t := fun e => by rw [← e, hfo2] at nt; cases nt
        refine ⟨_, rfl, rfl, _, rfl, ite2 (fun _ => ?_) (fun hc => absurd (by simp) hc)⟩
        refine ⟨_, rfl, .inl ⟨rfl, _, SqL.of (s3 _ _ hfo2)⟩, _, rfl, fo, _, _, rfl, rfl, s3 _ _ hfo2, (by rw [List.length_map]; omega), ?_⟩
        have FT' := FT.upd (o := .lst (cs.map V.ref ++ [V.ref t])) (FT.not_lst (s3 _ _ hfo2))
        refine ⟨cs ++ [t], _, _, rfl, same_over (s2.trans s3) hfo, ?_, (RC2.mono s3).upd cas_fo, ?_, ?_, ?_⟩
        · rw [upd_ne cfo]; exact s3 _ _ hca2
        · rw [upd_same, List.map_append]; rfl
        · simp [nfo, tfo]
        · rw [take_snoc hch, List.filterMap_append]
          have : [ch].filterMap (fun s => cornerOn rows s n) = [q] := by simp [hq]
          rw [this]
          refine Crs.snoc (bs := bs) ((CC.mono s3).upd nfo (s3 _ _ hfo2)) ?_ FT'
          rw [upd_ne (fun e => tfo e.symm)]
          exact ht
    · rintro σ H2 ⟨cs, v3, v4, rfl, s2, hca2, RC2, hfo2, nfo, CC⟩
      rw [lc, List.take_length] at CC
      exact ⟨_, rfl, k H2 fo cs s2 hfo2 CC⟩
/-! ### are_fair -/
def spFair : Sp := fun vs H Q _ => ∃ (p : Addr) (as : List Addr) (qs : List (List Fr)) (n : Nat), vs = [.ref p, .int (n : Int)] ∧ H p = some (.lst (as.map V.ref)) ∧ Crs H as qs ∧ (∀ q, q ∈ qs → q.length = n) ∧ qs.length < 100 ∧ n ≤ 4 ∧
  ∀ H' : Hp, Same H H' → Q (.bl (mFair qs n)) H'
theorem scFair : FnScope ["corners", "count", "number", "corner"] ["corners", "count"] (defScope sFair) := ⟨rfl, rfl, rfl, by decide +kernel, rfl, by decide +kernel, by decide +kernel⟩
theorem Frs.get {H : Hp} {as : List Addr} {fs : List Fr} (R : Frs H as fs) {i : Nat} (hi : i < fs.length) : ∃ a, as[i]? = some a ∧ H a = some (.tup (frV (fs.getD i (0, 1)))) := by
  have h : i < as.length := by rw [R.len]; exact hi
  refine ⟨as[i], List.getElem?_eq_getElem h, ?_⟩
  obtain ⟨f, h1, h2⟩ := R.at_ i as[i] (List.getElem?_eq_getElem h)
  have : fs.getD i (0, 1) = f := by
    rw [getD_lt hi]
    rw [List.getElem?_eq_getElem hi] at h1
    exact Option.some.inj h1
  rw [this]
  exact h2
theorem ok_fair {f : Addr} {fd : FuncData} (F : Fun K "are_fair" "are_fair" sFair f fd) (hrg : mg "range" = none) (han : mg "any" = none) : FnOk P w K mg base CX0 1 f fd ["corners", "count"] spFair := by
  refine F.ok scFair (fun vs H Q E h => ?_) (fun cdv A outer s H vs Q E hr h => ?_)
  · obtain ⟨p, as, qs, n, rfl, _⟩ := h
    rfl
  · obtain ⟨p, as, qs, n, rfl, hp, C, hq, hl, hn, k⟩ := h
    have big := line_big
    refine ⟨_, pss_cons (ps_for PassesOwn.never rfl (pi_range1 rfl hrg (pa_cons (pv 1) pa_nil)) (pg_name (i := 2) scFair.nd rfl (Or.inr rfl))
        (pss_one (ps_if (pt_not (pt_val (pe_callB (cr_any rfl) (by rfl) han PyProof.Rows.boot_any (pa_cons
          (pe_lc rfl scFair.nd (pi_list (pv 0)) (blkOk_by (own := [("corner", 3)]) (by show blkC ["corners", "count", "number", "corner"] (defScope sFair) _ [("corner", 3)] = true; decide +kernel))
            (fun s H C cl fp => pg_name (i := 3) scFair.nd rfl (Or.inl rfl) (Or.inr rfl))
            (fun s H C cl fp => pts_nil)
            (fun s H C cl fp => pe_cmpR op_ne (pe_ix (show IxR _ (rIxT K) from ix_tup) (pe_ix (show IxR _ (rIxL K) from ix_list) (pv 3) (pv 2) (fun _ _ => rfl)) pe_int (fun _ _ => rfl)) pe_int (nomark _))) pa_nil))))
          (pss_one (ps_ret pe_bl)) pss_nil)))
      (pss_one (ps_ret pe_bl)), ?_⟩
    refine ⟨_, rfl, (n : Int), rfl, by omega, by omega, ?_⟩
    refine for_range (lo := 0) (n := (n : Int).toNat) (fun i σ H' => ∃ v2 : Option V, σ = [some (.ref p), some (.int (n : Int)), v2, none] ∧ Same H H' ∧ ∀ c, c < i → (qs.any fun q => (q.getD c (0, 1)).1 != 0) = true) ?_ ?_ ?_
    · exact ⟨none, rfl, Same.refl H, fun c h => by omega⟩
    · rintro i σ H1 hi ⟨v2, rfl, s1, ht⟩
      have hin : i < n := by omega
      have z : (0 : Int) + (i : Int) = (i : Int) := Int.zero_add _
      rw [z]
      refine ⟨_, rfl, p, rfl, ⟨_, SqL.of (s1 _ _ hp)⟩, fun D hD => ?_⟩
      refine lc_list (K := K) (a := p) (xs := as.map V.ref) (fun j H' => Same H1 H' ∧ H' D = some (.lst ((((qs.take j).map fun q => (q.getD i (0, 1)).1 != 0)).map V.bl))) ?_ ?_ ?_ ?_
      · exact ⟨same_upd hD, by rw [upd_same]; simp⟩
      · rintro j H' _ ⟨s2, _⟩
        exact SqL.of (s2 _ _ (s1 _ _ hp))
      · rintro j y H' hj ⟨s2, hD'⟩
        obtain ⟨a, ha, rfl⟩ := map_ref hj
        obtain ⟨q, bs, h1, h2, h3⟩ := (C.mono (s1.trans s2)).at_ j a ha
        have ql := hq q (List.mem_of_getElem? h1)
        obtain ⟨b, hb, hB⟩ := h3.get (show i < q.length by omega)
        refine ⟨rfl, ?_⟩
        refine ⟨_, rfl, _, rfl, a, _, _, _, rfl, rfl, SqL.of h2, at_of (j := i) rfl (ref_at hb), b, _, _, _, rfl, rfl, SqT.of hB, fr0 _, rfl, ?_⟩
        refine ⟨_, hD', ?_, same_over s2 hD, ?_⟩
        · rw [List.length_map, List.length_map, List.length_take]
          omega
        · rw [upd_same, take_snoc h1, List.map_append, List.map_append]
          simp only [List.map_cons, List.map_nil]
          have e : (!decide (V.int (q.getD i (0, 1)).1 = V.int 0)) = ((q.getD i (0, 1)).1 != 0) := by
            rw [dec_int]; rfl
          rw [e]
      · rintro H' ⟨s2, hD'⟩
        have el : (as.map V.ref).length = qs.length := by rw [List.length_map, C.len]
        rw [el, List.take_length] at hD'
        refine ⟨D, _, rfl, SqL.of hD', _, rfl, ?_⟩
        have e : (qs.map fun q => (q.getD i (0, 1)).1 != 0).any id = qs.any fun q => (q.getD i (0, 1)).1 != 0 := by
          rw [List.any_map]; rfl
        rw [e]
        cases hc : (qs.any fun q => (q.getD i (0, 1)).1 != 0) with
        | true =>
          refine ite2 (fun h => absurd h (by decide)) (fun _ => ?_)
          refine ⟨_, rfl, s1.trans s2, fun c hci => ?_⟩
          by_cases ec : c = i
          · subst ec; exact hc
          · exact ht c (by omega)
        | false =>
          refine ite2 (fun _ => ?_) (fun h => absurd rfl h)
          have := k H' (s1.trans s2)
          have e2 : mFair qs n = false := by
            unfold mFair
            cases hx : ((List.range n).all fun c => qs.any fun q => (q.getD c (0, 1)).1 != 0) with
            | false => rfl
            | true =>
              rw [List.all_eq_true] at hx
              have := hx i (List.mem_range.mpr hin)
              rw [hc] at this
              cases this
          rw [e2] at this
          exact this
    · rintro σ H1 ⟨v2, rfl, s1, ht⟩
      have := k H1 s1
      have e2 : mFair qs n = true := by
        unfold mFair
        rw [List.all_eq_true]
        intro c hc
        rw [List.mem_range] at hc
        exact ht c (by omega)
      rw [e2] at this
      exact this
end
end DA
set_option Elab.async false
set_option maxRecDepth 100000
set_option maxHeartbeats 2000000
namespace DA
open PySem PySem.Spec PyProof.Rows L2
open Su109 (Fr low over plus less at_ choose least greatest)
theorem Sz.mono {k l : Nat} {f : Fr} (h : Sz k f) (hk : k ≤ l) : Sz l f :=
  ⟨Nat.lt_of_lt_of_le h.1 (Nat.pow_le_pow_right (by decide) hk), Nat.lt_of_lt_of_le h.2 (Nat.pow_le_pow_right (by decide) hk)⟩
theorem low_sz {x : Int} {n k : Nat} (hn : 0 < n) (hx : x.natAbs < 2 ^ k) (hn2 : n < 2 ^ k) : Sz k (low x n) := by
  have h := over_sz (a := x) (b := (n : Int)) (k := k) (by omega) hx (by simpa using hn2)
  have e : over x (n : Int) = low x n := by
    unfold over
    rw [if_neg (by omega)]
    rfl
  rw [e] at h
  exact h
theorem plus_sz {f g : Fr} {k l : Nat} (hf : 0 < f.2) (hg : 0 < g.2) (zf : Sz k f) (zg : Sz l g) : Sz (k + l + 1) (plus f g) := by
  have e : 2 ^ (k + l + 1) = 2 ^ (k + l) + 2 ^ (k + l) := by rw [Nat.pow_succ]; omega
  unfold plus
  refine low_sz (Nat.mul_pos hf hg) ?_ ?_
  · have h1 := pow_mul_lt zf.1 zg.2
    have h2 := pow_mul_lt zg.1 zf.2
    have e1 : (f.1 * Int.ofNat g.2).natAbs = f.1.natAbs * g.2 := by rw [Int.natAbs_mul]; rfl
    have e2 : (g.1 * Int.ofNat f.2).natAbs = g.1.natAbs * f.2 := by rw [Int.natAbs_mul]; rfl
    rw [Nat.add_comm l k] at h2
    rw [← e1] at h1
    rw [← e2] at h2
    omega
  · have h1 := pow_mul_lt zf.2 zg.2
    omega
theorem plus_pos {f g : Fr} (hf : 0 < f.2) (hg : 0 < g.2) : 0 < (plus f g).2 := (low_red (Nat.mul_pos hf hg)).1
theorem term_sz {f : Fr} {x : Int} (hf : 0 < f.2) (zf : Sz 175 f) (hx : x.natAbs < 2 ^ 10) : Sz 185 (low (f.1 * x) f.2) ∧ 0 < (low (f.1 * x) f.2).2 := by
  refine ⟨low_sz hf ?_ ?_, (low_red hf).1⟩
  · rw [Int.natAbs_mul]
    exact pow_mul_lt zf.1 hx
  · exact Nat.lt_of_lt_of_le zf.2 (Nat.pow_le_pow_right (by decide) (by decide))
/-- the worth so far -/
def worthN (q : List Fr) (p : List Int) (j : Nat) : Fr := ((q.zip p).take j).foldl (fun w x => plus w (low (x.1.1 * x.2) x.1.2)) (0, 1)
theorem worthN_zero (q : List Fr) (p : List Int) : worthN q p 0 = (0, 1) := by simp [worthN]
theorem worthN_succ {q : List Fr} {p : List Int} {j : Nat} {f : Fr} {x : Int} (hf : q[j]? = some f) (hx : p[j]? = some x) : worthN q p (j + 1) = plus (worthN q p j) (low (f.1 * x) f.2) := by
  unfold worthN
  have : (q.zip p)[j]? = some (f, x) := by
    rw [List.getElem?_zip_eq_some]
    exact ⟨hf, hx⟩
  rw [take_snoc this, List.foldl_append]
  rfl
theorem worthN_all {q : List Fr} {p : List Int} {j : Nat} (h : q.length ≤ j) : worthN q p j = mWorth q p := by
  unfold worthN mWorth
  rw [List.take_of_length_le]
  rw [List.length_zip]
  omega
theorem worthN_sz {q : List Fr} {p : List Int} (hl : q.length = p.length) (hq : ∀ f, f ∈ q → 0 < f.2 ∧ Sz 175 f) (hp : ∀ x, x ∈ p → x.natAbs < 2 ^ 10) : ∀ j, j ≤ q.length → Sz (1 + 186 * j) (worthN q p j) ∧ 0 < (worthN q p j).2
  | 0, _ => by
    rw [worthN_zero]
    exact ⟨⟨by decide, by decide⟩, by decide⟩
  | j + 1, h => by
    obtain ⟨z, p0⟩ := worthN_sz hl hq hp j (by omega)
    have e1 : q[j]? = some q[j] := List.getElem?_eq_getElem (by omega)
    have e2 : p[j]? = some p[j] := List.getElem?_eq_getElem (by omega)
    obtain ⟨h1, h2⟩ := hq _ (List.mem_of_getElem? e1)
    obtain ⟨t1, t2⟩ := term_sz h1 h2 (hp _ (List.mem_of_getElem? e2))
    rw [worthN_succ e1 e2]
    refine ⟨?_, plus_pos p0 t2⟩
    have := plus_sz p0 t2 z t1
    have e : 1 + 186 * j + 185 + 1 = 1 + 186 * (j + 1) := by omega
    rw [e] at this
    exact this
/-! ### worth_by -/
def spWorth : Sp := fun vs H Q _ => ∃ (p q : Addr) (bs : List Addr) (fs : List Fr) (ps : List Int), vs = [.ref p, .ref q] ∧ H p = some (.lst (bs.map V.ref)) ∧ Frs H bs fs ∧ H q = some (.lst (ps.map V.int)) ∧ fs.length = ps.length ∧ fs.length ≤ 4 ∧
  (∀ f, f ∈ fs → 0 < f.2 ∧ Sz 175 f) ∧ (∀ x, x ∈ ps → x.natAbs < 2 ^ 10) ∧ ∀ (H' : Hp) (t : Addr), Same H H' → H' t = some (.tup (frV (mWorth fs ps))) → Q (.ref t) H'
section
variable {P : Program} {w : World} {K : PySem.W.Frag} {mg : Str → Option Value} {base : Heap}
theorem scWorth : FnScope ["prices", "pays", "worth", "price", "paid"] ["prices", "pays"] (defScope sWorth) := ⟨rfl, rfl, rfl, by decide +kernel, rfl, by decide +kernel, by decide +kernel⟩
theorem ok_worth {f fa ft : Addr} {fd fda fdt : FuncData} (F : Fun K "worth_by" "worth_by" sWorth f fd) (hzp : mg "zip" = none)
    (ka : PySem.W.keepIn K (.ref fa) = true) (Ga : FnOk P w K mg base CX0 3 fa fda ["one", "other"] (spAdd K)) (ma : mg "add" = some (.ref fa)) (ba : Binds K fda ["one", "other"] [])
    (kt : PySem.W.keepIn K (.ref ft) = true) (Gt : FnOk P w K mg base CX0 3 ft fdt ["number", "one"] (spTimes K)) (mt : mg "times" = some (.ref ft)) (bt : Binds K fdt ["number", "one"] []) :
    FnOk P w K mg base CX0 4 f fd ["prices", "pays"] spWorth := by
  refine F.ok scWorth (fun vs H Q E h => ?_) (fun cdv A outer s H vs Q E hr h => ?_)
  · obtain ⟨p, q, bs, fs, ps, rfl, _⟩ := h
    rfl
  · obtain ⟨p, q, bs, fs, ps, rfl, hp, FB, hq, hl, hl4, hf, hx, k⟩ := h
    have big := line_big
    refine ⟨_, pss_cons (ps_set (i := 2) scWorth.nd rfl (Or.inl rfl) (pe_tup (pa_cons pe_int (pa_cons pe_int pa_nil))))
      (pss_cons (ps_for PassesOwn.never rfl (pi_zip rfl hzp (pa_cons (pv 0) (pa_cons (pv 1) pa_nil))) (pg_tup rfl (pgs_cons (pg_name (i := 3) scWorth.nd rfl (Or.inl rfl)) (pgs_cons (pg_name (i := 4) scWorth.nd rfl (Or.inl rfl)) pgs_nil)))
        (pss_one (ps_set (i := 2) scWorth.nd rfl (Or.inl rfl) (pe_call Ga hr rfl ma ka ba .nil pass0 (pa_cons (pv 2) (pa_cons (pe_call Gt hr rfl mt kt bt .nil pass0 (pa_cons (pv 4) (pa_cons (pv 3) pa_nil))) pa_nil))))))
      (pss_one (ps_ret (pv 2)))), ?_⟩
    refine ⟨(by show 2 ≤ sizeLine; omega), fun t ht => ?_⟩
    have s0 : Same H (upd H t (.tup [.int 0, .int 1])) := same_upd ht
    refine ⟨_, rfl, _, rfl, p, q, _, _, rfl, SqL.of (s0 _ _ hp), SqL.of (s0 _ _ hq), ?_⟩
    refine for_zip (K := K) (a := p) (b := q) (xs := bs.map V.ref) (ys := ps.map V.int) (by rw [List.length_map, List.length_map, FB.len, hl])
      (fun j σ H' => ∃ (t : Addr) (v3 v4 : Option V), σ = [some (.ref p), some (.ref q), some (.ref t), v3, v4] ∧ Same H H' ∧ H' t = some (.tup (frV (worthN fs ps j)))) ?_ ?_ ?_ ?_
    · refine ⟨t, none, none, rfl, s0, ?_⟩
      rw [upd_same, worthN_zero]
      rfl
    · rintro j σ H' _ ⟨_, _, _, _, s1, _⟩
      exact ⟨SqL.of (s1 _ _ hp), SqL.of (s1 _ _ hq)⟩
    · rintro j x y σ H' T hx' hy' ⟨t, v3, v4, rfl, s1, ht1⟩ hT
      obtain ⟨b, hb, rfl⟩ := map_ref hx'
      obtain ⟨g, hg, hB⟩ := FB.at_ j b hb
      have hjl : j < ps.length := by rw [← hl]; exact (List.getElem?_eq_some_iff.mp hg).1
      rw [List.getElem?_map, List.getElem?_eq_getElem hjl] at hy'
      have ey : V.int ps[j] = y := Option.some.inj hy'
      subst ey
      have e2 : ps[j]? = some ps[j] := List.getElem?_eq_getElem hjl
      obtain ⟨g1, g2⟩ := hf g (List.mem_of_getElem? hg)
      have hxs := hx _ (List.mem_of_getElem? e2)
      obtain ⟨t1, t2⟩ := term_sz g1 g2 hxs
      obtain ⟨w1, w2⟩ := worthN_sz hl hf hx j (by omega)
      have s2 : Same H' (upd H' T (.tup [.ref b, .int ps[j]])) := same_upd hT
      refine ⟨T, _, rfl, SqT.of upd_same, rfl, _, _, rfl, _, _, rfl, rfl, ?_⟩
      refine ⟨_, rfl, _, rfl, _, rfl, ps[j], b, g, rfl, SqT.of (s2 _ _ (s1 _ _ hB)), g1, sz_small (by decide) hxs, g2.mono (by decide), fun H3 u s3 hu => ?_⟩
      refine ⟨t, u, worthN fs ps j, low (g.1 * ps[j]) g.2, rfl, SqT.of (s3 _ _ (s2 _ _ ht1)), SqT.of hu, w2, t2, w1.mono (by omega), t1.mono (by decide), fun H4 v s4 hv => ?_⟩
      refine ⟨v, _, _, rfl, ((s1.trans s2).trans s3).trans s4, ?_⟩
      rw [worthN_succ hg e2]
      exact hv
    · rintro σ H' ⟨t, v3, v4, rfl, s1, ht1⟩
      refine ⟨_, rfl, k H' t s1 ?_⟩
      rw [List.length_map, FB.len, worthN_all (Nat.le_refl _)] at ht1
      exact ht1
/-! ### least_and_greatest -/
def leastN (l : List Fr) (j : Nat) : Fr := ((l.drop 1).take j).foldl (fun b x => if less x b then x else b) (l.headD (0, 1))
def greatestN (l : List Fr) (j : Nat) : Fr := ((l.drop 1).take j).foldl (fun b x => if less b x then x else b) (l.headD (0, 1))
def spLeast : Sp := fun vs H Q _ => ∃ (p q : Addr) (as : List Addr) (qs : List (List Fr)) (ps : List Int), vs = [.ref p, .ref q] ∧ H p = some (.lst (as.map V.ref)) ∧ Crs H as qs ∧ H q = some (.lst (ps.map V.int)) ∧ 0 < qs.length ∧ ps.length ≤ 4 ∧
  (∀ fs, fs ∈ qs → fs.length = ps.length ∧ ∀ f, f ∈ fs → 0 < f.2 ∧ Sz 175 f) ∧ (∀ x, x ∈ ps → x.natAbs < 2 ^ 10) ∧
  ∀ (H' : Hp) (t l g : Addr), Same H H' → H' t = some (.tup [.ref l, .ref g]) → H' l = some (.tup (frV (least (qs.map fun fs => mWorth fs ps)))) → H' g = some (.tup (frV (greatest (qs.map fun fs => mWorth fs ps)))) → Q (.ref t) H'
theorem scLeast : FnScope ["corners", "pays", "least", "greatest", "corner", "worth"] ["corners", "pays"] (defScope sLeast) := ⟨rfl, rfl, rfl, by decide +kernel, rfl, by decide +kernel, by decide +kernel⟩
theorem foldl_pick {c : Fr → Fr → Bool} {l : List Fr} {P : Fr → Prop} (h : ∀ x, x ∈ l → P x) {b : Fr} (hb : P b) : P (l.foldl (fun b x => if c b x then x else b) b) := by
  induction l generalizing b with
  | nil => exact hb
  | cons x t ih =>
    rw [List.foldl_cons]
    refine ih (fun y hy => h y (by simp [hy])) ?_
    split
    · exact h x (by simp)
    · exact hb
theorem ok_least {f fw fl : Addr} {fd fdw fdl : FuncData} (F : Fun K "least_and_greatest" "least_and_greatest" sLeast f fd)
    (kw : PySem.W.keepIn K (.ref fw) = true) (Gw : FnOk P w K mg base CX0 4 fw fdw ["prices", "pays"] spWorth) (mw : mg "worth_by" = some (.ref fw)) (bw : Binds K fdw ["prices", "pays"] [])
    (kl : PySem.W.keepIn K (.ref fl) = true) (Gl : FnOk P w K mg base CX0 1 fl fdl ["one", "other"] (spLess K)) (ml : mg "is_less" = some (.ref fl)) (bl : Binds K fdl ["one", "other"] []) :
    FnOk P w K mg base CX0 5 f fd ["corners", "pays"] spLeast := by
  refine F.ok scLeast (fun vs H Q E h => ?_) (fun cdv A outer s H vs Q E hr h => ?_)
  · obtain ⟨p, q, as, qs, ps, rfl, _⟩ := h
    rfl
  · obtain ⟨p, q, as, qs, ps, rfl, hp, C, hq, h0, hl4, hf, hx, k⟩ := h
    have big := line_big
    have hr1 : Room 1 _ := hr.mono (by decide)
    refine ⟨_, pss_cons (ps_set (i := 2) scLeast.nd rfl (Or.inl rfl) (pe_call Gw hr rfl mw kw bw .nil pass0 (pa_cons (pe_ix ix_list (pv 0) pe_int (fun _ _ => rfl)) (pa_cons (pv 1) pa_nil))))
      (pss_cons (ps_set (i := 3) scLeast.nd rfl (Or.inl rfl) (pv 2))
      (pss_cons (ps_for PassesOwn.never rfl (pi_list (pe_slice sl_list (pv 0) (po_some pe_int) po_none)) (pg_name (i := 4) scLeast.nd rfl (Or.inl rfl))
        (pss_cons (ps_set (i := 5) scLeast.nd rfl (Or.inl rfl) (pe_call Gw hr rfl mw kw bw .nil pass0 (pa_cons (pv 4) (pa_cons (pv 1) pa_nil))))
        (pss_cons (ps_if (pt_val (pe_call Gl hr1 rfl ml kl bl .nil pass0 (pa_cons (pv 5) (pa_cons (pv 2) pa_nil)))) (pss_one (ps_set (i := 2) scLeast.nd rfl (Or.inl rfl) (pv 5))) pss_nil)
        (pss_one (ps_if (pt_val (pe_call Gl hr1 rfl ml kl bl .nil pass0 (pa_cons (pv 3) (pa_cons (pv 5) pa_nil)))) (pss_one (ps_set (i := 3) scLeast.nd rfl (Or.inl rfl) (pv 5))) pss_nil)))))
      (pss_one (ps_ret (pe_tup (pa_cons (pv 2) (pa_cons (pv 3) pa_nil))))))), ?_⟩
    -- the worths
    have wsz : ∀ fs, fs ∈ qs → Sz 990 (mWorth fs ps) := by
      intro fs hfs
      obtain ⟨h1, h2⟩ := hf fs hfs
      have := (worthN_sz h1 h2 hx fs.length (Nat.le_refl _)).1
      rw [worthN_all (Nat.le_refl _)] at this
      exact this.mono (by omega)
    have vsz : ∀ x, x ∈ qs.map (fun fs => mWorth fs ps) → Sz 990 x := by
      intro x hx'
      obtain ⟨fs, hfs, rfl⟩ := List.mem_map.mp hx'
      exact wsz fs hfs
    have qe : qs[0]? = some qs[0] := List.getElem?_eq_getElem h0
    have ae : as[0]? = some (as[0]'(by rw [C.len]; exact h0)) := List.getElem?_eq_getElem _
    obtain ⟨q0, bs0, e0, hA0, F0⟩ := C.at_ 0 _ ae
    have m0 := List.mem_of_getElem? e0
    refine ⟨_, rfl, p, _, _, _, rfl, rfl, SqL.of hp, at_of (j := 0) rfl (ref_at ae), _, rfl, _, q, bs0, q0, ps, rfl, hA0, F0, hq, (hf q0 m0).1, by rw [(hf q0 m0).1]; exact hl4, (hf q0 m0).2, hx, fun H1 l0 s1 hl0 => ?_⟩
    refine ⟨_, rfl, ?_⟩
    refine ⟨_, rfl, 1, rfl, p, _, rfl, SqL.of (s1 _ _ hp), fun sl hsl => ⟨sl, rfl, ⟨_, SqL.of upd_same⟩, ?_⟩⟩
    have cd : cutV (as.map V.ref) (some 1) none = (as.map V.ref).drop 1 := cut_drop _ 1
    rw [cd]
    have s2 : Same H1 (upd H1 sl (.lst ((as.map V.ref).drop 1))) := same_upd hsl
    have hd : (qs.map fun fs => mWorth fs ps).headD (0, 1) = mWorth q0 ps := by
      cases hqs : qs with
      | nil => rw [hqs] at h0; simp at h0
      | cons a r =>
        rw [hqs] at e0
        have : a = q0 := Option.some.inj e0
        subst this
        rfl
    have hdsz : Sz 990 ((qs.map fun fs => mWorth fs ps).headD (0, 1)) := by rw [hd]; exact wsz q0 m0
    refine for_list (K := K) (a := sl) (xs := (as.map V.ref).drop 1) (fun j σ H' => ∃ (l g : Addr) (v4 v5 : Option V), σ = [some (.ref p), some (.ref q), some (.ref l), some (.ref g), v4, v5] ∧ Same H H' ∧ H' sl = some (.lst ((as.map V.ref).drop 1)) ∧
      H' l = some (.tup (frV (leastN (qs.map fun fs => mWorth fs ps) j))) ∧ H' g = some (.tup (frV (greatestN (qs.map fun fs => mWorth fs ps) j)))) ?_ ?_ ?_ ?_
    · refine ⟨l0, l0, none, none, rfl, s1.trans s2, upd_same, ?_, ?_⟩
      · unfold leastN
        rw [List.take_zero, List.foldl_nil, hd]
        exact s2 _ _ hl0
      · unfold greatestN
        rw [List.take_zero, List.foldl_nil, hd]
        exact s2 _ _ hl0
    · rintro j σ H' _ ⟨_, _, _, _, _, _, h, _⟩
      exact SqL.of h
    · rintro j y σ H' hj ⟨l, g, v4, v5, rfl, s3, hsl3, hL, hG⟩
      rw [List.getElem?_drop] at hj
      obtain ⟨a, ha, rfl⟩ := map_ref hj
      obtain ⟨qj, bs, ej, hA, FA⟩ := C.at_ (1 + j) a ha
      have mj := List.mem_of_getElem? ej
      have ev : ((qs.map fun fs => mWorth fs ps).drop 1)[j]? = some (mWorth qj ps) := by
        rw [List.getElem?_drop, List.getElem?_map, ej]; rfl
      have lsz : Sz 990 (leastN (qs.map fun fs => mWorth fs ps) j) :=
        foldl_pick (c := fun b x => less x b) (P := Sz 990) (fun x hx' => vsz x (List.mem_of_mem_drop (List.mem_of_mem_take hx'))) hdsz
      have gsz : Sz 990 (greatestN (qs.map fun fs => mWorth fs ps) j) :=
        foldl_pick (c := fun b x => less b x) (P := Sz 990) (fun x hx' => vsz x (List.mem_of_mem_drop (List.mem_of_mem_take hx'))) hdsz
      have le : leastN (qs.map fun fs => mWorth fs ps) (j + 1) = if less (mWorth qj ps) (leastN (qs.map fun fs => mWorth fs ps) j) then mWorth qj ps else leastN (qs.map fun fs => mWorth fs ps) j := by
        unfold leastN
        rw [take_snoc ev, List.foldl_append]
        rfl
      have ge : greatestN (qs.map fun fs => mWorth fs ps) (j + 1) = if less (greatestN (qs.map fun fs => mWorth fs ps) j) (mWorth qj ps) then mWorth qj ps else greatestN (qs.map fun fs => mWorth fs ps) j := by
        unfold greatestN
        rw [take_snoc ev, List.foldl_append]
        rfl
      refine ⟨_, rfl, _, rfl, a, q, bs, qj, ps, rfl, s3 _ _ hA, FA.mono s3, s3 _ _ hq, (hf qj mj).1, by rw [(hf qj mj).1]; exact hl4, (hf qj mj).2, hx, fun H2 t s4 ht => ?_⟩
      refine ⟨_, rfl, _, rfl, t, l, mWorth qj ps, leastN (qs.map fun fs => mWorth fs ps) j, rfl, SqT.of ht, SqT.of (s4 _ _ hL), wsz qj mj, lsz, _, rfl, ?_⟩
      refine ite2 (fun hc => ?_) (fun hc => ?_)
      · rw [if_pos hc] at le
        refine ⟨_, rfl, _, rfl, _, rfl, g, t, greatestN (qs.map fun fs => mWorth fs ps) j, mWorth qj ps, rfl, SqT.of (s4 _ _ hG), SqT.of ht, gsz, wsz qj mj, _, rfl, ?_⟩
        refine ite2 (fun hd' => ?_) (fun hd' => ?_)
        · rw [if_pos hd'] at ge
          refine ⟨_, rfl, t, t, _, _, rfl, s3.trans s4, s4 _ _ hsl3, ?_, ?_⟩
          · rw [le]; exact ht
          · rw [ge]; exact ht
        · rw [if_neg hd'] at ge
          refine ⟨t, g, _, _, rfl, s3.trans s4, s4 _ _ hsl3, ?_, ?_⟩
          · rw [le]; exact ht
          · rw [ge]; exact s4 _ _ hG
      · rw [if_neg hc] at le
        refine ⟨_, rfl, _, rfl, g, t, greatestN (qs.map fun fs => mWorth fs ps) j, mWorth qj ps, rfl, SqT.of (s4 _ _ hG), SqT.of ht, gsz, wsz qj mj, _, rfl, ?_⟩
        refine ite2 (fun hd' => ?_) (fun hd' => ?_)
        · rw [if_pos hd'] at ge
          refine ⟨_, rfl, l, t, _, _, rfl, s3.trans s4, s4 _ _ hsl3, ?_, ?_⟩
          · rw [le]; exact s4 _ _ hL
          · rw [ge]; exact ht
        · rw [if_neg hd'] at ge
          refine ⟨l, g, _, _, rfl, s3.trans s4, s4 _ _ hsl3, ?_, ?_⟩
          · rw [le]; exact s4 _ _ hL
          · rw [ge]; exact s4 _ _ hG
    · rintro σ H' ⟨l, g, v4, v5, rfl, s3, hsl3, hL, hG⟩
      refine ⟨_, rfl, _, rfl, (by show 2 ≤ sizeLine; omega), fun t ht => ?_⟩
      have s4 : Same H' (upd H' t (.tup [.ref l, .ref g])) := same_upd ht
      have dl : ((as.map V.ref).drop 1).length = ((qs.map fun fs => mWorth fs ps).drop 1).length := by
        rw [List.length_drop, List.length_map, C.len, List.length_drop, List.length_map]
      refine k _ t l g (s3.trans s4) upd_same ?_ ?_
      · have : leastN (qs.map fun fs => mWorth fs ps) ((as.map V.ref).drop 1).length = least (qs.map fun fs => mWorth fs ps) := by
          unfold leastN least
          rw [dl, List.take_length]
        rw [this] at hL
        exact s4 _ _ hL
      · have : greatestN (qs.map fun fs => mWorth fs ps) ((as.map V.ref).drop 1).length = greatest (qs.map fun fs => mWorth fs ps) := by
          unfold greatestN greatest
          rw [dl, List.take_length]
        rw [this] at hG
        exact s4 _ _ hG
end
end DA
set_option Elab.async false
set_option maxRecDepth 100000
set_option maxHeartbeats 2000000
namespace DA
open PySem PySem.Spec PySem.AutoSeq1 PyProof.Rows L2
theorem extend_tup (l : Addr) (items : Array Value) (n : Nat) (b : Addr) (items2 : Array Value) (n2 : Nat) (dd : Option Addr) (sl : Array (Option Value)) (hs0 : ¬(!items.isEmpty && Builtin.List.listTooLong (items.size + items2.size)) = true) (hs1 : items.size ≤ sizeLine) (hs2 : items.size + items2.size ≤ sizeLine + 1) :
    Meets (Builtin.«list.extend» ⟨[.ref l, .ref b], []⟩) (fun _ R s => s.heap.get? l = some { cls := .type "list", dict := none, data := .seq items n, slots := #[] } ∧ s.heap.get? b = some { cls := .type "tuple", dict := dd, data := .seq items2 n2, slots := sl } ∧ R (.ok (.ret Value.none)) { s with heap := s.heap.update l (Obj.mapSeq fun x => x ++ items2), toks := s.toks }) :=
  .of_wp fun prog w A R s h => by
    obtain ⟨hp, g, d, tk, os⟩ := s; obtain ⟨hl, hb, h⟩ := h
    have f1 := idx_int; have f2 := AutoSeq1.sub_tuple_tuple; have f3 := AutoSeq1.sub_list_list; have f4 := AutoSeq1.sub_tuple_list; have f5 := AutoSeq1.sub_list_tuple
    have hz' : (items ++ items2).size ≤ sizeLine + 1 := by rw [Array.size_append]; exact hs2
    wp_walk using (wpAny_updateSeq hl rfl (hz := hs1) (_hz' := hz')), wpAny_loadPart' hl, wpAny_loadPart' hb
    exact ⟨_, rfl, h⟩
def rExtendT (K : PySem.W.Frag) : V → List V → Hp → VK → Prop := fun x vs H Q => ∃ l b xs zs, x = .ref l ∧ vs = [.ref b] ∧ H l = some (.lst xs) ∧ SqT K H b zs ∧ xs.length + zs.length ≤ sizeLine ∧ Q .non (upd H l (.lst (xs ++ zs)))
theorem mt_extendT {X : Cx} : MtM X "list.extend" (rExtendT X.K) := by
  intro pins s σ H x vs v us Q I rx rv h
  obtain ⟨l, b, xs, zs, rfl, rfl, hH, hB, hz, q⟩ := h
  cases rx
  obtain ⟨u, rfl, ru⟩ := rv.one
  cases ru
  obtain ⟨z, its, n, r, hl, e⟩ := I.lstM hH
  obtain ⟨its2, r2, ⟨o, ho, hc, n2, hd⟩, z2⟩ := I.tuple hB
  have hl2 := r2.length
  have hsz : its.toArray.size + its2.toArray.size ≤ sizeLine := by rw [List.size_toArray, List.size_toArray]; omega
  have hlong : ¬ (!its.toArray.isEmpty && Builtin.List.listTooLong (its.toArray.size + its2.toArray.size)) = true := by
    rw [notLongL hsz, Bool.and_false]
    exact Bool.false_ne_true
  obtain ⟨oc, od, odt, osl⟩ := o
  simp only at hc hd
  subst hc hd
  refine call_meets F.slot_list_extend ⟨_, e, rfl⟩ F.entry_list_extend (F.args_list_extend_2 _ _)
    (extend_tup l its.toArray n b its2.toArray n2 od osl hlong (by rw [List.size_toArray]; omega) (by omega)) ⟨e, ho, ?_⟩
  refine ⟨.non, _, I.lset (its' := its ++ its2) hH e (by simp) (r.append r2) ?_, rfl, q⟩
  rw [List.length_append]
  omega
end DA
set_option Elab.async false
set_option maxRecDepth 100000
set_option maxHeartbeats 2000000
namespace DA
open PySem PySem.Spec PyProof.Rows L2
open Su109 (Fr low over plus less at_ choose least greatest Abs)
abbrev cDay : Stmt := top 30
abbrev sHas : Stmt := inClass cDay 20
abbrev sRefusal : Stmt := inClass cDay 21
abbrev sIsRow : Stmt := inClass cDay 22
abbrev sIsSome : Stmt := inClass cDay 23
abbrev sRows : Stmt := inClass cDay 24
abbrev sAllC : Stmt := inClass cDay 25
abbrev sSpan : Stmt := inClass cDay 26
abbrev sPriced : Stmt := inClass cDay 27
/-! ### the object -/
def natsV (l : List Nat) : List V := (l.map Int.ofNat).map V.int
def dayF (b : Bool) (wd ln bk : Int) (lt : Addr) : List (Str × V) := [("begun", .bl b), ("width", .int wd), ("lent", .int ln), ("back", .int bk), ("things", .ref lt)]
def thingF (c : Int) (wl : Addr) : List (Str × V) := [("cost", .int c), ("worths", .ref wl)]
structure Ths (CT z : Addr) (H : Hp) (lt : Addr) (as : List Addr) (ths : List (Nat × List Nat)) : Prop where
  len : as.length = ths.length
  nd : as.Nodup
  at_ : ∀ (i : Nat) (a : Addr), as[i]? = some a → ∃ t dx wl, ths[i]? = some t ∧ H a = some (.ins CT dx (thingF (t.1 : Int) wl)) ∧ H wl = some (.lst (natsV t.2)) ∧ wl ≠ lt ∧ wl ≠ z
theorem Ths.mono {CT z : Addr} {H H' : Hp} {lt : Addr} {as : List Addr} {ths : List (Nat × List Nat)} (T : Ths CT z H lt as ths) (s : Same H H') : Ths CT z H' lt as ths :=
  ⟨T.len, T.nd, fun i a h => let ⟨t, dx, wl, h1, h2, h3, h4⟩ := T.at_ i a h; ⟨t, dx, wl, h1, s _ _ h2, s _ _ h3, h4⟩⟩
structure Fine (a : Abs) : Prop where
  good : Good a
  p1000 : a.price ≤ 1000
  b1000 : a.back ≤ 1000
  c1000 : ∀ t, t ∈ a.things → t.1 ≤ 1000 ∧ ∀ x, x ∈ t.2 → x ≤ 1000
  bpos : 1 ≤ a.back
/-- the list of answers stands apart -/
def ZOk (H : Hp) (lt z : Addr) : Prop := z ≠ lt ∧ ∃ xs, H z = some (.lst xs)
theorem ZOk.mono {H H' : Hp} {lt z : Addr} (h : ZOk H lt z) (s : Same H H') : ZOk H' lt z := let ⟨h1, xs, h2⟩ := h; ⟨h1, xs, s _ _ h2⟩
structure DayA (CD CT z : Addr) (H : Hp) (d lt : Addr) (a : Abs) : Prop where
  ex : ∃ dx as, H d = some (.ins CD dx (dayF true (a.n : Int) (a.price : Int) (a.back : Int) lt)) ∧ H lt = some (.lst (as.map V.ref)) ∧ Ths CT z H lt as a.things
  fine : Fine a
  zok : ZOk H lt z
theorem DayA.mono {CD CT : Addr} {H H' : Hp} {z d lt : Addr} {a : Abs} (D : DayA CD CT z H d lt a) (s : Same H H') : DayA CD CT z H' d lt a := by
  obtain ⟨dx, as, h1, h2, h3⟩ := D.ex
  exact ⟨⟨dx, as, s _ _ h1, s _ _ h2, h3.mono s⟩, D.fine, D.zok.mono s⟩
/-- what of the text stands fast -/
structure Txt (K : PySem.W.Frag) (mg : Str → Option Value) (CD CT : Addr) : Prop where
  clD : Cls K CD
  clT : Cls K CT
  nB : NoAttr K CD "begun"
  nW : NoAttr K CD "width"
  nL : NoAttr K CD "lent"
  nK : NoAttr K CD "back"
  nT : NoAttr K CD "things"
  nC : NoAttr K CT "cost"
  nX : NoAttr K CT "worths"
  len : mg "len" = none
  list : mg "list" = none
  all : mg "all" = none
  max : mg "max" = none
  mNone : ∃ t, mg "NONE_SUCH" = some (.int (-2) t)
  mFair : ∃ t, mg "NOT_FAIR" = some (.int (-16) t)
  mRange : ∃ t, mg "OUT_OF_RANGE" = some (.int (-22) t)
  mMany : ∃ t, mg "TOO_MANY" = some (.int (-28) t)
  mCome : ∃ t, mg "MOST_THAT_MAY_COME" = some (.int 4 t)
  mThings : ∃ t, mg "MOST_THINGS" = some (.int 2 t)
  mMost : ∃ t, mg "MOST" = some (.int 1000 t)
  mX : ∃ t, mg "MOST_X" = some (.int 1000000 t)
/-- a number of the module -/
theorem pe_num {X : Cx} {x : Str} {i : Int} {pos : Pos} (h : ∃ t, X.mg x = some (.int i t)) (hg : Gl X x := by rfl) (hd : (x == ("__debug__" : Str)) = false := by decide) : PE X (.Name x pos) (tC (.int i)) := by
  obtain ⟨t, ht⟩ := h
  exact pe_glob hg ht ⟨t, rfl⟩ hd
section
variable {P : Program} {w : World} {K : PySem.W.Frag} {mg : Str → Option Value} {base : Heap} {CD CT : Addr}
/-! ### has_thing -/
def spHas (CD CT : Addr) : Sp := fun vs H Q _ => ∃ (d lt z : Addr) (a : Abs) (t : Nat), vs = [.ref d, .int (t : Int)] ∧ DayA CD CT z H d lt a ∧ Q (.bl (a.isT t)) H
theorem scHas : FnScope ["self", "t"] ["self", "t"] (defScope sHas) := ⟨rfl, rfl, rfl, by decide +kernel, rfl, by decide +kernel, by decide +kernel⟩
theorem ok_has {f : Addr} {fd : FuncData} (F : Fun K "has_thing" "Day.has_thing" sHas f fd) (T : Txt K mg CD CT) : FnOk P w K mg base CX0 1 f fd ["self", "t"] (spHas CD CT) := by
  refine F.ok scHas (fun vs H Q E h => ?_) (fun cdv A outer s H vs Q E hr h => ?_)
  · obtain ⟨d, lt, z, a, t, rfl, _⟩ := h
    rfl
  · obtain ⟨d, lt, z, a, t, rfl, D, k⟩ := h
    obtain ⟨dx, as, h1, h2, h3⟩ := D.ex
    refine ⟨_, pss_one (ps_ret (pe_cmpR op_lt (pv 1) (pe_callB call_len_seq (by rfl) T.len PySem.boot_len (pa_cons (pe_fld (pv 0) rfl) pa_nil)) (nomark _))), ?_⟩
    refine ⟨_, rfl, _, rfl, d, CD, dx, _, _, rfl, h1, T.clD, T.nT, rfl, lt, _, rfl, .inl (SqL.of h2), _, _, rfl, rfl, ?_⟩
    have e : decide ((t : Int) < ((as.map V.ref).length : Int)) = a.isT t := by
      unfold Abs.isT
      rw [List.length_map, h3.len]
      by_cases h : t < a.things.length
      · rw [decide_eq_true h, decide_eq_true (by omega)]
      · rw [decide_eq_false h, decide_eq_false (by omega)]
    simp only [e]
    exact k
/-! ### refusal -/
def refN (a : Abs) (t p : Nat) : Int := if a.isT t = false then -2 else if 1000 < p then -22 else 0
def spRefusal (CD CT : Addr) : Sp := fun vs H Q _ => ∃ (d lt z : Addr) (a : Abs) (t p : Nat), vs = [.ref d, .int (t : Int), .int (p : Int)] ∧ DayA CD CT z H d lt a ∧ Q (.int (refN a t p)) H
theorem scRefusal : FnScope ["self", "t", "number"] ["self", "t", "number"] (defScope sRefusal) := ⟨rfl, rfl, rfl, by decide +kernel, rfl, by decide +kernel, by decide +kernel⟩
theorem ok_refusal {f fh : Addr} {fd fdh : FuncData} (F : Fun K "refusal" "Day.refusal" sRefusal f fd) (T : Txt K mg CD CT)
    (Gh : FnOk P w K mg base CX0 1 fh fdh ["self", "t"] (spHas CD CT)) (mH : Meth K CD "has_thing" fh) (bh : Binds K fdh ["self", "t"] []) :
    FnOk P w K mg base CX0 2 f fd ["self", "t", "number"] (spRefusal CD CT) := by
  refine F.ok scRefusal (fun vs H Q E h => ?_) (fun cdv A outer s H vs Q E hr h => ?_)
  · obtain ⟨d, lt, z, a, t, p, rfl, _⟩ := h
    rfl
  · obtain ⟨d, lt, z, a, t, p, rfl, D, k⟩ := h
    obtain ⟨dx, as, h1, h2, h3⟩ := D.ex
    refine ⟨_, pss_cons (ps_if (pt_not (pt_val (pe_meth (pv 0) T.clD mH Gh hr bh .nil pass0 (pa_cons (pv 1) pa_nil)))) (pss_one (ps_ret (pe_num T.mNone))) pss_nil)
      (pss_cons (ps_if (pt_cmpR op_gt (pv 2) (pe_num T.mMost) (nomark _)) (pss_one (ps_ret (pe_num T.mRange))) pss_nil)
      (pss_one (ps_ret pe_int))), ?_⟩
    refine ⟨_, rfl, d, dx, _, rfl, h1, rfl, _, rfl, d, lt, z, a, t, rfl, D, _, rfl, ?_⟩
    cases hT : a.isT t with
    | false =>
      refine ite2 (fun _ => ?_) (fun h => absurd rfl h)
      unfold refN at k
      rw [if_pos hT] at k
      exact k
    | true =>
      refine ite2 (fun h => absurd h (by decide)) (fun _ => ?_)
      unfold refN at k
      rw [if_neg (by rw [hT]; decide)] at k
      refine ⟨_, rfl, _, _, rfl, rfl, _, rfl, ?_⟩
      refine ite2 (fun hc => ?_) (fun hc => ?_)
      · have hp : 1000 < p := by have := of_decide_eq_true hc; omega
        rw [if_pos hp] at k
        exact k
      · have hp : ¬ 1000 < p := fun h => hc (decide_eq_true (by omega))
        rw [if_neg hp] at k
        exact k
/-! ### is_row -/
def spIsRow (CD CT : Addr) : Sp := fun vs H Q _ => ∃ (d lt z q : Addr) (a : Abs) (l : List Nat), vs = [.ref d, .ref q] ∧ DayA CD CT z H d lt a ∧ H q = some (.lst (natsV l)) ∧ l.length < 100 ∧ ∀ H', Same H H' → Q (.bl (a.okP l)) H'
theorem scIsRow : FnScope ["self", "numbers", "number"] ["self", "numbers"] (defScope sIsRow) := ⟨rfl, rfl, rfl, by decide +kernel, rfl, by decide +kernel, by decide +kernel⟩
theorem nat_at {l : List Nat} {j : Nat} {y : V} (h : (natsV l)[j]? = some y) : ∃ x, l[j]? = some x ∧ y = .int (x : Int) := by
  unfold natsV at h
  rw [List.getElem?_map, List.getElem?_map] at h
  cases e : l[j]? with
  | none => rw [e] at h; cases h
  | some x => rw [e] at h; exact ⟨x, rfl, (Option.some.inj h).symm⟩
theorem ok_isRow {f : Addr} {fd : FuncData} (F : Fun K "is_row" "Day.is_row" sIsRow f fd) (T : Txt K mg CD CT) : FnOk P w K mg base CX0 1 f fd ["self", "numbers"] (spIsRow CD CT) := by
  refine F.ok scIsRow (fun vs H Q E h => ?_) (fun cdv A outer s H vs Q E hr h => ?_)
  · obtain ⟨d, lt, z, q, a, l, rfl, _⟩ := h
    rfl
  · obtain ⟨d, lt, z, q, a, l, rfl, D, hq, hl, k⟩ := h
    have big := line_big
    obtain ⟨dx, as, h1, h2, h3⟩ := D.ex
    refine ⟨_, pss_one (ps_ret (pe_and (pe_cmpR op_eq (pe_callB call_len_seq (by rfl) T.len PySem.boot_len (pa_cons (pv 1) pa_nil)) (pe_fld (pv 0) rfl) (nomark _))
      (pe_one (pe_callB (cr_all rfl) (by rfl) T.all PyProof.Rows.boot_all (pa_cons
        (pe_lc rfl scIsRow.nd (pi_list (pv 1)) (blkOk_by (own := [("number", 2)]) (by show blkC ["self", "numbers", "number"] (defScope sIsRow) _ [("number", 2)] = true; decide +kernel))
          (fun s H C cl fp => pg_name (i := 2) scIsRow.nd rfl (Or.inl rfl) (Or.inr rfl))
          (fun s H C cl fp => pts_nil)
          (fun s H C cl fp => pe_cmpR op_le (pv 2) (pe_num T.mMost) (nomark _))) pa_nil))))), ?_⟩
    refine ⟨_, rfl, q, _, rfl, .inl (SqL.of hq), _, rfl, d, CD, dx, _, _, rfl, h1, T.clD, T.nW, rfl, rfl, _, rfl, ?_⟩
    have ln : (natsV l).length = l.length := by simp [natsV]
    refine ite_eq (fun he => ?_) (fun hne => ?_)
    · have hll : l.length = a.n := by rw [ln] at he; omega
      refine ⟨_, rfl, q, rfl, ⟨_, SqL.of hq⟩, fun D hD => ?_⟩
      refine lc_list (K := K) (a := q) (xs := natsV l) (fun j H' => Same H H' ∧ H' D = some (.lst (((l.take j).map fun x => decide (x ≤ 1000)).map V.bl))) ?_ ?_ ?_ ?_
      · exact ⟨same_upd hD, by rw [upd_same]; simp⟩
      · rintro j H' _ ⟨s1, _⟩
        exact SqL.of (s1 _ _ hq)
      · rintro j y H' hj ⟨s1, hD'⟩
        obtain ⟨x, hx, rfl⟩ := nat_at hj
        refine ⟨rfl, ?_⟩
        refine ⟨_, rfl, _, _, rfl, rfl, ?_⟩
        refine ⟨_, hD', ?_, same_over s1 hD, ?_⟩
        · rw [List.length_map, List.length_map, List.length_take]
          omega
        · rw [upd_same, take_snoc hx, List.map_append, List.map_append]
          have : decide ((x : Int) ≤ 1000) = decide (x ≤ 1000) := by
            by_cases h : x ≤ 1000
            · rw [decide_eq_true h, decide_eq_true (by omega)]
            · rw [decide_eq_false h, decide_eq_false (by omega)]
          simp only [List.map_cons, List.map_nil, this]
      · rintro H' ⟨s1, hD'⟩
        rw [ln, List.take_length] at hD'
        refine ⟨D, _, rfl, SqL.of hD', ?_⟩
        have e : (l.map fun x => decide (x ≤ 1000)).all id = a.okP l := by
          unfold Abs.okP
          rw [hll, beq_self_eq_true, Bool.true_and, List.all_map]
          rfl
        rw [e]
        exact k H' s1
    · have e : a.okP l = false := by
        unfold Abs.okP
        have : (l.length == a.n) = false := by
          rw [ln] at hne
          simp only [beq_eq_false_iff_ne]
          omega
        rw [this, Bool.false_and]
      have := k H (Same.refl H)
      rw [e] at this
      exact this
/-! ### is_some -/
def spIsSome (CD CT : Addr) : Sp := fun vs H Q _ => ∃ (d lt z q : Addr) (a : Abs) (l : List Nat), vs = [.ref d, .ref q] ∧ DayA CD CT z H d lt a ∧ H q = some (.lst (natsV l)) ∧ l.length < 100 ∧ ∀ H', Same H H' → Q (.bl (a.okX l)) H'
theorem scIsSome : FnScope ["self", "numbers", "number"] ["self", "numbers"] (defScope sIsSome) := ⟨rfl, rfl, rfl, by decide +kernel, rfl, by decide +kernel, by decide +kernel⟩
theorem ok_isSome {f : Addr} {fd : FuncData} (F : Fun K "is_some" "Day.is_some" sIsSome f fd) (T : Txt K mg CD CT) : FnOk P w K mg base CX0 1 f fd ["self", "numbers"] (spIsSome CD CT) := by
  refine F.ok scIsSome (fun vs H Q E h => ?_) (fun cdv A outer s H vs Q E hr h => ?_)
  · obtain ⟨d, lt, z, q, a, l, rfl, _⟩ := h
    rfl
  · obtain ⟨d, lt, z, q, a, l, rfl, D, hq, hl, k⟩ := h
    have big := line_big
    obtain ⟨dx, as, h1, h2, h3⟩ := D.ex
    have ht2 := D.fine.good.two
    have al : (as.map V.ref).length = a.things.length := by rw [List.length_map, h3.len]
    refine ⟨_, pss_one (ps_ret (pe_and (pe_cmpR op_eq (pe_callB call_len_seq (by rfl) T.len PySem.boot_len (pa_cons (pv 1) pa_nil)) (pe_op op_mulB pe_int (pe_op op_add pe_int (pe_callB call_len_seq (by rfl) T.len PySem.boot_len (pa_cons (pe_fld (pv 0) rfl) pa_nil)))) (nomark _))
      (pe_one (pe_callB (cr_all rfl) (by rfl) T.all PyProof.Rows.boot_all (pa_cons
        (pe_lc rfl scIsSome.nd (pi_list (pv 1)) (blkOk_by (own := [("number", 2)]) (by show blkC ["self", "numbers", "number"] (defScope sIsSome) _ [("number", 2)] = true; decide +kernel))
          (fun s H C cl fp => pg_name (i := 2) scIsSome.nd rfl (Or.inl rfl) (Or.inr rfl))
          (fun s H C cl fp => pts_nil)
          (fun s H C cl fp => pe_cmpR op_le (pv 2) (pe_num T.mMost) (nomark _))) pa_nil))))), ?_⟩
    refine ⟨_, rfl, q, _, rfl, .inl (SqL.of hq), _, rfl, d, CD, dx, _, _, rfl, h1, T.clD, T.nT, rfl, lt, _, rfl, .inl (SqL.of h2), _, _, rfl, rfl, _, _, rfl, rfl, ⟨sz_small (k := 10) (by decide) (by decide), sz_small (k := 10) (by decide) (by rw [al]; show Int.natAbs _ < 1024; omega)⟩, rfl, _, rfl, ?_⟩
    have ln : (natsV l).length = l.length := by simp [natsV]
    refine ite_eq (fun he => ?_) (fun hne => ?_)
    · have hll : l.length = 2 * (a.things.length + 1) := by rw [ln, al] at he; omega
      refine ⟨_, rfl, q, rfl, ⟨_, SqL.of hq⟩, fun D hD => ?_⟩
      refine lc_list (K := K) (a := q) (xs := natsV l) (fun j H' => Same H H' ∧ H' D = some (.lst (((l.take j).map fun x => decide (x ≤ 1000)).map V.bl))) ?_ ?_ ?_ ?_
      · exact ⟨same_upd hD, by rw [upd_same]; simp⟩
      · rintro j H' _ ⟨s1, _⟩
        exact SqL.of (s1 _ _ hq)
      · rintro j y H' hj ⟨s1, hD'⟩
        obtain ⟨x, hx, rfl⟩ := nat_at hj
        refine ⟨rfl, ?_⟩
        refine ⟨_, rfl, _, _, rfl, rfl, ?_⟩
        refine ⟨_, hD', ?_, same_over s1 hD, ?_⟩
        · rw [List.length_map, List.length_map, List.length_take]
          omega
        · rw [upd_same, take_snoc hx, List.map_append, List.map_append]
          have : decide ((x : Int) ≤ 1000) = decide (x ≤ 1000) := by
            by_cases h : x ≤ 1000
            · rw [decide_eq_true h, decide_eq_true (by omega)]
            · rw [decide_eq_false h, decide_eq_false (by omega)]
          simp only [List.map_cons, List.map_nil, this]
      · rintro H' ⟨s1, hD'⟩
        rw [ln, List.take_length] at hD'
        refine ⟨D, _, rfl, SqL.of hD', ?_⟩
        have e : (l.map fun x => decide (x ≤ 1000)).all id = a.okX l := by
          unfold Abs.okX
          rw [hll, beq_self_eq_true, Bool.true_and, List.all_map]
          rfl
        rw [e]
        exact k H' s1
    · have e : a.okX l = false := by
        unfold Abs.okX
        have : (l.length == 2 * (a.things.length + 1)) = false := by
          rw [ln, al] at hne
          simp only [beq_eq_false_iff_ne]
          omega
        rw [this, Bool.false_and]
      have := k H (Same.refl H)
      rw [e] at this
      exact this
/-! ### rows -/
theorem ten (x : Nat) (h : x ≤ 1000) : (Int.ofNat x).natAbs < 2 ^ 10 := by
  show x < 1024
  omega
theorem full_bd {a : Abs} (F : Fine a) : RBd 10 (full a) := by
  have z : (0 : Int).natAbs < 2 ^ 10 := by decide
  have key : ∀ (l : List Int), (∀ x, x ∈ l → x.natAbs < 2 ^ 10) → ∀ j, (at_ l j).natAbs < 2 ^ 10 := by
    intro l hl j
    unfold at_
    by_cases hj : j < l.length
    · rw [getD_lt hj]; exact hl _ (List.getElem_mem hj)
    · rw [List.getD, List.getElem?_eq_none (by omega)]; exact z
  intro r hr
  refine key r ?_
  unfold full at hr
  rcases List.mem_cons.mp hr with h | h
  · subst h
    intro x hx
    rcases List.mem_append.mp hx with h | h
    · rw [(List.mem_replicate.mp h).2]; exact ten _ F.b1000
    · rw [List.mem_singleton.mp h]; exact ten _ F.p1000
  · obtain ⟨t, ht, rfl⟩ := List.mem_map.mp h
    intro x hx
    rcases List.mem_append.mp hx with h | h
    · obtain ⟨y, hy, rfl⟩ := List.mem_map.mp h
      exact ten _ ((F.c1000 t ht).2 y hy)
    · rw [List.mem_singleton.mp h]; exact ten _ (F.c1000 t ht).1
theorem full_wide {a : Abs} (g : Good a) : Wide (a.n + 1) (full a) := by
  intro i hi
  rw [full_length, ← rows_length] at hi
  rw [full_row hi, List.length_append, rows_wide g i hi]
  rfl
theorem corner_sz {a : Abs} (F : Fine a) {q : List Fr} (h : q ∈ a.corners) : q.length = a.n ∧ ∀ f, f ∈ q → 0 < f.2 ∧ Sz 175 f := by
  have hc := corner_mem F.good h
  refine ⟨hc.1, ?_⟩
  rw [← mCorners_eq F.good] at h
  obtain ⟨s, hs, e⟩ := List.mem_filterMap.mp h
  have hs' : s ∈ upTo a.n a.n := hs
  obtain ⟨m1, m2, m3⟩ := mem_upTo.mp hs'
  have hsl : s.length ≤ 4 := by have := F.good.four; omega
  intro f hf
  obtain ⟨c, hcl, ef⟩ := List.mem_iff_getElem.mp hf
  refine ⟨?_, ?_⟩
  · have := (hc.2.1 c).1
    rw [getD_lt hcl, ef] at this
    exact this
  · rw [cornerOn_eq] at e
    split at e
    · cases e
    · rename_i fs hfs
      split at e
      · cases e
      · cases e
        have hsz := solved_sz (nar_wide a s) hsl (nar_bd (full_bd F)) hfs
        have one : Sz 175 (0, 1) := ⟨by decide, by decide⟩
        have : f = (spread s fs a.n).getD c (0, 1) := by rw [getD_lt hcl]; exact ef.symm
        rw [this, spread_getD]
        split
        · split
          · by_cases hi : s.idxOf c < fs.length
            · rw [getD_lt hi]; exact hsz _ (List.getElem_mem hi)
            · rw [List.getD, List.getElem?_eq_none (by omega)]; exact one
          · exact one
        · exact one
theorem corners_len {a : Abs} (g : Good a) : a.corners.length ≤ 15 := by
  rw [← mCorners_eq g]
  exact Nat.le_trans (filterMap_le _ _) (choices_le g.four)
def spRows (CD CT : Addr) : Sp := fun vs H Q _ => ∃ (d lt z : Addr) (a : Abs), vs = [.ref d] ∧ DayA CD CT z H d lt a ∧
  ∀ (H' : Hp) (q : Addr) (rs : List Addr), Same H H' → H' q = some (.lst (rs.map V.ref)) → H q = none → q ∉ rs → Rows H' rs (full a) → Q (.ref q) H'
theorem scRows : FnScope ["self", "rows", "thing"] ["self"] (defScope sRows) := ⟨rfl, rfl, rfl, by decide +kernel, rfl, by decide +kernel, by decide +kernel⟩
theorem ok_rows {f : Addr} {fd : FuncData} (F : Fun K "rows" "Day.rows" sRows f fd) (T : Txt K mg CD CT) : FnOk P w K mg base CX0 1 f fd ["self"] (spRows CD CT) := by
  refine F.ok scRows (fun vs H Q E h => ?_) (fun cdv A outer s H vs Q E hr h => ?_)
  · obtain ⟨d, lt, z, a, rfl, _⟩ := h
    rfl
  · obtain ⟨d, lt, z, a, rfl, D, k⟩ := h
    have big := line_big
    obtain ⟨dx, as, h1, h2, h3⟩ := D.ex
    have hn4 := D.fine.good.four
    have ht2 := D.fine.good.two
    refine ⟨_, pss_cons (ps_set (i := 1) scRows.nd rfl (Or.inl rfl) (pe_lst (pa_cons (pe_op op_cat (pe_op op_rep (pe_lst (pa_cons (pe_fld (pv 0) rfl) pa_nil)) (pe_fld (pv 0) rfl)) (pe_lst (pa_cons (pe_fld (pv 0) rfl) pa_nil))) pa_nil)))
      (pss_cons (ps_for PassesOwn.never rfl (pi_list (pe_fld (pv 0) rfl)) (pg_name (i := 2) scRows.nd rfl (Or.inl rfl))
        (pss_one (ps_expr (pe_bm PySem.F.plainAttrs_list PySem.F.slot_list_append PySem.F.type_list_append mt_append (pv 1) (pa_cons (pe_op op_cat (pe_fld (pv 2) rfl) (pe_lst (pa_cons (pe_fld (pv 2) rfl) pa_nil))) pa_nil)))))
      (pss_one (ps_ret (pv 1)))), ?_⟩
    refine ⟨_, rfl, d, CD, dx, _, _, rfl, h1, T.clD, T.nK, rfl, (by show 1 ≤ sizeLine; omega), fun b1 hb1 => ?_⟩
    have s1 := same_upd (o := .lst [.int (a.back : Int)]) hb1
    refine ⟨_, rfl, d, CD, dx, _, _, rfl, s1 _ _ h1, T.clD, T.nW, rfl, b1, (a.n : Int), _, rfl, rfl, upd_same, by omega, by omega, (by show 1 * (a.n : Int).toNat ≤ sizeLine; omega), fun b2 hb2 => ?_⟩
    have tn : (a.n : Int).toNat = a.n := by omega
    rw [tn, rep_one]
    have s2 := same_upd (o := .lst (List.replicate a.n (.int (a.back : Int)))) hb2
    refine ⟨_, rfl, d, CD, dx, _, _, rfl, s2 _ _ (s1 _ _ h1), T.clD, T.nL, rfl, (by show 1 ≤ sizeLine; omega), fun b3 hb3 => ?_⟩
    have s3 := same_upd (o := .lst [.int (a.price : Int)]) hb3
    refine ⟨b2, b3, _, _, rfl, rfl, s3 _ _ upd_same, upd_same, (by simp; omega), fun b4 hb4 => ?_⟩
    have s4 := same_upd (o := .lst (List.replicate a.n (.int (a.back : Int)) ++ [.int (a.price : Int)])) hb4
    refine ⟨(by show 1 ≤ sizeLine; omega), fun ro hro => ?_⟩
    have s5 := same_upd (o := .lst [.ref b4]) hro
    have s14 := ((s1.trans s2).trans s3).trans s4
    have sA := s14.trans s5
    have roH := s14.free hro
    refine ⟨_, rfl, d, CD, dx, _, _, rfl, sA _ _ h1, T.clD, T.nT, rfl, lt, rfl, ⟨_, SqL.of (sA _ _ h2)⟩, ?_⟩
    have rolt : lt ≠ ro := ne_of_none (s14 _ _ h2) hro
    have al : (as.map V.ref).length = a.things.length := by rw [List.length_map, h3.len]
    refine for_list (K := K) (a := lt) (xs := as.map V.ref) (fun j σ H' => ∃ (rs : List Addr) (v2 : Option V), σ = [some (.ref d), some (.ref ro), v2] ∧ Same H H' ∧ H' ro = some (.lst (rs.map V.ref)) ∧ ro ∉ rs ∧ Rows H' rs ((full a).take (1 + j))) ?_ ?_ ?_ ?_
    · have nb : ro ≠ b4 := fun e => by rw [e, upd_same] at hro; cases hro
      refine ⟨[b4], none, rfl, sA, upd_same, by simp [nb], ?_⟩
      have : (full a).take (1 + 0) = [List.replicate a.n (Int.ofNat a.back) ++ [Int.ofNat a.price]] := rfl
      rw [this]
      refine Rows.one (s5 _ _ ?_)
      rw [upd_same, List.map_append, List.map_replicate]
      rfl
    · rintro j σ H' _ ⟨_, _, _, s6, _⟩
      exact SqL.of (s6 _ _ h2)
    · rintro j y σ H' hj ⟨rs, v2, rfl, s6, hro6, nro, RR⟩
      obtain ⟨t, ht, rfl⟩ := map_ref hj
      obtain ⟨th, dxt, wl, e1, e2, e3, e4⟩ := (h3.mono s6).at_ j t ht
      have ge : (full a)[1 + j]? = some (th.2.map Int.ofNat ++ [Int.ofNat th.1]) := by
        unfold full
        rw [Nat.add_comm, List.getElem?_cons_succ, List.getElem?_map, e1]; rfl
      have hjl : j < a.things.length := (List.getElem?_eq_some_iff.mp e1).1
      have wlen : th.2.length = a.n := D.fine.good.wide th (List.mem_of_getElem? e1)
      have rl : rs.length ≤ 3 := by
        rw [RR.len, List.length_take, full_length]
        omega
      refine ⟨_, rfl, .inl ⟨rfl, _, SqL.of hro6⟩, _, rfl, t, CT, dxt, _, _, rfl, e2, T.clT, T.nX, rfl, _, rfl, t, CT, dxt, _, _, rfl, e2, T.clT, T.nC, rfl, (by show 1 ≤ sizeLine; omega), fun c1 hc1 => ?_⟩
      have s7 := same_upd (o := .lst [.int (th.1 : Int)]) hc1
      refine ⟨wl, c1, _, _, rfl, rfl, s7 _ _ e3, upd_same, (by simp [natsV]; omega), fun c2 hc2 => ?_⟩
      have s8 := same_upd (o := .lst (natsV th.2 ++ [.int (th.1 : Int)])) hc2
      have s78 := s7.trans s8
      refine ⟨ro, _, _, rfl, rfl, s78 _ _ hro6, (by rw [List.length_map]; omega), ?_⟩
      have nc : ro ≠ c2 := ne_of_none (s7 _ _ hro6) hc2
      refine ⟨rs ++ [c2], _, rfl, same_over (s6.trans s78) roH, ?_, ?_, ?_⟩
      · rw [upd_same, List.map_append]; rfl
      · simp [nro, nc]
      · have : 1 + (j + 1) = (1 + j) + 1 := by omega
        rw [this, take_snoc ge]
        refine Rows.append ((RR.mono s78).upd nro) (Rows.one ?_)
        rw [upd_ne (fun e => nc e.symm), upd_same, List.map_append]
        rfl
    · rintro σ H' ⟨rs, v2, rfl, s6, hro6, nro, RR⟩
      have el : (full a).take (1 + (as.map V.ref).length) = full a := by
        rw [al]
        exact List.take_of_length_le (by rw [full_length]; omega)
      rw [el] at RR
      exact ⟨_, rfl, k H' ro rs s6 hro6 roH nro RR⟩
/-! ### all_corners -/
def spAllC (CD CT : Addr) : Sp := fun vs H Q _ => ∃ (d lt z : Addr) (a : Abs), vs = [.ref d] ∧ DayA CD CT z H d lt a ∧
  ∀ (H' : Hp) (q : Addr) (cs : List Addr), Same H H' → H' q = some (.lst (cs.map V.ref)) → Crs H' cs a.corners → Q (.ref q) H'
theorem scAllC : FnScope ["self"] ["self"] (defScope sAllC) := ⟨rfl, rfl, rfl, by decide +kernel, rfl, by decide +kernel, by decide +kernel⟩
theorem ok_allC {f ff fr : Addr} {fd fdf fdr : FuncData} (F : Fun K "all_corners" "Day.all_corners" sAllC f fd) (T : Txt K mg CD CT)
    (Gr : FnOk P w K mg base CX0 1 fr fdr ["self"] (spRows CD CT)) (mR : Meth K CD "rows" fr) (br : Binds K fdr ["self"] [])
    (kf : PySem.W.keepIn K (.ref ff) = true) (Gf : FnOk P w K mg base CX0 5 ff fdf ["rows", "count"] spFind) (mf : mg "find_corners" = some (.ref ff)) (bf : Binds K fdf ["rows", "count"] []) :
    FnOk P w K mg base CX0 6 f fd ["self"] (spAllC CD CT) := by
  refine F.ok scAllC (fun vs H Q E h => ?_) (fun cdv A outer s H vs Q E hr h => ?_)
  · obtain ⟨d, lt, z, a, rfl, _⟩ := h
    rfl
  · obtain ⟨d, lt, z, a, rfl, D, k⟩ := h
    obtain ⟨dx, as, h1, h2, h3⟩ := D.ex
    have hn4 := D.fine.good.four
    have ht2 := D.fine.good.two
    refine ⟨_, pss_one (ps_ret (pe_call Gf hr rfl mf kf bf .nil pass0 (pa_cons (pe_meth0 (pv 0) T.clD mR Gr (hr.mono (by decide)) br .nil pass0) (pa_cons (pe_fld (pv 0) rfl) pa_nil)))), ?_⟩
    refine ⟨_, rfl, d, dx, _, rfl, h1, rfl, d, lt, z, a, rfl, D, fun H1 q rs s1 hq nq nrs RR => ?_⟩
    refine ⟨_, rfl, d, CD, dx, _, _, rfl, s1 _ _ h1, T.clD, T.nW, rfl, q, rs, full a, a.n, rfl, hq, RR, by rw [full_length]; omega, full_wide D.fine.good, full_bd D.fine, hn4, fun H2 q2 cs s9 hq2 CC => ?_⟩
    refine k H2 q2 cs (s1.trans s9) hq2 ?_
    rw [← mCorners_eq D.fine.good]
    exact CC
end
end DA
set_option Elab.async false
set_option maxRecDepth 100000
set_option maxHeartbeats 2000000
namespace DA
open PySem PySem.Spec PyProof.Rows L2
open Su109 (Fr low over plus less at_ choose least greatest Abs bit)
theorem eqv_fr (f g : Fr) : PyData.eqv (.tuple [.int f.1, .int (f.2 : Int)]) (.tuple [.int g.1, .int (g.2 : Int)]) = (f == g) := by
  obtain ⟨a, b⟩ := f
  obtain ⟨c, d⟩ := g
  simp only [PyData.eqv, PyData.eqvAll, Bool.and_true]
  rw [Bool.eq_iff_iff]
  simp only [Bool.and_eq_true, beq_iff_eq, Prod.mk.injEq]
  omega
theorem dp_fr {K : PySem.W.Frag} {H : Hp} {p : Addr} {f : Fr} (h : H p = some (.tup (frV f))) : Dp K H (.ref p) (.tuple [.int f.1, .int (f.2 : Int)]) :=
  .tup (SqT.of h) (.cons (.int _) (.cons (.int _) .nil))
theorem shaped_fr (f : Fr) : SeqAt.shaped (.tuple [.int f.1, .int (f.2 : Int)]) = true := by
  simp [SeqAt.shaped, PyData.canLay0, PyData.canLayAll0, PyData.depth, PyData.depthAll]
def pricedL (a : Abs) (p : List Int) : List Int := if a.fair = false then [-16] else [((bit (a.lo p == a.hi p) : Nat) : Int), (a.lo p).1, ((a.lo p).2 : Int), (a.hi p).1, ((a.hi p).2 : Int)]
section
variable {P : Program} {w : World} {K : PySem.W.Frag} {mg : Str → Option Value} {base : Heap} {CD CT : Addr}
theorem values_eq {a : Abs} (F : Fine a) {p : List Int} (hp : p.length = a.n) : (a.corners.map fun fs => mWorth fs p) = a.values p := by
  unfold Abs.values
  refine List.map_congr_left (fun q hq => ?_)
  exact mWorth_eq (by rw [(corner_mem F.good hq).1, hp])
/-! ### span -/
def spSpan (CD CT : Addr) : Sp := fun vs H Q _ => ∃ (d lt z q : Addr) (a : Abs) (p : List Int), vs = [.ref d, .ref q] ∧ DayA CD CT z H d lt a ∧ H q = some (.lst (p.map V.int)) ∧ p.length = a.n ∧ (∀ x, x ∈ p → x.natAbs < 2 ^ 10) ∧
  (a.fair = false → ∀ H', Same H H' → Q .non H') ∧ (a.fair = true → ∀ (H' : Hp) (t l g : Addr), Same H H' → H' t = some (.tup [.ref l, .ref g]) → H' l = some (.tup (frV (a.lo p))) → H' g = some (.tup (frV (a.hi p))) → Q (.ref t) H')
theorem scSpan : FnScope ["self", "pays", "corners"] ["self", "pays"] (defScope sSpan) := ⟨rfl, rfl, rfl, by decide +kernel, rfl, by decide +kernel, by decide +kernel⟩
theorem ok_span {f fa ff fl : Addr} {fd fda fdf fdl : FuncData} (F : Fun K "span" "Day.span" sSpan f fd) (T : Txt K mg CD CT)
    (Ga : FnOk P w K mg base CX0 6 fa fda ["self"] (spAllC CD CT)) (mA : Meth K CD "all_corners" fa) (ba : Binds K fda ["self"] [])
    (kf : PySem.W.keepIn K (.ref ff) = true) (Gf : FnOk P w K mg base CX0 1 ff fdf ["corners", "count"] spFair) (mf : mg "are_fair" = some (.ref ff)) (bf : Binds K fdf ["corners", "count"] [])
    (kl : PySem.W.keepIn K (.ref fl) = true) (Gl : FnOk P w K mg base CX0 5 fl fdl ["corners", "pays"] spLeast) (ml : mg "least_and_greatest" = some (.ref fl)) (bl : Binds K fdl ["corners", "pays"] []) :
    FnOk P w K mg base CX0 7 f fd ["self", "pays"] (spSpan CD CT) := by
  refine F.ok scSpan (fun vs H Q E h => ?_) (fun cdv A outer s H vs Q E hr h => ?_)
  · obtain ⟨d, lt, z, q, a, p, rfl, _⟩ := h
    rfl
  · obtain ⟨d, lt, z, q, a, p, rfl, D, hq, hpl, hpb, k0, k1⟩ := h
    have big := line_big
    obtain ⟨dx, as, h1, h2, h3⟩ := D.ex
    refine ⟨_, pss_cons (ps_set (i := 2) scSpan.nd rfl (Or.inl rfl) (pe_meth0 (pv 0) T.clD mA Ga hr ba .nil pass0))
      (pss_cons (ps_if (pt_not (pt_val (pe_call Gf (hr.mono (by decide)) rfl mf kf bf .nil pass0 (pa_cons (pv 2) (pa_cons (pe_fld (pv 0) rfl) pa_nil))))) (pss_one (ps_ret pe_non)) pss_nil)
      (pss_one (ps_ret (pe_call Gl (hr.mono (by decide)) rfl ml kl bl .nil pass0 (pa_cons (pv 2) (pa_cons (pv 1) pa_nil)))))), ?_⟩
    refine ⟨_, rfl, d, dx, _, rfl, h1, rfl, d, lt, z, a, rfl, D, fun H1 c cs s1 hc CC => ?_⟩
    have cl := corners_len D.fine.good
    refine ⟨_, rfl, _, rfl, d, CD, dx, _, _, rfl, s1 _ _ h1, T.clD, T.nW, rfl, c, cs, a.corners, a.n, rfl, hc, CC, fun q hq => (corner_mem D.fine.good hq).1, by omega, D.fine.good.four, fun H2 s2 => ?_⟩
    rw [mFair_eq D.fine.good]
    refine ⟨_, rfl, ?_⟩
    cases hf : a.fair with
    | false =>
      refine ite2 (fun _ => ?_) (fun h => absurd rfl h)
      exact k0 hf H2 (s1.trans s2)
    | true =>
      refine ite2 (fun h => absurd h (by decide)) (fun _ => ?_)
      have cne : 0 < a.corners.length := by
        unfold Abs.fair at hf
        rw [Bool.and_eq_true] at hf
        cases hcs : a.corners with
        | nil => rw [hcs] at hf; exact absurd hf.1 (by decide)
        | cons x t => simp
      refine ⟨_, rfl, _, rfl, c, q, cs, a.corners, p, rfl, s2 _ _ hc, CC.mono s2, (s1.trans s2) _ _ hq, cne, by rw [hpl]; exact D.fine.good.four, fun fs hfs => ⟨by rw [(corner_sz D.fine hfs).1, hpl], (corner_sz D.fine hfs).2⟩, hpb, fun H3 t l g s3 ht hl hg => ?_⟩
      rw [values_eq D.fine hpl] at hl hg
      exact k1 hf H3 t l g ((s1.trans s2).trans s3) ht hl hg
/-! ### priced -/
def spPriced (CD CT : Addr) : Sp := fun vs H Q _ => ∃ (d lt z q : Addr) (a : Abs) (p : List Int), vs = [.ref d, .ref q] ∧ DayA CD CT z H d lt a ∧ H q = some (.lst (p.map V.int)) ∧ p.length = a.n ∧ (∀ x, x ∈ p → x.natAbs < 2 ^ 10) ∧
  ∀ (H' : Hp) (t : Addr), Same H H' → H' t = some (.lst ((pricedL a p).map V.int)) → H t = none → Q (.ref t) H'
theorem scPriced : FnScope ["self", "pays", "span", "told"] ["self", "pays"] (defScope sPriced) := ⟨rfl, rfl, rfl, by decide +kernel, rfl, by decide +kernel, by decide +kernel⟩
theorem ok_priced {f fs : Addr} {fd fds : FuncData} (F : Fun K "priced" "Day.priced" sPriced f fd) (T : Txt K mg CD CT)
    (Gs : FnOk P w K mg base CX0 7 fs fds ["self", "pays"] (spSpan CD CT)) (mS : Meth K CD "span" fs) (bs : Binds K fds ["self", "pays"] []) :
    FnOk P w K mg base CX0 8 f fd ["self", "pays"] (spPriced CD CT) := by
  refine F.ok scPriced (fun vs H Q E h => ?_) (fun cdv A outer s H vs Q E hr h => ?_)
  · obtain ⟨d, lt, z, q, a, p, rfl, _⟩ := h
    rfl
  · obtain ⟨d, lt, z, q, a, p, rfl, D, hq, hpl, hpb, k⟩ := h
    have big := line_big
    obtain ⟨dx, as, h1, h2, h3⟩ := D.ex
    refine ⟨_, pss_cons (ps_set (i := 2) scPriced.nd rfl (Or.inl rfl) (pe_meth (pv 0) T.clD mS Gs hr bs .nil pass0 (pa_cons (pv 1) pa_nil)))
      (pss_cons (ps_if (pt_cmpR op_isN (pv 2) pe_non (nomark _)) (pss_one (ps_ret (pe_lst (pa_cons (pe_num T.mFair) pa_nil)))) pss_nil)
      (pss_cons (ps_set (i := 3) scPriced.nd rfl (Or.inl rfl) (pe_lst (pa_cons (pe_ifExp (pt_cmpR (op_eqD hr.units) (pe_ix ix_tup (pv 2) pe_int (fun _ _ => rfl)) (pe_ix ix_tup (pv 2) pe_int (fun _ _ => rfl)) (nomark _)) pe_int pe_int) pa_nil)))
      (pss_cons (ps_expr (pe_bm PySem.F.plainAttrs_list PySem.F.slot_list_extend PySem.F.type_list_extend mt_extendT (pv 3) (pa_cons (pe_ix ix_tup (pv 2) pe_int (fun _ _ => rfl)) pa_nil)))
      (pss_cons (ps_expr (pe_bm PySem.F.plainAttrs_list PySem.F.slot_list_extend PySem.F.type_list_extend mt_extendT (pv 3) (pa_cons (pe_ix ix_tup (pv 2) pe_int (fun _ _ => rfl)) pa_nil)))
      (pss_one (ps_ret (pv 3))))))), ?_⟩
    refine ⟨_, rfl, d, dx, _, rfl, h1, rfl, _, rfl, d, lt, z, q, a, p, rfl, D, hq, hpl, hpb, ?_, ?_⟩
    · intro hf H1 s1
      refine ⟨_, rfl, rfl, _, rfl, ite2 (fun _ => ?_) (fun hc => absurd rfl hc)⟩
      refine ⟨(by show 1 ≤ sizeLine; omega), fun t ht => ?_⟩
      refine k _ t (s1.trans (same_upd ht)) ?_ (s1.free ht)
      unfold pricedL
      rw [upd_same, if_pos hf]
      rfl
    · intro hf H1 t l g s1 ht hl hg
      have pl : pricedL a p = [((bit (a.lo p == a.hi p) : Nat) : Int), (a.lo p).1, ((a.lo p).2 : Int), (a.hi p).1, ((a.hi p).2 : Int)] := by
        unfold pricedL
        rw [if_neg (by rw [hf]; decide)]
      refine ⟨_, rfl, rfl, _, rfl, ite2 (fun hc => absurd (of_decide_eq_true hc) (by intro h; cases h)) (fun _ => ?_)⟩
      refine ⟨_, rfl, t, _, _, _, rfl, rfl, SqT.of ht, rfl, _, rfl, t, _, _, _, rfl, rfl, SqT.of ht, rfl, _, _, dp_fr hl, dp_fr hg, shaped_fr _, shaped_fr _, _, rfl, ?_⟩
      rw [eqv_fr]
      cases hb : (a.lo p == a.hi p) with
      | true =>
        refine ite2 (fun _ => ?_) (fun h => absurd rfl h)
        refine ⟨(by show 1 ≤ sizeLine; omega), fun o ho => ?_⟩
        have s2 := same_upd (o := .lst [.int 1]) ho
        refine ⟨_, rfl, .inl ⟨rfl, _, SqL.of upd_same⟩, _, rfl, t, _, _, _, rfl, rfl, SqT.of (s2 _ _ ht), rfl, o, l, _, _, rfl, rfl, upd_same, SqT.of (s2 _ _ hl), (by show 1 + 2 ≤ sizeLine; omega), ?_⟩
        rw [upd_upd]
        have s3 := same_upd (o := .lst ([.int 1] ++ frV (a.lo p))) ho
        refine ⟨_, rfl, .inl ⟨rfl, _, SqL.of upd_same⟩, _, rfl, t, _, _, _, rfl, rfl, SqT.of (s3 _ _ ht), rfl, o, g, _, _, rfl, rfl, upd_same, SqT.of (s3 _ _ hg), (by show 3 + 2 ≤ sizeLine; omega), ?_⟩
        rw [upd_upd]
        refine ⟨_, rfl, k _ o (s1.trans (same_upd ho)) ?_ (s1.free ho)⟩
        rw [upd_same, pl, hb]
        rfl
      | false =>
        refine ite2 (fun h => absurd h (by decide)) (fun _ => ?_)
        refine ⟨(by show 1 ≤ sizeLine; omega), fun o ho => ?_⟩
        have s2 := same_upd (o := .lst [.int 0]) ho
        refine ⟨_, rfl, .inl ⟨rfl, _, SqL.of upd_same⟩, _, rfl, t, _, _, _, rfl, rfl, SqT.of (s2 _ _ ht), rfl, o, l, _, _, rfl, rfl, upd_same, SqT.of (s2 _ _ hl), (by show 1 + 2 ≤ sizeLine; omega), ?_⟩
        rw [upd_upd]
        have s3 := same_upd (o := .lst ([.int 0] ++ frV (a.lo p))) ho
        refine ⟨_, rfl, .inl ⟨rfl, _, SqL.of upd_same⟩, _, rfl, t, _, _, _, rfl, rfl, SqT.of (s3 _ _ ht), rfl, o, g, _, _, rfl, rfl, upd_same, SqT.of (s3 _ _ hg), (by show 3 + 2 ≤ sizeLine; omega), ?_⟩
        rw [upd_upd]
        refine ⟨_, rfl, k _ o (s1.trans (same_upd ho)) ?_ (s1.free ho)⟩
        rw [upd_same, pl, hb]
        rfl
end
end DA
set_option Elab.async false
set_option maxRecDepth 100000
set_option maxHeartbeats 2000000
namespace DA
open PySem PySem.Spec PyProof.Rows L2
open Su109 (Fr low over plus less at_ choose least greatest Abs bit does Ans num no)
abbrev cThing : Stmt := top 29
abbrev sInitT : Stmt := inClass cThing 0
abbrev sInitD : Stmt := inClass cDay 0
abbrev sBegin : Stmt := inClass cDay 1
abbrev sThing : Stmt := inClass cDay 2
abbrev sDrop : Stmt := inClass cDay 3
abbrev sPrice : Stmt := inClass cDay 4
/-! ### what a call leaves -/
def isIns : HO → Bool
  | .ins _ _ _ => true
  | _ => false
def DayN0 (CD : Addr) (H : Hp) (d lt : Addr) : Prop := ∃ dx, H d = some (.ins CD dx (dayF false 0 0 0 lt)) ∧ H lt = some (.lst [])
def DayN (CD z : Addr) (H : Hp) (d lt : Addr) : Prop := DayN0 CD H d lt ∧ ZOk H lt z
def DayS (CD CT z : Addr) (H : Hp) (d lt : Addr) : Option Abs → Prop
  | none => DayN CD z H d lt
  | some a => DayA CD CT z H d lt a
theorem DayS.mono {CD CT : Addr} {H H' : Hp} {z d lt : Addr} : ∀ {st : Option Abs}, DayS CD CT z H d lt st → Same H H' → DayS CD CT z H' d lt st
  | none, ⟨⟨dx, h1, h2⟩, h3⟩, s => ⟨⟨dx, s _ _ h1, s _ _ h2⟩, h3.mono s⟩
  | some a, h, s => DayA.mono h s
theorem DayS.there {CD CT : Addr} {H : Hp} {z d lt : Addr} : ∀ {st : Option Abs}, DayS CD CT z H d lt st → ∃ o, H lt = some o
  | none, ⟨⟨_, _, h2⟩, _⟩ => ⟨_, h2⟩
  | some a, h => let ⟨_, _, _, h2, _⟩ := h.ex; ⟨_, h2⟩
def ansL (r : Ans) : List Int := r.value :: r.out
/-- the answer, the object behind it, and all else as it was -/
def Said (CD CT z : Addr) (H : Hp) (d lt : Addr) (st : Option Abs) (ans : List Int) (Q : VK) : Prop :=
  ∀ (H' : Hp) (lt' t : Addr), DayS CD CT z H' d lt' st → (lt' = lt ∨ H lt' = none) → (∀ b o, H b = some o → b ≠ lt → isIns o = false → H' b = some o) → H' t = some (.lst (ans.map V.int)) → H t = none → t ≠ lt' → Q (.ref t) H'
theorem Said.pure {CD CT : Addr} {H H' : Hp} {z d lt t : Addr} {st : Option Abs} {ans : List Int} {Q : VK} (S : Said CD CT z H d lt st ans Q) (D : DayS CD CT z H d lt st) (s : Same H H') (ht : H' t = some (.lst (ans.map V.int))) (hn : H t = none) : Q (.ref t) H' := by
  obtain ⟨o, ho⟩ := D.there
  exact S H' lt t (D.mono s) (Or.inl rfl) (fun b u e _ _ => s b u e) ht hn (fun e => by rw [e, ho] at hn; cases hn)
/-- return [v] -/
theorem Said.back {CD CT : Addr} {H H1 : Hp} {z d lt : Addr} {st : Option Abs} {v : Int} {Q : VK} (S : Said CD CT z H d lt st [v] Q) (D : DayS CD CT z H d lt st) (s : Same H H1) : 1 ≤ sizeLine ∧ ∀ t, H1 t = none → Q (.ref t) (upd H1 t (.lst [.int v])) := by
  have big := line_big
  exact ⟨by omega, fun t ht => S.pure D (s.trans (same_upd ht)) upd_same (s.free ht)⟩
theorem chain_read {σ : L2.St} {H : Hp} {Q : Bool → Hp → Prop} {i : Nat} {x lo hi : Int} (h : σ[i]? = some (some (.int x))) (q : Q (decide (lo ≤ x ∧ x ≤ hi)) H) :
    tTest (tChain (rI0 fun i j => .bl (decide (i ≤ j))) (rI0 fun i j => .bl (decide (i ≤ j))) (tC (.int lo)) (tVar i) (tC (.int hi))) σ H Q := by
  refine ⟨_, h, _, _, rfl, rfl, _, rfl, ?_⟩
  refine ite2 (fun hc => ?_) (fun hc => ?_)
  · have h1 : lo ≤ x := of_decide_eq_true hc
    refine ⟨_, _, rfl, rfl, _, rfl, ?_⟩
    have : decide (x ≤ hi) = decide (lo ≤ x ∧ x ≤ hi) := by
      by_cases h2 : x ≤ hi
      · rw [decide_eq_true h2, decide_eq_true ⟨h1, h2⟩]
      · rw [decide_eq_false h2, decide_eq_false (fun h => h2 h.2)]
    rw [this]
    exact q
  · have h1 : ¬ lo ≤ x := fun h => hc (decide_eq_true h)
    refine ⟨_, rfl, ?_⟩
    rw [decide_eq_false (fun h => h1 h.1)] at q
    exact q
theorem and3_read {t1 t2 t3 : TT} {σ : L2.St} {H : Hp} {Q : Bool → Hp → Prop} {g1 g2 g3 : Prop} [Decidable g1] [Decidable g2] [Decidable g3] (h1 : ∀ Q : Bool → Hp → Prop, Q (decide g1) H → t1 σ H Q) (h2 : ∀ Q : Bool → Hp → Prop, Q (decide g2) H → t2 σ H Q)
    (h3 : ∀ Q : Bool → Hp → Prop, Q (decide g3) H → t3 σ H Q) (q : Q (!(decide (g1 ∧ g2 ∧ g3))) H) : tNot (tAnd t1 (tAnd t2 t3)) σ H Q := by
  refine h1 _ ?_
  by_cases c1 : g1
  · rw [decide_eq_true c1]
    refine ite2 (fun _ => ?_) (fun h => absurd rfl h)
    refine h2 _ ?_
    by_cases c2 : g2
    · rw [decide_eq_true c2]
      refine ite2 (fun _ => ?_) (fun h => absurd rfl h)
      refine h3 _ ?_
      by_cases c3 : g3
      · rw [decide_eq_true ⟨c1, c2, c3⟩] at q
        rw [decide_eq_true c3]
        exact q
      · rw [decide_eq_false (fun h => c3 h.2.2)] at q
        rw [decide_eq_false c3]
        exact q
    · rw [decide_eq_false c2]
      refine ite2 (fun h => absurd h (by decide)) (fun _ => ?_)
      rw [decide_eq_false (fun h => c2 h.2.1)] at q
      exact q
  · rw [decide_eq_false c1]
    refine ite2 (fun h => absurd h (by decide)) (fun _ => ?_)
    rw [decide_eq_false (fun h => c1 h.1)] at q
    exact q
section
variable {P : Program} {w : World} {K : PySem.W.Frag} {mg : Str → Option Value} {base : Heap} {CD CT : Addr}
/-! ### the two __init__ -/
def spInitT (CT : Addr) : Sp := fun vs H Q _ => ∃ (p dx wl : Addr) (c : Int), vs = [.ref p, .int c, .ref wl] ∧ H p = some (.ins CT dx []) ∧ Q .non (upd H p (.ins CT dx (thingF c wl)))
theorem scInitT : FnScope ["self", "cost", "worths"] ["self", "cost", "worths"] (defScope sInitT) := ⟨rfl, rfl, rfl, by decide +kernel, rfl, by decide +kernel, by decide +kernel⟩
theorem ok_initT {f : Addr} {fd : FuncData} (F : Fun K "__init__" "Thing.__init__" sInitT f fd) (T : Txt K mg CD CT) : FnOk P w K mg base CX0 1 f fd ["self", "cost", "worths"] (spInitT CT) := by
  refine F.ok scInitT (fun vs H Q E h => ?_) (fun cdv A outer s H vs Q E hr h => ?_)
  · obtain ⟨p, dx, wl, c, rfl, _⟩ := h
    rfl
  · obtain ⟨p, dx, wl, c, rfl, hp, k⟩ := h
    refine ⟨_, pss_cons (ps_fld (pv 0) (pv 1) rfl) (pss_one (ps_fld (pv 0) (pv 2) rfl)), ?_⟩
    refine ⟨_, rfl, _, rfl, p, CT, dx, [], rfl, hp, T.clT, T.nC, (by show 0 < 1000; decide), ?_⟩
    refine ⟨_, rfl, _, rfl, p, CT, dx, _, rfl, upd_same, T.clT, T.nX, (by show 1 < 1000; decide), ?_⟩
    rw [upd_upd]
    exact k
def spInitD (CD : Addr) : Sp := fun vs H Q _ => ∃ (p dx : Addr), vs = [.ref p] ∧ H p = some (.ins CD dx []) ∧ ∀ (H' : Hp) (lt : Addr), DayN0 CD H' p lt → (∀ b o, H b = some o → b ≠ p → H' b = some o) → H lt = none → Q .non H'
theorem scInitD : FnScope ["self"] ["self"] (defScope sInitD) := ⟨rfl, rfl, rfl, by decide +kernel, rfl, by decide +kernel, by decide +kernel⟩
theorem ok_initD {f : Addr} {fd : FuncData} (F : Fun K "__init__" "Day.__init__" sInitD f fd) (T : Txt K mg CD CT) : FnOk P w K mg base CX0 1 f fd ["self"] (spInitD CD) := by
  refine F.ok scInitD (fun vs H Q E h => ?_) (fun cdv A outer s H vs Q E hr h => ?_)
  · obtain ⟨p, dx, rfl, _⟩ := h
    rfl
  · obtain ⟨p, dx, rfl, hp, k⟩ := h
    refine ⟨_, pss_cons (ps_fld (pv 0) pe_bl rfl) (pss_cons (ps_fld (pv 0) pe_int rfl) (pss_cons (ps_fld (pv 0) pe_int rfl) (pss_cons (ps_fld (pv 0) pe_int rfl) (pss_one (ps_fld (pv 0) (pe_lst pa_nil) rfl))))), ?_⟩
    refine ⟨_, rfl, p, CD, dx, [], rfl, hp, T.clD, T.nB, (by show 0 < 1000; decide), ?_⟩
    refine ⟨_, rfl, p, CD, dx, _, rfl, upd_same, T.clD, T.nW, (by show 1 < 1000; decide), ?_⟩
    refine ⟨_, rfl, p, CD, dx, _, rfl, upd_same, T.clD, T.nL, (by show 2 < 1000; decide), ?_⟩
    refine ⟨_, rfl, p, CD, dx, _, rfl, upd_same, T.clD, T.nK, (by show 3 < 1000; decide), ?_⟩
    simp only [upd_upd]
    refine ⟨Nat.zero_le _, fun lt hlt => ?_⟩
    have ltp : p ≠ lt := fun e => by rw [← e, upd_same] at hlt; cases hlt
    refine ⟨_, rfl, p, CD, dx, _, rfl, (by rw [upd_ne ltp]; exact upd_same), T.clD, T.nT, (by show 4 < 1000; decide), ?_⟩
    refine k _ lt ⟨dx, upd_same, ?_⟩ ?_ ?_
    · rw [upd_ne (fun e => ltp e.symm), upd_same]
    · intro b o e hb
      have hlt' : H lt = none := by rw [upd_ne (fun e => ltp e.symm)] at hlt; exact hlt
      rw [upd_ne hb, upd_ne (ne_of_none e hlt'), upd_ne hb]
      exact e
    · rw [upd_ne (fun e => ltp e.symm)] at hlt
      exact hlt
/-! ### begin -/
def spBegin (CD CT : Addr) : Sp := fun vs H Q _ => ∃ (d lt z : Addr) (st : Option Abs) (n p b : Nat), vs = [.ref d, .int (n : Int), .int (p : Int), .int (b : Int)] ∧ DayS CD CT z H d lt st ∧
  Said CD CT z H d lt (Su109.step st (.begin_ n p b)).1 (ansL (Su109.step st (.begin_ n p b)).2) Q
theorem scBegin : FnScope ["self", "n", "p", "b"] ["self", "n", "p", "b"] (defScope sBegin) := ⟨rfl, rfl, rfl, by decide +kernel, rfl, by decide +kernel, by decide +kernel⟩
theorem begin_bad {st : Option Abs} {n p b : Nat} (h : n = 0 ∨ Su109.MAY < n ∨ p = 0 ∨ b = 0 ∨ 1000 < p ∨ 1000 < b) : Su109.step st (.begin_ n p b) = (st, no (-22)) := by
  cases st with
  | none =>
    simp only [Su109.step, does, if_pos h]
    rfl
  | some a =>
    simp only [Su109.step, does, if_pos h]
theorem begin_good {st : Option Abs} {n p b : Nat} (h : ¬ (n = 0 ∨ Su109.MAY < n ∨ p = 0 ∨ b = 0 ∨ 1000 < p ∨ 1000 < b)) : Su109.step st (.begin_ n p b) = (some (Su109.new n p b), no 0) := by
  cases st with
  | none =>
    simp only [Su109.step, does, if_neg h]
    rfl
  | some a =>
    simp only [Su109.step, does, if_neg h]
theorem ok_begin {f : Addr} {fd : FuncData} (F : Fun K "begin" "Day.begin" sBegin f fd) (T : Txt K mg CD CT) : FnOk P w K mg base CX0 1 f fd ["self", "n", "p", "b"] (spBegin CD CT) := by
  refine F.ok scBegin (fun vs H Q E h => ?_) (fun cdv A outer s H vs Q E hr h => ?_)
  · obtain ⟨d, lt, z, st, n, p, b, rfl, _⟩ := h
    rfl
  · obtain ⟨d, lt, z, st, n, p, b, rfl, D, k⟩ := h
    have big := line_big
    obtain ⟨dx, wd, ln, bk, bg, hd⟩ : ∃ dx wd ln bk bg, H d = some (.ins CD dx (dayF bg wd ln bk lt)) := by
      cases st with
      | none => obtain ⟨⟨dx, h1, h2⟩, _⟩ := D; exact ⟨dx, _, _, _, _, h1⟩
      | some a => obtain ⟨dx, as, h1, h2, h3⟩ := DayA.ex D; exact ⟨dx, _, _, _, _, h1⟩
    refine ⟨_, pss_cons (ps_if (pt_not (PW.pt (pw_and (pt_chain op_le op_le pe_int (pv 1) (pe_num T.mCome)) (pw_and (pt_chain op_le op_le pe_int (pv 2) (pe_num T.mMost)) (pw_and1 (pt_chain op_le op_le pe_int (pv 3) (pe_num T.mMost)))))))
        (pss_one (ps_ret (pe_lst (pa_cons (pe_num T.mRange) pa_nil)))) pss_nil)
      (pss_cons (ps_fld (pv 0) pe_bl rfl) (pss_cons (ps_fld (pv 0) (pv 1) rfl) (pss_cons (ps_fld (pv 0) (pv 2) rfl) (pss_cons (ps_fld (pv 0) (pv 3) rfl) (pss_cons (ps_fld (pv 0) (pe_lst pa_nil) rfl)
      (pss_one (ps_ret (pe_lst (pa_cons pe_int pa_nil))))))))), ?_⟩
    simp only [tSeq, tIfS]
    refine and3_read (g1 := 1 ≤ (n : Int) ∧ (n : Int) ≤ 4) (g2 := 1 ≤ (p : Int) ∧ (p : Int) ≤ 1000) (g3 := 1 ≤ (b : Int) ∧ (b : Int) ≤ 1000) (fun Q q => chain_read (i := 1) (x := (n : Int)) (lo := 1) (hi := 4) rfl q) (fun Q q => chain_read (i := 2) (x := (p : Int)) (lo := 1) (hi := 1000) rfl q) (fun Q q => chain_read (i := 3) (x := (b : Int)) (lo := 1) (hi := 1000) rfl q) ?_
    refine ite2 (fun hc => ?_) (fun hc => ?_)
    · have bad : n = 0 ∨ Su109.MAY < n ∨ p = 0 ∨ b = 0 ∨ 1000 < p ∨ 1000 < b := by
        have : ¬ ((1 ≤ (n : Int) ∧ (n : Int) ≤ 4) ∧ (1 ≤ (p : Int) ∧ (p : Int) ≤ 1000) ∧ 1 ≤ (b : Int) ∧ (b : Int) ≤ 1000) := by
          intro h
          rw [decide_eq_true h] at hc
          exact absurd hc (by decide)
        unfold Su109.MAY
        omega
      rw [begin_bad bad] at k
      exact Said.back k D (Same.refl H)
    · have hg : (1 ≤ (n : Int) ∧ (n : Int) ≤ 4) ∧ (1 ≤ (p : Int) ∧ (p : Int) ≤ 1000) ∧ 1 ≤ (b : Int) ∧ (b : Int) ≤ 1000 := by
        apply Classical.byContradiction
        intro h
        exact hc (by rw [decide_eq_false h]; rfl)
      have good : ¬ (n = 0 ∨ Su109.MAY < n ∨ p = 0 ∨ b = 0 ∨ 1000 < p ∨ 1000 < b) := by
        unfold Su109.MAY
        omega
      rw [begin_good good] at k
      refine ⟨_, rfl, d, CD, dx, _, rfl, hd, T.clD, T.nB, (by show 5 < 1000; decide), ?_⟩
      refine ⟨_, rfl, _, rfl, d, CD, dx, _, rfl, upd_same, T.clD, T.nW, (by show 5 < 1000; decide), ?_⟩
      refine ⟨_, rfl, _, rfl, d, CD, dx, _, rfl, upd_same, T.clD, T.nL, (by show 5 < 1000; decide), ?_⟩
      refine ⟨_, rfl, _, rfl, d, CD, dx, _, rfl, upd_same, T.clD, T.nK, (by show 5 < 1000; decide), ?_⟩
      simp only [upd_upd]
      refine ⟨Nat.zero_le _, fun l2 hl2 => ?_⟩
      have ld : d ≠ l2 := fun e => by rw [← e, upd_same] at hl2; cases hl2
      have hl2' : H l2 = none := by rw [upd_ne (fun e => ld e.symm)] at hl2; exact hl2
      refine ⟨_, rfl, d, CD, dx, _, rfl, (by rw [upd_ne ld]; exact upd_same), T.clD, T.nT, (by show 5 < 1000; decide), ?_⟩
      refine ⟨(by show 1 ≤ sizeLine; omega), fun t ht => ?_⟩
      have td : d ≠ t := fun e => by rw [← e, upd_same] at ht; cases ht
      have tl2 : l2 ≠ t := fun e => by rw [← e, upd_ne (fun e => ld e.symm), upd_same] at ht; cases ht
      have tH : H t = none := by
        rw [upd_ne (fun e => td e.symm), upd_ne (fun e => tl2 e.symm), upd_ne (fun e => td e.symm)] at ht
        exact ht
      refine k _ l2 t ?_ (Or.inr hl2') ?_ upd_same tH (fun e => tl2 e.symm)
      · obtain ⟨zl, zx, hz⟩ : ZOk H lt z := by
          cases st with
          | none => exact D.2
          | some a => exact DayA.zok D
        have zd : z ≠ d := ne_of hz hd (by intro q; cases q)
        refine ⟨⟨dx, [], ?_, ?_, ⟨rfl, by simp, fun i a h => by simp at h⟩⟩, ⟨⟨?_, ?_, ?_, ?_, ?_⟩, ?_, ?_, ?_, ?_⟩, ⟨ne_of_none hz hl2', zx, ?_⟩⟩
        · rw [upd_ne td, upd_same]
          rfl
        · rw [upd_ne tl2, upd_ne (fun e => ld e.symm), upd_same]
          rfl
        · show 1 ≤ n; omega
        · show n ≤ 4; omega
        · show 1 ≤ p; omega
        · show 0 ≤ 2; decide
        · intro t ht; cases ht
        · show p ≤ 1000; omega
        · show b ≤ 1000; omega
        · intro t ht; cases ht
        · show 1 ≤ b; omega
        · rw [upd_ne (ne_of_none hz tH), upd_ne zd, upd_ne (ne_of_none hz hl2'), upd_ne zd]
          exact hz
      · intro x o e _ hi
        have xd : x ≠ d := fun q => by rw [q, hd] at e; cases e; cases hi
        rw [upd_ne (ne_of_none e tH), upd_ne xd, upd_ne (ne_of_none e hl2'), upd_ne xd]
        exact e
/-! ### thing -/
def spThing (CD CT : Addr) : Sp := fun vs H Q _ => ∃ (d lt z q : Addr) (a : Abs) (p : Nat) (l : List Nat), vs = [.ref d, .int (p : Int), .ref q] ∧ DayA CD CT z H d lt a ∧ H q = some (.lst (natsV l)) ∧ l.length < 100 ∧
  Said CD CT z H d lt (some (does a (.thing p l)).1) (ansL (does a (.thing p l)).2) Q
theorem scThing : FnScope ["self", "p", "worths"] ["self", "p", "worths"] (defScope sThing) := ⟨rfl, rfl, rfl, by decide +kernel, rfl, by decide +kernel, by decide +kernel⟩
theorem okP_iff {a : Abs} {l : List Nat} (h : a.okP l = true) : l.length = a.n ∧ ∀ x, x ∈ l → x ≤ 1000 := by
  unfold Abs.okP at h
  rw [Bool.and_eq_true, List.all_eq_true] at h
  exact ⟨by simpa using h.1, fun x hx => of_decide_eq_true (h.2 x hx)⟩
theorem ok_thing {f fr fi : Addr} {fd fdr fdi : FuncData} (F : Fun K "thing" "Day.thing" sThing f fd) (T : Txt K mg CD CT)
    (Gr : FnOk P w K mg base CX0 1 fr fdr ["self", "numbers"] (spIsRow CD CT)) (mR : Meth K CD "is_row" fr) (br : Binds K fdr ["self", "numbers"] [])
    (M : Mk K CT fi) (Gi : FnOk P w K mg base CX0 1 fi fdi ["self", "cost", "worths"] (spInitT CT)) (mT : mg "Thing" = some (.ref CT)) (bi : Binds K fdi ["self", "cost", "worths"] []) :
    FnOk P w K mg base CX0 3 f fd ["self", "p", "worths"] (spThing CD CT) := by
  refine F.ok scThing (fun vs H Q E h => ?_) (fun cdv A outer s H vs Q E hr h => ?_)
  · obtain ⟨d, lt, z, q, a, p, l, rfl, _⟩ := h
    rfl
  · obtain ⟨d, lt, z, q, a, p, l, rfl, D, hq, hl, k⟩ := h
    have big := line_big
    obtain ⟨dx, as, h1, h2, h3⟩ := D.ex
    have DS : DayS CD CT z H d lt (some a) := D
    refine ⟨_, pss_cons (ps_if (PW.pt (pw_or (pt_cmpR op_gt (pv 1) (pe_num T.mMost) (nomark _)) (pw_or1 (pt_not (pt_val (pe_meth (pv 0) T.clD mR Gr (hr.mono (by decide)) br .nil pass0 (pa_cons (pv 2) pa_nil)))))))
        (pss_one (ps_ret (pe_lst (pa_cons (pe_num T.mRange) pa_nil)))) pss_nil)
      (pss_cons (ps_if (pt_cmpR op_eq (pe_callB call_len_seq (by rfl) T.len PySem.boot_len (pa_cons (pe_fld (pv 0) rfl) pa_nil)) (pe_num T.mThings) (nomark _)) (pss_one (ps_ret (pe_lst (pa_cons (pe_num T.mMany) pa_nil)))) pss_nil)
      (pss_cons (ps_expr (pe_bm PySem.F.plainAttrs_list PySem.F.slot_list_append PySem.F.type_list_append mt_append (pe_fld (pv 0) rfl) (pa_cons (pe_make M Gi hr rfl mT bi .nil pass0 (pa_cons (pv 1) (pa_cons (pe_callTy call_list_of (by rfl) T.list PyProof.Rows.boot_list (pa_cons (pv 2) pa_nil)) pa_nil))) pa_nil)))
      (pss_one (ps_ret (pe_lst (pa_cons (pe_op op_sub (pe_callB call_len_seq (by rfl) T.len PySem.boot_len (pa_cons (pe_fld (pv 0) rfl) pa_nil)) pe_int) pa_nil)))))), ?_⟩
    refine ⟨_, rfl, _, _, rfl, rfl, _, rfl, ?_⟩
    have al : (as.map V.ref).length = a.things.length := by rw [List.length_map, h3.len]
    have ht2 := D.fine.good.two
    refine ite2 (fun hc => ?_) (fun hc => ?_)
    · have hp : 1000 < p := by have := of_decide_eq_true hc; omega
      have e : does a (.thing p l) = (a, no (-22)) := by
        show (if 1000 < p ∨ a.okP l = false then (a, no (-22)) else _) = _
        rw [if_pos (Or.inl hp)]
      rw [e] at k
      exact Said.back k DS (Same.refl H)
    · have hp : ¬ 1000 < p := fun h => hc (decide_eq_true (by omega))
      refine ⟨_, rfl, d, dx, _, rfl, h1, rfl, _, rfl, d, lt, z, q, a, l, rfl, D, hq, hl, fun H1 s1 => ⟨_, rfl, ?_⟩⟩
      cases hok : a.okP l with
      | false =>
        refine ite2 (fun _ => ?_) (fun h => absurd rfl h)
        have e : does a (.thing p l) = (a, no (-22)) := by
          show (if 1000 < p ∨ a.okP l = false then (a, no (-22)) else _) = _
          rw [if_pos (Or.inr hok)]
        rw [e] at k
        exact Said.back k DS s1
      | true =>
        refine ite2 (fun h => absurd h (by decide)) (fun _ => ?_)
        have e0 : does a (.thing p l) = if Su109.THINGS ≤ a.things.length then (a, no (-28)) else ({ a with things := a.things ++ [(p, l)] }, num a.things.length []) := by
          show (if 1000 < p ∨ a.okP l = false then (a, no (-22)) else _) = _
          rw [if_neg (fun h => h.elim hp (fun h => by rw [hok] at h; cases h))]
        refine ⟨_, rfl, d, CD, dx, _, _, rfl, s1 _ _ h1, T.clD, T.nT, rfl, lt, _, rfl, .inl (SqL.of (s1 _ _ h2)), rfl, _, rfl, ?_⟩
        refine ite_eq (fun he => ?_) (fun hne => ?_)
        · rw [al] at he
          have e : does a (.thing p l) = (a, no (-28)) := by rw [e0, if_pos (by unfold Su109.THINGS; omega)]
          rw [e] at k
          exact Said.back k DS s1
        · rw [al] at hne
          have e : does a (.thing p l) = ({ a with things := a.things ++ [(p, l)] }, num a.things.length []) := by rw [e0, if_neg (by unfold Su109.THINGS; omega)]
          rw [e] at k
          obtain ⟨ol, ob⟩ := okP_iff hok
          refine ⟨_, rfl, d, CD, dx, _, _, rfl, s1 _ _ h1, T.clD, T.nT, rfl, .inl ⟨rfl, _, SqL.of (s1 _ _ h2)⟩, ?_⟩
          refine ⟨_, rfl, _, rfl, q, _, rfl, .inl (SqL.of (s1 _ _ hq)), fun wl hwl x dxx hx hdx hne2 => ?_⟩
          have s2 := same_upd (o := .lst (natsV l)) hwl
          have wlx : wl ≠ x := fun q => by rw [← q, upd_same] at hx; cases hx
          have wldx : wl ≠ dxx := fun q => by rw [← q, upd_same] at hdx; cases hdx
          refine ⟨x, dxx, wl, (p : Int), rfl, upd_same, rfl, ?_⟩
          rw [upd_upd]
          have sD := same_upd (o := .own x) hdx
          have hx' : (upd (upd H1 wl (.lst (natsV l))) dxx (.own x)) x = none := by rw [upd_ne (fun q => hne2 q.symm)]; exact hx
          have sX := same_upd (o := .ins CT dxx (thingF (p : Int) wl)) hx'
          have sA := ((s1.trans s2).trans sD).trans sX
          have ltx : lt ≠ x := ne_of_none (((s1.trans s2).trans sD) _ _ h2) hx'
          have dlt : d ≠ lt := ne_of h1 h2 (by intro z; cases z)
          have hwlA : (upd (upd (upd H1 wl (.lst (natsV l))) dxx (.own x)) x (.ins CT dxx (thingF (p : Int) wl))) wl = some (.lst (natsV l)) := sX _ _ (sD _ _ upd_same)
          have wllt : wl ≠ lt := fun q => by rw [q, s1 _ _ h2] at hwl; cases hwl
          refine ⟨lt, _, _, rfl, rfl, sA _ _ h2, (by rw [al]; omega), ?_⟩
          refine ⟨_, rfl, d, CD, dx, _, _, rfl, (by rw [upd_ne dlt]; exact sA _ _ h1), T.clD, T.nT, rfl, lt, _, rfl, .inl (SqL.of upd_same), _, _, rfl, rfl, (by show 1 ≤ sizeLine; omega), fun t ht => ?_⟩
          have em : as.map V.ref ++ [V.ref x] = (as ++ [x]).map V.ref := by rw [List.map_append]; rfl
          rw [em] at ht ⊢
          have tlt : t ≠ lt := fun q => by rw [q, upd_same] at ht; cases ht
          have tA : (upd (upd (upd H1 wl (.lst (natsV l))) dxx (.own x)) x (.ins CT dxx (thingF (p : Int) wl))) t = none := by rw [upd_ne tlt] at ht; exact ht
          have xas : x ∉ as := fun hm => by
            obtain ⟨i, hi⟩ := List.mem_iff_getElem?.mp hm
            obtain ⟨_, _, _, _, g2, _, _⟩ := h3.at_ i x hi
            have := ((s1.trans s2).trans sD) _ _ g2
            rw [hx'] at this
            cases this
          have sT := same_upd (o := .lst [.int (((as ++ [x]).map V.ref).length - 1)]) ht
          have up : ∀ b o, (upd (upd (upd H1 wl (.lst (natsV l))) dxx (.own x)) x (.ins CT dxx (thingF (p : Int) wl))) b = some o → b ≠ lt →
              (upd (upd (upd (upd (upd H1 wl (.lst (natsV l))) dxx (.own x)) x (.ins CT dxx (thingF (p : Int) wl))) lt (.lst ((as ++ [x]).map V.ref))) t (.lst [.int (((as ++ [x]).map V.ref).length - 1)])) b = some o := fun b o e hb =>
            sT _ _ (by rw [upd_ne hb]; exact e)
          refine k _ lt t ?_ (Or.inl rfl) (fun b o e hb _ => up b o (sA _ _ e) hb) ?_ (sA.free tA) tlt
          · obtain ⟨zl, zx, hz⟩ := D.zok
            have wlz : wl ≠ z := fun q => by rw [q, s1 _ _ hz] at hwl; cases hwl
            refine ⟨⟨dx, as ++ [x], up _ _ (sA _ _ h1) dlt, sT _ _ upd_same, ⟨?_, ?_, ?_⟩⟩, ⟨⟨D.fine.good.one, D.fine.good.four, D.fine.good.pos, ?_, ?_⟩, D.fine.p1000, D.fine.b1000, ?_, D.fine.bpos⟩, ⟨zl, zx, up _ _ (sA _ _ hz) zl⟩⟩
            · show (as ++ [x]).length = (a.things ++ [(p, l)]).length
              rw [List.length_append, List.length_append, h3.len]
              rfl
            · exact nd_snoc h3.nd xas
            · intro i b hb
              by_cases hi : i < as.length
              · rw [List.getElem?_append_left hi] at hb
                obtain ⟨t', dx', wl', g1, g2, g3, g4⟩ := h3.at_ i b hb
                refine ⟨t', dx', wl', ?_, up _ _ (sA _ _ g2) (ne_of g2 h2 (by intro z; cases z)), up _ _ (sA _ _ g3) g4.1, g4⟩
                show (a.things ++ [(p, l)])[i]? = some t'
                rw [List.getElem?_append_left (by rw [← h3.len]; exact hi)]
                exact g1
              · rw [List.getElem?_append_right (by omega)] at hb
                have hi' : i = as.length := by
                  have := (List.getElem?_eq_some_iff.mp hb).1
                  simp at this
                  omega
                subst hi'
                simp at hb
                subst hb
                refine ⟨(p, l), dxx, wl, ?_, up _ _ upd_same (fun q => ltx q.symm), up _ _ hwlA wllt, ⟨wllt, wlz⟩⟩
                show (a.things ++ [(p, l)])[as.length]? = some (p, l)
                rw [List.getElem?_append_right (by rw [h3.len]; exact Nat.le_refl _), h3.len]
                simp
            · show (a.things ++ [(p, l)]).length ≤ 2
              rw [List.length_append]
              show a.things.length + 1 ≤ 2
              omega
            · intro t' ht'
              rcases List.mem_append.mp ht' with g | g
              · exact D.fine.good.wide t' g
              · rw [List.mem_singleton.mp g]; exact ol
            · intro t' ht'
              rcases List.mem_append.mp ht' with g | g
              · exact D.fine.c1000 t' g
              · rw [List.mem_singleton.mp g]; exact ⟨by show p ≤ 1000; omega, ob⟩
          · rw [upd_same]
            show some (HO.lst [V.int ((((as ++ [x]).map V.ref).length : Int) - 1)]) = some (HO.lst [V.int ((a.things.length : Nat) : Int)])
            have : ((((as ++ [x]).map V.ref).length : Int) - 1) = ((a.things.length : Nat) : Int) := by
              rw [List.length_map, List.length_append, h3.len]
              simp
            rw [this]
end
end DA
set_option Elab.async false
set_option maxRecDepth 100000
set_option maxHeartbeats 2000000
namespace DA
open PySem PySem.Spec PyProof.Rows L2
open Su109 (Fr low over plus less at_ choose least greatest Abs bit does Ans num no two)
abbrev sLook : Stmt := inClass cDay 5
abbrev sRate : Stmt := inClass cDay 6
abbrev sState : Stmt := inClass cDay 7
abbrev sFairM : Stmt := inClass cDay 8
abbrev sWould : Stmt := inClass cDay 9
abbrev sCorners : Stmt := inClass cDay 10
abbrev sWhole : Stmt := inClass cDay 11
abbrev sFree : Stmt := inClass cDay 12
abbrev sPays : Stmt := inClass cDay 13
theorem map_erase : ∀ (as : List Addr) (t : Nat), (as.eraseIdx t).map V.ref = (as.map V.ref).eraseIdx t
  | [], t => rfl
  | a :: r, 0 => rfl
  | a :: r, t + 1 => by
    show V.ref a :: (r.eraseIdx t).map V.ref = V.ref a :: (r.map V.ref).eraseIdx t
    rw [map_erase r t]
theorem isT_iff {a : Abs} {t : Nat} : a.isT t = true ↔ t < a.things.length := by unfold Abs.isT; exact decide_eq_true_iff
theorem ref_ne {a : Abs} {t p : Nat} (h : refN a t p ≠ 0) : (a.isT t = false ∧ refN a t p = -2) ∨ (¬ a.isT t = false ∧ 1000 < p ∧ refN a t p = -22) := by
  unfold refN at h ⊢
  by_cases h1 : a.isT t = false
  · rw [if_pos h1]; exact .inl ⟨h1, rfl⟩
  · rw [if_neg h1] at h ⊢
    by_cases h2 : 1000 < p
    · rw [if_pos h2]; exact .inr ⟨h1, h2, rfl⟩
    · rw [if_neg h2] at h; exact absurd rfl h
theorem ref_eq {a : Abs} {t p : Nat} (h : refN a t p = 0) : a.isT t = true ∧ ¬ 1000 < p := by
  unfold refN at h
  by_cases h1 : a.isT t = false
  · rw [if_pos h1] at h; cases h
  · rw [if_neg h1] at h
    by_cases h2 : 1000 < p
    · rw [if_pos h2] at h; cases h
    · exact ⟨by simpa using h1, h2⟩
theorem fine_price {a : Abs} (F : Fine a) {t p : Nat} (hp : ¬ 1000 < p) : Fine (priceAt a t p) := by
  have key : ∀ t', t' ∈ a.things.modify t (fun x => (p, x.2)) → ∃ x, x ∈ a.things ∧ (t' = (p, x.2) ∨ t' = x) := by
    intro t' ht'
    obtain ⟨i, hi⟩ := List.mem_iff_getElem?.mp ht'
    rw [List.getElem?_modify] at hi
    cases hx : a.things[i]? with
    | none => rw [hx] at hi; cases hi
    | some x =>
      rw [hx] at hi
      refine ⟨x, List.mem_of_getElem? hx, ?_⟩
      have := Option.some.inj hi
      split at this <;> simp_all
  refine ⟨⟨F.good.one, F.good.four, F.good.pos, ?_, ?_⟩, F.p1000, F.b1000, ?_, F.bpos⟩
  · show (a.things.modify t fun x => (p, x.2)).length ≤ 2
    rw [List.length_modify]
    exact F.good.two
  · intro t' ht'
    obtain ⟨x, hx, rfl | rfl⟩ := key t' ht'
    · exact F.good.wide x hx
    · exact F.good.wide _ hx
  · intro t' ht'
    obtain ⟨x, hx, rfl | rfl⟩ := key t' ht'
    · exact ⟨by show p ≤ 1000; omega, (F.c1000 x hx).2⟩
    · exact F.c1000 _ hx
section
variable {P : Program} {w : World} {K : PySem.W.Frag} {mg : Str → Option Value} {base : Heap} {CD CT : Addr}
/-! ### drop -/
def spDrop (CD CT : Addr) : Sp := fun vs H Q _ => ∃ (d lt z : Addr) (a : Abs) (t : Nat), vs = [.ref d, .int (t : Int)] ∧ DayA CD CT z H d lt a ∧ Said CD CT z H d lt (some (does a (.drop t)).1) (ansL (does a (.drop t)).2) Q
theorem scDrop : FnScope ["self", "t"] ["self", "t"] (defScope sDrop) := ⟨rfl, rfl, rfl, by decide +kernel, rfl, by decide +kernel, by decide +kernel⟩
theorem ok_drop {f fh : Addr} {fd fdh : FuncData} (F : Fun K "drop" "Day.drop" sDrop f fd) (T : Txt K mg CD CT)
    (Gh : FnOk P w K mg base CX0 1 fh fdh ["self", "t"] (spHas CD CT)) (mH : Meth K CD "has_thing" fh) (bh : Binds K fdh ["self", "t"] []) :
    FnOk P w K mg base CX0 2 f fd ["self", "t"] (spDrop CD CT) := by
  refine F.ok scDrop (fun vs H Q E h => ?_) (fun cdv A outer s H vs Q E hr h => ?_)
  · obtain ⟨d, lt, z, a, t, rfl, _⟩ := h
    rfl
  · obtain ⟨d, lt, z, a, t, rfl, D, k⟩ := h
    have big := line_big
    obtain ⟨dx, as, h1, h2, h3⟩ := D.ex
    have DS : DayS CD CT z H d lt (some a) := D
    have ht2 := D.fine.good.two
    refine ⟨_, pss_cons (ps_if (pt_not (pt_val (pe_meth (pv 0) T.clD mH Gh hr bh .nil pass0 (pa_cons (pv 1) pa_nil)))) (pss_one (ps_ret (pe_lst (pa_cons (pe_num T.mNone) pa_nil)))) pss_nil)
      (pss_cons (ps_expr (pe_bm PySem.F.plainAttrs_list PySem.F.slot_list_pop PySem.F.type_list_pop mt_popAt (pe_fld (pv 0) rfl) (pa_cons (pv 1) pa_nil)))
      (pss_one (ps_ret (pe_lst (pa_cons (pe_callB call_len_seq (by rfl) T.len PySem.boot_len (pa_cons (pe_fld (pv 0) rfl) pa_nil)) pa_nil))))), ?_⟩
    refine ⟨_, rfl, d, dx, _, rfl, h1, rfl, _, rfl, d, lt, z, a, t, rfl, D, _, rfl, ?_⟩
    cases hT : a.isT t with
    | false =>
      refine ite2 (fun _ => ?_) (fun h => absurd rfl h)
      have e : does a (.drop t) = (a, no (-2)) := by
        show (if a.isT t = false then (a, no (-2)) else _) = _
        rw [if_pos hT]
      rw [e] at k
      exact Said.back k DS (Same.refl H)
    | true =>
      refine ite2 (fun h => absurd h (by decide)) (fun _ => ?_)
      have e : does a (.drop t) = ({ a with things := a.things.eraseIdx t }, num (a.things.length - 1) []) := by
        show (if a.isT t = false then (a, no (-2)) else _) = _
        rw [if_neg (by rw [hT]; decide)]
      rw [e] at k
      have htl : t < a.things.length := isT_iff.mp hT
      have hal : t < as.length := by rw [h3.len]; exact htl
      have hxl : t < (as.map V.ref).length := by rw [List.length_map]; exact hal
      have ea : as[t]? = some as[t] := List.getElem?_eq_getElem hal
      refine ⟨_, rfl, d, CD, dx, _, _, rfl, h1, T.clD, T.nT, rfl, .inl ⟨rfl, _, SqL.of h2⟩, _, rfl, lt, _, _, t, _, rfl, rfl, h2, by omega, by omega, (ixN_seq (ixN_nat hxl)).1, ref_at ea, ?_⟩
      have dlt : d ≠ lt := ne_of h1 h2 (by intro z; cases z)
      refine ⟨_, rfl, d, CD, dx, _, _, rfl, (by rw [upd_ne dlt]; exact h1), T.clD, T.nT, rfl, lt, _, rfl, .inl (SqL.of upd_same), (by show 1 ≤ sizeLine; omega), fun q hq => ?_⟩
      have em : (as.map V.ref).eraseIdx t = (as.eraseIdx t).map V.ref := (map_erase as t).symm
      rw [em] at hq ⊢
      have qlt : q ≠ lt := fun z => by rw [z, upd_same] at hq; cases hq
      have qH : H q = none := by rw [upd_ne qlt] at hq; exact hq
      have sT := same_upd (o := .lst [.int (((as.eraseIdx t).map V.ref).length : Nat)]) hq
      have up : ∀ b o, H b = some o → b ≠ lt → (upd (upd H lt (.lst ((as.eraseIdx t).map V.ref))) q (.lst [.int (((as.eraseIdx t).map V.ref).length : Nat)])) b = some o := fun b o e hb => sT _ _ (by rw [upd_ne hb]; exact e)
      refine k _ lt q ?_ (Or.inl rfl) (fun b o e hb _ => up b o e hb) ?_ qH qlt
      · obtain ⟨zl, zx, hz⟩ := D.zok
        refine ⟨⟨dx, as.eraseIdx t, up _ _ h1 dlt, sT _ _ upd_same, ⟨?_, ?_, ?_⟩⟩, ⟨⟨D.fine.good.one, D.fine.good.four, D.fine.good.pos, ?_, ?_⟩, D.fine.p1000, D.fine.b1000, ?_, D.fine.bpos⟩, ⟨zl, zx, up _ _ hz zl⟩⟩
        · show (as.eraseIdx t).length = (a.things.eraseIdx t).length
          rw [List.length_eraseIdx_of_lt hal, List.length_eraseIdx_of_lt htl, h3.len]
        · exact h3.nd.sublist (List.eraseIdx_sublist as t)
        · intro i b hb
          have : ∃ i' : Nat, as[i']? = some b ∧ (a.things.eraseIdx t)[i]? = a.things[i']? := by
            rw [List.getElem?_eraseIdx] at hb
            rw [List.getElem?_eraseIdx]
            split at hb
            · rename_i hlt
              exact ⟨i, hb, by rw [if_pos hlt]⟩
            · rename_i hlt
              exact ⟨i + 1, hb, by rw [if_neg hlt]⟩
          obtain ⟨i', g0, g0'⟩ := this
          obtain ⟨t', dx', wl', g1, g2, g3, g4⟩ := h3.at_ i' b g0
          exact ⟨t', dx', wl', g0'.trans g1, up _ _ g2 (ne_of g2 h2 (by intro z; cases z)), up _ _ g3 g4.1, g4⟩
        · show (a.things.eraseIdx t).length ≤ 2
          rw [List.length_eraseIdx_of_lt htl]
          omega
        · intro t' ht'
          exact D.fine.good.wide t' ((List.eraseIdx_sublist _ _).subset ht')
        · intro t' ht'
          exact D.fine.c1000 t' ((List.eraseIdx_sublist _ _).subset ht')
      · rw [upd_same, List.length_map, List.length_eraseIdx_of_lt hal, h3.len]
        rfl
/-! ### price -/
def spPrice (CD CT : Addr) : Sp := fun vs H Q _ => ∃ (d lt z : Addr) (a : Abs) (t p : Nat), vs = [.ref d, .int (t : Int), .int (p : Int)] ∧ DayA CD CT z H d lt a ∧ Said CD CT z H d lt (some (does a (.price t p)).1) (ansL (does a (.price t p)).2) Q
theorem scPrice : FnScope ["self", "t", "p", "refused", "thing", "was"] ["self", "t", "p"] (defScope sPrice) := ⟨rfl, rfl, rfl, by decide +kernel, rfl, by decide +kernel, by decide +kernel⟩
theorem ok_price {f fh : Addr} {fd fdh : FuncData} (F : Fun K "price" "Day.price" sPrice f fd) (T : Txt K mg CD CT)
    (Gh : FnOk P w K mg base CX0 2 fh fdh ["self", "t", "number"] (spRefusal CD CT)) (mH : Meth K CD "refusal" fh) (bh : Binds K fdh ["self", "t", "number"] []) :
    FnOk P w K mg base CX0 3 f fd ["self", "t", "p"] (spPrice CD CT) := by
  refine F.ok scPrice (fun vs H Q E h => ?_) (fun cdv A outer s H vs Q E hr h => ?_)
  · obtain ⟨d, lt, z, a, t, p, rfl, _⟩ := h
    rfl
  · obtain ⟨d, lt, z, a, t, p, rfl, D, k⟩ := h
    have big := line_big
    obtain ⟨dx, as, h1, h2, h3⟩ := D.ex
    have DS : DayS CD CT z H d lt (some a) := D
    refine ⟨_, pss_cons (ps_set (i := 3) scPrice.nd rfl (Or.inl rfl) (pe_meth (pv 0) T.clD mH Gh hr bh .nil pass0 (pa_cons (pv 1) (pa_cons (pv 2) pa_nil))))
      (pss_cons (ps_if (pt_cmpR op_ne (pv 3) pe_int (nomark _)) (pss_one (ps_ret (pe_lst (pa_cons (pv 3) pa_nil)))) pss_nil)
      (pss_cons (ps_set (i := 4) scPrice.nd rfl (Or.inl rfl) (pe_ix ix_list (pe_fld (pv 0) rfl) (pv 1) (fun _ _ => rfl)))
      (pss_cons (ps_set (i := 5) scPrice.nd rfl (Or.inl rfl) (pe_fld (pv 4) rfl))
      (pss_cons (ps_fld (pv 4) (pv 2) rfl)
      (pss_one (ps_ret (pe_lst (pa_cons (pv 5) pa_nil)))))))), ?_⟩
    refine ⟨_, rfl, d, dx, _, rfl, h1, rfl, _, rfl, _, rfl, d, lt, z, a, t, p, rfl, D, ?_⟩
    refine ⟨_, rfl, rfl, _, rfl, ?_⟩
    refine ite_ne (fun hne => ?_) (fun he => ?_)
    · have e : does a (.price t p) = (a, no (refN a t p)) := by
        rcases ref_ne hne with ⟨g1, g2⟩ | ⟨g1, g2, g3⟩
        · simp only [does, if_pos g1, g2]
        · simp only [does, if_neg g1, if_pos g2, g3]
      rw [e] at k
      exact ⟨_, rfl, Said.back k DS (Same.refl H)⟩
    · obtain ⟨hT, hp⟩ := ref_eq he
      have hT' : ¬ a.isT t = false := by rw [hT]; decide
      have e0 : does a (.price t p) = (priceAt a t p, num (a.things.getD t (0, [])).1 []) := by
        simp only [does, if_neg hT', if_neg hp]
        rfl
      rw [e0] at k
      have htl : t < a.things.length := isT_iff.mp hT
      have hal : t < as.length := by rw [h3.len]; exact htl
      have ea : as[t]? = some as[t] := List.getElem?_eq_getElem hal
      obtain ⟨th, dxt, wl, g1, g2, g3, g4⟩ := h3.at_ t as[t] ea
      have eth : a.things.getD t (0, []) = th := by simp [List.getD, g1]
      have atlt : as[t] ≠ lt := ne_of g2 h2 (by intro z; cases z)
      have atwl : ∀ (w' : Addr) (xs : List V), H w' = some (.lst xs) → w' ≠ as[t] := fun w' xs hw => ne_of hw g2 (by intro z; cases z)
      refine ⟨_, rfl, d, CD, dx, _, _, rfl, h1, T.clD, T.nT, rfl, _, rfl, lt, _, _, _, rfl, rfl, SqL.of h2, at_of (j := t) rfl (ref_at ea), ?_⟩
      refine ⟨_, rfl, as[t], CT, dxt, _, _, rfl, g2, T.clT, T.nC, rfl, ?_⟩
      refine ⟨_, rfl, _, rfl, as[t], CT, dxt, _, rfl, g2, T.clT, T.nC, (by show 2 < 1000; decide), ?_⟩
      refine ⟨_, rfl, (by show 1 ≤ sizeLine; omega), fun q hq => ?_⟩
      have qat : q ≠ as[t] := fun z => by rw [z, upd_same] at hq; cases hq
      have qH : H q = none := by rw [upd_ne qat] at hq; exact hq
      have pf : putF "cost" (V.int (p : Int)) (thingF (th.1 : Int) wl) = thingF (p : Int) wl := rfl
      rw [pf] at hq ⊢
      have sT := same_upd (o := .lst [.int (th.1 : Int)]) hq
      have up : ∀ b o, H b = some o → b ≠ as[t] → (upd (upd H as[t] (.ins CT dxt (thingF (p : Int) wl))) q (.lst [.int (th.1 : Int)])) b = some o := fun b o e hb => sT _ _ (by rw [upd_ne hb]; exact e)
      have dat : d ≠ as[t] := fun z => by
        rw [← z, h1] at g2
        have := Option.some.inj g2
        injection this with c1 c2 c3
        have := congrArg List.length c3
        simp [dayF, thingF] at this
      refine k _ lt q ?_ (Or.inl rfl) ?_ ?_ qH (fun z => by rw [z, h2] at qH; cases qH)
      · obtain ⟨zl, zx, hz⟩ := D.zok
        refine ⟨⟨dx, as, up _ _ h1 dat, up _ _ h2 (fun z => atlt z.symm), ⟨?_, h3.nd, ?_⟩⟩, fine_price D.fine hp, ⟨zl, zx, up _ _ hz (atwl _ _ hz)⟩⟩
        · show as.length = (a.things.modify t fun x => (p, x.2)).length
          rw [List.length_modify, h3.len]
        · intro i b hb
          obtain ⟨t', dx', wl', k1, k2, k3, k4⟩ := h3.at_ i b hb
          by_cases hit : t = i
          · subst hit
            have : b = as[t] := by rw [ea] at hb; exact (Option.some.inj hb).symm
            subst this
            have e1 : t' = th := Option.some.inj (k1.symm.trans g1)
            subst e1
            refine ⟨(p, t'.2), dxt, wl, ?_, sT _ _ upd_same, up _ _ g3 (atwl _ _ g3), g4⟩
            show (a.things.modify t fun x => (p, x.2))[t]? = some (p, t'.2)
            rw [List.getElem?_modify, g1]
            simp
          · have bat : b ≠ as[t] := fun z => hit (nd_ix h3.nd ea (by rw [← z]; exact hb))
            refine ⟨t', dx', wl', ?_, up _ _ k2 bat, up _ _ k3 (atwl _ _ k3), k4⟩
            show (a.things.modify t fun x => (p, x.2))[i]? = some t'
            rw [List.getElem?_modify, k1]
            simp [hit]
      · intro b o e _ hi
        exact up b o e (fun z => by rw [z, g2] at e; cases e; cases hi)
      · rw [upd_same, eth]
        rfl
/-! ### fair -/
def spFairM (CD CT : Addr) : Sp := fun vs H Q _ => ∃ (d lt z : Addr) (a : Abs), vs = [.ref d] ∧ DayA CD CT z H d lt a ∧ Said CD CT z H d lt (some (does a .fair).1) (ansL (does a .fair).2) Q
theorem scFairM : FnScope ["self"] ["self"] (defScope sFairM) := ⟨rfl, rfl, rfl, by decide +kernel, rfl, by decide +kernel, by decide +kernel⟩
theorem ok_fairM {f fa ff : Addr} {fd fda fdf : FuncData} (F : Fun K "fair" "Day.fair" sFairM f fd) (T : Txt K mg CD CT)
    (Ga : FnOk P w K mg base CX0 6 fa fda ["self"] (spAllC CD CT)) (mA : Meth K CD "all_corners" fa) (ba : Binds K fda ["self"] [])
    (kf : PySem.W.keepIn K (.ref ff) = true) (Gf : FnOk P w K mg base CX0 1 ff fdf ["corners", "count"] spFair) (mf : mg "are_fair" = some (.ref ff)) (bf : Binds K fdf ["corners", "count"] []) :
    FnOk P w K mg base CX0 7 f fd ["self"] (spFairM CD CT) := by
  refine F.ok scFairM (fun vs H Q E h => ?_) (fun cdv A outer s H vs Q E hr h => ?_)
  · obtain ⟨d, lt, z, a, rfl, _⟩ := h
    rfl
  · obtain ⟨d, lt, z, a, rfl, D, k⟩ := h
    have big := line_big
    obtain ⟨dx, as, h1, h2, h3⟩ := D.ex
    have DS : DayS CD CT z H d lt (some a) := D
    refine ⟨_, pss_one (ps_ret (pe_lst (pa_cons (pe_ifExp (pt_val (pe_call Gf (hr.mono (by decide)) rfl mf kf bf .nil pass0 (pa_cons (pe_meth0 (pv 0) T.clD mA Ga hr ba .nil pass0) (pa_cons (pe_fld (pv 0) rfl) pa_nil)))) pe_int pe_int) pa_nil))), ?_⟩
    refine ⟨_, rfl, d, dx, _, rfl, h1, rfl, d, lt, z, a, rfl, D, fun H1 c cs s1 hc CC => ?_⟩
    have cl := corners_len D.fine.good
    refine ⟨_, rfl, d, CD, dx, _, _, rfl, s1 _ _ h1, T.clD, T.nW, rfl, c, cs, a.corners, a.n, rfl, hc, CC, fun q hq => (corner_mem D.fine.good hq).1, by omega, D.fine.good.four, fun H2 s2 => ?_⟩
    rw [mFair_eq D.fine.good]
    refine ⟨_, rfl, ?_⟩
    have e : ansL (does a .fair).2 = [((bit a.fair : Nat) : Int)] := rfl
    rw [e] at k
    cases hf : a.fair with
    | true =>
      rw [hf] at k
      exact ite2 (fun _ => Said.back k DS (s1.trans s2)) (fun h => absurd rfl h)
    | false =>
      rw [hf] at k
      exact ite2 (fun h => absurd h (by decide)) (fun _ => Said.back k DS (s1.trans s2))
/-! ### corners -/
def spCorners (CD CT : Addr) : Sp := fun vs H Q _ => ∃ (d lt z : Addr) (a : Abs), vs = [.ref d] ∧ DayA CD CT z H d lt a ∧ Said CD CT z H d lt (some (does a .corners).1) (ansL (does a .corners).2) Q
theorem scCorners : FnScope ["self", "found", "told", "corner", "price"] ["self"] (defScope sCorners) := ⟨rfl, rfl, rfl, by decide +kernel, rfl, by decide +kernel, by decide +kernel⟩
theorem two_len (q : List Fr) : (q.flatMap two).length = 2 * q.length := by
  induction q with
  | nil => rfl
  | cons f t ih =>
    rw [List.flatMap_cons, List.length_append, ih]
    simp [two]
    omega
theorem twos_len (qs : List (List Fr)) (h : ∀ q, q ∈ qs → q.length ≤ 4) : (qs.flatMap fun q => q.flatMap two).length ≤ 8 * qs.length := by
  induction qs with
  | nil => simp
  | cons q t ih =>
    rw [List.flatMap_cons, List.length_append, two_len, List.length_cons]
    have h1 := h q (by simp)
    have h2 := ih (fun x hx => h x (by simp [hx]))
    omega
theorem two_frV (f : Fr) : (two f).map V.int = frV f := rfl
theorem ok_corners {f fa : Addr} {fd fda : FuncData} (F : Fun K "corners" "Day.corners" sCorners f fd) (T : Txt K mg CD CT)
    (Ga : FnOk P w K mg base CX0 6 fa fda ["self"] (spAllC CD CT)) (mA : Meth K CD "all_corners" fa) (ba : Binds K fda ["self"] []) :
    FnOk P w K mg base CX0 7 f fd ["self"] (spCorners CD CT) := by
  refine F.ok scCorners (fun vs H Q E h => ?_) (fun cdv A outer s H vs Q E hr h => ?_)
  · obtain ⟨d, lt, z, a, rfl, _⟩ := h
    rfl
  · obtain ⟨d, lt, z, a, rfl, D, k⟩ := h
    have big := line_big
    obtain ⟨dx, as, h1, h2, h3⟩ := D.ex
    have DS : DayS CD CT z H d lt (some a) := D
    refine ⟨_, pss_cons (ps_set (i := 1) scCorners.nd rfl (Or.inl rfl) (pe_meth0 (pv 0) T.clD mA Ga hr ba .nil pass0))
      (pss_cons (ps_set (i := 2) scCorners.nd rfl (Or.inl rfl) (pe_lst (pa_cons (pe_callB call_len_seq (by rfl) T.len PySem.boot_len (pa_cons (pv 1) pa_nil)) pa_nil)))
      (pss_cons (ps_for PassesOwn.never rfl (pi_list (pv 1)) (pg_name (i := 3) scCorners.nd rfl (Or.inl rfl))
        (pss_one (ps_for PassesOwn.never rfl (pi_list (pv 3)) (pg_name (i := 4) scCorners.nd rfl (Or.inl rfl))
          (pss_one (ps_expr (pe_bm PySem.F.plainAttrs_list PySem.F.slot_list_extend PySem.F.type_list_extend mt_extendT (pv 2) (pa_cons (pv 4) pa_nil)))))))
      (pss_one (ps_ret (pv 2))))), ?_⟩
    refine ⟨_, rfl, d, dx, _, rfl, h1, rfl, d, lt, z, a, rfl, D, fun H1 c cs s1 hc CC => ?_⟩
    have cl := corners_len D.fine.good
    have ql : ∀ q, q ∈ a.corners → q.length ≤ 4 := fun q hq => by
      rw [(corner_mem D.fine.good hq).1]; exact D.fine.good.four
    refine ⟨_, rfl, c, _, rfl, .inl (SqL.of hc), (by show 1 ≤ sizeLine; omega), fun to hto => ?_⟩
    have toH := s1.free hto
    have lc : (cs.map V.ref).length = a.corners.length := by rw [List.length_map, CC.len]
    rw [lc]
    have s2 := same_upd (o := .lst [.int (a.corners.length : Nat)]) hto
    have cto : c ≠ to := ne_of_none hc hto
    refine ⟨_, rfl, c, rfl, ⟨_, SqL.of (s2 _ _ hc)⟩, ?_⟩
    refine for_list (K := K) (a := c) (xs := cs.map V.ref) (fun j σ H' => ∃ v3 v4 : Option V, σ = [some (.ref d), some (.ref c), some (.ref to), v3, v4] ∧ (∀ b o, H1 b = some o → H' b = some o) ∧
      H' to = some (.lst ((((a.corners.length : Nat) : Int) :: (a.corners.take j).flatMap fun q => q.flatMap two).map V.int))) ?_ ?_ ?_ ?_
    · exact ⟨none, none, rfl, s2, by rw [upd_same]; simp⟩
    · rintro j σ H' _ ⟨_, _, _, s3, _⟩
      exact SqL.of (s3 _ _ hc)
    · rintro j y σ H2 hj ⟨v3, v4, rfl, s3, ht⟩
      obtain ⟨b, hb, rfl⟩ := map_ref hj
      obtain ⟨q, bs, e1, e2, e3⟩ := CC.at_ j b hb
      have tk : (a.corners.take (j + 1)).flatMap (fun q => q.flatMap two) = ((a.corners.take j).flatMap fun q => q.flatMap two) ++ q.flatMap two := by
        rw [take_snoc e1, List.flatMap_append]; simp
      have tl : ((a.corners.take (j + 1)).flatMap fun q => q.flatMap two).length ≤ 120 := by
        have h1 := twos_len (a.corners.take (j + 1)) (fun q hq => ql q (List.mem_of_mem_take hq))
        rw [List.length_take] at h1
        omega
      refine ⟨_, rfl, b, rfl, ⟨_, SqL.of (s3 _ _ e2)⟩, ?_⟩
      refine for_list (K := K) (a := b) (xs := bs.map V.ref) (fun m σ H' => ∃ v4 : Option V, σ = [some (.ref d), some (.ref c), some (.ref to), some (.ref b), v4] ∧ (∀ b o, H1 b = some o → H' b = some o) ∧
        H' to = some (.lst ((((a.corners.length : Nat) : Int) :: (((a.corners.take j).flatMap fun q => q.flatMap two) ++ (q.take m).flatMap two)).map V.int))) ?_ ?_ ?_ ?_
      · exact ⟨v4, rfl, s3, by simpa using ht⟩
      · rintro m σ H' _ ⟨_, _, s4, _⟩
        exact SqL.of (s4 _ _ e2)
      · rintro m y σ H3 hm ⟨v4', rfl, s4, ht4⟩
        obtain ⟨g, hg, rfl⟩ := map_ref hm
        obtain ⟨fr, f1, f2⟩ := e3.at_ m g hg
        have ml : ((q.take m).flatMap two).length ≤ 8 := by
          rw [two_len, List.length_take]
          have := ql q (List.mem_of_getElem? e1)
          omega
        rw [tk, List.length_append] at tl
        refine ⟨_, rfl, .inl ⟨rfl, _, SqL.of ht4⟩, _, rfl, to, g, _, _, rfl, rfl, ht4, SqT.of (s4 _ _ f2), ?_, ?_⟩
        · rw [List.length_map, List.length_cons, List.length_append]
          show _ + 2 ≤ sizeLine
          omega
        · refine ⟨_, rfl, fun x o e => by rw [upd_ne (ne_of_none e hto)]; exact s4 x o e, ?_⟩
          rw [upd_same, take_snoc f1, List.flatMap_append, ← two_frV, ← List.map_append]
          simp
      · rintro σ H3 ⟨v4', rfl, s4, ht4⟩
        refine ⟨_, _, rfl, s4, ?_⟩
        rw [List.length_map, e3.len, List.take_length, ← tk] at ht4
        exact ht4
    · rintro σ H2 ⟨v3, v4, rfl, s3, ht⟩
      rw [lc, List.take_length] at ht
      exact ⟨_, rfl, Said.pure (t := to) k DS (s1.trans s3) ht toH⟩
end
end DA
set_option Elab.async false
set_option maxRecDepth 100000
set_option maxHeartbeats 2000000
namespace DA
open PySem PySem.Spec PyProof.Rows L2
open Su109 (Fr low over plus less at_ choose least greatest Abs bit does Ans num no two)
abbrev sPromise : Stmt := inClass cDay 14
abbrev sMay : Stmt := inClass cDay 15
abbrev sOne : Stmt := inClass cDay 16
abbrev sCall : Stmt := inClass cDay 17
abbrev sPut : Stmt := inClass cDay 18
abbrev sOf : Stmt := inClass cDay 19
def intL (l : List Nat) : List Int := l.map Int.ofNat
/-- the answer, and all as it was -/
def SaidP (H : Hp) (ans : List Int) (Q : VK) : Prop := ∀ (H' : Hp) (t : Addr), Same H H' → H' t = some (.lst (ans.map V.int)) → H t = none → Q (.ref t) H'
theorem Said.p {CD CT : Addr} {H : Hp} {z d lt : Addr} {st : Option Abs} {ans : List Int} {Q : VK} (S : Said CD CT z H d lt st ans Q) (D : DayS CD CT z H d lt st) : SaidP H ans Q := fun _ _ s ht hn => S.pure D s ht hn
theorem SaidP.back {H H1 : Hp} {v : Int} {Q : VK} (S : SaidP H [v] Q) (s : Same H H1) : 1 ≤ sizeLine ∧ ∀ t, H1 t = none → Q (.ref t) (upd H1 t (.lst [.int v])) := by
  have big := line_big
  exact ⟨by omega, fun t ht => S _ t (s.trans (same_upd ht)) upd_same (s.free ht)⟩
theorem told_priced (a : Abs) (p : List Int) : (if a.fair = false then [-16] else ansL (a.told p)) = pricedL a p := by
  unfold pricedL
  split
  · rfl
  · rfl
theorem nats_intL (l : List Nat) : natsV l = (intL l).map V.int := rfl
theorem intL_bd {l : List Nat} (h : ∀ x, x ∈ l → x ≤ 1000) : ∀ x, x ∈ intL l → x.natAbs < 2 ^ 10 := by
  intro x hx
  obtain ⟨y, hy, rfl⟩ := List.mem_map.mp hx
  exact ten y (h y hy)
theorem intL_len (l : List Nat) : (intL l).length = l.length := List.length_map _
theorem lo_sz {a : Abs} (F : Fine a) {p : List Int} (hp : p.length = a.n) (hb : ∀ x, x ∈ p → x.natAbs < 2 ^ 10) : Sz 990 (a.lo p) ∧ Sz 990 (a.hi p) := by
  have h4 := F.good.four
  have vsz : ∀ x, x ∈ a.values p → Sz 990 x := by
    intro x hx
    rw [← values_eq F hp] at hx
    obtain ⟨fs, hfs, rfl⟩ := List.mem_map.mp hx
    obtain ⟨h1, h2⟩ := corner_sz F hfs
    have := (worthN_sz (by rw [h1, hp]) h2 hb fs.length (Nat.le_refl _)).1
    rw [worthN_all (Nat.le_refl _)] at this
    exact this.mono (by omega)
  have one : Sz 990 (0, 1) := Sz.mono (k := 1) ⟨by decide, by decide⟩ (by decide)
  have hd : Sz 990 ((a.values p).headD (0, 1)) := by
    cases e : a.values p with
    | nil => exact one
    | cons x t => exact vsz x (by rw [e]; simp)
  exact ⟨foldl_pick (c := fun b x => less x b) (P := Sz 990) (fun x hx => vsz x (List.mem_of_mem_drop hx)) hd, foldl_pick (c := fun b x => less b x) (P := Sz 990) (fun x hx => vsz x (List.mem_of_mem_drop hx)) hd⟩
theorem cut_one (xs : List V) : cutV xs none (some 1) = xs.take 1 := by
  unfold cutV
  have : HT.sIx xs.length xs.length (some 1) = min 1 xs.length := HT.sIx_nat _ _ 1
  rw [this, HT.sIx_none, List.drop_zero, Nat.sub_zero]
  cases xs with
  | nil => rfl
  | cons x t => simp
section
variable {P : Program} {w : World} {K : PySem.W.Frag} {mg : Str → Option Value} {base : Heap} {CD CT : Addr}
/-! ### promise -/
def spPromise (CD CT : Addr) : Sp := fun vs H Q _ => ∃ (d lt z q : Addr) (a : Abs) (l : List Nat), vs = [.ref d, .ref q] ∧ DayA CD CT z H d lt a ∧ H q = some (.lst (natsV l)) ∧ l.length < 100 ∧
  SaidP H (ansL (does a (.promise l)).2) Q
theorem scPromise : FnScope ["self", "pays"] ["self", "pays"] (defScope sPromise) := ⟨rfl, rfl, rfl, by decide +kernel, rfl, by decide +kernel, by decide +kernel⟩
theorem ok_promise {f fr fp : Addr} {fd fdr fdp : FuncData} (F : Fun K "promise" "Day.promise" sPromise f fd) (T : Txt K mg CD CT)
    (Gr : FnOk P w K mg base CX0 1 fr fdr ["self", "numbers"] (spIsRow CD CT)) (mR : Meth K CD "is_row" fr) (br : Binds K fdr ["self", "numbers"] [])
    (Gp : FnOk P w K mg base CX0 8 fp fdp ["self", "pays"] (spPriced CD CT)) (mP : Meth K CD "priced" fp) (bp : Binds K fdp ["self", "pays"] []) :
    FnOk P w K mg base CX0 9 f fd ["self", "pays"] (spPromise CD CT) := by
  refine F.ok scPromise (fun vs H Q E h => ?_) (fun cdv A outer s H vs Q E hr h => ?_)
  · obtain ⟨d, lt, z, q, a, l, rfl, _⟩ := h
    rfl
  · obtain ⟨d, lt, z, q, a, l, rfl, D, hq, hl, k⟩ := h
    obtain ⟨dx, as, h1, h2, h3⟩ := D.ex
    have DS : DayS CD CT z H d lt (some a) := D
    refine ⟨_, pss_cons (ps_if (pt_not (pt_val (pe_meth (pv 0) T.clD mR Gr (hr.mono (by decide)) br .nil pass0 (pa_cons (pv 1) pa_nil)))) (pss_one (ps_ret (pe_lst (pa_cons (pe_num T.mRange) pa_nil)))) pss_nil)
      (pss_one (ps_ret (pe_meth (pv 0) T.clD mP Gp hr bp .nil pass0 (pa_cons (pv 1) pa_nil)))), ?_⟩
    refine ⟨_, rfl, d, dx, _, rfl, h1, rfl, _, rfl, d, lt, z, q, a, l, rfl, D, hq, hl, fun H1 s1 => ⟨_, rfl, ?_⟩⟩
    cases hok : a.okP l with
    | false =>
      refine ite2 (fun _ => ?_) (fun h => absurd rfl h)
      have e : ansL (does a (.promise l)).2 = [-22] := by simp only [does, if_pos hok]; rfl
      rw [e] at k
      exact k.back s1
    | true =>
      refine ite2 (fun h => absurd h (by decide)) (fun _ => ?_)
      have hok' : ¬ a.okP l = false := by rw [hok]; decide
      obtain ⟨ol, ob⟩ := okP_iff hok
      have e : ansL (does a (.promise l)).2 = pricedL a (intL l) := by
        rw [← told_priced]
        simp only [does, if_neg hok']
        split <;> rfl
      rw [e] at k
      refine ⟨_, rfl, d, dx, _, rfl, s1 _ _ h1, rfl, _, rfl, d, lt, z, q, a, intL l, rfl, D.mono s1, by rw [← nats_intL]; exact s1 _ _ hq, by rw [intL_len]; exact ol, intL_bd ob, fun H2 t s2 ht nt => ?_⟩
      exact k H2 t (s1.trans s2) ht (s1.free nt)
/-! ### one -/
def spOne (CD CT : Addr) : Sp := fun vs H Q _ => ∃ (d lt z q : Addr) (a : Abs) (l : List Nat), vs = [.ref d, .ref q] ∧ DayA CD CT z H d lt a ∧ H q = some (.lst (natsV l)) ∧ l.length < 100 ∧
  SaidP H (ansL (does a (.one l)).2) Q
theorem scOne : FnScope ["self", "pays"] ["self", "pays"] (defScope sOne) := ⟨rfl, rfl, rfl, by decide +kernel, rfl, by decide +kernel, by decide +kernel⟩
theorem ok_one {f fp : Addr} {fd fdp : FuncData} (F : Fun K "one" "Day.one" sOne f fd) (T : Txt K mg CD CT)
    (Gp : FnOk P w K mg base CX0 9 fp fdp ["self", "pays"] (spPromise CD CT)) (mP : Meth K CD "promise" fp) (bp : Binds K fdp ["self", "pays"] []) :
    FnOk P w K mg base CX0 10 f fd ["self", "pays"] (spOne CD CT) := by
  refine F.ok scOne (fun vs H Q E h => ?_) (fun cdv A outer s H vs Q E hr h => ?_)
  · obtain ⟨d, lt, z, q, a, l, rfl, _⟩ := h
    rfl
  · obtain ⟨d, lt, z, q, a, l, rfl, D, hq, hl, k⟩ := h
    obtain ⟨dx, as, h1, h2, h3⟩ := D.ex
    have DS : DayS CD CT z H d lt (some a) := D
    refine ⟨_, pss_one (ps_ret (pe_slice sl_list (pe_meth (pv 0) T.clD mP Gp hr bp .nil pass0 (pa_cons (pv 1) pa_nil)) po_none (po_some pe_int))), ?_⟩
    refine ⟨_, rfl, d, dx, _, rfl, h1, rfl, _, rfl, d, lt, z, q, a, l, rfl, D, hq, hl, fun H1 t s1 ht nt => ?_⟩
    refine ⟨1, rfl, t, _, rfl, SqL.of ht, fun u hu => ?_⟩
    rw [cut_one]
    have e : ansL (does a (.one l)).2 = (ansL (does a (.promise l)).2).take 1 := by
      simp only [does]
      split
      · rfl
      · split <;> rfl
    refine k _ u (s1.trans (same_upd hu)) ?_ (s1.free hu)
    rw [upd_same, e, List.map_take]
/-! ### call -/
def spCall (CD CT : Addr) : Sp := fun vs H Q _ => ∃ (d lt z : Addr) (a : Abs) (t k : Nat), vs = [.ref d, .int (t : Int), .int (k : Int)] ∧ DayA CD CT z H d lt a ∧ SaidP H (ansL (does a (.call t k)).2) Q
theorem scCall : FnScope ["self", "t", "k", "refused", "worth"] ["self", "t", "k"] (defScope sCall) := ⟨rfl, rfl, rfl, by decide +kernel, rfl, by decide +kernel, by decide +kernel⟩
theorem ok_call {f fh fp : Addr} {fd fdh fdp : FuncData} (F : Fun K "call" "Day.call" sCall f fd) (T : Txt K mg CD CT)
    (Gh : FnOk P w K mg base CX0 2 fh fdh ["self", "t", "number"] (spRefusal CD CT)) (mH : Meth K CD "refusal" fh) (bh : Binds K fdh ["self", "t", "number"] [])
    (Gp : FnOk P w K mg base CX0 8 fp fdp ["self", "pays"] (spPriced CD CT)) (mP : Meth K CD "priced" fp) (bp : Binds K fdp ["self", "pays"] []) :
    FnOk P w K mg base CX0 9 f fd ["self", "t", "k"] (spCall CD CT) := by
  refine F.ok scCall (fun vs H Q E h => ?_) (fun cdv A outer s H vs Q E hr h => ?_)
  · obtain ⟨d, lt, z, a, t, k, rfl, _⟩ := h
    rfl
  · obtain ⟨d, lt, z, a, t, k, rfl, D, kk⟩ := h
    have big := line_big
    obtain ⟨dx, as, h1, h2, h3⟩ := D.ex
    refine ⟨_, pss_cons (ps_set (i := 3) scCall.nd rfl (Or.inl rfl) (pe_meth (pv 0) T.clD mH Gh (hr.mono (by decide)) bh .nil pass0 (pa_cons (pv 1) (pa_cons (pv 2) pa_nil))))
      (pss_cons (ps_if (pt_cmpR op_ne (pv 3) pe_int (nomark _)) (pss_one (ps_ret (pe_lst (pa_cons (pv 3) pa_nil)))) pss_nil)
      (pss_one (ps_ret (pe_meth (pv 0) T.clD mP Gp hr bp .nil pass0 (pa_cons
        (pe_lc rfl scCall.nd (pi_list (pe_fld (pe_ix ix_list (pe_fld (pv 0) rfl) (pv 1) (fun _ _ => rfl)) rfl)) (blkOk_by (own := [("worth", 4)]) (by show blkC ["self", "t", "k", "refused", "worth"] (defScope sCall) _ [("worth", 4)] = true; decide +kernel))
          (fun s H C cl fp => pg_name (i := 4) scCall.nd rfl (Or.inl rfl) (Or.inr rfl))
          (fun s H C cl fp => pts_nil)
          (fun s H C cl fp => pe_callB (call_max2 rfl) (by rfl) T.max PyProof.Rows.boot_max (pa_cons (pe_op op_sub (pv 4) (pv 2)) (pa_cons pe_int pa_nil)))) pa_nil))))), ?_⟩
    refine ⟨_, rfl, d, dx, _, rfl, h1, rfl, _, rfl, _, rfl, d, lt, z, a, t, k, rfl, D, ?_⟩
    refine ⟨_, rfl, rfl, _, rfl, ?_⟩
    refine ite_ne (fun hne => ?_) (fun he => ?_)
    · have e : ansL (does a (.call t k)).2 = [refN a t k] := by
        rcases ref_ne hne with ⟨g1, g2⟩ | ⟨g1, g2, g3⟩
        · simp only [does, if_pos g1, g2]; rfl
        · simp only [does, if_neg g1, if_pos g2, g3]; rfl
      rw [e] at kk
      exact ⟨_, rfl, kk.back (Same.refl H)⟩
    · obtain ⟨hT, hp⟩ := ref_eq he
      have hT' : ¬ a.isT t = false := by rw [hT]; decide
      have htl : t < a.things.length := isT_iff.mp hT
      have hal : t < as.length := by rw [h3.len]; exact htl
      have ea : as[t]? = some as[t] := List.getElem?_eq_getElem hal
      obtain ⟨th, dxt, wl, g1, g2, g3, g4⟩ := h3.at_ t as[t] ea
      have eth : a.things.getD t (0, []) = th := by simp [List.getD, g1]
      have mth := List.mem_of_getElem? g1
      have wlen := D.fine.good.wide th mth
      have wbd := (D.fine.c1000 th mth).2
      have h4 := D.fine.good.four
      have e : ansL (does a (.call t k)).2 = pricedL a (Su109.call th.2 k) := by
        rw [← told_priced]
        simp only [does, if_neg hT', if_neg hp, eth]
        split <;> rfl
      rw [e] at kk
      refine ⟨_, rfl, d, dx, _, rfl, h1, rfl, ?_⟩
      refine ⟨_, rfl, d, CD, dx, _, _, rfl, h1, T.clD, T.nT, rfl, _, rfl, lt, _, _, _, rfl, rfl, SqL.of h2, at_of (j := t) rfl (ref_at ea), as[t], CT, dxt, _, _, rfl, g2, T.clT, T.nX, rfl, wl, rfl, ⟨_, SqL.of g3⟩, fun Dn hD => ?_⟩
      refine lc_list (K := K) (a := wl) (xs := natsV th.2) (fun j H' => Same H H' ∧ H' Dn = some (.lst (((Su109.call th.2 k).take j).map V.int))) ?_ ?_ ?_ ?_
      · exact ⟨same_upd hD, by rw [upd_same]; simp⟩
      · rintro j H' _ ⟨s1, _⟩
        exact SqL.of (s1 _ _ g3)
      · rintro j y H' hj ⟨s1, hD'⟩
        obtain ⟨x, hx, rfl⟩ := nat_at hj
        have hjl : j < th.2.length := (List.getElem?_eq_some_iff.mp hx).1
        refine ⟨rfl, ?_⟩
        refine ⟨_, rfl, _, rfl, _, _, rfl, rfl, _, _, rfl, ?_⟩
        refine ⟨_, hD', ?_, same_over s1 hD, ?_⟩
        · rw [List.length_map, List.length_take]
          omega
        · have ge : (Su109.call th.2 k)[j]? = some (Int.ofNat (x - k)) := by
            unfold Su109.call
            rw [List.getElem?_map, hx]
            rfl
          rw [upd_same, take_snoc ge, List.map_append]
          have : (if (0 : Int) > (x : Int) - (k : Int) then (0 : Int) else (x : Int) - (k : Int)) = Int.ofNat (x - k) := by
            show _ = ((x - k : Nat) : Int)
            split <;> omega
          simp only [List.map_cons, List.map_nil, this]
      · rintro H' ⟨s1, hD'⟩
        have ll : (natsV th.2).length = (Su109.call th.2 k).length := by simp [natsV, Su109.call]
        rw [ll, List.take_length] at hD'
        refine ⟨d, lt, z, Dn, a, Su109.call th.2 k, rfl, D.mono s1, hD', by simp [Su109.call]; exact wlen, ?_, fun H2 u s2 hu nu => kk H2 u (s1.trans s2) hu (s1.free nu)⟩
        intro x hx
        obtain ⟨y, hy, rfl⟩ := List.mem_map.mp hx
        exact ten _ (Nat.le_trans (Nat.sub_le _ _) (wbd y hy))
/-! ### put -/
def spPut (CD CT : Addr) : Sp := fun vs H Q _ => ∃ (d lt z : Addr) (a : Abs) (t k : Nat), vs = [.ref d, .int (t : Int), .int (k : Int)] ∧ DayA CD CT z H d lt a ∧ SaidP H (ansL (does a (.put t k)).2) Q
theorem scPut : FnScope ["self", "t", "k", "refused", "worth"] ["self", "t", "k"] (defScope sPut) := ⟨rfl, rfl, rfl, by decide +kernel, rfl, by decide +kernel, by decide +kernel⟩
theorem ok_put {f fh fp : Addr} {fd fdh fdp : FuncData} (F : Fun K "put" "Day.put" sPut f fd) (T : Txt K mg CD CT)
    (Gh : FnOk P w K mg base CX0 2 fh fdh ["self", "t", "number"] (spRefusal CD CT)) (mH : Meth K CD "refusal" fh) (bh : Binds K fdh ["self", "t", "number"] [])
    (Gp : FnOk P w K mg base CX0 8 fp fdp ["self", "pays"] (spPriced CD CT)) (mP : Meth K CD "priced" fp) (bp : Binds K fdp ["self", "pays"] []) :
    FnOk P w K mg base CX0 9 f fd ["self", "t", "k"] (spPut CD CT) := by
  refine F.ok scPut (fun vs H Q E h => ?_) (fun cdv A outer s H vs Q E hr h => ?_)
  · obtain ⟨d, lt, z, a, t, k, rfl, _⟩ := h
    rfl
  · obtain ⟨d, lt, z, a, t, k, rfl, D, kk⟩ := h
    have big := line_big
    obtain ⟨dx, as, h1, h2, h3⟩ := D.ex
    refine ⟨_, pss_cons (ps_set (i := 3) scPut.nd rfl (Or.inl rfl) (pe_meth (pv 0) T.clD mH Gh (hr.mono (by decide)) bh .nil pass0 (pa_cons (pv 1) (pa_cons (pv 2) pa_nil))))
      (pss_cons (ps_if (pt_cmpR op_ne (pv 3) pe_int (nomark _)) (pss_one (ps_ret (pe_lst (pa_cons (pv 3) pa_nil)))) pss_nil)
      (pss_one (ps_ret (pe_meth (pv 0) T.clD mP Gp hr bp .nil pass0 (pa_cons
        (pe_lc rfl scPut.nd (pi_list (pe_fld (pe_ix ix_list (pe_fld (pv 0) rfl) (pv 1) (fun _ _ => rfl)) rfl)) (blkOk_by (own := [("worth", 4)]) (by show blkC ["self", "t", "k", "refused", "worth"] (defScope sPut) _ [("worth", 4)] = true; decide +kernel))
          (fun s H C cl fp => pg_name (i := 4) scPut.nd rfl (Or.inl rfl) (Or.inr rfl))
          (fun s H C cl fp => pts_nil)
          (fun s H C cl fp => pe_callB (call_max2 rfl) (by rfl) T.max PyProof.Rows.boot_max (pa_cons (pe_op op_sub (pv 2) (pv 4)) (pa_cons pe_int pa_nil)))) pa_nil))))), ?_⟩
    refine ⟨_, rfl, d, dx, _, rfl, h1, rfl, _, rfl, _, rfl, d, lt, z, a, t, k, rfl, D, ?_⟩
    refine ⟨_, rfl, rfl, _, rfl, ?_⟩
    refine ite_ne (fun hne => ?_) (fun he => ?_)
    · have e : ansL (does a (.put t k)).2 = [refN a t k] := by
        rcases ref_ne hne with ⟨g1, g2⟩ | ⟨g1, g2, g3⟩
        · simp only [does, if_pos g1, g2]; rfl
        · simp only [does, if_neg g1, if_pos g2, g3]; rfl
      rw [e] at kk
      exact ⟨_, rfl, kk.back (Same.refl H)⟩
    · obtain ⟨hT, hp⟩ := ref_eq he
      have hT' : ¬ a.isT t = false := by rw [hT]; decide
      have htl : t < a.things.length := isT_iff.mp hT
      have hal : t < as.length := by rw [h3.len]; exact htl
      have ea : as[t]? = some as[t] := List.getElem?_eq_getElem hal
      obtain ⟨th, dxt, wl, g1, g2, g3, g4⟩ := h3.at_ t as[t] ea
      have eth : a.things.getD t (0, []) = th := by simp [List.getD, g1]
      have mth := List.mem_of_getElem? g1
      have wlen := D.fine.good.wide th mth
      have wbd := (D.fine.c1000 th mth).2
      have h4 := D.fine.good.four
      have e : ansL (does a (.put t k)).2 = pricedL a (Su109.put th.2 k) := by
        rw [← told_priced]
        simp only [does, if_neg hT', if_neg hp, eth]
        split <;> rfl
      rw [e] at kk
      refine ⟨_, rfl, d, dx, _, rfl, h1, rfl, ?_⟩
      refine ⟨_, rfl, d, CD, dx, _, _, rfl, h1, T.clD, T.nT, rfl, _, rfl, lt, _, _, _, rfl, rfl, SqL.of h2, at_of (j := t) rfl (ref_at ea), as[t], CT, dxt, _, _, rfl, g2, T.clT, T.nX, rfl, wl, rfl, ⟨_, SqL.of g3⟩, fun Dn hD => ?_⟩
      refine lc_list (K := K) (a := wl) (xs := natsV th.2) (fun j H' => Same H H' ∧ H' Dn = some (.lst (((Su109.put th.2 k).take j).map V.int))) ?_ ?_ ?_ ?_
      · exact ⟨same_upd hD, by rw [upd_same]; simp⟩
      · rintro j H' _ ⟨s1, _⟩
        exact SqL.of (s1 _ _ g3)
      · rintro j y H' hj ⟨s1, hD'⟩
        obtain ⟨x, hx, rfl⟩ := nat_at hj
        have hjl : j < th.2.length := (List.getElem?_eq_some_iff.mp hx).1
        refine ⟨rfl, ?_⟩
        refine ⟨_, rfl, _, rfl, _, _, rfl, rfl, _, _, rfl, ?_⟩
        refine ⟨_, hD', ?_, same_over s1 hD, ?_⟩
        · rw [List.length_map, List.length_take]
          omega
        · have ge : (Su109.put th.2 k)[j]? = some (Int.ofNat (k - x)) := by
            unfold Su109.put
            rw [List.getElem?_map, hx]
            rfl
          rw [upd_same, take_snoc ge, List.map_append]
          have : (if (0 : Int) > (k : Int) - (x : Int) then (0 : Int) else (k : Int) - (x : Int)) = Int.ofNat (k - x) := by
            show _ = ((k - x : Nat) : Int)
            split <;> omega
          simp only [List.map_cons, List.map_nil, this]
      · rintro H' ⟨s1, hD'⟩
        have ll : (natsV th.2).length = (Su109.put th.2 k).length := by simp [natsV, Su109.put]
        rw [ll, List.take_length] at hD'
        refine ⟨d, lt, z, Dn, a, Su109.put th.2 k, rfl, D.mono s1, hD', by simp [Su109.put]; exact wlen, ?_, fun H2 u s2 hu nu => kk H2 u (s1.trans s2) hu (s1.free nu)⟩
        intro x hx
        obtain ⟨y, hy, rfl⟩ := List.mem_map.mp hx
        exact ten _ (Nat.le_trans (Nat.sub_le _ _) (by omega))
/-! ### of -/
def ofL (n c : Nat) : List Int := (List.range n).map fun i => if i = c then 1 else 0
def spOf (CD CT : Addr) : Sp := fun vs H Q _ => ∃ (d lt z : Addr) (a : Abs) (c : Nat), vs = [.ref d, .int (c : Int)] ∧ DayA CD CT z H d lt a ∧ SaidP H (ansL (does a (.of c)).2) Q
theorem scOf : FnScope ["self", "c", "number"] ["self", "c"] (defScope sOf) := ⟨rfl, rfl, rfl, by decide +kernel, rfl, by decide +kernel, by decide +kernel⟩
theorem ok_of {f fp : Addr} {fd fdp : FuncData} (F : Fun K "of" "Day.of" sOf f fd) (T : Txt K mg CD CT) (hrg : mg "range" = none)
    (Gp : FnOk P w K mg base CX0 8 fp fdp ["self", "pays"] (spPriced CD CT)) (mP : Meth K CD "priced" fp) (bp : Binds K fdp ["self", "pays"] []) :
    FnOk P w K mg base CX0 9 f fd ["self", "c"] (spOf CD CT) := by
  refine F.ok scOf (fun vs H Q E h => ?_) (fun cdv A outer s H vs Q E hr h => ?_)
  · obtain ⟨d, lt, z, a, c, rfl, _⟩ := h
    rfl
  · obtain ⟨d, lt, z, a, c, rfl, D, kk⟩ := h
    have big := line_big
    obtain ⟨dx, as, h1, h2, h3⟩ := D.ex
    have h4 := D.fine.good.four
    refine ⟨_, pss_cons (ps_if (pt_cmpR op_ge (pv 1) (pe_fld (pv 0) rfl) (nomark _)) (pss_one (ps_ret (pe_lst (pa_cons (pe_num T.mNone) pa_nil)))) pss_nil)
      (pss_one (ps_ret (pe_meth (pv 0) T.clD mP Gp hr bp .nil pass0 (pa_cons
        (pe_lc rfl scOf.nd (pi_range1 rfl hrg (pa_cons (pe_fld (pv 0) rfl) pa_nil)) (blkOk_by (own := [("number", 2)]) (by show blkC ["self", "c", "number"] (defScope sOf) _ [("number", 2)] = true; decide +kernel))
          (fun s H C cl fp => pg_name (i := 2) scOf.nd rfl (Or.inl rfl) (Or.inr rfl))
          (fun s H C cl fp => pts_nil)
          (fun s H C cl fp => pe_ifExp (pt_cmpR op_eq (pv 2) (pv 1) (nomark _)) pe_int pe_int)) pa_nil)))), ?_⟩
    refine ⟨_, rfl, _, rfl, d, CD, dx, _, _, rfl, h1, T.clD, T.nW, rfl, _, _, rfl, rfl, _, rfl, ?_⟩
    refine ite2 (fun hc => ?_) (fun hc => ?_)
    · have hp : a.n ≤ c := by have := of_decide_eq_true hc; omega
      have e : ansL (does a (.of c)).2 = [-2] := by simp only [does, if_pos hp]; rfl
      rw [e] at kk
      exact kk.back (Same.refl H)
    · have hp : ¬ a.n ≤ c := fun h => hc (decide_eq_true (by omega))
      have e : ansL (does a (.of c)).2 = pricedL a (ofL a.n c) := by
        rw [← told_priced]
        simp only [does, if_neg hp]
        split <;> rfl
      rw [e] at kk
      refine ⟨_, rfl, d, dx, _, rfl, h1, rfl, ?_⟩
      refine ⟨_, rfl, d, CD, dx, _, _, rfl, h1, T.clD, T.nW, rfl, (a.n : Int), rfl, by omega, by omega, fun Dn hD => ?_⟩
      refine lc_range (lo := 0) (n := (a.n : Int).toNat) (fun j H' => Same H H' ∧ H' Dn = some (.lst (((ofL a.n c).take j).map V.int))) ?_ ?_ ?_
      · exact ⟨same_upd hD, by rw [upd_same]; simp⟩
      · rintro j H' hj ⟨s1, hD'⟩
        have hjn : j < a.n := by omega
        have z0 : (0 : Int) + (j : Int) = (j : Int) := Int.zero_add _
        rw [z0]
        have ge : (ofL a.n c)[j]? = some (if j = c then 1 else 0) := by
          unfold ofL
          rw [List.getElem?_map, List.getElem?_range hjn]
          rfl
        refine ⟨rfl, ?_⟩
        refine ⟨_, rfl, _, rfl, rfl, _, rfl, ?_⟩
        refine ite_eq (fun he => ?_) (fun hne => ?_)
        · refine ⟨_, hD', ?_, same_over s1 hD, ?_⟩
          · rw [List.length_map, List.length_take]; omega
          · rw [upd_same, take_snoc ge, List.map_append, if_pos (by omega)]
            rfl
        · refine ⟨_, hD', ?_, same_over s1 hD, ?_⟩
          · rw [List.length_map, List.length_take]; omega
          · rw [upd_same, take_snoc ge, List.map_append, if_neg (by omega)]
            rfl
      · rintro H' ⟨s1, hD'⟩
        have tn : (a.n : Int).toNat = a.n := by omega
        have ll : a.n = (ofL a.n c).length := by simp [ofL]
        rw [tn] at hD'
        have : (ofL a.n c).take a.n = ofL a.n c := List.take_of_length_le (by rw [← ll]; exact Nat.le_refl _)
        rw [this] at hD'
        refine ⟨d, lt, z, Dn, a, ofL a.n c, rfl, D.mono s1, hD', ll.symm, ?_, fun H2 u s2 hu nu => kk H2 u (s1.trans s2) hu (s1.free nu)⟩
        intro x hx
        obtain ⟨y, hy, rfl⟩ := List.mem_map.mp hx
        show Int.natAbs (if y = c then 1 else 0) < 1024
        split <;> decide
end
end DA
set_option Elab.async false
set_option maxRecDepth 100000
set_option maxHeartbeats 2000000
namespace DA
open PySem PySem.Spec PyProof.Rows L2
open Su109 (Fr low over plus less at_ choose least greatest Abs bit does Ans num no two)
theorem over_low {x y : Nat} (_h : 0 < y) : over (x : Int) (y : Int) = low (Int.ofNat x) y := by
  unfold over
  rw [if_neg (by omega)]
  rfl
theorem ask_sz {x y : Nat} (hy : 0 < y) (h1 : y ≤ 1000) (h2 : x ≤ 1000000) : Sz 990 (low (Int.ofNat x) y) := by
  refine Sz.mono (k := 20) (low_sz hy ?_ ?_) (by decide)
  · show x < 1048576
    omega
  · show y < 1048576
    omega
def mayB (a : Abs) (x y : Nat) (p : List Int) : Bool := if a.lo p == a.hi p then low (Int.ofNat x) y == a.lo p else less (a.lo p) (low (Int.ofNat x) y) && less (low (Int.ofNat x) y) (a.hi p)
section
variable {P : Program} {w : World} {K : PySem.W.Frag} {mg : Str → Option Value} {base : Heap} {CD CT : Addr}
def spMay (CD CT : Addr) : Sp := fun vs H Q _ => ∃ (d lt z q : Addr) (a : Abs) (x y : Nat) (l : List Nat), vs = [.ref d, .int (x : Int), .int (y : Int), .ref q] ∧ DayA CD CT z H d lt a ∧ H q = some (.lst (natsV l)) ∧ l.length < 100 ∧
  SaidP H (ansL (does a (.may x y l)).2) Q
theorem scMay : FnScope ["self", "x", "y", "pays", "span", "asked"] ["self", "x", "y", "pays"] (defScope sMay) := ⟨rfl, rfl, rfl, by decide +kernel, rfl, by decide +kernel, by decide +kernel⟩
theorem ok_may {f fr fs fo fl : Addr} {fd fdr fds fdo fdl : FuncData} (F : Fun K "may" "Day.may" sMay f fd) (T : Txt K mg CD CT)
    (Gr : FnOk P w K mg base CX0 1 fr fdr ["self", "numbers"] (spIsRow CD CT)) (mR : Meth K CD "is_row" fr) (br : Binds K fdr ["self", "numbers"] [])
    (Gs : FnOk P w K mg base CX0 7 fs fds ["self", "pays"] (spSpan CD CT)) (mS : Meth K CD "span" fs) (bs : Binds K fds ["self", "pays"] [])
    (ko : PySem.W.keepIn K (.ref fo) = true) (Go : FnOk P w K mg base CX0 2 fo fdo ["above", "below"] spRatio) (mo : mg "ratio" = some (.ref fo)) (bo : Binds K fdo ["above", "below"] [])
    (kl : PySem.W.keepIn K (.ref fl) = true) (Gl : FnOk P w K mg base CX0 1 fl fdl ["one", "other"] (spLess K)) (ml : mg "is_less" = some (.ref fl)) (bl : Binds K fdl ["one", "other"] []) :
    FnOk P w K mg base CX0 8 f fd ["self", "x", "y", "pays"] (spMay CD CT) := by
  refine F.ok scMay (fun vs H Q E h => ?_) (fun cdv A outer s H vs Q E hr h => ?_)
  · obtain ⟨d, lt, z, q, a, x, y, l, rfl, _⟩ := h
    rfl
  · obtain ⟨d, lt, z, q, a, x, y, l, rfl, D, hq, hl, k⟩ := h
    have big := line_big
    obtain ⟨dx, as, h1, h2, h3⟩ := D.ex
    refine ⟨_, pss_cons (ps_if (PW.pt (pw_or (pt_not (pt_val (pe_meth (pv 0) T.clD mR Gr (hr.mono (by decide)) br .nil pass0 (pa_cons (pv 3) pa_nil)))) (pw_or (pt_not (pt_chain op_le op_le pe_int (pv 2) (pe_num T.mMost))) (pw_or1 (pt_cmpR op_gt (pv 1) (pe_num T.mX) (nomark _))))))
        (pss_one (ps_ret (pe_lst (pa_cons (pe_num T.mRange) pa_nil)))) pss_nil)
      (pss_cons (ps_set (i := 4) scMay.nd rfl (Or.inl rfl) (pe_meth (pv 0) T.clD mS Gs hr bs .nil pass0 (pa_cons (pv 3) pa_nil)))
      (pss_cons (ps_if (pt_cmpR op_isN (pv 4) pe_non (nomark _)) (pss_one (ps_ret (pe_lst (pa_cons (pe_num T.mFair) pa_nil)))) pss_nil)
      (pss_cons (ps_set (i := 5) scMay.nd rfl (Or.inl rfl) (pe_call Go (hr.mono (by decide)) rfl mo ko bo .nil pass0 (pa_cons (pv 1) (pa_cons (pv 2) pa_nil))))
      (pss_cons (ps_if (pt_cmpR (op_eqD hr.units) (pe_ix ix_tup (pv 4) pe_int (fun _ _ => rfl)) (pe_ix ix_tup (pv 4) pe_int (fun _ _ => rfl)) (nomark _))
        (pss_one (ps_ret (pe_lst (pa_cons (pe_ifExp (pt_cmpR (op_eqD hr.units) (pv 5) (pe_ix ix_tup (pv 4) pe_int (fun _ _ => rfl)) (nomark _)) pe_int pe_int) pa_nil)))) pss_nil)
      (pss_one (ps_ret (pe_lst (pa_cons (pe_ifExp (PW.pt (pw_and (pt_val (pe_call Gl (hr.mono (by decide)) rfl ml kl bl .nil pass0 (pa_cons (pe_ix ix_tup (pv 4) pe_int (fun _ _ => rfl)) (pa_cons (pv 5) pa_nil))))
        (pw_and1 (pt_val (pe_call Gl (hr.mono (by decide)) rfl ml kl bl .nil pass0 (pa_cons (pv 5) (pa_cons (pe_ix ix_tup (pv 4) pe_int (fun _ _ => rfl)) pa_nil))))))) pe_int pe_int) pa_nil)))))))), ?_⟩
    refine ⟨_, rfl, d, dx, _, rfl, h1, rfl, _, rfl, d, lt, z, q, a, l, rfl, D, hq, hl, fun H1 s1 => ⟨_, rfl, ?_⟩⟩
    have bad : (a.okP l = false ∨ y = 0 ∨ 1000 < y ∨ 1000000 < x) → 1 ≤ sizeLine ∧ ∀ t, H1 t = none → Q (.ref t) (upd H1 t (.lst [.int (-22)])) := by
      intro h
      have e : ansL (does a (.may x y l)).2 = [-22] := by simp only [does, if_pos h]; rfl
      rw [e] at k
      exact k.back s1
    cases hok : a.okP l with
    | false => exact ite2 (fun _ => ite2 (fun _ => bad (Or.inl hok)) (fun h => absurd rfl h)) (fun h => absurd rfl h)
    | true =>
      refine ite2 (fun h => absurd h (by decide)) (fun _ => ?_)
      simp only [tOr, tNot]
      refine chain_read (i := 2) (x := (y : Int)) (lo := 1) (hi := 1000) rfl ?_
      by_cases hy : 1 ≤ (y : Int) ∧ (y : Int) ≤ 1000
      · rw [decide_eq_true hy]
        refine ite2 (fun h => absurd h (by decide)) (fun _ => ?_)
        refine ⟨_, rfl, _, _, rfl, rfl, _, rfl, ?_⟩
        refine ite2 (fun hc => ?_) (fun hc => ?_)
        · have := of_decide_eq_true hc
          exact bad (Or.inr (Or.inr (Or.inr (by omega))))
        · have hx : ¬ 1000000 < x := fun h => hc (decide_eq_true (by omega))
          have good : ¬ (a.okP l = false ∨ y = 0 ∨ 1000 < y ∨ 1000000 < x) := by
            rintro (h | h | h | h)
            · rw [hok] at h; cases h
            · omega
            · omega
            · exact hx h
          obtain ⟨ol, ob⟩ := okP_iff hok
          have pl : (intL l).length = a.n := by rw [intL_len]; exact ol
          have pb := intL_bd ob
          have y0 : 0 < y := by omega
          refine ⟨_, rfl, d, dx, _, rfl, s1 _ _ h1, rfl, _, rfl, d, lt, z, q, a, intL l, rfl, D.mono s1, s1 _ _ hq, pl, pb, ?_, ?_⟩
          · intro hf H2 s2
            refine ⟨_, rfl, rfl, _, rfl, ite2 (fun _ => ?_) (fun hc => absurd rfl hc)⟩
            have e : ansL (does a (.may x y l)).2 = [-16] := by simp only [does, if_neg good, if_pos hf]; rfl
            rw [e] at k
            exact k.back (s1.trans s2)
          · intro hf H2 t lo hi s2 ht hlo hhi
            refine ⟨_, rfl, rfl, _, rfl, ite2 (fun hc => absurd (of_decide_eq_true hc) (by intro h; cases h)) (fun _ => ?_)⟩
            have e : ansL (does a (.may x y l)).2 = [((bit (mayB a x y (intL l)) : Nat) : Int)] := by
              have hf' : ¬ a.fair = false := by rw [hf]; decide
              simp only [does, if_neg good, if_neg hf']
              rfl
            rw [e] at k
            have s12 := s1.trans s2
            refine ⟨_, rfl, _, rfl, (x : Int), (y : Int), rfl, by omega, ?_, fun H3 u s3 hu => ?_⟩
            · refine sz_small (k := 20) (by decide) ?_
              show y < 1048576
              omega
            rw [over_low y0] at hu
            have hlo3 := s3 _ _ hlo
            have hhi3 := s3 _ _ hhi
            have ht3 := s3 _ _ ht
            have s13 := s12.trans s3
            obtain ⟨z1, z2⟩ := lo_sz D.fine pl pb
            have z3 := ask_sz (x := x) y0 (by omega) (by omega)
            refine ⟨_, rfl, t, _, _, _, rfl, rfl, SqT.of ht3, rfl, _, rfl, t, _, _, _, rfl, rfl, SqT.of ht3, rfl, _, _, dp_fr hlo3, dp_fr hhi3, shaped_fr _, shaped_fr _, _, rfl, ?_⟩
            rw [eqv_fr]
            unfold mayB at k
            cases hb : (a.lo (intL l) == a.hi (intL l)) with
            | true =>
              rw [hb, if_pos rfl] at k
              refine ite2 (fun _ => ?_) (fun h => absurd rfl h)
              refine ⟨_, rfl, _, rfl, t, _, _, _, rfl, rfl, SqT.of ht3, rfl, _, _, dp_fr hu, dp_fr hlo3, shaped_fr _, shaped_fr _, _, rfl, ?_⟩
              rw [eqv_fr]
              cases hc : (low (Int.ofNat x) y == a.lo (intL l)) with
              | true =>
                rw [hc] at k
                exact ite2 (fun _ => k.back s13) (fun h => absurd rfl h)
              | false =>
                rw [hc] at k
                exact ite2 (fun h => absurd h (by decide)) (fun _ => k.back s13)
            | false =>
              rw [hb, if_neg (by decide)] at k
              refine ite2 (fun h => absurd h (by decide)) (fun _ => ?_)
              refine ⟨_, rfl, t, _, _, _, rfl, rfl, SqT.of ht3, rfl, _, rfl, lo, u, _, _, rfl, SqT.of hlo3, SqT.of hu, z1, z3, _, rfl, ?_⟩
              cases hc : less (a.lo (intL l)) (low (Int.ofNat x) y) with
              | false =>
                rw [hc] at k
                exact ite2 (fun h => absurd h (by decide)) (fun _ => ite2 (fun h => absurd h (by decide)) (fun _ => k.back s13))
              | true =>
                rw [hc, Bool.true_and] at k
                refine ite2 (fun _ => ?_) (fun h => absurd rfl h)
                refine ⟨_, rfl, _, rfl, t, _, _, _, rfl, rfl, SqT.of ht3, rfl, u, hi, _, _, rfl, SqT.of hu, SqT.of hhi3, z3, z2, _, rfl, ?_⟩
                cases hd : less (low (Int.ofNat x) y) (a.hi (intL l)) with
                | true =>
                  rw [hd] at k
                  exact ite2 (fun _ => k.back s13) (fun h => absurd rfl h)
                | false =>
                  rw [hd] at k
                  exact ite2 (fun h => absurd h (by decide)) (fun _ => k.back s13)
      · rw [decide_eq_false hy]
        refine ite2 (fun _ => ?_) (fun h => absurd (by first | rfl | trivial | decide) h)
        refine ite2 (fun _ => bad (Or.inr ?_)) (fun h => absurd (by first | rfl | trivial | decide) h)
        omega
end
end DA
set_option Elab.async false
set_option maxRecDepth 100000
set_option maxHeartbeats 2000000
namespace DA
open PySem PySem.Spec PyProof.Rows L2
open Su109 (Fr low over plus less at_ choose least greatest Abs bit does Ans num no two)
theorem Rows.set {H : Hp} {as : List Addr} {rows : List (List Int)} (R : Rows H as rows) (j : Nat) {b : Addr} {r : List Int} (h : H b = some (.lst (r.map V.int))) : Rows H (as.set j b) (rows.set j r) := by
  refine ⟨by rw [List.length_set, List.length_set, R.len], fun i a ha => ?_⟩
  rw [List.getElem?_set] at ha
  rw [List.getElem?_set]
  by_cases e : j = i
  · subst e
    rw [if_pos rfl] at ha ⊢
    by_cases hl : j < as.length
    · rw [if_pos hl] at ha
      cases ha
      exact ⟨r, by rw [if_pos (by rw [← R.len]; exact hl)], h⟩
    · rw [if_neg hl] at ha
      cases ha
  · rw [if_neg e] at ha ⊢
    exact R.at_ i a ha
section
variable {P : Program} {w : World} {K : PySem.W.Frag} {mg : Str → Option Value} {base : Heap} {CD CT : Addr}
/-! ### look -/
def spLook (CD CT : Addr) : Sp := fun vs H Q _ => ∃ (d lt z : Addr) (a : Abs) (t : Nat), vs = [.ref d, .int (t : Int)] ∧ DayA CD CT z H d lt a ∧ SaidP H (ansL (does a (.look t)).2) Q
theorem scLook : FnScope ["self", "t", "thing"] ["self", "t"] (defScope sLook) := ⟨rfl, rfl, rfl, by decide +kernel, rfl, by decide +kernel, by decide +kernel⟩
theorem ok_look {f fh : Addr} {fd fdh : FuncData} (F : Fun K "look" "Day.look" sLook f fd) (T : Txt K mg CD CT)
    (Gh : FnOk P w K mg base CX0 1 fh fdh ["self", "t"] (spHas CD CT)) (mH : Meth K CD "has_thing" fh) (bh : Binds K fdh ["self", "t"] []) :
    FnOk P w K mg base CX0 2 f fd ["self", "t"] (spLook CD CT) := by
  refine F.ok scLook (fun vs H Q E h => ?_) (fun cdv A outer s H vs Q E hr h => ?_)
  · obtain ⟨d, lt, z, a, t, rfl, _⟩ := h
    rfl
  · obtain ⟨d, lt, z, a, t, rfl, D, k⟩ := h
    have big := line_big
    obtain ⟨dx, as, h1, h2, h3⟩ := D.ex
    refine ⟨_, pss_cons (ps_if (pt_not (pt_val (pe_meth (pv 0) T.clD mH Gh hr bh .nil pass0 (pa_cons (pv 1) pa_nil)))) (pss_one (ps_ret (pe_lst (pa_cons (pe_num T.mNone) pa_nil)))) pss_nil)
      (pss_cons (ps_set (i := 2) scLook.nd rfl (Or.inl rfl) (pe_ix ix_list (pe_fld (pv 0) rfl) (pv 1) (fun _ _ => rfl)))
      (pss_one (ps_ret (pe_op op_cat (pe_lst (pa_cons (pe_fld (pv 2) rfl) pa_nil)) (pe_fld (pv 2) rfl))))), ?_⟩
    refine ⟨_, rfl, d, dx, _, rfl, h1, rfl, _, rfl, d, lt, z, a, t, rfl, D, _, rfl, ?_⟩
    cases hT : a.isT t with
    | false =>
      refine ite2 (fun _ => ?_) (fun h => absurd rfl h)
      have e : ansL (does a (.look t)).2 = [-2] := by simp only [does, if_pos hT]; rfl
      rw [e] at k
      exact k.back (Same.refl H)
    | true =>
      refine ite2 (fun h => absurd h (by decide)) (fun _ => ?_)
      have hT' : ¬ a.isT t = false := by rw [hT]; decide
      have htl : t < a.things.length := isT_iff.mp hT
      have hal : t < as.length := by rw [h3.len]; exact htl
      have ea : as[t]? = some as[t] := List.getElem?_eq_getElem hal
      obtain ⟨th, dxt, wl, g1, g2, g3, g4⟩ := h3.at_ t as[t] ea
      have eth : a.things.getD t (0, []) = th := by simp [List.getD, g1]
      have wlen := D.fine.good.wide th (List.mem_of_getElem? g1)
      have h4 := D.fine.good.four
      have e : ansL (does a (.look t)).2 = (th.1 : Int) :: intL th.2 := by
        simp only [does, if_neg hT', eth]
        rfl
      rw [e] at k
      refine ⟨_, rfl, d, CD, dx, _, _, rfl, h1, T.clD, T.nT, rfl, _, rfl, lt, _, _, _, rfl, rfl, SqL.of h2, at_of (j := t) rfl (ref_at ea), ?_⟩
      refine ⟨_, rfl, as[t], CT, dxt, _, _, rfl, g2, T.clT, T.nC, rfl, (by show 1 ≤ sizeLine; omega), fun c1 hc1 => ?_⟩
      have s7 := same_upd (o := .lst [.int (th.1 : Int)]) hc1
      refine ⟨_, rfl, as[t], CT, dxt, _, _, rfl, s7 _ _ g2, T.clT, T.nX, rfl, c1, wl, _, _, rfl, rfl, upd_same, s7 _ _ g3, (by simp [natsV]; omega), fun c2 hc2 => ?_⟩
      exact k _ c2 (s7.trans (same_upd hc2)) upd_same (s7.free hc2)
/-! ### rate -/
def spRate (CD CT : Addr) : Sp := fun vs H Q _ => ∃ (d lt z : Addr) (a : Abs), vs = [.ref d] ∧ DayA CD CT z H d lt a ∧ SaidP H (ansL (does a .rate).2) Q
theorem scRate : FnScope ["self", "told"] ["self"] (defScope sRate) := ⟨rfl, rfl, rfl, by decide +kernel, rfl, by decide +kernel, by decide +kernel⟩
theorem ok_rate {f fo : Addr} {fd fdo : FuncData} (F : Fun K "rate" "Day.rate" sRate f fd) (T : Txt K mg CD CT)
    (ko : PySem.W.keepIn K (.ref fo) = true) (Go : FnOk P w K mg base CX0 2 fo fdo ["above", "below"] spRatio) (mo : mg "ratio" = some (.ref fo)) (bo : Binds K fdo ["above", "below"] []) :
    FnOk P w K mg base CX0 3 f fd ["self"] (spRate CD CT) := by
  refine F.ok scRate (fun vs H Q E h => ?_) (fun cdv A outer s H vs Q E hr h => ?_)
  · obtain ⟨d, lt, z, a, rfl, _⟩ := h
    rfl
  · obtain ⟨d, lt, z, a, rfl, D, k⟩ := h
    have big := line_big
    obtain ⟨dx, as, h1, h2, h3⟩ := D.ex
    have b1 := D.fine.bpos
    have b2 := D.fine.b1000
    refine ⟨_, pss_cons (ps_set (i := 1) scRate.nd rfl (Or.inl rfl) (pe_lst (pa_cons pe_int pa_nil)))
      (pss_cons (ps_expr (pe_bm PySem.F.plainAttrs_list PySem.F.slot_list_extend PySem.F.type_list_extend mt_extendT (pv 1) (pa_cons (pe_call Go hr rfl mo ko bo .nil pass0 (pa_cons (pe_fld (pv 0) rfl) (pa_cons (pe_fld (pv 0) rfl) pa_nil))) pa_nil)))
      (pss_one (ps_ret (pv 1)))), ?_⟩
    refine ⟨(by show 1 ≤ sizeLine; omega), fun o ho => ?_⟩
    have s2 := same_upd (o := .lst [.int 0]) ho
    refine ⟨_, rfl, .inl ⟨rfl, _, SqL.of upd_same⟩, _, rfl, d, CD, dx, _, _, rfl, s2 _ _ h1, T.clD, T.nL, rfl, _, rfl, d, CD, dx, _, _, rfl, s2 _ _ h1, T.clD, T.nK, rfl, (a.price : Int), (a.back : Int), rfl, by omega, ?_, fun H3 u s3 hu => ?_⟩
    · refine sz_small (k := 10) (by decide) ?_
      show a.back < 1024
      omega
    rw [over_low (by omega)] at hu
    refine ⟨o, u, _, _, rfl, rfl, s3 _ _ upd_same, SqT.of hu, (by show 1 + 2 ≤ sizeLine; omega), ?_⟩
    exact ⟨_, rfl, k _ o (same_over (s2.trans s3) ho) upd_same ho⟩
/-! ### state -/
def spState (CD CT : Addr) : Sp := fun vs H Q _ => ∃ (d lt z : Addr) (a : Abs), vs = [.ref d] ∧ DayA CD CT z H d lt a ∧ SaidP H (ansL (does a .state).2) Q
theorem scState : FnScope ["self"] ["self"] (defScope sState) := ⟨rfl, rfl, rfl, by decide +kernel, rfl, by decide +kernel, by decide +kernel⟩
theorem ok_state {f : Addr} {fd : FuncData} (F : Fun K "state" "Day.state" sState f fd) (T : Txt K mg CD CT) : FnOk P w K mg base CX0 1 f fd ["self"] (spState CD CT) := by
  refine F.ok scState (fun vs H Q E h => ?_) (fun cdv A outer s H vs Q E hr h => ?_)
  · obtain ⟨d, lt, z, a, rfl, _⟩ := h
    rfl
  · obtain ⟨d, lt, z, a, rfl, D, k⟩ := h
    have big := line_big
    obtain ⟨dx, as, h1, h2, h3⟩ := D.ex
    have al : (as.map V.ref).length = a.things.length := by rw [List.length_map, h3.len]
    refine ⟨_, pss_one (ps_ret (pe_lst (pa_cons (pe_fld (pv 0) rfl) (pa_cons (pe_callB call_len_seq (by rfl) T.len PySem.boot_len (pa_cons (pe_fld (pv 0) rfl) pa_nil)) (pa_cons (pe_fld (pv 0) rfl) (pa_cons (pe_fld (pv 0) rfl) pa_nil)))))), ?_⟩
    refine ⟨_, rfl, d, CD, dx, _, _, rfl, h1, T.clD, T.nW, rfl, _, rfl, d, CD, dx, _, _, rfl, h1, T.clD, T.nT, rfl, lt, _, rfl, .inl (SqL.of h2), _, rfl, d, CD, dx, _, _, rfl, h1, T.clD, T.nL, rfl, _, rfl, d, CD, dx, _, _, rfl, h1, T.clD, T.nK, rfl, (by show 4 ≤ sizeLine; omega), fun t ht => ?_⟩
    refine k _ t (same_upd ht) ?_ ht
    rw [upd_same, al]
    rfl
/-! ### whole -/
def spWhole (CD CT : Addr) : Sp := fun vs H Q _ => ∃ (d lt z : Addr) (a : Abs), vs = [.ref d] ∧ DayA CD CT z H d lt a ∧ SaidP H (ansL (does a .whole).2) Q
theorem scWhole : FnScope ["self", "corners"] ["self"] (defScope sWhole) := ⟨rfl, rfl, rfl, by decide +kernel, rfl, by decide +kernel, by decide +kernel⟩
theorem ok_whole {f fa ff : Addr} {fd fda fdf : FuncData} (F : Fun K "whole" "Day.whole" sWhole f fd) (T : Txt K mg CD CT)
    (Ga : FnOk P w K mg base CX0 6 fa fda ["self"] (spAllC CD CT)) (mA : Meth K CD "all_corners" fa) (ba : Binds K fda ["self"] [])
    (kf : PySem.W.keepIn K (.ref ff) = true) (Gf : FnOk P w K mg base CX0 1 ff fdf ["corners", "count"] spFair) (mf : mg "are_fair" = some (.ref ff)) (bf : Binds K fdf ["corners", "count"] []) :
    FnOk P w K mg base CX0 7 f fd ["self"] (spWhole CD CT) := by
  refine F.ok scWhole (fun vs H Q E h => ?_) (fun cdv A outer s H vs Q E hr h => ?_)
  · obtain ⟨d, lt, z, a, rfl, _⟩ := h
    rfl
  · obtain ⟨d, lt, z, a, rfl, D, k⟩ := h
    have big := line_big
    obtain ⟨dx, as, h1, h2, h3⟩ := D.ex
    refine ⟨_, pss_cons (ps_set (i := 1) scWhole.nd rfl (Or.inl rfl) (pe_meth0 (pv 0) T.clD mA Ga hr ba .nil pass0))
      (pss_cons (ps_if (pt_not (pt_val (pe_call Gf (hr.mono (by decide)) rfl mf kf bf .nil pass0 (pa_cons (pv 1) (pa_cons (pe_fld (pv 0) rfl) pa_nil))))) (pss_one (ps_ret (pe_lst (pa_cons (pe_num T.mFair) pa_nil)))) pss_nil)
      (pss_one (ps_ret (pe_lst (pa_cons (pe_ifExp (pt_cmpR op_eq (pe_callB call_len_seq (by rfl) T.len PySem.boot_len (pa_cons (pv 1) pa_nil)) pe_int (nomark _)) pe_int pe_int) pa_nil))))), ?_⟩
    refine ⟨_, rfl, d, dx, _, rfl, h1, rfl, d, lt, z, a, rfl, D, fun H1 c cs s1 hc CC => ?_⟩
    have cl := corners_len D.fine.good
    refine ⟨_, rfl, _, rfl, d, CD, dx, _, _, rfl, s1 _ _ h1, T.clD, T.nW, rfl, c, cs, a.corners, a.n, rfl, hc, CC, fun q hq => (corner_mem D.fine.good hq).1, by omega, D.fine.good.four, fun H2 s2 => ?_⟩
    rw [mFair_eq D.fine.good]
    refine ⟨_, rfl, ?_⟩
    cases hf : a.fair with
    | false =>
      refine ite2 (fun _ => ?_) (fun h => absurd rfl h)
      have e : ansL (does a .whole).2 = [-16] := by simp only [does, if_pos hf]; rfl
      rw [e] at k
      exact k.back (s1.trans s2)
    | true =>
      refine ite2 (fun h => absurd h (by decide)) (fun _ => ?_)
      have hf' : ¬ a.fair = false := by rw [hf]; decide
      have e : ansL (does a .whole).2 = [((bit (a.corners.length == 1) : Nat) : Int)] := by simp only [does, if_neg hf']; rfl
      rw [e] at k
      have lc : (cs.map V.ref).length = a.corners.length := by rw [List.length_map, CC.len]
      refine ⟨_, rfl, c, _, rfl, .inl (SqL.of (s2 _ _ hc)), rfl, _, rfl, ?_⟩
      refine ite_eq (fun he => ?_) (fun hne => ?_)
      · rw [lc] at he
        have : (a.corners.length == 1) = true := by simp only [beq_iff_eq]; omega
        rw [this] at k
        exact k.back (s1.trans s2)
      · rw [lc] at hne
        have : (a.corners.length == 1) = false := by simp only [beq_eq_false_iff_ne]; omega
        rw [this] at k
        exact k.back (s1.trans s2)
/-! ### would -/
def spWould (CD CT : Addr) : Sp := fun vs H Q _ => ∃ (d lt z : Addr) (a : Abs) (t p : Nat), vs = [.ref d, .int (t : Int), .int (p : Int)] ∧ DayA CD CT z H d lt a ∧ SaidP H (ansL (does a (.would t p)).2) Q
theorem scWould : FnScope ["self", "t", "p", "refused", "rows"] ["self", "t", "p"] (defScope sWould) := ⟨rfl, rfl, rfl, by decide +kernel, rfl, by decide +kernel, by decide +kernel⟩
theorem ok_would {f fh fr fc ff : Addr} {fd fdh fdr fdc fdf : FuncData} (F : Fun K "would" "Day.would" sWould f fd) (T : Txt K mg CD CT)
    (Gh : FnOk P w K mg base CX0 2 fh fdh ["self", "t", "number"] (spRefusal CD CT)) (mH : Meth K CD "refusal" fh) (bh : Binds K fdh ["self", "t", "number"] [])
    (Gr : FnOk P w K mg base CX0 1 fr fdr ["self"] (spRows CD CT)) (mR : Meth K CD "rows" fr) (br : Binds K fdr ["self"] [])
    (kc : PySem.W.keepIn K (.ref fc) = true) (Gc : FnOk P w K mg base CX0 5 fc fdc ["rows", "count"] spFind) (mc : mg "find_corners" = some (.ref fc)) (bc : Binds K fdc ["rows", "count"] [])
    (kf : PySem.W.keepIn K (.ref ff) = true) (Gf : FnOk P w K mg base CX0 1 ff fdf ["corners", "count"] spFair) (mf : mg "are_fair" = some (.ref ff)) (bf : Binds K fdf ["corners", "count"] []) :
    FnOk P w K mg base CX0 6 f fd ["self", "t", "p"] (spWould CD CT) := by
  refine F.ok scWould (fun vs H Q E h => ?_) (fun cdv A outer s H vs Q E hr h => ?_)
  · obtain ⟨d, lt, z, a, t, p, rfl, _⟩ := h
    rfl
  · obtain ⟨d, lt, z, a, t, p, rfl, D, k⟩ := h
    have big := line_big
    obtain ⟨dx, as, h1, h2, h3⟩ := D.ex
    have h4 := D.fine.good.four
    have ht2 := D.fine.good.two
    refine ⟨_, pss_cons (ps_set (i := 3) scWould.nd rfl (Or.inl rfl) (pe_meth (pv 0) T.clD mH Gh (hr.mono (by decide)) bh .nil pass0 (pa_cons (pv 1) (pa_cons (pv 2) pa_nil))))
      (pss_cons (ps_if (pt_cmpR op_ne (pv 3) pe_int (nomark _)) (pss_one (ps_ret (pe_lst (pa_cons (pv 3) pa_nil)))) pss_nil)
      (pss_cons (ps_set (i := 4) scWould.nd rfl (Or.inl rfl) (pe_meth0 (pv 0) T.clD mR Gr (hr.mono (by decide)) br .nil pass0))
      (pss_cons (ps_asg (pe_op op_cat (pe_fld (pe_ix ix_list (pe_fld (pv 0) rfl) (pv 1) (fun _ _ => rfl)) rfl) (pe_lst (pa_cons (pv 2) pa_nil))) (pg_sub (pv 4) (pe_op op_add (pv 1) pe_int) set_list))
      (pss_one (ps_ret (pe_lst (pa_cons (pe_ifExp (pt_val (pe_call Gf (hr.mono (by decide)) rfl mf kf bf .nil pass0 (pa_cons (pe_call Gc hr rfl mc kc bc .nil pass0 (pa_cons (pv 4) (pa_cons (pe_fld (pv 0) rfl) pa_nil))) (pa_cons (pe_fld (pv 0) rfl) pa_nil)))) pe_int pe_int) pa_nil))))))), ?_⟩
    refine ⟨_, rfl, d, dx, _, rfl, h1, rfl, _, rfl, _, rfl, d, lt, z, a, t, p, rfl, D, ?_⟩
    refine ⟨_, rfl, rfl, _, rfl, ?_⟩
    refine ite_ne (fun hne => ?_) (fun he => ?_)
    · have e : ansL (does a (.would t p)).2 = [refN a t p] := by
        rcases ref_ne hne with ⟨g1, g2⟩ | ⟨g1, g2, g3⟩
        · simp only [does, if_pos g1, g2]; rfl
        · simp only [does, if_neg g1, if_pos g2, g3]; rfl
      rw [e] at k
      exact ⟨_, rfl, k.back (Same.refl H)⟩
    · obtain ⟨hT, hp⟩ := ref_eq he
      have hT' : ¬ a.isT t = false := by rw [hT]; decide
      have htl : t < a.things.length := isT_iff.mp hT
      have hal : t < as.length := by rw [h3.len]; exact htl
      have ea : as[t]? = some as[t] := List.getElem?_eq_getElem hal
      obtain ⟨th, dxt, wl, g1, g2, g3, g4⟩ := h3.at_ t as[t] ea
      have wlen := D.fine.good.wide th (List.mem_of_getElem? g1)
      have FP := fine_price (t := t) D.fine hp
      have e : ansL (does a (.would t p)).2 = [((bit (priceAt a t p).fair : Nat) : Int)] := by
        simp only [does, if_neg hT', if_neg hp]
        rfl
      rw [e] at k
      refine ⟨_, rfl, d, dx, _, rfl, h1, rfl, d, lt, z, a, rfl, D, fun H1 q rs s1 hq nq nrs RR => ?_⟩
      refine ⟨_, rfl, d, CD, dx, _, _, rfl, s1 _ _ h1, T.clD, T.nT, rfl, _, rfl, lt, _, _, _, rfl, rfl, SqL.of (s1 _ _ h2), at_of (j := t) rfl (ref_at ea), as[t], CT, dxt, _, _, rfl, s1 _ _ g2, T.clT, T.nX, rfl, _, rfl, (by show 1 ≤ sizeLine; omega), fun b1 hb1 => ?_⟩
      have s2 := same_upd (o := .lst [.int (p : Int)]) hb1
      refine ⟨wl, b1, _, _, rfl, rfl, s2 _ _ (s1 _ _ g3), upd_same, (by simp [natsV]; omega), fun b2 hb2 => ?_⟩
      have s3 := same_upd (o := .lst (natsV th.2 ++ [.int (p : Int)])) hb2
      have rl : (rs.map V.ref).length = a.things.length + 1 := by rw [List.length_map, RR.len, full_length]
      have s23 := s2.trans s3
      have et : (t : Int) + 1 = ((t + 1 : Nat) : Int) := by omega
      refine ⟨_, rfl, _, rfl, _, _, rfl, rfl, q, _, _, t + 1, rfl, rfl, s23 _ _ hq, (by rw [et]; exact ixN_nat (by rw [rl]; omega)), ?_⟩
      have qb2 : q ≠ b2 := ne_of_none (s2 _ _ hq) hb2
      have em : (rs.map V.ref).set (t + 1) (.ref b2) = (rs.set (t + 1) b2).map V.ref := by rw [List.map_set]
      rw [em]
      have nset : q ∉ rs.set (t + 1) b2 := fun hm => by
        rcases List.mem_or_eq_of_mem_set hm with h | h
        · exact nrs h
        · exact qb2 h
      have R2 := ((RR.mono s23).set (t + 1) (b := b2) (r := th.2.map Int.ofNat ++ [Int.ofNat p]) (by rw [upd_same, List.map_append]; rfl)).upd (o := .lst ((rs.set (t + 1) b2).map V.ref)) nset
      rw [← full_price g1] at R2
      have s5 := same_over (o := .lst ((rs.set (t + 1) b2).map V.ref)) (s1.trans s23) nq
      refine ⟨_, rfl, _, rfl, d, CD, dx, _, _, rfl, s5 _ _ h1, T.clD, T.nW, rfl, q, _, full (priceAt a t p), a.n, rfl, upd_same, R2, by rw [full_length]; show (a.things.modify t _).length + 1 < 100; rw [List.length_modify]; omega, full_wide FP.good, full_bd FP, h4, fun H5 c cs s6 hc CC => ?_⟩
      have CC' : Crs H5 cs (priceAt a t p).corners := by
        rw [← mCorners_eq FP.good]
        exact CC
      have cl := corners_len FP.good
      refine ⟨_, rfl, d, CD, dx, _, _, rfl, (s5.trans s6) _ _ h1, T.clD, T.nW, rfl, c, cs, (priceAt a t p).corners, a.n, rfl, hc, CC', fun q hq => (corner_mem FP.good hq).1, by omega, h4, fun H6 s7 => ?_⟩
      have mf := mFair_eq FP.good
      have mf : mFair (priceAt a t p).corners a.n = (priceAt a t p).fair := mf
      rw [mf]
      have s8 := (s5.trans s6).trans s7
      refine ⟨_, rfl, ?_⟩
      cases hf : (priceAt a t p).fair with
      | true =>
        rw [hf] at k
        exact ite2 (fun _ => k.back s8) (fun h => absurd rfl h)
      | false =>
        rw [hf] at k
        exact ite2 (fun h => absurd h (by decide)) (fun _ => k.back s8)
end
end DA
set_option Elab.async false
set_option maxRecDepth 100000
set_option maxHeartbeats 2000000
namespace DA
open PySem PySem.Spec PyProof.Rows L2
open Su109 (Fr low over plus less at_ choose least greatest Abs bit does Ans num no two pairs)
abbrev sTogether : Stmt := top 18
abbrev sMoney : Stmt := top 19
theorem cut_init (xs : List V) (x : V) : cutV (xs ++ [x]) none (some (-1)) = xs := by
  unfold cutV
  have : HT.sIx (xs ++ [x]).length (xs ++ [x]).length (some (-1)) = xs.length := by
    show (if (-1 : Int) < 0 then ((-1 : Int) + ((xs ++ [x]).length : Int)).toNat else min (-1 : Int).toNat (xs ++ [x]).length) = _
    rw [if_pos (by decide), List.length_append]
    show ((-1 : Int) + ((xs.length + 1 : Nat) : Int)).toNat = _
    omega
  rw [this, HT.sIx_none, List.drop_zero, Nat.sub_zero]
  simp
theorem nats_at {l : List Nat} {j : Nat} (h : j < l.length) : (natsV l)[j]? = some (.int (l.getD j 0 : Int)) := by
  unfold natsV
  rw [List.getElem?_map, List.getElem?_map, List.getElem?_eq_getElem h, getD_lt h]
  rfl
section
variable {P : Program} {w : World} {K : PySem.W.Frag} {mg : Str → Option Value} {base : Heap} {CD CT : Addr}
/-! ### together -/
def spTogether : Sp := fun vs H Q _ => ∃ (q so : Addr) (rs : List Addr) (rows : List (List Int)) (w : Nat) (l : List Nat), vs = [.ref q, .ref so] ∧ H q = some (.lst (rs.map V.ref)) ∧ Rows H rs rows ∧ Wide w rows ∧ 0 < rows.length ∧ rows.length < 100 ∧ w < 100 ∧ RBd 10 rows ∧
  H so = some (.lst (natsV l)) ∧ l.length = 2 * rows.length ∧ (∀ x, x ∈ l → x ≤ 1000) ∧ ∀ (H' : Hp) (m : Addr), Same H H' → H' m = some (.lst ((tog (pairs l) rows w rows.length).map V.int)) → Q (.ref m) H'
theorem scTogether : FnScope ["rows", "some", "made", "number", "row", "pieces", "so_far", "more"] ["rows", "some"] (defScope sTogether) := ⟨rfl, rfl, rfl, by decide +kernel, rfl, by decide +kernel, by decide +kernel⟩
theorem ok_together {f : Addr} {fd : FuncData} (F : Fun K "together" "together" sTogether f fd) (hln : mg "len" = none) (hen : mg "enumerate" = none) (hzp : mg "zip" = none) : FnOk P w K mg base CX0 1 f fd ["rows", "some"] spTogether := by
  refine F.ok scTogether (fun vs H Q E h => ?_) (fun cdv A outer s H vs Q E hr h => ?_)
  · obtain ⟨q, so, rs, rows, w, l, rfl, _⟩ := h
    rfl
  · obtain ⟨q, so, rs, rows, w, l, rfl, hq, R, hw, h0, hl, hw1, hb, hso, hll, hlb, k⟩ := h
    have big := line_big
    refine ⟨_, pss_cons (ps_set (i := 2) scTogether.nd rfl (Or.inl rfl) (pe_op op_rep (pe_lst (pa_cons pe_int pa_nil)) (pe_callB call_len_seq (by rfl) hln PySem.boot_len (pa_cons (pe_ix ix_list (pv 0) pe_int (fun _ _ => rfl)) pa_nil))))
      (pss_cons (ps_for PassesOwn.never rfl (pi_enum rfl hen (pa_cons (pv 0) pa_nil)) (pg_tup rfl (pgs_cons (pg_name (i := 3) scTogether.nd rfl (Or.inl rfl)) (pgs_cons (pg_name (i := 4) scTogether.nd rfl (Or.inl rfl)) pgs_nil)))
        (pss_cons (ps_set (i := 5) scTogether.nd rfl (Or.inr rfl) (pe_op op_sub (pe_ix ix_list (pv 1) (pe_op op_mulB pe_int (pv 3)) (fun _ _ => rfl)) (pe_ix ix_list (pv 1) (pe_op op_add (pe_op op_mulB pe_int (pv 3)) pe_int) (fun _ _ => rfl))))
        (pss_one (ps_setLc (i := 2) rfl scTogether.nd rfl rfl rfl (pi_zip rfl hzp (pa_cons (pv 2) (pa_cons (pv 4) pa_nil))) (blkOk_by (own := [("so_far", 6), ("more", 7)]) (by show blkC ["rows", "some", "made", "number", "row", "pieces", "so_far", "more"] (defScope sTogether) _ [("so_far", 6), ("more", 7)] = true; decide +kernel))
              (fun s H C cl fp => (show PG _ _ (gTup K 2 _) from pg_tup rfl (pgs_cons (pg_name (i := 6) scTogether.nd rfl (Or.inl rfl) (Or.inr rfl)) (pgs_cons (pg_name (i := 7) scTogether.nd rfl (Or.inl rfl) (Or.inr rfl)) pgs_nil))))
              (fun s H C cl fp => pts_nil)
              (fun s H C cl fp => pe_op op_add (pv 6) (pe_op op_mulB (pv 5) (pv 7)))))))
      (pss_one (ps_ret (pv 2)))), ?_⟩
    obtain ⟨a0, ha0, hA0⟩ := R.row h0
    have w0 : (rows.getD 0 []).length = w := hw 0 h0
    refine ⟨(by show 1 ≤ sizeLine; omega), fun b1 hb1 => ?_⟩
    have s1 := same_upd (o := .lst [.int 0]) hb1
    have wl : (((rows.getD 0 []).map V.int).length : Int).toNat = w := by rw [List.length_map, w0]; rfl
    refine ⟨_, rfl, q, _, _, _, rfl, rfl, SqL.of (s1 _ _ hq), at_of (j := 0) rfl (ref_at ha0), a0, _, rfl, .inl (SqL.of (s1 _ _ hA0)), b1, _, _, rfl, rfl, upd_same, by omega, (by rw [List.length_map, w0]; omega), (by rw [wl]; show 1 * w ≤ sizeLine; omega), fun mo hmo => ?_⟩
    rw [wl, rep_one]
    have s2 := same_upd (o := .lst (List.replicate w (.int 0))) hmo
    have s12 := s1.trans s2
    have al : (rs.map V.ref).length = rows.length := by rw [List.length_map, R.len]
    refine ⟨_, rfl, q, _, rfl, SqL.of (s12 _ _ hq), ?_⟩
    refine for_enum (K := K) (a := q) (xs := rs.map V.ref) (fun i σ H' => ∃ (m : Addr) (v3 v4 v5 : Option V), σ = [some (.ref q), some (.ref so), some (.ref m), v3, v4, v5, none, none] ∧ Same H H' ∧ H' m = some (.lst ((tog (pairs l) rows w i).map V.int))) ?_ ?_ ?_ ?_
    · exact ⟨mo, none, none, none, rfl, s12, by rw [upd_same]; simp [tog]⟩
    · rintro i σ H' _ ⟨_, _, _, _, _, s3, _⟩
      exact SqL.of (s3 _ _ hq)
    · rintro i y σ H1 T hi ⟨m, v3, v4, v5, rfl, s3, hm⟩ hT
      obtain ⟨a, ha, rfl⟩ := map_ref hi
      have hil : i < rows.length := by
        rw [← R.len]
        exact (List.getElem?_eq_some_iff.mp ha).1
      obtain ⟨a', ha', hA⟩ := R.row hil
      have : a' = a := Option.some.inj (ha'.symm.trans ha)
      subst this
      have rl : (rows.getD i []).length = w := hw i hil
      have hwi : ∀ j, j < i → (rows.getD j []).length = w := fun j hj => hw j (by omega)
      have tl := tog_len (x := pairs l) hwi
      have s4 : Same H1 (upd H1 T (.tup [.int (i : Nat), .ref a'])) := same_upd hT
      have s34 := s3.trans s4
      have i1 : 2 * i < l.length := by omega
      have i2 : 2 * i + 1 < l.length := by omega
      have sm2 : Small 2 := sz_small (k := 10) (by decide) (by decide)
      have smi : Small (i : Int) := sz_small (k := 10) (by decide) (by show i < 1024; omega)
      refine ⟨T, _, rfl, SqT.of upd_same, rfl, _, _, rfl, _, _, rfl, rfl, ?_⟩
      refine ⟨_, rfl, _, rfl, _, _, rfl, rfl, ⟨sm2, smi⟩, so, _, _, _, rfl, rfl, SqL.of (s34 _ _ hso), at_of (j := 2 * i) (by omega) (nats_at i1), ?_⟩
      refine ⟨_, rfl, _, rfl, _, _, rfl, rfl, ⟨sm2, smi⟩, _, _, rfl, rfl, so, _, _, _, rfl, rfl, SqL.of (s34 _ _ hso), at_of (j := 2 * i + 1) (by omega) (nats_at i2), _, _, rfl, rfl, ?_⟩
      have ep : (fun i j : Int => V.int (i - j)) (l.getD (2 * i) 0 : Int) (l.getD (2 * i + 1) 0 : Int) = V.int ((pairs l).getD i 0) := by
        rw [pairs_at i l i2]
      rw [ep]
      have bp : Small ((pairs l).getD i 0) := by
        rw [pairs_at i l i2]
        have q1 := hlb (l.getD (2 * i) 0) (by rw [getD_lt i1]; exact List.getElem_mem i1)
        have q2 := hlb (l.getD (2 * i + 1) 0) (by rw [getD_lt i2]; exact List.getElem_mem i2)
        refine sz_small (k := 10) (by decide) ?_
        show Int.natAbs _ < 1024
        omega
      refine ⟨_, rfl, _, rfl, m, a', _, _, rfl, SqL.of (s4 _ _ hm), SqL.of (s34 _ _ hA), fun D hD => ?_⟩
      refine lc_zip (K := K) (a := m) (b := a') (xs := (tog (pairs l) rows w i).map V.int) (ys := (rows.getD i []).map V.int) (by rw [List.length_map, List.length_map, rl, tl])
        (fun j H' => Same (upd H1 T (.tup [.int (i : Nat), .ref a'])) H' ∧ H' D = some (.lst (((tog (pairs l) rows w (i + 1)).take j).map V.int))) ?_ ?_ ?_ ?_
      · exact ⟨same_upd hD, by rw [upd_same]; simp⟩
      · rintro j H' _ ⟨s5, _⟩
        exact ⟨SqL.of (s5 _ _ (s4 _ _ hm)), SqL.of (s5 _ _ (s34 _ _ hA))⟩
      · rintro j x y H' U hx hy ⟨s5, hD'⟩ hU
        have hj : j < w := by
          have := (List.getElem?_eq_some_iff.mp hx).1
          rw [List.length_map, tl] at this
          exact this
        have ex := int_at (r := tog (pairs l) rows w i) (j := j) (by omega)
        have ey := int_at (r := rows.getD i []) (j := j) (by omega)
        rw [hx] at ex
        rw [hy] at ey
        cases ex
        cases ey
        have s6 : Same H' (upd H' U (.tup [.int (at_ (tog (pairs l) rows w i) j), .int (at_ (rows.getD i []) j)])) := same_upd hU
        have br : Small (at_ (rows.getD i []) j) := by
          refine sz_small (k := 10) (by decide) (hb _ ?_ j)
          rw [getD_lt hil]
          exact List.getElem_mem hil
        refine ⟨U, _, rfl, SqT.of upd_same, rfl, _, _, rfl, _, _, rfl, rfl, rfl, ?_⟩
        refine ⟨_, rfl, _, rfl, _, rfl, _, _, rfl, rfl, ⟨bp, br⟩, _, _, rfl, rfl, ?_⟩
        refine ⟨_, s6 _ _ hD', ?_, same_over (s5.trans s6) hD, ?_⟩
        · rw [List.length_map, List.length_take]
          have := tog_len (x := pairs l) (i := i + 1) (fun j hj => hw j (by omega))
          omega
        · rw [upd_same, take_snoc (tog_get hwi rl hj), List.map_append]
          rfl
      · rintro H' ⟨s5, hD'⟩
        have tl1 := tog_len (x := pairs l) (i := i + 1) (fun j hj => hw j (by omega))
        rw [List.length_map, tl] at hD'
        have : (tog (pairs l) rows w (i + 1)).take w = tog (pairs l) rows w (i + 1) := List.take_of_length_le (by rw [tl1]; exact Nat.le_refl _)
        rw [this] at hD'
        exact ⟨D, _, _, _, rfl, s34.trans s5, hD'⟩
    · rintro σ H1 ⟨m, v3, v4, v5, rfl, s3, hm⟩
      rw [al] at hm
      exact ⟨_, rfl, k _ m s3 hm⟩
/-! ### is_money_for_nothing -/
def spMoney : Sp := fun vs H Q _ => ∃ (q : Addr) (m : List Int) (c : Int), vs = [.ref q] ∧ H q = some (.lst ((m ++ [c]).map V.int)) ∧ 0 < m.length ∧ ∀ H', Same H H' → Q (.bl (okFree m c)) H'
theorem scMoney : FnScope ["made", "cost", "paid"] ["made"] (defScope sMoney) := ⟨rfl, rfl, rfl, by decide +kernel, rfl, by decide +kernel, by decide +kernel⟩
theorem ok_money {f : Addr} {fd : FuncData} (F : Fun K "is_money_for_nothing" "is_money_for_nothing" sMoney f fd) (hmn : mg "min" = none) (hmx : mg "max" = none) : FnOk P w K mg base CX0 1 f fd ["made"] spMoney := by
  refine F.ok scMoney (fun vs H Q E h => ?_) (fun cdv A outer s H vs Q E hr h => ?_)
  · obtain ⟨q, m, c, rfl, _⟩ := h
    rfl
  · obtain ⟨q, m, c, rfl, hq, h0, k⟩ := h
    refine ⟨_, pss_cons (ps_set (i := 1) scMoney.nd rfl (Or.inl rfl) (pe_ix ix_list (pv 0) (pe_un un_neg pe_int) (fun _ _ => rfl)))
      (pss_cons (ps_set (i := 2) scMoney.nd rfl (Or.inl rfl) (pe_slice sl_list (pv 0) po_none (po_some (pe_un un_neg pe_int))))
      (pss_one (ps_ret (pe_and (pe_cmpR op_le (pv 1) pe_int (nomark _)) (pe_and (pe_cmpR op_ge (pe_callB (cr_min rfl) (by rfl) hmn PyProof.Rows.boot_min (pa_cons (pv 2) pa_nil)) pe_int (nomark _))
        (pe_one (pe_or (pe_cmpR op_lt (pv 1) pe_int (nomark _)) (pe_one (pe_cmpR op_gt (pe_callB (cr_max rfl) (by rfl) hmx PyProof.Rows.boot_max (pa_cons (pv 2) pa_nil)) pe_int (nomark _)))))))))), ?_⟩
    have em : (m ++ [c]).map V.int = m.map V.int ++ [.int c] := by rw [List.map_append]; rfl
    rw [em] at hq
    refine ⟨_, rfl, _, rfl, q, _, _, .int c, rfl, rfl, SqL.of hq, atI_last _ _, ?_⟩
    refine ⟨_, rfl, _, rfl, -1, rfl, q, _, rfl, SqL.of hq, fun p hp => ?_⟩
    rw [cut_init]
    have s1 := same_upd (o := .lst (m.map V.int)) hp
    have k1 := k _ s1
    unfold okFree at k1
    refine ⟨_, rfl, _, _, rfl, rfl, _, rfl, ?_⟩
    refine ite2 (fun hc => ?_) (fun hc => ?_)
    · rw [hc, Bool.true_and] at k1
      refine ⟨_, rfl, p, m, rfl, SqL.of upd_same, h0, fun x hx hall => ?_⟩
      refine ⟨_, _, rfl, rfl, _, rfl, ?_⟩
      refine ite2 (fun hd => ?_) (fun hd => ?_)
      · have hx0 : 0 ≤ x := of_decide_eq_true hd
        have ea : m.all (fun y => decide (0 ≤ y)) = true := List.all_eq_true.mpr fun y hy => decide_eq_true (Int.le_trans hx0 (hall y hy))
        rw [ea, Bool.true_and] at k1
        refine ⟨_, rfl, _, _, rfl, rfl, _, rfl, ?_⟩
        refine ite2 (fun he => ?_) (fun he => ?_)
        · rw [he, Bool.true_or] at k1
          exact k1
        · have he' : decide (c < 0) = false := by simpa using he
          rw [he', Bool.false_or] at k1
          refine ⟨_, rfl, p, m, rfl, SqL.of upd_same, h0, fun u hu hup => ?_⟩
          refine ⟨_, _, rfl, rfl, ?_⟩
          have eu : (m.any fun y => decide (0 < y)) = decide (0 < u) := by
            rw [Bool.eq_iff_iff, List.any_eq_true, decide_eq_true_iff]
            constructor
            · rintro ⟨y, hy, h⟩
              exact Int.lt_of_lt_of_le (of_decide_eq_true h) (hup y hy)
            · exact fun h => ⟨u, hu, decide_eq_true h⟩
          rw [eu] at k1
          exact k1
      · have ea : m.all (fun y => decide (0 ≤ y)) = false := by
          rw [Bool.eq_false_iff]
          intro h
          exact hd (List.all_eq_true.mp h x hx)
        rw [ea, Bool.false_and] at k1
        exact k1
    · have hc' : decide (c ≤ 0) = false := by simpa using hc
      rw [hc', Bool.false_and] at k1
      exact k1
/-! ### free -/
theorem okX_iff {a : Abs} {l : List Nat} (h : a.okX l = true) : l.length = 2 * (a.things.length + 1) ∧ ∀ x, x ∈ l → x ≤ 1000 := by
  unfold Abs.okX at h
  rw [Bool.and_eq_true, List.all_eq_true] at h
  exact ⟨by simpa using h.1, fun x hx => of_decide_eq_true (h.2 x hx)⟩
theorem tog_made {a : Abs} (g : Good a) (x : List Int) : tog x (full a) (a.n + 1) (full a).length = a.pays x ++ [a.cost x] := by
  rw [← made_eq g, full_length, ← rows_length]
  rfl
def spFree (CD CT : Addr) : Sp := fun vs H Q _ => ∃ (d lt z q : Addr) (a : Abs) (l : List Nat), vs = [.ref d, .ref q] ∧ DayA CD CT z H d lt a ∧ H q = some (.lst (natsV l)) ∧ l.length < 100 ∧ SaidP H (ansL (does a (.free l)).2) Q
theorem scFree : FnScope ["self", "some", "made"] ["self", "some"] (defScope sFree) := ⟨rfl, rfl, rfl, by decide +kernel, rfl, by decide +kernel, by decide +kernel⟩
theorem ok_free {f fs fr ft fm : Addr} {fd fds fdr fdt fdm : FuncData} (F : Fun K "free" "Day.free" sFree f fd) (T : Txt K mg CD CT)
    (Gs : FnOk P w K mg base CX0 1 fs fds ["self", "numbers"] (spIsSome CD CT)) (mS : Meth K CD "is_some" fs) (bs : Binds K fds ["self", "numbers"] [])
    (Gr : FnOk P w K mg base CX0 1 fr fdr ["self"] (spRows CD CT)) (mR : Meth K CD "rows" fr) (br : Binds K fdr ["self"] [])
    (kt : PySem.W.keepIn K (.ref ft) = true) (Gt : FnOk P w K mg base CX0 1 ft fdt ["rows", "some"] spTogether) (mt : mg "together" = some (.ref ft)) (bt : Binds K fdt ["rows", "some"] [])
    (km : PySem.W.keepIn K (.ref fm) = true) (Gm : FnOk P w K mg base CX0 1 fm fdm ["made"] spMoney) (mm : mg "is_money_for_nothing" = some (.ref fm)) (bm : Binds K fdm ["made"] []) :
    FnOk P w K mg base CX0 2 f fd ["self", "some"] (spFree CD CT) := by
  refine F.ok scFree (fun vs H Q E h => ?_) (fun cdv A outer s H vs Q E hr h => ?_)
  · obtain ⟨d, lt, z, q, a, l, rfl, _⟩ := h
    rfl
  · obtain ⟨d, lt, z, q, a, l, rfl, D, hq, hl, k⟩ := h
    have big := line_big
    obtain ⟨dx, as, h1, h2, h3⟩ := D.ex
    have h4 := D.fine.good.four
    have ht2 := D.fine.good.two
    have hn1 := D.fine.good.one
    refine ⟨_, pss_cons (ps_if (pt_not (pt_val (pe_meth (pv 0) T.clD mS Gs hr bs .nil pass0 (pa_cons (pv 1) pa_nil)))) (pss_one (ps_ret (pe_lst (pa_cons (pe_num T.mRange) pa_nil)))) pss_nil)
      (pss_cons (ps_set (i := 2) scFree.nd rfl (Or.inl rfl) (pe_call Gt hr rfl mt kt bt .nil pass0 (pa_cons (pe_meth0 (pv 0) T.clD mR Gr hr br .nil pass0) (pa_cons (pv 1) pa_nil))))
      (pss_one (ps_ret (pe_lst (pa_cons (pe_ifExp (pt_val (pe_call Gm hr rfl mm km bm .nil pass0 (pa_cons (pv 2) pa_nil))) pe_int pe_int) (pa_cons (pe_ix ix_list (pv 2) (pe_un un_neg pe_int) (fun _ _ => rfl)) pa_nil)))))), ?_⟩
    refine ⟨_, rfl, d, dx, _, rfl, h1, rfl, _, rfl, d, lt, z, q, a, l, rfl, D, hq, hl, fun H1 s1 => ⟨_, rfl, ?_⟩⟩
    cases hok : a.okX l with
    | false =>
      refine ite2 (fun _ => ?_) (fun h => absurd rfl h)
      have e : ansL (does a (.free l)).2 = [-22] := by simp only [does, if_pos hok]; rfl
      rw [e] at k
      exact k.back s1
    | true =>
      refine ite2 (fun h => absurd h (by decide)) (fun _ => ?_)
      have hok' : ¬ a.okX l = false := by rw [hok]; decide
      obtain ⟨ol, ob⟩ := okX_iff hok
      have e : ansL (does a (.free l)).2 = [((bit (a.free (pairs l)) : Nat) : Int), a.cost (pairs l)] := by
        simp only [does, if_neg hok']
        rfl
      rw [e] at k
      refine ⟨_, rfl, d, dx, _, rfl, s1 _ _ h1, rfl, d, lt, z, a, rfl, D.mono s1, fun H2 r rs s2 hr2 nr nrs RR => ?_⟩
      have s12 := s1.trans s2
      refine ⟨_, rfl, r, q, rs, full a, a.n + 1, l, rfl, hr2, RR, full_wide D.fine.good, by rw [full_length]; omega, by rw [full_length]; omega, by omega, full_bd D.fine, s12 _ _ hq, by rw [full_length]; exact ol, ob, fun H3 m s3 hm => ?_⟩
      rw [tog_made D.fine.good] at hm
      have s13 := s12.trans s3
      refine ⟨_, rfl, m, a.pays (pairs l), a.cost (pairs l), rfl, hm, by rw [pays_len]; exact hn1, fun H4 s4 => ?_⟩
      rw [← free_eq]
      refine ⟨_, rfl, ?_⟩
      have hm4 := s4 _ _ hm
      rw [List.map_append] at hm4
      have s14 := s13.trans s4
      cases hf : a.free (pairs l) with
      | true =>
        rw [hf] at k
        refine ite2 (fun _ => ?_) (fun h => absurd rfl h)
        refine ⟨_, rfl, _, rfl, m, _, _, .int (a.cost (pairs l)), rfl, rfl, SqL.of hm4, atI_last _ _, (by show 2 ≤ sizeLine; omega), fun t ht => ?_⟩
        exact k _ t (s14.trans (same_upd ht)) upd_same (s14.free ht)
      | false =>
        rw [hf] at k
        refine ite2 (fun h => absurd h (by decide)) (fun _ => ?_)
        refine ⟨_, rfl, _, rfl, m, _, _, .int (a.cost (pairs l)), rfl, rfl, SqL.of hm4, atI_last _ _, (by show 2 ≤ sizeLine; omega), fun t ht => ?_⟩
        exact k _ t (s14.trans (same_upd ht)) upd_same (s14.free ht)
/-! ### pays -/
def spPays (CD CT : Addr) : Sp := fun vs H Q _ => ∃ (d lt z q : Addr) (a : Abs) (l : List Nat), vs = [.ref d, .ref q] ∧ DayA CD CT z H d lt a ∧ H q = some (.lst (natsV l)) ∧ l.length < 100 ∧ SaidP H (ansL (does a (.pays l)).2) Q
theorem scPays : FnScope ["self", "some", "made"] ["self", "some"] (defScope sPays) := ⟨rfl, rfl, rfl, by decide +kernel, rfl, by decide +kernel, by decide +kernel⟩
theorem ok_pays {f fs fr ft : Addr} {fd fds fdr fdt : FuncData} (F : Fun K "pays" "Day.pays" sPays f fd) (T : Txt K mg CD CT)
    (Gs : FnOk P w K mg base CX0 1 fs fds ["self", "numbers"] (spIsSome CD CT)) (mS : Meth K CD "is_some" fs) (bs : Binds K fds ["self", "numbers"] [])
    (Gr : FnOk P w K mg base CX0 1 fr fdr ["self"] (spRows CD CT)) (mR : Meth K CD "rows" fr) (br : Binds K fdr ["self"] [])
    (kt : PySem.W.keepIn K (.ref ft) = true) (Gt : FnOk P w K mg base CX0 1 ft fdt ["rows", "some"] spTogether) (mt : mg "together" = some (.ref ft)) (bt : Binds K fdt ["rows", "some"] []) :
    FnOk P w K mg base CX0 2 f fd ["self", "some"] (spPays CD CT) := by
  refine F.ok scPays (fun vs H Q E h => ?_) (fun cdv A outer s H vs Q E hr h => ?_)
  · obtain ⟨d, lt, z, q, a, l, rfl, _⟩ := h
    rfl
  · obtain ⟨d, lt, z, q, a, l, rfl, D, hq, hl, k⟩ := h
    have big := line_big
    obtain ⟨dx, as, h1, h2, h3⟩ := D.ex
    have h4 := D.fine.good.four
    have ht2 := D.fine.good.two
    refine ⟨_, pss_cons (ps_if (pt_not (pt_val (pe_meth (pv 0) T.clD mS Gs hr bs .nil pass0 (pa_cons (pv 1) pa_nil)))) (pss_one (ps_ret (pe_lst (pa_cons (pe_num T.mRange) pa_nil)))) pss_nil)
      (pss_cons (ps_set (i := 2) scPays.nd rfl (Or.inl rfl) (pe_call Gt hr rfl mt kt bt .nil pass0 (pa_cons (pe_meth0 (pv 0) T.clD mR Gr hr br .nil pass0) (pa_cons (pv 1) pa_nil))))
      (pss_one (ps_ret (pe_op op_cat (pe_lst (pa_cons (pe_fld (pv 0) rfl) (pa_cons (pe_ix ix_list (pv 2) (pe_un un_neg pe_int) (fun _ _ => rfl)) pa_nil))) (pe_slice sl_list (pv 2) po_none (po_some (pe_un un_neg pe_int))))))), ?_⟩
    refine ⟨_, rfl, d, dx, _, rfl, h1, rfl, _, rfl, d, lt, z, q, a, l, rfl, D, hq, hl, fun H1 s1 => ⟨_, rfl, ?_⟩⟩
    cases hok : a.okX l with
    | false =>
      refine ite2 (fun _ => ?_) (fun h => absurd rfl h)
      have e : ansL (does a (.pays l)).2 = [-22] := by simp only [does, if_pos hok]; rfl
      rw [e] at k
      exact k.back s1
    | true =>
      refine ite2 (fun h => absurd h (by decide)) (fun _ => ?_)
      have hok' : ¬ a.okX l = false := by rw [hok]; decide
      obtain ⟨ol, ob⟩ := okX_iff hok
      have e : ansL (does a (.pays l)).2 = [(a.n : Int), a.cost (pairs l)] ++ a.pays (pairs l) := by
        simp only [does, if_neg hok']
        rfl
      rw [e] at k
      refine ⟨_, rfl, d, dx, _, rfl, s1 _ _ h1, rfl, d, lt, z, a, rfl, D.mono s1, fun H2 r rs s2 hr2 nr nrs RR => ?_⟩
      have s12 := s1.trans s2
      refine ⟨_, rfl, r, q, rs, full a, a.n + 1, l, rfl, hr2, RR, full_wide D.fine.good, by rw [full_length]; omega, by rw [full_length]; omega, by omega, full_bd D.fine, s12 _ _ hq, by rw [full_length]; exact ol, ob, fun H3 m s3 hm => ?_⟩
      rw [tog_made D.fine.good, List.map_append] at hm
      have s13 := s12.trans s3
      have pl := pays_len a (pairs l)
      refine ⟨_, rfl, d, CD, dx, _, _, rfl, s13 _ _ h1, T.clD, T.nW, rfl, _, rfl, _, rfl, m, _, _, .int (a.cost (pairs l)), rfl, rfl, SqL.of hm, atI_last _ _, (by show 2 ≤ sizeLine; omega), fun b1 hb1 => ?_⟩
      have s4 := same_upd (o := .lst [.int (a.n : Int), .int (a.cost (pairs l))]) hb1
      refine ⟨_, rfl, _, rfl, -1, rfl, m, _, rfl, SqL.of (s4 _ _ hm), fun b2 hb2 => ?_⟩
      have ci := cut_init ((a.pays (pairs l)).map V.int) (.int (a.cost (pairs l)))
      have ci : cutV ((a.pays (pairs l)).map V.int ++ [a.cost (pairs l)].map V.int) none (some (-1)) = (a.pays (pairs l)).map V.int := ci
      rw [ci]
      have s5 := same_upd (o := .lst ((a.pays (pairs l)).map V.int)) hb2
      refine ⟨b1, b2, _, _, rfl, rfl, s5 _ _ upd_same, upd_same, (by rw [List.length_map, pl]; show 2 + a.n ≤ sizeLine; omega), fun t ht => ?_⟩
      have s15 := (s13.trans s4).trans s5
      refine k _ t (s15.trans (same_upd ht)) ?_ (s15.free ht)
      rw [upd_same, List.map_append]
      rfl
end
end DA
set_option Elab.async false
set_option maxRecDepth 100000
set_option maxHeartbeats 2000000
namespace DA
open PySem PySem.Spec PyProof.Rows L2
open Su109 (Abs)
/-! ### what the top has written -/
def GF (K : PySem.W.Frag) (x : Str) (st : Stmt) : Prop := ∃ f fd, Fun K x x st f fd ∧ PySem.W.nsIn K mainGlobals x = some (some (.ref f))
theorem gf_mk {K : PySem.W.Frag} {x : Str} {st : Stmt} {f : Addr} {oc : Value} {od an : Option Addr} {sl : Array (Option Value)} {kV dc pm cd ct : Value}
    (a : PySem.W.nsIn K mainGlobals x = some (some (.ref f))) (l : K.lookup f = some ⟨oc, od, .func (PySem.W.fnOf x x (defArgs st) (defBody st) (defScope st) .none kV dc pm an cd ct), sl⟩) (c : PySem.W.codeIn K cd x = true) (k : PySem.W.keepIn K (.ref f) = true) : GF K x st :=
  ⟨f, _, fun_mk l c k, a⟩
def MF (K : PySem.W.Frag) (C : Addr) (x qual : Str) (st : Stmt) : Prop := ∃ f fd, Fun K x qual st f fd ∧ PySem.W.findIn K (.ref C) x = some (some (.ref f)) ∧ PySem.W.isFn K (.ref f) = true
theorem mf_mk {K : PySem.W.Frag} {C : Addr} {x qual : Str} {st : Stmt} {f : Addr} {oc : Value} {od an : Option Addr} {sl : Array (Option Value)} {kV dc pm cd ct : Value}
    (a : PySem.W.findIn K (.ref C) x = some (some (.ref f))) (i : PySem.W.isFn K (.ref f) = true) (l : K.lookup f = some ⟨oc, od, .func (PySem.W.fnOf x qual (defArgs st) (defBody st) (defScope st) .none kV dc pm an cd ct), sl⟩) (c : PySem.W.codeIn K cd qual = true) (k : PySem.W.keepIn K (.ref f) = true) : MF K C x qual st :=
  ⟨f, _, fun_mk l c k, a, i⟩
structure CF (K : PySem.W.Frag) (x : Str) (C : Addr) : Prop where
  ns : PySem.W.nsIn K mainGlobals x = some (some (.ref C))
  pg : PySem.W.plainGet K C Str.empty = true
  hd : PySem.W.hasDictIn K C = true
  po : PySem.W.plainOver K C = true
  sa : PySem.W.findIn K (.ref C) "__setattr__" = some (some (.builtin "object.__setattr__"))
  mks : PySem.W.makesIn K C = true
  kc : PySem.W.keepIn K (.ref C) = true
def NF (K : PySem.W.Frag) (x : Str) (i : Int) : Prop := ∃ t, PySem.W.nsIn K mainGlobals x = some (some (.int i t))
theorem nf_mk {K : PySem.W.Frag} {x : Str} {i : Int} {t : Tok} (a : PySem.W.nsIn K mainGlobals x = some (some (.int i t))) : NF K x i := ⟨t, a⟩
def BF (K : PySem.W.Frag) (x : Str) : Prop := PySem.W.nsIn K mainGlobals x = some none
/-- a function of the text, ready to be called -/
def FO (P : Program) (w : World) (K : PySem.W.Frag) (mg : Str → Option Value) (base : Heap) (x : Str) (k : Nat) (ps : List Str) (sp : Sp) : Prop :=
  ∃ f fd, PySem.W.keepIn K (.ref f) = true ∧ FnOk P w K mg base CX0 k f fd ps sp ∧ mg x = some (.ref f) ∧ Binds K fd ps []
/-- a method, ready to be called -/
def MO (P : Program) (w : World) (K : PySem.W.Frag) (mg : Str → Option Value) (base : Heap) (C : Addr) (x : Str) (k : Nat) (ps : List Str) (sp : Sp) : Prop :=
  ∃ f fd, FnOk P w K mg base CX0 k f fd ps sp ∧ Meth K C x f ∧ Binds K fd ps []
section
variable {P : Program} {w : World} {K : PySem.W.Frag} {mg : Str → Option Value} {base h : Heap} {CD CT : Addr}
/-- the fractions and the corners -/
structure Low (P : Program) (w : World) (K : PySem.W.Frag) (mg : Str → Option Value) (base : Heap) : Prop where
  ratio : FO P w K mg base "ratio" 2 ["above", "below"] spRatio
  less : FO P w K mg base "is_less" 1 ["one", "other"] (spLess K)
  find : FO P w K mg base "find_corners" 5 ["rows", "count"] spFind
  fair : FO P w K mg base "are_fair" 1 ["corners", "count"] spFair
  least : FO P w K mg base "least_and_greatest" 5 ["corners", "pays"] spLeast
  tog : FO P w K mg base "together" 1 ["rows", "some"] spTogether
  money : FO P w K mg base "is_money_for_nothing" 1 ["made"] spMoney
theorem low_ok (X : K.In h) (G : h.Ns mainGlobals mg) (g1 : GF K "common_part" sCommon) (g2 : GF K "ratio" sRatio) (g3 : GF K "add" sAdd) (g4 : GF K "times" sTimes) (g5 : GF K "is_less" sLess) (g6 : GF K "choices" sChoices)
    (g7 : GF K "pivot_row" sPivot) (g8 : GF K "cleared" sCleared) (g9 : GF K "solved" sSolved) (g10 : GF K "narrowed" sNarrowed) (g11 : GF K "corner_on" sCorner) (g12 : GF K "find_corners" sFind) (g13 : GF K "are_fair" sFair)
    (g14 : GF K "worth_by" sWorth) (g15 : GF K "least_and_greatest" sLeast) (g16 : GF K "together" sTogether) (g17 : GF K "is_money_for_nothing" sMoney) (b1 : BF K "abs") (b2 : BF K "range") (b3 : BF K "len") (b4 : BF K "enumerate") (b5 : BF K "zip") (b6 : BF K "list") (b7 : BF K "any") (b8 : BF K "min") (b9 : BF K "max") (base : Heap) : Low P w K mg base := by
  have n1 := PySem.W.mg_none_of X G b1
  have n2 := PySem.W.mg_none_of X G b2
  have n3 := PySem.W.mg_none_of X G b3
  have n4 := PySem.W.mg_none_of X G b4
  have n5 := PySem.W.mg_none_of X G b5
  have n6 := PySem.W.mg_none_of X G b6
  have n7 := PySem.W.mg_none_of X G b7
  have n8 := PySem.W.mg_none_of X G b8
  have n9 := PySem.W.mg_none_of X G b9
  obtain ⟨f1, d1, F1, a1⟩ := g1
  obtain ⟨f2, d2, F2, a2⟩ := g2
  obtain ⟨f3, d3, F3, a3⟩ := g3
  obtain ⟨f4, d4, F4, a4⟩ := g4
  obtain ⟨f5, d5, F5, a5⟩ := g5
  obtain ⟨f6, d6, F6, a6⟩ := g6
  obtain ⟨f7, d7, F7, a7⟩ := g7
  obtain ⟨f8, d8, F8, a8⟩ := g8
  obtain ⟨f9, d9, F9, a9⟩ := g9
  obtain ⟨f10, d10, F10, a10⟩ := g10
  obtain ⟨f11, d11, F11, a11⟩ := g11
  obtain ⟨f12, d12, F12, a12⟩ := g12
  obtain ⟨f13, d13, F13, a13⟩ := g13
  obtain ⟨f14, d14, F14, a14⟩ := g14
  obtain ⟨f15, d15, F15, a15⟩ := g15
  obtain ⟨f16, d16, F16, a16⟩ := g16
  obtain ⟨f17, d17, F17, a17⟩ := g17
  have i1 := F1.binds (ps := ["a", "b"]) fun _ _ _ _ _ _ us hl => match us, hl with | [_, _], _ => rfl
  have i2 := F2.binds (ps := ["above", "below"]) fun _ _ _ _ _ _ us hl => match us, hl with | [_, _], _ => rfl
  have i3 := F3.binds (ps := ["one", "other"]) fun _ _ _ _ _ _ us hl => match us, hl with | [_, _], _ => rfl
  have i4 := F4.binds (ps := ["number", "one"]) fun _ _ _ _ _ _ us hl => match us, hl with | [_, _], _ => rfl
  have i5 := F5.binds (ps := ["one", "other"]) fun _ _ _ _ _ _ us hl => match us, hl with | [_, _], _ => rfl
  have i6 := F6.binds (ps := ["count"]) fun _ _ _ _ _ _ us hl => match us, hl with | [_], _ => rfl
  have i7 := F7.binds (ps := ["rows", "column"]) fun _ _ _ _ _ _ us hl => match us, hl with | [_, _], _ => rfl
  have i8 := F8.binds (ps := ["rows", "column"]) fun _ _ _ _ _ _ us hl => match us, hl with | [_, _], _ => rfl
  have i9 := F9.binds (ps := ["rows", "count"]) fun _ _ _ _ _ _ us hl => match us, hl with | [_, _], _ => rfl
  have i10 := F10.binds (ps := ["row", "chosen"]) fun _ _ _ _ _ _ us hl => match us, hl with | [_, _], _ => rfl
  have i11 := F11.binds (ps := ["rows", "chosen", "count"]) fun _ _ _ _ _ _ us hl => match us, hl with | [_, _, _], _ => rfl
  have i12 := F12.binds (ps := ["rows", "count"]) fun _ _ _ _ _ _ us hl => match us, hl with | [_, _], _ => rfl
  have i13 := F13.binds (ps := ["corners", "count"]) fun _ _ _ _ _ _ us hl => match us, hl with | [_, _], _ => rfl
  have i14 := F14.binds (ps := ["prices", "pays"]) fun _ _ _ _ _ _ us hl => match us, hl with | [_, _], _ => rfl
  have i15 := F15.binds (ps := ["corners", "pays"]) fun _ _ _ _ _ _ us hl => match us, hl with | [_, _], _ => rfl
  have i16 := F16.binds (ps := ["rows", "some"]) fun _ _ _ _ _ _ us hl => match us, hl with | [_, _], _ => rfl
  have i17 := F17.binds (ps := ["made"]) fun _ _ _ _ _ _ us hl => match us, hl with | [_], _ => rfl
  have m : ∀ {x : Str} {f : Addr}, PySem.W.nsIn K mainGlobals x = some (some (.ref f)) → mg x = some (.ref f) := fun a => PySem.W.mg_of X G a
  have O2 : FnOk P w K mg base CX0 2 f2 d2 _ spRatio := ok_ratio F2 F1 n1 (m a1) i1
  have O3 : FnOk P w K mg base CX0 3 f3 d3 _ (spAdd K) := ok_add F3 F2.kp O2 (m a2) i2
  have O4 : FnOk P w K mg base CX0 3 f4 d4 _ (spTimes K) := ok_times F4 F2.kp O2 (m a2) i2
  have O5 : FnOk P w K mg base CX0 1 f5 d5 _ (spLess K) := ok_less F5
  have O6 : FnOk P w K mg base CX0 1 f6 d6 _ spChoices := ok_choices F6 n2
  have O7 : FnOk P w K mg base CX0 1 f7 d7 _ spPivot := ok_pivot F7 n2 n3
  have O8 : FnOk P w K mg base CX0 1 f8 d8 _ spCleared := ok_cleared F8 n4 n5
  have O9 : FnOk P w K mg base CX0 3 f9 d9 _ spSolved := ok_solved F9 n6 n2 F7.kp O7 (m a7) i7 F8.kp O8 (m a8) i8 F2.kp O2 (m a2) i2
  have O10 : FnOk P w K mg base CX0 1 f10 d10 _ spNarrowed := ok_narrowed F10
  have O11 : FnOk P w K mg base CX0 4 f11 d11 _ spCorner := ok_corner F11 n3 n5 F9.kp O9 (m a9) i9 F10.kp O10 (m a10) i10
  have O12 : FnOk P w K mg base CX0 5 f12 d12 _ spFind := ok_find F12 F6.kp O6 (m a6) i6 F11.kp O11 (m a11) i11
  have O13 : FnOk P w K mg base CX0 1 f13 d13 _ spFair := ok_fair F13 n2 n7
  have O14 : FnOk P w K mg base CX0 4 f14 d14 _ spWorth := ok_worth F14 n5 F3.kp O3 (m a3) i3 F4.kp O4 (m a4) i4
  have O15 : FnOk P w K mg base CX0 5 f15 d15 _ spLeast := ok_least F15 F14.kp O14 (m a14) i14 F5.kp O5 (m a5) i5
  have O16 : FnOk P w K mg base CX0 1 f16 d16 _ spTogether := ok_together F16 n3 n4 n5
  have O17 : FnOk P w K mg base CX0 1 f17 d17 _ spMoney := ok_money F17 n8 n9
  exact ⟨⟨f2, d2, F2.kp, O2, m a2, i2⟩, ⟨f5, d5, F5.kp, O5, m a5, i5⟩, ⟨f12, d12, F12.kp, O12, m a12, i12⟩, ⟨f13, d13, F13.kp, O13, m a13, i13⟩, ⟨f15, d15, F15.kp, O15, m a15, i15⟩, ⟨f16, d16, F16.kp, O16, m a16, i16⟩, ⟨f17, d17, F17.kp, O17, m a17, i17⟩⟩
end
end DA
set_option Elab.async false
set_option maxRecDepth 100000
set_option maxHeartbeats 2000000
namespace DA
open PySem PySem.Spec PyProof.Rows L2
open Su109 (Abs)
abbrev sHasRow : Stmt := top 53
abbrev sAnswers : Stmt := top 58
/-- a tuple of the module -/
def TF (K : PySem.W.Frag) (x : Str) (xs : List V) : Prop := ∃ a, PySem.W.nsIn K mainGlobals x = some (some (.ref a)) ∧ ∀ H, SqT K H a xs
theorem tf_mk {K : PySem.W.Frag} {x : Str} {xs : List V} {a : Addr} {oc : Value} {od : Option Addr} {its : Array Value} {n : Nat} {sl : Array (Option Value)} (ns : PySem.W.nsIn K mainGlobals x = some (some (.ref a)))
    (l : K.lookup a = some ⟨oc, od, .seq its n, sl⟩) (hc : oc = .type "tuple") (hz : its.size ≤ sizeLine) (r : Vals xs its.toList) : TF K x xs :=
  ⟨a, ns, fun _ => .inr ⟨_, its, n, l, hc, rfl, hz, r⟩⟩
theorem pe_gref {X : Cx} {x : Str} {a : Addr} {pos : Pos} (h : X.mg x = some (.ref a)) (hg : Gl X x := by rfl) (hd : (x == ("__debug__" : Str)) = false := by decide) : PE X (.Name x pos) (tC (.ref a)) := pe_glob hg h rfl hd
/-- what is handed in -/
def ArgAt (K : PySem.W.Frag) (H : Hp) (a : Addr) (xs : List V) : Prop := (∃ o, H a = some (.frz o (.lst xs))) ∨ ∃ (o : Obj) (its : Array Value) (n : Nat), K.lookup a = some o ∧ o.cls = .type "list" ∧ o.dict = none ∧ o.data = .seq its n ∧ its.size ≤ sizeLine ∧ Vals xs its.toList
theorem ArgAt.sq {K : PySem.W.Frag} {H : Hp} {a : Addr} {xs : List V} (h : ArgAt K H a xs) : SqL K H a xs := by
  rcases h with ⟨o, h⟩ | h
  · exact .inl (.inr ⟨o, h⟩)
  · exact .inr h
theorem ArgAt.keep {K : PySem.W.Frag} {H H' : Hp} {a : Addr} {xs : List V} (h : ArgAt K H a xs) (k : ∀ b o u, H b = some (.frz o u) → H' b = some (.frz o u)) : ArgAt K H' a xs := by
  rcases h with ⟨o, h⟩ | h
  · exact .inl ⟨o, k _ _ _ h⟩
  · exact .inr h
theorem ArgAt.mono {K : PySem.W.Frag} {H H' : Hp} {a : Addr} {xs : List V} (h : ArgAt K H a xs) (s : Same H H') : ArgAt K H' a xs := h.keep fun _ _ _ e => s _ _ e
/-- the parts of a call as the flat list has them -/
structure CallAt (p : Int) (plain row : List Int) (c : List (List Int)) : Prop where
  sh : ∃ n k, PySu109.shape p = some (n, k) ∧ plain.length = n ∧ ((k = 0 ∧ row = [] ∧ c = [p :: plain]) ∨ (k = 1 ∧ c = [p :: plain, row]))
  nn : ∀ x, x ∈ plain ++ row → 0 ≤ x
  ok : PyInside.call PySu109.bound c = true
def spAnswered (CD CT : Addr) : Sp := fun vs H Q _ => ∃ (d lt z pl ro : Addr) (st : Option Abs) (p : Int) (plain row : List Int) (c : List (List Int)), vs = [.ref d, .int p, .ref pl, .ref ro] ∧ H pl = some (.lst (plain.map V.int)) ∧ H ro = some (.lst (row.map V.int)) ∧
  DayS CD CT z H d lt st ∧ CallAt p plain row c ∧ Said CD CT z H d lt (nstep st c).1 (nstep st c).2 Q
def plainT : List V := [3, 1, 1, 2, 0, 0, 0, 2, 0, 2, 2, 0, 1, 0, 0, 2, 1, 0, 0].map V.int
def rowN : List V := [1, 6, 7, 8, 13, 14].map V.int
/-- the table says what the shape says -/
theorem tables {p : Int} {n k : Nat} (h : PySu109.shape p = some (n, k)) : ∃ q : Nat, p = (q : Int) ∧ plainT[q]? = some (.int (n : Int)) ∧ inV (.int p) rowN = decide (k = 1) ∧ (k = 0 ∨ k = 1) := by
  obtain ⟨q, rfl, hq⟩ := shape_in h
  refine ⟨q, rfl, ?_⟩
  have : q = 0 ∨ q = 1 ∨ q = 2 ∨ q = 3 ∨ q = 4 ∨ q = 5 ∨ q = 6 ∨ q = 7 ∨ q = 8 ∨ q = 9 ∨ q = 10 ∨ q = 11 ∨ q = 12 ∨ q = 13 ∨ q = 14 ∨ q = 15 ∨ q = 16 ∨ q = 17 ∨ q = 18 := by omega
  rcases this with e | e | e | e | e | e | e | e | e | e | e | e | e | e | e | e | e | e | e <;> subst e <;> cases h <;> exact ⟨rfl, rfl, by decide⟩
theorem cut_mid (xs : List V) {i j : Nat} (hij : i ≤ j) (hj : j ≤ xs.length) : cutV xs (some (i : Int)) (some (j : Int)) = (xs.drop i).take (j - i) := by
  unfold cutV
  rw [HT.sIx_nat, HT.sIx_nat, Nat.min_eq_left hj, Nat.min_eq_left (show i ≤ xs.length by omega)]
theorem cut_midI (xs : List V) {x y : Int} {i j : Nat} (hx : x = (i : Int)) (hy : y = (j : Int)) (hij : i ≤ j) (hj : j ≤ xs.length) : cutV xs (some x) (some y) = (xs.drop i).take (j - i) := by
  subst hx hy
  exact cut_mid xs hij hj
theorem drop_map_take (ns : List Int) (i n : Nat) : ((ns.map V.int).drop i).take n = ((ns.drop i).take n).map V.int := by
  rw [List.map_take, List.map_drop]
/-- one call of the flat list, by places -/
theorem next_call {ns : List Int} {i f : Nat} {raw : List (List (List Int))} (hi : i < ns.length) (hnn : ∀ x, x ∈ ns → 0 ≤ x) (h : PyFlat.calls PySu109.shape f (ns.drop i) = some raw) (hb : PyInside.calls PySu109.bound raw = true) :
    ∃ (p : Int) (n k : Nat) (c : List (List Int)) (raw' : List (List (List Int))) (f' : Nat), ns[i]? = some p ∧ PySu109.shape p = some (n, k) ∧ i + 1 + n ≤ ns.length ∧ raw = c :: raw' ∧ PyInside.calls PySu109.bound raw' = true ∧
      ((k = 0 ∧ CallAt p ((ns.drop (i + 1)).take n) [] c ∧ PyFlat.calls PySu109.shape f' (ns.drop (i + 1 + n)) = some raw') ∨
       (k = 1 ∧ ∃ m : Nat, ns[i + 1 + n]? = some (m : Int) ∧ i + 1 + n + 1 + m ≤ ns.length ∧ CallAt p ((ns.drop (i + 1)).take n) ((ns.drop (i + 1 + n + 1)).take m) c ∧ PyFlat.calls PySu109.shape f' (ns.drop (i + 1 + n + 1 + m)) = some raw')) := by
  have ed : ns.drop i = ns[i] :: ns.drop (i + 1) := List.drop_eq_getElem_cons hi
  rw [ed] at h
  obtain ⟨n, k, xs, t, cs', f', h1, h2, h3, h4, h5⟩ := calls_next h
  subst h4
  have hb' : PyInside.call PySu109.bound ((ns[i] :: (ns.drop (i + 1)).take n) :: xs) = true ∧ PyInside.calls PySu109.bound cs' = true := by
    have : (PyInside.call PySu109.bound ((ns[i] :: (ns.drop (i + 1)).take n) :: xs) && PyInside.calls PySu109.bound cs') = true := hb
    rw [Bool.and_eq_true] at this
    exact this
  rw [List.length_drop] at h2
  rw [List.drop_drop] at h3
  have pl : ((ns.drop (i + 1)).take n).length = n := by rw [List.length_take, List.length_drop]; omega
  have nn1 : ∀ x, x ∈ (ns.drop (i + 1)).take n → 0 ≤ x := fun x hx => hnn x (List.mem_of_mem_drop (List.mem_of_mem_take hx))
  refine ⟨ns[i], n, k, _, cs', f', List.getElem?_eq_getElem hi, h1, by omega, rfl, hb'.2, ?_⟩
  have hk : k = 0 ∨ k = 1 := by
    obtain ⟨q, e, hq⟩ := shape_in h1
    rw [e] at h1
    have : q = 0 ∨ q = 1 ∨ q = 2 ∨ q = 3 ∨ q = 4 ∨ q = 5 ∨ q = 6 ∨ q = 7 ∨ q = 8 ∨ q = 9 ∨ q = 10 ∨ q = 11 ∨ q = 12 ∨ q = 13 ∨ q = 14 ∨ q = 15 ∨ q = 16 ∨ q = 17 ∨ q = 18 := by omega
    rcases this with e | e | e | e | e | e | e | e | e | e | e | e | e | e | e | e | e | e | e <;> subst e <;> cases h1 <;> decide
  rcases hk with e | e <;> subst e
  · obtain ⟨rfl, rfl⟩ := rows_zero h3
    exact .inl ⟨rfl, ⟨⟨n, 0, h1, pl, .inl ⟨rfl, rfl, rfl⟩⟩, by simpa using nn1, hb'.1⟩, h5⟩
  · obtain ⟨m, s, e1, e2, rfl, rfl⟩ := rows_one h3
    have hlt : i + 1 + n < ns.length := by
      have := congrArg List.length e1
      rw [List.length_drop, List.length_cons] at this
      omega
    have e3 : ns.drop (i + 1 + n) = ns[i + 1 + n] :: ns.drop (i + 1 + n + 1) := List.drop_eq_getElem_cons hlt
    rw [e3] at e1
    injection e1 with e4 e5
    subst e5
    rw [List.length_drop] at e2
    rw [List.drop_drop] at h5
    refine .inr ⟨rfl, m, by rw [List.getElem?_eq_getElem hlt, e4], by omega, ⟨⟨n, 1, h1, pl, .inr ⟨rfl, rfl⟩⟩, ?_, hb'.1⟩, h5⟩
    intro x hx
    rcases List.mem_append.mp hx with g | g
    · exact nn1 x g
    · exact hnn x (List.mem_of_mem_drop (List.mem_of_mem_take g))
def spAns1 (K : PySem.W.Frag) : Sp := fun vs H Q _ => ∃ (a : Addr) (ns : List Int), vs = [.ref a] ∧ ArgAt K H a (ns.map V.int) ∧ ns.length ≤ 4800 ∧ (∀ x, x ∈ ns → 0 ≤ x ∧ x ≤ 4294967295) ∧ PySu109.answers_asked ns = true ∧
  ∀ (H' : Hp) (p : Addr), H' p = some (.lst ((PySu109.answers ns).map V.int)) → Q (.ref p) H'
section
variable {P : Program} {w : World} {K : PySem.W.Frag} {mg : Str → Option Value} {base : Heap} {CD CT : Addr}
/-! ### has_row -/
def spHasRow : Sp := fun vs H Q _ => ∃ (p : Int) (n k : Nat), vs = [.int p] ∧ PySu109.shape p = some (n, k) ∧ ∀ H', Same H H' → Q (.bl (decide (k = 1))) H'
theorem scHasRow : FnScope ["number"] ["number"] (defScope sHasRow) := ⟨rfl, rfl, rfl, by decide +kernel, rfl, by decide +kernel, by decide +kernel⟩
theorem ok_hasRow {f : Addr} {fd : FuncData} (F : Fun K "has_row" "has_row" sHasRow f fd) (c1 : ∃ t, mg "THING" = some (.int 1 t)) (c6 : ∃ t, mg "PROMISE" = some (.int 6 t)) (c7 : ∃ t, mg "MAY" = some (.int 7 t)) (c8 : ∃ t, mg "ONE" = some (.int 8 t)) (c13 : ∃ t, mg "FREE" = some (.int 13 t)) (c14 : ∃ t, mg "PAYS" = some (.int 14 t)) :
    FnOk P w K mg base CX0 1 f fd ["number"] spHasRow := by
  refine F.ok scHasRow (fun vs H Q E h => ?_) (fun cdv A outer s H vs Q E hr h => ?_)
  · obtain ⟨p, n, k, rfl, _⟩ := h
    rfl
  · obtain ⟨p, n, kk, rfl, hs, k⟩ := h
    have big := line_big
    refine ⟨_, pss_one (ps_ret (pe_cmpR op_in_seq (pv 0) (pe_tup (pa_cons (pe_num c1) (pa_cons (pe_num c6) (pa_cons (pe_num c7) (pa_cons (pe_num c8) (pa_cons (pe_num c13) (pa_cons (pe_num c14) pa_nil))))))) (by rfl))), ?_⟩
    obtain ⟨q, rfl, _, t2, _⟩ := tables hs
    refine ⟨_, rfl, (by show 6 ≤ sizeLine; omega), fun t ht => ?_⟩
    refine ⟨t, rowN, rfl, .inr (SqT.of upd_same), rfl, rfl, ?_⟩
    have := k _ (same_upd (o := .tup rowN) ht)
    rw [← t2] at this
    exact this
theorem scAnswers : FnScope ["calls", "day", "told", "at", "number", "plain", "row", "answer"] ["calls"] (defScope sAnswers) := ⟨rfl, rfl, rfl, by decide +kernel, rfl, by decide +kernel, by decide +kernel⟩
theorem DayS.lst {CD CT : Addr} {H : Hp} {z d lt : Addr} : ∀ {st : Option Abs}, DayS CD CT z H d lt st → ∃ xs, H lt = some (.lst xs)
  | none, ⟨⟨_, _, h2⟩, _⟩ => ⟨_, h2⟩
  | some _, h => let ⟨_, _, _, h2, _⟩ := h.ex; ⟨_, h2⟩
theorem DayS.zok {CD CT : Addr} {H : Hp} {z d lt : Addr} : ∀ {st : Option Abs}, DayS CD CT z H d lt st → ZOk H lt z
  | none, h => h.2
  | some _, h => DayA.zok h
theorem DayS.ins {CD CT : Addr} {H : Hp} {z d lt : Addr} : ∀ {st : Option Abs}, DayS CD CT z H d lt st → ∃ dx fs, H d = some (.ins CD dx fs)
  | none, ⟨⟨_, h1, _⟩, _⟩ => ⟨_, _, h1⟩
  | some _, h => let ⟨_, _, h1, _, _⟩ := h.ex; ⟨_, _, h1⟩
/-- the list of answers may grow -/
theorem DayS.put {CD CT : Addr} {H : Hp} {z d lt : Addr} {xs ys : List V} (hz : H z = some (.lst xs)) : ∀ {st : Option Abs}, DayS CD CT z H d lt st → DayS CD CT z (upd H z (.lst ys)) d lt st
  | none, ⟨⟨dx, h1, h2⟩, h3⟩ => ⟨⟨dx, by rw [upd_ne (ne_of h1 hz (by intro q; cases q))]; exact h1, by rw [upd_ne (fun q => h3.1 q.symm)]; exact h2⟩, h3.1, _, upd_same⟩
  | some a, h => by
    obtain ⟨dx, as, h1, h2, h3⟩ := DayA.ex h
    have hzo := DayA.zok h
    refine ⟨⟨dx, as, by rw [upd_ne (ne_of h1 hz (by intro q; cases q))]; exact h1, by rw [upd_ne (fun q => hzo.1 q.symm)]; exact h2, h3.len, h3.nd, fun i b hb => ?_⟩, DayA.fine h, hzo.1, _, upd_same⟩
    obtain ⟨t, dx', wl, g1, g2, g3, g4⟩ := h3.at_ i b hb
    exact ⟨t, dx', wl, g1, by rw [upd_ne (ne_of g2 hz (by intro q; cases q))]; exact g2, by rw [upd_ne g4.2]; exact g3, g4⟩
theorem ok_answers {f fi fa fh : Addr} {fd fdi fda fdh : FuncData} {tp : Addr} (F : Fun K "answers" "answers" sAnswers f fd) (hln : mg "len" = none)
    (MD : Mk K CD fi) (Gi : FnOk P w K mg base CX0 1 fi fdi ["self"] (spInitD CD)) (mD : mg "Day" = some (.ref CD)) (bi : Binds K fdi ["self"] [])
    (ka : PySem.W.keepIn K (.ref fa) = true) (Ga : FnOk P w K mg base CX0 12 fa fda ["day", "number", "plain", "row"] (spAnswered CD CT)) (ma : mg "answered" = some (.ref fa)) (ba : Binds K fda ["day", "number", "plain", "row"] [])
    (mP : mg "PLAIN_NUMBERS" = some (.ref tp)) (sP : ∀ H, SqT K H tp plainT)
    (kh : PySem.W.keepIn K (.ref fh) = true) (Gh : FnOk P w K mg base CX0 1 fh fdh ["number"] spHasRow) (mh : mg "has_row" = some (.ref fh)) (bh : Binds K fdh ["number"] []) :
    FnOk P w K mg base CX0 13 f fd ["calls"] (spAns1 K) := by
  refine F.ok scAnswers (fun vs H Q E h => ?_) (fun cdv A outer s H vs Q E hr h => ?_)
  · obtain ⟨a, ns, rfl, _⟩ := h
    rfl
  · obtain ⟨a, ns, rfl, hA, hlen, hnn, hask, k⟩ := h
    have big := sizeLine_eq
    have hnn' : ∀ x, x ∈ ns → 0 ≤ x := fun x hx => (hnn x hx).1
    obtain ⟨raw0, hc0, hb0, hr0, hs0, ha0⟩ := asked_open hask
    refine ⟨_, pss_cons (ps_set (i := 1) scAnswers.nd rfl (Or.inl rfl) (pe_make0 MD Gi (hr.mono (by decide)) rfl mD bi .nil pass0))
      (pss_cons (ps_set (i := 2) scAnswers.nd rfl (Or.inl rfl) (pe_lst pa_nil))
      (pss_cons (ps_set (i := 3) scAnswers.nd rfl (Or.inl rfl) pe_int)
      (pss_cons (ps_while PassesOwn.never (pt_cmpR op_lt (pv 3) (pe_callB call_len_seq (by rfl) hln PySem.boot_len (pa_cons (pv 0) pa_nil)) (nomark _))
        (pss_cons (ps_set (i := 4) scAnswers.nd rfl (Or.inl rfl) (pe_ix ix_list (pv 0) (pv 3) (fun _ _ => rfl)))
        (pss_cons (ps_aug (i := 3) scAnswers.nd rfl (Or.inl rfl) pe_int ip_add)
        (pss_cons (ps_set (i := 5) scAnswers.nd rfl (Or.inl rfl) (pe_slice sl_list (pv 0) (po_some (pv 3)) (po_some (pe_op op_add (pv 3) (pe_ix ix_tup (pe_gref mP) (pv 4) (fun _ _ => rfl))))))
        (pss_cons (ps_aug (i := 3) scAnswers.nd rfl (Or.inl rfl) (pe_callB call_len_seq (by rfl) hln PySem.boot_len (pa_cons (pv 5) pa_nil)) ip_add)
        (pss_cons (ps_set (i := 6) scAnswers.nd rfl (Or.inl rfl) (pe_lst pa_nil))
        (pss_cons (ps_if (pt_val (pe_call Gh (hr.mono (by decide)) rfl mh kh bh .nil pass0 (pa_cons (pv 4) pa_nil)))
          (pss_cons (ps_set (i := 6) scAnswers.nd rfl (Or.inl rfl) (pe_slice sl_list (pv 0) (po_some (pe_op op_add (pv 3) pe_int)) (po_some (pe_op op_add (pe_op op_add (pv 3) pe_int) (pe_ix ix_list (pv 0) (pv 3) (fun _ _ => rfl))))))
          (pss_one (ps_aug (i := 3) scAnswers.nd rfl (Or.inl rfl) (pe_op op_add pe_int (pe_callB call_len_seq (by rfl) hln PySem.boot_len (pa_cons (pv 6) pa_nil))) ip_add))) pss_nil)
        (pss_cons (ps_set (i := 7) scAnswers.nd rfl (Or.inl rfl) (pe_call Ga hr rfl ma ka ba .nil pass0 (pa_cons (pv 1) (pa_cons (pv 4) (pa_cons (pv 5) (pa_cons (pv 6) pa_nil))))))
        (pss_cons (ps_expr (pe_bm PySem.F.plainAttrs_list PySem.F.slot_list_append PySem.F.type_list_append mt_append (pv 2) (pa_cons (pe_callB call_len_seq (by rfl) hln PySem.boot_len (pa_cons (pv 7) pa_nil)) pa_nil)))
        (pss_one (ps_expr (pe_bm PySem.F.plainAttrs_list PySem.F.slot_list_extend PySem.F.type_list_extend mt_extend (pv 2) (pa_cons (pv 7) pa_nil)))))))))))))
      (pss_one (ps_ret (pv 2)))))), ?_⟩
    intro d dx hd hdx hne
    refine ⟨d, dx, rfl, upd_same, fun H1 lt DN keep1 nlt => ⟨rfl, ?_⟩⟩
    have s1 : Same H H1 := Same.made hd hdx keep1
    refine ⟨Nat.zero_le _, fun to hto => ?_⟩
    have s2 := same_upd (o := .lst []) hto
    obtain ⟨dxx, g1, g2⟩ := DN
    have tolt : to ≠ lt := fun e => by rw [e, g2] at hto; cases hto
    refine while_by (fun σ H' => ∃ (lt : Addr) (st : Option Abs) (x : Int) (i f : Nat) (raw : List (List (List Int))) (tl : List Int) (v4 v5 v6 v7 : Option V), σ = [some (.ref a), some (.ref d), some (.ref to), some (.int x), v4, v5, v6, v7] ∧ x = (i : Int) ∧
      ArgAt K H' a (ns.map V.int) ∧ DayS CD CT to H' d lt st ∧ H' to = some (.lst (tl.map V.int)) ∧ i ≤ ns.length ∧ PyFlat.calls PySu109.shape f (ns.drop i) = some raw ∧ PyInside.calls PySu109.bound raw = true ∧
      tl ++ rest st raw = PySu109.answers ns)
      (fun σ _ => match σ with | [_, _, _, some (.int i), _, _, _, _] => ns.length - i.toNat | _ => 0) ?_ ?_ ?_
    · refine ⟨lt, none, 0, 0, ns.length, raw0, [], none, none, none, none, rfl, rfl, (hA.mono s1).mono s2, ⟨⟨dxx, s2 _ _ g1, s2 _ _ g2⟩, tolt, _, upd_same⟩, upd_same, Nat.zero_le _, hc0, hb0, ?_⟩
      rw [ha0]
      rfl
    · rintro σ H' ⟨lt, st, x, i, f, raw, tl, v4, v5, v6, v7, rfl, hx, hA', D, hto', hi, hc, hb, htl⟩
      have ml : (ns.map V.int).length = ns.length := List.length_map _
      refine ⟨_, rfl, _, rfl, a, _, rfl, .inl hA'.sq, _, _, rfl, rfl, _, rfl, ?_⟩
      refine ite2 (fun hlt => ?_) (fun hge => ?_)
      · have hil : i < ns.length := by
          have := of_decide_eq_true hlt
          rw [ml] at this
          omega
        obtain ⟨p, n, kk, c, raw', f', e1, e2, e3, rfl, e5, e6⟩ := next_call hil hnn' hc hb
        obtain ⟨q, rfl, t1, t2, t3⟩ := tables e2
        have at0 : (ns.map V.int)[i]? = some (.int (q : Int)) := by rw [List.getElem?_map, e1]; rfl
        refine ⟨_, rfl, _, rfl, a, _, _, _, rfl, rfl, hA'.sq, at_of (j := i) hx at0, ?_⟩
        refine ⟨_, rfl, _, _, rfl, rfl, ?_⟩
        refine ⟨_, rfl, _, rfl, _, rfl, _, rfl, _, rfl, tp, _, _, _, rfl, rfl, sP _, at_of (j := q) rfl t1, _, _, rfl, rfl, _, rfl, a, _, rfl, hA'.sq, fun pl hpl => ?_⟩
        rw [cut_midI (i := i + 1) (j := i + 1 + n) _ (by dsimp only; omega) (by dsimp only; omega) (by omega) (by rw [ml]; exact e3)]
        have z3 : i + 1 + n - (i + 1) = n := by omega
        rw [z3, drop_map_take] at *
        have s3 := same_upd (o := .lst (((ns.drop (i + 1)).take n).map V.int)) hpl
        have pll : (((ns.drop (i + 1)).take n).map V.int).length = n := by rw [List.length_map, List.length_take, List.length_drop]; omega
        refine ⟨_, rfl, _, rfl, pl, _, rfl, .inl (SqL.of upd_same), _, _, rfl, rfl, ?_⟩
        refine ⟨Nat.zero_le _, fun r0 hr0' => ?_⟩
        have s4 := same_upd (o := .lst []) hr0'
        refine ⟨_, rfl, (q : Int), n, kk, rfl, e2, fun H4 sh => ⟨_, rfl, ?_⟩⟩
        have s34 := (s3.trans s4).trans sh
        rcases e6 with ⟨rfl, C, C5⟩ | ⟨rfl, m, em, hm, C, C5⟩
        · refine ite2 (fun h => absurd h (by decide)) (fun _ => ?_)
          have nto : to ≠ lt := D.zok.1
          refine ⟨_, rfl, _, rfl, _, rfl, _, rfl, d, lt, to, pl, r0, st, (q : Int), (ns.drop (i + 1)).take n, [], c, rfl, sh _ _ (s4 _ _ upd_same), sh _ _ upd_same, D.mono s34, C, fun H3 lt3 t D3 hlt3 keep3 ht nt tlt => ?_⟩
          have hto3 : H3 to = some (.lst (tl.map V.int)) := keep3 _ _ (s34 _ _ hto') nto rfl
          have tto : t ≠ to := fun e => by rw [e, s34 _ _ hto'] at nt; cases nt
          have tlen : tl.length + ((nstep st c).2.length + 1) ≤ 10000000 := by
            have := congrArg List.length htl
            rw [List.length_append, rest_cons, List.length_append, List.length_cons] at this
            omega
          have hA3 : ArgAt K H3 a (ns.map V.int) := (hA'.mono s34).keep fun b o u e => by
            obtain ⟨ys, hys⟩ := (D.mono s34).lst
            exact keep3 _ _ e (ne_of e hys (by intro q; cases q)) rfl
          refine ⟨_, rfl, .inl ⟨rfl, _, SqL.of hto3⟩, _, rfl, t, _, rfl, .inl (SqL.of ht), to, _, _, rfl, rfl, hto3, (by rw [List.length_map]; omega), ?_⟩
          have ht4 : (upd H3 to (.lst (tl.map V.int ++ [V.int (((nstep st c).2.map V.int).length : Nat)]))) t = some (.lst ((nstep st c).2.map V.int)) := by rw [upd_ne tto]; exact ht
          refine ⟨_, rfl, .inl ⟨rfl, _, SqL.of upd_same⟩, _, rfl, to, t, _, _, rfl, rfl, upd_same, ht4, (by rw [List.length_append, List.length_map, List.length_map]; show tl.length + 1 + _ ≤ _; omega), ?_⟩
          rw [upd_upd]
          have el : tl.map V.int ++ [V.int (((nstep st c).2.map V.int).length : Nat)] ++ (nstep st c).2.map V.int = (tl ++ (((nstep st c).2.length : Int) :: (nstep st c).2)).map V.int := by
            rw [List.map_append, List.append_assoc, List.length_map]
            rfl
          rw [el]
          refine ⟨⟨lt3, (nstep st c).1, _, i + 1 + n, f', raw', tl ++ (((nstep st c).2.length : Int) :: (nstep st c).2), _, _, _, _, rfl, (by dsimp only; rw [pll]; omega), hA3.keep (fun b o u e => by rw [upd_ne (ne_of e hto3 (by intro q; cases q))]; exact e), D3.put hto3, upd_same, by omega, C5, e5, ?_⟩, ?_⟩
          · rw [← htl, rest_cons, List.append_assoc]
          · (show ns.length - Int.toNat _ < ns.length - Int.toNat _; (try dsimp only); rw [pll]; omega)
        · refine ite2 (fun _ => ?_) (fun h => absurd rfl h)
          have at2 : (ns.map V.int)[i + 1 + n]? = some (.int (m : Int)) := by rw [List.getElem?_map, em]; rfl
          have hA4 := (hA'.mono s34).sq
          refine ⟨_, rfl, _, rfl, _, _, rfl, rfl, _, rfl, _, rfl, _, _, rfl, rfl, _, rfl, _, rfl, a, _, _, _, rfl, rfl, hA4, at_of (j := i + 1 + n) (by dsimp only; rw [pll]; omega) at2, _, _, rfl, rfl, _, rfl, a, _, rfl, hA4, fun r1 hr1 => ?_⟩
          rw [cut_midI (i := i + 1 + n + 1) (j := i + 1 + n + 1 + m) _ (by dsimp only; rw [pll]; omega) (by dsimp only; rw [pll]; omega) (by omega) (by rw [ml]; exact hm)]
          have z4 : i + 1 + n + 1 + m - (i + 1 + n + 1) = m := by omega
          rw [z4, drop_map_take]
          have s5 := same_upd (o := .lst (((ns.drop (i + 1 + n + 1)).take m).map V.int)) hr1
          have s345 := s34.trans s5
          have rll : (((ns.drop (i + 1 + n + 1)).take m).map V.int).length = m := by rw [List.length_map, List.length_take, List.length_drop]; omega
          refine ⟨_, rfl, _, rfl, r1, _, rfl, .inl (SqL.of upd_same), _, _, rfl, rfl, _, _, rfl, rfl, ?_⟩
          have nto : to ≠ lt := D.zok.1
          refine ⟨_, rfl, _, rfl, _, rfl, _, rfl, d, lt, to, pl, r1, st, (q : Int), (ns.drop (i + 1)).take n, ((ns.drop (i + 1 + n + 1)).take m), c, rfl, s5 _ _ (sh _ _ (s4 _ _ upd_same)), upd_same, D.mono s345, C, fun H3 lt3 t D3 hlt3 keep3 ht nt tlt => ?_⟩
          have hto3 : H3 to = some (.lst (tl.map V.int)) := keep3 _ _ (s345 _ _ hto') nto rfl
          have tto : t ≠ to := fun e => by rw [e, s345 _ _ hto'] at nt; cases nt
          have tlen : tl.length + ((nstep st c).2.length + 1) ≤ 10000000 := by
            have := congrArg List.length htl
            rw [List.length_append, rest_cons, List.length_append, List.length_cons] at this
            omega
          have hA3 : ArgAt K H3 a (ns.map V.int) := (hA'.mono s345).keep fun b o u e => by
            obtain ⟨ys, hys⟩ := (D.mono s345).lst
            exact keep3 _ _ e (ne_of e hys (by intro q; cases q)) rfl
          refine ⟨_, rfl, .inl ⟨rfl, _, SqL.of hto3⟩, _, rfl, t, _, rfl, .inl (SqL.of ht), to, _, _, rfl, rfl, hto3, (by rw [List.length_map]; omega), ?_⟩
          have ht4 : (upd H3 to (.lst (tl.map V.int ++ [V.int (((nstep st c).2.map V.int).length : Nat)]))) t = some (.lst ((nstep st c).2.map V.int)) := by rw [upd_ne tto]; exact ht
          refine ⟨_, rfl, .inl ⟨rfl, _, SqL.of upd_same⟩, _, rfl, to, t, _, _, rfl, rfl, upd_same, ht4, (by rw [List.length_append, List.length_map, List.length_map]; show tl.length + 1 + _ ≤ _; omega), ?_⟩
          rw [upd_upd]
          have el : tl.map V.int ++ [V.int (((nstep st c).2.map V.int).length : Nat)] ++ (nstep st c).2.map V.int = (tl ++ (((nstep st c).2.length : Int) :: (nstep st c).2)).map V.int := by
            rw [List.map_append, List.append_assoc, List.length_map]
            rfl
          rw [el]
          refine ⟨⟨lt3, (nstep st c).1, _, i + 1 + n + 1 + m, f', raw', tl ++ (((nstep st c).2.length : Int) :: (nstep st c).2), _, _, _, _, rfl, (by dsimp only; rw [pll, rll]; omega), hA3.keep (fun b o u e => by rw [upd_ne (ne_of e hto3 (by intro q; cases q))]; exact e), D3.put hto3, upd_same, by omega, C5, e5, ?_⟩, ?_⟩
          · rw [← htl, rest_cons, List.append_assoc]
          · (show ns.length - Int.toNat _ < ns.length - Int.toNat _; (try dsimp only); rw [pll, rll]; omega)
      · have hil : i = ns.length := by
          have : ¬ x < ((ns.map V.int).length : Int) := fun h => hge (decide_eq_true h)
          rw [ml] at this
          omega
        subst hil
        rw [List.drop_length] at hc
        have : raw = [] := by
          cases f with
          | zero => simp only [PyFlat.calls, Option.some.injEq] at hc; exact hc.symm
          | succ f => simp only [PyFlat.calls, Option.some.injEq] at hc; exact hc.symm
        subst this
        rw [rest_nil, List.append_nil] at htl
        subst htl
        exact ⟨_, rfl, k H' to hto'⟩
    · intro σ H' Q1 Q2 hm hq
      obtain ⟨v, e1, v2, e2, p, ys, e3, e4, i, j, e5, e6, c, e7, h2⟩ := hq
      exact ⟨v, e1, v2, e2, p, ys, e3, e4, i, j, e5, e6, c, e7, hm _ _ h2⟩
end
end DA
set_option Elab.async false
set_option maxRecDepth 100000
set_option maxHeartbeats 4000000
namespace DA
open PySem PySem.Spec PyProof.Rows L2
open Su109 (Abs does)
theorem row_nats {l : List Int} (h : ∀ x, x ∈ l → 0 ≤ x) : l.map V.int = natsV (l.map Int.toNat) := by
  unfold natsV
  rw [List.map_map, List.map_map]
  refine List.map_congr_left (fun x hx => ?_)
  show V.int x = V.int (Int.ofNat x.toNat)
  have : Int.ofNat x.toNat = x := Int.toNat_of_nonneg (h x hx)
  rw [this]
theorem DayS.look {CD CT : Addr} {H : Hp} {z d lt : Addr} : ∀ {st : Option Abs}, DayS CD CT z H d lt st → ∃ dx fs, H d = some (.ins CD dx fs) ∧ fs.lookup ("begin" : Str) = none
  | none, ⟨⟨_, h1, _⟩, _⟩ => ⟨_, _, h1, rfl⟩
  | some _, h => let ⟨_, _, h1, _, _⟩ := h.ex; ⟨_, _, h1, rfl⟩
theorem does_call (a : Abs) (x0 : Nat) (x1 : Nat) : (does a (.call x0 x1)).1 = a := by
  simp only [does]
  (repeat' split) <;> rfl
theorem does_free (a : Abs) (l : List Nat) : (does a (.free l)).1 = a := by
  simp only [does]
  (repeat' split) <;> rfl
theorem does_look (a : Abs) (x0 : Nat) : (does a (.look x0)).1 = a := by
  simp only [does]
  (repeat' split) <;> rfl
theorem does_may (a : Abs) (x0 : Nat) (x1 : Nat) (l : List Nat) : (does a (.may x0 x1 l)).1 = a := by
  simp only [does]
  (repeat' split) <;> rfl
theorem does_of (a : Abs) (x0 : Nat) : (does a (.of x0)).1 = a := by
  simp only [does]
  (repeat' split) <;> rfl
theorem does_one (a : Abs) (l : List Nat) : (does a (.one l)).1 = a := by
  simp only [does]
  (repeat' split) <;> rfl
theorem does_pays (a : Abs) (l : List Nat) : (does a (.pays l)).1 = a := by
  simp only [does]
  (repeat' split) <;> rfl
theorem does_promise (a : Abs) (l : List Nat) : (does a (.promise l)).1 = a := by
  simp only [does]
  (repeat' split) <;> rfl
theorem does_put (a : Abs) (x0 : Nat) (x1 : Nat) : (does a (.put x0 x1)).1 = a := by
  simp only [does]
  (repeat' split) <;> rfl
theorem does_rate (a : Abs) : (does a .rate).1 = a := rfl
theorem does_state (a : Abs) : (does a .state).1 = a := rfl
theorem does_whole (a : Abs) : (does a (.whole)).1 = a := by
  simp only [does]
  (repeat' split) <;> rfl
theorem does_would (a : Abs) (x0 : Nat) (x1 : Nat) : (does a (.would x0 x1)).1 = a := by
  simp only [does]
  (repeat' split) <;> rfl
theorem Said.pure1 {CD CT : Addr} {H : Hp} {z d lt : Addr} {a a' : Abs} {ans : List Int} {Q : VK} (e : a' = a) (S : Said CD CT z H d lt (some a') ans Q) (D : DayS CD CT z H d lt (some a)) : SaidP H ans Q := by
  subst e
  exact Said.p S D
theorem call_num {p : Int} {plain row : List Int} {c : List (List Int)} (C : CallAt p plain row c) : p = 0 ∨ p = 1 ∨ p = 2 ∨ p = 3 ∨ p = 4 ∨ p = 5 ∨ p = 6 ∨ p = 7 ∨ p = 8 ∨ p = 9 ∨ p = 10 ∨ p = 11 ∨ p = 12 ∨ p = 13 ∨ p = 14 ∨ p = 15 ∨ p = 16 ∨ p = 17 ∨ p = 18 := by
  obtain ⟨m, k0, es, _⟩ := C.sh
  obtain ⟨q, e, _⟩ := shape_in es
  omega
theorem none_step {p : Int} {plain row : List Int} {c : List (List Int)} (C : CallAt p plain row c) (h0 : p ≠ 0) : nstep none c = (none, [-11]) := by
  rcases call_num C with rfl | rfl | rfl | rfl | rfl | rfl | rfl | rfl | rfl | rfl | rfl | rfl | rfl | rfl | rfl | rfl | rfl | rfl | rfl
  · exact absurd rfl h0
  · skip
    obtain ⟨m, k0, es, epl, ec⟩ := C.sh
    have es : some (1, 1) = some (m, k0) := es
    cases es
    obtain ⟨hk, _, _⟩ | ⟨_, rfl⟩ := ec
    · cases hk
    match plain, epl with
    | [x], _ =>
      rw [st1]; rfl
  · skip
    obtain ⟨m, k0, es, epl, ec⟩ := C.sh
    have es : some (1, 0) = some (m, k0) := es
    cases es
    obtain ⟨_, rfl, rfl⟩ | ⟨hk, _⟩ := ec
    rotate_left
    · cases hk
    match plain, epl with
    | [x], _ =>
      rw [st2]; rfl
  · skip
    obtain ⟨m, k0, es, epl, ec⟩ := C.sh
    have es : some (2, 0) = some (m, k0) := es
    cases es
    obtain ⟨_, rfl, rfl⟩ | ⟨hk, _⟩ := ec
    rotate_left
    · cases hk
    match plain, epl with
    | [x, y], _ =>
      rw [st3]; rfl
  · skip
    obtain ⟨m, k0, es, epl, ec⟩ := C.sh
    have es : some (0, 0) = some (m, k0) := es
    cases es
    obtain ⟨_, rfl, rfl⟩ | ⟨hk, _⟩ := ec
    rotate_left
    · cases hk
    match plain, epl with
    | [], _ =>
      rw [st4]; rfl
  · skip
    obtain ⟨m, k0, es, epl, ec⟩ := C.sh
    have es : some (0, 0) = some (m, k0) := es
    cases es
    obtain ⟨_, rfl, rfl⟩ | ⟨hk, _⟩ := ec
    rotate_left
    · cases hk
    match plain, epl with
    | [], _ =>
      rw [st5]; rfl
  · skip
    obtain ⟨m, k0, es, epl, ec⟩ := C.sh
    have es : some (0, 1) = some (m, k0) := es
    cases es
    obtain ⟨hk, _, _⟩ | ⟨_, rfl⟩ := ec
    · cases hk
    match plain, epl with
    | [], _ =>
      rw [st6]; rfl
  · skip
    obtain ⟨m, k0, es, epl, ec⟩ := C.sh
    have es : some (2, 1) = some (m, k0) := es
    cases es
    obtain ⟨hk, _, _⟩ | ⟨_, rfl⟩ := ec
    · cases hk
    match plain, epl with
    | [x, y], _ =>
      rw [st7]; rfl
  · skip
    obtain ⟨m, k0, es, epl, ec⟩ := C.sh
    have es : some (0, 1) = some (m, k0) := es
    cases es
    obtain ⟨hk, _, _⟩ | ⟨_, rfl⟩ := ec
    · cases hk
    match plain, epl with
    | [], _ =>
      rw [st8]; rfl
  · skip
    obtain ⟨m, k0, es, epl, ec⟩ := C.sh
    have es : some (2, 0) = some (m, k0) := es
    cases es
    obtain ⟨_, rfl, rfl⟩ | ⟨hk, _⟩ := ec
    rotate_left
    · cases hk
    match plain, epl with
    | [x, y], _ =>
      rw [st9]; rfl
  · skip
    obtain ⟨m, k0, es, epl, ec⟩ := C.sh
    have es : some (2, 0) = some (m, k0) := es
    cases es
    obtain ⟨_, rfl, rfl⟩ | ⟨hk, _⟩ := ec
    rotate_left
    · cases hk
    match plain, epl with
    | [x, y], _ =>
      rw [st10]; rfl
  · skip
    obtain ⟨m, k0, es, epl, ec⟩ := C.sh
    have es : some (0, 0) = some (m, k0) := es
    cases es
    obtain ⟨_, rfl, rfl⟩ | ⟨hk, _⟩ := ec
    rotate_left
    · cases hk
    match plain, epl with
    | [], _ =>
      rw [st11]; rfl
  · skip
    obtain ⟨m, k0, es, epl, ec⟩ := C.sh
    have es : some (1, 0) = some (m, k0) := es
    cases es
    obtain ⟨_, rfl, rfl⟩ | ⟨hk, _⟩ := ec
    rotate_left
    · cases hk
    match plain, epl with
    | [x], _ =>
      rw [st12]; rfl
  · skip
    obtain ⟨m, k0, es, epl, ec⟩ := C.sh
    have es : some (0, 1) = some (m, k0) := es
    cases es
    obtain ⟨hk, _, _⟩ | ⟨_, rfl⟩ := ec
    · cases hk
    match plain, epl with
    | [], _ =>
      rw [st13]; rfl
  · skip
    obtain ⟨m, k0, es, epl, ec⟩ := C.sh
    have es : some (0, 1) = some (m, k0) := es
    cases es
    obtain ⟨hk, _, _⟩ | ⟨_, rfl⟩ := ec
    · cases hk
    match plain, epl with
    | [], _ =>
      rw [st14]; rfl
  · skip
    obtain ⟨m, k0, es, epl, ec⟩ := C.sh
    have es : some (2, 0) = some (m, k0) := es
    cases es
    obtain ⟨_, rfl, rfl⟩ | ⟨hk, _⟩ := ec
    rotate_left
    · cases hk
    match plain, epl with
    | [x, y], _ =>
      rw [st15]; rfl
  · skip
    obtain ⟨m, k0, es, epl, ec⟩ := C.sh
    have es : some (1, 0) = some (m, k0) := es
    cases es
    obtain ⟨_, rfl, rfl⟩ | ⟨hk, _⟩ := ec
    rotate_left
    · cases hk
    match plain, epl with
    | [x], _ =>
      rw [st16]; rfl
  · skip
    obtain ⟨m, k0, es, epl, ec⟩ := C.sh
    have es : some (0, 0) = some (m, k0) := es
    cases es
    obtain ⟨_, rfl, rfl⟩ | ⟨hk, _⟩ := ec
    rotate_left
    · cases hk
    match plain, epl with
    | [], _ =>
      rw [st17]; rfl
  · skip
    obtain ⟨m, k0, es, epl, ec⟩ := C.sh
    have es : some (0, 0) = some (m, k0) := es
    cases es
    obtain ⟨_, rfl, rfl⟩ | ⟨hk, _⟩ := ec
    rotate_left
    · cases hk
    match plain, epl with
    | [], _ =>
      rw [st18]; rfl
/-- a call of these numbers is answered, any other is left -/
def spAbout (CD CT : Addr) (g : List Int) : Sp := fun vs H Q _ => ∃ (d lt z pl ro : Addr) (a : Abs) (p : Int) (plain row : List Int) (c : List (List Int)), vs = [.ref d, .int p, .ref pl, .ref ro] ∧ H pl = some (.lst (plain.map V.int)) ∧ H ro = some (.lst (row.map V.int)) ∧
  DayA CD CT z H d lt a ∧ CallAt p plain row c ∧ (p ∈ g → Said CD CT z H d lt (nstep (some a) c).1 (nstep (some a) c).2 Q) ∧ (p ∉ g → Q .non H)
section
variable {P : Program} {w : World} {K : PySem.W.Frag} {mg : Str → Option Value} {base : Heap} {CD CT : Addr}
abbrev sAboutT : Stmt := top 54
theorem sc_about_things : FnScope ["day", "number", "plain", "row"] ["day", "number", "plain", "row"] (defScope sAboutT) := ⟨rfl, rfl, rfl, by decide +kernel, rfl, by decide +kernel, by decide +kernel⟩
theorem ok_about_things {f : Addr} {fd : FuncData} (F : Fun K "about_things" "about_things" sAboutT f fd) (T : Txt K mg CD CT)
    (c1 : ∃ t, mg "THING" = some (.int 1 t))
    (c2 : ∃ t, mg "DROP" = some (.int 2 t))
    (c3 : ∃ t, mg "PRICE" = some (.int 3 t))
    (c16 : ∃ t, mg "LOOK" = some (.int 16 t))
    (c17 : ∃ t, mg "RATE" = some (.int 17 t))
    (c18 : ∃ t, mg "STATE" = some (.int 18 t))
    {f1 : Addr} {fd1 : FuncData} (G1 : FnOk P w K mg base CX0 3 f1 fd1 ["self", "p", "worths"] (spThing CD CT)) (M1 : Meth K CD "thing" f1) (B1 : Binds K fd1 ["self", "p", "worths"] [])
    {f2 : Addr} {fd2 : FuncData} (G2 : FnOk P w K mg base CX0 2 f2 fd2 ["self", "t"] (spDrop CD CT)) (M2 : Meth K CD "drop" f2) (B2 : Binds K fd2 ["self", "t"] [])
    {f3 : Addr} {fd3 : FuncData} (G3 : FnOk P w K mg base CX0 3 f3 fd3 ["self", "t", "p"] (spPrice CD CT)) (M3 : Meth K CD "price" f3) (B3 : Binds K fd3 ["self", "t", "p"] [])
    {f16 : Addr} {fd16 : FuncData} (G16 : FnOk P w K mg base CX0 2 f16 fd16 ["self", "t"] (spLook CD CT)) (M16 : Meth K CD "look" f16) (B16 : Binds K fd16 ["self", "t"] [])
    {f17 : Addr} {fd17 : FuncData} (G17 : FnOk P w K mg base CX0 3 f17 fd17 ["self"] (spRate CD CT)) (M17 : Meth K CD "rate" f17) (B17 : Binds K fd17 ["self"] [])
    {f18 : Addr} {fd18 : FuncData} (G18 : FnOk P w K mg base CX0 1 f18 fd18 ["self"] (spState CD CT)) (M18 : Meth K CD "state" f18) (B18 : Binds K fd18 ["self"] []) :
    FnOk P w K mg base CX0 4 f fd ["day", "number", "plain", "row"] (spAbout CD CT [1, 2, 3, 16, 17, 18]) := by
  refine F.ok sc_about_things (fun vs H Q E h => ?_) (fun cdv A outer s H vs Q E hr h => ?_)
  · obtain ⟨d, lt, z, pl, ro, a, p, plain, row, c, rfl, _⟩ := h
    rfl
  obtain ⟨d, lt, z, pl, ro, a, p, plain, row, c, rfl, hpl, hro, D, C, kS, kN⟩ := h
  obtain ⟨dx, as, hd, h2, h3⟩ := DayA.ex D
  refine ⟨_, (pss_cons (ps_if (pt_cmpR op_eq (pv 1) (pe_num c1) (nomark _)) (pss_one (ps_ret (pe_meth (pv 0) T.clD M1 G1 (hr.mono (by decide)) B1 .nil pass0 (pa_cons (pe_ix ix_list (pv 2) pe_int (fun _ _ => rfl)) (pa_cons (pv 3) pa_nil))))) pss_nil)
      (pss_cons (ps_if (pt_cmpR op_eq (pv 1) (pe_num c2) (nomark _)) (pss_one (ps_ret (pe_meth (pv 0) T.clD M2 G2 (hr.mono (by decide)) B2 .nil pass0 (pa_cons (pe_ix ix_list (pv 2) pe_int (fun _ _ => rfl)) pa_nil)))) pss_nil)
      (pss_cons (ps_if (pt_cmpR op_eq (pv 1) (pe_num c3) (nomark _)) (pss_one (ps_ret (pe_meth (pv 0) T.clD M3 G3 (hr.mono (by decide)) B3 .nil pass0 (pa_cons (pe_ix ix_list (pv 2) pe_int (fun _ _ => rfl)) (pa_cons (pe_ix ix_list (pv 2) pe_int (fun _ _ => rfl)) pa_nil))))) pss_nil)
      (pss_cons (ps_if (pt_cmpR op_eq (pv 1) (pe_num c16) (nomark _)) (pss_one (ps_ret (pe_meth (pv 0) T.clD M16 G16 (hr.mono (by decide)) B16 .nil pass0 (pa_cons (pe_ix ix_list (pv 2) pe_int (fun _ _ => rfl)) pa_nil)))) pss_nil)
      (pss_cons (ps_if (pt_cmpR op_eq (pv 1) (pe_num c17) (nomark _)) (pss_one (ps_ret (pe_meth0 (pv 0) T.clD M17 G17 (hr.mono (by decide)) B17 .nil pass0))) pss_nil)
      (pss_cons (ps_if (pt_cmpR op_eq (pv 1) (pe_num c18) (nomark _)) (pss_one (ps_ret (pe_meth0 (pv 0) T.clD M18 G18 (hr.mono (by decide)) B18 .nil pass0))) pss_nil)
      (pss_one (ps_ret pe_non)))))))), ?_⟩
  refine ⟨_, rfl, rfl, _, rfl, ite_eq (fun he => ?_) (fun x1 => ?_)⟩
  · subst he
    have S := kS (by decide)
    obtain ⟨m, k0, es, epl, ec⟩ := C.sh
    have es : some (1, 1) = some (m, k0) := es
    cases es
    obtain ⟨hk, _, _⟩ | ⟨_, rfl⟩ := ec
    · cases hk
    match plain, epl with
    | [x], _ =>
      have nx : ((x.toNat : Nat) : Int) = x := Int.toNat_of_nonneg (C.nn x (by simp))
      have rl : (row.map Int.toNat).length < 100 := by rw [List.length_map]; have := inside_row (p := 1) (by decide) C.ok; omega
      have rr : row.map V.int = natsV (row.map Int.toNat) := row_nats (fun q hq => C.nn q (by simp [hq]))
      rw [st1] at S
      exact ⟨_, rfl, d, dx, _, rfl, hd, rfl, _, rfl, pl, _, _, _, rfl, rfl, SqL.of hpl, rfl, _, rfl, d, lt, z, ro, a, x.toNat, row.map Int.toNat, (by rw [nx]; rfl), D, by rw [← rr]; exact hro, rl, S⟩
  refine ⟨_, rfl, rfl, _, rfl, ite_eq (fun he => ?_) (fun x2 => ?_)⟩
  · subst he
    have S := kS (by decide)
    obtain ⟨m, k0, es, epl, ec⟩ := C.sh
    have es : some (1, 0) = some (m, k0) := es
    cases es
    obtain ⟨_, rfl, rfl⟩ | ⟨hk, _⟩ := ec
    rotate_left
    · cases hk
    match plain, epl with
    | [x], _ =>
      have nx : ((x.toNat : Nat) : Int) = x := Int.toNat_of_nonneg (C.nn x (by simp))
      rw [st2] at S
      exact ⟨_, rfl, d, dx, _, rfl, hd, rfl, _, rfl, pl, _, _, _, rfl, rfl, SqL.of hpl, rfl, d, lt, z, a, x.toNat, (by rw [nx]; rfl), D, S⟩
  refine ⟨_, rfl, rfl, _, rfl, ite_eq (fun he => ?_) (fun x3 => ?_)⟩
  · subst he
    have S := kS (by decide)
    obtain ⟨m, k0, es, epl, ec⟩ := C.sh
    have es : some (2, 0) = some (m, k0) := es
    cases es
    obtain ⟨_, rfl, rfl⟩ | ⟨hk, _⟩ := ec
    rotate_left
    · cases hk
    match plain, epl with
    | [x, y], _ =>
      have nx : ((x.toNat : Nat) : Int) = x := Int.toNat_of_nonneg (C.nn x (by simp))
      have ny : ((y.toNat : Nat) : Int) = y := Int.toNat_of_nonneg (C.nn y (by simp))
      rw [st3] at S
      exact ⟨_, rfl, d, dx, _, rfl, hd, rfl, _, rfl, pl, _, _, _, rfl, rfl, SqL.of hpl, rfl, _, rfl, pl, _, _, _, rfl, rfl, SqL.of hpl, rfl, d, lt, z, a, x.toNat, y.toNat, (by rw [nx, ny]; rfl), D, S⟩
  refine ⟨_, rfl, rfl, _, rfl, ite_eq (fun he => ?_) (fun x16 => ?_)⟩
  · subst he
    have S := kS (by decide)
    obtain ⟨m, k0, es, epl, ec⟩ := C.sh
    have es : some (1, 0) = some (m, k0) := es
    cases es
    obtain ⟨_, rfl, rfl⟩ | ⟨hk, _⟩ := ec
    rotate_left
    · cases hk
    match plain, epl with
    | [x], _ =>
      have nx : ((x.toNat : Nat) : Int) = x := Int.toNat_of_nonneg (C.nn x (by simp))
      rw [st16] at S
      exact ⟨_, rfl, d, dx, _, rfl, hd, rfl, _, rfl, pl, _, _, _, rfl, rfl, SqL.of hpl, rfl, d, lt, z, a, x.toNat, (by rw [nx]; rfl), D, (Said.pure1 (does_look a _) S D)⟩
  refine ⟨_, rfl, rfl, _, rfl, ite_eq (fun he => ?_) (fun x17 => ?_)⟩
  · subst he
    have S := kS (by decide)
    obtain ⟨m, k0, es, epl, ec⟩ := C.sh
    have es : some (0, 0) = some (m, k0) := es
    cases es
    obtain ⟨_, rfl, rfl⟩ | ⟨hk, _⟩ := ec
    rotate_left
    · cases hk
    match plain, epl with
    | [], _ =>
      rw [st17] at S
      exact ⟨_, rfl, d, dx, _, rfl, hd, rfl, d, lt, z, a, rfl, D, (Said.pure1 (does_rate a) S D)⟩
  refine ⟨_, rfl, rfl, _, rfl, ite_eq (fun he => ?_) (fun x18 => ?_)⟩
  · subst he
    have S := kS (by decide)
    obtain ⟨m, k0, es, epl, ec⟩ := C.sh
    have es : some (0, 0) = some (m, k0) := es
    cases es
    obtain ⟨_, rfl, rfl⟩ | ⟨hk, _⟩ := ec
    rotate_left
    · cases hk
    match plain, epl with
    | [], _ =>
      rw [st18] at S
      exact ⟨_, rfl, d, dx, _, rfl, hd, rfl, d, lt, z, a, rfl, D, (Said.pure1 (does_state a) S D)⟩
  exact kN (by simp [x1, x2, x3, x16, x17, x18])
abbrev sAboutF : Stmt := top 55
theorem sc_about_fairness : FnScope ["day", "number", "plain", "row"] ["day", "number", "plain", "row"] (defScope sAboutF) := ⟨rfl, rfl, rfl, by decide +kernel, rfl, by decide +kernel, by decide +kernel⟩
theorem ok_about_fairness {f : Addr} {fd : FuncData} (F : Fun K "about_fairness" "about_fairness" sAboutF f fd) (T : Txt K mg CD CT)
    (c4 : ∃ t, mg "FAIR" = some (.int 4 t))
    (c15 : ∃ t, mg "WOULD" = some (.int 15 t))
    (c5 : ∃ t, mg "CORNERS" = some (.int 5 t))
    (c11 : ∃ t, mg "WHOLE" = some (.int 11 t))
    (c13 : ∃ t, mg "FREE" = some (.int 13 t))
    (c14 : ∃ t, mg "PAYS" = some (.int 14 t))
    {f4 : Addr} {fd4 : FuncData} (G4 : FnOk P w K mg base CX0 7 f4 fd4 ["self"] (spFairM CD CT)) (M4 : Meth K CD "fair" f4) (B4 : Binds K fd4 ["self"] [])
    {f15 : Addr} {fd15 : FuncData} (G15 : FnOk P w K mg base CX0 6 f15 fd15 ["self", "t", "p"] (spWould CD CT)) (M15 : Meth K CD "would" f15) (B15 : Binds K fd15 ["self", "t", "p"] [])
    {f5 : Addr} {fd5 : FuncData} (G5 : FnOk P w K mg base CX0 7 f5 fd5 ["self"] (spCorners CD CT)) (M5 : Meth K CD "corners" f5) (B5 : Binds K fd5 ["self"] [])
    {f11 : Addr} {fd11 : FuncData} (G11 : FnOk P w K mg base CX0 7 f11 fd11 ["self"] (spWhole CD CT)) (M11 : Meth K CD "whole" f11) (B11 : Binds K fd11 ["self"] [])
    {f13 : Addr} {fd13 : FuncData} (G13 : FnOk P w K mg base CX0 2 f13 fd13 ["self", "some"] (spFree CD CT)) (M13 : Meth K CD "free" f13) (B13 : Binds K fd13 ["self", "some"] [])
    {f14 : Addr} {fd14 : FuncData} (G14 : FnOk P w K mg base CX0 2 f14 fd14 ["self", "some"] (spPays CD CT)) (M14 : Meth K CD "pays" f14) (B14 : Binds K fd14 ["self", "some"] []) :
    FnOk P w K mg base CX0 8 f fd ["day", "number", "plain", "row"] (spAbout CD CT [4, 15, 5, 11, 13, 14]) := by
  refine F.ok sc_about_fairness (fun vs H Q E h => ?_) (fun cdv A outer s H vs Q E hr h => ?_)
  · obtain ⟨d, lt, z, pl, ro, a, p, plain, row, c, rfl, _⟩ := h
    rfl
  obtain ⟨d, lt, z, pl, ro, a, p, plain, row, c, rfl, hpl, hro, D, C, kS, kN⟩ := h
  obtain ⟨dx, as, hd, h2, h3⟩ := DayA.ex D
  refine ⟨_, (pss_cons (ps_if (pt_cmpR op_eq (pv 1) (pe_num c4) (nomark _)) (pss_one (ps_ret (pe_meth0 (pv 0) T.clD M4 G4 (hr.mono (by decide)) B4 .nil pass0))) pss_nil)
      (pss_cons (ps_if (pt_cmpR op_eq (pv 1) (pe_num c15) (nomark _)) (pss_one (ps_ret (pe_meth (pv 0) T.clD M15 G15 (hr.mono (by decide)) B15 .nil pass0 (pa_cons (pe_ix ix_list (pv 2) pe_int (fun _ _ => rfl)) (pa_cons (pe_ix ix_list (pv 2) pe_int (fun _ _ => rfl)) pa_nil))))) pss_nil)
      (pss_cons (ps_if (pt_cmpR op_eq (pv 1) (pe_num c5) (nomark _)) (pss_one (ps_ret (pe_meth0 (pv 0) T.clD M5 G5 (hr.mono (by decide)) B5 .nil pass0))) pss_nil)
      (pss_cons (ps_if (pt_cmpR op_eq (pv 1) (pe_num c11) (nomark _)) (pss_one (ps_ret (pe_meth0 (pv 0) T.clD M11 G11 (hr.mono (by decide)) B11 .nil pass0))) pss_nil)
      (pss_cons (ps_if (pt_cmpR op_eq (pv 1) (pe_num c13) (nomark _)) (pss_one (ps_ret (pe_meth (pv 0) T.clD M13 G13 (hr.mono (by decide)) B13 .nil pass0 (pa_cons (pv 3) pa_nil)))) pss_nil)
      (pss_cons (ps_if (pt_cmpR op_eq (pv 1) (pe_num c14) (nomark _)) (pss_one (ps_ret (pe_meth (pv 0) T.clD M14 G14 (hr.mono (by decide)) B14 .nil pass0 (pa_cons (pv 3) pa_nil)))) pss_nil)
      (pss_one (ps_ret pe_non)))))))), ?_⟩
  refine ⟨_, rfl, rfl, _, rfl, ite_eq (fun he => ?_) (fun x4 => ?_)⟩
  · subst he
    have S := kS (by decide)
    obtain ⟨m, k0, es, epl, ec⟩ := C.sh
    have es : some (0, 0) = some (m, k0) := es
    cases es
    obtain ⟨_, rfl, rfl⟩ | ⟨hk, _⟩ := ec
    rotate_left
    · cases hk
    match plain, epl with
    | [], _ =>
      rw [st4] at S
      exact ⟨_, rfl, d, dx, _, rfl, hd, rfl, d, lt, z, a, rfl, D, S⟩
  refine ⟨_, rfl, rfl, _, rfl, ite_eq (fun he => ?_) (fun x15 => ?_)⟩
  · subst he
    have S := kS (by decide)
    obtain ⟨m, k0, es, epl, ec⟩ := C.sh
    have es : some (2, 0) = some (m, k0) := es
    cases es
    obtain ⟨_, rfl, rfl⟩ | ⟨hk, _⟩ := ec
    rotate_left
    · cases hk
    match plain, epl with
    | [x, y], _ =>
      have nx : ((x.toNat : Nat) : Int) = x := Int.toNat_of_nonneg (C.nn x (by simp))
      have ny : ((y.toNat : Nat) : Int) = y := Int.toNat_of_nonneg (C.nn y (by simp))
      rw [st15] at S
      exact ⟨_, rfl, d, dx, _, rfl, hd, rfl, _, rfl, pl, _, _, _, rfl, rfl, SqL.of hpl, rfl, _, rfl, pl, _, _, _, rfl, rfl, SqL.of hpl, rfl, d, lt, z, a, x.toNat, y.toNat, (by rw [nx, ny]; rfl), D, (Said.pure1 (does_would a _ _) S D)⟩
  refine ⟨_, rfl, rfl, _, rfl, ite_eq (fun he => ?_) (fun x5 => ?_)⟩
  · subst he
    have S := kS (by decide)
    obtain ⟨m, k0, es, epl, ec⟩ := C.sh
    have es : some (0, 0) = some (m, k0) := es
    cases es
    obtain ⟨_, rfl, rfl⟩ | ⟨hk, _⟩ := ec
    rotate_left
    · cases hk
    match plain, epl with
    | [], _ =>
      rw [st5] at S
      exact ⟨_, rfl, d, dx, _, rfl, hd, rfl, d, lt, z, a, rfl, D, S⟩
  refine ⟨_, rfl, rfl, _, rfl, ite_eq (fun he => ?_) (fun x11 => ?_)⟩
  · subst he
    have S := kS (by decide)
    obtain ⟨m, k0, es, epl, ec⟩ := C.sh
    have es : some (0, 0) = some (m, k0) := es
    cases es
    obtain ⟨_, rfl, rfl⟩ | ⟨hk, _⟩ := ec
    rotate_left
    · cases hk
    match plain, epl with
    | [], _ =>
      rw [st11] at S
      exact ⟨_, rfl, d, dx, _, rfl, hd, rfl, d, lt, z, a, rfl, D, (Said.pure1 (does_whole a) S D)⟩
  refine ⟨_, rfl, rfl, _, rfl, ite_eq (fun he => ?_) (fun x13 => ?_)⟩
  · subst he
    have S := kS (by decide)
    obtain ⟨m, k0, es, epl, ec⟩ := C.sh
    have es : some (0, 1) = some (m, k0) := es
    cases es
    obtain ⟨hk, _, _⟩ | ⟨_, rfl⟩ := ec
    · cases hk
    match plain, epl with
    | [], _ =>
      have rl : (row.map Int.toNat).length < 100 := by rw [List.length_map]; have := inside_row (p := 13) (by decide) C.ok; omega
      have rr : row.map V.int = natsV (row.map Int.toNat) := row_nats (fun q hq => C.nn q (by simp [hq]))
      rw [st13] at S
      exact ⟨_, rfl, d, dx, _, rfl, hd, rfl, _, rfl, d, lt, z, ro, a, row.map Int.toNat, rfl, D, by rw [← rr]; exact hro, rl, (Said.pure1 (does_free a _) S D)⟩
  refine ⟨_, rfl, rfl, _, rfl, ite_eq (fun he => ?_) (fun x14 => ?_)⟩
  · subst he
    have S := kS (by decide)
    obtain ⟨m, k0, es, epl, ec⟩ := C.sh
    have es : some (0, 1) = some (m, k0) := es
    cases es
    obtain ⟨hk, _, _⟩ | ⟨_, rfl⟩ := ec
    · cases hk
    match plain, epl with
    | [], _ =>
      have rl : (row.map Int.toNat).length < 100 := by rw [List.length_map]; have := inside_row (p := 14) (by decide) C.ok; omega
      have rr : row.map V.int = natsV (row.map Int.toNat) := row_nats (fun q hq => C.nn q (by simp [hq]))
      rw [st14] at S
      exact ⟨_, rfl, d, dx, _, rfl, hd, rfl, _, rfl, d, lt, z, ro, a, row.map Int.toNat, rfl, D, by rw [← rr]; exact hro, rl, (Said.pure1 (does_pays a _) S D)⟩
  exact kN (by simp [x4, x15, x5, x11, x13, x14])
abbrev sAboutP : Stmt := top 56
theorem sc_about_promises : FnScope ["day", "number", "plain", "row"] ["day", "number", "plain", "row"] (defScope sAboutP) := ⟨rfl, rfl, rfl, by decide +kernel, rfl, by decide +kernel, by decide +kernel⟩
theorem ok_about_promises {f : Addr} {fd : FuncData} (F : Fun K "about_promises" "about_promises" sAboutP f fd) (T : Txt K mg CD CT)
    (c6 : ∃ t, mg "PROMISE" = some (.int 6 t))
    (c7 : ∃ t, mg "MAY" = some (.int 7 t))
    (c8 : ∃ t, mg "ONE" = some (.int 8 t))
    (c9 : ∃ t, mg "CALL" = some (.int 9 t))
    (c10 : ∃ t, mg "PUT" = some (.int 10 t))
    (c12 : ∃ t, mg "OF" = some (.int 12 t))
    {f6 : Addr} {fd6 : FuncData} (G6 : FnOk P w K mg base CX0 9 f6 fd6 ["self", "pays"] (spPromise CD CT)) (M6 : Meth K CD "promise" f6) (B6 : Binds K fd6 ["self", "pays"] [])
    {f7 : Addr} {fd7 : FuncData} (G7 : FnOk P w K mg base CX0 8 f7 fd7 ["self", "x", "y", "pays"] (spMay CD CT)) (M7 : Meth K CD "may" f7) (B7 : Binds K fd7 ["self", "x", "y", "pays"] [])
    {f8 : Addr} {fd8 : FuncData} (G8 : FnOk P w K mg base CX0 10 f8 fd8 ["self", "pays"] (spOne CD CT)) (M8 : Meth K CD "one" f8) (B8 : Binds K fd8 ["self", "pays"] [])
    {f9 : Addr} {fd9 : FuncData} (G9 : FnOk P w K mg base CX0 9 f9 fd9 ["self", "t", "k"] (spCall CD CT)) (M9 : Meth K CD "call" f9) (B9 : Binds K fd9 ["self", "t", "k"] [])
    {f10 : Addr} {fd10 : FuncData} (G10 : FnOk P w K mg base CX0 9 f10 fd10 ["self", "t", "k"] (spPut CD CT)) (M10 : Meth K CD "put" f10) (B10 : Binds K fd10 ["self", "t", "k"] [])
    {f12 : Addr} {fd12 : FuncData} (G12 : FnOk P w K mg base CX0 9 f12 fd12 ["self", "c"] (spOf CD CT)) (M12 : Meth K CD "of" f12) (B12 : Binds K fd12 ["self", "c"] []) :
    FnOk P w K mg base CX0 11 f fd ["day", "number", "plain", "row"] (spAbout CD CT [6, 7, 8, 9, 10, 12]) := by
  refine F.ok sc_about_promises (fun vs H Q E h => ?_) (fun cdv A outer s H vs Q E hr h => ?_)
  · obtain ⟨d, lt, z, pl, ro, a, p, plain, row, c, rfl, _⟩ := h
    rfl
  obtain ⟨d, lt, z, pl, ro, a, p, plain, row, c, rfl, hpl, hro, D, C, kS, kN⟩ := h
  obtain ⟨dx, as, hd, h2, h3⟩ := DayA.ex D
  refine ⟨_, (pss_cons (ps_if (pt_cmpR op_eq (pv 1) (pe_num c6) (nomark _)) (pss_one (ps_ret (pe_meth (pv 0) T.clD M6 G6 (hr.mono (by decide)) B6 .nil pass0 (pa_cons (pv 3) pa_nil)))) pss_nil)
      (pss_cons (ps_if (pt_cmpR op_eq (pv 1) (pe_num c7) (nomark _)) (pss_one (ps_ret (pe_meth (pv 0) T.clD M7 G7 (hr.mono (by decide)) B7 .nil pass0 (pa_cons (pe_ix ix_list (pv 2) pe_int (fun _ _ => rfl)) (pa_cons (pe_ix ix_list (pv 2) pe_int (fun _ _ => rfl)) (pa_cons (pv 3) pa_nil)))))) pss_nil)
      (pss_cons (ps_if (pt_cmpR op_eq (pv 1) (pe_num c8) (nomark _)) (pss_one (ps_ret (pe_meth (pv 0) T.clD M8 G8 (hr.mono (by decide)) B8 .nil pass0 (pa_cons (pv 3) pa_nil)))) pss_nil)
      (pss_cons (ps_if (pt_cmpR op_eq (pv 1) (pe_num c9) (nomark _)) (pss_one (ps_ret (pe_meth (pv 0) T.clD M9 G9 (hr.mono (by decide)) B9 .nil pass0 (pa_cons (pe_ix ix_list (pv 2) pe_int (fun _ _ => rfl)) (pa_cons (pe_ix ix_list (pv 2) pe_int (fun _ _ => rfl)) pa_nil))))) pss_nil)
      (pss_cons (ps_if (pt_cmpR op_eq (pv 1) (pe_num c10) (nomark _)) (pss_one (ps_ret (pe_meth (pv 0) T.clD M10 G10 (hr.mono (by decide)) B10 .nil pass0 (pa_cons (pe_ix ix_list (pv 2) pe_int (fun _ _ => rfl)) (pa_cons (pe_ix ix_list (pv 2) pe_int (fun _ _ => rfl)) pa_nil))))) pss_nil)
      (pss_cons (ps_if (pt_cmpR op_eq (pv 1) (pe_num c12) (nomark _)) (pss_one (ps_ret (pe_meth (pv 0) T.clD M12 G12 (hr.mono (by decide)) B12 .nil pass0 (pa_cons (pe_ix ix_list (pv 2) pe_int (fun _ _ => rfl)) pa_nil)))) pss_nil)
      (pss_one (ps_ret pe_non)))))))), ?_⟩
  refine ⟨_, rfl, rfl, _, rfl, ite_eq (fun he => ?_) (fun x6 => ?_)⟩
  · subst he
    have S := kS (by decide)
    obtain ⟨m, k0, es, epl, ec⟩ := C.sh
    have es : some (0, 1) = some (m, k0) := es
    cases es
    obtain ⟨hk, _, _⟩ | ⟨_, rfl⟩ := ec
    · cases hk
    match plain, epl with
    | [], _ =>
      have rl : (row.map Int.toNat).length < 100 := by rw [List.length_map]; have := inside_row (p := 6) (by decide) C.ok; omega
      have rr : row.map V.int = natsV (row.map Int.toNat) := row_nats (fun q hq => C.nn q (by simp [hq]))
      rw [st6] at S
      exact ⟨_, rfl, d, dx, _, rfl, hd, rfl, _, rfl, d, lt, z, ro, a, row.map Int.toNat, rfl, D, by rw [← rr]; exact hro, rl, (Said.pure1 (does_promise a _) S D)⟩
  refine ⟨_, rfl, rfl, _, rfl, ite_eq (fun he => ?_) (fun x7 => ?_)⟩
  · subst he
    have S := kS (by decide)
    obtain ⟨m, k0, es, epl, ec⟩ := C.sh
    have es : some (2, 1) = some (m, k0) := es
    cases es
    obtain ⟨hk, _, _⟩ | ⟨_, rfl⟩ := ec
    · cases hk
    match plain, epl with
    | [x, y], _ =>
      have nx : ((x.toNat : Nat) : Int) = x := Int.toNat_of_nonneg (C.nn x (by simp))
      have ny : ((y.toNat : Nat) : Int) = y := Int.toNat_of_nonneg (C.nn y (by simp))
      have rl : (row.map Int.toNat).length < 100 := by rw [List.length_map]; have := inside_row (p := 7) (by decide) C.ok; omega
      have rr : row.map V.int = natsV (row.map Int.toNat) := row_nats (fun q hq => C.nn q (by simp [hq]))
      rw [st7] at S
      exact ⟨_, rfl, d, dx, _, rfl, hd, rfl, _, rfl, pl, _, _, _, rfl, rfl, SqL.of hpl, rfl, _, rfl, pl, _, _, _, rfl, rfl, SqL.of hpl, rfl, _, rfl, d, lt, z, ro, a, x.toNat, y.toNat, row.map Int.toNat, (by rw [nx, ny]; rfl), D, by rw [← rr]; exact hro, rl, (Said.pure1 (does_may a _ _ _) S D)⟩
  refine ⟨_, rfl, rfl, _, rfl, ite_eq (fun he => ?_) (fun x8 => ?_)⟩
  · subst he
    have S := kS (by decide)
    obtain ⟨m, k0, es, epl, ec⟩ := C.sh
    have es : some (0, 1) = some (m, k0) := es
    cases es
    obtain ⟨hk, _, _⟩ | ⟨_, rfl⟩ := ec
    · cases hk
    match plain, epl with
    | [], _ =>
      have rl : (row.map Int.toNat).length < 100 := by rw [List.length_map]; have := inside_row (p := 8) (by decide) C.ok; omega
      have rr : row.map V.int = natsV (row.map Int.toNat) := row_nats (fun q hq => C.nn q (by simp [hq]))
      rw [st8] at S
      exact ⟨_, rfl, d, dx, _, rfl, hd, rfl, _, rfl, d, lt, z, ro, a, row.map Int.toNat, rfl, D, by rw [← rr]; exact hro, rl, (Said.pure1 (does_one a _) S D)⟩
  refine ⟨_, rfl, rfl, _, rfl, ite_eq (fun he => ?_) (fun x9 => ?_)⟩
  · subst he
    have S := kS (by decide)
    obtain ⟨m, k0, es, epl, ec⟩ := C.sh
    have es : some (2, 0) = some (m, k0) := es
    cases es
    obtain ⟨_, rfl, rfl⟩ | ⟨hk, _⟩ := ec
    rotate_left
    · cases hk
    match plain, epl with
    | [x, y], _ =>
      have nx : ((x.toNat : Nat) : Int) = x := Int.toNat_of_nonneg (C.nn x (by simp))
      have ny : ((y.toNat : Nat) : Int) = y := Int.toNat_of_nonneg (C.nn y (by simp))
      rw [st9] at S
      exact ⟨_, rfl, d, dx, _, rfl, hd, rfl, _, rfl, pl, _, _, _, rfl, rfl, SqL.of hpl, rfl, _, rfl, pl, _, _, _, rfl, rfl, SqL.of hpl, rfl, d, lt, z, a, x.toNat, y.toNat, (by rw [nx, ny]; rfl), D, (Said.pure1 (does_call a _ _) S D)⟩
  refine ⟨_, rfl, rfl, _, rfl, ite_eq (fun he => ?_) (fun x10 => ?_)⟩
  · subst he
    have S := kS (by decide)
    obtain ⟨m, k0, es, epl, ec⟩ := C.sh
    have es : some (2, 0) = some (m, k0) := es
    cases es
    obtain ⟨_, rfl, rfl⟩ | ⟨hk, _⟩ := ec
    rotate_left
    · cases hk
    match plain, epl with
    | [x, y], _ =>
      have nx : ((x.toNat : Nat) : Int) = x := Int.toNat_of_nonneg (C.nn x (by simp))
      have ny : ((y.toNat : Nat) : Int) = y := Int.toNat_of_nonneg (C.nn y (by simp))
      rw [st10] at S
      exact ⟨_, rfl, d, dx, _, rfl, hd, rfl, _, rfl, pl, _, _, _, rfl, rfl, SqL.of hpl, rfl, _, rfl, pl, _, _, _, rfl, rfl, SqL.of hpl, rfl, d, lt, z, a, x.toNat, y.toNat, (by rw [nx, ny]; rfl), D, (Said.pure1 (does_put a _ _) S D)⟩
  refine ⟨_, rfl, rfl, _, rfl, ite_eq (fun he => ?_) (fun x12 => ?_)⟩
  · subst he
    have S := kS (by decide)
    obtain ⟨m, k0, es, epl, ec⟩ := C.sh
    have es : some (1, 0) = some (m, k0) := es
    cases es
    obtain ⟨_, rfl, rfl⟩ | ⟨hk, _⟩ := ec
    rotate_left
    · cases hk
    match plain, epl with
    | [x], _ =>
      have nx : ((x.toNat : Nat) : Int) = x := Int.toNat_of_nonneg (C.nn x (by simp))
      rw [st12] at S
      exact ⟨_, rfl, d, dx, _, rfl, hd, rfl, _, rfl, pl, _, _, _, rfl, rfl, SqL.of hpl, rfl, d, lt, z, a, x.toNat, (by rw [nx]; rfl), D, (Said.pure1 (does_of a _) S D)⟩
  exact kN (by simp [x6, x7, x8, x9, x10, x12])
/-! ### answered -/
abbrev sAnswered : Stmt := top 57
theorem scAnswered : FnScope ["day", "number", "plain", "row", "answer"] ["day", "number", "plain", "row"] (defScope sAnswered) := ⟨rfl, rfl, rfl, by decide +kernel, rfl, by decide +kernel, by decide +kernel⟩
theorem ok_answered {f f1 f2 f3 : Addr} {fd fd1 fd2 fd3 : FuncData} (F : Fun K "answered" "answered" sAnswered f fd) (T : Txt K mg CD CT) (cNB : ∃ t, mg "NOT_BEGUN" = some (.int (-11) t)) (c0 : ∃ t, mg "BEGIN" = some (.int 0 t))
    {f0 : Addr} {fd0 : FuncData} (G0 : FnOk P w K mg base CX0 1 f0 fd0 ["self", "n", "p", "b"] (spBegin CD CT)) (M0 : Meth K CD "begin" f0) (B0 : Binds K fd0 ["self", "n", "p", "b"] [])
    (k1 : PySem.W.keepIn K (.ref f1) = true) (A1 : FnOk P w K mg base CX0 4 f1 fd1 ["day", "number", "plain", "row"] (spAbout CD CT [1, 2, 3, 16, 17, 18])) (m1 : mg "about_things" = some (.ref f1)) (b1 : Binds K fd1 ["day", "number", "plain", "row"] [])
    (k2 : PySem.W.keepIn K (.ref f2) = true) (A2 : FnOk P w K mg base CX0 8 f2 fd2 ["day", "number", "plain", "row"] (spAbout CD CT [4, 15, 5, 11, 13, 14])) (m2 : mg "about_fairness" = some (.ref f2)) (b2 : Binds K fd2 ["day", "number", "plain", "row"] [])
    (k3 : PySem.W.keepIn K (.ref f3) = true) (A3 : FnOk P w K mg base CX0 11 f3 fd3 ["day", "number", "plain", "row"] (spAbout CD CT [6, 7, 8, 9, 10, 12])) (m3 : mg "about_promises" = some (.ref f3)) (b3 : Binds K fd3 ["day", "number", "plain", "row"] []) :
    FnOk P w K mg base CX0 12 f fd ["day", "number", "plain", "row"] (spAnswered CD CT) := by
  refine F.ok scAnswered (fun vs H Q E h => ?_) (fun cdv A outer s H vs Q E hr h => ?_)
  · obtain ⟨d, lt, z, pl, ro, st, p, plain, row, c, rfl, _⟩ := h
    rfl
  obtain ⟨d, lt, z, pl, ro, st, p, plain, row, c, rfl, hpl, hro, D, C, S⟩ := h
  refine ⟨_, (pss_cons (ps_if (pt_cmpR op_eq (pv 1) (pe_num c0) (nomark _)) (pss_one (ps_ret (pe_meth (pv 0) T.clD M0 G0 (hr.mono (by decide)) B0 .nil pass0 (pa_cons (pe_ix ix_list (pv 2) pe_int (fun _ _ => rfl)) (pa_cons (pe_ix ix_list (pv 2) pe_int (fun _ _ => rfl)) (pa_cons (pe_ix ix_list (pv 2) pe_int (fun _ _ => rfl)) pa_nil)))))) pss_nil)
    (pss_cons (ps_if (pt_not (pt_val (pe_fld (pv 0) rfl))) (pss_one (ps_ret (pe_lst (pa_cons (pe_num cNB) pa_nil)))) pss_nil)
    (pss_cons (ps_set (i := 4) scAnswered.nd rfl (Or.inl rfl) (pe_call A1 (hr.mono (by decide)) rfl m1 k1 b1 .nil pass0 (pa_cons (pv 0) (pa_cons (pv 1) (pa_cons (pv 2) (pa_cons (pv 3) pa_nil))))))
    (pss_cons (ps_if (pt_cmpR op_isN (pv 4) pe_non (nomark _)) (pss_one (ps_set (i := 4) scAnswered.nd rfl (Or.inl rfl) (pe_call A2 (hr.mono (by decide)) rfl m2 k2 b2 .nil pass0 (pa_cons (pv 0) (pa_cons (pv 1) (pa_cons (pv 2) (pa_cons (pv 3) pa_nil))))))) pss_nil)
    (pss_cons (ps_if (pt_cmpR op_isN (pv 4) pe_non (nomark _)) (pss_one (ps_set (i := 4) scAnswered.nd rfl (Or.inl rfl) (pe_call A3 (hr.mono (by decide)) rfl m3 k3 b3 .nil pass0 (pa_cons (pv 0) (pa_cons (pv 1) (pa_cons (pv 2) (pa_cons (pv 3) pa_nil))))))) pss_nil)
    (pss_one (ps_ret (pv 4)))))))), ?_⟩
  refine ⟨_, rfl, rfl, _, rfl, ite_eq (fun he => ?_) (fun h0 => ?_)⟩
  · subst he
    obtain ⟨m, k0, es, epl, ec⟩ := C.sh
    have es : some (3, 0) = some (m, k0) := es
    cases es
    obtain ⟨_, rfl, rfl⟩ | ⟨hk, _⟩ := ec
    rotate_left
    · cases hk
    match plain, epl with
    | [x, y, u], _ =>
      have nx : ((x.toNat : Nat) : Int) = x := Int.toNat_of_nonneg (C.nn x (by simp))
      have ny : ((y.toNat : Nat) : Int) = y := Int.toNat_of_nonneg (C.nn y (by simp))
      have nu : ((u.toNat : Nat) : Int) = u := Int.toNat_of_nonneg (C.nn u (by simp))
      rw [st0] at S
      obtain ⟨dx, fs, hd, hl⟩ := D.look
      exact ⟨_, rfl, d, dx, _, rfl, hd, hl, _, rfl, pl, _, _, _, rfl, rfl, SqL.of hpl, rfl, _, rfl, pl, _, _, _, rfl, rfl, SqL.of hpl, rfl, _, rfl, pl, _, _, _, rfl, rfl, SqL.of hpl, rfl, d, lt, z, st, x.toNat, y.toNat, u.toNat, (by rw [nx, ny, nu]; rfl), D, S⟩
  cases st with
  | none =>
    rw [none_step C h0] at S
    obtain ⟨⟨dx, h1, h2⟩, h3⟩ := id D
    refine ⟨_, rfl, d, CD, dx, _, _, rfl, h1, T.clD, T.nB, rfl, _, rfl, ite2 (fun _ => ?_) (fun h => absurd rfl h)⟩
    exact Said.back S D (Same.refl H)
  | some a =>
    obtain ⟨dx, as, hd, h2, h3⟩ := DayA.ex D
    refine ⟨_, rfl, d, CD, dx, _, _, rfl, hd, T.clD, T.nB, rfl, _, rfl, ite2 (fun h => absurd h (by decide)) (fun _ => ?_)⟩
    refine ⟨_, rfl, _, rfl, _, rfl, _, rfl, d, lt, z, pl, ro, a, p, plain, row, c, rfl, hpl, hro, D, C, fun _ => ?_, fun x1 => ?_⟩
    · intro H' lt' t D' hlt keep ht nt tlt
      refine ⟨_, rfl, rfl, _, rfl, ite2 (fun hc => absurd (show V.ref t = V.non from of_decide_eq_true hc) (by intro h; cases h)) (fun _ => ?_)⟩
      refine ⟨_, rfl, rfl, _, rfl, ite2 (fun hc => absurd (show V.ref t = V.non from of_decide_eq_true hc) (by intro h; cases h)) (fun _ => ?_)⟩
      exact ⟨_, rfl, S H' lt' t D' hlt keep ht nt tlt⟩
    refine ⟨_, rfl, rfl, _, rfl, ite2 (fun _ => ?_) (fun hc => absurd rfl hc)⟩
    refine ⟨_, rfl, _, rfl, _, rfl, _, rfl, d, lt, z, pl, ro, a, p, plain, row, c, rfl, hpl, hro, D, C, fun _ => ?_, fun x2 => ?_⟩
    · intro H' lt' t D' hlt keep ht nt tlt
      refine ⟨_, rfl, rfl, _, rfl, ite2 (fun hc => absurd (show V.ref t = V.non from of_decide_eq_true hc) (by intro h; cases h)) (fun _ => ?_)⟩
      exact ⟨_, rfl, S H' lt' t D' hlt keep ht nt tlt⟩
    refine ⟨_, rfl, rfl, _, rfl, ite2 (fun _ => ?_) (fun hc => absurd rfl hc)⟩
    refine ⟨_, rfl, _, rfl, _, rfl, _, rfl, d, lt, z, pl, ro, a, p, plain, row, c, rfl, hpl, hro, D, C, fun _ => ?_, fun x3 => ?_⟩
    · intro H' lt' t D' hlt keep ht nt tlt
      exact ⟨_, rfl, S H' lt' t D' hlt keep ht nt tlt⟩
    · simp only [List.mem_cons, List.not_mem_nil, or_false] at x1 x2 x3
      rcases call_num C with rfl | rfl | rfl | rfl | rfl | rfl | rfl | rfl | rfl | rfl | rfl | rfl | rfl | rfl | rfl | rfl | rfl | rfl | rfl <;> simp_all
end
end DA
set_option Elab.async false
set_option maxRecDepth 100000
set_option maxHeartbeats 4000000
namespace DA
open PySem PySem.Spec PyProof.Rows L2
open Su109 (Abs does)
section
variable {P : Program} {w : World} {K : PySem.W.Frag} {mg : Str → Option Value} {base h : Heap} {CD CT : Addr}
theorem CF.cls {x : Str} {C : Addr} (c : CF K x C) : Cls K C := ⟨c.pg, c.hd, c.po, c.sa⟩
theorem nf_mg {x : Str} {i : Int} (n : NF K x i) (X : K.In h) (G : h.Ns mainGlobals mg) : ∃ t, mg x = some (.int i t) := let ⟨t, e⟩ := n; ⟨t, PySem.W.mg_of X G e⟩
theorem txt_mk (X : K.In h) (G : h.Ns mainGlobals mg) (cD : CF K "Day" CD) (cT : CF K "Thing" CT) (nB : NoAttr K CD "begun") (nW : NoAttr K CD "width") (nL : NoAttr K CD "lent") (nK : NoAttr K CD "back") (nT : NoAttr K CD "things") (nC : NoAttr K CT "cost") (nX : NoAttr K CT "worths")
    (bl : BF K "len") (bi : BF K "list") (ba : BF K "all") (bm : BF K "max") (v1 : NF K "NONE_SUCH" (-2)) (v2 : NF K "NOT_FAIR" (-16)) (v3 : NF K "OUT_OF_RANGE" (-22)) (v4 : NF K "TOO_MANY" (-28)) (v5 : NF K "MOST_THAT_MAY_COME" 4) (v6 : NF K "MOST_THINGS" 2) (v7 : NF K "MOST" 1000) (v8 : NF K "MOST_X" 1000000) : Txt K mg CD CT where
  clD := cD.cls
  clT := cT.cls
  nB := nB
  nW := nW
  nL := nL
  nK := nK
  nT := nT
  nC := nC
  nX := nX
  len := PySem.W.mg_none_of X G bl
  list := PySem.W.mg_none_of X G bi
  all := PySem.W.mg_none_of X G ba
  max := PySem.W.mg_none_of X G bm
  mNone := nf_mg v1 X G
  mFair := nf_mg v2 X G
  mRange := nf_mg v3 X G
  mMany := nf_mg v4 X G
  mCome := nf_mg v5 X G
  mThings := nf_mg v6 X G
  mMost := nf_mg v7 X G
  mX := nf_mg v8 X G
/-- the methods -/
structure Mid (P : Program) (w : World) (K : PySem.W.Frag) (mg : Str → Option Value) (base : Heap) (CD CT : Addr) : Prop where
  init : ∃ f fd, Mk K CD f ∧ FnOk P w K mg base CX0 1 f fd ["self"] (spInitD CD) ∧ Binds K fd ["self"] []
  q_begin : MO P w K mg base CD "begin" 1 ["self", "n", "p", "b"] (spBegin CD CT)
  q_thing : MO P w K mg base CD "thing" 3 ["self", "p", "worths"] (spThing CD CT)
  q_drop : MO P w K mg base CD "drop" 2 ["self", "t"] (spDrop CD CT)
  q_price : MO P w K mg base CD "price" 3 ["self", "t", "p"] (spPrice CD CT)
  q_fair : MO P w K mg base CD "fair" 7 ["self"] (spFairM CD CT)
  q_corners : MO P w K mg base CD "corners" 7 ["self"] (spCorners CD CT)
  q_promise : MO P w K mg base CD "promise" 9 ["self", "pays"] (spPromise CD CT)
  q_may : MO P w K mg base CD "may" 8 ["self", "x", "y", "pays"] (spMay CD CT)
  q_one : MO P w K mg base CD "one" 10 ["self", "pays"] (spOne CD CT)
  q_call : MO P w K mg base CD "call" 9 ["self", "t", "k"] (spCall CD CT)
  q_put : MO P w K mg base CD "put" 9 ["self", "t", "k"] (spPut CD CT)
  q_whole : MO P w K mg base CD "whole" 7 ["self"] (spWhole CD CT)
  q_of : MO P w K mg base CD "of" 9 ["self", "c"] (spOf CD CT)
  q_free : MO P w K mg base CD "free" 2 ["self", "some"] (spFree CD CT)
  q_pays : MO P w K mg base CD "pays" 2 ["self", "some"] (spPays CD CT)
  q_would : MO P w K mg base CD "would" 6 ["self", "t", "p"] (spWould CD CT)
  q_look : MO P w K mg base CD "look" 2 ["self", "t"] (spLook CD CT)
  q_rate : MO P w K mg base CD "rate" 3 ["self"] (spRate CD CT)
  q_state : MO P w K mg base CD "state" 1 ["self"] (spState CD CT)
theorem mid_ok (X : K.In h) (G : h.Ns mainGlobals mg) (T : Txt K mg CD CT) (hrg : mg "range" = none) (L : Low P w K mg base) (cD : CF K "Day" CD) (cT : CF K "Thing" CT)
    (m1 : MF K CD "__init__" "Day.__init__" sInitD)
    (m2 : MF K CD "begin" "Day.begin" sBegin)
    (m3 : MF K CD "thing" "Day.thing" sThing)
    (m4 : MF K CD "drop" "Day.drop" sDrop)
    (m5 : MF K CD "price" "Day.price" sPrice)
    (m6 : MF K CD "look" "Day.look" sLook)
    (m7 : MF K CD "rate" "Day.rate" sRate)
    (m8 : MF K CD "state" "Day.state" sState)
    (m9 : MF K CD "fair" "Day.fair" sFairM)
    (m10 : MF K CD "would" "Day.would" sWould)
    (m11 : MF K CD "corners" "Day.corners" sCorners)
    (m12 : MF K CD "whole" "Day.whole" sWhole)
    (m13 : MF K CD "free" "Day.free" sFree)
    (m14 : MF K CD "pays" "Day.pays" sPays)
    (m15 : MF K CD "promise" "Day.promise" sPromise)
    (m16 : MF K CD "may" "Day.may" sMay)
    (m17 : MF K CD "one" "Day.one" sOne)
    (m18 : MF K CD "call" "Day.call" sCall)
    (m19 : MF K CD "put" "Day.put" sPut)
    (m20 : MF K CD "of" "Day.of" sOf)
    (m21 : MF K CD "has_thing" "Day.has_thing" sHas)
    (m22 : MF K CD "refusal" "Day.refusal" sRefusal)
    (m23 : MF K CD "is_row" "Day.is_row" sIsRow)
    (m24 : MF K CD "is_some" "Day.is_some" sIsSome)
    (m25 : MF K CD "rows" "Day.rows" sRows)
    (m26 : MF K CD "all_corners" "Day.all_corners" sAllC)
    (m27 : MF K CD "span" "Day.span" sSpan)
    (m28 : MF K CD "priced" "Day.priced" sPriced)
    (mT : MF K CT "__init__" "Thing.__init__" sInitT) : Mid P w K mg base CD CT := by
  obtain ⟨f1, d1, F1, a1, i1⟩ := m1
  obtain ⟨f2, d2, F2, a2, i2⟩ := m2
  obtain ⟨f3, d3, F3, a3, i3⟩ := m3
  obtain ⟨f4, d4, F4, a4, i4⟩ := m4
  obtain ⟨f5, d5, F5, a5, i5⟩ := m5
  obtain ⟨f6, d6, F6, a6, i6⟩ := m6
  obtain ⟨f7, d7, F7, a7, i7⟩ := m7
  obtain ⟨f8, d8, F8, a8, i8⟩ := m8
  obtain ⟨f9, d9, F9, a9, i9⟩ := m9
  obtain ⟨f10, d10, F10, a10, i10⟩ := m10
  obtain ⟨f11, d11, F11, a11, i11⟩ := m11
  obtain ⟨f12, d12, F12, a12, i12⟩ := m12
  obtain ⟨f13, d13, F13, a13, i13⟩ := m13
  obtain ⟨f14, d14, F14, a14, i14⟩ := m14
  obtain ⟨f15, d15, F15, a15, i15⟩ := m15
  obtain ⟨f16, d16, F16, a16, i16⟩ := m16
  obtain ⟨f17, d17, F17, a17, i17⟩ := m17
  obtain ⟨f18, d18, F18, a18, i18⟩ := m18
  obtain ⟨f19, d19, F19, a19, i19⟩ := m19
  obtain ⟨f20, d20, F20, a20, i20⟩ := m20
  obtain ⟨f21, d21, F21, a21, i21⟩ := m21
  obtain ⟨f22, d22, F22, a22, i22⟩ := m22
  obtain ⟨f23, d23, F23, a23, i23⟩ := m23
  obtain ⟨f24, d24, F24, a24, i24⟩ := m24
  obtain ⟨f25, d25, F25, a25, i25⟩ := m25
  obtain ⟨f26, d26, F26, a26, i26⟩ := m26
  obtain ⟨f27, d27, F27, a27, i27⟩ := m27
  obtain ⟨f28, d28, F28, a28, i28⟩ := m28
  obtain ⟨ft, dt, Ft, at', it⟩ := mT
  obtain ⟨fr, dr, kr, Or, mr, br⟩ := L.ratio
  obtain ⟨fl, dl, kl, Ol, ml, bl⟩ := L.less
  obtain ⟨ff, df, kf, Of, mf, bf⟩ := L.find
  obtain ⟨fa, da, ka, Oa, ma, ba⟩ := L.fair
  obtain ⟨fg, dg, kg, Og, mg', bg⟩ := L.least
  obtain ⟨ftg, dtg, kt, Otg, mt, btg⟩ := L.tog
  obtain ⟨fm, dm, km, Om, mm, bm⟩ := L.money
  have b1 := F1.binds (ps := ["self"]) fun _ _ _ _ _ _ us hl => match us, hl with | [_], _ => rfl
  have b2 := F2.binds (ps := ["self", "n", "p", "b"]) fun _ _ _ _ _ _ us hl => match us, hl with | [_, _, _, _], _ => rfl
  have b3 := F3.binds (ps := ["self", "p", "worths"]) fun _ _ _ _ _ _ us hl => match us, hl with | [_, _, _], _ => rfl
  have b4 := F4.binds (ps := ["self", "t"]) fun _ _ _ _ _ _ us hl => match us, hl with | [_, _], _ => rfl
  have b5 := F5.binds (ps := ["self", "t", "p"]) fun _ _ _ _ _ _ us hl => match us, hl with | [_, _, _], _ => rfl
  have b6 := F6.binds (ps := ["self", "t"]) fun _ _ _ _ _ _ us hl => match us, hl with | [_, _], _ => rfl
  have b7 := F7.binds (ps := ["self"]) fun _ _ _ _ _ _ us hl => match us, hl with | [_], _ => rfl
  have b8 := F8.binds (ps := ["self"]) fun _ _ _ _ _ _ us hl => match us, hl with | [_], _ => rfl
  have b9 := F9.binds (ps := ["self"]) fun _ _ _ _ _ _ us hl => match us, hl with | [_], _ => rfl
  have b10 := F10.binds (ps := ["self", "t", "p"]) fun _ _ _ _ _ _ us hl => match us, hl with | [_, _, _], _ => rfl
  have b11 := F11.binds (ps := ["self"]) fun _ _ _ _ _ _ us hl => match us, hl with | [_], _ => rfl
  have b12 := F12.binds (ps := ["self"]) fun _ _ _ _ _ _ us hl => match us, hl with | [_], _ => rfl
  have b13 := F13.binds (ps := ["self", "some"]) fun _ _ _ _ _ _ us hl => match us, hl with | [_, _], _ => rfl
  have b14 := F14.binds (ps := ["self", "some"]) fun _ _ _ _ _ _ us hl => match us, hl with | [_, _], _ => rfl
  have b15 := F15.binds (ps := ["self", "pays"]) fun _ _ _ _ _ _ us hl => match us, hl with | [_, _], _ => rfl
  have b16 := F16.binds (ps := ["self", "x", "y", "pays"]) fun _ _ _ _ _ _ us hl => match us, hl with | [_, _, _, _], _ => rfl
  have b17 := F17.binds (ps := ["self", "pays"]) fun _ _ _ _ _ _ us hl => match us, hl with | [_, _], _ => rfl
  have b18 := F18.binds (ps := ["self", "t", "k"]) fun _ _ _ _ _ _ us hl => match us, hl with | [_, _, _], _ => rfl
  have b19 := F19.binds (ps := ["self", "t", "k"]) fun _ _ _ _ _ _ us hl => match us, hl with | [_, _, _], _ => rfl
  have b20 := F20.binds (ps := ["self", "c"]) fun _ _ _ _ _ _ us hl => match us, hl with | [_, _], _ => rfl
  have b21 := F21.binds (ps := ["self", "t"]) fun _ _ _ _ _ _ us hl => match us, hl with | [_, _], _ => rfl
  have b22 := F22.binds (ps := ["self", "t", "number"]) fun _ _ _ _ _ _ us hl => match us, hl with | [_, _, _], _ => rfl
  have b23 := F23.binds (ps := ["self", "numbers"]) fun _ _ _ _ _ _ us hl => match us, hl with | [_, _], _ => rfl
  have b24 := F24.binds (ps := ["self", "numbers"]) fun _ _ _ _ _ _ us hl => match us, hl with | [_, _], _ => rfl
  have b25 := F25.binds (ps := ["self"]) fun _ _ _ _ _ _ us hl => match us, hl with | [_], _ => rfl
  have b26 := F26.binds (ps := ["self"]) fun _ _ _ _ _ _ us hl => match us, hl with | [_], _ => rfl
  have b27 := F27.binds (ps := ["self", "pays"]) fun _ _ _ _ _ _ us hl => match us, hl with | [_, _], _ => rfl
  have b28 := F28.binds (ps := ["self", "pays"]) fun _ _ _ _ _ _ us hl => match us, hl with | [_, _], _ => rfl
  have bt := Ft.binds (ps := ["self", "cost", "worths"]) fun _ _ _ _ _ _ us hl => match us, hl with | [_, _, _], _ => rfl
  have O1 : FnOk P w K mg base CX0 1 f1 d1 _ (spInitD CD) := ok_initD F1 T
  have Ot : FnOk P w K mg base CX0 1 ft dt _ (spInitT CT) := ok_initT Ft T
  have M21 : Meth K CD "has_thing" f21 := ⟨a21, i21, F21.kp⟩
  have O21 : FnOk P w K mg base CX0 1 f21 d21 _ (spHas CD CT) := ok_has F21 T 
  have M22 : Meth K CD "refusal" f22 := ⟨a22, i22, F22.kp⟩
  have O22 : FnOk P w K mg base CX0 2 f22 d22 _ (spRefusal CD CT) := ok_refusal F22 T O21 M21 b21
  have M23 : Meth K CD "is_row" f23 := ⟨a23, i23, F23.kp⟩
  have O23 : FnOk P w K mg base CX0 1 f23 d23 _ (spIsRow CD CT) := ok_isRow F23 T 
  have M24 : Meth K CD "is_some" f24 := ⟨a24, i24, F24.kp⟩
  have O24 : FnOk P w K mg base CX0 1 f24 d24 _ (spIsSome CD CT) := ok_isSome F24 T 
  have M25 : Meth K CD "rows" f25 := ⟨a25, i25, F25.kp⟩
  have O25 : FnOk P w K mg base CX0 1 f25 d25 _ (spRows CD CT) := ok_rows F25 T 
  have M26 : Meth K CD "all_corners" f26 := ⟨a26, i26, F26.kp⟩
  have O26 : FnOk P w K mg base CX0 6 f26 d26 _ (spAllC CD CT) := ok_allC F26 T O25 M25 b25 kf Of mf bf
  have M27 : Meth K CD "span" f27 := ⟨a27, i27, F27.kp⟩
  have O27 : FnOk P w K mg base CX0 7 f27 d27 _ (spSpan CD CT) := ok_span F27 T O26 M26 b26 ka Oa ma ba kg Og mg' bg
  have M28 : Meth K CD "priced" f28 := ⟨a28, i28, F28.kp⟩
  have O28 : FnOk P w K mg base CX0 8 f28 d28 _ (spPriced CD CT) := ok_priced F28 T O27 M27 b27
  have M2 : Meth K CD "begin" f2 := ⟨a2, i2, F2.kp⟩
  have O2 : FnOk P w K mg base CX0 1 f2 d2 _ (spBegin CD CT) := ok_begin F2 T 
  have M3 : Meth K CD "thing" f3 := ⟨a3, i3, F3.kp⟩
  have O3 : FnOk P w K mg base CX0 3 f3 d3 _ (spThing CD CT) := ok_thing F3 T O23 M23 b23 ⟨cT.mks, at', it, cT.kc⟩ Ot (PySem.W.mg_of X G cT.ns) bt
  have M4 : Meth K CD "drop" f4 := ⟨a4, i4, F4.kp⟩
  have O4 : FnOk P w K mg base CX0 2 f4 d4 _ (spDrop CD CT) := ok_drop F4 T O21 M21 b21
  have M5 : Meth K CD "price" f5 := ⟨a5, i5, F5.kp⟩
  have O5 : FnOk P w K mg base CX0 3 f5 d5 _ (spPrice CD CT) := ok_price F5 T O22 M22 b22
  have M6 : Meth K CD "look" f6 := ⟨a6, i6, F6.kp⟩
  have O6 : FnOk P w K mg base CX0 2 f6 d6 _ (spLook CD CT) := ok_look F6 T O21 M21 b21
  have M7 : Meth K CD "rate" f7 := ⟨a7, i7, F7.kp⟩
  have O7 : FnOk P w K mg base CX0 3 f7 d7 _ (spRate CD CT) := ok_rate F7 T kr Or mr br
  have M8 : Meth K CD "state" f8 := ⟨a8, i8, F8.kp⟩
  have O8 : FnOk P w K mg base CX0 1 f8 d8 _ (spState CD CT) := ok_state F8 T 
  have M9 : Meth K CD "fair" f9 := ⟨a9, i9, F9.kp⟩
  have O9 : FnOk P w K mg base CX0 7 f9 d9 _ (spFairM CD CT) := ok_fairM F9 T O26 M26 b26 ka Oa ma ba
  have M10 : Meth K CD "would" f10 := ⟨a10, i10, F10.kp⟩
  have O10 : FnOk P w K mg base CX0 6 f10 d10 _ (spWould CD CT) := ok_would F10 T O22 M22 b22 O25 M25 b25 kf Of mf bf ka Oa ma ba
  have M11 : Meth K CD "corners" f11 := ⟨a11, i11, F11.kp⟩
  have O11 : FnOk P w K mg base CX0 7 f11 d11 _ (spCorners CD CT) := ok_corners F11 T O26 M26 b26
  have M12 : Meth K CD "whole" f12 := ⟨a12, i12, F12.kp⟩
  have O12 : FnOk P w K mg base CX0 7 f12 d12 _ (spWhole CD CT) := ok_whole F12 T O26 M26 b26 ka Oa ma ba
  have M13 : Meth K CD "free" f13 := ⟨a13, i13, F13.kp⟩
  have O13 : FnOk P w K mg base CX0 2 f13 d13 _ (spFree CD CT) := ok_free F13 T O24 M24 b24 O25 M25 b25 kt Otg mt btg km Om mm bm
  have M14 : Meth K CD "pays" f14 := ⟨a14, i14, F14.kp⟩
  have O14 : FnOk P w K mg base CX0 2 f14 d14 _ (spPays CD CT) := ok_pays F14 T O24 M24 b24 O25 M25 b25 kt Otg mt btg
  have M15 : Meth K CD "promise" f15 := ⟨a15, i15, F15.kp⟩
  have O15 : FnOk P w K mg base CX0 9 f15 d15 _ (spPromise CD CT) := ok_promise F15 T O23 M23 b23 O28 M28 b28
  have M16 : Meth K CD "may" f16 := ⟨a16, i16, F16.kp⟩
  have O16 : FnOk P w K mg base CX0 8 f16 d16 _ (spMay CD CT) := ok_may F16 T O23 M23 b23 O27 M27 b27 kr Or mr br kl Ol ml bl
  have M17 : Meth K CD "one" f17 := ⟨a17, i17, F17.kp⟩
  have O17 : FnOk P w K mg base CX0 10 f17 d17 _ (spOne CD CT) := ok_one F17 T O15 M15 b15
  have M18 : Meth K CD "call" f18 := ⟨a18, i18, F18.kp⟩
  have O18 : FnOk P w K mg base CX0 9 f18 d18 _ (spCall CD CT) := ok_call F18 T O22 M22 b22 O28 M28 b28
  have M19 : Meth K CD "put" f19 := ⟨a19, i19, F19.kp⟩
  have O19 : FnOk P w K mg base CX0 9 f19 d19 _ (spPut CD CT) := ok_put F19 T O22 M22 b22 O28 M28 b28
  have M20 : Meth K CD "of" f20 := ⟨a20, i20, F20.kp⟩
  have O20 : FnOk P w K mg base CX0 9 f20 d20 _ (spOf CD CT) := ok_of F20 T hrg O28 M28 b28
  exact ⟨⟨f1, d1, ⟨cD.mks, a1, i1, cD.kc⟩, O1, b1⟩, ⟨f2, d2, O2, M2, b2⟩, ⟨f3, d3, O3, M3, b3⟩, ⟨f4, d4, O4, M4, b4⟩, ⟨f5, d5, O5, M5, b5⟩, ⟨f9, d9, O9, M9, b9⟩, ⟨f11, d11, O11, M11, b11⟩, ⟨f15, d15, O15, M15, b15⟩, ⟨f16, d16, O16, M16, b16⟩, ⟨f17, d17, O17, M17, b17⟩, ⟨f18, d18, O18, M18, b18⟩, ⟨f19, d19, O19, M19, b19⟩, ⟨f12, d12, O12, M12, b12⟩, ⟨f20, d20, O20, M20, b20⟩, ⟨f13, d13, O13, M13, b13⟩, ⟨f14, d14, O14, M14, b14⟩, ⟨f10, d10, O10, M10, b10⟩, ⟨f6, d6, O6, M6, b6⟩, ⟨f7, d7, O7, M7, b7⟩, ⟨f8, d8, O8, M8, b8⟩⟩
/-- the answers -/
theorem top_ok (X : K.In h) (G : h.Ns mainGlobals mg) (T : Txt K mg CD CT) (M : Mid P w K mg base CD CT) (cD : CF K "Day" CD) (tP : TF K "PLAIN_NUMBERS" plainT) (vNB : NF K "NOT_BEGUN" (-11))
    (n0 : NF K "BEGIN" 0)
    (n1 : NF K "THING" 1)
    (n2 : NF K "DROP" 2)
    (n3 : NF K "PRICE" 3)
    (n4 : NF K "FAIR" 4)
    (n5 : NF K "CORNERS" 5)
    (n6 : NF K "PROMISE" 6)
    (n7 : NF K "MAY" 7)
    (n8 : NF K "ONE" 8)
    (n9 : NF K "CALL" 9)
    (n10 : NF K "PUT" 10)
    (n11 : NF K "WHOLE" 11)
    (n12 : NF K "OF" 12)
    (n13 : NF K "FREE" 13)
    (n14 : NF K "PAYS" 14)
    (n15 : NF K "WOULD" 15)
    (n16 : NF K "LOOK" 16)
    (n17 : NF K "RATE" 17)
    (n18 : NF K "STATE" 18)
    (gh : GF K "has_row" sHasRow) (g1 : GF K "about_things" sAboutT) (g2 : GF K "about_fairness" sAboutF) (g3 : GF K "about_promises" sAboutP) (ga : GF K "answered" sAnswered)
    {f : Addr} {fd : FuncData} (F : Fun K "answers" "answers" sAnswers f fd) : FnOk P w K mg base CX0 13 f fd ["calls"] (spAns1 K) := by
  obtain ⟨fi, di, MI, OI, bI⟩ := M.init
  obtain ⟨f0, d0, O0, M0, b0⟩ := M.q_begin
  obtain ⟨f1, d1, O1, M1, b1⟩ := M.q_thing
  obtain ⟨f2, d2, O2, M2, b2⟩ := M.q_drop
  obtain ⟨f3, d3, O3, M3, b3⟩ := M.q_price
  obtain ⟨f4, d4, O4, M4, b4⟩ := M.q_fair
  obtain ⟨f5, d5, O5, M5, b5⟩ := M.q_corners
  obtain ⟨f6, d6, O6, M6, b6⟩ := M.q_promise
  obtain ⟨f7, d7, O7, M7, b7⟩ := M.q_may
  obtain ⟨f8, d8, O8, M8, b8⟩ := M.q_one
  obtain ⟨f9, d9, O9, M9, b9⟩ := M.q_call
  obtain ⟨f10, d10, O10, M10, b10⟩ := M.q_put
  obtain ⟨f11, d11, O11, M11, b11⟩ := M.q_whole
  obtain ⟨f12, d12, O12, M12, b12⟩ := M.q_of
  obtain ⟨f13, d13, O13, M13, b13⟩ := M.q_free
  obtain ⟨f14, d14, O14, M14, b14⟩ := M.q_pays
  obtain ⟨f15, d15, O15, M15, b15⟩ := M.q_would
  obtain ⟨f16, d16, O16, M16, b16⟩ := M.q_look
  obtain ⟨f17, d17, O17, M17, b17⟩ := M.q_rate
  obtain ⟨f18, d18, O18, M18, b18⟩ := M.q_state
  have c0 := nf_mg n0 X G
  have c1 := nf_mg n1 X G
  have c2 := nf_mg n2 X G
  have c3 := nf_mg n3 X G
  have c4 := nf_mg n4 X G
  have c5 := nf_mg n5 X G
  have c6 := nf_mg n6 X G
  have c7 := nf_mg n7 X G
  have c8 := nf_mg n8 X G
  have c9 := nf_mg n9 X G
  have c10 := nf_mg n10 X G
  have c11 := nf_mg n11 X G
  have c12 := nf_mg n12 X G
  have c13 := nf_mg n13 X G
  have c14 := nf_mg n14 X G
  have c15 := nf_mg n15 X G
  have c16 := nf_mg n16 X G
  have c17 := nf_mg n17 X G
  have c18 := nf_mg n18 X G
  obtain ⟨fh', dh', Fh', ah'⟩ := gh
  obtain ⟨fx', dx', Fx', ax'⟩ := g1
  obtain ⟨fy', dy', Fy', ay'⟩ := g2
  obtain ⟨fw', dw', Fw', aw'⟩ := g3
  obtain ⟨fa', da', Fa', aa'⟩ := ga
  have bh' := Fh'.binds (ps := ["number"]) fun _ _ _ _ _ _ us hl => match us, hl with | [_], _ => rfl
  have bx' := Fx'.binds (ps := ["day", "number", "plain", "row"]) fun _ _ _ _ _ _ us hl => match us, hl with | [_, _, _, _], _ => rfl
  have by' := Fy'.binds (ps := ["day", "number", "plain", "row"]) fun _ _ _ _ _ _ us hl => match us, hl with | [_, _, _, _], _ => rfl
  have bw' := Fw'.binds (ps := ["day", "number", "plain", "row"]) fun _ _ _ _ _ _ us hl => match us, hl with | [_, _, _, _], _ => rfl
  have ba' := Fa'.binds (ps := ["day", "number", "plain", "row"]) fun _ _ _ _ _ _ us hl => match us, hl with | [_, _, _, _], _ => rfl
  have Oh : FnOk P w K mg base CX0 1 fh' dh' _ spHasRow := ok_hasRow Fh' c1 c6 c7 c8 c13 c14
  have Ox' : FnOk P w K mg base CX0 4 fx' dx' _ (spAbout CD CT [1, 2, 3, 16, 17, 18]) := ok_about_things Fx' T c1 c2 c3 c16 c17 c18 O1 M1 b1 O2 M2 b2 O3 M3 b3 O16 M16 b16 O17 M17 b17 O18 M18 b18
  have Oy' : FnOk P w K mg base CX0 8 fy' dy' _ (spAbout CD CT [4, 15, 5, 11, 13, 14]) := ok_about_fairness Fy' T c4 c15 c5 c11 c13 c14 O4 M4 b4 O15 M15 b15 O5 M5 b5 O11 M11 b11 O13 M13 b13 O14 M14 b14
  have Ow' : FnOk P w K mg base CX0 11 fw' dw' _ (spAbout CD CT [6, 7, 8, 9, 10, 12]) := ok_about_promises Fw' T c6 c7 c8 c9 c10 c12 O6 M6 b6 O7 M7 b7 O8 M8 b8 O9 M9 b9 O10 M10 b10 O12 M12 b12
  have Oa' : FnOk P w K mg base CX0 12 fa' da' _ (spAnswered CD CT) := ok_answered Fa' T (nf_mg vNB X G) c0 O0 M0 b0 Fx'.kp Ox' (PySem.W.mg_of X G ax') bx' Fy'.kp Oy' (PySem.W.mg_of X G ay') by' Fw'.kp Ow' (PySem.W.mg_of X G aw') bw'
  obtain ⟨tp, htp, sP⟩ := tP
  exact ok_answers F T.len MI OI (PySem.W.mg_of X G cD.ns) bI Fa'.kp Oa' (PySem.W.mg_of X G aa') ba' (PySem.W.mg_of X G htp) sP Fh'.kp Oh (PySem.W.mg_of X G ah') bh'
end
end DA
set_option Elab.async false
set_option maxRecDepth 100000
set_option maxHeartbeats 2000000
namespace DA
open PySem PySem.Spec PyProof.Rows L2
theorem arg_of {K : PySem.W.Frag} {H : Hp} {a : Addr} {xs : List V} (hO : OnlyF H) (h : SqL K H a xs) : ArgAt K H a xs := by
  rcases h with (h | h) | h
  · rcases hO a with e | ⟨o, u, e⟩
    · rw [h] at e; cases e
    · rw [h] at e; cases e
  · exact .inl h
  · exact .inr h
theorem all_mk {P : Program} {w : World} {K : PySem.W.Frag} {h : Heap} {mg : Str → Option Value} {fa : Addr} (X : K.In h) (G : h.Ns mainGlobals mg) (hfa : mg "answers" = some (.ref fa))
    (g1 : GF K "common_part" sCommon)
    (g2 : GF K "ratio" sRatio)
    (g3 : GF K "add" sAdd)
    (g4 : GF K "times" sTimes)
    (g5 : GF K "is_less" sLess)
    (g6 : GF K "choices" sChoices)
    (g7 : GF K "pivot_row" sPivot)
    (g8 : GF K "cleared" sCleared)
    (g9 : GF K "solved" sSolved)
    (g10 : GF K "narrowed" sNarrowed)
    (g11 : GF K "corner_on" sCorner)
    (g12 : GF K "find_corners" sFind)
    (g13 : GF K "are_fair" sFair)
    (g14 : GF K "worth_by" sWorth)
    (g15 : GF K "least_and_greatest" sLeast)
    (g16 : GF K "together" sTogether)
    (g17 : GF K "is_money_for_nothing" sMoney)
    (b1 : BF K "abs")
    (b2 : BF K "range")
    (b3 : BF K "len")
    (b4 : BF K "enumerate")
    (b5 : BF K "zip")
    (b6 : BF K "list")
    (b7 : BF K "any")
    (b8 : BF K "min")
    (b9 : BF K "max")
    (b10 : BF K "all")
    (v1 : NF K "NONE_SUCH" (-2))
    (v2 : NF K "NOT_FAIR" (-16))
    (v3 : NF K "OUT_OF_RANGE" (-22))
    (v4 : NF K "TOO_MANY" (-28))
    (v5 : NF K "MOST_THAT_MAY_COME" (4))
    (v6 : NF K "MOST_THINGS" (2))
    (v7 : NF K "MOST" (1000))
    (v8 : NF K "MOST_X" (1000000))
    (vNB : NF K "NOT_BEGUN" (-11))
    (n0 : NF K "BEGIN" 0)
    (n1 : NF K "THING" 1)
    (n2 : NF K "DROP" 2)
    (n3 : NF K "PRICE" 3)
    (n4 : NF K "FAIR" 4)
    (n5 : NF K "CORNERS" 5)
    (n6 : NF K "PROMISE" 6)
    (n7 : NF K "MAY" 7)
    (n8 : NF K "ONE" 8)
    (n9 : NF K "CALL" 9)
    (n10 : NF K "PUT" 10)
    (n11 : NF K "WHOLE" 11)
    (n12 : NF K "OF" 12)
    (n13 : NF K "FREE" 13)
    (n14 : NF K "PAYS" 14)
    (n15 : NF K "WOULD" 15)
    (n16 : NF K "LOOK" 16)
    (n17 : NF K "RATE" 17)
    (n18 : NF K "STATE" 18)
    (tP : TF K "PLAIN_NUMBERS" plainT)
    {CD CT : Addr} (cD : CF K "Day" CD) (cT : CF K "Thing" CT)
    (m1 : MF K CD "__init__" "Day.__init__" sInitD)
    (m2 : MF K CD "begin" "Day.begin" sBegin)
    (m3 : MF K CD "thing" "Day.thing" sThing)
    (m4 : MF K CD "drop" "Day.drop" sDrop)
    (m5 : MF K CD "price" "Day.price" sPrice)
    (m6 : MF K CD "look" "Day.look" sLook)
    (m7 : MF K CD "rate" "Day.rate" sRate)
    (m8 : MF K CD "state" "Day.state" sState)
    (m9 : MF K CD "fair" "Day.fair" sFairM)
    (m10 : MF K CD "would" "Day.would" sWould)
    (m11 : MF K CD "corners" "Day.corners" sCorners)
    (m12 : MF K CD "whole" "Day.whole" sWhole)
    (m13 : MF K CD "free" "Day.free" sFree)
    (m14 : MF K CD "pays" "Day.pays" sPays)
    (m15 : MF K CD "promise" "Day.promise" sPromise)
    (m16 : MF K CD "may" "Day.may" sMay)
    (m17 : MF K CD "one" "Day.one" sOne)
    (m18 : MF K CD "call" "Day.call" sCall)
    (m19 : MF K CD "put" "Day.put" sPut)
    (m20 : MF K CD "of" "Day.of" sOf)
    (m21 : MF K CD "has_thing" "Day.has_thing" sHas)
    (m22 : MF K CD "refusal" "Day.refusal" sRefusal)
    (m23 : MF K CD "is_row" "Day.is_row" sIsRow)
    (m24 : MF K CD "is_some" "Day.is_some" sIsSome)
    (m25 : MF K CD "rows" "Day.rows" sRows)
    (m26 : MF K CD "all_corners" "Day.all_corners" sAllC)
    (m27 : MF K CD "span" "Day.span" sSpan)
    (m28 : MF K CD "priced" "Day.priced" sPriced)
    (mT : MF K CT "__init__" "Thing.__init__" sInitT)
    (nD1 : NoAttr K CD "begun")
    (nD2 : NoAttr K CD "width")
    (nD3 : NoAttr K CD "lent")
    (nD4 : NoAttr K CD "back")
    (nD5 : NoAttr K CD "things")
    (nT1 : NoAttr K CT "cost")
    (nT2 : NoAttr K CT "worths")
    (gh : GF K "has_row" sHasRow)
    (gt : GF K "about_things" sAboutT)
    (gf : GF K "about_fairness" sAboutF)
    (gp : GF K "about_promises" sAboutP)
    (ga : GF K "answered" sAnswered)
    (gA : GF K "answers" sAnswers) :
    ∃ fd : FuncData, (∀ (s : Shared) (us : List Value), us.length = (["calls"] : List Str).length → BindsTo s fd ⟨us, []⟩ ((["calls"] : List Str).zip us)) ∧ ∀ base : Heap, K.In base → base.Ns mainGlobals mg → FnOk P w K mg base CX0 13 fa fd ["calls"] (spAns1 K) := by
  obtain ⟨f, fd, F, aF⟩ := gA
  have e := hfa.symm.trans (PySem.W.mg_of X G aF)
  cases e
  have T : Txt K mg CD CT := txt_mk X G cD cT nD1 nD2 nD3 nD4 nD5 nT1 nT2 b3 b6 b10 b9 v1 v2 v3 v4 v5 v6 v7 v8
  refine ⟨fd, ?_, fun base _ _ => ?_⟩
  · obtain ⟨oc, od, kV, doc, pm, an, cdv, ct, osl, rfl, lk, hcd⟩ := F.ex
    exact fun s us hu => match us, hu with | [_], _ => .of_eq rfl
  · have L : Low P w K mg base := low_ok X G g1 g2 g3 g4 g5 g6 g7 g8 g9 g10 g11 g12 g13 g14 g15 g16 g17 b1 b2 b3 b4 b5 b6 b7 b8 b9 base
    have M : Mid P w K mg base CD CT := mid_ok X G T (PySem.W.mg_none_of X G b2) L cD cT m1 m2 m3 m4 m5 m6 m7 m8 m9 m10 m11 m12 m13 m14 m15 m16 m17 m18 m19 m20 m21 m22 m23 m24 m25 m26 m27 m28 mT
    exact top_ok X G T M cD tP vNB n0 n1 n2 n3 n4 n5 n6 n7 n8 n9 n10 n11 n12 n13 n14 n15 n16 n17 n18 gh gt gf gp ga F
end DA
open PySem PySem.W PyProof.Rows
set_option maxRecDepth 100000 in
set_option maxHeartbeats 0 in
theorem PySem.Challenge.cw_dayahead_s01_answers_holds : PySem.Challenge.rw_dayahead_s01_answers.Holds := by
  w_on
  refine holds_os (r := PySem.Challenge.rw_dayahead_s01_answers) (q := DA.vw) (loose := []) (Xt := DA.XtA) (XP := XL DA.vw []) (Yf := Hook.obs (kHook DA.KF DA.KA DA.KA_is)) (Ya := Hook.val (kHook DA.KF DA.KA DA.KA_is)) (YP := Hook.says (kHook DA.KF DA.KA DA.KA_is)) (N := 4858) DA.leftA (Hook.of (kHook DA.KF DA.KA DA.KA_is)) (Hook.keeps (kHook DA.KF DA.KA DA.KA_is)) (fun s e => xl_of s (Bool.and_eq_true_iff.mp e).1) XL.keeps (by rfl) (by rfl) (by rfl) (fun s e => recFacts_of (Bool.and_eq_true_iff.mp e).2) os_shapes (by decide +kernel) (by decide +kernel) ⟨rfl, rfl, rfl, rfl, rfl, by decide +kernel⟩ ⟨[.list [.int 0, .int 1, .int 1, .int 1]], by decide +kernel, by decide +kernel⟩ ?hc
  k_fillS
  refine L2.walk_specK (r := PySem.Challenge.rw_dayahead_s01_answers) (k := 13) (CX := L2.CX0) (ps := ["calls"]) (sp := DA.spAns1) (by decide +kernel) rfl rfl ⟨rfl, by decide, by decide⟩ (fun w h Y => PySem.W.kIn_of Y) ?F ?S (fun _ _ _ _ z => z)
  case F =>
    intro w mg fa h Y KX G hmg
    refine' DA.all_mk KX G hmg ?g1 ?g2 ?g3 ?g4 ?g5 ?g6 ?g7 ?g8 ?g9 ?g10 ?g11 ?g12 ?g13 ?g14 ?g15 ?g16 ?g17 ?b1 ?b2 ?b3 ?b4 ?b5 ?b6 ?b7 ?b8 ?b9 ?b10 ?v1 ?v2 ?v3 ?v4 ?v5 ?v6 ?v7 ?v8 ?vNB ?n0 ?n1 ?n2 ?n3 ?n4 ?n5 ?n6 ?n7 ?n8 ?n9 ?n10 ?n11 ?n12 ?n13 ?n14 ?n15 ?n16 ?n17 ?n18 ?tP ?cD ?cT ?m1 ?m2 ?m3 ?m4 ?m5 ?m6 ?m7 ?m8 ?m9 ?m10 ?m11 ?m12 ?m13 ?m14 ?m15 ?m16 ?m17 ?m18 ?m19 ?m20 ?m21 ?m22 ?m23 ?m24 ?m25 ?m26 ?m27 ?m28 ?mT ?nD1 ?nD2 ?nD3 ?nD4 ?nD5 ?nT1 ?nT2 ?gh ?gt ?gf ?gp ?ga ?gA
    (case g1 => (refine' DA.gf_mk ?a ?l ?c ?k; (case a => k_is); (case l => k_is); (case c => k_is); (case k => k_is)))
    (case g2 => (refine' DA.gf_mk ?a ?l ?c ?k; (case a => k_is); (case l => k_is); (case c => k_is); (case k => k_is)))
    (case g3 => (refine' DA.gf_mk ?a ?l ?c ?k; (case a => k_is); (case l => k_is); (case c => k_is); (case k => k_is)))
    (case g4 => (refine' DA.gf_mk ?a ?l ?c ?k; (case a => k_is); (case l => k_is); (case c => k_is); (case k => k_is)))
    (case g5 => (refine' DA.gf_mk ?a ?l ?c ?k; (case a => k_is); (case l => k_is); (case c => k_is); (case k => k_is)))
    (case g6 => (refine' DA.gf_mk ?a ?l ?c ?k; (case a => k_is); (case l => k_is); (case c => k_is); (case k => k_is)))
    (case g7 => (refine' DA.gf_mk ?a ?l ?c ?k; (case a => k_is); (case l => k_is); (case c => k_is); (case k => k_is)))
    (case g8 => (refine' DA.gf_mk ?a ?l ?c ?k; (case a => k_is); (case l => k_is); (case c => k_is); (case k => k_is)))
    (case g9 => (refine' DA.gf_mk ?a ?l ?c ?k; (case a => k_is); (case l => k_is); (case c => k_is); (case k => k_is)))
    (case g10 => (refine' DA.gf_mk ?a ?l ?c ?k; (case a => k_is); (case l => k_is); (case c => k_is); (case k => k_is)))
    (case g11 => (refine' DA.gf_mk ?a ?l ?c ?k; (case a => k_is); (case l => k_is); (case c => k_is); (case k => k_is)))
    (case g12 => (refine' DA.gf_mk ?a ?l ?c ?k; (case a => k_is); (case l => k_is); (case c => k_is); (case k => k_is)))
    (case g13 => (refine' DA.gf_mk ?a ?l ?c ?k; (case a => k_is); (case l => k_is); (case c => k_is); (case k => k_is)))
    (case g14 => (refine' DA.gf_mk ?a ?l ?c ?k; (case a => k_is); (case l => k_is); (case c => k_is); (case k => k_is)))
    (case g15 => (refine' DA.gf_mk ?a ?l ?c ?k; (case a => k_is); (case l => k_is); (case c => k_is); (case k => k_is)))
    (case g16 => (refine' DA.gf_mk ?a ?l ?c ?k; (case a => k_is); (case l => k_is); (case c => k_is); (case k => k_is)))
    (case g17 => (refine' DA.gf_mk ?a ?l ?c ?k; (case a => k_is); (case l => k_is); (case c => k_is); (case k => k_is)))
    (case b1 => (show PySem.W.nsIn _ _ _ = _; k_is))
    (case b2 => (show PySem.W.nsIn _ _ _ = _; k_is))
    (case b3 => (show PySem.W.nsIn _ _ _ = _; k_is))
    (case b4 => (show PySem.W.nsIn _ _ _ = _; k_is))
    (case b5 => (show PySem.W.nsIn _ _ _ = _; k_is))
    (case b6 => (show PySem.W.nsIn _ _ _ = _; k_is))
    (case b7 => (show PySem.W.nsIn _ _ _ = _; k_is))
    (case b8 => (show PySem.W.nsIn _ _ _ = _; k_is))
    (case b9 => (show PySem.W.nsIn _ _ _ = _; k_is))
    (case b10 => (show PySem.W.nsIn _ _ _ = _; k_is))
    (case v1 => (refine' DA.nf_mk ?a; (case a => k_is)))
    (case v2 => (refine' DA.nf_mk ?a; (case a => k_is)))
    (case v3 => (refine' DA.nf_mk ?a; (case a => k_is)))
    (case v4 => (refine' DA.nf_mk ?a; (case a => k_is)))
    (case v5 => (refine' DA.nf_mk ?a; (case a => k_is)))
    (case v6 => (refine' DA.nf_mk ?a; (case a => k_is)))
    (case v7 => (refine' DA.nf_mk ?a; (case a => k_is)))
    (case v8 => (refine' DA.nf_mk ?a; (case a => k_is)))
    (case vNB => (refine' DA.nf_mk ?a; (case a => k_is)))
    (case n0 => (refine' DA.nf_mk ?a; (case a => k_is)))
    (case n1 => (refine' DA.nf_mk ?a; (case a => k_is)))
    (case n2 => (refine' DA.nf_mk ?a; (case a => k_is)))
    (case n3 => (refine' DA.nf_mk ?a; (case a => k_is)))
    (case n4 => (refine' DA.nf_mk ?a; (case a => k_is)))
    (case n5 => (refine' DA.nf_mk ?a; (case a => k_is)))
    (case n6 => (refine' DA.nf_mk ?a; (case a => k_is)))
    (case n7 => (refine' DA.nf_mk ?a; (case a => k_is)))
    (case n8 => (refine' DA.nf_mk ?a; (case a => k_is)))
    (case n9 => (refine' DA.nf_mk ?a; (case a => k_is)))
    (case n10 => (refine' DA.nf_mk ?a; (case a => k_is)))
    (case n11 => (refine' DA.nf_mk ?a; (case a => k_is)))
    (case n12 => (refine' DA.nf_mk ?a; (case a => k_is)))
    (case n13 => (refine' DA.nf_mk ?a; (case a => k_is)))
    (case n14 => (refine' DA.nf_mk ?a; (case a => k_is)))
    (case n15 => (refine' DA.nf_mk ?a; (case a => k_is)))
    (case n16 => (refine' DA.nf_mk ?a; (case a => k_is)))
    (case n17 => (refine' DA.nf_mk ?a; (case a => k_is)))
    (case n18 => (refine' DA.nf_mk ?a; (case a => k_is)))
    (case tP => (refine' DA.tf_mk ?tns ?tlk ?tcl ?tsz ?tvs; (case tns => k_is); (case tlk => k_is); (case tcl => rfl); (case tsz => decide); (case tvs => exact .cons ⟨_, rfl⟩ (.cons ⟨_, rfl⟩ (.cons ⟨_, rfl⟩ (.cons ⟨_, rfl⟩ (.cons ⟨_, rfl⟩ (.cons ⟨_, rfl⟩ (.cons ⟨_, rfl⟩ (.cons ⟨_, rfl⟩ (.cons ⟨_, rfl⟩ (.cons ⟨_, rfl⟩ (.cons ⟨_, rfl⟩ (.cons ⟨_, rfl⟩ (.cons ⟨_, rfl⟩ (.cons ⟨_, rfl⟩ (.cons ⟨_, rfl⟩ (.cons ⟨_, rfl⟩ (.cons ⟨_, rfl⟩ (.cons ⟨_, rfl⟩ (.cons ⟨_, rfl⟩ (.nil))))))))))))))))))))))
    (case cD => (refine' DA.CF.mk ?ns ?pg ?hd ?po ?sa ?mks ?kc; (case ns => k_is); (case pg => k_is); (case hd => k_is); (case po => k_is); (case sa => k_is); (case mks => k_is); (case kc => k_is)))
    (case cT => (refine' DA.CF.mk ?ns ?pg ?hd ?po ?sa ?mks ?kc; (case ns => k_is); (case pg => k_is); (case hd => k_is); (case po => k_is); (case sa => k_is); (case mks => k_is); (case kc => k_is)))
    (case m1 => (refine' DA.mf_mk ?a ?i ?l ?c ?k; (case a => k_is); (case i => k_is); (case l => k_is); (case c => k_is); (case k => k_is)))
    (case m2 => (refine' DA.mf_mk ?a ?i ?l ?c ?k; (case a => k_is); (case i => k_is); (case l => k_is); (case c => k_is); (case k => k_is)))
    (case m3 => (refine' DA.mf_mk ?a ?i ?l ?c ?k; (case a => k_is); (case i => k_is); (case l => k_is); (case c => k_is); (case k => k_is)))
    (case m4 => (refine' DA.mf_mk ?a ?i ?l ?c ?k; (case a => k_is); (case i => k_is); (case l => k_is); (case c => k_is); (case k => k_is)))
    (case m5 => (refine' DA.mf_mk ?a ?i ?l ?c ?k; (case a => k_is); (case i => k_is); (case l => k_is); (case c => k_is); (case k => k_is)))
    (case m6 => (refine' DA.mf_mk ?a ?i ?l ?c ?k; (case a => k_is); (case i => k_is); (case l => k_is); (case c => k_is); (case k => k_is)))
    (case m7 => (refine' DA.mf_mk ?a ?i ?l ?c ?k; (case a => k_is); (case i => k_is); (case l => k_is); (case c => k_is); (case k => k_is)))
    (case m8 => (refine' DA.mf_mk ?a ?i ?l ?c ?k; (case a => k_is); (case i => k_is); (case l => k_is); (case c => k_is); (case k => k_is)))
    (case m9 => (refine' DA.mf_mk ?a ?i ?l ?c ?k; (case a => k_is); (case i => k_is); (case l => k_is); (case c => k_is); (case k => k_is)))
    (case m10 => (refine' DA.mf_mk ?a ?i ?l ?c ?k; (case a => k_is); (case i => k_is); (case l => k_is); (case c => k_is); (case k => k_is)))
    (case m11 => (refine' DA.mf_mk ?a ?i ?l ?c ?k; (case a => k_is); (case i => k_is); (case l => k_is); (case c => k_is); (case k => k_is)))
    (case m12 => (refine' DA.mf_mk ?a ?i ?l ?c ?k; (case a => k_is); (case i => k_is); (case l => k_is); (case c => k_is); (case k => k_is)))
    (case m13 => (refine' DA.mf_mk ?a ?i ?l ?c ?k; (case a => k_is); (case i => k_is); (case l => k_is); (case c => k_is); (case k => k_is)))
    (case m14 => (refine' DA.mf_mk ?a ?i ?l ?c ?k; (case a => k_is); (case i => k_is); (case l => k_is); (case c => k_is); (case k => k_is)))
    (case m15 => (refine' DA.mf_mk ?a ?i ?l ?c ?k; (case a => k_is); (case i => k_is); (case l => k_is); (case c => k_is); (case k => k_is)))
    (case m16 => (refine' DA.mf_mk ?a ?i ?l ?c ?k; (case a => k_is); (case i => k_is); (case l => k_is); (case c => k_is); (case k => k_is)))
    (case m17 => (refine' DA.mf_mk ?a ?i ?l ?c ?k; (case a => k_is); (case i => k_is); (case l => k_is); (case c => k_is); (case k => k_is)))
    (case m18 => (refine' DA.mf_mk ?a ?i ?l ?c ?k; (case a => k_is); (case i => k_is); (case l => k_is); (case c => k_is); (case k => k_is)))
    (case m19 => (refine' DA.mf_mk ?a ?i ?l ?c ?k; (case a => k_is); (case i => k_is); (case l => k_is); (case c => k_is); (case k => k_is)))
    (case m20 => (refine' DA.mf_mk ?a ?i ?l ?c ?k; (case a => k_is); (case i => k_is); (case l => k_is); (case c => k_is); (case k => k_is)))
    (case m21 => (refine' DA.mf_mk ?a ?i ?l ?c ?k; (case a => k_is); (case i => k_is); (case l => k_is); (case c => k_is); (case k => k_is)))
    (case m22 => (refine' DA.mf_mk ?a ?i ?l ?c ?k; (case a => k_is); (case i => k_is); (case l => k_is); (case c => k_is); (case k => k_is)))
    (case m23 => (refine' DA.mf_mk ?a ?i ?l ?c ?k; (case a => k_is); (case i => k_is); (case l => k_is); (case c => k_is); (case k => k_is)))
    (case m24 => (refine' DA.mf_mk ?a ?i ?l ?c ?k; (case a => k_is); (case i => k_is); (case l => k_is); (case c => k_is); (case k => k_is)))
    (case m25 => (refine' DA.mf_mk ?a ?i ?l ?c ?k; (case a => k_is); (case i => k_is); (case l => k_is); (case c => k_is); (case k => k_is)))
    (case m26 => (refine' DA.mf_mk ?a ?i ?l ?c ?k; (case a => k_is); (case i => k_is); (case l => k_is); (case c => k_is); (case k => k_is)))
    (case m27 => (refine' DA.mf_mk ?a ?i ?l ?c ?k; (case a => k_is); (case i => k_is); (case l => k_is); (case c => k_is); (case k => k_is)))
    (case m28 => (refine' DA.mf_mk ?a ?i ?l ?c ?k; (case a => k_is); (case i => k_is); (case l => k_is); (case c => k_is); (case k => k_is)))
    (case mT => (refine' DA.mf_mk ?a ?i ?l ?c ?k; (case a => k_is); (case i => k_is); (case l => k_is); (case c => k_is); (case k => k_is)))
    (case nD1 => (show PySem.W.findIn _ _ _ = _; k_is))
    (case nD2 => (show PySem.W.findIn _ _ _ = _; k_is))
    (case nD3 => (show PySem.W.findIn _ _ _ = _; k_is))
    (case nD4 => (show PySem.W.findIn _ _ _ = _; k_is))
    (case nD5 => (show PySem.W.findIn _ _ _ = _; k_is))
    (case nT1 => (show PySem.W.findIn _ _ _ = _; k_is))
    (case nT2 => (show PySem.W.findIn _ _ _ = _; k_is))
    (case gh => (refine' DA.gf_mk ?a ?l ?c ?k; (case a => k_is); (case l => k_is); (case c => k_is); (case k => k_is)))
    (case gt => (refine' DA.gf_mk ?a ?l ?c ?k; (case a => k_is); (case l => k_is); (case c => k_is); (case k => k_is)))
    (case gf => (refine' DA.gf_mk ?a ?l ?c ?k; (case a => k_is); (case l => k_is); (case c => k_is); (case k => k_is)))
    (case gp => (refine' DA.gf_mk ?a ?l ?c ?k; (case a => k_is); (case l => k_is); (case c => k_is); (case k => k_is)))
    (case ga => (refine' DA.gf_mk ?a ?l ?c ?k; (case a => k_is); (case l => k_is); (case c => k_is); (case k => k_is)))
    (case gA => (refine' DA.gf_mk ?a ?l ?c ?k; (case a => k_is); (case l => k_is); (case c => k_is); (case k => k_is)))
  case S =>
    intro K H xs a hO hwi hask hx
    cases hx with
    | cons h1 h2 =>
      cases h2
      cases h1 with
      | lst hs ha =>
        have e := L2.ints_dw a.1 _ ha
        subst e
        have q : ((Codec.inLen 0 4800 a.1 && a.1.all (Codec.inInt (Int.ofNat 0) (Int.ofNat 4294967295))) && true) = true := hwi
        rw [Bool.and_eq_true, Bool.and_eq_true] at q
        exact ⟨_, a.1, rfl, DA.arg_of hO hs, (Codec.inNat_iff.mp q.1.1).2, fun x hx => Codec.inInt_iff.mp (List.all_eq_true.mp q.1.2 x hx), hask, fun H' p hp => .lst (L2.SqL.of hp) (L2.dw_ints _)⟩
