import PyProof.Rows.All
import Wide.All
import OpenK.AllK
import Open.SpecLaws
import KE.OsHead
import KE.OsGo
import Wide.FinOn
import PyProof.EqAt
import PyProof.EqKinds
import PyProof.TupleCall
import KE.BitLaws
import PySem.Challenge.RW_sharedwords_s01_answers
section
set_option Elab.async false
set_option linter.all false
set_option maxRecDepth 100000
set_option maxHeartbeats 0
namespace Sw
open PySem PySem.W PyProof.Rows
abbrev pg : Program := PySem.Challenge.pw_sharedwords_s01_answers
noncomputable def tp (i : Nat) : Stmt := pg.main.body.getD i (.Pass ⟨0, 0, 0, 0⟩)
noncomputable def tc (j : Nat) : Stmt := match tp 21 with
  | .ClassDef _ _ _ body _ _ _ _ _ _ _ => body.getD j (.Pass ⟨0, 0, 0, 0⟩)
  | _ => .Pass ⟨0, 0, 0, 0⟩
def dA (s : Stmt) : Arguments := match s with
  | .FunctionDef _ a _ _ _ _ _ _ _ _ => a
  | _ => { posonlyargs := [], args := [], vararg := none, kwonlyargs := [], kw_defaults := [], kwarg := none, defaults := [] }
def dB (s : Stmt) : List Stmt := match s with
  | .FunctionDef _ _ b _ _ _ _ _ _ _ => b
  | _ => []
def dS (s : Stmt) : Scope := match s with
  | .FunctionDef _ _ _ _ _ _ sc _ _ _ => sc
  | _ => { kind := .function, names := [], isGenerator := false, isCoroutine := false }
def dP (s : Stmt) : Pos := match s with
  | .FunctionDef _ _ _ _ _ _ _ _ _ p => p
  | _ => ⟨0, 0, 0, 0⟩
/-- the text without its rows __name__ = .. -/
noncomputable def vw : Program := { pg with main := { pg.main with body := [tp 1, tp 2, tp 3, tp 4, tp 5, tp 6, tp 7, tp 8, tp 9, tp 10, tp 11, tp 12, tp 13, tp 14, tp 15, tp 16, tp 17, tp 19, tp 20, tp 21, tp 23, tp 24, tp 25, tp 26, tp 27, tp 28, tp 29, tp 31, tp 32, tp 33, tp 34, tp 35, tp 36, tp 37, tp 38, tp 39, tp 40, tp 41, tp 42, tp 43, tp 44, tp 45, tp 46, tp 47, tp 48, tp 49, tp 50, tp 51, tp 52, tp 53, tp 54, tp 55, tp 56, tp 57, tp 58, tp 59, tp 60, tp 61, tp 62, tp 63, tp 64, tp 65, tp 66, tp 67, tp 68, tp 69, tp 70, tp 71, tp 72, tp 73, tp 74, tp 75, tp 76, tp 77, tp 78] } }
/-! ### what stands in the heap behind the top: defs, their codes, the class, the module's names, the two tables -/
def fo (x q : Str) (st : Stmt) (m : Str) (t c : Nat) : Obj := { cls := .type "function", data := .func { name := x, qualname := q, params := dA st, body := .stmts (dB st), scope := dS st, globals := 3, closure := [], defaults := .none, kwdefaults := .none, pyModule := .str m t, code := .ref c } }
def en (P : Params) (x : Str) (t : Nat) (v : Value) : DictEntry := { hash := PyData.keyHash P x, key := .str x t, val := v }
noncomputable def formsA : Array Value := #[.str "mab" 529, .str "wq" 530, .str "wf" 531, .str "wq" 532, .str "w" 533, .str "ws" 534, .str "wi" 535, .str "" 536, .str "" 537, .str "w" 538, .str "wq" 539, .str "wq" 540, .str "" 541, .str "w" 542, .str "ws" 543, .str "ws" 544, .str "w" 545, .str "wq" 546, .str "wq" 547, .str "wq" 548, .str "" 549, .str "" 550, .str "" 551, .str "" 552, .str "s" 553, .str "w" 554, .str "w" 555, .str "w" 556, .str "w" 557, .str "" 558]
noncomputable def callsA : Array Value := #[.ref 270, .ref 277, .ref 284, .ref 291, .ref 298, .ref 305, .ref 312, .ref 319, .ref 326, .ref 333, .ref 340, .ref 347, .ref 354, .ref 361, .ref 368, .ref 375, .ref 382, .ref 389, .ref 394, .ref 399, .ref 406, .ref 411, .ref 418, .ref 425, .ref 432, .ref 439, .ref 444, .ref 449, .ref 454, .ref 461]
noncomputable def k0 (P : Params) : Frag := [(3, { cls := .type "dict", data := .dict #[en P "__name__" 165 (.str "sharedwords.letters" 502), en P "__doc__" 166 (.none), en P "__package__" 167 (.none), en P "__loader__" 168 (.builtin "__main__.__loader__#opaque"), en P "__spec__" 169 (.none), en P "__annotations__" 170 (.ref 6), en P "__builtins__" 171 (.ref 4), en P "__file__" 173 (.str "/claim/cut.py" 172), en P "__cached__" 174 (.none), en P "FOLLOWS" 190 (.int 1 189), en P "CANNOT_BE_SO" 192 (.int 0 191), en P "NEITHER" 194 (.int 2 193), en P "all_letters" 201 (.ref 21), en P "always" 208 (.ref 28), en P "worlds" 214 (.ref 33), en P "letter_is_so" 224 (.ref 40), en P "follows_of" 232 (.ref 47), en P "stands_to" 240 (.ref 54), en P "says" 246 (.ref 59), en P "without" 255 (.ref 66), en P "is_told_in" 264 (.ref 73), en P "falls_apart" 273 (.ref 80), en P "part_with" 284 (.ref 87), en P "all_parts" 295 (.ref 94), en P "touches" 304 (.ref 101), en P "revised" 315 (.ref 108), en P "MOST_BACK" 319 (.int 20 318), en P "with_one" 328 (.ref 115), en P "People" 457 (.ref 216), en P "members" 465 (.ref 225), en P "sets_within" 471 (.ref 230), en P "with_one_less" 477 (.ref 235), en P "with_one_more" 483 (.ref 240), en P "has_any" 489 (.ref 245), en P "least_sets" 495 (.ref 250), en P "greatest_sets" 501 (.ref 255), en P "NO_SUCH" 506 (.int (-2) 505), en P "NONE_THERE" 509 (.int (-6) 508), en P "NOT_BEGUN" 512 (.int (-11) 511), en P "THEIRS_ALREADY" 515 (.int (-17) 514), en P "NOT_RIGHT" 518 (.int (-22) 517), en P "CANNOT_BE" 521 (.int (-33) 520), en P "NOT_TOLD_IN" 524 (.int (-62) 523), en P "MOST_LETTERS" 526 (.int 4 525), en P "BEGIN" 528 (.int 0 527), en P "FORMS" 559 (.ref 256), en P "counted" 566 (.ref 263), en P "begin" 576 (.ref 270), en P "learn" 586 (.ref 277), en P "forget" 596 (.ref 284), en P "revise" 606 (.ref 291), en P "tell" 614 (.ref 298), en P "tellof" 626 (.ref 305), en P "teach" 635 (.ref 312), en P "back" 642 (.ref 319), en P "again" 649 (.ref 326), en P "knows" 658 (.ref 333), en P "follows" 667 (.ref 340), en P "is_open" 676 (.ref 347), en P "shared" 683 (.ref 354), en P "own" 691 (.ref 361), en P "tells" 700 (.ref 368), en P "news" 709 (.ref 375), en P "would" 717 (.ref 382), en P "could" 726 (.ref 389), en P "asks" 732 (.ref 394), en P "safe" 738 (.ref 399), en P "quarrel" 745 (.ref 406), en P "quarrels" 751 (.ref 411), en P "both" 759 (.ref 418), en P "common" 767 (.ref 425), en P "agreed" 775 (.ref 432), en P "parts" 783 (.ref 439), en P "matter" 789 (.ref 444), en P "settles" 795 (.ref 449), en P "unsure" 801 (.ref 454), en P "state" 809 (.ref 461), en P "CALLS" 810 (.ref 462), en P "claim_refusal" 819 (.ref 469), en P "letters_refusal" 828 (.ref 476), en P "refusal_of" 837 (.ref 483), en P "carry_out" 846 (.ref 490), en P "answer_of" 857 (.ref 497), en P "answers" 870 (.ref 504)] 84 }),
  (20, { cls := .type "code", data := .fields #[.str "all_letters" 195, .str "all_letters" 196, .str "/claim/cut.py" 197, .int 5 0, .int 1 0, .int 0 0, .int 0 0, .int 3 0, .ref 15, .bool true, .int 181 0, .ref 16, .none, .ref 17, .ref 18, .ref 19, .int 199 0, .int 5 0, .str "/claim/cut.py" 200] }),
  (21, fo "all_letters" "all_letters" (tp 4) "sharedwords.claims" 187 20),
  (27, { cls := .type "code", data := .fields #[.str "always" 202, .str "always" 203, .str "/claim/cut.py" 204, .int 7 0, .int 1 0, .int 0 0, .int 0 0, .int 3 0, .ref 22, .bool true, .int 181 0, .ref 23, .none, .ref 24, .ref 25, .ref 26, .int 206 0, .int 7 0, .str "/claim/cut.py" 207] }),
  (28, fo "always" "always" (tp 5) "sharedwords.claims" 187 27),
  (32, { cls := .type "code", data := .fields #[.str "worlds" 209, .str "worlds" 210, .str "/claim/cut.py" 211, .int 9 0, .int 2 0, .int 0 0, .int 0 0, .int 3 0, .ref 29, .bool true, .int 181 0, .ref 30, .none, .none, .none, .ref 31, .int 212 0, .int 9 0, .str "/claim/cut.py" 213] }),
  (33, fo "worlds" "worlds" (tp 6) "sharedwords.claims" 187 32),
  (39, { cls := .type "code", data := .fields #[.str "letter_is_so" 215, .str "letter_is_so" 216, .str "/claim/cut.py" 217, .int 11 0, .int 2 0, .int 0 0, .int 0 0, .int 3 0, .ref 34, .bool true, .int 181 0, .ref 35, .none, .ref 36, .ref 37, .ref 38, .int 222 0, .int 11 0, .str "/claim/cut.py" 223] }),
  (40, fo "letter_is_so" "letter_is_so" (tp 7) "sharedwords.claims" 187 39),
  (46, { cls := .type "code", data := .fields #[.str "follows_of" 225, .str "follows_of" 226, .str "/claim/cut.py" 227, .int 17 0, .int 2 0, .int 0 0, .int 0 0, .int 3 0, .ref 41, .bool true, .int 181 0, .ref 42, .none, .ref 43, .ref 44, .ref 45, .int 230 0, .int 17 0, .str "/claim/cut.py" 231] }),
  (47, fo "follows_of" "follows_of" (tp 8) "sharedwords.claims" 187 46),
  (53, { cls := .type "code", data := .fields #[.str "stands_to" 233, .str "stands_to" 234, .str "/claim/cut.py" 235, .int 19 0, .int 2 0, .int 0 0, .int 0 0, .int 3 0, .ref 48, .bool true, .int 181 0, .ref 49, .none, .ref 50, .ref 51, .ref 52, .int 238 0, .int 19 0, .str "/claim/cut.py" 239] })]
noncomputable def k1 (P : Params) : Frag := [(54, fo "stands_to" "stands_to" (tp 9) "sharedwords.claims" 187 53),
  (58, { cls := .type "code", data := .fields #[.str "says" 241, .str "says" 242, .str "/claim/cut.py" 243, .int 25 0, .int 3 0, .int 0 0, .int 0 0, .int 3 0, .ref 55, .bool true, .int 181 0, .ref 56, .none, .none, .none, .ref 57, .int 244 0, .int 25 0, .str "/claim/cut.py" 245] }),
  (59, fo "says" "says" (tp 10) "sharedwords.claims" 187 58),
  (65, { cls := .type "code", data := .fields #[.str "without" 247, .str "without" 248, .str "/claim/cut.py" 249, .int 32 0, .int 3 0, .int 0 0, .int 0 0, .int 3 0, .ref 60, .bool true, .int 181 0, .ref 61, .none, .ref 62, .ref 63, .ref 64, .int 253 0, .int 32 0, .str "/claim/cut.py" 254] }),
  (66, fo "without" "without" (tp 11) "sharedwords.claims" 187 65),
  (72, { cls := .type "code", data := .fields #[.str "is_told_in" 256, .str "is_told_in" 257, .str "/claim/cut.py" 258, .int 34 0, .int 3 0, .int 0 0, .int 0 0, .int 3 0, .ref 67, .bool true, .int 181 0, .ref 68, .none, .ref 69, .ref 70, .ref 71, .int 262 0, .int 34 0, .str "/claim/cut.py" 263] }),
  (73, fo "is_told_in" "is_told_in" (tp 12) "sharedwords.claims" 187 72),
  (79, { cls := .type "code", data := .fields #[.str "falls_apart" 265, .str "falls_apart" 266, .str "/claim/cut.py" 267, .int 36 0, .int 3 0, .int 0 0, .int 0 0, .int 3 0, .ref 74, .bool true, .int 181 0, .ref 75, .none, .ref 76, .ref 77, .ref 78, .int 271 0, .int 36 0, .str "/claim/cut.py" 272] }),
  (80, fo "falls_apart" "falls_apart" (tp 13) "sharedwords.claims" 187 79),
  (86, { cls := .type "code", data := .fields #[.str "part_with" 274, .str "part_with" 275, .str "/claim/cut.py" 276, .int 38 0, .int 3 0, .int 0 0, .int 0 0, .int 3 0, .ref 81, .bool true, .int 181 0, .ref 82, .none, .ref 83, .ref 84, .ref 85, .int 282 0, .int 38 0, .str "/claim/cut.py" 283] }),
  (87, fo "part_with" "part_with" (tp 14) "sharedwords.claims" 187 86),
  (93, { cls := .type "code", data := .fields #[.str "all_parts" 285, .str "all_parts" 286, .str "/claim/cut.py" 287, .int 44 0, .int 2 0, .int 0 0, .int 0 0, .int 3 0, .ref 88, .bool true, .int 181 0, .ref 89, .none, .ref 90, .ref 91, .ref 92, .int 293 0, .int 44 0, .str "/claim/cut.py" 294] })]
noncomputable def k2 (P : Params) : Frag := [(94, fo "all_parts" "all_parts" (tp 15) "sharedwords.claims" 187 93),
  (100, { cls := .type "code", data := .fields #[.str "touches" 296, .str "touches" 297, .str "/claim/cut.py" 298, .int 51 0, .int 3 0, .int 0 0, .int 0 0, .int 3 0, .ref 95, .bool true, .int 181 0, .ref 96, .none, .ref 97, .ref 98, .ref 99, .int 302 0, .int 51 0, .str "/claim/cut.py" 303] }),
  (101, fo "touches" "touches" (tp 16) "sharedwords.claims" 187 100),
  (107, { cls := .type "code", data := .fields #[.str "revised" 305, .str "revised" 306, .str "/claim/cut.py" 307, .int 53 0, .int 3 0, .int 0 0, .int 0 0, .int 3 0, .ref 102, .bool true, .int 181 0, .ref 103, .none, .ref 104, .ref 105, .ref 106, .int 313 0, .int 53 0, .str "/claim/cut.py" 314] }),
  (108, fo "revised" "revised" (tp 17) "sharedwords.claims" 187 107),
  (114, { cls := .type "code", data := .fields #[.str "with_one" 320, .str "with_one" 321, .str "/claim/cut.py" 322, .int 63 0, .int 3 0, .int 0 0, .int 0 0, .int 3 0, .ref 109, .bool true, .int 181 0, .ref 110, .none, .ref 111, .ref 112, .ref 113, .int 326 0, .int 63 0, .str "/claim/cut.py" 327] }),
  (115, fo "with_one" "with_one" (tp 20) "sharedwords.people" 316 114),
  (128, { cls := .type "code", data := .fields #[.str "__init__" 341, .str "People.__init__" 342, .str "/claim/cut.py" 343, .int 67 0, .int 1 0, .int 0 0, .int 0 0, .int 3 0, .ref 123, .bool true, .int 181 0, .ref 124, .none, .ref 125, .ref 126, .ref 127, .int 345 0, .int 67 0, .str "/claim/cut.py" 346] }),
  (129, fo "__init__" "People.__init__" (tc 0) "sharedwords.people" 316 128),
  (135, { cls := .type "code", data := .fields #[.str "begin_anew" 348, .str "People.begin_anew" 349, .str "/claim/cut.py" 350, .int 74 0, .int 4 0, .int 0 0, .int 0 0, .int 3 0, .ref 130, .bool true, .int 181 0, .ref 131, .none, .ref 132, .ref 133, .ref 134, .int 355 0, .int 74 0, .str "/claim/cut.py" 356] }),
  (136, fo "begin_anew" "People.begin_anew" (tc 1) "sharedwords.people" 316 135),
  (142, { cls := .type "code", data := .fields #[.str "common_letters" 358, .str "People.common_letters" 359, .str "/claim/cut.py" 360, .int 81 0, .int 1 0, .int 0 0, .int 0 0, .int 3 0, .ref 137, .bool true, .int 181 0, .ref 138, .none, .ref 139, .ref 140, .ref 141, .int 362 0, .int 81 0, .str "/claim/cut.py" 363] })]
noncomputable def k3 (P : Params) : Frag := [(143, fo "common_letters" "People.common_letters" (tc 2) "sharedwords.people" 316 142),
  (149, { cls := .type "code", data := .fields #[.str "known_together" 365, .str "People.known_together" 366, .str "/claim/cut.py" 367, .int 84 0, .int 1 0, .int 0 0, .int 0 0, .int 3 0, .ref 144, .bool true, .int 181 0, .ref 145, .none, .ref 146, .ref 147, .ref 148, .int 369 0, .int 84 0, .str "/claim/cut.py" 370] }),
  (150, fo "known_together" "People.known_together" (tc 3) "sharedwords.people" 316 149),
  (156, { cls := .type "code", data := .fields #[.str "most_told" 372, .str "People.most_told" 373, .str "/claim/cut.py" 374, .int 87 0, .int 3 0, .int 0 0, .int 0 0, .int 3 0, .ref 151, .bool true, .int 181 0, .ref 152, .none, .ref 153, .ref 154, .ref 155, .int 378 0, .int 87 0, .str "/claim/cut.py" 379] }),
  (157, fo "most_told" "People.most_told" (tc 4) "sharedwords.people" 316 156),
  (163, { cls := .type "code", data := .fields #[.str "known_if_told" 381, .str "People.known_if_told" 382, .str "/claim/cut.py" 383, .int 90 0, .int 3 0, .int 0 0, .int 0 0, .int 3 0, .ref 158, .bool true, .int 181 0, .ref 159, .none, .ref 160, .ref 161, .ref 162, .int 387 0, .int 90 0, .str "/claim/cut.py" 388] }),
  (164, fo "known_if_told" "People.known_if_told" (tc 5) "sharedwords.people" 316 163),
  (170, { cls := .type "code", data := .fields #[.str "quarrel_in" 390, .str "People.quarrel_in" 391, .str "/claim/cut.py" 392, .int 93 0, .int 2 0, .int 0 0, .int 0 0, .int 3 0, .ref 165, .bool true, .int 181 0, .ref 166, .none, .ref 167, .ref 168, .ref 169, .int 395 0, .int 93 0, .str "/claim/cut.py" 396] }),
  (171, fo "quarrel_in" "People.quarrel_in" (tc 6) "sharedwords.people" 316 170),
  (177, { cls := .type "code", data := .fields #[.str "hold" 398, .str "People.hold" 399, .str "/claim/cut.py" 400, .int 96 0, .int 3 0, .int 0 0, .int 0 0, .int 3 0, .ref 172, .bool true, .int 181 0, .ref 173, .none, .ref 174, .ref 175, .ref 176, .int 404 0, .int 96 0, .str "/claim/cut.py" 405] }),
  (178, fo "hold" "People.hold" (tc 7) "sharedwords.people" 316 177),
  (184, { cls := .type "code", data := .fields #[.str "own_more" 407, .str "People.own_more" 408, .str "/claim/cut.py" 409, .int 100 0, .int 3 0, .int 0 0, .int 0 0, .int 3 0, .ref 179, .bool true, .int 181 0, .ref 180, .none, .ref 181, .ref 182, .ref 183, .int 413 0, .int 100 0, .str "/claim/cut.py" 414] })]
noncomputable def k4 (P : Params) : Frag := [(185, fo "own_more" "People.own_more" (tc 8) "sharedwords.people" 316 184),
  (191, { cls := .type "code", data := .fields #[.str "keep_for_back" 416, .str "People.keep_for_back" 417, .str "/claim/cut.py" 418, .int 104 0, .int 1 0, .int 0 0, .int 0 0, .int 3 0, .ref 186, .bool true, .int 181 0, .ref 187, .none, .ref 188, .ref 189, .ref 190, .int 420 0, .int 104 0, .str "/claim/cut.py" 421] }),
  (192, fo "keep_for_back" "People.keep_for_back" (tc 9) "sharedwords.people" 316 191),
  (198, { cls := .type "code", data := .fields #[.str "go_back" 423, .str "People.go_back" 424, .str "/claim/cut.py" 425, .int 110 0, .int 1 0, .int 0 0, .int 0 0, .int 3 0, .ref 193, .bool true, .int 181 0, .ref 194, .none, .ref 195, .ref 196, .ref 197, .int 427 0, .int 110 0, .str "/claim/cut.py" 428] }),
  (199, fo "go_back" "People.go_back" (tc 10) "sharedwords.people" 316 198),
  (205, { cls := .type "code", data := .fields #[.str "go_again" 430, .str "People.go_again" 431, .str "/claim/cut.py" 432, .int 114 0, .int 1 0, .int 0 0, .int 0 0, .int 3 0, .ref 200, .bool true, .int 181 0, .ref 201, .none, .ref 202, .ref 203, .ref 204, .int 434 0, .int 114 0, .str "/claim/cut.py" 435] }),
  (206, fo "go_again" "People.go_again" (tc 11) "sharedwords.people" 316 205),
  (212, { cls := .type "code", data := .fields #[.str "restore" 437, .str "People.restore" 438, .str "/claim/cut.py" 439, .int 118 0, .int 2 0, .int 0 0, .int 0 0, .int 3 0, .ref 207, .bool true, .int 181 0, .ref 208, .none, .ref 209, .ref 210, .ref 211, .int 442 0, .int 118 0, .str "/claim/cut.py" 443] }),
  (213, fo "restore" "People.restore" (tc 12) "sharedwords.people" 316 212),
  (215, { cls := .type "dict", data := .dict #[en P "__module__" 336 (.str "sharedwords.people" 316), en P "__firstlineno__" 340 (.int 65 339), en P "__init__" 347 (.ref 129), en P "begin_anew" 357 (.ref 136), en P "common_letters" 364 (.ref 143), en P "known_together" 371 (.ref 150), en P "most_told" 380 (.ref 157), en P "known_if_told" 389 (.ref 164), en P "quarrel_in" 397 (.ref 171), en P "hold" 406 (.ref 178), en P "own_more" 415 (.ref 185), en P "keep_for_back" 422 (.ref 192), en P "go_back" 429 (.ref 199), en P "go_again" 436 (.ref 206), en P "restore" 444 (.ref 213), en P "__static_attributes__" 450 (.ref 214), en P "__dict__" 452 (.ref 217), en P "__weakref__" 454 (.ref 218), en P "__doc__" 455 (.none)] 4 }),
  (216, { cls := .type "type", data := .cls { name := "People", bases := [.type "object"], mro := [.ref 216, .type "object"], ns := 215, qualname := "People" }, slots := #[none, none, some (.str "People" 329), some (.str "People" 337), some (.builtin "object.__new__"), some (.bool true)] }),
  (224, { cls := .type "code", data := .fields #[.str "members" 460, .str "members" 461, .str "/claim/cut.py" 462, .int 122 0, .int 1 0, .int 0 0, .int 0 0, .int 3 0, .ref 221, .bool true, .int 181 0, .ref 222, .none, .none, .none, .ref 223, .int 463 0, .int 122 0, .str "/claim/cut.py" 464] })]
noncomputable def k5 (P : Params) : Frag := [(225, fo "members" "members" (tp 23) "sharedwords.sets_of_letters" 458 224),
  (229, { cls := .type "code", data := .fields #[.str "sets_within" 466, .str "sets_within" 467, .str "/claim/cut.py" 468, .int 124 0, .int 1 0, .int 0 0, .int 0 0, .int 3 0, .ref 226, .bool true, .int 181 0, .ref 227, .none, .none, .none, .ref 228, .int 469 0, .int 124 0, .str "/claim/cut.py" 470] }),
  (230, fo "sets_within" "sets_within" (tp 24) "sharedwords.sets_of_letters" 458 229),
  (234, { cls := .type "code", data := .fields #[.str "with_one_less" 472, .str "with_one_less" 473, .str "/claim/cut.py" 474, .int 126 0, .int 1 0, .int 0 0, .int 0 0, .int 3 0, .ref 231, .bool true, .int 181 0, .ref 232, .none, .none, .none, .ref 233, .int 475 0, .int 126 0, .str "/claim/cut.py" 476] }),
  (235, fo "with_one_less" "with_one_less" (tp 25) "sharedwords.sets_of_letters" 458 234),
  (239, { cls := .type "code", data := .fields #[.str "with_one_more" 478, .str "with_one_more" 479, .str "/claim/cut.py" 480, .int 128 0, .int 2 0, .int 0 0, .int 0 0, .int 3 0, .ref 236, .bool true, .int 181 0, .ref 237, .none, .none, .none, .ref 238, .int 481 0, .int 128 0, .str "/claim/cut.py" 482] }),
  (240, fo "with_one_more" "with_one_more" (tp 26) "sharedwords.sets_of_letters" 458 239),
  (244, { cls := .type "code", data := .fields #[.str "has_any" 484, .str "has_any" 485, .str "/claim/cut.py" 486, .int 130 0, .int 2 0, .int 0 0, .int 0 0, .int 3 0, .ref 241, .bool true, .int 181 0, .ref 242, .none, .none, .none, .ref 243, .int 487 0, .int 130 0, .str "/claim/cut.py" 488] }),
  (245, fo "has_any" "has_any" (tp 27) "sharedwords.sets_of_letters" 458 244),
  (249, { cls := .type "code", data := .fields #[.str "least_sets" 490, .str "least_sets" 491, .str "/claim/cut.py" 492, .int 132 0, .int 1 0, .int 0 0, .int 0 0, .int 3 0, .ref 246, .bool true, .int 181 0, .ref 247, .none, .none, .none, .ref 248, .int 493 0, .int 132 0, .str "/claim/cut.py" 494] }),
  (250, fo "least_sets" "least_sets" (tp 28) "sharedwords.sets_of_letters" 458 249),
  (254, { cls := .type "code", data := .fields #[.str "greatest_sets" 496, .str "greatest_sets" 497, .str "/claim/cut.py" 498, .int 134 0, .int 2 0, .int 0 0, .int 0 0, .int 3 0, .ref 251, .bool true, .int 181 0, .ref 252, .none, .none, .none, .ref 253, .int 499 0, .int 134 0, .str "/claim/cut.py" 500] })]
noncomputable def k6 (P : Params) : Frag := [(255, fo "greatest_sets" "greatest_sets" (tp 29) "sharedwords.sets_of_letters" 458 254),
  (256, { cls := .type "tuple", data := .seq formsA }),
  (262, { cls := .type "code", data := .fields #[.str "counted" 560, .str "counted" 561, .str "/claim/cut.py" 562, .int 147 0, .int 1 0, .int 0 0, .int 0 0, .int 3 0, .ref 257, .bool true, .int 181 0, .ref 258, .none, .ref 259, .ref 260, .ref 261, .int 564 0, .int 147 0, .str "/claim/cut.py" 565] }),
  (263, fo "counted" "counted" (tp 41) "sharedwords.letters" 502 262),
  (269, { cls := .type "code", data := .fields #[.str "begin" 567, .str "begin" 568, .str "/claim/cut.py" 569, .int 149 0, .int 4 0, .int 0 0, .int 0 0, .int 3 0, .ref 264, .bool true, .int 181 0, .ref 265, .none, .ref 266, .ref 267, .ref 268, .int 574 0, .int 149 0, .str "/claim/cut.py" 575] }),
  (270, fo "begin" "begin" (tp 42) "sharedwords.letters" 502 269),
  (276, { cls := .type "code", data := .fields #[.str "learn" 577, .str "learn" 578, .str "/claim/cut.py" 579, .int 156 0, .int 3 0, .int 0 0, .int 0 0, .int 3 0, .ref 271, .bool true, .int 181 0, .ref 272, .none, .ref 273, .ref 274, .ref 275, .int 584 0, .int 156 0, .str "/claim/cut.py" 585] }),
  (277, fo "learn" "learn" (tp 43) "sharedwords.letters" 502 276),
  (283, { cls := .type "code", data := .fields #[.str "forget" 587, .str "forget" 588, .str "/claim/cut.py" 589, .int 162 0, .int 3 0, .int 0 0, .int 0 0, .int 3 0, .ref 278, .bool true, .int 181 0, .ref 279, .none, .ref 280, .ref 281, .ref 282, .int 594 0, .int 162 0, .str "/claim/cut.py" 595] }),
  (284, fo "forget" "forget" (tp 44) "sharedwords.letters" 502 283),
  (290, { cls := .type "code", data := .fields #[.str "revise" 597, .str "revise" 598, .str "/claim/cut.py" 599, .int 166 0, .int 3 0, .int 0 0, .int 0 0, .int 3 0, .ref 285, .bool true, .int 181 0, .ref 286, .none, .ref 287, .ref 288, .ref 289, .int 604 0, .int 166 0, .str "/claim/cut.py" 605] }),
  (291, fo "revise" "revise" (tp 45) "sharedwords.letters" 502 290)]
noncomputable def k7 (P : Params) : Frag := [(297, { cls := .type "code", data := .fields #[.str "tell" 607, .str "tell" 608, .str "/claim/cut.py" 609, .int 172 0, .int 2 0, .int 0 0, .int 0 0, .int 3 0, .ref 292, .bool true, .int 181 0, .ref 293, .none, .ref 294, .ref 295, .ref 296, .int 612 0, .int 172 0, .str "/claim/cut.py" 613] }),
  (298, fo "tell" "tell" (tp 46) "sharedwords.letters" 502 297),
  (304, { cls := .type "code", data := .fields #[.str "tellof" 615, .str "tellof" 616, .str "/claim/cut.py" 617, .int 174 0, .int 3 0, .int 0 0, .int 0 0, .int 3 0, .ref 299, .bool true, .int 181 0, .ref 300, .none, .ref 301, .ref 302, .ref 303, .int 624 0, .int 174 0, .str "/claim/cut.py" 625] }),
  (305, fo "tellof" "tellof" (tp 47) "sharedwords.letters" 502 304),
  (311, { cls := .type "code", data := .fields #[.str "teach" 627, .str "teach" 628, .str "/claim/cut.py" 629, .int 182 0, .int 3 0, .int 0 0, .int 0 0, .int 3 0, .ref 306, .bool true, .int 181 0, .ref 307, .none, .ref 308, .ref 309, .ref 310, .int 633 0, .int 182 0, .str "/claim/cut.py" 634] }),
  (312, fo "teach" "teach" (tp 48) "sharedwords.letters" 502 311),
  (318, { cls := .type "code", data := .fields #[.str "back" 636, .str "back" 637, .str "/claim/cut.py" 638, .int 187 0, .int 1 0, .int 0 0, .int 0 0, .int 3 0, .ref 313, .bool true, .int 181 0, .ref 314, .none, .ref 315, .ref 316, .ref 317, .int 640 0, .int 187 0, .str "/claim/cut.py" 641] }),
  (319, fo "back" "back" (tp 49) "sharedwords.letters" 502 318),
  (325, { cls := .type "code", data := .fields #[.str "again" 643, .str "again" 644, .str "/claim/cut.py" 645, .int 192 0, .int 1 0, .int 0 0, .int 0 0, .int 3 0, .ref 320, .bool true, .int 181 0, .ref 321, .none, .ref 322, .ref 323, .ref 324, .int 647 0, .int 192 0, .str "/claim/cut.py" 648] }),
  (326, fo "again" "again" (tp 50) "sharedwords.letters" 502 325),
  (332, { cls := .type "code", data := .fields #[.str "knows" 650, .str "knows" 651, .str "/claim/cut.py" 652, .int 197 0, .int 2 0, .int 0 0, .int 0 0, .int 3 0, .ref 327, .bool true, .int 181 0, .ref 328, .none, .ref 329, .ref 330, .ref 331, .int 656 0, .int 197 0, .str "/claim/cut.py" 657] }),
  (333, fo "knows" "knows" (tp 51) "sharedwords.letters" 502 332)]
noncomputable def k8 (P : Params) : Frag := [(339, { cls := .type "code", data := .fields #[.str "follows" 659, .str "follows" 660, .str "/claim/cut.py" 661, .int 200 0, .int 3 0, .int 0 0, .int 0 0, .int 3 0, .ref 334, .bool true, .int 181 0, .ref 335, .none, .ref 336, .ref 337, .ref 338, .int 665 0, .int 200 0, .str "/claim/cut.py" 666] }),
  (340, fo "follows" "follows" (tp 52) "sharedwords.letters" 502 339),
  (346, { cls := .type "code", data := .fields #[.str "is_open" 668, .str "is_open" 669, .str "/claim/cut.py" 670, .int 202 0, .int 3 0, .int 0 0, .int 0 0, .int 3 0, .ref 341, .bool true, .int 181 0, .ref 342, .none, .ref 343, .ref 344, .ref 345, .int 674 0, .int 202 0, .str "/claim/cut.py" 675] }),
  (347, fo "is_open" "is_open" (tp 53) "sharedwords.letters" 502 346),
  (353, { cls := .type "code", data := .fields #[.str "shared" 677, .str "shared" 678, .str "/claim/cut.py" 679, .int 204 0, .int 1 0, .int 0 0, .int 0 0, .int 3 0, .ref 348, .bool true, .int 181 0, .ref 349, .none, .ref 350, .ref 351, .ref 352, .int 681 0, .int 204 0, .str "/claim/cut.py" 682] }),
  (354, fo "shared" "shared" (tp 54) "sharedwords.letters" 502 353),
  (360, { cls := .type "code", data := .fields #[.str "own" 684, .str "own" 685, .str "/claim/cut.py" 686, .int 206 0, .int 2 0, .int 0 0, .int 0 0, .int 3 0, .ref 355, .bool true, .int 181 0, .ref 356, .none, .ref 357, .ref 358, .ref 359, .int 689 0, .int 206 0, .str "/claim/cut.py" 690] }),
  (361, fo "own" "own" (tp 55) "sharedwords.letters" 502 360),
  (367, { cls := .type "code", data := .fields #[.str "tells" 692, .str "tells" 693, .str "/claim/cut.py" 694, .int 208 0, .int 3 0, .int 0 0, .int 0 0, .int 3 0, .ref 362, .bool true, .int 181 0, .ref 363, .none, .ref 364, .ref 365, .ref 366, .int 698 0, .int 208 0, .str "/claim/cut.py" 699] }),
  (368, fo "tells" "tells" (tp 56) "sharedwords.letters" 502 367),
  (374, { cls := .type "code", data := .fields #[.str "news" 701, .str "news" 702, .str "/claim/cut.py" 703, .int 210 0, .int 3 0, .int 0 0, .int 0 0, .int 3 0, .ref 369, .bool true, .int 181 0, .ref 370, .none, .ref 371, .ref 372, .ref 373, .int 707 0, .int 210 0, .str "/claim/cut.py" 708] }),
  (375, fo "news" "news" (tp 57) "sharedwords.letters" 502 374)]
noncomputable def k9 (P : Params) : Frag := [(381, { cls := .type "code", data := .fields #[.str "would" 710, .str "would" 711, .str "/claim/cut.py" 712, .int 212 0, .int 2 0, .int 0 0, .int 0 0, .int 3 0, .ref 376, .bool true, .int 181 0, .ref 377, .none, .ref 378, .ref 379, .ref 380, .int 715 0, .int 212 0, .str "/claim/cut.py" 716] }),
  (382, fo "would" "would" (tp 58) "sharedwords.letters" 502 381),
  (388, { cls := .type "code", data := .fields #[.str "could" 718, .str "could" 719, .str "/claim/cut.py" 720, .int 214 0, .int 3 0, .int 0 0, .int 0 0, .int 3 0, .ref 383, .bool true, .int 181 0, .ref 384, .none, .ref 385, .ref 386, .ref 387, .int 724 0, .int 214 0, .str "/claim/cut.py" 725] }),
  (389, fo "could" "could" (tp 59) "sharedwords.letters" 502 388),
  (393, { cls := .type "code", data := .fields #[.str "asks" 727, .str "asks" 728, .str "/claim/cut.py" 729, .int 216 0, .int 3 0, .int 0 0, .int 0 0, .int 3 0, .ref 390, .bool true, .int 181 0, .ref 391, .none, .none, .none, .ref 392, .int 730 0, .int 216 0, .str "/claim/cut.py" 731] }),
  (394, fo "asks" "asks" (tp 60) "sharedwords.letters" 502 393),
  (398, { cls := .type "code", data := .fields #[.str "safe" 733, .str "safe" 734, .str "/claim/cut.py" 735, .int 221 0, .int 3 0, .int 0 0, .int 0 0, .int 3 0, .ref 395, .bool true, .int 181 0, .ref 396, .none, .none, .none, .ref 397, .int 736 0, .int 221 0, .str "/claim/cut.py" 737] }),
  (399, fo "safe" "safe" (tp 61) "sharedwords.letters" 502 398),
  (405, { cls := .type "code", data := .fields #[.str "quarrel" 739, .str "quarrel" 740, .str "/claim/cut.py" 741, .int 227 0, .int 1 0, .int 0 0, .int 0 0, .int 3 0, .ref 400, .bool true, .int 181 0, .ref 401, .none, .ref 402, .ref 403, .ref 404, .int 743 0, .int 227 0, .str "/claim/cut.py" 744] }),
  (406, fo "quarrel" "quarrel" (tp 62) "sharedwords.letters" 502 405),
  (410, { cls := .type "code", data := .fields #[.str "quarrels" 746, .str "quarrels" 747, .str "/claim/cut.py" 748, .int 229 0, .int 1 0, .int 0 0, .int 0 0, .int 3 0, .ref 407, .bool true, .int 181 0, .ref 408, .none, .none, .none, .ref 409, .int 749 0, .int 229 0, .str "/claim/cut.py" 750] }),
  (411, fo "quarrels" "quarrels" (tp 63) "sharedwords.letters" 502 410)]
noncomputable def k10 (P : Params) : Frag := [(417, { cls := .type "code", data := .fields #[.str "both" 752, .str "both" 753, .str "/claim/cut.py" 754, .int 234 0, .int 1 0, .int 0 0, .int 0 0, .int 3 0, .ref 412, .bool true, .int 181 0, .ref 413, .none, .ref 414, .ref 415, .ref 416, .int 757 0, .int 234 0, .str "/claim/cut.py" 758] }),
  (418, fo "both" "both" (tp 64) "sharedwords.letters" 502 417),
  (424, { cls := .type "code", data := .fields #[.str "common" 760, .str "common" 761, .str "/claim/cut.py" 762, .int 237 0, .int 1 0, .int 0 0, .int 0 0, .int 3 0, .ref 419, .bool true, .int 181 0, .ref 420, .none, .ref 421, .ref 422, .ref 423, .int 765 0, .int 237 0, .str "/claim/cut.py" 766] }),
  (425, fo "common" "common" (tp 65) "sharedwords.letters" 502 424),
  (431, { cls := .type "code", data := .fields #[.str "agreed" 768, .str "agreed" 769, .str "/claim/cut.py" 770, .int 240 0, .int 2 0, .int 0 0, .int 0 0, .int 3 0, .ref 426, .bool true, .int 181 0, .ref 427, .none, .ref 428, .ref 429, .ref 430, .int 773 0, .int 240 0, .str "/claim/cut.py" 774] }),
  (432, fo "agreed" "agreed" (tp 66) "sharedwords.letters" 502 431),
  (438, { cls := .type "code", data := .fields #[.str "parts" 776, .str "parts" 777, .str "/claim/cut.py" 778, .int 242 0, .int 2 0, .int 0 0, .int 0 0, .int 3 0, .ref 433, .bool true, .int 181 0, .ref 434, .none, .ref 435, .ref 436, .ref 437, .int 781 0, .int 242 0, .str "/claim/cut.py" 782] }),
  (439, fo "parts" "parts" (tp 67) "sharedwords.letters" 502 438),
  (443, { cls := .type "code", data := .fields #[.str "matter" 784, .str "matter" 785, .str "/claim/cut.py" 786, .int 244 0, .int 2 0, .int 0 0, .int 0 0, .int 3 0, .ref 440, .bool true, .int 181 0, .ref 441, .none, .none, .none, .ref 442, .int 787 0, .int 244 0, .str "/claim/cut.py" 788] }),
  (444, fo "matter" "matter" (tp 68) "sharedwords.letters" 502 443),
  (448, { cls := .type "code", data := .fields #[.str "settles" 790, .str "settles" 791, .str "/claim/cut.py" 792, .int 247 0, .int 2 0, .int 0 0, .int 0 0, .int 3 0, .ref 445, .bool true, .int 181 0, .ref 446, .none, .none, .none, .ref 447, .int 793 0, .int 247 0, .str "/claim/cut.py" 794] }),
  (449, fo "settles" "settles" (tp 69) "sharedwords.letters" 502 448)]
noncomputable def k11 (P : Params) : Frag := [(453, { cls := .type "code", data := .fields #[.str "unsure" 796, .str "unsure" 797, .str "/claim/cut.py" 798, .int 249 0, .int 2 0, .int 0 0, .int 0 0, .int 3 0, .ref 450, .bool true, .int 181 0, .ref 451, .none, .none, .none, .ref 452, .int 799 0, .int 249 0, .str "/claim/cut.py" 800] }),
  (454, fo "unsure" "unsure" (tp 70) "sharedwords.letters" 502 453),
  (460, { cls := .type "code", data := .fields #[.str "state" 802, .str "state" 803, .str "/claim/cut.py" 804, .int 253 0, .int 1 0, .int 0 0, .int 0 0, .int 3 0, .ref 455, .bool true, .int 181 0, .ref 456, .none, .ref 457, .ref 458, .ref 459, .int 807 0, .int 253 0, .str "/claim/cut.py" 808] }),
  (461, fo "state" "state" (tp 71) "sharedwords.letters" 502 460),
  (462, { cls := .type "tuple", data := .seq callsA }),
  (468, { cls := .type "code", data := .fields #[.str "claim_refusal" 811, .str "claim_refusal" 812, .str "/claim/cut.py" 813, .int 257 0, .int 3 0, .int 0 0, .int 0 0, .int 3 0, .ref 463, .bool true, .int 181 0, .ref 464, .none, .ref 465, .ref 466, .ref 467, .int 817 0, .int 257 0, .str "/claim/cut.py" 818] }),
  (469, fo "claim_refusal" "claim_refusal" (tp 73) "sharedwords.letters" 502 468),
  (475, { cls := .type "code", data := .fields #[.str "letters_refusal" 820, .str "letters_refusal" 821, .str "/claim/cut.py" 822, .int 263 0, .int 3 0, .int 0 0, .int 0 0, .int 3 0, .ref 470, .bool true, .int 181 0, .ref 471, .none, .ref 472, .ref 473, .ref 474, .int 826 0, .int 263 0, .str "/claim/cut.py" 827] }),
  (476, fo "letters_refusal" "letters_refusal" (tp 74) "sharedwords.letters" 502 475),
  (482, { cls := .type "code", data := .fields #[.str "refusal_of" 829, .str "refusal_of" 830, .str "/claim/cut.py" 831, .int 269 0, .int 3 0, .int 0 0, .int 0 0, .int 3 0, .ref 477, .bool true, .int 181 0, .ref 478, .none, .ref 479, .ref 480, .ref 481, .int 835 0, .int 269 0, .str "/claim/cut.py" 836] }),
  (483, fo "refusal_of" "refusal_of" (tp 75) "sharedwords.letters" 502 482),
  (489, { cls := .type "code", data := .fields #[.str "carry_out" 838, .str "carry_out" 839, .str "/claim/cut.py" 840, .int 283 0, .int 3 0, .int 0 0, .int 0 0, .int 3 0, .ref 484, .bool true, .int 181 0, .ref 485, .none, .ref 486, .ref 487, .ref 488, .int 844 0, .int 283 0, .str "/claim/cut.py" 845] })]
noncomputable def k12 (P : Params) : Frag := [(490, fo "carry_out" "carry_out" (tp 76) "sharedwords.letters" 502 489),
  (496, { cls := .type "code", data := .fields #[.str "answer_of" 847, .str "answer_of" 848, .str "/claim/cut.py" 849, .int 291 0, .int 3 0, .int 0 0, .int 0 0, .int 3 0, .ref 491, .bool true, .int 181 0, .ref 492, .none, .ref 493, .ref 494, .ref 495, .int 855 0, .int 291 0, .str "/claim/cut.py" 856] }),
  (497, fo "answer_of" "answer_of" (tp 77) "sharedwords.letters" 502 496),
  (503, { cls := .type "code", data := .fields #[.str "answers" 858, .str "answers" 859, .str "/claim/cut.py" 860, .int 299 0, .int 1 0, .int 0 0, .int 0 0, .int 3 0, .ref 498, .bool true, .int 181 0, .ref 499, .none, .ref 500, .ref 501, .ref 502, .int 868 0, .int 299 0, .str "/claim/cut.py" 869] }),
  (504, fo "answers" "answers" (tp 78) "sharedwords.letters" 502 503)]
noncomputable def Kx (P : Params) : Frag := k0 P ++ (k1 P ++ (k2 P ++ (k3 P ++ (k4 P ++ (k5 P ++ (k6 P ++ (k7 P ++ (k8 P ++ (k9 P ++ (k10 P ++ (k11 P ++ (k12 P))))))))))))
noncomputable def kA : List Addr := [3, 20, 21, 27, 28, 32, 33, 39, 40, 46, 47, 53, 54, 58, 59, 65, 66, 72, 73, 79, 80, 86, 87, 93, 94, 100, 101, 107, 108, 114, 115, 128, 129, 135, 136, 142, 143, 149, 150, 156, 157, 163, 164, 170, 171, 177, 178, 184, 185, 191, 192, 198, 199, 205, 206, 212, 213, 215, 216, 224, 225, 229, 230, 234, 235, 239, 240, 244, 245, 249, 250, 254, 255, 256, 262, 263, 269, 270, 276, 277, 283, 284, 290, 291, 297, 298, 304, 305, 311, 312, 318, 319, 325, 326, 332, 333, 339, 340, 346, 347, 353, 354, 360, 361, 367, 368, 374, 375, 381, 382, 388, 389, 393, 394, 398, 399, 405, 406, 410, 411, 417, 418, 424, 425, 431, 432, 438, 439, 443, 444, 448, 449, 453, 454, 460, 461, 462, 468, 469, 475, 476, 482, 483, 489, 490, 496, 497, 503, 504]
theorem kA_eq : ∀ P, kA = (Kx P).map (·.1) := fun P => by kernel_rfl
noncomputable def hk : Hook := kHook Kx kA kA_eq
noncomputable def xt (s : Shared) : Bool := xlAt vw [] s && recOk [] s
noncomputable def fA (s : Shared) := (seen ((recsOf vw).map (·.name)) (ownsOf vw) [] { s with gens := #[] }, s.heap.bltView,
  s.heap.keysOk (looseW vw ["CALLS"]) ((recsOf vw).map (·.name)) ((litsOf vw).map (·.1)) ((clssOf vw (looseW vw ["CALLS"])).map (·.name)) && s.heap.accountedOkI (importedModules pg.main.body) && s.heap.isNs mainGlobals && s.heap.isNs builtinsNs && tablesOk vw s.heap && xt s && (if true then s.gens.size == 0 else !leftWithCleanup s.gens))
noncomputable def gA := (expectedOf vw, bltViewBooted, true)
noncomputable def fC (s : Shared) := (tabsOk vw s, pinSeenD vw (drecsOf vw) s, plainSeenE vw (looseW vw ["CALLS"]) s)
noncomputable def gC := (true, pinGoodD (drecsOf vw), plainGoodE vw (looseW vw ["CALLS"]))
noncomputable def fD (s : Shared) := (plainSeenD vw ["CALLS"] s, wideSeen vw s, clsSeenW vw ["CALLS"] s)
noncomputable def gD := (plainGoodD vw ["CALLS"], wideGood vw, clsGoodW vw ["CALLS"])
theorem seen_eq (s : Shared) : openSeen vw ["CALLS"] (importedModules pg.main.body) xt true s = ((fA s).1, (fA s).2.1, (fA s).2.2, (fC s).1, (fC s).2.1, (fC s).2.2, (fD s).1, (fD s).2.1, (fD s).2.2) := by
  dsimp only [openSeen, fA, fC, fD]
theorem good_eq : openGood vw ["CALLS"] = (gA.1, gA.2.1, gA.2.2, gC.1, gC.2.1, gC.2.2, gD.1, gD.2.1, gD.2.2) := by
  dsimp only [openGood, gA, gC, gD]
noncomputable def lhA (w : World) := (openEnds treeTable pg w 5442).map fA
noncomputable def rhA := some gA
noncomputable def lhC (w : World) := (openEnds treeTable pg w 5442).map fC
noncomputable def rhC := some gC
noncomputable def lhD (w : World) := (openEnds treeTable pg w 5442).map fD
noncomputable def rhD := some gD
noncomputable def lhB (w : World) := (openEnds treeTable pg w 5442).map fun s => kA.map s.heap.get?
noncomputable def rhB (w : World) := some ((Kx w.params).map fun p => some p.2)
end Sw
lay_quick Sw.lhA Sw.rhA Sw.lhB Sw.rhB Sw.lhC Sw.rhC Sw.lhD Sw.rhD
namespace Sw
open PySem PySem.W PyProof.Rows
theorem ranA (w : World) : PySem.W.Fast.tw6939646168540774282 w = PySem.W.Fast.tw7011909629398180550 := by kernel_rfl
theorem ranC (w : World) : PySem.W.Fast.tw17411278346070954324 w = PySem.W.Fast.tw14249601889950390911 := by kernel_rfl
theorem ranD (w : World) : PySem.W.Fast.tw8850322654312012480 w = PySem.W.Fast.tw12338522110059364576 := by kernel_rfl
theorem ranB (w : World) : PySem.W.Fast.tw5129310484366003974 w = PySem.W.Fast.tw16374631021744993484 w := by kernel_rfl
theorem endA (w : World) : lhA w = rhA := by rw [PySem.W.Fast.te6939646168540774282, PySem.W.Fast.te7011909629398180550]; exact ranA w
theorem endC (w : World) : lhC w = rhC := by rw [PySem.W.Fast.te17411278346070954324, PySem.W.Fast.te14249601889950390911]; exact ranC w
theorem endD (w : World) : lhD w = rhD := by rw [PySem.W.Fast.te8850322654312012480, PySem.W.Fast.te12338522110059364576]; exact ranD w
theorem endB (w : World) : lhB w = rhB w := by rw [PySem.W.Fast.te5129310484366003974, PySem.W.Fast.te16374631021744993484]; exact ranB w
theorem map_both {a b c : Type} {x : Option a} {f : a → b} {g : a → c} {y : b} {z : c} (h1 : x.map f = some y) (h2 : x.map g = some z) : x.map (fun s => (f s, g s)) = some (y, z) := by
  cases x with
  | none => cases h1
  | some s =>
    have e1 : f s = y := Option.some.inj h1
    have e2 : g s = z := Option.some.inj h2
    show some (f s, g s) = _
    rw [e1, e2]
theorem endAll (w : World) : (openEnds treeTable pg w 5442).map (fun s => openSeen vw ["CALLS"] (importedModules pg.main.body) xt true s) = some (openGood vw ["CALLS"]) := by
  have hA : (openEnds treeTable pg w 5442).map fA = some gA := endA w
  have hC : (openEnds treeTable pg w 5442).map fC = some gC := endC w
  have hD : (openEnds treeTable pg w 5442).map fD = some gD := endD w
  generalize openEnds treeTable pg w 5442 = x at hA hC hD
  cases x with
  | none => cases hA
  | some s =>
    have e1 : fA s = gA := Option.some.inj hA
    have e2 : fC s = gC := Option.some.inj hC
    have e3 : fD s = gD := Option.some.inj hD
    show some (openSeen vw ["CALLS"] (importedModules pg.main.body) xt true s) = some (openGood vw ["CALLS"])
    rw [seen_eq, good_eq, e1, e2, e3]
theorem left : LeftO pg vw ["CALLS"] xt (Hook.obs hk) (Hook.val hk) 5442 := fun w => map_both (endAll w) (endB w)
noncomputable def dAns : DefRec := ⟨"answers", dA (tp 78), dB (tp 78), dS (tp 78), dP (tp 78)⟩
end Sw
end

section
section
set_option Elab.async false
set_option linter.all false
set_option maxRecDepth 100000
namespace L2
open PySem PySem.Spec PyProof.Rows

abbrev Key := Sum Int Str
def keyIs : Key → Value → Bool
  | .inl k, v => Value.isInt k v
  | .inr x, v => Value.isStrOf x v
def keyH (w : World) : Key → Int
  | .inl k => hashInt k
  | .inr x => hashStr w x
theorem keyIs_shape : ∀ {k : Key} {v : Value}, keyIs k v = true → (∃ i t, k = Sum.inl i ∧ v = Value.int i t) ∨ (∃ x t, k = Sum.inr x ∧ v = Value.str x t)
  | .inl i, v, h => by
    obtain ⟨t, e⟩ := Value.isInt_shape (k := i) (v := v) h
    exact .inl ⟨i, t, rfl, e⟩
  | .inr x, v, h => by
    obtain ⟨t, e⟩ := Value.isStrOf_shape (x := x) (v := v) h
    exact .inr ⟨x, t, rfl, e⟩
theorem key_ll (a b : Int) : decide ((Sum.inl a : Key) = Sum.inl b) = (a == b) := by
  by_cases e : a = b
  · subst e; simp
  · have h : ¬ (Sum.inl a : Key) = Sum.inl b := fun q => e (Sum.inl.inj q)
    rw [decide_eq_false h]
    exact (beq_eq_false_iff_ne.mpr e).symm
theorem key_rr (a b : Str) : decide ((Sum.inr a : Key) = Sum.inr b) = decide (a = b) := by
  by_cases e : a = b
  · subst e; simp
  · have h : ¬ (Sum.inr a : Key) = Sum.inr b := fun q => e (Sum.inr.inj q)
    rw [decide_eq_false h, decide_eq_false e]
theorem key_lr (a : Int) (b : Str) : decide ((Sum.inl a : Key) = Sum.inr b) = false := decide_eq_false (fun q => nomatch q)
theorem key_rl (a : Str) (b : Int) : decide ((Sum.inr a : Key) = Sum.inl b) = false := decide_eq_false (fun q => nomatch q)

def mixKind (prog : Program) (w : World) : PySem.KeyKind prog w Key where
  is := keyIs
  hash := keyH w
  inj := fun v a b ha hb => by
    rcases keyIs_shape ha with ⟨i, t, rfl, rfl⟩ | ⟨x, t, rfl, rfl⟩
    · rcases keyIs_shape hb with ⟨j, u, rfl, e⟩ | ⟨y, u, rfl, e⟩
      · injection e with e1 _; rw [e1]
      · exact nomatch e
    · rcases keyIs_shape hb with ⟨j, u, rfl, e⟩ | ⟨y, u, rfl, e⟩
      · exact nomatch e
      · injection e with e1 _; rw [e1]
  byValue := fun k v h => by
    rcases keyIs_shape h with ⟨i, t, rfl, rfl⟩ | ⟨x, t, rfl, rfl⟩ <;> rfl
  pyHash := fun hv h => by
    rcases keyIs_shape hv with ⟨i, t, rfl, rfl⟩ | ⟨x, t, rfl, rfl⟩
    · exact wpAny_pyHash_int h
    · exact wpAny_pyHash_str h
  eqBool := fun hu hv h => by
    rcases keyIs_shape hu with ⟨i, t, rfl, rfl⟩ | ⟨x, t, rfl, rfl⟩
    · rcases keyIs_shape hv with ⟨j, u, rfl, rfl⟩ | ⟨y, u, rfl, rfl⟩
      · rw [key_ll] at h; exact wpAny_eqBool_int h
      · rw [key_lr] at h; exact SeqAt.EqAt.int_str i t y u _ _ _ _ h
    · rcases keyIs_shape hv with ⟨j, u, rfl, rfl⟩ | ⟨y, u, rfl, rfl⟩
      · rw [key_rl] at h; exact SeqAt.EqAt.str_int x t j u _ _ _ _ h
      · rw [key_rr] at h; exact wpAny_eqBool_str h
  «strs» := fun k x t v h => by
    rcases keyIs_shape h with ⟨i, u, rfl, e⟩ | ⟨y, u, rfl, e⟩
    · exact nomatch e
    · injection e with e1 _
      subst e1
      cases v <;> rfl

end L2
namespace L2
open PySem PySem.Spec PyProof.Rows

inductive V where
  | non | bl (b : Bool) | int (i : Int) | str (x : Str) | byt (b : Array UInt8) | flt (b : UInt64) | ref (a : Addr) | ty (n : String)
  deriving DecidableEq

def RelV : V → Value → Prop
  | .non, u => u = Value.none
  | .bl b, u => u = Value.bool b
  | .int i, u => ∃ t, u = Value.int i t
  | .str x, u => ∃ t, u = Value.str x t
  | .byt b, u => ∃ t, u = Value.bytes b t
  | .flt b, u => ∃ t, u = Value.float b t
  | .ref a, u => u = Value.ref a
  | .ty n, u => u = Value.type n

abbrev Vals : List V → List Value → Prop := Paired RelV
theorem Vals.length {xs : List V} {us : List Value} (r : Vals xs us) : xs.length = us.length := Paired.length r
theorem Vals.get : ∀ {xs : List V} {us : List Value} {i : Nat} {x : V}, Vals xs us → xs[i]? = some x → ∃ u, us[i]? = some u ∧ RelV x u
  | _, _, _, _, .nil, e => by simp at e
  | _, _, 0, _, .cons r _, e => by simp at e; subst e; exact ⟨_, rfl, r⟩
  | _, _, i + 1, x, .cons _ t, e => by
    obtain ⟨u, h1, h2⟩ := Vals.get (i := i) (x := x) t (by simpa using e)
    exact ⟨u, by simpa using h1, h2⟩
theorem Vals.append : ∀ {xs ys : List V} {us ws : List Value}, Vals xs us → Vals ys ws → Vals (xs ++ ys) (us ++ ws)
  | _, _, _, _, .nil, s => s
  | _, _, _, _, .cons r t, s => .cons r (Vals.append t s)
theorem Vals.take : ∀ {xs : List V} {us : List Value} (n : Nat), Vals xs us → Vals (xs.take n) (us.take n)
  | _, _, 0, _ => .nil
  | _, _, _ + 1, .nil => .nil
  | _, _, n + 1, .cons r t => .cons r (Vals.take n t)
theorem Vals.drop : ∀ {xs : List V} {us : List Value} (n : Nat), Vals xs us → Vals (xs.drop n) (us.drop n)
  | _, _, 0, r => r
  | _, _, _ + 1, .nil => .nil
  | _, _, n + 1, .cons _ t => Vals.drop n t
def RelO : Option V → Option Value → Prop
  | some v, some u => RelV v u
  | none, none => True
  | _, _ => False
def KV {κ : Type} : List (κ × V) → List (κ × Value) → Prop := Paired fun (p : κ × V) (q : κ × Value) => p.1 = q.1 ∧ RelV p.2 q.2

def kV : Key → V
  | .inl i => .int i
  | .inr x => .str x

inductive HO where
  /-- a list -/
  | lst (xs : List V)
  /-- a tuple (never changes) -/
  | tup (xs : List V)
  /-- a dict whose keys are ints and texts; one whose keys are tuples of ints and texts (the empty one is both) -/
  | dK (kvs : List (Key × V)) | dT (kvs : List (List Key × V))
  /-- a set of ints: its members, its size -/
  | set (S : Int → Bool) (n : Nat)
  /-- an instance of the class at C, its dict at dx, its attributes -/
  | ins (C dx : Addr) (fs : List (Str × V))
  /-- the dict of the instance at x -/
  | own (x : Addr)
  /-- the dict of an exception -/
  | xd (fs : List (Str × V))
  /-- a bound method, f of x -/
  | met (f x : Addr)
  /-- a range object lo, lo + 1, .. below hi -/
  | rng (lo hi : Int)
  /-- a thing that is known to the object (the script; a dict while a loop walks it): read, never written while it is so -/
  | frz (o : Obj) (u : HO)
  /-- a code object's table -/
  | tbl (ps : Array Value)
  /-- any other thing, by what is true of its one object (a def of one's own: SetO a S n := HO.ext fun h => ..) -/
  | ext (φ : Heap → Prop)

abbrev Hp := Addr → Option HO
def upd (H : Hp) (a : Addr) (o : HO) : Hp := fun b => if b = a then some o else H b
theorem upd_same {H : Hp} {a : Addr} {o : HO} : upd H a o a = some o := by unfold upd; rw [if_pos rfl]
theorem upd_ne {H : Hp} {a b : Addr} {o : HO} (h : b ≠ a) : upd H a o b = H b := by unfold upd; rw [if_neg h]
theorem upd_upd {H : Hp} {a : Addr} {o u : HO} : upd (upd H a o) a u = upd H a u := by
  funext b; unfold upd; split <;> rfl
theorem ne_of {H : Hp} {a b : Addr} {o u : HO} (h : H a = some o) (h' : H b = some u) (d : o ≠ u) : a ≠ b := by
  intro e; subst e; rw [h] at h'; exact d (Option.some.inj h')
theorem ne_of_none {H : Hp} {a b : Addr} {o : HO} (h : H a = some o) (h' : H b = none) : a ≠ b := by
  intro e; subst e; rw [h] at h'; cases h'

section
variable (P : Program) (w : World)
def ObjOk (H : Hp) (h : Heap) (a : Addr) : HO → Prop
  | .lst xs => xs.length ≤ sizeLine ∧ ∃ (its : List Value) (n : Nat), Vals xs its ∧ h.get? a = some { cls := .type "list", data := .seq its.toArray n }
  | .tup xs => xs.length ≤ sizeLine ∧ ∃ its : List Value, Vals xs its ∧ IsTup h a its.toArray
  | .dK kvs => kvs.length ≤ sizeLine ∧ (a == sysModules) = false ∧ ∃ vs, KV kvs vs ∧ h.DictOf (mixKind P w) a vs
  | .dT kvs => kvs.length ≤ sizeLine ∧ (a == sysModules) = false ∧ ∃ xs : List (List Key × Addr × Value),
      Paired (fun (p : List Key × V) (q : List Key × Addr × Value) => p.1 = q.1 ∧ H q.2.1 = some (.tup (p.1.map kV)) ∧ RelV p.2 q.2.2) kvs xs ∧
      ∃ o es ep, h.get? a = some o ∧ o.ExactDict ∧ o.data = .dict es ep ∧ es.toList = xs.map (entryOfKey (tupleKind (mixKind P w))) ∧ (xs.map (·.1)).Nodup
  | .set S n => h.SetOf (intKind P w) a S n
  | .ins C dx fs => H dx = some (.own a) ∧ fs.length ≤ 1000 ∧ dx ≠ a ∧ h.get? a = some (PySem.W.instObj C dx) ∧
      ∃ mA, h.Ns1 dx mA ∧ (∀ f, RelO (fs.lookup f) (mA f)) ∧ PySem.Within mA (fs.map (·.1))
  | .own _ => ∃ o, h.get? a = some o
  | .xd fs => ∃ mA, h.Ns1 a mA ∧ ∀ f, RelO (fs.lookup f) (mA f)
  | .rng lo hi => ∃ t u v, h.get? a = some { cls := .type "range", data := .fields #[.int lo t, .int hi u, .int 1 v] }
  | .frz o u => h.get? a = some o ∧ ObjOk H h a u
  | .tbl ps => h.get? a = some { cls := .none, data := .fields ps }
  | .met f x => h.get? a = some (PySem.W.methodObj (.ref f) (.ref x))
  | .ext φ => φ h ∧ (∃ o, h.get? a = some o) ∧ ∀ h1 h2 : Heap, φ h1 → (∀ o, h1.get? a = some o → h2.get? a = some o) → φ h2
def HOk (H : Hp) (h : Heap) : Prop := ∀ a o, H a = some o → ObjOk P w H h a o
end
section
variable {P : Program} {w : World} {H H' : Hp} {h h' : Heap} {a : Addr} {o : HO}
theorem ObjOk.lt (x : ObjOk P w H h a o) : a < h.objs.size := by
  cases o with
  | lst xs => obtain ⟨_, _, _, _, e⟩ := x; exact Heap.lt_size e
  | tup xs => obtain ⟨_, _, _, p⟩ := x; exact p.lt
  | dK kvs => obtain ⟨_, _, _, _, o, _, _, e, _⟩ := x; exact Heap.lt_size e
  | dT kvs => obtain ⟨_, _, _, _, o, _, _, e, _⟩ := x; exact Heap.lt_size e
  | set S n => obtain ⟨o, _, _, _, e, _⟩ := x; exact Heap.lt_size e
  | ins C dx fs => obtain ⟨_, _, _, e, _⟩ := x; exact Heap.lt_size e
  | own y => obtain ⟨_, e⟩ := x; exact Heap.lt_size e
  | xd fs => obtain ⟨_, ⟨_, _, _, e, _⟩, _⟩ := x; exact Heap.lt_size e
  | rng lo hi => obtain ⟨_, _, _, e⟩ := x; exact Heap.lt_size e
  | frz ob u => obtain ⟨e, _⟩ := x; exact Heap.lt_size e
  | tbl ps => exact Heap.lt_size (show h.get? a = some _ from x)
  | met f y => exact Heap.lt_size (show h.get? a = some _ from x)
  | ext φ => obtain ⟨_, ⟨_, e⟩, _⟩ := x; exact Heap.lt_size e
theorem Paired.mapP {α β : Type} {F G : α → β → Prop} : ∀ {l₁ : List α} {l₂ : List β}, Paired F l₁ l₂ → (∀ a b, F a b → G a b) → Paired G l₁ l₂
  | _, _, .nil, _ => .nil
  | _, _, .cons r t, f => .cons (f _ _ r) (Paired.mapP t f)
theorem ObjOk.stay (x : ObjOk P w H h a o) (k : ∀ b u, (b = a ∨ H b = some (.own a)) → h.get? b = some u → h'.get? b = some u)
    (ho : ∀ b, H b = some (.own a) → H' b = some (.own a)) (ht : ∀ b xs, H b = some (.tup xs) → H' b = some (.tup xs)) : ObjOk P w H' h' a o := by
  induction o with
  | lst xs => obtain ⟨z, its, n, r, e⟩ := x; exact ⟨z, its, n, r, k _ _ (.inl rfl) e⟩
  | tup xs => obtain ⟨z, its, r, ob, e, c⟩ := x; exact ⟨z, its, r, ob, k _ _ (.inl rfl) e, c⟩
  | dK kvs => obtain ⟨z, y, vs, r, ob, es, ep, e, c⟩ := x; exact ⟨z, y, vs, r, ob, es, ep, k _ _ (.inl rfl) e, c⟩
  | dT kvs =>
    obtain ⟨z, y, xs, r, ob, es, ep, e, c⟩ := x
    exact ⟨z, y, xs, Paired.mapP r fun p q z => ⟨z.1, ht _ _ z.2.1, z.2.2⟩, ob, es, ep, k _ _ (.inl rfl) e, c⟩
  | set S n => obtain ⟨ob, es, ep, t, e, c⟩ := x; exact ⟨ob, es, ep, t, k _ _ (.inl rfl) e, c⟩
  | ins C dx fs =>
    obtain ⟨d, z, ne, e, mA, ⟨od, es, ep, e2, c⟩, r⟩ := x
    exact ⟨ho _ d, z, ne, k _ _ (.inl rfl) e, mA, ⟨od, es, ep, k _ _ (.inr d) e2, c⟩, r⟩
  | own y => obtain ⟨ob, e⟩ := x; exact ⟨ob, k _ _ (.inl rfl) e⟩
  | xd fs => obtain ⟨mA, ⟨od, es, ep, e, c⟩, r⟩ := x; exact ⟨mA, ⟨od, es, ep, k _ _ (.inl rfl) e, c⟩, r⟩
  | rng lo hi => obtain ⟨t, u, v, e⟩ := x; exact ⟨t, u, v, k _ _ (.inl rfl) e⟩
  | frz ob u ih => obtain ⟨e, q⟩ := x; exact ⟨k _ _ (.inl rfl) e, ih q⟩
  | tbl ps =>
    have e : h.get? a = some { cls := .none, data := .fields ps } := x
    show h'.get? a = some { cls := .none, data := .fields ps }
    exact k a _ (.inl rfl) e
  | met f y =>
    have e : h.get? a = some (PySem.W.methodObj (.ref f) (.ref y)) := x
    show h'.get? a = some (PySem.W.methodObj (.ref f) (.ref y))
    exact k a _ (.inl rfl) e
  | ext φ => obtain ⟨p, ⟨o, e⟩, st⟩ := x; exact ⟨st _ _ p fun o q => k _ _ (.inl rfl) q, ⟨o, k _ _ (.inl rfl) e⟩, st⟩
theorem HOk.lt (x : HOk P w H h) (e : H a = some o) : a < h.objs.size := (x a o e).lt
theorem HOk.fresh (x : HOk P w H h) (e : h.objs.size ≤ a) : H a = none := by
  cases q : H a with
  | none => rfl
  | some u => exact absurd (Nat.lt_of_lt_of_le (x.lt q) e) (Nat.lt_irrefl _)
theorem HOk.kept (x : HOk P w H h) (k : ∀ b u, h.get? b = some u → h'.get? b = some u) : HOk P w H h' := fun a o e =>
  (x a o e).stay (fun b u _ q => k b u q) (fun _ q => q) fun _ _ q => q
theorem HOk.laid (x : HOk P w H h) (k : ∀ b u, h.get? b = some u → h'.get? b = some u) (hp : h.objs.size ≤ a) (new : ObjOk P w (upd H a o) h' a o) : HOk P w (upd H a o) h' := fun b u e => by
  have hn := x.fresh hp
  by_cases hb : b = a
  · subst hb; rw [upd_same] at e; cases e; exact new
  · rw [upd_ne hb] at e
    exact (x b u e).stay (fun c v _ q => k c v q) (fun c q => by rw [upd_ne (ne_of_none q hn)]; exact q) fun c xs q => by rw [upd_ne (ne_of_none q hn)]; exact q
end
def Rd (H : Hp) (a : Addr) (u : HO) : Prop := H a = some u ∨ ∃ o, H a = some (.frz o u)
theorem Rd.ok {P : Program} {w : World} {H : Hp} {h : Heap} {a : Addr} {u : HO} (r : Rd H a u) (x : HOk P w H h) : ObjOk P w H h a u := by
  rcases r with r | ⟨o, r⟩
  · exact x a u r
  · obtain ⟨_, q⟩ := x a _ r
    exact q
def Mut : Option HO → Prop
  | some (.lst _) => True
  | some (.dK _) => True
  | some (.dT _) => True
  | some (.set _ _) => True
  | some (.ins _ _ _) => True
  | some (.ext _) => True
  | _ => False
section
variable {P : Program} {w : World} {H : Hp} {h h' : Heap} {x e : Addr} {o' : HO}
theorem HOk.write (ok : HOk P w H h) (mu : Mut (H x)) (he : e = x ∨ H e = some (.own x)) (k : ∀ b u, b ≠ e → h.get? b = some u → h'.get? b = some u) (heo : ∃ u, h'.get? e = some u)
    (new : ObjOk P w (upd H x o') h' x o') : HOk P w (upd H x o') h' := fun b u q => by
  have nown : ∀ c y, H c = some (.own y) → c ≠ x := fun c y r z => by subst z; rw [r] at mu; exact mu
  have ntup : ∀ c xs, H c = some (.tup xs) → c ≠ x := fun c xs r z => by subst z; rw [r] at mu; exact mu
  by_cases hb : b = x
  · subst hb; rw [upd_same] at q; cases q; exact new
  · rw [upd_ne hb] at q
    by_cases hbe : b = e
    · have q' : H b = some (.own x) := by
        rcases he with z | z
        · exact absurd (hbe.trans z) hb
        · rw [hbe]; exact z
      rw [q] at q'; cases q'
      obtain ⟨v, hv⟩ := heo
      exact ⟨v, by rw [hbe]; exact hv⟩
    · refine (ok b u q).stay (fun c v hc r => k c v ?_ r) (fun c r => by rw [upd_ne (nown c b r)]; exact r) fun c xs r => by rw [upd_ne (ntup c xs r)]; exact r
      rcases hc with rfl | hc
      · exact hbe
      · rintro rfl
        rcases he with z | z
        · exact nown c b hc z
        · rw [hc] at z; cases z; exact hb rfl
end
structure Un (fs ex : List Addr) (H H' : Hp) (h h' : Heap) : Prop where
  keep : ∀ b o, h.get? b = some o → H b = none → b ∉ fs → b ∉ ex → h'.get? b = some o
  slot : ∀ b o, h.get? b = some o → H b = none → b ∈ fs → b ∉ ex → ∃ sl, h'.get? b = some { o with slots := sl }
  free : ∀ b o, h.get? b = some o → H b = none → b ∉ ex → H' b = none
  there : ∀ b o, h.get? b = some o → b ∉ ex → ∃ o', h'.get? b = some o'
  tups : ∀ b xs, H b = some (.tup xs) → H' b = some (.tup xs)
  frzs : ∀ b o u, H b = some (.frz o u) → H' b = some (.frz o u)
  tbls : ∀ b ps, H b = some (.tbl ps) → ∃ more, H' b = some (.tbl (ps ++ more))
section
variable {fs fs' ex ex' : List Addr} {H H1 H2 : Hp} {h h1 h2 h' : Heap} {a x e : Addr} {o : HO}
theorem Un.any (u : Un fs ex H H1 h h1) {b : Addr} {ob : Obj} (q : h.get? b = some ob) (n : H b = none) (hx : b ∉ ex) : ∃ sl, h1.get? b = some { ob with slots := sl } := by
  by_cases hb : b ∈ fs
  · exact u.slot b ob q n hb hx
  · exact ⟨ob.slots, u.keep b ob q n hb hx⟩
theorem Un.kept (k : ∀ b u, h.get? b = some u → h'.get? b = some u) : Un fs ex H H h h' :=
  ⟨fun b ob q _ _ _ => k b ob q, fun b ob q _ _ _ => ⟨ob.slots, k b ob q⟩, fun _ _ _ n _ => n, fun b ob q _ => ⟨ob, k b ob q⟩, fun _ _ q => q, fun _ _ _ q => q, fun _ ps q => ⟨#[], by rw [q]; simp⟩⟩
theorem Un.refl : Un fs ex H H h h := Un.kept fun _ _ q => q
theorem Un.laid (k : ∀ b u, h.get? b = some u → h'.get? b = some u) (hp : h.objs.size ≤ a) (hn : H a = none) : Un fs ex H (upd H a o) h h' where
  keep := fun b u q _ _ _ => k b u q
  slot := fun b u q _ _ _ => ⟨u.slots, k b u q⟩
  free := fun b u q n _ => by rw [upd_ne (Nat.ne_of_lt (Nat.lt_of_lt_of_le (Heap.lt_size q) hp))]; exact n
  there := fun b u q _ => ⟨u, k b u q⟩
  tups := fun b xs q => by rw [upd_ne (ne_of_none q hn)]; exact q
  frzs := fun b u xs q => by rw [upd_ne (ne_of_none q hn)]; exact q
  tbls := fun b ps q => ⟨#[], by rw [upd_ne (ne_of_none q hn), q]; simp⟩
theorem Un.write (mu : Mut (H x)) (he : e = x ∨ H e = some (.own x)) (k : ∀ b u, b ≠ e → h.get? b = some u → h'.get? b = some u) (heo : ∃ u, h'.get? e = some u) : Un fs ex H (upd H x o) h h' := by
  have hx : ∀ b, H b = none → b ≠ x := fun b n z => by subst z; rw [n] at mu; exact mu
  have hb : ∀ b, H b = none → b ≠ e := fun b n z => by
    subst z
    rcases he with r | r
    · exact hx b n r
    · rw [n] at r; cases r
  have hm : ∀ b u, H b = some u → ¬ Mut (some u) → b ≠ x := fun b u q nm z => by subst z; rw [q] at mu; exact nm mu
  refine ⟨fun b u q n _ _ => k b u (hb b n) q, fun b u q n _ _ => ⟨u.slots, k b u (hb b n) q⟩, fun b u q n _ => by rw [upd_ne (hx b n)]; exact n, fun b u q _ => ?_,
    fun b xs q => by rw [upd_ne (hm b _ q fun z => z)]; exact q, fun b u xs q => by rw [upd_ne (hm b _ q fun z => z)]; exact q, fun b ps q => ⟨#[], by rw [upd_ne (hm b _ q fun z => z), q]; simp⟩⟩
  by_cases hbe : b = e
  · subst hbe; exact heo
  · exact ⟨u, k b u hbe q⟩
end
def trk (h : Heap) (H : Hp) : List Addr := (List.range h.objs.size).filter fun a => (H a).isSome
def hidT (h : Heap) (H : Hp) : Heap := PySem.W.hideAll h (trk h H)
theorem hidT_size (h : Heap) (H : Hp) : (hidT h H).objs.size = h.objs.size := PySem.W.hideAll_size _ _
theorem hidT_get {h : Heap} {H : Hp} {b : Addr} {o : Obj} (e : h.get? b = some o) (n : H b = none) : (hidT h H).get? b = some o :=
  PySem.W.hideAll_get _ e fun hm => by
    have q : (H b).isSome = true := (List.mem_filter.mp hm).2
    rw [n] at q; simp at q
theorem of_hidT {h : Heap} {H : Hp} {b : Addr} {o : Obj} (e : (hidT h H).get? b = some o) : h.get? b = some o ∧ H b = none := by
  have e' : h.get? b = some o := PySem.W.of_hideAll (trk h H) e
  refine ⟨e', ?_⟩
  cases q : H b with
  | none => rfl
  | some x =>
    have hm : b ∈ trk h H := List.mem_filter.mpr ⟨List.mem_range.mpr (Heap.lt_size e'), by simp [q]⟩
    have z : (hidT h H).get? b = none := PySem.W.hideAll_none (trk h H) hm
    rw [z] at e; cases e

end L2
namespace L2
open PySem PySem.Spec PyProof.Rows

structure Mod (K : PySem.W.Frag) (mg : Str → Option Value) (base : Heap) : Prop where
  kin : K.In base
  glob : base.Ns mainGlobals mg
  blt : ∃ mb, base.Ns builtinsNs mb ∧ ∀ x : Str, x ≠ "__name__" → mb x = bootBuiltins x
  nolimit : base.NoLimit

structure Cx where
  prog : Program
  w : World
  K : PySem.W.Frag
  mg : Str → Option Value
  base : Heap
  A : Around
  N : List Str
  s_0 : Shared
  H_0 : Hp
  env : Env
  outer : List Env
  stack : List Env
  ex : List Addr
  fn : Str → Bool
  calm : Bool
  pn : List (Addr × Obj)
  xe : Value → Shared → Prop
def frs (l : List Env) : List Addr := l.filterMap (·.frame)
abbrev Cx.fs (X : Cx) : List Addr := frs X.outer

def Vis (sc : Scope) (x : Str) : Prop := sc.names.lookup x = some .local ∨ sc.names.lookup x = some .cell ∨ sc.names.lookup x = some .free
def Loc (sc : Scope) (x : Str) : Prop := sc.names.lookup x = some .local ∨ sc.names.lookup x = some .cell
def Look (env : Env) (h : Heap) (m : Str → Option Value) (x : Str) (u : Value) : Prop :=
  (env.kindOf x = some .local ∧ m x = some u) ∨ ((env.kindOf x = some .cell ∨ env.kindOf x = some .free) ∧ ∃ c, env.cells.lookup x = some c ∧ h.IsCell c (some u))

structure Cx.Ok (X : Cx) : Prop where
  mod : Mod X.K X.mg X.base
  kind : X.env.scope.kind = .function
  glob : X.env.globals = mainGlobals
  blt : X.env.builtins = builtinsNs
  above : X.s_0.heap.objs.size ≤ X.env.locals
  inj : ∀ x y c, X.env.cells.lookup x = some c → X.env.cells.lookup y = some c → x = y
  has : ∀ x, (X.env.kindOf x = some .cell ∨ X.env.kindOf x = some .free) → ∃ c, X.env.cells.lookup x = some c
  cab : ∀ x c, X.fn x = true → X.env.cells.lookup x = some c → X.s_0.heap.objs.size ≤ c
  hd : X.calm = true → X.A.handled = none
  frames : X.A.frames = some X.stack
  stk : X.stack = X.outer ∨ (X.stack = X.env :: X.outer ∧ X.env.frame = some X.env.locals)
  exf : ∀ b ∈ X.ex, b ≠ X.env.locals ∧ ∀ x c, X.env.cells.lookup x = some c → c ≠ b
  bs : ∀ b o, X.base.get? b = some o → X.s_0.heap.get? b = some o ∧ X.H_0 b = none
  bsz : X.base.objs.size ≤ X.s_0.heap.objs.size
  noex : ∀ b o, X.base.get? b = some o → b ∉ X.ex
  exfs : ∀ b ∈ X.ex, b ∉ X.fs
  funs : X.s_0.heap.FunFrames X.base X.outer
  frf : ∀ b ∈ X.fs, X.H_0 b = none

structure Inv (X : Cx) (pins : List (Addr × Obj)) (σ : List (Option V)) (H : Hp) (s : Shared) : Prop where
  ok : X.Ok
  os : s.os = X.s_0.os
  bare : AllBare s.gens
  base : Un X.fs X.ex X.H_0 H X.s_0.heap s.heap
  loc : ∃ m, s.heap.Ns X.env.locals m ∧ ∀ (i : Nat) (x : Str) (v : V), X.N[i]? = some x → σ[i]? = some (some v) → Vis X.env.scope x → ∃ u, RelV v u ∧ Look X.env s.heap m x u
  cell : ∀ x c, X.env.cells.lookup x = some c → ∃ v, s.heap.IsCell c v
  free : H X.env.locals = none
  freeC : ∀ x c, X.env.cells.lookup x = some c → H c = none
  pin : ∀ p ∈ X.pn ++ pins, s.heap.get? p.1 = some p.2 ∧ H p.1 = none ∧ p.1 ≠ X.env.locals ∧ p.1 ∉ X.fs ∧ ∀ v, p.2.data ≠ .cell v
  hok : HOk X.prog X.w H s.heap
  len : σ.length = X.N.length

section
variable {X : Cx} {pins : List (Addr × Obj)} {σ : List (Option V)} {H H' : Hp} {s : Shared} {h' : Heap}

theorem Cx.Ok.nofr (ok : X.Ok) {b : Addr} {o : Obj} (e : X.base.get? b = some o) : b ∉ X.fs := fun hb => by
  have := (ok.funs.mem hb).1
  rw [e] at this; cases this
theorem Inv.bs (I : Inv X pins σ H s) : ∀ b o, X.base.get? b = some o → s.heap.get? b = some o ∧ H b = none := fun b o e =>
  ⟨I.base.keep b o (I.ok.bs b o e).1 (I.ok.bs b o e).2 (I.ok.nofr e) (I.ok.noex b o e), I.base.free b o (I.ok.bs b o e).1 (I.ok.bs b o e).2 (I.ok.noex b o e)⟩
theorem Inv.bk (I : Inv X pins σ H s) : ∀ b o, X.base.get? b = some o → s.heap.get? b = some o := fun b o e => (I.bs b o e).1
theorem Inv.mod (I : Inv X pins σ H s) : Mod X.K X.mg X.base := I.ok.mod
theorem Inv.kIn (I : Inv X pins σ H s) : X.K.In s.heap := I.ok.mod.kin.keeps I.bk
theorem Inv.lt (I : Inv X pins σ H s) : X.env.locals < s.heap.objs.size := let ⟨_, hn, _⟩ := I.loc; hn.lt
theorem Inv.sz (I : Inv X pins σ H s) : X.s_0.heap.objs.size ≤ s.heap.objs.size := Nat.le_trans I.ok.above (Nat.le_of_lt I.lt)
theorem Inv.nofs (I : Inv X pins σ H s) {a : Addr} (h : s.heap.objs.size ≤ a) : a ∉ X.fs := fun hb => by
  obtain ⟨_, o, ho, _⟩ := I.ok.funs.mem hb
  exact absurd (Nat.lt_of_lt_of_le (Heap.lt_size ho) (Nat.le_trans I.sz h)) (Nat.lt_irrefl _)
theorem Inv.cne (I : Inv X pins σ H s) : ∀ x c, X.env.cells.lookup x = some c → c ≠ X.env.locals := fun x c e z => by
  obtain ⟨v, o, ho, hd⟩ := I.cell x c e
  obtain ⟨m, ⟨o', es, ep, ho', hd', _⟩, _⟩ := I.loc
  rw [z, ho'] at ho; cases ho; rw [hd'] at hd; cases hd
theorem Inv.funs (I : Inv X pins σ H s) : s.heap.FunFrames X.base X.outer := by
  have all : ∀ (l : List Env), (∀ b ∈ frs l, b ∈ X.fs) → X.s_0.heap.FunFrames X.base l → s.heap.FunFrames X.base l := by
    intro l
    induction l with
    | nil => intro _ _; trivial
    | cons env r ih =>
      intro hs hl
      obtain ⟨hk, ⟨L, o, hf, hn, ho, hd⟩, hr⟩ := hl
      have hL : L ∈ X.fs := hs L (by unfold frs; rw [List.filterMap_cons, hf]; exact List.mem_cons_self)
      obtain ⟨sl, e⟩ := I.base.slot L o ho (I.ok.frf L hL) hL fun z => I.ok.exfs L z hL
      exact ⟨hk, ⟨L, _, hf, hn, e, hd⟩, ih (fun b hb => hs b (by unfold frs; rw [List.filterMap_cons, hf]; exact List.mem_cons_of_mem _ hb)) hr⟩
  exact all X.outer (fun _ hb => hb) I.ok.funs

theorem Inv.stack (I : Inv X pins σ H s) : s.heap.FunFrames X.base X.stack := by
  rcases I.ok.stk with e | ⟨e, hf⟩
  · rw [e]; exact I.funs
  · rw [e]
    obtain ⟨m, hn, _⟩ := I.loc
    refine .cons (by rw [I.ok.kind]; decide) hf hn ?_ I.funs
    exact Heap.get?_none_of_le (Nat.le_trans I.ok.bsz I.ok.above)
theorem Inv.stkSub (I : Inv X pins σ H s) : ∀ b ∈ frs X.stack, b ∈ X.env.locals :: X.fs := fun b hb => by
  rcases I.ok.stk with e | ⟨e, hf⟩
  · rw [e] at hb; exact List.mem_cons_of_mem _ hb
  · rw [e] at hb
    unfold frs at hb
    rw [List.filterMap_cons, hf] at hb
    exact hb
theorem Inv.stkFree (I : Inv X pins σ H s) : ∀ b ∈ frs X.stack, H b = none := fun b hb => by
  rcases List.mem_cons.mp (I.stkSub b hb) with e | hb
  · rw [e]; exact I.free
  · obtain ⟨_, o, ho, _⟩ := I.ok.funs.mem hb
    exact I.base.free b o ho (I.ok.frf b hb) fun z => I.ok.exfs b z hb

theorem Inv.step {g' : Array GenState} {t' : Nat} {d' : Drawn} {ch : List Addr} (I : Inv X pins σ H s)
    (hch : ∀ b ∈ ch, (b ∈ X.ex ∨ X.s_0.heap.objs.size ≤ b) ∧ b ≠ X.env.locals ∧ (∀ x c, X.env.cells.lookup x = some c → c ≠ b) ∧ ∀ p ∈ X.pn ++ pins, p.1 ≠ b)
    (keep : ∀ b o, b ≠ X.env.locals → b ∉ X.fs → b ∉ ch → s.heap.get? b = some o → H b = none → h'.get? b = some o)
    (slot : ∀ b o, b ≠ X.env.locals → b ∈ X.fs → b ∉ ch → s.heap.get? b = some o → H b = none → ∃ sl, h'.get? b = some { o with slots := sl }) (free : ∀ b o, b ∉ ch → s.heap.get? b = some o → H b = none → H' b = none)
    (there : ∀ b o, b ∉ ch → s.heap.get? b = some o → ∃ o', h'.get? b = some o')
    (tups : ∀ b xs, H b = some (.tup xs) → H' b = some (.tup xs)) (frzs : ∀ b o u, H b = some (.frz o u) → H' b = some (.frz o u)) (tbls : ∀ b ps, H b = some (.tbl ps) → ∃ more, H' b = some (.tbl (ps ++ more)))
    (ns : ∀ m, s.heap.Ns X.env.locals m → h'.Ns X.env.locals m) (hok : HOk X.prog X.w H' h') (hg : AllBare g') :
    Inv X pins σ H' { s with heap := h', gens := g', drawn := d', toks := t' } := by
  have neL : ∀ b o, X.s_0.heap.get? b = some o → b ≠ X.env.locals := fun b o e => Nat.ne_of_lt (Nat.lt_of_lt_of_le (Heap.lt_size e) I.ok.above)
  have neC : ∀ b o, X.s_0.heap.get? b = some o → b ∉ X.ex → b ∉ ch := fun b o e hx hb => by
    rcases (hch b hb).1 with z | z
    · exact hx z
    · exact absurd (Nat.lt_of_lt_of_le (Heap.lt_size e) z) (Nat.lt_irrefl _)
  have cellK : ∀ x c, X.env.cells.lookup x = some c → ∀ v, s.heap.IsCell c v → h'.IsCell c v := fun x c e v ⟨o, ho, hd⟩ => by
    have nch : c ∉ ch := fun z => (hch c z).2.2.1 x c e rfl
    by_cases hc : c ∈ X.fs
    · obtain ⟨sl, q⟩ := slot c o (I.cne x c e) hc nch ho (I.freeC x c e)
      exact ⟨_, q, hd⟩
    · exact ⟨o, keep c o (I.cne x c e) hc nch ho (I.freeC x c e), hd⟩
  refine ⟨I.ok, I.os, hg, ⟨fun b o e n hb hx => ?_, fun b o e n hb hx => ?_, fun b o e n hx => ?_, fun b o e hx => ?_, fun b xs e => tups b xs (I.base.tups b xs e), fun b o xs e => frzs b o xs (I.base.frzs b o xs e), fun b ps e => ?_⟩, ?_, fun x c e => ?_, ?_, fun x c e => ?_, fun p hp => ?_, hok, I.len⟩
  · exact keep b o (neL b o e) hb (neC b o e hx) (I.base.keep b o e n hb hx) (I.base.free b o e n hx)
  · obtain ⟨sl, e1⟩ := I.base.slot b o e n hb hx
    obtain ⟨sl', e2⟩ := slot b _ (neL b o e) hb (neC b o e hx) e1 (I.base.free b o e n hx)
    exact ⟨sl', e2⟩
  · obtain ⟨o', e1⟩ := I.base.there b o e hx
    exact free b o' (neC b o e hx) e1 (I.base.free b o e n hx)
  · obtain ⟨o', e1⟩ := I.base.there b o e hx
    exact there b o' (neC b o e hx) e1
  · obtain ⟨m1, e1⟩ := I.base.tbls b ps e
    obtain ⟨m2, e2⟩ := tbls b _ e1
    exact ⟨m1 ++ m2, by rw [e2, Array.append_assoc]⟩
  · obtain ⟨m, hn, hl⟩ := I.loc
    refine ⟨m, ns m hn, fun i x v e1 e2 e3 => ?_⟩
    obtain ⟨u, r, l⟩ := hl i x v e1 e2 e3
    refine ⟨u, r, ?_⟩
    rcases l with l | ⟨k, c, e, z⟩
    · exact .inl l
    · exact .inr ⟨k, c, e, cellK x c e _ z⟩
  · obtain ⟨v, z⟩ := I.cell x c e
    exact ⟨v, cellK x c e v z⟩
  · obtain ⟨m, ⟨o, _, _, ho, _⟩, _⟩ := I.loc
    exact free _ o (fun z => (hch _ z).2.1 rfl) ho I.free
  · obtain ⟨v, o, ho, hd⟩ := I.cell x c e
    exact free c o (fun z => (hch c z).2.2.1 x c e rfl) ho (I.freeC x c e)
  · obtain ⟨e, n, ne, nf, d⟩ := I.pin p hp
    have nch : p.1 ∉ ch := fun z => (hch p.1 z).2.2.2 p hp rfl
    exact ⟨keep p.1 p.2 ne nf nch e n, free p.1 p.2 nch e n, ne, nf, d⟩
theorem Inv.un {t' : Nat} (I : Inv X pins σ H s) (u : Un X.fs [] H H' s.heap h') (hok : HOk X.prog X.w H' h') : Inv X pins σ H' { s with heap := h', toks := t' } := by
  obtain ⟨m, ⟨o, es, ep, ho, r⟩, _⟩ := id I.loc
  obtain ⟨sl, hL⟩ := u.any ho I.free (by simp)
  exact I.step (g' := s.gens) (d' := s.drawn) (ch := []) (fun _ z => nomatch z) (fun b o _ hb _ e n => u.keep b o e n hb (by simp)) (fun b o _ hb _ e n => u.slot b o e n hb (by simp)) (fun b o _ e n => u.free b o e n (by simp)) (fun b o _ e => u.there b o e (by simp)) u.tups u.frzs u.tbls (fun m' hm => by
    obtain ⟨o', es', ep', ho', r'⟩ := hm
    rw [ho] at ho'; cases ho'
    exact ⟨_, es', ep', hL, r'⟩) hok I.bare
theorem Inv.call {g' : Array GenState} {t' : Nat} {d' : Drawn} {ch : List Addr} (I : Inv X pins σ H s) (u : Un (frs X.stack) ch H H' s.heap h') (hok : HOk X.prog X.w H' h') (hg : AllBare g')
    (hch : ∀ b ∈ ch, (b ∈ X.ex ∨ X.s_0.heap.objs.size ≤ b) ∧ b ≠ X.env.locals ∧ (∀ x c, X.env.cells.lookup x = some c → c ≠ b) ∧ ∀ p ∈ X.pn ++ pins, p.1 ≠ b) :
    Inv X pins σ H' { s with heap := h', gens := g', drawn := d', toks := t' } := by
  obtain ⟨m, ⟨o, es, ep, ho, r⟩, _⟩ := id I.loc
  obtain ⟨sl, hL⟩ := u.any ho I.free fun z => (hch _ z).2.1 rfl
  exact I.step (ch := ch) hch (fun b o hL hb hc e n => u.keep b o e n (fun z => (List.mem_cons.mp (I.stkSub b z)).elim hL hb) hc) (fun b o _ _ hc e n => u.any e n hc) (fun b o hc e n => u.free b o e n hc) (fun b o hc e => u.there b o e hc) u.tups u.frzs u.tbls (fun m' hm => by
    obtain ⟨o', es', ep', ho', r'⟩ := hm
    rw [ho] at ho'; cases ho'
    exact ⟨_, es', ep', hL, r'⟩) hok hg
theorem Inv.turned {t' : Nat} {it : Addr} (I : Inv X pins σ H s) (k : ∀ b o, b ≠ it → s.heap.get? b = some o → h'.get? b = some o) (hn : H it = none) (hL : it ≠ X.env.locals)
    (h1 : it ∈ X.ex ∨ X.s_0.heap.objs.size ≤ it) (h2 : ∀ x c, X.env.cells.lookup x = some c → c ≠ it) (h3 : ∀ p ∈ X.pn ++ pins, p.1 ≠ it) : Inv X pins σ H { s with heap := h', toks := t' } := by
  have nit : ∀ b u, H b = some u → b ≠ it := fun b u e z => by rw [z, hn] at e; cases e
  refine I.step (g' := s.gens) (d' := s.drawn) (ch := [it]) (fun b hb => ?_) (fun b o _ _ hc e _ => k b o (fun z => hc (by simp [z])) e) (fun b o _ _ hc e _ => ⟨o.slots, k b o (fun z => hc (by simp [z])) e⟩) (fun _ _ _ _ n => n)
    (fun b o hc e => ⟨o, k b o (fun z => hc (by simp [z])) e⟩) (fun _ _ e => e) (fun _ _ _ e => e) (fun b ps e => ⟨#[], by rw [e]; simp⟩) (fun m hm => ?_) (fun b u e => ?_) I.bare
  · have e : b = it := by simpa using hb
    subst e
    exact ⟨h1, hL, h2, h3⟩
  · obtain ⟨o, es, ep, ho, r⟩ := hm
    exact ⟨o, es, ep, k _ o (Ne.symm hL) ho, r⟩
  · refine (I.hok b u e).stay (fun c v hc q => k c v ?_ q) (fun _ q => q) fun _ _ q => q
    rcases hc with z | z
    · rw [z]; exact nit b u e
    · exact nit c _ z
theorem Inv.tok (I : Inv X pins σ H s) (t : Nat) : Inv X pins σ H { s with toks := t } := I.un (h' := s.heap) (t' := t) Un.refl I.hok
theorem Inv.kept {t' : Nat} (I : Inv X pins σ H s) (k : ∀ b u, s.heap.get? b = some u → h'.get? b = some u) : Inv X pins σ H { s with heap := h', toks := t' } := I.un (Un.kept k) (I.hok.kept k)
theorem Inv.laid {a : Addr} {o : HO} {t' : Nat} (I : Inv X pins σ H s) (k : ∀ b u, s.heap.get? b = some u → h'.get? b = some u) (hp : s.heap.objs.size ≤ a) (new : ObjOk X.prog X.w (upd H a o) h' a o) :
    Inv X pins σ (upd H a o) { s with heap := h', toks := t' } := I.un (Un.laid k hp (I.hok.fresh hp)) (I.hok.laid k hp new)
theorem Inv.write {x e : Addr} {o : HO} {t' : Nat} (I : Inv X pins σ H s) (mu : Mut (H x)) (he : e = x ∨ H e = some (.own x)) (k : ∀ b u, b ≠ e → s.heap.get? b = some u → h'.get? b = some u) (heo : ∃ u, h'.get? e = some u)
    (new : ObjOk X.prog X.w (upd H x o) h' x o) : Inv X pins σ (upd H x o) { s with heap := h', toks := t' } := I.un (Un.write mu he k heo) (I.hok.write mu he k heo new)
theorem Inv.weak {σ' : List (Option V)} (I : Inv X pins σ H s) (hl : σ'.length = σ.length) (w : ∀ (i : Nat) v, σ'[i]? = some (some v) → σ[i]? = some (some v)) : Inv X pins σ' H s :=
  ⟨I.ok, I.os, I.bare, I.base, let ⟨m, hn, hl'⟩ := I.loc; ⟨m, hn, fun i x v e1 e2 e3 => hl' i x v e1 (w i v e2) e3⟩, I.cell, I.free, I.freeC, I.pin, I.hok, hl.trans I.len⟩
theorem Inv.pins_of {pins' : List (Addr × Obj)} (I : Inv X pins σ H s) (h : ∀ p ∈ pins', s.heap.get? p.1 = some p.2 ∧ H p.1 = none ∧ p.1 ≠ X.env.locals ∧ p.1 ∉ X.fs ∧ ∀ v, p.2.data ≠ .cell v) : Inv X pins' σ H s :=
  ⟨I.ok, I.os, I.bare, I.base, I.loc, I.cell, I.free, I.freeC, fun p hp => (List.mem_append.mp hp).elim (fun z => I.pin p (List.mem_append_left _ z)) (h p), I.hok, I.len⟩

theorem nodup_ix {N : List Str} (hN : N.Nodup) {i j : Nat} {x : Str} (a : N[i]? = some x) (b : N[j]? = some x) : i = j := by
  obtain ⟨h1, e1⟩ := List.getElem?_eq_some_iff.mp a
  obtain ⟨h2, e2⟩ := List.getElem?_eq_some_iff.mp b
  exact (List.getElem_inj hN).mp (e1.trans e2.symm)

theorem store_ok2 {M : Model} {A : Around} {E : Value → Shared → Prop} {i : Nat} {x : Str} {v : V} {u : Value} {Q : Unit → Shared → Prop} (I : Inv X pins σ H s) (hN : X.N.Nodup) (hi : X.N[i]? = some x) (hx : Loc X.env.scope x) (r : RelV v u)
    (h : ∀ s', Inv X pins (σ.set i (some v)) H s' → (∃ a, Heap.SameBut a s.heap s'.heap ∧ (a = X.env.locals ∨ X.env.cells.lookup x = some a)) → Q () s') (hf : X.fn x = true ∨ X.env.scope.names.lookup x = some .local := by first | exact .inl rfl | exact .inr rfl | assumption) : wpAny M A (storeName X.env x u) Q E s := by
  obtain ⟨m, hn, hl⟩ := id I.loc
  have hcls : (X.env.scope.kind == .class || (X.env.scope.kind == .module && X.env.locals != X.env.globals)) = false := by rw [I.ok.kind]; rfl
  have hiσ : i < σ.length := by rw [I.len]; exact (List.getElem?_eq_some_iff.mp hi).1
  have cne := I.cne
  have tracked : ∀ {a : Addr} {h' : Heap}, (∃ o, s.heap.get? a = some o ∧ H a = none) → Heap.SameBut a s.heap h' → HOk X.prog X.w H h' := fun {a h'} ha hs b ob e => by
    obtain ⟨_, _, hfree⟩ := ha
    refine (I.hok b ob e).stay (fun c w' hc q => (hs.2 c ?_).trans q) (fun _ q => q) fun _ _ q => q
    rintro rfl
    rcases hc with rfl | hc
    · rw [hfree] at e; cases e
    · rw [hfree] at hc; cases hc
  rcases hx with hk | hk
  · refine wpAny_storeName_local hk hn (fun h' hn' hs => ?_) hcls
    obtain ⟨oL, _, _, hoL, _⟩ := id hn
    refine h _ ⟨I.ok, I.os, I.bare, ⟨fun b o e n hb hx => ?_, fun b o e n hb hx => ?_, I.base.free, fun b o e hx => ?_, I.base.tups, I.base.frzs, I.base.tbls⟩, ⟨_, hn', fun j y v' e1 e2 e3 => ?_⟩, fun y c e => ?_, I.free, I.freeC, fun p hp => ?_, tracked ⟨oL, hoL, I.free⟩ hs, by simpa using I.len⟩ ⟨_, hs, .inl rfl⟩
    · exact (hs.2 b (Nat.ne_of_lt (Nat.lt_of_lt_of_le (Heap.lt_size e) I.ok.above))).trans (I.base.keep b o e n hb hx)
    · obtain ⟨sl, e1⟩ := I.base.slot b o e n hb hx
      exact ⟨sl, (hs.2 b (Nat.ne_of_lt (Nat.lt_of_lt_of_le (Heap.lt_size e) I.ok.above))).trans e1⟩
    · obtain ⟨o', e1⟩ := I.base.there b o e hx
      exact ⟨o', (hs.2 b (Nat.ne_of_lt (Nat.lt_of_lt_of_le (Heap.lt_size e) I.ok.above))).trans e1⟩
    · by_cases hj : j = i
      · subst hj
        rw [hi] at e1; cases e1
        rw [List.getElem?_set_self hiσ] at e2
        cases e2
        exact ⟨u, r, .inl ⟨hk, by simp⟩⟩
      · rw [List.getElem?_set_ne (Ne.symm hj)] at e2
        obtain ⟨u', r', q⟩ := hl j y v' e1 e2 e3
        refine ⟨u', r', ?_⟩
        rcases q with ⟨k, e⟩ | ⟨k, c, e, z⟩
        · refine .inl ⟨k, ?_⟩
          have : y ≠ x := fun e => hj (nodup_ix hN e1 (e ▸ hi))
          simp [this, e]
        · exact .inr ⟨k, c, e, z.sameBut hs (cne y c e)⟩
    · obtain ⟨w', z⟩ := I.cell y c e
      exact ⟨w', z.sameBut hs (cne y c e)⟩
    · obtain ⟨e, n, ne, nf, d⟩ := I.pin p hp
      exact ⟨(hs.2 p.1 ne).trans e, n, ne, nf, d⟩
  · have hfn : X.fn x = true := by
      rcases hf with z | z
      · exact z
      · rw [z] at hk; cases hk
    obtain ⟨c, hc⟩ := I.ok.has x (.inl hk)
    obtain ⟨w', z⟩ := I.cell x c hc
    refine wpAny_storeName_cell I.ok.kind hk hc z (fun h' hc' hs => ?_)
    obtain ⟨oc, hoc, hocd⟩ := id z
    refine h { s with heap := h' } ⟨I.ok, I.os, I.bare, ⟨fun b o e n hb hx => ?_, fun b o e n hb hx => ?_, I.base.free, fun b o e hx => ?_, I.base.tups, I.base.frzs, I.base.tbls⟩, ⟨m, hn.sameBut hs (Ne.symm (cne x c hc)), fun j y v' e1 e2 e3 => ?_⟩, fun y c' e => ?_, I.free, I.freeC, fun p hp => ?_, tracked ⟨oc, hoc, I.freeC x c hc⟩ hs, by simpa using I.len⟩ ⟨c, hs, .inr hc⟩
    · exact (hs.2 b (Nat.ne_of_lt (Nat.lt_of_lt_of_le (Heap.lt_size e) (I.ok.cab x c hfn hc)))).trans (I.base.keep b o e n hb hx)
    · obtain ⟨sl, e1⟩ := I.base.slot b o e n hb hx
      exact ⟨sl, (hs.2 b (Nat.ne_of_lt (Nat.lt_of_lt_of_le (Heap.lt_size e) (I.ok.cab x c hfn hc)))).trans e1⟩
    · obtain ⟨o', e1⟩ := I.base.there b o e hx
      exact ⟨o', (hs.2 b (Nat.ne_of_lt (Nat.lt_of_lt_of_le (Heap.lt_size e) (I.ok.cab x c hfn hc)))).trans e1⟩
    · by_cases hj : j = i
      · subst hj
        rw [hi] at e1; cases e1
        rw [List.getElem?_set_self hiσ] at e2
        cases e2
        exact ⟨u, r, .inr ⟨.inl hk, c, hc, hc'⟩⟩
      · rw [List.getElem?_set_ne (Ne.symm hj)] at e2
        obtain ⟨u', r', q⟩ := hl j y v' e1 e2 e3
        refine ⟨u', r', ?_⟩
        rcases q with q | ⟨k, c', e, z'⟩
        · exact .inl q
        · refine .inr ⟨k, c', e, z'.sameBut hs ?_⟩
          rintro rfl
          exact hj (nodup_ix hN e1 (I.ok.inj _ _ _ e hc ▸ hi))
    · by_cases hcc : c' = c
      · subst hcc; exact ⟨_, hc'⟩
      · obtain ⟨w2, z2⟩ := I.cell y c' e
        exact ⟨w2, z2.sameBut hs hcc⟩
    · obtain ⟨e, n, ne, nf, d⟩ := I.pin p hp
      refine ⟨(hs.2 p.1 ?_).trans e, n, ne, nf, d⟩
      intro q
      rw [q, hoc] at e
      have q' : oc = p.2 := Option.some.inj e
      exact d w' (by rw [← q']; exact hocd)
theorem store_ok {M : Model} {A : Around} {E : Value → Shared → Prop} {i : Nat} {x : Str} {v : V} {u : Value} {Q : Unit → Shared → Prop} (I : Inv X pins σ H s) (hN : X.N.Nodup) (hi : X.N[i]? = some x) (hx : Loc X.env.scope x) (r : RelV v u)
    (h : ∀ s', Inv X pins (σ.set i (some v)) H s' → Q () s') (hf : X.fn x = true ∨ X.env.scope.names.lookup x = some .local := by first | exact .inl rfl | exact .inr rfl | assumption) : wpAny M A (storeName X.env x u) Q E s :=
  store_ok2 I hN hi hx r (fun s' I' _ => h s' I') hf
theorem Inv.call' {s' : Shared} {ch : List Addr} (I : Inv X pins σ H s) (ho : s'.os = s.os) (u : Un (frs X.stack) ch H H' s.heap s'.heap) (hok : HOk X.prog X.w H' s'.heap) (hg : AllBare s'.gens)
    (hch : ∀ b ∈ ch, (b ∈ X.ex ∨ X.s_0.heap.objs.size ≤ b) ∧ b ≠ X.env.locals ∧ (∀ x c, X.env.cells.lookup x = some c → c ≠ b) ∧ ∀ p ∈ X.pn ++ pins, p.1 ≠ b) : Inv X pins σ H' s' := by
  obtain ⟨h', g', d', t', o'⟩ := s'
  have e : o' = s.os := ho
  subst e
  exact I.call (g' := g') (t' := t') (d' := d') u hok hg hch
end
abbrev XK := Value → Option Addr → Hp → Prop
abbrev St := List (Option V)
abbrev VK := V → Hp → Prop
abbrev TE := St → Hp → VK → Prop
abbrev TT := St → Hp → (Bool → Hp → Prop) → Prop
abbrev TA := St → Hp → (List V → Hp → Prop) → Prop
structure Ends where
  nx : St → Hp → Prop
  rt : VK
  bk : St → Hp → Prop := fun _ _ => False
  ct : St → Hp → Prop := fun _ _ => False
abbrev TS := Ends → St → Hp → Prop

def EP (X : Cx) (pins : List (Addr × Obj)) (σ : St) (Q : VK) (u : Value) (s' : Shared) : Prop := ∃ v H', Inv X pins σ H' s' ∧ RelV v u ∧ Q v H'
def TP (X : Cx) (pins : List (Addr × Obj)) (σ : St) (Q : Bool → Hp → Prop) (b : Bool) (s' : Shared) : Prop := ∃ H', Inv X pins σ H' s' ∧ Q b H'
def AP (X : Cx) (pins : List (Addr × Obj)) (σ : St) (Q : List V → Hp → Prop) (us : List Value) (s' : Shared) : Prop := ∃ vs H', Inv X pins σ H' s' ∧ Vals vs us ∧ Q vs H'
def SP (X : Cx) (pins : List (Addr × Obj)) (D : Ends) (f : Flow) (s' : Shared) : Prop :=
  match f with
  | .next => ∃ σ' H', Inv X pins σ' H' s' ∧ D.nx σ' H'
  | .brk => ∃ σ' H', Inv X pins σ' H' s' ∧ D.bk σ' H'
  | .cont => ∃ σ' H', Inv X pins σ' H' s' ∧ D.ct σ' H'
  | .ret u => ∃ v σ' H', Inv X pins σ' H' s' ∧ RelV v u ∧ D.rt v H'

def PE (X : Cx) (e : Expr) (t : TE) : Prop :=
  ∀ (pins : List (Addr × Obj)) (s : Shared) (σ : St) (H : Hp) (Q : VK), Inv X pins σ H s → t σ H Q → wpAny (model X.prog X.w) X.A (eval e X.env) (EP X pins σ Q) X.xe s
def PT (X : Cx) (e : Expr) (t : TT) : Prop :=
  ∀ (pins : List (Addr × Obj)) (s : Shared) (σ : St) (H : Hp) (Q : Bool → Hp → Prop), Inv X pins σ H s → t σ H Q → wpAny (model X.prog X.w) X.A (isTrue e X.env (eval e X.env)) (TP X pins σ Q) X.xe s
def PW (X : Cx) (e : Expr) (t : TT) : Prop :=
  ∀ (whole : Sem Value) (pins : List (Addr × Obj)) (s : Shared) (σ : St) (H : Hp) (Q : Bool → Hp → Prop), Inv X pins σ H s → t σ H Q → wpAny (model X.prog X.w) X.A (isTrue e X.env whole) (TP X pins σ Q) X.xe s
theorem PW.pt {X : Cx} {e : Expr} {t : TT} (h : PW X e t) : PT X e t := h _
def PA (X : Cx) (es : List Expr) (t : TA) : Prop :=
  ∀ (pos : Pos) (pins : List (Addr × Obj)) (s : Shared) (σ : St) (H : Hp) (Q : List V → Hp → Prop), Inv X pins σ H s → t σ H Q → wpAny (model X.prog X.w) X.A (spliced (backTo pos (starEach es X.env))) (AP X pins σ Q) X.xe s
def PS (X : Cx) (st : Stmt) (t : TS) : Prop :=
  ∀ (pins : List (Addr × Obj)) (s : Shared) (σ : St) (H : Hp) (D : Ends), Inv X pins σ H s → t D σ H → wpAny (model X.prog X.w) X.A (exec st X.env) (SP X pins D) X.xe s
def PSs (X : Cx) (st : List Stmt) (t : TS) : Prop :=
  ∀ (pins : List (Addr × Obj)) (s : Shared) (σ : St) (H : Hp) (D : Ends), Inv X pins σ H s → t D σ H → wpAny (model X.prog X.w) X.A (execs st X.env) (SP X pins D) X.xe s
theorem thn {α : Type} {t : Sem α} {Q Q' : α → Shared → Prop} {M : Model} {A : Around} {E : Value → Shared → Prop} {s : Shared} (h : wpAny M A t Q E s) (hQ : ∀ a s, Q a s → Q' a s) : wpAny M A t Q' E s := wpAny_mono h hQ fun _ _ x => x
end L2
namespace L2
open PySem PySem.Spec PyProof.Rows
section
variable {X : Cx}

def tVar (i : Nat) : TE := fun σ H Q => ∃ v, σ[i]? = some (some v) ∧ Q v H
def tC (v : V) : TE := fun _ H Q => Q v H
theorem pe_var {i : Nat} {x : Str} {pos : Pos} (hN : X.N[i]? = some x) (hv : Vis X.env.scope x) (hd : (x == ("__debug__" : Str)) = false := by decide) (hcd : (x == ("__classdict__" : Str)) = false := by decide) : PE X (.Name x pos) (tVar i) := by
  intro pins s σ H Q I h
  obtain ⟨v, e, h⟩ := h
  obtain ⟨m, hn, hl⟩ := I.loc
  obtain ⟨u, r, l⟩ := hl i x v hN e hv
  have fin : EP X pins σ Q u s := ⟨v, H, I, r, h⟩
  rcases l with ⟨hk, hm⟩ | ⟨hk, c, hc, hcell⟩
  · exact wpAny_Name (wpAny_loadName_local I.ok.kind hk hn hm fin) hd
  · rcases hk with hk | hk
    · exact wpAny_Name (wpAny_loadName_cell I.ok.kind hk hc hcell fin) hd
    · exact wpAny_Name (wpAny_loadName_free I.ok.kind hk hc hcell fin hcd) hd
theorem pe_int {i j pos} : PE X (.Constant (.int i) j pos) (tC (.int i)) := fun _ _ _ H _ I h => wpAny_Constant_int ⟨.int i, H, I.tok _, ⟨_, rfl⟩, h⟩
theorem pe_bl {b j pos} : PE X (.Constant (.bool b) j pos) (tC (.bl b)) := fun _ _ _ H _ I h => Constant_bool ⟨.bl b, H, I, rfl, h⟩
theorem pe_str {x j pos} : PE X (.Constant (.str x) j pos) (tC (.str x)) := fun _ _ _ H _ I h => Calls.Constant_str ⟨.str x, H, I.tok _, ⟨_, rfl⟩, h⟩

def Gl (X : Cx) (x : Str) : Prop := X.env.kindOf x = some .globalImplicit
theorem ld_glob {E : Value → Shared → Prop} {pins : List (Addr × Obj)} {s : Shared} {σ : St} {H : Hp} {x : Str} {u : Value} {pos : Pos} {Q : Value → Shared → Prop} (I : Inv X pins σ H s) (hg : Gl X x) (hm : X.mg x = some u) (h : Q u s)
    (hd : (x == ("__debug__" : Str)) = false := by decide) : wpAny (model X.prog X.w) X.A (eval (.Name x pos) X.env) Q E s :=
  Calls.Name_function_global I.ok.kind hg (Calls.loadGlobal_global (by rw [I.ok.glob]; exact I.mod.glob.keeps I.bk) hm h) hd
theorem ld_blt {E : Value → Shared → Prop} {pins : List (Addr × Obj)} {s : Shared} {σ : St} {H : Hp} {x : Str} {u : Value} {pos : Pos} {Q : Value → Shared → Prop} (I : Inv X pins σ H s) (hg : Gl X x) (hm : X.mg x = none) (hv : bootBuiltins x = some u) (h : Q u s)
    (hn : x ≠ "__name__" := by decide) (hd : (x == ("__debug__" : Str)) = false := by decide) : wpAny (model X.prog X.w) X.A (eval (.Name x pos) X.env) Q E s := by
  obtain ⟨mb, h1, h2⟩ := I.mod.blt
  exact Calls.Name_function_global I.ok.kind hg (Calls.loadGlobal_builtin (by rw [I.ok.glob]; exact I.mod.glob.keeps I.bk) hm (by rw [I.ok.blt]; exact h1.keeps I.bk) ((h2 x hn).trans hv) h) hd
theorem pe_glob {x : Str} {v : V} {u : Value} {pos : Pos} (hg : Gl X x) (hm : X.mg x = some u) (r : RelV v u) (hd : (x == ("__debug__" : Str)) = false := by decide) : PE X (.Name x pos) (tC v) :=
  fun _ _ _ H _ I h => ld_glob I hg hm ⟨v, H, I, r, h⟩ hd
variable {a b : Expr} {ta tb : TE} {pos : Pos}
def tB (t : TE) : TT := fun σ H Q => t σ H fun x H1 => ∃ c, x = .bl c ∧ Q c H1
theorem pt_val {e : Expr} {t : TE} (h : PE X e t) (he : ∀ whole, isTrue e X.env whole = (do let v ← whole; standAt e.pos; holding [v] (truthy v)) := by intro _; rfl) : PT X e (tB t) := by
  intro pins s σ H Q I hw
  refine isTrue_plain (thn (h pins s σ H _ I hw) fun v s1 ⟨x, H1, I1, r1, q1⟩ => ?_) (he _)
  obtain ⟨d, rfl, q⟩ := q1
  cases r1
  exact wpAny_truthy_bool ⟨H1, I1, q⟩

variable {tA tB' : TT} {rest : List Expr}
def tAnd (t u : TT) : TT := fun σ H Q => t σ H fun c H1 => if c = true then u σ H1 Q else Q false H1
def tOr (t u : TT) : TT := fun σ H Q => t σ H fun c H1 => if c = true then Q true H1 else u σ H1 Q
def tNot (t : TT) : TT := fun σ H Q => t σ H fun c H1 => Q (!c) H1
theorem pw_and1 (ha : PT X a tA) : PW X (.BoolOp .And [a] pos) tA := by
  intro wh pins s σ H Q I h
  refine isTrue_and (thn (ha pins s σ H Q I h) fun c s1 e => ?_)
  cases c with
  | true => exact isTrue_and_nil e
  | false => exact e
theorem pw_or1 (ha : PT X a tA) : PW X (.BoolOp .Or [a] pos) tA := by
  intro wh pins s σ H Q I h
  refine isTrue_or (thn (ha pins s σ H Q I h) fun c s1 e => ?_)
  cases c with
  | false => exact isTrue_or_nil e
  | true => exact e
theorem pw_and (ha : PT X a tA) (hb : PW X (.BoolOp .And (b :: rest) pos) tB') : PW X (.BoolOp .And (a :: b :: rest) pos) (tAnd tA tB') := by
  intro wh pins s σ H Q I h
  refine isTrue_and (thn (ha pins s σ H _ I h) fun c s1 ⟨H1, I1, q1⟩ => ?_)
  cases c with
  | true => exact hb wh pins s1 σ H1 Q I1 q1
  | false => exact ⟨H1, I1, q1⟩
theorem pw_or (ha : PT X a tA) (hb : PW X (.BoolOp .Or (b :: rest) pos) tB') : PW X (.BoolOp .Or (a :: b :: rest) pos) (tOr tA tB') := by
  intro wh pins s σ H Q I h
  refine isTrue_or (thn (ha pins s σ H _ I h) fun c s1 ⟨H1, I1, q1⟩ => ?_)
  cases c with
  | true => exact ⟨H1, I1, q1⟩
  | false => exact hb wh pins s1 σ H1 Q I1 q1
theorem pt_not (ha : PT X a tA) : PT X (.UnaryOp .Not a pos) (tNot tA) := by
  intro pins s σ H Q I h
  exact isTrue_not (ha pins s σ H (fun c H1 => Q (!c) H1) I h)
def tIf (t : TT) (ta tb : TE) : TE := fun σ H Q => t σ H fun c H1 => if c = true then ta σ H1 Q else tb σ H1 Q
theorem pe_ifExp {c : Expr} (hc : PT X c tA) (ha : PE X a ta) (hb : PE X b tb) : PE X (.IfExp c a b pos) (tIf tA ta tb) := by
  intro pins s σ H Q I h
  refine wpAny_IfExp (thn (hc pins s σ H _ I h) fun d s1 ⟨H1, I1, q1⟩ => ?_)
  cases d with
  | true => exact ha pins s1 σ H1 Q I1 q1
  | false => exact hb pins s1 σ H1 Q I1 q1
end
end L2
namespace L2
open PySem PySem.Spec PyProof.Rows

def SqL (K : PySem.W.Frag) (H : Hp) (a : Addr) (xs : List V) : Prop :=
  Rd H a (.lst xs) ∨
    ∃ (o : Obj) (its : Array Value) (n : Nat), K.lookup a = some o ∧ o.cls = .type "list" ∧ o.dict = none ∧ o.data = .seq its n ∧ its.size ≤ sizeLine ∧ Vals xs its.toList
def SqT (K : PySem.W.Frag) (H : Hp) (a : Addr) (xs : List V) : Prop :=
  Rd H a (.tup xs) ∨
    ∃ (o : Obj) (its : Array Value) (n : Nat), K.lookup a = some o ∧ o.cls = .type "tuple" ∧ o.data = .seq its n ∧ its.size ≤ sizeLine ∧ Vals xs its.toList
def absV : Value → Option V
  | .none => some .non
  | .bool b => some (.bl b)
  | .int i _ => some (.int i)
  | .str x _ => some (.str x)
  | .bytes b _ => some (.byt b)
  | .float b _ => some (.flt b)
  | .ref a => some (.ref a)
  | .type n => some (.ty n)
  | _ => none
theorem RelV.abs {x : V} {u : Value} (r : RelV x u) : absV u = some x := by
  cases x with
  | non => cases r; rfl
  | bl _ => cases r; rfl
  | int _ => obtain ⟨t, rfl⟩ := r; rfl
  | str _ => obtain ⟨t, rfl⟩ := r; rfl
  | byt _ => obtain ⟨t, rfl⟩ := r; rfl
  | flt _ => obtain ⟨t, rfl⟩ := r; rfl
  | ref _ => cases r; rfl
  | ty _ => cases r; rfl
theorem RelV.inj {x y : V} {u : Value} (r : RelV x u) (q : RelV y u) : x = y := Option.some.inj (r.abs.symm.trans q.abs)
theorem Vals.inj : ∀ {xs ys : List V} {us : List Value}, Vals xs us → Vals ys us → xs = ys
  | _, _, _, .nil, .nil => rfl
  | _, _, _, .cons r t, .cons r' t' => by rw [r.inj r', Vals.inj t t']
section
variable {X : Cx} {pins : List (Addr × Obj)} {σ : St} {H : Hp} {s : Shared} {a : Addr} {xs ys : List V}
theorem SqL.of {K : PySem.W.Frag} (h : H a = some (.lst xs)) : SqL K H a xs := .inl (.inl h)
theorem SqT.of {K : PySem.W.Frag} (h : H a = some (.tup xs)) : SqT K H a xs := .inl (.inl h)
theorem Inv.list (I : Inv X pins σ H s) (h : SqL X.K H a xs) : ∃ its : List Value, Vals xs its ∧ PlainL s.heap a its.toArray ∧ xs.length ≤ sizeLine := by
  rcases h with h | ⟨o, its, n, hk, hc, hd, hs, hz, r⟩
  · obtain ⟨z, its, n, r, e⟩ := h.ok I.hok
    exact ⟨its, r, ⟨_, n, e, rfl, rfl, rfl⟩, z⟩
  · refine ⟨its.toList, r, ⟨o, n, I.kIn a o hk, hc, hd, by simpa using hs⟩, ?_⟩
    have e := r.length
    simp only [Array.length_toList] at e
    omega
theorem Inv.tuple (I : Inv X pins σ H s) (h : SqT X.K H a xs) : ∃ its : List Value, Vals xs its ∧ IsTup s.heap a its.toArray ∧ xs.length ≤ sizeLine := by
  rcases h with h | ⟨o, its, n, hk, hc, hs, hz, r⟩
  · obtain ⟨z, its, r, p⟩ := h.ok I.hok
    exact ⟨its, r, p, z⟩
  · refine ⟨its.toList, r, ⟨o, I.kIn a o hk, hc, n, by simpa using hs⟩, ?_⟩
    have e := r.length
    simp only [Array.length_toList] at e
    omega
theorem Inv.list_inj (I : Inv X pins σ H s) (h : SqL X.K H a xs) (h' : SqL X.K H a ys) : xs = ys := by
  obtain ⟨its, r, ⟨o, n, e, _, _, d⟩, _⟩ := I.list h
  obtain ⟨its', r', ⟨o', n', e', _, _, d'⟩, _⟩ := I.list h'
  rw [e] at e'; cases e'
  rw [d] at d'
  injection d' with d1 _
  have : its = its' := by simpa using congrArg Array.toList d1
  subst this
  exact r.inj r'
end
abbrev Cx.wish (X : Cx) (E : Value → Shared → Prop) : Cx := { X with xe := E }
abbrev Cx.nox (X : Cx) : Cx := X.wish fun _ _ => False
theorem Cx.Ok.wish {X : Cx} (ok : X.Ok) (E : Value → Shared → Prop) : (X.wish E).Ok :=
  ⟨ok.mod, ok.kind, ok.glob, ok.blt, ok.above, ok.inj, ok.has, ok.cab, ok.hd, ok.frames, ok.stk, ok.exf, ok.bs, ok.bsz, ok.noex, ok.exfs, ok.funs, ok.frf⟩
theorem Cx.Ok.unwish {X : Cx} {E : Value → Shared → Prop} (ok : (X.wish E).Ok) : X.Ok :=
  ⟨ok.mod, ok.kind, ok.glob, ok.blt, ok.above, ok.inj, ok.has, ok.cab, ok.hd, ok.frames, ok.stk, ok.exf, ok.bs, ok.bsz, ok.noex, ok.exfs, ok.funs, ok.frf⟩
section
variable {X : Cx} {pins : List (Addr × Obj)} {σ : St} {H : Hp} {s : Shared} {E : Value → Shared → Prop}
theorem Inv.wish (I : Inv X pins σ H s) (E : Value → Shared → Prop) : Inv (X.wish E) pins σ H s := ⟨I.ok.wish E, I.os, I.bare, I.base, I.loc, I.cell, I.free, I.freeC, I.pin, I.hok, I.len⟩
theorem Inv.unwish (I : Inv (X.wish E) pins σ H s) : Inv X pins σ H s := ⟨I.ok.unwish, I.os, I.bare, I.base, I.loc, I.cell, I.free, I.freeC, I.pin, I.hok, I.len⟩
theorem SP.unwish {D : Ends} {f : Flow} {s' : Shared} (h : SP (X.wish E) pins D f s') : SP X pins D f s' := by
  cases f with
  | next => obtain ⟨σ', H', I, q⟩ := h; exact ⟨σ', H', I.unwish, q⟩
  | brk => obtain ⟨σ', H', I, q⟩ := h; exact ⟨σ', H', I.unwish, q⟩
  | cont => obtain ⟨σ', H', I, q⟩ := h; exact ⟨σ', H', I.unwish, q⟩
  | ret u => obtain ⟨v, σ', H', I, r, q⟩ := h; exact ⟨v, σ', H', I.unwish, r, q⟩
theorem PSs.nox {st : List Stmt} {t : TS} (h : PSs X.nox st t) : PSs X st t := fun pins s σ H D I hw =>
  wpAny_mono (h pins s σ H D (I.wish _) hw) (fun _ _ q => q.unwish) fun _ _ z => False.elim z
end
section
variable {X : Cx} {st : Stmt} {rest : List Stmt} {t u : TS} {e : Expr} {te : TE} {pos : Pos}
def tNext : TS := fun D σ H => D.nx σ H
def tSeq (t u : TS) : TS := fun D σ H => t { D with nx := u D } σ H
theorem pss_nil : PSs X [] tNext := fun _ _ σ H _ I h => wpAny_execs_nil ⟨σ, H, I, h⟩
theorem pss_cons (h1 : PS X st t) (h2 : PSs X rest u) : PSs X (st :: rest) (tSeq t u) := by
  intro pins s σ H D I h
  refine wpAny_execs_cons (thn (h1 pins s σ H { D with nx := u D } I h) fun f s1 q => ?_)
  cases f with
  | next =>
    obtain ⟨σ', H', I', q⟩ := q
    exact h2 pins s1 σ' H' D I' q
  | ret v => exact q
  | brk => exact q
  | cont => exact q
theorem pss_one (h1 : PS X st t) : PSs X [st] t := by
  intro pins s σ H D I h
  refine wpAny_execs_cons (thn (h1 pins s σ H D I h) fun f s1 q => ?_)
  cases f with
  | next => exact wpAny_execs_nil q
  | ret v => exact q
  | brk => exact q
  | cont => exact q
theorem Inv.quiet {pins : List (Addr × Obj)} {σ : St} {H : Hp} {s : Shared} (I : Inv X pins σ H s) : interactive X.env = false := by simp [interactive, I.ok.kind]
def tDrop (te : TE) : TS := fun D σ H => te σ H fun _ H1 => D.nx σ H1
theorem ps_expr (he : PE X e te) (hs : swapsWith e none pos.line X.env = pure false := by rfl) : PS X (.Expr e pos) (tDrop te) := by
  intro pins s σ H D I h
  exact wpAny_Expr_any (thn (he pins s σ H _ I h) fun v s1 ⟨x, H1, I1, r1, q1⟩ => ⟨σ, H1, I1, q1⟩) I.quiet hs
def tRet (te : TE) : TS := fun D σ H => te σ H D.rt
theorem ps_ret (he : PE X e te) : PS X (.Return (some e) pos) (tRet te) := by
  intro pins s σ H D I h
  exact wpAny_Return_some (thn (he pins s σ H _ I h) fun v s1 ⟨x, H1, I1, r1, q1⟩ => ⟨x, σ, H1, I1, r1, q1⟩)
def tIfS (c : TT) (t u : TS) : TS := fun D σ H => c σ H fun b H1 => if b = true then t D σ H1 else u D σ H1
theorem ps_if {c : Expr} {a b : List Stmt} {tc : TT} (hc : PT X c tc) (ha : PSs X a t) (hb : PSs X b u) : PS X (.If c a b pos) (tIfS tc t u) := by
  intro pins s σ H D I h
  refine wpAny_If (thn (hc pins s σ H _ I h) fun d s1 ⟨H1, I1, q1⟩ => ?_)
  cases d with
  | true => exact ha pins s1 σ H1 D I1 q1
  | false => exact hb pins s1 σ H1 D I1 q1
end
abbrev TG := V → St → Hp → (St → Hp → Prop) → Prop
def PG (X : Cx) (target : Expr) (t : TG) : Prop :=
  ∀ (pins : List (Addr × Obj)) (s : Shared) (σ : St) (H : Hp) (v : V) (u : Value) (Q : St → Hp → Prop), Inv X pins σ H s → RelV v u → t v σ H Q →
    wpAny (model X.prog X.w) X.A (assign target X.env u) (fun _ s' => ∃ σ' H', Inv X pins σ' H' s' ∧ Q σ' H') X.xe s
abbrev TIp := V → V → Hp → VK → Prop
def PIp (X : Cx) (op : Operator) (t : TIp) : Prop :=
  ∀ (pins : List (Addr × Obj)) (s : Shared) (σ : St) (H : Hp) (x y : V) (v u : Value) (Q : VK), Inv X pins σ H s → RelV x v → RelV y u → t x y H Q →
    wpAny (model X.prog X.w) X.A (inplaceOp op v u) (EP X pins σ Q) X.xe s
section
variable {X : Cx} {pos : Pos}
def gName (i : Nat) : TG := fun v σ H Q => Q (σ.set i (some v)) H
theorem pg_name {i : Nat} {x : Str} (hN : X.N.Nodup) (hi : X.N[i]? = some x) (hx : Loc X.env.scope x) (hf : X.fn x = true ∨ X.env.scope.names.lookup x = some .local := by first | exact .inl rfl | exact .inr rfl | assumption) : PG X (.Name x pos) (gName i) := by
  intro pins s σ H v u Q I r h
  exact wpAny_assign_Name (store_ok I hN hi hx r (fun s' I' => ⟨_, H, I', h⟩) hf)
def tAsg (te : TE) (g : TG) : TS := fun D σ H => te σ H fun x H1 => g x σ H1 D.nx
theorem ps_set {i : Nat} {x : Str} {e : Expr} {te : TE} {pos' : Pos} (hN : X.N.Nodup) (hi : X.N[i]? = some x) (hx : Loc X.env.scope x) (he : PE X e te) (hs : swapsWith e (some (.Name x pos')) pos.line X.env = pure false := by rfl) (hf : X.fn x = true ∨ X.env.scope.names.lookup x = some .local := by first | exact .inl rfl | exact .inr rfl | assumption) :
    PS X (.Assign [.Name x pos'] e pos) (tAsg te (gName i)) := by
  intro pins s σ H D I h
  refine wpAny_Assign_Name (thn (he pins s σ H _ I h) fun v s1 ⟨y, H1, I1, r1, q1⟩ => ?_) hs
  exact store_ok I1 hN hi hx r1 (fun s2 I2 => ⟨_, H1, I2, q1⟩) hf
def tAug (i : Nat) (te : TE) (ti : TIp) : TS := fun D σ H => ∃ x, σ[i]? = some (some x) ∧ te σ H fun y H1 => ti x y H1 fun z H2 => D.nx (σ.set i (some z)) H2
theorem ps_aug {i : Nat} {x : Str} {e : Expr} {te : TE} {op : Operator} {ti : TIp} {pos' : Pos} (hN : X.N.Nodup) (hi : X.N[i]? = some x) (hx : Loc X.env.scope x) (he : PE X e te) (ho : PIp X op ti) (hf : X.fn x = true ∨ X.env.scope.names.lookup x = some .local := by first | exact .inl rfl | exact .inr rfl | assumption) :
    PS X (.AugAssign (.Name x pos') op e pos) (tAug i te ti) := by
  intro pins s σ H D I h
  obtain ⟨v, e1, h⟩ := h
  obtain ⟨m, hn, hl⟩ := I.loc
  have vis : Vis X.env.scope x := by rcases hx with k | k; exact .inl k; exact .inr (.inl k)
  obtain ⟨u, r, l⟩ := hl i x v hi e1 vis
  refine wpAny_AugAssign_Name ?_
  have go : wpAny (model X.prog X.w) X.A (eval e X.env) (fun w s₂ => wpAny (model X.prog X.w) X.A (inplaceOp op u w) (fun r s₃ => wpAny (model X.prog X.w) X.A (storeName X.env x r) (fun _ => SP X pins D .next) X.xe s₃) X.xe s₂) X.xe s := by
    refine thn (he pins s σ H _ I h) fun w s1 ⟨y, H1, I1, r1, q1⟩ => ?_
    refine thn (ho pins s1 σ H1 v y u w _ I1 r r1 q1) fun z s2 ⟨zv, H2, I2, r2, q2⟩ => ?_
    exact store_ok I2 hN hi hx r2 (fun s3 I3 => ⟨_, H2, I3, q2⟩) hf
  rcases l with ⟨hk, hm⟩ | ⟨hk, c, hc, hcell⟩
  · exact wpAny_loadName_local I.ok.kind hk hn hm go
  · rcases hk with hk | hk
    · exact wpAny_loadName_cell I.ok.kind hk hc hcell go
    · rcases hx with k | k
      · have : X.env.scope.names.lookup x = some .free := hk
        rw [k] at this; cases this
      · have : X.env.scope.names.lookup x = some .free := hk
        rw [k] at this; cases this
end
section
variable {X : Cx} {pos : Pos}
def tWhile (c : TT) (tb : TS) : TS := fun D σ H => ∃ W : Nat → St → Hp → Prop, (∃ m, W m σ H) ∧ ∀ m σ H, W m σ H →
  c σ H fun b H1 => if b = true then ∃ N : St → Hp → Prop, (∀ σ' H', N σ' H' → ∃ m', m' < m ∧ W m' σ' H') ∧ tb { D with nx := N, ct := N, bk := D.nx } σ H1 else D.nx σ H1
theorem ps_while {c : Expr} {body : List Stmt} {tc : TT} {tb : TS} (hp : PassesOwn (model X.prog X.w) X.A X.env X.xe) (hc : PT X c tc) (hb : PSs X body tb) : PS X (.While c body [] pos) (tWhile tc tb) := by
  intro pins s σ H D I h
  obtain ⟨W, ⟨m0, w0⟩, turn⟩ := h
  refine wpAny_While (codeAny_whileLoop (fun n s' => ∃ σ' H', Inv X pins σ' H' s' ∧ W n σ' H') ?_ m0 ⟨σ, H, I, w0⟩)
  rintro n s1 ⟨σ1, H1, I1, w1⟩
  refine wpAny_passesOwn hp (thn (hc pins s1 σ1 H1 _ I1 (turn n σ1 H1 w1)) fun b s2 ⟨H2, I2, q2⟩ => ?_)
  cases b with
  | true =>
    obtain ⟨N, hN, q2⟩ := q2
    rw [if_pos rfl]
    refine wpAny_passesOwn hp (thn (hb pins s2 σ1 H2 _ I2 q2) fun f s3 q3 => ?_)
    cases f with
    | next =>
      obtain ⟨σ3, H3, I3, n3⟩ := q3
      obtain ⟨m', hm, w3⟩ := hN σ3 H3 n3
      exact ⟨m', hm, σ3, H3, I3, w3⟩
    | cont =>
      obtain ⟨σ3, H3, I3, n3⟩ := q3
      obtain ⟨m', hm, w3⟩ := hN σ3 H3 n3
      exact ⟨m', hm, σ3, H3, I3, w3⟩
    | brk => exact q3
    | ret v => exact q3
  | false =>
    rw [if_neg Bool.false_ne_true]
    exact wpAny_execs_nil ⟨σ1, H2, I2, q2⟩
end
structure It where
  go : Nat → Hp → Prop
  yld : Nat → Hp → V → Hp → Prop
  stop : Nat → Hp → Prop
def FpOk (X : Cx) (pins : List (Addr × Obj)) (H : Hp) (b : Addr) : Prop :=
  H b = none ∧ b ≠ X.env.locals ∧ b ∉ X.fs ∧ (b ∈ X.ex ∨ X.s_0.heap.objs.size ≤ b) ∧ (∀ x c, X.env.cells.lookup x = some c → c ≠ b) ∧ ∀ p ∈ X.pn ++ pins, p.1 ≠ b
theorem Inv.fpOk {X : Cx} {pins : List (Addr × Obj)} {σ : St} {H H' : Hp} {s : Shared} {b : Addr} (I : Inv X pins σ H s) (hb : s.heap.objs.size ≤ b) (hn : H' b = none) : FpOk X pins H' b := by
  refine ⟨hn, Nat.ne_of_gt (Nat.lt_of_lt_of_le I.lt hb), I.nofs hb, .inr (Nat.le_trans I.sz hb), fun x c e z => ?_, fun p hp z => ?_⟩
  · obtain ⟨v, q⟩ := I.cell x c e
    exact absurd (Nat.lt_of_lt_of_le q.lt (by rw [z]; exact hb)) (Nat.lt_irrefl _)
  · exact absurd (Nat.lt_of_lt_of_le (Heap.lt_size (I.pin p hp).1) (by rw [z]; exact hb)) (Nat.lt_irrefl _)
structure Turn (P : Program) (w : World) (K : PySem.W.Frag) (tg : Expr) (J : It) (fp : List Addr) (it : Addr) (tn : Nat → Heap → Prop) : Prop where
  mem : it ∈ fp
  obj : ∀ i h, tn i h → ∀ b ∈ fp, ∃ o, h.get? b = some o ∧ ∀ v, o.data ≠ .cell v
  keep : ∀ i h h', tn i h → (∀ b ∈ fp, ∀ o, h.get? b = some o → h'.get? b = some o) → tn i h'
  item : ∀ (X : Cx), X.prog = P → X.w = w → X.K = K → X.calm = true → ∀ (i : Nat) (pins : List (Addr × Obj)) (s : Shared) (σ : St) (H : Hp) (E : Value → Shared → Prop), Inv X pins σ H s → (∀ b ∈ fp, FpOk X pins H b) → tn i s.heap → J.go i H →
    wpAny (model P w) X.A (pyNext (.ref it)) (fun r s1 => ∃ u, r = some u ∧
      wpAny (model P w) X.A (letOwnedTupleGo tg (.ref it) u) (fun _ s2 => ∃ x H', Inv X pins σ H' s2 ∧ RelV x u ∧ J.yld i H x H' ∧ tn (i + 1) s2.heap ∧ ∀ b ∈ fp, H' b = none) E s1) E s
  done : ∀ (X : Cx), X.prog = P → X.w = w → X.K = K → X.calm = true → ∀ (i : Nat) (pins : List (Addr × Obj)) (s : Shared) (σ : St) (H : Hp) (E : Value → Shared → Prop), Inv X pins σ H s → (∀ b ∈ fp, FpOk X pins H b) → tn i s.heap → J.stop i H →
    wpAny (model P w) X.A (pyNext (.ref it)) (fun r s1 => r = none ∧ Inv X pins σ H s1) E s
  self : ∀ (A : Around) (i : Nat) (s : Shared) (Q : Value → Shared → Prop) (E : Value → Shared → Prop), tn i s.heap → Q (.ref it) s → wpAny (model P w) A (pyIter (.ref it)) Q E s
abbrev TI := St → Hp → (It → Hp → Prop) → Prop
def PIE (X : Cx) (pins : List (Addr × Obj)) (σ : St) (tg : Expr) (R : It → Hp → Prop) (itv : Value) (s2 : Shared) : Prop :=
  ∃ (it : Addr) (fp : List Addr) (tn : Nat → Heap → Prop) (J : It) (H' : Hp), itv = .ref it ∧ Inv X pins σ H' s2 ∧ Turn X.prog X.w X.K tg J fp it tn ∧ tn 0 s2.heap ∧ (∀ b ∈ fp, FpOk X pins H' b) ∧ R J H'
def PI (X : Cx) (tg iter : Expr) (wi : TI) : Prop :=
  ∀ (pins : List (Addr × Obj)) (s : Shared) (σ : St) (H : Hp) (R : It → Hp → Prop), Inv X pins σ H s → wi σ H R →
    wpAny (model X.prog X.w) X.A (eval iter X.env) (fun v s1 => wpAny (model X.prog X.w) X.A (pyIter v) (PIE X pins σ tg R) X.xe s1) X.xe s

theorem go_of {M : Model} {A : Around} {E : Value → Shared → Prop} {s : Shared} {tg : Expr} {it : Addr} {u : Value} {o : Obj} {n : String} {vs : Array Value} {Q : Unit → Shared → Prop} (ho : s.heap.get? it = some o) (hc : o.cls = .type n) (hd : o.data = .fields vs)
    (hn : ["enumerate", "zip", "dict_itemiterator", "dict_reverseitemiterator", "odict_iterator", "itertools.zip_longest", "itertools.pairwise"].contains n = false) (hQ : Q () s) : wpAny M A (letOwnedTupleGo tg (.ref it) u) Q E s := by
  unfold letOwnedTupleGo
  cases tg <;> first
    | exact wpAny_pure hQ
    | (cases u <;> first
        | exact wpAny_pure hQ
        | (refine wpAny_bind (wpAny_load ho ?_)
           rw [hc, hd]
           show wpAny M A (if (["enumerate", "zip", "dict_itemiterator", "dict_reverseitemiterator", "odict_iterator", "itertools.zip_longest", "itertools.pairwise"].contains n && vs[0]? == some (rawInt _)) = true then _ else _) Q E s
           rw [if_neg (by intro h; rw [hn, Bool.false_and] at h; cases h)]
           exact wpAny_pure hQ))

def Itl (K : PySem.W.Frag) (a : Addr) : It :=
  ⟨fun i H => ∃ xs x, SqL K H a xs ∧ xs[i]? = some x, fun i H x H' => H' = H ∧ ∀ xs, SqL K H a xs → xs[i]? = some x, fun i H => ∃ xs, SqL K H a xs ∧ xs.length ≤ i⟩
def Itr (lo : Int) (n : Nat) : It := ⟨fun i _ => i < n, fun i H x H' => H' = H ∧ x = .int (lo + i), fun i _ => n ≤ i⟩
theorem turn_list {P : Program} {w : World} {K : PySem.W.Frag} {tg : Expr} (a it : Addr) : Turn P w K tg (Itl K a) [it] it (fun i h => h.IsListIter it a i) where
  mem := by simp
  obj := fun i h st b hb => by
    have e : b = it := by simpa using hb
    subst e
    obtain ⟨o, e, c, d⟩ := st
    exact ⟨o, e, fun v z => by rw [d] at z; cases z⟩
  keep := fun i h h' st k => st.at fun o e => k it (by simp) o e
  item := by
    intro X hP hw hK hc i pins s σ H E I hf st hg
    subst hP hw hK
    obtain ⟨xs, x, hq, hx⟩ := hg
    obtain ⟨its, rv, p, hz⟩ := I.list hq
    obtain ⟨u, hu, ru⟩ := rv.get hx
    obtain ⟨f0, f1, f2, f3, f4, f5⟩ := hf it (by simp)
    refine wpAny_pyNext_list_item st p.isList (x := u) (by simpa using hu) fun h' st' sb => ?_
    have I1 : Inv X pins σ H { s with heap := h' } := I.turned (t' := s.toks) (fun b o hb e => (sb.2 b hb).trans e) f0 f1 f3 f4 f5
    obtain ⟨o, e, c, d⟩ := id st'
    exact ⟨u, rfl, go_of (s := { s with heap := h' }) e c d (by decide) ⟨x, H, I1, ru, ⟨rfl, fun ys hy => by rw [I.list_inj hy hq]; exact hx⟩, st', fun b hb => (hf b hb).1⟩⟩
  done := by
    intro X hP hw hK hc i pins s σ H E I hf st hg
    subst hP hw hK
    obtain ⟨xs, hq, hx⟩ := hg
    obtain ⟨its, rv, p, hz⟩ := I.list hq
    obtain ⟨f0, f1, f2, f3, f4, f5⟩ := hf it (by simp)
    have hl := rv.length
    exact wpAny_pyNext_list_end (I.ok.hd hc) st p.isList (by simp; omega) fun h' eb => ⟨rfl, I.turned (t' := s.toks) (fun b o hb e => eb b o hb e) f0 f1 f3 f4 f5⟩
  self := fun _ _ _ _ _ st h => wpAny_pyIter_listiter st h
theorem turn_range {P : Program} {w : World} {K : PySem.W.Frag} {tg : Expr} (it : Addr) (lo : Int) (n : Nat) : Turn P w K tg (Itr lo n) [it] it (fun i h => IsRangeIter h it (lo + (i : Nat) * 1) ((n : Int) - (i : Nat)) 1) where
  mem := by simp
  obj := fun i h st b hb => by
    have e : b = it := by simpa using hb
    subst e
    exact ⟨_, st, fun v z => by
      have z' : Data.fields _ = Data.cell v := z
      cases z'⟩
  keep := fun i h h' st k => k it (by simp) _ st
  item := by
    intro X hP hw hK hc i pins s σ H E I hf st hg
    subst hP hw hK
    obtain ⟨f0, f1, f2, f3, f4, f5⟩ := hf it (by simp)
    have W := Walks.range (prog := X.prog) (w := X.w) (I.ok.hd hc) it lo 1 n
    refine W.item i s _ _ hg st fun v h' tk hv st' kk => ?_
    obtain ⟨t, rfl⟩ := hv
    have I1 : Inv X pins σ H { s with heap := h', toks := tk } := I.turned (fun b o hb e => kk b o (by simpa using hb) e) f0 f1 f3 f4 f5
    refine ⟨_, rfl, go_of (s := { s with heap := h', toks := tk }) (n := "range_iterator") st' rfl rfl (by decide) ⟨.int (lo + i), H, I1, ⟨t, ?_⟩, ⟨rfl, rfl⟩, st', fun b hb => (hf b hb).1⟩⟩
    rw [Int.mul_one]
  done := by
    intro X hP hw hK hc i pins s σ H E I hf st hg
    subst hP hw hK
    obtain ⟨f0, f1, f2, f3, f4, f5⟩ := hf it (by simp)
    exact wpAny_pyNext_range_end (I.ok.hd hc) st (by have : n ≤ i := hg; omega) fun h' eb => ⟨rfl, I.turned (t' := s.toks) (fun b o hb e => eb b o hb e) f0 f1 f3 f4 f5⟩
  self := fun _ _ _ _ _ st h => wpAny_pyIter_rangeiter st h
end L2
namespace L2
open PySem PySem.Spec PyProof.Rows
section
variable {X : Cx} {tg : Expr}
def iList (K : PySem.W.Frag) (tl : TE) : TI := fun σ H R => tl σ H fun x H1 => ∃ a, x = .ref a ∧ (∃ xs, SqL K H1 a xs) ∧ R (Itl K a) H1
theorem pi_list {l : Expr} {tl : TE} (hl : PE X l tl) : PI X tg l (iList X.K tl) := by
  intro pins s σ H R I h
  refine thn (hl pins s σ H _ I h) fun v s1 ⟨x, H1, I1, r1, q1⟩ => ?_
  obtain ⟨a, e, ⟨xs, hq⟩, q⟩ := q1
  subst e
  cases r1
  obtain ⟨its, rv, p, hz⟩ := I1.list hq
  refine wpAny_pyIter_list p.isList ?_
  refine ⟨s1.heap.objs.size, [s1.heap.objs.size], _, _, H1, rfl, I1.kept (t' := s1.toks) fun b o e => Heap.get?_push_of_some _ e, turn_list a _, ⟨_, Heap.get?_push_size _ rfl, rfl, rfl⟩, fun b hb => ?_, q⟩
  have e : b = s1.heap.objs.size := by simpa using hb
  subst e
  exact I1.fpOk (Nat.le_refl _) (I1.hok.fresh (Nat.le_refl _))
theorem range_it {pins : List (Addr × Obj)} {σ : St} {H : Hp} {s : Shared} {R : It → Hp → Prop} {E : Value → Shared → Prop} {lo hi : Int} {t u v : Tok} {tk : Nat} (I : Inv X pins σ H s) (h1 : -(2 ^ 62) ≤ lo) (h2 : lo < 2 ^ 62) (h3 : -(2 ^ 62) ≤ hi) (h4 : hi < 2 ^ 62)
    (q : R (Itr lo (hi - lo).toNat) H) : wpAny (model X.prog X.w) X.A (pyIter (.ref s.heap.objs.size)) (PIE X pins σ tg R) E { s with heap := s.heap.push { cls := .type "range", data := .fields #[.int lo t, .int hi u, .int 1 v] }, toks := tk } := by
  refine wpAny_pyIter_range (IsRange.new ..) (small_one h1 h2 h3 h4) ?_
  have I1 : Inv X pins σ H { s with heap := s.heap.push { cls := .type "range", data := .fields #[.int lo t, .int hi u, .int 1 v] }, toks := tk } := I.kept fun b o e => Heap.get?_push_of_some _ e
  refine ⟨(s.heap.push { cls := .type "range", data := .fields #[.int lo t, .int hi u, .int 1 v] }).objs.size, [(s.heap.push { cls := .type "range", data := .fields #[.int lo t, .int hi u, .int 1 v] }).objs.size], _, _, H, rfl,
    I1.kept (t' := tk) fun b o e => Heap.get?_push_of_some _ e, turn_range _ lo (hi - lo).toNat, ?_, fun b hb => ?_, q⟩
  · have e1 : lo + ((0 : Nat) : Int) * 1 = lo := by simp
    have e2 : (((hi - lo).toNat : Nat) : Int) - ((0 : Nat) : Int) = Builtin.Range.rangeSize lo hi 1 := by rw [rangeSize_one]; split <;> omega
    show IsRangeIter _ _ (lo + ((0 : Nat) : Int) * 1) ((((hi - lo).toNat : Nat) : Int) - ((0 : Nat) : Int)) 1
    rw [e1, e2]
    exact Heap.get?_push_size _ rfl
  · have e : b = (s.heap.push { cls := .type "range", data := .fields #[.int lo t, .int hi u, .int 1 v] }).objs.size := by simpa using hb
    subst e
    exact I1.fpOk (Nat.le_refl _) (I1.hok.fresh (Nat.le_refl _))
def iRng1 (ta : TA) : TI := fun σ H R => ta σ H fun vs H1 => ∃ j : Int, vs = [.int j] ∧ -(2 ^ 62) ≤ j ∧ j < 2 ^ 62 ∧ R (Itr 0 j.toNat) H1
theorem pi_range1 {a : Expr} {ta : TA} {p pos : Pos} (hg : Gl X "range") (hm : X.mg "range" = none) (ha : PA X [a] ta) (hs : starEach [a] X.env = [(false, eval a X.env)] := by rfl) : PI X tg (.Call (.Name "range" p) [a] [] pos) (iRng1 ta) := by
  intro pins s σ H R I h
  refine Call_ (ld_blt I hg hm boot_range (PyProof.Rows.callWith_type1 (thn (ha pos pins s σ H _ I h) fun us s1 ⟨vs, H1, I1, r1, q1⟩ => ?_) hs rfl))
  obtain ⟨j, e, q1, q2, q⟩ := q1
  subst e
  cases r1 with
  | cons r rr =>
    cases rr
    obtain ⟨t, rfl⟩ := r
    exact call_range_1 (range_it I1 (by omega) (by omega) q1 q2 (by simpa using q))
def tFor (wi : TI) (g : TG) (tb : TS) : TS := fun D σ H => wi σ H fun J H1 => ∃ W : Nat → Nat → St → Hp → Prop, (∃ m, W 0 m σ H1) ∧ ∀ i m σ H, W i m σ H →
  (J.stop i H ∧ D.nx σ H) ∨ (J.go i H ∧ ∃ N : St → Hp → Prop, (∀ σ' H', N σ' H' → ∃ m', m' < m ∧ W (i + 1) m' σ' H') ∧ ∀ x H', J.yld i H x H' → g x σ H' fun σ2 H2 => tb { D with nx := N, ct := N, bk := D.nx } σ2 H2)
def pinsAt (fp : List Addr) (h : Heap) : List (Addr × Obj) := fp.filterMap fun b => (h.get? b).map fun o => (b, o)
theorem mem_pinsAt {fp : List Addr} {h : Heap} {b : Addr} {o : Obj} (hb : b ∈ fp) (e : h.get? b = some o) : (b, o) ∈ pinsAt fp h := List.mem_filterMap.mpr ⟨b, hb, by rw [e]; rfl⟩
theorem of_pinsAt {fp : List Addr} {h : Heap} {p : Addr × Obj} (hp : p ∈ pinsAt fp h) : p.1 ∈ fp ∧ h.get? p.1 = some p.2 := by
  obtain ⟨b, hb, e⟩ := List.mem_filterMap.mp hp
  cases q : h.get? b with
  | none => rw [q] at e; cases e
  | some o =>
    rw [q] at e
    have e' : (b, o) = p := Option.some.inj e
    subst e'
    exact ⟨hb, q⟩
theorem Inv.pinned {pins : List (Addr × Obj)} {σ : St} {H : Hp} {s : Shared} {fp : List Addr} (I : Inv X pins σ H s) (hf : ∀ b ∈ fp, FpOk X pins H b) (ho : ∀ b ∈ fp, ∃ o, s.heap.get? b = some o ∧ ∀ v, o.data ≠ .cell v) : Inv X (pins ++ pinsAt fp s.heap) σ H s :=
  I.pins_of fun p hp => (List.mem_append.mp hp).elim (fun z => I.pin p (List.mem_append_right _ z)) fun z => by
    obtain ⟨hb, e⟩ := of_pinsAt z
    obtain ⟨f0, f1, f2, _⟩ := hf p.1 hb
    obtain ⟨o, e', d⟩ := ho p.1 hb
    rw [e] at e'; cases e'
    exact ⟨e, f0, f1, f2, d⟩
theorem Inv.unpinned {pins pl : List (Addr × Obj)} {σ : St} {H : Hp} {s : Shared} (I : Inv X (pins ++ pl) σ H s) : Inv X pins σ H s := I.pins_of fun p hp => I.pin p (List.mem_append_right _ (List.mem_append_left _ hp))
theorem ps_for {iter : Expr} {body : List Stmt} {wi : TI} {g : TG} {tb : TS} {pos : Pos} (hp : PassesOwn (model X.prog X.w) X.A X.env X.xe) (hc : X.calm = true) (hi : PI X tg iter wi) (hg : PG X tg g) (hb : PSs X body tb)
    (hs : ∀ x, foldedSetIterable iter X.env x = pure x := by intro _; rfl) : PS X (.For tg iter body [] pos) (tFor wi g tb) := by
  intro pins s σ H D I h
  refine wpAny_For (thn (hi pins s σ H _ I h) fun v s1 h1 => thn h1 fun itv s2 h2 => ?_) hs
  obtain ⟨it, fp, tn, J, H2, e, I2, T, st2, f2, W, ⟨m0, w0⟩, turn⟩ := h2
  subst e
  -- what stays true of the iterator's objects through the loop
  have stat : ∀ {H' : Hp}, (∀ b ∈ fp, H' b = none) → ∀ b ∈ fp, FpOk X pins H' b := fun hn b hb => ⟨hn b hb, (f2 b hb).2⟩
  refine codeAny_forLoop_any (fun n s' => ∃ i σ' H', Inv X pins σ' H' s' ∧ tn i s'.heap ∧ (∀ b ∈ fp, H' b = none) ∧ W i n σ' H') ?_ m0 ⟨0, σ, H2, I2, st2, fun b hb => (f2 b hb).1, w0⟩
  rintro n s3 ⟨i, σ3, H3, I3, st3, fr3, w3⟩
  rcases turn i n σ3 H3 w3 with ⟨stop, qn⟩ | ⟨go, N, hN, step⟩
  · refine wpAny_passesOwn hp (thn (T.done X rfl rfl rfl hc i pins s3 σ3 H3 X.xe I3 (stat fr3) st3 stop) fun r s4 ⟨hr, I4⟩ => ?_)
    subst hr
    exact wpAny_execs_nil ⟨σ3, H3, I4, qn⟩
  · refine wpAny_passesOwn hp (thn (T.item X rfl rfl rfl hc i pins s3 σ3 H3 X.xe I3 (stat fr3) st3 go) fun r s4 ⟨u, hr, h4⟩ => ?_)
    subst hr
    refine wpAny_passesOwn hp (thn h4 fun _ s5 ⟨x, H5, I5, r5, y5, st5, fr5⟩ => ?_)
    have I5' := I5.pinned (stat fr5) (T.obj _ _ st5)
    refine wpAny_passesOwn hp (thn (hg _ s5 σ3 H5 x u _ I5' r5 (step x H5 y5)) fun _ s6 ⟨σ6, H6, I6, q6⟩ => ?_)
    refine wpAny_passesOwn hp (thn (hb _ s6 σ6 H6 _ I6 q6) fun f s7 q7 => ?_)
    have again : ∀ {σ7 : St} {H7 : Hp}, Inv X (pins ++ pinsAt fp s5.heap) σ7 H7 s7 → N σ7 H7 → ∃ m, m < n ∧ ∃ i σ' H', Inv X pins σ' H' s7 ∧ tn i s7.heap ∧ (∀ b ∈ fp, H' b = none) ∧ W i m σ' H' := fun {σ7 H7} I7 n7 => by
      obtain ⟨m', hm, w7⟩ := hN σ7 H7 n7
      refine ⟨m', hm, i + 1, σ7, H7, I7.unpinned, T.keep _ _ _ st5 fun b hb o e => (I7.pin (b, o) (List.mem_append_right _ (List.mem_append_right _ (mem_pinsAt hb e)))).1, fun b hb => ?_, w7⟩
      obtain ⟨o, e, d⟩ := T.obj _ _ st5 b hb
      exact (I7.pin (b, o) (List.mem_append_right _ (List.mem_append_right _ (mem_pinsAt hb e)))).2.1
    cases f with
    | next => obtain ⟨σ7, H7, I7, n7⟩ := q7; exact again I7 n7
    | cont => obtain ⟨σ7, H7, I7, n7⟩ := q7; exact again I7 n7
    | brk => obtain ⟨σ7, H7, I7, q7⟩ := q7; exact ⟨σ7, H7, I7.unpinned, q7⟩
    | ret v => obtain ⟨x7, σ7, H7, I7, r7, q7⟩ := q7; exact ⟨x7, σ7, H7, I7.unpinned, r7, q7⟩
end
theorem for_list {K : PySem.W.Frag} {a : Addr} {xs : List V} {g : TG} {tb : TS} {D : Ends} {σ : St} {H : Hp} (Pv : Nat → St → Hp → Prop) (h0 : Pv 0 σ H) (hl : ∀ i σ H, i ≤ xs.length → Pv i σ H → SqL K H a xs)
    (hs : ∀ i x σ H, xs[i]? = some x → Pv i σ H → g x σ H fun σ2 H2 => tb { D with nx := Pv (i + 1), ct := Pv (i + 1), bk := D.nx } σ2 H2) (hd : ∀ σ H, Pv xs.length σ H → D.nx σ H) :
    ∃ W : Nat → Nat → St → Hp → Prop, (∃ m, W 0 m σ H) ∧ ∀ i m σ H, W i m σ H →
      ((Itl K a).stop i H ∧ D.nx σ H) ∨ ((Itl K a).go i H ∧ ∃ N : St → Hp → Prop, (∀ σ' H', N σ' H' → ∃ m', m' < m ∧ W (i + 1) m' σ' H') ∧ ∀ x H', (Itl K a).yld i H x H' → g x σ H' fun σ2 H2 => tb { D with nx := N, ct := N, bk := D.nx } σ2 H2) := by
  refine ⟨fun i m σ H => m = xs.length - i ∧ i ≤ xs.length ∧ Pv i σ H, ⟨xs.length, by simp, Nat.zero_le _, h0⟩, ?_⟩
  rintro i m σ H ⟨rfl, hi, p⟩
  have q := hl i σ H hi p
  by_cases hlt : i < xs.length
  · refine .inr ⟨⟨xs, xs[i], q, by simp [hlt]⟩, Pv (i + 1), fun σ' H' p' => ⟨xs.length - (i + 1), by omega, rfl, hlt, p'⟩, fun x H' y => ?_⟩
    obtain ⟨e, y⟩ := y
    subst e
    exact hs i x σ _ (y xs q) p
  · have e : i = xs.length := by omega
    subst e
    exact .inl ⟨⟨xs, q, Nat.le_refl _⟩, hd σ H p⟩
theorem for_range {lo : Int} {n : Nat} {g : TG} {tb : TS} {D : Ends} {σ : St} {H : Hp} (Pv : Nat → St → Hp → Prop) (h0 : Pv 0 σ H)
    (hs : ∀ i σ H, i < n → Pv i σ H → g (.int (lo + i)) σ H fun σ2 H2 => tb { D with nx := Pv (i + 1), ct := Pv (i + 1), bk := D.nx } σ2 H2) (hd : ∀ σ H, Pv n σ H → D.nx σ H) :
    ∃ W : Nat → Nat → St → Hp → Prop, (∃ m, W 0 m σ H) ∧ ∀ i m σ H, W i m σ H →
      ((Itr lo n).stop i H ∧ D.nx σ H) ∨ ((Itr lo n).go i H ∧ ∃ N : St → Hp → Prop, (∀ σ' H', N σ' H' → ∃ m', m' < m ∧ W (i + 1) m' σ' H') ∧ ∀ x H', (Itr lo n).yld i H x H' → g x σ H' fun σ2 H2 => tb { D with nx := N, ct := N, bk := D.nx } σ2 H2) := by
  refine ⟨fun i m σ H => m = n - i ∧ i ≤ n ∧ Pv i σ H, ⟨n, by simp, Nat.zero_le _, h0⟩, ?_⟩
  rintro i m σ H ⟨rfl, hi, p⟩
  by_cases hlt : i < n
  · refine .inr ⟨hlt, Pv (i + 1), fun σ' H' p' => ⟨n - (i + 1), by omega, rfl, hlt, p'⟩, fun x H' y => ?_⟩
    obtain ⟨e, y⟩ := y
    subst e y
    exact hs i σ _ hlt p
  · have e : i = n := by omega
    subst e
    exact .inl ⟨Nat.le_refl _, hd σ H p⟩
theorem while_by {c : TT} {tb : TS} {D : Ends} {σ : St} {H : Hp} (Pv : St → Hp → Prop) (μ : St → Hp → Nat) (h0 : Pv σ H)
    (hs : ∀ σ H, Pv σ H → c σ H fun b H1 => if b = true then tb { D with nx := fun σ' H' => Pv σ' H' ∧ μ σ' H' < μ σ H, ct := fun σ' H' => Pv σ' H' ∧ μ σ' H' < μ σ H, bk := D.nx } σ H1 else D.nx σ H1)
    (mono : ∀ σ H Q Q', (∀ b H1, Q b H1 → Q' b H1) → c σ H Q → c σ H Q') : tWhile c tb D σ H := by
  refine ⟨fun m σ H => m = μ σ H ∧ Pv σ H, ⟨_, rfl, h0⟩, ?_⟩
  rintro m σ H ⟨rfl, p⟩
  refine mono σ H _ _ (fun b H1 q => ?_) (hs σ H p)
  cases b with
  | true => exact ⟨_, fun σ' H' ⟨p', l⟩ => ⟨_, l, rfl, p'⟩, q⟩
  | false => exact q
end L2
namespace L2
open PySem PySem.Spec PyProof.Rows

abbrev R2 := V → V → Hp → VK → Prop
def OpR (X : Cx) (f : Value → Value → Sem Value) (r : R2) : Prop :=
  ∀ (pins : List (Addr × Obj)) (s : Shared) (σ : St) (H : Hp) (x y : V) (v u : Value) (Q : VK), Inv X pins σ H s → RelV x v → RelV y u → r x y H Q →
    wpAny (model X.prog X.w) X.A (f v u) (EP X pins σ Q) X.xe s
def CallR (X : Cx) (f : Value) (r : List V → Hp → VK → Prop) : Prop :=
  ∀ (pins : List (Addr × Obj)) (s : Shared) (σ : St) (H : Hp) (xs : List V) (us : List Value) (Q : VK), Inv X pins σ H s → Vals xs us → r xs H Q →
    wpAny (model X.prog X.w) X.A (call f us) (EP X pins σ Q) X.xe s
def tOp (r : R2) (ta tb : TE) : TE := fun σ H Q => ta σ H fun x H1 => tb σ H1 fun y H2 => r x y H2 Q
def rI (C : Int → Int → Prop) (g : Int → Int → V) : R2 := fun x y H Q => ∃ i j, x = .int i ∧ y = .int j ∧ C i j ∧ Q (g i j) H
def rI0 (g : Int → Int → V) : R2 := fun x y H Q => ∃ i j, x = .int i ∧ y = .int j ∧ Q (g i j) H
section
variable {X : Cx} {a b c : Expr} {ta tb tc : TE} {pos : Pos}

theorem binT (ha : PE X a ta) (hb : PE X b tb) {pins : List (Addr × Obj)} {s : Shared} {σ : St} {H : Hp} {R : V → V → Hp → Prop} (I : Inv X pins σ H s)
    (h : ta σ H fun x H1 => tb σ H1 fun y H2 => R x y H2) {Q : Value → Shared → Prop} {f : Value → Value → Sem Value}
    (hf : ∀ v u s2 x y H2, Inv X pins σ H2 s2 → RelV x v → RelV y u → R x y H2 → wpAny (model X.prog X.w) X.A (f v u) Q X.xe s2) :
    wpAny (model X.prog X.w) X.A (eval a X.env) (fun v s₁ => wpAny (model X.prog X.w) X.A (eval b X.env) (fun u s₂ => wpAny (model X.prog X.w) X.A (f v u) Q X.xe s₂) X.xe s₁) X.xe s := by
  refine thn (ha pins s σ H _ I h) fun v s1 ⟨x, H1, I1, r1, q1⟩ => ?_
  refine thn (hb pins s1 σ H1 _ I1 q1) fun u s2 ⟨y, H2, I2, r2, q2⟩ => ?_
  exact hf v u s2 x y H2 I2 r1 r2 q2

theorem pe_op {op : Operator} {r : R2} (ho : OpR X (binaryOp op) r) (ha : PE X a ta) (hb : PE X b tb) : PE X (.BinOp a op b pos) (tOp r ta tb) := by
  intro pins s σ H Q I h
  exact wpAny_BinOp (binT ha hb I h fun v u s2 x y H2 I2 rx ry q => ho pins s2 σ H2 x y v u Q I2 rx ry q)
theorem opI {f : Value → Value → Sem Value} {C : Int → Int → Prop} {g : Int → Int → Int}
    (rule : ∀ (i j : Int) (t u : Tok) (s : Shared) (Q : Value → Shared → Prop) (E : Value → Shared → Prop), C i j → Q (.int (g i j) s.toks) { s with toks := s.toks + 1 } → wpAny (model X.prog X.w) X.A (f (.int i t) (.int j u)) Q E s) :
    OpR X f (rI C fun i j => .int (g i j)) := by
  intro pins s σ H x y v u Q I rx ry h
  obtain ⟨i, j, rfl, rfl, hc, q⟩ := h
  obtain ⟨t, rfl⟩ := rx
  obtain ⟨t', rfl⟩ := ry
  exact rule i j t t' s _ _ hc ⟨.int (g i j), H, I.tok _, ⟨_, rfl⟩, q⟩
theorem opI0 {f : Value → Value → Sem Value} {g : Int → Int → Int}
    (rule : ∀ (i j : Int) (t u : Tok) (s : Shared) (Q : Value → Shared → Prop) (E : Value → Shared → Prop), Q (.int (g i j) s.toks) { s with toks := s.toks + 1 } → wpAny (model X.prog X.w) X.A (f (.int i t) (.int j u)) Q E s) :
    OpR X f (rI0 fun i j => .int (g i j)) := by
  intro pins s σ H x y v u Q I rx ry h
  obtain ⟨i, j, rfl, rfl, q⟩ := h
  obtain ⟨t, rfl⟩ := rx
  obtain ⟨t', rfl⟩ := ry
  exact rule i j t t' s _ _ ⟨.int (g i j), H, I.tok _, ⟨_, rfl⟩, q⟩
theorem opB0 {f : Value → Value → Sem Value} {g : Int → Int → Bool}
    (rule : ∀ (i j : Int) (t u : Tok) (s : Shared) (Q : Value → Shared → Prop) (E : Value → Shared → Prop), Q (.bool (g i j)) s → wpAny (model X.prog X.w) X.A (f (.int i t) (.int j u)) Q E s) :
    OpR X f (rI0 fun i j => .bl (g i j)) := by
  intro pins s σ H x y v u Q I rx ry h
  obtain ⟨i, j, rfl, rfl, q⟩ := h
  obtain ⟨t, rfl⟩ := rx
  obtain ⟨t', rfl⟩ := ry
  exact rule i j t t' s _ _ ⟨.bl (g i j), H, I, rfl, q⟩

def CPow (i j : Int) : Prop := 0 ≤ j ∧ j ≤ 1000000 ∧ i.natAbs < 2 ^ 64
theorem two_pow_nn (k : Nat) : (0 : Int) ≤ 2 ^ k := by
  rw [two_pow_cast]
  exact Int.natCast_nonneg _

theorem op_add : OpR X (binaryOp .Add) (rI0 fun i j => .int (i + j)) := opI0 fun _ _ _ _ _ _ _ q => add_int q
theorem op_sub : OpR X (binaryOp .Sub) (rI0 fun i j => .int (i - j)) := opI0 fun _ _ _ _ _ _ _ q => sub_int q
theorem op_shl : OpR X (binaryOp .LShift) (rI CPow fun i j => .int (i * 2 ^ j.toNat)) := opI fun _ _ _ _ _ _ _ hc q => lshift_int_small hc.1 hc.2.1 hc.2.2 q
theorem op_shr : OpR X (binaryOp .RShift) (rI (fun _ j => 0 ≤ j) fun i j => .int (i / 2 ^ j.toNat)) := opI fun i j _ _ _ _ _ hc q =>
  rshift_int hc (by rw [Int.fdiv_eq_ediv_of_nonneg i (two_pow_nn _)]; exact q)
theorem op_and : OpR X (binaryOp .BitAnd) (rI0 fun i j => .int (Builtin.bitAnd i j)) := opI0 fun _ _ _ _ _ _ _ q => and_int q
theorem op_or : OpR X (binaryOp .BitOr) (rI0 fun i j => .int (Builtin.bitOr i j)) := opI0 fun _ _ _ _ _ _ _ q => or_int q
theorem op_xor : OpR X (binaryOp .BitXor) (rI0 fun i j => .int (Builtin.bitXor i j)) := opI0 fun _ _ _ _ _ _ _ q => xor_int q

theorem iop_add : OpR X (inplaceOp .Add) (rI0 fun i j => .int (i + j)) := opI0 fun _ _ _ _ _ _ _ q => iadd_int q
end
def scal : V → V → Bool
  | .non, .non => true | .non, .int _ => true | .int _, .non => true | .non, .bl _ => true | .bl _, .non => true | .non, .str _ => true | .str _, .non => true
  | .int _, .int _ => true | .bl _, .bl _ => true | .str _, .str _ => true | .byt _, .byt _ => true
  | .int _, .str _ => true | .str _, .int _ => true | .bl _, .str _ => true | .str _, .bl _ => true
  | _, _ => false
def rEq : R2 := fun x y H Q => scal x y = true ∧ Q (.bl (decide (x = y))) H
def rNe : R2 := fun x y H Q => scal x y = true ∧ Q (.bl (!decide (x = y))) H

theorem dec_int {i j : Int} : decide (V.int i = V.int j) = (i == j) := by
  rw [Bool.eq_iff_iff]
  simp
theorem dec_bl {i j : Bool} : decide (V.bl i = V.bl j) = (i == j) := by
  rw [Bool.eq_iff_iff]
  simp
theorem dec_str {i j : Str} : decide (V.str i = V.str j) = (i == j) := by
  rw [Bool.eq_iff_iff]
  simp
theorem dec_byt {i j : Array UInt8} : decide (V.byt i = V.byt j) = (i.toList == j.toList) := by
  rw [Bool.eq_iff_iff]
  cases i
  cases j
  simp

section
variable {X : Cx} {a b c : Expr} {ta tb tc : TE} {pos : Pos}
theorem fin_bl {pins : List (Addr × Obj)} {σ : St} {H : Hp} {s : Shared} {Q : VK} {k k' : Bool} (I : Inv X pins σ H s) (q : Q (.bl k) H) (e : k = k') : EP X pins σ Q (.bool k') s := by
  subst e
  exact ⟨.bl k, H, I, rfl, q⟩
theorem op_eq : OpR X (compareOp .Eq) rEq := by
  intro pins s σ H x y v u Q I rx ry h
  obtain ⟨hs, q⟩ := h
  cases x with
  | non =>
    cases rx
    cases y with
    | non => cases ry; exact PySem.EqNone.eq_none_none (fin_bl I q (by simp))
    | bl j => cases ry; exact PySem.EqNone.eq_none_bool (fin_bl I q (by simp))
    | int j => obtain ⟨t', rfl⟩ := ry; exact PySem.EqNone.eq_none_int (fin_bl I q (by simp))
    | str j => obtain ⟨t', rfl⟩ := ry; exact PySem.EqNone.eq_none_str (fin_bl I q (by simp))
    | _ => exact absurd (show false = true from hs) Bool.false_ne_true
  | bl i =>
    cases rx
    cases y with
    | non => cases ry; exact PySem.EqNone.eq_bool_none (fin_bl I q (by simp))
    | bl j => cases ry; exact eq_bool (fin_bl I q dec_bl)
    | str j => obtain ⟨t', rfl⟩ := ry; exact PySem.EqMixed.eq_bool_str (fin_bl I q (by simp))
    | _ => exact absurd (show false = true from hs) Bool.false_ne_true
  | int i =>
    obtain ⟨t, rfl⟩ := rx
    cases y with
    | non => cases ry; exact PySem.EqNone.eq_int_none (fin_bl I q (by simp))
    | int j => obtain ⟨t', rfl⟩ := ry; exact eq_int (fin_bl I q dec_int)
    | str j => obtain ⟨t', rfl⟩ := ry; exact PySem.EqMixed.eq_int_str (fin_bl I q (by simp))
    | _ => exact absurd (show false = true from hs) Bool.false_ne_true
  | str i =>
    obtain ⟨t, rfl⟩ := rx
    cases y with
    | non => cases ry; exact PySem.EqNone.eq_str_none (fin_bl I q (by simp))
    | bl j => cases ry; exact PySem.EqMixed.eq_str_bool (fin_bl I q (by simp))
    | int j => obtain ⟨t', rfl⟩ := ry; exact PySem.EqMixed.eq_str_int (fin_bl I q (by simp))
    | str j => obtain ⟨t', rfl⟩ := ry; exact eq_str (fin_bl I q dec_str)
    | _ => exact absurd (show false = true from hs) Bool.false_ne_true
  | byt i =>
    obtain ⟨t, rfl⟩ := rx
    cases y with
    | byt j => obtain ⟨t', rfl⟩ := ry; exact PySem.W.eq_bytes (fin_bl I q dec_byt)
    | _ => exact absurd (show false = true from hs) Bool.false_ne_true
  | _ => cases y <;> exact absurd (show false = true from hs) Bool.false_ne_true
theorem op_ne : OpR X (compareOp .NotEq) rNe := by
  intro pins s σ H x y v u Q I rx ry h
  obtain ⟨hs, q⟩ := h
  cases x with
  | non =>
    cases rx
    cases y with
    | non => cases ry; exact PySem.EqNone.ne_none_none (fin_bl I q (by simp))
    | bl j => cases ry; exact PySem.EqNone.ne_none_bool (fin_bl I q (by simp))
    | int j => obtain ⟨t', rfl⟩ := ry; exact PySem.EqNone.ne_none_int (fin_bl I q (by simp))
    | str j => obtain ⟨t', rfl⟩ := ry; exact PySem.EqNone.ne_none_str (fin_bl I q (by simp))
    | _ => exact absurd (show false = true from hs) Bool.false_ne_true
  | bl i =>
    cases rx
    cases y with
    | non => cases ry; exact PySem.EqNone.ne_bool_none (fin_bl I q (by simp))
    | bl j => cases ry; exact ne_bool (fin_bl I q (congrArg not dec_bl))
    | str j => obtain ⟨t', rfl⟩ := ry; exact PySem.EqMixed.ne_bool_str (fin_bl I q (by simp))
    | _ => exact absurd (show false = true from hs) Bool.false_ne_true
  | int i =>
    obtain ⟨t, rfl⟩ := rx
    cases y with
    | non => cases ry; exact PySem.EqNone.ne_int_none (fin_bl I q (by simp))
    | int j => obtain ⟨t', rfl⟩ := ry; exact ne_int (fin_bl I q (congrArg not dec_int))
    | str j => obtain ⟨t', rfl⟩ := ry; exact PySem.EqMixed.ne_int_str (fin_bl I q (by simp))
    | _ => exact absurd (show false = true from hs) Bool.false_ne_true
  | str i =>
    obtain ⟨t, rfl⟩ := rx
    cases y with
    | non => cases ry; exact PySem.EqNone.ne_str_none (fin_bl I q (by simp))
    | bl j => cases ry; exact PySem.EqMixed.ne_str_bool (fin_bl I q (by simp))
    | int j => obtain ⟨t', rfl⟩ := ry; exact PySem.EqMixed.ne_str_int (fin_bl I q (by simp))
    | str j => obtain ⟨t', rfl⟩ := ry; exact ne_str (fin_bl I q (congrArg not dec_str))
    | _ => exact absurd (show false = true from hs) Bool.false_ne_true
  | byt i =>
    obtain ⟨t, rfl⟩ := rx
    cases y with
    | byt j => obtain ⟨t', rfl⟩ := ry; exact PySem.W.ne_bytes (fin_bl I q (congrArg not dec_byt))
    | _ => exact absurd (show false = true from hs) Bool.false_ne_true
  | _ => cases y <;> exact absurd (show false = true from hs) Bool.false_ne_true

theorem op_lt : OpR X (compareOp .Lt) (rI0 fun i j => .bl (decide (i < j))) := opB0 fun _ _ _ _ _ _ _ q => lt_int q
theorem op_gt : OpR X (compareOp .Gt) (rI0 fun i j => .bl (decide (j < i))) := opB0 fun _ _ _ _ _ _ _ q => gt_int q
theorem op_ge : OpR X (compareOp .GtE) (rI0 fun i j => .bl (decide (j ≤ i))) := opB0 fun _ _ _ _ _ _ _ q => ge_int q
theorem nomark (b : Expr) {op : CmpOp} (h : op ≠ .In := by decide) (h2 : op ≠ .NotIn := by decide) : behindInMarks op b = false := by
  have e1 : (op == CmpOp.In) = false := by cases op <;> first | rfl | exact absurd rfl h
  have e2 : (op == CmpOp.NotIn) = false := by cases op <;> first | rfl | exact absurd rfl h2
  cases b <;> simp [behindInMarks, e1, e2]
theorem pe_cmpR {op : CmpOp} {r : R2} (ho : OpR X (compareOp op) r) (ha : PE X a ta) (hb : PE X b tb) (hm : behindInMarks op b = false) : PE X (.Compare a [op] [b] pos) (tOp r ta tb) := by
  intro pins s σ H Q I h
  exact wpAny_Compare1 (binT ha hb I h fun v u s2 x y H2 I2 rx ry q => ho pins s2 σ H2 x y v u Q I2 rx ry q) hm
def tTest (t : TE) : TT := fun σ H Q => t σ H fun x H' => ∃ k, x = .bl k ∧ Q k H'
theorem pt_cmpR {op : CmpOp} {r : R2} (ho : OpR X (compareOp op) r) (ha : PE X a ta) (hb : PE X b tb) (hm : behindInMarks op b = false) : PT X (.Compare a [op] [b] pos) (tTest (tOp r ta tb)) := by
  intro pins s σ H Q I h
  refine wpAny_isTrue_Compare1 (thn (ha pins s σ H _ I h) fun v s1 ⟨x, H1, I1, r1, q1⟩ => thn (hb pins s1 σ H1 _ I1 q1) fun u s2 ⟨y, H2, I2, r2, q2⟩ =>
    thn (ho pins s2 σ H2 x y v u _ I2 r1 r2 q2) fun c s3 ⟨z, H3, I3, r3, k, e, q3⟩ => ?_) hm
  subst e
  cases r3
  exact wpAny_truthy_bool ⟨H3, I3, q3⟩
theorem line63 : (sizeLine : Nat) < 2 ^ 63 := by rw [sizeLine_eq]; decide
theorem vals1 {x : V} {us : List Value} (r : Vals [x] us) : ∃ u, us = [u] ∧ RelV x u := by
  cases r with
  | cons r1 r2 => cases r2; exact ⟨_, rfl, r1⟩
end
end L2
namespace L2
open PySem PySem.Spec PyProof.Rows

structure ObjM (h : Heap) (x dx C : Addr) (mA : Str → Option Value) : Prop where
  obj : h.get? x = some (PySem.W.instObj C dx)
  ns : h.Ns1 dx mA
  ne : dx ≠ x

theorem lookIn_ns {h : Heap} {dx : Addr} {mA : Str → Option Value} (n : h.Ns1 dx mA) : ∃ od, h.get? dx = some od ∧ ∀ name, PySem.W.lookIn name od = some (mA name) := by
  obtain ⟨o, es, ep, ho, hd, hk, _, hm⟩ := n
  refine ⟨o, ho, fun name => ?_⟩
  have e := hm name
  unfold nsFind findBy at e
  rw [← Array.find?_toList] at e
  unfold PySem.W.lookIn
  rw [hd]
  dsimp only
  split
  · rename_i y q
    rw [q] at e
    exact congrArg some e
  · rename_i q
    rw [q] at e
    have a : es.toList.any (·.refKey) = false := by
      rw [List.any_eq_false]
      intro y hy
      obtain ⟨z, t, hkey⟩ := hk y (Array.mem_toList_iff.mp hy)
      simp [DictEntry.refKey, hkey]
    have a' : ¬ es.toList.any (·.refKey) = true := by rw [a]; exact Bool.false_ne_true
    rw [if_neg a']
    exact congrArg some e

theorem ObjM.look {h : Heap} {x dx C : Addr} {mA : Str → Option Value} (I : ObjM h x dx C mA) : ∃ od, PySem.W.InstAt h x (PySem.W.instObj C dx) C (some od) ∧ ∀ name, PySem.W.lookIn name od = some (mA name) :=
  let ⟨od, ho, hl⟩ := lookIn_ns I.ns
  ⟨od, ⟨I.obj, rfl, rfl, ho⟩, hl⟩

section
variable {prog : Program} {w : World} {A : Around} {E : Value → Shared → Prop} {s : Shared} {K : PySem.W.Frag} {x dx C f : Addr} {mA : Str → Option Value} {name : Str} {v : Value}

theorem get_map {expr : Bool} {Q : Value → Shared → Prop} (X : K.In s.heap) (I : ObjM s.heap x dx C mA) (hg : PySem.W.plainGet K C name = true) (hh : PySem.W.hasDictIn K C = true)
    (ha : PySem.W.findIn K (.ref C) name = some none) (hv : mA name = some v) (hv' : PySem.W.handedIn v = true) (h : Q v { s with toks := s.toks + 1 }) :
    wpAny (model prog w) A (getAttr (.ref x) name expr) Q E s := by
  obtain ⟨od, J, hl⟩ := I.look
  exact PySem.W.get_value X J (PySem.W.plainGet_of hg).1 (PySem.W.findObj_own hh ha rfl (by rw [hl, hv])) hv' h

theorem get_meth {pl : Sem Bool} {Q : Value × List Value → Shared → Prop} (X : K.In s.heap) (I : ObjM s.heap x dx C mA) (hg : PySem.W.plainGet K C name = true)
    (hf : PySem.W.findIn K (.ref C) name = some (some (.ref f))) (ht : PySem.W.isFn K (.ref f) = true) (hv : mA name = none) (h : Q (.ref f, [.ref x]) s) :
    wpAny (model prog w) A (getMethod (.ref x) name pl) Q E s := by
  obtain ⟨od, J, hl⟩ := I.look
  exact PySem.W.method_fn X J (PySem.W.plainGet_of hg).1 (PySem.W.plainGet_of hg).2 hf (beq_iff_eq.mp ht) (by show (PySem.W.lookIn name od).map (·.isSome) = some false; rw [hl, hv]; rfl) h

theorem set_map {ns : List Str} {Q : Unit → Shared → Prop} (X : K.In s.heap) (I : ObjM s.heap x dx C mA)
    (hs : PySem.W.findIn K (.ref C) "__setattr__" = some (some (.builtin "object.__setattr__"))) (hp : PySem.W.plainOver K C = true) (ht : PySem.W.takerIn K C name = some none) (hh : PySem.W.hasDictIn K C = true)
    (hw : PySem.Within mA ns) (hsz : ns.length ≤ sizeLine)
    (h : ∀ h', ObjM h' x dx C (fun y => if y = name then some v else mA y) → Heap.SameBut dx s.heap h' → Q () { s with heap := h', toks := s.toks + 2 }) :
    wpAny (model prog w) A (setAttr (.ref x) name v) Q E s := by
  obtain ⟨od, J, hl⟩ := I.look
  refine PySem.W.set_plain X J hs (PySem.W.osa_open (s := { s with toks := s.toks + 1 }) (r := none) X J hp ht fun b => ?_)
  obtain ⟨cd, hc, hd'⟩ := PySem.W.any_some hh
  have hx : s.heap.get? x = some ⟨.ref C, some dx, .plain, #[]⟩ := I.obj
  refine wpAny_bind (wpAny_pure (wpAny_bind (wpAny_bind (wpAny_loadPart hx (wpAny_bind (PySem.W.Looks.here (s := { s with toks := s.toks + 1 }) (PySem.W.looks_clsIn X hc) ?_))))))
  rw [hd']
  refine wpAny_pure (a := some dx) (wpAny_bind (wpAny_pure (wpAny_bind ?_)))
  refine wpAny_nsSet1 (s := { s with toks := s.toks + 1 }) I.ns fun h' hn2 hs2 => ?_
  obtain ⟨oD, esD, epD, hoD, hdD, hcD⟩ := hn2.count (PySem.Within.cons name v hw)
  refine wpAny_bind (wpAny_lookBehind hoD (by rw [hdD]; exact pastItsLine_dict (Nat.le_trans hcD (by rw [List.length_cons]; omega))) ?_)
  exact wpAny_pure (h _ ⟨(hs2.2 _ (Ne.symm I.ne)).trans I.obj, hn2, I.ne⟩ hs2)

theorem make_map {R : Result → Shared → Prop} {vs : List Value} {kw : List (Str × Value)} (X : K.In s.heap) (hm : PySem.W.makesIn K C = true)
    (hi : PySem.W.findIn K (.ref C) "__init__" = some (some (.ref f))) (hf : PySem.W.typeIn K (.ref f) = some (.type "function"))
    (h : codeAny (model prog w) (A.under (.builtin "type.__call__" ⟨.ref C :: vs, kw⟩)) (.call (.ref f) ⟨.ref (s.heap.objs.size + 1) :: vs, kw⟩) (PySem.W.InitBack (s.heap.objs.size + 1) R)
      { s with heap := (s.heap.push PySem.W.emptyDict).push (PySem.W.instObj C s.heap.objs.size) }) :
    codeAny (model prog w) A (.call (.ref C) ⟨vs, kw⟩) R s := by
  obtain ⟨hh, g, d, t, os⟩ := s
  exact PySem.W.make_core (PySem.W.makes_of X hm) (PySem.W.looks_findIn X hi) (fun self => PySem.W.bind_fn X self hf) (.inl rfl) h
end
def putF (f : Str) (v : V) : List (Str × V) → List (Str × V)
  | [] => [(f, v)]
  | (g, x) :: r => if g = f then (g, v) :: r else (g, x) :: putF f v r
theorem lookup_putF (f g : Str) (v : V) : ∀ fs : List (Str × V), (putF f v fs).lookup g = if g = f then some v else fs.lookup g
  | [] => by
    show List.lookup g [(f, v)] = _
    by_cases h : g = f
    · have hb : (g == f) = true := beq_iff_eq.mpr h
      simp only [List.lookup, hb, if_pos h]
    · have hb : (g == f) = false := beq_eq_false_iff_ne.mpr h
      simp only [List.lookup, hb, if_neg h]
  | (k, x) :: r => by
    have ih := lookup_putF f g v r
    rw [show putF f v ((k, x) :: r) = (if k = f then (k, v) :: r else (k, x) :: putF f v r) from rfl]
    by_cases hk : k = f
    · rw [if_pos hk]
      by_cases h : g = k
      · have hb : (g == k) = true := beq_iff_eq.mpr h
        simp only [List.lookup, hb, if_pos (h.trans hk)]
      · have hb : (g == k) = false := beq_eq_false_iff_ne.mpr h
        simp only [List.lookup, hb, if_neg (fun e : g = f => h (e.trans hk.symm))]
    · rw [if_neg hk]
      by_cases h : g = k
      · have hb : (g == k) = true := beq_iff_eq.mpr h
        simp only [List.lookup, hb, if_neg (fun e : g = f => hk (h.symm.trans e))]
      · have hb : (g == k) = false := beq_eq_false_iff_ne.mpr h
        simp only [List.lookup, hb]
        exact ih
theorem keys_putF (f : Str) (v : V) : ∀ fs : List (Str × V), f ∈ (putF f v fs).map (·.1) ∧ ∀ g, g ∈ fs.map (·.1) → g ∈ (putF f v fs).map (·.1)
  | [] => ⟨by simp [putF], fun g h => by simp at h⟩
  | (k, x) :: r => by
    obtain ⟨i1, i2⟩ := keys_putF f v r
    rw [show putF f v ((k, x) :: r) = (if k = f then (k, v) :: r else (k, x) :: putF f v r) from rfl]
    by_cases hk : k = f
    · rw [if_pos hk]
      subst hk
      exact ⟨by simp, fun g h => by simpa using h⟩
    · rw [if_neg hk]
      refine ⟨?_, fun g h => ?_⟩
      · rw [List.map_cons]
        exact List.mem_cons_of_mem _ i1
      · rw [List.map_cons] at h ⊢
        rcases List.mem_cons.mp h with e | e
        · exact List.mem_cons.mpr (.inl e)
        · exact List.mem_cons_of_mem _ (i2 g e)
theorem length_putF (f : Str) (v : V) : ∀ fs : List (Str × V), (putF f v fs).length ≤ fs.length + 1
  | [] => by simp [putF]
  | (k, x) :: r => by
    have ih := length_putF f v r
    rw [show putF f v ((k, x) :: r) = (if k = f then (k, v) :: r else (k, x) :: putF f v r) from rfl]
    by_cases hk : k = f
    · rw [if_pos hk, List.length_cons, List.length_cons]; omega
    · rw [if_neg hk, List.length_cons, List.length_cons]; omega

theorem RelO.some_of {v : V} {o : Option Value} (r : RelO (some v) o) : ∃ u, o = some u ∧ RelV v u := by
  cases o with
  | none => exact (show False from r).elim
  | some u => exact ⟨u, rfl, r⟩
theorem RelO.none_of {o : Option Value} (r : RelO none o) : o = none := by
  cases o with
  | none => rfl
  | some u => exact (show False from r).elim
theorem handed_of {v : V} {u : Value} (r : RelV v u) : PySem.W.handedIn u = true := by
  cases v with
  | non => cases (show u = Value.none from r); rfl
  | bl b => cases (show u = Value.bool b from r); rfl
  | int i => obtain ⟨t, e⟩ := (show ∃ t, u = Value.int i t from r); cases e; rfl
  | str x => obtain ⟨t, e⟩ := (show ∃ t, u = Value.str x t from r); cases e; rfl
  | byt b => obtain ⟨t, e⟩ := (show ∃ t, u = Value.bytes b t from r); cases e; rfl
  | flt b => obtain ⟨t, e⟩ := (show ∃ t, u = Value.float b t from r); cases e; rfl
  | ref a => cases (show u = Value.ref a from r); rfl
  | ty n => cases (show u = Value.type n from r); rfl

section
variable {P : Program} {w : World} {H H' : Hp} {h h' : Heap} {a C dx : Addr} {fs fs' : List (Str × V)}
theorem ins_get (hok : HOk P w H h) (e : H a = some (.ins C dx fs)) : ∃ mA, ObjM h a dx C mA ∧ (∀ f, RelO (fs.lookup f) (mA f)) ∧ PySem.Within mA (fs.map (·.1)) ∧ fs.length ≤ 1000 ∧ H dx = some (.own a) := by
  obtain ⟨d, z, ne, ob, mA, n, r, q⟩ := (show ObjOk P w H h a (.ins C dx fs) from hok a _ e)
  exact ⟨mA, ⟨ob, n, ne⟩, r, q, z, d⟩
end
structure Cls (K : PySem.W.Frag) (C : Addr) : Prop where
  pg : PySem.W.plainGet K C Str.empty = true
  hd : PySem.W.hasDictIn K C = true
  po : PySem.W.plainOver K C = true
  sa : PySem.W.findIn K (.ref C) "__setattr__" = some (some (.builtin "object.__setattr__"))
theorem Cls.get {K : PySem.W.Frag} {C : Addr} (c : Cls K C) (f : Str) : PySem.W.plainGet K C f = true := c.pg
def NoAttr (K : PySem.W.Frag) (C : Addr) (f : Str) : Prop := PySem.W.findIn K (.ref C) f = some none
theorem NoAttr.taker {K : PySem.W.Frag} {C : Addr} {f : Str} (n : NoAttr K C f) : PySem.W.takerIn K C f = some none := by
  unfold PySem.W.takerIn
  rw [show PySem.W.findIn K (.ref C) f = some none from n]
  rfl
structure Meth (K : PySem.W.Frag) (C : Addr) (m : Str) (f : Addr) : Prop where
  at_ : PySem.W.findIn K (.ref C) m = some (some (.ref f))
  fn : PySem.W.isFn K (.ref f) = true
  kp : PySem.W.keepIn K (.ref f) = true

section
variable {X : Cx} {pins : List (Addr × Obj)} {σ : St} {H : Hp} {s : Shared} {a C dx : Addr} {fs : List (Str × V)} {f : Str} {v : V} {A : Around} {E : Value → Shared → Prop}

theorem getattr_ok {b : Bool} {Q : Value → Shared → Prop} (I : Inv X pins σ H s) (e : H a = some (.ins C dx fs)) (c : Cls X.K C) (n : NoAttr X.K C f) (l : fs.lookup f = some v)
    (h : ∀ u s', Inv X pins σ H s' → RelV v u → Q u s') : wpAny (model X.prog X.w) A (getAttr (.ref a) f b) Q E s := by
  obtain ⟨mA, O, r, _, _, _⟩ := ins_get I.hok e
  obtain ⟨u, hu, ru⟩ := RelO.some_of (v := v) (o := mA f) (by rw [← l]; exact r f)
  exact get_map I.kIn O (c.get f) c.hd n hu (handed_of ru) (h u _ (I.tok _) ru)

theorem getmeth_ok {m : Str} {g : Addr} {pl : Sem Bool} {Q : Value × List Value → Shared → Prop} (I : Inv X pins σ H s) (e : H a = some (.ins C dx fs)) (c : Cls X.K C) (k : Meth X.K C m g) (l : fs.lookup m = none)
    (h : Q (.ref g, [.ref a]) s) : wpAny (model X.prog X.w) A (getMethod (.ref a) m pl) Q E s := by
  obtain ⟨mA, O, r, _, _, _⟩ := ins_get I.hok e
  have hn : mA m = none := RelO.none_of (by rw [← l]; exact r m)
  exact get_meth I.kIn O (c.get m) k.at_ k.fn hn h

theorem setattr_ok {y : V} {u : Value} {Q : Unit → Shared → Prop} (I : Inv X pins σ H s) (e : H a = some (.ins C dx fs)) (c : Cls X.K C) (n : NoAttr X.K C f) (hl : fs.length < 1000) (ry : RelV y u)
    (h : ∀ s', Inv X pins σ (upd H a (.ins C dx (putF f y fs))) s' → Q () s') : wpAny (model X.prog X.w) A (setAttr (.ref a) f u) Q E s := by
  obtain ⟨mA, O, r, wi, _, ho⟩ := ins_get I.hok e
  have hz : (fs.map (·.1)).length ≤ sizeLine := by rw [List.length_map, sizeLine_eq]; omega
  refine set_map I.kIn O c.sa c.po n.taker c.hd wi hz fun h' O' sb => h _ ?_
  have hd : ∃ o, h'.get? dx = some o := let ⟨o, _, _, e', _⟩ := O'.ns; ⟨o, e'⟩
  refine I.write (x := a) (e := dx) (by rw [e]; exact True.intro) (.inr ho) (fun b q hb z => (sb.2 b hb).trans z) hd ?_
  refine ⟨by rw [upd_ne O.ne]; exact ho, ?_, O.ne, O'.obj, _, O'.ns, fun g => ?_, fun g hg => ?_⟩
  · have := length_putF f y fs; omega
  · show RelO ((putF f y fs).lookup g) (if g = f then some u else mA g)
    rw [lookup_putF]
    by_cases q : g = f
    · rw [if_pos q, if_pos q]; exact ry
    · rw [if_neg q, if_neg q]; exact r g
  · by_cases q : g = f
    · rw [q]; exact (keys_putF f y fs).1
    · refine (keys_putF f y fs).2 g (wi g fun z => hg ?_)
      show (if g = f then some u else mA g) = none
      rw [if_neg q]; exact z

theorem Inv.made (I : Inv X pins σ H s) : Inv X pins σ (upd (upd H s.heap.objs.size (.own (s.heap.objs.size + 1))) (s.heap.objs.size + 1) (.ins C s.heap.objs.size []))
    { s with heap := (s.heap.push PySem.W.emptyDict).push (PySem.W.instObj C s.heap.objs.size) } := by
  have e1 : (s.heap.push PySem.W.emptyDict).get? s.heap.objs.size = some PySem.W.emptyDict := Heap.get?_push_size s.heap rfl
  have e2 : ((s.heap.push PySem.W.emptyDict).push (PySem.W.instObj C s.heap.objs.size)).get? (s.heap.objs.size + 1) = some (PySem.W.instObj C s.heap.objs.size) := by
    have := Heap.get?_push_size (s.heap.push PySem.W.emptyDict) (o := PySem.W.instObj C s.heap.objs.size) rfl
    rwa [Heap.size_push] at this
  have e3 : (s.heap.push PySem.W.emptyDict).Ns s.heap.objs.size (fun _ => none) := ⟨PySem.W.emptyDict, #[], _, e1, rfl, (fun e he => absurd he (by simp)), fun _ => rfl⟩
  have I1 := I.laid (a := s.heap.objs.size) (o := .own (s.heap.objs.size + 1)) (h' := s.heap.push PySem.W.emptyDict) (t' := s.toks) (fun b u q => Heap.get?_push_of_some _ q) (Nat.le_refl _) ⟨_, e1⟩
  refine I1.laid (a := s.heap.objs.size + 1) (o := .ins C s.heap.objs.size []) (t' := s.toks) (fun b u q => Heap.get?_push_of_some _ q) (Nat.le_of_eq (Heap.size_push _ _)) ?_
  have ne : s.heap.objs.size ≠ s.heap.objs.size + 1 := Nat.ne_of_lt (Nat.lt_succ_self _)
  refine ⟨by rw [upd_ne ne, upd_same], Nat.zero_le _, ne, e2, fun _ => none, (Heap.Ns1.of_empty e3).at fun o q => Heap.get?_push_of_some _ q, fun _ => True.intro, fun y hy => absurd rfl hy⟩

theorem attr_of {prog : Program} {w : World} {env : Env} {e : Expr} {f : Str} {pos : Pos} {s : Shared} {Q : Value → Shared → Prop} (hb : attributeBase e f env (eval e env) = eval e env)
    (h : wpAny (model prog w) A (eval e env) (fun o s₁ => wpAny (model prog w) A (getAttr o f true) Q E s₁) E s) : wpAny (model prog w) A (eval (.Attribute e f pos) env) Q E s :=
  Attribute_any_ h (by rw [arm_eval_Attribute, hb])
end
def tFld (K : PySem.W.Frag) (ta : TE) (f : Str) : TE := fun σ H Q => ta σ H fun x H1 => ∃ a C dx fs v, x = .ref a ∧ H1 a = some (.ins C dx fs) ∧ Cls K C ∧ NoAttr K C f ∧ fs.lookup f = some v ∧ Q v H1
def sFld (K : PySem.W.Frag) (ta tv : TE) (f : Str) : TS := fun D σ H => tv σ H fun y H1 => ta σ H1 fun x H2 => ∃ a C dx fs, x = .ref a ∧ H2 a = some (.ins C dx fs) ∧ Cls K C ∧ NoAttr K C f ∧ fs.length < 1000 ∧
  D.nx σ (upd H2 a (.ins C dx (putF f y fs)))
section
variable {X : Cx} {o e value : Expr} {f : Str} {pos pos' tpos : Pos} {ta tv : TE}
theorem pe_fld (he : PE X e ta) (hb : attributeBase e f X.env (eval e X.env) = eval e X.env) : PE X (.Attribute e f pos) (tFld X.K ta f) := by
  intro pins s σ H Q I h
  refine attr_of hb (thn (he pins s σ H _ I h) fun u s1 ⟨x, H1, I1, rx, a, C, dx, fs, v, ex, ea, c, n, l, q⟩ => ?_)
  subst ex
  obtain rfl : u = Value.ref a := rx
  exact getattr_ok I1 ea c n l fun u' s2 I2 ru => ⟨v, H1, I2, ru, q⟩
theorem ps_fld (ha : PE X o ta) (hv : PE X value tv) (hs : swapsWith value (some (.Attribute o f pos')) pos.line X.env = pure false) : PS X (.Assign [.Attribute o f pos'] value pos) (sFld X.K ta tv f) := by
  intro pins s σ H D I h
  refine plainObj_wpAny_Assign_Attribute (thn (hv pins s σ H _ I h) fun u s1 ⟨y, H1, I1, ry, q⟩ => thn (ha pins s1 σ H1 _ I1 q) fun ov s2 ⟨x, H2, I2, rx, a, C, dx, fs, ex, ea, c, n, l, q2⟩ => ?_) hs
  subst ex
  obtain rfl : ov = Value.ref a := rx
  exact setattr_ok I2 ea c n l ry fun s3 I3 => ⟨σ, _, I3, q2⟩
end
end L2
namespace L2
open PySem PySem.Spec PyProof.Rows

structure Room (k : Nat) (A : Around) : Prop where
  hd : A.handled = none
  dp : A.depth + 3 * k + 5 < recursionLimit
  un : A.units + 16 * k + 200 < cLine
theorem Room.mono {j k : Nat} {A : Around} (r : Room k A) (h : j ≤ k) : Room j A := ⟨r.hd, by have := r.dp; omega, by have := r.un; omega⟩
theorem Room.deeper {k : Nat} {A : Around} (r : Room (k + 1) A) (env : Env) : Room k (A.deeper env) :=
  ⟨r.hd, by have := r.dp; show A.depth + 1 + 3 * k + 5 < _; omega, by have := r.un; show A.units + 3 + 16 * k + 200 < _; omega⟩
theorem make_depth {A : Around} {C : Addr} {us : List Value} {kw : List (Str × Value)} : (A.under (.builtin "type.__call__" ⟨.ref C :: us, kw⟩)).depth = A.depth + 1 := by
  first | rfl | simp [Around.under, Code.weight, Code.isCreation, Code.isGuard, Code.isCaller, Code.frames, Code.isFrame, guardIds]
theorem make_units {A : Around} {C : Addr} {us : List Value} {kw : List (Str × Value)} : (A.under (.builtin "type.__call__" ⟨.ref C :: us, kw⟩)).units = A.units + 1 := by
  first | rfl | simp [Around.under, Code.cUnits, Code.frames, Code.isFrame]
theorem Room.make {k : Nat} {A : Around} (r : Room (k + 1) A) (C : Addr) (us : List Value) (kw : List (Str × Value)) : Room k (A.under (.builtin "type.__call__" ⟨.ref C :: us, kw⟩)) :=
  ⟨r.hd, by have := r.dp; rw [make_depth]; omega, by have := r.un; rw [make_units]; omega⟩
theorem Room.depth {k : Nat} {A : Around} (r : Room k A) : A.depth < recursionLimit := by have := r.dp; omega
def tNil : TA := fun _ H Q => Q [] H
def tCons (ta : TE) (tr : TA) : TA := fun σ H Q => ta σ H fun x H1 => tr σ H1 fun xs H2 => Q (x :: xs) H2
section
variable {X : Cx} {e : Expr} {es : List Expr} {te : TE} {t : TA} {pos : Pos}
theorem pa_nil : PA X [] tNil := fun _ _ _ _ H Q I h => Calls.spliced_nil ⟨[], H, I, .nil, h⟩
theorem pa_cons (ha : PE X e te) (hr : PA X es t) (hs : starEach (e :: es) X.env = (false, eval e X.env) :: starEach es X.env := by rfl) : PA X (e :: es) (tCons te t) := by
  intro pos pins s σ H Q I h
  rw [hs]
  show wpAny _ _ (spliced ((false, eval e X.env) :: backTo pos (starEach es X.env))) _ _ s
  refine Calls.spliced_cons (thn (ha pins s σ H _ I h) fun u s1 ⟨x, H1, I1, r1, q1⟩ => ?_)
  exact thn (hr pos pins s1 σ H1 _ I1 q1) fun us s2 ⟨xs, H2, I2, r2, q2⟩ => ⟨x :: xs, H2, I2, .cons r1 r2, q2⟩

def tTup (t : TA) : TE := fun σ H Q => t σ H fun xs H1 => xs.length ≤ sizeLine ∧ ∀ p, H1 p = none → Q (.ref p) (upd H1 p (.tup xs))
def tLst (t : TA) : TE := fun σ H Q => t σ H fun xs H1 => xs.length ≤ sizeLine ∧ ∀ p, H1 p = none → Q (.ref p) (upd H1 p (.lst xs))
theorem pe_tup {x1} (h : PA X es t) : PE X (.Tuple es x1 pos) (tTup t) := by
  intro pins s σ H Q I hq
  refine wpAny_Tuple_spliced (thn (h pos pins s σ H _ I hq) fun us s1 ⟨xs, H1, I1, r, z, q⟩ => ⟨by rw [← r.length]; exact z, ?_⟩)
  have hf : H1 s1.heap.objs.size = none := I1.hok.fresh (Nat.le_refl _)
  refine ⟨.ref s1.heap.objs.size, upd H1 s1.heap.objs.size (.tup xs), I1.laid (t' := s1.toks) (fun b u e => Heap.get?_push_of_some _ e) (Nat.le_refl _) ?_, rfl, q _ hf⟩
  exact ⟨z, us, r, ⟨_, Heap.get?_push_size _ rfl, rfl, _, rfl⟩⟩
theorem pe_lst (h : PA X es t) : PE X (.List es pos) (tLst t) := by
  intro pins s σ H Q I hq
  refine wpAny_List_spliced (thn (h pos pins s σ H _ I hq) fun us s1 ⟨xs, H1, I1, r, z, q⟩ => ⟨by rw [← r.length]; exact z, ?_⟩)
  have hf : H1 s1.heap.objs.size = none := I1.hok.fresh (Nat.le_refl _)
  refine ⟨.ref s1.heap.objs.size, upd H1 s1.heap.objs.size (.lst xs), I1.laid (t' := s1.toks) (fun b u e => Heap.get?_push_of_some _ e) (Nat.le_refl _) ?_, rfl, q _ hf⟩
  exact ⟨z, us, 0, r, Heap.get?_push_size _ rfl⟩
end
abbrev Sp := List V → Hp → VK → XK → Prop
abbrev CXT := List Env → Hp → Shared → XK → Value → Shared → Prop

structure Env0 (P : Program) (w : World) (K : PySem.W.Frag) (mg : Str → Option Value) (base : Heap) (A : Around) (outer : List Env) (s : Shared) (H : Hp) : Prop where
  frames : A.frames = some outer
  mod : Mod K mg base
  bs : ∀ b o, base.get? b = some o → s.heap.get? b = some o ∧ H b = none
  bsz : base.objs.size ≤ s.heap.objs.size
  funs : s.heap.FunFrames base outer
  frf : ∀ b ∈ frs outer, H b = none
  hok : HOk P w H s.heap
  bare : AllBare s.gens
def CE (outer : List Env) (P : Program) (w : World) (H : Hp) (s : Shared) (Q : VK) (u : Value) (s' : Shared) : Prop :=
  ∃ v H', s'.os = s.os ∧ AllBare s'.gens ∧ Un (frs outer) [] H H' s.heap s'.heap ∧ HOk P w H' s'.heap ∧ RelV v u ∧ Q v H'
def CR (CX : CXT) (outer : List Env) (P : Program) (w : World) (H : Hp) (s : Shared) (Q : VK) (E : XK) (r : Result) (s' : Shared) : Prop :=
  match r with
  | .ok (.ret u) => CE outer P w H s Q u s'
  | .ok _ => False
  | .error e => CX outer H s E e s'
structure FnOk (P : Program) (w : World) (K : PySem.W.Frag) (mg : Str → Option Value) (base : Heap) (CX : CXT) (k : Nat) (f : Addr) (fd : FuncData) (ps : List Str) (sp : Sp) : Prop where
  len : ∀ vs H Q E, sp vs H Q E → vs.length = ps.length
  run : ∀ (A : Around) (outer : List Env) (s : Shared) (H : Hp) (args : Args) (us : List Value) (vs : List V) (Q : VK) (E : XK), Room k A → Env0 P w K mg base A outer s H → BindsTo s fd args (ps.zip us) → Vals vs us → sp vs H Q E →
    codeAny (model P w) A (.call (.ref f) args) (CR CX outer P w H s Q E) s
theorem Env0.make {P : Program} {w : World} {K : PySem.W.Frag} {mg : Str → Option Value} {base : Heap} {A : Around} {outer : List Env} {s : Shared} {H : Hp} (e : Env0 P w K mg base A outer s H) (C : Addr) (us : List Value) (kw : List (Str × Value)) :
    Env0 P w K mg base (A.under (.builtin "type.__call__" ⟨.ref C :: us, kw⟩)) outer s H := ⟨by first | exact e.frames | (simpa [Around.under, Code.envs, Code.isFrame, pushEnvs] using e.frames), e.mod, e.bs, e.bsz, e.funs, e.frf, e.hok, e.bare⟩
section
variable {X : Cx} {pins : List (Addr × Obj)} {σ : St} {H : Hp} {s s' : Shared}
theorem Inv.env0 (I : Inv X pins σ H s) : Env0 X.prog X.w X.K X.mg X.base X.A X.stack s H :=
  ⟨I.ok.frames, I.ok.mod, I.bs, Nat.le_trans I.ok.bsz I.sz, I.stack, I.stkFree, I.hok, I.bare⟩
theorem Inv.after {Q : VK} {u : Value} (I : Inv X pins σ H s) (h : CE X.stack X.prog X.w H s Q u s') : EP X pins σ Q u s' := by
  obtain ⟨v, H', os, bare, un, hok, r, q⟩ := h
  obtain ⟨hh, g, d, t, os'⟩ := s'
  obtain rfl : os' = s.os := os
  exact ⟨v, H', I.call (h' := hh) (g' := g) (d' := d) (t' := t) (ch := []) un hok bare (fun b z => absurd z (by simp)), r, q⟩
end
def tCall (sp : Sp) (dvs : List V) (E : XK) (t : TA) : TE := fun σ H Q => t σ H fun vs H1 => sp (vs ++ dvs) H1 Q E
def tMeth (C : Addr) (m : Str) (sp : Sp) (dvs : List V) (E : XK) (ta : TE) (t : TA) : TE := fun σ H Q => ta σ H fun x H1 => ∃ a dx fs, x = .ref a ∧ H1 a = some (.ins C dx fs) ∧ fs.lookup m = none ∧
  t σ H1 fun vs H2 => sp (x :: (vs ++ dvs)) H2 Q E
def tMake (C : Addr) (sp : Sp) (dvs : List V) (E : XK) (t : TA) : TE := fun σ H Q => t σ H fun vs H1 => ∀ x dx, H1 x = none → H1 dx = none → dx ≠ x →
  sp (.ref x :: (vs ++ dvs)) (upd (upd H1 dx (.own x)) x (.ins C dx [])) (fun v H2 => v = .non ∧ Q (.ref x) H2) E

def Binds (K : PySem.W.Frag) (fd : FuncData) (ps : List Str) (ds : List Value) : Prop :=
  ∀ (s : Shared) (us : List Value), K.In s.heap → (us ++ ds).length = ps.length → BindsTo s fd ⟨us, []⟩ (ps.zip (us ++ ds))
theorem Binds.all {K : PySem.W.Frag} {fd : FuncData} {ps : List Str} (h : ∀ us : List Value, us.length = ps.length → bindArgs fd ⟨us, []⟩ = pure (ps.zip us)) : Binds K fd ps [] := fun s us _ hl => by
  rw [List.append_nil] at hl ⊢
  exact .of_eq (h us hl)

def Passes (CX : CXT) (X : Cx) (E : XK) : Prop := ∀ (pins : List (Addr × Obj)) (σ : St) (H : Hp) (s : Shared) (e : Value) (s' : Shared), Inv X pins σ H s → CX X.stack H s E e s' → X.xe e s'

section
variable {X : Cx} {CX : CXT} {k : Nat} {f C : Addr} {fd : FuncData} {ps : List Str} {sp : Sp} {dvs : List V} {ds : List Value} {E : XK} {x m : Str} {p pos apos : Pos} {e o : Expr} {es : List Expr} {ta : TE} {t : TA}

theorem run_fn {pins : List (Addr × Obj)} {σ : St} {H : Hp} {s : Shared} {Q : VK} {us : List Value} {vs : List V} (F : FnOk X.prog X.w X.K X.mg X.base CX k f fd ps sp) (hr : Room k X.A) (hb : Binds X.K fd ps ds) (hd : Vals dvs ds) (hx : Passes CX X E)
    (I : Inv X pins σ H s) (r : Vals vs us) (h : sp (vs ++ dvs) H Q E) : wpAny (model X.prog X.w) X.A (call (.ref f) us) (EP X pins σ Q) X.xe s := by
  have r2 : Vals (vs ++ dvs) (us ++ ds) := r.append hd
  have hl : (us ++ ds).length = ps.length := by rw [← r2.length]; exact F.len _ _ _ _ h
  refine wpAny_call (codeAny_mono (F.run X.A X.stack s H ⟨us, []⟩ (us ++ ds) (vs ++ dvs) Q E hr I.env0 (hb s us I.kIn hl) r2 h) fun r s' hq => ?_)
  cases r with
  | error e => exact hx pins σ H s e s' I hq
  | ok fl =>
    cases fl with
    | ret u => exact I.after hq
    | next => exact False.elim hq
    | brk => exact False.elim hq
    | cont => exact False.elim hq

theorem pe_call (F : FnOk X.prog X.w X.K X.mg X.base CX k f fd ps sp) (hr : Room k X.A) (hg : Gl X x) (hm : X.mg x = some (.ref f)) (hk : PySem.W.keepIn X.K (.ref f) = true) (hb : Binds X.K fd ps ds) (hd : Vals dvs ds) (hx : Passes CX X E)
    (ha : PA X (e :: es) t) (hdb : (x == ("__debug__" : Str)) = false := by decide) (he : starEach (e :: es) X.env = (false, eval e X.env) :: starEach es X.env := by rfl) (hpl : (backTo pos (starEach es X.env)).any (·.1) = false := by rfl) :
    PE X (.Call (.Name x p) (e :: es) [] pos) (tCall sp dvs E t) := by
  intro pins s σ H Q I h
  refine wpAny_Call_Name_kw (ld_glob I hg hm ?_ hdb)
  refine PySem.W.callWith_K (h₀ := X.base) I.ok.mod.kin hk (thn (ha pos pins s σ H _ I h) fun us s1 ⟨vs, H1, I1, r, q⟩ => ⟨I1.kIn, ?_⟩) he hpl
  exact run_fn F hr hb hd hx I1 r q
theorem pe_meth {pl : Sem Bool} (he : PE X o ta) (c : Cls X.K C) (hm : Meth X.K C m f) (F : FnOk X.prog X.w X.K X.mg X.base CX k f fd ps sp) (hr : Room k X.A) (hb : Binds X.K fd ps ds) (hd : Vals dvs ds) (hx : Passes CX X E) (ha : PA X (e :: es) t)
    (hst : starEach (e :: es) X.env = (false, eval e X.env) :: starEach es X.env := by rfl) (hpl : (backTo pos (starEach es X.env)).any (·.1) = false := by rfl)
    (ht : eval (.Call (.Attribute o m apos) (e :: es) [] pos) X.env = (do
      let ov ← eval o X.env
      standAt apos.atName
      let (f, first) ← holding [ov] (getMethod ov m pl)
      callWith pos f first (backTo pos (starEach (e :: es) X.env)) (backToKw pos (keywordEach [] X.env))) := by rfl) :
    PE X (.Call (.Attribute o m apos) (e :: es) [] pos) (tMeth C m sp dvs E ta t) := by
  intro pins s σ H Q I h
  refine PySem.W.methodCall_KW (pl := pl) (thn (he pins s σ H _ I h) fun u s1 ⟨x, H1, I1, rx, a, dx, fs, ex, ea, l, q⟩ => ?_) ht
  subst ex
  obtain rfl : u = Value.ref a := rx
  refine getmeth_ok I1 ea c hm l ?_
  refine PySem.W.callWith_K (first := [.ref a]) (h₀ := X.base) I.ok.mod.kin hm.kp (thn (ha pos pins s1 σ H1 _ I1 q) fun us s2 ⟨vs, H2, I2, r, q2⟩ => ⟨I2.kIn, ?_⟩) hst hpl
  exact run_fn (us := .ref a :: us) (vs := .ref a :: vs) F hr hb hd hx I2 (.cons rfl r) q2
theorem pe_meth0 {pl : Sem Bool} (he : PE X o ta) (c : Cls X.K C) (hm : Meth X.K C m f) (F : FnOk X.prog X.w X.K X.mg X.base CX k f fd ps sp) (hr : Room k X.A) (hb : Binds X.K fd ps ds) (hd : Vals dvs ds) (hx : Passes CX X E)
    (ht : eval (.Call (.Attribute o m apos) [] [] pos) X.env = (do
      let ov ← eval o X.env
      standAt apos.atName
      let (f, first) ← holding [ov] (getMethod ov m pl)
      callWith pos f first (backTo pos (starEach [] X.env)) (backToKw pos (keywordEach [] X.env))) := by rfl) :
    PE X (.Call (.Attribute o m apos) [] [] pos) (tMeth C m sp dvs E ta tNil) := by
  intro pins s σ H Q I h
  refine PySem.W.methodCall_KW (pl := pl) (thn (he pins s σ H _ I h) fun u s1 ⟨x, H1, I1, rx, a, dx, fs, ex, ea, l, q⟩ => ?_) ht
  subst ex
  obtain rfl : u = Value.ref a := rx
  refine getmeth_ok I1 ea c hm l ?_
  exact PySem.W.callWith_K0 (first := [.ref a]) I1.kIn hm.kp (run_fn (us := [.ref a]) (vs := [.ref a]) F hr hb hd hx I1 (.cons rfl .nil) q)

structure Mk (K : PySem.W.Frag) (C f : Addr) : Prop where
  makes : PySem.W.makesIn K C = true
  init : PySem.W.findIn K (.ref C) "__init__" = some (some (.ref f))
  fn : PySem.W.isFn K (.ref f) = true
  kp : PySem.W.keepIn K (.ref C) = true

theorem run_make {pins : List (Addr × Obj)} {σ : St} {H : Hp} {s : Shared} {Q : VK} {us : List Value} {vs : List V} (M : Mk X.K C f) (F : FnOk X.prog X.w X.K X.mg X.base CX k f fd ps sp) (hr : Room (k + 1) X.A) (hb : Binds X.K fd ps ds) (hd : Vals dvs ds)
    (hx : Passes CX X E) (I : Inv X pins σ H s) (r : Vals vs us)
    (h : ∀ x dx, H x = none → H dx = none → dx ≠ x → sp (.ref x :: (vs ++ dvs)) (upd (upd H dx (.own x)) x (.ins C dx [])) (fun v H2 => v = .non ∧ Q (.ref x) H2) E) :
    wpAny (model X.prog X.w) X.A (call (.ref C) us) (EP X pins σ Q) X.xe s := by
  have hq := h (s.heap.objs.size + 1) s.heap.objs.size (I.hok.fresh (Nat.le_succ _)) (I.hok.fresh (Nat.le_refl _)) (Nat.ne_of_lt (Nat.lt_succ_self _))
  have I2 := Inv.made (C := C) I
  have r2 : Vals (V.ref (s.heap.objs.size + 1) :: (vs ++ dvs)) (Value.ref (s.heap.objs.size + 1) :: (us ++ ds)) := .cons rfl (r.append hd)
  have hl : (Value.ref (s.heap.objs.size + 1) :: us ++ ds).length = ps.length := by
    have e := r2.length
    rw [F.len _ _ _ _ hq] at e
    exact e.symm
  refine wpAny_call (make_map (f := f) I.kIn M.makes M.init (beq_iff_eq.mp M.fn) (codeAny_mono (F.run _ X.stack _ _ ⟨Value.ref (s.heap.objs.size + 1) :: us, []⟩ (Value.ref (s.heap.objs.size + 1) :: (us ++ ds)) _ _ E (hr.make C us [])
    (I2.env0.make C us []) (hb _ (Value.ref (s.heap.objs.size + 1) :: us) I2.kIn hl) r2 hq) fun r s' hq' => ?_))
  cases r with
  | error e => exact hx pins σ _ _ e s' I2 hq'
  | ok fl =>
    cases fl with
    | ret u =>
      obtain ⟨v, H', I3, rv, ev, q3⟩ := I2.after hq'
      subst ev
      exact ⟨rv, ⟨V.ref (s.heap.objs.size + 1), H', I3, rfl, q3⟩⟩
    | next => exact False.elim hq'
    | brk => exact False.elim hq'
    | cont => exact False.elim hq'
theorem pe_make0 (M : Mk X.K C f) (F : FnOk X.prog X.w X.K X.mg X.base CX k f fd ps sp) (hr : Room (k + 1) X.A) (hg : Gl X x) (hm : X.mg x = some (.ref C)) (hb : Binds X.K fd ps ds) (hd : Vals dvs ds) (hx : Passes CX X E)
    (hdb : (x == ("__debug__" : Str)) = false := by decide) : PE X (.Call (.Name x p) [] [] pos) (tMake C sp dvs E tNil) := by
  intro pins s σ H Q I h
  refine wpAny_Call_Name_kw (ld_glob I hg hm ?_ hdb)
  exact PySem.W.callWith_K0 I.kIn M.kp (run_make (us := []) M F hr hb hd hx I .nil h)
end
structure FnScope (N P : List Str) (sc : Scope) : Prop where
  kind : sc.kind = .function
  co : sc.isCoroutine = false
  gen : sc.isGenerator = false
  nd : N.Nodup
  pre : N.take P.length = P
  par : ∀ x ∈ P, sc.names.lookup x = some .local ∨ sc.names.lookup x = some .cell
  nofree : ∀ y ∈ sc.names, y.2 ≠ .free

theorem bindL_out {kindOf : Str → Option NameKind} {x : Str} : ∀ {binds : List (Str × Value)} {m : Str → Option Value}, (∀ v, (x, v) ∉ binds) → bindL kindOf binds m x = m x
  | [], _, _ => rfl
  | (n, v) :: r, m, h => by
    unfold bindL
    rw [bindL_out fun w hw => h w (List.mem_cons_of_mem _ hw)]
    split
    · have : x ≠ n := by rintro rfl; exact h v List.mem_cons_self
      simp [this]
    · rfl
theorem bindC_out {kindOf : Str → Option NameKind} {x : Str} : ∀ {binds : List (Str × Value)} {m : Str → Option Value}, (∀ v, (x, v) ∉ binds) → bindC kindOf binds m x = m x
  | [], _, _ => rfl
  | (n, v) :: r, m, h => by
    unfold bindC
    rw [bindC_out fun w hw => h w (List.mem_cons_of_mem _ hw)]
    split
    · rfl
    · have : x ≠ n := by rintro rfl; exact h v List.mem_cons_self
      simp [this]
theorem bindL_get {kindOf : Str → Option NameKind} {x : Str} {v : Value} : ∀ {P : List Str} {vs : List Value} {i : Nat} {m : Str → Option Value}, P.Nodup → P[i]? = some x → vs[i]? = some v → kindOf x = some .local →
    bindL kindOf (P.zip vs) m x = some v
  | [], _, _, _, _, h, _, _ => by simp at h
  | _ :: _, [], _, _, _, _, h, _ => by simp at h
  | p :: P, w :: vs, 0, m, nd, h1, h2, hk => by
    simp at h1 h2; subst h1; subst h2
    show bindL kindOf ((p, w) :: P.zip vs) m p = _
    unfold bindL
    rw [bindL_out fun v hv => (List.nodup_cons.mp nd).1 (List.of_mem_zip hv).1, if_pos hk]
    simp
  | p :: P, w :: vs, i + 1, m, nd, h1, h2, hk => by
    show bindL kindOf ((p, w) :: P.zip vs) m x = _
    unfold bindL
    exact bindL_get (i := i) (List.nodup_cons.mp nd).2 (by simpa using h1) (by simpa using h2) hk
theorem bindC_get {kindOf : Str → Option NameKind} {x : Str} {v : Value} : ∀ {P : List Str} {vs : List Value} {i : Nat} {m : Str → Option Value}, P.Nodup → P[i]? = some x → vs[i]? = some v → kindOf x ≠ some .local →
    bindC kindOf (P.zip vs) m x = some v
  | [], _, _, _, _, h, _, _ => by simp at h
  | _ :: _, [], _, _, _, _, h, _ => by simp at h
  | p :: P, w :: vs, 0, m, nd, h1, h2, hk => by
    simp at h1 h2; subst h1; subst h2
    show bindC kindOf ((p, w) :: P.zip vs) m p = _
    unfold bindC
    rw [bindC_out fun v hv => (List.nodup_cons.mp nd).1 (List.of_mem_zip hv).1, if_neg hk]
    simp
  | p :: P, w :: vs, i + 1, m, nd, h1, h2, hk => by
    show bindC kindOf ((p, w) :: P.zip vs) m x = _
    unfold bindC
    exact bindC_get (i := i) (List.nodup_cons.mp nd).2 (by simpa using h1) (by simpa using h2) hk

def start (N : List Str) (vs : List V) : St := vs.map some ++ List.replicate (N.length - vs.length) none

def cxOf (CX : CXT) (P : Program) (w : World) (K : PySem.W.Frag) (mg : Str → Option Value) (base : Heap) (N : List Str) (qual : Str) (scope : Scope) (f : Addr) (cd : Value) (A : Around) (outer : List Env) (s : Shared) (H : Hp) (E : XK) : Cx where
  prog := P
  w := w
  K := K
  mg := mg
  base := base
  A := A.deeper (envOfC qual scope s.heap.objs.size f cd)
  N := N
  s_0 := s
  H_0 := H
  env := envOfC qual scope s.heap.objs.size f cd
  outer := outer
  stack := envOfC qual scope s.heap.objs.size f cd :: outer
  ex := []
  calm := true
  fn := fun _ => true
  pn := []
  xe := fun e s' => wpAny (model P w) (A.deeper (envOfC qual scope s.heap.objs.size f cd)) (leaving (envOfC qual scope s.heap.objs.size f cd) e) (fun _ s'' => CX outer H s E e s'') (fun e' s'' => CX outer H s E e' s'') s'

theorem cell_has {sc : Scope} {n : Nat} {x : Str} (h : sc.names.lookup x = some .cell) : ∃ c, (cellsFrom n sc.names []).lookup x = some c := by
  have q := PySem.W.cellsFrom_some sc.names n [] (.inl h)
  exact Option.isSome_iff_exists.mp q

theorem inv_start {CX : CXT} {P : Program} {w : World} {K : PySem.W.Frag} {mg : Str → Option Value} {base : Heap} {N ps : List Str} {qual : Str} {scope : Scope} {f : Addr} {cd : Value} {A : Around} {outer : List Env} {s s1 : Shared} {H : Hp} {E : XK} {us : List Value} {vs : List V}
    (S : FnScope N ps scope) (hd : A.handled = none) (e0 : Env0 P w K mg base A outer s H) (hl : vs.length = ps.length) (r : Vals vs us)
    (x : InCallC s s.heap.objs.size (bindL (envOfC qual scope s.heap.objs.size f cd).kindOf (ps.zip us) fun _ => none) (cellsFrom (s.heap.objs.size + 1) scope.names []) (bindC (envOfC qual scope s.heap.objs.size f cd).kindOf (ps.zip us) fun _ => none) s1) :
    Inv (cxOf CX P w K mg base N qual scope f cd A outer s H E) [] (start N vs) H s1 := by
  have hpl : ps.length ≤ N.length := by have := congrArg List.length S.pre; rw [List.length_take] at this; omega
  obtain ⟨h1, tk, rfl, hk⟩ := x.done
  have noA : ∀ b : Addr, b ∉ (cxOf CX P w K mg base N qual scope f cd A outer s H E).ex := fun b z => absurd (show b ∈ ([] : List Addr) from z) (by simp)
  refine ⟨⟨e0.mod, S.kind, rfl, rfl, Nat.le_refl _, fun y z c h1 h2 => ?_, fun y hy => ?_, fun y c _ h => ?_, fun _ => hd, Around.frames_deeper e0.frames, .inr ⟨rfl, rfl⟩, fun b z => absurd z (noA b), e0.bs, e0.bsz, fun b _ _ => noA b, fun b z => absurd z (noA b), e0.funs, e0.frf⟩,
    rfl, e0.bare, Un.kept hk, ⟨_, x.toInCall.ns, fun i y v h1 h2 h3 => ?_⟩, fun y c h => ⟨_, x.cell y c h⟩, e0.hok.fresh (Nat.le_refl _), fun y c h => ?_, fun p hp => absurd (show p ∈ ([] : List (Addr × Obj)) from hp) (by simp), e0.hok.kept hk, ?_⟩
  · exact name_of_addr x.apart (PySem.mem_of_lookup h1) (PySem.mem_of_lookup h2)
  · have hy : scope.names.lookup y = some .cell ∨ scope.names.lookup y = some .free := hy
    rcases hy with hy | hy
    · exact cell_has hy
    · exact absurd rfl (S.nofree _ (PySem.mem_of_lookup hy))
  · exact Nat.le_of_lt (x.above y c (PySem.mem_of_lookup h))
  · have hi : i < vs.length := by
      unfold start at h2
      by_cases hi : i < vs.length
      · exact hi
      · rw [List.getElem?_append_right (by simpa using hi)] at h2
        rw [List.getElem?_replicate] at h2
        split at h2 <;> cases h2
    have ha : vs[i]? = some v := by
      unfold start at h2
      rw [List.getElem?_append_left (by simpa using hi), List.getElem?_map] at h2
      cases e : vs[i]? with
      | none => rw [e] at h2; cases h2
      | some a => rw [e] at h2; cases h2; rfl
    obtain ⟨u, hu, rv⟩ := r.get ha
    have hp : ps[i]? = some y := by
      rw [← S.pre, List.getElem?_take_of_lt (by omega)]; exact h1
    have ndP : ps.Nodup := by rw [← S.pre]; exact S.nd.sublist (List.take_sublist _ _)
    refine ⟨u, rv, ?_⟩
    rcases S.par y (List.mem_of_getElem? hp) with k | k
    · exact .inl ⟨k, bindL_get ndP hp hu k⟩
    · obtain ⟨c, e⟩ := cell_has (n := s.heap.objs.size + 1) k
      refine .inr ⟨.inl k, c, e, ?_⟩
      have q := x.cell y c e
      rw [bindC_get ndP hp hu (by show scope.names.lookup y ≠ _; rw [k]; decide)] at q
      exact q
  · exact e0.hok.fresh (Nat.le_of_lt (x.above y c (PySem.mem_of_lookup h)))
  · unfold start
    show _ = N.length
    rw [List.length_append, List.length_map, List.length_replicate]
    omega

theorem fn_of {CX : CXT} {P : Program} {w : World} {K : PySem.W.Frag} {mg : Str → Option Value} {base : Heap} {k : Nat} {f : Addr} {name qual : Str} {params : Arguments} {body : List Stmt} {scope : Scope} {dV kV doc pm cdv ct oc : Value} {an od : Option Addr}
    {osl : Array (Option Value)} {N ps : List Str} {sp : Sp} (lk : K.lookup f = some ⟨oc, od, .func (PySem.W.fnOf name qual params body scope dV kV doc pm an cdv ct), osl⟩) (hcd : PySem.W.codeIn K cdv qual = true) (S : FnScope N ps scope)
    (len : ∀ vs H Q E, sp vs H Q E → vs.length = ps.length)
    (hbody : ∀ (A : Around) (outer : List Env) (s : Shared) (H : Hp) (vs : List V) (Q : VK) (E : XK), Room k (A.deeper (envOfC qual scope s.heap.objs.size f cdv)) → sp vs H Q E →
      ∃ t, PSs (cxOf CX P w K mg base N qual scope f cdv A outer s H E) body t ∧ t { nx := fun _ H' => Q .non H', rt := Q } (start N vs) H) :
    FnOk P w K mg base CX (k + 1) f (PySem.W.fnOf name qual params body scope dV kV doc pm an cdv ct) ps sp := by
  refine ⟨len, fun A outer s H args us vs Q E hr e0 hb r hsp => ?_⟩
  have hl := len _ _ _ _ hsp
  have KX : K.In s.heap := e0.mod.kin.keeps fun b o e => (e0.bs b o e).1
  have lim : s.heap.NoLimit := e0.mod.nolimit.keeps fun b o e => (e0.bs b o e).1
  have hkind : ∀ y ∈ ps.zip us, scope.names.lookup y.1 = some .local ∨ (scope.names.lookup y.1 = some .cell ∧ ((cellsFrom (s.heap.objs.size + 1) scope.names []).lookup y.1).isSome = true) := fun ⟨n, v⟩ hy => by
    rcases S.par n (List.of_mem_zip hy).1 with q | q
    · exact .inl q
    · exact .inr ⟨q, PySem.W.cellsFrom_some _ _ _ (.inl q)⟩
  refine codeAny_call_function hr.depth (KX _ _ lk) rfl S.co S.gen rfl (PySem.W.codeRec_of KX hcd) (hb _ _ _ _ ?_)
  refine wpAny_newFunctionEnv_cells S.kind hkind fun env he s1 x => ?_
  subst he
  refine ⟨lim.keeps x.toInCall.keep, codeAny_func ?_⟩
  obtain ⟨t, ht, hq⟩ := hbody A outer s H vs Q E (hr.deeper _) hsp
  have I : Inv (cxOf CX P w K mg base N qual scope f cdv A outer s H E) [] (start N vs) H s1 := inv_start S hr.hd e0 hl r x
  refine wpAny_mono (ht [] s1 (start N vs) H _ I hq) (fun fl s' hs => ?_) fun e s' hs => hs
  have fin : ∀ {σ' : St} {H' : Hp} {v : V} {u : Value}, Inv (cxOf CX P w K mg base N qual scope f cdv A outer s H E) [] σ' H' s' → RelV v u → Q v H' → CE outer P w H s Q u s' :=
    fun {σ' H' v u} J rv q => ⟨v, H', J.os, J.bare, J.base, J.hok, rv, q⟩
  cases fl with
  | ret u =>
    obtain ⟨v, σ', H', J, rv, q⟩ := hs
    exact fin J rv q
  | next =>
    obtain ⟨σ', H', J, q⟩ := hs
    exact fin (v := V.non) (u := Value.none) J rfl q
  | brk =>
    obtain ⟨_, _, _, q⟩ := hs
    exact False.elim q
  | cont =>
    obtain ⟨_, _, _, q⟩ := hs
    exact False.elim q
end L2
namespace L2
open PySem PySem.Spec PyProof.Rows
section
variable {X : Cx} {x : Str} {p pos : Pos} {e : Expr} {es : List Expr} {t : TA} {id T : String} {r : List V → Hp → VK → Prop}

def tCB (r : List V → Hp → VK → Prop) (t : TA) : TE := fun σ H Q => t σ H fun vs H1 => r vs H1 Q
theorem pe_callB (hc : CallR X (.builtin id) r) (hg : Gl X x) (hm : X.mg x = none) (hv : bootBuiltins x = some (.builtin id)) (ha : PA X (e :: es) t) (hn : x ≠ "__name__" := by decide) (hdb : (x == ("__debug__" : Str)) = false := by decide)
    (he : starEach (e :: es) X.env = (false, eval e X.env) :: starEach es X.env := by rfl) (hpl : (backTo pos (starEach es X.env)).any (·.1) = false := by rfl) : PE X (.Call (.Name x p) (e :: es) [] pos) (tCB r t) := by
  intro pins s σ H Q I h
  refine wpAny_Call_Name_kw (ld_blt I hg hm hv ?_ hn hdb)
  exact PyProof.Rows.callWith_builtin1 (thn (ha pos pins s σ H _ I h) fun us s1 ⟨vs, H1, I1, r1, q1⟩ => hc pins s1 σ H1 vs us Q I1 r1 q1) he hpl
end
end L2
namespace HT
open PySem PyProof.Rows

section
open PySem.SeqAt
open PySem.AutoSeq1 (wpAny_loadPart')
open PySem.MeetsSeq PySem.MeetsSeq2 PySem.MeetsSeq3

end
section
variable {prog : Program} {w : World} {A : Around} {E : Value → Shared → Prop} {s : Shared}

def sIx (n d : Nat) : Option Int → Nat
  | none => d
  | some v => if v < 0 then (v + (n : Int)).toNat else min v.toNat n
theorem sIx_nat (n d k : Nat) : sIx n d (some (k : Int)) = min k n := by
  show (if (k : Int) < 0 then ((k : Int) + (n : Int)).toNat else min (k : Int).toNat n) = min k n
  rw [if_neg (by omega), Int.toNat_natCast]
end
end HT
namespace L2
open PySem PySem.Spec PyProof.Rows

abbrev TO := St → Hp → (Option Int → Hp → Prop) → Prop
def PO (X : Cx) (e : Option Expr) (t : TO) : Prop :=
  ∀ (pins : List (Addr × Obj)) (s : Shared) (σ : St) (H : Hp) (Q : Option Int → Hp → Prop), Inv X pins σ H s → t σ H Q →
    wpAny (model X.prog X.w) X.A (evalPart e X.env) (fun u s' => ∃ o H', Inv X pins σ H' s' ∧ IsPart u o ∧ Q o H') X.xe s
def tPart (t : TE) : TO := fun σ H Q => t σ H fun x H1 => ∃ i, x = .int i ∧ Q (some i) H1

section
variable {X : Cx} {e : Expr} {te : TE} {lo hi : Option Expr} {tl th : TO} {pos p2 : Pos}

theorem po_some (h : PE X e te) : PO X (some e) (tPart te) := by
  intro pins s σ H Q I hw
  rw [evalPart_some]
  refine thn (h pins s σ H _ I hw) fun u s1 ⟨x, H1, I1, r1, q1⟩ => ?_
  obtain ⟨i, rfl, q⟩ := q1
  obtain ⟨t, rfl⟩ := r1
  exact ⟨some i, H1, I1, .int i t, q⟩

def SlR (X : Cx) (r : V → Option Int → Option Int → Hp → VK → Prop) : Prop :=
  ∀ (pins : List (Addr × Obj)) (s : Shared) (σ : St) (H : Hp) (x : V) (v vl vu : Value) (lo hi : Option Int) (sl : Addr) (Q : VK), Inv X pins σ H s → RelV x v → s.heap.IsSliceOf sl vl vu .none → IsPart vl lo → IsPart vu hi → r x lo hi H Q →
    ∃ T id, typeLookup (.type T) "__getitem__" = pure (some (.builtin id)) ∧ s.TypeIs v T ∧ wpAny (model X.prog X.w) X.A (getItem v (.ref sl)) (EP X pins σ Q) X.xe s
def tSl (r : V → Option Int → Option Int → Hp → VK → Prop) (te : TE) (tl th : TO) : TE := fun σ H Q => te σ H fun x H1 => tl σ H1 fun l H2 => th σ H2 fun u H3 => r x l u H3 Q
theorem pe_slice {r : V → Option Int → Option Int → Hp → VK → Prop} (hr : SlR X r) (he : PE X e te) (hl : PO X lo tl) (hu : PO X hi th) : PE X (.Subscript e (.Slice lo hi none p2) pos) (tSl r te tl th) := by
  intro pins s σ H Q I h
  refine Subscript_ (thn (he pins s σ H _ I h) fun v s1 ⟨x, H1, I1, r1, q1⟩ => ?_)
  refine wpAny_Slice (thn (hl pins s1 σ H1 _ I1 q1) fun vl s2 ⟨l, H2, I2, pl, q2⟩ => thn (hu pins s2 σ H2 _ I2 q2) fun vu s3 ⟨u, H3, I3, pu, q3⟩ => ?_)
  rw [evalPart_none]
  refine wpAny_pure ?_
  have I4 : Inv X pins σ H3 { s3 with heap := s3.heap.push { cls := .type "slice", data := .fields #[vl, vu, .none] } } := I3.kept (t' := s3.toks) fun b ob q => Heap.get?_push_of_some _ q
  obtain ⟨T, id, hT, ht, hg⟩ := hr pins { s3 with heap := s3.heap.push { cls := .type "slice", data := .fields #[vl, vu, .none] } } σ H3 x v vl vu l u s3.heap.objs.size Q I4 r1 (Heap.IsSliceOf.new ..) pl pu q3
  show wpAny (model X.prog X.w) X.A (subscriptTail e (.Slice lo hi none p2) v (.ref s3.heap.objs.size)) (EP X pins σ Q) X.xe { s3 with heap := s3.heap.push { cls := .type "slice", data := .fields #[vl, vu, .none] } }
  exact tail_any (ops := [.ref s3.heap.objs.size, v]) ht hT hg (by with_unfolding_all rfl)

def cutV (xs : List V) (lo hi : Option Int) : List V := (xs.drop (HT.sIx xs.length 0 lo)).take (HT.sIx xs.length xs.length hi - HT.sIx xs.length 0 lo)
theorem cutV_length (xs : List V) (lo hi : Option Int) : (cutV xs lo hi).length ≤ xs.length := by
  unfold cutV
  rw [List.length_take, List.length_drop]
  omega
end
end L2
namespace L2
open PySem PySem.Spec PyProof.Rows

def ixN (n : Nat) (i : Int) : Option Nat := if 0 ≤ i then (if i < n then some i.toNat else none) else if -(n : Int) ≤ i then some (i + n).toNat else none
def atI {α : Type} (xs : List α) (i : Int) : Option α := (ixN xs.length i).bind fun j => xs[j]?
theorem ixN_seq {n : Nat} {i : Int} {j : Nat} (h : ixN n i = some j) : seqIndex? i n = some j ∧ j < n ∧ -(n : Int) ≤ i ∧ i < n := by
  unfold ixN at h
  by_cases h0 : 0 ≤ i
  · rw [if_pos h0] at h
    by_cases h1 : i < n
    · rw [if_pos h1] at h
      have e : i.toNat = j := Option.some.inj h
      exact ⟨by rw [seqIndex_of h0 h1, e], by omega, by omega, h1⟩
    · rw [if_neg h1] at h; cases h
  · rw [if_neg h0] at h
    by_cases h1 : -(n : Int) ≤ i
    · rw [if_pos h1] at h
      have e : (i + n).toNat = j := Option.some.inj h
      exact ⟨by rw [seqIndex_neg (by omega) h1, e], by omega, h1, by omega⟩
    · rw [if_neg h1] at h; cases h
theorem atI_get {α : Type} {xs : List α} {i : Int} {v : α} (h : atI xs i = some v) : ∃ j, seqIndex? i xs.length = some j ∧ xs[j]? = some v ∧ j < xs.length ∧ -(xs.length : Int) ≤ i ∧ i < xs.length := by
  unfold atI at h
  cases e : ixN xs.length i with
  | none => rw [e] at h; cases h
  | some j =>
    rw [e] at h
    obtain ⟨h1, h2, h3, h4⟩ := ixN_seq e
    exact ⟨j, h1, h, h2, h3, h4⟩
theorem atI_nat {α : Type} {xs : List α} {j : Nat} {v : α} (h : xs[j]? = some v) : atI xs (j : Int) = some v := by
  have hj : j < xs.length := (List.getElem?_eq_some_iff.mp h).1
  have e : ixN xs.length (j : Int) = some j := by
    unfold ixN
    rw [if_pos (by omega), if_pos (by omega)]; simp
  unfold atI; rw [e]; exact h
def PlainIx (b : Expr) : Prop := ∀ o i, subscripted b false o i = operate [o, i] (getItem o i)
def IxR (X : Cx) (r : R2) : Prop :=
  ∀ (value slice : Expr) (pins : List (Addr × Obj)) (s : Shared) (σ : St) (H : Hp) (x y : V) (v u : Value) (Q : VK), Inv X pins σ H s → RelV x v → RelV y u → r x y H Q →
    subscripted slice false v u = operate [v, u] (getItem v u) → wpAny (model X.prog X.w) X.A (subscriptTail value slice v u) (EP X pins σ Q) X.xe s
def MtR (X : Cx) (id : String) (r : V → List V → Hp → VK → Prop) : Prop :=
  ∀ (pins : List (Addr × Obj)) (s : Shared) (σ : St) (H : Hp) (x : V) (xs : List V) (v : Value) (us : List Value) (Q : VK), Inv X pins σ H s → RelV x v → Vals xs us → r x xs H Q →
    wpAny (model X.prog X.w) X.A (call (.builtin id) (v :: us)) (EP X pins σ Q) X.xe s
section
variable {X : Cx} {a b : Expr} {ta tb : TE} {pos : Pos}
theorem pe_ix {r : R2} (hr : IxR X r) (ha : PE X a ta) (hb : PE X b tb) (hs : PlainIx b) : PE X (.Subscript a b pos) (tOp r ta tb) := by
  intro pins s σ H Q I h
  exact Subscript_ (binT ha hb I h fun v u s2 x y H2 I2 rx ry q => hr a b pins s2 σ H2 x y v u Q I2 rx ry q (hs _ _))

def rIxL (K : PySem.W.Frag) : R2 := fun x y H Q => ∃ p xs i v, x = .ref p ∧ y = .int i ∧ SqL K H p xs ∧ atI xs i = some v ∧ Q v H
def rIxT (K : PySem.W.Frag) : R2 := fun x y H Q => ∃ p xs i v, x = .ref p ∧ y = .int i ∧ SqT K H p xs ∧ atI xs i = some v ∧ Q v H
theorem ix_list : IxR X (rIxL X.K) := by
  intro value slice pins s σ H x y v u Q I rx ry h hs
  obtain ⟨p, xs, i, z, rfl, rfl, hq, he, q⟩ := h
  cases rx
  obtain ⟨t, rfl⟩ := ry
  obtain ⟨its, r, pl, hz⟩ := I.list hq
  obtain ⟨j, h1, h2, h3, h4, h5⟩ := atI_get he
  obtain ⟨w, ew, rw'⟩ := r.get h2
  have hl := r.length
  have hn := line63
  have fin : EP X pins σ Q w s := ⟨z, H, I, rw', q⟩
  by_cases h0 : 0 ≤ i
  · have hj : i.toNat = j := by
      rw [seqIndex_of h0 h5] at h1
      exact Option.some.inj h1
    exact item_listR pl.isList h0 (by omega) (by rw [hj]; simpa using ew) fin hs
  · have hj : (i + (its.toArray.size : Int)).toNat = j := by
      rw [seqIndex_neg (by omega) h4] at h1
      rw [List.size_toArray, ← hl]
      exact Option.some.inj h1
    exact subscriptTail_builtinR (x := w) pl.isList.typeIs slot_list_getitem.lookup
      (wpAny_getItem_list_neg (Q := fun r s' => r = w ∧ EP X pins σ Q r s') pl.isList (by omega) (by rw [List.size_toArray] <;> omega) (by omega) (by rw [hj]; simpa using ew) ⟨rfl, fin⟩) hs
theorem ix_tup : IxR X (rIxT X.K) := by
  intro value slice pins s σ H x y v u Q I rx ry h hs
  obtain ⟨p, xs, i, z, rfl, rfl, hq, he, q⟩ := h
  cases rx
  obtain ⟨t, rfl⟩ := ry
  obtain ⟨its, r, pl, hz⟩ := I.tuple hq
  obtain ⟨j, h1, h2, h3, h4, h5⟩ := atI_get he
  obtain ⟨w, ew, rw'⟩ := r.get h2
  have hl := r.length
  have hn := line63
  have fin : EP X pins σ Q w s := ⟨z, H, I, rw', q⟩
  exact subscriptTail_builtinR (x := w) pl.typeIs slot_tuple_getitem.lookup
    (getItem_tuple (j := j) (Q := fun r s' => r = w ∧ EP X pins σ Q r s') pl (by omega) (by omega) (by rw [List.size_toArray, ← hl]; exact h1) (by simpa using ew) ⟨rfl, fin⟩) hs
theorem slice_bounds (lo hi : Option Int) (n : Nat) : (sliceBounds lo hi none n).1 = ((HT.sIx n 0 lo : Nat) : Int) ∧ (sliceBounds lo hi none n).2.1 = ((HT.sIx n n hi : Nat) : Int) ∧ (sliceBounds lo hi none n).2.2 = 1 := by
  refine ⟨?_, ?_, rfl⟩
  · cases lo with
    | none => simp [sliceBounds, HT.sIx]
    | some i =>
      simp only [sliceBounds, HT.sIx, Option.getD_none, show (1 : Int) > 0 by decide, if_true]
      by_cases h : i < 0
      · simp only [h, if_true] <;> omega
      · simp only [h, if_false] <;> omega
  · cases hi with
    | none => simp [sliceBounds, HT.sIx]
    | some i =>
      simp only [sliceBounds, HT.sIx, Option.getD_none, show (1 : Int) > 0 by decide, if_true]
      by_cases h : i < 0
      · simp only [h, if_true] <;> omega
      · simp only [h, if_false] <;> omega
theorem slicePick_cut (its : List Value) (lo hi : Option Int) : slicePick its.toArray lo hi none = ((its.drop (HT.sIx its.length 0 lo)).take (HT.sIx its.length its.length hi - HT.sIx its.length 0 lo)).toArray := by
  obtain ⟨h1, h2, h3⟩ := slice_bounds lo hi its.toArray.size
  unfold slicePick
  rw [h1, h2, h3]
  simp only [sliceRange_one, pick_run, List.size_toArray] <;> rfl
def rSlL (K : PySem.W.Frag) : V → Option Int → Option Int → Hp → VK → Prop := fun x lo hi H Q => ∃ a xs, x = .ref a ∧ SqL K H a xs ∧ ∀ p, H p = none → Q (.ref p) (upd H p (.lst (cutV xs lo hi)))
theorem sl_list : SlR X (rSlL X.K) := by
  intro pins s σ H x v vl vu lo hi sl Q I rx hs pl pu h
  obtain ⟨a, xs, rfl, hx, q⟩ := h
  cases rx
  obtain ⟨its, r, ht, hz⟩ := I.list hx
  have hlen := r.length
  refine ⟨"list", _, slot_list_getitem.lookup, ht.isList.typeIs, ?_⟩
  refine wpAny_getItem_list_slice ht.isList hs pl pu .none (by simp) ?_ (by rw [List.size_toArray] <;> omega)
  rw [slicePick_cut, ← hlen]
  refine ⟨.ref s.heap.objs.size, _, I.laid (t' := s.toks) (o := .lst (cutV xs lo hi)) (fun b ob q => Heap.get?_push_of_some _ q) (Nat.le_refl _) ?_, rfl, q _ (I.hok.fresh (Nat.le_refl _))⟩
  exact ⟨Nat.le_trans (cutV_length xs lo hi) hz, _, 0, (r.drop (HT.sIx xs.length 0 lo)).take (HT.sIx xs.length xs.length hi - HT.sIx xs.length 0 lo), Heap.get?_push_size _ rfl⟩

def flatV : V → Bool
  | .non => true
  | .bl _ => true
  | .int _ => true
  | .str _ => true
  | _ => false
def eqV : V → V → Bool
  | .non, .non => true
  | .bl a, .bl b => a == b
  | .bl a, .int b => (if a then 1 else 0) == b
  | .int a, .bl b => a == (if b then 1 else 0)
  | .int a, .int b => a == b
  | .str a, .str b => a == b
  | _, _ => false
theorem eqAt_V {A : Around} {s : Shared} {y x : V} {u v : Value} (ry : RelV y u) (rx : RelV x v) (fy : flatV y = true) (fx : flatV x = true) : SeqAt.EqAt A s u v (eqV y x) := by
  cases y with
  | non =>
    cases ry
    cases x with
    | non => cases rx; exact SeqAt.EqAt.same _
    | bl b => cases rx; exact SeqAt.EqAt.none_bool b
    | int b => obtain ⟨t, rfl⟩ := rx; exact SeqAt.EqAt.none_int b t
    | str b => obtain ⟨t, rfl⟩ := rx; exact SeqAt.EqAt.none_str b t
    | _ => exact absurd (show false = true from fx) Bool.false_ne_true
  | bl a =>
    cases ry
    cases x with
    | non => cases rx; exact SeqAt.EqAt.bool_none a
    | bl b => cases rx; exact SeqAt.EqAt.bool_bool a b
    | int b => obtain ⟨t, rfl⟩ := rx; exact SeqAt.EqAt.bool_int a b t
    | str b => obtain ⟨t, rfl⟩ := rx; exact SeqAt.EqAt.bool_str a b t
    | _ => exact absurd (show false = true from fx) Bool.false_ne_true
  | int a =>
    obtain ⟨t', rfl⟩ := ry
    cases x with
    | non => cases rx; exact SeqAt.EqAt.int_none a t'
    | bl b => cases rx; exact SeqAt.EqAt.int_bool a t' b
    | int b => obtain ⟨t, rfl⟩ := rx; exact SeqAt.EqAt.int_int a t' b t
    | str b => obtain ⟨t, rfl⟩ := rx; exact SeqAt.EqAt.int_str a t' b t
    | _ => exact absurd (show false = true from fx) Bool.false_ne_true
  | str a =>
    obtain ⟨t', rfl⟩ := ry
    cases x with
    | non => cases rx; exact SeqAt.EqAt.str_none a t'
    | bl b => cases rx; exact SeqAt.EqAt.str_bool a t' b
    | int b => obtain ⟨t, rfl⟩ := rx; exact SeqAt.EqAt.str_int a t' b t
    | str b => obtain ⟨t, rfl⟩ := rx; exact SeqAt.EqAt.str_str a t' b t
    | _ => exact absurd (show false = true from fx) Bool.false_ne_true
  | _ => exact absurd (show false = true from fy) Bool.false_ne_true
def eqU (x : V) (u : Value) : Bool := match u with
  | .none => eqV .non x
  | .bool b => eqV (.bl b) x
  | .int i _ => eqV (.int i) x
  | .str z _ => eqV (.str z) x
  | _ => false
theorem eqU_of {x y : V} {u : Value} (r : RelV y u) (f : flatV y = true) : eqU x u = eqV y x := by
  cases y with
  | non => cases r; rfl
  | bl b => cases r; rfl
  | int i => obtain ⟨t, rfl⟩ := r; rfl
  | str z => obtain ⟨t, rfl⟩ := r; rfl
  | _ => exact absurd (show false = true from f) Bool.false_ne_true
theorem any_eqU {x : V} : ∀ {xs : List V} {us : List Value}, Vals xs us → xs.all flatV = true → us.any (eqU x) = xs.any fun y => eqV y x
  | _, _, .nil, _ => rfl
  | y :: xs, u :: us, .cons r t, f => by
    rw [List.all_cons, Bool.and_eq_true] at f
    rw [List.any_cons, List.any_cons, eqU_of r f.1, any_eqU t f.2]
theorem mem_eqAt {A : Around} {s : Shared} {x : V} {v : Value} (rx : RelV x v) (fx : flatV x = true) : ∀ {xs : List V} {us : List Value}, Vals xs us → xs.all flatV = true → ∀ u ∈ us, SeqAt.EqAt A s u v (eqU x u)
  | _, _, .nil, _ => fun u hu => by cases hu
  | y :: xs, u :: us, .cons r t, f => fun u' hu => by
    rw [List.all_cons, Bool.and_eq_true] at f
    rcases List.mem_cons.mp hu with rfl | hu
    · rw [eqU_of r f.1]; exact eqAt_V r rx f.1 fx
    · exact mem_eqAt rx fx t f.2 u' hu
def inV (x : V) (xs : List V) : Bool := xs.any fun y => eqV y x
def rIn (K : PySem.W.Frag) (neg : Bool) : R2 := fun x y H Q => ∃ p xs, y = .ref p ∧ (SqL K H p xs ∨ SqT K H p xs) ∧ flatV x = true ∧ xs.all flatV = true ∧ Q (.bl (if neg then !inV x xs else inV x xs)) H
theorem op_in_seq : OpR X (compareOp .In) (rIn X.K false) := by
  intro pins s σ H x y v u Q I rx ry h
  obtain ⟨p, xs, rfl, hq, fx, fs, q⟩ := h
  cases ry
  rcases hq with hq | hq
  · obtain ⟨its, r, pl, hz⟩ := I.list hq
    refine SeqAt.in_listAt (eqU x) pl.isList (fun w hw => mem_eqAt rx fx r fs w (by simpa using hw)) ⟨.bl _, H, I, rfl, ?_⟩
    rw [show its.toArray.any (eqU x) = its.any (eqU x) by simp, any_eqU r fs]
    exact q
  · obtain ⟨its, r, pl, hz⟩ := I.tuple hq
    refine SeqAt.in_tupleAt (eqU x) pl (fun w hw => mem_eqAt rx fx r fs w (by simpa using hw)) ⟨.bl _, H, I, rfl, ?_⟩
    rw [show its.toArray.any (eqU x) = its.any (eqU x) by simp, any_eqU r fs]
    exact q
theorem op_notIn_seq : OpR X (compareOp .NotIn) (rIn X.K true) := by
  intro pins s σ H x y v u Q I rx ry h
  obtain ⟨p, xs, rfl, hq, fx, fs, q⟩ := h
  cases ry
  rcases hq with hq | hq
  · obtain ⟨its, r, pl, hz⟩ := I.list hq
    refine SeqAt.notIn_listAt (eqU x) pl.isList (fun w hw => mem_eqAt rx fx r fs w (by simpa using hw)) ⟨.bl _, H, I, rfl, ?_⟩
    rw [show its.toArray.any (eqU x) = its.any (eqU x) by simp, any_eqU r fs]
    exact q
  · obtain ⟨its, r, pl, hz⟩ := I.tuple hq
    refine SeqAt.notIn_tupleAt (eqU x) pl (fun w hw => mem_eqAt rx fx r fs w (by simpa using hw)) ⟨.bl _, H, I, rfl, ?_⟩
    rw [show its.toArray.any (eqU x) = its.any (eqU x) by simp, any_eqU r fs]
    exact q
theorem call_len_seq : CallR X (.builtin "len") (fun xs H Q => ∃ p ys, xs = [.ref p] ∧ (SqL X.K H p ys ∨ SqT X.K H p ys) ∧ Q (.int ys.length) H) := by
  intro pins s σ H xs us Q I r h
  obtain ⟨p, ys, rfl, hq, q⟩ := h
  obtain ⟨u, rfl, rx⟩ := vals1 r
  cases rx
  have hn := line63
  rcases hq with hq | hq
  · obtain ⟨its, r', pl, hz⟩ := I.list hq
    have hlen := r'.length
    exact Calls.call_len_list pl.isList (by simp only [List.size_toArray] <;> omega) ⟨.int ys.length, H, I.tok _, ⟨s.toks + 1, by rw [List.size_toArray, hlen]⟩, q⟩
  · obtain ⟨its, r', pl, hz⟩ := I.tuple hq
    have hlen := r'.length
    exact len_tuple pl (by simp only [List.size_toArray] <;> omega) ⟨.int ys.length, H, I.tok _, ⟨s.toks + 1, by rw [List.size_toArray, hlen]⟩, q⟩
theorem call_len_str : CallR X (.builtin "len") (fun xs H Q => ∃ z, xs = [.str z] ∧ z.length ≤ sizeLine ∧ Q (.int z.length) H) := by
  intro pins s σ H xs us Q I r h
  obtain ⟨z, rfl, hz, q⟩ := h
  obtain ⟨u, rfl, t, rfl⟩ := vals1 r
  have hn := line63
  exact len_str (by omega) ⟨.int z.length, H, I.tok _, ⟨_, rfl⟩, q⟩
def tyV (K : PySem.W.Frag) (T : String) (x : V) (H : Hp) : Prop := match x with
  | .str _ => T = "str"
  | .int _ => T = "int"
  | .ref p => (T = "list" ∧ ∃ xs, SqL K H p xs) ∨ (T = "tuple" ∧ ∃ o, K.lookup p = some o ∧ o.cls = .type "tuple" ∧ o.dict = none) ∨
      (T = "dict" ∧ ((∃ kvs, H p = some (.dK kvs)) ∨ ∃ kvs, H p = some (.dT kvs))) ∨ (T = "set" ∧ ∃ S n, H p = some (.set S n))
  | _ => False
theorem tyV_is {pins : List (Addr × Obj)} {σ : St} {H : Hp} {s : Shared} {T : String} {x : V} {v : Value} (I : Inv X pins σ H s) (r : RelV x v) (ty : tyV X.K T x H) :
    s.TypeIs v T ∧ ∀ a, v = .ref a → ∃ ob, s.heap.get? a = some ob ∧ ob.dict = none := by
  cases x with
  | str z =>
    obtain ⟨t, rfl⟩ := r
    cases (show T = "str" from ty)
    exact ⟨typeIs_str s z t, fun _ e => nomatch e⟩
  | int i =>
    obtain ⟨t, rfl⟩ := r
    cases (show T = "int" from ty)
    exact ⟨typeIs_int s i t, fun _ e => nomatch e⟩
  | ref p =>
    cases r
    rcases ty with ⟨rfl, xs, hq⟩ | ⟨rfl, o, hk, hc, hd⟩ | ⟨rfl, hk⟩ | ⟨rfl, S, n, hk⟩
    · obtain ⟨its, _, pl, _⟩ := I.list hq
      refine ⟨pl.isList.typeIs, fun a e => ?_⟩
      cases e
      obtain ⟨o, n, e, c, hd, _⟩ := pl
      exact ⟨o, e, hd⟩
    · refine ⟨⟨o, I.kIn p o hk, hc⟩, fun a e => ?_⟩
      cases e
      exact ⟨o, I.kIn _ o hk, hd⟩
    · have z : ∃ o, s.heap.get? p = some o ∧ o.ExactDict := by
        rcases hk with ⟨kvs, hk⟩ | ⟨kvs, hk⟩
        · obtain ⟨_, _, _, _, o, _, _, e, ex, _⟩ := I.hok p _ hk
          exact ⟨o, e, ex⟩
        · obtain ⟨_, _, _, _, o, _, _, e, ex, _⟩ := I.hok p _ hk
          exact ⟨o, e, ex⟩
      obtain ⟨o, e, ex⟩ := z
      refine ⟨⟨o, e, ex.1⟩, fun a e2 => ?_⟩
      cases e2
      exact ⟨o, e, ex.2.1⟩
    · obtain ⟨o, _, _, _, e, ex, _⟩ := I.hok p _ hk
      refine ⟨⟨o, e, ex.1⟩, fun a e2 => ?_⟩
      cases e2
      exact ⟨o, e, ex.2.1⟩
  | _ => exact False.elim ty
def tBM0 (K : PySem.W.Frag) (T : String) (r : V → List V → Hp → VK → Prop) (to : TE) : TE := fun σ H Q => to σ H fun x H1 => tyV K T x H1 ∧ r x [] H1 Q
def tBM (K : PySem.W.Frag) (T : String) (r : V → List V → Hp → VK → Prop) (to : TE) (t : TA) : TE := fun σ H Q => to σ H fun x H1 => tyV K T x H1 ∧ t σ H1 fun xs H2 => r x xs H2 Q
variable {o e : Expr} {es : List Expr} {to : TE} {t : TA} {name : Str} {apos cpos : Pos} {T id : String} {r : V → List V → Hp → VK → Prop}
theorem pe_bm0 (pa : PlainAttrs T) (slot : Slot T name id) (hty : typeOf (.builtin id) = pure (.type "method_descriptor")) (hm : MtR X id r) (ho : PE X o to)
    (hbase : attributeBase o name X.env (eval o X.env) = eval o X.env := by rfl) (hline : (apos.endLine == cpos.line) = true := by rfl) : PE X (.Call (.Attribute o name apos) [] [] cpos) (tBM0 X.K T r to) := by
  intro pins s σ H Q I h
  refine wpAny_Call_method0_late hbase hline (thn (ho pins s σ H _ I h) fun v s1 ⟨x, H1, I1, r1, ty, q1⟩ => ?_)
  obtain ⟨h1, h2⟩ := tyV_is I1 r1 ty
  exact ⟨T, id, pa, slot, hty, h1, h2, Calls.callWith_builtin rfl (PySem.evalArgs_none (hm pins s1 σ H1 x [] v [] Q I1 r1 .nil q1))⟩
theorem pe_bm (pa : PlainAttrs T) (slot : Slot T name id) (hty : typeOf (.builtin id) = pure (.type "method_descriptor")) (hm : MtR X id r) (ho : PE X o to) (ha : PA X (e :: es) t)
    (hbase : attributeBase o name X.env (eval o X.env) = eval o X.env := by rfl)
    (hfew : ((backTo cpos (starEach (e :: es) X.env)).all (fun x => !x.1) && (backToKw cpos (keywordEach [] X.env)).all (fun x => x.1.isSome)
      && decide ((e :: es).length + ([] : List Keyword).length + (if ([] : List Keyword).isEmpty then 0 else 1) < 30)) = true := by rfl)
    (hline : (apos.endLine == cpos.line) = true := by rfl) (hs : starEach (e :: es) X.env = (false, eval e X.env) :: starEach es X.env := by rfl) (hplain : (backTo cpos (starEach es X.env)).any (·.1) = false := by rfl) :
    PE X (.Call (.Attribute o name apos) (e :: es) [] cpos) (tBM X.K T r to t) := by
  intro pins s σ H Q I h
  refine wpAny_Call_method_late hbase hfew hline rfl (thn (ho pins s σ H _ I h) fun v s1 ⟨x, H1, I1, r1, ty, q1⟩ => ?_)
  obtain ⟨h1, h2⟩ := tyV_is I1 r1 ty
  refine ⟨T, id, pa, slot, hty, h1, h2, ?_⟩
  have hA := ha cpos pins s1 σ H1 _ I1 q1
  rw [hs] at hA ⊢
  refine Calls.callWith_builtin (by show (false || (backTo cpos (starEach es X.env)).any (·.1)) = false; rw [hplain] <;> rfl) (Calls.evalArgs_plain ?_)
  exact thn hA fun us s2 ⟨vs, H2, I2, r2, q2⟩ => hm pins s2 σ H2 x vs v us Q I2 r1 r2 q2
end
end L2
namespace L2
open PySem PySem.Spec PyProof.Rows

def MtM (X : Cx) (id : String) (r : V → List V → Hp → VK → Prop) : Prop :=
  ∀ (pins : List (Addr × Obj)) (s : Shared) (σ : St) (H : Hp) (x : V) (xs : List V) (v : Value) (us : List Value) (Q : VK), Inv X pins σ H s → RelV x v → Vals xs us → r x xs H Q →
    wpAny (model X.prog X.w) X.A (call (.builtin id) (v :: us)) (EP X pins σ Q) X.xe s

theorem Vals.one : ∀ {x : V} {us : List Value}, Vals [x] us → ∃ u, us = [u] ∧ RelV x u
  | _, _, .cons r .nil => ⟨_, rfl, r⟩
theorem Vals.zero : ∀ {us : List Value}, Vals [] us → us = []
  | _, .nil => rfl
theorem Vals.dropLast {xs : List V} {us : List Value} (h : Vals xs us) : Vals xs.dropLast us.dropLast := by
  induction h with
  | nil => exact .nil
  | cons r t ih =>
    cases t with
    | nil => exact .nil
    | cons q t' => exact .cons r ih
theorem Vals.eraseIdx : ∀ {xs : List V} {us : List Value} (i : Nat), Vals xs us → Vals (xs.eraseIdx i) (us.eraseIdx i)
  | _, _, _, .nil => .nil
  | _, _, 0, .cons _ t => t
  | _, _, i + 1, .cons r t => .cons r (Vals.eraseIdx i t)
theorem erase_last {α : Type} (l : List α) : l.eraseIdx (l.length - 1) = l.dropLast := by
  induction l with
  | nil => rfl
  | cons a r ih =>
    cases r with
    | nil => rfl
    | cons b r =>
      have e : (a :: b :: r).length - 1 = ((b :: r).length - 1) + 1 := by
        have h1 : (a :: b :: r).length = r.length + 2 := rfl
        have h2 : (b :: r).length = r.length + 1 := rfl
        omega
      rw [e, List.eraseIdx_cons_succ, ih]
      all_goals rfl
theorem len_erase {α : Type} : ∀ (l : List α) (i : Nat), (l.eraseIdx i).length ≤ l.length
  | [], _ => Nat.le_refl _
  | _ :: _, 0 => Nat.le_succ _
  | _ :: r, i + 1 => Nat.succ_le_succ (len_erase r i)
section
variable {X : Cx} {pins : List (Addr × Obj)} {σ : St} {H : Hp} {s : Shared} {l b : Addr} {xs ys zs : List V}

theorem Inv.lset {its its' : List Value} {n : Nat} {f : Array Value → Array Value} {t' : Nat} (I : Inv X pins σ H s) (hH : H l = some (.lst xs))
    (e : s.heap.get? l = some { cls := .type "list", data := .seq its.toArray n }) (hf : f its.toArray = its'.toArray) (hv : Vals ys its') (hz : ys.length ≤ sizeLine) :
    Inv X pins σ (upd H l (.lst ys)) { s with heap := s.heap.update l (Obj.mapSeq f), toks := t' } := by
  have q := PySem.IsL.update e f
  rw [hf] at q
  refine I.write (x := l) (e := l) (by rw [hH]; exact trivial) (.inl rfl) (fun b' u hb hu => (Heap.get?_update_other s.heap (Obj.mapSeq f) (Ne.symm hb)).trans hu) ⟨_, q⟩ ?_
  exact ⟨hz, its', _, hv, q⟩
theorem Inv.lstM (I : Inv X pins σ H s) (hH : H l = some (.lst xs)) : xs.length ≤ sizeLine ∧ ∃ (its : List Value) (n : Nat), Vals xs its ∧ xs.length = its.length ∧ s.heap.get? l = some { cls := .type "list", data := .seq its.toArray n } := by
  obtain ⟨z, its, n, r, e⟩ := I.hok l _ hH
  exact ⟨z, its, n, r, r.length, e⟩

theorem notLongL {n : Nat} (h : n ≤ sizeLine) : Builtin.List.listTooLong n = false := by
  unfold Builtin.List.listTooLong
  exact decide_eq_false (by omega)
end
section
variable {X : Cx}

def rAppend : V → List V → Hp → VK → Prop := fun x vs H Q => ∃ l xs y, x = .ref l ∧ vs = [y] ∧ H l = some (.lst xs) ∧ xs.length < sizeLine ∧ Q .non (upd H l (.lst (xs ++ [y])))
theorem mt_append : MtM X "list.append" rAppend := by
  intro pins s σ H x vs v us Q I rx rv h
  obtain ⟨l, xs, y, rfl, rfl, hH, hz, q⟩ := h
  cases rx
  obtain ⟨u, rfl, ru⟩ := rv.one
  obtain ⟨z, its, n, r, hl, e⟩ := I.lstM hH
  refine call_meets F.slot_list_append ⟨_, e, rfl⟩ F.entry_list_append (F.args_list_append_2 _ _) (PySem.list_append l its.toArray n u (by rw [List.size_toArray]; omega)) ⟨e, ?_⟩
  refine ⟨.non, _, I.lset (its' := its ++ [u]) hH e (by simp) (r.append (.cons ru .nil)) ?_, rfl, q⟩
  rw [List.length_append, List.length_singleton]
  omega

def rExtend : V → List V → Hp → VK → Prop := fun x vs H Q => ∃ l b xs zs, x = .ref l ∧ vs = [.ref b] ∧ H l = some (.lst xs) ∧ H b = some (.lst zs) ∧ xs.length + zs.length ≤ sizeLine ∧ Q .non (upd H l (.lst (xs ++ zs)))
theorem mt_extend : MtM X "list.extend" rExtend := by
  intro pins s σ H x vs v us Q I rx rv h
  obtain ⟨l, b, xs, zs, rfl, rfl, hH, hB, hz, q⟩ := h
  cases rx
  obtain ⟨u, rfl, ru⟩ := rv.one
  cases ru
  obtain ⟨z, its, n, r, hl, e⟩ := I.lstM hH
  obtain ⟨z2, its2, n2, r2, hl2, e2⟩ := I.lstM hB
  have hsz : its.toArray.size + its2.toArray.size ≤ sizeLine := by rw [List.size_toArray, List.size_toArray]; omega
  have hlong : ¬ (!its.toArray.isEmpty && Builtin.List.listTooLong (its.toArray.size + its2.toArray.size)) = true := by
    rw [notLongL hsz, Bool.and_false]
    exact Bool.false_ne_true
  refine call_meets F.slot_list_extend ⟨_, e, rfl⟩ F.entry_list_extend (F.args_list_extend_2 _ _)
    (AutoSeq1.list_extend_list_list_0 l its.toArray n b its2.toArray n2 hlong (by rw [List.size_toArray]; omega) (by omega)) ⟨e, e2, ?_⟩
  refine ⟨.non, _, I.lset (its' := its ++ its2) hH e (by simp) (r.append r2) ?_, rfl, q⟩
  rw [List.length_append]
  omega

def rPop : V → List V → Hp → VK → Prop := fun x vs H Q => ∃ l xs y, x = .ref l ∧ vs = [] ∧ H l = some (.lst xs) ∧ xs[xs.length - 1]? = some y ∧ Q y (upd H l (.lst xs.dropLast))
theorem mt_pop : MtM X "list.pop" rPop := by
  intro pins s σ H x vs v us Q I rx rv h
  obtain ⟨l, xs, y, rfl, rfl, hH, hy, q⟩ := h
  cases rx
  have hus := rv.zero
  subst hus
  obtain ⟨z, its, n, r, hl, e⟩ := I.lstM hH
  obtain ⟨u, hu, ru⟩ := r.get hy
  have hy' : its.toArray[its.toArray.size - 1]? = some u := by
    show its.toArray[its.length - 1]? = some u
    rw [← Array.getElem?_toList, ← hl]
    exact hu
  refine call_meets F.slot_list_pop ⟨_, e, rfl⟩ F.entry_list_pop (F.args_list_pop_1 _) (MeetsSeq.list_pop_last l its.toArray n u hy' (by rw [List.size_toArray]; omega)) ⟨e, ?_⟩
  refine ⟨y, _, I.lset (its' := its.dropLast) hH e ?_ r.dropLast ?_, ru, q⟩
  · show its.toArray.eraseIdxIfInBounds (its.toArray.size - 1) = its.dropLast.toArray
    rw [List.size_toArray, List.eraseIdxIfInBounds_toArray, erase_last]
  · rw [List.length_dropLast]
    omega

def rPopAt : V → List V → Hp → VK → Prop := fun x vs H Q => ∃ l xs i k y, x = .ref l ∧ vs = [.int i] ∧ H l = some (.lst xs) ∧ -(2 ^ 63) ≤ i ∧ i < 2 ^ 63 ∧ seqIndex? i xs.length = some k ∧ xs[k]? = some y ∧ Q y (upd H l (.lst (xs.eraseIdx k)))
theorem mt_popAt : MtM X "list.pop" rPopAt := by
  intro pins s σ H x vs v us Q I rx rv h
  obtain ⟨l, xs, i, k, y, rfl, rfl, hH, h1, h2, hk, hy, q⟩ := h
  cases rx
  obtain ⟨u, rfl, ru⟩ := rv.one
  obtain ⟨t, rfl⟩ := ru
  obtain ⟨z, its, n, r, hl, e⟩ := I.lstM hH
  obtain ⟨w, hw, rw'⟩ := r.get hy
  refine call_meets F.slot_list_pop ⟨_, e, rfl⟩ F.entry_list_pop (F.args_list_pop_2 _ _)
    (MeetsSeq.list_pop_at l its.toArray n i t k w (fitsIndex_both h1 h2) (by rw [List.size_toArray, ← hl]; exact hk) (by rw [← Array.getElem?_toList]; exact hw) (by rw [List.size_toArray]; omega)) ⟨e, ?_⟩
  refine ⟨y, _, I.lset (its' := its.eraseIdx k) hH e ?_ (r.eraseIdx k) ?_, rw', q⟩
  · show its.toArray.eraseIdxIfInBounds k = (its.eraseIdx k).toArray
    rw [List.eraseIdxIfInBounds_toArray]
  · have := len_erase xs k
    omega

end
end L2
namespace L2
open PySem PySem.Spec PyProof.Rows

theorem Vals.bls : ∀ {bs : List Bool} {us : List Value}, Vals (bs.map V.bl) us → us = bs.map Value.bool
  | [], us, h => by
    rw [List.map_nil] at h
    cases h
    rfl
  | b :: bs, us, h => by
    rw [List.map_cons] at h
    cases h with
    | cons r t =>
      cases r
      rw [Vals.bls t, List.map_cons]
theorem Vals.ref1 {a : Addr} {us : List Value} (r : Vals [V.ref a] us) : us = [Value.ref a] := by
  cases r with
  | cons r t =>
    cases t
    cases r
    rfl
theorem iter_any {prog : Program} {w : World} {A : Around} {E : Value → Shared → Prop} {s : Shared} {l : Addr} {items : Array Value} {Q : Value → Shared → Prop} (hl : s.heap.IsList l items)
    (h : ∀ s₂ : Shared, s₂ = { s with heap := s.heap.push { cls := .type "list_iterator", data := .fields #[.ref l, .int 0 0] } } →
      (s₂.heap.IsListIter s.heap.objs.size l 0 ∧ s₂.heap.IsList l items) → l ≠ s.heap.objs.size → Q (.ref s.heap.objs.size) s₂) : wpAny (model prog w) A (pyIter (.ref l)) Q E s := by
  have hlt : l < s.heap.objs.size := by obtain ⟨_, e, _⟩ := hl; exact Heap.lt_size e
  exact wpAny_pyIter_list hl (h _ rfl ⟨⟨_, Heap.get?_push_size _ rfl, rfl, rfl⟩, hl.push _⟩ (Nat.ne_of_lt hlt))
theorem truth_bools {prog : Program} {w : World} {A : Around} {bs : List Bool} {its : List Value} (e : its = bs.map Value.bool) :
    TruthOf prog w A (fun i v => its.toArray[i]? = some v) (fun i => bs.getD i false) := fun i v s Q E hv hq => by
  have hv' : its[i]? = some v := by simpa using hv
  rw [e, List.getElem?_map] at hv'
  obtain ⟨b, hb, rfl⟩ := Option.map_eq_some_iff.mp hv'
  have hg : bs.getD i false = b := by rw [List.getD_eq_getElem?_getD, hb] <;> rfl
  have hq' : Q (bs.getD i false) s := hq
  rw [hg] at hq'
  exact wpAny_truthy_bool hq'
theorem any_range : ∀ bs : List Bool, (List.range bs.length).any (fun i => bs.getD i false) = bs.any id
  | [] => rfl
  | b :: bs => by
    rw [List.length_cons, List.range_succ_eq_map, List.any_cons, List.any_map, List.any_cons, ← any_range bs]
    all_goals rfl
section
variable {X : Cx}
def rAny (K : PySem.W.Frag) : List V → Hp → VK → Prop := fun vs H Q => ∃ (a : Addr) (bs : List Bool), vs = [V.ref a] ∧ SqL K H a (bs.map V.bl) ∧ Q (.bl (bs.any id)) H
theorem cr_any (hc : X.calm = true) : CallR X (.builtin "any") (rAny X.K) := by
  intro pins s σ H vs us Q I r h
  obtain ⟨a, bs, rfl, hs, q⟩ := h
  obtain ⟨its, rv, hl, _⟩ := I.list hs
  rw [Vals.ref1 r]
  have hb := rv.bls
  refine call_any_walk (iter_any hl.isList fun s₂ e2 st hne => ?_)
  subst e2
  refine ⟨_, _, _, _, _, _, _, rfl, Walks.list (A := X.A.in1) (I.ok.hd hc) _ a hne its.toArray, st, truth_bools hb, fun h' tk hk => ?_⟩
  refine ⟨.bl _, H, I.kept fun b o eo => hk b o (fun hmem => ?_) (Heap.get?_push_of_some _ eo), ?_, q⟩
  · rcases List.mem_cons.mp hmem with e1 | hmem
    · exact absurd (e1 ▸ Heap.lt_size eo) (Nat.lt_irrefl _)
    · cases hmem
  · show Value.bool _ = Value.bool _
    rw [← any_range, hb, List.size_toArray, List.length_map]
end
end L2
namespace L2
open PySem PySem.Spec PyProof.Rows
abbrev CellAt (h : Heap) (c : Addr) (v : Option Value) : Prop := h.IsCell c v
def relS (scope sc : Scope) : Scope :=
  { scope with names := scope.names.map fun (n, k) => if (k == .free && sc.kind == .function && sc.names.lookup n == some .cell) then (n, .cell) else (n, k) }

def cloFrom (cells : List (Str × Addr)) : List (Str × NameKind) → List (Str × Addr) → List (Str × Addr)
  | [], acc => acc
  | (n, k) :: r, acc => if k == .free then cloFrom cells r ((n, (cells.lookup n).getD 0) :: acc) else cloFrom cells r acc

theorem closure_loop (env : Env) (f : Str × NameKind → List (Str × Addr) → Sem (ForInStep (List (Str × Addr))))
    (hf : ∀ n k c, f (n, k) c = if k == .free then (do let a ← cellOf env n; pure (.yield ((n, a) :: c))) else pure (.yield c)) :
    ∀ (names : List (Str × NameKind)) (acc : List (Str × Addr)), (∀ y ∈ names, y.2 = .free → ∃ c, env.cells.lookup y.1 = some c) → forIn names acc f = pure (cloFrom env.cells names acc)
  | [], acc, _ => by rw [List.forIn_nil]; rfl
  | (n, k) :: r, acc, h => by
    rw [List.forIn_cons, hf]
    have ih := fun acc => closure_loop env f hf r acc fun y hy => h y (List.mem_cons_of_mem _ hy)
    unfold cloFrom
    by_cases hk : (k == NameKind.free) = true
    · rw [if_pos hk, if_pos hk]
      obtain ⟨c, hc⟩ := h (n, k) List.mem_cons_self (by simpa using hk)
      have e : cellOf env n = pure c := by unfold cellOf; rw [hc]
      rw [e]
      have e2 : (env.cells.lookup n).getD 0 = c := by rw [hc]; rfl
      rw [e2]
      exact ih _
    · rw [if_neg hk, if_neg hk]
      exact ih _
theorem closure_ok {scope : Scope} {env : Env} (h : ∀ y ∈ scope.names, y.2 = .free → ∃ c, env.cells.lookup y.1 = some c) : closureFor scope env = pure (cloFrom env.cells scope.names []) := by
  simp only [closureFor]
  rw [closure_loop env _ (fun n k c => rfl) scope.names [] h]
  rfl

theorem mem_lookup {α : Type} : ∀ {l : List (Str × α)} {n : Str} {c : α}, (n, c) ∈ l → ∃ c', l.lookup n = some c'
  | (k, v) :: r, n, c, h => by
    rw [List.lookup_cons]
    cases hb : n == k with
    | true => exact ⟨_, rfl⟩
    | false =>
      rcases List.mem_cons.mp h with e | h
      · cases e; simp at hb
      · exact mem_lookup h

theorem cloFrom_mem {cells : List (Str × Addr)} : ∀ {names : List (Str × NameKind)} {acc : List (Str × Addr)} {n : Str} {c : Addr}, (n, c) ∈ cloFrom cells names acc → (n, c) ∈ acc ∨ ((n, .free) ∈ names ∧ c = (cells.lookup n).getD 0)
  | [], _, _, _, h => .inl h
  | (m, k) :: r, acc, n, c, h => by
    unfold cloFrom at h
    split at h
    · rename_i hk
      have hk : k = .free := by simpa using hk
      rcases cloFrom_mem h with h | ⟨h1, h2⟩
      · rcases List.mem_cons.mp h with e | h
        · cases e; exact .inr ⟨hk ▸ List.mem_cons_self, rfl⟩
        · exact .inl h
      · exact .inr ⟨List.mem_cons_of_mem _ h1, h2⟩
    · rcases cloFrom_mem h with h | ⟨h1, h2⟩
      · exact .inl h
      · exact .inr ⟨List.mem_cons_of_mem _ h1, h2⟩
theorem cloFrom_acc {cells : List (Str × Addr)} : ∀ {names : List (Str × NameKind)} {acc : List (Str × Addr)} {p : Str × Addr}, p ∈ acc → p ∈ cloFrom cells names acc
  | [], _, _, h => h
  | (m, k) :: r, acc, p, h => by
    unfold cloFrom
    split
    · exact cloFrom_acc (List.mem_cons_of_mem _ h)
    · exact cloFrom_acc h
theorem cloFrom_has {cells : List (Str × Addr)} : ∀ {names : List (Str × NameKind)} {acc : List (Str × Addr)} {n : Str}, (n, .free) ∈ names → (n, (cells.lookup n).getD 0) ∈ cloFrom cells names acc
  | (m, k) :: r, acc, n, h => by
    unfold cloFrom
    rcases List.mem_cons.mp h with e | h
    · cases e
      exact cloFrom_acc List.mem_cons_self
    · split
      · exact cloFrom_has h
      · exact cloFrom_has h

theorem cells_mem : ∀ {names : List (Str × NameKind)} {h : Heap} {acc : List (Str × Addr)} {x : Str} {c : Addr}, (x, c) ∈ cellsFrom h.objs.size names acc →
    (x, c) ∈ acc ∨ ((x, .cell) ∈ names ∧ h.objs.size ≤ c ∧ CellAt (pushCells h names) c none)
  | [], _, _, _, _, h => .inl h
  | (n, k) :: r, h, acc, x, c, hm => by
    unfold cellsFrom at hm
    unfold pushCells
    split at hm
    · rename_i hk
      rw [if_pos hk]
      have hk : k = .cell := by simpa using hk
      rw [← Heap.size_push h { cls := .type "cell", data := .cell none }] at hm
      rcases cells_mem hm with hm | ⟨h1, h2, h3⟩
      · rcases List.mem_cons.mp hm with e | hm
        · cases e
          exact .inr ⟨hk ▸ List.mem_cons_self, Nat.le_refl _, _, pushCells_keeps r _ _ _ (Heap.get?_push_size _ rfl), rfl⟩
        · exact .inl hm
      · rw [Heap.size_push] at h2
        exact .inr ⟨List.mem_cons_of_mem _ h1, Nat.le_of_succ_le h2, h3⟩
    · rename_i hk
      rw [if_neg hk]
      rcases cells_mem hm with hm | ⟨h1, h2, h3⟩
      · exact .inl hm
      · exact .inr ⟨List.mem_cons_of_mem _ h1, h2, h3⟩
theorem cells_acc : ∀ {names : List (Str × NameKind)} {n : Nat} {acc : List (Str × Addr)} {p : Str × Addr}, p ∈ acc → p ∈ cellsFrom n names acc
  | [], _, _, _, h => h
  | (m, k) :: r, n, acc, p, h => by
    unfold cellsFrom
    split
    · exact cells_acc (List.mem_cons_of_mem _ h)
    · exact cells_acc h
theorem cells_has : ∀ {names : List (Str × NameKind)} {n : Nat} {acc : List (Str × Addr)} {x : Str}, (x, .cell) ∈ names → ∃ c, (x, c) ∈ cellsFrom n names acc
  | (m, k) :: r, n, acc, x, h => by
    unfold cellsFrom
    rcases List.mem_cons.mp h with e | h
    · cases e
      exact ⟨n, cells_acc List.mem_cons_self⟩
    · split
      · exact cells_has h
      · exact cells_has h
theorem cells_inj : ∀ {names : List (Str × NameKind)} {h : Heap} {acc : List (Str × Addr)} {x y : Str} {c : Addr}, (∀ p ∈ acc, p.2 < h.objs.size) → (∀ x y c, (x, c) ∈ acc → (y, c) ∈ acc → x = y) →
    (x, c) ∈ cellsFrom h.objs.size names acc → (y, c) ∈ cellsFrom h.objs.size names acc → x = y
  | [], _, _, _, _, _, _, hi, h1, h2 => hi _ _ _ h1 h2
  | (n, k) :: r, h, acc, x, y, c, hl, hi, h1, h2 => by
    unfold cellsFrom at h1 h2
    split at h1
    · rename_i hk
      rw [if_pos hk] at h2
      rw [← Heap.size_push h { cls := .type "cell", data := .cell none }] at h1 h2
      refine cells_inj (h := h.push _) (fun p hp => ?_) (fun x y c a b => ?_) h1 h2
      · rw [Heap.size_push]
        rcases List.mem_cons.mp hp with rfl | hp
        · exact Nat.lt_succ_self _
        · exact Nat.lt_succ_of_lt (hl p hp)
      · rcases List.mem_cons.mp a with e | a <;> rcases List.mem_cons.mp b with e' | b
        · cases e; cases e'; rfl
        · cases e; exact absurd (hl _ b) (Nat.lt_irrefl _)
        · cases e'; exact absurd (hl _ a) (Nat.lt_irrefl _)
        · exact hi _ _ _ a b
    · rename_i hk
      rw [if_neg hk] at h2
      exact cells_inj hl hi h1 h2

theorem newEnv_comp {M : Model} {A : Around} {E : Value → Shared → Prop} {s : Shared} {scope : Scope} {globals : Addr} {closure : List (Str × Addr)} {qual : Str} {func : Option Addr} {code : Value} {around : Env} {builtins : Addr} {Q : Env → Shared → Prop}
    (h : Q (newEnv scope s.heap.objs.size globals (cellsFrom (s.heap.objs.size + 1) scope.names closure) qual func code (some around) builtins)
      { s with heap := pushCells (s.heap.push { cls := .type "dict", data := .dict #[] }) scope.names }) :
    wpAny M A (newFunctionEnv scope globals closure [] qual func code (some around) builtins) Q E s := by
  simp only [newFunctionEnv, Option.isSome_some, if_true]
  refine wpAny_bind (wpAny_alloc ?_)
  refine wpAny_bind (wpAny_layCells _ (fun n k c => rfl) scope.names closure _ _ ?_)
  rw [show ({ s with heap := s.heap.push { cls := .type "dict", data := .dict #[] } } : Shared).heap.objs.size = s.heap.objs.size + 1 from Heap.size_push ..]
  rw [List.forIn_nil]
  exact wpAny_bind (wpAny_pure (wpAny_pure h))

theorem lookup_relS {sc : Scope} : ∀ {names : List (Str × NameKind)} {x : Str} {k : NameKind},
    (names.map fun (n, k) => if (k == NameKind.free && sc.kind == .function && sc.names.lookup n == some .cell) then (n, NameKind.cell) else (n, k)).lookup x = some k →
    ∃ k', names.lookup x = some k' ∧ (k = k' ∨ (k' = .free ∧ k = .cell))
  | [], _, _, h => by simp at h
  | (n, k₀) :: r, x, k, h => by
    have ih := @lookup_relS sc r x k
    have h' : List.lookup x ((if (k₀ == NameKind.free && sc.kind == .function && sc.names.lookup n == some .cell) = true then (n, NameKind.cell) else (n, k₀)) :: (r.map _)) = some k := h
    cases hx : x == n with
    | true =>
      simp only [List.lookup_cons, hx]
      by_cases hc : (k₀ == NameKind.free && sc.kind == .function && sc.names.lookup n == some .cell) = true
      · rw [if_pos hc] at h'
        simp only [List.lookup_cons, hx] at h'
        cases h'
        simp only [Bool.and_eq_true, beq_iff_eq] at hc
        exact ⟨k₀, rfl, .inr ⟨hc.1.1, rfl⟩⟩
      · rw [if_neg hc] at h'
        simp only [List.lookup_cons, hx] at h'
        cases h'
        exact ⟨_, rfl, .inl rfl⟩
    | false =>
      simp only [List.lookup_cons, hx]
      by_cases hc : (k₀ == NameKind.free && sc.kind == .function && sc.names.lookup n == some .cell) = true
      · rw [if_pos hc] at h'
        simp only [List.lookup_cons, hx] at h'
        exact ih h'
      · rw [if_neg hc] at h'
        simp only [List.lookup_cons, hx] at h'
        exact ih h'
structure BlkOk (N : List Str) (sc scope : Scope) (own : List (Str × Nat)) : Prop where
  kind : scope.kind = .function
  uniq : ∀ y ∈ scope.names, scope.names.lookup y.1 = some y.2
  ix : ∀ p ∈ own, N[p.2]? = some p.1
  free : ∀ y ∈ scope.names, y.2 = .free → sc.names.lookup y.1 = some .cell ∨ sc.names.lookup y.1 = some .free
  own : ∀ y ∈ scope.names, y.2 = .local ∨ y.2 = .cell → y.1 ∈ own.map (·.1) ∨ y.1 ∉ N
def wipe (σ : St) : List Nat → St
  | [] => σ
  | v :: vs => (wipe σ vs).set v none
theorem wipe_length (σ : St) : ∀ vs : List Nat, (wipe σ vs).length = σ.length
  | [] => rfl
  | v :: vs => by unfold wipe; rw [List.length_set, wipe_length σ vs]
theorem wipe_some {σ : St} {i : Nat} {x : V} : ∀ {vs : List Nat}, (wipe σ vs)[i]? = some (some x) → σ[i]? = some (some x) ∧ i ∉ vs
  | [], h => ⟨h, by simp⟩
  | v :: vs, h => by
    unfold wipe at h
    by_cases hi : v = i
    · subst hi
      by_cases hv : v < (wipe σ vs).length
      · rw [List.getElem?_set_self hv] at h; cases h
      · rw [List.getElem?_eq_none (by simpa using hv)] at h; cases h
    · rw [List.getElem?_set_ne hi] at h
      obtain ⟨h1, h2⟩ := wipe_some h
      exact ⟨h1, by simp only [List.mem_cons, not_or]; exact ⟨fun e => hi e.symm, h2⟩⟩

abbrev Cx.blk (X : Cx) (s : Shared) (H : Hp) (scope : Scope) (cenv : Env) (fp : List Addr) : Cx := { X with s_0 := s, H_0 := H, env := cenv, outer := X.stack, ex := fp, fn := fun x => scope.names.lookup x == some .cell, pn := [], xe := fun _ _ => False }
section
variable {X : Cx} {pins : List (Addr × Obj)} {σ : St} {H : Hp} {s : Shared}
theorem block_start {scope : Scope} {own : List (Str × Nat)} {fp : List Addr} (I : Inv X pins σ H s) (ok : BlkOk X.N X.env.scope scope own) (hN : X.N.Nodup) (hfp : ∀ b ∈ fp, FpOk X pins H b ∧ b < s.heap.objs.size) :
    Inv (X.blk s H scope (compEnvC scope (cellsFrom (s.heap.objs.size + 1) scope.names (cloFrom X.env.cells scope.names [])) s.heap.objs.size X.env) fp) [] (wipe σ (own.map (·.2))) H { s with heap := pushCells (s.heap.push { cls := .type "dict", data := .dict #[] }) scope.names } := by
  have hfree : ∀ y ∈ scope.names, y.2 = .free → ∃ c, X.env.cells.lookup y.1 = some c := fun y hy e => by
    rcases ok.free y hy e with k | k
    · exact I.ok.has _ (.inl k)
    · exact I.ok.has _ (.inr k)
  generalize hcenv : compEnvC scope (cellsFrom (s.heap.objs.size + 1) scope.names (cloFrom X.env.cells scope.names [])) s.heap.objs.size X.env = cenv
  have kp : ∀ b o, s.heap.get? b = some o → (pushCells (s.heap.push { cls := .type "dict", data := .dict #[] }) scope.names).get? b = some o := fun b o e => pushCells_keeps _ _ _ _ (Heap.get?_push_of_some _ e)
  have hL : cenv.locals = s.heap.objs.size := by rw [← hcenv]; rfl
  have hcl : cenv.cells = cellsFrom (s.heap.objs.size + 1) scope.names (cloFrom X.env.cells scope.names []) := by rw [← hcenv]; rfl
  have hsc : cenv.scope = relS scope X.env.scope := by rw [← hcenv]; rfl
  rw [← Heap.size_push s.heap { cls := .type "dict", data := .dict #[] }] at hcl
  have cm : ∀ {y c}, (y, c) ∈ cloFrom X.env.cells scope.names [] → X.env.cells.lookup y = some c ∧ c < s.heap.objs.size := fun {y c} hm => by
    rcases cloFrom_mem hm with hm | ⟨h1, rfl⟩
    · cases hm
    · obtain ⟨c, hc⟩ := hfree _ h1 rfl
      rw [hc]
      obtain ⟨w, z⟩ := I.cell _ _ hc
      exact ⟨rfl, z.lt⟩
  have mem : ∀ {y c}, cenv.cells.lookup y = some c → (X.env.cells.lookup y = some c ∧ c < s.heap.objs.size) ∨ (s.heap.objs.size + 1 ≤ c ∧ CellAt (pushCells (s.heap.push { cls := .type "dict", data := .dict #[] }) scope.names) c none) := fun {y c} e => by
    rw [hcl] at e
    rcases cells_mem (PySem.mem_of_lookup e) with hm | ⟨_, h2, h3⟩
    · exact .inl (cm hm)
    · rw [Heap.size_push] at h2; exact .inr ⟨h2, h3⟩
  have look : ∀ {y}, scope.names.lookup y = some .free → ∃ c, cenv.cells.lookup y = some c ∧ X.env.cells.lookup y = some c := fun {y} hl => by
    have hy : (y, NameKind.free) ∈ scope.names := PySem.mem_of_lookup hl
    obtain ⟨c', e'⟩ := mem_lookup (cells_acc (names := scope.names) (n := (s.heap.push { cls := .type "dict", data := .dict #[] }).objs.size) (cloFrom_has (cells := X.env.cells) (acc := []) hy))
    rw [← hcl] at e'
    refine ⟨c', e', ?_⟩
    rw [hcl] at e'
    rcases cells_mem (PySem.mem_of_lookup e') with hm | ⟨h1, _, _⟩
    · exact (cm hm).1
    · have := ok.uniq _ h1
      rw [hl] at this; cases this
  have okB : (X.blk s H scope cenv fp).Ok := by
    refine ⟨I.ok.mod, by show cenv.scope.kind = _; rw [hsc]; exact ok.kind, by show cenv.globals = _; rw [← hcenv]; exact I.ok.glob, by show cenv.builtins = _; rw [← hcenv]; exact I.ok.blt, by show s.heap.objs.size ≤ cenv.locals; rw [hL]; exact Nat.le_refl _,
      fun y z c e1 e2 => ?_, fun y hy => ?_, fun y c z e => ?_, I.ok.hd, I.ok.frames, .inl rfl, fun b hb => ⟨?_, fun y c e z => ?_⟩, I.bs, Nat.le_trans I.ok.bsz I.sz, fun b o e hb => ?_, fun b hb z => ?_, I.stack, I.stkFree⟩
    · have e1 : cenv.cells.lookup y = some c := e1
      have e2 : cenv.cells.lookup z = some c := e2
      rw [hcl] at e1 e2
      refine cells_inj (fun p hp => ?_) (fun y z c a b => I.ok.inj y z c (cm a).1 (cm b).1) (PySem.mem_of_lookup e1) (PySem.mem_of_lookup e2)
      rw [Heap.size_push]
      exact Nat.lt_succ_of_lt (cm (y := p.1) (c := p.2) hp).2
    · show ∃ c, cenv.cells.lookup y = some c
      have key : ∀ k, cenv.kindOf y = some k → (k = .cell ∨ k = .free) → ∃ c, cenv.cells.lookup y = some c := fun k hk hk' => by
        unfold Env.kindOf at hk
        rw [hsc] at hk
        obtain ⟨k', e, r⟩ := lookup_relS hk
        have : k' = .cell ∨ k' = .free := by
          rcases r with rfl | ⟨rfl, _⟩
          · exact hk'
          · exact .inr rfl
        rcases this with rfl | rfl
        · obtain ⟨c, hm⟩ := cells_has (n := (s.heap.push { cls := .type "dict", data := .dict #[] }).objs.size) (acc := cloFrom X.env.cells scope.names []) (PySem.mem_of_lookup e)
          obtain ⟨c', e'⟩ := mem_lookup hm
          exact ⟨c', by rw [hcl]; exact e'⟩
        · obtain ⟨c, h1, _⟩ := look e
          exact ⟨c, h1⟩
      rcases hy with hy | hy
      · exact key _ hy (.inl rfl)
      · exact key _ hy (.inr rfl)
    · have z : (scope.names.lookup y == some NameKind.cell) = true := z
      have z : scope.names.lookup y = some .cell := by simpa using z
      have e : cenv.cells.lookup y = some c := e
      rw [hcl] at e
      rcases cells_mem (PySem.mem_of_lookup e) with hm | ⟨_, h2, _⟩
      · rcases cloFrom_mem hm with hm | ⟨h1, _⟩
        · cases hm
        · have q := ok.uniq _ h1
          rw [z] at q; cases q
      · rw [Heap.size_push] at h2
        exact Nat.le_of_succ_le h2
    · show b ≠ cenv.locals
      rw [hL]; exact Nat.ne_of_lt (hfp b hb).2
    · have e : cenv.cells.lookup y = some c := e
      rcases mem e with ⟨h1, _⟩ | ⟨h1, _⟩
      · exact (hfp b hb).1.2.2.2.2.1 y c h1 z
      · have h2 : s.heap.objs.size + 1 ≤ b := by rw [← z]; exact h1
        exact absurd (Nat.lt_of_lt_of_le (hfp b hb).2 (Nat.le_of_succ_le h2)) (Nat.lt_irrefl _)
    · rcases (hfp b hb).1.2.2.2.1 with z | z
      · exact I.ok.noex b o e z
      · exact absurd (Nat.lt_of_lt_of_le (Heap.lt_size e) (Nat.le_trans I.ok.bsz z)) (Nat.lt_irrefl _)
    · rcases List.mem_cons.mp (I.stkSub b z) with z | z
      · exact (hfp b hb).1.2.1 z
      · exact (hfp b hb).1.2.2.1 z
  refine ⟨okB, rfl, I.bare, Un.kept kp, ⟨fun _ => none, ?_, fun i y av e1 e2 e3 => ?_⟩, fun y c e => ?_, ?_, fun y c e => ?_, fun p hp => ?_, I.hok.kept kp, by rw [wipe_length]; exact I.len⟩
  · show Heap.Ns _ cenv.locals _
    rw [hL]
    exact Heap.Ns.keeps (Heap.Ns.new ..) fun b o e => pushCells_keeps _ _ _ _ e
  · obtain ⟨e2, hne⟩ := wipe_some e2
    have hfr : scope.names.lookup y = some .free ∧ (cenv.kindOf y = some .cell ∨ cenv.kindOf y = some .free) := by
      have key : ∀ k, cenv.scope.names.lookup y = some k → k = .local ∨ k = .cell ∨ k = .free → scope.names.lookup y = some .free ∧ (cenv.kindOf y = some .cell ∨ cenv.kindOf y = some .free) := fun k hk hk' => by
        have hk0 := hk
        rw [hsc] at hk
        obtain ⟨k', e, r⟩ := lookup_relS hk
        have no : ¬ (k' = .local ∨ k' = .cell) := fun hh => by
          rcases ok.own _ (PySem.mem_of_lookup e) hh with e' | e'
          · obtain ⟨p, hp, hpy⟩ := List.mem_map.mp e'
            have e3 := ok.ix p hp
            have : p.1 = y := hpy
            rw [this] at e3
            exact hne (List.mem_map.mpr ⟨p, hp, nodup_ix hN e3 e1⟩)
          · exact e' (List.mem_of_getElem? e1)
        rcases r with rfl | ⟨rfl, rfl⟩
        · rcases hk' with rfl | rfl | rfl
          · exact absurd (.inl rfl) no
          · exact absurd (.inr rfl) no
          · exact ⟨e, .inr hk0⟩
        · exact ⟨e, .inl hk0⟩
      have e3 : Vis cenv.scope y := e3
      rcases e3 with e3 | e3 | e3
      · exact key _ e3 (.inl rfl)
      · exact key _ e3 (.inr (.inl rfl))
      · exact key _ e3 (.inr (.inr rfl))
    obtain ⟨m, hn, hl⟩ := I.loc
    have hvis : Vis X.env.scope y := (ok.free _ (PySem.mem_of_lookup hfr.1) rfl).elim (fun k => .inr (.inl k)) (fun k => .inr (.inr k))
    obtain ⟨w, r, q⟩ := hl i y av e1 e2 hvis
    refine ⟨w, r, .inr ⟨hfr.2, ?_⟩⟩
    obtain ⟨c, h1, h2⟩ := look hfr.1
    rcases q with ⟨k, _⟩ | ⟨_, c', e', z⟩
    · have k : X.env.scope.names.lookup y = some .local := k
      rcases ok.free _ (PySem.mem_of_lookup hfr.1) rfl with k' | k' <;> rw [show X.env.scope.names.lookup y = _ from k'] at k <;> cases k
    · rw [h2] at e'; cases e'
      exact ⟨c, h1, z.keeps kp⟩
  · have e : cenv.cells.lookup y = some c := e
    rcases mem e with ⟨h1, _⟩ | ⟨_, z⟩
    · obtain ⟨w, z⟩ := I.cell y c h1
      exact ⟨w, z.keeps kp⟩
    · exact ⟨_, z⟩
  · show H cenv.locals = none
    rw [hL]; exact I.hok.fresh (Nat.le_refl _)
  · have e : cenv.cells.lookup y = some c := e
    rcases mem e with ⟨h1, _⟩ | ⟨h1, _⟩
    · exact I.freeC y c h1
    · exact I.hok.fresh (Nat.le_of_succ_le h1)
  · exact absurd (show p ∈ ([] : List (Addr × Obj)) ++ [] from hp) (by simp)

theorem app_ok {E : Value → Shared → Prop} {D : Addr} {xs : List V} {y : V} {v : Value} {Q : Value → Shared → Prop} (I : Inv X pins σ H s) (hD : H D = some (.lst xs)) (hz : xs.length < sizeLine) (r : RelV y v)
    (h : ∀ s', Inv X pins σ (upd H D (.lst (xs ++ [y]))) s' → Q .none s') : wpAny (model X.prog X.w) X.A (call (.builtin "list.append") [.ref D, v]) Q E s := by
  obtain ⟨hz', its, n, ri, e⟩ := I.hok D _ hD
  have hl := ri.length
  refine append_at (hsz := by rw [List.size_toArray]; omega) e fun h' sb ho' => ?_
  refine h { s with heap := h' } (I.write (t' := s.toks) (by rw [hD]; trivial) (.inl rfl) (fun b u hb q => (sb.2 b hb).trans q) ⟨_, ho'⟩ ⟨by rw [List.length_append]; exact hz, its ++ [v], n + 1, ri.append (.cons r .nil), ?_⟩)
  rw [ho']
  simp

def PTs (X : Cx) (ifs : List Expr) (t : TT) : Prop :=
  ∀ (pins : List (Addr × Obj)) (s : Shared) (σ : St) (H : Hp) (Q : Bool → Hp → Prop), Inv X pins σ H s → t σ H Q →
    wpAny (model X.prog X.w) X.A (forIn ifs true fun c r => if r = true then do let ok ← isTrue c X.env (eval c X.env); pure (ForInStep.yield ok) else pure (ForInStep.yield r)) (TP X pins σ Q) X.xe s
def tYes : TT := fun _ H Q => Q true H
theorem pts_nil : PTs X [] tYes := fun _ _ _ H _ I h => wpAny_tests_nil ⟨H, I, h⟩
theorem pts_one {c : Expr} {t : TT} (h : PT X c t) : PTs X [c] t := fun pins s σ H Q I hw => wpAny_tests_one (h pins s σ H Q I hw)
end
theorem thnF {α : Type} {t : Sem α} {Q Q' : α → Shared → Prop} {M : Model} {A : Around} {E : Value → Shared → Prop} {s : Shared} (h : wpAny M A t Q (fun _ _ => False) s) (hQ : ∀ a s, Q a s → Q' a s) : wpAny M A t Q' E s := wpAny_mono h hQ fun _ _ z => False.elim z

theorem compLoop_any {prog : Program} {w : World} {A : Around} {R : Result → Shared → Prop} {s : Shared} {elt target iter : Expr} {ifs : List Expr} {scope : Scope} {pos : Pos} {it acc : Value} {env : Env} (I : Nat → Shared → Prop)
    (turn : ∀ n s, I n s → wpAny (model prog w) A (pyNext it) (fun r s₁ => match r with
      | none => R (.ok .next) s₁
      | some v => wpAny (model prog w) A (letOwnedTupleGo target it v) (fun _ s₁' => wpAny (model prog w) A (assign target env v) (fun _ s₂ =>
          wpAny (model prog w) A (forIn ifs true fun c r => if r = true then do let ok ← isTrue c env (eval c env); pure (ForInStep.yield ok) else pure (ForInStep.yield r)) (fun ok s₃ =>
            if ok = true then wpAny (model prog w) A (eval elt env) (fun x s₄ =>
              wpAny (model prog w) A (call (.builtin "list.append") [acc, x]) (fun _ s₅ => ∃ m, m < n ∧ I m s₅) (notedBy (model prog w) A env fun e s' => R (.error e) s') s₄) (notedBy (model prog w) A env fun e s' => R (.error e) s') s₃
            else ∃ m, m < n ∧ I m s₃) (notedBy (model prog w) A env fun e s' => R (.error e) s') s₂) (notedBy (model prog w) A env fun e s' => R (.error e) s') s₁') (notedBy (model prog w) A env fun e s' => R (.error e) s') s₁) (notedBy (model prog w) A env fun e s' => R (.error e) s') s)
    (n : Nat) (h : I n s) :
    codeAny (model prog w) A (.compLoop (.ListComp elt [⟨target, iter, ifs, 0⟩] scope pos) 0 it acc env) R s := by
  refine codeAny_loop rfl I (fun n s hI => ?_) n h
  show wpAny _ A ((compTurn (.ListComp elt [⟨target, iter, ifs, 0⟩] scope pos) 0 it acc env).onRaise (fun x => do noteFrame x env; theTreesLotGoes x)) _ _ s
  refine wpAny_noted ?_
  rw [compTurn_list]
  refine wpAny_bind (wpAny_standAt (wpAny_bind (wpAny_mono (turn n s hI) (fun r s₁ h₁ => ?_) fun _ _ h' => h')))
  cases r with
  | none => exact wpAny_pure h₁
  | some v =>
    refine wpAny_bind (wpAny_mono h₁ (fun _ s₁' h₁' => ?_) fun _ _ h' => h')
    refine wpAny_bind (wpAny_mono h₁' (fun _ s₂ h₂ => wpAny_bind (wpAny_mono h₂ (fun ok s₃ h₃ => ?_) fun _ _ h' => h')) fun _ _ h' => h')
    cases ok with
    | false => exact wpAny_pure ⟨rfl, h₃⟩
    | true =>
      exact wpAny_bind (wpAny_bind (wpAny_mono h₃ (fun x s₄ h₄ => wpAny_bind (wpAny_mono h₄ (fun _ s₅ h₅ => wpAny_pure (wpAny_pure ⟨rfl, h₅⟩)) fun _ _ h' => h')) fun _ _ h' => h'))

section
variable {X : Cx}
def tLc (wi : TI) (g : TG) (tt : TT) (te : TE) (vs : List Nat) : TE := fun σ H Q => wi σ H fun J H1 => ∀ D, H1 D = none → ∃ W : Nat → Nat → Hp → Prop, (∃ m, W 0 m (upd H1 D (.lst []))) ∧ ∀ i m H, W i m H →
  (J.stop i H ∧ Q (.ref D) H) ∨ (J.go i H ∧ ∃ Nx : Hp → Prop, (∀ H', Nx H' → ∃ m', m' < m ∧ W (i + 1) m' H') ∧ ∀ x H', J.yld i H x H' → g x (wipe σ vs) H' fun σ2 H2 => wipe σ2 vs = wipe σ vs ∧ tt σ2 H2 fun b H3 =>
    if b = true then te σ2 H3 fun y H4 => ∃ acc, H4 D = some (.lst acc) ∧ acc.length < sizeLine ∧ Nx (upd H4 D (.lst (acc ++ [y]))) else Nx H3)
theorem lc_core {pins : List (Addr × Obj)} {s : Shared} {σ : St} {H : Hp} {Q : VK} {elt tg iter : Expr} {ifs : List Expr} {scope : Scope} {own : List (Str × Nat)} {pos pos' : Pos} {wi : TI} {g : TG} {tt : TT} {te : TE} {use : Option (Value → Sem Unit)} {Qf : Value → Shared → Prop}
    (hc : X.calm = true) (hN : X.N.Nodup) (I : Inv X pins σ H s) (hi : PI X tg iter wi) (ok : BlkOk X.N X.env.scope scope own)
    (hg : ∀ (s : Shared) (H : Hp) (C : Addr) (cl : List (Str × Addr)) (fp : List Addr), PG (X.blk s H scope (compEnvC scope cl C X.env) fp) tg g) (ht : ∀ (s : Shared) (H : Hp) (C : Addr) (cl : List (Str × Addr)) (fp : List Addr), PTs (X.blk s H scope (compEnvC scope cl C X.env) fp) ifs tt)
    (he : ∀ (s : Shared) (H : Hp) (C : Addr) (cl : List (Str × Addr)) (fp : List Addr), PE (X.blk s H scope (compEnvC scope cl C X.env) fp) elt te) (hs : ∀ x, foldedSetIterable iter X.env x = pure x)
    (h : tLc wi g tt te (own.map (·.2)) σ H Q)
    (hRR : ∀ D C s' m H', Inv X pins σ H' s' → Q (.ref D) H' → s'.heap.Ns C m → FpOk X pins H' C → compPost (model X.prog X.w) X.A X.xe use Qf (.ref D) C (.ok .next) s') :
    wpAny (model X.prog X.w) X.A (comprehension (.ListComp elt [⟨tg, iter, ifs, 0⟩] scope pos) scope X.env pos' (newList []) false (eval iter X.env) use) Qf X.xe s := by
  have hfree : ∀ y ∈ scope.names, y.2 = .free → ∃ c, X.env.cells.lookup y.1 = some c := fun y hy e => by
    rcases ok.free y hy e with k | k
    · exact I.ok.has _ (.inl k)
    · exact I.ok.has _ (.inr k)
  refine wpAny_comprehension_free (use := use) rfl hs (closure_ok hfree) ok.kind (fun y hy e => by rw [ok.uniq y hy, e])
    (thn (hi pins s σ H _ I h) fun xv s1 hx => thn hx fun itv s2 h2 => ?_)
  obtain ⟨it, fp, tn, J, H2, e, I2, T, st2, f2, q⟩ := h2
  subst e
  refine wpAny_newObj_type (newEnv_comp ?_) (by show 0 ≤ sizeLine; decide)
  generalize hD : s2.heap.objs.size = D
  have hDn : H2 D = none := I2.hok.fresh (Nat.le_of_eq hD)
  obtain ⟨W, ⟨m0, w0⟩, turn⟩ := q D hDn
  -- the new list
  generalize hs3 : ({ s2 with heap := s2.heap.push { cls := .type "list", data := .seq ([] : List Value).toArray } } : Shared) = s3
  have I3 : Inv X pins σ (upd H2 D (.lst [])) s3 := by
    rw [← hs3]
    refine I2.laid (t' := s2.toks) (fun b o e => Heap.get?_push_of_some _ e) (Nat.le_of_eq hD) ⟨Nat.zero_le _, [], 0, .nil, ?_⟩
    rw [← hD]
    exact Heap.get?_push_size _ rfl
  have h3 : s3.heap = s2.heap.push { cls := .type "list", data := .seq ([] : List Value).toArray } := by rw [← hs3]
  have sz : ∀ b ∈ fp, b < s2.heap.objs.size := fun b hb => by
    obtain ⟨o, e, _⟩ := T.obj _ _ st2 b hb
    exact Heap.lt_size e
  have f3 : ∀ b ∈ fp, FpOk X pins (upd H2 D (.lst [])) b ∧ b < s3.heap.objs.size := fun b hb => by
    have hlt := sz b hb
    refine ⟨⟨?_, (f2 b hb).2⟩, by rw [h3, Heap.size_push]; exact Nat.lt_succ_of_lt hlt⟩
    rw [upd_ne (by rw [← hD]; exact Nat.ne_of_lt hlt)]
    exact (f2 b hb).1
  have st3 : tn 0 s3.heap := T.keep _ _ _ st2 fun b _ o e => by rw [h3]; exact Heap.get?_push_of_some _ e
  have I4 := block_start I3 ok hN f3
  have pg := hg s3 (upd H2 D (.lst [])) s3.heap.objs.size (cellsFrom (s3.heap.objs.size + 1) scope.names (cloFrom X.env.cells scope.names [])) fp
  have pt := ht s3 (upd H2 D (.lst [])) s3.heap.objs.size (cellsFrom (s3.heap.objs.size + 1) scope.names (cloFrom X.env.cells scope.names [])) fp
  have pe := he s3 (upd H2 D (.lst [])) s3.heap.objs.size (cellsFrom (s3.heap.objs.size + 1) scope.names (cloFrom X.env.cells scope.names [])) fp
  show codeAny _ _ (.compStart (.ListComp elt [⟨tg, iter, ifs, 0⟩] scope pos) 0 (.ref it) (.ref D) (compEnvC scope (cellsFrom (s3.heap.objs.size + 1) scope.names (cloFrom X.env.cells scope.names [])) s3.heap.objs.size X.env)) (compPost (model X.prog X.w) X.A X.xe use Qf (.ref D) s3.heap.objs.size) { s3 with heap := pushCells (s3.heap.push { cls := .type "dict", data := .dict #[] }) scope.names }
  have nfp : ∀ b ∈ fp, (upd H2 D (.lst [])) b = none := fun b hb => (f3 b hb).1.1
  generalize hce : compEnvC scope (cellsFrom (s3.heap.objs.size + 1) scope.names (cloFrom X.env.cells scope.names [])) s3.heap.objs.size X.env = ce at I4 pg pt pe ⊢
  have cL : ce.locals = s3.heap.objs.size := by subst hce; rfl
  generalize hH3 : upd H2 D (.lst []) = H3 at I3 I4 pg pt pe w0 nfp f3
  generalize hs4 : ({ s3 with heap := pushCells (s3.heap.push { cls := .type "dict", data := .dict #[] }) scope.names } : Shared) = s4 at I4 ⊢
  have st4 : tn 0 s4.heap := T.keep _ _ _ st3 fun b _ o e => by rw [← hs4]; exact pushCells_keeps _ _ _ _ (Heap.get?_push_of_some _ e)
  have stat : ∀ {σ' : St} {H' : Hp} {s' : Shared}, Inv (X.blk s3 H3 scope ce fp) [] σ' H' s' → (∀ b ∈ fp, H' b = none) → ∀ b ∈ fp, FpOk (X.blk s3 H3 scope ce fp) [] H' b := fun {σ' H' s'} I' hn b hb =>
    ⟨hn b hb, (I'.ok.exf b hb).1, I'.ok.exfs b hb, .inl hb, fun x c e => (I'.ok.exf b hb).2 x c e, fun p hp => absurd (show p ∈ ([] : List (Addr × Obj)) ++ [] from hp) (by simp)⟩
  have loop : codeAny (model X.prog X.w) X.A (.compLoop (.ListComp elt [⟨tg, iter, ifs, 0⟩] scope pos) 0 (.ref it) (.ref D) ce) (compPost (model X.prog X.w) X.A X.xe use Qf (.ref D) s3.heap.objs.size) s4 := by
    refine compLoop_any (fun n s' => ∃ i H', Inv (X.blk s3 H3 scope ce fp) [] (wipe σ (own.map (·.2))) H' s' ∧ tn i s'.heap ∧ (∀ b ∈ fp, H' b = none) ∧ W i n H') ?_ m0 ⟨0, H3, I4, st4, nfp, w0⟩
    rintro n s5 ⟨i, H5, I5, st5, n5, w5⟩
    rcases turn i n H5 w5 with ⟨stop, qq⟩ | ⟨go, Nx, hNx, step⟩
    · have td := T.done (X.blk s3 H3 scope ce fp) rfl rfl rfl hc i [] s5 _ H5 (fun _ _ => False) I5 (stat I5 n5) st5 stop
      refine thnF td fun r s6 ⟨hr, I6⟩ => ?_
      subst hr
      -- back in the def's context
      have I7 : Inv X pins σ H5 s6 := I3.call' (ch := fp) I6.os I6.base I6.hok I6.bare fun b hb => ⟨(f3 b hb).1.2.2.2.1, (f3 b hb).1.2.1, (f3 b hb).1.2.2.2.2.1, (f3 b hb).1.2.2.2.2.2⟩
      have nC : H5 s3.heap.objs.size = none := by
        have z : H5 ce.locals = none := I6.free
        rw [cL] at z
        exact z
      obtain ⟨m, hn, _⟩ := I6.loc
      have hn : s6.heap.Ns ce.locals m := hn
      rw [cL] at hn
      exact hRR D s3.heap.objs.size s6 m H5 I7 qq hn (I3.fpOk (Nat.le_refl _) nC)
    · have ti := T.item (X.blk s3 H3 scope ce fp) rfl rfl rfl hc i [] s5 _ H5 (fun _ _ => False) I5 (stat I5 n5) st5 go
      refine thnF ti fun r s6 ⟨u, hr, h6⟩ => ?_
      subst hr
      refine thnF h6 fun _ s7 ⟨x, H7, I7, r7, y7, st7, n7⟩ => ?_
      have I7' := I7.pinned (stat I7 n7) (T.obj _ _ st7)
      refine thnF (pg _ s7 _ H7 x u _ I7' r7 (step x H7 y7)) fun _ s8 ⟨σ8, H8, I8, hw8, q8⟩ => ?_
      refine thnF (pt _ s8 σ8 H8 _ I8 q8) fun b s9 ⟨H9, I9, q9⟩ => ?_
      -- the turn's end
      have fin : ∀ {s' : Shared} {H' : Hp}, Inv (X.blk s3 H3 scope ce fp) ([] ++ pinsAt fp s7.heap) σ8 H' s' → Nx H' → ∃ m, m < n ∧ ∃ i H', Inv (X.blk s3 H3 scope ce fp) [] (wipe σ (own.map (·.2))) H' s' ∧ tn i s'.heap ∧ (∀ b ∈ fp, H' b = none) ∧ W i m H' := fun {s' H'} I' nx => by
        obtain ⟨m', hm, w'⟩ := hNx H' nx
        have pin' : ∀ b ∈ fp, ∀ o, s7.heap.get? b = some o → s'.heap.get? b = some o ∧ H' b = none := fun b hb o e =>
          let z := I'.pin (b, o) (List.mem_append_right _ (List.mem_append_right _ (mem_pinsAt hb e)))
          ⟨z.1, z.2.1⟩
        have hl : (wipe σ (own.map (·.2))).length = σ8.length := by rw [← hw8, wipe_length]
        refine ⟨m', hm, i + 1, H', (I'.unpinned (pins := [])).weak hl (fun j v e => ?_), T.keep _ _ _ st7 fun b hb o e => (pin' b hb o e).1, fun b hb => ?_, w'⟩
        · rw [← hw8] at e
          exact (wipe_some e).1
        · obtain ⟨o, e, _⟩ := T.obj _ _ st7 b hb
          exact (pin' b hb o e).2
      cases b with
      | false =>
        simp only [Bool.false_eq_true, if_false] at q9 ⊢
        exact fin I9 q9
      | true =>
        simp only [if_true] at q9 ⊢
        refine thnF (pe _ s9 σ8 H9 _ I9 q9) fun z s10 ⟨yv, H10, I10, r10, acc, hD10, hz10, nx⟩ => ?_
        exact app_ok (X := X.blk s3 H3 scope ce fp) I10 hD10 hz10 r10 fun s11 I11 => fin I11 nx
  exact codeAny_compStart_list loop (T.self X.A 0 _ _ _ st4 loop)
theorem pe_lc {elt tg iter : Expr} {ifs : List Expr} {scope : Scope} {own : List (Str × Nat)} {pos : Pos} {wi : TI} {g : TG} {tt : TT} {te : TE} (hc : X.calm = true) (hN : X.N.Nodup) (hi : PI X tg iter wi) (ok : BlkOk X.N X.env.scope scope own)
    (hg : ∀ (s : Shared) (H : Hp) (C : Addr) (cl : List (Str × Addr)) (fp : List Addr), PG (X.blk s H scope (compEnvC scope cl C X.env) fp) tg g) (ht : ∀ (s : Shared) (H : Hp) (C : Addr) (cl : List (Str × Addr)) (fp : List Addr), PTs (X.blk s H scope (compEnvC scope cl C X.env) fp) ifs tt)
    (he : ∀ (s : Shared) (H : Hp) (C : Addr) (cl : List (Str × Addr)) (fp : List Addr), PE (X.blk s H scope (compEnvC scope cl C X.env) fp) elt te) (hs : ∀ x, foldedSetIterable iter X.env x = pure x := by intro _; rfl) :
    PE X (.ListComp elt [⟨tg, iter, ifs, 0⟩] scope pos) (tLc wi g tt te (own.map (·.2))) := by
  intro pins s σ H Q I h
  rw [eval_ListComp]
  refine lc_core hc hN I hi ok hg ht he hs h fun D C s' m H' I' q hn f => ⟨m, hn, fun h'' sb => ?_⟩
  obtain ⟨f0, f1, f2, f3, f4, f5⟩ := f
  exact ⟨.ref D, H', I'.turned (t' := s'.toks) (fun b o hb e => (sb.2 b hb).trans e) f0 f1 f3 f4 f5, rfl, q⟩
theorem ps_setLc {i : Nat} {y : Str} {py : Pos} {elt tg iter : Expr} {ifs : List Expr} {scope : Scope} {own : List (Str × Nat)} {pos spos : Pos} {wi : TI} {g : TG} {tt : TT} {te : TE} (hc : X.calm = true) (hN : X.N.Nodup) (hy : X.N[i]? = some y) (hyl : X.env.scope.names.lookup y = some .local)
    (hsw : swapsWith (.ListComp elt [⟨tg, iter, ifs, 0⟩] scope pos) (some (.Name y py)) spos.line X.env = pure true) (hi : PI X tg iter wi) (ok : BlkOk X.N X.env.scope scope own)
    (hg : ∀ (s : Shared) (H : Hp) (C : Addr) (cl : List (Str × Addr)) (fp : List Addr), PG (X.blk s H scope (compEnvC scope cl C X.env) fp) tg g) (ht : ∀ (s : Shared) (H : Hp) (C : Addr) (cl : List (Str × Addr)) (fp : List Addr), PTs (X.blk s H scope (compEnvC scope cl C X.env) fp) ifs tt)
    (he : ∀ (s : Shared) (H : Hp) (C : Addr) (cl : List (Str × Addr)) (fp : List Addr), PE (X.blk s H scope (compEnvC scope cl C X.env) fp) elt te) (hs : ∀ x, foldedSetIterable iter X.env x = pure x := by intro _; rfl) :
    PS X (.Assign [.Name y py] (.ListComp elt [⟨tg, iter, ifs, 0⟩] scope pos) spos) (tAsg (tLc wi g tt te (own.map (·.2))) (gName i)) := by
  intro pins s σ H D I h
  rw [exec_Assign_Name_used _ _ _ _ hsw]
  refine wpAny_bind (wpAny_standAt (wpAny_bind ?_))
  show wpAny _ X.A (do let _ ← comprehension (.ListComp elt [⟨tg, iter, ifs, 0⟩] scope pos) scope X.env (firstIterPos [⟨tg, iter, ifs, 0⟩] pos) (newList []) false (eval iter X.env) (some (assign (.Name y py) X.env))) _ _ s
  have h : tLc wi g tt te (own.map (·.2)) σ H (fun x H1 => gName i x σ H1 D.nx) := h
  refine wpAny_bind (thn (lc_core (Qf := fun _ s' => SP X pins D .next s') hc hN I hi ok hg ht he hs h fun L C s' m H' I' q hn f => ?_) fun _ s' hq => wpAny_pure (wpAny_pure hq))
  show wpAny _ _ (assign (.Name y py) X.env (.ref L)) _ _ _
  refine wpAny_assign_Name (store_ok2 (v := V.ref L) I' hN hy (.inl hyl) rfl (fun s2 I2 ⟨a, sb, ha⟩ => ?_) (.inr hyl))
  obtain ⟨f0, f1, f2, f3, f4, f5⟩ := f
  have haC : C ≠ a := by
    rcases ha with z | z
    · rw [z]; exact f1
    · exact fun e => f4 y a z e.symm
  refine ⟨m, hn.sameBut sb haC, fun h3 sb3 => ?_⟩
  exact ⟨_, H', I2.turned (t' := s2.toks) (fun b o hb e => (sb3.2 b hb).trans e) f0 f1 f3 f4 f5, q⟩
theorem sw_true {elt : Expr} {gs : List Comprehension} {scope : Scope} {pos py : Pos} {y : Str} {l : Nat} {env : Env} (hk : env.scope.kind = .function) (hy : env.scope.names.lookup y = some .local) (hl : (py.line == pos.line) = true)
    (ha : (scope.names.any fun (n, k) => n == y && (k == .local || k == .cell)) = false) : swapsWith (.ListComp elt gs scope pos) (some (.Name y py)) l env = pure true := by
  have ky : env.kindOf y = some .local := hy
  have hb : env.blockKind = .function := by unfold Env.blockKind; rw [hk]; rfl
  unfold swapsWith
  simp only [hb, ky, ha, Expr.pos, hl]
  rfl
end
theorem lc_range {lo : Int} {n : Nat} {g : TG} {tt : TT} {te : TE} {vs : List Nat} {σ : St} {H1 : Hp} {D : Addr} {Qd : Hp → Prop} (Pv : Nat → Hp → Prop) (h0 : Pv 0 (upd H1 D (.lst [])))
    (hs : ∀ i H, i < n → Pv i H → g (.int (lo + i)) (wipe σ vs) H fun σ2 H2 => wipe σ2 vs = wipe σ vs ∧ tt σ2 H2 fun b H3 =>
      if b = true then te σ2 H3 fun y H4 => ∃ acc, H4 D = some (.lst acc) ∧ acc.length < sizeLine ∧ Pv (i + 1) (upd H4 D (.lst (acc ++ [y]))) else Pv (i + 1) H3) (hd : ∀ H, Pv n H → Qd H) :
    ∃ W : Nat → Nat → Hp → Prop, (∃ m, W 0 m (upd H1 D (.lst []))) ∧ ∀ i m H, W i m H →
      ((Itr lo n).stop i H ∧ Qd H) ∨ ((Itr lo n).go i H ∧ ∃ Nx : Hp → Prop, (∀ H', Nx H' → ∃ m', m' < m ∧ W (i + 1) m' H') ∧ ∀ x H', (Itr lo n).yld i H x H' → g x (wipe σ vs) H' fun σ2 H2 => wipe σ2 vs = wipe σ vs ∧ tt σ2 H2 fun b H3 =>
        if b = true then te σ2 H3 fun y H4 => ∃ acc, H4 D = some (.lst acc) ∧ acc.length < sizeLine ∧ Nx (upd H4 D (.lst (acc ++ [y]))) else Nx H3) := by
  refine ⟨fun i m H => m = n - i ∧ i ≤ n ∧ Pv i H, ⟨n, by simp, Nat.zero_le _, h0⟩, ?_⟩
  rintro i m H ⟨rfl, hi, p⟩
  by_cases hlt : i < n
  · refine .inr ⟨hlt, Pv (i + 1), fun H' p' => ⟨n - (i + 1), by omega, rfl, hlt, p'⟩, fun x H' y => ?_⟩
    obtain ⟨e, y⟩ := y
    subst e y
    exact hs i _ hlt p
  · have e : i = n := by omega
    subst e
    exact .inl ⟨Nat.le_refl _, hd H p⟩
theorem lc_list {K : PySem.W.Frag} {a : Addr} {xs : List V} {g : TG} {tt : TT} {te : TE} {vs : List Nat} {σ : St} {H1 : Hp} {D : Addr} {Qd : Hp → Prop} (Pv : Nat → Hp → Prop) (h0 : Pv 0 (upd H1 D (.lst []))) (hl : ∀ i H, i ≤ xs.length → Pv i H → SqL K H a xs)
    (hs : ∀ i x H, xs[i]? = some x → Pv i H → g x (wipe σ vs) H fun σ2 H2 => wipe σ2 vs = wipe σ vs ∧ tt σ2 H2 fun b H3 =>
      if b = true then te σ2 H3 fun y H4 => ∃ acc, H4 D = some (.lst acc) ∧ acc.length < sizeLine ∧ Pv (i + 1) (upd H4 D (.lst (acc ++ [y]))) else Pv (i + 1) H3) (hd : ∀ H, Pv xs.length H → Qd H) :
    ∃ W : Nat → Nat → Hp → Prop, (∃ m, W 0 m (upd H1 D (.lst []))) ∧ ∀ i m H, W i m H →
      ((Itl K a).stop i H ∧ Qd H) ∨ ((Itl K a).go i H ∧ ∃ Nx : Hp → Prop, (∀ H', Nx H' → ∃ m', m' < m ∧ W (i + 1) m' H') ∧ ∀ x H', (Itl K a).yld i H x H' → g x (wipe σ vs) H' fun σ2 H2 => wipe σ2 vs = wipe σ vs ∧ tt σ2 H2 fun b H3 =>
        if b = true then te σ2 H3 fun y H4 => ∃ acc, H4 D = some (.lst acc) ∧ acc.length < sizeLine ∧ Nx (upd H4 D (.lst (acc ++ [y]))) else Nx H3) := by
  refine ⟨fun i m H => m = xs.length - i ∧ i ≤ xs.length ∧ Pv i H, ⟨xs.length, by simp, Nat.zero_le _, h0⟩, ?_⟩
  rintro i m H ⟨rfl, hi, p⟩
  have q := hl i H hi p
  by_cases hlt : i < xs.length
  · refine .inr ⟨⟨xs, xs[i], q, by simp [hlt]⟩, Pv (i + 1), fun H' p' => ⟨xs.length - (i + 1), by omega, rfl, hlt, p'⟩, fun x H' y => ?_⟩
    obtain ⟨e, y⟩ := y
    subst e
    exact hs i x _ (y xs q) p
  · have e : i = xs.length := by omega
    subst e
    exact .inl ⟨⟨xs, q, Nat.le_refl _⟩, hd H p⟩
def blkC (N : List Str) (sc scope : Scope) (own : List (Str × Nat)) : Bool :=
  (match scope.kind with | .function => true | _ => false) && (scope.names.all fun y => decide (scope.names.lookup y.1 = some y.2)) && (own.all fun p => decide (N[p.2]? = some p.1)) &&
    (scope.names.all fun y => match y.2 with
      | .free => (match sc.names.lookup y.1 with | some .cell => true | some .free => true | _ => false)
      | .local => decide (y.1 ∈ own.map (·.1)) || decide (y.1 ∉ N)
      | .cell => decide (y.1 ∈ own.map (·.1)) || decide (y.1 ∉ N)
      | _ => true)
theorem blkOk_by {N : List Str} {sc scope : Scope} {own : List (Str × Nat)} (h : blkC N sc scope own = true) : BlkOk N sc scope own := by
  unfold blkC at h
  simp only [Bool.and_eq_true, List.all_eq_true, decide_eq_true_eq] at h
  obtain ⟨⟨⟨h1, h2⟩, h3⟩, h4⟩ := h
  refine ⟨?_, h2, h3, fun y hy e => ?_, fun y hy e => ?_⟩
  · split at h1
    · assumption
    · cases h1
  · have q := h4 y hy
    simp only [e] at q
    split at q <;> first | exact .inl (by assumption) | exact .inr (by assumption) | cases q
  · have q := h4 y hy
    rcases e with e | e <;> (simp only [e, Bool.or_eq_true, decide_eq_true_eq] at q; exact q)
end L2
namespace L2
open PySem PySem.Spec PyProof.Rows

end L2
namespace L2
open PySem PySem.Spec PyProof.Rows

section
variable {X : Cx} {pins : List (Addr × Obj)} {σ : St} {H : Hp} {s : Shared} {a : Addr} {y v : V} {u r : Value} {o : Option V} {A : Around} {E : Value → Shared → Prop}

end
end L2
namespace L2
open PySem PySem.Spec PyProof.Rows

end L2
namespace L2
open PySem PySem.Spec PyProof.Rows

end L2
section 
namespace Bits
open PySem PyProof.Rows

theorem nat_xor_add_and (m : Nat) : ∀ n : Nat, (m ^^^ n) + 2 * (m &&& n) = m + n := by
  induction m using Nat.strongRecOn with
  | _ m ih =>
    intro n
    by_cases h0 : m = 0
    · subst h0
      simp
    · have ih' := ih (m / 2) (by omega) (n / 2)
      rw [← Nat.xor_div_two, ← Nat.and_div_two] at ih'
      have o1 := @Nat.xor_mod_two_eq_one m n
      have a1 := @Nat.and_mod_two_eq_one m n
      omega

theorem bitXor_pp {x y : Int} (hx : 0 ≤ x) (hy : 0 ≤ y) : Builtin.bitXor x y = ((x.toNat ^^^ y.toNat : Nat) : Int) := by
  have e := nat_xor_add_and x.toNat y.toNat
  rw [bitXor_and, bitAnd_pp hx hy]
  omega
theorem bitOr_pp {x y : Int} (hx : 0 ≤ x) (hy : 0 ≤ y) : Builtin.bitOr x y = ((x.toNat ||| y.toNat : Nat) : Int) := by
  have e := nat_or_add_and x.toNat y.toNat
  rw [bitOr_and, bitAnd_pp hx hy]
  omega
end Bits
end 
section 
namespace TL
open PySem PySem.Builtin PySem.Builtin.Str PySem.StrLaws

end TL
end 
namespace L2
open PySem PySem.Spec PyProof.Rows

section
variable {X : Cx}

theorem mt1 {id : String} {g : Str → Str → V} (rule : ∀ (a b : Str) (t u : Tok) (s : Shared) (Q : Value → Shared → Prop), (∀ (v : Value) (k : Nat), RelV (g a b) v → Q v { s with toks := k }) →
    wpAny (model X.prog X.w) X.A (call (.builtin id) [.str a t, .str b u]) Q X.xe s) : MtR X id (fun x xs H Q => ∃ a b, x = .str a ∧ xs = [.str b] ∧ Q (g a b) H) := by
  intro pins s σ H x xs v us Q I rx rs h
  obtain ⟨a, b, rfl, rfl, h⟩ := h
  obtain ⟨t, rfl⟩ := rx
  cases rs with
  | cons r1 rs =>
    cases rs
    obtain ⟨u, rfl⟩ := r1
    exact rule a b t u s _ fun v k r => ⟨g a b, H, I.tok k, r, h⟩
theorem mt_startswith : MtR X "str.startswith" (fun x xs H Q => ∃ a b, x = .str a ∧ xs = [.str b] ∧ Q (.bl (Txt.startswith a b)) H) :=
  mt1 (g := fun a b => .bl (Txt.startswith a b)) fun _ _ _ _ s _ h => PySem.SC.startswith (h _ s.toks rfl)
end
section
variable {X : Cx} {o e : Expr} {to te : TE}
def tM1 (r : V → List V → Hp → VK → Prop) (to te : TE) : TE := fun σ H Q => to σ H fun x H1 => (∃ a, x = .str a) ∧ te σ H1 fun y H2 => r x [y] H2 Q
theorem pe_m1 {id : String} {name : Str} {apos pos : Pos} {r : V → List V → Hp → VK → Prop} (slot : Slot "str" name id) (ty : typeOf (.builtin id) = pure (.type "method_descriptor")) (rule : MtR X id r) (ho : PE X o to) (he : PE X e te)
    (hs : starEach [e] X.env = [(false, eval e X.env)] := by rfl) (hbase : attributeBase o name X.env (eval o X.env) = eval o X.env := by rfl) (hline : (apos.endLine == pos.line) = true := by rfl) :
    PE X (.Call (.Attribute o name apos) [e] [] pos) (tM1 r to te) := by
  intro pins s σ H Q I h
  refine PySem.Call_method1 hbase hs hline (thn (ho pins s σ H _ I h) fun v s1 ⟨x, H1, I1, r1, q1⟩ => ?_)
  obtain ⟨⟨a, rfl⟩, q1⟩ := q1
  obtain ⟨t, rfl⟩ := _root_.id r1
  refine ⟨"str", _, F.plainAttrs_str, slot, ty, typeIs_str _ _ _, (fun _ e => nomatch e), Calls.callWith_builtin rfl (Calls.evalArgs_plain (Calls.spliced_cons ?_))⟩
  exact thn (he pins s1 σ H1 _ I1 q1) fun u s2 ⟨y, H2, I2, r2, q2⟩ => Calls.spliced_nil (rule pins s2 σ H2 _ [y] _ [u] Q I2 r1 (.cons r2 .nil) q2)

end
end L2
namespace L2
open PySem PySem.Spec PyProof.Rows

end L2
namespace Att
open PySem PySem.W PySem.Calls PyProof.Rows

section
variable {prog : Program} {w : World} {A : Around} {E : Value → Shared → Prop} {s : Shared} {K : Frag}

end
end Att
namespace L2
open PySem PySem.Spec PyProof.Rows

end L2
namespace L2
open PySem PySem.Spec PyProof.Rows

end L2
namespace L2
open PySem PySem.Spec PyProof.Rows

def inClass (s : Stmt) (j : Nat) : Stmt := match s with
  | .ClassDef _ _ _ body _ _ _ _ _ _ _ => body.getD j (.Pass ⟨0, 0, 0, 0⟩)
  | _ => .Pass ⟨0, 0, 0, 0⟩
def defArgs (s : Stmt) : Arguments := match s with
  | .FunctionDef _ a _ _ _ _ _ _ _ _ => a
  | _ => { posonlyargs := [], args := [], vararg := none, kwonlyargs := [], kw_defaults := [], kwarg := none, defaults := [] }
def defBody (s : Stmt) : List Stmt := match s with
  | .FunctionDef _ _ b _ _ _ _ _ _ _ => b
  | _ => []
def defScope (s : Stmt) : Scope := match s with
  | .FunctionDef _ _ _ _ _ _ sc _ _ _ => sc
  | _ => { kind := .function, names := [], isGenerator := false, isCoroutine := false }

abbrev CX0 : CXT := fun _ _ _ _ _ _ => False
abbrev E0 : XK := fun _ _ _ => False
theorem pass0 {X : Cx} : Passes CX0 X E0 := fun _ _ _ _ _ _ _ h => h.elim

structure Fun (K : PySem.W.Frag) (x qual : Str) (st : Stmt) (f : Addr) (fd : FuncData) : Prop where
  ex : ∃ (oc : Value) (od : Option Addr) (kV doc pm : Value) (an : Option Addr) (cdv ct : Value) (osl : Array (Option Value)),
    fd = PySem.W.fnOf x qual (defArgs st) (defBody st) (defScope st) .none kV doc pm an cdv ct ∧ K.lookup f = some ⟨oc, od, .func fd, osl⟩ ∧ PySem.W.codeIn K cdv qual = true
  kp : PySem.W.keepIn K (.ref f) = true
section
variable {P : Program} {w : World} {K : PySem.W.Frag} {mg : Str → Option Value} {base : Heap}
theorem Fun.ok {x qual : Str} {st : Stmt} {f : Addr} {fd : FuncData} {N ps : List Str} {k : Nat} {sp : Sp} (F : Fun K x qual st f fd) (S : FnScope N ps (defScope st)) (len : ∀ vs H Q E, sp vs H Q E → vs.length = ps.length)
    (hbody : ∀ (cdv : Value) (A : Around) (outer : List Env) (s : Shared) (H : Hp) (vs : List V) (Q : VK) (E : XK), Room k (A.deeper (envOfC qual (defScope st) s.heap.objs.size f cdv)) → sp vs H Q E →
      ∃ t, PSs (cxOf CX0 P w K mg base N qual (defScope st) f cdv A outer s H E).nox (defBody st) t ∧ t { nx := fun _ H' => Q .non H', rt := Q } (start N vs) H) : FnOk P w K mg base CX0 (k + 1) f fd ps sp := by
  obtain ⟨oc, od, kV, doc, pm, an, cdv, ct, osl, rfl, lk, hcd⟩ := F.ex
  refine fn_of lk hcd S len fun A outer s H vs Q E hr hsp => ?_
  obtain ⟨t, h, q⟩ := hbody cdv A outer s H vs Q E hr hsp
  exact ⟨t, h.nox, q⟩
theorem Fun.binds {x qual : Str} {st : Stmt} {f : Addr} {fd : FuncData} {ps : List Str} (F : Fun K x qual st f fd)
    (h : ∀ (kV doc pm : Value) (an : Option Addr) (cdv ct : Value) (us : List Value), us.length = ps.length → bindArgs (PySem.W.fnOf x qual (defArgs st) (defBody st) (defScope st) .none kV doc pm an cdv ct) ⟨us, []⟩ = pure (ps.zip us)) : Binds K fd ps [] := by
  obtain ⟨oc, od, kV, doc, pm, an, cdv, ct, osl, rfl, lk, hcd⟩ := F.ex
  exact .all (h kV doc pm an cdv ct)
theorem fun_mk {x qual : Str} {st : Stmt} {f : Addr} {oc : Value} {od an : Option Addr} {osl : Array (Option Value)} {kV doc pm cdv ct : Value} (l : K.lookup f = some ⟨oc, od, .func (PySem.W.fnOf x qual (defArgs st) (defBody st) (defScope st) .none kV doc pm an cdv ct), osl⟩)
    (c : PySem.W.codeIn K cdv qual = true) (k : PySem.W.keepIn K (.ref f) = true) : Fun K x qual st f (PySem.W.fnOf x qual (defArgs st) (defBody st) (defScope st) .none kV doc pm an cdv ct) := ⟨⟨oc, od, kV, doc, pm, an, cdv, ct, osl, rfl, l, c⟩, k⟩
end
theorem small1000 {n : Nat} (h : n ≤ 1000) : n < sizeLine := Nat.lt_of_le_of_lt h (by decide)

section
variable {X : Cx}
theorem pv (i : Nat) {x : Str} {pos : Pos} (hN : X.N[i]? = some x := by rfl) (hv : Vis X.env.scope x := by first | exact Or.inl rfl | exact Or.inr (Or.inl rfl) | exact Or.inr (Or.inr rfl)) (hd : (x == ("__debug__" : Str)) = false := by decide)
    (hcd : (x == ("__classdict__" : Str)) = false := by decide) : PE X (.Name x pos) (tVar i) := pe_var hN hv hd hcd
end
theorem iteF {A B : Prop} (h : B) : if false = true then A else B := by
  rw [if_neg Bool.false_ne_true]
  exact h
theorem iteT {A B : Prop} (h : A) : if true = true then A else B := by
  rw [if_pos rfl]
  exact h
theorem ite2 {c A B : Prop} [Decidable c] (h1 : c → A) (h2 : ¬ c → B) : if c then A else B := by
  by_cases h : c
  · rw [if_pos h]
    exact h1 h
  · rw [if_neg h]
    exact h2 h
theorem iteNS {c A B : Prop} [Decidable c] (hc : c) (h : B) : if (!decide c) = true then A else B := by
  rw [decide_eq_true hc]
  exact iteF h

def Same (H H' : Hp) : Prop := ∀ b o, H b = some o → H' b = some o
theorem Same.refl (H : Hp) : Same H H := fun _ _ h => h
theorem Same.trans {H H1 H2 : Hp} (a : Same H H1) (b : Same H1 H2) : Same H H2 := fun c o h => b c o (a c o h)
theorem Same.seq {K : PySem.W.Frag} {H H' : Hp} {a : Addr} {xs : List V} (e : Same H H') (h : SqL K H a xs) : SqL K H' a xs := by
  rcases h with (h | ⟨o, h⟩) | h
  · exact .inl (.inl (e _ _ h))
  · exact .inl (.inr ⟨o, e _ _ h⟩)
  · exact .inr h

end L2
end
section
set_option Elab.async false
set_option linter.all false
set_option maxRecDepth 100000
set_option maxHeartbeats 2000000
namespace L2
open PySem PySem.Spec PyProof.Rows
open PySem.W (WData Codec OpenSpec Well WellAll ReadsW ReadsAllW)
mutual
/-- x stands for the datum d, lists and tuples all the way -/
inductive Dw (K : PySem.W.Frag) (H : Hp) : V → WData → Prop
  | non : Dw K H .non .none
  | bl (b : Bool) : Dw K H (.bl b) (.bool b)
  | int (i : Int) : Dw K H (.int i) (.int i)
  | str (x : Str) : Dw K H (.str x) (.str x)
  | byt (b : Array UInt8) : Dw K H (.byt b) (.bytes b.toList)
  | lst {a : Addr} {xs : List V} {ds : List WData} : SqL K H a xs → DwAll K H xs ds → Dw K H (.ref a) (.list ds)
  | tup {a : Addr} {xs : List V} {ds : List WData} : SqT K H a xs → DwAll K H xs ds → Dw K H (.ref a) (.tuple ds)
inductive DwAll (K : PySem.W.Frag) (H : Hp) : List V → List WData → Prop
  | nil : DwAll K H [] []
  | cons {v : V} {vs : List V} {d : WData} {ds : List WData} : Dw K H v d → DwAll K H vs ds → DwAll K H (v :: vs) (d :: ds)
end
theorem dw_ints {K : PySem.W.Frag} {H : Hp} : ∀ ns : List Int, DwAll K H (ns.map V.int) (ns.map WData.int)
  | [] => .nil
  | n :: r => .cons (.int n) (dw_ints r)
theorem ints_dw {K : PySem.W.Frag} {H : Hp} : ∀ (ns : List Int) (xs : List V), DwAll K H xs (ns.map WData.int) → xs = ns.map V.int
  | [], xs, h => by
    cases h
    rfl
  | n :: r, xs, h => by
    cases h with
    | cons h1 h2 =>
      cases h1
      rw [ints_dw r _ h2] <;> rfl
section
variable {P : Program} {w : World} {K : PySem.W.Frag} {H : Hp} {h : Heap} {R : PySem.W.WRecords} {cl : Str → Option Addr}
theorem sqL_at {a : Addr} {xs : List V} (hok : HOk P w H h) (KX : K.In h) (q : SqL K H a xs) : ∃ (its : List Value) (o : Obj) (n : Nat), Vals xs its ∧ h.get? a = some o ∧ o.cls = .type "list" ∧ o.data = .seq its.toArray n := by
  rcases q with q | ⟨o, its, n, e, hc, _, hd, _, hv⟩
  · obtain ⟨_, its, n, hv, e⟩ := (show ObjOk P w H h a (.lst xs) from q.ok hok)
    exact ⟨its, _, n, hv, e, rfl, rfl⟩
  · exact ⟨its.toList, o, n, hv, KX _ _ e, hc, by simp [hd]⟩
theorem sqT_at {a : Addr} {xs : List V} (hok : HOk P w H h) (KX : K.In h) (q : SqT K H a xs) : ∃ (its : List Value) (o : Obj) (n : Nat), Vals xs its ∧ h.get? a = some o ∧ o.cls = .type "tuple" ∧ o.data = .seq its.toArray n := by
  rcases q with q | ⟨o, its, n, e, hc, hd, _, hv⟩
  · obtain ⟨_, its, hv, o, e, hc, n, hd⟩ := (show ObjOk P w H h a (.tup xs) from q.ok hok)
    exact ⟨its, o, n, hv, e, hc, hd⟩
  · exact ⟨its.toList, o, n, hv, KX _ _ e, hc, by simp [hd]⟩
mutual
theorem Dw.reads (hok : HOk P w H h) (KX : K.In h) : ∀ (d : WData) (v : V) (u : Value), Dw K H v d → RelV v u → ∃ as, ReadsW R cl h u d as
  | .none, _, _, x, r => by
    cases x
    cases r
    exact ⟨_, ReadsW.none⟩
  | .bool b, _, _, x, r => by
    cases x
    cases r
    exact ⟨_, ReadsW.bool b⟩
  | .int i, _, _, x, r => by
    cases x
    obtain ⟨t, rfl⟩ := r
    exact ⟨_, ReadsW.int i t⟩
  | .str s, _, _, x, r => by
    cases x
    obtain ⟨t, rfl⟩ := r
    exact ⟨_, ReadsW.str s t⟩
  | .bytes b, _, _, x, r => by
    cases x
    obtain ⟨t, rfl⟩ := r
    exact ⟨_, ReadsW.bytes _ t⟩
  | .list ds, _, _, x, r => by
    cases x with
    | lst hs ha =>
      cases r
      obtain ⟨its, o, n, rv, ho, hc, hd⟩ := sqL_at hok KX hs
      obtain ⟨as, hr⟩ := Dw.readsAll hok KX ds _ its ha rv
      exact ⟨_, ReadsW.list ho hc hd hr⟩
  | .tuple ds, _, _, x, r => by
    cases x with
    | tup hs ha =>
      cases r
      obtain ⟨its, o, n, rv, ho, hc, hd⟩ := sqT_at hok KX hs
      obtain ⟨as, hr⟩ := Dw.readsAll hok KX ds _ its ha rv
      exact ⟨_, ReadsW.tuple ho hc hd hr⟩
  | .float _, _, _, x, _ => by cases x
  | .dict _, _, _, x, _ => by cases x
  | .bytearray _, _, _, x, _ => by cases x
  | .set _, _, _, x, _ => by cases x
  | .frozenset _, _, _, x, _ => by cases x
  | .obj _ _, _, _, x, _ => by cases x
theorem Dw.readsAll (hok : HOk P w H h) (KX : K.In h) : ∀ (ds : List WData) (vs : List V) (us : List Value), DwAll K H vs ds → Vals vs us → ∃ as, ReadsAllW R cl h us ds as
  | [], _, _, x, r => by
    cases x
    cases r
    exact ⟨_, ReadsAllW.nil⟩
  | d :: ds, _, _, x, r => by
    cases x with
    | cons h1 h2 =>
      cases r with
      | cons r1 r2 =>
        obtain ⟨as, q1⟩ := Dw.reads hok KX d _ _ h1 r1
        obtain ⟨bs, q2⟩ := Dw.readsAll hok KX ds _ _ h2 r2
        exact ⟨_, ReadsAllW.cons q1 q2⟩
end
end
mutual
/-- data that a codec tells -/
def plW : WData → Bool
  | .none => true
  | .bool _ => true
  | .int _ => true
  | .str _ => true
  | .bytes _ => true
  | .list xs => plWs xs
  | .tuple xs => plWs xs
  | _ => false
def plWs : List WData → Bool
  | [] => true
  | x :: r => plW x && plWs r
end
theorem plWs_map {α : Type} {f : α → WData} (h : ∀ a, plW (f a) = true) : ∀ l : List α, plWs (l.map f) = true
  | [] => rfl
  | x :: r => by
    show (plW (f x) && plWs (r.map f)) = true
    rw [h x, plWs_map h r] <;> rfl
theorem pl_enc : ∀ (c : Codec) (a : c.denote), plW (c.enc a) = true
  | .unit, _ => rfl
  | .bool, _ => rfl
  | .int _ _, _ => rfl
  | .nat _ _, _ => rfl
  | .u8, _ => rfl
  | .bytes _ _, _ => rfl
  | .text _ _ _ _, _ => rfl
  | .list _ _ c, a => plWs_map (fun x => pl_enc c x) a
  | .pair c d, a => by
    show (plW (c.enc a.1) && (plW (d.enc a.2) && true)) = true
    rw [pl_enc c a.1, pl_enc d a.2] <;> rfl
  | .triple c d e, a => by
    show (plW (c.enc a.1) && (plW (d.enc a.2.1) && (plW (e.enc a.2.2) && true))) = true
    rw [pl_enc c a.1, pl_enc d a.2.1, pl_enc e a.2.2] <;> rfl
  | .option c, none => rfl
  | .option c, some x => pl_enc c x
theorem pl_encAll : ∀ (cs : List Codec) (a : Codec.denoteAll cs), plWs (Codec.encAll cs a) = true
  | [], _ => rfl
  | c :: cs, a => by
    show (plW (c.enc a.1) && plWs (Codec.encAll cs a.2)) = true
    rw [pl_enc c a.1, pl_encAll cs a.2] <;> rfl
theorem weight_mem : ∀ {xs : List WData} {d : WData}, d ∈ xs → d.weight ≤ WData.weightAll xs
  | [], d, h => absurd h (by simp)
  | x :: r, d, h => by
    show d.weight ≤ x.weight + 1 + WData.weightAll r
    rcases List.mem_cons.mp h with e | m
    · rw [e]
      omega
    · have z := weight_mem m
      omega
def toV : Value → V
  | .none => .non
  | .bool b => .bl b
  | .int i _ => .int i
  | .str x _ => .str x
  | .bytes b _ => .byt b
  | .ref a => .ref a
  | _ => .non
def OkU (A : List Addr) : Value → Prop
  | .none => True
  | .bool _ => True
  | .int _ _ => True
  | .str _ _ => True
  | .bytes _ _ => True
  | .ref a => a ∈ A
  | _ => False
theorem OkU.mono {A B : List Addr} (h : ∀ a ∈ A, a ∈ B) : ∀ {u : Value}, OkU A u → OkU B u := fun {u} x => by
  cases u with
  | ref a => exact h a x
  | none => trivial
  | bool b => trivial
  | int i t => trivial
  | str s t => trivial
  | bytes b t => trivial
  | _ => exact False.elim x
theorem relV_toV {A : List Addr} {u : Value} (x : OkU A u) : RelV (toV u) u := by
  cases u with
  | ref a => rfl
  | none => rfl
  | bool b => rfl
  | int i t => exact ⟨t, rfl⟩
  | str s t => exact ⟨t, rfl⟩
  | bytes b t => exact ⟨t, rfl⟩
  | _ => exact False.elim x
theorem vals_toV {A : List Addr} : ∀ {vs : List Value}, (∀ u ∈ vs, OkU A u) → Vals (vs.map toV) vs
  | [], _ => .nil
  | u :: r, h => .cons (relV_toV (h u (List.mem_cons_self ..))) (vals_toV fun x hx => h x (List.mem_cons_of_mem _ hx))
def ArgOb (h : Heap) (A : List Addr) (a : Addr) : Prop := ∃ vs : List Value, vs.length ≤ sizeLine ∧ (∀ u ∈ vs, OkU A u) ∧
  (h.get? a = some { cls := .type "list", data := .seq vs.toArray } ∨ h.get? a = some { cls := .type "tuple", data := .seq vs.toArray })
theorem ArgOb.mono {h : Heap} {A B : List Addr} {a : Addr} (k : ∀ a ∈ A, a ∈ B) (x : ArgOb h A a) : ArgOb h B a := by
  obtain ⟨vs, h1, h2, h3⟩ := x
  exact ⟨vs, h1, fun u hu => (h2 u hu).mono k, h3⟩
theorem wellAll_len {P : Params} {h : Heap} : ∀ {vs : List Value} {ds : List WData}, WellAll P h vs ds → vs.length = ds.length
  | _, _, .nil => rfl
  | _, _, .cons _ b => by
    show _ + 1 = _ + 1
    rw [wellAll_len b]
theorem well_list {P : Params} {h : Heap} {v : Value} {ds : List WData} (x : Well P h v (.list ds)) : ∃ (a : Addr) (vs : List Value), v = .ref a ∧ h.get? a = some { cls := .type "list", data := .seq vs.toArray } ∧ WellAll P h vs ds := by
  cases x with
  | list ho hall => exact ⟨_, _, rfl, ho, hall⟩
theorem well_tuple {P : Params} {h : Heap} {v : Value} {ds : List WData} (x : Well P h v (.tuple ds)) : ∃ (a : Addr) (vs : List Value), v = .ref a ∧ h.get? a = some { cls := .type "tuple", data := .seq vs.toArray } ∧ WellAll P h vs ds := by
  cases x with
  | tuple ho hall => exact ⟨_, _, rfl, ho, hall⟩
theorem well_cons {P : Params} {h : Heap} {us : List Value} {d : WData} {ds : List WData} (x : WellAll P h us (d :: ds)) : ∃ (v : Value) (vs : List Value), us = v :: vs ∧ Well P h v d ∧ WellAll P h vs ds := by
  cases x with
  | cons a b => exact ⟨_, _, rfl, a, b⟩
theorem line_of {n : Nat} (h : n ≤ 1048576) : n ≤ sizeLine := Nat.le_trans h (by decide)
section
variable {P : Params} {h : Heap}
mutual
theorem area_one : ∀ (d : WData) (v : Value), Well P h v d → plW d = true → d.weight ≤ 1048576 → ∃ A : List Addr, OkU A v ∧ ∀ a ∈ A, ArgOb h A a
  | .none, _, x, _, _ => by
    cases x
    exact ⟨[], trivial, fun a m => absurd m (by simp)⟩
  | .bool b, _, x, _, _ => by
    cases x
    exact ⟨[], trivial, fun a m => absurd m (by simp)⟩
  | .int i, _, x, _, _ => by
    cases x
    exact ⟨[], trivial, fun a m => absurd m (by simp)⟩
  | .str s, _, x, _, _ => by
    cases x
    exact ⟨[], trivial, fun a m => absurd m (by simp)⟩
  | .bytes b, _, x, _, _ => by
    cases x
    exact ⟨[], trivial, fun a m => absurd m (by simp)⟩
  | .list ds, _, x, p, z => by
    obtain ⟨a, vs, rfl, ho, hall⟩ := well_list x
    have z2 : WData.weightAll ds ≤ 1048576 := z
    obtain ⟨A, h1, h2⟩ := area_all ds _ hall p fun d hd => Nat.le_trans (weight_mem hd) z2
    have k : ∀ b ∈ A, b ∈ a :: A := fun b hb => List.mem_cons_of_mem _ hb
    refine ⟨a :: A, List.mem_cons_self .., fun b hb => ?_⟩
    rcases List.mem_cons.mp hb with e | m
    · rw [e]
      exact ⟨vs, line_of (by rw [wellAll_len hall]; exact Nat.le_trans (PySem.W.length_le_weightAllW ds) z2), fun u hu => (h1 u hu).mono k, .inl ho⟩
    · exact (h2 b m).mono k
  | .tuple ds, _, x, p, z => by
    obtain ⟨a, vs, rfl, ho, hall⟩ := well_tuple x
    have z2 : WData.weightAll ds ≤ 1048576 := z
    obtain ⟨A, h1, h2⟩ := area_all ds _ hall p fun d hd => Nat.le_trans (weight_mem hd) z2
    have k : ∀ b ∈ A, b ∈ a :: A := fun b hb => List.mem_cons_of_mem _ hb
    refine ⟨a :: A, List.mem_cons_self .., fun b hb => ?_⟩
    rcases List.mem_cons.mp hb with e | m
    · rw [e]
      exact ⟨vs, line_of (by rw [wellAll_len hall]; exact Nat.le_trans (PySem.W.length_le_weightAllW ds) z2), fun u hu => (h1 u hu).mono k, .inr ho⟩
    · exact (h2 b m).mono k
  | .float _, _, _, p, _ => Bool.noConfusion (show false = true from p)
  | .dict _, _, _, p, _ => Bool.noConfusion (show false = true from p)
  | .bytearray _, _, _, p, _ => Bool.noConfusion (show false = true from p)
  | .set _, _, _, p, _ => Bool.noConfusion (show false = true from p)
  | .frozenset _, _, _, p, _ => Bool.noConfusion (show false = true from p)
  | .obj _ _, _, _, p, _ => Bool.noConfusion (show false = true from p)
theorem area_all : ∀ (ds : List WData) (vs : List Value), WellAll P h vs ds → plWs ds = true → (∀ d ∈ ds, d.weight ≤ 1048576) → ∃ A : List Addr, (∀ u ∈ vs, OkU A u) ∧ ∀ a ∈ A, ArgOb h A a
  | [], _, x, _, _ => by
    cases x
    exact ⟨[], fun u m => absurd m (by simp), fun a m => absurd m (by simp)⟩
  | d :: ds, _, x, p, z => by
    obtain ⟨v, vs, rfl, x1, x2⟩ := well_cons x
    have q : plW d = true ∧ plWs ds = true := Bool.and_eq_true_iff.mp p
    obtain ⟨A, a1, a2⟩ := area_one d v x1 q.1 (z d (List.mem_cons_self ..))
    obtain ⟨B, b1, b2⟩ := area_all ds vs x2 q.2 fun e he => z e (List.mem_cons_of_mem _ he)
    have kA : ∀ b ∈ A, b ∈ A ++ B := fun b hb => List.mem_append.mpr (.inl hb)
    have kB : ∀ b ∈ B, b ∈ A ++ B := fun b hb => List.mem_append.mpr (.inr hb)
    refine ⟨A ++ B, fun u hu => ?_, fun b hb => ?_⟩
    · rcases List.mem_cons.mp hu with e | m
      · rw [e]
        exact a1.mono kA
      · exact (b1 u m).mono kB
    · rcases List.mem_append.mp hb with m | m
      · exact (a2 b m).mono kA
      · exact (b2 b m).mono kB
end
end
def hoOf (o : Obj) : Option HO := match o.data with
  | .seq vs _ => if (o.cls == Value.type "list") = true then some (.frz o (.lst (vs.toList.map toV))) else some (.frz o (.tup (vs.toList.map toV)))
  | _ => none
def argH (K : PySem.W.Frag) (h : Heap) (A : List Addr) : Hp := fun b => if b ∈ A then (if (K.lookup b).isNone = true then (h.get? b).bind hoOf else none) else none
def OnlyF (H : Hp) : Prop := ∀ b, H b = none ∨ ∃ o u, H b = some (.frz o u)
theorem hoOf_lst (vs : List Value) : hoOf { cls := .type "list", data := .seq vs.toArray } = some (.frz { cls := .type "list", data := .seq vs.toArray } (.lst (vs.map toV))) := by
  show (if (Value.type "list" == Value.type "list") = true then some (HO.frz { cls := .type "list", data := .seq vs.toArray } (.lst (vs.toArray.toList.map toV))) else some (HO.frz { cls := .type "list", data := .seq vs.toArray } (.tup (vs.toArray.toList.map toV)))) = _
  rw [if_pos (beq_self_eq_true _)]
theorem hoOf_tup (vs : List Value) : hoOf { cls := .type "tuple", data := .seq vs.toArray } = some (.frz { cls := .type "tuple", data := .seq vs.toArray } (.tup (vs.map toV))) := by
  show (if (Value.type "tuple" == Value.type "list") = true then some (HO.frz { cls := .type "tuple", data := .seq vs.toArray } (.lst (vs.toArray.toList.map toV))) else some (HO.frz { cls := .type "tuple", data := .seq vs.toArray } (.tup (vs.toArray.toList.map toV)))) = _
  rw [if_neg (by decide)]
section
variable {P : Program} {w : World} {K : PySem.W.Frag} {h : Heap} {A : List Addr}
theorem argH_at {b : Addr} {o : Obj} (hb : b ∈ A) (hk : K.lookup b = none) (e : h.get? b = some o) : argH K h A b = hoOf o := by
  unfold argH
  rw [if_pos hb, hk, if_pos (show (none : Option Obj).isNone = true from rfl), e] <;> rfl
theorem of_argH {b : Addr} {u : HO} (q : argH K h A b = some u) : b ∈ A ∧ K.lookup b = none := by
  unfold argH at q
  by_cases hb : b ∈ A
  · rw [if_pos hb] at q
    cases hk : K.lookup b with
    | none => exact ⟨hb, rfl⟩
    | some o =>
      rw [hk, if_neg (by simp)] at q
      cases q
  · rw [if_neg hb] at q
    cases q
theorem argH_is (ar : ∀ a ∈ A, ArgOb h A a) {b : Addr} {u : HO} (q : argH K h A b = some u) : K.lookup b = none ∧ ∃ vs : List Value, vs.length ≤ sizeLine ∧ (∀ u ∈ vs, OkU A u) ∧
    ((h.get? b = some { cls := .type "list", data := .seq vs.toArray } ∧ u = .frz { cls := .type "list", data := .seq vs.toArray } (.lst (vs.map toV))) ∨
     (h.get? b = some { cls := .type "tuple", data := .seq vs.toArray } ∧ u = .frz { cls := .type "tuple", data := .seq vs.toArray } (.tup (vs.map toV)))) := by
  obtain ⟨hb, hk⟩ := of_argH q
  obtain ⟨vs, h1, h2, h3⟩ := ar b hb
  refine ⟨hk, vs, h1, h2, ?_⟩
  rcases h3 with e | e
  · rw [argH_at hb hk e, hoOf_lst] at q
    exact .inl ⟨e, (Option.some.inj q).symm⟩
  · rw [argH_at hb hk e, hoOf_tup] at q
    exact .inr ⟨e, (Option.some.inj q).symm⟩
theorem argH_only (ar : ∀ a ∈ A, ArgOb h A a) : OnlyF (argH K h A) := fun b => by
  cases q : argH K h A b with
  | none => exact .inl rfl
  | some u =>
    obtain ⟨_, vs, _, _, ⟨_, e⟩ | ⟨_, e⟩⟩ := argH_is ar q
    · exact .inr ⟨_, _, by rw [e]⟩
    · exact .inr ⟨_, _, by rw [e]⟩
theorem argH_ok (ar : ∀ a ∈ A, ArgOb h A a) : HOk P w (argH K h A) h := fun b u q => by
  obtain ⟨_, vs, h1, h2, ⟨e, rfl⟩ | ⟨e, rfl⟩⟩ := argH_is ar q
  · exact ⟨e, by rw [List.length_map]; exact h1, vs, _, vals_toV h2, e⟩
  · exact ⟨e, by rw [List.length_map]; exact h1, vs, vals_toV h2, _, e, rfl, _, rfl⟩
theorem seq_inj {c c' : Value} {vs us : List Value} (e : (some { cls := c, data := .seq vs.toArray } : Option Obj) = some { cls := c', data := .seq us.toArray }) : c = c' ∧ vs = us := by
  have e1 := Option.some.inj e
  have e2 : c = c' := congrArg Obj.cls e1
  have e3 : Data.seq vs.toArray = Data.seq us.toArray := congrArg Obj.data e1
  injection e3 with e4
  refine ⟨e2, ?_⟩
  have e5 := congrArg Array.toList e4
  simpa using e5
theorem argL (KX : K.In h) (ar : ∀ a ∈ A, ArgOb h A a) {a : Addr} {vs : List Value} (ha : a ∈ A) (e : h.get? a = some { cls := .type "list", data := .seq vs.toArray }) : (∀ u ∈ vs, OkU A u) ∧ SqL K (argH K h A) a (vs.map toV) := by
  obtain ⟨us, h1, h2, h3⟩ := ar a ha
  have hu : us = vs := by
    rcases h3 with q | q
    · rw [e] at q
      exact (seq_inj q).2.symm
    · rw [e] at q
      exact absurd (Value.type.inj (seq_inj q).1) (by decide)
  subst hu
  refine ⟨h2, ?_⟩
  cases hk : K.lookup a with
  | none => exact .inl (.inr ⟨_, by rw [argH_at ha hk e, hoOf_lst]⟩)
  | some o =>
    have e2 := KX a o hk
    rw [e] at e2
    obtain rfl := Option.some.inj e2
    exact .inr ⟨_, us.toArray, _, hk, rfl, rfl, rfl, by rw [List.size_toArray]; exact h1, by simpa using vals_toV h2⟩
theorem argT (KX : K.In h) (ar : ∀ a ∈ A, ArgOb h A a) {a : Addr} {vs : List Value} (ha : a ∈ A) (e : h.get? a = some { cls := .type "tuple", data := .seq vs.toArray }) : (∀ u ∈ vs, OkU A u) ∧ SqT K (argH K h A) a (vs.map toV) := by
  obtain ⟨us, h1, h2, h3⟩ := ar a ha
  have hu : us = vs := by
    rcases h3 with q | q
    · rw [e] at q
      exact absurd (Value.type.inj (seq_inj q).1) (by decide)
    · rw [e] at q
      exact (seq_inj q).2.symm
  subst hu
  refine ⟨h2, ?_⟩
  cases hk : K.lookup a with
  | none => exact .inl (.inr ⟨_, by rw [argH_at ha hk e, hoOf_tup]⟩)
  | some o =>
    have e2 := KX a o hk
    rw [e] at e2
    obtain rfl := Option.some.inj e2
    exact .inr ⟨_, us.toArray, _, hk, rfl, rfl, by rw [List.size_toArray]; exact h1, by simpa using vals_toV h2⟩
mutual
theorem dw_one {Pm : Params} (KX : K.In h) (ar : ∀ a ∈ A, ArgOb h A a) : ∀ (d : WData) (v : Value), Well Pm h v d → plW d = true → OkU A v → Dw K (argH K h A) (toV v) d
  | .none, _, x, _, _ => by
    cases x
    exact .non
  | .bool b, _, x, _, _ => by
    cases x
    exact .bl b
  | .int i, _, x, _, _ => by
    cases x
    exact .int i
  | .str s, _, x, _, _ => by
    cases x
    exact .str s
  | .bytes b, _, x, _, _ => by
    cases x
    have z := Dw.byt (K := K) (H := argH K h A) b.toArray
    exact z
  | .list ds, _, x, p, hu => by
    obtain ⟨a, vs, rfl, ho, hall⟩ := well_list x
    obtain ⟨h2, hs⟩ := argL KX ar hu ho
    exact .lst hs (dw_all KX ar ds _ hall p h2)
  | .tuple ds, _, x, p, hu => by
    obtain ⟨a, vs, rfl, ho, hall⟩ := well_tuple x
    obtain ⟨h2, hs⟩ := argT KX ar hu ho
    exact .tup hs (dw_all KX ar ds _ hall p h2)
  | .float _, _, _, p, _ => Bool.noConfusion (show false = true from p)
  | .dict _, _, _, p, _ => Bool.noConfusion (show false = true from p)
  | .bytearray _, _, _, p, _ => Bool.noConfusion (show false = true from p)
  | .set _, _, _, p, _ => Bool.noConfusion (show false = true from p)
  | .frozenset _, _, _, p, _ => Bool.noConfusion (show false = true from p)
  | .obj _ _, _, _, p, _ => Bool.noConfusion (show false = true from p)
theorem dw_all {Pm : Params} (KX : K.In h) (ar : ∀ a ∈ A, ArgOb h A a) : ∀ (ds : List WData) (vs : List Value), WellAll Pm h vs ds → plWs ds = true → (∀ u ∈ vs, OkU A u) → DwAll K (argH K h A) (vs.map toV) ds
  | [], _, x, _, _ => by
    cases x
    exact .nil
  | d :: ds, _, x, p, hu => by
    obtain ⟨v, vs, rfl, x1, x2⟩ := well_cons x
    have q : plW d = true ∧ plWs ds = true := Bool.and_eq_true_iff.mp p
    exact .cons (dw_one KX ar d v x1 q.1 (hu _ (List.mem_cons_self ..))) (dw_all KX ar ds vs x2 q.2 fun u m => hu u (List.mem_cons_of_mem _ m))
end
end
theorem spec_call {P : Program} {w : World} {K : PySem.W.Frag} {mg mb : Str → Option Value} {CX : CXT} {k : Nat} {fa : Addr} {fd : FuncData} {ps : List Str} {sp : Sp} {s₁ : Shared} {vals : List Value} {ds : List WData} {R : PySem.W.WRecords} {cl : Str → Option Addr} {d0 : WData}
    (KX : K.In s₁.heap) (hns : s₁.heap.Ns mainGlobals mg) (hb : s₁.heap.Ns builtinsNs mb) (hbb : ∀ x : Str, x ≠ "__name__" → mb x = bootBuiltins x) (hlim : s₁.heap.NoLimit) (hg : s₁.gens = #[])
    (hwl : WellAll w.params s₁.heap vals ds) (hpl : plWs ds = true) (hwt : ∀ d ∈ ds, d.weight ≤ 1048576) (hr : Room k callerA)
    (F : ∀ base : Heap, K.In base → base.Ns mainGlobals mg → FnOk P w K mg base CX k fa fd ps sp) (hbind : ∀ (s : Shared) (us : List Value), us.length = ps.length → BindsTo s fd ⟨us, []⟩ (ps.zip us)) (hlen : ds.length = ps.length)
    (hsp : ∀ (H : Hp) (xs : List V), OnlyF H → DwAll K H xs ds → sp xs H (fun v H' => Dw K H' v d0) fun _ _ _ => False)
    (hCX : ∀ H e s', CX [] H s₁ (fun _ _ _ => False) e s' → False) :
    codeAny (model P w) callerA (.call (.ref fa) ⟨vals, []⟩) (fun r s' => ∃ u as, r = .ok (.ret u) ∧ ReadsW R cl s'.heap u d0 as ∧ OldK s₁.heap s'.heap ∧ s'.os = s₁.os ∧ AllBare s'.gens) s₁ := by
  obtain ⟨A, ho, ar⟩ := area_all ds vals hwl hpl hwt
  have hO : OnlyF (argH K s₁.heap A) := argH_only ar
  have hok : HOk P w (argH K s₁.heap A) s₁.heap := argH_ok ar
  have hS := dw_all KX ar ds vals hwl hpl ho
  have hV := vals_toV ho
  have hK : ∀ b u, argH K s₁.heap A b = some u → K.lookup b = none := fun b u q => (argH_is ar q).1
  have noA : ∀ {b : Addr} {o : Obj} {es : Array DictEntry} {ep : Nat}, s₁.heap.get? b = some o → o.data = .dict es ep → argH K s₁.heap A b = none := fun {b o es ep} e d => by
    cases q : argH K s₁.heap A b with
    | none => rfl
    | some u =>
      obtain ⟨_, vs, _, _, ⟨e2, _⟩ | ⟨e2, _⟩⟩ := argH_is ar q
      · rw [e2] at e
        cases e
        have d' : Data.seq vs.toArray _ = Data.dict es ep := d
        cases d'
      · rw [e2] at e
        cases e
        have d' : Data.seq vs.toArray _ = Data.dict es ep := d
        cases d'
  generalize argH K s₁.heap A = H at hO hok hS hK noA
  have base_of : ∀ {b : Addr} {o : Obj}, s₁.heap.get? b = some o → H b = none → (hidT s₁.heap H).get? b = some o := fun e n => hidT_get e n
  have nsK : ∀ {b : Addr} {m : Str → Option Value}, s₁.heap.Ns b m → (hidT s₁.heap H).Ns b m := fun {b m} ⟨o, es, ep, e, d, r⟩ => ⟨o, es, ep, base_of e (noA e d), d, r⟩
  have nK : ∀ b o, K.lookup b = some o → H b = none := fun b o e => by
    cases q : H b with
    | none => rfl
    | some u =>
      rw [hK b u q] at e
      cases e
  have hKb : K.In (hidT s₁.heap H) := fun b o e => base_of (KX b o e) (nK b o e)
  have hM : Mod K mg (hidT s₁.heap H) := ⟨hKb, nsK hns, ⟨mb, nsK hb, hbb⟩, let ⟨mc, h1, h2⟩ := hlim; ⟨mc, nsK h1, h2⟩⟩
  have e0 : Env0 P w K mg (hidT s₁.heap H) callerA [] s₁ H := ⟨rfl, hM, fun b o e => of_hidT e, Nat.le_of_eq (hidT_size _ _), trivial, fun b hb => absurd (show b ∈ ([] : List Addr) from hb) (by simp), hok, .of_eq hg⟩
  have hl : vals.length = ps.length := by rw [wellAll_len hwl]; exact hlen
  refine codeAny_mono ((F _ hKb (nsK hns)).run callerA [] s₁ H ⟨vals, []⟩ vals (vals.map toV) _ _ hr e0 (hbind s₁ vals hl) hV (hsp H _ hO hS)) fun r s' x => ?_
  cases r with
  | error e => exact (hCX H e s' x).elim
  | ok fl =>
    cases fl with
    | next => exact False.elim x
    | brk => exact False.elim x
    | cont => exact False.elim x
    | ret u =>
      obtain ⟨v, H', os, bare, un, hok', r', q⟩ := x
      have kept : ∀ b o, s₁.heap.get? b = some o → s'.heap.get? b = some o := fun b o e => by
        cases q2 : H b with
        | none => exact un.keep b o e q2 (by intro z; exact absurd (show b ∈ ([] : List Addr) from z) (by simp)) (by simp)
        | some u2 =>
          rcases hO b with z | ⟨ob, u3, z⟩
          · rw [q2] at z
            cases z
          · have z2 := un.frzs b ob _ z
            obtain ⟨e1, _⟩ := hok b _ z
            obtain ⟨e2, _⟩ := hok' b _ z2
            rw [e] at e1
            cases e1
            exact e2
      have KX' : K.In s'.heap := fun b o e => kept b o (KX b o e)
      obtain ⟨as, hrd⟩ := Dw.reads (R := R) (cl := cl) hok' KX' d0 v u q r'
      exact ⟨u, as, rfl, hrd, OldK.of_keep kept, os, bare⟩
theorem layable_weight {ds : List WData} (h : WData.layableAll ds = true) : ∀ d ∈ ds, d.weight ≤ 1048576 := fun d hd =>
  (PySem.W.layableW_iff.mp (List.all_eq_true.mp h d hd)).2.2
theorem encAll_len : ∀ (cs : List Codec) (a : Codec.denoteAll cs), (Codec.encAll cs a).length = cs.length
  | [], _ => rfl
  | c :: cs, a => by
    show (Codec.encAll cs a.2).length + 1 = cs.length + 1
    rw [encAll_len cs a.2]
theorem walk_spec {r : OpenSpec} {k : Nat} {q : Program} {loose : List Str} {XP : (Str → Option Value) → Heap → Prop} {YP : World → Heap → Prop} {d : DefRec} {K : Params → PySem.W.Frag} {CX : World → CXT} {ps : List Str} {sp : World → Sp}
    (hwell : r.wellSaid = true) (hdf : d.params.defaults = []) (hlen : r.args.length = ps.length) (hr : Room k callerA)
    (hY : ∀ (w : World) (h : Heap), YP w h → (K w.params).In h)
    (F : ∀ (w : World) (mg : Str → Option Value) (fa : Addr) (h : Heap), YP w h → (K w.params).In h → h.Ns mainGlobals mg → mg d.name = some (.ref fa) →
      ∃ fd : FuncData, (∀ (s : Shared) (us : List Value), us.length = ps.length → BindsTo s fd ⟨us, []⟩ (ps.zip us)) ∧
        ∀ base : Heap, (K w.params).In base → base.Ns mainGlobals mg → FnOk r.prog w (K w.params) mg base (CX w) k fa fd ps (sp w))
    (hsp : ∀ (w : World) (H : Hp) (xs : List V) (a : Codec.denoteAll r.args), OnlyF H → Codec.withinAll r.args a = true → Codec.app r.args r.asked a = true → DwAll (K w.params) H xs (Codec.encAll r.args a) →
      sp w xs H (fun v H' => Dw (K w.params) H' v (r.ret.enc (Codec.app r.args r.f a))) fun _ _ _ => False)
    (hCX : ∀ (w : World) (H : Hp) (s : Shared) (e : Value) (s' : Shared), CX w [] H s (fun _ _ _ => False) e s' → False) :
    PySem.W.WalkOS q loose XP YP r d [] (fun f vs => PySem.call f vs) := by
  intro w s_0 s₁ mg mb G Y fa o pm cd doc dV kV ho hd hcd hD hmg hg args vals as hpre hlay hrd hwl hlo
  obtain ⟨a, e1, e2⟩ := PySem.W.os_pre_some hpre
  obtain ⟨e3, hwi⟩ := Codec.encAll_of_decAll r.args args a e1
  subst e3
  have KX := hY w _ Y
  obtain ⟨fd, hb, hF⟩ := F w mg fa _ Y KX G.T.g hmg
  refine PySem.W.enter_call (codeAny_mono (spec_call (R := []) (cl := classAt s_0.heap) (d0 := r.ret.enc (Codec.app r.args r.f a)) KX G.T.g G.T.b G.T.builtins G.T.nolimit hg hwl (pl_encAll _ _) (layable_weight hlay) hr hF hb (by rw [encAll_len]; exact hlen)
    (fun H xs hO hS => hsp w H xs a hO hwi e2 hS) fun H e s' => hCX w H s₁ e s') fun r' s' hq => ?_)
  obtain ⟨u, as', rfl, h1, h2, h3, h4⟩ := hq
  exact ⟨.inl ⟨u, _, as', rfl, fun _ => rfl, h1, (OpenSpec.post_iff hwell hwi _ _).mpr rfl, fun z => Bool.noConfusion (show false = true from z)⟩, h2, h3, h4⟩
theorem walk_specK {r : OpenSpec} {k : Nat} {q : Program} {loose : List Str} {XP : (Str → Option Value) → Heap → Prop} {YP : World → Heap → Prop} {d : DefRec} {K : Params → PySem.W.Frag} {CX : CXT} {ps : List Str} {sp : PySem.W.Frag → Sp}
    (hwell : r.wellSaid = true) (hdf : d.params.defaults = []) (hlen : r.args.length = ps.length) (hr : Room k callerA)
    (hY : ∀ (w : World) (h : Heap), YP w h → (K w.params).In h)
    (F : ∀ (w : World) (mg : Str → Option Value) (fa : Addr) (h : Heap), YP w h → (K w.params).In h → h.Ns mainGlobals mg → mg d.name = some (.ref fa) →
      ∃ fd : FuncData, (∀ (s : Shared) (us : List Value), us.length = ps.length → BindsTo s fd ⟨us, []⟩ (ps.zip us)) ∧
        ∀ base : Heap, (K w.params).In base → base.Ns mainGlobals mg → FnOk r.prog w (K w.params) mg base CX k fa fd ps (sp (K w.params)))
    (hsp : ∀ (K : PySem.W.Frag) (H : Hp) (xs : List V) (a : Codec.denoteAll r.args), OnlyF H → Codec.withinAll r.args a = true → Codec.app r.args r.asked a = true → DwAll K H xs (Codec.encAll r.args a) →
      sp K xs H (fun v H' => Dw K H' v (r.ret.enc (Codec.app r.args r.f a))) fun _ _ _ => False)
    (hCX : ∀ (H : Hp) (s : Shared) (e : Value) (s' : Shared), CX [] H s (fun _ _ _ => False) e s' → False) :
    PySem.W.WalkOS q loose XP YP r d [] (fun f vs => PySem.call f vs) :=
  walk_spec (K := K) (CX := fun _ => CX) (sp := fun w => sp (K w.params)) hwell hdf hlen hr hY F (fun w H xs a h1 h2 h3 h4 => hsp (K w.params) H xs a h1 h2 h3 h4) fun _ H s e s' => hCX H s e s'
end L2
end
end

section
set_option linter.all false
set_option maxRecDepth 100000
namespace Sw
open Kraa

/-! ### bits -/
theorem has_eq (b i : Nat) : has b i = b.testBit i := by
  unfold has
  rw [Nat.testBit_eq_decide_div_mod_eq]
  rfl
theorem tb_add {p n : Nat} (w : Nat) (h : p < 2 ^ n) : (p + 2 ^ n).testBit w = (p.testBit w || decide (w = n)) := by
  have e := Nat.two_pow_add_eq_or_of_lt h 1
  rw [Nat.mul_one] at e
  rw [Nat.add_comm, e, Nat.testBit_or, Nat.testBit_two_pow, Bool.or_comm]
  congr 1
  exact decide_eq_decide.mpr ⟨Eq.symm, Eq.symm⟩
/-- the number of a set, by its first n -/
def bset (n : Nat) (f : Nat → Bool) : Nat := ((List.range n).map fun w => if f w then 2 ^ w else 0).foldl (fun a b => a + b) 0
theorem bset_succ (n : Nat) (f : Nat → Bool) : bset (n + 1) f = bset n f + (if f n then 2 ^ n else 0) := by
  unfold bset
  rw [List.range_succ, List.map_append, List.foldl_append]
  rfl
theorem bset_lt (f : Nat → Bool) : ∀ n, bset n f < 2 ^ n
  | 0 => Nat.one_pos
  | n + 1 => by
    have h := bset_lt f n
    rw [bset_succ, Nat.pow_succ]
    split <;> omega
theorem bset_bit (f : Nat → Bool) (w : Nat) : ∀ n, (bset n f).testBit w = (decide (w < n) && f w)
  | 0 => by
    show (0 : Nat).testBit w = _
    simp
  | n + 1 => by
    have h := bset_bit f w n
    rw [bset_succ]
    cases q : f n with
    | false =>
      rw [if_neg (by simp), Nat.add_zero, h]
      by_cases e : w = n
      · subst e
        simp [q]
      · have : (w < n + 1) ↔ (w < n) := by omega
        simp [this]
    | true =>
      rw [if_pos rfl, tb_add w (bset_lt f n), h]
      by_cases e : w = n
      · subst e
        simp [q]
      · have : (w < n + 1) ↔ (w < n) := by omega
        simp [this, e]
theorem bset_congr {n : Nat} {f g : Nat → Bool} (h : ∀ w, w < n → f w = g w) : bset n f = bset n g := by
  apply Nat.eq_of_testBit_eq
  intro w
  rw [bset_bit, bset_bit]
  by_cases e : w < n
  · rw [h w e]
  · simp [e]
theorem claim_eq (m : Nat) (f : Nat → Bool) : claim m f = bset (2 ^ m) f := rfl
theorem full_bit (m w : Nat) : (full m).testBit w = decide (w < 2 ^ m) := by
  unfold full worlds
  exact Nat.testBit_two_pow_sub_one ..
theorem full_lt (m : Nat) : full m < 2 ^ (2 ^ m) := by
  have : 0 < 2 ^ (2 ^ m) := Nat.two_pow_pos _
  unfold full worlds
  omega
theorem lt_of_full {m p : Nat} (h : p ≤ full m) : p < 2 ^ (2 ^ m) := Nat.lt_of_le_of_lt h (full_lt m)
theorem full_of_lt {m p : Nat} (h : p < 2 ^ (2 ^ m)) : p ≤ full m := by
  unfold full worlds
  omega
theorem bit_lt {p n w : Nat} (h : p < 2 ^ n) (b : p.testBit w = true) : w < n := by
  rcases Nat.lt_or_ge w n with q | q
  · exact q
  · have := Nat.testBit_lt_two_pow (x := p) (i := w) (Nat.lt_of_lt_of_le h (Nat.pow_le_pow_right (by decide) q))
    rw [this] at b
    cases b
theorem rest_bit {m s : Nat} (i : Nat) (h : s < 2 ^ m) : (rest m s).testBit i = (decide (i < m) && !s.testBit i) := by
  have e : rest m s = 2 ^ m - (s + 1) := by
    unfold rest
    omega
  rw [e]
  exact Nat.testBit_two_pow_sub_succ h i
theorem rest_lt {m : Nat} (s : Nat) : rest m s < 2 ^ m := by
  have : 0 < 2 ^ m := Nat.two_pow_pos _
  unfold rest
  omega
theorem rest_rest {m s : Nat} (h : s < 2 ^ m) : rest m (rest m s) = s := by
  unfold rest
  omega
theorem all_bit (m i : Nat) : (2 ^ m - 1).testBit i = decide (i < m) := Nat.testBit_two_pow_sub_one ..
theorem rest_xor {m s : Nat} (h : s < 2 ^ m) : (2 ^ m - 1) ^^^ s = rest m s := by
  apply Nat.eq_of_testBit_eq
  intro i
  rw [Nat.testBit_xor, all_bit, rest_bit i h]
  cases q : s.testBit i with
  | false => simp
  | true => simp [bit_lt h q]
theorem bits_ext {n x y : Nat} (hx : x < 2 ^ n) (hy : y < 2 ^ n) (h : ∀ i, i < n → x.testBit i = y.testBit i) : x = y := by
  apply Nat.eq_of_testBit_eq
  intro i
  rcases Nat.lt_or_ge i n with q | q
  · exact h i q
  · have le := Nat.pow_le_pow_right (n := 2) (by decide) q
    rw [Nat.testBit_lt_two_pow (Nat.lt_of_lt_of_le hx le), Nat.testBit_lt_two_pow (Nat.lt_of_lt_of_le hy le)]
theorem and_lt {n x : Nat} (y : Nat) (hx : x < 2 ^ n) : x &&& y < 2 ^ n := Nat.lt_of_le_of_lt Nat.and_le_left hx
theorem and_lt_r {n y : Nat} (x : Nat) (hy : y < 2 ^ n) : x &&& y < 2 ^ n := Nat.lt_of_le_of_lt Nat.and_le_right hy

/-! ### what a claim says of some letters -/
def Al (m s u w : Nat) : Prop := ∀ i, i < m → s.testBit i = true ∨ u.testBit i = w.testBit i
theorem alike_iff {m s u w : Nat} : alike m s u w = true ↔ Al m s u w := by
  unfold alike Al
  rw [List.all_eq_true]
  constructor
  · intro h i hi
    have := h i (List.mem_range.mpr hi)
    rw [has_eq, has_eq, has_eq, Bool.or_eq_true, beq_iff_eq] at this
    exact this
  · intro h i hi
    rw [has_eq, has_eq, has_eq, Bool.or_eq_true, beq_iff_eq]
    exact h i (List.mem_range.mp hi)
theorem forget_lt (m p s : Nat) : forget m p s < 2 ^ (2 ^ m) := bset_lt _ _
theorem forget_bit {m p s w : Nat} : (forget m p s).testBit w = true ↔ w < 2 ^ m ∧ ∃ u, u < 2 ^ m ∧ Al m s u w ∧ p.testBit u = true := by
  have e : (forget m p s).testBit w = (decide (w < 2 ^ m) && (ws m).any fun u => alike m s u w && p.testBit u) := bset_bit _ w _
  rw [e, Bool.and_eq_true, decide_eq_true_eq, List.any_eq_true]
  refine and_congr_right fun _ => ⟨?_, ?_⟩
  · rintro ⟨u, hu, h⟩
    rw [Bool.and_eq_true, alike_iff] at h
    exact ⟨u, List.mem_range.mp hu, h⟩
  · rintro ⟨u, hu, h⟩
    refine ⟨u, List.mem_range.mpr hu, ?_⟩
    rw [Bool.and_eq_true, alike_iff]
    exact h
theorem keep_lt (m p s : Nat) : keep m p s < 2 ^ (2 ^ m) := bset_lt _ _
theorem al_rest {m s u w : Nat} (h : s < 2 ^ m) : Al m (rest m s) u w ↔ ∀ i, i < m → s.testBit i = true → u.testBit i = w.testBit i := by
  unfold Al
  constructor
  · intro q i hi b
    rcases q i hi with z | z
    · rw [rest_bit i h, b] at z
      simp at z
    · exact z
  · intro q i hi
    cases b : s.testBit i with
    | true => exact .inr (q i hi b)
    | false =>
      refine .inl ?_
      rw [rest_bit i h, b]
      simp [hi]
theorem keep_bit {m p s w : Nat} (h : s < 2 ^ m) : (keep m p s).testBit w = true ↔ w < 2 ^ m ∧ ∃ u, u < 2 ^ m ∧ (∀ i, i < m → s.testBit i = true → u.testBit i = w.testBit i) ∧ p.testBit u = true := by
  unfold keep
  rw [forget_bit]
  refine and_congr_right fun _ => ⟨?_, ?_⟩
  · rintro ⟨u, hu, a, b⟩
    exact ⟨u, hu, (al_rest h).mp a, b⟩
  · rintro ⟨u, hu, a, b⟩
    exact ⟨u, hu, (al_rest h).mpr a, b⟩
theorem and_eq_iff {m s u w : Nat} (h : s < 2 ^ m) : u &&& s = w &&& s ↔ ∀ i, i < m → s.testBit i = true → u.testBit i = w.testBit i := by
  constructor
  · intro e i _ b
    have := congrArg (fun z => z.testBit i) e
    simpa [Nat.testBit_and, b] using this
  · intro q
    apply Nat.eq_of_testBit_eq
    intro i
    rw [Nat.testBit_and, Nat.testBit_and]
    cases b : s.testBit i with
    | false => simp
    | true => rw [q i (bit_lt h b) b]
/-- the program's way -/
theorem keep_seen {m p s : Nat} (h : s < 2 ^ m) : keep m p s = bset (2 ^ m) fun w => (((List.range (2 ^ m)).filter fun u => p.testBit u).map fun u => u &&& s).contains (w &&& s) := by
  apply Nat.eq_of_testBit_eq
  intro w
  rw [bset_bit, Bool.eq_iff_iff, keep_bit h, Bool.and_eq_true, decide_eq_true_eq, List.contains_iff_mem, List.mem_map]
  refine and_congr_right fun _ => ⟨?_, ?_⟩
  · rintro ⟨u, hu, a, b⟩
    exact ⟨u, List.mem_filter.mpr ⟨List.mem_range.mpr hu, b⟩, (and_eq_iff h).mpr a⟩
  · rintro ⟨u, hu, a⟩
    obtain ⟨h1, h2⟩ := List.mem_filter.mp hu
    exact ⟨u, List.mem_range.mp h1, (and_eq_iff h).mp a, h2⟩
theorem forget_keep {m p s : Nat} (h : s < 2 ^ m) : forget m p s = keep m p (rest m s) := by
  unfold keep
  rw [rest_rest h]
theorem keep_mono {m p s t : Nat} (hs : s < 2 ^ m) (ht : t < 2 ^ m) (h : s &&& t = s) {w : Nat} (b : (keep m p t).testBit w = true) : (keep m p s).testBit w = true := by
  obtain ⟨hw, u, hu, a, c⟩ := (keep_bit ht).mp b
  refine (keep_bit hs).mpr ⟨hw, u, hu, fun i hi q => a i hi ?_, c⟩
  rw [← h, Nat.testBit_and, Bool.and_eq_true] at q
  exact q.2
theorem keep_ge {m p s : Nat} (hs : s < 2 ^ m) (hp : p < 2 ^ (2 ^ m)) {w : Nat} (b : p.testBit w = true) : (keep m p s).testBit w = true :=
  (keep_bit hs).mpr ⟨bit_lt hp b, w, bit_lt hp b, fun _ _ _ => rfl, b⟩
theorem within_iff {p q : Nat} : within p q = true ↔ ∀ w, p.testBit w = true → q.testBit w = true := by
  unfold within
  rw [beq_iff_eq]
  constructor
  · intro e w b
    rw [← e, Nat.testBit_and, Bool.and_eq_true] at b
    exact b.2
  · intro h
    apply Nat.eq_of_testBit_eq
    intro w
    rw [Nat.testBit_and]
    cases b : p.testBit w with
    | false => rfl
    | true => rw [h w b]; rfl

/-! ### parts -/
def Mixes (m p s : Nat) : Prop := ∀ u v x, u < 2 ^ m → v < 2 ^ m → x < 2 ^ m → p.testBit u = true → p.testBit v = true → (∀ i, i < m → x.testBit i = if s.testBit i = true then u.testBit i else v.testBit i) → p.testBit x = true
theorem splits_iff {m p s : Nat} (hs : s < 2 ^ m) (hp : p < 2 ^ (2 ^ m)) : Krad.splits m p s = true ↔ Mixes m p s := by
  unfold Krad.splits
  rw [beq_iff_eq]
  constructor
  · intro e u v x hu hv hx pu pv a
    rw [← e, Nat.testBit_and, Bool.and_eq_true]
    refine ⟨(keep_bit hs).mpr ⟨hx, u, hu, fun i hi b => ?_, pu⟩, (keep_bit (rest_lt s)).mpr ⟨hx, v, hv, fun i hi b => ?_, pv⟩⟩
    · rw [a i hi, if_pos b]
    · rw [rest_bit i hs] at b
      simp at b
      rw [a i hi, b.2]
      simp
  · intro h
    apply Nat.eq_of_testBit_eq
    intro x
    rw [Bool.eq_iff_iff, Nat.testBit_and, Bool.and_eq_true]
    constructor
    · rintro ⟨h1, h2⟩
      obtain ⟨hx, u, hu, a, pu⟩ := (keep_bit hs).mp h1
      obtain ⟨_, v, hv, b, pv⟩ := (keep_bit (rest_lt s)).mp h2
      refine h u v x hu hv hx pu pv fun i hi => ?_
      by_cases q : s.testBit i = true
      · rw [if_pos q, a i hi q]
      · rw [if_neg q, b i hi (by rw [rest_bit i hs]; simp [hi, q])]
    · intro b
      exact ⟨keep_ge hs hp b, keep_ge (rest_lt s) hp b⟩
theorem sp_rest {m p s : Nat} (hs : s < 2 ^ m) (h : Mixes m p s) : Mixes m p (rest m s) := by
  intro u v x hu hv hx pu pv a
  refine h v u x hv hu hx pv pu fun i hi => ?_
  rw [a i hi, rest_bit i hs]
  cases s.testBit i <;> simp [hi]
theorem sp_and {m p s t : Nat} (h1 : Mixes m p s) (h2 : Mixes m p t) : Mixes m p (s &&& t) := by
  intro u v x hu hv hx pu pv a
  have hy : bset m (fun i => if t.testBit i = true then u.testBit i else v.testBit i) < 2 ^ m := bset_lt _ _
  have by_ : ∀ i, i < m → (bset m (fun i => if t.testBit i = true then u.testBit i else v.testBit i)).testBit i = if t.testBit i = true then u.testBit i else v.testBit i := fun i hi => by
    rw [bset_bit]
    simp [hi]
  generalize bset m (fun i => if t.testBit i = true then u.testBit i else v.testBit i) = y at hy by_
  have py := h2 u v y hu hv hy pu pv by_
  refine h1 y v x hy hv hx py pv fun i hi => ?_
  rw [a i hi, by_ i hi, Nat.testBit_and]
  cases s.testBit i <;> cases t.testBit i <;> simp
theorem sp_all (m p : Nat) : Mixes m p (2 ^ m - 1) := by
  intro u v x hu hv hx pu pv a
  have e : x = u := bits_ext hx hu fun i hi => by
    rw [a i hi, all_bit]
    simp [hi]
  rw [e]
  exact pu
theorem foldl_and_bit (j : Nat) : ∀ (l : List Nat) (z : Nat), (l.foldl (fun a b => a &&& b) z).testBit j = true ↔ z.testBit j = true ∧ ∀ s ∈ l, s.testBit j = true
  | [], z => by simp
  | x :: l, z => by
    rw [List.foldl_cons, foldl_and_bit j l, Nat.testBit_and, Bool.and_eq_true]
    simp [and_assoc]
theorem foldl_and_sp {m p : Nat} : ∀ (l : List Nat) (z : Nat), Mixes m p z → (∀ s ∈ l, Mixes m p s) → Mixes m p (l.foldl (fun a b => a &&& b) z)
  | [], z, h, _ => h
  | x :: l, z, h, g => foldl_and_sp l (z &&& x) (sp_and h (g x (List.mem_cons_self ..))) fun s hs => g s (List.mem_cons_of_mem _ hs)
theorem foldl_and_lt {n : Nat} : ∀ (l : List Nat) (z : Nat), z < 2 ^ n → (l.foldl (fun a b => a &&& b) z) < 2 ^ n
  | [], z, h => h
  | x :: l, z, h => foldl_and_lt l (z &&& x) (and_lt x h)
theorem partOf_lt (m p i : Nat) : Krad.partOf m p i < 2 ^ m := foldl_and_lt _ _ (by have := Nat.two_pow_pos m; omega)
theorem partOf_bit {m p i j : Nat} (hp : p < 2 ^ (2 ^ m)) : (Krad.partOf m p i).testBit j = true ↔ j < m ∧ ∀ s, s < 2 ^ m → s.testBit i = true → Mixes m p s → s.testBit j = true := by
  unfold Krad.partOf
  rw [foldl_and_bit, all_bit, decide_eq_true_eq]
  refine and_congr_right fun _ => ⟨?_, ?_⟩
  · intro h s hs b q
    refine h s (List.mem_filter.mpr ⟨List.mem_range.mpr hs, ?_⟩)
    rw [has_eq, Bool.and_eq_true]
    exact ⟨b, (splits_iff hs hp).mpr q⟩
  · intro h s hs
    obtain ⟨h1, h2⟩ := List.mem_filter.mp hs
    rw [has_eq, Bool.and_eq_true] at h2
    have h1 := List.mem_range.mp h1
    exact h s h1 h2.1 ((splits_iff h1 hp).mp h2.2)
theorem partOf_sp {m p i : Nat} (hp : p < 2 ^ (2 ^ m)) : Mixes m p (Krad.partOf m p i) := by
  refine foldl_and_sp _ _ (sp_all m p) fun s hs => ?_
  obtain ⟨h1, h2⟩ := List.mem_filter.mp hs
  rw [Bool.and_eq_true] at h2
  exact (splits_iff (List.mem_range.mp h1) hp).mp h2.2
theorem partOf_self {m p i : Nat} (hp : p < 2 ^ (2 ^ m)) (hi : i < m) : (Krad.partOf m p i).testBit i = true :=
  (partOf_bit hp).mpr ⟨hi, fun _ _ b _ => b⟩
theorem partOf_mem {m p i j : Nat} (hp : p < 2 ^ (2 ^ m)) (hi : i < m) (h : (Krad.partOf m p i).testBit j = true) : Krad.partOf m p j = Krad.partOf m p i := by
  have hj : j < m := ((partOf_bit hp).mp h).1
  have sub : ∀ {a b : Nat}, a < m → (Krad.partOf m p a).testBit b = true → ∀ k, (Krad.partOf m p b).testBit k = true → (Krad.partOf m p a).testBit k = true := fun {a b} ha hb k hk =>
    ((partOf_bit hp).mp hk).2 _ (partOf_lt m p a) hb (partOf_sp hp)
  have back : (Krad.partOf m p j).testBit i = true := by
    cases q : (Krad.partOf m p j).testBit i with
    | true => rfl
    | false =>
      have hl : Krad.partOf m p i &&& rest m (Krad.partOf m p j) < 2 ^ m := and_lt _ (partOf_lt m p i)
      have z := ((partOf_bit hp).mp h).2 _ hl (by
        rw [Nat.testBit_and, partOf_self hp hi, rest_bit i (partOf_lt m p j), q]
        simp [hi]) (sp_and (partOf_sp hp) (sp_rest (partOf_lt m p j) (partOf_sp hp)))
      rw [Nat.testBit_and, rest_bit j (partOf_lt m p j), partOf_self hp hj] at z
      simp at z
  apply Nat.eq_of_testBit_eq
  intro k
  rw [Bool.eq_iff_iff]
  exact ⟨sub hi h k, sub hj back k⟩
theorem first_spec {m s i : Nat} (hi : i < m) (b : s.testBit i = true) : Krad.first m s < m ∧ s.testBit (Krad.first m s) = true ∧ ∀ j, j < m → s.testBit j = true → Krad.first m s ≤ j := by
  unfold Krad.first
  cases e : (List.range m).find? fun i => has s i with
  | none =>
    rw [List.find?_eq_none] at e
    exact absurd (by rw [has_eq]; exact b) (e i (List.mem_range.mpr hi))
  | some k =>
    obtain ⟨h1, h2, h3⟩ := List.find?_range_eq_some.mp e
    rw [has_eq] at h1
    refine ⟨List.mem_range.mp h2, h1, fun j hj bj => ?_⟩
    rcases Nat.lt_or_ge j k with q | q
    · have := h3 j q
      rw [has_eq, bj] at this
      cases this
    · exact q
/-- the parts by the first k letters -/
def partsN (m p k : Nat) : List Nat := (((List.range k).map fun i => (i, Krad.partOf m p i)).filter fun x => Krad.first m x.2 == x.1).map fun x => x.2
theorem parts_eq (m p : Nat) : Krad.parts m p = partsN m p m := rfl
theorem partsN_mem {m p k s : Nat} : s ∈ partsN m p k ↔ ∃ i, i < k ∧ Krad.first m (Krad.partOf m p i) = i ∧ s = Krad.partOf m p i := by
  unfold partsN
  simp only [List.mem_map, List.mem_filter, List.mem_range, beq_iff_eq]
  constructor
  · rintro ⟨_, ⟨⟨i, hi, rfl⟩, h⟩, rfl⟩
    exact ⟨i, hi, h, rfl⟩
  · rintro ⟨i, hi, h, rfl⟩
    exact ⟨_, ⟨⟨i, hi, rfl⟩, h⟩, rfl⟩
theorem partsN_succ {m p k : Nat} (hp : p < 2 ^ (2 ^ m)) (hk : k < m) : partsN m p (k + 1) = if (partsN m p k).contains (Krad.partOf m p k) = true then partsN m p k else partsN m p k ++ [Krad.partOf m p k] := by
  have e : partsN m p (k + 1) = partsN m p k ++ if Krad.first m (Krad.partOf m p k) = k then [Krad.partOf m p k] else [] := by
    unfold partsN
    rw [List.range_succ, List.map_append, List.filter_append, List.map_append]
    congr 1
    by_cases q : Krad.first m (Krad.partOf m p k) = k
    · simp [q]
    · simp [q]
  rw [e]
  obtain ⟨f1, f2, f3⟩ := first_spec hk (partOf_self hp hk)
  by_cases q : Krad.first m (Krad.partOf m p k) = k
  · rw [if_pos q, if_neg]
    rw [List.contains_iff_mem, partsN_mem]
    rintro ⟨i, hi, _, z⟩
    have := f3 i (Nat.lt_trans hi hk) (by rw [z]; exact partOf_self hp (Nat.lt_trans hi hk))
    omega
  · rw [if_neg q, List.append_nil, if_pos]
    rw [List.contains_iff_mem, partsN_mem]
    have hle := f3 k hk (partOf_self hp hk)
    have same := partOf_mem hp hk f2
    exact ⟨Krad.first m (Krad.partOf m p k), by omega, by rw [same], same.symm⟩
theorem parts_lt {m p s : Nat} (h : s ∈ Krad.parts m p) : s < 2 ^ m := by
  rw [parts_eq] at h
  obtain ⟨i, _, _, rfl⟩ := partsN_mem.mp h
  exact partOf_lt m p i
theorem partsN_len (m p : Nat) : ∀ k, (partsN m p k).length ≤ k := fun k => by
  unfold partsN
  rw [List.length_map]
  exact Nat.le_trans (List.length_filter_le ..) (by simp)

/-! ### letters that can be left out -/
theorem forget_iff {m q s : Nat} (hq : q < 2 ^ (2 ^ m)) : forget m q s = q ↔ ∀ u w, u < 2 ^ m → w < 2 ^ m → Al m s u w → q.testBit u = true → q.testBit w = true := by
  constructor
  · intro e u w hu hw a b
    rw [← e]
    exact forget_bit.mpr ⟨hw, u, hu, a, b⟩
  · intro h
    apply Nat.eq_of_testBit_eq
    intro w
    rw [Bool.eq_iff_iff, forget_bit]
    constructor
    · rintro ⟨hw, u, hu, a, b⟩
      exact h u w hu hw a b
    · intro b
      exact ⟨bit_lt hq b, w, bit_lt hq b, fun _ _ => .inr rfl, b⟩
theorem forget_each {m q s : Nat} (hq : q < 2 ^ (2 ^ m)) : forget m q s = q ↔ ∀ i, i < m → s.testBit i = true → forget m q (2 ^ i) = q := by
  constructor
  · intro h i hi b
    rw [forget_iff hq] at h ⊢
    intro u w hu hw a
    refine h u w hu hw fun j hj => ?_
    rcases a j hj with z | z
    · rw [Nat.testBit_two_pow, decide_eq_true_eq] at z
      subst z
      exact .inl b
    · exact .inr z
  · intro h
    rw [forget_iff hq]
    intro u w hu hw a b
    -- u, with w's first k letters
    have key : ∀ k, k ≤ m → q.testBit (bset m fun i => if i < k then w.testBit i else u.testBit i) = true := by
      intro k
      induction k with
      | zero =>
        intro _
        have e : (bset m fun i => if i < 0 then w.testBit i else u.testBit i) = u := bits_ext (bset_lt _ _) hu fun i hi => by
          rw [bset_bit]
          simp [hi]
        rw [e]
        exact b
      | succ k ih =>
        intro hk
        have p := ih (by omega)
        have hkm : k < m := by omega
        by_cases z : s.testBit k = true
        · have g := (forget_iff hq).mp (h k hkm z)
          refine g _ _ (bset_lt _ _) (bset_lt _ _) (fun i hi => ?_) p
          rw [Nat.testBit_two_pow, decide_eq_true_eq, bset_bit, bset_bit]
          by_cases e : k = i
          · exact .inl e
          · refine .inr ?_
            have : (i < k + 1) ↔ (i < k) := by omega
            simp [this]
        · have uw : u.testBit k = w.testBit k := (a k hkm).resolve_left z
          have e : (bset m fun i => if i < k + 1 then w.testBit i else u.testBit i) = bset m fun i => if i < k then w.testBit i else u.testBit i := bset_congr fun i hi => by
            by_cases e : i = k
            · subst e
              simp [uw]
            · have : (i < k + 1) ↔ (i < k) := by omega
              simp [this]
          rw [e]
          exact p
    have e : (bset m fun i => if i < m then w.testBit i else u.testBit i) = w := bits_ext (bset_lt _ _) hw fun i hi => by
      rw [bset_bit]
      simp [hi]
    rw [← e]
    exact key m (Nat.le_refl m)
theorem sum_filter (f : Nat → Bool) (n : Nat) : (((List.range n).filter f).map fun i => 2 ^ i).foldl (fun a b => a + b) 0 = bset n f := by
  induction n with
  | zero => rfl
  | succ n ih =>
    rw [List.range_succ, List.filter_append, List.map_append, List.foldl_append, ih, bset_succ]
    cases q : f n <;> simp [q]
theorem needs_bit (m q i : Nat) : (Krad.needs m q).testBit i = (decide (i < m) && !(without m q (2 ^ i))) := by
  unfold Krad.needs letters
  rw [sum_filter, bset_bit]
theorem untouched_iff {m q s : Nat} (hq : q < 2 ^ (2 ^ m)) : (s &&& Krad.needs m q == 0) = (forget m q s == q) := by
  rw [Bool.eq_iff_iff, beq_iff_eq, beq_iff_eq, forget_each hq]
  constructor
  · intro e i hi b
    have := congrArg (fun z => z.testBit i) e
    simp only [Nat.testBit_and, b, needs_bit, Nat.zero_testBit, Bool.true_and] at this
    simpa [hi, without] using this
  · intro h
    apply Nat.eq_of_testBit_eq
    intro i
    rw [Nat.testBit_and, needs_bit, Nat.zero_testBit]
    cases b : s.testBit i with
    | false => rfl
    | true =>
      by_cases hi : i < m
      · have := h i hi b
        simp [without, this]
      · simp [hi]

/-! ### taken in against what was held -/
theorem foldl_keep_bit (m p w : Nat) : ∀ (l : List Nat) (z : Nat), (l.foldl (fun a s => a &&& keep m p s) z).testBit w = (z.testBit w && l.all fun s => (keep m p s).testBit w)
  | [], z => by simp
  | x :: l, z => by
    rw [List.foldl_cons, foldl_keep_bit m p w l, Nat.testBit_and, List.all_cons, Bool.and_assoc]
/-- the program's loop -/
def heldN (m p q : Nat) (l : List Nat) (z : Nat) : Nat := l.foldl (fun a s => if forget m q s = q then a &&& keep m p s else a) z
theorem held_filter (m p q : Nat) : ∀ (l : List Nat) (z : Nat), heldN m p q l z = (l.filter fun s => forget m q s == q).foldl (fun a s => a &&& keep m p s) z
  | [], z => rfl
  | x :: l, z => by
    unfold heldN
    rw [List.foldl_cons]
    by_cases e : forget m q x = q
    · rw [if_pos e, List.filter_cons_of_pos (by simp [e]), List.foldl_cons]
      exact held_filter m p q l _
    · rw [if_neg e, List.filter_cons_of_neg (by simp [e])]
      exact held_filter m p q l _
theorem revise_eq {m p q : Nat} (hq : q < 2 ^ (2 ^ m)) : Krad.revise m p q = if p &&& q = 0 then heldN m p q (Krad.parts m p) q else p &&& q := by
  unfold Krad.revise
  by_cases e : p &&& q = 0
  · rw [if_pos e, if_neg (by simp [e]), held_filter]
    have f : Krad.untouched m p q = (Krad.parts m p).filter fun s => forget m q s == q := by
      unfold Krad.untouched
      congr 1
      funext s
      exact untouched_iff hq
    rw [f]
    unfold Krad.all
    apply Nat.eq_of_testBit_eq
    intro w
    rw [Nat.testBit_and, foldl_keep_bit, foldl_keep_bit, full_bit]
    cases b : q.testBit w with
    | false => rfl
    | true => simp [bit_lt hq b]
  · rw [if_neg e, if_pos (by simp [e])]
theorem revise_lt {m p q : Nat} (hq : q < 2 ^ (2 ^ m)) : Krad.revise m p q < 2 ^ (2 ^ m) := by
  unfold Krad.revise
  split
  · exact and_lt_r _ hq
  · exact and_lt _ hq

/-! ### least and greatest sets -/
theorem sub_iff {s t : Nat} : s &&& t = s ↔ ∀ i, s.testBit i = true → t.testBit i = true := by
  have := @within_iff s t
  unfold within at this
  rw [beq_iff_eq] at this
  exact this
theorem sub_trans {a b c : Nat} (h1 : a &&& b = a) (h2 : b &&& c = b) : a &&& c = a := sub_iff.mpr fun i b' => sub_iff.mp h2 i (sub_iff.mp h1 i b')
theorem subsets_mem {m s x : Nat} : x ∈ Kraf.subsets m s ↔ x < 2 ^ m ∧ x &&& s = x := by
  unfold Kraf.subsets
  rw [List.mem_filter, List.mem_range, beq_iff_eq]
/-- s without the letter i -/
theorem xor_bit_lt {m s i : Nat} (hs : s < 2 ^ m) (hi : i < m) : s ^^^ 2 ^ i < 2 ^ m := Nat.xor_lt_two_pow hs (Nat.pow_lt_pow_right (by decide) hi)
theorem xor_bit {s i j : Nat} : (s ^^^ 2 ^ i).testBit j = (s.testBit j != decide (i = j)) := by
  rw [Nat.testBit_xor, Nat.testBit_two_pow]
/-- of an upward closed property the least sets are those that lose it with any one letter -/
theorem least_iff {m sh s : Nat} {f : Nat → Bool} (up : ∀ a b, a < 2 ^ m → b < 2 ^ m → a &&& sh = a → b &&& sh = b → a &&& b = a → f a = true → f b = true) (hs : s ∈ Kraf.subsets m sh) (fs : f s = true) :
    (((Kraf.subsets m sh).filter f).all fun x => x == s || !(x &&& s == x)) = true ↔ ∀ i, i < m → s.testBit i = true → f (s ^^^ 2 ^ i) = false := by
  obtain ⟨hs1, hs2⟩ := subsets_mem.mp hs
  rw [List.all_eq_true]
  constructor
  · intro h i hi b
    cases q : f (s ^^^ 2 ^ i) with
    | false => rfl
    | true =>
      have sub : (s ^^^ 2 ^ i) &&& s = s ^^^ 2 ^ i := sub_iff.mpr fun j bj => by
        rw [xor_bit] at bj
        by_cases e : i = j
        · subst e; exact b
        · simpa [e] using bj
      have := h _ (List.mem_filter.mpr ⟨subsets_mem.mpr ⟨xor_bit_lt hs1 hi, sub_trans sub hs2⟩, q⟩)
      rw [Bool.or_eq_true, beq_iff_eq] at this
      rcases this with e | e
      · have := congrArg (fun z => z.testBit i) e
        simp [xor_bit, b] at this
      · simp [sub] at e
  · intro h x hx
    obtain ⟨h1, h2⟩ := List.mem_filter.mp hx
    obtain ⟨hx1, hx2⟩ := subsets_mem.mp h1
    rw [Bool.or_eq_true, beq_iff_eq]
    by_cases e : x = s
    · exact .inl e
    · refine .inr ?_
      cases q : (x &&& s == x) with
      | false => rfl
      | true =>
        rw [beq_iff_eq] at q
        have ⟨i, hi⟩ : ∃ i, s.testBit i = true ∧ x.testBit i = false := by
          refine Classical.byContradiction fun no => e (bits_ext hx1 hs1 fun i hi => ?_)
          cases b : x.testBit i with
          | true => rw [sub_iff.mp q i b]
          | false =>
            cases c : s.testBit i with
            | false => rfl
            | true => exact absurd ⟨i, c, b⟩ no
        have him := bit_lt hs1 hi.1
        have sub : (s ^^^ 2 ^ i) &&& s = s ^^^ 2 ^ i := sub_iff.mpr fun j bj => by
          rw [xor_bit] at bj
          by_cases e : i = j
          · subst e; exact hi.1
          · simpa [e] using bj
        have := up x (s ^^^ 2 ^ i) hx1 (xor_bit_lt hs1 him) hx2 (sub_trans sub hs2) (sub_iff.mpr fun j bj => by
          rw [xor_bit, sub_iff.mp q j bj]
          by_cases e : i = j
          · subst e; rw [hi.2] at bj; cases bj
          · simp [e]) h2
        rw [h i him hi.1] at this
        cases this
/-- of a downward closed property the greatest sets are those that lose it with any one more letter -/
theorem most_iff {m sh s : Nat} {f : Nat → Bool} (hsh : sh < 2 ^ m) (down : ∀ a b, a < 2 ^ m → b < 2 ^ m → a &&& sh = a → b &&& sh = b → a &&& b = a → f b = true → f a = true) (hs : s ∈ Kraf.subsets m sh) (fs : f s = true) :
    (((Kraf.subsets m sh).filter f).all fun x => x == s || !(x &&& s == s)) = true ↔ ∀ i, i < m → sh.testBit i = true → s.testBit i = false → f (s ||| 2 ^ i) = false := by
  obtain ⟨hs1, hs2⟩ := subsets_mem.mp hs
  have orb : ∀ i j, (s ||| 2 ^ i).testBit j = (s.testBit j || decide (i = j)) := fun i j => by rw [Nat.testBit_or, Nat.testBit_two_pow]
  have orlt : ∀ i, i < m → s ||| 2 ^ i < 2 ^ m := fun i hi => Nat.or_lt_two_pow hs1 (Nat.pow_lt_pow_right (by decide) hi)
  have orsub : ∀ i, sh.testBit i = true → (s ||| 2 ^ i) &&& sh = s ||| 2 ^ i := fun i b => sub_iff.mpr fun j bj => by
    rw [orb, Bool.or_eq_true, decide_eq_true_eq] at bj
    rcases bj with z | z
    · exact sub_iff.mp hs2 j z
    · subst z; exact b
  rw [List.all_eq_true]
  constructor
  · intro h i hi b c
    cases q : f (s ||| 2 ^ i) with
    | false => rfl
    | true =>
      have := h _ (List.mem_filter.mpr ⟨subsets_mem.mpr ⟨orlt i hi, orsub i b⟩, q⟩)
      rw [Bool.or_eq_true, beq_iff_eq] at this
      rcases this with e | e
      · have := congrArg (fun z => z.testBit i) e
        simp [orb, c] at this
      · have sub : (s ||| 2 ^ i) &&& s = s := by
          rw [Nat.and_comm]
          exact sub_iff.mpr fun j bj => by rw [orb, bj]; rfl
        simp [sub] at e
  · intro h x hx
    obtain ⟨h1, h2⟩ := List.mem_filter.mp hx
    obtain ⟨hx1, hx2⟩ := subsets_mem.mp h1
    rw [Bool.or_eq_true, beq_iff_eq]
    by_cases e : x = s
    · exact .inl e
    · refine .inr ?_
      cases q : (x &&& s == s) with
      | false => rfl
      | true =>
        rw [beq_iff_eq, Nat.and_comm] at q
        have ⟨i, hi⟩ : ∃ i, x.testBit i = true ∧ s.testBit i = false := by
          refine Classical.byContradiction fun no => e (bits_ext hx1 hs1 fun i hi => ?_)
          cases b : s.testBit i with
          | true => rw [sub_iff.mp q i b]
          | false =>
            cases c : x.testBit i with
            | false => rfl
            | true => exact absurd ⟨i, c, b⟩ no
        have him := bit_lt hx1 hi.1
        have shi := sub_iff.mp hx2 i hi.1
        have := down (s ||| 2 ^ i) x (orlt i him) hx1 (orsub i shi) hx2 (sub_iff.mpr fun j bj => by
          rw [orb, Bool.or_eq_true, decide_eq_true_eq] at bj
          rcases bj with z | z
          · exact sub_iff.mp q j z
          · subst z; exact hi.1) h2
        rw [h i him shi hi.2] at this
        cases this
end Sw
end

section
set_option Elab.async false
set_option linter.all false
set_option maxRecDepth 100000
set_option maxHeartbeats 2000000
namespace Sw
open PySem PySem.Spec PyProof.Rows L2

/-! ### whole numbers that are not below 0 -/
abbrev nv (n : Nat) : V := .int (n : Int)
def rN (C : Nat → Nat → Prop) (g : Nat → Nat → V) : R2 := fun x y H Q => ∃ i j : Nat, x = nv i ∧ y = nv j ∧ C i j ∧ Q (g i j) H
def rN0 (g : Nat → Nat → V) : R2 := fun x y H Q => ∃ i j : Nat, x = nv i ∧ y = nv j ∧ Q (g i j) H
theorem opImp {X : Cx} {f : Value → Value → Sem Value} {r r' : R2} (h : OpR X f r) (i : ∀ x y H Q, r' x y H Q → r x y H Q) : OpR X f r' :=
  fun pins s σ H x y v u Q I rx ry q => h pins s σ H x y v u Q I rx ry (i x y H Q q)
section
variable {X : Cx}
theorem nn_and : OpR X (binaryOp .BitAnd) (rN0 fun i j => nv (i &&& j)) := opImp op_and fun x y H Q ⟨i, j, e1, e2, q⟩ => ⟨i, j, e1, e2, by
  show Q (V.int _) H
  rw [bitAnd_pp (by omega) (by omega)]
  exact q⟩
theorem nn_or : OpR X (binaryOp .BitOr) (rN0 fun i j => nv (i ||| j)) := opImp op_or fun x y H Q ⟨i, j, e1, e2, q⟩ => ⟨i, j, e1, e2, by
  show Q (V.int _) H
  rw [Bits.bitOr_pp (by omega) (by omega)]
  exact q⟩
theorem nn_xor : OpR X (binaryOp .BitXor) (rN0 fun i j => nv (i ^^^ j)) := opImp op_xor fun x y H Q ⟨i, j, e1, e2, q⟩ => ⟨i, j, e1, e2, by
  show Q (V.int _) H
  rw [Bits.bitXor_pp (by omega) (by omega)]
  exact q⟩
theorem nn_add : OpR X (binaryOp .Add) (rN0 fun i j => nv (i + j)) := opImp op_add fun x y H Q ⟨i, j, e1, e2, q⟩ => ⟨i, j, e1, e2, by
  show Q (V.int _) H
  rw [← Int.natCast_add]
  exact q⟩
theorem nn_iadd : OpR X (inplaceOp .Add) (rN0 fun i j => nv (i + j)) := opImp iop_add fun x y H Q ⟨i, j, e1, e2, q⟩ => ⟨i, j, e1, e2, by
  show Q (V.int _) H
  rw [← Int.natCast_add]
  exact q⟩
theorem nn_sub : OpR X (binaryOp .Sub) (rN (fun i j => j ≤ i) fun i j => nv (i - j)) := opImp op_sub fun x y H Q ⟨i, j, e1, e2, c, q⟩ => ⟨i, j, e1, e2, by
  show Q (V.int _) H
  rw [← Int.ofNat_sub c]
  exact q⟩
theorem nn_shl : OpR X (binaryOp .LShift) (rN (fun i j => i = 1 ∧ j ≤ 1000) fun _ j => nv (2 ^ j)) := opImp op_shl fun x y H Q ⟨i, j, e1, e2, c, q⟩ => ⟨i, j, e1, e2, ⟨by omega, by omega, by rw [c.1]; decide⟩, by
  show Q (V.int _) H
  have e : (i : Int) * 2 ^ ((j : Int)).toNat = ((2 ^ j : Nat) : Int) := by
    rw [c.1, Int.toNat_natCast, two_pow_cast]
    simp
  rw [e]
  exact q⟩
theorem nn_shr : OpR X (binaryOp .RShift) (rN0 fun i j => nv (i / 2 ^ j)) := opImp op_shr fun x y H Q ⟨i, j, e1, e2, q⟩ => ⟨i, j, e1, e2, (by omega), by
  show Q (V.int _) H
  have e : (i : Int) / 2 ^ ((j : Int)).toNat = ((i / 2 ^ j : Nat) : Int) := by
    rw [Int.toNat_natCast, two_pow_cast, Int.natCast_ediv]
  rw [e]
  exact q⟩
theorem nn_eq : OpR X (compareOp .Eq) (rN0 fun i j => .bl (decide (i = j))) := opImp op_eq fun x y H Q ⟨i, j, e1, e2, q⟩ => by
  subst e1 e2
  refine ⟨rfl, ?_⟩
  have e : decide (nv i = nv j) = decide (i = j) := decide_eq_decide.mpr ⟨fun h => by injection h with h; exact Int.ofNat.inj h, fun h => by rw [h]⟩
  rw [e]
  exact q
theorem nn_ne : OpR X (compareOp .NotEq) (rN0 fun i j => .bl (!decide (i = j))) := opImp op_ne fun x y H Q ⟨i, j, e1, e2, q⟩ => by
  subst e1 e2
  refine ⟨rfl, ?_⟩
  have e : decide (nv i = nv j) = decide (i = j) := decide_eq_decide.mpr ⟨fun h => by injection h with h; exact Int.ofNat.inj h, fun h => by rw [h]⟩
  rw [e]
  exact q
theorem nn_lt : OpR X (compareOp .Lt) (rN0 fun i j => .bl (decide (i < j))) := opImp op_lt fun x y H Q ⟨i, j, e1, e2, q⟩ => ⟨i, j, e1, e2, by
  show Q (V.bl _) H
  rw [show decide ((i : Int) < j) = decide (i < j) from decide_eq_decide.mpr Int.ofNat_lt]
  exact q⟩
theorem nn_gt : OpR X (compareOp .Gt) (rN0 fun i j => .bl (decide (j < i))) := opImp op_gt fun x y H Q ⟨i, j, e1, e2, q⟩ => ⟨i, j, e1, e2, by
  show Q (V.bl _) H
  rw [show decide ((j : Int) < i) = decide (j < i) from decide_eq_decide.mpr Int.ofNat_lt]
  exact q⟩
theorem nn_ge : OpR X (compareOp .GtE) (rN0 fun i j => .bl (decide (j ≤ i))) := opImp op_ge fun x y H Q ⟨i, j, e1, e2, q⟩ => ⟨i, j, e1, e2, by
  show Q (V.bl _) H
  rw [show decide ((j : Int) ≤ i) = decide (j ≤ i) from decide_eq_decide.mpr Int.ofNat_le]
  exact q⟩
/-! ### in: a list of such numbers -/
abbrev nvs (l : List Nat) : List V := l.map nv
theorem nvs_snoc (l : List Nat) (x : Nat) : nvs l ++ [nv x] = nvs (l ++ [x]) := by
  show List.map nv l ++ List.map nv [x] = List.map nv (l ++ [x])
  rw [List.map_append]
theorem nvs_flat (l : List Nat) : (nvs l).all flatV = true := by
  rw [List.all_eq_true]
  intro x hx
  obtain ⟨n, _, rfl⟩ := List.mem_map.mp hx
  rfl
theorem inV_nvs (n : Nat) : ∀ l : List Nat, inV (nv n) (nvs l) = l.contains n
  | [] => rfl
  | x :: l => by
    show (eqV (nv x) (nv n) || inV (nv n) (nvs l)) = (x :: l).contains n
    rw [inV_nvs n l, List.contains_cons]
    congr 1
    show ((x : Int) == (n : Int)) = (n == x)
    rw [Bool.eq_iff_iff, beq_iff_eq, beq_iff_eq]
    omega
theorem nn_in : OpR X (compareOp .In) (fun x y H Q => ∃ (n : Nat) (p : Addr) (l : List Nat), x = nv n ∧ y = .ref p ∧ SqL X.K H p (nvs l) ∧ Q (.bl (l.contains n)) H) := opImp op_in_seq fun x y H Q ⟨n, p, l, e1, e2, h, q⟩ => ⟨p, nvs l, e2, .inl h, by rw [e1]; rfl, nvs_flat l, by
  show Q (.bl (inV x (nvs l))) H
  rw [e1, inV_nvs]
  exact q⟩
theorem nn_notin : OpR X (compareOp .NotIn) (fun x y H Q => ∃ (n : Nat) (p : Addr) (l : List Nat), x = nv n ∧ y = .ref p ∧ SqL X.K H p (nvs l) ∧ Q (.bl (!l.contains n)) H) := opImp op_notIn_seq fun x y H Q ⟨n, p, l, e1, e2, h, q⟩ => ⟨p, nvs l, e2, .inl h, by rw [e1]; rfl, nvs_flat l, by
  show Q (.bl (!inV x (nvs l))) H
  rw [e1, inV_nvs]
  exact q⟩
/-! ### a def that stands in a name -/
def tCallV (X : Cx) (tf : TE) (t : TA) : TE := fun σ H Q => tf σ H fun x H1 => ∃ (f : Addr) (k : Nat) (fd : FuncData) (ps : List Str) (sp : Sp), x = .ref f ∧ PySem.W.keepIn X.K (.ref f) = true ∧ FnOk X.prog X.w X.K X.mg X.base CX0 k f fd ps sp ∧ Room k X.A ∧ Binds X.K fd ps [] ∧ t σ H1 fun vs H2 => sp vs H2 Q E0
theorem pe_callV {x : Str} {p pos : Pos} {e : Expr} {es : List Expr} {tf : TE} {t : TA} (hf : PE X (.Name x p) tf) (ha : PA X (e :: es) t) (he : starEach (e :: es) X.env = (false, eval e X.env) :: starEach es X.env := by rfl) (hpl : (backTo pos (starEach es X.env)).any (·.1) = false := by rfl) :
    PE X (.Call (.Name x p) (e :: es) [] pos) (tCallV X tf t) := by
  intro pins s σ H Q I h
  refine wpAny_Call_Name_kw (thn (hf pins s σ H _ I h) fun u s1 ⟨x, H1, I1, rx, f, k, fd, ps, sp, ex, hk, F, hr, hb, q⟩ => ?_)
  subst ex
  obtain rfl : u = Value.ref f := rx
  refine PySem.W.callWith_K (h₀ := X.base) I.ok.mod.kin hk (thn (ha pos pins s1 σ H1 _ I1 q) fun us s2 ⟨vs, H2, I2, r, q2⟩ => ⟨I2.kIn, ?_⟩) he hpl
  exact run_fn F hr hb .nil pass0 I2 r (by rw [List.append_nil]; exact q2)
end
/-! ### a def of the module, by its name -/
structure Def (P : Program) (w : World) (K : PySem.W.Frag) (mg : Str → Option Value) (base : Heap) (x : Str) (k : Nat) (ps : List Str) (sp : Sp) : Prop where
  ex : ∃ (f : Addr) (fd : FuncData), FnOk P w K mg base CX0 k f fd ps sp ∧ Binds K fd ps [] ∧ mg x = some (.ref f) ∧ PySem.W.keepIn K (.ref f) = true
theorem pe_d {X : Cx} {x : Str} {k : Nat} {ps : List Str} {sp : Sp} {p pos : Pos} {e : Expr} {es : List Expr} {t : TA} (D : Def X.prog X.w X.K X.mg X.base x k ps sp) (hr : Room k X.A) (hg : Gl X x) (ha : PA X (e :: es) t)
    (hdb : (x == ("__debug__" : Str)) = false := by decide) (he : starEach (e :: es) X.env = (false, eval e X.env) :: starEach es X.env := by rfl) (hpl : (backTo pos (starEach es X.env)).any (·.1) = false := by rfl) :
    PE X (.Call (.Name x p) (e :: es) [] pos) (tCall sp [] E0 t) := by
  obtain ⟨f, fd, F, b, m, kp⟩ := D.ex
  exact pe_call F hr hg m kp b .nil pass0 ha hdb he hpl
/-! ### heaps -/
theorem _root_.L2.Same.new {H : Hp} {p : Addr} {o : HO} (h : H p = Option.none) : Same H (upd H p o) := fun b u e => by
  rw [upd_ne (ne_of_none e h)]
  exact e
theorem _root_.L2.Same.newR {H H' : Hp} {p : Addr} {o : HO} (s : Same H H') (h : H' p = Option.none) : Same H (upd H' p o) := s.trans (Same.new h)
/-- a list that was new is written -/
theorem _root_.L2.Same.wr {H H' : Hp} {p : Addr} {o : HO} (s : Same H H') (h : H p = Option.none) : Same H (upd H' p o) := fun b u e => by
  rw [upd_ne (ne_of_none e h)]
  exact s b u e
/-- nothing stands there -/
theorem upd_none {H : Hp} {a b : Addr} {o : HO} : upd H a o b = none ↔ b ≠ a ∧ H b = none := by
  unfold upd
  by_cases e : b = a
  · rw [if_pos e]
    exact ⟨(fun h => by cases h), fun h => absurd e h.1⟩
  · rw [if_neg e]
    exact ⟨fun h => ⟨e, h⟩, fun h => h.2⟩
/-! ### bits -/
theorem bit1 (n i : Nat) : decide (n / 2 ^ i &&& 1 = 1) = n.testBit i := by
  rw [Nat.testBit_eq_decide_div_mod_eq, Nat.and_one_is_mod]
/-! ### range, for, comprehensions: over such numbers -/
theorem for_rangeN {n : Nat} {g : TG} {tb : TS} {D : Ends} {σ : L2.St} {H : Hp} (Pv : Nat → L2.St → Hp → Prop) (h0 : Pv 0 σ H)
    (hs : ∀ i σ H, i < n → Pv i σ H → g (nv i) σ H fun σ2 H2 => tb { D with nx := Pv (i + 1), ct := Pv (i + 1), bk := D.nx } σ2 H2) (hd : ∀ σ H, Pv n σ H → D.nx σ H) :
    ∃ W : Nat → Nat → L2.St → Hp → Prop, (∃ m, W 0 m σ H) ∧ ∀ i m σ H, W i m σ H →
      ((Itr 0 n).stop i H ∧ D.nx σ H) ∨ ((Itr 0 n).go i H ∧ ∃ N : L2.St → Hp → Prop, (∀ σ' H', N σ' H' → ∃ m', m' < m ∧ W (i + 1) m' σ' H') ∧ ∀ x H', (Itr 0 n).yld i H x H' → g x σ H' fun σ2 H2 => tb { D with nx := N, ct := N, bk := D.nx } σ2 H2) :=
  for_range (lo := 0) Pv h0 (fun i σ H hi p => by rw [Int.zero_add]; exact hs i σ H hi p) hd
/-- [f for x in range(n) if c]: what it runs lays new things alone -/
theorem lc_rangeN {n j : Nat} {tt : TT} {te : TE} {σ : L2.St} {H1 : Hp} {D : Addr} {Qd : Hp → Prop} (c : Nat → Bool) (f : Nat → V) (hD : H1 D = none) (hn : n ≤ 1000)
    (ht : ∀ k H Q, k < n → Same H1 H → (∀ H', Same H H' → Q (c k) H') → tt (σ.set j (some (nv k))) H Q) (he : ∀ k H Q, k < n → c k = true → Same H1 H → (∀ H', Same H H' → Q (f k) H') → te (σ.set j (some (nv k))) H Q)
    (hd : ∀ H, H D = some (.lst (((List.range n).filter c).map f)) → Same H1 H → Qd H) :
    ∃ W : Nat → Nat → Hp → Prop, (∃ m, W 0 m (upd H1 D (.lst []))) ∧ ∀ i m H, W i m H →
      ((Itr 0 n).stop i H ∧ Qd H) ∨ ((Itr 0 n).go i H ∧ ∃ Nx : Hp → Prop, (∀ H', Nx H' → ∃ m', m' < m ∧ W (i + 1) m' H') ∧ ∀ x H', (Itr 0 n).yld i H x H' → gName j x (wipe σ [j]) H' fun σ2 H2 => wipe σ2 [j] = wipe σ [j] ∧ tt σ2 H2 fun b H3 =>
        if b = true then te σ2 H3 fun y H4 => ∃ acc, H4 D = some (.lst acc) ∧ acc.length < sizeLine ∧ Nx (upd H4 D (.lst (acc ++ [y]))) else Nx H3) := by
  refine lc_range (lo := 0) (fun k H => H D = some (.lst (((List.range k).filter c).map f)) ∧ Same H1 H) ⟨upd_same, Same.new hD⟩ (fun k H hk p => ?_) (fun H p => hd H p.1 p.2)
  obtain ⟨p1, p2⟩ := p
  rw [Int.zero_add]
  have e : (wipe σ [j]).set j (some (nv k)) = σ.set j (some (nv k)) := by
    show (σ.set j none).set j (some (nv k)) = _
    rw [List.set_set]
  have e2 : (σ.set j (some (nv k))).set j none = σ.set j none := by rw [List.set_set]
  show wipe ((wipe σ [j]).set j (some (nv k))) [j] = wipe σ [j] ∧ tt ((wipe σ [j]).set j (some (nv k))) H _
  rw [e]
  refine ⟨e2, ht k H _ hk p2 fun H' s' => ?_⟩
  have q1 := s' _ _ p1
  have len : (((List.range k).filter c).map f).length < sizeLine := by
    refine small1000 ?_
    rw [List.length_map]
    have := List.length_filter_le c (List.range k)
    rw [List.length_range] at this
    omega
  cases ck : c k with
  | false =>
    rw [if_neg (by simp)]
    refine ⟨?_, p2.trans s'⟩
    rw [q1, List.range_succ, List.filter_append, List.filter_cons_of_neg (by simp [ck])]
    simp
  | true =>
    rw [if_pos rfl]
    refine he k H' _ hk ck (p2.trans s') fun H2 s2 => ⟨_, s2 _ _ q1, len, ?_, (p2.trans (s'.trans s2)).wr hD⟩
    rw [upd_same, List.range_succ, List.filter_append, List.filter_cons_of_pos ck, List.map_append]
    rfl
/-- [f for x in l if c], l a list of such numbers -/
theorem lc_listN {K : PySem.W.Frag} {a : Addr} {l : List Nat} {j : Nat} {tt : TT} {te : TE} {σ : L2.St} {H1 : Hp} {D : Addr} {Qd : Hp → Prop} (c : Nat → Bool) (f : Nat → V) (hD : H1 D = none) (hn : l.length ≤ 1000) (ha : SqL K H1 a (nvs l))
    (ht : ∀ k H Q, k ∈ l → Same H1 H → (∀ H', Same H H' → Q (c k) H') → tt (σ.set j (some (nv k))) H Q) (he : ∀ k H Q, k ∈ l → c k = true → Same H1 H → (∀ H', Same H H' → Q (f k) H') → te (σ.set j (some (nv k))) H Q)
    (hd : ∀ H, H D = some (.lst ((l.filter c).map f)) → Same H1 H → Qd H) :
    ∃ W : Nat → Nat → Hp → Prop, (∃ m, W 0 m (upd H1 D (.lst []))) ∧ ∀ i m H, W i m H →
      ((Itl K a).stop i H ∧ Qd H) ∨ ((Itl K a).go i H ∧ ∃ Nx : Hp → Prop, (∀ H', Nx H' → ∃ m', m' < m ∧ W (i + 1) m' H') ∧ ∀ x H', (Itl K a).yld i H x H' → gName j x (wipe σ [j]) H' fun σ2 H2 => wipe σ2 [j] = wipe σ [j] ∧ tt σ2 H2 fun b H3 =>
        if b = true then te σ2 H3 fun y H4 => ∃ acc, H4 D = some (.lst acc) ∧ acc.length < sizeLine ∧ Nx (upd H4 D (.lst (acc ++ [y]))) else Nx H3) := by
  refine lc_list (xs := nvs l) (fun k H => H D = some (.lst (((l.take k).filter c).map f)) ∧ Same H1 H) ⟨by rw [List.take_zero]; exact upd_same, Same.new hD⟩ (fun k H _ p => p.2.seq ha) (fun k x H hk p => ?_) (fun H p => hd H ?_ p.2)
  · obtain ⟨p1, p2⟩ := p
    obtain ⟨z, hz, rfl⟩ : ∃ z, l[k]? = some z ∧ x = nv z := by
      rw [List.getElem?_map] at hk
      cases e : l[k]? with
      | none => rw [e] at hk; cases hk
      | some z => rw [e] at hk; exact ⟨z, rfl, (Option.some.inj hk).symm⟩
    have mem : z ∈ l := List.mem_of_getElem? hz
    have tk : l.take (k + 1) = l.take k ++ [z] := by rw [List.take_add_one, hz]; rfl
    have e : (wipe σ [j]).set j (some (nv z)) = σ.set j (some (nv z)) := by
      show (σ.set j none).set j (some (nv z)) = _
      rw [List.set_set]
    have e2 : (σ.set j (some (nv z))).set j none = σ.set j none := by rw [List.set_set]
    show wipe ((wipe σ [j]).set j (some (nv z))) [j] = wipe σ [j] ∧ tt ((wipe σ [j]).set j (some (nv z))) H _
    rw [e]
    refine ⟨e2, ht z H _ mem p2 fun H' s' => ?_⟩
    have q1 := s' _ _ p1
    have len : (((l.take k).filter c).map f).length < sizeLine := by
      refine small1000 ?_
      rw [List.length_map]
      have := List.length_filter_le c (l.take k)
      rw [List.length_take] at this
      omega
    cases ck : c z with
    | false =>
      rw [if_neg (by simp)]
      refine ⟨?_, p2.trans s'⟩
      rw [q1, tk, List.filter_append, List.filter_cons_of_neg (by simp [ck])]
      simp
    | true =>
      rw [if_pos rfl]
      refine he z H' _ mem ck (p2.trans s') fun H2 s2 => ⟨_, s2 _ _ q1, len, ?_, (p2.trans (s'.trans s2)).wr hD⟩
      rw [upd_same, tk, List.filter_append, List.filter_cons_of_pos ck, List.map_append]
      rfl
  · have e : l.take (nvs l).length = l := by rw [List.length_map, List.take_length]
    rw [p.1, e]
end Sw
end

section
set_option Elab.async false
set_option linter.all false
set_option maxRecDepth 100000
set_option maxHeartbeats 2000000
namespace Sw
open PySem PySem.Spec PyProof.Rows L2
def top (i : Nat) : Stmt := PySem.Challenge.pw_sharedwords_s01_answers.main.body.getD i (.Pass ⟨0, 0, 0, 0⟩)
abbrev sAll : Stmt := top 4
abbrev sAlways : Stmt := top 5
abbrev sWorlds : Stmt := top 6
abbrev sSays : Stmt := top 10
abbrev sWithout : Stmt := top 11
abbrev sTold : Stmt := top 12
abbrev sFalls : Stmt := top 13
abbrev sPartOf : Stmt := top 14
abbrev sParts : Stmt := top 15
abbrev sTouches : Stmt := top 16
abbrev sRevised : Stmt := top 17
abbrev sLetter : Stmt := top 7
abbrev sFollowsOf : Stmt := top 8
abbrev sStands : Stmt := top 9
/-! ### what the defs promise -/
def spAll : Sp := fun vs H Q _ => ∃ m : Nat, vs = [nv m] ∧ m ≤ 4 ∧ Q (nv (2 ^ m - 1)) H
def spAlways : Sp := fun vs H Q _ => ∃ m : Nat, vs = [nv m] ∧ m ≤ 4 ∧ Q (nv (Kraa.full m)) H
def wlds (m p : Nat) : List Nat := (List.range (2 ^ m)).filter fun u => p.testBit u
def spWorlds : Sp := fun vs H Q _ => ∃ p m : Nat, vs = [nv p, nv m] ∧ m ≤ 4 ∧ ∀ D H', H D = none → H' D = some (.lst (nvs (wlds m p))) → Same H H' → Q (.ref D) H'
def spSays : Sp := fun vs H Q _ => ∃ p s m : Nat, vs = [nv p, nv s, nv m] ∧ m ≤ 4 ∧ s < 2 ^ m ∧ ∀ H', Same H H' → Q (nv (Kraa.keep m p s)) H'
theorem pow16 {m : Nat} (h : m ≤ 4) : 2 ^ m ≤ 16 := Nat.pow_le_pow_right (n := 2) (by decide) h
theorem rng {n : Nat} (h : n ≤ 16) : -(2 ^ 62) ≤ (n : Int) ∧ (n : Int) < 2 ^ 62 := by omega
theorem wlds_len {m p : Nat} (h : m ≤ 4) : (wlds m p).length ≤ 1000 := by
  have h1 := List.length_filter_le (fun u => p.testBit u) (List.range (2 ^ m))
  rw [List.length_range] at h1
  have h2 := pow16 h
  unfold wlds
  omega
section
variable {P : Program} {w : World} {K : PySem.W.Frag} {mg : Str → Option Value} {base : Heap}
theorem scAll : FnScope ["m"] ["m"] (defScope sAll) := ⟨rfl, rfl, rfl, by decide +kernel, rfl, by decide +kernel, by decide +kernel⟩
theorem ok_all {f : Addr} {fd : FuncData} (F : Fun K "all_letters" "all_letters" sAll f fd) : FnOk P w K mg base CX0 1 f fd ["m"] spAll := by
  refine F.ok scAll (fun vs H Q E h => ?_) (fun cdv A outer s H vs Q E hr h => ?_)
  · obtain ⟨m, rfl, _⟩ := h
    rfl
  · obtain ⟨m, rfl, hm, k⟩ := h
    refine ⟨_, pss_one (ps_ret (pe_op nn_sub (pe_op nn_shl pe_int (pv 0)) pe_int)), ?_⟩
    exact ⟨_, rfl, 1, m, rfl, rfl, ⟨rfl, by omega⟩, 2 ^ m, 1, rfl, rfl, Nat.two_pow_pos m, k⟩
theorem scAlways : FnScope ["m"] ["m"] (defScope sAlways) := ⟨rfl, rfl, rfl, by decide +kernel, rfl, by decide +kernel, by decide +kernel⟩
theorem ok_always {f : Addr} {fd : FuncData} (F : Fun K "always" "always" sAlways f fd) : FnOk P w K mg base CX0 1 f fd ["m"] spAlways := by
  refine F.ok scAlways (fun vs H Q E h => ?_) (fun cdv A outer s H vs Q E hr h => ?_)
  · obtain ⟨m, rfl, _⟩ := h
    rfl
  · obtain ⟨m, rfl, hm, k⟩ := h
    have h4 : 2 ^ m ≤ 1000 := Nat.le_trans (Nat.pow_le_pow_right (by decide) hm) (by decide)
    refine ⟨_, pss_one (ps_ret (pe_op nn_sub (pe_op nn_shl pe_int (pe_op nn_shl pe_int (pv 0))) pe_int)), ?_⟩
    exact ⟨_, rfl, 1, m, rfl, rfl, ⟨rfl, by omega⟩, 1, 2 ^ m, rfl, rfl, ⟨rfl, h4⟩, 2 ^ (2 ^ m), 1, rfl, rfl, Nat.two_pow_pos _, k⟩
theorem scWorlds : FnScope ["claim", "m", "world"] ["claim", "m"] (defScope sWorlds) := ⟨rfl, rfl, rfl, by decide +kernel, rfl, by decide +kernel, by decide +kernel⟩
theorem ok_worlds {f : Addr} {fd : FuncData} (F : Fun K "worlds" "worlds" sWorlds f fd) (hR : mg "range" = none) : FnOk P w K mg base CX0 1 f fd ["claim", "m"] spWorlds := by
  refine F.ok scWorlds (fun vs H Q E h => ?_) (fun cdv A outer s H vs Q E hr h => ?_)
  · obtain ⟨p, m, rfl, _⟩ := h
    rfl
  · obtain ⟨p, m, rfl, hm, k⟩ := h
    have h16 := pow16 hm
    refine ⟨_, pss_one (ps_ret (pe_lc (own := [("world", 2)]) rfl scWorlds.nd (pi_range1 rfl hR (pa_cons (pe_op nn_shl pe_int (pv 1)) pa_nil)) (blkOk_by (by rfl)) (fun _ _ _ _ _ => pg_name (i := 2) scWorlds.nd rfl (Or.inl rfl))
      (fun _ _ _ _ _ => pts_one (pt_cmpR nn_eq (pe_op nn_and (pe_op nn_shr (pv 0) (pv 2)) pe_int) pe_int (nomark _))) (fun _ _ _ _ _ => pv 2))), ?_⟩
    refine ⟨_, rfl, 1, m, rfl, rfl, ⟨rfl, by omega⟩, ((2 ^ m : Nat) : Int), rfl, (rng h16).1, (rng h16).2, fun D hD => ?_⟩
    refine lc_rangeN (n := 2 ^ m) (j := 2) (fun k => p.testBit k) nv hD (by omega) (fun k H2 Q2 hk s2 q => ?_) (fun k H2 Q2 hk _ s2 q => ?_) (fun H2 h1 h2 => k D H2 hD h1 h2)
    · refine ⟨_, rfl, _, rfl, p, k, rfl, rfl, p / 2 ^ k, 1, rfl, rfl, p / 2 ^ k &&& 1, 1, rfl, rfl, _, rfl, ?_⟩
      rw [bit1]
      exact q H2 (Same.refl H2)
    · exact ⟨_, rfl, q H2 (Same.refl H2)⟩
theorem scSays : FnScope ["claim", "letters", "m", "seen", "said", "world"] ["claim", "letters", "m"] (defScope sSays) := ⟨rfl, rfl, rfl, by decide +kernel, rfl, by decide +kernel, by decide +kernel⟩
theorem ok_says {f : Addr} {fd : FuncData} (F : Fun K "says" "says" sSays f fd) (hR : mg "range" = none) (DW : Def P w K mg base "worlds" 1 ["claim", "m"] spWorlds) : FnOk P w K mg base CX0 2 f fd ["claim", "letters", "m"] spSays := by
  refine F.ok scSays (fun vs H Q E h => ?_) (fun cdv A outer s H vs Q E hr h => ?_)
  · obtain ⟨p, l, m, rfl, _⟩ := h
    rfl
  · obtain ⟨p, l, m, rfl, hm, hl, k⟩ := h
    have h16 := pow16 hm
    refine ⟨_, pss_cons (ps_setLc (i := 3) (own := [("world", 5)]) rfl scSays.nd rfl rfl (sw_true rfl rfl rfl rfl) (pi_list (pe_d DW hr rfl (pa_cons (pv 0) (pa_cons (pv 2) pa_nil)))) (blkOk_by (by rfl)) (fun _ _ _ _ _ => pg_name (i := 5) scSays.nd rfl (Or.inl rfl))
        (fun _ _ _ _ _ => pts_nil) (fun _ _ _ _ _ => pe_op nn_and (pv 5) (pv 1)))
      (pss_cons (ps_set (i := 4) scSays.nd rfl (Or.inl rfl) pe_int)
      (pss_cons (ps_for PassesOwn.never rfl (pi_range1 rfl hR (pa_cons (pe_op nn_shl pe_int (pv 2)) pa_nil)) (pg_name (i := 5) scSays.nd rfl (Or.inl rfl))
        (pss_one (ps_if (pt_cmpR nn_in (pe_op nn_and (pv 5) (pv 1)) (pv 3) rfl) (pss_one (ps_aug (i := 4) scSays.nd rfl (Or.inl rfl) (pe_op nn_shl pe_int (pv 5)) nn_iadd)) pss_nil)))
      (pss_one (ps_ret (pv 4))))), ?_⟩
    refine ⟨_, rfl, _, rfl, p, m, rfl, hm, fun D1 H1 hD1 h1 s1 => ⟨D1, rfl, ⟨_, SqL.of h1⟩, fun D hD => ?_⟩⟩
    refine lc_listN (l := wlds m p) (j := 5) (fun _ => true) (fun u => nv (u &&& l)) hD (wlds_len hm) (SqL.of h1) (fun u H2 Q2 hu s2 q => q H2 (Same.refl H2)) (fun u H2 Q2 hu _ s2 q => ⟨_, rfl, _, rfl, u, l, rfl, rfl, q H2 (Same.refl H2)⟩) (fun H2 h2 s2 => ?_)
    have e : ((wlds m p).filter fun _ => true).map (fun u => nv (u &&& l)) = nvs ((wlds m p).map fun u => u &&& l) := by
      rw [List.filter_eq_self.mpr (fun _ _ => rfl)]
      show _ = List.map nv (List.map _ _)
      rw [List.map_map]
      rfl
    rw [e] at h2
    generalize hS : (wlds m p).map (fun u => u &&& l) = seen at h2
    refine ⟨_, rfl, 1, m, rfl, rfl, ⟨rfl, by omega⟩, ((2 ^ m : Nat) : Int), rfl, (rng h16).1, (rng h16).2, ?_⟩
    refine for_rangeN (n := 2 ^ m) (fun i σ H' => ∃ v, σ = [some (nv p), some (nv l), some (nv m), some (.ref D), some (nv (bset i fun w => seen.contains (w &&& l))), v] ∧ H' = H2) ⟨none, rfl, rfl⟩ (fun i σ H' hi pv => ?_) (fun σ H' pv => ?_)
    · obtain ⟨v, rfl, rfl⟩ := pv
      refine ⟨_, rfl, _, rfl, i, l, rfl, rfl, _, rfl, _, _, _, rfl, rfl, SqL.of h2, _, rfl, ite2 (fun c => ?_) (fun c => ?_)⟩
      · refine ⟨_, rfl, _, rfl, 1, i, rfl, rfl, ⟨rfl, by omega⟩, _, _, rfl, rfl, some (nv i), ?_, rfl⟩
        rw [bset_succ, if_pos c]
        rfl
      · refine ⟨some (nv i), ?_, rfl⟩
        rw [bset_succ, if_neg c]
        rfl
    · obtain ⟨v, rfl, rfl⟩ := pv
      refine ⟨_, rfl, ?_⟩
      have e2 : Kraa.keep m p l = bset (2 ^ m) fun w => seen.contains (w &&& l) := by
        rw [← hS]
        exact keep_seen hl
      rw [← e2]
      exact k _ (s1.trans s2)
end
end Sw
end

section
set_option Elab.async false
set_option linter.all false
set_option maxRecDepth 100000
set_option maxHeartbeats 2000000
namespace Sw
open PySem PySem.Spec PyProof.Rows L2
def spWithout : Sp := fun vs H Q _ => ∃ p s m : Nat, vs = [nv p, nv s, nv m] ∧ m ≤ 4 ∧ s < 2 ^ m ∧ ∀ H', Same H H' → Q (nv (Kraa.forget m p s)) H'
def spTold : Sp := fun vs H Q _ => ∃ p s m : Nat, vs = [nv p, nv s, nv m] ∧ m ≤ 4 ∧ s < 2 ^ m ∧ ∀ H', Same H H' → Q (.bl (decide (Kraa.keep m p s = p))) H'
def spFalls : Sp := fun vs H Q _ => ∃ p s m : Nat, vs = [nv p, nv s, nv m] ∧ m ≤ 4 ∧ s < 2 ^ m ∧ ∀ H', Same H H' → Q (.bl (Krad.splits m p s)) H'
def spPartOf : Sp := fun vs H Q _ => ∃ p i m : Nat, vs = [nv p, nv i, nv m] ∧ m ≤ 4 ∧ ∀ H', Same H H' → Q (nv (Krad.partOf m p i)) H'
def spParts : Sp := fun vs H Q _ => ∃ p m : Nat, vs = [nv p, nv m] ∧ m ≤ 4 ∧ p < 2 ^ (2 ^ m) ∧ ∀ D H', H D = none → H' D = some (.lst (nvs (Krad.parts m p))) → Same H H' → Q (.ref D) H'
def spTouches : Sp := fun vs H Q _ => ∃ p s m : Nat, vs = [nv p, nv s, nv m] ∧ m ≤ 4 ∧ s < 2 ^ m ∧ ∀ H', Same H H' → Q (.bl (!decide (Kraa.forget m p s = p))) H'
def spRevised : Sp := fun vs H Q _ => ∃ p q m : Nat, vs = [nv p, nv q, nv m] ∧ m ≤ 4 ∧ p < 2 ^ (2 ^ m) ∧ q < 2 ^ (2 ^ m) ∧ ∀ H', Same H H' → Q (nv (Krad.revise m p q)) H'
section
variable {P : Program} {w : World} {K : PySem.W.Frag} {mg : Str → Option Value} {base : Heap}
abbrev DAll (P : Program) (w : World) (K : PySem.W.Frag) (mg : Str → Option Value) (base : Heap) : Prop := Def P w K mg base "all_letters" 1 ["m"] spAll
abbrev DSays (P : Program) (w : World) (K : PySem.W.Frag) (mg : Str → Option Value) (base : Heap) : Prop := Def P w K mg base "says" 2 ["claim", "letters", "m"] spSays
abbrev DWithout (P : Program) (w : World) (K : PySem.W.Frag) (mg : Str → Option Value) (base : Heap) : Prop := Def P w K mg base "without" 3 ["claim", "letters", "m"] spWithout
abbrev DFalls (P : Program) (w : World) (K : PySem.W.Frag) (mg : Str → Option Value) (base : Heap) : Prop := Def P w K mg base "falls_apart" 4 ["claim", "letters", "m"] spFalls
abbrev DPartOf (P : Program) (w : World) (K : PySem.W.Frag) (mg : Str → Option Value) (base : Heap) : Prop := Def P w K mg base "part_with" 5 ["claim", "letter", "m"] spPartOf
abbrev DParts (P : Program) (w : World) (K : PySem.W.Frag) (mg : Str → Option Value) (base : Heap) : Prop := Def P w K mg base "all_parts" 6 ["claim", "m"] spParts
abbrev DTouches (P : Program) (w : World) (K : PySem.W.Frag) (mg : Str → Option Value) (base : Heap) : Prop := Def P w K mg base "touches" 4 ["claim", "part", "m"] spTouches
theorem scWithout : FnScope ["claim", "letters", "m"] ["claim", "letters", "m"] (defScope sWithout) := ⟨rfl, rfl, rfl, by decide +kernel, rfl, by decide +kernel, by decide +kernel⟩
theorem ok_without {f : Addr} {fd : FuncData} (F : Fun K "without" "without" sWithout f fd) (DA : DAll P w K mg base) (DS : DSays P w K mg base) : FnOk P w K mg base CX0 3 f fd ["claim", "letters", "m"] spWithout := by
  refine F.ok scWithout (fun vs H Q E h => ?_) (fun cdv A outer s H vs Q E hr h => ?_)
  · obtain ⟨p, l, m, rfl, _⟩ := h
    rfl
  · obtain ⟨p, l, m, rfl, hm, hl, k⟩ := h
    refine ⟨_, pss_one (ps_ret (pe_d DS hr rfl (pa_cons (pv 0) (pa_cons (pe_op nn_xor (pe_d DA (hr.mono (by decide)) rfl (pa_cons (pv 2) pa_nil)) (pv 1)) (pa_cons (pv 2) pa_nil))))), ?_⟩
    refine ⟨_, rfl, _, rfl, m, rfl, hm, _, rfl, 2 ^ m - 1, l, rfl, rfl, _, rfl, p, _, m, rfl, hm, ?_, fun H' s' => ?_⟩
    · rw [rest_xor hl]
      exact rest_lt l
    · rw [rest_xor hl, ← forget_keep hl]
      exact k H' s'
theorem scTold : FnScope ["claim", "letters", "m"] ["claim", "letters", "m"] (defScope sTold) := ⟨rfl, rfl, rfl, by decide +kernel, rfl, by decide +kernel, by decide +kernel⟩
theorem ok_told {f : Addr} {fd : FuncData} (F : Fun K "is_told_in" "is_told_in" sTold f fd) (DS : DSays P w K mg base) : FnOk P w K mg base CX0 3 f fd ["claim", "letters", "m"] spTold := by
  refine F.ok scTold (fun vs H Q E h => ?_) (fun cdv A outer s H vs Q E hr h => ?_)
  · obtain ⟨p, l, m, rfl, _⟩ := h
    rfl
  · obtain ⟨p, l, m, rfl, hm, hl, k⟩ := h
    refine ⟨_, pss_one (ps_ret (pe_cmpR nn_eq (pe_d DS hr rfl (pa_cons (pv 0) (pa_cons (pv 1) (pa_cons (pv 2) pa_nil)))) (pv 0) (nomark _))), ?_⟩
    exact ⟨_, rfl, _, rfl, _, rfl, p, l, m, rfl, hm, hl, fun H' s' => ⟨_, rfl, _, p, rfl, rfl, k H' s'⟩⟩
theorem scFalls : FnScope ["claim", "letters", "m"] ["claim", "letters", "m"] (defScope sFalls) := ⟨rfl, rfl, rfl, by decide +kernel, rfl, by decide +kernel, by decide +kernel⟩
theorem ok_falls {f : Addr} {fd : FuncData} (F : Fun K "falls_apart" "falls_apart" sFalls f fd) (DS : DSays P w K mg base) (DW : DWithout P w K mg base) : FnOk P w K mg base CX0 4 f fd ["claim", "letters", "m"] spFalls := by
  refine F.ok scFalls (fun vs H Q E h => ?_) (fun cdv A outer s H vs Q E hr h => ?_)
  · obtain ⟨p, l, m, rfl, _⟩ := h
    rfl
  · obtain ⟨p, l, m, rfl, hm, hl, k⟩ := h
    refine ⟨_, pss_one (ps_ret (pe_cmpR nn_eq (pe_op nn_and (pe_d DS (hr.mono (by decide)) rfl (pa_cons (pv 0) (pa_cons (pv 1) (pa_cons (pv 2) pa_nil)))) (pe_d DW hr rfl (pa_cons (pv 0) (pa_cons (pv 1) (pa_cons (pv 2) pa_nil))))) (pv 0) (nomark _))), ?_⟩
    refine ⟨_, rfl, _, rfl, _, rfl, p, l, m, rfl, hm, hl, fun H' s' => ⟨_, rfl, _, rfl, _, rfl, p, l, m, rfl, hm, hl, fun H2 s2 => ⟨_, _, rfl, rfl, _, rfl, _, p, rfl, rfl, ?_⟩⟩⟩
    have e : Krad.splits m p l = decide (Kraa.keep m p l &&& Kraa.forget m p l = p) := by
      unfold Krad.splits
      rw [forget_keep hl]
      rfl
    show Q (V.bl (decide (_ = _))) H2
    rw [← e]
    exact k H2 (s'.trans s2)
theorem scPartOf : FnScope ["claim", "letter", "m", "part", "letters"] ["claim", "letter", "m"] (defScope sPartOf) := ⟨rfl, rfl, rfl, by decide +kernel, rfl, by decide +kernel, by decide +kernel⟩
theorem partOf_step (m p i k : Nat) : ((List.range (k + 1)).filter fun s => Kraa.has s i && Krad.splits m p s).foldl (fun a b => a &&& b) (2 ^ m - 1) =
    if k.testBit i = true ∧ Krad.splits m p k = true then ((List.range k).filter fun s => Kraa.has s i && Krad.splits m p s).foldl (fun a b => a &&& b) (2 ^ m - 1) &&& k else ((List.range k).filter fun s => Kraa.has s i && Krad.splits m p s).foldl (fun a b => a &&& b) (2 ^ m - 1) := by
  rw [List.range_succ, List.filter_append, List.foldl_append]
  by_cases h : k.testBit i = true ∧ Krad.splits m p k = true
  · rw [if_pos h, List.filter_cons_of_pos (by rw [has_eq, h.1, h.2]; rfl)]
    rfl
  · rw [if_neg h, List.filter_cons_of_neg (by rw [has_eq, Bool.and_eq_true]; exact h)]
    rfl
theorem ok_partOf {f : Addr} {fd : FuncData} (F : Fun K "part_with" "part_with" sPartOf f fd) (hR : mg "range" = none) (DA : DAll P w K mg base) (DF : DFalls P w K mg base) : FnOk P w K mg base CX0 5 f fd ["claim", "letter", "m"] spPartOf := by
  refine F.ok scPartOf (fun vs H Q E h => ?_) (fun cdv A outer s H vs Q E hr h => ?_)
  · obtain ⟨p, i, m, rfl, _⟩ := h
    rfl
  · obtain ⟨p, i, m, rfl, hm, k⟩ := h
    have h16 := pow16 hm
    refine ⟨_, pss_cons (ps_set (i := 3) scPartOf.nd rfl (Or.inl rfl) (pe_d DA (hr.mono (by decide)) rfl (pa_cons (pv 2) pa_nil)))
      (pss_cons (ps_for PassesOwn.never rfl (pi_range1 rfl hR (pa_cons (pe_op nn_shl pe_int (pv 2)) pa_nil)) (pg_name (i := 4) scPartOf.nd rfl (Or.inl rfl))
        (pss_one (ps_if (PW.pt (pw_and (pt_cmpR nn_eq (pe_op nn_and (pe_op nn_shr (pv 4) (pv 1)) pe_int) pe_int (nomark _)) (pw_and1 (pt_val (pe_d DF hr rfl (pa_cons (pv 0) (pa_cons (pv 4) (pa_cons (pv 2) pa_nil))))))))
          (pss_one (ps_set (i := 3) scPartOf.nd rfl (Or.inl rfl) (pe_op nn_and (pv 3) (pv 4)))) pss_nil)))
      (pss_one (ps_ret (pv 3)))), ?_⟩
    refine ⟨_, rfl, m, rfl, hm, ?_⟩
    refine ⟨_, rfl, 1, m, rfl, rfl, ⟨rfl, by omega⟩, ((2 ^ m : Nat) : Int), rfl, (rng h16).1, (rng h16).2, ?_⟩
    refine for_rangeN (n := 2 ^ m) (fun j σ H' => ∃ v, σ = [some (nv p), some (nv i), some (nv m), some (nv (((List.range j).filter fun s => Kraa.has s i && Krad.splits m p s).foldl (fun a b => a &&& b) (2 ^ m - 1))), v] ∧ Same H H') ⟨none, rfl, Same.refl H⟩ (fun j σ H' hj pv => ?_) (fun σ H' pv => ?_)
    · obtain ⟨v, rfl, sm⟩ := pv
      refine ⟨_, rfl, _, rfl, j, i, rfl, rfl, j / 2 ^ i, 1, rfl, rfl, j / 2 ^ i &&& 1, 1, rfl, rfl, _, rfl, ?_⟩
      rw [bit1]
      refine ite2 (fun c => ?_) (fun c => ?_)
      · refine ⟨_, rfl, _, rfl, _, rfl, p, j, m, rfl, hm, hj, fun H2 s2 => ⟨_, rfl, ite2 (fun d => ?_) (fun d => ?_)⟩⟩
        · refine ⟨_, rfl, _, rfl, _, j, rfl, rfl, some (nv j), ?_, sm.trans s2⟩
          rw [partOf_step, if_pos ⟨c, d⟩]
          rfl
        · refine ⟨some (nv j), ?_, sm.trans s2⟩
          rw [partOf_step, if_neg (fun z => d z.2)]
          rfl
      · refine iteF ⟨some (nv j), ?_, sm⟩
        rw [partOf_step, if_neg (fun z => c z.1)]
        rfl
    · obtain ⟨v, rfl, sm⟩ := pv
      exact ⟨_, rfl, k H' sm⟩
theorem scParts : FnScope ["claim", "m", "found", "letter", "part"] ["claim", "m"] (defScope sParts) := ⟨rfl, rfl, rfl, by decide +kernel, rfl, by decide +kernel, by decide +kernel⟩
theorem ok_parts {f : Addr} {fd : FuncData} (F : Fun K "all_parts" "all_parts" sParts f fd) (hR : mg "range" = none) (DP : DPartOf P w K mg base) : FnOk P w K mg base CX0 6 f fd ["claim", "m"] spParts := by
  refine F.ok scParts (fun vs H Q E h => ?_) (fun cdv A outer s H vs Q E hr h => ?_)
  · obtain ⟨p, m, rfl, _⟩ := h
    rfl
  · obtain ⟨p, m, rfl, hm, hp, k⟩ := h
    refine ⟨_, pss_cons (ps_set (i := 2) scParts.nd rfl (Or.inl rfl) (pe_lst pa_nil))
      (pss_cons (ps_for PassesOwn.never rfl (pi_range1 rfl hR (pa_cons (pv 1) pa_nil)) (pg_name (i := 3) scParts.nd rfl (Or.inl rfl))
        (pss_cons (ps_set (i := 4) scParts.nd rfl (Or.inl rfl) (pe_d DP hr rfl (pa_cons (pv 0) (pa_cons (pv 3) (pa_cons (pv 1) pa_nil)))))
        (pss_one (ps_if (pt_cmpR nn_notin (pv 4) (pv 2) rfl)
          (pss_one (ps_expr (pe_bm PySem.F.plainAttrs_list PySem.F.slot_list_append PySem.F.type_list_append mt_append (pv 2) (pa_cons (pv 4) pa_nil)))) pss_nil))))
      (pss_one (ps_ret (pv 2)))), ?_⟩
    refine ⟨Nat.zero_le _, fun D hD => ?_⟩
    refine ⟨_, rfl, (m : Int), rfl, (rng (n := m) (by omega)).1, (rng (n := m) (by omega)).2, ?_⟩
    refine for_rangeN (n := m) (fun j σ H' => ∃ v v', σ = [some (nv p), some (nv m), some (.ref D), v, v'] ∧ H' D = some (.lst (nvs (partsN m p j))) ∧ Same H H') ⟨none, none, rfl, upd_same, Same.new hD⟩ (fun j σ H' hj pv => ?_) (fun σ H' pv => ?_)
    · obtain ⟨v, v', rfl, h1, sm⟩ := pv
      refine ⟨_, rfl, _, rfl, _, rfl, p, j, m, rfl, hm, fun H2 s2 => ?_⟩
      have h2 := s2 _ _ h1
      refine ⟨_, rfl, _, rfl, _, D, _, rfl, rfl, SqL.of h2, _, rfl, ?_⟩
      have step := partsN_succ (k := j) hp hj
      cases c : (partsN m p j).contains (Krad.partOf m p j) with
      | true =>
        rw [c, if_pos rfl] at step
        refine iteF ⟨some (nv j), some (nv (Krad.partOf m p j)), rfl, ?_, sm.trans s2⟩
        rw [step]
        exact h2
      | false =>
        rw [c, if_neg (by simp)] at step
        refine iteT ⟨_, rfl, .inl ⟨rfl, _, SqL.of h2⟩, _, rfl, D, _, _, rfl, rfl, h2, ?_, some (nv j), some (nv (Krad.partOf m p j)), rfl, ?_, (sm.trans s2).wr hD⟩
        · refine small1000 ?_
          rw [List.length_map]
          exact Nat.le_trans (partsN_len m p j) (by omega)
        · rw [upd_same, step]
          exact congrArg (fun z => some (HO.lst z)) (nvs_snoc _ _)
    · obtain ⟨v, v', rfl, h1, sm⟩ := pv
      exact ⟨_, rfl, k D H' hD h1 sm⟩
theorem scTouches : FnScope ["claim", "part", "m"] ["claim", "part", "m"] (defScope sTouches) := ⟨rfl, rfl, rfl, by decide +kernel, rfl, by decide +kernel, by decide +kernel⟩
theorem ok_touches {f : Addr} {fd : FuncData} (F : Fun K "touches" "touches" sTouches f fd) (DW : DWithout P w K mg base) : FnOk P w K mg base CX0 4 f fd ["claim", "part", "m"] spTouches := by
  refine F.ok scTouches (fun vs H Q E h => ?_) (fun cdv A outer s H vs Q E hr h => ?_)
  · obtain ⟨p, l, m, rfl, _⟩ := h
    rfl
  · obtain ⟨p, l, m, rfl, hm, hl, k⟩ := h
    refine ⟨_, pss_one (ps_ret (pe_cmpR nn_ne (pe_d DW hr rfl (pa_cons (pv 0) (pa_cons (pv 1) (pa_cons (pv 2) pa_nil)))) (pv 0) (nomark _))), ?_⟩
    exact ⟨_, rfl, _, rfl, _, rfl, p, l, m, rfl, hm, hl, fun H' s' => ⟨_, rfl, _, p, rfl, rfl, k H' s'⟩⟩
theorem scRevised : FnScope ["known", "claim", "m", "held", "part"] ["known", "claim", "m"] (defScope sRevised) := ⟨rfl, rfl, rfl, by decide +kernel, rfl, by decide +kernel, by decide +kernel⟩
theorem ok_revised {f : Addr} {fd : FuncData} (F : Fun K "revised" "revised" sRevised f fd) (DP : DParts P w K mg base) (DT : DTouches P w K mg base) (DS : DSays P w K mg base) : FnOk P w K mg base CX0 7 f fd ["known", "claim", "m"] spRevised := by
  refine F.ok scRevised (fun vs H Q E h => ?_) (fun cdv A outer s H vs Q E hr h => ?_)
  · obtain ⟨p, q, m, rfl, _⟩ := h
    rfl
  · obtain ⟨p, q, m, rfl, hm, hp, hq, k⟩ := h
    refine ⟨_, pss_cons (ps_if (pt_cmpR nn_ne (pe_op nn_and (pv 0) (pv 1)) pe_int (nomark _)) (pss_one (ps_ret (pe_op nn_and (pv 0) (pv 1)))) pss_nil)
      (pss_cons (ps_set (i := 3) scRevised.nd rfl (Or.inl rfl) (pv 1))
      (pss_cons (ps_for PassesOwn.never rfl (pi_list (pe_d DP hr rfl (pa_cons (pv 0) (pa_cons (pv 2) pa_nil)))) (pg_name (i := 4) scRevised.nd rfl (Or.inl rfl))
        (pss_one (ps_if (pt_not (pt_val (pe_d DT (hr.mono (by decide)) rfl (pa_cons (pv 1) (pa_cons (pv 4) (pa_cons (pv 2) pa_nil))))))
          (pss_one (ps_set (i := 3) scRevised.nd rfl (Or.inl rfl) (pe_op nn_and (pv 3) (pe_d DS (hr.mono (by decide)) rfl (pa_cons (pv 0) (pa_cons (pv 4) (pa_cons (pv 2) pa_nil))))))) pss_nil)))
      (pss_one (ps_ret (pv 3))))), ?_⟩
    have re := revise_eq (p := p) hq
    refine ⟨_, rfl, _, rfl, p, q, rfl, rfl, p &&& q, 0, rfl, rfl, _, rfl, ?_⟩
    by_cases c : p &&& q = 0
    · rw [if_pos c] at re
      refine iteNS c ⟨_, rfl, _, rfl, _, rfl, p, m, rfl, hm, hp, fun D H1 hD h1 s1 => ?_⟩
      refine ⟨D, rfl, ⟨_, SqL.of h1⟩, ?_⟩
      refine for_list (xs := nvs (Krad.parts m p)) (fun j σ H' => ∃ v, σ = [some (nv p), some (nv q), some (nv m), some (nv (heldN m p q ((Krad.parts m p).take j) q)), v] ∧ Same H1 H') ⟨none, rfl, Same.refl H1⟩ (fun j σ H' _ ⟨_, _, sm⟩ => SqL.of (sm _ _ h1)) (fun j x σ H' hj pv => ?_) (fun σ H' pv => ?_)
      · obtain ⟨v, rfl, sm⟩ := pv
        obtain ⟨z, hz, rfl⟩ : ∃ z, (Krad.parts m p)[j]? = some z ∧ x = nv z := by
          rw [List.getElem?_map] at hj
          cases e : (Krad.parts m p)[j]? with
          | none => rw [e] at hj; cases hj
          | some z => rw [e] at hj; exact ⟨z, rfl, (Option.some.inj hj).symm⟩
        have hl : z < 2 ^ m := parts_lt (List.mem_of_getElem? hz)
        have tk : (Krad.parts m p).take (j + 1) = (Krad.parts m p).take j ++ [z] := by rw [List.take_add_one, hz]; rfl
        have st : heldN m p q ((Krad.parts m p).take (j + 1)) q = if Kraa.forget m q z = q then heldN m p q ((Krad.parts m p).take j) q &&& Kraa.keep m p z else heldN m p q ((Krad.parts m p).take j) q := by
          unfold heldN
          rw [tk, List.foldl_append]
          rfl
        refine ⟨_, rfl, _, rfl, _, rfl, q, z, m, rfl, hm, hl, fun H2 s2 => ⟨_, rfl, ?_⟩⟩
        by_cases d : Kraa.forget m q z = q
        · rw [if_pos d] at st
          rw [decide_eq_true d]
          refine iteT ⟨_, rfl, _, rfl, _, rfl, _, rfl, p, z, m, rfl, hm, hl, fun H3 s3 => ⟨_, _, rfl, rfl, some (nv z), ?_, sm.trans (s2.trans s3)⟩⟩
          rw [st]
          rfl
        · rw [if_neg d] at st
          rw [decide_eq_false d]
          refine iteF ⟨some (nv z), ?_, sm.trans s2⟩
          rw [st]
          rfl
      · obtain ⟨v, rfl, sm⟩ := pv
        refine ⟨_, rfl, ?_⟩
        have e : (Krad.parts m p).take (nvs (Krad.parts m p)).length = Krad.parts m p := by rw [List.length_map, List.take_length]
        rw [e, ← re]
        exact k H' (s1.trans sm)
    · rw [if_neg c] at re
      rw [decide_eq_false c]
      refine iteT ⟨_, rfl, _, rfl, p, q, rfl, rfl, ?_⟩
      show Q (nv (p &&& q)) H
      rw [← re]
      exact k H (Same.refl H)
end
end Sw
end

section
set_option Elab.async false
set_option linter.all false
set_option maxRecDepth 100000
set_option maxHeartbeats 2000000
namespace Sw
open PySem PySem.Spec PyProof.Rows L2
/-! ### list + list, bit_length -/
section
variable {X : Cx}
theorem op_add_lists : OpR X (binaryOp .Add) (fun x y H Q => ∃ (a b : Addr) (xs ys : List V), x = V.ref a ∧ y = V.ref b ∧ SqL X.K H a xs ∧ SqL X.K H b ys ∧ xs.length + ys.length ≤ sizeLine ∧ ∀ l, H l = none → Q (.ref l) (upd H l (.lst (xs ++ ys)))) := by
  intro pins s σ H x y v u Q I rx ry h
  obtain ⟨a, b, xs, ys, rfl, rfl, h1, h2, hz, q⟩ := h
  cases rx
  cases ry
  obtain ⟨its, r1, pl1, _⟩ := I.list h1
  obtain ⟨its2, r2, pl2, _⟩ := I.list h2
  obtain ⟨⟨cls, dd, data, sl⟩, n, ho, hc, hd, hs⟩ := pl1
  obtain ⟨⟨cls2, dd2, data2, sl2⟩, n2, ho2, hc2, hd2, hs2⟩ := pl2
  simp only at hc hd hs hc2 hd2 hs2
  subst hc hs hc2 hs2
  have l1 := r1.length
  have l2 := r2.length
  have e : its.toArray ++ its2.toArray = (its ++ its2).toArray := by simp
  refine concat_meets ⟨_, ho, rfl⟩ ⟨_, ho2, rfl⟩ noFill_list_add seq_list_add PySem.F.slot_list_add PySem.F.entry_list_add (PySem.F.args_list_add_2 _ _) (list_addW a b its.toArray its2.toArray n n2 dd dd2 sl sl2 (by simp only [List.size_toArray]; omega)) ⟨ho, ho2, ?_⟩
  rw [e]
  refine ⟨.ref s.heap.objs.size, upd H s.heap.objs.size (.lst (xs ++ ys)), I.laid (t' := s.toks) (fun b u e => Heap.get?_push_of_some _ e) (Nat.le_refl _) ?_, rfl, q _ (I.hok.fresh (Nat.le_refl _))⟩
  exact ⟨by rw [List.length_append]; exact hz, its ++ its2, 0, r1.append r2, Heap.get?_push_size _ rfl⟩
theorem mt_bitlen : MtR X "int.bit_length" (fun x xs H Q => ∃ n : Nat, x = nv n ∧ xs = [] ∧ Q (nv (Builtin.Int.intBits (n : Int))) H) := by
  intro pins s σ H x xs v us Q I rx rs h
  obtain ⟨n, rfl, rfl, q⟩ := h
  obtain ⟨t, rfl⟩ := rx
  cases rs
  exact call_int_bit_length ⟨.int _, H, I.tok _, ⟨_, rfl⟩, q⟩
end
theorem pe_gi {X : Cx} {x : Str} {i : Int} {pos : Pos} (h : ∃ t, X.mg x = some (.int i t)) (hg : Gl X x) (hd : (x == ("__debug__" : Str)) = false := by decide) : PE X (.Name x pos) (tC (.int i)) := by
  obtain ⟨t, e⟩ := h
  exact pe_glob hg e ⟨t, rfl⟩ hd
/-! ### a letter's claim; how a claim stands to what is known -/
def letC (m i : Nat) : Nat := bset (2 ^ m) fun w => w.testBit i
def stand (p q : Nat) : Nat := if Kraa.within p q = true then 1 else if p &&& q = 0 then 0 else 2
theorem letC_bit (m i w : Nat) : (letC m i).testBit w = (decide (w < 2 ^ m) && w.testBit i) := bset_bit _ _ _
theorem settled_eq {m p i : Nat} (hp : p < 2 ^ (2 ^ m)) : Kraa.settled m p i = stand p (letC m i) := by
  unfold Kraa.settled stand
  have e1 : ((Kraa.ws m).all fun w => !(p.testBit w) || Kraa.has w i) = Kraa.within p (letC m i) := by
    rw [Bool.eq_iff_iff, List.all_eq_true, within_iff]
    constructor
    · intro h w b
      have hw := bit_lt hp b
      have := h w (List.mem_range.mpr hw)
      rw [b, has_eq] at this
      rw [letC_bit, decide_eq_true hw]
      simpa using this
    · intro h w hw
      rw [has_eq]
      cases b : p.testBit w with
      | false => rfl
      | true =>
        have := h w b
        rw [letC_bit, Bool.and_eq_true] at this
        simpa using this.2
  have e2 : ((Kraa.ws m).all fun w => !(p.testBit w) || !(Kraa.has w i)) = true ↔ p &&& letC m i = 0 := by
    rw [List.all_eq_true]
    constructor
    · intro h
      apply Nat.eq_of_testBit_eq
      intro w
      rw [Nat.testBit_and, letC_bit, Nat.zero_testBit]
      cases b : p.testBit w with
      | false => rfl
      | true =>
        have := h w (List.mem_range.mpr (bit_lt hp b))
        rw [b, has_eq] at this
        have t : w.testBit i = false := by simpa using this
        rw [t]
        simp
    · intro h w hw
      have hw := List.mem_range.mp hw
      rw [has_eq]
      cases b : p.testBit w with
      | false => rfl
      | true =>
        have t := congrArg (fun z => z.testBit w) h
        simp only [Nat.testBit_and, letC_bit, Nat.zero_testBit, b, Bool.true_and] at t
        have : decide (w < 2 ^ m) = true := decide_eq_true hw
        rw [this] at t
        simpa using t
  rw [e1]
  by_cases c : Kraa.within p (letC m i) = true
  · rw [if_pos c, if_pos c]
  · rw [if_neg c, if_neg c]
    by_cases d : p &&& letC m i = 0
    · rw [if_pos d, if_pos (e2.mpr d)]
    · rw [if_neg d, if_neg (fun z => d (e2.mp z))]
def spLetter : Sp := fun vs H Q _ => ∃ i m : Nat, vs = [nv i, nv m] ∧ m ≤ 4 ∧ Q (nv (letC m i)) H
def spFollowsOf : Sp := fun vs H Q _ => ∃ q p : Nat, vs = [nv q, nv p] ∧ Q (.bl (Kraa.within p q)) H
def spStands : Sp := fun vs H Q _ => ∃ q p : Nat, vs = [nv q, nv p] ∧ Q (nv (stand p q)) H
section
variable {P : Program} {w : World} {K : PySem.W.Frag} {mg : Str → Option Value} {base : Heap}
abbrev DLetter (P : Program) (w : World) (K : PySem.W.Frag) (mg : Str → Option Value) (base : Heap) : Prop := Def P w K mg base "letter_is_so" 1 ["letter", "m"] spLetter
abbrev DFollowsOf (P : Program) (w : World) (K : PySem.W.Frag) (mg : Str → Option Value) (base : Heap) : Prop := Def P w K mg base "follows_of" 1 ["claim", "known"] spFollowsOf
abbrev DStands (P : Program) (w : World) (K : PySem.W.Frag) (mg : Str → Option Value) (base : Heap) : Prop := Def P w K mg base "stands_to" 2 ["claim", "known"] spStands
theorem scLetter : FnScope ["letter", "m", "claim", "world"] ["letter", "m"] (defScope sLetter) := ⟨rfl, rfl, rfl, by decide +kernel, rfl, by decide +kernel, by decide +kernel⟩
theorem ok_letter {f : Addr} {fd : FuncData} (F : Fun K "letter_is_so" "letter_is_so" sLetter f fd) (hR : mg "range" = none) : FnOk P w K mg base CX0 1 f fd ["letter", "m"] spLetter := by
  refine F.ok scLetter (fun vs H Q E h => ?_) (fun cdv A outer s H vs Q E hr h => ?_)
  · obtain ⟨i, m, rfl, _⟩ := h
    rfl
  · obtain ⟨i, m, rfl, hm, k⟩ := h
    have h16 := pow16 hm
    refine ⟨_, pss_cons (ps_set (i := 2) scLetter.nd rfl (Or.inl rfl) pe_int)
      (pss_cons (ps_for PassesOwn.never rfl (pi_range1 rfl hR (pa_cons (pe_op nn_shl pe_int (pv 1)) pa_nil)) (pg_name (i := 3) scLetter.nd rfl (Or.inl rfl))
        (pss_one (ps_if (pt_cmpR nn_eq (pe_op nn_and (pe_op nn_shr (pv 3) (pv 0)) pe_int) pe_int (nomark _)) (pss_one (ps_aug (i := 2) scLetter.nd rfl (Or.inl rfl) (pe_op nn_shl pe_int (pv 3)) nn_iadd)) pss_nil)))
      (pss_one (ps_ret (pv 2)))), ?_⟩
    refine ⟨_, rfl, 1, m, rfl, rfl, ⟨rfl, by omega⟩, ((2 ^ m : Nat) : Int), rfl, (rng h16).1, (rng h16).2, ?_⟩
    refine for_rangeN (n := 2 ^ m) (fun j σ H' => ∃ v, σ = [some (nv i), some (nv m), some (nv (bset j fun w => w.testBit i)), v] ∧ H' = H) ⟨none, rfl, rfl⟩ (fun j σ H' hj pv => ?_) (fun σ H' pv => ?_)
    · obtain ⟨v, rfl, rfl⟩ := pv
      refine ⟨_, rfl, _, rfl, j, i, rfl, rfl, j / 2 ^ i, 1, rfl, rfl, j / 2 ^ i &&& 1, 1, rfl, rfl, _, rfl, ?_⟩
      rw [bit1]
      refine ite2 (fun c => ?_) (fun c => ?_)
      · refine ⟨_, rfl, _, rfl, 1, j, rfl, rfl, ⟨rfl, by omega⟩, _, _, rfl, rfl, some (nv j), ?_, rfl⟩
        rw [bset_succ, if_pos c]
        rfl
      · refine ⟨some (nv j), ?_, rfl⟩
        rw [bset_succ, if_neg c]
        rfl
    · obtain ⟨v, rfl, rfl⟩ := pv
      exact ⟨_, rfl, k⟩
theorem scFollowsOf : FnScope ["claim", "known"] ["claim", "known"] (defScope sFollowsOf) := ⟨rfl, rfl, rfl, by decide +kernel, rfl, by decide +kernel, by decide +kernel⟩
theorem ok_followsOf {f : Addr} {fd : FuncData} (F : Fun K "follows_of" "follows_of" sFollowsOf f fd) : FnOk P w K mg base CX0 1 f fd ["claim", "known"] spFollowsOf := by
  refine F.ok scFollowsOf (fun vs H Q E h => ?_) (fun cdv A outer s H vs Q E hr h => ?_)
  · obtain ⟨q, p, rfl, _⟩ := h
    rfl
  · obtain ⟨q, p, rfl, k⟩ := h
    refine ⟨_, pss_one (ps_ret (pe_cmpR nn_eq (pe_op nn_and (pv 1) (pv 0)) (pv 1) (nomark _))), ?_⟩
    exact ⟨_, rfl, _, rfl, p, q, rfl, rfl, _, rfl, _, p, rfl, rfl, k⟩
theorem scStands : FnScope ["claim", "known"] ["claim", "known"] (defScope sStands) := ⟨rfl, rfl, rfl, by decide +kernel, rfl, by decide +kernel, by decide +kernel⟩
theorem ok_stands {f : Addr} {fd : FuncData} (F : Fun K "stands_to" "stands_to" sStands f fd) (h1 : ∃ t, mg "FOLLOWS" = some (.int 1 t)) (h0 : ∃ t, mg "CANNOT_BE_SO" = some (.int 0 t)) (h2 : ∃ t, mg "NEITHER" = some (.int 2 t)) (DF : DFollowsOf P w K mg base) :
    FnOk P w K mg base CX0 2 f fd ["claim", "known"] spStands := by
  refine F.ok scStands (fun vs H Q E h => ?_) (fun cdv A outer s H vs Q E hr h => ?_)
  · obtain ⟨q, p, rfl, _⟩ := h
    rfl
  · obtain ⟨q, p, rfl, k⟩ := h
    refine ⟨_, pss_cons (ps_if (pt_val (pe_d DF hr rfl (pa_cons (pv 0) (pa_cons (pv 1) pa_nil)))) (pss_one (ps_ret (pe_gi h1 rfl))) pss_nil)
      (pss_cons (ps_if (pt_cmpR nn_eq (pe_op nn_and (pv 1) (pv 0)) pe_int (nomark _)) (pss_one (ps_ret (pe_gi h0 rfl))) pss_nil) (pss_one (ps_ret (pe_gi h2 rfl)))), ?_⟩
    unfold stand at k
    refine ⟨_, rfl, _, rfl, q, p, rfl, _, rfl, ?_⟩
    cases c : Kraa.within p q with
    | true =>
      rw [c] at k
      exact iteT k
    | false =>
      rw [c] at k
      refine iteF ⟨_, rfl, _, rfl, p, q, rfl, rfl, p &&& q, 0, rfl, rfl, _, rfl, ?_⟩
      by_cases d : p &&& q = 0
      · rw [if_neg (by simp), if_pos d] at k
        rw [decide_eq_true d]
        exact iteT k
      · rw [if_neg (by simp), if_neg d] at k
        rw [decide_eq_false d]
        exact iteF k
end
end Sw
end

section
set_option Elab.async false
set_option linter.all false
set_option maxRecDepth 100000
set_option maxHeartbeats 2000000
namespace Sw
open PySem PySem.Spec PyProof.Rows L2
/-! ### a method, by its name; a number of the module -/
structure Met (P : Program) (w : World) (K : PySem.W.Frag) (mg : Str → Option Value) (base : Heap) (C : Addr) (x : Str) (k : Nat) (ps : List Str) (sp : Sp) : Prop where
  ex : ∃ (f : Addr) (fd : FuncData), FnOk P w K mg base CX0 k f fd ps sp ∧ Binds K fd ps [] ∧ Meth K C x f
theorem pe_md {X : Cx} {C : Addr} {m : Str} {k : Nat} {ps : List Str} {sp : Sp} {apos pos : Pos} {o e : Expr} {es : List Expr} {ta : TE} {t : TA} {pl : Sem Bool} (he : PE X o ta) (c : Cls X.K C) (D : Met X.prog X.w X.K X.mg X.base C m k ps sp) (hr : Room k X.A) (ha : PA X (e :: es) t)
    (hst : starEach (e :: es) X.env = (false, eval e X.env) :: starEach es X.env := by rfl) (hpl : (backTo pos (starEach es X.env)).any (·.1) = false := by rfl)
    (ht : eval (.Call (.Attribute o m apos) (e :: es) [] pos) X.env = (do
      let ov ← eval o X.env
      standAt apos.atName
      let (f, first) ← holding [ov] (getMethod ov m pl)
      callWith pos f first (backTo pos (starEach (e :: es) X.env)) (backToKw pos (keywordEach [] X.env))) := by rfl) :
    PE X (.Call (.Attribute o m apos) (e :: es) [] pos) (tMeth C m sp [] E0 ta t) := by
  obtain ⟨f, fd, F, b, M⟩ := D.ex
  exact pe_meth he c M F hr b .nil pass0 ha hst hpl ht
theorem pe_md0 {X : Cx} {C : Addr} {m : Str} {k : Nat} {ps : List Str} {sp : Sp} {apos pos : Pos} {o : Expr} {ta : TE} {pl : Sem Bool} (he : PE X o ta) (c : Cls X.K C) (D : Met X.prog X.w X.K X.mg X.base C m k ps sp) (hr : Room k X.A)
    (ht : eval (.Call (.Attribute o m apos) [] [] pos) X.env = (do
      let ov ← eval o X.env
      standAt apos.atName
      let (f, first) ← holding [ov] (getMethod ov m pl)
      callWith pos f first (backTo pos (starEach [] X.env)) (backToKw pos (keywordEach [] X.env))) := by rfl) :
    PE X (.Call (.Attribute o m apos) [] [] pos) (tMeth C m sp [] E0 ta tNil) := by
  obtain ⟨f, fd, F, b, M⟩ := D.ex
  exact pe_meth0 he c M F hr b .nil pass0 ht
/-! ### two people, as they stand in the heap -/
def pf (m : Nat) (oL kn pa un : Addr) : List (Str × V) := [("m", nv m), ("own_letters", .ref oL), ("known", .ref kn), ("past", .ref pa), ("undone", .ref un)]
def Snap (H : Hp) (t : Kraf.Two) (r : Addr) : Prop := ∃ a b, H r = some (.tup [.ref a, .ref b]) ∧ H a = some (.tup [nv t.la, nv t.lb]) ∧ H b = some (.tup [nv t.ca, nv t.cb])
inductive Snaps (H : Hp) : List Kraf.Two → List V → Prop
  | nil : Snaps H [] []
  | cons {t : Kraf.Two} {r : Addr} {ts : List Kraf.Two} {xs : List V} : Snap H t r → Snaps H ts xs → Snaps H (t :: ts) (.ref r :: xs)
/-- what never changes stays -/
def Tups (H H' : Hp) : Prop := ∀ b xs, H b = some (.tup xs) → H' b = some (.tup xs)
theorem Tups.trans {H H1 H2 : Hp} (a : Tups H H1) (b : Tups H1 H2) : Tups H H2 := fun c xs h => b c xs (a c xs h)
theorem tups_same {H H' : Hp} (s : Same H H') : Tups H H' := fun b xs h => s b _ h
theorem tups_upd {H : Hp} {a : Addr} {o u : HO} (h : H a = some o) (d : ∀ xs, o ≠ .tup xs) : Tups H (upd H a u) := fun b xs e => by
  rw [upd_ne (ne_of e h fun z => d xs z.symm)]
  exact e
theorem Snap.mono {H H' : Hp} {t : Kraf.Two} {r : Addr} (h : Snap H t r) (s : Tups H H') : Snap H' t r := by
  obtain ⟨a, b, h1, h2, h3⟩ := h
  exact ⟨a, b, s _ _ h1, s _ _ h2, s _ _ h3⟩
theorem Snaps.mono {H H' : Hp} (s : Tups H H') : ∀ {ts : List Kraf.Two} {xs : List V}, Snaps H ts xs → Snaps H' ts xs
  | _, _, .nil => .nil
  | _, _, .cons h t => .cons (h.mono s) (Snaps.mono s t)
theorem Snaps.len {H : Hp} : ∀ {ts : List Kraf.Two} {xs : List V}, Snaps H ts xs → xs.length = ts.length
  | _, _, .nil => rfl
  | _, _, .cons _ t => congrArg (· + 1) (Snaps.len t)
theorem Snaps.snoc {H : Hp} {t : Kraf.Two} {r : Addr} (h : Snap H t r) : ∀ {ts : List Kraf.Two} {xs : List V}, Snaps H ts xs → Snaps H (ts ++ [t]) (xs ++ [.ref r])
  | _, _, .nil => .cons h .nil
  | _, _, .cons g u => .cons g (Snaps.snoc h u)
theorem Snaps.unsnoc {H : Hp} {t : Kraf.Two} : ∀ {ts : List Kraf.Two} {xs : List V}, Snaps H (ts ++ [t]) xs → ∃ r ys, xs = ys ++ [.ref r] ∧ Snap H t r ∧ Snaps H ts ys
  | [], _, .cons h .nil => ⟨_, [], rfl, h, .nil⟩
  | _ :: ts, _, .cons g u => by
    obtain ⟨r, ys, rfl, h, k⟩ := Snaps.unsnoc (ts := ts) u
    exact ⟨r, _ :: ys, rfl, h, .cons g k⟩
theorem Snaps.tail {H : Hp} : ∀ {ts : List Kraf.Two} {xs : List V}, Snaps H ts xs → Snaps H ts.tail xs.tail
  | _, _, .nil => .nil
  | _, _, .cons _ t => t
/-- the people at p: what they are now, what can be taken back (the last one last), what can be done again (the next one last) -/
structure Pst (C : Addr) (H : Hp) (p : Addr) (t : Kraf.Two) (pa un : List Kraf.Two) : Prop where
  ex : ∃ (dx oL kn aP aU : Addr) (xs ys : List V), H p = some (.ins C dx (pf t.m oL kn aP aU)) ∧ H oL = some (.tup [nv t.la, nv t.lb]) ∧ H kn = some (.tup [nv t.ca, nv t.cb]) ∧ H aP = some (.lst xs) ∧ H aU = some (.lst ys) ∧ aP ≠ aU ∧ Snaps H pa xs ∧ Snaps H un ys
/-- what belongs to the people at p and changes -/
def Foot (p : Addr) (H : Hp) (b : Addr) : Prop := b = p ∨ ∃ C dx m oL kn aP aU, H p = some (.ins C dx (pf m oL kn aP aU)) ∧ (b = aP ∨ b = aU)
def Kp (p : Addr) (H H' : Hp) : Prop := ∀ b o, H b = some o → ¬ Foot p H b → H' b = some o ∧ ¬ Foot p H' b
theorem Kp.refl (p : Addr) (H : Hp) : Kp p H H := fun _ _ h f => ⟨h, f⟩
theorem Kp.trans {p : Addr} {H H1 H2 : Hp} (a : Kp p H H1) (b : Kp p H1 H2) : Kp p H H2 := fun c o h f => let ⟨h1, f1⟩ := a c o h f; b c o h1 f1
theorem foot_at {p b C dx oL kn aP aU : Addr} {m : Nat} {H : Hp} (h : H p = some (.ins C dx (pf m oL kn aP aU))) : Foot p H b ↔ b = p ∨ b = aP ∨ b = aU := by
  constructor
  · rintro (e | ⟨C', dx', m', oL', kn', aP', aU', h', e⟩)
    · exact .inl e
    · rw [h] at h'
      injection h' with h'
      injection h' with _ _ h'
      unfold pf at h'
      injection h' with _ h'
      injection h' with _ h'
      injection h' with _ h'
      injection h' with e1 h'
      injection h' with e2 _
      injection e1 with _ e1
      injection e2 with _ e2
      injection e1 with e1
      injection e2 with e2
      subst e1 e2
      exact .inr e
  · rintro (e | e)
    · exact .inl e
    · exact .inr ⟨C, dx, m, oL, kn, aP, aU, h, e⟩
theorem Pst.same {C p : Addr} {H H' : Hp} {t : Kraf.Two} {pa un : List Kraf.Two} (h : Pst C H p t pa un) (s : Same H H') : Pst C H' p t pa un := by
  obtain ⟨dx, oL, kn, aP, aU, xs, ys, h1, h2, h3, h4, h5, h6, h7, h8⟩ := h.ex
  exact ⟨dx, oL, kn, aP, aU, xs, ys, s _ _ h1, s _ _ h2, s _ _ h3, s _ _ h4, s _ _ h5, h6, h7.mono (tups_same s), h8.mono (tups_same s)⟩
theorem Pst.kp {C p : Addr} {H H' : Hp} {t : Kraf.Two} {pa un : List Kraf.Two} (h : Pst C H p t pa un) (s : Same H H') : Kp p H H' := by
  obtain ⟨dx, oL, kn, aP, aU, xs, ys, h1, _⟩ := h.ex
  intro b o e f
  exact ⟨s _ _ e, fun z => f ((foot_at h1).mpr ((foot_at (s _ _ h1)).mp z))⟩
/-! ### the text -/
abbrev sWithOne : Stmt := top 20
abbrev sInit : Stmt := inClass (top 21) 0
abbrev sBeginAnew : Stmt := inClass (top 21) 1
abbrev sCommon : Stmt := inClass (top 21) 2
abbrev sHold : Stmt := inClass (top 21) 7
abbrev sOwnMore : Stmt := inClass (top 21) 8
abbrev sKeepFor : Stmt := inClass (top 21) 9
abbrev sGoBack : Stmt := inClass (top 21) 10
abbrev sGoAgain : Stmt := inClass (top 21) 11
abbrev sRestore : Stmt := inClass (top 21) 12
abbrev sTogether : Stmt := inClass (top 21) 3
abbrev sMost : Stmt := inClass (top 21) 4
abbrev sKIf : Stmt := inClass (top 21) 5
abbrev sQuarrelIn : Stmt := inClass (top 21) 6
structure Txt (K : PySem.W.Frag) (C : Addr) : Prop where
  cl : Cls K C
  nM : NoAttr K C "m"
  nO : NoAttr K C "own_letters"
  nK : NoAttr K C "known"
  nP : NoAttr K C "past"
  nU : NoAttr K C "undone"
/-! ### what they promise -/
def spWithOne : Sp := fun vs H Q _ => ∃ (a : Addr) (x y : V) (w v : Nat), vs = [.ref a, nv w, nv v] ∧ H a = some (.tup [x, y]) ∧ ∀ D, H D = none → Q (.ref D) (upd H D (.tup (if w = 0 then [nv v, y] else [x, nv v])))
def t0 : Kraf.Two := ⟨0, 0, 0, 0, 0⟩
def spInit (C : Addr) : Sp := fun vs H Q _ => ∃ (p dx : Addr), vs = [.ref p] ∧ H p = some (.ins C dx []) ∧ ∀ H', Pst C H' p t0 [] [] → (∀ b o, H b = some o → b ≠ p → H' b = some o ∧ ¬ Foot p H' b) → Q .non H'
def spBeginAnew (C : Addr) : Sp := fun vs H Q _ => ∃ (p : Addr) (m a b : Nat) (t : Kraf.Two) (pa un : List Kraf.Two), vs = [.ref p, nv m, nv a, nv b] ∧ m ≤ 4 ∧ Pst C H p t pa un ∧ ∀ H', Pst C H' p ⟨m, a, b, Kraa.full m, Kraa.full m⟩ [] [] → Kp p H H' → Q .non H'
def spCommon (C : Addr) : Sp := fun vs H Q _ => ∃ (p : Addr) (t : Kraf.Two) (pa un : List Kraf.Two), vs = [.ref p] ∧ Pst C H p t pa un ∧ Q (nv (t.la &&& t.lb)) H
/-- the last 20 -/
def push20 (l : List Kraf.Two) (t : Kraf.Two) : List Kraf.Two := if 20 < (l ++ [t]).length then (l ++ [t]).tail else l ++ [t]
def spKeepFor (C : Addr) : Sp := fun vs H Q _ => ∃ (p : Addr) (t : Kraf.Two) (pa un : List Kraf.Two), vs = [.ref p] ∧ Pst C H p t pa un ∧ pa.length ≤ 20 ∧ ∀ H', Pst C H' p t (push20 pa t) [] → Kp p H H' → Q .non H'
def spHold (C : Addr) : Sp := fun vs H Q _ => ∃ (p : Addr) (w c : Nat) (t : Kraf.Two) (pa un : List Kraf.Two), vs = [.ref p, nv w, nv c] ∧ Pst C H p t pa un ∧ pa.length ≤ 20 ∧ ∀ H', Pst C H' p (t.put w c) (push20 pa t) [] → Kp p H H' → Q .non H'
def putL (t : Kraf.Two) (w c : Nat) : Kraf.Two := if w = 0 then { t with la := c } else { t with lb := c }
def spOwnMore (C : Addr) : Sp := fun vs H Q _ => ∃ (p : Addr) (w i : Nat) (t : Kraf.Two) (pa un : List Kraf.Two), vs = [.ref p, nv w, nv i] ∧ w ≤ 1 ∧ i ≤ 4 ∧ Pst C H p t pa un ∧ pa.length ≤ 20 ∧ ∀ H', Pst C H' p (putL t w (t.own w ||| 2 ^ i)) (push20 pa t) [] → Kp p H H' → Q .non H'
def spRestore (C : Addr) : Sp := fun vs H Q _ => ∃ (p r : Addr) (t x : Kraf.Two) (pa un : List Kraf.Two), vs = [.ref p, .ref r] ∧ Snap H x r ∧ Pst C H p t pa un ∧ ∀ H', Pst C H' p ⟨t.m, x.la, x.lb, x.ca, x.cb⟩ pa un → Kp p H H' → Q .non H'
def spGoBack (C : Addr) : Sp := fun vs H Q _ => ∃ (p : Addr) (t x : Kraf.Two) (pa un : List Kraf.Two), vs = [.ref p] ∧ Pst C H p t (pa ++ [x]) un ∧ un.length ≤ 20 ∧ ∀ H', Pst C H' p ⟨t.m, x.la, x.lb, x.ca, x.cb⟩ pa (un ++ [t]) → Kp p H H' → Q .non H'
def spGoAgain (C : Addr) : Sp := fun vs H Q _ => ∃ (p : Addr) (t x : Kraf.Two) (pa un : List Kraf.Two), vs = [.ref p] ∧ Pst C H p t pa (un ++ [x]) ∧ pa.length ≤ 20 ∧ ∀ H', Pst C H' p ⟨t.m, x.la, x.lb, x.ca, x.cb⟩ (pa ++ [t]) un → Kp p H H' → Q .non H'
section
variable {P : Program} {w : World} {K : PySem.W.Frag} {mg : Str → Option Value} {base : Heap} {C : Addr}
theorem scWithOne : FnScope ["pair", "w", "value"] ["pair", "w", "value"] (defScope sWithOne) := ⟨rfl, rfl, rfl, by decide +kernel, rfl, by decide +kernel, by decide +kernel⟩
theorem ok_withOne {f : Addr} {fd : FuncData} (F : Fun K "with_one" "with_one" sWithOne f fd) : FnOk P w K mg base CX0 1 f fd ["pair", "w", "value"] spWithOne := by
  refine F.ok scWithOne (fun vs H Q E h => ?_) (fun cdv A outer s H vs Q E hr h => ?_)
  · obtain ⟨a, x, y, w, v, rfl, _⟩ := h
    rfl
  · obtain ⟨a, x, y, w, v, rfl, h1, k⟩ := h
    refine ⟨_, pss_one (ps_ret (pe_ifExp (pt_cmpR nn_eq (pv 1) pe_int (nomark _)) (pe_tup (pa_cons (pv 2) (pa_cons (pe_ix ix_tup (pv 0) pe_int (fun _ _ => rfl)) pa_nil))) (pe_tup (pa_cons (pe_ix ix_tup (pv 0) pe_int (fun _ _ => rfl)) (pa_cons (pv 2) pa_nil))))), ?_⟩
    refine ⟨_, rfl, w, 0, rfl, rfl, _, rfl, ?_⟩
    by_cases c : w = 0
    · rw [decide_eq_true c]
      rw [if_pos c] at k
      exact iteT ⟨_, rfl, _, rfl, a, _, _, _, rfl, rfl, SqT.of h1, (show atI [x, y] 1 = some y from rfl), (by show 2 ≤ sizeLine; decide), k⟩
    · rw [decide_eq_false c]
      rw [if_neg c] at k
      exact iteF ⟨_, rfl, a, _, _, _, rfl, rfl, SqT.of h1, (show atI [x, y] 0 = some x from rfl), _, rfl, (by show 2 ≤ sizeLine; decide), k⟩
theorem scInit : FnScope ["self"] ["self"] (defScope sInit) := ⟨rfl, rfl, rfl, by decide +kernel, rfl, by decide +kernel, by decide +kernel⟩
theorem ok_init {f : Addr} {fd : FuncData} (F : Fun K "__init__" "People.__init__" sInit f fd) (T : Txt K C) : FnOk P w K mg base CX0 1 f fd ["self"] (spInit C) := by
  refine F.ok scInit (fun vs H Q E h => ?_) (fun cdv A outer s H vs Q E hr h => ?_)
  · obtain ⟨p, dx, rfl, _⟩ := h
    rfl
  · obtain ⟨p, dx, rfl, hp, k⟩ := h
    refine ⟨_, pss_cons (ps_fld (pv 0) pe_int rfl) (pss_cons (ps_fld (pv 0) (pe_tup (pa_cons pe_int (pa_cons pe_int pa_nil))) rfl) (pss_cons (ps_fld (pv 0) (pe_tup (pa_cons pe_int (pa_cons pe_int pa_nil))) rfl) (pss_cons (ps_fld (pv 0) (pe_lst pa_nil) rfl) (pss_one (ps_fld (pv 0) (pe_lst pa_nil) rfl))))), ?_⟩
    refine ⟨_, rfl, p, C, dx, _, rfl, hp, T.cl, T.nM, (by show 0 < 1000; decide), (by show 2 ≤ sizeLine; decide), fun a1 n1 => ?_⟩
    simp only [upd_none] at n1
    obtain ⟨m1, n1⟩ := n1
    refine ⟨_, rfl, p, C, dx, _, rfl, (upd_ne m1.symm).trans upd_same, T.cl, T.nO, (by show 1 < 1000; decide), (by show 2 ≤ sizeLine; decide), fun a2 n2 => ?_⟩
    simp only [upd_none] at n2
    obtain ⟨m2, _, _, n2⟩ := n2
    refine ⟨_, rfl, p, C, dx, _, rfl, (upd_ne m2.symm).trans upd_same, T.cl, T.nK, (by show 2 < 1000; decide), Nat.zero_le _, fun a3 n3 => ?_⟩
    simp only [upd_none] at n3
    obtain ⟨m3, _, _, _, _, n3⟩ := n3
    refine ⟨_, rfl, p, C, dx, _, rfl, (upd_ne m3.symm).trans upd_same, T.cl, T.nP, (by show 3 < 1000; decide), Nat.zero_le _, fun a4 n4 => ?_⟩
    simp only [upd_none] at n4
    obtain ⟨m4, d4, _, _, _, _, _, n4⟩ := n4
    refine ⟨_, rfl, p, C, dx, _, rfl, (upd_ne m4.symm).trans upd_same, T.cl, T.nU, (by show 4 < 1000; decide), ?_⟩
    have hp' : ∀ Hx : Hp, upd Hx p (.ins C dx (putF "undone" (.ref a4) (putF "past" (.ref a3) (putF "known" (.ref a2) (putF "own_letters" (.ref a1) (putF "m" (.int 0) [])))))) p = some (.ins C dx (pf 0 a1 a2 a3 a4)) := fun Hx => upd_same
    refine k _ ⟨dx, a1, a2, a3, a4, [], [], hp' _, ?_, ?_, ?_, ?_, ?_, .nil, .nil⟩ fun b o e hb => ⟨?_, fun z => ?_⟩
    · (repeat (first | rw [upd_same] | rw [upd_ne (by first | assumption | exact Ne.symm (by assumption))]))
      rfl
    · (repeat (first | rw [upd_same] | rw [upd_ne (by first | assumption | exact Ne.symm (by assumption))]))
      rfl
    · (repeat (first | rw [upd_same] | rw [upd_ne (by first | assumption | exact Ne.symm (by assumption))]))
    · (repeat (first | rw [upd_same] | rw [upd_ne (by first | assumption | exact Ne.symm (by assumption))]))
    · exact d4.symm
    · have e1 := ne_of_none e n1
      have e2 := ne_of_none e n2
      have e3 := ne_of_none e n3
      have e4 := ne_of_none e n4
      (repeat (first | rw [upd_same] | rw [upd_ne (by first | assumption | exact Ne.symm (by assumption))]))
      exact e
    · have e3 := ne_of_none e n3
      have e4 := ne_of_none e n4
      rcases (foot_at (hp' _)).mp z with z | z | z
      · exact hb z
      · exact e3 z
      · exact e4 z
theorem scBeginAnew : FnScope ["self", "m", "a", "b"] ["self", "m", "a", "b"] (defScope sBeginAnew) := ⟨rfl, rfl, rfl, by decide +kernel, rfl, by decide +kernel, by decide +kernel⟩
theorem ok_beginAnew {f : Addr} {fd : FuncData} (F : Fun K "begin_anew" "People.begin_anew" sBeginAnew f fd) (T : Txt K C) (DA : Def P w K mg base "always" 1 ["m"] spAlways) : FnOk P w K mg base CX0 2 f fd ["self", "m", "a", "b"] (spBeginAnew C) := by
  refine F.ok scBeginAnew (fun vs H Q E h => ?_) (fun cdv A outer s H vs Q E hr h => ?_)
  · obtain ⟨p, m, a, b, t, pa, un, rfl, _⟩ := h
    rfl
  · obtain ⟨p, m, a, b, t, pa, un, rfl, hm, ⟨dx, oL, kn, aP, aU, xs, ys, h1, h2, h3, h4, h5, h6, h7, h8⟩, k⟩ := h
    refine ⟨_, pss_cons (ps_fld (pv 0) (pv 1) rfl) (pss_cons (ps_fld (pv 0) (pe_tup (pa_cons (pv 2) (pa_cons (pv 3) pa_nil))) rfl) (pss_cons (ps_fld (pv 0) (pe_tup (pa_cons (pe_d DA hr rfl (pa_cons (pv 1) pa_nil)) (pa_cons (pe_d DA hr rfl (pa_cons (pv 1) pa_nil)) pa_nil))) rfl)
      (pss_cons (ps_fld (pv 0) (pe_lst pa_nil) rfl) (pss_one (ps_fld (pv 0) (pe_lst pa_nil) rfl))))), ?_⟩
    refine ⟨_, rfl, _, rfl, p, C, dx, _, rfl, h1, T.cl, T.nM, (by show 5 < 1000; decide), _, rfl, _, rfl, (by show 2 ≤ sizeLine; decide), fun a1 n1 => ?_⟩
    simp only [upd_none] at n1
    obtain ⟨m1, n1⟩ := n1
    refine ⟨_, rfl, p, C, dx, _, rfl, (upd_ne m1.symm).trans upd_same, T.cl, T.nO, (by show 5 < 1000; decide), _, rfl, m, rfl, hm, _, rfl, m, rfl, hm, (by show 2 ≤ sizeLine; decide), fun a2 n2 => ?_⟩
    simp only [upd_none] at n2
    obtain ⟨m2, _, _, n2⟩ := n2
    refine ⟨_, rfl, p, C, dx, _, rfl, (upd_ne m2.symm).trans upd_same, T.cl, T.nK, (by show 5 < 1000; decide), Nat.zero_le _, fun a3 n3 => ?_⟩
    simp only [upd_none] at n3
    obtain ⟨m3, _, _, _, _, n3⟩ := n3
    refine ⟨_, rfl, p, C, dx, _, rfl, (upd_ne m3.symm).trans upd_same, T.cl, T.nP, (by show 5 < 1000; decide), Nat.zero_le _, fun a4 n4 => ?_⟩
    simp only [upd_none] at n4
    obtain ⟨m4, d4, _, _, _, _, _, n4⟩ := n4
    refine ⟨_, rfl, p, C, dx, _, rfl, (upd_ne m4.symm).trans upd_same, T.cl, T.nU, (by show 5 < 1000; decide), ?_⟩
    have hp' : ∀ Hx : Hp, upd Hx p (.ins C dx (putF "undone" (.ref a4) (putF "past" (.ref a3) (putF "known" (.ref a2) (putF "own_letters" (.ref a1) (putF "m" (nv m) (pf t.m oL kn aP aU))))))) p = some (.ins C dx (pf m a1 a2 a3 a4)) := fun Hx => upd_same
    refine k _ ⟨dx, a1, a2, a3, a4, [], [], hp' _, ?_, ?_, ?_, ?_, ?_, .nil, .nil⟩ fun b o e hb => ⟨?_, fun z => ?_⟩
    · (repeat (first | rw [upd_same] | rw [upd_ne (by first | assumption | exact Ne.symm (by assumption))]))
    · (repeat (first | rw [upd_same] | rw [upd_ne (by first | assumption | exact Ne.symm (by assumption))]))
    · (repeat (first | rw [upd_same] | rw [upd_ne (by first | assumption | exact Ne.symm (by assumption))]))
    · (repeat (first | rw [upd_same] | rw [upd_ne (by first | assumption | exact Ne.symm (by assumption))]))
    · exact d4.symm
    · have e1 := ne_of_none e n1
      have e2 := ne_of_none e n2
      have e3 := ne_of_none e n3
      have e4 := ne_of_none e n4
      have bp : b ≠ p := fun z => hb (.inl z)
      (repeat (first | rw [upd_same] | rw [upd_ne (by first | assumption | exact Ne.symm (by assumption))]))
      exact e
    · have e3 := ne_of_none e n3
      have e4 := ne_of_none e n4
      rcases (foot_at (hp' _)).mp z with z | z | z
      · exact hb (.inl z)
      · exact e3 z
      · exact e4 z
theorem scCommon : FnScope ["self"] ["self"] (defScope sCommon) := ⟨rfl, rfl, rfl, by decide +kernel, rfl, by decide +kernel, by decide +kernel⟩
theorem ok_common {f : Addr} {fd : FuncData} (F : Fun K "common_letters" "People.common_letters" sCommon f fd) (T : Txt K C) : FnOk P w K mg base CX0 1 f fd ["self"] (spCommon C) := by
  refine F.ok scCommon (fun vs H Q E h => ?_) (fun cdv A outer s H vs Q E hr h => ?_)
  · obtain ⟨p, t, pa, un, rfl, _⟩ := h
    rfl
  · obtain ⟨p, t, pa, un, rfl, ⟨dx, oL, kn, aP, aU, xs, ys, h1, h2, h3, h4, h5, h6, h7, h8⟩, k⟩ := h
    refine ⟨_, pss_one (ps_ret (pe_op nn_and (pe_ix ix_tup (pe_fld (pv 0) rfl) pe_int (fun _ _ => rfl)) (pe_ix ix_tup (pe_fld (pv 0) rfl) pe_int (fun _ _ => rfl)))), ?_⟩
    exact ⟨_, rfl, p, C, dx, _, _, rfl, h1, T.cl, T.nO, rfl, oL, _, _, _, rfl, rfl, SqT.of h2, (show atI [nv t.la, nv t.lb] 0 = some (nv t.la) from rfl),
      _, rfl, p, C, dx, _, _, rfl, h1, T.cl, T.nO, rfl, oL, _, _, _, rfl, rfl, SqT.of h2, (show atI [nv t.la, nv t.lb] 1 = some (nv t.lb) from rfl), t.la, t.lb, rfl, rfl, k⟩
theorem scKeepFor : FnScope ["self"] ["self"] (defScope sKeepFor) := ⟨rfl, rfl, rfl, by decide +kernel, rfl, by decide +kernel, by decide +kernel⟩
theorem ok_keepFor {f : Addr} {fd : FuncData} (F : Fun K "keep_for_back" "People.keep_for_back" sKeepFor f fd) (T : Txt K C) (hL : mg "len" = none) (hB : ∃ t, mg "MOST_BACK" = some (.int 20 t)) : FnOk P w K mg base CX0 1 f fd ["self"] (spKeepFor C) := by
  refine F.ok scKeepFor (fun vs H Q E h => ?_) (fun cdv A outer s H vs Q E hr h => ?_)
  · obtain ⟨p, t, pa, un, rfl, _⟩ := h
    rfl
  · obtain ⟨p, t, pa, un, rfl, ⟨dx, oL, kn, aP, aU, xs, ys, h1, h2, h3, h4, h5, h6, h7, h8⟩, hlen, k⟩ := h
    refine ⟨_, pss_cons (ps_expr (pe_bm PySem.F.plainAttrs_list PySem.F.slot_list_append PySem.F.type_list_append mt_append (pe_fld (pv 0) rfl) (pa_cons (pe_tup (pa_cons (pe_fld (pv 0) rfl) (pa_cons (pe_fld (pv 0) rfl) pa_nil))) pa_nil)))
      (pss_cons (ps_if (pt_cmpR nn_gt (pe_callB call_len_seq (by rfl) hL PySem.boot_len (pa_cons (pe_fld (pv 0) rfl) pa_nil)) (pe_gi hB rfl) (nomark _))
        (pss_one (ps_expr (pe_bm PySem.F.plainAttrs_list PySem.F.slot_list_pop PySem.F.type_list_pop mt_popAt (pe_fld (pv 0) rfl) (pa_cons pe_int pa_nil)))) pss_nil)
      (pss_one (ps_fld (pv 0) (pe_lst pa_nil) rfl))), ?_⟩
    have lx := h7.len
    have pP : p ≠ aP := ne_of h1 h4 (by intro z; cases z)
    have pU : p ≠ aU := ne_of h1 h5 (by intro z; cases z)
    have oP : oL ≠ aP := ne_of h2 h4 (by intro z; cases z)
    have kP : kn ≠ aP := ne_of h3 h4 (by intro z; cases z)
    have op : oL ≠ p := ne_of h2 h1 (by intro z; cases z)
    have kp : kn ≠ p := ne_of h3 h1 (by intro z; cases z)
    refine ⟨_, rfl, p, C, dx, _, _, rfl, h1, T.cl, T.nP, rfl, .inl ⟨rfl, _, SqL.of h4⟩, _, rfl, p, C, dx, _, _, rfl, h1, T.cl, T.nO, rfl, _, rfl, p, C, dx, _, _, rfl, h1, T.cl, T.nK, rfl, (by show 2 ≤ sizeLine; decide), fun r nr => ?_⟩
    have rp := ne_of_none h1 nr
    have rP := ne_of_none h4 nr
    have rO := ne_of_none h2 nr
    have rK := ne_of_none h3 nr
    refine ⟨aP, xs, _, rfl, rfl, (upd_ne rP).trans h4, small1000 (by omega), ?_⟩
    have fin : ∀ zs : List V, Snaps H (push20 pa t) zs ∨ (Snaps (upd H r (.tup [.ref oL, .ref kn])) (push20 pa t) zs) → ∀ u, upd (upd H r (.tup [.ref oL, .ref kn])) aP (.lst zs) u = none →
        Q .non (upd (upd (upd (upd H r (.tup [.ref oL, .ref kn])) aP (.lst zs)) u (.lst [])) p (.ins C dx (pf t.m oL kn aP u))) := by
      intro zs hz u nu
      simp only [upd_none] at nu
      obtain ⟨uP, ur, nu⟩ := nu
      have up := ne_of_none h1 nu
      have uO := ne_of_none h2 nu
      have uK := ne_of_none h3 nu
      have T1 : Tups H (upd H r (.tup [.ref oL, .ref kn])) := tups_same (Same.new nr)
      have T2 : Tups (upd H r (.tup [.ref oL, .ref kn])) (upd (upd (upd (upd H r (.tup [.ref oL, .ref kn])) aP (.lst zs)) u (.lst [])) p (.ins C dx (pf t.m oL kn aP u))) := by
        intro b xs e
        have b1 : b ≠ aP := ne_of e ((upd_ne rP).trans h4) (by intro z; cases z)
        have b2 : b ≠ p := ne_of e ((upd_ne rp).trans h1) (by intro z; cases z)
        have b3 : b ≠ u := ne_of_none e ((upd_ne ur).trans nu)
        rw [upd_ne b2, upd_ne b3, upd_ne b1]
        exact e
      refine k _ ⟨dx, oL, kn, aP, u, zs, [], upd_same, ?_, ?_, ?_, ?_, uP.symm, ?_, .nil⟩ fun b o e hb => ?_
      · (repeat (first | rw [upd_same] | rw [upd_ne (by first | assumption | exact Ne.symm (by assumption))]))
        exact h2
      · (repeat (first | rw [upd_same] | rw [upd_ne (by first | assumption | exact Ne.symm (by assumption))]))
        exact h3
      · (repeat (first | rw [upd_same] | rw [upd_ne (by first | assumption | exact Ne.symm (by assumption))]))
      · (repeat (first | rw [upd_same] | rw [upd_ne (by first | assumption | exact Ne.symm (by assumption))]))
      · rcases hz with hz | hz
        · exact hz.mono (T1.trans T2)
        · exact hz.mono T2
      · have b0 : ¬ (b = p ∨ b = aP ∨ b = aU) := fun z => hb ((foot_at h1).mpr z)
        have b1 : b ≠ p := fun z => b0 (.inl z)
        have b2 : b ≠ aP := fun z => b0 (.inr (.inl z))
        have b3 := ne_of_none e nu
        have b4 := ne_of_none e nr
        refine ⟨?_, fun z => ?_⟩
        · (repeat (first | rw [upd_same] | rw [upd_ne (by first | assumption | exact Ne.symm (by assumption))]))
          exact e
        · rcases (foot_at upd_same).mp z with z | z | z
          · exact b1 z
          · exact b2 z
          · exact b3 z
    have S1 : Snaps (upd H r (.tup [.ref oL, .ref kn])) (pa ++ [t]) (xs ++ [.ref r]) :=
      (h7.mono (tups_same (Same.new nr))).snoc ⟨oL, kn, upd_same, (upd_ne rO).trans h2, (upd_ne rK).trans h3⟩
    refine ⟨_, rfl, p, C, dx, _, _, rfl, (upd_ne pP).trans ((upd_ne rp).trans h1), T.cl, T.nP, rfl, aP, _, rfl, .inl (SqL.of upd_same), _, 20, rfl, rfl, _, rfl, ?_⟩
    by_cases c : 20 < (xs ++ [V.ref r]).length
    · rw [decide_eq_true c]
      have c2 : 20 < (pa ++ [t]).length := by rw [← S1.len]; exact c
      have e20 : push20 pa t = (pa ++ [t]).tail := if_pos c2
      obtain ⟨y, zs, ey⟩ : ∃ y zs, xs ++ [V.ref r] = y :: zs := by
        cases q : xs ++ [V.ref r] with
        | nil => rw [q] at c; simp at c
        | cons y zs => exact ⟨y, zs, rfl⟩
      rw [ey] at S1 c ⊢
      refine iteT ⟨_, rfl, p, C, dx, _, _, rfl, (upd_ne pP).trans ((upd_ne rp).trans h1), T.cl, T.nP, rfl, .inl ⟨rfl, _, SqL.of upd_same⟩, aP, _, 0, 0, y, rfl, rfl, upd_same, by decide, by decide, ?_, rfl, ?_⟩
      · exact seqIndex_of (by decide) (by omega)
      · rw [upd_upd]
        refine ⟨Nat.zero_le _, fun u nu => ⟨_, rfl, p, C, dx, pf t.m oL kn aP aU, rfl, ?_, T.cl, T.nU, (by show 5 < 1000; decide), fin zs (.inr (by rw [e20]; exact S1.tail)) u nu⟩⟩
        have nu' := nu
        simp only [upd_none] at nu'
        have up := ne_of_none h1 nu'.2.2
        (repeat (first | rw [upd_same] | rw [upd_ne (by first | assumption | exact Ne.symm (by assumption))]))
        exact h1
    · rw [decide_eq_false c]
      have c2 : ¬ 20 < (pa ++ [t]).length := by rw [← S1.len]; exact c
      have e20 : push20 pa t = pa ++ [t] := if_neg c2
      refine iteF ⟨Nat.zero_le _, fun u nu => ⟨_, rfl, p, C, dx, pf t.m oL kn aP aU, rfl, ?_, T.cl, T.nU, (by show 5 < 1000; decide), fin _ (.inr (by rw [e20]; exact S1)) u nu⟩⟩
      have nu' := nu
      simp only [upd_none] at nu'
      have up := ne_of_none h1 nu'.2.2
      (repeat (first | rw [upd_same] | rw [upd_ne (by first | assumption | exact Ne.symm (by assumption))]))
      exact h1
/-- other letters, other claims: the rest stays -/
theorem set_two {H : Hp} {p dx oL kn oL' kn' aP aU : Addr} {m : Nat} {t : Kraf.Two} {pa un : List Kraf.Two} {xs ys : List V} (h1 : H p = some (.ins C dx (pf m oL kn aP aU))) (h2 : H oL' = some (.tup [nv t.la, nv t.lb])) (h3 : H kn' = some (.tup [nv t.ca, nv t.cb])) (h4 : H aP = some (.lst xs)) (h5 : H aU = some (.lst ys)) (h6 : aP ≠ aU)
    (h7 : Snaps H pa xs) (h8 : Snaps H un ys) (hm : t.m = m) : Pst C (upd H p (.ins C dx (pf m oL' kn' aP aU))) p t pa un ∧ Kp p H (upd H p (.ins C dx (pf m oL' kn' aP aU))) := by
  have T1 : Tups H (upd H p (.ins C dx (pf m oL' kn' aP aU))) := tups_upd h1 (by intro xs z; cases z)
  have aPp : aP ≠ p := ne_of h4 h1 (by intro z; cases z)
  have aUp : aU ≠ p := ne_of h5 h1 (by intro z; cases z)
  refine ⟨⟨dx, oL', kn', aP, aU, xs, ys, by rw [hm]; exact upd_same, T1 _ _ h2, T1 _ _ h3, (upd_ne aPp).trans h4, (upd_ne aUp).trans h5, h6, h7.mono T1, h8.mono T1⟩, fun b o e hb => ⟨?_, fun z => hb ((foot_at h1).mpr ((foot_at upd_same).mp z))⟩⟩
  rw [upd_ne (fun z => hb (.inl z))]
  exact e
theorem scHold : FnScope ["self", "w", "claim"] ["self", "w", "claim"] (defScope sHold) := ⟨rfl, rfl, rfl, by decide +kernel, rfl, by decide +kernel, by decide +kernel⟩
theorem ok_hold {f : Addr} {fd : FuncData} (F : Fun K "hold" "People.hold" sHold f fd) (T : Txt K C) (DK : Met P w K mg base C "keep_for_back" 1 ["self"] (spKeepFor C)) (DO : Def P w K mg base "with_one" 1 ["pair", "w", "value"] spWithOne) : FnOk P w K mg base CX0 2 f fd ["self", "w", "claim"] (spHold C) := by
  refine F.ok scHold (fun vs H Q E h => ?_) (fun cdv A outer s H vs Q E hr h => ?_)
  · obtain ⟨p, w, c, t, pa, un, rfl, _⟩ := h
    rfl
  · obtain ⟨p, w, c, t, pa, un, rfl, PS, hlen, k⟩ := h
    refine ⟨_, pss_cons (ps_expr (pe_md0 (pv 0) T.cl DK hr)) (pss_one (ps_fld (pv 0) (pe_d DO hr rfl (pa_cons (pe_fld (pv 0) rfl) (pa_cons (pv 1) (pa_cons (pv 2) pa_nil)))) rfl)), ?_⟩
    obtain ⟨dx, oL, kn, aP, aU, xs, ys, h1, _⟩ := PS.ex
    refine ⟨_, rfl, p, dx, _, rfl, h1, rfl, p, t, pa, un, rfl, PS, hlen, fun H1 P1 K1 => ?_⟩
    have P1' := P1
    obtain ⟨dx, oL, kn, aP, aU, xs, ys, h1, h2, h3, h4, h5, h6, h7, h8⟩ := P1.ex
    refine ⟨_, rfl, p, C, dx, _, _, rfl, h1, T.cl, T.nK, rfl, _, rfl, _, rfl, kn, _, _, w, c, rfl, h3, fun D nD => ?_⟩
    have sD : Same H1 (upd H1 D (.tup (if w = 0 then [nv c, nv t.cb] else [nv t.ca, nv c]))) := Same.new nD
    refine ⟨_, rfl, p, C, dx, _, rfl, sD _ _ h1, T.cl, T.nK, (by show 5 < 1000; decide), ?_⟩
    have em : (t.put w c).m = t.m := by unfold Kraf.Two.put; split <;> rfl
    have eL : (t.put w c).la = t.la ∧ (t.put w c).lb = t.lb := by unfold Kraf.Two.put; split <;> exact ⟨rfl, rfl⟩
    have eC : (if w = 0 then [nv c, nv t.cb] else [nv t.ca, nv c]) = [nv (t.put w c).ca, nv (t.put w c).cb] := by unfold Kraf.Two.put; split <;> rfl
    obtain ⟨r1, r2⟩ := set_two (t := t.put w c) (oL' := oL) (kn' := D) (sD _ _ h1) (by rw [eL.1, eL.2]; exact sD _ _ h2) (by rw [← eC]; exact upd_same) (sD _ _ h4) (sD _ _ h5) h6 (h7.mono (tups_same sD)) (h8.mono (tups_same sD)) em
    exact k _ r1 (K1.trans ((P1'.kp sD).trans r2))
theorem scOwnMore : FnScope ["self", "w", "letter"] ["self", "w", "letter"] (defScope sOwnMore) := ⟨rfl, rfl, rfl, by decide +kernel, rfl, by decide +kernel, by decide +kernel⟩
theorem ok_ownMore {f : Addr} {fd : FuncData} (F : Fun K "own_more" "People.own_more" sOwnMore f fd) (T : Txt K C) (DK : Met P w K mg base C "keep_for_back" 1 ["self"] (spKeepFor C)) (DO : Def P w K mg base "with_one" 1 ["pair", "w", "value"] spWithOne) : FnOk P w K mg base CX0 2 f fd ["self", "w", "letter"] (spOwnMore C) := by
  refine F.ok scOwnMore (fun vs H Q E h => ?_) (fun cdv A outer s H vs Q E hr h => ?_)
  · obtain ⟨p, w, i, t, pa, un, rfl, _⟩ := h
    rfl
  · obtain ⟨p, w, i, t, pa, un, rfl, hw, hi, PS, hlen, k⟩ := h
    refine ⟨_, pss_cons (ps_expr (pe_md0 (pv 0) T.cl DK hr)) (pss_one (ps_fld (pv 0) (pe_d DO hr rfl (pa_cons (pe_fld (pv 0) rfl) (pa_cons (pv 1) (pa_cons (pe_op nn_or (pe_ix ix_tup (pe_fld (pv 0) rfl) (pv 1) (fun _ _ => rfl)) (pe_op nn_shl pe_int (pv 2))) pa_nil)))) rfl)), ?_⟩
    obtain ⟨dx, oL, kn, aP, aU, xs, ys, h1, _⟩ := PS.ex
    refine ⟨_, rfl, p, dx, _, rfl, h1, rfl, p, t, pa, un, rfl, PS, hlen, fun H1 P1 K1 => ?_⟩
    have P1' := P1
    obtain ⟨dx, oL, kn, aP, aU, xs, ys, h1, h2, h3, h4, h5, h6, h7, h8⟩ := P1.ex
    have at_ : atI [nv t.la, nv t.lb] (w : Int) = some (nv (t.own w)) := by
      have : w = 0 ∨ w = 1 := by omega
      rcases this with rfl | rfl <;> rfl
    refine ⟨_, rfl, p, C, dx, _, _, rfl, h1, T.cl, T.nO, rfl, _, rfl, _, rfl, p, C, dx, _, _, rfl, h1, T.cl, T.nO, rfl, _, rfl, oL, _, _, _, rfl, rfl, SqT.of h2, at_, _, rfl, 1, i, rfl, rfl, ⟨rfl, by omega⟩, _, _, rfl, rfl, oL, _, _, w, _, rfl, h2, fun D nD => ?_⟩
    have sD : Same H1 (upd H1 D (.tup (if w = 0 then [nv (t.own w ||| 2 ^ i), nv t.lb] else [nv t.la, nv (t.own w ||| 2 ^ i)]))) := Same.new nD
    refine ⟨_, rfl, p, C, dx, _, rfl, sD _ _ h1, T.cl, T.nO, (by show 5 < 1000; decide), ?_⟩
    have em : (putL t w (t.own w ||| 2 ^ i)).m = t.m := by unfold putL; split <;> rfl
    have eL : (putL t w (t.own w ||| 2 ^ i)).ca = t.ca ∧ (putL t w (t.own w ||| 2 ^ i)).cb = t.cb := by unfold putL; split <;> exact ⟨rfl, rfl⟩
    have eC : (if w = 0 then [nv (t.own w ||| 2 ^ i), nv t.lb] else [nv t.la, nv (t.own w ||| 2 ^ i)]) = [nv (putL t w (t.own w ||| 2 ^ i)).la, nv (putL t w (t.own w ||| 2 ^ i)).lb] := by unfold putL; split <;> rfl
    obtain ⟨r1, r2⟩ := set_two (t := putL t w (t.own w ||| 2 ^ i)) (oL' := D) (kn' := kn) (sD _ _ h1) (by rw [← eC]; exact upd_same) (by rw [eL.1, eL.2]; exact sD _ _ h3) (sD _ _ h4) (sD _ _ h5) h6 (h7.mono (tups_same sD)) (h8.mono (tups_same sD)) em
    exact k _ r1 (K1.trans ((P1'.kp sD).trans r2))
theorem scRestore : FnScope ["self", "kept"] ["self", "kept"] (defScope sRestore) := ⟨rfl, rfl, rfl, by decide +kernel, rfl, by decide +kernel, by decide +kernel⟩
theorem ok_restore {f : Addr} {fd : FuncData} (F : Fun K "restore" "People.restore" sRestore f fd) (T : Txt K C) : FnOk P w K mg base CX0 1 f fd ["self", "kept"] (spRestore C) := by
  refine F.ok scRestore (fun vs H Q E h => ?_) (fun cdv A outer s H vs Q E hr h => ?_)
  · obtain ⟨p, r, t, x, pa, un, rfl, _⟩ := h
    rfl
  · obtain ⟨p, r, t, x, pa, un, rfl, ⟨a, b, s1, s2, s3⟩, PS, k⟩ := h
    refine ⟨_, pss_cons (ps_fld (pv 0) (pe_ix ix_tup (pv 1) pe_int (fun _ _ => rfl)) rfl) (pss_one (ps_fld (pv 0) (pe_ix ix_tup (pv 1) pe_int (fun _ _ => rfl)) rfl)), ?_⟩
    obtain ⟨dx, oL, kn, aP, aU, xs, ys, h1, h2, h3, h4, h5, h6, h7, h8⟩ := PS.ex
    have rp : r ≠ p := ne_of s1 h1 (by intro z; cases z)
    refine ⟨_, rfl, r, _, _, _, rfl, rfl, SqT.of s1, (show atI [V.ref a, V.ref b] 0 = some (.ref a) from rfl), _, rfl, p, C, dx, _, rfl, h1, T.cl, T.nO, (by show 5 < 1000; decide), ?_⟩
    refine ⟨_, rfl, r, _, _, _, rfl, rfl, SqT.of ((upd_ne rp).trans s1), (show atI [V.ref a, V.ref b] 1 = some (.ref b) from rfl), _, rfl, p, C, dx, _, rfl, upd_same, T.cl, T.nK, (by show 5 < 1000; decide), ?_⟩
    rw [upd_upd]
    obtain ⟨r1, r2⟩ := set_two (t := ⟨t.m, x.la, x.lb, x.ca, x.cb⟩) h1 s2 s3 h4 h5 h6 h7 h8 rfl
    exact k _ r1 r2
theorem scGoBack : FnScope ["self"] ["self"] (defScope sGoBack) := ⟨rfl, rfl, rfl, by decide +kernel, rfl, by decide +kernel, by decide +kernel⟩
theorem ok_goBack {f : Addr} {fd : FuncData} (F : Fun K "go_back" "People.go_back" sGoBack f fd) (T : Txt K C) (DR : Met P w K mg base C "restore" 1 ["self", "kept"] (spRestore C)) : FnOk P w K mg base CX0 2 f fd ["self"] (spGoBack C) := by
  refine F.ok scGoBack (fun vs H Q E h => ?_) (fun cdv A outer s H vs Q E hr h => ?_)
  · obtain ⟨p, t, x, pa, un, rfl, _⟩ := h
    rfl
  · obtain ⟨p, t, x, pa, un, rfl, PS, hlen, k⟩ := h
    refine ⟨_, pss_cons (ps_expr (pe_bm PySem.F.plainAttrs_list PySem.F.slot_list_append PySem.F.type_list_append mt_append (pe_fld (pv 0) rfl) (pa_cons (pe_tup (pa_cons (pe_fld (pv 0) rfl) (pa_cons (pe_fld (pv 0) rfl) pa_nil))) pa_nil)))
      (pss_one (ps_expr (pe_md (pv 0) T.cl DR hr (pa_cons (pe_bm0 PySem.F.plainAttrs_list PySem.F.slot_list_pop PySem.F.type_list_pop mt_pop (pe_fld (pv 0) rfl)) pa_nil)))), ?_⟩
    obtain ⟨dx, oL, kn, aP, aU, xs, ys, h1, h2, h3, h4, h5, h6, h7, h8⟩ := PS.ex
    have lu := h8.len
    refine ⟨_, rfl, p, C, dx, _, _, rfl, h1, T.cl, T.nU, rfl, .inl ⟨rfl, _, SqL.of h5⟩, _, rfl, p, C, dx, _, _, rfl, h1, T.cl, T.nO, rfl, _, rfl, p, C, dx, _, _, rfl, h1, T.cl, T.nK, rfl, (by show 2 ≤ sizeLine; decide), fun r nr => ?_⟩
    have sr : Same H (upd H r (.tup [.ref oL, .ref kn])) := Same.new nr
    have Pr := PS.kp sr
    refine ⟨aU, ys, _, rfl, rfl, sr _ _ h5, small1000 (by omega), ?_⟩
    have pU : p ≠ aU := ne_of h1 h5 (by intro z; cases z)
    have pP : p ≠ aP := ne_of h1 h4 (by intro z; cases z)
    have rU := ne_of_none h5 nr
    have rP := ne_of_none h4 nr
    have rp := ne_of_none h1 nr
    have rO := ne_of_none h2 nr
    have rK := ne_of_none h3 nr
    have oP : oL ≠ aP := ne_of h2 h4 (by intro z; cases z)
    have kP : kn ≠ aP := ne_of h3 h4 (by intro z; cases z)
    have oU : oL ≠ aU := ne_of h2 h5 (by intro z; cases z)
    have kU : kn ≠ aU := ne_of h3 h5 (by intro z; cases z)
    obtain ⟨rx, zs, rfl, sx, h7'⟩ := h7.unsnoc
    refine ⟨_, rfl, p, dx, _, rfl, (upd_ne pU).trans (sr _ _ h1), rfl, _, rfl, p, C, dx, _, _, rfl, (upd_ne pU).trans (sr _ _ h1), T.cl, T.nP, rfl, .inl ⟨rfl, _, SqL.of ((upd_ne h6).trans (sr _ _ h4))⟩, aP, zs ++ [.ref rx], .ref rx, rfl, rfl, (upd_ne h6).trans (sr _ _ h4), ?_, ?_⟩
    · rw [List.length_append, List.length_singleton, Nat.add_sub_cancel]
      exact List.getElem?_concat_length
    · have T1 : Tups H (upd (upd (upd H r (.tup [.ref oL, .ref kn])) aU (.lst (ys ++ [.ref r]))) aP (.lst (zs ++ [V.ref rx]).dropLast)) :=
        (tups_same sr).trans ((tups_upd (sr _ _ h5) (by intro xs z; cases z)).trans (tups_upd ((upd_ne h6).trans (sr _ _ h4)) (by intro xs z; cases z)))
      have T2 : Tups (upd H r (.tup [.ref oL, .ref kn])) (upd (upd (upd H r (.tup [.ref oL, .ref kn])) aU (.lst (ys ++ [.ref r]))) aP (.lst (zs ++ [V.ref rx]).dropLast)) :=
        (tups_upd (sr _ _ h5) (by intro xs z; cases z)).trans (tups_upd ((upd_ne h6).trans (sr _ _ h4)) (by intro xs z; cases z))
      have hp : upd (upd (upd H r (.tup [.ref oL, .ref kn])) aU (.lst (ys ++ [.ref r]))) aP (.lst (zs ++ [V.ref rx]).dropLast) p = some (.ins C dx (pf t.m oL kn aP aU)) := by
        (repeat (first | rw [upd_same] | rw [upd_ne (by first | assumption | exact Ne.symm (by assumption))]))
        exact h1
      refine ⟨p, rx, t, x, pa, un ++ [t], rfl, sx.mono T1, ⟨dx, oL, kn, aP, aU, (zs ++ [V.ref rx]).dropLast, ys ++ [.ref r], hp, T1 _ _ h2, T1 _ _ h3, upd_same, (upd_ne h6.symm).trans upd_same, h6, ?_, ?_⟩, fun H' P' K' => k H' P' (Kp.trans ?_ K')⟩
      · have z := h7'.mono T1
        rw [List.dropLast_concat] at z ⊢
        exact z
      · exact ((h8.mono (tups_same sr)).snoc ⟨oL, kn, upd_same, sr _ _ h2, sr _ _ h3⟩).mono T2
      · intro b o e hb
        have b0 : ¬ (b = p ∨ b = aP ∨ b = aU) := fun z => hb ((foot_at h1).mpr z)
        have b2 : b ≠ aP := fun z => b0 (.inr (.inl z))
        have b3 : b ≠ aU := fun z => b0 (.inr (.inr z))
        have b4 := ne_of_none e nr
        refine ⟨?_, fun z => b0 ((foot_at hp).mp z)⟩
        (repeat (first | rw [upd_same] | rw [upd_ne (by first | assumption | exact Ne.symm (by assumption))]))
        exact e
theorem scGoAgain : FnScope ["self"] ["self"] (defScope sGoAgain) := ⟨rfl, rfl, rfl, by decide +kernel, rfl, by decide +kernel, by decide +kernel⟩
theorem ok_goAgain {f : Addr} {fd : FuncData} (F : Fun K "go_again" "People.go_again" sGoAgain f fd) (T : Txt K C) (DR : Met P w K mg base C "restore" 1 ["self", "kept"] (spRestore C)) : FnOk P w K mg base CX0 2 f fd ["self"] (spGoAgain C) := by
  refine F.ok scGoAgain (fun vs H Q E h => ?_) (fun cdv A outer s H vs Q E hr h => ?_)
  · obtain ⟨p, t, x, pa, un, rfl, _⟩ := h
    rfl
  · obtain ⟨p, t, x, pa, un, rfl, PS, hlen, k⟩ := h
    refine ⟨_, pss_cons (ps_expr (pe_bm PySem.F.plainAttrs_list PySem.F.slot_list_append PySem.F.type_list_append mt_append (pe_fld (pv 0) rfl) (pa_cons (pe_tup (pa_cons (pe_fld (pv 0) rfl) (pa_cons (pe_fld (pv 0) rfl) pa_nil))) pa_nil)))
      (pss_one (ps_expr (pe_md (pv 0) T.cl DR hr (pa_cons (pe_bm0 PySem.F.plainAttrs_list PySem.F.slot_list_pop PySem.F.type_list_pop mt_pop (pe_fld (pv 0) rfl)) pa_nil)))), ?_⟩
    obtain ⟨dx, oL, kn, aP, aU, xs, ys, h1, h2, h3, h4, h5, h6, h7, h8⟩ := PS.ex
    have lu := h7.len
    refine ⟨_, rfl, p, C, dx, _, _, rfl, h1, T.cl, T.nP, rfl, .inl ⟨rfl, _, SqL.of h4⟩, _, rfl, p, C, dx, _, _, rfl, h1, T.cl, T.nO, rfl, _, rfl, p, C, dx, _, _, rfl, h1, T.cl, T.nK, rfl, (by show 2 ≤ sizeLine; decide), fun r nr => ?_⟩
    have sr : Same H (upd H r (.tup [.ref oL, .ref kn])) := Same.new nr
    have Pr := PS.kp sr
    refine ⟨aP, xs, _, rfl, rfl, sr _ _ h4, small1000 (by omega), ?_⟩
    have pU : p ≠ aU := ne_of h1 h5 (by intro z; cases z)
    have pP : p ≠ aP := ne_of h1 h4 (by intro z; cases z)
    have rU := ne_of_none h5 nr
    have rP := ne_of_none h4 nr
    have rp := ne_of_none h1 nr
    obtain ⟨rx, zs, rfl, sx, h8'⟩ := h8.unsnoc
    refine ⟨_, rfl, p, dx, _, rfl, (upd_ne pP).trans (sr _ _ h1), rfl, _, rfl, p, C, dx, _, _, rfl, (upd_ne pP).trans (sr _ _ h1), T.cl, T.nU, rfl, .inl ⟨rfl, _, SqL.of ((upd_ne h6.symm).trans (sr _ _ h5))⟩, aU, zs ++ [.ref rx], .ref rx, rfl, rfl, (upd_ne h6.symm).trans (sr _ _ h5), ?_, ?_⟩
    · rw [List.length_append, List.length_singleton, Nat.add_sub_cancel]
      exact List.getElem?_concat_length
    · have T2 : Tups (upd H r (.tup [.ref oL, .ref kn])) (upd (upd (upd H r (.tup [.ref oL, .ref kn])) aP (.lst (xs ++ [.ref r]))) aU (.lst (zs ++ [V.ref rx]).dropLast)) :=
        (tups_upd (sr _ _ h4) (by intro xs z; cases z)).trans (tups_upd ((upd_ne h6.symm).trans (sr _ _ h5)) (by intro xs z; cases z))
      have T1 := (tups_same sr).trans T2
      have hp : upd (upd (upd H r (.tup [.ref oL, .ref kn])) aP (.lst (xs ++ [.ref r]))) aU (.lst (zs ++ [V.ref rx]).dropLast) p = some (.ins C dx (pf t.m oL kn aP aU)) := by
        (repeat (first | rw [upd_same] | rw [upd_ne (by first | assumption | exact Ne.symm (by assumption))]))
        exact h1
      refine ⟨p, rx, t, x, pa ++ [t], un, rfl, sx.mono T1, ⟨dx, oL, kn, aP, aU, xs ++ [.ref r], (zs ++ [V.ref rx]).dropLast, hp, T1 _ _ h2, T1 _ _ h3, (upd_ne h6).trans upd_same, upd_same, h6, ?_, ?_⟩, fun H' P' K' => k H' P' (Kp.trans ?_ K')⟩
      · exact ((h7.mono (tups_same sr)).snoc ⟨oL, kn, upd_same, sr _ _ h2, sr _ _ h3⟩).mono T2
      · have z := h8'.mono T1
        rw [List.dropLast_concat] at z ⊢
        exact z
      · intro b o e hb
        have b0 : ¬ (b = p ∨ b = aP ∨ b = aU) := fun z => hb ((foot_at h1).mpr z)
        have b2 : b ≠ aP := fun z => b0 (.inr (.inl z))
        have b3 : b ≠ aU := fun z => b0 (.inr (.inr z))
        have b4 := ne_of_none e nr
        refine ⟨?_, fun z => b0 ((foot_at hp).mp z)⟩
        (repeat (first | rw [upd_same] | rw [upd_ne (by first | assumption | exact Ne.symm (by assumption))]))
        exact e
end
end Sw
end

section
set_option Elab.async false
set_option linter.all false
set_option maxRecDepth 100000
set_option maxHeartbeats 2000000
namespace Sw
open PySem PySem.Spec PyProof.Rows L2
theorem know_at {t : Kraf.Two} {w : Nat} (h : w ≤ 1) : atI [nv t.ca, nv t.cb] (w : Int) = some (nv (t.knows w)) := by
  have : w = 0 ∨ w = 1 := by omega
  rcases this with rfl | rfl <;> rfl
theorem own_at {t : Kraf.Two} {w : Nat} (h : w ≤ 1) : atI [nv t.la, nv t.lb] (w : Int) = some (nv (t.own w)) := by
  have : w = 0 ∨ w = 1 := by omega
  rcases this with rfl | rfl <;> rfl
theorem _root_.L2.Same.none {H H' : Hp} {p : Addr} (s : Same H H') (h : H' p = Option.none) : H p = Option.none := by
  cases e : H p with
  | none => rfl
  | some o =>
    have := s _ _ e
    rw [h] at this
    cases this
def spTogether (C : Addr) : Sp := fun vs H Q _ => ∃ (p : Addr) (t : Kraf.Two) (pa un : List Kraf.Two), vs = [.ref p] ∧ Pst C H p t pa un ∧ Q (nv (t.ca &&& t.cb)) H
def spMost (C : Addr) : Sp := fun vs H Q _ => ∃ (p : Addr) (x s : Nat) (t : Kraf.Two) (pa un : List Kraf.Two), vs = [.ref p, nv x, nv s] ∧ x ≤ 1 ∧ t.m ≤ 4 ∧ s < 2 ^ t.m ∧ Pst C H p t pa un ∧ ∀ H', Same H H' → Q (nv (Kraa.keep t.m (t.knows x) s)) H'
def spKIf (C : Addr) : Sp := fun vs H Q _ => ∃ (p : Addr) (x s : Nat) (t : Kraf.Two) (pa un : List Kraf.Two), vs = [.ref p, nv x, nv s] ∧ x ≤ 1 ∧ t.m ≤ 4 ∧ s < 2 ^ t.m ∧ Pst C H p t pa un ∧ ∀ H', Same H H' → Q (nv (t.knows x &&& Kraa.keep t.m (t.knows (1 - x)) s)) H'
def spQuarrelIn (C : Addr) : Sp := fun vs H Q _ => ∃ (p : Addr) (s : Nat) (t : Kraf.Two) (pa un : List Kraf.Two), vs = [.ref p, nv s] ∧ t.m ≤ 4 ∧ s < 2 ^ t.m ∧ Pst C H p t pa un ∧ ∀ H', Same H H' → Q (.bl (decide (Kraa.keep t.m (t.knows 0) s &&& Kraa.keep t.m (t.knows 1) s = 0))) H'
section
variable {P : Program} {w : World} {K : PySem.W.Frag} {mg : Str → Option Value} {base : Heap} {C : Addr}
abbrev MMost (P : Program) (w : World) (K : PySem.W.Frag) (mg : Str → Option Value) (base : Heap) (C : Addr) : Prop := Met P w K mg base C "most_told" 3 ["self", "w", "letters"] (spMost C)
abbrev MKIf (P : Program) (w : World) (K : PySem.W.Frag) (mg : Str → Option Value) (base : Heap) (C : Addr) : Prop := Met P w K mg base C "known_if_told" 4 ["self", "w", "letters"] (spKIf C)
abbrev MQuarrel (P : Program) (w : World) (K : PySem.W.Frag) (mg : Str → Option Value) (base : Heap) (C : Addr) : Prop := Met P w K mg base C "quarrel_in" 4 ["self", "letters"] (spQuarrelIn C)
abbrev MTogether (P : Program) (w : World) (K : PySem.W.Frag) (mg : Str → Option Value) (base : Heap) (C : Addr) : Prop := Met P w K mg base C "known_together" 1 ["self"] (spTogether C)
abbrev MCommon (P : Program) (w : World) (K : PySem.W.Frag) (mg : Str → Option Value) (base : Heap) (C : Addr) : Prop := Met P w K mg base C "common_letters" 1 ["self"] (spCommon C)
theorem scTogether : FnScope ["self"] ["self"] (defScope sTogether) := ⟨rfl, rfl, rfl, by decide +kernel, rfl, by decide +kernel, by decide +kernel⟩
theorem ok_together {f : Addr} {fd : FuncData} (F : Fun K "known_together" "People.known_together" sTogether f fd) (T : Txt K C) : FnOk P w K mg base CX0 1 f fd ["self"] (spTogether C) := by
  refine F.ok scTogether (fun vs H Q E h => ?_) (fun cdv A outer s H vs Q E hr h => ?_)
  · obtain ⟨p, t, pa, un, rfl, _⟩ := h
    rfl
  · obtain ⟨p, t, pa, un, rfl, ⟨dx, oL, kn, aP, aU, xs, ys, h1, h2, h3, h4, h5, h6, h7, h8⟩, k⟩ := h
    refine ⟨_, pss_one (ps_ret (pe_op nn_and (pe_ix ix_tup (pe_fld (pv 0) rfl) pe_int (fun _ _ => rfl)) (pe_ix ix_tup (pe_fld (pv 0) rfl) pe_int (fun _ _ => rfl)))), ?_⟩
    exact ⟨_, rfl, p, C, dx, _, _, rfl, h1, T.cl, T.nK, rfl, kn, _, _, _, rfl, rfl, SqT.of h3, (show atI [nv t.ca, nv t.cb] 0 = some (nv t.ca) from rfl),
      _, rfl, p, C, dx, _, _, rfl, h1, T.cl, T.nK, rfl, kn, _, _, _, rfl, rfl, SqT.of h3, (show atI [nv t.ca, nv t.cb] 1 = some (nv t.cb) from rfl), t.ca, t.cb, rfl, rfl, k⟩
theorem scMost : FnScope ["self", "w", "letters"] ["self", "w", "letters"] (defScope sMost) := ⟨rfl, rfl, rfl, by decide +kernel, rfl, by decide +kernel, by decide +kernel⟩
theorem ok_most {f : Addr} {fd : FuncData} (F : Fun K "most_told" "People.most_told" sMost f fd) (T : Txt K C) (DS : DSays P w K mg base) : FnOk P w K mg base CX0 3 f fd ["self", "w", "letters"] (spMost C) := by
  refine F.ok scMost (fun vs H Q E h => ?_) (fun cdv A outer s H vs Q E hr h => ?_)
  · obtain ⟨p, x, s, t, pa, un, rfl, _⟩ := h
    rfl
  · obtain ⟨p, x, s, t, pa, un, rfl, hx, hm, hs, ⟨dx, oL, kn, aP, aU, xs, ys, h1, h2, h3, h4, h5, h6, h7, h8⟩, k⟩ := h
    refine ⟨_, pss_one (ps_ret (pe_d DS hr rfl (pa_cons (pe_ix ix_tup (pe_fld (pv 0) rfl) (pv 1) (fun _ _ => rfl)) (pa_cons (pv 2) (pa_cons (pe_fld (pv 0) rfl) pa_nil))))), ?_⟩
    have kw := know_at (t := t) hx
    exact ⟨_, rfl, p, C, dx, _, _, rfl, h1, T.cl, T.nK, rfl, _, rfl, kn, _, _, _, rfl, rfl, SqT.of h3, kw, _, rfl, _, rfl, p, C, dx, _, _, rfl, h1, T.cl, T.nM, rfl, t.knows x, s, t.m, rfl, hm, hs, k⟩
theorem scKIf : FnScope ["self", "w", "letters"] ["self", "w", "letters"] (defScope sKIf) := ⟨rfl, rfl, rfl, by decide +kernel, rfl, by decide +kernel, by decide +kernel⟩
theorem ok_kif {f : Addr} {fd : FuncData} (F : Fun K "known_if_told" "People.known_if_told" sKIf f fd) (T : Txt K C) (DM : MMost P w K mg base C) : FnOk P w K mg base CX0 4 f fd ["self", "w", "letters"] (spKIf C) := by
  refine F.ok scKIf (fun vs H Q E h => ?_) (fun cdv A outer s H vs Q E hr h => ?_)
  · obtain ⟨p, x, s, t, pa, un, rfl, _⟩ := h
    rfl
  · obtain ⟨p, x, s, t, pa, un, rfl, hx, hm, hs, PS, k⟩ := h
    refine ⟨_, pss_one (ps_ret (pe_op nn_and (pe_ix ix_tup (pe_fld (pv 0) rfl) (pv 1) (fun _ _ => rfl)) (pe_md (pv 0) T.cl DM hr (pa_cons (pe_op nn_sub pe_int (pv 1)) (pa_cons (pv 2) pa_nil))))), ?_⟩
    obtain ⟨dx, oL, kn, aP, aU, xs, ys, h1, h2, h3, h4, h5, h6, h7, h8⟩ := PS.ex
    have kw := know_at (t := t) hx
    exact ⟨_, rfl, p, C, dx, _, _, rfl, h1, T.cl, T.nK, rfl, _, rfl, kn, _, _, _, rfl, rfl, SqT.of h3, kw, _, rfl, p, dx, _, rfl, h1, rfl, _, rfl, 1, x, rfl, rfl, hx, _, rfl, p, 1 - x, s, t, pa, un, rfl, (by omega), hm, hs, PS, fun H' s' => ⟨_, _, rfl, rfl, k H' s'⟩⟩
theorem scQuarrelIn : FnScope ["self", "letters"] ["self", "letters"] (defScope sQuarrelIn) := ⟨rfl, rfl, rfl, by decide +kernel, rfl, by decide +kernel, by decide +kernel⟩
theorem ok_quarrelIn {f : Addr} {fd : FuncData} (F : Fun K "quarrel_in" "People.quarrel_in" sQuarrelIn f fd) (T : Txt K C) (DM : MMost P w K mg base C) : FnOk P w K mg base CX0 4 f fd ["self", "letters"] (spQuarrelIn C) := by
  refine F.ok scQuarrelIn (fun vs H Q E h => ?_) (fun cdv A outer s H vs Q E hr h => ?_)
  · obtain ⟨p, s, t, pa, un, rfl, _⟩ := h
    rfl
  · obtain ⟨p, s, t, pa, un, rfl, hm, hs, PS, k⟩ := h
    refine ⟨_, pss_one (ps_ret (pe_cmpR nn_eq (pe_op nn_and (pe_md (pv 0) T.cl DM hr (pa_cons pe_int (pa_cons (pv 1) pa_nil))) (pe_md (pv 0) T.cl DM hr (pa_cons pe_int (pa_cons (pv 1) pa_nil)))) pe_int (nomark _))), ?_⟩
    obtain ⟨dx, oL, kn, aP, aU, xs, ys, h1, h2, h3, h4, h5, h6, h7, h8⟩ := PS.ex
    exact ⟨_, rfl, p, dx, _, rfl, h1, rfl, _, rfl, p, 0, s, t, pa, un, rfl, (by decide), hm, hs, PS, fun H1 s1 => ⟨_, rfl, p, dx, _, rfl, s1 _ _ h1, rfl, _, rfl, p, 1, s, t, pa, un, rfl, (by decide), hm, hs, PS.same s1, fun H2 s2 => ⟨_, _, rfl, rfl, _, 0, rfl, rfl, k H2 (s1.trans s2)⟩⟩⟩
end
end Sw
end

section
set_option linter.all false
set_option maxRecDepth 100000
namespace Sw
open Kraf
/-! ### the two, as the calls leave them -/
structure OkT (t : Two) : Prop where
  m1 : 1 ≤ t.m
  m4 : t.m ≤ 4
  la : t.la < 2 ^ t.m
  lb : t.lb < 2 ^ t.m
  ca : t.ca < 2 ^ (2 ^ t.m)
  cb : t.cb < 2 ^ (2 ^ t.m)
structure Good (W : Kraf.World) : Prop where
  t : OkT W.p
  past : ∀ x ∈ W.past, x.m = W.p.m ∧ OkT x
  next : ∀ x ∈ W.next, x.m = W.p.m ∧ OkT x
  len : W.past.length + W.next.length ≤ 20
theorem OkT.own {t : Two} (h : OkT t) (w : Nat) : t.own w < 2 ^ t.m := by
  unfold Two.own
  split
  · exact h.la
  · exact h.lb
theorem OkT.knows {t : Two} (h : OkT t) (w : Nat) : t.knows w < 2 ^ (2 ^ t.m) := by
  unfold Two.knows
  split
  · exact h.ca
  · exact h.cb
theorem OkT.shared {t : Two} (h : OkT t) : t.shared < 2 ^ t.m := and_lt _ h.la
theorem put_m (t : Two) (w c : Nat) : (t.put w c).m = t.m := by unfold Two.put; split <;> rfl
theorem OkT.put {t : Two} (h : OkT t) (w : Nat) {c : Nat} (hc : c < 2 ^ (2 ^ t.m)) : OkT (t.put w c) := by
  unfold Two.put
  split
  · exact ⟨h.m1, h.m4, h.la, h.lb, hc, h.cb⟩
  · exact ⟨h.m1, h.m4, h.la, h.lb, h.ca, hc⟩
theorem Good.to {W : Kraf.World} (g : Good W) {t : Two} (h : OkT t) (e : t.m = W.p.m) (r : Ans) : Good (W.to t r).1 := by
  refine ⟨h, fun x hx => ?_, (fun x hx => by cases hx), ?_⟩
  · have hx : x ∈ (W.p :: W.past).take mostBack := hx
    have := List.mem_of_mem_take hx
    rcases List.mem_cons.mp this with rfl | q
    · exact ⟨e.symm, g.t⟩
    · exact ⟨(g.past x q).1.trans e.symm, (g.past x q).2⟩
  · show ((W.p :: W.past).take mostBack).length + 0 ≤ 20
    rw [List.length_take]
    exact Nat.min_le_left _ _
theorem tells_eq {t : Two} {w s : Nat} (h : s &&& t.shared = s) : t.tells w s = Kraa.keep t.m (t.knows w) s := by
  unfold Two.tells
  rw [h]
theorem and_self_shared (t : Two) : t.shared &&& t.shared = t.shared := Nat.and_self _
/-! ### what each call does, where it isn't refused ahead -/
structure PreQ (t : Two) (w q : Nat) : Prop where
  hw : w ≤ 1
  hq : q < 2 ^ (2 ^ t.m)
  told : Kraa.keep t.m q (t.own w) = q
structure PreS (t : Two) (w s : Nat) : Prop where
  hw : w ≤ 1
  hs : s < 2 ^ t.m
  sh : s &&& t.shared = s
section
variable {W : Kraf.World} {x q s i : Nat}
theorem no_le (h : x ≤ 1) : decide (1 < x) = false := decide_eq_false (by omega)
theorem bad_le {m : Nat} (h : q < 2 ^ (2 ^ m)) : decide (Kraa.full m < q) = false := decide_eq_false (by have := full_of_lt h; omega)
theorem noS_lt {m : Nat} (h : s < 2 ^ m) : decide (2 ^ m ≤ s) = false := decide_eq_false (by omega)
theorem told_eq (t : Two) (w q : Nat) : t.told (t.own w) q = (Kraa.keep t.m q (t.own w) == q) := rfl
theorem PreQ.toldT {t : Two} (h : PreQ t x q) : t.told (t.own x) q = true := by
  rw [told_eq, h.told]
  exact beq_self_eq_true _
theorem does_learn (h : PreQ W.p x q) : W.does (.learn x q) = if W.p.knows x &&& q = 0 then (W, say (-33)) else W.to (W.p.put x (W.p.knows x &&& q)) (say (Kraa.count W.p.m (W.p.knows x &&& q))) := by
  simp only [Kraf.World.does, no_le h.hw, bad_le h.hq, h.toldT, if_false, Bool.false_eq_true, Bool.true_eq_false]
theorem does_forget (h : x ≤ 1) (hs : s < 2 ^ W.p.m) : W.does (.forget x s) = W.to (W.p.put x (Kraa.forget W.p.m (W.p.knows x) s)) (say (Kraa.forget W.p.m (W.p.knows x) s)) := by
  simp only [Kraf.World.does, no_le h, noS_lt hs, if_false, Bool.false_eq_true]
theorem does_revise (h : PreQ W.p x q) : W.does (.revise x q) = if q = 0 then (W, say (-33)) else W.to (W.p.put x (Krad.revise W.p.m (W.p.knows x) q)) (say (Krad.revise W.p.m (W.p.knows x) q)) := by
  simp only [Kraf.World.does, no_le h.hw, bad_le h.hq, h.toldT, if_false, Bool.false_eq_true, Bool.true_eq_false]
def tellAns (W : Kraf.World) (x s : Nat) : Kraf.World × Ans := if W.p.knows (1 - x) &&& Kraa.keep W.p.m (W.p.knows x) s = 0 then (W, say (-33)) else
  W.to (W.p.put (1 - x) (W.p.knows (1 - x) &&& Kraa.keep W.p.m (W.p.knows x) s)) { num := Kraa.keep W.p.m (W.p.knows x) s, nums := Kraf.ints [W.p.knows (1 - x) &&& Kraa.keep W.p.m (W.p.knows x) s] }
theorem does_tell (h : x ≤ 1) : W.does (.tell x) = tellAns W x W.p.shared := by
  simp only [Kraf.World.does, no_le h, if_false, Bool.false_eq_true, tells_eq (and_self_shared W.p), tellAns]
theorem does_tellOf (h : PreS W.p x s) : W.does (.tellOf x s) = tellAns W x s := by
  simp only [Kraf.World.does, no_le h.hw, noS_lt h.hs, if_false, Bool.false_eq_true, h.sh, ne_eq, not_true_eq_false, tells_eq h.sh, tellAns]
theorem does_teach (h : x ≤ 1) (hi : i < W.p.m) : W.does (.teach x i) = if (W.p.own x).testBit i = true then (W, say (-17)) else W.to (if x = 0 then { W.p with la := W.p.la + 2 ^ i } else { W.p with lb := W.p.lb + 2 ^ i }) (say (W.p.own x + 2 ^ i : Nat)) := by
  have e : decide (W.p.m ≤ i) = false := decide_eq_false (by omega)
  simp only [Kraf.World.does, no_le h, e, Bool.or_false, if_false, Bool.false_eq_true, has_eq]
theorem does_knows (h : x ≤ 1) : W.does (.knows x) = (W, { num := W.p.knows x, nums := Kraf.ints [Kraa.count W.p.m (W.p.knows x)] }) := by
  simp only [Kraf.World.does, no_le h, if_false, Bool.false_eq_true]
theorem does_follows (h : PreQ W.p x q) : W.does (.follows x q) = (W, say (if Kraa.within (W.p.knows x) q then 1 else 0)) := by
  simp only [Kraf.World.does, no_le h.hw, bad_le h.hq, h.toldT, if_false, Bool.false_eq_true, Bool.true_eq_false]
theorem does_open (h : PreQ W.p x q) : W.does (.open_ x q) = (W, say (if Kraa.within (W.p.knows x) q then 1 else if W.p.knows x &&& q = 0 then 0 else 2)) := by
  simp only [Kraf.World.does, no_le h.hw, bad_le h.hq, h.toldT, if_false, Bool.false_eq_true, Bool.true_eq_false]
theorem does_own (h : x ≤ 1) : W.does (.own x) = (W, say (W.p.own x)) := by
  simp only [Kraf.World.does, no_le h, if_false, Bool.false_eq_true]
theorem does_tells (h : PreS W.p x s) : W.does (.tells x s) = (W, say (Kraa.keep W.p.m (W.p.knows x) s)) := by
  simp only [Kraf.World.does, no_le h.hw, noS_lt h.hs, if_false, Bool.false_eq_true, h.sh, ne_eq, not_true_eq_false, tells_eq h.sh]
theorem does_news (h : PreS W.p x s) : W.does (.news x s) = (W, say (if Kraa.within (W.p.knows (1 - x)) (Kraa.keep W.p.m (W.p.knows x) s) then 0 else 1)) := by
  simp only [Kraf.World.does, no_le h.hw, noS_lt h.hs, if_false, Bool.false_eq_true, h.sh, ne_eq, not_true_eq_false, tells_eq h.sh]
theorem does_would (h : x ≤ 1) : W.does (.would x) = (W, say (W.p.knows x &&& Kraa.keep W.p.m (W.p.knows (1 - x)) W.p.shared : Nat)) := by
  simp only [Kraf.World.does, no_le h, if_false, Bool.false_eq_true, Two.would, tells_eq (and_self_shared W.p)]
theorem does_could (h : PreQ W.p x q) : W.does (.could x q) = (W, say (if Kraa.within W.p.both q then 1 else 0)) := by
  simp only [Kraf.World.does, no_le h.hw, bad_le h.hq, h.toldT, if_false, Bool.false_eq_true, Bool.true_eq_false]
theorem does_asks (h : PreQ W.p x q) : W.does (.asks x q) = (W, if Kraa.within W.p.both q then list (W.p.asks x q) else say (-33)) := by
  simp only [Kraf.World.does, no_le h.hw, bad_le h.hq, h.toldT, if_false, Bool.false_eq_true, Bool.true_eq_false]
theorem does_safe (h : PreQ W.p x q) : W.does (.safe x q) = (W, if Kraa.within (W.p.knows x) q then say (-33) else list (W.p.safe x q)) := by
  simp only [Kraf.World.does, no_le h.hw, bad_le h.hq, h.toldT, if_false, Bool.false_eq_true, Bool.true_eq_false]
theorem does_agreed (hs : s < 2 ^ W.p.m) (sh : s &&& W.p.shared = s) : W.does (.agreed s) = (W, say (if Kraa.keep W.p.m (W.p.knows 0) s = Kraa.keep W.p.m (W.p.knows 1) s then 1 else 0)) := by
  simp only [Kraf.World.does, noS_lt hs, if_false, Bool.false_eq_true, sh, ne_eq, not_true_eq_false, tells_eq sh]
theorem does_parts (h : x ≤ 1) : W.does (.parts x) = (W, list (Krad.parts W.p.m (W.p.knows x))) := by
  simp only [Kraf.World.does, no_le h, if_false, Bool.false_eq_true]
theorem does_matter (h : x ≤ 1) : W.does (.matter x) = (W, list (W.p.open_ x)) := by
  simp only [Kraf.World.does, no_le h, if_false, Bool.false_eq_true]
theorem does_settles (h : x ≤ 1) : W.does (.settles x) = (W, list ((List.range W.p.m).map fun i => Kraa.settled W.p.m (W.p.knows x) i)) := by
  simp only [Kraf.World.does, no_le h, if_false, Bool.false_eq_true]
theorem does_unsure (h : x ≤ 1) : W.does (.unsure x) = (W, list ((List.range W.p.m).filter fun i => Kraa.has (W.p.own x) i && Kraa.settled W.p.m (W.p.knows x) i == 2)) := by
  simp only [Kraf.World.does, no_le h, if_false, Bool.false_eq_true]
end
/-! ### the refusals -/
def refW (W : Kraf.World) (x : Nat) : Int := if 1 < x then -2 else 0
end Sw
end

section
set_option linter.all false
set_option maxRecDepth 100000
namespace Sw
open Kraf
/-! ### asks, safe, quarrels: by one letter less, one letter more -/
theorem keep_sub {m p a b : Nat} (ha : a < 2 ^ m) (hb : b < 2 ^ m) (h : a &&& b = a) : Kraa.within (Kraa.keep m p b) (Kraa.keep m p a) = true := within_iff.mpr fun _ z => keep_mono ha hb h z
theorem enough_up {t : Two} {w q a b : Nat} (ha : a < 2 ^ t.m) (hb : b < 2 ^ t.m) (sa : a &&& t.shared = a) (sb : b &&& t.shared = b) (h : a &&& b = a) (e : t.enough w q a = true) : t.enough w q b = true := by
  unfold Two.enough at e ⊢
  rw [tells_eq sa] at e
  rw [tells_eq sb]
  rw [within_iff] at e ⊢
  intro x hx
  rw [Nat.testBit_and, Bool.and_eq_true] at hx
  refine e x ?_
  rw [Nat.testBit_and, Bool.and_eq_true]
  exact ⟨hx.1, keep_mono ha hb h hx.2⟩
theorem quarrel_up {t : Two} {a b : Nat} (ha : a < 2 ^ t.m) (hb : b < 2 ^ t.m) (sa : a &&& t.shared = a) (sb : b &&& t.shared = b) (h : a &&& b = a) (e : t.quarrel a = true) : t.quarrel b = true := by
  unfold Two.quarrel at e ⊢
  rw [tells_eq sa, tells_eq sa, beq_iff_eq] at e
  rw [tells_eq sb, tells_eq sb, beq_iff_eq]
  apply Nat.eq_of_testBit_eq
  intro x
  rw [Nat.zero_testBit]
  cases z : (Kraa.keep t.m (t.knows 0) b &&& Kraa.keep t.m (t.knows 1) b).testBit x with
  | false => rfl
  | true =>
    rw [Nat.testBit_and, Bool.and_eq_true] at z
    have y : (Kraa.keep t.m (t.knows 0) a &&& Kraa.keep t.m (t.knows 1) a).testBit x = true := by
      rw [Nat.testBit_and, Bool.and_eq_true]
      exact ⟨keep_mono ha hb h z.1, keep_mono ha hb h z.2⟩
    rw [e, Nat.zero_testBit] at y
    cases y
/-- the least sets, told by one letter less -/
theorem asks_eq {t : Two} {w q : Nat} : t.asks w q = (List.range (2 ^ t.m)).filter fun s => (s &&& t.shared == s) && t.enough w q s && (List.range t.m).all fun i => !(s.testBit i) || !(t.enough w q (s ^^^ 2 ^ i)) := by
  unfold Two.asks subsets
  simp only [List.filter_filter]
  refine List.filter_congr fun s hs => ?_
  have hs := List.mem_range.mp hs
  by_cases c : s &&& t.shared = s
  · cases e : t.enough w q s with
    | false => simp
    | true =>
      have := least_iff (m := t.m) (sh := t.shared) (s := s) (f := fun s => t.enough w q s) (fun a b ha hb sa sb h => enough_up ha hb sa sb h) (subsets_mem.mpr ⟨hs, c⟩) e
      rw [Bool.eq_iff_iff]
      simp only [c, beq_self_eq_true, Bool.and_true, Bool.true_and]
      unfold subsets at this
      simp only [List.filter_filter] at this
      rw [this, List.all_eq_true]
      constructor
      · intro h i hi
        cases b : s.testBit i with
        | false => rfl
        | true => rw [h i (List.mem_range.mp hi) b]; rfl
      · intro h i hi b
        have := h i (List.mem_range.mpr hi)
        rw [b] at this
        simpa using this
  · have : (s &&& t.shared == s) = false := beq_eq_false_iff_ne.mpr c
    simp [this]
theorem quarrels_eq {t : Two} : t.quarrels = (List.range (2 ^ t.m)).filter fun s => (s &&& t.shared == s) && t.quarrel s && (List.range t.m).all fun i => !(s.testBit i) || !(t.quarrel (s ^^^ 2 ^ i)) := by
  unfold Two.quarrels subsets
  simp only [List.filter_filter]
  refine List.filter_congr fun s hs => ?_
  have hs := List.mem_range.mp hs
  by_cases c : s &&& t.shared = s
  · cases e : t.quarrel s with
    | false => simp
    | true =>
      have := least_iff (m := t.m) (sh := t.shared) (s := s) (f := fun s => t.quarrel s) (fun a b ha hb sa sb h => quarrel_up ha hb sa sb h) (subsets_mem.mpr ⟨hs, c⟩) e
      rw [Bool.eq_iff_iff]
      simp only [c, beq_self_eq_true, Bool.and_true, Bool.true_and]
      unfold subsets at this
      simp only [List.filter_filter] at this
      rw [this, List.all_eq_true]
      constructor
      · intro h i hi
        cases b : s.testBit i with
        | false => rfl
        | true => rw [h i (List.mem_range.mp hi) b]; rfl
      · intro h i hi b
        have := h i (List.mem_range.mpr hi)
        rw [b] at this
        simpa using this
  · have : (s &&& t.shared == s) = false := beq_eq_false_iff_ne.mpr c
    simp [this]
/-- the greatest sets, told by one letter more -/
theorem safe_eq {t : Two} (ok : OkT t) {w q : Nat} : t.safe w q = (List.range (2 ^ t.m)).filter fun s => (s &&& t.shared == s) && !(t.enough w q s) && (List.range t.m).all fun i => !(t.shared.testBit i && !(s.testBit i)) || t.enough w q (s ||| 2 ^ i) := by
  unfold Two.safe subsets
  simp only [List.filter_filter]
  refine List.filter_congr fun s hs => ?_
  have hs := List.mem_range.mp hs
  by_cases c : s &&& t.shared = s
  · cases e : t.enough w q s with
    | true => simp
    | false =>
      have := most_iff (m := t.m) (sh := t.shared) (s := s) (f := fun s => !(t.enough w q s)) ok.shared (fun a b ha hb sa sb h => by
        intro z
        cases y : t.enough w q a with
        | false => rfl
        | true => rw [enough_up ha hb sa sb h y] at z; cases z) (subsets_mem.mpr ⟨hs, c⟩) (by rw [e]; rfl)
      rw [Bool.eq_iff_iff]
      simp only [c, beq_self_eq_true, Bool.and_true, Bool.true_and, Bool.not_false]
      unfold subsets at this
      simp only [List.filter_filter] at this
      rw [this, List.all_eq_true]
      constructor
      · intro h i hi
        cases b : t.shared.testBit i with
        | false => rfl
        | true =>
          cases d : s.testBit i with
          | true => rfl
          | false =>
            have := h i (List.mem_range.mp hi) b d
            simpa using this
      · intro h i hi b d
        have := h i (List.mem_range.mpr hi)
        rw [b, d] at this
        simpa using this
  · have : (s &&& t.shared == s) = false := beq_eq_false_iff_ne.mpr c
    simp [this]
end Sw
end

section
set_option Elab.async false
set_option linter.all false
set_option maxRecDepth 100000
set_option maxHeartbeats 2000000
namespace Sw
open PySem PySem.Spec PyProof.Rows L2
/-! ### sets of letters, as the program lists them -/
def mem (s : Nat) : List Nat := (List.range 4).filter fun i => s.testBit i
def subs (s : Nat) : List Nat := (List.range (s + 1)).filter fun x => decide (x &&& s = x)
def oneLess (s : Nat) : List Nat := (mem s).map fun i => s ^^^ 2 ^ i
def oneMore (s sh : Nat) : List Nat := (mem (sh ^^^ s)).map fun i => s ||| 2 ^ i
def hasAny (found wanted : List Nat) : Bool := wanted.any fun x => found.contains x
def leastOf (found : List Nat) : List Nat := found.filter fun s => !hasAny found (oneLess s)
def mostOf (found : List Nat) (sh : Nat) : List Nat := found.filter fun s => !hasAny found (oneMore s sh)
theorem mem_len (s : Nat) : (mem s).length ≤ 1000 := by
  have := List.length_filter_le (fun i => s.testBit i) (List.range 4)
  rw [List.length_range] at this
  unfold mem
  omega
theorem mem_bits : ∀ s : Nat, s < 16 → (List.range (Builtin.Int.intBits (s : Int))).filter (fun i => s.testBit i) = mem s := by decide +kernel
theorem bits_le : ∀ s : Nat, s < 16 → Builtin.Int.intBits (s : Int) ≤ 4 := by decide +kernel
theorem mem_mem {s i : Nat} (h : s < 16) : i ∈ mem s ↔ s.testBit i = true := by
  unfold mem
  rw [List.mem_filter, List.mem_range]
  exact ⟨fun z => z.2, fun z => ⟨bit_lt (n := 4) h z, z⟩⟩
theorem lt16 {m s : Nat} (hm : m ≤ 4) (h : s < 2 ^ m) : s < 16 := Nat.lt_of_lt_of_le h (pow16 hm)
theorem subs_mem {s x : Nat} : x ∈ subs s ↔ x &&& s = x := by
  unfold subs
  rw [List.mem_filter, List.mem_range, decide_eq_true_iff]
  refine ⟨fun z => z.2, fun z => ⟨?_, z⟩⟩
  have : x &&& s ≤ s := Nat.and_le_right
  omega
theorem subs_eq {m s : Nat} (h : s < 2 ^ m) : subs s = Kraf.subsets m s := by
  unfold subs Kraf.subsets
  obtain ⟨d, e⟩ : ∃ d, 2 ^ m = (s + 1) + d := ⟨2 ^ m - (s + 1), by omega⟩
  have e2 : List.range (2 ^ m) = List.range (s + 1) ++ (List.range d).map (s + 1 + ·) := by rw [e, List.range_add]
  rw [e2, List.filter_append]
  have z : ((List.range d).map (s + 1 + ·)).filter (fun x => x &&& s == x) = [] := by
    rw [List.filter_eq_nil_iff]
    intro x hx
    obtain ⟨i, _, rfl⟩ := List.mem_map.mp hx
    intro c
    have c := beq_iff_eq.mp c
    have : (s + 1 + i) &&& s ≤ s := Nat.and_le_right
    omega
  rw [z, List.append_nil]
  rfl
theorem subs_lt {m s x : Nat} (h : s < 2 ^ m) (hx : x ∈ subs s) : x < 2 ^ m := by
  have := subs_mem.mp hx
  rw [← this]
  exact and_lt_r x h
theorem subs_len {s : Nat} (h : s < 16) : (subs s).length ≤ 16 := by
  have := List.length_filter_le (fun x => decide (x &&& s = x)) (List.range (s + 1))
  rw [List.length_range] at this
  unfold subs
  omega
theorem found_contains {sh x : Nat} {f : Nat → Bool} (c : x &&& sh = x) : ((subs sh).filter f).contains x = f x := by
  rw [Bool.eq_iff_iff, List.contains_iff_mem, List.mem_filter]
  exact ⟨fun z => z.2, fun z => ⟨subs_mem.mpr c, z⟩⟩
theorem least_prog {m sh s : Nat} {f : Nat → Bool} (hm : m ≤ 4) (hs : s < 2 ^ m) (c : s &&& sh = s) : (!hasAny ((subs sh).filter f) (oneLess s)) = (List.range m).all fun i => !(s.testBit i) || !(f (s ^^^ 2 ^ i)) := by
  have sub : ∀ i, s.testBit i = true → (s ^^^ 2 ^ i) &&& sh = s ^^^ 2 ^ i := fun i b => sub_iff.mpr fun j z => by
    rw [xor_bit] at z
    by_cases e : i = j
    · subst e
      rw [b] at z
      simp at z
    · rw [decide_eq_false e] at z
      exact sub_iff.mp c j (by simpa using z)
  rw [Bool.eq_iff_iff, List.all_eq_true, Bool.not_eq_true']
  unfold hasAny oneLess
  rw [List.any_eq_false]
  constructor
  · intro h i hi
    cases b : s.testBit i with
    | false => rfl
    | true =>
      have := h (s ^^^ 2 ^ i) (List.mem_map.mpr ⟨i, (mem_mem (lt16 hm hs)).mpr b, rfl⟩)
      rw [found_contains (sub i b)] at this
      simpa using this
  · intro h x hx
    obtain ⟨i, hi, rfl⟩ := List.mem_map.mp hx
    have b := (mem_mem (lt16 hm hs)).mp hi
    have := h i (List.mem_range.mpr (bit_lt hs b))
    rw [found_contains (sub i b)]
    rw [b] at this
    simpa using this
theorem most_prog {m sh s : Nat} {f : Nat → Bool} (hm : m ≤ 4) (hsh : sh < 2 ^ m) (hs : s < 2 ^ m) (c : s &&& sh = s) : (!hasAny ((subs sh).filter f) (oneMore s sh)) = (List.range m).all fun i => !(sh.testBit i && !(s.testBit i)) || !(f (s ||| 2 ^ i)) := by
  have sub : ∀ i, sh.testBit i = true → (s ||| 2 ^ i) &&& sh = s ||| 2 ^ i := fun i b => sub_iff.mpr fun j z => by
    rw [Nat.testBit_or, Nat.testBit_two_pow, Bool.or_eq_true] at z
    rcases z with z | z
    · exact sub_iff.mp c j z
    · have e : i = j := of_decide_eq_true z
      subst e
      exact b
  have hx : sh ^^^ s < 2 ^ m := Nat.xor_lt_two_pow hsh hs
  have bit : ∀ i, (sh ^^^ s).testBit i = (sh.testBit i && !(s.testBit i)) := fun i => by
    rw [Nat.testBit_xor]
    cases b : s.testBit i with
    | false => simp
    | true => rw [sub_iff.mp c i b]; rfl
  rw [Bool.eq_iff_iff, List.all_eq_true, Bool.not_eq_true']
  unfold hasAny oneMore
  rw [List.any_eq_false]
  constructor
  · intro h i hi
    cases b : (sh.testBit i && !(s.testBit i)) with
    | false => rfl
    | true =>
      have := h (s ||| 2 ^ i) (List.mem_map.mpr ⟨i, (mem_mem (lt16 hm hx)).mpr (by rw [bit, b]), rfl⟩)
      rw [Bool.and_eq_true] at b
      rw [found_contains (sub i b.1)] at this
      simpa using this
  · intro h x hx'
    obtain ⟨i, hi, rfl⟩ := List.mem_map.mp hx'
    have b := (mem_mem (lt16 hm hx)).mp hi
    have lt := bit_lt hx b
    rw [bit] at b
    have := h i (List.mem_range.mpr lt)
    rw [b] at this
    rw [Bool.and_eq_true] at b
    rw [found_contains (sub i b.1)]
    simpa using this
theorem asks_prog {t : Kraf.Two} (ok : OkT t) {w q : Nat} : leastOf ((subs t.shared).filter fun s => t.enough w q s) = t.asks w q := by
  rw [asks_eq]
  unfold leastOf
  rw [subs_eq ok.shared]
  unfold Kraf.subsets
  simp only [List.filter_filter]
  refine List.filter_congr fun s hs => ?_
  have hs := List.mem_range.mp hs
  by_cases c : s &&& t.shared = s
  · have := least_prog (f := fun s => t.enough w q s) ok.m4 hs c
    rw [subs_eq ok.shared] at this
    unfold Kraf.subsets at this
    simp only [List.filter_filter] at this
    rw [this, Bool.and_comm, Bool.and_comm (t.enough w q s)]
  · have : (s &&& t.shared == s) = false := beq_eq_false_iff_ne.mpr c
    simp [this]
theorem quarrels_prog {t : Kraf.Two} (ok : OkT t) : leastOf ((subs t.shared).filter fun s => t.quarrel s) = t.quarrels := by
  rw [quarrels_eq]
  unfold leastOf
  rw [subs_eq ok.shared]
  unfold Kraf.subsets
  simp only [List.filter_filter]
  refine List.filter_congr fun s hs => ?_
  have hs := List.mem_range.mp hs
  by_cases c : s &&& t.shared = s
  · have := least_prog (f := fun s => t.quarrel s) ok.m4 hs c
    rw [subs_eq ok.shared] at this
    unfold Kraf.subsets at this
    simp only [List.filter_filter] at this
    rw [this, Bool.and_comm, Bool.and_comm (t.quarrel s)]
  · have : (s &&& t.shared == s) = false := beq_eq_false_iff_ne.mpr c
    simp [this]
theorem safe_prog {t : Kraf.Two} (ok : OkT t) {w q : Nat} : mostOf ((subs t.shared).filter fun s => !(t.enough w q s)) t.shared = t.safe w q := by
  rw [safe_eq ok]
  unfold mostOf
  rw [subs_eq ok.shared]
  unfold Kraf.subsets
  simp only [List.filter_filter]
  refine List.filter_congr fun s hs => ?_
  have hs := List.mem_range.mp hs
  by_cases c : s &&& t.shared = s
  · have := most_prog (f := fun s => !(t.enough w q s)) ok.m4 ok.shared hs c
    rw [subs_eq ok.shared] at this
    unfold Kraf.subsets at this
    simp only [List.filter_filter, Bool.not_not] at this
    rw [this, Bool.and_comm, Bool.and_comm (!(t.enough w q s))]
  · have : (s &&& t.shared == s) = false := beq_eq_false_iff_ne.mpr c
    simp [this]
theorem unsure_prog {m s p : Nat} (hm : m ≤ 4) (hs : s < 2 ^ m) (hp : p < 2 ^ (2 ^ m)) : (mem s).filter (fun i => decide (stand p (letC m i) = 2)) = (List.range m).filter fun i => Kraa.has s i && Kraa.settled m p i == 2 := by
  unfold mem
  obtain ⟨d, e⟩ : ∃ d, 4 = m + d := ⟨4 - m, by omega⟩
  have e2 : List.range 4 = List.range m ++ (List.range d).map (m + ·) := by rw [e, List.range_add]
  rw [List.filter_filter, e2, List.filter_append]
  have z : ((List.range d).map (m + ·)).filter (fun i => decide (stand p (letC m i) = 2) && s.testBit i) = [] := by
    rw [List.filter_eq_nil_iff]
    intro x hx
    obtain ⟨i, _, rfl⟩ := List.mem_map.mp hx
    intro c
    rw [Bool.and_eq_true] at c
    have := bit_lt hs c.2
    omega
  rw [z, List.append_nil]
  refine List.filter_congr fun i hi => ?_
  rw [has_eq, settled_eq hp, Bool.and_comm]
  rfl
/-! ### the defs -/
abbrev sMembers : Stmt := top 23
abbrev sWithin : Stmt := top 24
abbrev sLess : Stmt := top 25
abbrev sMore : Stmt := top 26
abbrev sHasAny : Stmt := top 27
abbrev sLeast : Stmt := top 28
abbrev sGreatest : Stmt := top 29
abbrev sCounted : Stmt := top 41
/-- a new list of such numbers -/
def NewL (H : Hp) (Q : VK) (l : List Nat) : Prop := ∀ D H', H D = none → H' D = some (.lst (nvs l)) → Same H H' → Q (.ref D) H'
def spMembers : Sp := fun vs H Q _ => ∃ s : Nat, vs = [nv s] ∧ s < 16 ∧ NewL H Q (mem s)
def spWithin : Sp := fun vs H Q _ => ∃ s : Nat, vs = [nv s] ∧ s < 16 ∧ NewL H Q (subs s)
def spLess : Sp := fun vs H Q _ => ∃ s : Nat, vs = [nv s] ∧ s < 16 ∧ NewL H Q (oneLess s)
def spMore : Sp := fun vs H Q _ => ∃ s sh : Nat, vs = [nv s, nv sh] ∧ s < 16 ∧ sh < 16 ∧ NewL H Q (oneMore s sh)
def spHasAny : Sp := fun vs H Q _ => ∃ (a b : Addr) (found wanted : List Nat), vs = [.ref a, .ref b] ∧ H a = some (.lst (nvs found)) ∧ H b = some (.lst (nvs wanted)) ∧ wanted.length ≤ 1000 ∧ ∀ H', Same H H' → Q (.bl (hasAny found wanted)) H'
def spLeast : Sp := fun vs H Q _ => ∃ (a : Addr) (found : List Nat), vs = [.ref a] ∧ H a = some (.lst (nvs found)) ∧ found.length ≤ 1000 ∧ (∀ s ∈ found, s < 16) ∧ NewL H Q (leastOf found)
def spGreatest : Sp := fun vs H Q _ => ∃ (a : Addr) (found : List Nat) (sh : Nat), vs = [.ref a, nv sh] ∧ H a = some (.lst (nvs found)) ∧ found.length ≤ 1000 ∧ sh < 16 ∧ (∀ s ∈ found, s < 16) ∧ NewL H Q (mostOf found sh)
def spCounted : Sp := fun vs H Q _ => ∃ (a : Addr) (l : List Nat), vs = [.ref a] ∧ H a = some (.lst (nvs l)) ∧ l.length ≤ 1000 ∧ NewL H Q (l.length :: l)
theorem nvs_map {l : List Nat} {g : Nat → Nat} : (l.filter fun _ => true).map (fun u => nv (g u)) = nvs (l.map g) := by
  rw [List.filter_eq_self.mpr (fun _ _ => rfl)]
  show _ = List.map nv (List.map _ _)
  rw [List.map_map]
  rfl
section
variable {P : Program} {w : World} {K : PySem.W.Frag} {mg : Str → Option Value} {base : Heap} {C : Addr}
abbrev DMembers (P : Program) (w : World) (K : PySem.W.Frag) (mg : Str → Option Value) (base : Heap) : Prop := Def P w K mg base "members" 1 ["letters"] spMembers
abbrev DWithin (P : Program) (w : World) (K : PySem.W.Frag) (mg : Str → Option Value) (base : Heap) : Prop := Def P w K mg base "sets_within" 1 ["letters"] spWithin
abbrev DLess (P : Program) (w : World) (K : PySem.W.Frag) (mg : Str → Option Value) (base : Heap) : Prop := Def P w K mg base "with_one_less" 2 ["letters"] spLess
abbrev DMore (P : Program) (w : World) (K : PySem.W.Frag) (mg : Str → Option Value) (base : Heap) : Prop := Def P w K mg base "with_one_more" 2 ["letters", "most"] spMore
abbrev DHasAny (P : Program) (w : World) (K : PySem.W.Frag) (mg : Str → Option Value) (base : Heap) : Prop := Def P w K mg base "has_any" 1 ["found", "wanted"] spHasAny
abbrev DLeast (P : Program) (w : World) (K : PySem.W.Frag) (mg : Str → Option Value) (base : Heap) : Prop := Def P w K mg base "least_sets" 3 ["found"] spLeast
abbrev DGreatest (P : Program) (w : World) (K : PySem.W.Frag) (mg : Str → Option Value) (base : Heap) : Prop := Def P w K mg base "greatest_sets" 3 ["found", "most"] spGreatest
abbrev DCounted (P : Program) (w : World) (K : PySem.W.Frag) (mg : Str → Option Value) (base : Heap) : Prop := Def P w K mg base "counted" 1 ["found"] spCounted
theorem scMembers : FnScope ["letters", "letter"] ["letters"] (defScope sMembers) := ⟨rfl, rfl, rfl, by decide +kernel, rfl, by decide +kernel, by decide +kernel⟩
theorem ok_members {f : Addr} {fd : FuncData} (F : Fun K "members" "members" sMembers f fd) (hR : mg "range" = none) : FnOk P w K mg base CX0 1 f fd ["letters"] spMembers := by
  refine F.ok scMembers (fun vs H Q E h => ?_) (fun cdv A outer s H vs Q E hr h => ?_)
  · obtain ⟨s, rfl, _⟩ := h
    rfl
  · obtain ⟨s, rfl, hs, k⟩ := h
    refine ⟨_, pss_one (ps_ret (pe_lc (own := [("letter", 1)]) rfl scMembers.nd (pi_range1 rfl hR (pa_cons (pe_bm0 PySem.F.plainAttrs_int slot_int_bit_length type_int_bit_length mt_bitlen (pv 0)) pa_nil)) (blkOk_by (by rfl)) (fun _ _ _ _ _ => pg_name (i := 1) scMembers.nd rfl (Or.inl rfl))
      (fun _ _ _ _ _ => pts_one (pt_cmpR nn_eq (pe_op nn_and (pe_op nn_shr (pv 0) (pv 1)) pe_int) pe_int (nomark _))) (fun _ _ _ _ _ => pv 1))), ?_⟩
    have b4 := bits_le s hs
    refine ⟨_, rfl, rfl, s, rfl, rfl, ((Builtin.Int.intBits (s : Int) : Nat) : Int), rfl, (rng (by omega)).1, (rng (by omega)).2, fun D hD => ?_⟩
    refine lc_rangeN (n := Builtin.Int.intBits (s : Int)) (j := 1) (fun k => s.testBit k) nv hD (by omega) (fun k H2 Q2 hk s2 q => ?_) (fun k H2 Q2 hk _ s2 q => ?_) (fun H2 h1 h2 => k D H2 hD ?_ h2)
    · refine ⟨_, rfl, _, rfl, s, k, rfl, rfl, s / 2 ^ k, 1, rfl, rfl, s / 2 ^ k &&& 1, 1, rfl, rfl, _, rfl, ?_⟩
      rw [bit1]
      exact q H2 (Same.refl H2)
    · exact ⟨_, rfl, q H2 (Same.refl H2)⟩
    · rw [← mem_bits s hs]
      exact h1
theorem scWithin : FnScope ["letters", "some"] ["letters"] (defScope sWithin) := ⟨rfl, rfl, rfl, by decide +kernel, rfl, by decide +kernel, by decide +kernel⟩
theorem ok_within {f : Addr} {fd : FuncData} (F : Fun K "sets_within" "sets_within" sWithin f fd) (hR : mg "range" = none) : FnOk P w K mg base CX0 1 f fd ["letters"] spWithin := by
  refine F.ok scWithin (fun vs H Q E h => ?_) (fun cdv A outer s H vs Q E hr h => ?_)
  · obtain ⟨s, rfl, _⟩ := h
    rfl
  · obtain ⟨s, rfl, hs, k⟩ := h
    refine ⟨_, pss_one (ps_ret (pe_lc (own := [("some", 1)]) rfl scWithin.nd (pi_range1 rfl hR (pa_cons (pe_op nn_add (pv 0) pe_int) pa_nil)) (blkOk_by (by rfl)) (fun _ _ _ _ _ => pg_name (i := 1) scWithin.nd rfl (Or.inl rfl))
      (fun _ _ _ _ _ => pts_one (pt_cmpR nn_eq (pe_op nn_and (pv 1) (pv 0)) (pv 1) (nomark _))) (fun _ _ _ _ _ => pv 1))), ?_⟩
    refine ⟨_, rfl, s, 1, rfl, rfl, ((s + 1 : Nat) : Int), rfl, (rng (by omega)).1, (rng (by omega)).2, fun D hD => ?_⟩
    refine lc_rangeN (n := s + 1) (j := 1) (fun x => decide (x &&& s = x)) nv hD (by omega) (fun x H2 Q2 hk s2 q => ?_) (fun x H2 Q2 hk _ s2 q => ?_) (fun H2 h1 h2 => k D H2 hD h1 h2)
    · exact ⟨_, rfl, _, rfl, x, s, rfl, rfl, _, rfl, _, x, rfl, rfl, _, rfl, q H2 (Same.refl H2)⟩
    · exact ⟨_, rfl, q H2 (Same.refl H2)⟩
theorem scLess : FnScope ["letters", "letter"] ["letters"] (defScope sLess) := ⟨rfl, rfl, rfl, by decide +kernel, rfl, by decide +kernel, by decide +kernel⟩
theorem ok_less {f : Addr} {fd : FuncData} (F : Fun K "with_one_less" "with_one_less" sLess f fd) (DM : DMembers P w K mg base) : FnOk P w K mg base CX0 2 f fd ["letters"] spLess := by
  refine F.ok scLess (fun vs H Q E h => ?_) (fun cdv A outer s H vs Q E hr h => ?_)
  · obtain ⟨s, rfl, _⟩ := h
    rfl
  · obtain ⟨s, rfl, hs, k⟩ := h
    refine ⟨_, pss_one (ps_ret (pe_lc (own := [("letter", 1)]) rfl scLess.nd (pi_list (pe_d DM hr rfl (pa_cons (pv 0) pa_nil))) (blkOk_by (by rfl)) (fun _ _ _ _ _ => pg_name (i := 1) scLess.nd rfl (Or.inl rfl))
      (fun _ _ _ _ _ => pts_nil) (fun _ _ _ _ _ => pe_op nn_xor (pv 0) (pe_op nn_shl pe_int (pv 1))))), ?_⟩
    refine ⟨_, rfl, s, rfl, hs, fun D1 H1 hD1 h1 s1 => ⟨D1, rfl, ⟨_, SqL.of h1⟩, fun D hD => ?_⟩⟩
    refine lc_listN (l := mem s) (j := 1) (fun _ => true) (fun i => nv (s ^^^ 2 ^ i)) hD (mem_len s) (SqL.of h1) (fun u H2 Q2 hu s2 q => q H2 (Same.refl H2)) (fun u H2 Q2 hu _ s2 q => ?_) (fun H2 h2 s2 => ?_)
    · have : u < 4 := bit_lt (n := 4) hs ((mem_mem hs).mp hu)
      exact ⟨_, rfl, _, rfl, 1, u, rfl, rfl, ⟨rfl, by omega⟩, _, _, rfl, rfl, q H2 (Same.refl H2)⟩
    · rw [nvs_map] at h2
      exact k D H2 (s1.none hD) h2 (s1.trans s2)
theorem scMore : FnScope ["letters", "most", "letter"] ["letters", "most"] (defScope sMore) := ⟨rfl, rfl, rfl, by decide +kernel, rfl, by decide +kernel, by decide +kernel⟩
theorem ok_more {f : Addr} {fd : FuncData} (F : Fun K "with_one_more" "with_one_more" sMore f fd) (DM : DMembers P w K mg base) : FnOk P w K mg base CX0 2 f fd ["letters", "most"] spMore := by
  refine F.ok scMore (fun vs H Q E h => ?_) (fun cdv A outer s H vs Q E hr h => ?_)
  · obtain ⟨s, sh, rfl, _⟩ := h
    rfl
  · obtain ⟨s, sh, rfl, hs, hsh, k⟩ := h
    refine ⟨_, pss_one (ps_ret (pe_lc (own := [("letter", 2)]) rfl scMore.nd (pi_list (pe_d DM hr rfl (pa_cons (pe_op nn_xor (pv 1) (pv 0)) pa_nil))) (blkOk_by (by rfl)) (fun _ _ _ _ _ => pg_name (i := 2) scMore.nd rfl (Or.inl rfl))
      (fun _ _ _ _ _ => pts_nil) (fun _ _ _ _ _ => pe_op nn_or (pv 0) (pe_op nn_shl pe_int (pv 2))))), ?_⟩
    have hx : sh ^^^ s < 16 := Nat.xor_lt_two_pow (n := 4) hsh hs
    refine ⟨_, rfl, _, rfl, sh, s, rfl, rfl, sh ^^^ s, rfl, hx, fun D1 H1 hD1 h1 s1 => ⟨D1, rfl, ⟨_, SqL.of h1⟩, fun D hD => ?_⟩⟩
    refine lc_listN (l := mem (sh ^^^ s)) (j := 2) (fun _ => true) (fun i => nv (s ||| 2 ^ i)) hD (mem_len _) (SqL.of h1) (fun u H2 Q2 hu s2 q => q H2 (Same.refl H2)) (fun u H2 Q2 hu _ s2 q => ?_) (fun H2 h2 s2 => ?_)
    · have : u < 4 := bit_lt (n := 4) hx ((mem_mem hx).mp hu)
      exact ⟨_, rfl, _, rfl, 1, u, rfl, rfl, ⟨rfl, by omega⟩, _, _, rfl, rfl, q H2 (Same.refl H2)⟩
    · rw [nvs_map] at h2
      exact k D H2 (s1.none hD) h2 (s1.trans s2)
def rIn (K : PySem.W.Frag) : R2 := fun x y H Q => ∃ (n : Nat) (p : Addr) (l : List Nat), x = nv n ∧ y = .ref p ∧ SqL K H p (nvs l) ∧ Q (.bl (l.contains n)) H
theorem scHasAny : FnScope ["found", "wanted", "some"] ["found", "wanted"] (defScope sHasAny) := ⟨rfl, rfl, rfl, by decide +kernel, rfl, by decide +kernel, by decide +kernel⟩
theorem ok_hasAny {f : Addr} {fd : FuncData} (F : Fun K "has_any" "has_any" sHasAny f fd) (hA : mg "any" = none) : FnOk P w K mg base CX0 1 f fd ["found", "wanted"] spHasAny := by
  refine F.ok scHasAny (fun vs H Q E h => ?_) (fun cdv A outer s H vs Q E hr h => ?_)
  · obtain ⟨a, b, found, wanted, rfl, _⟩ := h
    rfl
  · obtain ⟨a, b, found, wanted, rfl, ha, hb, hl, k⟩ := h
    refine ⟨_, pss_one (ps_ret (pe_callB (cr_any rfl) (by rfl) hA boot_any (pa_cons (pe_lc (own := [("some", 2)]) rfl scHasAny.nd (pi_list (pv 1)) (blkOk_by (by rfl)) (fun _ _ _ _ _ => pg_name (i := 2) scHasAny.nd rfl (Or.inl rfl))
      (fun _ _ _ _ _ => pts_nil) (fun _ _ _ _ _ => pe_cmpR (r := rIn K) nn_in (pv 2) (pv 0) rfl)) pa_nil))), ?_⟩
    refine ⟨_, rfl, b, rfl, ⟨_, SqL.of hb⟩, fun D hD => ?_⟩
    refine lc_listN (l := wanted) (j := 2) (fun _ => true) (fun u => .bl (found.contains u)) hD hl (SqL.of hb) (fun u H2 Q2 hu s2 q => q H2 (Same.refl H2)) (fun u H2 Q2 hu _ s2 q => ⟨_, rfl, _, rfl, u, a, found, rfl, rfl, SqL.of (s2 _ _ ha), q H2 (Same.refl H2)⟩) (fun H2 h2 s2 => ?_)
    have e : (wanted.filter fun _ => true).map (fun u => V.bl (found.contains u)) = (wanted.map fun u => found.contains u).map V.bl := by
      rw [List.filter_eq_self.mpr (fun _ _ => rfl), List.map_map]
      rfl
    rw [e] at h2
    refine ⟨D, wanted.map (fun u => found.contains u), rfl, SqL.of h2, ?_⟩
    rw [List.any_map]
    exact k H2 s2
theorem scLeast : FnScope ["found", "some"] ["found"] (defScope sLeast) := ⟨rfl, rfl, rfl, by decide +kernel, rfl, by decide +kernel, by decide +kernel⟩
theorem ok_least {f : Addr} {fd : FuncData} (F : Fun K "least_sets" "least_sets" sLeast f fd) (DH : DHasAny P w K mg base) (DL : DLess P w K mg base) : FnOk P w K mg base CX0 3 f fd ["found"] spLeast := by
  refine F.ok scLeast (fun vs H Q E h => ?_) (fun cdv A outer s H vs Q E hr h => ?_)
  · obtain ⟨a, found, rfl, _⟩ := h
    rfl
  · obtain ⟨a, found, rfl, ha, hl, h16, k⟩ := h
    refine ⟨_, pss_one (ps_ret (pe_lc (own := [("some", 1)]) rfl scLeast.nd (pi_list (pv 0)) (blkOk_by (by rfl)) (fun _ _ _ _ _ => pg_name (i := 1) scLeast.nd rfl (Or.inl rfl))
      (fun _ _ _ _ _ => pts_one (pt_not (pt_val (pe_d DH (hr.mono (by decide)) rfl (pa_cons (pv 0) (pa_cons (pe_d DL hr rfl (pa_cons (pv 1) pa_nil)) pa_nil)))))) (fun _ _ _ _ _ => pv 1))), ?_⟩
    refine ⟨_, rfl, a, rfl, ⟨_, SqL.of ha⟩, fun D hD => ?_⟩
    refine lc_listN (l := found) (j := 1) (fun s => !hasAny found (oneLess s)) nv hD hl (SqL.of ha) (fun u H2 Q2 hu s2 q => ?_) (fun u H2 Q2 hu _ s2 q => ⟨_, rfl, q H2 (Same.refl H2)⟩) (fun H2 h2 s2 => k D H2 hD h2 s2)
    refine ⟨_, rfl, _, rfl, u, rfl, h16 u hu, fun D1 H3 hD1 h3 s3 => ⟨a, D1, found, oneLess u, rfl, (s2.trans s3) _ _ ha, h3, ?_, fun H4 s4 => ⟨_, rfl, q H4 (s3.trans s4)⟩⟩⟩
    unfold oneLess
    rw [List.length_map]
    exact mem_len u
theorem scGreatest : FnScope ["found", "most", "some"] ["found", "most"] (defScope sGreatest) := ⟨rfl, rfl, rfl, by decide +kernel, rfl, by decide +kernel, by decide +kernel⟩
theorem ok_greatest {f : Addr} {fd : FuncData} (F : Fun K "greatest_sets" "greatest_sets" sGreatest f fd) (DH : DHasAny P w K mg base) (DL : DMore P w K mg base) : FnOk P w K mg base CX0 3 f fd ["found", "most"] spGreatest := by
  refine F.ok scGreatest (fun vs H Q E h => ?_) (fun cdv A outer s H vs Q E hr h => ?_)
  · obtain ⟨a, found, sh, rfl, _⟩ := h
    rfl
  · obtain ⟨a, found, sh, rfl, ha, hl, hsh, h16, k⟩ := h
    refine ⟨_, pss_one (ps_ret (pe_lc (own := [("some", 2)]) rfl scGreatest.nd (pi_list (pv 0)) (blkOk_by (by rfl)) (fun _ _ _ _ _ => pg_name (i := 2) scGreatest.nd rfl (Or.inl rfl))
      (fun _ _ _ _ _ => pts_one (pt_not (pt_val (pe_d DH (hr.mono (by decide)) rfl (pa_cons (pv 0) (pa_cons (pe_d DL hr rfl (pa_cons (pv 2) (pa_cons (pv 1) pa_nil))) pa_nil)))))) (fun _ _ _ _ _ => pv 2))), ?_⟩
    refine ⟨_, rfl, a, rfl, ⟨_, SqL.of ha⟩, fun D hD => ?_⟩
    refine lc_listN (l := found) (j := 2) (fun s => !hasAny found (oneMore s sh)) nv hD hl (SqL.of ha) (fun u H2 Q2 hu s2 q => ?_) (fun u H2 Q2 hu _ s2 q => ⟨_, rfl, q H2 (Same.refl H2)⟩) (fun H2 h2 s2 => k D H2 hD h2 s2)
    refine ⟨_, rfl, _, rfl, _, rfl, u, sh, rfl, h16 u hu, hsh, fun D1 H3 hD1 h3 s3 => ⟨a, D1, found, oneMore u sh, rfl, (s2.trans s3) _ _ ha, h3, ?_, fun H4 s4 => ⟨_, rfl, q H4 (s3.trans s4)⟩⟩⟩
    unfold oneMore
    rw [List.length_map]
    exact mem_len _
theorem scCounted : FnScope ["found"] ["found"] (defScope sCounted) := ⟨rfl, rfl, rfl, by decide +kernel, rfl, by decide +kernel, by decide +kernel⟩
theorem ok_counted {f : Addr} {fd : FuncData} (F : Fun K "counted" "counted" sCounted f fd) (hL : mg "len" = none) : FnOk P w K mg base CX0 1 f fd ["found"] spCounted := by
  refine F.ok scCounted (fun vs H Q E h => ?_) (fun cdv A outer s H vs Q E hr h => ?_)
  · obtain ⟨a, l, rfl, _⟩ := h
    rfl
  · obtain ⟨a, l, rfl, ha, hl, k⟩ := h
    refine ⟨_, pss_one (ps_ret (pe_op op_add_lists (pe_lst (pa_cons (pe_callB call_len_seq (by rfl) hL PySem.boot_len (pa_cons (pv 0) pa_nil)) pa_nil)) (pv 0))), ?_⟩
    refine ⟨_, rfl, a, _, rfl, .inl (SqL.of ha), (by show 1 ≤ sizeLine; decide), fun D1 n1 => ⟨_, rfl, D1, a, _, _, rfl, rfl, SqL.of upd_same, SqL.of (Same.new n1 _ _ ha), ?_, fun D n2 => k D _ (upd_none.mp n2).2 ?_ ((Same.new n1).trans (Same.new n2))⟩⟩
    · have := small1000 (n := 1 + l.length - 1) (by omega)
      rw [List.length_map, List.length_singleton]
      omega
    · rw [upd_same, List.length_map]
      rfl
end
end Sw
end

section
set_option Elab.async false
set_option linter.all false
set_option maxRecDepth 100000
set_option maxHeartbeats 2000000
namespace Sw
open PySem PySem.Spec PyProof.Rows L2
/-! ### the world at p -/
theorem push20_eq {past : List Kraf.Two} {t : Kraf.Two} (h : past.length ≤ 20) : push20 past.reverse t = ((t :: past).take 20).reverse := by
  have e : past.reverse ++ [t] = (t :: past).reverse := by rw [List.reverse_cons]
  unfold push20
  rw [e, List.length_reverse]
  by_cases c : 20 < (t :: past).length
  · rw [if_pos c]
    have l : (t :: past).length = 21 := by
      rw [List.length_cons] at c ⊢
      omega
    have d : (t :: past).take 20 = (t :: past).dropLast := by rw [List.dropLast_eq_take, l]
    rw [d, List.tail_reverse]
  · rw [if_neg c, List.take_of_length_le (by omega)]
structure StW (C : Addr) (H : Hp) (p : Addr) (W : Kraf.World) : Prop where
  st : Pst C H p W.p W.past.reverse W.next.reverse
  good : Good W
theorem StW.same {C p : Addr} {H H' : Hp} {W : Kraf.World} (h : StW C H p W) (s : Same H H') : StW C H' p W := ⟨h.st.same s, h.good⟩
theorem StW.lenP {C p : Addr} {H : Hp} {W : Kraf.World} (h : StW C H p W) : W.past.length ≤ 20 := by
  have := h.good.len
  omega
theorem StW.to {C p : Addr} {H H' : Hp} {W : Kraf.World} (h : StW C H p W) {t : Kraf.Two} (r : Kraf.Ans) (q : Pst C H' p t (push20 W.past.reverse W.p) []) (ok : OkT t) (e : t.m = W.p.m) : StW C H' p (W.to t r).1 := by
  rw [push20_eq h.lenP] at q
  exact ⟨q, h.good.to ok e r⟩
/-- an answer has come: the world behind it, what it says in a new list at l -/
structure Res (C p : Addr) (H : Hp) (z : Kraf.World × Kraf.Ans) (H' : Hp) (l : Addr) : Prop where
  st : StW C H' p z.1
  kp : Kp p H H'
  ans : H' l = some (.lst ((KrafNeutral.told z.2).map V.int))
  new : ∀ b o, H b = some o → ¬ Foot p H b → b ≠ l
theorem res_new {C p l : Addr} {H H2 : Hp} {z : Kraf.World × Kraf.Ans} {xs : List V} (s : StW C H2 p z.1) (k : Kp p H H2) (n : H2 l = none) (e : xs = (KrafNeutral.told z.2).map V.int) : Res C p H z (upd H2 l (.lst xs)) l := by
  have sm : Same H2 (upd H2 l (.lst xs)) := Same.new n
  refine ⟨s.same sm, k.trans (s.st.kp sm), ?_, fun b o h f => ne_of_none (k b o h f).1 n⟩
  rw [e]
  exact upd_same
theorem Res.trans {C p l : Addr} {H H1 H2 : Hp} {z : Kraf.World × Kraf.Ans} (k : Kp p H H1) (r : Res C p H1 z H2 l) : Res C p H z H2 l :=
  ⟨r.st, k.trans r.kp, r.ans, fun b o h f => let ⟨h1, f1⟩ := k b o h f; r.new b o h1 f1⟩
theorem count_len (m p : Nat) : (wlds m p).length = Kraa.count m p := rfl
/-! ### numbers of the module -/
structure Cn (mg : Str → Option Value) : Prop where
  len : mg "len" = none
  range : mg "range" = none
  any : mg "any" = none
  noSuch : ∃ t, mg "NO_SUCH" = some (.int (-2) t)
  none_ : ∃ t, mg "NONE_THERE" = some (.int (-6) t)
  notBegun : ∃ t, mg "NOT_BEGUN" = some (.int (-11) t)
  theirs : ∃ t, mg "THEIRS_ALREADY" = some (.int (-17) t)
  notRight : ∃ t, mg "NOT_RIGHT" = some (.int (-22) t)
  cannot : ∃ t, mg "CANNOT_BE" = some (.int (-33) t)
  notTold : ∃ t, mg "NOT_TOLD_IN" = some (.int (-62) t)
  mostL : ∃ t, mg "MOST_LETTERS" = some (.int 4 t)
  begin_ : ∃ t, mg "BEGIN" = some (.int 0 t)
  fol : ∃ t, mg "FOLLOWS" = some (.int 1 t)
  cbs : ∃ t, mg "CANNOT_BE_SO" = some (.int 0 t)
  nei : ∃ t, mg "NEITHER" = some (.int 2 t)
/-! ### what the calls promise -/
def spC0 (C : Addr) (mk : Kraf.Call) : Sp := fun vs H Q _ => ∃ (p : Addr) (W : Kraf.World), vs = [.ref p] ∧ StW C H p W ∧ ∀ H' l, Res C p H (W.does mk) H' l → Q (.ref l) H'
def spC1 (C : Addr) (pre : Kraf.Two → Nat → Prop) (mk : Nat → Kraf.Call) : Sp := fun vs H Q _ => ∃ (p : Addr) (x : Nat) (W : Kraf.World), vs = [.ref p, nv x] ∧ pre W.p x ∧ StW C H p W ∧ ∀ H' l, Res C p H (W.does (mk x)) H' l → Q (.ref l) H'
def spC2 (C : Addr) (pre : Kraf.Two → Nat → Nat → Prop) (mk : Nat → Nat → Kraf.Call) : Sp := fun vs H Q _ => ∃ (p : Addr) (x y : Nat) (W : Kraf.World), vs = [.ref p, nv x, nv y] ∧ pre W.p x y ∧ StW C H p W ∧ ∀ H' l, Res C p H (W.does (mk x y)) H' l → Q (.ref l) H'
def pW (_ : Kraf.Two) (x : Nat) : Prop := x ≤ 1
def pWF (t : Kraf.Two) (x s : Nat) : Prop := x ≤ 1 ∧ s < 2 ^ t.m
def pWI (t : Kraf.Two) (x i : Nat) : Prop := x ≤ 1 ∧ i < t.m
abbrev sBegin : Stmt := top 42
abbrev sLearn : Stmt := top 43
abbrev sForget : Stmt := top 44
abbrev sRevise : Stmt := top 45
abbrev sTell : Stmt := top 46
abbrev sTellof : Stmt := top 47
abbrev sTeach : Stmt := top 48
abbrev sBack : Stmt := top 49
abbrev sAgain : Stmt := top 50
abbrev sKnows : Stmt := top 51
abbrev sFollows : Stmt := top 52
abbrev sOpen : Stmt := top 53
abbrev sShared : Stmt := top 54
abbrev sOwn : Stmt := top 55
abbrev sTells : Stmt := top 56
abbrev sNews : Stmt := top 57
abbrev sWould : Stmt := top 58
abbrev sCould : Stmt := top 59
abbrev sAsks : Stmt := top 60
abbrev sSafe : Stmt := top 61
abbrev sQuarrel : Stmt := top 62
abbrev sQuarrels : Stmt := top 63
abbrev sBoth : Stmt := top 64
abbrev sCommonC : Stmt := top 65
abbrev sAgreed : Stmt := top 66
abbrev sPartsC : Stmt := top 67
abbrev sMatter : Stmt := top 68
abbrev sSettles : Stmt := top 69
abbrev sUnsure : Stmt := top 70
abbrev sState : Stmt := top 71
section
variable {P : Program} {w : World} {K : PySem.W.Frag} {mg : Str → Option Value} {base : Heap} {C : Addr}
abbrev DHold (P : Program) (w : World) (K : PySem.W.Frag) (mg : Str → Option Value) (base : Heap) (C : Addr) : Prop := Met P w K mg base C "hold" 2 ["self", "w", "claim"] (spHold C)
abbrev DWorlds (P : Program) (w : World) (K : PySem.W.Frag) (mg : Str → Option Value) (base : Heap) : Prop := Def P w K mg base "worlds" 1 ["claim", "m"] spWorlds
theorem scLearn : FnScope ["people", "w", "q", "known"] ["people", "w", "q"] (defScope sLearn) := ⟨rfl, rfl, rfl, by decide +kernel, rfl, by decide +kernel, by decide +kernel⟩
theorem ok_learn {f : Addr} {fd : FuncData} (F : Fun K "learn" "learn" sLearn f fd) (T : Txt K C) (N : Cn mg) (DH : DHold P w K mg base C) (DW : DWorlds P w K mg base) : FnOk P w K mg base CX0 3 f fd ["people", "w", "q"] (spC2 C PreQ .learn) := by
  refine F.ok scLearn (fun vs H Q E h => ?_) (fun cdv A outer s H vs Q E hr h => ?_)
  · obtain ⟨p, x, q, W, rfl, _⟩ := h
    rfl
  · obtain ⟨p, x, q, W, rfl, pr, S, k⟩ := h
    refine ⟨_, pss_cons (ps_set (i := 3) scLearn.nd rfl (Or.inl rfl) (pe_op nn_and (pe_ix ix_tup (pe_fld (pv 0) rfl) (pv 1) (fun _ _ => rfl)) (pv 2)))
      (pss_cons (ps_if (pt_cmpR nn_eq (pv 3) pe_int (nomark _)) (pss_one (ps_ret (pe_lst (pa_cons (pe_gi N.cannot rfl) pa_nil)))) pss_nil)
      (pss_cons (ps_expr (pe_md (pv 0) T.cl DH hr (pa_cons (pv 1) (pa_cons (pv 3) pa_nil))))
      (pss_one (ps_ret (pe_lst (pa_cons (pe_callB call_len_seq (by rfl) N.len PySem.boot_len (pa_cons (pe_d DW (hr.mono (by decide)) rfl (pa_cons (pv 3) (pa_cons (pe_fld (pv 0) rfl) pa_nil))) pa_nil)) pa_nil)))))), ?_⟩
    obtain ⟨dx, oL, kn, aP, aU, xs, ys, h1, h2, h3, _⟩ := S.st.ex
    have kw := know_at (t := W.p) pr.hw
    have e := does_learn pr
    refine ⟨_, rfl, p, C, dx, _, _, rfl, h1, T.cl, T.nK, rfl, _, rfl, kn, _, _, _, rfl, rfl, SqT.of h3, kw, _, rfl, _, q, rfl, rfl, _, rfl, _, 0, rfl, rfl, _, rfl, ?_⟩
    by_cases c : W.p.knows x &&& q = 0
    · rw [if_pos c] at e
      rw [decide_eq_true c]
      refine iteT ⟨(by show 1 ≤ sizeLine; decide), fun l nl => k _ _ ?_⟩
      rw [e]
      exact res_new S (Kp.refl p H) nl rfl
    · rw [if_neg c] at e
      rw [decide_eq_false c]
      refine iteF ⟨_, rfl, p, dx, _, rfl, h1, rfl, _, rfl, _, rfl, p, x, W.p.knows x &&& q, W.p, _, _, rfl, S.st, (by rw [List.length_reverse]; exact S.lenP), fun H1 P1 K1 => ?_⟩
      have S1 := S.to (Kraf.say (Kraa.count W.p.m (W.p.knows x &&& q))) P1 (S.good.t.put x (and_lt _ (S.good.t.knows x))) (put_m _ _ _)
      obtain ⟨dx, oL, kn, aP, aU, xs, ys, h1, _⟩ := P1.ex
      refine ⟨_, rfl, _, rfl, p, C, dx, _, _, rfl, h1, T.cl, T.nM, rfl, _, (W.p.put x (W.p.knows x &&& q)).m, rfl, (by rw [put_m]; exact S.good.t.m4), fun D H2 _ hD s2 => ⟨D, _, rfl, .inl (SqL.of hD), (by show 1 ≤ sizeLine; decide), fun l nl => k _ _ ?_⟩⟩
      rw [e]
      refine res_new (S1.same s2) (K1.trans (P1.kp s2)) nl ?_
      rw [List.length_map, count_len, put_m]
      rfl
theorem scForget : FnScope ["people", "w", "s", "known"] ["people", "w", "s"] (defScope sForget) := ⟨rfl, rfl, rfl, by decide +kernel, rfl, by decide +kernel, by decide +kernel⟩
theorem ok_forget {f : Addr} {fd : FuncData} (F : Fun K "forget" "forget" sForget f fd) (T : Txt K C) (DH : DHold P w K mg base C) (DW : DWithout P w K mg base) : FnOk P w K mg base CX0 4 f fd ["people", "w", "s"] (spC2 C pWF .forget) := by
  refine F.ok scForget (fun vs H Q E h => ?_) (fun cdv A outer s H vs Q E hr h => ?_)
  · obtain ⟨p, x, q, W, rfl, _⟩ := h
    rfl
  · obtain ⟨p, x, q, W, rfl, pr, S, k⟩ := h
    refine ⟨_, pss_cons (ps_set (i := 3) scForget.nd rfl (Or.inl rfl) (pe_d DW hr rfl (pa_cons (pe_ix ix_tup (pe_fld (pv 0) rfl) (pv 1) (fun _ _ => rfl)) (pa_cons (pv 2) (pa_cons (pe_fld (pv 0) rfl) pa_nil)))))
      (pss_cons (ps_expr (pe_md (pv 0) T.cl DH (hr.mono (by decide)) (pa_cons (pv 1) (pa_cons (pv 3) pa_nil))))
      (pss_one (ps_ret (pe_lst (pa_cons (pv 3) pa_nil))))), ?_⟩
    obtain ⟨dx, oL, kn, aP, aU, xs, ys, h1, h2, h3, h4, h5, _⟩ := S.st.ex
    have kw := know_at (t := W.p) pr.1
    refine ⟨_, rfl, p, C, dx, _, _, rfl, h1, T.cl, T.nK, rfl, _, rfl, kn, _, _, _, rfl, rfl, SqT.of h3, kw, _, rfl, _, rfl, p, C, dx, _, _, rfl, h1, T.cl, T.nM, rfl, W.p.knows x, q, W.p.m, rfl, S.good.t.m4, pr.2, fun H1 s1 => ?_⟩
    have S1 := S.same s1
    have h1 := s1 _ _ h1
    refine ⟨_, rfl, p, dx, _, rfl, h1, rfl, _, rfl, _, rfl, p, x, Kraa.forget W.p.m (W.p.knows x) q, W.p, _, _, rfl, S1.st, (by rw [List.length_reverse]; exact S.lenP), fun H2 P2 K2 => ?_⟩
    have S2 := S1.to (Kraf.say (Kraa.forget W.p.m (W.p.knows x) q)) P2 (S.good.t.put x (forget_lt _ _ _)) (put_m _ _ _)
    refine ⟨_, rfl, (by show 1 ≤ sizeLine; decide), fun l nl => k _ _ ?_⟩
    rw [does_forget pr.1 pr.2]
    exact res_new S2 ((S.st.kp s1).trans K2) nl rfl
theorem scRevise : FnScope ["people", "w", "q", "known"] ["people", "w", "q"] (defScope sRevise) := ⟨rfl, rfl, rfl, by decide +kernel, rfl, by decide +kernel, by decide +kernel⟩
theorem ok_revise {f : Addr} {fd : FuncData} (F : Fun K "revise" "revise" sRevise f fd) (T : Txt K C) (N : Cn mg) (DH : DHold P w K mg base C) (DR : Def P w K mg base "revised" 7 ["known", "claim", "m"] spRevised) : FnOk P w K mg base CX0 8 f fd ["people", "w", "q"] (spC2 C PreQ .revise) := by
  refine F.ok scRevise (fun vs H Q E h => ?_) (fun cdv A outer s H vs Q E hr h => ?_)
  · obtain ⟨p, x, q, W, rfl, _⟩ := h
    rfl
  · obtain ⟨p, x, q, W, rfl, pr, S, k⟩ := h
    refine ⟨_, pss_cons (ps_if (pt_cmpR nn_eq (pv 2) pe_int (nomark _)) (pss_one (ps_ret (pe_lst (pa_cons (pe_gi N.cannot rfl) pa_nil)))) pss_nil)
      (pss_cons (ps_set (i := 3) scRevise.nd rfl (Or.inl rfl) (pe_d DR hr rfl (pa_cons (pe_ix ix_tup (pe_fld (pv 0) rfl) (pv 1) (fun _ _ => rfl)) (pa_cons (pv 2) (pa_cons (pe_fld (pv 0) rfl) pa_nil)))))
      (pss_cons (ps_expr (pe_md (pv 0) T.cl DH (hr.mono (by decide)) (pa_cons (pv 1) (pa_cons (pv 3) pa_nil))))
      (pss_one (ps_ret (pe_lst (pa_cons (pv 3) pa_nil)))))), ?_⟩
    obtain ⟨dx, oL, kn, aP, aU, xs, ys, h1, h2, h3, h4, h5, _⟩ := S.st.ex
    have kw := know_at (t := W.p) pr.hw
    have e := does_revise pr
    refine ⟨_, rfl, q, 0, rfl, rfl, _, rfl, ?_⟩
    by_cases c : q = 0
    · rw [if_pos c] at e
      rw [decide_eq_true c]
      refine iteT ⟨(by show 1 ≤ sizeLine; decide), fun l nl => k _ _ ?_⟩
      rw [e]
      exact res_new S (Kp.refl p H) nl rfl
    · rw [if_neg c] at e
      rw [decide_eq_false c]
      refine iteF ⟨_, rfl, p, C, dx, _, _, rfl, h1, T.cl, T.nK, rfl, _, rfl, kn, _, _, _, rfl, rfl, SqT.of h3, kw, _, rfl, _, rfl, p, C, dx, _, _, rfl, h1, T.cl, T.nM, rfl, W.p.knows x, q, W.p.m, rfl, S.good.t.m4, S.good.t.knows x, pr.hq, fun H1 s1 => ?_⟩
      have S1 := S.same s1
      have h1 := s1 _ _ h1
      refine ⟨_, rfl, p, dx, _, rfl, h1, rfl, _, rfl, _, rfl, p, x, Krad.revise W.p.m (W.p.knows x) q, W.p, _, _, rfl, S1.st, (by rw [List.length_reverse]; exact S.lenP), fun H2 P2 K2 => ?_⟩
      have S2 := S1.to (Kraf.say (Krad.revise W.p.m (W.p.knows x) q)) P2 (S.good.t.put x (revise_lt pr.hq)) (put_m _ _ _)
      refine ⟨_, rfl, (by show 1 ≤ sizeLine; decide), fun l nl => k _ _ ?_⟩
      rw [e]
      exact res_new S2 ((S.st.kp s1).trans K2) nl rfl
theorem scTellof : FnScope ["people", "w", "s", "other", "told", "known"] ["people", "w", "s"] (defScope sTellof) := ⟨rfl, rfl, rfl, by decide +kernel, rfl, by decide +kernel, by decide +kernel⟩
theorem ok_tellof {f : Addr} {fd : FuncData} (F : Fun K "tellof" "tellof" sTellof f fd) (T : Txt K C) (N : Cn mg) (DH : DHold P w K mg base C) (DM : MMost P w K mg base C) (DK : MKIf P w K mg base C) : FnOk P w K mg base CX0 5 f fd ["people", "w", "s"] (spC2 C PreS .tellOf) := by
  refine F.ok scTellof (fun vs H Q E h => ?_) (fun cdv A outer s H vs Q E hr h => ?_)
  · obtain ⟨p, x, q, W, rfl, _⟩ := h
    rfl
  · obtain ⟨p, x, q, W, rfl, pr, S, k⟩ := h
    refine ⟨_, pss_cons (ps_set (i := 3) scTellof.nd rfl (Or.inl rfl) (pe_op nn_sub pe_int (pv 1)))
      (pss_cons (ps_set (i := 4) scTellof.nd rfl (Or.inl rfl) (pe_md (pv 0) T.cl DM (hr.mono (by decide)) (pa_cons (pv 1) (pa_cons (pv 2) pa_nil))))
      (pss_cons (ps_set (i := 5) scTellof.nd rfl (Or.inl rfl) (pe_md (pv 0) T.cl DK hr (pa_cons (pv 3) (pa_cons (pv 2) pa_nil))))
      (pss_cons (ps_if (pt_cmpR nn_eq (pv 5) pe_int (nomark _)) (pss_one (ps_ret (pe_lst (pa_cons (pe_gi N.cannot rfl) pa_nil)))) pss_nil)
      (pss_cons (ps_expr (pe_md (pv 0) T.cl DH (hr.mono (by decide)) (pa_cons (pv 3) (pa_cons (pv 5) pa_nil))))
      (pss_one (ps_ret (pe_lst (pa_cons (pv 4) (pa_cons (pv 5) pa_nil))))))))), ?_⟩
    obtain ⟨dx, oL, kn, aP, aU, xs, ys, h1, h2, h3, h4, h5, _⟩ := S.st.ex
    have hw := pr.hw
    have xx : 1 - (1 - x) = x := by omega
    have e := does_tellOf pr
    unfold tellAns at e
    refine ⟨_, rfl, 1, x, rfl, rfl, pr.hw, _, rfl, p, dx, _, rfl, h1, rfl, _, rfl, _, rfl, p, x, q, W.p, _, _, rfl, pr.hw, S.good.t.m4, pr.hs, S.st, fun H1 s1 => ?_⟩
    have S1 := S.same s1
    have h1 := s1 _ _ h1
    refine ⟨_, rfl, p, dx, _, rfl, h1, rfl, _, rfl, _, rfl, p, 1 - x, q, W.p, _, _, rfl, (by omega), S.good.t.m4, pr.hs, S1.st, fun H2 s2 => ?_⟩
    have S2 := S1.same s2
    have h1 := s2 _ _ h1
    have s12 := s1.trans s2
    rw [xx]
    refine ⟨_, rfl, _, 0, rfl, rfl, _, rfl, ?_⟩
    by_cases c : W.p.knows (1 - x) &&& Kraa.keep W.p.m (W.p.knows x) q = 0
    · rw [if_pos c] at e
      rw [decide_eq_true c]
      refine iteT ⟨(by show 1 ≤ sizeLine; decide), fun l nl => k _ _ ?_⟩
      rw [e]
      exact res_new S2 (S.st.kp s12) nl rfl
    · rw [if_neg c] at e
      rw [decide_eq_false c]
      refine iteF ⟨_, rfl, p, dx, _, rfl, h1, rfl, _, rfl, _, rfl, p, 1 - x, W.p.knows (1 - x) &&& Kraa.keep W.p.m (W.p.knows x) q, W.p, _, _, rfl, S2.st, (by rw [List.length_reverse]; exact S.lenP), fun H3 P3 K3 => ?_⟩
      refine ⟨_, rfl, _, rfl, (by show 2 ≤ sizeLine; decide), fun l nl => k _ _ ?_⟩
      rw [e]
      exact res_new (S2.to _ P3 (S.good.t.put (1 - x) (and_lt _ (S.good.t.knows (1 - x)))) (put_m _ _ _)) ((S.st.kp s12).trans K3) nl rfl
theorem scTell : FnScope ["people", "w"] ["people", "w"] (defScope sTell) := ⟨rfl, rfl, rfl, by decide +kernel, rfl, by decide +kernel, by decide +kernel⟩
theorem ok_tell {f : Addr} {fd : FuncData} (F : Fun K "tell" "tell" sTell f fd) (T : Txt K C) (DT : Def P w K mg base "tellof" 5 ["people", "w", "s"] (spC2 C PreS .tellOf)) (DC : Met P w K mg base C "common_letters" 1 ["self"] (spCommon C)) : FnOk P w K mg base CX0 6 f fd ["people", "w"] (spC1 C pW .tell) := by
  refine F.ok scTell (fun vs H Q E h => ?_) (fun cdv A outer s H vs Q E hr h => ?_)
  · obtain ⟨p, x, W, rfl, _⟩ := h
    rfl
  · obtain ⟨p, x, W, rfl, pr, S, k⟩ := h
    refine ⟨_, pss_one (ps_ret (pe_d DT hr rfl (pa_cons (pv 0) (pa_cons (pv 1) (pa_cons (pe_md0 (pv 0) T.cl DC (hr.mono (by decide))) pa_nil))))), ?_⟩
    obtain ⟨dx, oL, kn, aP, aU, xs, ys, h1, h2, h3, h4, h5, _⟩ := S.st.ex
    refine ⟨_, rfl, _, rfl, _, rfl, p, dx, _, rfl, h1, rfl, p, W.p, _, _, rfl, S.st, p, x, W.p.shared, W, rfl, ⟨pr, S.good.t.shared, Nat.and_self _⟩, S, fun H' l r => k H' l ?_⟩
    rw [does_tell pr]
    rw [does_tellOf ⟨pr, S.good.t.shared, Nat.and_self _⟩] at r
    exact r
theorem or_add {a i : Nat} (h : ¬ a.testBit i = true) : a ||| 2 ^ i = a + 2 ^ i := by
  have e : a &&& 2 ^ i = 0 := by
    apply Nat.eq_of_testBit_eq
    intro j
    rw [Nat.testBit_and, Nat.testBit_two_pow, Nat.zero_testBit]
    by_cases c : i = j
    · subst c
      simp [h]
    · simp [c]
  have := nat_or_add_and a (2 ^ i)
  omega
theorem scTeach : FnScope ["people", "w", "i"] ["people", "w", "i"] (defScope sTeach) := ⟨rfl, rfl, rfl, by decide +kernel, rfl, by decide +kernel, by decide +kernel⟩
theorem ok_teach {f : Addr} {fd : FuncData} (F : Fun K "teach" "teach" sTeach f fd) (T : Txt K C) (N : Cn mg) (DO : Met P w K mg base C "own_more" 2 ["self", "w", "letter"] (spOwnMore C)) : FnOk P w K mg base CX0 3 f fd ["people", "w", "i"] (spC2 C pWI .teach) := by
  refine F.ok scTeach (fun vs H Q E h => ?_) (fun cdv A outer s H vs Q E hr h => ?_)
  · obtain ⟨p, x, q, W, rfl, _⟩ := h
    rfl
  · obtain ⟨p, x, q, W, rfl, pr, S, k⟩ := h
    refine ⟨_, pss_cons (ps_if (pt_cmpR nn_eq (pe_op nn_and (pe_op nn_shr (pe_ix ix_tup (pe_fld (pv 0) rfl) (pv 1) (fun _ _ => rfl)) (pv 2)) pe_int) pe_int (nomark _)) (pss_one (ps_ret (pe_lst (pa_cons (pe_gi N.theirs rfl) pa_nil)))) pss_nil)
      (pss_cons (ps_expr (pe_md (pv 0) T.cl DO hr (pa_cons (pv 1) (pa_cons (pv 2) pa_nil))))
      (pss_one (ps_ret (pe_lst (pa_cons (pe_ix ix_tup (pe_fld (pv 0) rfl) (pv 1) (fun _ _ => rfl)) pa_nil))))), ?_⟩
    obtain ⟨dx, oL, kn, aP, aU, xs, ys, h1, h2, h3, h4, h5, _⟩ := S.st.ex
    have ow := own_at (t := W.p) pr.1
    have e := does_teach pr.1 pr.2
    refine ⟨_, rfl, p, C, dx, _, _, rfl, h1, T.cl, T.nO, rfl, _, rfl, oL, _, _, _, rfl, rfl, SqT.of h2, ow, _, rfl, W.p.own x, q, rfl, rfl, W.p.own x / 2 ^ q, 1, rfl, rfl, W.p.own x / 2 ^ q &&& 1, 1, rfl, rfl, _, rfl, ?_⟩
    rw [bit1]
    by_cases c : (W.p.own x).testBit q = true
    · rw [if_pos c] at e
      rw [c]
      refine iteT ⟨(by show 1 ≤ sizeLine; decide), fun l nl => k _ _ ?_⟩
      rw [e]
      exact res_new S (Kp.refl p H) nl rfl
    · rw [if_neg c] at e
      rw [if_neg c]
      have q4 : q ≤ 4 := Nat.le_trans (Nat.le_of_lt pr.2) S.good.t.m4
      refine ⟨_, rfl, p, dx, _, rfl, h1, rfl, _, rfl, _, rfl, p, x, q, W.p, _, _, rfl, pr.1, q4, S.st, (by rw [List.length_reverse]; exact S.lenP), fun H1 P1 K1 => ?_⟩
      rw [or_add c] at P1
      have lt : W.p.own x + 2 ^ q < 2 ^ W.p.m := by
        rw [← or_add c]
        exact Nat.or_lt_two_pow (S.good.t.own x) (Nat.pow_lt_pow_right (by decide) pr.2)
      have e2 : putL W.p x (W.p.own x + 2 ^ q) = if x = 0 then { W.p with la := W.p.la + 2 ^ q } else { W.p with lb := W.p.lb + 2 ^ q } := by
        unfold putL Kraf.Two.own
        split <;> rfl
      have em : (putL W.p x (W.p.own x + 2 ^ q)).m = W.p.m := by unfold putL; split <;> rfl
      have eo : (putL W.p x (W.p.own x + 2 ^ q)).own x = W.p.own x + 2 ^ q := by
        unfold putL
        by_cases z : x = 0
        · rw [if_pos z]
          show (if x = 0 then _ else _) = _
          rw [if_pos z]
        · rw [if_neg z]
          show (if x = 0 then _ else _) = _
          rw [if_neg z]
      have ok : OkT (putL W.p x (W.p.own x + 2 ^ q)) := by
        have g := S.good.t
        unfold putL
        split
        · exact ⟨g.m1, g.m4, lt, g.lb, g.ca, g.cb⟩
        · exact ⟨g.m1, g.m4, g.la, lt, g.ca, g.cb⟩
      obtain ⟨dx, oL, kn, aP, aU, xs, ys, h1, h2, h3, _⟩ := P1.ex
      have ow := own_at (t := putL W.p x (W.p.own x + 2 ^ q)) pr.1
      refine ⟨_, rfl, p, C, dx, _, _, rfl, h1, T.cl, T.nO, rfl, _, rfl, oL, _, _, _, rfl, rfl, SqT.of h2, ow, (by show 1 ≤ sizeLine; decide), fun l nl => k _ _ ?_⟩
      rw [e, ← e2]
      refine res_new (S.to _ P1 ok em) K1 nl ?_
      rw [eo]
      rfl
theorem scBack : FnScope ["people"] ["people"] (defScope sBack) := ⟨rfl, rfl, rfl, by decide +kernel, rfl, by decide +kernel, by decide +kernel⟩
theorem ok_back {f : Addr} {fd : FuncData} (F : Fun K "back" "back" sBack f fd) (T : Txt K C) (N : Cn mg) (DG : Met P w K mg base C "go_back" 2 ["self"] (spGoBack C)) : FnOk P w K mg base CX0 3 f fd ["people"] (spC0 C .back) := by
  refine F.ok scBack (fun vs H Q E h => ?_) (fun cdv A outer s H vs Q E hr h => ?_)
  · obtain ⟨p, W, rfl, _⟩ := h
    rfl
  · obtain ⟨p, W, rfl, S, k⟩ := h
    refine ⟨_, pss_cons (ps_if (pt_cmpR nn_eq (pe_callB call_len_seq (by rfl) N.len PySem.boot_len (pa_cons (pe_fld (pv 0) rfl) pa_nil)) pe_int (nomark _)) (pss_one (ps_ret (pe_lst (pa_cons (pe_gi N.none_ rfl) pa_nil)))) pss_nil)
      (pss_cons (ps_expr (pe_md0 (pv 0) T.cl DG hr))
      (pss_one (ps_ret (pe_lst (pa_cons (pe_callB call_len_seq (by rfl) N.len PySem.boot_len (pa_cons (pe_fld (pv 0) rfl) pa_nil)) pa_nil))))), ?_⟩
    obtain ⟨dx, oL, kn, aP, aU, xs, ys, h1, h2, h3, h4, h5, h6, h7, h8⟩ := S.st.ex
    have lx := h7.len
    refine ⟨_, rfl, p, C, dx, _, _, rfl, h1, T.cl, T.nP, rfl, aP, _, rfl, .inl (SqL.of h4), xs.length, 0, rfl, rfl, _, rfl, ?_⟩
    obtain ⟨t, past, next⟩ := W
    cases past with
    | nil =>
      rw [decide_eq_true (show xs.length = 0 from lx)]
      exact iteT ⟨(by show 1 ≤ sizeLine; decide), fun l nl => k _ _ (res_new S (Kp.refl p H) nl rfl)⟩
    | cons x r =>
      have e : ((x :: r).reverse : List Kraf.Two) = r.reverse ++ [x] := List.reverse_cons
      rw [decide_eq_false (show ¬ xs.length = 0 by rw [lx]; simp)]
      have ex := (S.good.past x (List.mem_cons_self ..)).1
      have PS : Pst C H p t (r.reverse ++ [x]) next.reverse := by rw [← e]; exact S.st
      have l20 : (x :: r).length + next.length ≤ 20 := S.good.len
      rw [List.length_cons] at l20
      refine iteF ⟨_, rfl, p, dx, _, rfl, h1, rfl, p, t, x, r.reverse, next.reverse, rfl, PS, (by rw [List.length_reverse]; omega), fun H1 P1 K1 => ?_⟩
      have et : (⟨t.m, x.la, x.lb, x.ca, x.cb⟩ : Kraf.Two) = x := by
        obtain ⟨m, la, lb, ca, cb⟩ := x
        have : m = t.m := ex
        subst this
        rfl
      rw [et] at P1
      have S1 : StW C H1 p ⟨x, r, t :: next⟩ := by
        refine ⟨?_, (S.good.past x (List.mem_cons_self ..)).2, fun y hy => ?_, fun y hy => ?_, ?_⟩
        · show Pst C H1 p x r.reverse (t :: next).reverse
          rw [List.reverse_cons]
          exact P1
        · have z := S.good.past y (List.mem_cons_of_mem _ hy)
          exact ⟨z.1.trans ex.symm, z.2⟩
        · rcases List.mem_cons.mp hy with rfl | hy
          · exact ⟨ex.symm, S.good.t⟩
          · have z := S.good.next y hy
            exact ⟨z.1.trans ex.symm, z.2⟩
        · show r.length + (t :: next).length ≤ 20
          rw [List.length_cons]
          omega
      obtain ⟨dx, oL, kn, aP, aU, xs, ys, h1, h2, h3, h4, h5, h6, h7, h8⟩ := S1.st.ex
      have lx := h7.len
      refine ⟨_, rfl, p, C, dx, _, _, rfl, h1, T.cl, T.nP, rfl, aP, _, rfl, .inl (SqL.of h4), (by show 1 ≤ sizeLine; decide), fun l nl => k _ _ (res_new S1 K1 nl ?_)⟩
      rw [lx]
      show [V.int ((r.reverse.length : Nat) : Int)] = _
      rw [List.length_reverse]
      rfl
theorem scAgain : FnScope ["people"] ["people"] (defScope sAgain) := ⟨rfl, rfl, rfl, by decide +kernel, rfl, by decide +kernel, by decide +kernel⟩
theorem ok_again {f : Addr} {fd : FuncData} (F : Fun K "again" "again" sAgain f fd) (T : Txt K C) (N : Cn mg) (DG : Met P w K mg base C "go_again" 2 ["self"] (spGoAgain C)) : FnOk P w K mg base CX0 3 f fd ["people"] (spC0 C .again) := by
  refine F.ok scAgain (fun vs H Q E h => ?_) (fun cdv A outer s H vs Q E hr h => ?_)
  · obtain ⟨p, W, rfl, _⟩ := h
    rfl
  · obtain ⟨p, W, rfl, S, k⟩ := h
    refine ⟨_, pss_cons (ps_if (pt_cmpR nn_eq (pe_callB call_len_seq (by rfl) N.len PySem.boot_len (pa_cons (pe_fld (pv 0) rfl) pa_nil)) pe_int (nomark _)) (pss_one (ps_ret (pe_lst (pa_cons (pe_gi N.none_ rfl) pa_nil)))) pss_nil)
      (pss_cons (ps_expr (pe_md0 (pv 0) T.cl DG hr))
      (pss_one (ps_ret (pe_lst (pa_cons (pe_callB call_len_seq (by rfl) N.len PySem.boot_len (pa_cons (pe_fld (pv 0) rfl) pa_nil)) pa_nil))))), ?_⟩
    obtain ⟨dx, oL, kn, aP, aU, xs, ys, h1, h2, h3, h4, h5, h6, h7, h8⟩ := S.st.ex
    have lx := h8.len
    refine ⟨_, rfl, p, C, dx, _, _, rfl, h1, T.cl, T.nU, rfl, aU, _, rfl, .inl (SqL.of h5), ys.length, 0, rfl, rfl, _, rfl, ?_⟩
    obtain ⟨t, past, next⟩ := W
    cases next with
    | nil =>
      rw [decide_eq_true (show ys.length = 0 from lx)]
      exact iteT ⟨(by show 1 ≤ sizeLine; decide), fun l nl => k _ _ (res_new S (Kp.refl p H) nl rfl)⟩
    | cons x r =>
      have e : ((x :: r).reverse : List Kraf.Two) = r.reverse ++ [x] := List.reverse_cons
      rw [decide_eq_false (show ¬ ys.length = 0 by rw [lx]; simp)]
      have ex := (S.good.next x (List.mem_cons_self ..)).1
      have PS : Pst C H p t past.reverse (r.reverse ++ [x]) := by rw [← e]; exact S.st
      have l20 : past.length + (x :: r).length ≤ 20 := S.good.len
      rw [List.length_cons] at l20
      refine iteF ⟨_, rfl, p, dx, _, rfl, h1, rfl, p, t, x, past.reverse, r.reverse, rfl, PS, (by rw [List.length_reverse]; omega), fun H1 P1 K1 => ?_⟩
      have et : (⟨t.m, x.la, x.lb, x.ca, x.cb⟩ : Kraf.Two) = x := by
        obtain ⟨m, la, lb, ca, cb⟩ := x
        have : m = t.m := ex
        subst this
        rfl
      rw [et] at P1
      have tk : (t :: past).take 20 = t :: past := List.take_of_length_le (by rw [List.length_cons]; omega)
      have S1 : StW C H1 p ⟨x, (t :: past).take 20, r⟩ := by
        rw [tk]
        refine ⟨?_, (S.good.next x (List.mem_cons_self ..)).2, fun y hy => ?_, fun y hy => ?_, ?_⟩
        · show Pst C H1 p x (t :: past).reverse r.reverse
          rw [List.reverse_cons]
          exact P1
        · rcases List.mem_cons.mp hy with rfl | hy
          · exact ⟨ex.symm, S.good.t⟩
          · have z := S.good.past y hy
            exact ⟨z.1.trans ex.symm, z.2⟩
        · have z := S.good.next y (List.mem_cons_of_mem _ hy)
          exact ⟨z.1.trans ex.symm, z.2⟩
        · show (t :: past).length + r.length ≤ 20
          rw [List.length_cons]
          omega
      obtain ⟨dx, oL, kn, aP, aU, xs, ys, h1, h2, h3, h4, h5, h6, h7, h8⟩ := S1.st.ex
      have lx := h8.len
      refine ⟨_, rfl, p, C, dx, _, _, rfl, h1, T.cl, T.nU, rfl, aU, _, rfl, .inl (SqL.of h5), (by show 1 ≤ sizeLine; decide), fun l nl => k _ _ (res_new S1 K1 nl ?_)⟩
      rw [lx]
      show [V.int ((r.reverse.length : Nat) : Int)] = _
      rw [List.length_reverse]
      rfl
theorem scKnows : FnScope ["people", "w", "known"] ["people", "w"] (defScope sKnows) := ⟨rfl, rfl, rfl, by decide +kernel, rfl, by decide +kernel, by decide +kernel⟩
theorem ok_knows {f : Addr} {fd : FuncData} (F : Fun K "knows" "knows" sKnows f fd) (T : Txt K C) (N : Cn mg) (DW : DWorlds P w K mg base) : FnOk P w K mg base CX0 2 f fd ["people", "w"] (spC1 C pW .knows) := by
  refine F.ok scKnows (fun vs H Q E h => ?_) (fun cdv A outer s H vs Q E hr h => ?_)
  · obtain ⟨p, x, W, rfl, _⟩ := h
    rfl
  · obtain ⟨p, x, W, rfl, pr, S, k⟩ := h
    refine ⟨_, pss_cons (ps_set (i := 2) scKnows.nd rfl (Or.inl rfl) (pe_ix ix_tup (pe_fld (pv 0) rfl) (pv 1) (fun _ _ => rfl)))
      (pss_one (ps_ret (pe_lst (pa_cons (pv 2) (pa_cons (pe_callB call_len_seq (by rfl) N.len PySem.boot_len (pa_cons (pe_d DW hr rfl (pa_cons (pv 2) (pa_cons (pe_fld (pv 0) rfl) pa_nil))) pa_nil)) pa_nil))))), ?_⟩
    obtain ⟨dx, oL, kn, aP, aU, xs, ys, h1, h2, h3, h4, h5, _⟩ := S.st.ex
    have kw := know_at (t := W.p) pr
    refine ⟨_, rfl, p, C, dx, _, _, rfl, h1, T.cl, T.nK, rfl, _, rfl, kn, _, _, _, rfl, rfl, SqT.of h3, kw, _, rfl, _, rfl, _, rfl, p, C, dx, _, _, rfl, h1, T.cl, T.nM, rfl, W.p.knows x, W.p.m, rfl, S.good.t.m4, fun D H2 _ hD s2 => ⟨D, _, rfl, .inl (SqL.of hD), (by show 2 ≤ sizeLine; decide), fun l nl => k _ _ ?_⟩⟩
    rw [does_knows pr]
    refine res_new (S.same s2) (S.st.kp s2) nl ?_
    rw [List.length_map, count_len]
    rfl
theorem within_dec (a b : Nat) : decide (a &&& b = a) = Kraa.within a b := rfl
theorem scFollows : FnScope ["people", "w", "q"] ["people", "w", "q"] (defScope sFollows) := ⟨rfl, rfl, rfl, by decide +kernel, rfl, by decide +kernel, by decide +kernel⟩
theorem ok_follows {f : Addr} {fd : FuncData} (F : Fun K "follows" "follows" sFollows f fd) (T : Txt K C) (DF : DFollowsOf P w K mg base) : FnOk P w K mg base CX0 2 f fd ["people", "w", "q"] (spC2 C PreQ .follows) := by
  refine F.ok scFollows (fun vs H Q E h => ?_) (fun cdv A outer s H vs Q E hr h => ?_)
  · obtain ⟨p, x, q, W, rfl, _⟩ := h
    rfl
  · obtain ⟨p, x, q, W, rfl, pr, S, k⟩ := h
    refine ⟨_, pss_one (ps_ret (pe_lst (pa_cons (pe_ifExp (pt_val (pe_d DF hr rfl (pa_cons (pv 2) (pa_cons (pe_ix ix_tup (pe_fld (pv 0) rfl) (pv 1) (fun _ _ => rfl)) pa_nil)))) pe_int pe_int) pa_nil))), ?_⟩
    obtain ⟨dx, oL, kn, aP, aU, xs, ys, h1, h2, h3, h4, h5, _⟩ := S.st.ex
    have kw := know_at (t := W.p) pr.hw
    have e := does_follows pr
    refine ⟨_, rfl, _, rfl, p, C, dx, _, _, rfl, h1, T.cl, T.nK, rfl, _, rfl, kn, _, _, _, rfl, rfl, SqT.of h3, kw, q, W.p.knows x, rfl, _, rfl, ?_⟩
    cases c : Kraa.within (W.p.knows x) q with
    | true =>
      rw [c] at e
      refine iteT ⟨(by show 1 ≤ sizeLine; decide), fun l nl => k _ _ ?_⟩
      rw [e]
      exact res_new S (Kp.refl p H) nl rfl
    | false =>
      rw [c] at e
      refine iteF ⟨(by show 1 ≤ sizeLine; decide), fun l nl => k _ _ ?_⟩
      rw [e]
      exact res_new S (Kp.refl p H) nl rfl
theorem scOpen : FnScope ["people", "w", "q"] ["people", "w", "q"] (defScope sOpen) := ⟨rfl, rfl, rfl, by decide +kernel, rfl, by decide +kernel, by decide +kernel⟩
theorem ok_open {f : Addr} {fd : FuncData} (F : Fun K "is_open" "is_open" sOpen f fd) (T : Txt K C) (DS : DStands P w K mg base) : FnOk P w K mg base CX0 3 f fd ["people", "w", "q"] (spC2 C PreQ .open_) := by
  refine F.ok scOpen (fun vs H Q E h => ?_) (fun cdv A outer s H vs Q E hr h => ?_)
  · obtain ⟨p, x, q, W, rfl, _⟩ := h
    rfl
  · obtain ⟨p, x, q, W, rfl, pr, S, k⟩ := h
    refine ⟨_, pss_one (ps_ret (pe_lst (pa_cons (pe_d DS hr rfl (pa_cons (pv 2) (pa_cons (pe_ix ix_tup (pe_fld (pv 0) rfl) (pv 1) (fun _ _ => rfl)) pa_nil))) pa_nil))), ?_⟩
    obtain ⟨dx, oL, kn, aP, aU, xs, ys, h1, h2, h3, h4, h5, _⟩ := S.st.ex
    have kw := know_at (t := W.p) pr.hw
    refine ⟨_, rfl, _, rfl, p, C, dx, _, _, rfl, h1, T.cl, T.nK, rfl, _, rfl, kn, _, _, _, rfl, rfl, SqT.of h3, kw, q, W.p.knows x, rfl, (by show 1 ≤ sizeLine; decide), fun l nl => k _ _ ?_⟩
    rw [does_open pr]
    refine res_new S (Kp.refl p H) nl ?_
    unfold stand
    cases c : Kraa.within (W.p.knows x) q with
    | true => rfl
    | false =>
      by_cases d : W.p.knows x &&& q = 0
      · rw [if_pos d, if_pos d]
        rfl
      · rw [if_neg d, if_neg d]
        rfl
theorem scShared : FnScope ["people"] ["people"] (defScope sShared) := ⟨rfl, rfl, rfl, by decide +kernel, rfl, by decide +kernel, by decide +kernel⟩
theorem ok_shared {f : Addr} {fd : FuncData} (F : Fun K "shared" "shared" sShared f fd) (T : Txt K C) (DC : Met P w K mg base C "common_letters" 1 ["self"] (spCommon C)) : FnOk P w K mg base CX0 2 f fd ["people"] (spC0 C .shared) := by
  refine F.ok scShared (fun vs H Q E h => ?_) (fun cdv A outer s H vs Q E hr h => ?_)
  · obtain ⟨p, W, rfl, _⟩ := h
    rfl
  · obtain ⟨p, W, rfl, S, k⟩ := h
    refine ⟨_, pss_one (ps_ret (pe_lst (pa_cons (pe_md0 (pv 0) T.cl DC hr) pa_nil))), ?_⟩
    obtain ⟨dx, oL, kn, aP, aU, xs, ys, h1, h2, h3, h4, h5, _⟩ := S.st.ex
    exact ⟨_, rfl, p, dx, _, rfl, h1, rfl, p, W.p, _, _, rfl, S.st, (by show 1 ≤ sizeLine; decide), fun l nl => k _ _ (res_new S (Kp.refl p H) nl rfl)⟩
theorem scOwn : FnScope ["people", "w"] ["people", "w"] (defScope sOwn) := ⟨rfl, rfl, rfl, by decide +kernel, rfl, by decide +kernel, by decide +kernel⟩
theorem ok_own {f : Addr} {fd : FuncData} (F : Fun K "own" "own" sOwn f fd) (T : Txt K C) : FnOk P w K mg base CX0 1 f fd ["people", "w"] (spC1 C pW .own) := by
  refine F.ok scOwn (fun vs H Q E h => ?_) (fun cdv A outer s H vs Q E hr h => ?_)
  · obtain ⟨p, x, W, rfl, _⟩ := h
    rfl
  · obtain ⟨p, x, W, rfl, pr, S, k⟩ := h
    refine ⟨_, pss_one (ps_ret (pe_lst (pa_cons (pe_ix ix_tup (pe_fld (pv 0) rfl) (pv 1) (fun _ _ => rfl)) pa_nil))), ?_⟩
    obtain ⟨dx, oL, kn, aP, aU, xs, ys, h1, h2, h3, h4, h5, _⟩ := S.st.ex
    have ow := own_at (t := W.p) pr
    refine ⟨_, rfl, p, C, dx, _, _, rfl, h1, T.cl, T.nO, rfl, _, rfl, oL, _, _, _, rfl, rfl, SqT.of h2, ow, (by show 1 ≤ sizeLine; decide), fun l nl => k _ _ ?_⟩
    rw [does_own pr]
    exact res_new S (Kp.refl p H) nl rfl
theorem scTells : FnScope ["people", "w", "s"] ["people", "w", "s"] (defScope sTells) := ⟨rfl, rfl, rfl, by decide +kernel, rfl, by decide +kernel, by decide +kernel⟩
theorem ok_tells {f : Addr} {fd : FuncData} (F : Fun K "tells" "tells" sTells f fd) (T : Txt K C) (DM : MMost P w K mg base C) : FnOk P w K mg base CX0 4 f fd ["people", "w", "s"] (spC2 C PreS .tells) := by
  refine F.ok scTells (fun vs H Q E h => ?_) (fun cdv A outer s H vs Q E hr h => ?_)
  · obtain ⟨p, x, q, W, rfl, _⟩ := h
    rfl
  · obtain ⟨p, x, q, W, rfl, pr, S, k⟩ := h
    refine ⟨_, pss_one (ps_ret (pe_lst (pa_cons (pe_md (pv 0) T.cl DM hr (pa_cons (pv 1) (pa_cons (pv 2) pa_nil))) pa_nil))), ?_⟩
    obtain ⟨dx, oL, kn, aP, aU, xs, ys, h1, h2, h3, h4, h5, _⟩ := S.st.ex
    refine ⟨_, rfl, p, dx, _, rfl, h1, rfl, _, rfl, _, rfl, p, x, q, W.p, _, _, rfl, pr.hw, S.good.t.m4, pr.hs, S.st, fun H1 s1 => ⟨(by show 1 ≤ sizeLine; decide), fun l nl => k _ _ ?_⟩⟩
    rw [does_tells pr]
    exact res_new (S.same s1) (S.st.kp s1) nl rfl
end
end Sw
end

section
set_option Elab.async false
set_option linter.all false
set_option maxRecDepth 100000
set_option maxHeartbeats 2000000
namespace Sw
open PySem PySem.Spec PyProof.Rows L2
/-- a list is answered, counted -/
theorem res_list {C p D : Addr} {H H1 H2 : Hp} {W : Kraf.World} {l : List Nat} (S : StW C H p W) (s1 : Same H H1) (s2 : Same H1 H2) (n : H1 D = none) (h : H2 D = some (.lst (nvs (l.length :: l)))) : Res C p H (W, Kraf.list l) H2 D := by
  refine ⟨S.same (s1.trans s2), S.st.kp (s1.trans s2), ?_, fun b o e f => ne_of_none (s1 _ _ e) n⟩
  rw [h]
  show some (HO.lst (nv l.length :: nvs l)) = some (HO.lst (V.int (l.length : Int) :: (Kraf.ints l).map V.int))
  unfold Kraf.ints
  rw [List.map_map]
  rfl
theorem enough_in {t : Kraf.Two} {w q s : Nat} (h : s &&& t.shared = s) : Kraa.within (t.knows w &&& Kraa.keep t.m (t.knows (1 - w)) s) q = t.enough w q s := by
  unfold Kraf.Two.enough
  rw [tells_eq h]
theorem quarrel_dec {t : Kraf.Two} {s : Nat} (h : s &&& t.shared = s) : decide (Kraa.keep t.m (t.knows 0) s &&& Kraa.keep t.m (t.knows 1) s = 0) = t.quarrel s := by
  unfold Kraf.Two.quarrel
  rw [tells_eq h, tells_eq h]
  rfl
theorem pe_fldK {X : Cx} {e : Expr} {f : Str} {pos : Pos} {ta : TE} (K : PySem.W.Frag) (hK : X.K = K) (he : PE X e ta) (hb : attributeBase e f X.env (eval e X.env) = eval e X.env) : PE X (.Attribute e f pos) (tFld K ta f) := by
  subst hK
  exact pe_fld he hb
section
variable {P : Program} {w : World} {K : PySem.W.Frag} {mg : Str → Option Value} {base : Heap} {C : Addr}
theorem scNews : FnScope ["people", "w", "s"] ["people", "w", "s"] (defScope sNews) := ⟨rfl, rfl, rfl, by decide +kernel, rfl, by decide +kernel, by decide +kernel⟩
theorem ok_news {f : Addr} {fd : FuncData} (F : Fun K "news" "news" sNews f fd) (T : Txt K C) (DM : MMost P w K mg base C) (DF : DFollowsOf P w K mg base) : FnOk P w K mg base CX0 4 f fd ["people", "w", "s"] (spC2 C PreS .news) := by
  refine F.ok scNews (fun vs H Q E h => ?_) (fun cdv A outer s H vs Q E hr h => ?_)
  · obtain ⟨p, x, q, W, rfl, _⟩ := h
    rfl
  · obtain ⟨p, x, q, W, rfl, pr, S, k⟩ := h
    refine ⟨_, pss_one (ps_ret (pe_lst (pa_cons (pe_ifExp (pt_val (pe_d DF (hr.mono (by decide)) rfl (pa_cons (pe_md (pv 0) T.cl DM hr (pa_cons (pv 1) (pa_cons (pv 2) pa_nil))) (pa_cons (pe_ix ix_tup (pe_fld (pv 0) rfl) (pe_op nn_sub pe_int (pv 1)) (fun _ _ => rfl)) pa_nil)))) pe_int pe_int) pa_nil))), ?_⟩
    obtain ⟨dx, oL, kn, aP, aU, xs, ys, h1, h2, h3, h4, h5, _⟩ := S.st.ex
    have kw := know_at (t := W.p) (w := 1 - x) (by omega)
    have e := does_news pr
    refine ⟨_, rfl, p, dx, _, rfl, h1, rfl, _, rfl, _, rfl, p, x, q, W.p, _, _, rfl, pr.hw, S.good.t.m4, pr.hs, S.st, fun H1 s1 => ?_⟩
    have h1 := s1 _ _ h1
    have h3 := s1 _ _ h3
    refine ⟨_, rfl, p, C, dx, _, _, rfl, h1, T.cl, T.nK, rfl, _, rfl, 1, x, rfl, rfl, pr.hw, kn, _, _, _, rfl, rfl, SqT.of h3, kw, _, W.p.knows (1 - x), rfl, _, rfl, ?_⟩
    cases c : Kraa.within (W.p.knows (1 - x)) (Kraa.keep W.p.m (W.p.knows x) q) with
    | true =>
      rw [c] at e
      refine iteT ⟨(by show 1 ≤ sizeLine; decide), fun l nl => k _ _ ?_⟩
      rw [e]
      exact res_new (S.same s1) (S.st.kp s1) nl rfl
    | false =>
      rw [c] at e
      refine iteF ⟨(by show 1 ≤ sizeLine; decide), fun l nl => k _ _ ?_⟩
      rw [e]
      exact res_new (S.same s1) (S.st.kp s1) nl rfl
theorem scWould : FnScope ["people", "w"] ["people", "w"] (defScope sWould) := ⟨rfl, rfl, rfl, by decide +kernel, rfl, by decide +kernel, by decide +kernel⟩
theorem ok_would {f : Addr} {fd : FuncData} (F : Fun K "would" "would" sWould f fd) (T : Txt K C) (DK : MKIf P w K mg base C) (DC : MCommon P w K mg base C) : FnOk P w K mg base CX0 5 f fd ["people", "w"] (spC1 C pW .would) := by
  refine F.ok scWould (fun vs H Q E h => ?_) (fun cdv A outer s H vs Q E hr h => ?_)
  · obtain ⟨p, x, W, rfl, _⟩ := h
    rfl
  · obtain ⟨p, x, W, rfl, pr, S, k⟩ := h
    refine ⟨_, pss_one (ps_ret (pe_lst (pa_cons (pe_md (pv 0) T.cl DK hr (pa_cons (pv 1) (pa_cons (pe_md0 (pv 0) T.cl DC (hr.mono (by decide))) pa_nil))) pa_nil))), ?_⟩
    obtain ⟨dx, oL, kn, aP, aU, xs, ys, h1, h2, h3, h4, h5, _⟩ := S.st.ex
    refine ⟨_, rfl, p, dx, _, rfl, h1, rfl, _, rfl, _, rfl, p, dx, _, rfl, h1, rfl, p, W.p, _, _, rfl, S.st, p, x, W.p.shared, W.p, _, _, rfl, pr, S.good.t.m4, S.good.t.shared, S.st, fun H1 s1 => ⟨(by show 1 ≤ sizeLine; decide), fun l nl => k _ _ ?_⟩⟩
    rw [does_would pr]
    exact res_new (S.same s1) (S.st.kp s1) nl rfl
theorem scCould : FnScope ["people", "w", "q"] ["people", "w", "q"] (defScope sCould) := ⟨rfl, rfl, rfl, by decide +kernel, rfl, by decide +kernel, by decide +kernel⟩
theorem ok_could {f : Addr} {fd : FuncData} (F : Fun K "could" "could" sCould f fd) (T : Txt K C) (DF : DFollowsOf P w K mg base) (DT : MTogether P w K mg base C) : FnOk P w K mg base CX0 2 f fd ["people", "w", "q"] (spC2 C PreQ .could) := by
  refine F.ok scCould (fun vs H Q E h => ?_) (fun cdv A outer s H vs Q E hr h => ?_)
  · obtain ⟨p, x, q, W, rfl, _⟩ := h
    rfl
  · obtain ⟨p, x, q, W, rfl, pr, S, k⟩ := h
    refine ⟨_, pss_one (ps_ret (pe_lst (pa_cons (pe_ifExp (pt_val (pe_d DF hr rfl (pa_cons (pv 2) (pa_cons (pe_md0 (pv 0) T.cl DT hr) pa_nil)))) pe_int pe_int) pa_nil))), ?_⟩
    obtain ⟨dx, oL, kn, aP, aU, xs, ys, h1, h2, h3, h4, h5, _⟩ := S.st.ex
    have e := does_could pr
    refine ⟨_, rfl, _, rfl, p, dx, _, rfl, h1, rfl, p, W.p, _, _, rfl, S.st, q, W.p.both, rfl, _, rfl, ?_⟩
    cases c : Kraa.within W.p.both q with
    | true =>
      rw [c] at e
      refine iteT ⟨(by show 1 ≤ sizeLine; decide), fun l nl => k _ _ ?_⟩
      rw [e]
      exact res_new S (Kp.refl p H) nl rfl
    | false =>
      rw [c] at e
      refine iteF ⟨(by show 1 ≤ sizeLine; decide), fun l nl => k _ _ ?_⟩
      rw [e]
      exact res_new S (Kp.refl p H) nl rfl
theorem scAsks : FnScope ["people", "w", "q", "enough", "s"] ["people", "w", "q"] (defScope sAsks) := ⟨rfl, rfl, rfl, by decide +kernel, rfl, by decide +kernel, by decide +kernel⟩
theorem ok_asks {f : Addr} {fd : FuncData} (F : Fun K "asks" "asks" sAsks f fd) (T : Txt K C) (N : Cn mg) (DF : DFollowsOf P w K mg base) (DT : MTogether P w K mg base C) (DC : MCommon P w K mg base C) (DK : MKIf P w K mg base C) (DW : DWithin P w K mg base) (DL : DLeast P w K mg base) (DN : DCounted P w K mg base) :
    FnOk P w K mg base CX0 5 f fd ["people", "w", "q"] (spC2 C PreQ .asks) := by
  refine F.ok scAsks (fun vs H Q E h => ?_) (fun cdv A outer s H vs Q E hr h => ?_)
  · obtain ⟨p, x, q, W, rfl, _⟩ := h
    rfl
  · obtain ⟨p, x, q, W, rfl, pr, S, k⟩ := h
    refine ⟨_, pss_cons (ps_if (pt_not (pt_val (pe_d DF (hr.mono (by decide)) rfl (pa_cons (pv 2) (pa_cons (pe_md0 (pv 0) T.cl DT (hr.mono (by decide))) pa_nil))))) (pss_one (ps_ret (pe_lst (pa_cons (pe_gi N.cannot rfl) pa_nil)))) pss_nil)
      (pss_cons (ps_setLc (i := 3) (own := [("s", 4)]) rfl scAsks.nd rfl rfl (sw_true rfl rfl rfl rfl) (pi_list (pe_d DW (hr.mono (by decide)) rfl (pa_cons (pe_md0 (pv 0) T.cl DC (hr.mono (by decide))) pa_nil))) (blkOk_by (by rfl)) (fun _ _ _ _ _ => pg_name (i := 4) scAsks.nd rfl (Or.inl rfl))
        (fun _ _ _ _ _ => pts_one (pt_val (pe_d DF (hr.mono (by decide)) rfl (pa_cons (pv 2) (pa_cons (pe_md (pv 0) T.cl DK hr (pa_cons (pv 1) (pa_cons (pv 4) pa_nil))) pa_nil))))) (fun _ _ _ _ _ => pv 4))
      (pss_one (ps_ret (pe_d DN (hr.mono (by decide)) rfl (pa_cons (pe_d DL (hr.mono (by decide)) rfl (pa_cons (pv 3) pa_nil)) pa_nil))))), ?_⟩
    obtain ⟨dx, oL, kn, aP, aU, xs, ys, h1, h2, h3, h4, h5, _⟩ := S.st.ex
    have e := does_asks pr
    have sh := S.good.t.shared
    have m4 := S.good.t.m4
    refine ⟨_, rfl, _, rfl, p, dx, _, rfl, h1, rfl, p, W.p, _, _, rfl, S.st, q, W.p.both, rfl, _, rfl, ?_⟩
    cases c : Kraa.within W.p.both q with
    | false =>
      rw [c] at e
      refine iteT ⟨(by show 1 ≤ sizeLine; decide), fun l nl => k _ _ ?_⟩
      rw [e]
      exact res_new S (Kp.refl p H) nl rfl
    | true =>
      rw [c] at e
      refine iteF ⟨_, rfl, p, dx, _, rfl, h1, rfl, p, W.p, _, _, rfl, S.st, W.p.shared, rfl, lt16 m4 sh, fun D1 H1 hD1 hh1 s1 => ⟨D1, rfl, ⟨_, SqL.of hh1⟩, fun D hD => ?_⟩⟩
      refine lc_listN (l := subs W.p.shared) (j := 4) (fun s => W.p.enough x q s) nv hD (Nat.le_trans (subs_len (lt16 m4 sh)) (by decide)) (SqL.of hh1) (fun u H2 Q2 hu s2 qq => ?_) (fun u H2 Q2 hu _ s2 qq => ⟨_, rfl, qq H2 (Same.refl H2)⟩) (fun H2 hh2 s2 => ?_)
      · refine ⟨_, rfl, _, rfl, p, dx, _, rfl, (s1.trans s2) _ _ h1, rfl, _, rfl, _, rfl, p, x, u, W.p, _, _, rfl, pr.hw, m4, subs_lt sh hu, (S.same (s1.trans s2)).st, fun H3 s3 => ⟨q, _, rfl, _, rfl, ?_⟩⟩
        rw [enough_in (subs_mem.mp hu)]
        exact qq H3 s3
      · have l16 : ((subs W.p.shared).filter fun s => W.p.enough x q s).length ≤ 16 := Nat.le_trans (List.length_filter_le _ _) (subs_len (lt16 m4 sh))
        refine ⟨_, rfl, D, _, rfl, hh2, by omega, fun s hs => lt16 m4 (subs_lt sh (List.mem_filter.mp hs).1), fun D3 H3 n3 hh3 s3 => ⟨D3, _, rfl, hh3, ?_, fun D4 H4 n4 hh4 s4 => k _ _ ?_⟩⟩
        · refine Nat.le_trans (List.length_filter_le _ _) ?_
          omega
        · rw [e]
          show Res C p H (W, Kraf.list (W.p.asks x q)) H4 D4
          rw [← asks_prog S.good.t]
          exact res_list S ((s1.trans s2).trans s3) s4 n4 hh4
theorem scSafe : FnScope ["people", "w", "q", "most", "harmless", "s"] ["people", "w", "q"] (defScope sSafe) := ⟨rfl, rfl, rfl, by decide +kernel, rfl, by decide +kernel, by decide +kernel⟩
theorem ok_safe {f : Addr} {fd : FuncData} (F : Fun K "safe" "safe" sSafe f fd) (T : Txt K C) (N : Cn mg) (DF : DFollowsOf P w K mg base) (DC : MCommon P w K mg base C) (DK : MKIf P w K mg base C) (DW : DWithin P w K mg base) (DG : DGreatest P w K mg base) (DN : DCounted P w K mg base) :
    FnOk P w K mg base CX0 5 f fd ["people", "w", "q"] (spC2 C PreQ .safe) := by
  refine F.ok scSafe (fun vs H Q E h => ?_) (fun cdv A outer s H vs Q E hr h => ?_)
  · obtain ⟨p, x, q, W, rfl, _⟩ := h
    rfl
  · obtain ⟨p, x, q, W, rfl, pr, S, k⟩ := h
    refine ⟨_, pss_cons (ps_if (pt_val (pe_d DF (hr.mono (by decide)) rfl (pa_cons (pv 2) (pa_cons (pe_ix ix_tup (pe_fld (pv 0) rfl) (pv 1) (fun _ _ => rfl)) pa_nil)))) (pss_one (ps_ret (pe_lst (pa_cons (pe_gi N.cannot rfl) pa_nil)))) pss_nil)
      (pss_cons (ps_set (i := 3) scSafe.nd rfl (Or.inl rfl) (pe_md0 (pv 0) T.cl DC (hr.mono (by decide))))
      (pss_cons (ps_setLc (i := 4) (own := [("s", 5)]) rfl scSafe.nd rfl rfl (sw_true rfl rfl rfl rfl) (pi_list (pe_d DW (hr.mono (by decide)) rfl (pa_cons (pv 3) pa_nil))) (blkOk_by (by rfl)) (fun _ _ _ _ _ => pg_name (i := 5) scSafe.nd rfl (Or.inl rfl))
        (fun _ _ _ _ _ => pts_one (pt_not (pt_val (pe_d DF (hr.mono (by decide)) rfl (pa_cons (pv 2) (pa_cons (pe_md (pv 0) T.cl DK hr (pa_cons (pv 1) (pa_cons (pv 5) pa_nil))) pa_nil)))))) (fun _ _ _ _ _ => pv 5))
      (pss_one (ps_ret (pe_d DN (hr.mono (by decide)) rfl (pa_cons (pe_d DG (hr.mono (by decide)) rfl (pa_cons (pv 4) (pa_cons (pv 3) pa_nil))) pa_nil)))))), ?_⟩
    obtain ⟨dx, oL, kn, aP, aU, xs, ys, h1, h2, h3, h4, h5, _⟩ := S.st.ex
    have e := does_safe pr
    have kw := know_at (t := W.p) pr.hw
    have sh := S.good.t.shared
    have m4 := S.good.t.m4
    refine ⟨_, rfl, _, rfl, p, C, dx, _, _, rfl, h1, T.cl, T.nK, rfl, _, rfl, kn, _, _, _, rfl, rfl, SqT.of h3, kw, q, W.p.knows x, rfl, _, rfl, ?_⟩
    cases c : Kraa.within (W.p.knows x) q with
    | true =>
      rw [c] at e
      refine iteT ⟨(by show 1 ≤ sizeLine; decide), fun l nl => k _ _ ?_⟩
      rw [e]
      exact res_new S (Kp.refl p H) nl rfl
    | false =>
      rw [c] at e
      refine iteF ⟨_, rfl, p, dx, _, rfl, h1, rfl, p, W.p, _, _, rfl, S.st, _, rfl, W.p.shared, rfl, lt16 m4 sh, fun D1 H1 hD1 hh1 s1 => ⟨D1, rfl, ⟨_, SqL.of hh1⟩, fun D hD => ?_⟩⟩
      refine lc_listN (l := subs W.p.shared) (j := 5) (fun s => !(W.p.enough x q s)) nv hD (Nat.le_trans (subs_len (lt16 m4 sh)) (by decide)) (SqL.of hh1) (fun u H2 Q2 hu s2 qq => ?_) (fun u H2 Q2 hu _ s2 qq => ⟨_, rfl, qq H2 (Same.refl H2)⟩) (fun H2 hh2 s2 => ?_)
      · refine ⟨_, rfl, _, rfl, p, dx, _, rfl, (s1.trans s2) _ _ h1, rfl, _, rfl, _, rfl, p, x, u, W.p, _, _, rfl, pr.hw, m4, subs_lt sh hu, (S.same (s1.trans s2)).st, fun H3 s3 => ⟨q, _, rfl, _, rfl, ?_⟩⟩
        rw [enough_in (subs_mem.mp hu)]
        exact qq H3 s3
      · have l16 : ((subs W.p.shared).filter fun s => !(W.p.enough x q s)).length ≤ 16 := Nat.le_trans (List.length_filter_le _ _) (subs_len (lt16 m4 sh))
        refine ⟨_, rfl, _, rfl, D, _, W.p.shared, rfl, hh2, by omega, lt16 m4 sh, fun s hs => lt16 m4 (subs_lt sh (List.mem_filter.mp hs).1), fun D3 H3 n3 hh3 s3 => ⟨D3, _, rfl, hh3, ?_, fun D4 H4 n4 hh4 s4 => k _ _ ?_⟩⟩
        · refine Nat.le_trans (List.length_filter_le _ _) ?_
          omega
        · rw [e]
          show Res C p H (W, Kraf.list (W.p.safe x q)) H4 D4
          rw [← safe_prog S.good.t]
          exact res_list S ((s1.trans s2).trans s3) s4 n4 hh4
theorem scQuarrel : FnScope ["people"] ["people"] (defScope sQuarrel) := ⟨rfl, rfl, rfl, by decide +kernel, rfl, by decide +kernel, by decide +kernel⟩
theorem ok_quarrel {f : Addr} {fd : FuncData} (F : Fun K "quarrel" "quarrel" sQuarrel f fd) (T : Txt K C) (DQ : MQuarrel P w K mg base C) (DC : MCommon P w K mg base C) : FnOk P w K mg base CX0 5 f fd ["people"] (spC0 C .quarrel) := by
  refine F.ok scQuarrel (fun vs H Q E h => ?_) (fun cdv A outer s H vs Q E hr h => ?_)
  · obtain ⟨p, W, rfl, _⟩ := h
    rfl
  · obtain ⟨p, W, rfl, S, k⟩ := h
    refine ⟨_, pss_one (ps_ret (pe_lst (pa_cons (pe_ifExp (pt_val (pe_md (pv 0) T.cl DQ hr (pa_cons (pe_md0 (pv 0) T.cl DC (hr.mono (by decide))) pa_nil))) pe_int pe_int) pa_nil))), ?_⟩
    obtain ⟨dx, oL, kn, aP, aU, xs, ys, h1, h2, h3, h4, h5, _⟩ := S.st.ex
    have e : W.does .quarrel = (W, Kraf.say (if W.p.quarrel W.p.shared = true then 1 else 0)) := rfl
    refine ⟨_, rfl, p, dx, _, rfl, h1, rfl, _, rfl, p, dx, _, rfl, h1, rfl, p, W.p, _, _, rfl, S.st, p, W.p.shared, W.p, _, _, rfl, S.good.t.m4, S.good.t.shared, S.st, fun H1 s1 => ⟨_, rfl, ?_⟩⟩
    rw [quarrel_dec (and_self_shared W.p)]
    cases c : W.p.quarrel W.p.shared with
    | true =>
      rw [c] at e
      refine iteT ⟨(by show 1 ≤ sizeLine; decide), fun l nl => k _ _ ?_⟩
      rw [e]
      exact res_new (S.same s1) (S.st.kp s1) nl rfl
    | false =>
      rw [c] at e
      refine iteF ⟨(by show 1 ≤ sizeLine; decide), fun l nl => k _ _ ?_⟩
      rw [e]
      exact res_new (S.same s1) (S.st.kp s1) nl rfl
theorem scQuarrels : FnScope ["people", "most", "s"] ["people"] (defScope sQuarrels) := ⟨rfl, rfl, rfl, by decide +kernel, rfl, by decide +kernel, by decide +kernel⟩
theorem ok_quarrels {f : Addr} {fd : FuncData} (F : Fun K "quarrels" "quarrels" sQuarrels f fd) (T : Txt K C) (N : Cn mg) (DQ : MQuarrel P w K mg base C) (DC : MCommon P w K mg base C) (DW : DWithin P w K mg base) (DL : DLeast P w K mg base) (DN : DCounted P w K mg base) :
    FnOk P w K mg base CX0 5 f fd ["people"] (spC0 C .quarrels) := by
  refine F.ok scQuarrels (fun vs H Q E h => ?_) (fun cdv A outer s H vs Q E hr h => ?_)
  · obtain ⟨p, W, rfl, _⟩ := h
    rfl
  · obtain ⟨p, W, rfl, S, k⟩ := h
    refine ⟨_, pss_cons (ps_set (i := 1) scQuarrels.nd rfl (Or.inl rfl) (pe_md0 (pv 0) T.cl DC (hr.mono (by decide))))
      (pss_cons (ps_if (pt_not (pt_val (pe_md (pv 0) T.cl DQ hr (pa_cons (pv 1) pa_nil)))) (pss_one (ps_ret (pe_lst (pa_cons (pe_gi N.cannot rfl) pa_nil)))) pss_nil)
      (pss_one (ps_ret (pe_d DN (hr.mono (by decide)) rfl (pa_cons (pe_d DL (hr.mono (by decide)) rfl (pa_cons
        (pe_lc (own := [("s", 2)]) rfl scQuarrels.nd (pi_list (pe_d DW (hr.mono (by decide)) rfl (pa_cons (pv 1) pa_nil))) (blkOk_by (by rfl)) (fun _ _ _ _ _ => pg_name (i := 2) scQuarrels.nd rfl (Or.inl rfl))
          (fun _ _ _ _ _ => pts_one (pt_val (pe_md (pv 0) T.cl DQ hr (pa_cons (pv 2) pa_nil)))) (fun _ _ _ _ _ => pv 2)) pa_nil)) pa_nil))))), ?_⟩
    obtain ⟨dx, oL, kn, aP, aU, xs, ys, h1, h2, h3, h4, h5, _⟩ := S.st.ex
    have e : W.does .quarrels = (W, if W.p.quarrel W.p.shared = true then Kraf.list W.p.quarrels else Kraf.say (-33)) := rfl
    have sh := S.good.t.shared
    have m4 := S.good.t.m4
    refine ⟨_, rfl, p, dx, _, rfl, h1, rfl, p, W.p, _, _, rfl, S.st, _, rfl, p, dx, _, rfl, h1, rfl, _, rfl, p, W.p.shared, W.p, _, _, rfl, m4, sh, S.st, fun H0 s0 => ⟨_, rfl, ?_⟩⟩
    rw [quarrel_dec (and_self_shared W.p)]
    cases c : W.p.quarrel W.p.shared with
    | false =>
      rw [c] at e
      refine iteT ⟨(by show 1 ≤ sizeLine; decide), fun l nl => k _ _ ?_⟩
      rw [e]
      exact res_new (S.same s0) (S.st.kp s0) nl rfl
    | true =>
      rw [c] at e
      refine iteF ⟨_, rfl, W.p.shared, rfl, lt16 m4 sh, fun D1 H1 hD1 hh1 s1 => ⟨D1, rfl, ⟨_, SqL.of hh1⟩, fun D hD => ?_⟩⟩
      have s01 := s0.trans s1
      refine lc_listN (l := subs W.p.shared) (j := 2) (fun s => W.p.quarrel s) nv hD (Nat.le_trans (subs_len (lt16 m4 sh)) (by decide)) (SqL.of hh1) (fun u H2 Q2 hu s2 qq => ?_) (fun u H2 Q2 hu _ s2 qq => ⟨_, rfl, qq H2 (Same.refl H2)⟩) (fun H2 hh2 s2 => ?_)
      · refine ⟨_, rfl, p, dx, _, rfl, (s01.trans s2) _ _ h1, rfl, _, rfl, p, u, W.p, _, _, rfl, m4, subs_lt sh hu, (S.same (s01.trans s2)).st, fun H3 s3 => ⟨_, rfl, ?_⟩⟩
        rw [quarrel_dec (subs_mem.mp hu)]
        exact qq H3 s3
      · have l16 : ((subs W.p.shared).filter fun s => W.p.quarrel s).length ≤ 16 := Nat.le_trans (List.length_filter_le _ _) (subs_len (lt16 m4 sh))
        refine ⟨D, _, rfl, hh2, by omega, fun s hs => lt16 m4 (subs_lt sh (List.mem_filter.mp hs).1), fun D3 H3 n3 hh3 s3 => ⟨D3, _, rfl, hh3, ?_, fun D4 H4 n4 hh4 s4 => k _ _ ?_⟩⟩
        · refine Nat.le_trans (List.length_filter_le _ _) ?_
          omega
        · rw [e]
          show Res C p H (W, Kraf.list W.p.quarrels) H4 D4
          rw [← quarrels_prog S.good.t]
          exact res_list S ((s01.trans s2).trans s3) s4 n4 hh4
theorem scBoth : FnScope ["people", "known"] ["people"] (defScope sBoth) := ⟨rfl, rfl, rfl, by decide +kernel, rfl, by decide +kernel, by decide +kernel⟩
theorem ok_both {f : Addr} {fd : FuncData} (F : Fun K "both" "both" sBoth f fd) (T : Txt K C) (N : Cn mg) (DT : MTogether P w K mg base C) (DW : DWorlds P w K mg base) : FnOk P w K mg base CX0 2 f fd ["people"] (spC0 C .both) := by
  refine F.ok scBoth (fun vs H Q E h => ?_) (fun cdv A outer s H vs Q E hr h => ?_)
  · obtain ⟨p, W, rfl, _⟩ := h
    rfl
  · obtain ⟨p, W, rfl, S, k⟩ := h
    refine ⟨_, pss_cons (ps_set (i := 1) scBoth.nd rfl (Or.inl rfl) (pe_md0 (pv 0) T.cl DT hr))
      (pss_one (ps_ret (pe_lst (pa_cons (pv 1) (pa_cons (pe_callB call_len_seq (by rfl) N.len PySem.boot_len (pa_cons (pe_d DW hr rfl (pa_cons (pv 1) (pa_cons (pe_fld (pv 0) rfl) pa_nil))) pa_nil)) pa_nil))))), ?_⟩
    obtain ⟨dx, oL, kn, aP, aU, xs, ys, h1, h2, h3, h4, h5, _⟩ := S.st.ex
    refine ⟨_, rfl, p, dx, _, rfl, h1, rfl, p, W.p, _, _, rfl, S.st, _, rfl, _, rfl, _, rfl, p, C, dx, _, _, rfl, h1, T.cl, T.nM, rfl, W.p.both, W.p.m, rfl, S.good.t.m4, fun D H2 _ hD s2 => ⟨D, _, rfl, .inl (SqL.of hD), (by show 2 ≤ sizeLine; decide), fun l nl => k _ _ ?_⟩⟩
    refine res_new (z := W.does .both) (S.same s2) (S.st.kp s2) nl ?_
    rw [List.length_map, count_len]
    rfl
theorem scCommonC : FnScope ["people", "most"] ["people"] (defScope sCommonC) := ⟨rfl, rfl, rfl, by decide +kernel, rfl, by decide +kernel, by decide +kernel⟩
theorem ok_commonC {f : Addr} {fd : FuncData} (F : Fun K "common" "common" sCommonC f fd) (T : Txt K C) (DM : MMost P w K mg base C) (DC : MCommon P w K mg base C) : FnOk P w K mg base CX0 4 f fd ["people"] (spC0 C .common) := by
  refine F.ok scCommonC (fun vs H Q E h => ?_) (fun cdv A outer s H vs Q E hr h => ?_)
  · obtain ⟨p, W, rfl, _⟩ := h
    rfl
  · obtain ⟨p, W, rfl, S, k⟩ := h
    refine ⟨_, pss_cons (ps_set (i := 1) scCommonC.nd rfl (Or.inl rfl) (pe_md0 (pv 0) T.cl DC (hr.mono (by decide))))
      (pss_one (ps_ret (pe_lst (pa_cons (pe_op nn_or (pe_md (pv 0) T.cl DM hr (pa_cons pe_int (pa_cons (pv 1) pa_nil))) (pe_md (pv 0) T.cl DM hr (pa_cons pe_int (pa_cons (pv 1) pa_nil)))) pa_nil)))), ?_⟩
    obtain ⟨dx, oL, kn, aP, aU, xs, ys, h1, h2, h3, h4, h5, _⟩ := S.st.ex
    have sh := S.good.t.shared
    have m4 := S.good.t.m4
    refine ⟨_, rfl, p, dx, _, rfl, h1, rfl, p, W.p, _, _, rfl, S.st, _, rfl, p, dx, _, rfl, h1, rfl, _, rfl, p, 0, W.p.shared, W.p, _, _, rfl, (by decide), m4, sh, S.st, fun H1 s1 => ⟨_, rfl, p, dx, _, rfl, s1 _ _ h1, rfl, _, rfl, p, 1, W.p.shared, W.p, _, _, rfl, (by decide), m4, sh, (S.same s1).st, fun H2 s2 => ⟨_, _, rfl, rfl, (by show 1 ≤ sizeLine; decide), fun l nl => k _ _ ?_⟩⟩⟩
    refine res_new (z := W.does .common) (S.same (s1.trans s2)) (S.st.kp (s1.trans s2)) nl ?_
    show _ = (KrafNeutral.told (Kraf.say (W.p.common : Nat))).map V.int
    unfold Kraf.Two.common
    rw [tells_eq (and_self_shared W.p), tells_eq (and_self_shared W.p)]
    rfl
theorem scAgreed : FnScope ["people", "s"] ["people", "s"] (defScope sAgreed) := ⟨rfl, rfl, rfl, by decide +kernel, rfl, by decide +kernel, by decide +kernel⟩
def pS (t : Kraf.Two) (s : Nat) : Prop := s < 2 ^ t.m ∧ s &&& t.shared = s
theorem ok_agreed {f : Addr} {fd : FuncData} (F : Fun K "agreed" "agreed" sAgreed f fd) (T : Txt K C) (DM : MMost P w K mg base C) : FnOk P w K mg base CX0 4 f fd ["people", "s"] (spC1 C pS .agreed) := by
  refine F.ok scAgreed (fun vs H Q E h => ?_) (fun cdv A outer s H vs Q E hr h => ?_)
  · obtain ⟨p, x, W, rfl, _⟩ := h
    rfl
  · obtain ⟨p, x, W, rfl, pr, S, k⟩ := h
    refine ⟨_, pss_one (ps_ret (pe_lst (pa_cons (pe_ifExp (pt_cmpR nn_eq (pe_md (pv 0) T.cl DM hr (pa_cons pe_int (pa_cons (pv 1) pa_nil))) (pe_md (pv 0) T.cl DM hr (pa_cons pe_int (pa_cons (pv 1) pa_nil))) (nomark _)) pe_int pe_int) pa_nil))), ?_⟩
    obtain ⟨dx, oL, kn, aP, aU, xs, ys, h1, h2, h3, h4, h5, _⟩ := S.st.ex
    have m4 := S.good.t.m4
    have e := does_agreed pr.1 pr.2
    refine ⟨_, rfl, p, dx, _, rfl, h1, rfl, _, rfl, p, 0, x, W.p, _, _, rfl, (by decide), m4, pr.1, S.st, fun H1 s1 => ⟨_, rfl, p, dx, _, rfl, s1 _ _ h1, rfl, _, rfl, p, 1, x, W.p, _, _, rfl, (by decide), m4, pr.1, (S.same s1).st, fun H2 s2 => ⟨_, _, rfl, rfl, _, rfl, ?_⟩⟩⟩
    have s12 := s1.trans s2
    by_cases c : Kraa.keep W.p.m (W.p.knows 0) x = Kraa.keep W.p.m (W.p.knows 1) x
    · rw [if_pos c] at e
      rw [decide_eq_true c]
      refine iteT ⟨(by show 1 ≤ sizeLine; decide), fun l nl => k _ _ ?_⟩
      rw [e]
      exact res_new (S.same s12) (S.st.kp s12) nl rfl
    · rw [if_neg c] at e
      rw [decide_eq_false c]
      refine iteF ⟨(by show 1 ≤ sizeLine; decide), fun l nl => k _ _ ?_⟩
      rw [e]
      exact res_new (S.same s12) (S.st.kp s12) nl rfl
theorem parts_len (m p : Nat) : (Krad.parts m p).length ≤ m := partsN_len m p m
theorem scPartsC : FnScope ["people", "w"] ["people", "w"] (defScope sPartsC) := ⟨rfl, rfl, rfl, by decide +kernel, rfl, by decide +kernel, by decide +kernel⟩
theorem ok_partsC {f : Addr} {fd : FuncData} (F : Fun K "parts" "parts" sPartsC f fd) (T : Txt K C) (DP : DParts P w K mg base) (DN : DCounted P w K mg base) : FnOk P w K mg base CX0 7 f fd ["people", "w"] (spC1 C pW .parts) := by
  refine F.ok scPartsC (fun vs H Q E h => ?_) (fun cdv A outer s H vs Q E hr h => ?_)
  · obtain ⟨p, x, W, rfl, _⟩ := h
    rfl
  · obtain ⟨p, x, W, rfl, pr, S, k⟩ := h
    refine ⟨_, pss_one (ps_ret (pe_d DN (hr.mono (by decide)) rfl (pa_cons (pe_d DP hr rfl (pa_cons (pe_ix ix_tup (pe_fld (pv 0) rfl) (pv 1) (fun _ _ => rfl)) (pa_cons (pe_fld (pv 0) rfl) pa_nil))) pa_nil))), ?_⟩
    obtain ⟨dx, oL, kn, aP, aU, xs, ys, h1, h2, h3, h4, h5, _⟩ := S.st.ex
    have kw := know_at (t := W.p) pr
    have m4 := S.good.t.m4
    have pl := parts_len W.p.m (W.p.knows x)
    refine ⟨_, rfl, p, C, dx, _, _, rfl, h1, T.cl, T.nK, rfl, _, rfl, kn, _, _, _, rfl, rfl, SqT.of h3, kw, _, rfl, p, C, dx, _, _, rfl, h1, T.cl, T.nM, rfl, W.p.knows x, W.p.m, rfl, m4, S.good.t.knows x, fun D1 H1 n1 hh1 s1 => ⟨D1, _, rfl, hh1, by omega, fun D2 H2 n2 hh2 s2 => k _ _ ?_⟩⟩
    rw [does_parts pr]
    exact res_list S s1 s2 n2 hh2
theorem scMatter : FnScope ["people", "w", "most", "part"] ["people", "w"] (defScope sMatter) := ⟨rfl, rfl, rfl, by decide +kernel, rfl, by decide +kernel, by decide +kernel⟩
theorem ok_matter {f : Addr} {fd : FuncData} (F : Fun K "matter" "matter" sMatter f fd) (T : Txt K C) (DC : MCommon P w K mg base C) (DP : DParts P w K mg base) (DN : DCounted P w K mg base) : FnOk P w K mg base CX0 7 f fd ["people", "w"] (spC1 C pW .matter) := by
  refine F.ok scMatter (fun vs H Q E h => ?_) (fun cdv A outer s H vs Q E hr h => ?_)
  · obtain ⟨p, x, W, rfl, _⟩ := h
    rfl
  · obtain ⟨p, x, W, rfl, pr, S, k⟩ := h
    refine ⟨_, pss_cons (ps_set (i := 2) scMatter.nd rfl (Or.inr rfl) (pe_md0 (pv 0) T.cl DC (hr.mono (by decide))))
      (pss_one (ps_ret (pe_d DN (hr.mono (by decide)) rfl (pa_cons (pe_lc (own := [("part", 3)]) rfl scMatter.nd (pi_list (pe_d DP hr rfl (pa_cons (pe_ix ix_tup (pe_fld (pv 0) rfl) (pv 1) (fun _ _ => rfl)) (pa_cons (pe_fld (pv 0) rfl) pa_nil)))) (blkOk_by (by rfl)) (fun _ _ _ _ _ => pg_name (i := 3) scMatter.nd rfl (Or.inl rfl))
        (fun _ _ _ _ _ => pts_one (pt_cmpR nn_ne (pe_op nn_and (pv 3) (pv 2)) pe_int (nomark _))) (fun _ _ _ _ _ => pv 3)) pa_nil)))), ?_⟩
    obtain ⟨dx, oL, kn, aP, aU, xs, ys, h1, h2, h3, h4, h5, _⟩ := S.st.ex
    have kw := know_at (t := W.p) pr
    have m4 := S.good.t.m4
    have pl := parts_len W.p.m (W.p.knows x)
    refine ⟨_, rfl, p, dx, _, rfl, h1, rfl, p, W.p, _, _, rfl, S.st, _, rfl, p, C, dx, _, _, rfl, h1, T.cl, T.nK, rfl, _, rfl, kn, _, _, _, rfl, rfl, SqT.of h3, kw, _, rfl, p, C, dx, _, _, rfl, h1, T.cl, T.nM, rfl, W.p.knows x, W.p.m, rfl, m4, S.good.t.knows x, fun D1 H1 n1 hh1 s1 => ⟨D1, rfl, ⟨_, SqL.of hh1⟩, fun D hD => ?_⟩⟩
    refine lc_listN (l := Krad.parts W.p.m (W.p.knows x)) (j := 3) (fun s => !decide (s &&& W.p.shared = 0)) nv hD (by omega) (SqL.of hh1) (fun u H2 Q2 hu s2 qq => ⟨_, rfl, _, rfl, u, W.p.shared, rfl, rfl, _, 0, rfl, rfl, _, rfl, qq H2 (Same.refl H2)⟩) (fun u H2 Q2 hu _ s2 qq => ⟨_, rfl, qq H2 (Same.refl H2)⟩) (fun H2 hh2 s2 => ?_)
    refine ⟨D, _, rfl, hh2, Nat.le_trans (List.length_filter_le _ _) (by omega), fun D4 H4 n4 hh4 s4 => k _ _ ?_⟩
    rw [does_matter pr]
    exact res_list S (s1.trans s2) s4 n4 hh4
theorem scSettles : FnScope ["people", "w", "i"] ["people", "w"] (defScope sSettles) := ⟨rfl, rfl, rfl, by decide +kernel, rfl, by decide +kernel, by decide +kernel⟩
theorem ok_settles {f : Addr} {fd : FuncData} (F : Fun K "settles" "settles" sSettles f fd) (T : Txt K C) (N : Cn mg) (DS : DStands P w K mg base) (DL : DLetter P w K mg base) (DN : DCounted P w K mg base) : FnOk P w K mg base CX0 3 f fd ["people", "w"] (spC1 C pW .settles) := by
  refine F.ok scSettles (fun vs H Q E h => ?_) (fun cdv A outer s H vs Q E hr h => ?_)
  · obtain ⟨p, x, W, rfl, _⟩ := h
    rfl
  · obtain ⟨p, x, W, rfl, pr, S, k⟩ := h
    refine ⟨_, pss_one (ps_ret (pe_d DN (hr.mono (by decide)) rfl (pa_cons (pe_lc (own := [("i", 2)]) rfl scSettles.nd (pi_range1 rfl N.range (pa_cons (pe_fld (pv 0) rfl) pa_nil)) (blkOk_by (by rfl)) (fun _ _ _ _ _ => pg_name (i := 2) scSettles.nd rfl (Or.inl rfl))
        (fun _ _ _ _ _ => pts_nil) (fun _ _ _ _ _ => pe_d DS hr rfl (pa_cons (pe_d DL (hr.mono (by decide)) rfl (pa_cons (pv 2) (pa_cons (pe_fldK K rfl (pv 0) rfl) pa_nil))) (pa_cons (pe_ix (r := rIxT K) ix_tup (pe_fldK K rfl (pv 0) rfl) (pv 1) (fun _ _ => rfl)) pa_nil)))) pa_nil))), ?_⟩
    obtain ⟨dx, oL, kn, aP, aU, xs, ys, h1, h2, h3, h4, h5, _⟩ := S.st.ex
    have kw := know_at (t := W.p) pr
    have m4 := S.good.t.m4
    refine ⟨_, rfl, p, C, dx, _, _, rfl, h1, T.cl, T.nM, rfl, (W.p.m : Int), rfl, (rng (n := W.p.m) (by omega)).1, (rng (n := W.p.m) (by omega)).2, fun D hD => ?_⟩
    refine lc_rangeN (n := W.p.m) (j := 2) (fun _ => true) (fun i => nv (stand (W.p.knows x) (letC W.p.m i))) hD (by omega) (fun u H2 Q2 hu s2 qq => qq H2 (Same.refl H2)) (fun u H2 Q2 hu _ s2 qq => ?_) (fun H2 hh2 s2 => ?_)
    · have h1 := s2 _ _ h1
      have h3 := s2 _ _ h3
      exact ⟨_, rfl, _, rfl, p, C, dx, _, _, rfl, h1, T.cl, T.nM, rfl, u, W.p.m, rfl, m4, _, rfl, p, C, dx, _, _, rfl, h1, T.cl, T.nK, rfl, _, rfl, kn, _, _, _, rfl, rfl, SqT.of h3, kw, letC W.p.m u, W.p.knows x, rfl, qq H2 (Same.refl H2)⟩
    · rw [nvs_map] at hh2
      refine ⟨D, _, rfl, hh2, (by rw [List.length_map, List.length_range]; omega), fun D4 H4 n4 hh4 s4 => k _ _ ?_⟩
      rw [does_settles pr]
      have e2 : (List.range W.p.m).map (fun i => Kraa.settled W.p.m (W.p.knows x) i) = (List.range W.p.m).map fun i => stand (W.p.knows x) (letC W.p.m i) := List.map_congr_left fun i _ => settled_eq (S.good.t.knows x)
      rw [e2]
      exact res_list S s2 s4 n4 hh4
theorem scUnsure : FnScope ["people", "w", "known", "own_ones", "i"] ["people", "w"] (defScope sUnsure) := ⟨rfl, rfl, rfl, by decide +kernel, rfl, by decide +kernel, by decide +kernel⟩
theorem ok_unsure {f : Addr} {fd : FuncData} (F : Fun K "unsure" "unsure" sUnsure f fd) (T : Txt K C) (N : Cn mg) (DM : DMembers P w K mg base) (DS : DStands P w K mg base) (DL : DLetter P w K mg base) (DN : DCounted P w K mg base) : FnOk P w K mg base CX0 3 f fd ["people", "w"] (spC1 C pW .unsure) := by
  refine F.ok scUnsure (fun vs H Q E h => ?_) (fun cdv A outer s H vs Q E hr h => ?_)
  · obtain ⟨p, x, W, rfl, _⟩ := h
    rfl
  · obtain ⟨p, x, W, rfl, pr, S, k⟩ := h
    refine ⟨_, pss_cons (ps_set (i := 2) scUnsure.nd rfl (Or.inr rfl) (pe_ix ix_tup (pe_fld (pv 0) rfl) (pv 1) (fun _ _ => rfl)))
      (pss_cons (ps_set (i := 3) scUnsure.nd rfl (Or.inl rfl) (pe_d DM (hr.mono (by decide)) rfl (pa_cons (pe_ix ix_tup (pe_fld (pv 0) rfl) (pv 1) (fun _ _ => rfl)) pa_nil)))
      (pss_one (ps_ret (pe_d DN (hr.mono (by decide)) rfl (pa_cons (pe_lc (own := [("i", 4)]) rfl scUnsure.nd (pi_list (pv 3)) (blkOk_by (by rfl)) (fun _ _ _ _ _ => pg_name (i := 4) scUnsure.nd rfl (Or.inl rfl))
        (fun _ _ _ _ _ => pts_one (pt_cmpR nn_eq (pe_d DS hr rfl (pa_cons (pe_d DL (hr.mono (by decide)) rfl (pa_cons (pv 4) (pa_cons (pe_fldK K rfl (pv 0) rfl) pa_nil))) (pa_cons (pv 2) pa_nil))) (pe_gi N.nei rfl) (nomark _))) (fun _ _ _ _ _ => pv 4)) pa_nil))))), ?_⟩
    obtain ⟨dx, oL, kn, aP, aU, xs, ys, h1, h2, h3, h4, h5, _⟩ := S.st.ex
    have kw := know_at (t := W.p) pr
    have ow := own_at (t := W.p) pr
    have m4 := S.good.t.m4
    have ol := S.good.t.own x
    refine ⟨_, rfl, p, C, dx, _, _, rfl, h1, T.cl, T.nK, rfl, _, rfl, kn, _, _, _, rfl, rfl, SqT.of h3, kw, _, rfl, p, C, dx, _, _, rfl, h1, T.cl, T.nO, rfl, _, rfl, oL, _, _, _, rfl, rfl, SqT.of h2, ow, W.p.own x, rfl, lt16 m4 ol, fun D1 H1 n1 hh1 s1 => ⟨_, rfl, D1, rfl, ⟨_, SqL.of hh1⟩, fun D hD => ?_⟩⟩
    have ml := mem_len (W.p.own x)
    refine lc_listN (l := mem (W.p.own x)) (j := 4) (fun i => decide (stand (W.p.knows x) (letC W.p.m i) = 2)) nv hD ml (SqL.of hh1) (fun u H2 Q2 hu s2 qq => ?_) (fun u H2 Q2 hu _ s2 qq => ⟨_, rfl, qq H2 (Same.refl H2)⟩) (fun H2 hh2 s2 => ?_)
    · have h1 := (s1.trans s2) _ _ h1
      exact ⟨_, rfl, _, rfl, p, C, dx, _, _, rfl, h1, T.cl, T.nM, rfl, u, W.p.m, rfl, m4, _, rfl, letC W.p.m u, W.p.knows x, rfl, _, 2, rfl, rfl, _, rfl, qq H2 (Same.refl H2)⟩
    · refine ⟨D, _, rfl, hh2, Nat.le_trans (List.length_filter_le _ _) ml, fun D4 H4 n4 hh4 s4 => k _ _ ?_⟩
      rw [does_unsure pr, ← unsure_prog m4 ol (S.good.t.knows x)]
      exact res_list S (s1.trans s2) s4 n4 hh4
theorem scState : FnScope ["people", "letters"] ["people"] (defScope sState) := ⟨rfl, rfl, rfl, by decide +kernel, rfl, by decide +kernel, by decide +kernel⟩
theorem ok_state {f : Addr} {fd : FuncData} (F : Fun K "state" "state" sState f fd) (T : Txt K C) (N : Cn mg) : FnOk P w K mg base CX0 1 f fd ["people"] (spC0 C .state) := by
  refine F.ok scState (fun vs H Q E h => ?_) (fun cdv A outer s H vs Q E hr h => ?_)
  · obtain ⟨p, W, rfl, _⟩ := h
    rfl
  · obtain ⟨p, W, rfl, S, k⟩ := h
    refine ⟨_, pss_cons (ps_set (i := 1) scState.nd rfl (Or.inl rfl) (pe_fld (pv 0) rfl))
      (pss_one (ps_ret (pe_lst (pa_cons (pe_fld (pv 0) rfl) (pa_cons (pe_ix ix_tup (pv 1) pe_int (fun _ _ => rfl)) (pa_cons (pe_ix ix_tup (pv 1) pe_int (fun _ _ => rfl))
        (pa_cons (pe_callB call_len_seq (by rfl) N.len PySem.boot_len (pa_cons (pe_fld (pv 0) rfl) pa_nil)) (pa_cons (pe_callB call_len_seq (by rfl) N.len PySem.boot_len (pa_cons (pe_fld (pv 0) rfl) pa_nil)) pa_nil)))))))), ?_⟩
    obtain ⟨dx, oL, kn, aP, aU, xs, ys, h1, h2, h3, h4, h5, h6, h7, h8⟩ := S.st.ex
    have l7 := h7.len
    have l8 := h8.len
    rw [List.length_reverse] at l7 l8
    refine ⟨_, rfl, p, C, dx, _, _, rfl, h1, T.cl, T.nO, rfl, _, rfl, p, C, dx, _, _, rfl, h1, T.cl, T.nM, rfl, _, rfl, oL, _, _, _, rfl, rfl, SqT.of h2, (show atI [nv W.p.la, nv W.p.lb] 0 = some (nv W.p.la) from rfl), _, rfl, oL, _, _, _, rfl, rfl, SqT.of h2, (show atI [nv W.p.la, nv W.p.lb] 1 = some (nv W.p.lb) from rfl),
      _, rfl, p, C, dx, _, _, rfl, h1, T.cl, T.nP, rfl, aP, _, rfl, .inl (SqL.of h4), _, rfl, p, C, dx, _, _, rfl, h1, T.cl, T.nU, rfl, aU, _, rfl, .inl (SqL.of h5), (by show 5 ≤ sizeLine; decide), fun l nl => k _ _ ?_⟩
    refine res_new (z := W.does .state) S (Kp.refl p H) nl ?_
    rw [l7, l8]
    rfl
end
end Sw
end

section
set_option Elab.async false
set_option linter.all false
set_option maxRecDepth 100000
set_option maxHeartbeats 2000000
namespace Sw
open PySem PySem.Spec PyProof.Rows L2
/-! ### before a begin, behind it -/
def StO (C : Addr) (H : Hp) (p : Addr) : Option Kraf.World → Prop
  | none => Pst C H p t0 [] []
  | some W => StW C H p W
theorem StO.same {C p : Addr} {H H' : Hp} {o : Option Kraf.World} (h : StO C H p o) (s : Same H H') : StO C H' p o := by
  cases o with
  | none => exact Pst.same h s
  | some W => exact StW.same h s
theorem StO.pst {C p : Addr} {H : Hp} {o : Option Kraf.World} (h : StO C H p o) : ∃ t pa un, Pst C H p t pa un ∧ t.m ≤ 4 ∧ (t.m = 0 ↔ o = none) := by
  cases o with
  | none => exact ⟨_, _, _, h, Nat.zero_le _, by simp [t0]⟩
  | some W =>
    have g := (StW.good h).t
    exact ⟨_, _, _, StW.st h, g.m4, by have := g.m1; simp; omega⟩
theorem StO.kp {C p : Addr} {H H' : Hp} {o : Option Kraf.World} (h : StO C H p o) (s : Same H H') : Kp p H H' := by
  obtain ⟨t, pa, un, P, _⟩ := h.pst
  exact P.kp s
structure ResO (C p : Addr) (H : Hp) (z : Option Kraf.World × Kraf.Ans) (H' : Hp) (l : Addr) : Prop where
  st : StO C H' p z.1
  kp : Kp p H H'
  ans : H' l = some (.lst ((KrafNeutral.told z.2).map V.int))
  new : ∀ b o, H b = some o → ¬ Foot p H b → b ≠ l
theorem resO_new {C p l : Addr} {H H2 : Hp} {z : Option Kraf.World × Kraf.Ans} {xs : List V} (s : StO C H2 p z.1) (k : Kp p H H2) (n : H2 l = none) (e : xs = (KrafNeutral.told z.2).map V.int) : ResO C p H z (upd H2 l (.lst xs)) l := by
  have sm : Same H2 (upd H2 l (.lst xs)) := Same.new n
  refine ⟨s.same sm, k.trans (s.kp sm), ?_, fun b o h f => ne_of_none (k b o h f).1 n⟩
  rw [e]
  exact upd_same
theorem Res.o {C p l : Addr} {H H' : Hp} {z : Kraf.World × Kraf.Ans} (r : Res C p H z H' l) : ResO C p H (some z.1, z.2) H' l := ⟨r.st, r.kp, r.ans, r.new⟩
theorem ResO.after {C p l : Addr} {H H1 H2 : Hp} {z : Option Kraf.World × Kraf.Ans} (k : Kp p H H1) (r : ResO C p H1 z H2 l) : ResO C p H z H2 l :=
  ⟨r.st, k.trans r.kp, r.ans, fun b o h f => let ⟨h1, f1⟩ := k b o h f; r.new b o h1 f1⟩
def spBegin (C : Addr) : Sp := fun vs H Q _ => ∃ (p : Addr) (m a b : Nat) (o : Option Kraf.World), vs = [.ref p, nv m, nv a, nv b] ∧ StO C H p o ∧ ∀ H' l, ResO C p H (Kraf.act o (.begin_ m a b)) H' l → Q (.ref l) H'
theorem act_begin_no {o : Option Kraf.World} {m a b : Nat} (h : m = 0 ∨ 4 < m ∨ 2 ^ m ≤ a ∨ 2 ^ m ≤ b) : Kraf.act o (.begin_ m a b) = (o, Kraf.say (-22)) := by
  show (if m = 0 ∨ 4 < m ∨ 2 ^ m ≤ a ∨ 2 ^ m ≤ b then _ else _) = _
  rw [if_pos h]
theorem act_begin {o : Option Kraf.World} {m a b : Nat} (h : ¬ (m = 0 ∨ 4 < m ∨ 2 ^ m ≤ a ∨ 2 ^ m ≤ b)) : Kraf.act o (.begin_ m a b) = (some ⟨⟨m, a, b, Kraa.full m, Kraa.full m⟩, [], []⟩, Kraf.say 0) := by
  show (if m = 0 ∨ 4 < m ∨ 2 ^ m ≤ a ∨ 2 ^ m ≤ b then _ else _) = _
  rw [if_neg h]
section
variable {P : Program} {w : World} {K : PySem.W.Frag} {mg : Str → Option Value} {base : Heap} {C : Addr}
theorem scBegin : FnScope ["people", "m", "a", "b"] ["people", "m", "a", "b"] (defScope sBegin) := ⟨rfl, rfl, rfl, by decide +kernel, rfl, by decide +kernel, by decide +kernel⟩
theorem ok_begin {f : Addr} {fd : FuncData} (F : Fun K "begin" "begin" sBegin f fd) (T : Txt K C) (N : Cn mg) (DA : DAll P w K mg base) (DB : Met P w K mg base C "begin_anew" 2 ["self", "m", "a", "b"] (spBeginAnew C)) : FnOk P w K mg base CX0 3 f fd ["people", "m", "a", "b"] (spBegin C) := by
  refine F.ok scBegin (fun vs H Q E h => ?_) (fun cdv A outer s H vs Q E hr h => ?_)
  · obtain ⟨p, m, a, b, o, rfl, _⟩ := h
    rfl
  · obtain ⟨p, m, a, b, o, rfl, S, k⟩ := h
    refine ⟨_, pss_cons (ps_if (PW.pt (pw_or (pt_cmpR nn_lt (pv 1) pe_int (nomark _)) (pw_or1 (pt_cmpR nn_gt (pv 1) (pe_gi N.mostL rfl) (nomark _))))) (pss_one (ps_ret (pe_lst (pa_cons (pe_gi N.notRight rfl) pa_nil)))) pss_nil)
      (pss_cons (ps_if (PW.pt (pw_or (pt_cmpR nn_gt (pv 2) (pe_d DA (hr.mono (by decide)) rfl (pa_cons (pv 1) pa_nil)) (nomark _)) (pw_or1 (pt_cmpR nn_gt (pv 3) (pe_d DA (hr.mono (by decide)) rfl (pa_cons (pv 1) pa_nil)) (nomark _))))) (pss_one (ps_ret (pe_lst (pa_cons (pe_gi N.notRight rfl) pa_nil)))) pss_nil)
      (pss_cons (ps_expr (pe_md (pv 0) T.cl DB hr (pa_cons (pv 1) (pa_cons (pv 2) (pa_cons (pv 3) pa_nil)))))
      (pss_one (ps_ret (pe_lst (pa_cons pe_int pa_nil)))))), ?_⟩
    obtain ⟨t, pa, un, PS, _, _⟩ := S.pst
    have no : (m = 0 ∨ 4 < m ∨ 2 ^ m ≤ a ∨ 2 ^ m ≤ b) → ∀ l, H l = none → Q (.ref l) (upd H l (.lst [.int (-22)])) := fun h l nl => k _ _ (by
      rw [act_begin_no h]
      exact resO_new S (Kp.refl p H) nl rfl)
    have p2 := Nat.two_pow_pos m
    refine ⟨_, rfl, m, 1, rfl, rfl, _, rfl, ?_⟩
    by_cases c1 : m < 1
    · rw [decide_eq_true c1]
      exact iteT (iteT ⟨(by show 1 ≤ sizeLine; decide), no (.inl (by omega))⟩)
    rw [decide_eq_false c1]
    refine iteF ⟨_, rfl, m, 4, rfl, rfl, _, rfl, ?_⟩
    by_cases c2 : 4 < m
    · rw [decide_eq_true c2]
      exact iteT ⟨(by show 1 ≤ sizeLine; decide), no (.inr (.inl c2))⟩
    rw [decide_eq_false c2]
    refine iteF ⟨_, rfl, _, rfl, m, rfl, (by omega), a, 2 ^ m - 1, rfl, rfl, _, rfl, ?_⟩
    by_cases c3 : 2 ^ m - 1 < a
    · rw [decide_eq_true c3]
      exact iteT (iteT ⟨(by show 1 ≤ sizeLine; decide), no (.inr (.inr (.inl (by omega))))⟩)
    rw [decide_eq_false c3]
    refine iteF ⟨_, rfl, _, rfl, m, rfl, (by omega), b, 2 ^ m - 1, rfl, rfl, _, rfl, ?_⟩
    by_cases c4 : 2 ^ m - 1 < b
    · rw [decide_eq_true c4]
      exact iteT ⟨(by show 1 ≤ sizeLine; decide), no (.inr (.inr (.inr (by omega))))⟩
    rw [decide_eq_false c4]
    have yes : ¬ (m = 0 ∨ 4 < m ∨ 2 ^ m ≤ a ∨ 2 ^ m ≤ b) := by omega
    obtain ⟨dx, oL, kn, aP, aU, xs, ys, h1, _⟩ := PS.ex
    refine iteF ⟨_, rfl, p, dx, _, rfl, h1, rfl, _, rfl, _, rfl, _, rfl, p, m, a, b, t, pa, un, rfl, (by omega), PS, fun H1 P1 K1 => ⟨(by show 1 ≤ sizeLine; decide), fun l nl => k _ _ ?_⟩⟩
    rw [act_begin yes]
    refine resO_new (show StW C H1 p ⟨⟨m, a, b, Kraa.full m, Kraa.full m⟩, [], []⟩ from ⟨P1, ⟨?_, ?_, ?_, ?_, full_lt m, full_lt m⟩, (fun x hx => by cases hx), (fun x hx => by cases hx), Nat.zero_le _⟩) K1 nl rfl
    · show 1 ≤ m
      omega
    · show m ≤ 4
      omega
    · show a < 2 ^ m
      omega
    · show b < 2 ^ m
      omega
end
/-! ### the refusals -/
def refQ (t : Kraf.Two) (w q : Nat) : Int := if Kraa.full t.m < q then -22 else if Kraa.keep t.m q (t.own w) = q then 0 else -62
def refS (t : Kraf.Two) (s : Nat) (must : Bool) : Int := if 2 ^ t.m ≤ s then -22 else if must = true ∧ s &&& t.shared ≠ s then -62 else 0
inductive Frm where
  | w | wq | ws | wf | wi
def Frm.str : Frm → Str
  | .w => "w" | .wq => "wq" | .ws => "ws" | .wf => "wf" | .wi => "wi"
def Frm.args : Frm → Nat → Nat → List Nat
  | .w, x, _ => [x]
  | _, x, y => [x, y]
def Frm.ref (t : Kraf.Two) : Frm → Nat → Nat → Int
  | .w, x, _ => if 1 < x then -2 else 0
  | .wq, x, y => if 1 < x then -2 else refQ t x y
  | .ws, x, y => if 1 < x then -2 else refS t y true
  | .wf, x, y => if 1 < x then -2 else refS t y false
  | .wi, x, y => if 1 < x then -2 else if t.m ≤ y then -2 else 0
def Frm.pre (t : Kraf.Two) : Frm → Nat → Nat → Prop
  | .w, x, _ => x ≤ 1
  | .wq, x, y => PreQ t x y
  | .ws, x, y => PreS t x y
  | .wf, x, y => x ≤ 1 ∧ y < 2 ^ t.m
  | .wi, x, y => x ≤ 1 ∧ y < t.m
theorem Frm.pre_of {t : Kraf.Two} (f : Frm) {x y : Nat} (h : f.ref t x y = 0) : f.pre t x y := by
  cases f with
  | w =>
    show x ≤ 1
    have h : (if 1 < x then (-2 : Int) else 0) = 0 := h
    by_cases c : 1 < x
    · rw [if_pos c] at h; cases h
    · omega
  | wq =>
    have h : (if 1 < x then (-2 : Int) else refQ t x y) = 0 := h
    by_cases c : 1 < x
    · rw [if_pos c] at h; cases h
    · rw [if_neg c] at h
      unfold refQ at h
      by_cases d : Kraa.full t.m < y
      · rw [if_pos d] at h; cases h
      · rw [if_neg d] at h
        by_cases e : Kraa.keep t.m y (t.own x) = y
        · exact ⟨by omega, lt_of_full (by omega), e⟩
        · rw [if_neg e] at h; cases h
  | ws =>
    have h : (if 1 < x then (-2 : Int) else refS t y true) = 0 := h
    by_cases c : 1 < x
    · rw [if_pos c] at h; cases h
    · rw [if_neg c] at h
      unfold refS at h
      by_cases d : 2 ^ t.m ≤ y
      · rw [if_pos d] at h; cases h
      · rw [if_neg d] at h
        by_cases e : y &&& t.shared = y
        · exact ⟨by omega, by omega, e⟩
        · rw [if_pos ⟨rfl, e⟩] at h; cases h
  | wf =>
    have h : (if 1 < x then (-2 : Int) else refS t y false) = 0 := h
    by_cases c : 1 < x
    · rw [if_pos c] at h; cases h
    · rw [if_neg c] at h
      unfold refS at h
      by_cases d : 2 ^ t.m ≤ y
      · rw [if_pos d] at h; cases h
      · exact ⟨by omega, by omega⟩
  | wi =>
    have h : (if 1 < x then (-2 : Int) else if t.m ≤ y then -2 else 0) = 0 := h
    by_cases c : 1 < x
    · rw [if_pos c] at h; cases h
    · rw [if_neg c] at h
      by_cases d : t.m ≤ y
      · rw [if_pos d] at h; cases h
      · exact ⟨by omega, by omega⟩
abbrev sClaimRef : Stmt := top 73
abbrev sLettersRef : Stmt := top 74
abbrev sPersonRef : Stmt := top 75
abbrev sCarry : Stmt := top 76
abbrev sAnswerOf : Stmt := top 77
abbrev sAnswers : Stmt := top 78
def spClaimRef (C : Addr) : Sp := fun vs H Q _ => ∃ (p : Addr) (x q : Nat) (t : Kraf.Two) (pa un : List Kraf.Two), vs = [.ref p, nv x, nv q] ∧ x ≤ 1 ∧ OkT t ∧ Pst C H p t pa un ∧ ∀ H', Same H H' → Q (.int (refQ t x q)) H'
def spLettersRef (C : Addr) : Sp := fun vs H Q _ => ∃ (p : Addr) (s : Nat) (b : Bool) (t : Kraf.Two) (pa un : List Kraf.Two), vs = [.ref p, nv s, .bl b] ∧ OkT t ∧ Pst C H p t pa un ∧ Q (.int (refS t s b)) H
inductive Kd where
  | beg | no | set
  | per (f : Frm)
def Kd.str : Kd → Str
  | .beg => "mab" | .no => "" | .set => "s" | .per f => f.str
def Frm.n : Frm → Nat
  | .w => 1
  | _ => 2
def Kd.n : Kd → Nat
  | .beg => 3 | .no => 0 | .set => 1 | .per f => f.n
theorem Frm.args_of (f : Frm) {as : List Nat} (h : as.length = f.n) : ∃ x y, as = f.args x y := by
  cases f with
  | w =>
    match as, h with
    | [x], _ => exact ⟨x, 0, rfl⟩
  | wq =>
    match as, h with
    | [x, y], _ => exact ⟨x, y, rfl⟩
  | ws =>
    match as, h with
    | [x, y], _ => exact ⟨x, y, rfl⟩
  | wf =>
    match as, h with
    | [x, y], _ => exact ⟨x, y, rfl⟩
  | wi =>
    match as, h with
    | [x, y], _ => exact ⟨x, y, rfl⟩
def Kd.ref (t : Kraf.Two) : Kd → List Nat → Int
  | .beg, _ => 0
  | .no, _ => 0
  | .set, as => refS t (as.getD 0 0) true
  | .per f, as => f.ref t (as.getD 0 0) (as.getD 1 0)
theorem Kd.ref_per (t : Kraf.Two) (f : Frm) (x y : Nat) : Kd.ref t (.per f) (f.args x y) = f.ref t x y := by cases f <;> rfl
def spRefusal (C : Addr) : Sp := fun vs H Q _ => ∃ (p g : Addr) (k : Kd) (as : List Nat) (t : Kraf.Two) (pa un : List Kraf.Two), vs = [.ref p, .str k.str, .ref g] ∧ H g = some (.lst (nvs as)) ∧ as.length = k.n ∧ (k = .beg ∨ OkT t) ∧ Pst C H p t pa un ∧ ∀ H', Same H H' → Q (.int (k.ref t as)) H'
section
variable {P : Program} {w : World} {K : PySem.W.Frag} {mg : Str → Option Value} {base : Heap} {C : Addr}
theorem scClaimRef : FnScope ["people", "w", "q"] ["people", "w", "q"] (defScope sClaimRef) := ⟨rfl, rfl, rfl, by decide +kernel, rfl, by decide +kernel, by decide +kernel⟩
theorem ok_claimRef {f : Addr} {fd : FuncData} (F : Fun K "claim_refusal" "claim_refusal" sClaimRef f fd) (T : Txt K C) (N : Cn mg) (DA : Def P w K mg base "always" 1 ["m"] spAlways) (DT : Def P w K mg base "is_told_in" 3 ["claim", "letters", "m"] spTold) : FnOk P w K mg base CX0 4 f fd ["people", "w", "q"] (spClaimRef C) := by
  refine F.ok scClaimRef (fun vs H Q E h => ?_) (fun cdv A outer s H vs Q E hr h => ?_)
  · obtain ⟨p, x, q, t, pa, un, rfl, _⟩ := h
    rfl
  · obtain ⟨p, x, q, t, pa, un, rfl, hx, ok, PS, k⟩ := h
    refine ⟨_, pss_cons (ps_if (pt_cmpR nn_gt (pv 2) (pe_d DA (hr.mono (by decide)) rfl (pa_cons (pe_fld (pv 0) rfl) pa_nil)) (nomark _)) (pss_one (ps_ret (pe_gi N.notRight rfl))) pss_nil)
      (pss_cons (ps_if (pt_not (pt_val (pe_d DT hr rfl (pa_cons (pv 2) (pa_cons (pe_ix ix_tup (pe_fld (pv 0) rfl) (pv 1) (fun _ _ => rfl)) (pa_cons (pe_fld (pv 0) rfl) pa_nil)))))) (pss_one (ps_ret (pe_gi N.notTold rfl))) pss_nil)
      (pss_one (ps_ret pe_int))), ?_⟩
    obtain ⟨dx, oL, kn, aP, aU, xs, ys, h1, h2, h3, _⟩ := PS.ex
    have ow := own_at (t := t) hx
    unfold refQ at k
    refine ⟨_, rfl, _, rfl, p, C, dx, _, _, rfl, h1, T.cl, T.nM, rfl, t.m, rfl, ok.m4, q, _, rfl, rfl, _, rfl, ?_⟩
    by_cases c : Kraa.full t.m < q
    · rw [if_pos c] at k
      rw [decide_eq_true c]
      exact iteT (k H (Same.refl H))
    rw [if_neg c] at k
    rw [decide_eq_false c]
    refine iteF ⟨_, rfl, _, rfl, p, C, dx, _, _, rfl, h1, T.cl, T.nO, rfl, _, rfl, oL, _, _, _, rfl, rfl, SqT.of h2, ow, _, rfl, p, C, dx, _, _, rfl, h1, T.cl, T.nM, rfl, q, t.own x, t.m, rfl, ok.m4, ok.own x, fun H1 s1 => ⟨_, rfl, ?_⟩⟩
    by_cases d : Kraa.keep t.m q (t.own x) = q
    · rw [if_pos d] at k
      rw [decide_eq_true d]
      exact iteF (k H1 s1)
    · rw [if_neg d] at k
      rw [decide_eq_false d]
      exact iteT (k H1 s1)
theorem scLettersRef : FnScope ["people", "s", "must_be_shared"] ["people", "s", "must_be_shared"] (defScope sLettersRef) := ⟨rfl, rfl, rfl, by decide +kernel, rfl, by decide +kernel, by decide +kernel⟩
theorem ok_lettersRef {f : Addr} {fd : FuncData} (F : Fun K "letters_refusal" "letters_refusal" sLettersRef f fd) (T : Txt K C) (N : Cn mg) (DA : DAll P w K mg base) (DC : Met P w K mg base C "common_letters" 1 ["self"] (spCommon C)) : FnOk P w K mg base CX0 2 f fd ["people", "s", "must_be_shared"] (spLettersRef C) := by
  refine F.ok scLettersRef (fun vs H Q E h => ?_) (fun cdv A outer s H vs Q E hr h => ?_)
  · obtain ⟨p, x, b, t, pa, un, rfl, _⟩ := h
    rfl
  · obtain ⟨p, x, b, t, pa, un, rfl, ok, PS, k⟩ := h
    refine ⟨_, pss_cons (ps_if (pt_cmpR nn_gt (pv 1) (pe_d DA hr rfl (pa_cons (pe_fld (pv 0) rfl) pa_nil)) (nomark _)) (pss_one (ps_ret (pe_gi N.notRight rfl))) pss_nil)
      (pss_cons (ps_if (PW.pt (pw_and (pt_val (pv 2)) (pw_and1 (pt_cmpR nn_ne (pe_op nn_and (pv 1) (pe_md0 (pv 0) T.cl DC hr)) (pv 1) (nomark _))))) (pss_one (ps_ret (pe_gi N.notTold rfl))) pss_nil)
      (pss_one (ps_ret pe_int))), ?_⟩
    obtain ⟨dx, oL, kn, aP, aU, xs, ys, h1, h2, h3, _⟩ := PS.ex
    have p2 := Nat.two_pow_pos t.m
    unfold refS at k
    refine ⟨_, rfl, _, rfl, p, C, dx, _, _, rfl, h1, T.cl, T.nM, rfl, t.m, rfl, ok.m4, x, 2 ^ t.m - 1, rfl, rfl, _, rfl, ?_⟩
    by_cases c : 2 ^ t.m ≤ x
    · rw [if_pos c] at k
      rw [decide_eq_true (show 2 ^ t.m - 1 < x by omega)]
      exact iteT k
    rw [if_neg c] at k
    rw [decide_eq_false (show ¬ 2 ^ t.m - 1 < x by omega)]
    refine iteF ⟨_, rfl, b, rfl, ?_⟩
    cases b with
    | false =>
      rw [if_neg (by simp)] at k
      exact iteF (iteF k)
    | true =>
      refine iteT ⟨_, rfl, _, rfl, p, dx, _, rfl, h1, rfl, p, t, _, _, rfl, PS, x, _, rfl, rfl, _, rfl, _, x, rfl, rfl, _, rfl, ?_⟩
      show if (!decide (x &&& t.shared = x)) = true then _ else _
      by_cases d : x &&& t.shared = x
      · rw [if_neg (fun z => z.2 d)] at k
        exact iteNS d k
      · rw [if_pos ⟨rfl, d⟩] at k
        rw [decide_eq_false d]
        exact iteT k
theorem iteTb {c : Bool} {A B : Prop} (e : c = true) (h : A) : if c = true then A else B := by
  rw [if_pos e]
  exact h
theorem iteFb {c : Bool} {A B : Prop} (e : c = false) (h : B) : if c = true then A else B := by
  rw [e]
  exact iteF h
theorem scPersonRef : FnScope ["people", "form", "given"] ["people", "form", "given"] (defScope sPersonRef) := ⟨rfl, rfl, rfl, by decide +kernel, rfl, by decide +kernel, by decide +kernel⟩
theorem ok_refusal {f : Addr} {fd : FuncData} (F : Fun K "refusal_of" "refusal_of" sPersonRef f fd) (T : Txt K C) (N : Cn mg) (DC : Def P w K mg base "claim_refusal" 4 ["people", "w", "q"] (spClaimRef C)) (DL : Def P w K mg base "letters_refusal" 2 ["people", "s", "must_be_shared"] (spLettersRef C)) :
    FnOk P w K mg base CX0 5 f fd ["people", "form", "given"] (spRefusal C) := by
  refine F.ok scPersonRef (fun vs H Q E h => ?_) (fun cdv A outer s H vs Q E hr h => ?_)
  · obtain ⟨p, g, kk, as, t, pa, un, rfl, _⟩ := h
    rfl
  · obtain ⟨p, g, kk, as, t, pa, un, rfl, hg, la, okb, PS, k⟩ := h
    refine ⟨_, pss_cons (ps_if (PW.pt (pw_and (pt_val (pe_m1 PySem.F.slot_str_startswith PySem.F.type_str_startswith mt_startswith (pv 1) pe_str)) (pw_and1 (pt_cmpR nn_gt (pe_ix ix_list (pv 2) pe_int (fun _ _ => rfl)) pe_int (nomark _))))) (pss_one (ps_ret (pe_gi N.noSuch rfl))) pss_nil)
      (pss_cons (ps_if (pt_cmpR op_eq (pv 1) pe_str (nomark _)) (pss_one (ps_ret (pe_d DC hr rfl (pa_cons (pv 0) (pa_cons (pe_ix ix_list (pv 2) pe_int (fun _ _ => rfl)) (pa_cons (pe_ix ix_list (pv 2) pe_int (fun _ _ => rfl)) pa_nil)))))) pss_nil)
      (pss_cons (ps_if (pt_cmpR op_eq (pv 1) pe_str (nomark _)) (pss_one (ps_ret (pe_d DL (hr.mono (by decide)) rfl (pa_cons (pv 0) (pa_cons (pe_ix ix_list (pv 2) pe_int (fun _ _ => rfl)) (pa_cons pe_bl pa_nil)))))) pss_nil)
      (pss_cons (ps_if (pt_cmpR op_eq (pv 1) pe_str (nomark _)) (pss_one (ps_ret (pe_d DL (hr.mono (by decide)) rfl (pa_cons (pv 0) (pa_cons (pe_ix ix_list (pv 2) pe_int (fun _ _ => rfl)) (pa_cons pe_bl pa_nil)))))) pss_nil)
      (pss_cons (ps_if (pt_cmpR op_eq (pv 1) pe_str (nomark _)) (pss_one (ps_ret (pe_d DL (hr.mono (by decide)) rfl (pa_cons (pv 0) (pa_cons (pe_ix ix_list (pv 2) pe_int (fun _ _ => rfl)) (pa_cons pe_bl pa_nil)))))) pss_nil)
      (pss_cons (ps_if (PW.pt (pw_and (pt_cmpR op_eq (pv 1) pe_str (nomark _)) (pw_and1 (pt_cmpR nn_ge (pe_ix ix_list (pv 2) pe_int (fun _ _ => rfl)) (pe_fld (pv 0) rfl) (nomark _))))) (pss_one (ps_ret (pe_gi N.noSuch rfl))) pss_nil)
      (pss_one (ps_ret pe_int))))))), ?_⟩
    obtain ⟨dx, oL, kn, aP, aU, xs, ys, h1, h2, h3, _⟩ := PS.ex
    refine ⟨_, rfl, ⟨_, rfl⟩, _, _, rfl, rfl, _, rfl, ?_⟩
    cases kk with
    | beg => exact iteFb (by decide) (iteF ⟨_, rfl, rfl, _, rfl, iteFb (by decide) ⟨_, rfl, rfl, _, rfl, iteFb (by decide) ⟨_, rfl, rfl, _, rfl, iteFb (by decide) ⟨_, rfl, rfl, _, rfl, iteFb (by decide) ⟨_, rfl, rfl, _, rfl, iteFb (by decide) (iteF (k H (Same.refl H)))⟩⟩⟩⟩⟩)
    | no => exact iteFb (by decide) (iteF ⟨_, rfl, rfl, _, rfl, iteFb (by decide) ⟨_, rfl, rfl, _, rfl, iteFb (by decide) ⟨_, rfl, rfl, _, rfl, iteFb (by decide) ⟨_, rfl, rfl, _, rfl, iteFb (by decide) ⟨_, rfl, rfl, _, rfl, iteFb (by decide) (iteF (k H (Same.refl H)))⟩⟩⟩⟩⟩)
    | set =>
      have ok : OkT t := okb.resolve_left (by intro z; cases z)
      match as, la with
      | [y], _ =>
        have hg : H g = some (.lst [nv y]) := hg
        exact iteFb (by decide) (iteF ⟨_, rfl, rfl, _, rfl, iteFb (by decide) ⟨_, rfl, rfl, _, rfl, iteFb (by decide) ⟨_, rfl, rfl, _, rfl, iteFb (by decide) ⟨_, rfl, rfl, _, rfl, iteTb (by decide) ⟨_, rfl, _, rfl, g, _, _, _, rfl, rfl, SqL.of hg, (show atI [nv y] 0 = some (nv y) from rfl), p, y, true, t, pa, un, rfl, ok, PS, k H (Same.refl H)⟩⟩⟩⟩⟩)
    | per f =>
      have ok : OkT t := okb.resolve_left (by intro z; cases z)
      obtain ⟨x, y, rfl⟩ := f.args_of la
      rw [Kd.ref_per] at k
      cases f with
      | w =>
        have hg : H g = some (.lst [nv x]) := hg
        have k : ∀ H', Same H H' → Q (.int (if 1 < x then -2 else 0)) H' := k
        refine iteTb (by decide) ⟨_, rfl, g, _, _, _, rfl, rfl, SqL.of hg, (show atI [nv x] 0 = some (nv x) from rfl), x, 1, rfl, rfl, _, rfl, ?_⟩
        by_cases c : 1 < x
        · rw [if_pos c] at k
          rw [decide_eq_true c]
          exact iteT (k H (Same.refl H))
        rw [if_neg c] at k
        rw [decide_eq_false c]
        exact iteF ⟨_, rfl, rfl, _, rfl, iteFb (by decide) ⟨_, rfl, rfl, _, rfl, iteFb (by decide) ⟨_, rfl, rfl, _, rfl, iteFb (by decide) ⟨_, rfl, rfl, _, rfl, iteFb (by decide) ⟨_, rfl, rfl, _, rfl, iteFb (by decide) (iteF (k H (Same.refl H)))⟩⟩⟩⟩⟩
      | wq =>
        have hg : H g = some (.lst [nv x, nv y]) := hg
        have k : ∀ H', Same H H' → Q (.int (if 1 < x then -2 else refQ t x y)) H' := k
        refine iteTb (by decide) ⟨_, rfl, g, _, _, _, rfl, rfl, SqL.of hg, (show atI [nv x, nv y] 0 = some (nv x) from rfl), x, 1, rfl, rfl, _, rfl, ?_⟩
        by_cases c : 1 < x
        · rw [if_pos c] at k
          rw [decide_eq_true c]
          exact iteT (k H (Same.refl H))
        rw [if_neg c] at k
        rw [decide_eq_false c]
        exact iteF ⟨_, rfl, rfl, _, rfl, iteTb (by decide) ⟨_, rfl, _, rfl, g, _, _, _, rfl, rfl, SqL.of hg, (show atI [nv x, nv y] 0 = some (nv x) from rfl), _, rfl, g, _, _, _, rfl, rfl, SqL.of hg, (show atI [nv x, nv y] 1 = some (nv y) from rfl), p, x, y, t, pa, un, rfl, (by omega), ok, PS, k⟩⟩
      | wf =>
        have hg : H g = some (.lst [nv x, nv y]) := hg
        have k : ∀ H', Same H H' → Q (.int (if 1 < x then -2 else refS t y false)) H' := k
        refine iteTb (by decide) ⟨_, rfl, g, _, _, _, rfl, rfl, SqL.of hg, (show atI [nv x, nv y] 0 = some (nv x) from rfl), x, 1, rfl, rfl, _, rfl, ?_⟩
        by_cases c : 1 < x
        · rw [if_pos c] at k
          rw [decide_eq_true c]
          exact iteT (k H (Same.refl H))
        rw [if_neg c] at k
        rw [decide_eq_false c]
        exact iteF ⟨_, rfl, rfl, _, rfl, iteFb (by decide) ⟨_, rfl, rfl, _, rfl, iteTb (by decide) ⟨_, rfl, _, rfl, g, _, _, _, rfl, rfl, SqL.of hg, (show atI [nv x, nv y] 1 = some (nv y) from rfl), p, y, false, t, pa, un, rfl, ok, PS, k H (Same.refl H)⟩⟩⟩
      | ws =>
        have hg : H g = some (.lst [nv x, nv y]) := hg
        have k : ∀ H', Same H H' → Q (.int (if 1 < x then -2 else refS t y true)) H' := k
        refine iteTb (by decide) ⟨_, rfl, g, _, _, _, rfl, rfl, SqL.of hg, (show atI [nv x, nv y] 0 = some (nv x) from rfl), x, 1, rfl, rfl, _, rfl, ?_⟩
        by_cases c : 1 < x
        · rw [if_pos c] at k
          rw [decide_eq_true c]
          exact iteT (k H (Same.refl H))
        rw [if_neg c] at k
        rw [decide_eq_false c]
        exact iteF ⟨_, rfl, rfl, _, rfl, iteFb (by decide) ⟨_, rfl, rfl, _, rfl, iteFb (by decide) ⟨_, rfl, rfl, _, rfl, iteTb (by decide) ⟨_, rfl, _, rfl, g, _, _, _, rfl, rfl, SqL.of hg, (show atI [nv x, nv y] 1 = some (nv y) from rfl), p, y, true, t, pa, un, rfl, ok, PS, k H (Same.refl H)⟩⟩⟩⟩
      | wi =>
        have hg : H g = some (.lst [nv x, nv y]) := hg
        have k : ∀ H', Same H H' → Q (.int (if 1 < x then -2 else if t.m ≤ y then -2 else 0)) H' := k
        refine iteTb (by decide) ⟨_, rfl, g, _, _, _, rfl, rfl, SqL.of hg, (show atI [nv x, nv y] 0 = some (nv x) from rfl), x, 1, rfl, rfl, _, rfl, ?_⟩
        by_cases c : 1 < x
        · rw [if_pos c] at k
          rw [decide_eq_true c]
          exact iteT (k H (Same.refl H))
        rw [if_neg c] at k
        rw [decide_eq_false c]
        refine iteF ⟨_, rfl, rfl, _, rfl, iteFb (by decide) ⟨_, rfl, rfl, _, rfl, iteFb (by decide) ⟨_, rfl, rfl, _, rfl, iteFb (by decide) ⟨_, rfl, rfl, _, rfl, iteFb (by decide) ⟨_, rfl, rfl, _, rfl, iteTb (by decide) ⟨_, rfl, g, _, _, _, rfl, rfl, SqL.of hg, (show atI [nv x, nv y] 1 = some (nv y) from rfl), _, rfl, p, C, dx, _, _, rfl, h1, T.cl, T.nM, rfl, y, t.m, rfl, rfl, _, rfl, ?_⟩⟩⟩⟩⟩⟩
        by_cases d : t.m ≤ y
        · rw [if_pos d] at k
          rw [decide_eq_true d]
          exact iteT (k H (Same.refl H))
        · rw [if_neg d] at k
          rw [decide_eq_false d]
          exact iteF (k H (Same.refl H))
end
end Sw
end

section
set_option Elab.async false
set_option linter.all false
set_option maxRecDepth 100000
set_option maxHeartbeats 2000000
namespace Sw
open PySem PySem.Spec PyProof.Rows L2
/-! ### the calls by their numbers -/
def kd : Nat → Kd
  | 0 => .beg
  | 1 => .per .wq | 2 => .per .wf | 3 => .per .wq | 4 => .per .w | 5 => .per .ws | 6 => .per .wi
  | 7 => .no | 8 => .no | 9 => .per .w | 10 => .per .wq | 11 => .per .wq | 12 => .no | 13 => .per .w | 14 => .per .ws
  | 15 => .per .ws | 16 => .per .w | 17 => .per .wq | 18 => .per .wq | 19 => .per .wq | 20 => .no | 21 => .no | 22 => .no | 23 => .no
  | 24 => .set | 25 => .per .w | 26 => .per .w | 27 => .per .w | 28 => .per .w
  | _ => .no
/-- a call, as the specification reads it -/
def mk (n : Nat) (as : List Nat) : Kraf.Call := KrafNeutral.call [(n :: as).map fun (x : Nat) => (x : Int)]
theorem act_none : ∀ {n : Nat} (h0 : n ≠ 0) (as : List Nat), Kraf.act none (mk n as) = (none, Kraf.say (-11))
  | 0, h, _ => absurd rfl h
  | 1, _, _ => rfl
  | 2, _, _ => rfl
  | 3, _, _ => rfl
  | 4, _, _ => rfl
  | 5, _, _ => rfl
  | 6, _, _ => rfl
  | 7, _, _ => rfl
  | 8, _, _ => rfl
  | 9, _, _ => rfl
  | 10, _, _ => rfl
  | 11, _, _ => rfl
  | 12, _, _ => rfl
  | 13, _, _ => rfl
  | 14, _, _ => rfl
  | 15, _, _ => rfl
  | 16, _, _ => rfl
  | 17, _, _ => rfl
  | 18, _, _ => rfl
  | 19, _, _ => rfl
  | 20, _, _ => rfl
  | 21, _, _ => rfl
  | 22, _, _ => rfl
  | 23, _, _ => rfl
  | 24, _, _ => rfl
  | 25, _, _ => rfl
  | 26, _, _ => rfl
  | 27, _, _ => rfl
  | 28, _, _ => rfl
  | n + 29, _, _ => rfl
theorem act_some : ∀ {n : Nat} (h0 : n ≠ 0) (as : List Nat) (W : Kraf.World), Kraf.act (some W) (mk n as) = (some (W.does (mk n as)).1, (W.does (mk n as)).2)
  | 0, h, _, _ => absurd rfl h
  | 1, _, _, _ => rfl
  | 2, _, _, _ => rfl
  | 3, _, _, _ => rfl
  | 4, _, _, _ => rfl
  | 5, _, _, _ => rfl
  | 6, _, _, _ => rfl
  | 7, _, _, _ => rfl
  | 8, _, _, _ => rfl
  | 9, _, _, _ => rfl
  | 10, _, _, _ => rfl
  | 11, _, _, _ => rfl
  | 12, _, _, _ => rfl
  | 13, _, _, _ => rfl
  | 14, _, _, _ => rfl
  | 15, _, _, _ => rfl
  | 16, _, _, _ => rfl
  | 17, _, _, _ => rfl
  | 18, _, _, _ => rfl
  | 19, _, _, _ => rfl
  | 20, _, _, _ => rfl
  | 21, _, _, _ => rfl
  | 22, _, _, _ => rfl
  | 23, _, _, _ => rfl
  | 24, _, _, _ => rfl
  | 25, _, _, _ => rfl
  | 26, _, _, _ => rfl
  | 27, _, _, _ => rfl
  | 28, _, _, _ => rfl
  | n + 29, _, _, _ => rfl
theorem refused_w {W : Kraf.World} {x : Nat} (h : 1 < x) (c : Kraf.Call) (hc : c = .tell x ∨ c = .knows x ∨ c = .own x ∨ c = .would x ∨ c = .parts x ∨ c = .matter x ∨ c = .settles x ∨ c = .unsure x) : W.does c = (W, Kraf.say (-2)) := by
  rcases hc with rfl | rfl | rfl | rfl | rfl | rfl | rfl | rfl <;> simp [Kraf.World.does, h]
theorem refused_wq {W : Kraf.World} {x q : Nat} (h : Frm.ref W.p .wq x q ≠ 0) (c : Kraf.Call) (hc : c = .learn x q ∨ c = .revise x q ∨ c = .follows x q ∨ c = .open_ x q ∨ c = .could x q ∨ c = .asks x q ∨ c = .safe x q) : W.does c = (W, Kraf.say (Frm.ref W.p .wq x q)) := by
  have h : (if 1 < x then (-2 : Int) else refQ W.p x q) ≠ 0 := h
  show _ = (W, Kraf.say (if 1 < x then (-2 : Int) else refQ W.p x q))
  unfold refQ at h ⊢
  by_cases c1 : 1 < x
  · rw [if_pos c1]
    rcases hc with rfl | rfl | rfl | rfl | rfl | rfl | rfl <;> simp [Kraf.World.does, c1]
  · rw [if_neg c1] at h ⊢
    by_cases c2 : Kraa.full W.p.m < q
    · rw [if_pos c2]
      rcases hc with rfl | rfl | rfl | rfl | rfl | rfl | rfl <;> simp [Kraf.World.does, c1, c2]
    · rw [if_neg c2] at h ⊢
      by_cases c3 : Kraa.keep W.p.m q (W.p.own x) = q
      · rw [if_pos c3] at h
        exact absurd rfl h
      · rw [if_neg c3]
        have e : W.p.told (W.p.own x) q = false := by
          rw [told_eq]
          exact beq_eq_false_iff_ne.mpr c3
        rcases hc with rfl | rfl | rfl | rfl | rfl | rfl | rfl <;> simp [Kraf.World.does, c1, c2, e]
theorem refused_ws {W : Kraf.World} {x s : Nat} (h : Frm.ref W.p .ws x s ≠ 0) (c : Kraf.Call) (hc : c = .tellOf x s ∨ c = .tells x s ∨ c = .news x s) : W.does c = (W, Kraf.say (Frm.ref W.p .ws x s)) := by
  have h : (if 1 < x then (-2 : Int) else refS W.p s true) ≠ 0 := h
  show _ = (W, Kraf.say (if 1 < x then (-2 : Int) else refS W.p s true))
  unfold refS at h ⊢
  by_cases c1 : 1 < x
  · rw [if_pos c1]
    rcases hc with rfl | rfl | rfl <;> simp [Kraf.World.does, c1]
  · rw [if_neg c1] at h ⊢
    by_cases c2 : 2 ^ W.p.m ≤ s
    · rw [if_pos c2]
      rcases hc with rfl | rfl | rfl <;> simp [Kraf.World.does, c1, c2]
    · rw [if_neg c2] at h ⊢
      by_cases c3 : s &&& W.p.shared = s
      · rw [if_neg (fun z => z.2 c3)] at h
        exact absurd rfl h
      · rw [if_pos ⟨rfl, c3⟩]
        rcases hc with rfl | rfl | rfl <;> simp [Kraf.World.does, c1, c2, c3]
theorem refused_wf {W : Kraf.World} {x s : Nat} (h : Frm.ref W.p .wf x s ≠ 0) : W.does (.forget x s) = (W, Kraf.say (Frm.ref W.p .wf x s)) := by
  have h : (if 1 < x then (-2 : Int) else refS W.p s false) ≠ 0 := h
  show _ = (W, Kraf.say (if 1 < x then (-2 : Int) else refS W.p s false))
  unfold refS at h ⊢
  by_cases c1 : 1 < x
  · rw [if_pos c1]
    simp [Kraf.World.does, c1]
  · rw [if_neg c1] at h ⊢
    by_cases c2 : 2 ^ W.p.m ≤ s
    · rw [if_pos c2]
      simp [Kraf.World.does, c1, c2]
    · rw [if_neg c2, if_neg (fun z => by cases z.1)] at h
      exact absurd rfl h
theorem refused_wi {W : Kraf.World} {x s : Nat} (h : Frm.ref W.p .wi x s ≠ 0) : W.does (.teach x s) = (W, Kraf.say (Frm.ref W.p .wi x s)) := by
  have h : (if 1 < x then (-2 : Int) else if W.p.m ≤ s then -2 else 0) ≠ 0 := h
  show _ = (W, Kraf.say (if 1 < x then (-2 : Int) else if W.p.m ≤ s then -2 else 0))
  by_cases c1 : 1 < x
  · rw [if_pos c1]
    simp [Kraf.World.does, c1]
  · rw [if_neg c1] at h ⊢
    by_cases c2 : W.p.m ≤ s
    · rw [if_pos c2]
      simp [Kraf.World.does, c1, c2]
    · rw [if_neg c2] at h
      exact absurd rfl h
theorem refused_w' {W : Kraf.World} {x y : Nat} (h : Frm.ref W.p .w x y ≠ 0) (c : Kraf.Call) (hc : c = .tell x ∨ c = .knows x ∨ c = .own x ∨ c = .would x ∨ c = .parts x ∨ c = .matter x ∨ c = .settles x ∨ c = .unsure x) : W.does c = (W, Kraf.say (Frm.ref W.p .w x y)) := by
  have h : (if 1 < x then (-2 : Int) else 0) ≠ 0 := h
  show _ = (W, Kraf.say (if 1 < x then (-2 : Int) else 0))
  by_cases c1 : 1 < x
  · rw [if_pos c1]
    exact refused_w c1 c hc
  · rw [if_neg c1] at h
    exact absurd rfl h
theorem refused {W : Kraf.World} {f : Frm} {x y : Nat} (h : f.ref W.p x y ≠ 0) : ∀ {n : Nat}, kd n = .per f → W.does (mk n (f.args x y)) = (W, Kraf.say (f.ref W.p x y))
  | 0, e => by cases e
  | 1, e => by cases e; exact refused_wq h _ (.inl rfl)
  | 2, e => by cases e; exact refused_wf h
  | 3, e => by cases e; exact refused_wq h _ (.inr (.inl rfl))
  | 4, e => by cases e; exact refused_w' h _ (.inl rfl)
  | 5, e => by cases e; exact refused_ws h _ (.inl rfl)
  | 6, e => by cases e; exact refused_wi h
  | 7, e => by cases e
  | 8, e => by cases e
  | 9, e => by cases e; exact refused_w' h _ (.inr (.inl rfl))
  | 10, e => by cases e; exact refused_wq h _ (.inr (.inr (.inl rfl)))
  | 11, e => by cases e; exact refused_wq h _ (.inr (.inr (.inr (.inl rfl))))
  | 12, e => by cases e
  | 13, e => by cases e; exact refused_w' h _ (.inr (.inr (.inl rfl)))
  | 14, e => by cases e; exact refused_ws h _ (.inr (.inl rfl))
  | 15, e => by cases e; exact refused_ws h _ (.inr (.inr (rfl)))
  | 16, e => by cases e; exact refused_w' h _ (.inr (.inr (.inr (.inl rfl))))
  | 17, e => by cases e; exact refused_wq h _ (.inr (.inr (.inr (.inr (.inl rfl)))))
  | 18, e => by cases e; exact refused_wq h _ (.inr (.inr (.inr (.inr (.inr (.inl rfl))))))
  | 19, e => by cases e; exact refused_wq h _ (.inr (.inr (.inr (.inr (.inr (.inr (rfl)))))))
  | 20, e => by cases e
  | 21, e => by cases e
  | 22, e => by cases e
  | 23, e => by cases e
  | 24, e => by cases e
  | 25, e => by cases e; exact refused_w' h _ (.inr (.inr (.inr (.inr (.inl rfl)))))
  | 26, e => by cases e; exact refused_w' h _ (.inr (.inr (.inr (.inr (.inr (.inl rfl))))))
  | 27, e => by cases e; exact refused_w' h _ (.inr (.inr (.inr (.inr (.inr (.inr (.inl rfl)))))))
  | 28, e => by cases e; exact refused_w' h _ (.inr (.inr (.inr (.inr (.inr (.inr (.inr (rfl))))))))
  | n + 29, e => by cases e
theorem refused_s {W : Kraf.World} {s : Nat} (h : refS W.p s true ≠ 0) : W.does (.agreed s) = (W, Kraf.say (refS W.p s true)) := by
  unfold refS at h ⊢
  by_cases c2 : 2 ^ W.p.m ≤ s
  · rw [if_pos c2]
    simp [Kraf.World.does, c2]
  · rw [if_neg c2] at h ⊢
    by_cases c3 : s &&& W.p.shared = s
    · rw [if_neg (fun z => z.2 c3)] at h
      exact absurd rfl h
    · rw [if_pos ⟨rfl, c3⟩]
      simp [Kraf.World.does, c2, c3]
theorem kd0 {n : Nat} : kd n = .beg → n = 0 := by
  unfold kd
  split <;> first | (intro _; rfl) | (intro h; cases h)
theorem kd24 {n : Nat} : kd n = .set → n = 24 := by
  unfold kd
  split <;> first | (intro _; rfl) | (intro h; cases h)
theorem refusedK {W : Kraf.World} {n : Nat} {as : List Nat} (h0 : n ≠ 0) (la : as.length = (kd n).n) (h : (kd n).ref W.p as ≠ 0) : W.does (mk n as) = (W, Kraf.say ((kd n).ref W.p as)) := by
  cases hk : kd n with
  | beg => exact absurd (kd0 hk) h0
  | no =>
    rw [hk] at h
    exact absurd rfl h
  | set =>
    rw [hk] at h la
    obtain rfl := kd24 hk
    match as, la with
    | [s], _ => exact refused_s h
  | per f =>
    rw [hk] at h la
    obtain ⟨x, y, rfl⟩ := f.args_of la
    rw [Kd.ref_per] at h ⊢
    exact refused h hk
/-! ### a call is carried out -/
def spCarry (P : Program) (w : World) (K : PySem.W.Frag) (mg : Str → Option Value) (base : Heap) : Sp := fun vs H Q _ => ∃ (p f g : Addr) (as : List Nat) (k : Nat) (fd : FuncData) (ps : List Str) (sp : Sp), vs = [.ref p, .ref f, .ref g] ∧ H g = some (.lst (nvs as)) ∧ as.length ≤ 3 ∧ k ≤ 8 ∧
  PySem.W.keepIn K (.ref f) = true ∧ FnOk P w K mg base CX0 k f fd ps sp ∧ Binds K fd ps [] ∧ sp (.ref p :: nvs as) H Q E0
section
variable {P : Program} {w : World} {K : PySem.W.Frag} {mg : Str → Option Value} {base : Heap} {C : Addr}
theorem scCarry : FnScope ["people", "call", "given"] ["people", "call", "given"] (defScope sCarry) := ⟨rfl, rfl, rfl, by decide +kernel, rfl, by decide +kernel, by decide +kernel⟩
theorem ok_carry {f : Addr} {fd : FuncData} (F : Fun K "carry_out" "carry_out" sCarry f fd) (N : Cn mg) : FnOk P w K mg base CX0 9 f fd ["people", "call", "given"] (spCarry P w K mg base) := by
  refine F.ok scCarry (fun vs H Q E h => ?_) (fun cdv A outer s H vs Q E hr h => ?_)
  · obtain ⟨p, f, g, as, k, fd, ps, sp, rfl, _⟩ := h
    rfl
  · obtain ⟨p, f', g, as, k, fd', ps, sp, rfl, hg, l3, k8, kp, Ff, b, q⟩ := h
    have hr' : Room k _ := hr.mono k8
    refine ⟨_, pss_cons (ps_if (pt_cmpR nn_eq (pe_callB call_len_seq (by rfl) N.len PySem.boot_len (pa_cons (pv 2) pa_nil)) pe_int (nomark _)) (pss_one (ps_ret (pe_callV (pv 1) (pa_cons (pv 0) pa_nil)))) pss_nil)
      (pss_cons (ps_if (pt_cmpR nn_eq (pe_callB call_len_seq (by rfl) N.len PySem.boot_len (pa_cons (pv 2) pa_nil)) pe_int (nomark _)) (pss_one (ps_ret (pe_callV (pv 1) (pa_cons (pv 0) (pa_cons (pe_ix ix_list (pv 2) pe_int (fun _ _ => rfl)) pa_nil))))) pss_nil)
      (pss_cons (ps_if (pt_cmpR nn_eq (pe_callB call_len_seq (by rfl) N.len PySem.boot_len (pa_cons (pv 2) pa_nil)) pe_int (nomark _)) (pss_one (ps_ret (pe_callV (pv 1) (pa_cons (pv 0) (pa_cons (pe_ix ix_list (pv 2) pe_int (fun _ _ => rfl)) (pa_cons (pe_ix ix_list (pv 2) pe_int (fun _ _ => rfl)) pa_nil)))))) pss_nil)
      (pss_one (ps_ret (pe_callV (pv 1) (pa_cons (pv 0) (pa_cons (pe_ix ix_list (pv 2) pe_int (fun _ _ => rfl)) (pa_cons (pe_ix ix_list (pv 2) pe_int (fun _ _ => rfl)) (pa_cons (pe_ix ix_list (pv 2) pe_int (fun _ _ => rfl)) pa_nil))))))))), ?_⟩
    match as, l3 with
    | [], _ => exact ⟨_, rfl, g, _, rfl, .inl (SqL.of hg), 0, 0, rfl, rfl, _, rfl, iteTb rfl ⟨_, rfl, f', k, fd', ps, sp, rfl, kp, Ff, hr', b, _, rfl, q⟩⟩
    | [x], _ => exact ⟨_, rfl, g, _, rfl, .inl (SqL.of hg), 1, 0, rfl, rfl, _, rfl, iteFb rfl ⟨_, rfl, g, _, rfl, .inl (SqL.of hg), 1, 1, rfl, rfl, _, rfl, iteTb rfl ⟨_, rfl, f', k, fd', ps, sp, rfl, kp, Ff, hr', b, _, rfl,
        _, rfl, g, _, _, _, rfl, rfl, SqL.of hg, (show atI [nv x] 0 = some (nv x) from rfl), q⟩⟩⟩
    | [x, y], _ => exact ⟨_, rfl, g, _, rfl, .inl (SqL.of hg), 2, 0, rfl, rfl, _, rfl, iteFb rfl ⟨_, rfl, g, _, rfl, .inl (SqL.of hg), 2, 1, rfl, rfl, _, rfl, iteFb rfl ⟨_, rfl, g, _, rfl, .inl (SqL.of hg), 2, 2, rfl, rfl, _, rfl, iteTb rfl ⟨_, rfl, f', k, fd', ps, sp, rfl, kp, Ff, hr', b, _, rfl,
        _, rfl, g, _, _, _, rfl, rfl, SqL.of hg, (show atI [nv x, nv y] 0 = some (nv x) from rfl), _, rfl, g, _, _, _, rfl, rfl, SqL.of hg, (show atI [nv x, nv y] 1 = some (nv y) from rfl), q⟩⟩⟩⟩
    | [x, y, z], _ => exact ⟨_, rfl, g, _, rfl, .inl (SqL.of hg), 3, 0, rfl, rfl, _, rfl, iteFb rfl ⟨_, rfl, g, _, rfl, .inl (SqL.of hg), 3, 1, rfl, rfl, _, rfl, iteFb rfl ⟨_, rfl, g, _, rfl, .inl (SqL.of hg), 3, 2, rfl, rfl, _, rfl, iteFb rfl ⟨_, rfl, f', k, fd', ps, sp, rfl, kp, Ff, hr', b, _, rfl,
        _, rfl, g, _, _, _, rfl, rfl, SqL.of hg, (show atI [nv x, nv y, nv z] 0 = some (nv x) from rfl), _, rfl, g, _, _, _, rfl, rfl, SqL.of hg, (show atI [nv x, nv y, nv z] 1 = some (nv y) from rfl), _, rfl, g, _, _, _, rfl, rfl, SqL.of hg, (show atI [nv x, nv y, nv z] 2 = some (nv z) from rfl), q⟩⟩⟩⟩
end
/-! ### a call's promise, whatever its number -/
def PreK (n : Nat) (o : Option Kraf.World) (as : List Nat) : Prop := match kd n with
  | .beg => ∃ m a b, as = [m, a, b]
  | .no => as = [] ∧ ∃ W, o = some W
  | .set => ∃ s W, as = [s] ∧ o = some W ∧ pS W.p s
  | .per f => ∃ x y W, o = some W ∧ as = f.args x y ∧ f.pre W.p x y
theorem pre_of {W : Kraf.World} {n : Nat} {as : List Nat} (h0 : n ≠ 0) (la : as.length = (kd n).n) (h : (kd n).ref W.p as = 0) : PreK n (some W) as := by
  unfold PreK
  cases hk : kd n with
  | beg => exact absurd (kd0 hk) h0
  | no =>
    rw [hk] at la
    match as, la with
    | [], _ => exact ⟨rfl, W, rfl⟩
  | set =>
    rw [hk] at h la
    match as, la with
    | [s], _ =>
      refine ⟨s, W, rfl, rfl, ?_⟩
      have h : refS W.p s true = 0 := h
      unfold refS at h
      by_cases d : 2 ^ W.p.m ≤ s
      · rw [if_pos d] at h; cases h
      · rw [if_neg d] at h
        by_cases e : s &&& W.p.shared = s
        · exact ⟨by omega, e⟩
        · rw [if_pos ⟨rfl, e⟩] at h; cases h
  | per f =>
    rw [hk] at h la
    obtain ⟨x, y, rfl⟩ := f.args_of la
    rw [Kd.ref_per] at h
    exact ⟨x, y, W, rfl, rfl, f.pre_of h⟩
def CallOk (P : Program) (w : World) (K : PySem.W.Frag) (mg : Str → Option Value) (base : Heap) (C : Addr) (n : Nat) (f : Addr) : Prop :=
  ∃ (k : Nat) (fd : FuncData) (ps : List Str) (sp : Sp), k ≤ 8 ∧ PySem.W.keepIn K (.ref f) = true ∧ FnOk P w K mg base CX0 k f fd ps sp ∧ Binds K fd ps [] ∧
    ∀ (p : Addr) (as : List Nat) (H : Hp) (Q : VK) (o : Option Kraf.World), PreK n o as → StO C H p o → (∀ H' l, ResO C p H (Kraf.act o (mk n as)) H' l → Q (.ref l) H') → sp (.ref p :: nvs as) H Q E0
def spAnswerOf (C : Addr) (N : Nat) : Sp := fun vs H Q _ => ∃ (p g : Addr) (n : Nat) (as : List Nat) (o : Option Kraf.World), vs = [.ref p, nv n, .ref g] ∧ n < N ∧ H g = some (.lst (nvs as)) ∧ as.length = (kd n).n ∧ StO C H p o ∧ ¬ Foot p H g ∧ ∀ H' l, ResO C p H (Kraf.act o (mk n as)) H' l → Q (.ref l) H'
section
variable {P : Program} {w : World} {K : PySem.W.Frag} {mg : Str → Option Value} {base : Heap} {C : Addr}
theorem atI_at {α : Type} {xs : List α} {n : Nat} {v : α} (h : xs[n]? = some v) : atI xs (n : Int) = some v := atI_nat h
theorem scAnswerOf : FnScope ["people", "number", "given", "form", "refusal"] ["people", "number", "given"] (defScope sAnswerOf) := ⟨rfl, rfl, rfl, by decide +kernel, rfl, by decide +kernel, by decide +kernel⟩
theorem ok_answerOf {f aF aC : Addr} {fd : FuncData} (F : Fun K "answer_of" "answer_of" sAnswerOf f fd) (T : Txt K C) (N : Cn mg) {forms : List Str} {calls : List Addr} (hF : mg "FORMS" = some (.ref aF)) (tF : ∀ H : Hp, SqT K H aF (forms.map V.str)) (eF : ∀ n, n < calls.length → forms[n]? = some (kd n).str)
    (hC : mg "CALLS" = some (.ref aC)) (tC : ∀ H : Hp, SqT K H aC (calls.map V.ref)) (eC : ∀ n c, calls[n]? = some c → CallOk P w K mg base C n c)
    (DP : Def P w K mg base "refusal_of" 5 ["people", "form", "given"] (spRefusal C)) (DC : Def P w K mg base "carry_out" 9 ["people", "call", "given"] (spCarry P w K mg base)) : FnOk P w K mg base CX0 10 f fd ["people", "number", "given"] (spAnswerOf C calls.length) := by
  refine F.ok scAnswerOf (fun vs H Q E h => ?_) (fun cdv A outer s H vs Q E hr h => ?_)
  · obtain ⟨p, g, n, as, o, rfl, _⟩ := h
    rfl
  · obtain ⟨p, g, n, as, o, rfl, hn, hg, la, S, fg, k⟩ := h
    refine ⟨_, pss_cons (ps_set (i := 3) scAnswerOf.nd rfl (Or.inl rfl) (pe_ix ix_tup (pe_glob (v := .ref aF) rfl hF rfl) (pv 1) (fun _ _ => rfl)))
      (pss_cons (ps_if (PW.pt (pw_and (pt_cmpR nn_ne (pv 1) (pe_gi N.begin_ rfl) (nomark _)) (pw_and1 (pt_cmpR nn_eq (pe_fld (pv 0) rfl) pe_int (nomark _))))) (pss_one (ps_ret (pe_lst (pa_cons (pe_gi N.notBegun rfl) pa_nil)))) pss_nil)
      (pss_cons (ps_set (i := 4) scAnswerOf.nd rfl (Or.inl rfl) (pe_d DP (hr.mono (by decide)) rfl (pa_cons (pv 0) (pa_cons (pv 3) (pa_cons (pv 2) pa_nil)))))
      (pss_cons (ps_if (pt_cmpR op_ne (pv 4) pe_int (nomark _)) (pss_one (ps_ret (pe_lst (pa_cons (pv 4) pa_nil)))) pss_nil)
      (pss_one (ps_ret (pe_d DC hr rfl (pa_cons (pv 0) (pa_cons (pe_ix ix_tup (pe_glob (v := .ref aC) rfl hC rfl) (pv 1) (fun _ _ => rfl)) (pa_cons (pv 2) pa_nil))))))))), ?_⟩
    obtain ⟨c, hc⟩ : ∃ c, calls[n]? = some c := ⟨_, List.getElem?_eq_getElem hn⟩
    have fn : atI (forms.map V.str) (n : Int) = some (.str (kd n).str) := atI_nat (by rw [List.getElem?_map, eF n hn]; rfl)
    have cn : atI (calls.map V.ref) (n : Int) = some (.ref c) := atI_nat (by rw [List.getElem?_map, hc]; rfl)
    obtain ⟨kk, fd', ps, sp, k8, kp, Ff, bb, go⟩ := eC n c hc
    -- the last row, wherever it is reached
    have last : ∀ H1, Same H H1 → PreK n o as → sp (.ref p :: nvs as) H1 Q E0 := fun H1 s1 pk =>
      go p as H1 Q o pk (S.same s1) fun H' l r => k H' l (r.after (S.kp s1))
    have l3 : as.length ≤ 3 := by
      rw [la]
      cases kd n with
      | per f => cases f <;> decide
      | _ => decide
    refine ⟨_, rfl, aF, _, _, _, rfl, rfl, tF H, fn, _, rfl, n, 0, rfl, rfl, _, rfl, ?_⟩
    by_cases n0 : n = 0
    · subst n0
      obtain ⟨t, pa, un, PS, _⟩ := S.pst
      refine iteNS rfl (iteF ⟨_, rfl, _, rfl, _, rfl, p, g, kd 0, as, t, pa, un, rfl, hg, la, .inl rfl, PS, fun H1 s1 => ⟨_, rfl, rfl, _, rfl, iteNS rfl ?_⟩⟩)
      refine ⟨_, rfl, _, rfl, aC, _, _, _, rfl, rfl, tC H1, cn, _, rfl, p, c, g, as, kk, fd', ps, sp, rfl, s1 _ _ hg, l3, k8, kp, Ff, bb, last H1 s1 ?_⟩
      match as, la with
      | [m, a, b], _ => exact ⟨m, a, b, rfl⟩
    · rw [decide_eq_false n0]
      refine iteT ?_
      cases o with
      | none =>
        have PS : Pst C H p t0 [] [] := S
        obtain ⟨dx, oL, kn, aP, aU, xs, ys, h1, _⟩ := PS.ex
        refine ⟨_, rfl, p, C, dx, _, _, rfl, h1, T.cl, T.nM, rfl, 0, 0, rfl, rfl, _, rfl, iteTb rfl ⟨(by show 1 ≤ sizeLine; decide), fun l nl => k _ _ ?_⟩⟩
        rw [act_none n0]
        exact resO_new S (Kp.refl p H) nl rfl
      | some W =>
        have SW : StW C H p W := S
        obtain ⟨dx, oL, kn, aP, aU, xs, ys, h1, _⟩ := SW.st.ex
        have m1 := SW.good.t.m1
        refine ⟨_, rfl, p, C, dx, _, _, rfl, h1, T.cl, T.nM, rfl, W.p.m, 0, rfl, rfl, _, rfl, ?_⟩
        rw [decide_eq_false (show ¬ W.p.m = 0 by omega)]
        refine iteF ⟨_, rfl, _, rfl, _, rfl, p, g, kd n, as, W.p, _, _, rfl, hg, la, .inr SW.good.t, SW.st, fun H1 s1 => ⟨_, rfl, rfl, _, rfl, ?_⟩⟩
        by_cases r0 : (kd n).ref W.p as = 0
        · rw [r0]
          exact iteNS rfl ⟨_, rfl, _, rfl, aC, _, _, _, rfl, rfl, tC H1, cn, _, rfl, p, c, g, as, kk, fd', ps, sp, rfl, s1 _ _ hg, l3, k8, kp, Ff, bb, last H1 s1 (pre_of n0 la r0)⟩
        · rw [decide_eq_false (show ¬ V.int ((kd n).ref W.p as) = V.int 0 from fun z => r0 (by injection z))]
          refine iteT ⟨_, rfl, (by show 1 ≤ sizeLine; decide), fun l nl => k _ _ ?_⟩
          have e : Kraf.act (some W) (mk n as) = (some W, Kraf.say ((kd n).ref W.p as)) := by
            rw [act_some n0, refusedK n0 la r0]
          rw [e]
          exact resO_new (show StW C H1 p W from SW.same s1) (SW.st.kp s1) nl rfl
end
end Sw
end

section
set_option Elab.async false
set_option linter.all false
set_option maxRecDepth 100000
set_option maxHeartbeats 2000000
namespace Sw
open PySem PySem.Spec PyProof.Rows L2
/-! ### the list of calls, read as the specification reads it -/
abbrev zs (l : List Nat) : List Int := l.map fun (x : Nat) => (x : Int)
theorem nvs_zs (l : List Nat) : nvs l = (zs l).map V.int := by
  show List.map nv l = List.map V.int (List.map _ l)
  rw [List.map_map]
  rfl
theorem nats_of : ∀ (l : List Int), l.all (PySem.W.Codec.inInt 0 4294967295) = true → ∃ ls : List Nat, l = zs ls
  | [], _ => ⟨[], rfl⟩
  | z :: l, h => by
    rw [List.all_cons, Bool.and_eq_true] at h
    obtain ⟨ls, e⟩ := nats_of l h.2
    have h1 := (PySem.W.Codec.inInt_iff.mp h.1).1
    refine ⟨z.toNat :: ls, ?_⟩
    rw [e]
    show z :: zs ls = (z.toNat : Int) :: zs ls
    rw [Int.toNat_of_nonneg h1]
theorem shape_lt : ∀ {n : Nat}, n < 30 → PyKraf.shape (n : Int) = some ((kd n).n, 0)
  | 0, _ => rfl
  | 1, _ => rfl
  | 2, _ => rfl
  | 3, _ => rfl
  | 4, _ => rfl
  | 5, _ => rfl
  | 6, _ => rfl
  | 7, _ => rfl
  | 8, _ => rfl
  | 9, _ => rfl
  | 10, _ => rfl
  | 11, _ => rfl
  | 12, _ => rfl
  | 13, _ => rfl
  | 14, _ => rfl
  | 15, _ => rfl
  | 16, _ => rfl
  | 17, _ => rfl
  | 18, _ => rfl
  | 19, _ => rfl
  | 20, _ => rfl
  | 21, _ => rfl
  | 22, _ => rfl
  | 23, _ => rfl
  | 24, _ => rfl
  | 25, _ => rfl
  | 26, _ => rfl
  | 27, _ => rfl
  | 28, _ => rfl
  | 29, _ => rfl
  | n + 30, h => absurd h (by omega)
theorem shape_ge {n : Nat} (h : 30 ≤ n) : PyKraf.shape (n : Int) = none := by
  unfold PyKraf.shape
  rw [if_neg (show ¬ (n : Int) = 0 by omega), if_neg (show ¬ (n : Int) = 1 by omega), if_neg (show ¬ (n : Int) = 2 by omega), if_neg (show ¬ (n : Int) = 3 by omega), if_neg (show ¬ (n : Int) = 4 by omega), if_neg (show ¬ (n : Int) = 5 by omega), if_neg (show ¬ (n : Int) = 6 by omega), if_neg (show ¬ (n : Int) = 7 by omega), if_neg (show ¬ (n : Int) = 8 by omega), if_neg (show ¬ (n : Int) = 9 by omega), if_neg (show ¬ (n : Int) = 10 by omega), if_neg (show ¬ (n : Int) = 11 by omega), if_neg (show ¬ (n : Int) = 12 by omega), if_neg (show ¬ (n : Int) = 13 by omega), if_neg (show ¬ (n : Int) = 14 by omega), if_neg (show ¬ (n : Int) = 15 by omega), if_neg (show ¬ (n : Int) = 16 by omega), if_neg (show ¬ (n : Int) = 17 by omega), if_neg (show ¬ (n : Int) = 18 by omega), if_neg (show ¬ (n : Int) = 19 by omega), if_neg (show ¬ (n : Int) = 20 by omega), if_neg (show ¬ (n : Int) = 21 by omega), if_neg (show ¬ (n : Int) = 22 by omega), if_neg (show ¬ (n : Int) = 23 by omega), if_neg (show ¬ (n : Int) = 24 by omega), if_neg (show ¬ (n : Int) = 25 by omega), if_neg (show ¬ (n : Int) = 26 by omega), if_neg (show ¬ (n : Int) = 27 by omega), if_neg (show ¬ (n : Int) = 28 by omega), if_neg (show ¬ (n : Int) = 29 by omega)]
theorem calls_cons {f n : Nat} {r : List Nat} {cs : List (List (List Int))} (h : PyFlat.calls PyKraf.shape f (zs (n :: r)) = some cs) :
    ∃ g cs', f = g + 1 ∧ n < 30 ∧ (kd n).n ≤ r.length ∧ cs = [zs (n :: r.take (kd n).n)] :: cs' ∧ PyFlat.calls PyKraf.shape g (zs (r.drop (kd n).n)) = some cs' := by
  cases f with
  | zero => cases h
  | succ g =>
    have h : (match PyFlat.call PyKraf.shape ((n : Int) :: zs r) with | none => none | some (c, t) => match PyFlat.calls PyKraf.shape g t with | none => none | some cs => some (c :: cs)) = some cs := h
    by_cases c : n < 30
    · have e : PyFlat.call PyKraf.shape ((n : Int) :: zs r) = if (zs r).length < (kd n).n then none else some ([(n : Int) :: (zs r).take (kd n).n], (zs r).drop (kd n).n) := by
        show (match PyKraf.shape (n : Int) with | none => none | some (a, k) => if (zs r).length < a then none else match PyFlat.rows k ((zs r).drop a) with | none => none | some (xs, t) => some (((n : Int) :: (zs r).take a) :: xs, t)) = _
        rw [shape_lt c]
        rfl
      rw [e, List.length_map] at h
      by_cases d : r.length < (kd n).n
      · rw [if_pos d] at h
        cases h
      · rw [if_neg d] at h
        have h : (match PyFlat.calls PyKraf.shape g ((zs r).drop (kd n).n) with | none => none | some cs => some ([(n : Int) :: (zs r).take (kd n).n] :: cs)) = some cs := h
        cases q : PyFlat.calls PyKraf.shape g ((zs r).drop (kd n).n) with
        | none =>
          rw [q] at h
          cases h
        | some cs' =>
          rw [q] at h
          have h : some ([(n : Int) :: (zs r).take (kd n).n] :: cs') = some cs := h
          refine ⟨g, cs', rfl, c, by omega, ?_, ?_⟩
          · rw [← Option.some.inj h, ← List.map_take]
            rfl
          · have e3 : zs (r.drop (kd n).n) = (zs r).drop (kd n).n := List.map_drop
            rw [e3]
            exact q
    · have e : PyFlat.call PyKraf.shape ((n : Int) :: zs r) = none := by
        show (match PyKraf.shape (n : Int) with | none => none | some (a, k) => _) = none
        rw [shape_ge (by omega)]
      rw [e] at h
      cases h
theorem calls_nil {f : Nat} {cs : List (List (List Int))} (h : PyFlat.calls PyKraf.shape f (zs []) = some cs) : cs = [] := by
  cases f <;> (cases h; rfl)
theorem whole_id : ∀ {n : Nat} {as : List Nat}, n < 30 → as.length = (kd n).n → PyKraf.whole [zs (n :: as)] = [zs (n :: as)]
  | 0, [_, _, _], _, _ => rfl
  | 1, [_, _], _, _ => rfl
  | 2, [_, _], _, _ => rfl
  | 3, [_, _], _, _ => rfl
  | 4, [_], _, _ => rfl
  | 5, [_, _], _, _ => rfl
  | 6, [_, _], _, _ => rfl
  | 7, [], _, _ => rfl
  | 8, [], _, _ => rfl
  | 9, [_], _, _ => rfl
  | 10, [_, _], _, _ => rfl
  | 11, [_, _], _, _ => rfl
  | 12, [], _, _ => rfl
  | 13, [_], _, _ => rfl
  | 14, [_, _], _, _ => rfl
  | 15, [_, _], _, _ => rfl
  | 16, [_], _, _ => rfl
  | 17, [_, _], _, _ => rfl
  | 18, [_, _], _, _ => rfl
  | 19, [_, _], _, _ => rfl
  | 20, [], _, _ => rfl
  | 21, [], _, _ => rfl
  | 22, [], _, _ => rfl
  | 23, [], _, _ => rfl
  | 24, [_], _, _ => rfl
  | 25, [_], _, _ => rfl
  | 26, [_], _, _ => rfl
  | 27, [_], _, _ => rfl
  | 28, [_], _, _ => rfl
  | 29, [], _, _ => rfl
  | n + 30, _, h, _ => absurd h (by omega)
theorem map_whole : ∀ {f : Nat} {l : List Nat} {cs : List (List (List Int))}, PyFlat.calls PyKraf.shape f (zs l) = some cs → cs.map PyKraf.whole = cs
  | f, [], cs, h => by
    rw [calls_nil h]
    rfl
  | f, n :: r, cs, h => by
    obtain ⟨g, cs', rfl, hn, hr, rfl, h'⟩ := calls_cons h
    rw [List.map_cons, whole_id hn (by rw [List.length_take]; omega), map_whole h']
termination_by f => f
theorem told_cons {o : Option Kraf.World} {n : Nat} {as : List Nat} {cs : List (List (List Int))} : PyFlat.told (PyFlat.played KrafNeutral.step o ([zs (n :: as)] :: cs)) =
    ((KrafNeutral.told (Kraf.act o (mk n as)).2).length : Int) :: (KrafNeutral.told (Kraf.act o (mk n as)).2 ++ PyFlat.told (PyFlat.played KrafNeutral.step (Kraf.act o (mk n as)).1 cs)) := rfl
theorem answers_of {l : List Nat} {cs : List (List (List Int))} (h : PyFlat.calls PyKraf.shape (zs l).length (zs l) = some cs) : PyKraf.answers (zs l) = PyFlat.told (PyFlat.played KrafNeutral.step none cs) := by
  unfold PyKraf.answers PyKraf.calls
  rw [h]
  show PyFlat.told (PyFlat.played KrafNeutral.step KrafNeutral.start (cs.map PyKraf.whole)) = _
  rw [map_whole h]
  rfl
theorem asked_of {l : List Int} (h : PyKraf.answers_asked l = true) : ∃ cs, PyFlat.calls PyKraf.shape l.length l = some cs ∧ (PyKraf.answers l).length ≤ 10000000 := by
  unfold PyKraf.answers_asked at h
  cases q : PyFlat.calls PyKraf.shape l.length l with
  | none =>
    rw [q] at h
    cases h
  | some cs =>
    rw [q] at h
    refine ⟨cs, rfl, ?_⟩
    have h : (PyFlat.atMost 45 cs && PyInside.calls PyKraf.bound cs && KrafNeutral.asked (cs.map PyKraf.whole) && PyFlat.short 10000000 (PyKraf.answers l)) = true := h
    rw [Bool.and_eq_true] at h
    exact of_decide_eq_true h.2
theorem kd_len : ∀ {n : Nat}, (kd n).str.length = (kd n).n := by
  intro n
  cases kd n with
  | per f => cases f <;> rfl
  | _ => rfl
theorem kd_str {n : Nat} : (kd n).str.length ≤ sizeLine := by
  rw [kd_len]
  cases kd n with
  | per f => cases f <;> (show _ ≤ sizeLine; decide)
  | _ => (show _ ≤ sizeLine; decide)
/-! ### heaps: what is none of the people's is written -/
theorem Pst.foot {C p b : Addr} {H : Hp} {t : Kraf.Two} {pa un : List Kraf.Two} (h : Pst C H p t pa un) (f : Foot p H b) : H b ≠ none := by
  obtain ⟨dx, oL, kn, aP, aU, xs, ys, h1, h2, h3, h4, h5, _⟩ := h.ex
  rcases (foot_at h1).mp f with rfl | rfl | rfl
  · rw [h1]; simp
  · rw [h4]; simp
  · rw [h5]; simp
theorem Pst.wr {C p q : Addr} {H : Hp} {t : Kraf.Two} {pa un : List Kraf.Two} {xs ys : List V} (h : Pst C H p t pa un) (hq : H q = some (.lst xs)) (f : ¬ Foot p H q) : Pst C (upd H q (.lst ys)) p t pa un := by
  obtain ⟨dx, oL, kn, aP, aU, us, vs, h1, h2, h3, h4, h5, h6, h7, h8⟩ := h.ex
  have T1 : Tups H (upd H q (.lst ys)) := tups_upd hq (by intro xs z; cases z)
  have g : ¬ (q = p ∨ q = aP ∨ q = aU) := fun z => f ((foot_at h1).mpr z)
  refine ⟨dx, oL, kn, aP, aU, us, vs, ?_, T1 _ _ h2, T1 _ _ h3, ?_, ?_, h6, h7.mono T1, h8.mono T1⟩
  · rw [upd_ne (fun z => g (.inl z.symm))]
    exact h1
  · rw [upd_ne (fun z => g (.inr (.inl z.symm)))]
    exact h4
  · rw [upd_ne (fun z => g (.inr (.inr z.symm)))]
    exact h5
theorem StO.wr {C p q : Addr} {H : Hp} {o : Option Kraf.World} {xs ys : List V} (h : StO C H p o) (hq : H q = some (.lst xs)) (f : ¬ Foot p H q) : StO C (upd H q (.lst ys)) p o := by
  cases o with
  | none => exact Pst.wr h hq f
  | some W => exact ⟨Pst.wr (StW.st h) hq f, StW.good h⟩
theorem foot_wr {p q b : Addr} {H : Hp} {u : HO} (h : q ≠ p) : Foot p (upd H q u) b ↔ Foot p H b := by
  unfold Foot
  rw [upd_ne h.symm]
/-- a list that's read stays, whether the module's or not -/
theorem SqL.to {K : PySem.W.Frag} {H H' : Hp} {a : Addr} {xs : List V} (h : SqL K H a xs) (s : ∀ o, H a = some o → H' a = some o) : SqL K H' a xs := by
  rcases h with (h | ⟨o, h⟩) | h
  · exact .inl (.inl (s _ h))
  · exact .inl (.inr ⟨o, s _ h⟩)
  · exact .inr h
theorem cut_eq (ls : List Nat) (i k : Nat) (h : i + k ≤ ls.length) : cutV (nvs ls) (some (i : Int)) (some ((i + k : Nat) : Int)) = nvs ((ls.drop i).take k) := by
  unfold cutV
  rw [HT.sIx_nat, HT.sIx_nat, List.length_map]
  have e1 : min i ls.length = i := by omega
  have e2 : min (i + k) ls.length = i + k := by omega
  rw [e1, e2, ← List.map_drop, Nat.add_sub_cancel_left, ← List.map_take]
end Sw
end

section
set_option Elab.async false
set_option linter.all false
set_option maxRecDepth 100000
set_option maxHeartbeats 2000000
namespace Sw
open PySem PySem.Spec PyProof.Rows L2
def spAnswers (K : PySem.W.Frag) : Sp := fun vs H Q _ => ∃ (a : Addr) (ls : List Nat), vs = [.ref a] ∧ SqL K H a (nvs ls) ∧ PyKraf.answers_asked (zs ls) = true ∧ ∀ H' q, H' q = some (.lst ((PyKraf.answers (zs ls)).map V.int)) → Q (.ref q) H'
section
variable {P : Program} {w : World} {K : PySem.W.Frag} {mg : Str → Option Value} {base : Heap} {C : Addr}
theorem scAnswers : FnScope ["calls", "people", "answered", "place", "number", "behind", "answer"] ["calls"] (defScope sAnswers) := ⟨rfl, rfl, rfl, by decide +kernel, rfl, by decide +kernel, by decide +kernel⟩
/-- where the walk stands -/
def placeOf (σ : L2.St) : Nat := match σ[3]? with
  | some (some (V.int i)) => i.toNat
  | _ => 0
theorem ok_answers {f fI aF : Addr} {fd fdI : FuncData} {Nc : Nat} (F : Fun K "answers" "answers" sAnswers f fd) (T : Txt K C) (N : Cn mg) {forms : List Str} (hF : mg "FORMS" = some (.ref aF)) (tF : ∀ H : Hp, SqT K H aF (forms.map V.str)) (eF : ∀ n, n < Nc → forms[n]? = some (kd n).str) (hN : 30 ≤ Nc)
    (M : Mk K C fI) (GI : FnOk P w K mg base CX0 1 fI fdI ["self"] (spInit C)) (bI : Binds K fdI ["self"] []) (mgC : mg "People" = some (.ref C)) (DA : Def P w K mg base "answer_of" 10 ["people", "number", "given"] (spAnswerOf C Nc)) :
    FnOk P w K mg base CX0 11 f fd ["calls"] (spAnswers K) := by
  refine F.ok scAnswers (fun vs H Q E h => ?_) (fun cdv A outer s H vs Q E hr h => ?_)
  · obtain ⟨a, ls, rfl, _⟩ := h
    rfl
  · obtain ⟨a, ls, rfl, hS, hask, k⟩ := h
    obtain ⟨cs0, hcs0, big⟩ := asked_of hask
    refine ⟨_, pss_cons (ps_set (i := 1) scAnswers.nd rfl (Or.inl rfl) (pe_make0 M GI (hr.mono (by decide)) rfl mgC bI .nil pass0))
      (pss_cons (ps_set (i := 2) scAnswers.nd rfl (Or.inl rfl) (pe_lst pa_nil))
      (pss_cons (ps_set (i := 3) scAnswers.nd rfl (Or.inl rfl) pe_int)
      (pss_cons (ps_while PassesOwn.never (pt_cmpR nn_lt (pv 3) (pe_callB call_len_seq (by rfl) N.len PySem.boot_len (pa_cons (pv 0) pa_nil)) (nomark _))
        (pss_cons (ps_set (i := 4) scAnswers.nd rfl (Or.inl rfl) (pe_ix ix_list (pv 0) (pv 3) (fun _ _ => rfl)))
        (pss_cons (ps_set (i := 5) scAnswers.nd rfl (Or.inl rfl) (pe_op nn_add (pe_op nn_add (pv 3) pe_int) (pe_callB call_len_str (by rfl) N.len PySem.boot_len (pa_cons (pe_ix ix_tup (pe_glob (v := .ref aF) rfl hF rfl) (pv 4) (fun _ _ => rfl)) pa_nil))))
        (pss_cons (ps_set (i := 6) scAnswers.nd rfl (Or.inl rfl) (pe_d DA hr rfl (pa_cons (pv 1) (pa_cons (pv 4) (pa_cons (pe_slice sl_list (pv 0) (po_some (pe_op nn_add (pv 3) pe_int)) (po_some (pv 5))) pa_nil)))))
        (pss_cons (ps_expr (pe_bm PySem.F.plainAttrs_list PySem.F.slot_list_append PySem.F.type_list_append mt_append (pv 2) (pa_cons (pe_callB call_len_seq (by rfl) N.len PySem.boot_len (pa_cons (pv 6) pa_nil)) pa_nil)))
        (pss_cons (ps_expr (pe_bm PySem.F.plainAttrs_list PySem.F.slot_list_extend PySem.F.type_list_extend mt_extend (pv 2) (pa_cons (pv 6) pa_nil)))
        (pss_one (ps_set (i := 3) scAnswers.nd rfl (Or.inl rfl) (pv 5)))))))))
      (pss_one (ps_ret (pv 2)))))), ?_⟩
    intro p dx np ndx nex
    refine ⟨p, dx, rfl, upd_same, fun H1 P1 K1 => ⟨rfl, Nat.zero_le _, fun q nq => ?_⟩⟩
    -- what was tracked at the beginning still is, and none of the people's
    have F0 : ∀ x, H a = some x → upd H1 q (.lst []) a = some x ∧ ¬ Foot p (upd H1 q (.lst [])) a := fun x e => by
      have ap := ne_of_none e np
      have ad := ne_of_none e ndx
      obtain ⟨e1, f1⟩ := K1 a x (by rw [upd_ne ap, upd_ne ad]; exact e) ap
      have aq := ne_of_none e1 nq
      refine ⟨by rw [upd_ne aq]; exact e1, fun z => f1 ((foot_wr ?_).mp z)⟩
      obtain ⟨dx', oL, kn, aP, aU, xs, ys, h1, _⟩ := P1.ex
      exact (ne_of_none h1 nq).symm
    have qp : q ≠ p := by
      obtain ⟨dx', oL, kn, aP, aU, xs, ys, h1, _⟩ := P1.ex
      exact (ne_of_none h1 nq).symm
    have fq : ¬ Foot p (upd H1 q (.lst [])) q := fun z => P1.foot ((foot_wr qp).mp z) nq
    have hq0 : ∀ x, H a = some x → a ≠ q := fun x e z => by
      have ap := ne_of_none e np
      have ad := ne_of_none e ndx
      obtain ⟨e1, _⟩ := K1 a x (by rw [upd_ne ap, upd_ne ad]; exact e) ap
      rw [z, nq] at e1
      cases e1
    refine while_by (fun σ H' => ∃ (place fuel : Nat) (o : Option Kraf.World) (out : List Int) (cs : List (List (List Int))) (v4 v5 v6 : Option V), σ = [some (.ref a), some (.ref p), some (.ref q), some (nv place), v4, v5, v6] ∧ place ≤ ls.length ∧
        PyFlat.calls PyKraf.shape fuel (zs (ls.drop place)) = some cs ∧ PyKraf.answers (zs ls) = out ++ PyFlat.told (PyFlat.played KrafNeutral.step o cs) ∧ StO C H' p o ∧ ¬ Foot p H' q ∧ H' q = some (.lst (out.map V.int)) ∧ ∀ x, H a = some x → H' a = some x ∧ ¬ Foot p H' a)
      (fun σ _ => ls.length - placeOf σ) ?_ ?_ ?_
    · exact ⟨0, (zs ls).length, none, [], cs0, none, none, none, rfl, Nat.zero_le _, hcs0, (by rw [answers_of hcs0]; rfl), P1.same (Same.new nq), fq, upd_same, F0⟩
    · rintro σ H' ⟨place, fuel, o, out, cs, v4, v5, v6, rfl, hp, hcs, ean, S, fq', hq, FA⟩
      have hS' : SqL K H' a (nvs ls) := SqL.to hS fun x e => (FA x e).1
      refine ⟨_, rfl, _, rfl, a, _, rfl, .inl hS', place, ls.length, rfl, (by rw [List.length_map]), _, rfl, ?_⟩
      by_cases c : place < ls.length
      · rw [decide_eq_true c]
        have ed : ls.drop place = ls[place] :: ls.drop (place + 1) := List.drop_eq_getElem_cons c
        rw [ed] at hcs
        obtain ⟨g', cs', rfl, hn, hr', rfl, hcs'⟩ := calls_cons hcs
        have en : ls[place]? = some ls[place] := List.getElem?_eq_getElem c
        generalize ls[place] = n at *
        have lt : n < Nc := by omega
        have fn : atI (forms.map V.str) (n : Int) = some (.str (kd n).str) := atI_nat (by rw [List.getElem?_map, eF n lt]; rfl)
        have hr2 : (kd n).n ≤ ls.length - (place + 1) := by
          rw [List.length_drop] at hr'
          exact hr'
        refine iteT ⟨_, rfl, _, rfl, a, _, _, _, rfl, rfl, hS', atI_nat (by rw [List.getElem?_map, en]; rfl), _, rfl, place, 1, rfl, rfl, _, rfl, aF, _, _, _, rfl, rfl, tF H', fn, _, rfl, kd_str, place + 1, (kd n).str.length, rfl, rfl, ?_⟩
        refine ⟨_, rfl, _, rfl, _, rfl, _, rfl, place, 1, rfl, rfl, ((place + 1 : Nat) : Int), rfl, _, rfl, ((place + 1 + (kd n).str.length : Nat) : Int), rfl, a, _, rfl, hS', fun g ng => ?_⟩
        have ec : cutV (nvs ls) (some ((place + 1 : Nat) : Int)) (some ((place + 1 + (kd n).str.length : Nat) : Int)) = nvs ((ls.drop (place + 1)).take (kd n).n) := by
          rw [kd_len]
          exact cut_eq ls (place + 1) (kd n).n (by omega)
        rw [ec]
        have sg : Same H' (upd H' g (.lst (nvs ((ls.drop (place + 1)).take (kd n).n)))) := Same.new ng
        have gp : g ≠ p := by
          obtain ⟨t, pa, un, PS, _⟩ := S.pst
          obtain ⟨dx', oL, kn, aP, aU, xs, ys, h1, _⟩ := PS.ex
          exact (ne_of_none h1 ng).symm
        have fg : ¬ Foot p (upd H' g (.lst (nvs ((ls.drop (place + 1)).take (kd n).n)))) g := fun z => by
          obtain ⟨t, pa, un, PS, _⟩ := S.pst
          exact PS.foot ((foot_wr gp).mp z) ng
        have hal : ((ls.drop (place + 1)).take (kd n).n).length = (kd n).n := by
          rw [List.length_take]
          omega
        rw [told_cons] at ean
        have drp : (ls.drop (place + 1)).drop (kd n).n = ls.drop (place + 1 + (kd n).n) := List.drop_drop
        rw [drp] at hcs'
        generalize (ls.drop (place + 1)).take (kd n).n = as at *
        refine ⟨p, g, n, as, o, rfl, lt, upd_same, hal, S.same sg, fg, fun H2 l r => ?_⟩
        have k1 := (S.kp sg).trans r.kp
        obtain ⟨hq2, fq2⟩ := k1 q _ hq fq'
        have ql : q ≠ l := r.new q _ (sg _ _ hq) (S.kp sg q _ hq fq').2
        have lens : out.length + (1 + (KrafNeutral.told (Kraf.act o (mk n as)).2).length) ≤ 10000000 := by
          rw [ean, List.length_append, List.length_cons, List.length_append] at big
          omega
        have ls0 : sizeLine = 16777216 := sizeLine_eq
        refine ⟨_, rfl, .inl ⟨rfl, _, SqL.of hq2⟩, _, rfl, l, _, rfl, .inl (SqL.of r.ans), q, _, _, rfl, rfl, hq2, (by rw [List.length_map]; omega), ?_⟩
        refine ⟨_, rfl, .inl ⟨rfl, _, SqL.of upd_same⟩, _, rfl, q, l, _, _, rfl, rfl, upd_same, (upd_ne ql.symm).trans r.ans, (by rw [List.length_append, List.length_map, List.length_map, List.length_singleton]; omega), ?_⟩
        rw [upd_upd]
        refine ⟨_, rfl, ⟨place + 1 + (kd n).n, g', (Kraf.act o (mk n as)).1, out ++ ((KrafNeutral.told (Kraf.act o (mk n as)).2).length : Int) :: KrafNeutral.told (Kraf.act o (mk n as)).2, cs', some (nv n), some (nv (place + 1 + (kd n).n)), some (.ref l), ?_, (by omega), hcs', ?_, r.st.wr hq2 fq2, ?_, ?_, fun x e => ?_⟩, ?_⟩
        · rw [kd_len]
          rfl
        · rw [ean, List.append_assoc]
          rfl
        · exact fun z => fq2 ((foot_wr qp).mp z)
        · rw [upd_same, List.length_map, List.append_assoc, List.map_append]
          rfl
        · obtain ⟨e1, f1⟩ := FA x e
          obtain ⟨e2, f2⟩ := k1 a x e1 f1
          exact ⟨by rw [upd_ne (hq0 x e)]; exact e2, fun z => f2 ((foot_wr qp).mp z)⟩
        · rw [kd_len]
          show ls.length - (((place + 1 + (kd n).n : Nat) : Int)).toNat < ls.length - ((place : Nat) : Int).toNat
          rw [Int.toNat_natCast, Int.toNat_natCast]
          omega
      · rw [decide_eq_false c]
        have ed : ls.drop place = [] := List.drop_of_length_le (by omega)
        rw [ed] at hcs
        have := calls_nil hcs
        subst this
        have ean : PyKraf.answers (zs ls) = out := by
          rw [ean]
          exact List.append_nil _
        refine iteF ⟨_, rfl, k H' q ?_⟩
        rw [ean]
        exact hq
    · rintro σ H' R R' hR ⟨v, e, v0, e0, b, ys, e1, h, i, j, e2, e3, z, ez, r⟩
      exact ⟨v, e, v0, e0, b, ys, e1, h, i, j, e2, e3, z, ez, hR _ _ r⟩
end
end Sw
end

set_option Elab.async false
set_option linter.all false
set_option maxRecDepth 100000
set_option maxHeartbeats 2000000
namespace Sw
open PySem PySem.Spec PyProof.Rows L2
open PySem.W (Frag nsIn findIn isFn codeIn keepIn fnOf)
structure DefIn (K : Frag) (x qual : Str) (st : Stmt) (f : Addr) : Prop where
  at_ : nsIn K mainGlobals x = some (some (.ref f))
  fn : ∃ fd, Fun K x qual st f fd
structure MetIn (K : Frag) (C : Addr) (x qual : Str) (st : Stmt) (f : Addr) : Prop where
  at_ : findIn K (.ref C) x = some (some (.ref f))
  isf : isFn K (.ref f) = true
  fn : ∃ fd, Fun K x qual st f fd
theorem def_in {K : Frag} {x qual : Str} {st : Stmt} {f : Addr} {od an : Option Addr} {osl : Array (Option Value)} {oc kV dc pm cd ct : Value} (a : nsIn K mainGlobals x = some (some (.ref f)))
    (l : K.lookup f = some ⟨oc, od, .func (fnOf x qual (defArgs st) (defBody st) (defScope st) .none kV dc pm an cd ct), osl⟩) (c : codeIn K cd qual = true) (k : keepIn K (.ref f) = true) : DefIn K x qual st f := ⟨a, _, fun_mk l c k⟩
theorem met_in {K : Frag} {C : Addr} {x qual : Str} {st : Stmt} {f : Addr} {od an : Option Addr} {osl : Array (Option Value)} {oc kV dc pm cd ct : Value} (a : findIn K (.ref C) x = some (some (.ref f))) (i : isFn K (.ref f) = true)
    (l : K.lookup f = some ⟨oc, od, .func (fnOf x qual (defArgs st) (defBody st) (defScope st) .none kV dc pm an cd ct), osl⟩) (c : codeIn K cd qual = true) (k : keepIn K (.ref f) = true) : MetIn K C x qual st f := ⟨a, i, _, fun_mk l c k⟩
/-- how the arguments bind -/
def Bnd (x qual : Str) (st : Stmt) (ps : List Str) : Prop := ∀ (kV doc pm : Value) (an : Option Addr) (cdv ct : Value) (us : List Value), us.length = ps.length → bindArgs (fnOf x qual (defArgs st) (defBody st) (defScope st) .none kV doc pm an cdv ct) ⟨us, []⟩ = pure (ps.zip us)
theorem DefIn.df {P : Program} {w : World} {K : Frag} {mg : Str → Option Value} {base : Heap} {x qual : Str} {st : Stmt} {f : Addr} {k : Nat} {ps : List Str} {sp : Sp} {h : Heap} (X : K.In h) (G : h.Ns mainGlobals mg) (D : DefIn K x qual st f) (b : Bnd x qual st ps)
    (ok : ∀ fd, Fun K x qual st f fd → FnOk P w K mg base CX0 k f fd ps sp) : Def P w K mg base x k ps sp := by
  obtain ⟨fd, F⟩ := D.fn
  exact ⟨f, fd, ok fd F, F.binds b, PySem.W.mg_of X G D.at_, F.kp⟩
theorem MetIn.mt {P : Program} {w : World} {K : Frag} {mg : Str → Option Value} {base : Heap} {C : Addr} {x qual : Str} {st : Stmt} {f : Addr} {k : Nat} {ps : List Str} {sp : Sp} (D : MetIn K C x qual st f) (b : Bnd x qual st ps)
    (ok : ∀ fd, Fun K x qual st f fd → FnOk P w K mg base CX0 k f fd ps sp) : Met P w K mg base C x k ps sp := by
  obtain ⟨fd, F⟩ := D.fn
  exact ⟨f, fd, ok fd F, F.binds b, D.at_, D.isf, F.kp⟩
/-- the def at f, among the calls -/
theorem call_ok {P : Program} {w : World} {K : Frag} {mg : Str → Option Value} {base : Heap} {C : Addr} {x qual : Str} {st : Stmt} {f : Addr} {k n : Nat} {ps : List Str} {sp : Sp} (D : DefIn K x qual st f) (b : Bnd x qual st ps)
    (ok : ∀ fd, Fun K x qual st f fd → FnOk P w K mg base CX0 k f fd ps sp) (k8 : k ≤ 8)
    (h : ∀ (p : Addr) (as : List Nat) (H : Hp) (Q : VK) (o : Option Kraf.World), PreK n o as → StO C H p o → (∀ H' l, ResO C p H (Kraf.act o (mk n as)) H' l → Q (.ref l) H') → sp (.ref p :: nvs as) H Q E0) : CallOk P w K mg base C n f := by
  obtain ⟨fd, F⟩ := D.fn
  exact ⟨k, fd, ps, sp, k8, F.kp, ok fd F, F.binds b, h⟩
theorem go0 {C : Addr} {n : Nat} {c : Kraf.Call} (hk : kd n = .no) (hn : n ≠ 0) (hm : mk n [] = c) (p : Addr) (as : List Nat) (H : Hp) (Q : VK) (o : Option Kraf.World) (pk : PreK n o as) (S : StO C H p o) (k : ∀ H' l, ResO C p H (Kraf.act o (mk n as)) H' l → Q (.ref l) H') : spC0 C c (.ref p :: nvs as) H Q E0 := by
  unfold PreK at pk
  rw [hk] at pk
  obtain ⟨rfl, W, rfl⟩ := pk
  refine ⟨p, W, rfl, S, fun H' l r => k H' l ?_⟩
  rw [act_some hn, hm]
  exact r.o
theorem go1 {C : Addr} {n : Nat} {c : Nat → Kraf.Call} (hk : kd n = .per .w) (hn : n ≠ 0) (hm : ∀ x, mk n [x] = c x) (p : Addr) (as : List Nat) (H : Hp) (Q : VK) (o : Option Kraf.World) (pk : PreK n o as) (S : StO C H p o) (k : ∀ H' l, ResO C p H (Kraf.act o (mk n as)) H' l → Q (.ref l) H') : spC1 C pW c (.ref p :: nvs as) H Q E0 := by
  unfold PreK at pk
  rw [hk] at pk
  obtain ⟨x, y, W, rfl, rfl, pr⟩ := pk
  refine ⟨p, x, W, rfl, pr, S, fun H' l r => k H' l ?_⟩
  show ResO C p H (Kraf.act (some W) (mk n [x])) H' l
  rw [act_some hn, hm]
  exact r.o
theorem go2 {C : Addr} {n : Nat} {f : Frm} {pre : Kraf.Two → Nat → Nat → Prop} {c : Nat → Nat → Kraf.Call} (hk : kd n = .per f) (hn : n ≠ 0) (ha : ∀ x y, f.args x y = [x, y]) (hp : ∀ t x y, f.pre t x y → pre t x y) (hm : ∀ x y, mk n [x, y] = c x y) (p : Addr) (as : List Nat) (H : Hp) (Q : VK) (o : Option Kraf.World)
    (pk : PreK n o as) (S : StO C H p o) (k : ∀ H' l, ResO C p H (Kraf.act o (mk n as)) H' l → Q (.ref l) H') : spC2 C pre c (.ref p :: nvs as) H Q E0 := by
  unfold PreK at pk
  rw [hk] at pk
  obtain ⟨x, y, W, rfl, rfl, pr⟩ := pk
  rw [ha] at k ⊢
  refine ⟨p, x, y, W, rfl, hp _ _ _ pr, S, fun H' l r => k H' l ?_⟩
  rw [act_some hn, hm]
  exact r.o
theorem goS {C : Addr} (p : Addr) (as : List Nat) (H : Hp) (Q : VK) (o : Option Kraf.World) (pk : PreK 24 o as) (S : StO C H p o) (k : ∀ H' l, ResO C p H (Kraf.act o (mk 24 as)) H' l → Q (.ref l) H') : spC1 C pS .agreed (.ref p :: nvs as) H Q E0 := by
  obtain ⟨x, W, rfl, rfl, pr⟩ := (show ∃ s W, as = [s] ∧ o = some W ∧ pS W.p s from pk)
  refine ⟨p, x, W, rfl, pr, S, fun H' l r => k H' l ?_⟩
  rw [act_some (by decide)]
  exact r.o
theorem goB {C : Addr} (p : Addr) (as : List Nat) (H : Hp) (Q : VK) (o : Option Kraf.World) (pk : PreK 0 o as) (S : StO C H p o) (k : ∀ H' l, ResO C p H (Kraf.act o (mk 0 as)) H' l → Q (.ref l) H') : spBegin C (.ref p :: nvs as) H Q E0 := by
  obtain ⟨m, a, b, rfl⟩ := (show ∃ m a b, as = [m, a, b] from pk)
  exact ⟨p, m, a, b, o, rfl, S, k⟩

def forms : List Str := ["mab", "wq", "wf", "wq", "w", "ws", "wi", "", "", "w", "wq", "wq", "", "w", "ws", "ws", "w", "wq", "wq", "wq", "", "", "", "", "s", "w", "w", "w", "w", ""]
theorem forms_at : ∀ {n : Nat}, n < 30 → forms[n]? = some (kd n).str
  | 0, _ => rfl
  | 1, _ => rfl
  | 2, _ => rfl
  | 3, _ => rfl
  | 4, _ => rfl
  | 5, _ => rfl
  | 6, _ => rfl
  | 7, _ => rfl
  | 8, _ => rfl
  | 9, _ => rfl
  | 10, _ => rfl
  | 11, _ => rfl
  | 12, _ => rfl
  | 13, _ => rfl
  | 14, _ => rfl
  | 15, _ => rfl
  | 16, _ => rfl
  | 17, _ => rfl
  | 18, _ => rfl
  | 19, _ => rfl
  | 20, _ => rfl
  | 21, _ => rfl
  | 22, _ => rfl
  | 23, _ => rfl
  | 24, _ => rfl
  | 25, _ => rfl
  | 26, _ => rfl
  | 27, _ => rfl
  | 28, _ => rfl
  | 29, _ => rfl
  | n + 30, h => absurd h (by omega)
theorem b_all_letters : Bnd "all_letters" "all_letters" sAll ["m"] := fun _ _ _ _ _ _ us hl => match us, hl with | [_], _ => rfl
theorem b_always : Bnd "always" "always" sAlways ["m"] := fun _ _ _ _ _ _ us hl => match us, hl with | [_], _ => rfl
theorem b_worlds : Bnd "worlds" "worlds" sWorlds ["claim", "m"] := fun _ _ _ _ _ _ us hl => match us, hl with | [_, _], _ => rfl
theorem b_says : Bnd "says" "says" sSays ["claim", "letters", "m"] := fun _ _ _ _ _ _ us hl => match us, hl with | [_, _, _], _ => rfl
theorem b_without : Bnd "without" "without" sWithout ["claim", "letters", "m"] := fun _ _ _ _ _ _ us hl => match us, hl with | [_, _, _], _ => rfl
theorem b_is_told_in : Bnd "is_told_in" "is_told_in" sTold ["claim", "letters", "m"] := fun _ _ _ _ _ _ us hl => match us, hl with | [_, _, _], _ => rfl
theorem b_falls_apart : Bnd "falls_apart" "falls_apart" sFalls ["claim", "letters", "m"] := fun _ _ _ _ _ _ us hl => match us, hl with | [_, _, _], _ => rfl
theorem b_part_with : Bnd "part_with" "part_with" sPartOf ["claim", "letter", "m"] := fun _ _ _ _ _ _ us hl => match us, hl with | [_, _, _], _ => rfl
theorem b_all_parts : Bnd "all_parts" "all_parts" sParts ["claim", "m"] := fun _ _ _ _ _ _ us hl => match us, hl with | [_, _], _ => rfl
theorem b_touches : Bnd "touches" "touches" sTouches ["claim", "part", "m"] := fun _ _ _ _ _ _ us hl => match us, hl with | [_, _, _], _ => rfl
theorem b_revised : Bnd "revised" "revised" sRevised ["known", "claim", "m"] := fun _ _ _ _ _ _ us hl => match us, hl with | [_, _, _], _ => rfl
theorem b_letter_is_so : Bnd "letter_is_so" "letter_is_so" sLetter ["letter", "m"] := fun _ _ _ _ _ _ us hl => match us, hl with | [_, _], _ => rfl
theorem b_follows_of : Bnd "follows_of" "follows_of" sFollowsOf ["claim", "known"] := fun _ _ _ _ _ _ us hl => match us, hl with | [_, _], _ => rfl
theorem b_stands_to : Bnd "stands_to" "stands_to" sStands ["claim", "known"] := fun _ _ _ _ _ _ us hl => match us, hl with | [_, _], _ => rfl
theorem b_members : Bnd "members" "members" sMembers ["letters"] := fun _ _ _ _ _ _ us hl => match us, hl with | [_], _ => rfl
theorem b_sets_within : Bnd "sets_within" "sets_within" sWithin ["letters"] := fun _ _ _ _ _ _ us hl => match us, hl with | [_], _ => rfl
theorem b_with_one_less : Bnd "with_one_less" "with_one_less" sLess ["letters"] := fun _ _ _ _ _ _ us hl => match us, hl with | [_], _ => rfl
theorem b_with_one_more : Bnd "with_one_more" "with_one_more" sMore ["letters", "most"] := fun _ _ _ _ _ _ us hl => match us, hl with | [_, _], _ => rfl
theorem b_has_any : Bnd "has_any" "has_any" sHasAny ["found", "wanted"] := fun _ _ _ _ _ _ us hl => match us, hl with | [_, _], _ => rfl
theorem b_least_sets : Bnd "least_sets" "least_sets" sLeast ["found"] := fun _ _ _ _ _ _ us hl => match us, hl with | [_], _ => rfl
theorem b_greatest_sets : Bnd "greatest_sets" "greatest_sets" sGreatest ["found", "most"] := fun _ _ _ _ _ _ us hl => match us, hl with | [_, _], _ => rfl
theorem b_counted : Bnd "counted" "counted" sCounted ["found"] := fun _ _ _ _ _ _ us hl => match us, hl with | [_], _ => rfl
theorem b_with_one : Bnd "with_one" "with_one" sWithOne ["pair", "w", "value"] := fun _ _ _ _ _ _ us hl => match us, hl with | [_, _, _], _ => rfl
theorem b_begin_anew : Bnd "begin_anew" "People.begin_anew" sBeginAnew ["self", "m", "a", "b"] := fun _ _ _ _ _ _ us hl => match us, hl with | [_, _, _, _], _ => rfl
theorem b_common_letters : Bnd "common_letters" "People.common_letters" sCommon ["self"] := fun _ _ _ _ _ _ us hl => match us, hl with | [_], _ => rfl
theorem b_known_together : Bnd "known_together" "People.known_together" sTogether ["self"] := fun _ _ _ _ _ _ us hl => match us, hl with | [_], _ => rfl
theorem b_most_told : Bnd "most_told" "People.most_told" sMost ["self", "w", "letters"] := fun _ _ _ _ _ _ us hl => match us, hl with | [_, _, _], _ => rfl
theorem b_known_if_told : Bnd "known_if_told" "People.known_if_told" sKIf ["self", "w", "letters"] := fun _ _ _ _ _ _ us hl => match us, hl with | [_, _, _], _ => rfl
theorem b_quarrel_in : Bnd "quarrel_in" "People.quarrel_in" sQuarrelIn ["self", "letters"] := fun _ _ _ _ _ _ us hl => match us, hl with | [_, _], _ => rfl
theorem b_keep_for_back : Bnd "keep_for_back" "People.keep_for_back" sKeepFor ["self"] := fun _ _ _ _ _ _ us hl => match us, hl with | [_], _ => rfl
theorem b_hold : Bnd "hold" "People.hold" sHold ["self", "w", "claim"] := fun _ _ _ _ _ _ us hl => match us, hl with | [_, _, _], _ => rfl
theorem b_own_more : Bnd "own_more" "People.own_more" sOwnMore ["self", "w", "letter"] := fun _ _ _ _ _ _ us hl => match us, hl with | [_, _, _], _ => rfl
theorem b_restore : Bnd "restore" "People.restore" sRestore ["self", "kept"] := fun _ _ _ _ _ _ us hl => match us, hl with | [_, _], _ => rfl
theorem b_go_back : Bnd "go_back" "People.go_back" sGoBack ["self"] := fun _ _ _ _ _ _ us hl => match us, hl with | [_], _ => rfl
theorem b_go_again : Bnd "go_again" "People.go_again" sGoAgain ["self"] := fun _ _ _ _ _ _ us hl => match us, hl with | [_], _ => rfl
theorem b_begin : Bnd "begin" "begin" sBegin ["people", "m", "a", "b"] := fun _ _ _ _ _ _ us hl => match us, hl with | [_, _, _, _], _ => rfl
theorem b_learn : Bnd "learn" "learn" sLearn ["people", "w", "q"] := fun _ _ _ _ _ _ us hl => match us, hl with | [_, _, _], _ => rfl
theorem b_forget : Bnd "forget" "forget" sForget ["people", "w", "s"] := fun _ _ _ _ _ _ us hl => match us, hl with | [_, _, _], _ => rfl
theorem b_revise : Bnd "revise" "revise" sRevise ["people", "w", "q"] := fun _ _ _ _ _ _ us hl => match us, hl with | [_, _, _], _ => rfl
theorem b_tellof : Bnd "tellof" "tellof" sTellof ["people", "w", "s"] := fun _ _ _ _ _ _ us hl => match us, hl with | [_, _, _], _ => rfl
theorem b_tell : Bnd "tell" "tell" sTell ["people", "w"] := fun _ _ _ _ _ _ us hl => match us, hl with | [_, _], _ => rfl
theorem b_teach : Bnd "teach" "teach" sTeach ["people", "w", "i"] := fun _ _ _ _ _ _ us hl => match us, hl with | [_, _, _], _ => rfl
theorem b_back : Bnd "back" "back" sBack ["people"] := fun _ _ _ _ _ _ us hl => match us, hl with | [_], _ => rfl
theorem b_again : Bnd "again" "again" sAgain ["people"] := fun _ _ _ _ _ _ us hl => match us, hl with | [_], _ => rfl
theorem b_knows : Bnd "knows" "knows" sKnows ["people", "w"] := fun _ _ _ _ _ _ us hl => match us, hl with | [_, _], _ => rfl
theorem b_follows : Bnd "follows" "follows" sFollows ["people", "w", "q"] := fun _ _ _ _ _ _ us hl => match us, hl with | [_, _, _], _ => rfl
theorem b_is_open : Bnd "is_open" "is_open" sOpen ["people", "w", "q"] := fun _ _ _ _ _ _ us hl => match us, hl with | [_, _, _], _ => rfl
theorem b_shared : Bnd "shared" "shared" sShared ["people"] := fun _ _ _ _ _ _ us hl => match us, hl with | [_], _ => rfl
theorem b_own : Bnd "own" "own" sOwn ["people", "w"] := fun _ _ _ _ _ _ us hl => match us, hl with | [_, _], _ => rfl
theorem b_tells : Bnd "tells" "tells" sTells ["people", "w", "s"] := fun _ _ _ _ _ _ us hl => match us, hl with | [_, _, _], _ => rfl
theorem b_news : Bnd "news" "news" sNews ["people", "w", "s"] := fun _ _ _ _ _ _ us hl => match us, hl with | [_, _, _], _ => rfl
theorem b_would : Bnd "would" "would" sWould ["people", "w"] := fun _ _ _ _ _ _ us hl => match us, hl with | [_, _], _ => rfl
theorem b_could : Bnd "could" "could" sCould ["people", "w", "q"] := fun _ _ _ _ _ _ us hl => match us, hl with | [_, _, _], _ => rfl
theorem b_asks : Bnd "asks" "asks" sAsks ["people", "w", "q"] := fun _ _ _ _ _ _ us hl => match us, hl with | [_, _, _], _ => rfl
theorem b_safe : Bnd "safe" "safe" sSafe ["people", "w", "q"] := fun _ _ _ _ _ _ us hl => match us, hl with | [_, _, _], _ => rfl
theorem b_quarrel : Bnd "quarrel" "quarrel" sQuarrel ["people"] := fun _ _ _ _ _ _ us hl => match us, hl with | [_], _ => rfl
theorem b_quarrels : Bnd "quarrels" "quarrels" sQuarrels ["people"] := fun _ _ _ _ _ _ us hl => match us, hl with | [_], _ => rfl
theorem b_both : Bnd "both" "both" sBoth ["people"] := fun _ _ _ _ _ _ us hl => match us, hl with | [_], _ => rfl
theorem b_common : Bnd "common" "common" sCommonC ["people"] := fun _ _ _ _ _ _ us hl => match us, hl with | [_], _ => rfl
theorem b_agreed : Bnd "agreed" "agreed" sAgreed ["people", "s"] := fun _ _ _ _ _ _ us hl => match us, hl with | [_, _], _ => rfl
theorem b_parts : Bnd "parts" "parts" sPartsC ["people", "w"] := fun _ _ _ _ _ _ us hl => match us, hl with | [_, _], _ => rfl
theorem b_matter : Bnd "matter" "matter" sMatter ["people", "w"] := fun _ _ _ _ _ _ us hl => match us, hl with | [_, _], _ => rfl
theorem b_settles : Bnd "settles" "settles" sSettles ["people", "w"] := fun _ _ _ _ _ _ us hl => match us, hl with | [_, _], _ => rfl
theorem b_unsure : Bnd "unsure" "unsure" sUnsure ["people", "w"] := fun _ _ _ _ _ _ us hl => match us, hl with | [_, _], _ => rfl
theorem b_state : Bnd "state" "state" sState ["people"] := fun _ _ _ _ _ _ us hl => match us, hl with | [_], _ => rfl
theorem b_claim_refusal : Bnd "claim_refusal" "claim_refusal" sClaimRef ["people", "w", "q"] := fun _ _ _ _ _ _ us hl => match us, hl with | [_, _, _], _ => rfl
theorem b_letters_refusal : Bnd "letters_refusal" "letters_refusal" sLettersRef ["people", "s", "must_be_shared"] := fun _ _ _ _ _ _ us hl => match us, hl with | [_, _, _], _ => rfl
theorem b_refusal_of : Bnd "refusal_of" "refusal_of" sPersonRef ["people", "form", "given"] := fun _ _ _ _ _ _ us hl => match us, hl with | [_, _, _], _ => rfl
theorem b_carry_out : Bnd "carry_out" "carry_out" sCarry ["people", "call", "given"] := fun _ _ _ _ _ _ us hl => match us, hl with | [_, _, _], _ => rfl
theorem b___init__ : Bnd "__init__" "People.__init__" sInit ["self"] := fun _ _ _ _ _ _ us hl => match us, hl with | [_], _ => rfl
theorem b_answer_of : Bnd "answer_of" "answer_of" sAnswerOf ["people", "number", "given"] := fun _ _ _ _ _ _ us hl => match us, hl with | [_, _, _], _ => rfl
theorem b_answers : Bnd "answers" "answers" sAnswers ["calls"] := fun _ _ _ _ _ _ us hl => match us, hl with | [_], _ => rfl
theorem all_mk {P : Program} {w : World} {K : Frag} {h : Heap} {mg : Str → Option Value} {C fa aF aC fI : Addr} {f_all_letters f_always f_worlds f_says f_without f_is_told_in f_falls_apart f_part_with f_all_parts f_touches f_revised f_letter_is_so f_follows_of f_stands_to f_members f_sets_within f_with_one_less f_with_one_more f_has_any f_least_sets f_greatest_sets f_counted f_with_one f_begin_anew f_common_letters f_known_together f_most_told f_known_if_told f_quarrel_in f_keep_for_back f_hold f_own_more f_restore f_go_back f_go_again f_begin f_learn f_forget f_revise f_tellof f_tell f_teach f_back f_again f_knows f_follows f_is_open f_shared f_own f_tells f_news f_would f_could f_asks f_safe f_quarrel f_quarrels f_both f_common f_agreed f_parts f_matter f_settles f_unsure f_state f_claim_refusal f_letters_refusal f_refusal_of f_carry_out f_answer_of f_answers : Addr} {t_noSuch t_none_ t_notBegun t_theirs t_notRight t_cannot t_notTold t_mostL t_begin_ t_fol t_cbs t_nei t_MB : Tok} {oF oC : Option Addr} {iF iC : Array Value} {nF nC : Nat} {sF sC : Array (Option Value)} (X : K.In h) (G : h.Ns mainGlobals mg) (hfa : mg "answers" = some (.ref fa))
    (i_noSuch : nsIn K mainGlobals "NO_SUCH" = some (some (.int (-2) t_noSuch)))
    (i_none_ : nsIn K mainGlobals "NONE_THERE" = some (some (.int (-6) t_none_)))
    (i_notBegun : nsIn K mainGlobals "NOT_BEGUN" = some (some (.int (-11) t_notBegun)))
    (i_theirs : nsIn K mainGlobals "THEIRS_ALREADY" = some (some (.int (-17) t_theirs)))
    (i_notRight : nsIn K mainGlobals "NOT_RIGHT" = some (some (.int (-22) t_notRight)))
    (i_cannot : nsIn K mainGlobals "CANNOT_BE" = some (some (.int (-33) t_cannot)))
    (i_notTold : nsIn K mainGlobals "NOT_TOLD_IN" = some (some (.int (-62) t_notTold)))
    (i_mostL : nsIn K mainGlobals "MOST_LETTERS" = some (some (.int (4) t_mostL)))
    (i_begin_ : nsIn K mainGlobals "BEGIN" = some (some (.int (0) t_begin_)))
    (i_fol : nsIn K mainGlobals "FOLLOWS" = some (some (.int (1) t_fol)))
    (i_cbs : nsIn K mainGlobals "CANNOT_BE_SO" = some (some (.int (0) t_cbs)))
    (i_nei : nsIn K mainGlobals "NEITHER" = some (some (.int (2) t_nei)))
    (i_MB : nsIn K mainGlobals "MOST_BACK" = some (some (.int 20 t_MB)))
    (z_len : nsIn K mainGlobals "len" = some none)
    (z_range : nsIn K mainGlobals "range" = some none)
    (z_any : nsIn K mainGlobals "any" = some none)
    (aCl : nsIn K mainGlobals "People" = some (some (.ref C)))
    (pg : PySem.W.plainGet K C Str.empty = true)
    (hd : PySem.W.hasDictIn K C = true)
    (po : PySem.W.plainOver K C = true)
    (sa : findIn K (.ref C) "__setattr__" = some (some (.builtin "object.__setattr__")))
    (mk_ : PySem.W.makesIn K C = true)
    (kc : keepIn K (.ref C) = true)
    (nM : findIn K (.ref C) "m" = some none)
    (nO : findIn K (.ref C) "own_letters" = some none)
    (nK : findIn K (.ref C) "known" = some none)
    (nP : findIn K (.ref C) "past" = some none)
    (nU : findIn K (.ref C) "undone" = some none)
    (m___init__ : MetIn K C "__init__" "People.__init__" sInit fI)
    (m_begin_anew : MetIn K C "begin_anew" "People.begin_anew" sBeginAnew f_begin_anew)
    (m_common_letters : MetIn K C "common_letters" "People.common_letters" sCommon f_common_letters)
    (m_known_together : MetIn K C "known_together" "People.known_together" sTogether f_known_together)
    (m_most_told : MetIn K C "most_told" "People.most_told" sMost f_most_told)
    (m_known_if_told : MetIn K C "known_if_told" "People.known_if_told" sKIf f_known_if_told)
    (m_quarrel_in : MetIn K C "quarrel_in" "People.quarrel_in" sQuarrelIn f_quarrel_in)
    (m_keep_for_back : MetIn K C "keep_for_back" "People.keep_for_back" sKeepFor f_keep_for_back)
    (m_hold : MetIn K C "hold" "People.hold" sHold f_hold)
    (m_own_more : MetIn K C "own_more" "People.own_more" sOwnMore f_own_more)
    (m_restore : MetIn K C "restore" "People.restore" sRestore f_restore)
    (m_go_back : MetIn K C "go_back" "People.go_back" sGoBack f_go_back)
    (m_go_again : MetIn K C "go_again" "People.go_again" sGoAgain f_go_again)
    (d_all_letters : DefIn K "all_letters" "all_letters" sAll f_all_letters)
    (d_always : DefIn K "always" "always" sAlways f_always)
    (d_worlds : DefIn K "worlds" "worlds" sWorlds f_worlds)
    (d_says : DefIn K "says" "says" sSays f_says)
    (d_without : DefIn K "without" "without" sWithout f_without)
    (d_is_told_in : DefIn K "is_told_in" "is_told_in" sTold f_is_told_in)
    (d_falls_apart : DefIn K "falls_apart" "falls_apart" sFalls f_falls_apart)
    (d_part_with : DefIn K "part_with" "part_with" sPartOf f_part_with)
    (d_all_parts : DefIn K "all_parts" "all_parts" sParts f_all_parts)
    (d_touches : DefIn K "touches" "touches" sTouches f_touches)
    (d_revised : DefIn K "revised" "revised" sRevised f_revised)
    (d_letter_is_so : DefIn K "letter_is_so" "letter_is_so" sLetter f_letter_is_so)
    (d_follows_of : DefIn K "follows_of" "follows_of" sFollowsOf f_follows_of)
    (d_stands_to : DefIn K "stands_to" "stands_to" sStands f_stands_to)
    (d_members : DefIn K "members" "members" sMembers f_members)
    (d_sets_within : DefIn K "sets_within" "sets_within" sWithin f_sets_within)
    (d_with_one_less : DefIn K "with_one_less" "with_one_less" sLess f_with_one_less)
    (d_with_one_more : DefIn K "with_one_more" "with_one_more" sMore f_with_one_more)
    (d_has_any : DefIn K "has_any" "has_any" sHasAny f_has_any)
    (d_least_sets : DefIn K "least_sets" "least_sets" sLeast f_least_sets)
    (d_greatest_sets : DefIn K "greatest_sets" "greatest_sets" sGreatest f_greatest_sets)
    (d_counted : DefIn K "counted" "counted" sCounted f_counted)
    (d_with_one : DefIn K "with_one" "with_one" sWithOne f_with_one)
    (d_begin : DefIn K "begin" "begin" sBegin f_begin)
    (d_learn : DefIn K "learn" "learn" sLearn f_learn)
    (d_forget : DefIn K "forget" "forget" sForget f_forget)
    (d_revise : DefIn K "revise" "revise" sRevise f_revise)
    (d_tellof : DefIn K "tellof" "tellof" sTellof f_tellof)
    (d_tell : DefIn K "tell" "tell" sTell f_tell)
    (d_teach : DefIn K "teach" "teach" sTeach f_teach)
    (d_back : DefIn K "back" "back" sBack f_back)
    (d_again : DefIn K "again" "again" sAgain f_again)
    (d_knows : DefIn K "knows" "knows" sKnows f_knows)
    (d_follows : DefIn K "follows" "follows" sFollows f_follows)
    (d_is_open : DefIn K "is_open" "is_open" sOpen f_is_open)
    (d_shared : DefIn K "shared" "shared" sShared f_shared)
    (d_own : DefIn K "own" "own" sOwn f_own)
    (d_tells : DefIn K "tells" "tells" sTells f_tells)
    (d_news : DefIn K "news" "news" sNews f_news)
    (d_would : DefIn K "would" "would" sWould f_would)
    (d_could : DefIn K "could" "could" sCould f_could)
    (d_asks : DefIn K "asks" "asks" sAsks f_asks)
    (d_safe : DefIn K "safe" "safe" sSafe f_safe)
    (d_quarrel : DefIn K "quarrel" "quarrel" sQuarrel f_quarrel)
    (d_quarrels : DefIn K "quarrels" "quarrels" sQuarrels f_quarrels)
    (d_both : DefIn K "both" "both" sBoth f_both)
    (d_common : DefIn K "common" "common" sCommonC f_common)
    (d_agreed : DefIn K "agreed" "agreed" sAgreed f_agreed)
    (d_parts : DefIn K "parts" "parts" sPartsC f_parts)
    (d_matter : DefIn K "matter" "matter" sMatter f_matter)
    (d_settles : DefIn K "settles" "settles" sSettles f_settles)
    (d_unsure : DefIn K "unsure" "unsure" sUnsure f_unsure)
    (d_state : DefIn K "state" "state" sState f_state)
    (d_claim_refusal : DefIn K "claim_refusal" "claim_refusal" sClaimRef f_claim_refusal)
    (d_letters_refusal : DefIn K "letters_refusal" "letters_refusal" sLettersRef f_letters_refusal)
    (d_refusal_of : DefIn K "refusal_of" "refusal_of" sPersonRef f_refusal_of)
    (d_carry_out : DefIn K "carry_out" "carry_out" sCarry f_carry_out)
    (d_answer_of : DefIn K "answer_of" "answer_of" sAnswerOf f_answer_of)
    (d_answers : DefIn K "answers" "answers" sAnswers f_answers)
    (aFo : nsIn K mainGlobals "FORMS" = some (some (.ref aF)))
    (lFo : K.lookup aF = some ⟨.type "tuple", oF, .seq iF nF, sF⟩)
    (zFo : iF.size ≤ sizeLine)
    (vFo : Vals (forms.map V.str) iF.toList)
    (aCa : nsIn K mainGlobals "CALLS" = some (some (.ref aC)))
    (lCa : K.lookup aC = some ⟨.type "tuple", oC, .seq iC nC, sC⟩)
    (zCa : iC.size ≤ sizeLine)
    (vCa : Vals ([f_begin, f_learn, f_forget, f_revise, f_tell, f_tellof, f_teach, f_back, f_again, f_knows, f_follows, f_is_open, f_shared, f_own, f_tells, f_news, f_would, f_could, f_asks, f_safe, f_quarrel, f_quarrels, f_both, f_common, f_agreed, f_parts, f_matter, f_settles, f_unsure, f_state].map V.ref) iC.toList)
    (h30 : 30 ≤ 30) :
    ∃ fd : FuncData, (∀ (s : Shared) (us : List Value), us.length = (["calls"] : List Str).length → BindsTo s fd ⟨us, []⟩ ((["calls"] : List Str).zip us)) ∧ ∀ base : Heap, K.In base → base.Ns mainGlobals mg → FnOk P w K mg base CX0 11 fa fd ["calls"] (spAnswers K) := by
  have e := hfa.symm.trans (PySem.W.mg_of X G d_answers.at_)
  cases e
  have T : Txt K C := ⟨⟨pg, hd, po, sa⟩, nM, nO, nK, nP, nU⟩
  have N : Cn mg := ⟨PySem.W.mg_none_of X G z_len, PySem.W.mg_none_of X G z_range, PySem.W.mg_none_of X G z_any, ⟨_, PySem.W.mg_of X G i_noSuch⟩, ⟨_, PySem.W.mg_of X G i_none_⟩, ⟨_, PySem.W.mg_of X G i_notBegun⟩, ⟨_, PySem.W.mg_of X G i_theirs⟩, ⟨_, PySem.W.mg_of X G i_notRight⟩, ⟨_, PySem.W.mg_of X G i_cannot⟩, ⟨_, PySem.W.mg_of X G i_notTold⟩, ⟨_, PySem.W.mg_of X G i_mostL⟩, ⟨_, PySem.W.mg_of X G i_begin_⟩, ⟨_, PySem.W.mg_of X G i_fol⟩, ⟨_, PySem.W.mg_of X G i_cbs⟩, ⟨_, PySem.W.mg_of X G i_nei⟩⟩
  have hMB : ∃ t, mg "MOST_BACK" = some (.int 20 t) := ⟨_, PySem.W.mg_of X G i_MB⟩
  obtain ⟨fd, FA⟩ := d_answers.fn
  obtain ⟨oc, od, kV, doc, pm, an, cdv, ct, osl, efd, lk, hcd⟩ := FA.ex
  refine ⟨fd, fun s us hu => ?_, fun base _ _ => ?_⟩
  · rw [efd]
    exact match us, hu with | [_], _ => .of_eq rfl
  have D_all_letters : Def P w K mg base "all_letters" 1 ["m"] spAll := d_all_letters.df X G b_all_letters fun fd F => ok_all F
  have D_always : Def P w K mg base "always" 1 ["m"] spAlways := d_always.df X G b_always fun fd F => ok_always F
  have D_worlds : Def P w K mg base "worlds" 1 ["claim", "m"] spWorlds := d_worlds.df X G b_worlds fun fd F => ok_worlds F N.range
  have D_says : Def P w K mg base "says" 2 ["claim", "letters", "m"] spSays := d_says.df X G b_says fun fd F => ok_says F N.range D_worlds
  have D_without : Def P w K mg base "without" 3 ["claim", "letters", "m"] spWithout := d_without.df X G b_without fun fd F => ok_without F D_all_letters D_says
  have D_is_told_in : Def P w K mg base "is_told_in" 3 ["claim", "letters", "m"] spTold := d_is_told_in.df X G b_is_told_in fun fd F => ok_told F D_says
  have D_falls_apart : Def P w K mg base "falls_apart" 4 ["claim", "letters", "m"] spFalls := d_falls_apart.df X G b_falls_apart fun fd F => ok_falls F D_says D_without
  have D_part_with : Def P w K mg base "part_with" 5 ["claim", "letter", "m"] spPartOf := d_part_with.df X G b_part_with fun fd F => ok_partOf F N.range D_all_letters D_falls_apart
  have D_all_parts : Def P w K mg base "all_parts" 6 ["claim", "m"] spParts := d_all_parts.df X G b_all_parts fun fd F => ok_parts F N.range D_part_with
  have D_touches : Def P w K mg base "touches" 4 ["claim", "part", "m"] spTouches := d_touches.df X G b_touches fun fd F => ok_touches F D_without
  have D_revised : Def P w K mg base "revised" 7 ["known", "claim", "m"] spRevised := d_revised.df X G b_revised fun fd F => ok_revised F D_all_parts D_touches D_says
  have D_letter_is_so : Def P w K mg base "letter_is_so" 1 ["letter", "m"] spLetter := d_letter_is_so.df X G b_letter_is_so fun fd F => ok_letter F N.range
  have D_follows_of : Def P w K mg base "follows_of" 1 ["claim", "known"] spFollowsOf := d_follows_of.df X G b_follows_of fun fd F => ok_followsOf F
  have D_stands_to : Def P w K mg base "stands_to" 2 ["claim", "known"] spStands := d_stands_to.df X G b_stands_to fun fd F => ok_stands F N.fol N.cbs N.nei D_follows_of
  have D_members : Def P w K mg base "members" 1 ["letters"] spMembers := d_members.df X G b_members fun fd F => ok_members F N.range
  have D_sets_within : Def P w K mg base "sets_within" 1 ["letters"] spWithin := d_sets_within.df X G b_sets_within fun fd F => ok_within F N.range
  have D_with_one_less : Def P w K mg base "with_one_less" 2 ["letters"] spLess := d_with_one_less.df X G b_with_one_less fun fd F => ok_less F D_members
  have D_with_one_more : Def P w K mg base "with_one_more" 2 ["letters", "most"] spMore := d_with_one_more.df X G b_with_one_more fun fd F => ok_more F D_members
  have D_has_any : Def P w K mg base "has_any" 1 ["found", "wanted"] spHasAny := d_has_any.df X G b_has_any fun fd F => ok_hasAny F N.any
  have D_least_sets : Def P w K mg base "least_sets" 3 ["found"] spLeast := d_least_sets.df X G b_least_sets fun fd F => ok_least F D_has_any D_with_one_less
  have D_greatest_sets : Def P w K mg base "greatest_sets" 3 ["found", "most"] spGreatest := d_greatest_sets.df X G b_greatest_sets fun fd F => ok_greatest F D_has_any D_with_one_more
  have D_counted : Def P w K mg base "counted" 1 ["found"] spCounted := d_counted.df X G b_counted fun fd F => ok_counted F N.len
  have D_with_one : Def P w K mg base "with_one" 1 ["pair", "w", "value"] spWithOne := d_with_one.df X G b_with_one fun fd F => ok_withOne F
  have M_begin_anew : Met P w K mg base C "begin_anew" 2 ["self", "m", "a", "b"] (spBeginAnew C) := m_begin_anew.mt b_begin_anew fun fd F => ok_beginAnew F T D_always
  have M_common_letters : Met P w K mg base C "common_letters" 1 ["self"] (spCommon C) := m_common_letters.mt b_common_letters fun fd F => ok_common F T
  have M_known_together : Met P w K mg base C "known_together" 1 ["self"] (spTogether C) := m_known_together.mt b_known_together fun fd F => ok_together F T
  have M_most_told : Met P w K mg base C "most_told" 3 ["self", "w", "letters"] (spMost C) := m_most_told.mt b_most_told fun fd F => ok_most F T D_says
  have M_known_if_told : Met P w K mg base C "known_if_told" 4 ["self", "w", "letters"] (spKIf C) := m_known_if_told.mt b_known_if_told fun fd F => ok_kif F T M_most_told
  have M_quarrel_in : Met P w K mg base C "quarrel_in" 4 ["self", "letters"] (spQuarrelIn C) := m_quarrel_in.mt b_quarrel_in fun fd F => ok_quarrelIn F T M_most_told
  have M_keep_for_back : Met P w K mg base C "keep_for_back" 1 ["self"] (spKeepFor C) := m_keep_for_back.mt b_keep_for_back fun fd F => ok_keepFor F T N.len hMB
  have M_hold : Met P w K mg base C "hold" 2 ["self", "w", "claim"] (spHold C) := m_hold.mt b_hold fun fd F => ok_hold F T M_keep_for_back D_with_one
  have M_own_more : Met P w K mg base C "own_more" 2 ["self", "w", "letter"] (spOwnMore C) := m_own_more.mt b_own_more fun fd F => ok_ownMore F T M_keep_for_back D_with_one
  have M_restore : Met P w K mg base C "restore" 1 ["self", "kept"] (spRestore C) := m_restore.mt b_restore fun fd F => ok_restore F T
  have M_go_back : Met P w K mg base C "go_back" 2 ["self"] (spGoBack C) := m_go_back.mt b_go_back fun fd F => ok_goBack F T M_restore
  have M_go_again : Met P w K mg base C "go_again" 2 ["self"] (spGoAgain C) := m_go_again.mt b_go_again fun fd F => ok_goAgain F T M_restore
  have D_begin : Def P w K mg base "begin" 3 ["people", "m", "a", "b"] (spBegin C) := d_begin.df X G b_begin fun fd F => ok_begin F T N D_all_letters M_begin_anew
  have D_learn : Def P w K mg base "learn" 3 ["people", "w", "q"] (spC2 C PreQ .learn) := d_learn.df X G b_learn fun fd F => ok_learn F T N M_hold D_worlds
  have D_forget : Def P w K mg base "forget" 4 ["people", "w", "s"] (spC2 C pWF .forget) := d_forget.df X G b_forget fun fd F => ok_forget F T M_hold D_without
  have D_revise : Def P w K mg base "revise" 8 ["people", "w", "q"] (spC2 C PreQ .revise) := d_revise.df X G b_revise fun fd F => ok_revise F T N M_hold D_revised
  have D_tellof : Def P w K mg base "tellof" 5 ["people", "w", "s"] (spC2 C PreS .tellOf) := d_tellof.df X G b_tellof fun fd F => ok_tellof F T N M_hold M_most_told M_known_if_told
  have D_tell : Def P w K mg base "tell" 6 ["people", "w"] (spC1 C pW .tell) := d_tell.df X G b_tell fun fd F => ok_tell F T D_tellof M_common_letters
  have D_teach : Def P w K mg base "teach" 3 ["people", "w", "i"] (spC2 C pWI .teach) := d_teach.df X G b_teach fun fd F => ok_teach F T N M_own_more
  have D_back : Def P w K mg base "back" 3 ["people"] (spC0 C .back) := d_back.df X G b_back fun fd F => ok_back F T N M_go_back
  have D_again : Def P w K mg base "again" 3 ["people"] (spC0 C .again) := d_again.df X G b_again fun fd F => ok_again F T N M_go_again
  have D_knows : Def P w K mg base "knows" 2 ["people", "w"] (spC1 C pW .knows) := d_knows.df X G b_knows fun fd F => ok_knows F T N D_worlds
  have D_follows : Def P w K mg base "follows" 2 ["people", "w", "q"] (spC2 C PreQ .follows) := d_follows.df X G b_follows fun fd F => ok_follows F T D_follows_of
  have D_is_open : Def P w K mg base "is_open" 3 ["people", "w", "q"] (spC2 C PreQ .open_) := d_is_open.df X G b_is_open fun fd F => ok_open F T D_stands_to
  have D_shared : Def P w K mg base "shared" 2 ["people"] (spC0 C .shared) := d_shared.df X G b_shared fun fd F => ok_shared F T M_common_letters
  have D_own : Def P w K mg base "own" 1 ["people", "w"] (spC1 C pW .own) := d_own.df X G b_own fun fd F => ok_own F T
  have D_tells : Def P w K mg base "tells" 4 ["people", "w", "s"] (spC2 C PreS .tells) := d_tells.df X G b_tells fun fd F => ok_tells F T M_most_told
  have D_news : Def P w K mg base "news" 4 ["people", "w", "s"] (spC2 C PreS .news) := d_news.df X G b_news fun fd F => ok_news F T M_most_told D_follows_of
  have D_would : Def P w K mg base "would" 5 ["people", "w"] (spC1 C pW .would) := d_would.df X G b_would fun fd F => ok_would F T M_known_if_told M_common_letters
  have D_could : Def P w K mg base "could" 2 ["people", "w", "q"] (spC2 C PreQ .could) := d_could.df X G b_could fun fd F => ok_could F T D_follows_of M_known_together
  have D_asks : Def P w K mg base "asks" 5 ["people", "w", "q"] (spC2 C PreQ .asks) := d_asks.df X G b_asks fun fd F => ok_asks F T N D_follows_of M_known_together M_common_letters M_known_if_told D_sets_within D_least_sets D_counted
  have D_safe : Def P w K mg base "safe" 5 ["people", "w", "q"] (spC2 C PreQ .safe) := d_safe.df X G b_safe fun fd F => ok_safe F T N D_follows_of M_common_letters M_known_if_told D_sets_within D_greatest_sets D_counted
  have D_quarrel : Def P w K mg base "quarrel" 5 ["people"] (spC0 C .quarrel) := d_quarrel.df X G b_quarrel fun fd F => ok_quarrel F T M_quarrel_in M_common_letters
  have D_quarrels : Def P w K mg base "quarrels" 5 ["people"] (spC0 C .quarrels) := d_quarrels.df X G b_quarrels fun fd F => ok_quarrels F T N M_quarrel_in M_common_letters D_sets_within D_least_sets D_counted
  have D_both : Def P w K mg base "both" 2 ["people"] (spC0 C .both) := d_both.df X G b_both fun fd F => ok_both F T N M_known_together D_worlds
  have D_common : Def P w K mg base "common" 4 ["people"] (spC0 C .common) := d_common.df X G b_common fun fd F => ok_commonC F T M_most_told M_common_letters
  have D_agreed : Def P w K mg base "agreed" 4 ["people", "s"] (spC1 C pS .agreed) := d_agreed.df X G b_agreed fun fd F => ok_agreed F T M_most_told
  have D_parts : Def P w K mg base "parts" 7 ["people", "w"] (spC1 C pW .parts) := d_parts.df X G b_parts fun fd F => ok_partsC F T D_all_parts D_counted
  have D_matter : Def P w K mg base "matter" 7 ["people", "w"] (spC1 C pW .matter) := d_matter.df X G b_matter fun fd F => ok_matter F T M_common_letters D_all_parts D_counted
  have D_settles : Def P w K mg base "settles" 3 ["people", "w"] (spC1 C pW .settles) := d_settles.df X G b_settles fun fd F => ok_settles F T N D_stands_to D_letter_is_so D_counted
  have D_unsure : Def P w K mg base "unsure" 3 ["people", "w"] (spC1 C pW .unsure) := d_unsure.df X G b_unsure fun fd F => ok_unsure F T N D_members D_stands_to D_letter_is_so D_counted
  have D_state : Def P w K mg base "state" 1 ["people"] (spC0 C .state) := d_state.df X G b_state fun fd F => ok_state F T N
  have D_claim_refusal : Def P w K mg base "claim_refusal" 4 ["people", "w", "q"] (spClaimRef C) := d_claim_refusal.df X G b_claim_refusal fun fd F => ok_claimRef F T N D_always D_is_told_in
  have D_letters_refusal : Def P w K mg base "letters_refusal" 2 ["people", "s", "must_be_shared"] (spLettersRef C) := d_letters_refusal.df X G b_letters_refusal fun fd F => ok_lettersRef F T N D_all_letters M_common_letters
  have D_refusal_of : Def P w K mg base "refusal_of" 5 ["people", "form", "given"] (spRefusal C) := d_refusal_of.df X G b_refusal_of fun fd F => ok_refusal F T N D_claim_refusal D_letters_refusal
  have D_carry_out : Def P w K mg base "carry_out" 9 ["people", "call", "given"] (spCarry P w K mg base) := d_carry_out.df X G b_carry_out fun fd F => ok_carry F N
  obtain ⟨fdI, FI⟩ := m___init__.fn
  have tF : ∀ H : Hp, SqT K H aF (forms.map V.str) := fun H => .inr ⟨_, iF, nF, lFo, rfl, rfl, zFo, vFo⟩
  have tC : ∀ H : Hp, SqT K H aC ([f_begin, f_learn, f_forget, f_revise, f_tell, f_tellof, f_teach, f_back, f_again, f_knows, f_follows, f_is_open, f_shared, f_own, f_tells, f_news, f_would, f_could, f_asks, f_safe, f_quarrel, f_quarrels, f_both, f_common, f_agreed, f_parts, f_matter, f_settles, f_unsure, f_state].map V.ref) := fun H => .inr ⟨_, iC, nC, lCa, rfl, rfl, zCa, vCa⟩
  have eC : ∀ n c, ([f_begin, f_learn, f_forget, f_revise, f_tell, f_tellof, f_teach, f_back, f_again, f_knows, f_follows, f_is_open, f_shared, f_own, f_tells, f_news, f_would, f_could, f_asks, f_safe, f_quarrel, f_quarrels, f_both, f_common, f_agreed, f_parts, f_matter, f_settles, f_unsure, f_state] : List Addr)[n]? = some c → CallOk P w K mg base C n c := fun n c hc => match n, hc with
    | 0, hc => by cases hc; exact call_ok d_begin b_begin (fun fd F => ok_begin F T N D_all_letters M_begin_anew) (by decide) goB
    | 1, hc => by cases hc; exact call_ok d_learn b_learn (fun fd F => ok_learn F T N M_hold D_worlds) (by decide) (go2 rfl (by decide) (fun _ _ => rfl) (fun _ _ _ z => z) fun _ _ => rfl)
    | 2, hc => by cases hc; exact call_ok d_forget b_forget (fun fd F => ok_forget F T M_hold D_without) (by decide) (go2 rfl (by decide) (fun _ _ => rfl) (fun _ _ _ z => z) fun _ _ => rfl)
    | 3, hc => by cases hc; exact call_ok d_revise b_revise (fun fd F => ok_revise F T N M_hold D_revised) (by decide) (go2 rfl (by decide) (fun _ _ => rfl) (fun _ _ _ z => z) fun _ _ => rfl)
    | 4, hc => by cases hc; exact call_ok d_tell b_tell (fun fd F => ok_tell F T D_tellof M_common_letters) (by decide) (go1 rfl (by decide) fun _ => rfl)
    | 5, hc => by cases hc; exact call_ok d_tellof b_tellof (fun fd F => ok_tellof F T N M_hold M_most_told M_known_if_told) (by decide) (go2 rfl (by decide) (fun _ _ => rfl) (fun _ _ _ z => z) fun _ _ => rfl)
    | 6, hc => by cases hc; exact call_ok d_teach b_teach (fun fd F => ok_teach F T N M_own_more) (by decide) (go2 rfl (by decide) (fun _ _ => rfl) (fun _ _ _ z => z) fun _ _ => rfl)
    | 7, hc => by cases hc; exact call_ok d_back b_back (fun fd F => ok_back F T N M_go_back) (by decide) (go0 rfl (by decide) rfl)
    | 8, hc => by cases hc; exact call_ok d_again b_again (fun fd F => ok_again F T N M_go_again) (by decide) (go0 rfl (by decide) rfl)
    | 9, hc => by cases hc; exact call_ok d_knows b_knows (fun fd F => ok_knows F T N D_worlds) (by decide) (go1 rfl (by decide) fun _ => rfl)
    | 10, hc => by cases hc; exact call_ok d_follows b_follows (fun fd F => ok_follows F T D_follows_of) (by decide) (go2 rfl (by decide) (fun _ _ => rfl) (fun _ _ _ z => z) fun _ _ => rfl)
    | 11, hc => by cases hc; exact call_ok d_is_open b_is_open (fun fd F => ok_open F T D_stands_to) (by decide) (go2 rfl (by decide) (fun _ _ => rfl) (fun _ _ _ z => z) fun _ _ => rfl)
    | 12, hc => by cases hc; exact call_ok d_shared b_shared (fun fd F => ok_shared F T M_common_letters) (by decide) (go0 rfl (by decide) rfl)
    | 13, hc => by cases hc; exact call_ok d_own b_own (fun fd F => ok_own F T) (by decide) (go1 rfl (by decide) fun _ => rfl)
    | 14, hc => by cases hc; exact call_ok d_tells b_tells (fun fd F => ok_tells F T M_most_told) (by decide) (go2 rfl (by decide) (fun _ _ => rfl) (fun _ _ _ z => z) fun _ _ => rfl)
    | 15, hc => by cases hc; exact call_ok d_news b_news (fun fd F => ok_news F T M_most_told D_follows_of) (by decide) (go2 rfl (by decide) (fun _ _ => rfl) (fun _ _ _ z => z) fun _ _ => rfl)
    | 16, hc => by cases hc; exact call_ok d_would b_would (fun fd F => ok_would F T M_known_if_told M_common_letters) (by decide) (go1 rfl (by decide) fun _ => rfl)
    | 17, hc => by cases hc; exact call_ok d_could b_could (fun fd F => ok_could F T D_follows_of M_known_together) (by decide) (go2 rfl (by decide) (fun _ _ => rfl) (fun _ _ _ z => z) fun _ _ => rfl)
    | 18, hc => by cases hc; exact call_ok d_asks b_asks (fun fd F => ok_asks F T N D_follows_of M_known_together M_common_letters M_known_if_told D_sets_within D_least_sets D_counted) (by decide) (go2 rfl (by decide) (fun _ _ => rfl) (fun _ _ _ z => z) fun _ _ => rfl)
    | 19, hc => by cases hc; exact call_ok d_safe b_safe (fun fd F => ok_safe F T N D_follows_of M_common_letters M_known_if_told D_sets_within D_greatest_sets D_counted) (by decide) (go2 rfl (by decide) (fun _ _ => rfl) (fun _ _ _ z => z) fun _ _ => rfl)
    | 20, hc => by cases hc; exact call_ok d_quarrel b_quarrel (fun fd F => ok_quarrel F T M_quarrel_in M_common_letters) (by decide) (go0 rfl (by decide) rfl)
    | 21, hc => by cases hc; exact call_ok d_quarrels b_quarrels (fun fd F => ok_quarrels F T N M_quarrel_in M_common_letters D_sets_within D_least_sets D_counted) (by decide) (go0 rfl (by decide) rfl)
    | 22, hc => by cases hc; exact call_ok d_both b_both (fun fd F => ok_both F T N M_known_together D_worlds) (by decide) (go0 rfl (by decide) rfl)
    | 23, hc => by cases hc; exact call_ok d_common b_common (fun fd F => ok_commonC F T M_most_told M_common_letters) (by decide) (go0 rfl (by decide) rfl)
    | 24, hc => by cases hc; exact call_ok d_agreed b_agreed (fun fd F => ok_agreed F T M_most_told) (by decide) goS
    | 25, hc => by cases hc; exact call_ok d_parts b_parts (fun fd F => ok_partsC F T D_all_parts D_counted) (by decide) (go1 rfl (by decide) fun _ => rfl)
    | 26, hc => by cases hc; exact call_ok d_matter b_matter (fun fd F => ok_matter F T M_common_letters D_all_parts D_counted) (by decide) (go1 rfl (by decide) fun _ => rfl)
    | 27, hc => by cases hc; exact call_ok d_settles b_settles (fun fd F => ok_settles F T N D_stands_to D_letter_is_so D_counted) (by decide) (go1 rfl (by decide) fun _ => rfl)
    | 28, hc => by cases hc; exact call_ok d_unsure b_unsure (fun fd F => ok_unsure F T N D_members D_stands_to D_letter_is_so D_counted) (by decide) (go1 rfl (by decide) fun _ => rfl)
    | 29, hc => by cases hc; exact call_ok d_state b_state (fun fd F => ok_state F T N) (by decide) (go0 rfl (by decide) rfl)
    | n + 30, hc => by cases hc
  have D_answer_of : Def P w K mg base "answer_of" 10 ["people", "number", "given"] (spAnswerOf C 30) := d_answer_of.df X G b_answer_of fun fd F => ok_answerOf F T N (PySem.W.mg_of X G aFo) tF (fun n hn => forms_at (Nat.lt_of_lt_of_le hn (by show 30 ≤ 30; decide))) (PySem.W.mg_of X G aCa) tC eC D_refusal_of D_carry_out
  exact ok_answers FA T N (PySem.W.mg_of X G aFo) tF (fun n hn => forms_at (Nat.lt_of_lt_of_le hn (by show 30 ≤ 30; decide))) h30 ⟨mk_, m___init__.at_, m___init__.isf, kc⟩ (ok_init FI T) (FI.binds b___init__) (PySem.W.mg_of X G aCl) D_answer_of
theorem fo_eq (x qual : Str) (st : Stmt) (m : Str) (t c : Nat) : fo x qual st m t c = ⟨.type "function", none, .func (fnOf x qual (defArgs st) (defBody st) (defScope st) .none .none .none (.str m t) none (.ref c) .none), #[]⟩ := by
  unfold fo
  cases st <;> rfl
theorem def_inX {K : Frag} {x qual : Str} {st : Stmt} {f : Addr} (m : Str) (t c : Nat) (a : nsIn K mainGlobals x = some (some (.ref f))) (l : K.lookup f = some (fo x qual st m t c)) (cc : codeIn K (.ref c) qual = true) (k : keepIn K (.ref f) = true) : DefIn K x qual st f :=
  def_in a (by rw [l, fo_eq]) cc k
theorem met_inX {K : Frag} {C : Addr} {x qual : Str} {st : Stmt} {f : Addr} (m : Str) (t c : Nat) (a : findIn K (.ref C) x = some (some (.ref f))) (i : isFn K (.ref f) = true) (l : K.lookup f = some (fo x qual st m t c)) (cc : codeIn K (.ref c) qual = true) (k : keepIn K (.ref f) = true) : MetIn K C x qual st f :=
  met_in a i (by rw [l, fo_eq]) cc k
theorem kf_i_noSuch (P : Params) : nsIn (Kx P) mainGlobals "NO_SUCH" = some (some (.int (-2) 505)) := by kernel_rfl
theorem kf_i_none_ (P : Params) : nsIn (Kx P) mainGlobals "NONE_THERE" = some (some (.int (-6) 508)) := by kernel_rfl
theorem kf_i_notBegun (P : Params) : nsIn (Kx P) mainGlobals "NOT_BEGUN" = some (some (.int (-11) 511)) := by kernel_rfl
theorem kf_i_theirs (P : Params) : nsIn (Kx P) mainGlobals "THEIRS_ALREADY" = some (some (.int (-17) 514)) := by kernel_rfl
theorem kf_i_notRight (P : Params) : nsIn (Kx P) mainGlobals "NOT_RIGHT" = some (some (.int (-22) 517)) := by kernel_rfl
theorem kf_i_cannot (P : Params) : nsIn (Kx P) mainGlobals "CANNOT_BE" = some (some (.int (-33) 520)) := by kernel_rfl
theorem kf_i_notTold (P : Params) : nsIn (Kx P) mainGlobals "NOT_TOLD_IN" = some (some (.int (-62) 523)) := by kernel_rfl
theorem kf_i_mostL (P : Params) : nsIn (Kx P) mainGlobals "MOST_LETTERS" = some (some (.int (4) 525)) := by kernel_rfl
theorem kf_i_begin_ (P : Params) : nsIn (Kx P) mainGlobals "BEGIN" = some (some (.int (0) 527)) := by kernel_rfl
theorem kf_i_fol (P : Params) : nsIn (Kx P) mainGlobals "FOLLOWS" = some (some (.int (1) 189)) := by kernel_rfl
theorem kf_i_cbs (P : Params) : nsIn (Kx P) mainGlobals "CANNOT_BE_SO" = some (some (.int (0) 191)) := by kernel_rfl
theorem kf_i_nei (P : Params) : nsIn (Kx P) mainGlobals "NEITHER" = some (some (.int (2) 193)) := by kernel_rfl
theorem kf_i_MB (P : Params) : nsIn (Kx P) mainGlobals "MOST_BACK" = some (some (.int (20) 318)) := by kernel_rfl
theorem kf_z_len (P : Params) : nsIn (Kx P) mainGlobals "len" = some none := by kernel_rfl
theorem kf_z_range (P : Params) : nsIn (Kx P) mainGlobals "range" = some none := by kernel_rfl
theorem kf_z_any (P : Params) : nsIn (Kx P) mainGlobals "any" = some none := by kernel_rfl
theorem kf_aCl (P : Params) : nsIn (Kx P) mainGlobals "People" = some (some (.ref 216)) := by kernel_rfl
theorem kf_pg (P : Params) : PySem.W.plainGet (Kx P) 216 Str.empty = true := by kernel_rfl
theorem kf_hd (P : Params) : PySem.W.hasDictIn (Kx P) 216 = true := by kernel_rfl
theorem kf_po (P : Params) : PySem.W.plainOver (Kx P) 216 = true := by kernel_rfl
theorem kf_sa (P : Params) : findIn (Kx P) (.ref 216) "__setattr__" = some (some (.builtin "object.__setattr__")) := by kernel_rfl
theorem kf_mk_ (P : Params) : PySem.W.makesIn (Kx P) 216 = true := by kernel_rfl
theorem kf_kc (P : Params) : keepIn (Kx P) (.ref 216) = true := by kernel_rfl
theorem kf_nM (P : Params) : findIn (Kx P) (.ref 216) "m" = some none := by kernel_rfl
theorem kf_nO (P : Params) : findIn (Kx P) (.ref 216) "own_letters" = some none := by kernel_rfl
theorem kf_nK (P : Params) : findIn (Kx P) (.ref 216) "known" = some none := by kernel_rfl
theorem kf_nP (P : Params) : findIn (Kx P) (.ref 216) "past" = some none := by kernel_rfl
theorem kf_nU (P : Params) : findIn (Kx P) (.ref 216) "undone" = some none := by kernel_rfl
theorem kf_m___init__ (P : Params) : MetIn (Kx P) 216 "__init__" "People.__init__" sInit 129 := met_inX "sharedwords.people" 316 128 (by kernel_rfl) (by kernel_rfl) (by kernel_rfl) (by kernel_rfl) (by kernel_rfl)
theorem kf_m_begin_anew (P : Params) : MetIn (Kx P) 216 "begin_anew" "People.begin_anew" sBeginAnew 136 := met_inX "sharedwords.people" 316 135 (by kernel_rfl) (by kernel_rfl) (by kernel_rfl) (by kernel_rfl) (by kernel_rfl)
theorem kf_m_common_letters (P : Params) : MetIn (Kx P) 216 "common_letters" "People.common_letters" sCommon 143 := met_inX "sharedwords.people" 316 142 (by kernel_rfl) (by kernel_rfl) (by kernel_rfl) (by kernel_rfl) (by kernel_rfl)
theorem kf_m_known_together (P : Params) : MetIn (Kx P) 216 "known_together" "People.known_together" sTogether 150 := met_inX "sharedwords.people" 316 149 (by kernel_rfl) (by kernel_rfl) (by kernel_rfl) (by kernel_rfl) (by kernel_rfl)
theorem kf_m_most_told (P : Params) : MetIn (Kx P) 216 "most_told" "People.most_told" sMost 157 := met_inX "sharedwords.people" 316 156 (by kernel_rfl) (by kernel_rfl) (by kernel_rfl) (by kernel_rfl) (by kernel_rfl)
theorem kf_m_known_if_told (P : Params) : MetIn (Kx P) 216 "known_if_told" "People.known_if_told" sKIf 164 := met_inX "sharedwords.people" 316 163 (by kernel_rfl) (by kernel_rfl) (by kernel_rfl) (by kernel_rfl) (by kernel_rfl)
theorem kf_m_quarrel_in (P : Params) : MetIn (Kx P) 216 "quarrel_in" "People.quarrel_in" sQuarrelIn 171 := met_inX "sharedwords.people" 316 170 (by kernel_rfl) (by kernel_rfl) (by kernel_rfl) (by kernel_rfl) (by kernel_rfl)
theorem kf_m_keep_for_back (P : Params) : MetIn (Kx P) 216 "keep_for_back" "People.keep_for_back" sKeepFor 192 := met_inX "sharedwords.people" 316 191 (by kernel_rfl) (by kernel_rfl) (by kernel_rfl) (by kernel_rfl) (by kernel_rfl)
theorem kf_m_hold (P : Params) : MetIn (Kx P) 216 "hold" "People.hold" sHold 178 := met_inX "sharedwords.people" 316 177 (by kernel_rfl) (by kernel_rfl) (by kernel_rfl) (by kernel_rfl) (by kernel_rfl)
theorem kf_m_own_more (P : Params) : MetIn (Kx P) 216 "own_more" "People.own_more" sOwnMore 185 := met_inX "sharedwords.people" 316 184 (by kernel_rfl) (by kernel_rfl) (by kernel_rfl) (by kernel_rfl) (by kernel_rfl)
theorem kf_m_restore (P : Params) : MetIn (Kx P) 216 "restore" "People.restore" sRestore 213 := met_inX "sharedwords.people" 316 212 (by kernel_rfl) (by kernel_rfl) (by kernel_rfl) (by kernel_rfl) (by kernel_rfl)
theorem kf_m_go_back (P : Params) : MetIn (Kx P) 216 "go_back" "People.go_back" sGoBack 199 := met_inX "sharedwords.people" 316 198 (by kernel_rfl) (by kernel_rfl) (by kernel_rfl) (by kernel_rfl) (by kernel_rfl)
theorem kf_m_go_again (P : Params) : MetIn (Kx P) 216 "go_again" "People.go_again" sGoAgain 206 := met_inX "sharedwords.people" 316 205 (by kernel_rfl) (by kernel_rfl) (by kernel_rfl) (by kernel_rfl) (by kernel_rfl)
theorem kf_d_all_letters (P : Params) : DefIn (Kx P) "all_letters" "all_letters" sAll 21 := def_inX "sharedwords.claims" 187 20 (by kernel_rfl) (by kernel_rfl) (by kernel_rfl) (by kernel_rfl)
theorem kf_d_always (P : Params) : DefIn (Kx P) "always" "always" sAlways 28 := def_inX "sharedwords.claims" 187 27 (by kernel_rfl) (by kernel_rfl) (by kernel_rfl) (by kernel_rfl)
theorem kf_d_worlds (P : Params) : DefIn (Kx P) "worlds" "worlds" sWorlds 33 := def_inX "sharedwords.claims" 187 32 (by kernel_rfl) (by kernel_rfl) (by kernel_rfl) (by kernel_rfl)
theorem kf_d_says (P : Params) : DefIn (Kx P) "says" "says" sSays 59 := def_inX "sharedwords.claims" 187 58 (by kernel_rfl) (by kernel_rfl) (by kernel_rfl) (by kernel_rfl)
theorem kf_d_without (P : Params) : DefIn (Kx P) "without" "without" sWithout 66 := def_inX "sharedwords.claims" 187 65 (by kernel_rfl) (by kernel_rfl) (by kernel_rfl) (by kernel_rfl)
theorem kf_d_is_told_in (P : Params) : DefIn (Kx P) "is_told_in" "is_told_in" sTold 73 := def_inX "sharedwords.claims" 187 72 (by kernel_rfl) (by kernel_rfl) (by kernel_rfl) (by kernel_rfl)
theorem kf_d_falls_apart (P : Params) : DefIn (Kx P) "falls_apart" "falls_apart" sFalls 80 := def_inX "sharedwords.claims" 187 79 (by kernel_rfl) (by kernel_rfl) (by kernel_rfl) (by kernel_rfl)
theorem kf_d_part_with (P : Params) : DefIn (Kx P) "part_with" "part_with" sPartOf 87 := def_inX "sharedwords.claims" 187 86 (by kernel_rfl) (by kernel_rfl) (by kernel_rfl) (by kernel_rfl)
theorem kf_d_all_parts (P : Params) : DefIn (Kx P) "all_parts" "all_parts" sParts 94 := def_inX "sharedwords.claims" 187 93 (by kernel_rfl) (by kernel_rfl) (by kernel_rfl) (by kernel_rfl)
theorem kf_d_touches (P : Params) : DefIn (Kx P) "touches" "touches" sTouches 101 := def_inX "sharedwords.claims" 187 100 (by kernel_rfl) (by kernel_rfl) (by kernel_rfl) (by kernel_rfl)
theorem kf_d_revised (P : Params) : DefIn (Kx P) "revised" "revised" sRevised 108 := def_inX "sharedwords.claims" 187 107 (by kernel_rfl) (by kernel_rfl) (by kernel_rfl) (by kernel_rfl)
theorem kf_d_letter_is_so (P : Params) : DefIn (Kx P) "letter_is_so" "letter_is_so" sLetter 40 := def_inX "sharedwords.claims" 187 39 (by kernel_rfl) (by kernel_rfl) (by kernel_rfl) (by kernel_rfl)
theorem kf_d_follows_of (P : Params) : DefIn (Kx P) "follows_of" "follows_of" sFollowsOf 47 := def_inX "sharedwords.claims" 187 46 (by kernel_rfl) (by kernel_rfl) (by kernel_rfl) (by kernel_rfl)
theorem kf_d_stands_to (P : Params) : DefIn (Kx P) "stands_to" "stands_to" sStands 54 := def_inX "sharedwords.claims" 187 53 (by kernel_rfl) (by kernel_rfl) (by kernel_rfl) (by kernel_rfl)
theorem kf_d_members (P : Params) : DefIn (Kx P) "members" "members" sMembers 225 := def_inX "sharedwords.sets_of_letters" 458 224 (by kernel_rfl) (by kernel_rfl) (by kernel_rfl) (by kernel_rfl)
theorem kf_d_sets_within (P : Params) : DefIn (Kx P) "sets_within" "sets_within" sWithin 230 := def_inX "sharedwords.sets_of_letters" 458 229 (by kernel_rfl) (by kernel_rfl) (by kernel_rfl) (by kernel_rfl)
theorem kf_d_with_one_less (P : Params) : DefIn (Kx P) "with_one_less" "with_one_less" sLess 235 := def_inX "sharedwords.sets_of_letters" 458 234 (by kernel_rfl) (by kernel_rfl) (by kernel_rfl) (by kernel_rfl)
theorem kf_d_with_one_more (P : Params) : DefIn (Kx P) "with_one_more" "with_one_more" sMore 240 := def_inX "sharedwords.sets_of_letters" 458 239 (by kernel_rfl) (by kernel_rfl) (by kernel_rfl) (by kernel_rfl)
theorem kf_d_has_any (P : Params) : DefIn (Kx P) "has_any" "has_any" sHasAny 245 := def_inX "sharedwords.sets_of_letters" 458 244 (by kernel_rfl) (by kernel_rfl) (by kernel_rfl) (by kernel_rfl)
theorem kf_d_least_sets (P : Params) : DefIn (Kx P) "least_sets" "least_sets" sLeast 250 := def_inX "sharedwords.sets_of_letters" 458 249 (by kernel_rfl) (by kernel_rfl) (by kernel_rfl) (by kernel_rfl)
theorem kf_d_greatest_sets (P : Params) : DefIn (Kx P) "greatest_sets" "greatest_sets" sGreatest 255 := def_inX "sharedwords.sets_of_letters" 458 254 (by kernel_rfl) (by kernel_rfl) (by kernel_rfl) (by kernel_rfl)
theorem kf_d_counted (P : Params) : DefIn (Kx P) "counted" "counted" sCounted 263 := def_inX "sharedwords.letters" 502 262 (by kernel_rfl) (by kernel_rfl) (by kernel_rfl) (by kernel_rfl)
theorem kf_d_with_one (P : Params) : DefIn (Kx P) "with_one" "with_one" sWithOne 115 := def_inX "sharedwords.people" 316 114 (by kernel_rfl) (by kernel_rfl) (by kernel_rfl) (by kernel_rfl)
theorem kf_d_begin (P : Params) : DefIn (Kx P) "begin" "begin" sBegin 270 := def_inX "sharedwords.letters" 502 269 (by kernel_rfl) (by kernel_rfl) (by kernel_rfl) (by kernel_rfl)
theorem kf_d_learn (P : Params) : DefIn (Kx P) "learn" "learn" sLearn 277 := def_inX "sharedwords.letters" 502 276 (by kernel_rfl) (by kernel_rfl) (by kernel_rfl) (by kernel_rfl)
theorem kf_d_forget (P : Params) : DefIn (Kx P) "forget" "forget" sForget 284 := def_inX "sharedwords.letters" 502 283 (by kernel_rfl) (by kernel_rfl) (by kernel_rfl) (by kernel_rfl)
theorem kf_d_revise (P : Params) : DefIn (Kx P) "revise" "revise" sRevise 291 := def_inX "sharedwords.letters" 502 290 (by kernel_rfl) (by kernel_rfl) (by kernel_rfl) (by kernel_rfl)
theorem kf_d_tellof (P : Params) : DefIn (Kx P) "tellof" "tellof" sTellof 305 := def_inX "sharedwords.letters" 502 304 (by kernel_rfl) (by kernel_rfl) (by kernel_rfl) (by kernel_rfl)
theorem kf_d_tell (P : Params) : DefIn (Kx P) "tell" "tell" sTell 298 := def_inX "sharedwords.letters" 502 297 (by kernel_rfl) (by kernel_rfl) (by kernel_rfl) (by kernel_rfl)
theorem kf_d_teach (P : Params) : DefIn (Kx P) "teach" "teach" sTeach 312 := def_inX "sharedwords.letters" 502 311 (by kernel_rfl) (by kernel_rfl) (by kernel_rfl) (by kernel_rfl)
theorem kf_d_back (P : Params) : DefIn (Kx P) "back" "back" sBack 319 := def_inX "sharedwords.letters" 502 318 (by kernel_rfl) (by kernel_rfl) (by kernel_rfl) (by kernel_rfl)
theorem kf_d_again (P : Params) : DefIn (Kx P) "again" "again" sAgain 326 := def_inX "sharedwords.letters" 502 325 (by kernel_rfl) (by kernel_rfl) (by kernel_rfl) (by kernel_rfl)
theorem kf_d_knows (P : Params) : DefIn (Kx P) "knows" "knows" sKnows 333 := def_inX "sharedwords.letters" 502 332 (by kernel_rfl) (by kernel_rfl) (by kernel_rfl) (by kernel_rfl)
theorem kf_d_follows (P : Params) : DefIn (Kx P) "follows" "follows" sFollows 340 := def_inX "sharedwords.letters" 502 339 (by kernel_rfl) (by kernel_rfl) (by kernel_rfl) (by kernel_rfl)
theorem kf_d_is_open (P : Params) : DefIn (Kx P) "is_open" "is_open" sOpen 347 := def_inX "sharedwords.letters" 502 346 (by kernel_rfl) (by kernel_rfl) (by kernel_rfl) (by kernel_rfl)
theorem kf_d_shared (P : Params) : DefIn (Kx P) "shared" "shared" sShared 354 := def_inX "sharedwords.letters" 502 353 (by kernel_rfl) (by kernel_rfl) (by kernel_rfl) (by kernel_rfl)
theorem kf_d_own (P : Params) : DefIn (Kx P) "own" "own" sOwn 361 := def_inX "sharedwords.letters" 502 360 (by kernel_rfl) (by kernel_rfl) (by kernel_rfl) (by kernel_rfl)
theorem kf_d_tells (P : Params) : DefIn (Kx P) "tells" "tells" sTells 368 := def_inX "sharedwords.letters" 502 367 (by kernel_rfl) (by kernel_rfl) (by kernel_rfl) (by kernel_rfl)
theorem kf_d_news (P : Params) : DefIn (Kx P) "news" "news" sNews 375 := def_inX "sharedwords.letters" 502 374 (by kernel_rfl) (by kernel_rfl) (by kernel_rfl) (by kernel_rfl)
theorem kf_d_would (P : Params) : DefIn (Kx P) "would" "would" sWould 382 := def_inX "sharedwords.letters" 502 381 (by kernel_rfl) (by kernel_rfl) (by kernel_rfl) (by kernel_rfl)
theorem kf_d_could (P : Params) : DefIn (Kx P) "could" "could" sCould 389 := def_inX "sharedwords.letters" 502 388 (by kernel_rfl) (by kernel_rfl) (by kernel_rfl) (by kernel_rfl)
theorem kf_d_asks (P : Params) : DefIn (Kx P) "asks" "asks" sAsks 394 := def_inX "sharedwords.letters" 502 393 (by kernel_rfl) (by kernel_rfl) (by kernel_rfl) (by kernel_rfl)
theorem kf_d_safe (P : Params) : DefIn (Kx P) "safe" "safe" sSafe 399 := def_inX "sharedwords.letters" 502 398 (by kernel_rfl) (by kernel_rfl) (by kernel_rfl) (by kernel_rfl)
theorem kf_d_quarrel (P : Params) : DefIn (Kx P) "quarrel" "quarrel" sQuarrel 406 := def_inX "sharedwords.letters" 502 405 (by kernel_rfl) (by kernel_rfl) (by kernel_rfl) (by kernel_rfl)
theorem kf_d_quarrels (P : Params) : DefIn (Kx P) "quarrels" "quarrels" sQuarrels 411 := def_inX "sharedwords.letters" 502 410 (by kernel_rfl) (by kernel_rfl) (by kernel_rfl) (by kernel_rfl)
theorem kf_d_both (P : Params) : DefIn (Kx P) "both" "both" sBoth 418 := def_inX "sharedwords.letters" 502 417 (by kernel_rfl) (by kernel_rfl) (by kernel_rfl) (by kernel_rfl)
theorem kf_d_common (P : Params) : DefIn (Kx P) "common" "common" sCommonC 425 := def_inX "sharedwords.letters" 502 424 (by kernel_rfl) (by kernel_rfl) (by kernel_rfl) (by kernel_rfl)
theorem kf_d_agreed (P : Params) : DefIn (Kx P) "agreed" "agreed" sAgreed 432 := def_inX "sharedwords.letters" 502 431 (by kernel_rfl) (by kernel_rfl) (by kernel_rfl) (by kernel_rfl)
theorem kf_d_parts (P : Params) : DefIn (Kx P) "parts" "parts" sPartsC 439 := def_inX "sharedwords.letters" 502 438 (by kernel_rfl) (by kernel_rfl) (by kernel_rfl) (by kernel_rfl)
theorem kf_d_matter (P : Params) : DefIn (Kx P) "matter" "matter" sMatter 444 := def_inX "sharedwords.letters" 502 443 (by kernel_rfl) (by kernel_rfl) (by kernel_rfl) (by kernel_rfl)
theorem kf_d_settles (P : Params) : DefIn (Kx P) "settles" "settles" sSettles 449 := def_inX "sharedwords.letters" 502 448 (by kernel_rfl) (by kernel_rfl) (by kernel_rfl) (by kernel_rfl)
theorem kf_d_unsure (P : Params) : DefIn (Kx P) "unsure" "unsure" sUnsure 454 := def_inX "sharedwords.letters" 502 453 (by kernel_rfl) (by kernel_rfl) (by kernel_rfl) (by kernel_rfl)
theorem kf_d_state (P : Params) : DefIn (Kx P) "state" "state" sState 461 := def_inX "sharedwords.letters" 502 460 (by kernel_rfl) (by kernel_rfl) (by kernel_rfl) (by kernel_rfl)
theorem kf_d_claim_refusal (P : Params) : DefIn (Kx P) "claim_refusal" "claim_refusal" sClaimRef 469 := def_inX "sharedwords.letters" 502 468 (by kernel_rfl) (by kernel_rfl) (by kernel_rfl) (by kernel_rfl)
theorem kf_d_letters_refusal (P : Params) : DefIn (Kx P) "letters_refusal" "letters_refusal" sLettersRef 476 := def_inX "sharedwords.letters" 502 475 (by kernel_rfl) (by kernel_rfl) (by kernel_rfl) (by kernel_rfl)
theorem kf_d_refusal_of (P : Params) : DefIn (Kx P) "refusal_of" "refusal_of" sPersonRef 483 := def_inX "sharedwords.letters" 502 482 (by kernel_rfl) (by kernel_rfl) (by kernel_rfl) (by kernel_rfl)
theorem kf_d_carry_out (P : Params) : DefIn (Kx P) "carry_out" "carry_out" sCarry 490 := def_inX "sharedwords.letters" 502 489 (by kernel_rfl) (by kernel_rfl) (by kernel_rfl) (by kernel_rfl)
theorem kf_d_answer_of (P : Params) : DefIn (Kx P) "answer_of" "answer_of" sAnswerOf 497 := def_inX "sharedwords.letters" 502 496 (by kernel_rfl) (by kernel_rfl) (by kernel_rfl) (by kernel_rfl)
theorem kf_d_answers (P : Params) : DefIn (Kx P) "answers" "answers" sAnswers 504 := def_inX "sharedwords.letters" 502 503 (by kernel_rfl) (by kernel_rfl) (by kernel_rfl) (by kernel_rfl)
theorem kf_aFo (P : Params) : nsIn (Kx P) mainGlobals "FORMS" = some (some (.ref 256)) := by kernel_rfl
theorem kf_lFo (P : Params) : (Kx P).lookup 256 = some ⟨.type "tuple", none, .seq formsA 0, #[]⟩ := by kernel_rfl
theorem kf_aCa (P : Params) : nsIn (Kx P) mainGlobals "CALLS" = some (some (.ref 462)) := by kernel_rfl
theorem kf_lCa (P : Params) : (Kx P).lookup 462 = some ⟨.type "tuple", none, .seq callsA 0, #[]⟩ := by kernel_rfl
end Sw
open PySem PySem.W PyProof.Rows
set_option maxRecDepth 100000 in
set_option maxHeartbeats 0 in
theorem PySem.Challenge.cw_sharedwords_s01_answers_holds : PySem.Challenge.rw_sharedwords_s01_answers.Holds := by
  refine holds_os (q := Sw.vw) (loose := ["CALLS"]) (Xt := Sw.xt) (XP := XL Sw.vw []) (Yf := Hook.obs Sw.hk) (Ya := Hook.val Sw.hk) (YP := Hook.says Sw.hk) (N := 5442) (d := Sw.dAns) (kwd := []) Sw.left (Hook.of Sw.hk) (Hook.keeps Sw.hk) (fun s e => xl_of s (Bool.and_eq_true_iff.mp e).1) XL.keeps (by kernel_rfl) (by kernel_rfl) (by kernel_rfl) (fun s e => recFacts_of (Bool.and_eq_true_iff.mp e).2) os_shapes (by decide +kernel) (by decide +kernel) ⟨rfl, rfl, rfl, rfl, rfl, by decide +kernel⟩ ⟨[.list []], by decide +kernel, by decide +kernel⟩ ?hc
  refine L2.walk_specK (r := PySem.Challenge.rw_sharedwords_s01_answers) (k := 11) (K := Sw.Kx) (CX := L2.CX0) (ps := ["calls"]) (sp := Sw.spAnswers) (by decide +kernel) rfl rfl ⟨rfl, by decide, by decide⟩ (fun w h Y => PySem.W.kIn_of (K := Sw.Kx) (as := Sw.kA) (e := Sw.kA_eq) Y) ?F ?S (fun _ _ _ _ z => z)
  case F =>
    intro w mg fa h Y KX G hmg
    exact Sw.all_mk KX G hmg (Sw.kf_i_noSuch w.params) (Sw.kf_i_none_ w.params) (Sw.kf_i_notBegun w.params) (Sw.kf_i_theirs w.params) (Sw.kf_i_notRight w.params) (Sw.kf_i_cannot w.params) (Sw.kf_i_notTold w.params) (Sw.kf_i_mostL w.params) (Sw.kf_i_begin_ w.params) (Sw.kf_i_fol w.params) (Sw.kf_i_cbs w.params) (Sw.kf_i_nei w.params) (Sw.kf_i_MB w.params) (Sw.kf_z_len w.params) (Sw.kf_z_range w.params) (Sw.kf_z_any w.params) (Sw.kf_aCl w.params) (Sw.kf_pg w.params) (Sw.kf_hd w.params) (Sw.kf_po w.params) (Sw.kf_sa w.params) (Sw.kf_mk_ w.params) (Sw.kf_kc w.params) (Sw.kf_nM w.params) (Sw.kf_nO w.params) (Sw.kf_nK w.params) (Sw.kf_nP w.params) (Sw.kf_nU w.params) (Sw.kf_m___init__ w.params) (Sw.kf_m_begin_anew w.params) (Sw.kf_m_common_letters w.params) (Sw.kf_m_known_together w.params) (Sw.kf_m_most_told w.params) (Sw.kf_m_known_if_told w.params) (Sw.kf_m_quarrel_in w.params) (Sw.kf_m_keep_for_back w.params) (Sw.kf_m_hold w.params) (Sw.kf_m_own_more w.params) (Sw.kf_m_restore w.params) (Sw.kf_m_go_back w.params) (Sw.kf_m_go_again w.params) (Sw.kf_d_all_letters w.params) (Sw.kf_d_always w.params) (Sw.kf_d_worlds w.params) (Sw.kf_d_says w.params) (Sw.kf_d_without w.params) (Sw.kf_d_is_told_in w.params) (Sw.kf_d_falls_apart w.params) (Sw.kf_d_part_with w.params) (Sw.kf_d_all_parts w.params) (Sw.kf_d_touches w.params) (Sw.kf_d_revised w.params) (Sw.kf_d_letter_is_so w.params) (Sw.kf_d_follows_of w.params) (Sw.kf_d_stands_to w.params) (Sw.kf_d_members w.params) (Sw.kf_d_sets_within w.params) (Sw.kf_d_with_one_less w.params) (Sw.kf_d_with_one_more w.params) (Sw.kf_d_has_any w.params) (Sw.kf_d_least_sets w.params) (Sw.kf_d_greatest_sets w.params) (Sw.kf_d_counted w.params) (Sw.kf_d_with_one w.params) (Sw.kf_d_begin w.params) (Sw.kf_d_learn w.params) (Sw.kf_d_forget w.params) (Sw.kf_d_revise w.params) (Sw.kf_d_tellof w.params) (Sw.kf_d_tell w.params) (Sw.kf_d_teach w.params) (Sw.kf_d_back w.params) (Sw.kf_d_again w.params) (Sw.kf_d_knows w.params) (Sw.kf_d_follows w.params) (Sw.kf_d_is_open w.params) (Sw.kf_d_shared w.params) (Sw.kf_d_own w.params) (Sw.kf_d_tells w.params) (Sw.kf_d_news w.params) (Sw.kf_d_would w.params) (Sw.kf_d_could w.params) (Sw.kf_d_asks w.params) (Sw.kf_d_safe w.params) (Sw.kf_d_quarrel w.params) (Sw.kf_d_quarrels w.params) (Sw.kf_d_both w.params) (Sw.kf_d_common w.params) (Sw.kf_d_agreed w.params) (Sw.kf_d_parts w.params) (Sw.kf_d_matter w.params) (Sw.kf_d_settles w.params) (Sw.kf_d_unsure w.params) (Sw.kf_d_state w.params) (Sw.kf_d_claim_refusal w.params) (Sw.kf_d_letters_refusal w.params) (Sw.kf_d_refusal_of w.params) (Sw.kf_d_carry_out w.params) (Sw.kf_d_answer_of w.params) (Sw.kf_d_answers w.params) (Sw.kf_aFo w.params) (Sw.kf_lFo w.params) (by show 30 ≤ sizeLine; decide) (.cons ⟨_, rfl⟩ (.cons ⟨_, rfl⟩ (.cons ⟨_, rfl⟩ (.cons ⟨_, rfl⟩ (.cons ⟨_, rfl⟩ (.cons ⟨_, rfl⟩ (.cons ⟨_, rfl⟩ (.cons ⟨_, rfl⟩ (.cons ⟨_, rfl⟩ (.cons ⟨_, rfl⟩ (.cons ⟨_, rfl⟩ (.cons ⟨_, rfl⟩ (.cons ⟨_, rfl⟩ (.cons ⟨_, rfl⟩ (.cons ⟨_, rfl⟩ (.cons ⟨_, rfl⟩ (.cons ⟨_, rfl⟩ (.cons ⟨_, rfl⟩ (.cons ⟨_, rfl⟩ (.cons ⟨_, rfl⟩ (.cons ⟨_, rfl⟩ (.cons ⟨_, rfl⟩ (.cons ⟨_, rfl⟩ (.cons ⟨_, rfl⟩ (.cons ⟨_, rfl⟩ (.cons ⟨_, rfl⟩ (.cons ⟨_, rfl⟩ (.cons ⟨_, rfl⟩ (.cons ⟨_, rfl⟩ (.cons ⟨_, rfl⟩ (.nil))))))))))))))))))))))))))))))) (Sw.kf_aCa w.params) (Sw.kf_lCa w.params) (by show 30 ≤ sizeLine; decide) (.cons rfl (.cons rfl (.cons rfl (.cons rfl (.cons rfl (.cons rfl (.cons rfl (.cons rfl (.cons rfl (.cons rfl (.cons rfl (.cons rfl (.cons rfl (.cons rfl (.cons rfl (.cons rfl (.cons rfl (.cons rfl (.cons rfl (.cons rfl (.cons rfl (.cons rfl (.cons rfl (.cons rfl (.cons rfl (.cons rfl (.cons rfl (.cons rfl (.cons rfl (.cons rfl (.nil))))))))))))))))))))))))))))))) (by decide)
  case S =>
    intro K H xs a hO hwi hask hx
    cases hx with
    | cons h1 h2 =>
      cases h2
      cases h1 with
      | lst hs ha =>
        have e := L2.ints_dw a.1 _ ha
        subst e
        have q : ((Codec.inLen 0 180 a.1 && a.1.all (Codec.inInt 0 4294967295)) && true) = true := hwi
        rw [Bool.and_eq_true, Bool.and_eq_true] at q
        obtain ⟨ls, el⟩ : ∃ ls : List Nat, a.1 = Sw.zs ls := Sw.nats_of a.1 q.1.2
        have hask : PyKraf.answers_asked a.1 = true := hask
        rw [el] at hs hask
        refine ⟨_, ls, rfl, by rw [Sw.nvs_zs]; exact hs, hask, fun H' p hp => ?_⟩
        have z : L2.Dw K H' (.ref p) (.list ((PyKraf.answers a.1).map WData.int)) := by
          rw [el]
          exact .lst (L2.SqL.of hp) (L2.dw_ints _)
        exact z
