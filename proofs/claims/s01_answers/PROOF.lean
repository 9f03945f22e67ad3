import PyProof.Rows.All
import Wide.All
import OpenK.AllK
import Wide.FinOn
import PyProof.EqAt
import PyProof.EqKinds
import PyProof.TupleCall
import KE.BitLaws
import Open.SpecLaws
import KE.OsHead
import KE.OsGo
import PyFlatLaws
import PySem.Challenge.RW_respelling_s01_answers
set_option Elab.async false
set_option linter.all false
set_option maxRecDepth 100000
set_option maxRecDepth 100000
section
set_option maxHeartbeats 0
namespace L2
open PySem PySem.Spec PyProof.Rows
def inClass (s : Stmt) (j : Nat) : Stmt := match s with
  | .ClassDef _ _ _ body _ _ _ _ _ _ _ => body.getD j (.Pass ⟨0, 0, 0, 0⟩)
  | _ => .Pass ⟨0, 0, 0, 0⟩
def defArgs (s : Stmt) : Arguments := match s with
  | .FunctionDef _ a _ _ _ _ _ _ _ _ => a
  | _ => { posonlyargs := [], args := [], vararg := none, kwonlyargs := [], kw_defaults := [], kwarg := none, defaults := [] }
def defBody (s : Stmt) : List Stmt := match s with
  | .FunctionDef _ _ b _ _ _ _ _ _ _ => b
  | _ => []
def defScope (s : Stmt) : Scope := match s with
  | .FunctionDef _ _ _ _ _ _ sc _ _ _ => sc
  | _ => { kind := .function, names := [], isGenerator := false, isCoroutine := false }
end L2
namespace Re
open PySem PySem.W PySem.Calls PyProof.Rows L2
def top (i : Nat) : Stmt := PySem.Challenge.pw_respelling_s01_answers.main.body.getD i (.Pass ⟨0, 0, 0, 0⟩)
noncomputable def en (P : Params) (k : Str) (t : Nat) (v : Value) : DictEntry := ⟨PyData.keyHash P k, .str k t, v⟩
noncomputable def dcO (es : List DictEntry) (n : Nat) : Obj := ⟨.type "dict", none, .dict es.toArray n, #[]⟩
noncomputable def fnO (n q : Str) (st : Stmt) (m : Str) (t : Nat) (c : Addr) : Obj := ⟨.type "function", none, .func (PySem.W.fnOf n q (defArgs st) (defBody st) (defScope st) .none .none .none (.str m t) none (.ref c) .none), #[]⟩
noncomputable def rv (n : Nat) : Value := bif n == 0 then .none else .ref n
noncomputable def cdO (n q : Str) (t : Nat) (l k f : Int) (a b c d e g z : Nat) : Obj := ⟨.type "code", none, .fields #[.str n t, .str q (t + 1), .str "/claim/cut.py" (t + 2), .int l 0, .int k 0, .int 0 0, .int 0 0, .int f 0, rv a, .bool true, .int 181 0, rv b, rv c, rv d, rv e, rv g, .int z 0, .int l 0, .str "/claim/cut.py" (z + 1)], #[]⟩
noncomputable def clO (n : Str) (a : Addr) (ns : Addr) (t u : Nat) : Obj := ⟨.type "type", none, .cls { name := n, bases := [.type "object"], mro := [.ref a, .type "object"], ns := ns, qualname := n }, #[none, none, some (.str n t), some (.str n u), some (.builtin "object.__new__"), some (.bool true)]⟩
noncomputable def KK : Params → PySem.W.Frag := fun P =>
(nat_lit 3, dcO (en P "__name__" 165 (.str "respelling.spelling" 826) :: en P "__doc__" 166 .none :: en P "__package__" 167 .none :: en P "__loader__" 168 (.builtin "__main__.__loader__#opaque") :: en P "__spec__" 169 .none :: en P "__annotations__" 170 (.ref 6) :: en P "__builtins__" 171 (.ref 4) :: en P "__file__" 173 (.str "/claim/cut.py" 172) :: en P "__cached__" 174 .none :: en P "CODE_POINTS" 190 (.int 1114112 189) :: en P "is_code_point" 197 (.ref 21) :: en P "are_code_points" 203 (.ref 26) :: en P "are_paired" 211 (.ref 33) :: en P "pairs_of" 217 (.ref 38) :: en P "in_ranges" 227 (.ref 45) :: en P "BEFORE" 231 (.int 0 230) :: en P "MATCH" 233 (.int 1 232) :: en P "AFTER" 235 (.int 2 234) :: en P "PUT" 237 (.int 3 236) :: en P "COPY" 239 (.int 4 238) :: en P "MAPPED" 241 (.int 5 240) :: en P "CURSOR" 243 (.int 6 242) :: en P "ITEM_SIZES" 251 (.ref 46) :: en P "OF_POINT" 253 (.int 0 252) :: en P "OF_SET" 255 (.int 1 254) :: en P "OF_ANY" 257 (.int 2 256) :: en P "MOST_ITEMS" 259 (.int 32 258) :: en P "LEAST_BOUND" 261 (.int 62 260) :: en P "MOST_BOUND" 263 (.int 63 262) :: en P "split_items" 274 (.ref 53) :: en P "first_wrong_item" 285 (.ref 60) :: en P "can_stand" 296 (.ref 67) :: en P "kind_can_come" 304 (.ref 74) :: en P "group_of" 311 (.ref 81) :: en P "count_kind" 317 (.ref 86) :: en P "elements_of" 323 (.ref 91) :: en P "writers_of" 329 (.ref 96) :: en P "is_element" 340 (.ref 103) :: en P "are_bounds" 348 (.ref 110) :: en P "MOST_RANGES" 352 (.int 64 351) :: en P "MOST_PAIRS" 354 (.int 256 353) :: en P "MOST_SETS" 356 (.int 32 355) :: en P "MOST_MAPS" 358 (.int 16 357) :: en P "MOST_RULES" 360 (.int 64 359) :: en P "LAST_PASS" 362 (.int 7 361) :: en P "Rule" 399 (.ref 127) :: en P "Book" 495 (.ref 195) :: en P "Reader" 552 (.ref 237) :: en P "Fit" 585 (.ref 258) :: en P "first_fit" 597 (.ref 269) :: en P "bounds_of_matches" 608 (.ref 276) :: en P "bounds_of_row" 621 (.ref 283) :: en P "end_of_element" 635 (.ref 290) :: en P "is_of" 647 (.ref 297) :: en P "Written" 680 (.ref 314) :: en P "write" 686 (.ref 323) :: en P "points_of" 692 (.ref 328) :: en P "span_of" 698 (.ref 333) :: en P "MOST_CAP" 702 (.int 64 701) :: en P "STEPS_A_POINT" 704 (.int 16 703) :: en P "POINTS_ADDED" 706 (.int 16 705) :: en P "ENDLESS" 709 (.int (-6) 708) :: en P "TOO_LONG" 712 (.int (-5) 711) :: en P "Rewriting" 743 (.ref 348) :: en P "apply_rules" 754 (.ref 359) :: en P "list_steps" 764 (.ref 366) :: en P "refusal_of_text" 772 (.ref 373) :: en P "joined" 781 (.ref 380) :: en P "rewrite" 792 (.ref 387) :: en P "begin_again" 799 (.ref 394) :: en P "go_over" 805 (.ref 399) :: en P "move_on" 812 (.ref 406) :: en P "apply_fit" 825 (.ref 413) :: en P "SET_CALL" 829 (.int 0 828) :: en P "MAP_CALL" 831 (.int 1 830) :: en P "RULE_CALL" 833 (.int 2 832) :: en P "TURN_CALL" 835 (.int 3 834) :: en P "HAS_CALL" 837 (.int 4 836) :: en P "LOOK_CALL" 839 (.int 5 838) :: en P "FIND_CALL" 841 (.int 6 840) :: en P "APPLY_CALL" 843 (.int 7 842) :: en P "STEPS_CALL" 845 (.int 8 844) :: en P "UnknownCall" 863 (.ref 423) :: en P "answers" 874 (.ref 433) :: en P "answer_call" 889 (.ref 440) :: []) 85) ::
(nat_lit 20, cdO "is_code_point" "is_code_point" 191 3 1 3 15 16 0 17 18 19 195) ::
(nat_lit 21, fnO "is_code_point" "is_code_point" (top 2) "respelling.points" 187 20) ::
(nat_lit 25, cdO "are_code_points" "are_code_points" 198 5 1 3 22 23 0 0 0 24 201) ::
(nat_lit 26, fnO "are_code_points" "are_code_points" (top 3) "respelling.points" 187 25) ::
(nat_lit 32, cdO "are_paired" "are_paired" 204 7 2 3 27 28 0 29 30 31 209) ::
(nat_lit 33, fnO "are_paired" "are_paired" (top 4) "respelling.points" 187 32) ::
(nat_lit 37, cdO "pairs_of" "pairs_of" 212 9 1 3 34 35 0 0 0 36 215) ::
(nat_lit 38, fnO "pairs_of" "pairs_of" (top 5) "respelling.points" 187 37) ::
(nat_lit 44, cdO "in_ranges" "in_ranges" 218 11 2 3 39 40 0 41 42 43 225) ::
(nat_lit 45, fnO "in_ranges" "in_ranges" (top 6) "respelling.points" 187 44) ::
(nat_lit 46, ⟨.type "tuple", none, .seq #[.int 6 244, .int 6 245, .int 6 246, .int 2 247, .int 2 248, .int 3 249, .int 1 250] 0, #[]⟩) ::
(nat_lit 52, cdO "split_items" "split_items" 264 31 1 3 47 48 0 49 50 51 272) ::
(nat_lit 53, fnO "split_items" "split_items" (top 22) "respelling.parts" 228 52) ::
(nat_lit 59, cdO "first_wrong_item" "first_wrong_item" 275 43 3 3 54 55 0 56 57 58 283) ::
(nat_lit 60, fnO "first_wrong_item" "first_wrong_item" (top 23) "respelling.parts" 228 59) ::
(nat_lit 66, cdO "can_stand" "can_stand" 286 50 4 3 61 62 0 63 64 65 294) ::
(nat_lit 67, fnO "can_stand" "can_stand" (top 24) "respelling.parts" 228 66) ::
(nat_lit 73, cdO "kind_can_come" "kind_can_come" 297 65 2 3 68 69 0 70 71 72 302) ::
(nat_lit 74, fnO "kind_can_come" "kind_can_come" (top 25) "respelling.parts" 228 73) ::
(nat_lit 80, cdO "group_of" "group_of" 305 73 1 3 75 76 0 77 78 79 309) ::
(nat_lit 81, fnO "group_of" "group_of" (top 26) "respelling.parts" 228 80) ::
(nat_lit 85, cdO "count_kind" "count_kind" 312 75 2 3 82 83 0 0 0 84 315) ::
(nat_lit 86, fnO "count_kind" "count_kind" (top 27) "respelling.parts" 228 85) ::
(nat_lit 90, cdO "elements_of" "elements_of" 318 77 2 3 87 88 0 0 0 89 321) ::
(nat_lit 91, fnO "elements_of" "elements_of" (top 28) "respelling.parts" 228 90) ::
(nat_lit 95, cdO "writers_of" "writers_of" 324 79 1 3 92 93 0 0 0 94 327) ::
(nat_lit 96, fnO "writers_of" "writers_of" (top 29) "respelling.parts" 228 95) ::
(nat_lit 102, cdO "is_element" "is_element" 330 81 2 3 97 98 0 99 100 101 338) ::
(nat_lit 103, fnO "is_element" "is_element" (top 30) "respelling.parts" 228 102) ::
(nat_lit 109, cdO "are_bounds" "are_bounds" 341 92 2 3 104 105 0 106 107 108 346) ::
(nat_lit 110, fnO "are_bounds" "are_bounds" (top 31) "respelling.parts" 228 109) ::
(nat_lit 123, cdO "__init__" "Rule.__init__" 375 103 4 3 118 119 0 120 121 122 382) ::
(nat_lit 124, fnO "__init__" "Rule.__init__" (inClass (top 39) 0) "respelling.book" 349 123) ::
(nat_lit 126, dcO (en P "__module__" 370 (.str "respelling.book" 349) :: en P "__firstlineno__" 374 (.int 101 373) :: en P "__init__" 384 (.ref 124) :: en P "__static_attributes__" 392 (.ref 125) :: en P "__dict__" 394 (.ref 128) :: en P "__weakref__" 396 (.ref 129) :: en P "__doc__" 397 .none :: []) 4) ::
(nat_lit 127, clO "Rule" 127 126 363 371) ::
(nat_lit 144, cdO "__init__" "Book.__init__" 412 113 1 3 139 140 0 141 142 143 416) ::
(nat_lit 145, fnO "__init__" "Book.__init__" (inClass (top 40) 0) "respelling.book" 349 144) ::
(nat_lit 149, cdO "add_set" "Book.add_set" 419 118 2 3 146 147 0 0 0 148 422) ::
(nat_lit 150, fnO "add_set" "Book.add_set" (inClass (top 40) 1) "respelling.book" 349 149) ::
(nat_lit 156, cdO "add_map" "Book.add_map" 425 129 2 3 151 152 0 153 154 155 432) ::
(nat_lit 157, fnO "add_map" "Book.add_map" (inClass (top 40) 2) "respelling.book" 349 156) ::
(nat_lit 163, cdO "add_rule" "Book.add_rule" 435 141 3 3 158 159 0 160 161 162 443) ::
(nat_lit 164, fnO "add_rule" "Book.add_rule" (inClass (top 40) 3) "respelling.book" 349 163) ::
(nat_lit 170, cdO "turn_rule" "Book.turn_rule" 446 153 3 3 165 166 0 167 168 169 453) ::
(nat_lit 171, fnO "turn_rule" "Book.turn_rule" (inClass (top 40) 4) "respelling.book" 349 170) ::
(nat_lit 177, cdO "ask_set" "Book.ask_set" 456 160 3 3 172 173 0 174 175 176 462) ::
(nat_lit 178, fnO "ask_set" "Book.ask_set" (inClass (top 40) 5) "respelling.book" 349 177) ::
(nat_lit 184, cdO "ask_map" "Book.ask_map" 465 165 3 3 179 180 0 181 182 183 471) ::
(nat_lit 185, fnO "ask_map" "Book.ask_map" (inClass (top 40) 6) "respelling.book" 349 184) ::
(nat_lit 191, cdO "find_place" "Book.find_place" 474 170 4 3 186 187 0 188 189 190 482) ::
(nat_lit 192, fnO "find_place" "Book.find_place" (inClass (top 40) 7) "respelling.book" 349 191) ::
(nat_lit 194, dcO (en P "__module__" 407 (.str "respelling.book" 349) :: en P "__firstlineno__" 411 (.int 111 410) :: en P "__init__" 418 (.ref 145) :: en P "add_set" 424 (.ref 150) :: en P "add_map" 434 (.ref 157) :: en P "add_rule" 445 (.ref 164) :: en P "turn_rule" 455 (.ref 171) :: en P "ask_set" 464 (.ref 178) :: en P "ask_map" 473 (.ref 185) :: en P "find_place" 484 (.ref 192) :: en P "__static_attributes__" 488 (.ref 193) :: en P "__dict__" 490 (.ref 196) :: en P "__weakref__" 492 (.ref 197) :: en P "__doc__" 493 .none :: []) 4) ::
(nat_lit 195, clO "Book" 195 194 400 408) ::
(nat_lit 212, cdO "__init__" "Reader.__init__" 510 180 2 3 207 208 0 209 210 211 515) ::
(nat_lit 213, fnO "__init__" "Reader.__init__" (inClass (top 42) 0) "respelling.reader" 496 212) ::
(nat_lit 219, cdO "is_done" "Reader.is_done" 518 184 1 3 214 215 0 216 217 218 522) ::
(nat_lit 220, fnO "is_done" "Reader.is_done" (inClass (top 42) 1) "respelling.reader" 496 219) ::
(nat_lit 226, cdO "take_number" "Reader.take_number" 525 187 1 3 221 222 0 223 224 225 530) ::
(nat_lit 227, fnO "take_number" "Reader.take_number" (inClass (top 42) 2) "respelling.reader" 496 226) ::
(nat_lit 233, cdO "take_row" "Reader.take_row" 533 192 1 3 228 229 0 230 231 232 540) ::
(nat_lit 234, fnO "take_row" "Reader.take_row" (inClass (top 42) 3) "respelling.reader" 496 233) ::
(nat_lit 236, dcO (en P "__module__" 505 (.str "respelling.reader" 496) :: en P "__firstlineno__" 509 (.int 178 508) :: en P "__init__" 517 (.ref 213) :: en P "is_done" 524 (.ref 220) :: en P "take_number" 532 (.ref 227) :: en P "take_row" 542 (.ref 234) :: en P "__static_attributes__" 545 (.ref 235) :: en P "__dict__" 547 (.ref 238) :: en P "__weakref__" 549 (.ref 239) :: en P "__doc__" 550 .none :: []) 4) ::
(nat_lit 237, clO "Reader" 237 236 498 506) ::
(nat_lit 254, cdO "__init__" "Fit.__init__" 567 201 3 3 249 250 0 251 252 253 573) ::
(nat_lit 255, fnO "__init__" "Fit.__init__" (inClass (top 44) 0) "respelling.fitting" 553 254) ::
(nat_lit 257, dcO (en P "__module__" 562 (.str "respelling.fitting" 553) :: en P "__firstlineno__" 566 (.int 199 565) :: en P "__init__" 575 (.ref 255) :: en P "__static_attributes__" 578 (.ref 256) :: en P "__dict__" 580 (.ref 259) :: en P "__weakref__" 582 (.ref 260) :: en P "__doc__" 583 .none :: []) 4) ::
(nat_lit 258, clO "Fit" 258 257 555 563) ::
(nat_lit 268, cdO "first_fit" "first_fit" 586 204 4 3 263 264 0 265 266 267 595) ::
(nat_lit 269, fnO "first_fit" "first_fit" (top 45) "respelling.fitting" 553 268) ::
(nat_lit 275, cdO "bounds_of_matches" "bounds_of_matches" 598 210 4 3 270 271 0 272 273 274 606) ::
(nat_lit 276, fnO "bounds_of_matches" "bounds_of_matches" (top 46) "respelling.fitting" 553 275) ::
(nat_lit 282, cdO "bounds_of_row" "bounds_of_row" 609 219 4 3 277 278 0 279 280 281 619) ::
(nat_lit 283, fnO "bounds_of_row" "bounds_of_row" (top 47) "respelling.fitting" 553 282) ::
(nat_lit 289, cdO "end_of_element" "end_of_element" 622 227 4 3 284 285 0 286 287 288 633) ::
(nat_lit 290, fnO "end_of_element" "end_of_element" (top 48) "respelling.fitting" 553 289) ::
(nat_lit 296, cdO "is_of" "is_of" 636 235 3 3 291 292 0 293 294 295 645) ::
(nat_lit 297, fnO "is_of" "is_of" (top 49) "respelling.fitting" 553 296) ::
(nat_lit 310, cdO "__init__" "Written.__init__" 662 247 3 3 305 306 0 307 308 309 668) ::
(nat_lit 311, fnO "__init__" "Written.__init__" (inClass (top 51) 0) "respelling.writing" 648 310) ::
(nat_lit 313, dcO (en P "__module__" 657 (.str "respelling.writing" 648) :: en P "__firstlineno__" 661 (.int 245 660) :: en P "__init__" 670 (.ref 311) :: en P "__static_attributes__" 673 (.ref 312) :: en P "__dict__" 675 (.ref 315) :: en P "__weakref__" 677 (.ref 316) :: en P "__doc__" 678 .none :: []) 4) ::
(nat_lit 314, clO "Written" 314 313 650 658) ::
(nat_lit 322, cdO "write" "write" 681 250 4 3 319 320 0 0 0 321 684) ::
(nat_lit 323, fnO "write" "write" (top 52) "respelling.writing" 648 322) ::
(nat_lit 327, cdO "points_of" "points_of" 687 261 4 3 324 325 0 0 0 326 690) ::
(nat_lit 328, fnO "points_of" "points_of" (top 53) "respelling.writing" 648 327) ::
(nat_lit 332, cdO "span_of" "span_of" 693 271 2 3 329 330 0 0 0 331 696) ::
(nat_lit 333, fnO "span_of" "span_of" (top 54) "respelling.writing" 648 332) ::
(nat_lit 344, cdO "__init__" "Rewriting.__init__" 725 285 3 3 341 342 0 0 0 343 728) ::
(nat_lit 345, fnO "__init__" "Rewriting.__init__" (inClass (top 61) 0) "respelling.rewriting" 699 344) ::
(nat_lit 347, dcO (en P "__module__" 720 (.str "respelling.rewriting" 699) :: en P "__firstlineno__" 724 (.int 283 723) :: en P "__init__" 730 (.ref 345) :: en P "__static_attributes__" 736 (.ref 346) :: en P "__dict__" 738 (.ref 349) :: en P "__weakref__" 740 (.ref 350) :: en P "__doc__" 741 .none :: []) 4) ::
(nat_lit 348, clO "Rewriting" 348 347 713 721) ::
(nat_lit 358, cdO "apply_rules" "apply_rules" 744 291 3 3 353 354 0 355 356 357 752) ::
(nat_lit 359, fnO "apply_rules" "apply_rules" (top 62) "respelling.rewriting" 699 358) ::
(nat_lit 365, cdO "list_steps" "list_steps" 755 299 3 3 360 361 0 362 363 364 762) ::
(nat_lit 366, fnO "list_steps" "list_steps" (top 63) "respelling.rewriting" 699 365) ::
(nat_lit 372, cdO "refusal_of_text" "refusal_of_text" 765 304 2 3 367 368 0 369 370 371 770) ::
(nat_lit 373, fnO "refusal_of_text" "refusal_of_text" (top 64) "respelling.rewriting" 699 372) ::
(nat_lit 379, cdO "joined" "joined" 773 312 1 3 374 375 0 376 377 378 779) ::
(nat_lit 380, fnO "joined" "joined" (top 65) "respelling.rewriting" 699 379) ::
(nat_lit 386, cdO "rewrite" "rewrite" 782 317 3 3 381 382 0 383 384 385 790) ::
(nat_lit 387, fnO "rewrite" "rewrite" (top 66) "respelling.rewriting" 699 386) ::
(nat_lit 393, cdO "begin_again" "begin_again" 793 325 1 3 388 389 0 390 391 392 797) ::
(nat_lit 394, fnO "begin_again" "begin_again" (top 67) "respelling.rewriting" 699 393) ::
(nat_lit 398, cdO "go_over" "go_over" 800 328 3 3 395 396 0 0 0 397 803) ::
(nat_lit 399, fnO "go_over" "go_over" (top 68) "respelling.rewriting" 699 398) ::
(nat_lit 405, cdO "move_on" "move_on" 806 341 1 3 400 401 0 402 403 404 810) ::
(nat_lit 406, fnO "move_on" "move_on" (top 69) "respelling.rewriting" 699 405) ::
(nat_lit 412, cdO "apply_fit" "apply_fit" 813 344 3 3 407 408 0 409 410 411 823) ::
(nat_lit 413, fnO "apply_fit" "apply_fit" (top 70) "respelling.rewriting" 699 412) ::
(nat_lit 432, cdO "answers" "answers" 864 367 1 3 427 428 0 429 430 431 872) ::
(nat_lit 433, fnO "answers" "answers" (top 82) "respelling.spelling" 826 432) ::
(nat_lit 439, cdO "answer_call" "answer_call" 875 376 2 3 434 435 0 436 437 438 887) ::
(nat_lit 440, fnO "answer_call" "answer_call" (top 83) "respelling.spelling" 826 439) :: []
noncomputable def KA : List Addr := 3 :: 20 :: 21 :: 25 :: 26 :: 32 :: 33 :: 37 :: 38 :: 44 :: 45 :: 46 :: 52 :: 53 :: 59 :: 60 :: 66 :: 67 :: 73 :: 74 :: 80 :: 81 :: 85 :: 86 :: 90 :: 91 :: 95 :: 96 :: 102 :: 103 :: 109 :: 110 :: 123 :: 124 :: 126 :: 127 :: 144 :: 145 :: 149 :: 150 :: 156 :: 157 :: 163 :: 164 :: 170 :: 171 :: 177 :: 178 :: 184 :: 185 :: 191 :: 192 :: 194 :: 195 :: 212 :: 213 :: 219 :: 220 :: 226 :: 227 :: 233 :: 234 :: 236 :: 237 :: 254 :: 255 :: 257 :: 258 :: 268 :: 269 :: 275 :: 276 :: 282 :: 283 :: 289 :: 290 :: 296 :: 297 :: 310 :: 311 :: 313 :: 314 :: 322 :: 323 :: 327 :: 328 :: 332 :: 333 :: 344 :: 345 :: 347 :: 348 :: 358 :: 359 :: 365 :: 366 :: 372 :: 373 :: 379 :: 380 :: 386 :: 387 :: 393 :: 394 :: 398 :: 399 :: 405 :: 406 :: 412 :: 413 :: 432 :: 433 :: 439 :: 440 :: []
abbrev pw : Program := PySem.Challenge.pw_respelling_s01_answers
noncomputable def qv : Program := PySem.W.view pw [82]
noncomputable def lo : List Str := pw.boundNames
noncomputable abbrev HK : Hook := kHook KK KA (fun _ => by kernel_rfl)
theorem hl : LeftO pw qv lo (fun s => xlAt qv [] s && recOk [] s) (Hook.obs HK) (Hook.val HK) 6738 := by
  unfold LeftO openEnds fencedOpening topFrom
  rw [PySem.W.Fast.te14364793385576792824, PySem.W.Fast.te1435165496053646825, PySem.W.Fast.te14289696077712309145, PySem.W.Fast.te14082659384304107361, PySem.W.Fast.te10274390034422433532, PySem.W.Fast.te8920871248978507458, PySem.W.Fast.te4187177175401517315, PySem.W.Fast.te5923862056798008813]
  intro w; kernel_rfl
def defPos (s : Stmt) : Pos := match s with
  | .FunctionDef _ _ _ _ _ _ _ _ _ p => p
  | _ => ⟨0, 0, 0, 0⟩
noncomputable def dA : DefRec := ⟨"answers", defArgs (top 82), defBody (top 82), defScope (top 82), defPos (top 82)⟩
theorem dA_of : defOf qv PySem.Challenge.rw_respelling_s01_answers.name = some (dA, []) := by
  unfold defOf
  rw [PySem.W.Fast.te3399658132070893891]
  kernel_rfl
end Re
end
namespace L2
open PySem PySem.Spec PyProof.Rows
abbrev Key := Sum Int Str
def keyIs : Key → Value → Bool
  | .inl k, v => Value.isInt k v
  | .inr x, v => Value.isStrOf x v
def keyH (w : World) : Key → Int
  | .inl k => hashInt k
  | .inr x => hashStr w x
theorem keyIs_shape : ∀ {k : Key} {v : Value}, keyIs k v = true → (∃ i t, k = Sum.inl i ∧ v = Value.int i t) ∨ (∃ x t, k = Sum.inr x ∧ v = Value.str x t)
  | .inl i, v, h => by
    obtain ⟨t, e⟩ := Value.isInt_shape (k := i) (v := v) h
    exact .inl ⟨i, t, rfl, e⟩
  | .inr x, v, h => by
    obtain ⟨t, e⟩ := Value.isStrOf_shape (x := x) (v := v) h
    exact .inr ⟨x, t, rfl, e⟩
theorem keyIs_int (i : Int) (t : Tok) : keyIs (.inl i) (.int i t) = true := by simp [keyIs, Value.isInt]
theorem keyIs_str (x : Str) (t : Tok) : keyIs (.inr x) (.str x t) = true := by simp [keyIs, Value.isStrOf]
theorem key_ll (a b : Int) : decide ((Sum.inl a : Key) = Sum.inl b) = (a == b) := by
  by_cases e : a = b
  · subst e; simp
  · have h : ¬ (Sum.inl a : Key) = Sum.inl b := fun q => e (Sum.inl.inj q)
    rw [decide_eq_false h]
    exact (beq_eq_false_iff_ne.mpr e).symm
theorem key_rr (a b : Str) : decide ((Sum.inr a : Key) = Sum.inr b) = decide (a = b) := by
  by_cases e : a = b
  · subst e; simp
  · have h : ¬ (Sum.inr a : Key) = Sum.inr b := fun q => e (Sum.inr.inj q)
    rw [decide_eq_false h, decide_eq_false e]
theorem key_lr (a : Int) (b : Str) : decide ((Sum.inl a : Key) = Sum.inr b) = false := decide_eq_false (fun q => nomatch q)
theorem key_rl (a : Str) (b : Int) : decide ((Sum.inr a : Key) = Sum.inl b) = false := decide_eq_false (fun q => nomatch q)
def mixKind (prog : Program) (w : World) : PySem.KeyKind prog w Key where
  is := keyIs
  hash := keyH w
  inj := fun v a b ha hb => by
    rcases keyIs_shape ha with ⟨i, t, rfl, rfl⟩ | ⟨x, t, rfl, rfl⟩
    · rcases keyIs_shape hb with ⟨j, u, rfl, e⟩ | ⟨y, u, rfl, e⟩
      · injection e with e1 _; rw [e1]
      · exact nomatch e
    · rcases keyIs_shape hb with ⟨j, u, rfl, e⟩ | ⟨y, u, rfl, e⟩
      · exact nomatch e
      · injection e with e1 _; rw [e1]
  byValue := fun k v h => by
    rcases keyIs_shape h with ⟨i, t, rfl, rfl⟩ | ⟨x, t, rfl, rfl⟩ <;> rfl
  pyHash := fun hv h => by
    rcases keyIs_shape hv with ⟨i, t, rfl, rfl⟩ | ⟨x, t, rfl, rfl⟩
    · exact wpAny_pyHash_int h
    · exact wpAny_pyHash_str h
  eqBool := fun hu hv h => by
    rcases keyIs_shape hu with ⟨i, t, rfl, rfl⟩ | ⟨x, t, rfl, rfl⟩
    · rcases keyIs_shape hv with ⟨j, u, rfl, rfl⟩ | ⟨y, u, rfl, rfl⟩
      · rw [key_ll] at h; exact wpAny_eqBool_int h
      · rw [key_lr] at h; exact SeqAt.EqAt.int_str i t y u _ _ _ _ h
    · rcases keyIs_shape hv with ⟨j, u, rfl, rfl⟩ | ⟨y, u, rfl, rfl⟩
      · rw [key_rl] at h; exact SeqAt.EqAt.str_int x t j u _ _ _ _ h
      · rw [key_rr] at h; exact wpAny_eqBool_str h
  «strs» := fun k x t v h => by
    rcases keyIs_shape h with ⟨i, u, rfl, e⟩ | ⟨y, u, rfl, e⟩
    · exact nomatch e
    · injection e with e1 _
      subst e1
      cases v <;> rfl
theorem mixKind_int (prog : Program) (w : World) (i : Int) (t : Tok) : (mixKind prog w).is (.inl i) (.int i t) = true := keyIs_int i t
theorem mixKind_str (prog : Program) (w : World) (x : Str) (t : Tok) : (mixKind prog w).is (.inr x) (.str x t) = true := keyIs_str x t
end L2
namespace L2
open PySem PySem.Spec PyProof.Rows
inductive V where
  | non | bl (b : Bool) | int (i : Int) | str (x : Str) | byt (b : Array UInt8) | flt (b : UInt64) | ref (a : Addr) | ty (n : String)
  deriving DecidableEq
def RelV : V → Value → Prop
  | .non, u => u = Value.none
  | .bl b, u => u = Value.bool b
  | .int i, u => ∃ t, u = Value.int i t
  | .str x, u => ∃ t, u = Value.str x t
  | .byt b, u => ∃ t, u = Value.bytes b t
  | .flt b, u => ∃ t, u = Value.float b t
  | .ref a, u => u = Value.ref a
  | .ty n, u => u = Value.type n
abbrev Vals : List V → List Value → Prop := Paired RelV
theorem Vals.length {xs : List V} {us : List Value} (r : Vals xs us) : xs.length = us.length := Paired.length r
theorem Vals.get : ∀ {xs : List V} {us : List Value} {i : Nat} {x : V}, Vals xs us → xs[i]? = some x → ∃ u, us[i]? = some u ∧ RelV x u
  | _, _, _, _, .nil, e => by simp at e
  | _, _, 0, _, .cons r _, e => by simp at e; subst e; exact ⟨_, rfl, r⟩
  | _, _, i + 1, x, .cons _ t, e => by
    obtain ⟨u, h1, h2⟩ := Vals.get (i := i) (x := x) t (by simpa using e)
    exact ⟨u, by simpa using h1, h2⟩
theorem Vals.set {x : V} {u : Value} (r : RelV x u) : ∀ {xs : List V} {us : List Value} (i : Nat), Vals xs us → Vals (xs.set i x) (us.set i u)
  | _, _, _, .nil => .nil
  | _, _, 0, .cons _ t => .cons r t
  | _, _, i + 1, .cons q t => .cons q (Vals.set r i t)
theorem Vals.append : ∀ {xs ys : List V} {us ws : List Value}, Vals xs us → Vals ys ws → Vals (xs ++ ys) (us ++ ws)
  | _, _, _, _, .nil, s => s
  | _, _, _, _, .cons r t, s => .cons r (Vals.append t s)
theorem Vals.take : ∀ {xs : List V} {us : List Value} (n : Nat), Vals xs us → Vals (xs.take n) (us.take n)
  | _, _, 0, _ => .nil
  | _, _, _ + 1, .nil => .nil
  | _, _, n + 1, .cons r t => .cons r (Vals.take n t)
theorem Vals.drop : ∀ {xs : List V} {us : List Value} (n : Nat), Vals xs us → Vals (xs.drop n) (us.drop n)
  | _, _, 0, r => r
  | _, _, _ + 1, .nil => .nil
  | _, _, n + 1, .cons _ t => Vals.drop n t
def RelO : Option V → Option Value → Prop
  | some v, some u => RelV v u
  | none, none => True
  | _, _ => False
def KV {κ : Type} : List (κ × V) → List (κ × Value) → Prop := Paired fun (p : κ × V) (q : κ × Value) => p.1 = q.1 ∧ RelV p.2 q.2
def kV : Key → V
  | .inl i => .int i
  | .inr x => .str x
inductive HO where
  /-- a list -/
  | lst (xs : List V)
  /-- a tuple (never changes) -/
  | tup (xs : List V)
  /-- a dict whose keys are ints and texts; one whose keys are tuples of ints and texts (the empty one is both) -/
  | dK (kvs : List (Key × V)) | dT (kvs : List (List Key × V))
  /-- a set of ints: its members, its size -/
  | set (S : Int → Bool) (n : Nat)
  /-- an instance of the class at C, its dict at dx, its attributes -/
  | ins (C dx : Addr) (fs : List (Str × V))
  /-- the dict of the instance at x -/
  | own (x : Addr)
  /-- the dict of an exception -/
  | xd (fs : List (Str × V))
  /-- a bound method, f of x -/
  | met (f x : Addr)
  /-- a range object lo, lo + 1, .. below hi -/
  | rng (lo hi : Int)
  /-- a thing that is known to the object (the script; a dict while a loop walks it): read, never written while it is so -/
  | frz (o : Obj) (u : HO)
  /-- a code object's table -/
  | tbl (ps : Array Value)
  /-- any other thing, by what is true of its one object (a def of one's own: SetO a S n := HO.ext fun h => ..) -/
  | ext (φ : Heap → Prop)
abbrev Hp := Addr → Option HO
def upd (H : Hp) (a : Addr) (o : HO) : Hp := fun b => if b = a then some o else H b
theorem upd_same {H : Hp} {a : Addr} {o : HO} : upd H a o a = some o := by unfold upd; rw [if_pos rfl]
theorem upd_ne {H : Hp} {a b : Addr} {o : HO} (h : b ≠ a) : upd H a o b = H b := by unfold upd; rw [if_neg h]
theorem upd_upd {H : Hp} {a : Addr} {o u : HO} : upd (upd H a o) a u = upd H a u := by
  funext b; unfold upd; split <;> rfl
theorem ne_of {H : Hp} {a b : Addr} {o u : HO} (h : H a = some o) (h' : H b = some u) (d : o ≠ u) : a ≠ b := by
  intro e; subst e; rw [h] at h'; exact d (Option.some.inj h')
theorem ne_of_none {H : Hp} {a b : Addr} {o : HO} (h : H a = some o) (h' : H b = none) : a ≠ b := by
  intro e; subst e; rw [h] at h'; cases h'
section
variable (P : Program) (w : World)
def ObjOk (H : Hp) (h : Heap) (a : Addr) : HO → Prop
  | .lst xs => xs.length ≤ sizeLine ∧ ∃ (its : List Value) (n : Nat), Vals xs its ∧ h.get? a = some { cls := .type "list", data := .seq its.toArray n }
  | .tup xs => xs.length ≤ sizeLine ∧ ∃ its : List Value, Vals xs its ∧ IsTup h a its.toArray
  | .dK kvs => kvs.length ≤ sizeLine ∧ (a == sysModules) = false ∧ ∃ vs, KV kvs vs ∧ h.DictOf (mixKind P w) a vs
  | .dT kvs => kvs.length ≤ sizeLine ∧ (a == sysModules) = false ∧ ∃ xs : List (List Key × Addr × Value),
      Paired (fun (p : List Key × V) (q : List Key × Addr × Value) => p.1 = q.1 ∧ H q.2.1 = some (.tup (p.1.map kV)) ∧ RelV p.2 q.2.2) kvs xs ∧
      ∃ o es ep, h.get? a = some o ∧ o.ExactDict ∧ o.data = .dict es ep ∧ es.toList = xs.map (entryOfKey (tupleKind (mixKind P w))) ∧ (xs.map (·.1)).Nodup
  | .set S n => h.SetOf (intKind P w) a S n
  | .ins C dx fs => H dx = some (.own a) ∧ fs.length ≤ 1000 ∧ dx ≠ a ∧ h.get? a = some (PySem.W.instObj C dx) ∧
      ∃ mA, h.Ns1 dx mA ∧ (∀ f, RelO (fs.lookup f) (mA f)) ∧ PySem.Within mA (fs.map (·.1))
  | .own _ => ∃ o, h.get? a = some o
  | .xd fs => ∃ mA, h.Ns1 a mA ∧ ∀ f, RelO (fs.lookup f) (mA f)
  | .rng lo hi => ∃ t u v, h.get? a = some { cls := .type "range", data := .fields #[.int lo t, .int hi u, .int 1 v] }
  | .frz o u => h.get? a = some o ∧ ObjOk H h a u
  | .tbl ps => h.get? a = some { cls := .none, data := .fields ps }
  | .met f x => h.get? a = some (PySem.W.methodObj (.ref f) (.ref x))
  | .ext φ => φ h ∧ (∃ o, h.get? a = some o) ∧ ∀ h1 h2 : Heap, φ h1 → (∀ o, h1.get? a = some o → h2.get? a = some o) → φ h2
def HOk (H : Hp) (h : Heap) : Prop := ∀ a o, H a = some o → ObjOk P w H h a o
end
section
variable {P : Program} {w : World} {H H' : Hp} {h h' : Heap} {a : Addr} {o : HO}
theorem ObjOk.lt (x : ObjOk P w H h a o) : a < h.objs.size := by
  cases o with
  | lst xs => obtain ⟨_, _, _, _, e⟩ := x; exact Heap.lt_size e
  | tup xs => obtain ⟨_, _, _, p⟩ := x; exact p.lt
  | dK kvs => obtain ⟨_, _, _, _, o, _, _, e, _⟩ := x; exact Heap.lt_size e
  | dT kvs => obtain ⟨_, _, _, _, o, _, _, e, _⟩ := x; exact Heap.lt_size e
  | set S n => obtain ⟨o, _, _, _, e, _⟩ := x; exact Heap.lt_size e
  | ins C dx fs => obtain ⟨_, _, _, e, _⟩ := x; exact Heap.lt_size e
  | own y => obtain ⟨_, e⟩ := x; exact Heap.lt_size e
  | xd fs => obtain ⟨_, ⟨_, _, _, e, _⟩, _⟩ := x; exact Heap.lt_size e
  | rng lo hi => obtain ⟨_, _, _, e⟩ := x; exact Heap.lt_size e
  | frz ob u => obtain ⟨e, _⟩ := x; exact Heap.lt_size e
  | tbl ps => exact Heap.lt_size (show h.get? a = some _ from x)
  | met f y => exact Heap.lt_size (show h.get? a = some _ from x)
  | ext φ => obtain ⟨_, ⟨_, e⟩, _⟩ := x; exact Heap.lt_size e
theorem Paired.mapP {α β : Type} {F G : α → β → Prop} : ∀ {l₁ : List α} {l₂ : List β}, Paired F l₁ l₂ → (∀ a b, F a b → G a b) → Paired G l₁ l₂
  | _, _, .nil, _ => .nil
  | _, _, .cons r t, f => .cons (f _ _ r) (Paired.mapP t f)
theorem ObjOk.stay (x : ObjOk P w H h a o) (k : ∀ b u, (b = a ∨ H b = some (.own a)) → h.get? b = some u → h'.get? b = some u)
    (ho : ∀ b, H b = some (.own a) → H' b = some (.own a)) (ht : ∀ b xs, H b = some (.tup xs) → H' b = some (.tup xs)) : ObjOk P w H' h' a o := by
  induction o with
  | lst xs => obtain ⟨z, its, n, r, e⟩ := x; exact ⟨z, its, n, r, k _ _ (.inl rfl) e⟩
  | tup xs => obtain ⟨z, its, r, ob, e, c⟩ := x; exact ⟨z, its, r, ob, k _ _ (.inl rfl) e, c⟩
  | dK kvs => obtain ⟨z, y, vs, r, ob, es, ep, e, c⟩ := x; exact ⟨z, y, vs, r, ob, es, ep, k _ _ (.inl rfl) e, c⟩
  | dT kvs =>
    obtain ⟨z, y, xs, r, ob, es, ep, e, c⟩ := x
    exact ⟨z, y, xs, Paired.mapP r fun p q z => ⟨z.1, ht _ _ z.2.1, z.2.2⟩, ob, es, ep, k _ _ (.inl rfl) e, c⟩
  | set S n => obtain ⟨ob, es, ep, t, e, c⟩ := x; exact ⟨ob, es, ep, t, k _ _ (.inl rfl) e, c⟩
  | ins C dx fs =>
    obtain ⟨d, z, ne, e, mA, ⟨od, es, ep, e2, c⟩, r⟩ := x
    exact ⟨ho _ d, z, ne, k _ _ (.inl rfl) e, mA, ⟨od, es, ep, k _ _ (.inr d) e2, c⟩, r⟩
  | own y => obtain ⟨ob, e⟩ := x; exact ⟨ob, k _ _ (.inl rfl) e⟩
  | xd fs => obtain ⟨mA, ⟨od, es, ep, e, c⟩, r⟩ := x; exact ⟨mA, ⟨od, es, ep, k _ _ (.inl rfl) e, c⟩, r⟩
  | rng lo hi => obtain ⟨t, u, v, e⟩ := x; exact ⟨t, u, v, k _ _ (.inl rfl) e⟩
  | frz ob u ih => obtain ⟨e, q⟩ := x; exact ⟨k _ _ (.inl rfl) e, ih q⟩
  | tbl ps =>
    have e : h.get? a = some { cls := .none, data := .fields ps } := x
    show h'.get? a = some { cls := .none, data := .fields ps }
    exact k a _ (.inl rfl) e
  | met f y =>
    have e : h.get? a = some (PySem.W.methodObj (.ref f) (.ref y)) := x
    show h'.get? a = some (PySem.W.methodObj (.ref f) (.ref y))
    exact k a _ (.inl rfl) e
  | ext φ => obtain ⟨p, ⟨o, e⟩, st⟩ := x; exact ⟨st _ _ p fun o q => k _ _ (.inl rfl) q, ⟨o, k _ _ (.inl rfl) e⟩, st⟩
theorem HOk.lt (x : HOk P w H h) (e : H a = some o) : a < h.objs.size := (x a o e).lt
theorem HOk.fresh (x : HOk P w H h) (e : h.objs.size ≤ a) : H a = none := by
  cases q : H a with
  | none => rfl
  | some u => exact absurd (Nat.lt_of_lt_of_le (x.lt q) e) (Nat.lt_irrefl _)
theorem HOk.kept (x : HOk P w H h) (k : ∀ b u, h.get? b = some u → h'.get? b = some u) : HOk P w H h' := fun a o e =>
  (x a o e).stay (fun b u _ q => k b u q) (fun _ q => q) fun _ _ q => q
theorem HOk.laid (x : HOk P w H h) (k : ∀ b u, h.get? b = some u → h'.get? b = some u) (hp : h.objs.size ≤ a) (new : ObjOk P w (upd H a o) h' a o) : HOk P w (upd H a o) h' := fun b u e => by
  have hn := x.fresh hp
  by_cases hb : b = a
  · subst hb; rw [upd_same] at e; cases e; exact new
  · rw [upd_ne hb] at e
    exact (x b u e).stay (fun c v _ q => k c v q) (fun c q => by rw [upd_ne (ne_of_none q hn)]; exact q) fun c xs q => by rw [upd_ne (ne_of_none q hn)]; exact q
end
def Rd (H : Hp) (a : Addr) (u : HO) : Prop := H a = some u ∨ ∃ o, H a = some (.frz o u)
theorem Rd.of {H : Hp} {a : Addr} {u : HO} (h : H a = some u) : Rd H a u := .inl h
theorem Rd.ok {P : Program} {w : World} {H : Hp} {h : Heap} {a : Addr} {u : HO} (r : Rd H a u) (x : HOk P w H h) : ObjOk P w H h a u := by
  rcases r with r | ⟨o, r⟩
  · exact x a u r
  · obtain ⟨_, q⟩ := x a _ r
    exact q
def Mut : Option HO → Prop
  | some (.lst _) => True
  | some (.dK _) => True
  | some (.dT _) => True
  | some (.set _ _) => True
  | some (.ins _ _ _) => True
  | some (.ext _) => True
  | _ => False
section
variable {P : Program} {w : World} {H : Hp} {h h' : Heap} {x e : Addr} {o' : HO}
theorem HOk.write (ok : HOk P w H h) (mu : Mut (H x)) (he : e = x ∨ H e = some (.own x)) (k : ∀ b u, b ≠ e → h.get? b = some u → h'.get? b = some u) (heo : ∃ u, h'.get? e = some u)
    (new : ObjOk P w (upd H x o') h' x o') : HOk P w (upd H x o') h' := fun b u q => by
  have nown : ∀ c y, H c = some (.own y) → c ≠ x := fun c y r z => by subst z; rw [r] at mu; exact mu
  have ntup : ∀ c xs, H c = some (.tup xs) → c ≠ x := fun c xs r z => by subst z; rw [r] at mu; exact mu
  by_cases hb : b = x
  · subst hb; rw [upd_same] at q; cases q; exact new
  · rw [upd_ne hb] at q
    by_cases hbe : b = e
    · have q' : H b = some (.own x) := by
        rcases he with z | z
        · exact absurd (hbe.trans z) hb
        · rw [hbe]; exact z
      rw [q] at q'; cases q'
      obtain ⟨v, hv⟩ := heo
      exact ⟨v, by rw [hbe]; exact hv⟩
    · refine (ok b u q).stay (fun c v hc r => k c v ?_ r) (fun c r => by rw [upd_ne (nown c b r)]; exact r) fun c xs r => by rw [upd_ne (ntup c xs r)]; exact r
      rcases hc with rfl | hc
      · exact hbe
      · rintro rfl
        rcases he with z | z
        · exact nown c b hc z
        · rw [hc] at z; cases z; exact hb rfl
end
structure Un (fs ex : List Addr) (H H' : Hp) (h h' : Heap) : Prop where
  keep : ∀ b o, h.get? b = some o → H b = none → b ∉ fs → b ∉ ex → h'.get? b = some o
  slot : ∀ b o, h.get? b = some o → H b = none → b ∈ fs → b ∉ ex → ∃ sl, h'.get? b = some { o with slots := sl }
  free : ∀ b o, h.get? b = some o → H b = none → b ∉ ex → H' b = none
  there : ∀ b o, h.get? b = some o → b ∉ ex → ∃ o', h'.get? b = some o'
  tups : ∀ b xs, H b = some (.tup xs) → H' b = some (.tup xs)
  frzs : ∀ b o u, H b = some (.frz o u) → H' b = some (.frz o u)
  tbls : ∀ b ps, H b = some (.tbl ps) → ∃ more, H' b = some (.tbl (ps ++ more))
section
variable {fs fs' ex ex' : List Addr} {H H1 H2 : Hp} {h h1 h2 h' : Heap} {a x e : Addr} {o : HO}
theorem Un.any (u : Un fs ex H H1 h h1) {b : Addr} {ob : Obj} (q : h.get? b = some ob) (n : H b = none) (hx : b ∉ ex) : ∃ sl, h1.get? b = some { ob with slots := sl } := by
  by_cases hb : b ∈ fs
  · exact u.slot b ob q n hb hx
  · exact ⟨ob.slots, u.keep b ob q n hb hx⟩
theorem Un.trans (a : Un fs ex H H1 h h1) (b : Un fs ex H1 H2 h1 h2) : Un fs ex H H2 h h2 where
  keep := fun c ob q n hc hx => b.keep c ob (a.keep c ob q n hc hx) (a.free c ob q n hx) hc hx
  slot := fun c ob q n hc hx => by
    obtain ⟨sl, e1⟩ := a.slot c ob q n hc hx
    obtain ⟨sl', e2⟩ := b.slot c _ e1 (a.free c ob q n hx) hc hx
    exact ⟨sl', e2⟩
  free := fun c ob q n hx => by
    obtain ⟨o', e1⟩ := a.there c ob q hx
    exact b.free c o' e1 (a.free c ob q n hx) hx
  there := fun c ob q hx => by
    obtain ⟨o', e1⟩ := a.there c ob q hx
    exact b.there c o' e1 hx
  tups := fun c xs q => b.tups c xs (a.tups c xs q)
  frzs := fun c ob xs q => b.frzs c ob xs (a.frzs c ob xs q)
  tbls := fun c ps q => by
    obtain ⟨m1, e1⟩ := a.tbls c ps q
    obtain ⟨m2, e2⟩ := b.tbls c _ e1
    exact ⟨m1 ++ m2, by rw [e2, Array.append_assoc]⟩
theorem Un.kept (k : ∀ b u, h.get? b = some u → h'.get? b = some u) : Un fs ex H H h h' :=
  ⟨fun b ob q _ _ _ => k b ob q, fun b ob q _ _ _ => ⟨ob.slots, k b ob q⟩, fun _ _ _ n _ => n, fun b ob q _ => ⟨ob, k b ob q⟩, fun _ _ q => q, fun _ _ _ q => q, fun _ ps q => ⟨#[], by rw [q]; simp⟩⟩
theorem Un.refl : Un fs ex H H h h := Un.kept fun _ _ q => q
theorem Un.laid (k : ∀ b u, h.get? b = some u → h'.get? b = some u) (hp : h.objs.size ≤ a) (hn : H a = none) : Un fs ex H (upd H a o) h h' where
  keep := fun b u q _ _ _ => k b u q
  slot := fun b u q _ _ _ => ⟨u.slots, k b u q⟩
  free := fun b u q n _ => by rw [upd_ne (Nat.ne_of_lt (Nat.lt_of_lt_of_le (Heap.lt_size q) hp))]; exact n
  there := fun b u q _ => ⟨u, k b u q⟩
  tups := fun b xs q => by rw [upd_ne (ne_of_none q hn)]; exact q
  frzs := fun b u xs q => by rw [upd_ne (ne_of_none q hn)]; exact q
  tbls := fun b ps q => ⟨#[], by rw [upd_ne (ne_of_none q hn), q]; simp⟩
theorem Un.write (mu : Mut (H x)) (he : e = x ∨ H e = some (.own x)) (k : ∀ b u, b ≠ e → h.get? b = some u → h'.get? b = some u) (heo : ∃ u, h'.get? e = some u) : Un fs ex H (upd H x o) h h' := by
  have hx : ∀ b, H b = none → b ≠ x := fun b n z => by subst z; rw [n] at mu; exact mu
  have hb : ∀ b, H b = none → b ≠ e := fun b n z => by
    subst z
    rcases he with r | r
    · exact hx b n r
    · rw [n] at r; cases r
  have hm : ∀ b u, H b = some u → ¬ Mut (some u) → b ≠ x := fun b u q nm z => by subst z; rw [q] at mu; exact nm mu
  refine ⟨fun b u q n _ _ => k b u (hb b n) q, fun b u q n _ _ => ⟨u.slots, k b u (hb b n) q⟩, fun b u q n _ => by rw [upd_ne (hx b n)]; exact n, fun b u q _ => ?_,
    fun b xs q => by rw [upd_ne (hm b _ q fun z => z)]; exact q, fun b u xs q => by rw [upd_ne (hm b _ q fun z => z)]; exact q, fun b ps q => ⟨#[], by rw [upd_ne (hm b _ q fun z => z), q]; simp⟩⟩
  by_cases hbe : b = e
  · subst hbe; exact heo
  · exact ⟨u, k b u hbe q⟩
theorem Un.mono (u : Un fs ex H H1 h h1) (hs : ∀ b ∈ fs, b ∈ fs') (hx : ∀ b ∈ ex, b ∈ ex') : Un fs' ex' H H1 h h1 :=
  ⟨fun b ob q n hb he => u.keep b ob q n (fun z => hb (hs b z)) fun z => he (hx b z), fun _ _ q n _ he => u.any q n fun z => he (hx _ z), fun b ob q n he => u.free b ob q n fun z => he (hx b z), fun b ob q he => u.there b ob q fun z => he (hx b z), u.tups, u.frzs, u.tbls⟩
end
def trk (h : Heap) (H : Hp) : List Addr := (List.range h.objs.size).filter fun a => (H a).isSome
def hidT (h : Heap) (H : Hp) : Heap := PySem.W.hideAll h (trk h H)
theorem hidT_size (h : Heap) (H : Hp) : (hidT h H).objs.size = h.objs.size := PySem.W.hideAll_size _ _
theorem hidT_get {h : Heap} {H : Hp} {b : Addr} {o : Obj} (e : h.get? b = some o) (n : H b = none) : (hidT h H).get? b = some o :=
  PySem.W.hideAll_get _ e fun hm => by
    have q : (H b).isSome = true := (List.mem_filter.mp hm).2
    rw [n] at q; simp at q
theorem of_hidT {h : Heap} {H : Hp} {b : Addr} {o : Obj} (e : (hidT h H).get? b = some o) : h.get? b = some o ∧ H b = none := by
  have e' : h.get? b = some o := PySem.W.of_hideAll (trk h H) e
  refine ⟨e', ?_⟩
  cases q : H b with
  | none => rfl
  | some x =>
    have hm : b ∈ trk h H := List.mem_filter.mpr ⟨List.mem_range.mpr (Heap.lt_size e'), by simp [q]⟩
    have z : (hidT h H).get? b = none := PySem.W.hideAll_none (trk h H) hm
    rw [z] at e; cases e
def allNews (g h : Heap) (L : Addr) : List (Addr × Obj) := (List.range h.objs.size).filterMap fun a => if a = L ∨ (g.get? a).isSome = true then none else (h.get? a).map fun o => (a, o)
def rest (g h : Heap) (L d : Addr) : List (Addr × Obj) := (allNews g h L).filter fun p => decide (p.1 ≠ d)
end L2
namespace L2
open PySem PySem.Spec PyProof.Rows
structure Mod (K : PySem.W.Frag) (mg : Str → Option Value) (base : Heap) : Prop where
  kin : K.In base
  glob : base.Ns mainGlobals mg
  blt : ∃ mb, base.Ns builtinsNs mb ∧ ∀ x : Str, x ≠ "__name__" → mb x = bootBuiltins x
  nolimit : base.NoLimit
structure Cx where
  prog : Program
  w : World
  K : PySem.W.Frag
  mg : Str → Option Value
  base : Heap
  A : Around
  N : List Str
  s_0 : Shared
  H_0 : Hp
  env : Env
  outer : List Env
  stack : List Env
  ex : List Addr
  fn : Str → Bool
  calm : Bool
  pn : List (Addr × Obj)
  xe : Value → Shared → Prop
def frs (l : List Env) : List Addr := l.filterMap (·.frame)
abbrev Cx.fs (X : Cx) : List Addr := frs X.outer
def Vis (sc : Scope) (x : Str) : Prop := sc.names.lookup x = some .local ∨ sc.names.lookup x = some .cell ∨ sc.names.lookup x = some .free
def Loc (sc : Scope) (x : Str) : Prop := sc.names.lookup x = some .local ∨ sc.names.lookup x = some .cell
def Look (env : Env) (h : Heap) (m : Str → Option Value) (x : Str) (u : Value) : Prop :=
  (env.kindOf x = some .local ∧ m x = some u) ∨ ((env.kindOf x = some .cell ∨ env.kindOf x = some .free) ∧ ∃ c, env.cells.lookup x = some c ∧ h.IsCell c (some u))
structure Cx.Ok (X : Cx) : Prop where
  mod : Mod X.K X.mg X.base
  kind : X.env.scope.kind = .function
  glob : X.env.globals = mainGlobals
  blt : X.env.builtins = builtinsNs
  above : X.s_0.heap.objs.size ≤ X.env.locals
  inj : ∀ x y c, X.env.cells.lookup x = some c → X.env.cells.lookup y = some c → x = y
  has : ∀ x, (X.env.kindOf x = some .cell ∨ X.env.kindOf x = some .free) → ∃ c, X.env.cells.lookup x = some c
  cab : ∀ x c, X.fn x = true → X.env.cells.lookup x = some c → X.s_0.heap.objs.size ≤ c
  hd : X.calm = true → X.A.handled = none
  frames : X.A.frames = some X.stack
  stk : X.stack = X.outer ∨ (X.stack = X.env :: X.outer ∧ X.env.frame = some X.env.locals)
  exf : ∀ b ∈ X.ex, b ≠ X.env.locals ∧ ∀ x c, X.env.cells.lookup x = some c → c ≠ b
  bs : ∀ b o, X.base.get? b = some o → X.s_0.heap.get? b = some o ∧ X.H_0 b = none
  bsz : X.base.objs.size ≤ X.s_0.heap.objs.size
  noex : ∀ b o, X.base.get? b = some o → b ∉ X.ex
  exfs : ∀ b ∈ X.ex, b ∉ X.fs
  funs : X.s_0.heap.FunFrames X.base X.outer
  frf : ∀ b ∈ X.fs, X.H_0 b = none
structure Inv (X : Cx) (pins : List (Addr × Obj)) (σ : List (Option V)) (H : Hp) (s : Shared) : Prop where
  ok : X.Ok
  os : s.os = X.s_0.os
  bare : AllBare s.gens
  base : Un X.fs X.ex X.H_0 H X.s_0.heap s.heap
  loc : ∃ m, s.heap.Ns X.env.locals m ∧ ∀ (i : Nat) (x : Str) (v : V), X.N[i]? = some x → σ[i]? = some (some v) → Vis X.env.scope x → ∃ u, RelV v u ∧ Look X.env s.heap m x u
  cell : ∀ x c, X.env.cells.lookup x = some c → ∃ v, s.heap.IsCell c v
  free : H X.env.locals = none
  freeC : ∀ x c, X.env.cells.lookup x = some c → H c = none
  pin : ∀ p ∈ X.pn ++ pins, s.heap.get? p.1 = some p.2 ∧ H p.1 = none ∧ p.1 ≠ X.env.locals ∧ p.1 ∉ X.fs ∧ ∀ v, p.2.data ≠ .cell v
  hok : HOk X.prog X.w H s.heap
  len : σ.length = X.N.length
section
variable {X : Cx} {pins : List (Addr × Obj)} {σ : List (Option V)} {H H' : Hp} {s : Shared} {h' : Heap}
theorem Cx.Ok.nofr (ok : X.Ok) {b : Addr} {o : Obj} (e : X.base.get? b = some o) : b ∉ X.fs := fun hb => by
  have := (ok.funs.mem hb).1
  rw [e] at this; cases this
theorem Inv.bs (I : Inv X pins σ H s) : ∀ b o, X.base.get? b = some o → s.heap.get? b = some o ∧ H b = none := fun b o e =>
  ⟨I.base.keep b o (I.ok.bs b o e).1 (I.ok.bs b o e).2 (I.ok.nofr e) (I.ok.noex b o e), I.base.free b o (I.ok.bs b o e).1 (I.ok.bs b o e).2 (I.ok.noex b o e)⟩
theorem Inv.bk (I : Inv X pins σ H s) : ∀ b o, X.base.get? b = some o → s.heap.get? b = some o := fun b o e => (I.bs b o e).1
theorem Inv.mod (I : Inv X pins σ H s) : Mod X.K X.mg X.base := I.ok.mod
theorem Inv.kIn (I : Inv X pins σ H s) : X.K.In s.heap := I.ok.mod.kin.keeps I.bk
theorem Inv.fr (I : Inv X pins σ H s) : ∃ m, Fr X.base X.env.locals s.heap m :=
  let ⟨m, hn, _⟩ := I.loc
  ⟨m, hn, I.bk, Nat.le_trans I.ok.bsz I.ok.above⟩
theorem Inv.lt (I : Inv X pins σ H s) : X.env.locals < s.heap.objs.size := let ⟨_, hn, _⟩ := I.loc; hn.lt
theorem Inv.sz (I : Inv X pins σ H s) : X.s_0.heap.objs.size ≤ s.heap.objs.size := Nat.le_trans I.ok.above (Nat.le_of_lt I.lt)
theorem Inv.nofs (I : Inv X pins σ H s) {a : Addr} (h : s.heap.objs.size ≤ a) : a ∉ X.fs := fun hb => by
  obtain ⟨_, o, ho, _⟩ := I.ok.funs.mem hb
  exact absurd (Nat.lt_of_lt_of_le (Heap.lt_size ho) (Nat.le_trans I.sz h)) (Nat.lt_irrefl _)
theorem Inv.cne (I : Inv X pins σ H s) : ∀ x c, X.env.cells.lookup x = some c → c ≠ X.env.locals := fun x c e z => by
  obtain ⟨v, o, ho, hd⟩ := I.cell x c e
  obtain ⟨m, ⟨o', es, ep, ho', hd', _⟩, _⟩ := I.loc
  rw [z, ho'] at ho; cases ho; rw [hd'] at hd; cases hd
theorem Inv.funs (I : Inv X pins σ H s) : s.heap.FunFrames X.base X.outer := by
  have all : ∀ (l : List Env), (∀ b ∈ frs l, b ∈ X.fs) → X.s_0.heap.FunFrames X.base l → s.heap.FunFrames X.base l := by
    intro l
    induction l with
    | nil => intro _ _; trivial
    | cons env r ih =>
      intro hs hl
      obtain ⟨hk, ⟨L, o, hf, hn, ho, hd⟩, hr⟩ := hl
      have hL : L ∈ X.fs := hs L (by unfold frs; rw [List.filterMap_cons, hf]; exact List.mem_cons_self)
      obtain ⟨sl, e⟩ := I.base.slot L o ho (I.ok.frf L hL) hL fun z => I.ok.exfs L z hL
      exact ⟨hk, ⟨L, _, hf, hn, e, hd⟩, ih (fun b hb => hs b (by unfold frs; rw [List.filterMap_cons, hf]; exact List.mem_cons_of_mem _ hb)) hr⟩
  exact all X.outer (fun _ hb => hb) I.ok.funs
theorem Inv.stack (I : Inv X pins σ H s) : s.heap.FunFrames X.base X.stack := by
  rcases I.ok.stk with e | ⟨e, hf⟩
  · rw [e]; exact I.funs
  · rw [e]
    obtain ⟨m, hn, _⟩ := I.loc
    refine .cons (by rw [I.ok.kind]; decide) hf hn ?_ I.funs
    exact Heap.get?_none_of_le (Nat.le_trans I.ok.bsz I.ok.above)
theorem Inv.stkSub (I : Inv X pins σ H s) : ∀ b ∈ frs X.stack, b ∈ X.env.locals :: X.fs := fun b hb => by
  rcases I.ok.stk with e | ⟨e, hf⟩
  · rw [e] at hb; exact List.mem_cons_of_mem _ hb
  · rw [e] at hb
    unfold frs at hb
    rw [List.filterMap_cons, hf] at hb
    exact hb
theorem Inv.stkFree (I : Inv X pins σ H s) : ∀ b ∈ frs X.stack, H b = none := fun b hb => by
  rcases List.mem_cons.mp (I.stkSub b hb) with e | hb
  · rw [e]; exact I.free
  · obtain ⟨_, o, ho, _⟩ := I.ok.funs.mem hb
    exact I.base.free b o ho (I.ok.frf b hb) fun z => I.ok.exfs b z hb
theorem Inv.step {g' : Array GenState} {t' : Nat} {d' : Drawn} {ch : List Addr} (I : Inv X pins σ H s)
    (hch : ∀ b ∈ ch, (b ∈ X.ex ∨ X.s_0.heap.objs.size ≤ b) ∧ b ≠ X.env.locals ∧ (∀ x c, X.env.cells.lookup x = some c → c ≠ b) ∧ ∀ p ∈ X.pn ++ pins, p.1 ≠ b)
    (keep : ∀ b o, b ≠ X.env.locals → b ∉ X.fs → b ∉ ch → s.heap.get? b = some o → H b = none → h'.get? b = some o)
    (slot : ∀ b o, b ≠ X.env.locals → b ∈ X.fs → b ∉ ch → s.heap.get? b = some o → H b = none → ∃ sl, h'.get? b = some { o with slots := sl }) (free : ∀ b o, b ∉ ch → s.heap.get? b = some o → H b = none → H' b = none)
    (there : ∀ b o, b ∉ ch → s.heap.get? b = some o → ∃ o', h'.get? b = some o')
    (tups : ∀ b xs, H b = some (.tup xs) → H' b = some (.tup xs)) (frzs : ∀ b o u, H b = some (.frz o u) → H' b = some (.frz o u)) (tbls : ∀ b ps, H b = some (.tbl ps) → ∃ more, H' b = some (.tbl (ps ++ more)))
    (ns : ∀ m, s.heap.Ns X.env.locals m → h'.Ns X.env.locals m) (hok : HOk X.prog X.w H' h') (hg : AllBare g') :
    Inv X pins σ H' { s with heap := h', gens := g', drawn := d', toks := t' } := by
  have neL : ∀ b o, X.s_0.heap.get? b = some o → b ≠ X.env.locals := fun b o e => Nat.ne_of_lt (Nat.lt_of_lt_of_le (Heap.lt_size e) I.ok.above)
  have neC : ∀ b o, X.s_0.heap.get? b = some o → b ∉ X.ex → b ∉ ch := fun b o e hx hb => by
    rcases (hch b hb).1 with z | z
    · exact hx z
    · exact absurd (Nat.lt_of_lt_of_le (Heap.lt_size e) z) (Nat.lt_irrefl _)
  have cellK : ∀ x c, X.env.cells.lookup x = some c → ∀ v, s.heap.IsCell c v → h'.IsCell c v := fun x c e v ⟨o, ho, hd⟩ => by
    have nch : c ∉ ch := fun z => (hch c z).2.2.1 x c e rfl
    by_cases hc : c ∈ X.fs
    · obtain ⟨sl, q⟩ := slot c o (I.cne x c e) hc nch ho (I.freeC x c e)
      exact ⟨_, q, hd⟩
    · exact ⟨o, keep c o (I.cne x c e) hc nch ho (I.freeC x c e), hd⟩
  refine ⟨I.ok, I.os, hg, ⟨fun b o e n hb hx => ?_, fun b o e n hb hx => ?_, fun b o e n hx => ?_, fun b o e hx => ?_, fun b xs e => tups b xs (I.base.tups b xs e), fun b o xs e => frzs b o xs (I.base.frzs b o xs e), fun b ps e => ?_⟩, ?_, fun x c e => ?_, ?_, fun x c e => ?_, fun p hp => ?_, hok, I.len⟩
  · exact keep b o (neL b o e) hb (neC b o e hx) (I.base.keep b o e n hb hx) (I.base.free b o e n hx)
  · obtain ⟨sl, e1⟩ := I.base.slot b o e n hb hx
    obtain ⟨sl', e2⟩ := slot b _ (neL b o e) hb (neC b o e hx) e1 (I.base.free b o e n hx)
    exact ⟨sl', e2⟩
  · obtain ⟨o', e1⟩ := I.base.there b o e hx
    exact free b o' (neC b o e hx) e1 (I.base.free b o e n hx)
  · obtain ⟨o', e1⟩ := I.base.there b o e hx
    exact there b o' (neC b o e hx) e1
  · obtain ⟨m1, e1⟩ := I.base.tbls b ps e
    obtain ⟨m2, e2⟩ := tbls b _ e1
    exact ⟨m1 ++ m2, by rw [e2, Array.append_assoc]⟩
  · obtain ⟨m, hn, hl⟩ := I.loc
    refine ⟨m, ns m hn, fun i x v e1 e2 e3 => ?_⟩
    obtain ⟨u, r, l⟩ := hl i x v e1 e2 e3
    refine ⟨u, r, ?_⟩
    rcases l with l | ⟨k, c, e, z⟩
    · exact .inl l
    · exact .inr ⟨k, c, e, cellK x c e _ z⟩
  · obtain ⟨v, z⟩ := I.cell x c e
    exact ⟨v, cellK x c e v z⟩
  · obtain ⟨m, ⟨o, _, _, ho, _⟩, _⟩ := I.loc
    exact free _ o (fun z => (hch _ z).2.1 rfl) ho I.free
  · obtain ⟨v, o, ho, hd⟩ := I.cell x c e
    exact free c o (fun z => (hch c z).2.2.1 x c e rfl) ho (I.freeC x c e)
  · obtain ⟨e, n, ne, nf, d⟩ := I.pin p hp
    have nch : p.1 ∉ ch := fun z => (hch p.1 z).2.2.2 p hp rfl
    exact ⟨keep p.1 p.2 ne nf nch e n, free p.1 p.2 nch e n, ne, nf, d⟩
theorem Inv.un {t' : Nat} (I : Inv X pins σ H s) (u : Un X.fs [] H H' s.heap h') (hok : HOk X.prog X.w H' h') : Inv X pins σ H' { s with heap := h', toks := t' } := by
  obtain ⟨m, ⟨o, es, ep, ho, r⟩, _⟩ := id I.loc
  obtain ⟨sl, hL⟩ := u.any ho I.free (by simp)
  exact I.step (g' := s.gens) (d' := s.drawn) (ch := []) (fun _ z => nomatch z) (fun b o _ hb _ e n => u.keep b o e n hb (by simp)) (fun b o _ hb _ e n => u.slot b o e n hb (by simp)) (fun b o _ e n => u.free b o e n (by simp)) (fun b o _ e => u.there b o e (by simp)) u.tups u.frzs u.tbls (fun m' hm => by
    obtain ⟨o', es', ep', ho', r'⟩ := hm
    rw [ho] at ho'; cases ho'
    exact ⟨_, es', ep', hL, r'⟩) hok I.bare
theorem Inv.call {g' : Array GenState} {t' : Nat} {d' : Drawn} {ch : List Addr} (I : Inv X pins σ H s) (u : Un (frs X.stack) ch H H' s.heap h') (hok : HOk X.prog X.w H' h') (hg : AllBare g')
    (hch : ∀ b ∈ ch, (b ∈ X.ex ∨ X.s_0.heap.objs.size ≤ b) ∧ b ≠ X.env.locals ∧ (∀ x c, X.env.cells.lookup x = some c → c ≠ b) ∧ ∀ p ∈ X.pn ++ pins, p.1 ≠ b) :
    Inv X pins σ H' { s with heap := h', gens := g', drawn := d', toks := t' } := by
  obtain ⟨m, ⟨o, es, ep, ho, r⟩, _⟩ := id I.loc
  obtain ⟨sl, hL⟩ := u.any ho I.free fun z => (hch _ z).2.1 rfl
  exact I.step (ch := ch) hch (fun b o hL hb hc e n => u.keep b o e n (fun z => (List.mem_cons.mp (I.stkSub b z)).elim hL hb) hc) (fun b o _ _ hc e n => u.any e n hc) (fun b o hc e n => u.free b o e n hc) (fun b o hc e => u.there b o e hc) u.tups u.frzs u.tbls (fun m' hm => by
    obtain ⟨o', es', ep', ho', r'⟩ := hm
    rw [ho] at ho'; cases ho'
    exact ⟨_, es', ep', hL, r'⟩) hok hg
theorem Inv.turned {t' : Nat} {it : Addr} (I : Inv X pins σ H s) (k : ∀ b o, b ≠ it → s.heap.get? b = some o → h'.get? b = some o) (hn : H it = none) (hL : it ≠ X.env.locals)
    (h1 : it ∈ X.ex ∨ X.s_0.heap.objs.size ≤ it) (h2 : ∀ x c, X.env.cells.lookup x = some c → c ≠ it) (h3 : ∀ p ∈ X.pn ++ pins, p.1 ≠ it) : Inv X pins σ H { s with heap := h', toks := t' } := by
  have nit : ∀ b u, H b = some u → b ≠ it := fun b u e z => by rw [z, hn] at e; cases e
  refine I.step (g' := s.gens) (d' := s.drawn) (ch := [it]) (fun b hb => ?_) (fun b o _ _ hc e _ => k b o (fun z => hc (by simp [z])) e) (fun b o _ _ hc e _ => ⟨o.slots, k b o (fun z => hc (by simp [z])) e⟩) (fun _ _ _ _ n => n)
    (fun b o hc e => ⟨o, k b o (fun z => hc (by simp [z])) e⟩) (fun _ _ e => e) (fun _ _ _ e => e) (fun b ps e => ⟨#[], by rw [e]; simp⟩) (fun m hm => ?_) (fun b u e => ?_) I.bare
  · have e : b = it := by simpa using hb
    subst e
    exact ⟨h1, hL, h2, h3⟩
  · obtain ⟨o, es, ep, ho, r⟩ := hm
    exact ⟨o, es, ep, k _ o (Ne.symm hL) ho, r⟩
  · refine (I.hok b u e).stay (fun c v hc q => k c v ?_ q) (fun _ q => q) fun _ _ q => q
    rcases hc with z | z
    · rw [z]; exact nit b u e
    · exact nit c _ z
theorem Inv.tok (I : Inv X pins σ H s) (t : Nat) : Inv X pins σ H { s with toks := t } := I.un (h' := s.heap) (t' := t) Un.refl I.hok
theorem Inv.kept {t' : Nat} (I : Inv X pins σ H s) (k : ∀ b u, s.heap.get? b = some u → h'.get? b = some u) : Inv X pins σ H { s with heap := h', toks := t' } := I.un (Un.kept k) (I.hok.kept k)
theorem Inv.laid {a : Addr} {o : HO} {t' : Nat} (I : Inv X pins σ H s) (k : ∀ b u, s.heap.get? b = some u → h'.get? b = some u) (hp : s.heap.objs.size ≤ a) (new : ObjOk X.prog X.w (upd H a o) h' a o) :
    Inv X pins σ (upd H a o) { s with heap := h', toks := t' } := I.un (Un.laid k hp (I.hok.fresh hp)) (I.hok.laid k hp new)
theorem Inv.write {x e : Addr} {o : HO} {t' : Nat} (I : Inv X pins σ H s) (mu : Mut (H x)) (he : e = x ∨ H e = some (.own x)) (k : ∀ b u, b ≠ e → s.heap.get? b = some u → h'.get? b = some u) (heo : ∃ u, h'.get? e = some u)
    (new : ObjOk X.prog X.w (upd H x o) h' x o) : Inv X pins σ (upd H x o) { s with heap := h', toks := t' } := I.un (Un.write mu he k heo) (I.hok.write mu he k heo new)
theorem Inv.weak {σ' : List (Option V)} (I : Inv X pins σ H s) (hl : σ'.length = σ.length) (w : ∀ (i : Nat) v, σ'[i]? = some (some v) → σ[i]? = some (some v)) : Inv X pins σ' H s :=
  ⟨I.ok, I.os, I.bare, I.base, let ⟨m, hn, hl'⟩ := I.loc; ⟨m, hn, fun i x v e1 e2 e3 => hl' i x v e1 (w i v e2) e3⟩, I.cell, I.free, I.freeC, I.pin, I.hok, hl.trans I.len⟩
theorem Inv.pins_of {pins' : List (Addr × Obj)} (I : Inv X pins σ H s) (h : ∀ p ∈ pins', s.heap.get? p.1 = some p.2 ∧ H p.1 = none ∧ p.1 ≠ X.env.locals ∧ p.1 ∉ X.fs ∧ ∀ v, p.2.data ≠ .cell v) : Inv X pins' σ H s :=
  ⟨I.ok, I.os, I.bare, I.base, I.loc, I.cell, I.free, I.freeC, fun p hp => (List.mem_append.mp hp).elim (fun z => I.pin p (List.mem_append_left _ z)) (h p), I.hok, I.len⟩
theorem nodup_ix {N : List Str} (hN : N.Nodup) {i j : Nat} {x : Str} (a : N[i]? = some x) (b : N[j]? = some x) : i = j := by
  obtain ⟨h1, e1⟩ := List.getElem?_eq_some_iff.mp a
  obtain ⟨h2, e2⟩ := List.getElem?_eq_some_iff.mp b
  exact (List.getElem_inj hN).mp (e1.trans e2.symm)
theorem store_ok2 {M : Model} {A : Around} {E : Value → Shared → Prop} {i : Nat} {x : Str} {v : V} {u : Value} {Q : Unit → Shared → Prop} (I : Inv X pins σ H s) (hN : X.N.Nodup) (hi : X.N[i]? = some x) (hx : Loc X.env.scope x) (r : RelV v u)
    (h : ∀ s', Inv X pins (σ.set i (some v)) H s' → (∃ a, Heap.SameBut a s.heap s'.heap ∧ (a = X.env.locals ∨ X.env.cells.lookup x = some a)) → Q () s') (hf : X.fn x = true ∨ X.env.scope.names.lookup x = some .local := by first | exact .inl rfl | exact .inr rfl | assumption) : wpAny M A (storeName X.env x u) Q E s := by
  obtain ⟨m, hn, hl⟩ := id I.loc
  have hcls : (X.env.scope.kind == .class || (X.env.scope.kind == .module && X.env.locals != X.env.globals)) = false := by rw [I.ok.kind]; rfl
  have hiσ : i < σ.length := by rw [I.len]; exact (List.getElem?_eq_some_iff.mp hi).1
  have cne := I.cne
  have tracked : ∀ {a : Addr} {h' : Heap}, (∃ o, s.heap.get? a = some o ∧ H a = none) → Heap.SameBut a s.heap h' → HOk X.prog X.w H h' := fun {a h'} ha hs b ob e => by
    obtain ⟨_, _, hfree⟩ := ha
    refine (I.hok b ob e).stay (fun c w' hc q => (hs.2 c ?_).trans q) (fun _ q => q) fun _ _ q => q
    rintro rfl
    rcases hc with rfl | hc
    · rw [hfree] at e; cases e
    · rw [hfree] at hc; cases hc
  rcases hx with hk | hk
  · refine wpAny_storeName_local hk hn (fun h' hn' hs => ?_) hcls
    obtain ⟨oL, _, _, hoL, _⟩ := id hn
    refine h _ ⟨I.ok, I.os, I.bare, ⟨fun b o e n hb hx => ?_, fun b o e n hb hx => ?_, I.base.free, fun b o e hx => ?_, I.base.tups, I.base.frzs, I.base.tbls⟩, ⟨_, hn', fun j y v' e1 e2 e3 => ?_⟩, fun y c e => ?_, I.free, I.freeC, fun p hp => ?_, tracked ⟨oL, hoL, I.free⟩ hs, by simpa using I.len⟩ ⟨_, hs, .inl rfl⟩
    · exact (hs.2 b (Nat.ne_of_lt (Nat.lt_of_lt_of_le (Heap.lt_size e) I.ok.above))).trans (I.base.keep b o e n hb hx)
    · obtain ⟨sl, e1⟩ := I.base.slot b o e n hb hx
      exact ⟨sl, (hs.2 b (Nat.ne_of_lt (Nat.lt_of_lt_of_le (Heap.lt_size e) I.ok.above))).trans e1⟩
    · obtain ⟨o', e1⟩ := I.base.there b o e hx
      exact ⟨o', (hs.2 b (Nat.ne_of_lt (Nat.lt_of_lt_of_le (Heap.lt_size e) I.ok.above))).trans e1⟩
    · by_cases hj : j = i
      · subst hj
        rw [hi] at e1; cases e1
        rw [List.getElem?_set_self hiσ] at e2
        cases e2
        exact ⟨u, r, .inl ⟨hk, by simp⟩⟩
      · rw [List.getElem?_set_ne (Ne.symm hj)] at e2
        obtain ⟨u', r', q⟩ := hl j y v' e1 e2 e3
        refine ⟨u', r', ?_⟩
        rcases q with ⟨k, e⟩ | ⟨k, c, e, z⟩
        · refine .inl ⟨k, ?_⟩
          have : y ≠ x := fun e => hj (nodup_ix hN e1 (e ▸ hi))
          simp [this, e]
        · exact .inr ⟨k, c, e, z.sameBut hs (cne y c e)⟩
    · obtain ⟨w', z⟩ := I.cell y c e
      exact ⟨w', z.sameBut hs (cne y c e)⟩
    · obtain ⟨e, n, ne, nf, d⟩ := I.pin p hp
      exact ⟨(hs.2 p.1 ne).trans e, n, ne, nf, d⟩
  · have hfn : X.fn x = true := by
      rcases hf with z | z
      · exact z
      · rw [z] at hk; cases hk
    obtain ⟨c, hc⟩ := I.ok.has x (.inl hk)
    obtain ⟨w', z⟩ := I.cell x c hc
    refine wpAny_storeName_cell I.ok.kind hk hc z (fun h' hc' hs => ?_)
    obtain ⟨oc, hoc, hocd⟩ := id z
    refine h { s with heap := h' } ⟨I.ok, I.os, I.bare, ⟨fun b o e n hb hx => ?_, fun b o e n hb hx => ?_, I.base.free, fun b o e hx => ?_, I.base.tups, I.base.frzs, I.base.tbls⟩, ⟨m, hn.sameBut hs (Ne.symm (cne x c hc)), fun j y v' e1 e2 e3 => ?_⟩, fun y c' e => ?_, I.free, I.freeC, fun p hp => ?_, tracked ⟨oc, hoc, I.freeC x c hc⟩ hs, by simpa using I.len⟩ ⟨c, hs, .inr hc⟩
    · exact (hs.2 b (Nat.ne_of_lt (Nat.lt_of_lt_of_le (Heap.lt_size e) (I.ok.cab x c hfn hc)))).trans (I.base.keep b o e n hb hx)
    · obtain ⟨sl, e1⟩ := I.base.slot b o e n hb hx
      exact ⟨sl, (hs.2 b (Nat.ne_of_lt (Nat.lt_of_lt_of_le (Heap.lt_size e) (I.ok.cab x c hfn hc)))).trans e1⟩
    · obtain ⟨o', e1⟩ := I.base.there b o e hx
      exact ⟨o', (hs.2 b (Nat.ne_of_lt (Nat.lt_of_lt_of_le (Heap.lt_size e) (I.ok.cab x c hfn hc)))).trans e1⟩
    · by_cases hj : j = i
      · subst hj
        rw [hi] at e1; cases e1
        rw [List.getElem?_set_self hiσ] at e2
        cases e2
        exact ⟨u, r, .inr ⟨.inl hk, c, hc, hc'⟩⟩
      · rw [List.getElem?_set_ne (Ne.symm hj)] at e2
        obtain ⟨u', r', q⟩ := hl j y v' e1 e2 e3
        refine ⟨u', r', ?_⟩
        rcases q with q | ⟨k, c', e, z'⟩
        · exact .inl q
        · refine .inr ⟨k, c', e, z'.sameBut hs ?_⟩
          rintro rfl
          exact hj (nodup_ix hN e1 (I.ok.inj _ _ _ e hc ▸ hi))
    · by_cases hcc : c' = c
      · subst hcc; exact ⟨_, hc'⟩
      · obtain ⟨w2, z2⟩ := I.cell y c' e
        exact ⟨w2, z2.sameBut hs hcc⟩
    · obtain ⟨e, n, ne, nf, d⟩ := I.pin p hp
      refine ⟨(hs.2 p.1 ?_).trans e, n, ne, nf, d⟩
      intro q
      rw [q, hoc] at e
      have q' : oc = p.2 := Option.some.inj e
      exact d w' (by rw [← q']; exact hocd)
theorem store_ok {M : Model} {A : Around} {E : Value → Shared → Prop} {i : Nat} {x : Str} {v : V} {u : Value} {Q : Unit → Shared → Prop} (I : Inv X pins σ H s) (hN : X.N.Nodup) (hi : X.N[i]? = some x) (hx : Loc X.env.scope x) (r : RelV v u)
    (h : ∀ s', Inv X pins (σ.set i (some v)) H s' → Q () s') (hf : X.fn x = true ∨ X.env.scope.names.lookup x = some .local := by first | exact .inl rfl | exact .inr rfl | assumption) : wpAny M A (storeName X.env x u) Q E s :=
  store_ok2 I hN hi hx r (fun s' I' _ => h s' I') hf
theorem Inv.call' {s' : Shared} {ch : List Addr} (I : Inv X pins σ H s) (ho : s'.os = s.os) (u : Un (frs X.stack) ch H H' s.heap s'.heap) (hok : HOk X.prog X.w H' s'.heap) (hg : AllBare s'.gens)
    (hch : ∀ b ∈ ch, (b ∈ X.ex ∨ X.s_0.heap.objs.size ≤ b) ∧ b ≠ X.env.locals ∧ (∀ x c, X.env.cells.lookup x = some c → c ≠ b) ∧ ∀ p ∈ X.pn ++ pins, p.1 ≠ b) : Inv X pins σ H' s' := by
  obtain ⟨h', g', d', t', o'⟩ := s'
  have e : o' = s.os := ho
  subst e
  exact I.call (g' := g') (t' := t') (d' := d') u hok hg hch
end
abbrev XK := Value → Option Addr → Hp → Prop
abbrev St := List (Option V)
abbrev VK := V → Hp → Prop
abbrev TE := St → Hp → VK → Prop
abbrev TT := St → Hp → (Bool → Hp → Prop) → Prop
abbrev TA := St → Hp → (List V → Hp → Prop) → Prop
structure Ends where
  nx : St → Hp → Prop
  rt : VK
  bk : St → Hp → Prop := fun _ _ => False
  ct : St → Hp → Prop := fun _ _ => False
abbrev TS := Ends → St → Hp → Prop
def EP (X : Cx) (pins : List (Addr × Obj)) (σ : St) (Q : VK) (u : Value) (s' : Shared) : Prop := ∃ v H', Inv X pins σ H' s' ∧ RelV v u ∧ Q v H'
def TP (X : Cx) (pins : List (Addr × Obj)) (σ : St) (Q : Bool → Hp → Prop) (b : Bool) (s' : Shared) : Prop := ∃ H', Inv X pins σ H' s' ∧ Q b H'
def AP (X : Cx) (pins : List (Addr × Obj)) (σ : St) (Q : List V → Hp → Prop) (us : List Value) (s' : Shared) : Prop := ∃ vs H', Inv X pins σ H' s' ∧ Vals vs us ∧ Q vs H'
def SP (X : Cx) (pins : List (Addr × Obj)) (D : Ends) (f : Flow) (s' : Shared) : Prop :=
  match f with
  | .next => ∃ σ' H', Inv X pins σ' H' s' ∧ D.nx σ' H'
  | .brk => ∃ σ' H', Inv X pins σ' H' s' ∧ D.bk σ' H'
  | .cont => ∃ σ' H', Inv X pins σ' H' s' ∧ D.ct σ' H'
  | .ret u => ∃ v σ' H', Inv X pins σ' H' s' ∧ RelV v u ∧ D.rt v H'
def PE (X : Cx) (e : Expr) (t : TE) : Prop :=
  ∀ (pins : List (Addr × Obj)) (s : Shared) (σ : St) (H : Hp) (Q : VK), Inv X pins σ H s → t σ H Q → wpAny (model X.prog X.w) X.A (eval e X.env) (EP X pins σ Q) X.xe s
def PT (X : Cx) (e : Expr) (t : TT) : Prop :=
  ∀ (pins : List (Addr × Obj)) (s : Shared) (σ : St) (H : Hp) (Q : Bool → Hp → Prop), Inv X pins σ H s → t σ H Q → wpAny (model X.prog X.w) X.A (isTrue e X.env (eval e X.env)) (TP X pins σ Q) X.xe s
def PW (X : Cx) (e : Expr) (t : TT) : Prop :=
  ∀ (whole : Sem Value) (pins : List (Addr × Obj)) (s : Shared) (σ : St) (H : Hp) (Q : Bool → Hp → Prop), Inv X pins σ H s → t σ H Q → wpAny (model X.prog X.w) X.A (isTrue e X.env whole) (TP X pins σ Q) X.xe s
theorem PW.pt {X : Cx} {e : Expr} {t : TT} (h : PW X e t) : PT X e t := h _
def PA (X : Cx) (es : List Expr) (t : TA) : Prop :=
  ∀ (pos : Pos) (pins : List (Addr × Obj)) (s : Shared) (σ : St) (H : Hp) (Q : List V → Hp → Prop), Inv X pins σ H s → t σ H Q → wpAny (model X.prog X.w) X.A (spliced (backTo pos (starEach es X.env))) (AP X pins σ Q) X.xe s
def PS (X : Cx) (st : Stmt) (t : TS) : Prop :=
  ∀ (pins : List (Addr × Obj)) (s : Shared) (σ : St) (H : Hp) (D : Ends), Inv X pins σ H s → t D σ H → wpAny (model X.prog X.w) X.A (exec st X.env) (SP X pins D) X.xe s
def PSs (X : Cx) (st : List Stmt) (t : TS) : Prop :=
  ∀ (pins : List (Addr × Obj)) (s : Shared) (σ : St) (H : Hp) (D : Ends), Inv X pins σ H s → t D σ H → wpAny (model X.prog X.w) X.A (execs st X.env) (SP X pins D) X.xe s
theorem thn {α : Type} {t : Sem α} {Q Q' : α → Shared → Prop} {M : Model} {A : Around} {E : Value → Shared → Prop} {s : Shared} (h : wpAny M A t Q E s) (hQ : ∀ a s, Q a s → Q' a s) : wpAny M A t Q' E s := wpAny_mono h hQ fun _ _ x => x
end L2
namespace L2
open PySem PySem.Spec PyProof.Rows
section
variable {X : Cx}
def tVar (i : Nat) : TE := fun σ H Q => ∃ v, σ[i]? = some (some v) ∧ Q v H
def tC (v : V) : TE := fun _ H Q => Q v H
theorem pe_var {i : Nat} {x : Str} {pos : Pos} (hN : X.N[i]? = some x) (hv : Vis X.env.scope x) (hd : (x == ("__debug__" : Str)) = false := by decide) (hcd : (x == ("__classdict__" : Str)) = false := by decide) : PE X (.Name x pos) (tVar i) := by
  intro pins s σ H Q I h
  obtain ⟨v, e, h⟩ := h
  obtain ⟨m, hn, hl⟩ := I.loc
  obtain ⟨u, r, l⟩ := hl i x v hN e hv
  have fin : EP X pins σ Q u s := ⟨v, H, I, r, h⟩
  rcases l with ⟨hk, hm⟩ | ⟨hk, c, hc, hcell⟩
  · exact wpAny_Name (wpAny_loadName_local I.ok.kind hk hn hm fin) hd
  · rcases hk with hk | hk
    · exact wpAny_Name (wpAny_loadName_cell I.ok.kind hk hc hcell fin) hd
    · exact wpAny_Name (wpAny_loadName_free I.ok.kind hk hc hcell fin hcd) hd
theorem pe_int {i j pos} : PE X (.Constant (.int i) j pos) (tC (.int i)) := fun _ _ _ H _ I h => wpAny_Constant_int ⟨.int i, H, I.tok _, ⟨_, rfl⟩, h⟩
theorem pe_bl {b j pos} : PE X (.Constant (.bool b) j pos) (tC (.bl b)) := fun _ _ _ H _ I h => Constant_bool ⟨.bl b, H, I, rfl, h⟩
theorem pe_non {j pos} : PE X (.Constant .none j pos) (tC .non) := fun _ _ _ H _ I h => Constant_none ⟨.non, H, I, rfl, h⟩
def Gl (X : Cx) (x : Str) : Prop := X.env.kindOf x = some .globalImplicit
theorem ld_glob {E : Value → Shared → Prop} {pins : List (Addr × Obj)} {s : Shared} {σ : St} {H : Hp} {x : Str} {u : Value} {pos : Pos} {Q : Value → Shared → Prop} (I : Inv X pins σ H s) (hg : Gl X x) (hm : X.mg x = some u) (h : Q u s)
    (hd : (x == ("__debug__" : Str)) = false := by decide) : wpAny (model X.prog X.w) X.A (eval (.Name x pos) X.env) Q E s :=
  Calls.Name_function_global I.ok.kind hg (Calls.loadGlobal_global (by rw [I.ok.glob]; exact I.mod.glob.keeps I.bk) hm h) hd
theorem ld_blt {E : Value → Shared → Prop} {pins : List (Addr × Obj)} {s : Shared} {σ : St} {H : Hp} {x : Str} {u : Value} {pos : Pos} {Q : Value → Shared → Prop} (I : Inv X pins σ H s) (hg : Gl X x) (hm : X.mg x = none) (hv : bootBuiltins x = some u) (h : Q u s)
    (hn : x ≠ "__name__" := by decide) (hd : (x == ("__debug__" : Str)) = false := by decide) : wpAny (model X.prog X.w) X.A (eval (.Name x pos) X.env) Q E s := by
  obtain ⟨mb, h1, h2⟩ := I.mod.blt
  exact Calls.Name_function_global I.ok.kind hg (Calls.loadGlobal_builtin (by rw [I.ok.glob]; exact I.mod.glob.keeps I.bk) hm (by rw [I.ok.blt]; exact h1.keeps I.bk) ((h2 x hn).trans hv) h) hd
theorem pe_glob {x : Str} {v : V} {u : Value} {pos : Pos} (hg : Gl X x) (hm : X.mg x = some u) (r : RelV v u) (hd : (x == ("__debug__" : Str)) = false := by decide) : PE X (.Name x pos) (tC v) :=
  fun _ _ _ H _ I h => ld_glob I hg hm ⟨v, H, I, r, h⟩ hd
variable {a b : Expr} {ta tb : TE} {pos : Pos}
def tB (t : TE) : TT := fun σ H Q => t σ H fun x H1 => ∃ c, x = .bl c ∧ Q c H1
theorem pt_val {e : Expr} {t : TE} (h : PE X e t) (he : ∀ whole, isTrue e X.env whole = (do let v ← whole; standAt e.pos; holding [v] (truthy v)) := by intro _; rfl) : PT X e (tB t) := by
  intro pins s σ H Q I hw
  refine isTrue_plain (thn (h pins s σ H _ I hw) fun v s1 ⟨x, H1, I1, r1, q1⟩ => ?_) (he _)
  obtain ⟨d, rfl, q⟩ := q1
  cases r1
  exact wpAny_truthy_bool ⟨H1, I1, q⟩
variable {tA tB' : TT} {rest : List Expr}
def tAnd (t u : TT) : TT := fun σ H Q => t σ H fun c H1 => if c = true then u σ H1 Q else Q false H1
def tOr (t u : TT) : TT := fun σ H Q => t σ H fun c H1 => if c = true then Q true H1 else u σ H1 Q
def tNot (t : TT) : TT := fun σ H Q => t σ H fun c H1 => Q (!c) H1
theorem pw_and1 (ha : PT X a tA) : PW X (.BoolOp .And [a] pos) tA := by
  intro wh pins s σ H Q I h
  refine isTrue_and (thn (ha pins s σ H Q I h) fun c s1 e => ?_)
  cases c with
  | true => exact isTrue_and_nil e
  | false => exact e
theorem pw_or1 (ha : PT X a tA) : PW X (.BoolOp .Or [a] pos) tA := by
  intro wh pins s σ H Q I h
  refine isTrue_or (thn (ha pins s σ H Q I h) fun c s1 e => ?_)
  cases c with
  | false => exact isTrue_or_nil e
  | true => exact e
theorem pw_and (ha : PT X a tA) (hb : PW X (.BoolOp .And (b :: rest) pos) tB') : PW X (.BoolOp .And (a :: b :: rest) pos) (tAnd tA tB') := by
  intro wh pins s σ H Q I h
  refine isTrue_and (thn (ha pins s σ H _ I h) fun c s1 ⟨H1, I1, q1⟩ => ?_)
  cases c with
  | true => exact hb wh pins s1 σ H1 Q I1 q1
  | false => exact ⟨H1, I1, q1⟩
theorem pw_or (ha : PT X a tA) (hb : PW X (.BoolOp .Or (b :: rest) pos) tB') : PW X (.BoolOp .Or (a :: b :: rest) pos) (tOr tA tB') := by
  intro wh pins s σ H Q I h
  refine isTrue_or (thn (ha pins s σ H _ I h) fun c s1 ⟨H1, I1, q1⟩ => ?_)
  cases c with
  | true => exact ⟨H1, I1, q1⟩
  | false => exact hb wh pins s1 σ H1 Q I1 q1
theorem pt_not (ha : PT X a tA) : PT X (.UnaryOp .Not a pos) (tNot tA) := by
  intro pins s σ H Q I h
  exact isTrue_not (ha pins s σ H (fun c H1 => Q (!c) H1) I h)
def tAndV (ta tb : TE) : TE := fun σ H Q => ta σ H fun x H1 => ∃ c, x = .bl c ∧ if c = true then tb σ H1 Q else Q (.bl false) H1
def tOrV (ta tb : TE) : TE := fun σ H Q => ta σ H fun x H1 => ∃ c, x = .bl c ∧ if c = true then Q (.bl true) H1 else tb σ H1 Q
def tNotV (ta : TE) : TE := fun σ H Q => ta σ H fun x H1 => ∃ c, x = .bl c ∧ Q (.bl (!c)) H1
theorem pe_one {op} {t : TE} (h : PE X a t) : PE X (.BoolOp op [a] pos) t := fun pins s σ H Q I hw => BoolOp_one (h pins s σ H Q I hw)
theorem pe_and (ha : PE X a ta) (hb : PE X (.BoolOp .And (b :: rest) pos) tb) : PE X (.BoolOp .And (a :: b :: rest) pos) (tAndV ta tb) := by
  intro pins s σ H Q I h
  refine BoolOp_and (thn (ha pins s σ H _ I h) fun v s1 ⟨x, H1, I1, r1, q1⟩ => ?_)
  obtain ⟨c, rfl, q1⟩ := q1
  cases r1
  refine wpAny_truthy_bool ?_
  cases c with
  | true => exact hb pins s1 σ H1 Q I1 q1
  | false => exact ⟨.bl false, H1, I1, rfl, q1⟩
theorem pe_or (ha : PE X a ta) (hb : PE X (.BoolOp .Or (b :: rest) pos) tb) : PE X (.BoolOp .Or (a :: b :: rest) pos) (tOrV ta tb) := by
  intro pins s σ H Q I h
  refine BoolOp_or (thn (ha pins s σ H _ I h) fun v s1 ⟨x, H1, I1, r1, q1⟩ => ?_)
  obtain ⟨c, rfl, q1⟩ := q1
  cases r1
  refine wpAny_truthy_bool ?_
  cases c with
  | false => exact hb pins s1 σ H1 Q I1 q1
  | true => exact ⟨.bl true, H1, I1, rfl, q1⟩
def tIf (t : TT) (ta tb : TE) : TE := fun σ H Q => t σ H fun c H1 => if c = true then ta σ H1 Q else tb σ H1 Q
theorem pe_ifExp {c : Expr} (hc : PT X c tA) (ha : PE X a ta) (hb : PE X b tb) : PE X (.IfExp c a b pos) (tIf tA ta tb) := by
  intro pins s σ H Q I h
  refine wpAny_IfExp (thn (hc pins s σ H _ I h) fun d s1 ⟨H1, I1, q1⟩ => ?_)
  cases d with
  | true => exact ha pins s1 σ H1 Q I1 q1
  | false => exact hb pins s1 σ H1 Q I1 q1
end
end L2
namespace L2
open PySem PySem.Spec PyProof.Rows
def SqL (K : PySem.W.Frag) (H : Hp) (a : Addr) (xs : List V) : Prop :=
  Rd H a (.lst xs) ∨
    ∃ (o : Obj) (its : Array Value) (n : Nat), K.lookup a = some o ∧ o.cls = .type "list" ∧ o.dict = none ∧ o.data = .seq its n ∧ its.size ≤ sizeLine ∧ Vals xs its.toList
def SqT (K : PySem.W.Frag) (H : Hp) (a : Addr) (xs : List V) : Prop :=
  Rd H a (.tup xs) ∨
    ∃ (o : Obj) (its : Array Value) (n : Nat), K.lookup a = some o ∧ o.cls = .type "tuple" ∧ o.data = .seq its n ∧ its.size ≤ sizeLine ∧ Vals xs its.toList
def absV : Value → Option V
  | .none => some .non
  | .bool b => some (.bl b)
  | .int i _ => some (.int i)
  | .str x _ => some (.str x)
  | .bytes b _ => some (.byt b)
  | .float b _ => some (.flt b)
  | .ref a => some (.ref a)
  | .type n => some (.ty n)
  | _ => none
theorem RelV.abs {x : V} {u : Value} (r : RelV x u) : absV u = some x := by
  cases x with
  | non => cases r; rfl
  | bl _ => cases r; rfl
  | int _ => obtain ⟨t, rfl⟩ := r; rfl
  | str _ => obtain ⟨t, rfl⟩ := r; rfl
  | byt _ => obtain ⟨t, rfl⟩ := r; rfl
  | flt _ => obtain ⟨t, rfl⟩ := r; rfl
  | ref _ => cases r; rfl
  | ty _ => cases r; rfl
theorem RelV.inj {x y : V} {u : Value} (r : RelV x u) (q : RelV y u) : x = y := Option.some.inj (r.abs.symm.trans q.abs)
theorem Vals.inj : ∀ {xs ys : List V} {us : List Value}, Vals xs us → Vals ys us → xs = ys
  | _, _, _, .nil, .nil => rfl
  | _, _, _, .cons r t, .cons r' t' => by rw [r.inj r', Vals.inj t t']
section
variable {X : Cx} {pins : List (Addr × Obj)} {σ : St} {H : Hp} {s : Shared} {a : Addr} {xs ys : List V}
theorem SqL.of {K : PySem.W.Frag} (h : H a = some (.lst xs)) : SqL K H a xs := .inl (.inl h)
theorem SqT.of {K : PySem.W.Frag} (h : H a = some (.tup xs)) : SqT K H a xs := .inl (.inl h)
theorem Inv.list (I : Inv X pins σ H s) (h : SqL X.K H a xs) : ∃ its : List Value, Vals xs its ∧ PlainL s.heap a its.toArray ∧ xs.length ≤ sizeLine := by
  rcases h with h | ⟨o, its, n, hk, hc, hd, hs, hz, r⟩
  · obtain ⟨z, its, n, r, e⟩ := h.ok I.hok
    exact ⟨its, r, ⟨_, n, e, rfl, rfl, rfl⟩, z⟩
  · refine ⟨its.toList, r, ⟨o, n, I.kIn a o hk, hc, hd, by simpa using hs⟩, ?_⟩
    have e := r.length
    simp only [Array.length_toList] at e
    omega
theorem Inv.tuple (I : Inv X pins σ H s) (h : SqT X.K H a xs) : ∃ its : List Value, Vals xs its ∧ IsTup s.heap a its.toArray ∧ xs.length ≤ sizeLine := by
  rcases h with h | ⟨o, its, n, hk, hc, hs, hz, r⟩
  · obtain ⟨z, its, r, p⟩ := h.ok I.hok
    exact ⟨its, r, p, z⟩
  · refine ⟨its.toList, r, ⟨o, I.kIn a o hk, hc, n, by simpa using hs⟩, ?_⟩
    have e := r.length
    simp only [Array.length_toList] at e
    omega
theorem Inv.list_inj (I : Inv X pins σ H s) (h : SqL X.K H a xs) (h' : SqL X.K H a ys) : xs = ys := by
  obtain ⟨its, r, ⟨o, n, e, _, _, d⟩, _⟩ := I.list h
  obtain ⟨its', r', ⟨o', n', e', _, _, d'⟩, _⟩ := I.list h'
  rw [e] at e'; cases e'
  rw [d] at d'
  injection d' with d1 _
  have : its = its' := by simpa using congrArg Array.toList d1
  subst this
  exact r.inj r'
theorem Inv.tuple_inj (I : Inv X pins σ H s) (h : SqT X.K H a xs) (h' : SqT X.K H a ys) : xs = ys := by
  obtain ⟨its, r, ⟨o, e, _, n, d⟩, _⟩ := I.tuple h
  obtain ⟨its', r', ⟨o', e', _, n', d'⟩, _⟩ := I.tuple h'
  rw [e] at e'; cases e'
  rw [d] at d'
  injection d' with d1 _
  have : its = its' := by simpa using congrArg Array.toList d1
  subst this
  exact r.inj r'
end
abbrev Cx.wish (X : Cx) (E : Value → Shared → Prop) : Cx := { X with xe := E }
abbrev Cx.nox (X : Cx) : Cx := X.wish fun _ _ => False
theorem Cx.Ok.wish {X : Cx} (ok : X.Ok) (E : Value → Shared → Prop) : (X.wish E).Ok :=
  ⟨ok.mod, ok.kind, ok.glob, ok.blt, ok.above, ok.inj, ok.has, ok.cab, ok.hd, ok.frames, ok.stk, ok.exf, ok.bs, ok.bsz, ok.noex, ok.exfs, ok.funs, ok.frf⟩
theorem Cx.Ok.unwish {X : Cx} {E : Value → Shared → Prop} (ok : (X.wish E).Ok) : X.Ok :=
  ⟨ok.mod, ok.kind, ok.glob, ok.blt, ok.above, ok.inj, ok.has, ok.cab, ok.hd, ok.frames, ok.stk, ok.exf, ok.bs, ok.bsz, ok.noex, ok.exfs, ok.funs, ok.frf⟩
section
variable {X : Cx} {pins : List (Addr × Obj)} {σ : St} {H : Hp} {s : Shared} {E : Value → Shared → Prop}
theorem Inv.wish (I : Inv X pins σ H s) (E : Value → Shared → Prop) : Inv (X.wish E) pins σ H s := ⟨I.ok.wish E, I.os, I.bare, I.base, I.loc, I.cell, I.free, I.freeC, I.pin, I.hok, I.len⟩
theorem Inv.unwish (I : Inv (X.wish E) pins σ H s) : Inv X pins σ H s := ⟨I.ok.unwish, I.os, I.bare, I.base, I.loc, I.cell, I.free, I.freeC, I.pin, I.hok, I.len⟩
theorem SP.unwish {D : Ends} {f : Flow} {s' : Shared} (h : SP (X.wish E) pins D f s') : SP X pins D f s' := by
  cases f with
  | next => obtain ⟨σ', H', I, q⟩ := h; exact ⟨σ', H', I.unwish, q⟩
  | brk => obtain ⟨σ', H', I, q⟩ := h; exact ⟨σ', H', I.unwish, q⟩
  | cont => obtain ⟨σ', H', I, q⟩ := h; exact ⟨σ', H', I.unwish, q⟩
  | ret u => obtain ⟨v, σ', H', I, r, q⟩ := h; exact ⟨v, σ', H', I.unwish, r, q⟩
theorem PSs.nox {st : List Stmt} {t : TS} (h : PSs X.nox st t) : PSs X st t := fun pins s σ H D I hw =>
  wpAny_mono (h pins s σ H D (I.wish _) hw) (fun _ _ q => q.unwish) fun _ _ z => False.elim z
end
section
variable {X : Cx} {st : Stmt} {rest : List Stmt} {t u : TS} {e : Expr} {te : TE} {pos : Pos}
def tNext : TS := fun D σ H => D.nx σ H
def tSeq (t u : TS) : TS := fun D σ H => t { D with nx := u D } σ H
theorem pss_nil : PSs X [] tNext := fun _ _ σ H _ I h => wpAny_execs_nil ⟨σ, H, I, h⟩
theorem pss_cons (h1 : PS X st t) (h2 : PSs X rest u) : PSs X (st :: rest) (tSeq t u) := by
  intro pins s σ H D I h
  refine wpAny_execs_cons (thn (h1 pins s σ H { D with nx := u D } I h) fun f s1 q => ?_)
  cases f with
  | next =>
    obtain ⟨σ', H', I', q⟩ := q
    exact h2 pins s1 σ' H' D I' q
  | ret v => exact q
  | brk => exact q
  | cont => exact q
theorem pss_one (h1 : PS X st t) : PSs X [st] t := by
  intro pins s σ H D I h
  refine wpAny_execs_cons (thn (h1 pins s σ H D I h) fun f s1 q => ?_)
  cases f with
  | next => exact wpAny_execs_nil q
  | ret v => exact q
  | brk => exact q
  | cont => exact q
theorem Inv.quiet {pins : List (Addr × Obj)} {σ : St} {H : Hp} {s : Shared} (I : Inv X pins σ H s) : interactive X.env = false := by simp [interactive, I.ok.kind]
def tDrop (te : TE) : TS := fun D σ H => te σ H fun _ H1 => D.nx σ H1
theorem ps_expr (he : PE X e te) (hs : swapsWith e none pos.line X.env = pure false := by rfl) : PS X (.Expr e pos) (tDrop te) := by
  intro pins s σ H D I h
  exact wpAny_Expr_any (thn (he pins s σ H _ I h) fun v s1 ⟨x, H1, I1, r1, q1⟩ => ⟨σ, H1, I1, q1⟩) I.quiet hs
def tRet (te : TE) : TS := fun D σ H => te σ H D.rt
theorem ps_ret (he : PE X e te) : PS X (.Return (some e) pos) (tRet te) := by
  intro pins s σ H D I h
  exact wpAny_Return_some (thn (he pins s σ H _ I h) fun v s1 ⟨x, H1, I1, r1, q1⟩ => ⟨x, σ, H1, I1, r1, q1⟩)
def tRetN : TS := fun D _ H => D.rt .non H
theorem ps_retN : PS X (.Return none pos) tRetN := fun _ _ σ H _ I h => wpAny_Return_none ⟨.non, σ, H, I, rfl, h⟩
def tIfS (c : TT) (t u : TS) : TS := fun D σ H => c σ H fun b H1 => if b = true then t D σ H1 else u D σ H1
theorem ps_if {c : Expr} {a b : List Stmt} {tc : TT} (hc : PT X c tc) (ha : PSs X a t) (hb : PSs X b u) : PS X (.If c a b pos) (tIfS tc t u) := by
  intro pins s σ H D I h
  refine wpAny_If (thn (hc pins s σ H _ I h) fun d s1 ⟨H1, I1, q1⟩ => ?_)
  cases d with
  | true => exact ha pins s1 σ H1 D I1 q1
  | false => exact hb pins s1 σ H1 D I1 q1
def tNever : TS := fun _ _ _ => False
theorem ps_never : PS X st tNever := fun _ _ _ _ _ _ h => h.elim
end
abbrev TG := V → St → Hp → (St → Hp → Prop) → Prop
abbrev TGs := List V → St → Hp → (St → Hp → Prop) → Prop
def PG (X : Cx) (target : Expr) (t : TG) : Prop :=
  ∀ (pins : List (Addr × Obj)) (s : Shared) (σ : St) (H : Hp) (v : V) (u : Value) (Q : St → Hp → Prop), Inv X pins σ H s → RelV v u → t v σ H Q →
    wpAny (model X.prog X.w) X.A (assign target X.env u) (fun _ s' => ∃ σ' H', Inv X pins σ' H' s' ∧ Q σ' H') X.xe s
def PGs (X : Cx) (ts : List Expr) (t : TGs) : Prop :=
  ∀ (pins : List (Addr × Obj)) (s : Shared) (σ : St) (H : Hp) (vs : List V) (us : List Value) (Q : St → Hp → Prop), Inv X pins σ H s → Vals vs us → t vs σ H Q →
    wpAny (model X.prog X.w) X.A (assignInOrder ((assignEach ts X.env).map (·.2)) us) (fun _ s' => ∃ σ' H', Inv X pins σ' H' s' ∧ Q σ' H') X.xe s
abbrev TIp := V → V → Hp → VK → Prop
def PIp (X : Cx) (op : Operator) (t : TIp) : Prop :=
  ∀ (pins : List (Addr × Obj)) (s : Shared) (σ : St) (H : Hp) (x y : V) (v u : Value) (Q : VK), Inv X pins σ H s → RelV x v → RelV y u → t x y H Q →
    wpAny (model X.prog X.w) X.A (inplaceOp op v u) (EP X pins σ Q) X.xe s
section
variable {X : Cx} {pos : Pos}
def gName (i : Nat) : TG := fun v σ H Q => Q (σ.set i (some v)) H
theorem pg_name {i : Nat} {x : Str} (hN : X.N.Nodup) (hi : X.N[i]? = some x) (hx : Loc X.env.scope x) (hf : X.fn x = true ∨ X.env.scope.names.lookup x = some .local := by first | exact .inl rfl | exact .inr rfl | assumption) : PG X (.Name x pos) (gName i) := by
  intro pins s σ H v u Q I r h
  exact wpAny_assign_Name (store_ok I hN hi hx r (fun s' I' => ⟨_, H, I', h⟩) hf)
def gNil : TGs := fun vs σ H Q => vs = [] ∧ Q σ H
def gCons (t : TG) (u : TGs) : TGs := fun vs σ H Q => ∃ v r, vs = v :: r ∧ t v σ H fun σ' H' => u r σ' H' Q
theorem pgs_nil : PGs X [] gNil := by
  intro pins s σ H vs us Q I r h
  obtain ⟨e, h⟩ := h
  subst e
  cases r
  exact assignInOrder_nil ⟨σ, H, I, h⟩
theorem pgs_cons {e : Expr} {es : List Expr} {t : TG} {u : TGs} (h1 : PG X e t) (h2 : PGs X es u)
    (hs : (assignEach (e :: es) X.env).map (·.2) = assign e X.env :: (assignEach es X.env).map (·.2) := by rfl) : PGs X (e :: es) (gCons t u) := by
  intro pins s σ H vs us Q I r h
  obtain ⟨v, vr, e1, h⟩ := h
  subst e1
  cases r with
  | cons r rr =>
    rw [hs]
    refine assignInOrder_cons (thn (h1 pins s σ H _ _ _ I r h) fun _ s1 ⟨σ1, H1, I1, q1⟩ => ?_)
    exact h2 pins s1 σ1 H1 _ _ Q I1 rr q1
def gTup (K : PySem.W.Frag) (n : Nat) (t : TGs) : TG := fun v σ H Q => ∃ a xs, v = .ref a ∧ SqT K H a xs ∧ xs.length = n ∧ t xs σ H Q
theorem pg_tup {es : List Expr} {k : Nat} {t : TGs} {n : Nat} (hc : X.calm = true) (h : PGs X es t)
    (hn : (assignEach es X.env).length = n := by rfl) (hst : (assignEach es X.env).findIdx? (·.1) = none := by rfl) : PG X (.Tuple es k pos) (gTup X.K n t) := by
  intro pins s σ H v u Q I r hw
  obtain ⟨a, xs, e1, hq, hl, hw⟩ := hw
  subst e1
  cases r
  obtain ⟨its, rv, ht, hz⟩ := I.tuple hq
  refine assign_Tuple_tuple (I.ok.hd hc) ht (by simp [hn, ← hl, rv.length]) hst fun h' hx => ?_
  have I1 : Inv X pins σ H { s with heap := h' } := I.kept (t' := s.toks) fun b o e => hx b o (Nat.ne_of_lt (Heap.lt_size e)) e
  exact h pins _ σ H xs _ Q I1 (by simpa using rv) hw
def tAsg (te : TE) (g : TG) : TS := fun D σ H => te σ H fun x H1 => g x σ H1 D.nx
theorem ps_set {i : Nat} {x : Str} {e : Expr} {te : TE} {pos' : Pos} (hN : X.N.Nodup) (hi : X.N[i]? = some x) (hx : Loc X.env.scope x) (he : PE X e te) (hs : swapsWith e (some (.Name x pos')) pos.line X.env = pure false := by rfl) (hf : X.fn x = true ∨ X.env.scope.names.lookup x = some .local := by first | exact .inl rfl | exact .inr rfl | assumption) :
    PS X (.Assign [.Name x pos'] e pos) (tAsg te (gName i)) := by
  intro pins s σ H D I h
  refine wpAny_Assign_Name (thn (he pins s σ H _ I h) fun v s1 ⟨y, H1, I1, r1, q1⟩ => ?_) hs
  exact store_ok I1 hN hi hx r1 (fun s2 I2 => ⟨_, H1, I2, q1⟩) hf
def tAug (i : Nat) (te : TE) (ti : TIp) : TS := fun D σ H => ∃ x, σ[i]? = some (some x) ∧ te σ H fun y H1 => ti x y H1 fun z H2 => D.nx (σ.set i (some z)) H2
theorem ps_aug {i : Nat} {x : Str} {e : Expr} {te : TE} {op : Operator} {ti : TIp} {pos' : Pos} (hN : X.N.Nodup) (hi : X.N[i]? = some x) (hx : Loc X.env.scope x) (he : PE X e te) (ho : PIp X op ti) (hf : X.fn x = true ∨ X.env.scope.names.lookup x = some .local := by first | exact .inl rfl | exact .inr rfl | assumption) :
    PS X (.AugAssign (.Name x pos') op e pos) (tAug i te ti) := by
  intro pins s σ H D I h
  obtain ⟨v, e1, h⟩ := h
  obtain ⟨m, hn, hl⟩ := I.loc
  have vis : Vis X.env.scope x := by rcases hx with k | k; exact .inl k; exact .inr (.inl k)
  obtain ⟨u, r, l⟩ := hl i x v hi e1 vis
  refine wpAny_AugAssign_Name ?_
  have go : wpAny (model X.prog X.w) X.A (eval e X.env) (fun w s₂ => wpAny (model X.prog X.w) X.A (inplaceOp op u w) (fun r s₃ => wpAny (model X.prog X.w) X.A (storeName X.env x r) (fun _ => SP X pins D .next) X.xe s₃) X.xe s₂) X.xe s := by
    refine thn (he pins s σ H _ I h) fun w s1 ⟨y, H1, I1, r1, q1⟩ => ?_
    refine thn (ho pins s1 σ H1 v y u w _ I1 r r1 q1) fun z s2 ⟨zv, H2, I2, r2, q2⟩ => ?_
    exact store_ok I2 hN hi hx r2 (fun s3 I3 => ⟨_, H2, I3, q2⟩) hf
  rcases l with ⟨hk, hm⟩ | ⟨hk, c, hc, hcell⟩
  · exact wpAny_loadName_local I.ok.kind hk hn hm go
  · rcases hk with hk | hk
    · exact wpAny_loadName_cell I.ok.kind hk hc hcell go
    · rcases hx with k | k
      · have : X.env.scope.names.lookup x = some .free := hk
        rw [k] at this; cases this
      · have : X.env.scope.names.lookup x = some .free := hk
        rw [k] at this; cases this
def ipI (f : Int → Int → Int) : TIp := fun x y H Q => ∃ i j, x = .int i ∧ y = .int j ∧ Q (.int (f i j)) H
theorem ip_add : PIp X .Add (ipI fun i j => i + j) := by
  intro pins s σ H x y v u Q I r1 r2 h
  obtain ⟨i, j, e1, e2, q⟩ := h
  subst e1; subst e2
  obtain ⟨t, rfl⟩ := r1
  obtain ⟨t', rfl⟩ := r2
  exact iadd_int ⟨.int _, H, I.tok _, ⟨_, rfl⟩, q⟩
end
section
variable {X : Cx} {pos : Pos}
def tWhile (c : TT) (tb : TS) : TS := fun D σ H => ∃ W : Nat → St → Hp → Prop, (∃ m, W m σ H) ∧ ∀ m σ H, W m σ H →
  c σ H fun b H1 => if b = true then ∃ N : St → Hp → Prop, (∀ σ' H', N σ' H' → ∃ m', m' < m ∧ W m' σ' H') ∧ tb { D with nx := N, ct := N, bk := D.nx } σ H1 else D.nx σ H1
theorem ps_while {c : Expr} {body : List Stmt} {tc : TT} {tb : TS} (hp : PassesOwn (model X.prog X.w) X.A X.env X.xe) (hc : PT X c tc) (hb : PSs X body tb) : PS X (.While c body [] pos) (tWhile tc tb) := by
  intro pins s σ H D I h
  obtain ⟨W, ⟨m0, w0⟩, turn⟩ := h
  refine wpAny_While (codeAny_whileLoop (fun n s' => ∃ σ' H', Inv X pins σ' H' s' ∧ W n σ' H') ?_ m0 ⟨σ, H, I, w0⟩)
  rintro n s1 ⟨σ1, H1, I1, w1⟩
  refine wpAny_passesOwn hp (thn (hc pins s1 σ1 H1 _ I1 (turn n σ1 H1 w1)) fun b s2 ⟨H2, I2, q2⟩ => ?_)
  cases b with
  | true =>
    obtain ⟨N, hN, q2⟩ := q2
    rw [if_pos rfl]
    refine wpAny_passesOwn hp (thn (hb pins s2 σ1 H2 _ I2 q2) fun f s3 q3 => ?_)
    cases f with
    | next =>
      obtain ⟨σ3, H3, I3, n3⟩ := q3
      obtain ⟨m', hm, w3⟩ := hN σ3 H3 n3
      exact ⟨m', hm, σ3, H3, I3, w3⟩
    | cont =>
      obtain ⟨σ3, H3, I3, n3⟩ := q3
      obtain ⟨m', hm, w3⟩ := hN σ3 H3 n3
      exact ⟨m', hm, σ3, H3, I3, w3⟩
    | brk => exact q3
    | ret v => exact q3
  | false =>
    rw [if_neg Bool.false_ne_true]
    exact wpAny_execs_nil ⟨σ1, H2, I2, q2⟩
end
structure It where
  go : Nat → Hp → Prop
  yld : Nat → Hp → V → Hp → Prop
  stop : Nat → Hp → Prop
def FpOk (X : Cx) (pins : List (Addr × Obj)) (H : Hp) (b : Addr) : Prop :=
  H b = none ∧ b ≠ X.env.locals ∧ b ∉ X.fs ∧ (b ∈ X.ex ∨ X.s_0.heap.objs.size ≤ b) ∧ (∀ x c, X.env.cells.lookup x = some c → c ≠ b) ∧ ∀ p ∈ X.pn ++ pins, p.1 ≠ b
theorem Inv.fpOk {X : Cx} {pins : List (Addr × Obj)} {σ : St} {H H' : Hp} {s : Shared} {b : Addr} (I : Inv X pins σ H s) (hb : s.heap.objs.size ≤ b) (hn : H' b = none) : FpOk X pins H' b := by
  refine ⟨hn, Nat.ne_of_gt (Nat.lt_of_lt_of_le I.lt hb), I.nofs hb, .inr (Nat.le_trans I.sz hb), fun x c e z => ?_, fun p hp z => ?_⟩
  · obtain ⟨v, q⟩ := I.cell x c e
    exact absurd (Nat.lt_of_lt_of_le q.lt (by rw [z]; exact hb)) (Nat.lt_irrefl _)
  · exact absurd (Nat.lt_of_lt_of_le (Heap.lt_size (I.pin p hp).1) (by rw [z]; exact hb)) (Nat.lt_irrefl _)
structure Turn (P : Program) (w : World) (K : PySem.W.Frag) (tg : Expr) (J : It) (fp : List Addr) (it : Addr) (tn : Nat → Heap → Prop) : Prop where
  mem : it ∈ fp
  obj : ∀ i h, tn i h → ∀ b ∈ fp, ∃ o, h.get? b = some o ∧ ∀ v, o.data ≠ .cell v
  keep : ∀ i h h', tn i h → (∀ b ∈ fp, ∀ o, h.get? b = some o → h'.get? b = some o) → tn i h'
  item : ∀ (X : Cx), X.prog = P → X.w = w → X.K = K → X.calm = true → ∀ (i : Nat) (pins : List (Addr × Obj)) (s : Shared) (σ : St) (H : Hp) (E : Value → Shared → Prop), Inv X pins σ H s → (∀ b ∈ fp, FpOk X pins H b) → tn i s.heap → J.go i H →
    wpAny (model P w) X.A (pyNext (.ref it)) (fun r s1 => ∃ u, r = some u ∧
      wpAny (model P w) X.A (letOwnedTupleGo tg (.ref it) u) (fun _ s2 => ∃ x H', Inv X pins σ H' s2 ∧ RelV x u ∧ J.yld i H x H' ∧ tn (i + 1) s2.heap ∧ ∀ b ∈ fp, H' b = none) E s1) E s
  done : ∀ (X : Cx), X.prog = P → X.w = w → X.K = K → X.calm = true → ∀ (i : Nat) (pins : List (Addr × Obj)) (s : Shared) (σ : St) (H : Hp) (E : Value → Shared → Prop), Inv X pins σ H s → (∀ b ∈ fp, FpOk X pins H b) → tn i s.heap → J.stop i H →
    wpAny (model P w) X.A (pyNext (.ref it)) (fun r s1 => r = none ∧ Inv X pins σ H s1) E s
  self : ∀ (A : Around) (i : Nat) (s : Shared) (Q : Value → Shared → Prop) (E : Value → Shared → Prop), tn i s.heap → Q (.ref it) s → wpAny (model P w) A (pyIter (.ref it)) Q E s
abbrev TI := St → Hp → (It → Hp → Prop) → Prop
def PIE (X : Cx) (pins : List (Addr × Obj)) (σ : St) (tg : Expr) (R : It → Hp → Prop) (itv : Value) (s2 : Shared) : Prop :=
  ∃ (it : Addr) (fp : List Addr) (tn : Nat → Heap → Prop) (J : It) (H' : Hp), itv = .ref it ∧ Inv X pins σ H' s2 ∧ Turn X.prog X.w X.K tg J fp it tn ∧ tn 0 s2.heap ∧ (∀ b ∈ fp, FpOk X pins H' b) ∧ R J H'
def PI (X : Cx) (tg iter : Expr) (wi : TI) : Prop :=
  ∀ (pins : List (Addr × Obj)) (s : Shared) (σ : St) (H : Hp) (R : It → Hp → Prop), Inv X pins σ H s → wi σ H R →
    wpAny (model X.prog X.w) X.A (eval iter X.env) (fun v s1 => wpAny (model X.prog X.w) X.A (pyIter v) (PIE X pins σ tg R) X.xe s1) X.xe s
theorem go_of {M : Model} {A : Around} {E : Value → Shared → Prop} {s : Shared} {tg : Expr} {it : Addr} {u : Value} {o : Obj} {n : String} {vs : Array Value} {Q : Unit → Shared → Prop} (ho : s.heap.get? it = some o) (hc : o.cls = .type n) (hd : o.data = .fields vs)
    (hn : ["enumerate", "zip", "dict_itemiterator", "dict_reverseitemiterator", "odict_iterator", "itertools.zip_longest", "itertools.pairwise"].contains n = false) (hQ : Q () s) : wpAny M A (letOwnedTupleGo tg (.ref it) u) Q E s := by
  unfold letOwnedTupleGo
  cases tg <;> first
    | exact wpAny_pure hQ
    | (cases u <;> first
        | exact wpAny_pure hQ
        | (refine wpAny_bind (wpAny_load ho ?_)
           rw [hc, hd]
           show wpAny M A (if (["enumerate", "zip", "dict_itemiterator", "dict_reverseitemiterator", "odict_iterator", "itertools.zip_longest", "itertools.pairwise"].contains n && vs[0]? == some (rawInt _)) = true then _ else _) Q E s
           rw [if_neg (by intro h; rw [hn, Bool.false_and] at h; cases h)]
           exact wpAny_pure hQ))
def Itl (K : PySem.W.Frag) (a : Addr) : It :=
  ⟨fun i H => ∃ xs x, SqL K H a xs ∧ xs[i]? = some x, fun i H x H' => H' = H ∧ ∀ xs, SqL K H a xs → xs[i]? = some x, fun i H => ∃ xs, SqL K H a xs ∧ xs.length ≤ i⟩
def Itt (K : PySem.W.Frag) (a : Addr) : It :=
  ⟨fun i H => ∃ xs x, SqT K H a xs ∧ xs[i]? = some x, fun i H x H' => H' = H ∧ ∀ xs, SqT K H a xs → xs[i]? = some x, fun i H => ∃ xs, SqT K H a xs ∧ xs.length ≤ i⟩
def Itr (lo : Int) (n : Nat) : It := ⟨fun i _ => i < n, fun i H x H' => H' = H ∧ x = .int (lo + i), fun i _ => n ≤ i⟩
theorem turn_list {P : Program} {w : World} {K : PySem.W.Frag} {tg : Expr} (a it : Addr) : Turn P w K tg (Itl K a) [it] it (fun i h => h.IsListIter it a i) where
  mem := by simp
  obj := fun i h st b hb => by
    have e : b = it := by simpa using hb
    subst e
    obtain ⟨o, e, c, d⟩ := st
    exact ⟨o, e, fun v z => by rw [d] at z; cases z⟩
  keep := fun i h h' st k => st.at fun o e => k it (by simp) o e
  item := by
    intro X hP hw hK hc i pins s σ H E I hf st hg
    subst hP hw hK
    obtain ⟨xs, x, hq, hx⟩ := hg
    obtain ⟨its, rv, p, hz⟩ := I.list hq
    obtain ⟨u, hu, ru⟩ := rv.get hx
    obtain ⟨f0, f1, f2, f3, f4, f5⟩ := hf it (by simp)
    refine wpAny_pyNext_list_item st p.isList (x := u) (by simpa using hu) fun h' st' sb => ?_
    have I1 : Inv X pins σ H { s with heap := h' } := I.turned (t' := s.toks) (fun b o hb e => (sb.2 b hb).trans e) f0 f1 f3 f4 f5
    obtain ⟨o, e, c, d⟩ := id st'
    exact ⟨u, rfl, go_of (s := { s with heap := h' }) e c d (by decide) ⟨x, H, I1, ru, ⟨rfl, fun ys hy => by rw [I.list_inj hy hq]; exact hx⟩, st', fun b hb => (hf b hb).1⟩⟩
  done := by
    intro X hP hw hK hc i pins s σ H E I hf st hg
    subst hP hw hK
    obtain ⟨xs, hq, hx⟩ := hg
    obtain ⟨its, rv, p, hz⟩ := I.list hq
    obtain ⟨f0, f1, f2, f3, f4, f5⟩ := hf it (by simp)
    have hl := rv.length
    exact wpAny_pyNext_list_end (I.ok.hd hc) st p.isList (by simp; omega) fun h' eb => ⟨rfl, I.turned (t' := s.toks) (fun b o hb e => eb b o hb e) f0 f1 f3 f4 f5⟩
  self := fun _ _ _ _ _ st h => wpAny_pyIter_listiter st h
theorem turn_tuple {P : Program} {w : World} {K : PySem.W.Frag} {tg : Expr} (a it : Addr) : Turn P w K tg (Itt K a) [it] it (fun i h => h.IsTupleIter it a i) where
  mem := by simp
  obj := fun i h st b hb => by
    have e : b = it := by simpa using hb
    subst e
    obtain ⟨o, e, c, d⟩ := st
    exact ⟨o, e, fun v z => by rw [d] at z; cases z⟩
  keep := fun i h h' st k => st.at fun o e => k it (by simp) o e
  item := by
    intro X hP hw hK hc i pins s σ H E I hf st hg
    subst hP hw hK
    obtain ⟨xs, x, hq, hx⟩ := hg
    obtain ⟨its, rv, p, hz⟩ := I.tuple hq
    obtain ⟨u, hu, ru⟩ := rv.get hx
    obtain ⟨f0, f1, f2, f3, f4, f5⟩ := hf it (by simp)
    refine wpAny_pyNext_tuple_item st (show s.heap.IsTuple a its.toArray from p) (x := u) (by simpa using hu) fun h' st' sb => ?_
    have I1 : Inv X pins σ H { s with heap := h' } := I.turned (t' := s.toks) (fun b o hb e => (sb.2 b hb).trans e) f0 f1 f3 f4 f5
    obtain ⟨o, e, c, d⟩ := id st'
    exact ⟨u, rfl, go_of (s := { s with heap := h' }) e c d (by decide) ⟨x, H, I1, ru, ⟨rfl, fun ys hy => by rw [I.tuple_inj hy hq]; exact hx⟩, st', fun b hb => (hf b hb).1⟩⟩
  done := by
    intro X hP hw hK hc i pins s σ H E I hf st hg
    subst hP hw hK
    obtain ⟨xs, hq, hx⟩ := hg
    obtain ⟨its, rv, p, hz⟩ := I.tuple hq
    obtain ⟨f0, f1, f2, f3, f4, f5⟩ := hf it (by simp)
    have hl := rv.length
    exact wpAny_pyNext_tuple_end (I.ok.hd hc) st (show s.heap.IsTuple a its.toArray from p) (by simp; omega) fun h' eb => ⟨rfl, I.turned (t' := s.toks) (fun b o hb e => eb b o hb e) f0 f1 f3 f4 f5⟩
  self := fun _ _ _ _ _ st h => wpAny_pyIter_tupleiter st h
theorem turn_range {P : Program} {w : World} {K : PySem.W.Frag} {tg : Expr} (it : Addr) (lo : Int) (n : Nat) : Turn P w K tg (Itr lo n) [it] it (fun i h => IsRangeIter h it (lo + (i : Nat) * 1) ((n : Int) - (i : Nat)) 1) where
  mem := by simp
  obj := fun i h st b hb => by
    have e : b = it := by simpa using hb
    subst e
    exact ⟨_, st, fun v z => by
      have z' : Data.fields _ = Data.cell v := z
      cases z'⟩
  keep := fun i h h' st k => k it (by simp) _ st
  item := by
    intro X hP hw hK hc i pins s σ H E I hf st hg
    subst hP hw hK
    obtain ⟨f0, f1, f2, f3, f4, f5⟩ := hf it (by simp)
    have W := Walks.range (prog := X.prog) (w := X.w) (I.ok.hd hc) it lo 1 n
    refine W.item i s _ _ hg st fun v h' tk hv st' kk => ?_
    obtain ⟨t, rfl⟩ := hv
    have I1 : Inv X pins σ H { s with heap := h', toks := tk } := I.turned (fun b o hb e => kk b o (by simpa using hb) e) f0 f1 f3 f4 f5
    refine ⟨_, rfl, go_of (s := { s with heap := h', toks := tk }) (n := "range_iterator") st' rfl rfl (by decide) ⟨.int (lo + i), H, I1, ⟨t, ?_⟩, ⟨rfl, rfl⟩, st', fun b hb => (hf b hb).1⟩⟩
    rw [Int.mul_one]
  done := by
    intro X hP hw hK hc i pins s σ H E I hf st hg
    subst hP hw hK
    obtain ⟨f0, f1, f2, f3, f4, f5⟩ := hf it (by simp)
    exact wpAny_pyNext_range_end (I.ok.hd hc) st (by have : n ≤ i := hg; omega) fun h' eb => ⟨rfl, I.turned (t' := s.toks) (fun b o hb e => eb b o hb e) f0 f1 f3 f4 f5⟩
  self := fun _ _ _ _ _ st h => wpAny_pyIter_rangeiter st h
end L2
namespace L2
open PySem PySem.Spec PyProof.Rows
section
variable {X : Cx} {tg : Expr}
def iList (K : PySem.W.Frag) (tl : TE) : TI := fun σ H R => tl σ H fun x H1 => ∃ a, x = .ref a ∧ (∃ xs, SqL K H1 a xs) ∧ R (Itl K a) H1
def iTup (K : PySem.W.Frag) (tl : TE) : TI := fun σ H R => tl σ H fun x H1 => ∃ a, x = .ref a ∧ (∃ xs, SqT K H1 a xs) ∧ R (Itt K a) H1
theorem pi_list {l : Expr} {tl : TE} (hl : PE X l tl) : PI X tg l (iList X.K tl) := by
  intro pins s σ H R I h
  refine thn (hl pins s σ H _ I h) fun v s1 ⟨x, H1, I1, r1, q1⟩ => ?_
  obtain ⟨a, e, ⟨xs, hq⟩, q⟩ := q1
  subst e
  cases r1
  obtain ⟨its, rv, p, hz⟩ := I1.list hq
  refine wpAny_pyIter_list p.isList ?_
  refine ⟨s1.heap.objs.size, [s1.heap.objs.size], _, _, H1, rfl, I1.kept (t' := s1.toks) fun b o e => Heap.get?_push_of_some _ e, turn_list a _, ⟨_, Heap.get?_push_size _ rfl, rfl, rfl⟩, fun b hb => ?_, q⟩
  have e : b = s1.heap.objs.size := by simpa using hb
  subst e
  exact I1.fpOk (Nat.le_refl _) (I1.hok.fresh (Nat.le_refl _))
theorem pi_tup {l : Expr} {tl : TE} (hl : PE X l tl) : PI X tg l (iTup X.K tl) := by
  intro pins s σ H R I h
  refine thn (hl pins s σ H _ I h) fun v s1 ⟨x, H1, I1, r1, q1⟩ => ?_
  obtain ⟨a, e, ⟨xs, hq⟩, q⟩ := q1
  subst e
  cases r1
  obtain ⟨its, rv, p, hz⟩ := I1.tuple hq
  refine wpAny_pyIter_tuple (show s1.heap.IsTuple a its.toArray from p) ?_
  refine ⟨s1.heap.objs.size, [s1.heap.objs.size], _, _, H1, rfl, I1.kept (t' := s1.toks) fun b o e => Heap.get?_push_of_some _ e, turn_tuple a _, ⟨_, Heap.get?_push_size _ rfl, rfl, rfl⟩, fun b hb => ?_, q⟩
  have e : b = s1.heap.objs.size := by simpa using hb
  subst e
  exact I1.fpOk (Nat.le_refl _) (I1.hok.fresh (Nat.le_refl _))
theorem range_it {pins : List (Addr × Obj)} {σ : St} {H : Hp} {s : Shared} {R : It → Hp → Prop} {E : Value → Shared → Prop} {lo hi : Int} {t u v : Tok} {tk : Nat} (I : Inv X pins σ H s) (h1 : -(2 ^ 62) ≤ lo) (h2 : lo < 2 ^ 62) (h3 : -(2 ^ 62) ≤ hi) (h4 : hi < 2 ^ 62)
    (q : R (Itr lo (hi - lo).toNat) H) : wpAny (model X.prog X.w) X.A (pyIter (.ref s.heap.objs.size)) (PIE X pins σ tg R) E { s with heap := s.heap.push { cls := .type "range", data := .fields #[.int lo t, .int hi u, .int 1 v] }, toks := tk } := by
  refine wpAny_pyIter_range (IsRange.new ..) (small_one h1 h2 h3 h4) ?_
  have I1 : Inv X pins σ H { s with heap := s.heap.push { cls := .type "range", data := .fields #[.int lo t, .int hi u, .int 1 v] }, toks := tk } := I.kept fun b o e => Heap.get?_push_of_some _ e
  refine ⟨(s.heap.push { cls := .type "range", data := .fields #[.int lo t, .int hi u, .int 1 v] }).objs.size, [(s.heap.push { cls := .type "range", data := .fields #[.int lo t, .int hi u, .int 1 v] }).objs.size], _, _, H, rfl,
    I1.kept (t' := tk) fun b o e => Heap.get?_push_of_some _ e, turn_range _ lo (hi - lo).toNat, ?_, fun b hb => ?_, q⟩
  · have e1 : lo + ((0 : Nat) : Int) * 1 = lo := by simp
    have e2 : (((hi - lo).toNat : Nat) : Int) - ((0 : Nat) : Int) = Builtin.Range.rangeSize lo hi 1 := by rw [rangeSize_one]; split <;> omega
    show IsRangeIter _ _ (lo + ((0 : Nat) : Int) * 1) ((((hi - lo).toNat : Nat) : Int) - ((0 : Nat) : Int)) 1
    rw [e1, e2]
    exact Heap.get?_push_size _ rfl
  · have e : b = (s.heap.push { cls := .type "range", data := .fields #[.int lo t, .int hi u, .int 1 v] }).objs.size := by simpa using hb
    subst e
    exact I1.fpOk (Nat.le_refl _) (I1.hok.fresh (Nat.le_refl _))
def iRng1 (ta : TA) : TI := fun σ H R => ta σ H fun vs H1 => ∃ j : Int, vs = [.int j] ∧ -(2 ^ 62) ≤ j ∧ j < 2 ^ 62 ∧ R (Itr 0 j.toNat) H1
theorem pi_range1 {a : Expr} {ta : TA} {p pos : Pos} (hg : Gl X "range") (hm : X.mg "range" = none) (ha : PA X [a] ta) (hs : starEach [a] X.env = [(false, eval a X.env)] := by rfl) : PI X tg (.Call (.Name "range" p) [a] [] pos) (iRng1 ta) := by
  intro pins s σ H R I h
  refine Call_ (ld_blt I hg hm boot_range (PyProof.Rows.callWith_type1 (thn (ha pos pins s σ H _ I h) fun us s1 ⟨vs, H1, I1, r1, q1⟩ => ?_) hs rfl))
  obtain ⟨j, e, q1, q2, q⟩ := q1
  subst e
  cases r1 with
  | cons r rr =>
    cases rr
    obtain ⟨t, rfl⟩ := r
    exact call_range_1 (range_it I1 (by omega) (by omega) q1 q2 (by simpa using q))
def tFor (wi : TI) (g : TG) (tb : TS) : TS := fun D σ H => wi σ H fun J H1 => ∃ W : Nat → Nat → St → Hp → Prop, (∃ m, W 0 m σ H1) ∧ ∀ i m σ H, W i m σ H →
  (J.stop i H ∧ D.nx σ H) ∨ (J.go i H ∧ ∃ N : St → Hp → Prop, (∀ σ' H', N σ' H' → ∃ m', m' < m ∧ W (i + 1) m' σ' H') ∧ ∀ x H', J.yld i H x H' → g x σ H' fun σ2 H2 => tb { D with nx := N, ct := N, bk := D.nx } σ2 H2)
def pinsAt (fp : List Addr) (h : Heap) : List (Addr × Obj) := fp.filterMap fun b => (h.get? b).map fun o => (b, o)
theorem mem_pinsAt {fp : List Addr} {h : Heap} {b : Addr} {o : Obj} (hb : b ∈ fp) (e : h.get? b = some o) : (b, o) ∈ pinsAt fp h := List.mem_filterMap.mpr ⟨b, hb, by rw [e]; rfl⟩
theorem of_pinsAt {fp : List Addr} {h : Heap} {p : Addr × Obj} (hp : p ∈ pinsAt fp h) : p.1 ∈ fp ∧ h.get? p.1 = some p.2 := by
  obtain ⟨b, hb, e⟩ := List.mem_filterMap.mp hp
  cases q : h.get? b with
  | none => rw [q] at e; cases e
  | some o =>
    rw [q] at e
    have e' : (b, o) = p := Option.some.inj e
    subst e'
    exact ⟨hb, q⟩
theorem Inv.pinned {pins : List (Addr × Obj)} {σ : St} {H : Hp} {s : Shared} {fp : List Addr} (I : Inv X pins σ H s) (hf : ∀ b ∈ fp, FpOk X pins H b) (ho : ∀ b ∈ fp, ∃ o, s.heap.get? b = some o ∧ ∀ v, o.data ≠ .cell v) : Inv X (pins ++ pinsAt fp s.heap) σ H s :=
  I.pins_of fun p hp => (List.mem_append.mp hp).elim (fun z => I.pin p (List.mem_append_right _ z)) fun z => by
    obtain ⟨hb, e⟩ := of_pinsAt z
    obtain ⟨f0, f1, f2, _⟩ := hf p.1 hb
    obtain ⟨o, e', d⟩ := ho p.1 hb
    rw [e] at e'; cases e'
    exact ⟨e, f0, f1, f2, d⟩
theorem Inv.unpinned {pins pl : List (Addr × Obj)} {σ : St} {H : Hp} {s : Shared} (I : Inv X (pins ++ pl) σ H s) : Inv X pins σ H s := I.pins_of fun p hp => I.pin p (List.mem_append_right _ (List.mem_append_left _ hp))
theorem ps_for {iter : Expr} {body : List Stmt} {wi : TI} {g : TG} {tb : TS} {pos : Pos} (hp : PassesOwn (model X.prog X.w) X.A X.env X.xe) (hc : X.calm = true) (hi : PI X tg iter wi) (hg : PG X tg g) (hb : PSs X body tb)
    (hs : ∀ x, foldedSetIterable iter X.env x = pure x := by intro _; rfl) : PS X (.For tg iter body [] pos) (tFor wi g tb) := by
  intro pins s σ H D I h
  refine wpAny_For (thn (hi pins s σ H _ I h) fun v s1 h1 => thn h1 fun itv s2 h2 => ?_) hs
  obtain ⟨it, fp, tn, J, H2, e, I2, T, st2, f2, W, ⟨m0, w0⟩, turn⟩ := h2
  subst e
  -- what stays true of the iterator's objects through the loop
  have stat : ∀ {H' : Hp}, (∀ b ∈ fp, H' b = none) → ∀ b ∈ fp, FpOk X pins H' b := fun hn b hb => ⟨hn b hb, (f2 b hb).2⟩
  refine codeAny_forLoop_any (fun n s' => ∃ i σ' H', Inv X pins σ' H' s' ∧ tn i s'.heap ∧ (∀ b ∈ fp, H' b = none) ∧ W i n σ' H') ?_ m0 ⟨0, σ, H2, I2, st2, fun b hb => (f2 b hb).1, w0⟩
  rintro n s3 ⟨i, σ3, H3, I3, st3, fr3, w3⟩
  rcases turn i n σ3 H3 w3 with ⟨stop, qn⟩ | ⟨go, N, hN, step⟩
  · refine wpAny_passesOwn hp (thn (T.done X rfl rfl rfl hc i pins s3 σ3 H3 X.xe I3 (stat fr3) st3 stop) fun r s4 ⟨hr, I4⟩ => ?_)
    subst hr
    exact wpAny_execs_nil ⟨σ3, H3, I4, qn⟩
  · refine wpAny_passesOwn hp (thn (T.item X rfl rfl rfl hc i pins s3 σ3 H3 X.xe I3 (stat fr3) st3 go) fun r s4 ⟨u, hr, h4⟩ => ?_)
    subst hr
    refine wpAny_passesOwn hp (thn h4 fun _ s5 ⟨x, H5, I5, r5, y5, st5, fr5⟩ => ?_)
    have I5' := I5.pinned (stat fr5) (T.obj _ _ st5)
    refine wpAny_passesOwn hp (thn (hg _ s5 σ3 H5 x u _ I5' r5 (step x H5 y5)) fun _ s6 ⟨σ6, H6, I6, q6⟩ => ?_)
    refine wpAny_passesOwn hp (thn (hb _ s6 σ6 H6 _ I6 q6) fun f s7 q7 => ?_)
    have again : ∀ {σ7 : St} {H7 : Hp}, Inv X (pins ++ pinsAt fp s5.heap) σ7 H7 s7 → N σ7 H7 → ∃ m, m < n ∧ ∃ i σ' H', Inv X pins σ' H' s7 ∧ tn i s7.heap ∧ (∀ b ∈ fp, H' b = none) ∧ W i m σ' H' := fun {σ7 H7} I7 n7 => by
      obtain ⟨m', hm, w7⟩ := hN σ7 H7 n7
      refine ⟨m', hm, i + 1, σ7, H7, I7.unpinned, T.keep _ _ _ st5 fun b hb o e => (I7.pin (b, o) (List.mem_append_right _ (List.mem_append_right _ (mem_pinsAt hb e)))).1, fun b hb => ?_, w7⟩
      obtain ⟨o, e, d⟩ := T.obj _ _ st5 b hb
      exact (I7.pin (b, o) (List.mem_append_right _ (List.mem_append_right _ (mem_pinsAt hb e)))).2.1
    cases f with
    | next => obtain ⟨σ7, H7, I7, n7⟩ := q7; exact again I7 n7
    | cont => obtain ⟨σ7, H7, I7, n7⟩ := q7; exact again I7 n7
    | brk => obtain ⟨σ7, H7, I7, q7⟩ := q7; exact ⟨σ7, H7, I7.unpinned, q7⟩
    | ret v => obtain ⟨x7, σ7, H7, I7, r7, q7⟩ := q7; exact ⟨x7, σ7, H7, I7.unpinned, r7, q7⟩
end
theorem for_list {K : PySem.W.Frag} {a : Addr} {xs : List V} {g : TG} {tb : TS} {D : Ends} {σ : St} {H : Hp} (Pv : Nat → St → Hp → Prop) (h0 : Pv 0 σ H) (hl : ∀ i σ H, i ≤ xs.length → Pv i σ H → SqL K H a xs)
    (hs : ∀ i x σ H, xs[i]? = some x → Pv i σ H → g x σ H fun σ2 H2 => tb { D with nx := Pv (i + 1), ct := Pv (i + 1), bk := D.nx } σ2 H2) (hd : ∀ σ H, Pv xs.length σ H → D.nx σ H) :
    ∃ W : Nat → Nat → St → Hp → Prop, (∃ m, W 0 m σ H) ∧ ∀ i m σ H, W i m σ H →
      ((Itl K a).stop i H ∧ D.nx σ H) ∨ ((Itl K a).go i H ∧ ∃ N : St → Hp → Prop, (∀ σ' H', N σ' H' → ∃ m', m' < m ∧ W (i + 1) m' σ' H') ∧ ∀ x H', (Itl K a).yld i H x H' → g x σ H' fun σ2 H2 => tb { D with nx := N, ct := N, bk := D.nx } σ2 H2) := by
  refine ⟨fun i m σ H => m = xs.length - i ∧ i ≤ xs.length ∧ Pv i σ H, ⟨xs.length, by simp, Nat.zero_le _, h0⟩, ?_⟩
  rintro i m σ H ⟨rfl, hi, p⟩
  have q := hl i σ H hi p
  by_cases hlt : i < xs.length
  · refine .inr ⟨⟨xs, xs[i], q, by simp [hlt]⟩, Pv (i + 1), fun σ' H' p' => ⟨xs.length - (i + 1), by omega, rfl, hlt, p'⟩, fun x H' y => ?_⟩
    obtain ⟨e, y⟩ := y
    subst e
    exact hs i x σ _ (y xs q) p
  · have e : i = xs.length := by omega
    subst e
    exact .inl ⟨⟨xs, q, Nat.le_refl _⟩, hd σ H p⟩
theorem for_range {lo : Int} {n : Nat} {g : TG} {tb : TS} {D : Ends} {σ : St} {H : Hp} (Pv : Nat → St → Hp → Prop) (h0 : Pv 0 σ H)
    (hs : ∀ i σ H, i < n → Pv i σ H → g (.int (lo + i)) σ H fun σ2 H2 => tb { D with nx := Pv (i + 1), ct := Pv (i + 1), bk := D.nx } σ2 H2) (hd : ∀ σ H, Pv n σ H → D.nx σ H) :
    ∃ W : Nat → Nat → St → Hp → Prop, (∃ m, W 0 m σ H) ∧ ∀ i m σ H, W i m σ H →
      ((Itr lo n).stop i H ∧ D.nx σ H) ∨ ((Itr lo n).go i H ∧ ∃ N : St → Hp → Prop, (∀ σ' H', N σ' H' → ∃ m', m' < m ∧ W (i + 1) m' σ' H') ∧ ∀ x H', (Itr lo n).yld i H x H' → g x σ H' fun σ2 H2 => tb { D with nx := N, ct := N, bk := D.nx } σ2 H2) := by
  refine ⟨fun i m σ H => m = n - i ∧ i ≤ n ∧ Pv i σ H, ⟨n, by simp, Nat.zero_le _, h0⟩, ?_⟩
  rintro i m σ H ⟨rfl, hi, p⟩
  by_cases hlt : i < n
  · refine .inr ⟨hlt, Pv (i + 1), fun σ' H' p' => ⟨n - (i + 1), by omega, rfl, hlt, p'⟩, fun x H' y => ?_⟩
    obtain ⟨e, y⟩ := y
    subst e y
    exact hs i σ _ hlt p
  · have e : i = n := by omega
    subst e
    exact .inl ⟨Nat.le_refl _, hd σ H p⟩
end L2
namespace L2
open PySem PySem.Spec PyProof.Rows
abbrev R2 := V → V → Hp → VK → Prop
def OpR (X : Cx) (f : Value → Value → Sem Value) (r : R2) : Prop :=
  ∀ (pins : List (Addr × Obj)) (s : Shared) (σ : St) (H : Hp) (x y : V) (v u : Value) (Q : VK), Inv X pins σ H s → RelV x v → RelV y u → r x y H Q →
    wpAny (model X.prog X.w) X.A (f v u) (EP X pins σ Q) X.xe s
def UnR (X : Cx) (f : Value → Sem Value) (r : V → Hp → VK → Prop) : Prop :=
  ∀ (pins : List (Addr × Obj)) (s : Shared) (σ : St) (H : Hp) (x : V) (v : Value) (Q : VK), Inv X pins σ H s → RelV x v → r x H Q →
    wpAny (model X.prog X.w) X.A (f v) (EP X pins σ Q) X.xe s
def CallR (X : Cx) (f : Value) (r : List V → Hp → VK → Prop) : Prop :=
  ∀ (pins : List (Addr × Obj)) (s : Shared) (σ : St) (H : Hp) (xs : List V) (us : List Value) (Q : VK), Inv X pins σ H s → Vals xs us → r xs H Q →
    wpAny (model X.prog X.w) X.A (call f us) (EP X pins σ Q) X.xe s
def tOp (r : R2) (ta tb : TE) : TE := fun σ H Q => ta σ H fun x H1 => tb σ H1 fun y H2 => r x y H2 Q
def tUn (r : V → Hp → VK → Prop) (ta : TE) : TE := fun σ H Q => ta σ H fun x H1 => r x H1 Q
def rI (C : Int → Int → Prop) (g : Int → Int → V) : R2 := fun x y H Q => ∃ i j, x = .int i ∧ y = .int j ∧ C i j ∧ Q (g i j) H
def rI0 (g : Int → Int → V) : R2 := fun x y H Q => ∃ i j, x = .int i ∧ y = .int j ∧ Q (g i j) H
def rU (g : Int → V) : V → Hp → VK → Prop := fun x H Q => ∃ i, x = .int i ∧ Q (g i) H
section
variable {X : Cx} {a b c : Expr} {ta tb tc : TE} {pos : Pos}
theorem binT (ha : PE X a ta) (hb : PE X b tb) {pins : List (Addr × Obj)} {s : Shared} {σ : St} {H : Hp} {R : V → V → Hp → Prop} (I : Inv X pins σ H s)
    (h : ta σ H fun x H1 => tb σ H1 fun y H2 => R x y H2) {Q : Value → Shared → Prop} {f : Value → Value → Sem Value}
    (hf : ∀ v u s2 x y H2, Inv X pins σ H2 s2 → RelV x v → RelV y u → R x y H2 → wpAny (model X.prog X.w) X.A (f v u) Q X.xe s2) :
    wpAny (model X.prog X.w) X.A (eval a X.env) (fun v s₁ => wpAny (model X.prog X.w) X.A (eval b X.env) (fun u s₂ => wpAny (model X.prog X.w) X.A (f v u) Q X.xe s₂) X.xe s₁) X.xe s := by
  refine thn (ha pins s σ H _ I h) fun v s1 ⟨x, H1, I1, r1, q1⟩ => ?_
  refine thn (hb pins s1 σ H1 _ I1 q1) fun u s2 ⟨y, H2, I2, r2, q2⟩ => ?_
  exact hf v u s2 x y H2 I2 r1 r2 q2
theorem pe_op {op : Operator} {r : R2} (ho : OpR X (binaryOp op) r) (ha : PE X a ta) (hb : PE X b tb) : PE X (.BinOp a op b pos) (tOp r ta tb) := by
  intro pins s σ H Q I h
  exact wpAny_BinOp (binT ha hb I h fun v u s2 x y H2 I2 rx ry q => ho pins s2 σ H2 x y v u Q I2 rx ry q)
theorem pe_un {op : UnaryOp} {r : V → Hp → VK → Prop} (ho : UnR X (unaryOp op) r) (ha : PE X a ta) : PE X (.UnaryOp op a pos) (tUn r ta) := by
  intro pins s σ H Q I h
  exact UnaryOp_ (thn (ha pins s σ H _ I h) fun v s1 ⟨x, H1, I1, r1, q1⟩ => ho pins s1 σ H1 x v Q I1 r1 q1)
theorem opI {f : Value → Value → Sem Value} {C : Int → Int → Prop} {g : Int → Int → Int}
    (rule : ∀ (i j : Int) (t u : Tok) (s : Shared) (Q : Value → Shared → Prop) (E : Value → Shared → Prop), C i j → Q (.int (g i j) s.toks) { s with toks := s.toks + 1 } → wpAny (model X.prog X.w) X.A (f (.int i t) (.int j u)) Q E s) :
    OpR X f (rI C fun i j => .int (g i j)) := by
  intro pins s σ H x y v u Q I rx ry h
  obtain ⟨i, j, rfl, rfl, hc, q⟩ := h
  obtain ⟨t, rfl⟩ := rx
  obtain ⟨t', rfl⟩ := ry
  exact rule i j t t' s _ _ hc ⟨.int (g i j), H, I.tok _, ⟨_, rfl⟩, q⟩
theorem opI0 {f : Value → Value → Sem Value} {g : Int → Int → Int}
    (rule : ∀ (i j : Int) (t u : Tok) (s : Shared) (Q : Value → Shared → Prop) (E : Value → Shared → Prop), Q (.int (g i j) s.toks) { s with toks := s.toks + 1 } → wpAny (model X.prog X.w) X.A (f (.int i t) (.int j u)) Q E s) :
    OpR X f (rI0 fun i j => .int (g i j)) := by
  intro pins s σ H x y v u Q I rx ry h
  obtain ⟨i, j, rfl, rfl, q⟩ := h
  obtain ⟨t, rfl⟩ := rx
  obtain ⟨t', rfl⟩ := ry
  exact rule i j t t' s _ _ ⟨.int (g i j), H, I.tok _, ⟨_, rfl⟩, q⟩
theorem opB0 {f : Value → Value → Sem Value} {g : Int → Int → Bool}
    (rule : ∀ (i j : Int) (t u : Tok) (s : Shared) (Q : Value → Shared → Prop) (E : Value → Shared → Prop), Q (.bool (g i j)) s → wpAny (model X.prog X.w) X.A (f (.int i t) (.int j u)) Q E s) :
    OpR X f (rI0 fun i j => .bl (g i j)) := by
  intro pins s σ H x y v u Q I rx ry h
  obtain ⟨i, j, rfl, rfl, q⟩ := h
  obtain ⟨t, rfl⟩ := rx
  obtain ⟨t', rfl⟩ := ry
  exact rule i j t t' s _ _ ⟨.bl (g i j), H, I, rfl, q⟩
def CMul (i j : Int) : Prop := (-(2 ^ 64) < i ∧ i < 2 ^ 64) ∨ (-(2 ^ 64) < j ∧ j < 2 ^ 64)
theorem CMul.ok {i j : Int} (h : CMul i j) : IntMulOk i j := by
  rcases h with ⟨h1, h2⟩ | ⟨h1, h2⟩
  · exact .of_left (intBits_le_64 h1 h2)
  · exact .of_right (intBits_le_64 h1 h2)
theorem op_add : OpR X (binaryOp .Add) (rI0 fun i j => .int (i + j)) := opI0 fun _ _ _ _ _ _ _ q => add_int q
theorem op_sub : OpR X (binaryOp .Sub) (rI0 fun i j => .int (i - j)) := opI0 fun _ _ _ _ _ _ _ q => sub_int q
theorem op_mul : OpR X (binaryOp .Mult) (rI CMul fun i j => .int (i * j)) := opI fun _ _ _ _ _ _ _ hc q => mul_int q hc.ok
theorem op_mod : OpR X (binaryOp .Mod) (rI (fun _ j => 0 < j) fun i j => .int (i % j)) := opI fun i j _ _ _ _ _ hc q => by
  have h1 : (0 : Int) < j := hc
  exact mod_int' (by omega) (by rw [Int.fmod_eq_emod_of_nonneg i (by omega)]; exact q)
theorem unI {f : Value → Sem Value} {g : Int → Int}
    (rule : ∀ (i : Int) (t : Tok) (s : Shared) (Q : Value → Shared → Prop) (E : Value → Shared → Prop), Q (.int (g i) s.toks) { s with toks := s.toks + 1 } → wpAny (model X.prog X.w) X.A (f (.int i t)) Q E s) :
    UnR X f (rU fun i => .int (g i)) := by
  intro pins s σ H x v Q I rx h
  obtain ⟨i, rfl, q⟩ := h
  obtain ⟨t, rfl⟩ := rx
  exact rule i t s _ _ ⟨.int (g i), H, I.tok _, ⟨_, rfl⟩, q⟩
theorem un_neg : UnR X (unaryOp .USub) (rU fun i => .int (-i)) := unI fun _ _ _ _ _ q => neg_int q
end
def scal : V → V → Bool
  | .non, .non => true | .non, .int _ => true | .int _, .non => true | .non, .bl _ => true | .bl _, .non => true | .non, .str _ => true | .str _, .non => true
  | .int _, .int _ => true | .bl _, .bl _ => true | .str _, .str _ => true | .byt _, .byt _ => true
  | .int _, .str _ => true | .str _, .int _ => true | .bl _, .str _ => true | .str _, .bl _ => true
  | _, _ => false
def rEq : R2 := fun x y H Q => scal x y = true ∧ Q (.bl (decide (x = y))) H
def rNe : R2 := fun x y H Q => scal x y = true ∧ Q (.bl (!decide (x = y))) H
theorem dec_int {i j : Int} : decide (V.int i = V.int j) = (i == j) := by
  rw [Bool.eq_iff_iff]
  simp
theorem dec_bl {i j : Bool} : decide (V.bl i = V.bl j) = (i == j) := by
  rw [Bool.eq_iff_iff]
  simp
theorem dec_str {i j : Str} : decide (V.str i = V.str j) = (i == j) := by
  rw [Bool.eq_iff_iff]
  simp
theorem dec_byt {i j : Array UInt8} : decide (V.byt i = V.byt j) = (i.toList == j.toList) := by
  rw [Bool.eq_iff_iff]
  cases i
  cases j
  simp
section
variable {X : Cx} {a b c : Expr} {ta tb tc : TE} {pos : Pos}
theorem fin_bl {pins : List (Addr × Obj)} {σ : St} {H : Hp} {s : Shared} {Q : VK} {k k' : Bool} (I : Inv X pins σ H s) (q : Q (.bl k) H) (e : k = k') : EP X pins σ Q (.bool k') s := by
  subst e
  exact ⟨.bl k, H, I, rfl, q⟩
theorem op_eq : OpR X (compareOp .Eq) rEq := by
  intro pins s σ H x y v u Q I rx ry h
  obtain ⟨hs, q⟩ := h
  cases x with
  | non =>
    cases rx
    cases y with
    | non => cases ry; exact PySem.EqNone.eq_none_none (fin_bl I q (by simp))
    | bl j => cases ry; exact PySem.EqNone.eq_none_bool (fin_bl I q (by simp))
    | int j => obtain ⟨t', rfl⟩ := ry; exact PySem.EqNone.eq_none_int (fin_bl I q (by simp))
    | str j => obtain ⟨t', rfl⟩ := ry; exact PySem.EqNone.eq_none_str (fin_bl I q (by simp))
    | _ => exact absurd (show false = true from hs) Bool.false_ne_true
  | bl i =>
    cases rx
    cases y with
    | non => cases ry; exact PySem.EqNone.eq_bool_none (fin_bl I q (by simp))
    | bl j => cases ry; exact eq_bool (fin_bl I q dec_bl)
    | str j => obtain ⟨t', rfl⟩ := ry; exact PySem.EqMixed.eq_bool_str (fin_bl I q (by simp))
    | _ => exact absurd (show false = true from hs) Bool.false_ne_true
  | int i =>
    obtain ⟨t, rfl⟩ := rx
    cases y with
    | non => cases ry; exact PySem.EqNone.eq_int_none (fin_bl I q (by simp))
    | int j => obtain ⟨t', rfl⟩ := ry; exact eq_int (fin_bl I q dec_int)
    | str j => obtain ⟨t', rfl⟩ := ry; exact PySem.EqMixed.eq_int_str (fin_bl I q (by simp))
    | _ => exact absurd (show false = true from hs) Bool.false_ne_true
  | str i =>
    obtain ⟨t, rfl⟩ := rx
    cases y with
    | non => cases ry; exact PySem.EqNone.eq_str_none (fin_bl I q (by simp))
    | bl j => cases ry; exact PySem.EqMixed.eq_str_bool (fin_bl I q (by simp))
    | int j => obtain ⟨t', rfl⟩ := ry; exact PySem.EqMixed.eq_str_int (fin_bl I q (by simp))
    | str j => obtain ⟨t', rfl⟩ := ry; exact eq_str (fin_bl I q dec_str)
    | _ => exact absurd (show false = true from hs) Bool.false_ne_true
  | byt i =>
    obtain ⟨t, rfl⟩ := rx
    cases y with
    | byt j => obtain ⟨t', rfl⟩ := ry; exact PySem.W.eq_bytes (fin_bl I q dec_byt)
    | _ => exact absurd (show false = true from hs) Bool.false_ne_true
  | _ => cases y <;> exact absurd (show false = true from hs) Bool.false_ne_true
theorem op_ne : OpR X (compareOp .NotEq) rNe := by
  intro pins s σ H x y v u Q I rx ry h
  obtain ⟨hs, q⟩ := h
  cases x with
  | non =>
    cases rx
    cases y with
    | non => cases ry; exact PySem.EqNone.ne_none_none (fin_bl I q (by simp))
    | bl j => cases ry; exact PySem.EqNone.ne_none_bool (fin_bl I q (by simp))
    | int j => obtain ⟨t', rfl⟩ := ry; exact PySem.EqNone.ne_none_int (fin_bl I q (by simp))
    | str j => obtain ⟨t', rfl⟩ := ry; exact PySem.EqNone.ne_none_str (fin_bl I q (by simp))
    | _ => exact absurd (show false = true from hs) Bool.false_ne_true
  | bl i =>
    cases rx
    cases y with
    | non => cases ry; exact PySem.EqNone.ne_bool_none (fin_bl I q (by simp))
    | bl j => cases ry; exact ne_bool (fin_bl I q (congrArg not dec_bl))
    | str j => obtain ⟨t', rfl⟩ := ry; exact PySem.EqMixed.ne_bool_str (fin_bl I q (by simp))
    | _ => exact absurd (show false = true from hs) Bool.false_ne_true
  | int i =>
    obtain ⟨t, rfl⟩ := rx
    cases y with
    | non => cases ry; exact PySem.EqNone.ne_int_none (fin_bl I q (by simp))
    | int j => obtain ⟨t', rfl⟩ := ry; exact ne_int (fin_bl I q (congrArg not dec_int))
    | str j => obtain ⟨t', rfl⟩ := ry; exact PySem.EqMixed.ne_int_str (fin_bl I q (by simp))
    | _ => exact absurd (show false = true from hs) Bool.false_ne_true
  | str i =>
    obtain ⟨t, rfl⟩ := rx
    cases y with
    | non => cases ry; exact PySem.EqNone.ne_str_none (fin_bl I q (by simp))
    | bl j => cases ry; exact PySem.EqMixed.ne_str_bool (fin_bl I q (by simp))
    | int j => obtain ⟨t', rfl⟩ := ry; exact PySem.EqMixed.ne_str_int (fin_bl I q (by simp))
    | str j => obtain ⟨t', rfl⟩ := ry; exact ne_str (fin_bl I q (congrArg not dec_str))
    | _ => exact absurd (show false = true from hs) Bool.false_ne_true
  | byt i =>
    obtain ⟨t, rfl⟩ := rx
    cases y with
    | byt j => obtain ⟨t', rfl⟩ := ry; exact PySem.W.ne_bytes (fin_bl I q (congrArg not dec_byt))
    | _ => exact absurd (show false = true from hs) Bool.false_ne_true
  | _ => cases y <;> exact absurd (show false = true from hs) Bool.false_ne_true
theorem op_lt : OpR X (compareOp .Lt) (rI0 fun i j => .bl (decide (i < j))) := opB0 fun _ _ _ _ _ _ _ q => lt_int q
theorem op_le : OpR X (compareOp .LtE) (rI0 fun i j => .bl (decide (i ≤ j))) := opB0 fun _ _ _ _ _ _ _ q => le_int q
theorem op_gt : OpR X (compareOp .Gt) (rI0 fun i j => .bl (decide (j < i))) := opB0 fun _ _ _ _ _ _ _ q => gt_int q
theorem op_ge : OpR X (compareOp .GtE) (rI0 fun i j => .bl (decide (j ≤ i))) := opB0 fun _ _ _ _ _ _ _ q => ge_int q
theorem op_isN : OpR X (compareOp .Is) (fun x y H Q => y = .non ∧ Q (.bl (decide (x = .non))) H) := by
  intro pins s σ H x y v u Q I rx ry h
  obtain ⟨rfl, q⟩ := h
  cases ry
  refine is_none_gen (fin_bl I q ?_)
  cases x <;> first
    | (cases rx; rfl)
    | (obtain ⟨t, rfl⟩ := rx; rfl)
theorem op_notN : OpR X (compareOp .IsNot) (fun x y H Q => y = .non ∧ Q (.bl (!decide (x = .non))) H) := by
  intro pins s σ H x y v u Q I rx ry h
  obtain ⟨rfl, q⟩ := h
  cases ry
  refine isnot_none_gen (fin_bl I q ?_)
  cases x <;> first
    | (cases rx; rfl)
    | (obtain ⟨t, rfl⟩ := rx; rfl)
theorem OpR.or {f : Value → Value → Sem Value} {r r' : R2} (h : OpR X f r) (h' : OpR X f r') : OpR X f (fun x y H Q => r x y H Q ∨ r' x y H Q) := by
  intro pins s σ H x y v u Q I rx ry q
  rcases q with q | q
  · exact h pins s σ H x y v u Q I rx ry q
  · exact h' pins s σ H x y v u Q I rx ry q
theorem nomark (b : Expr) {op : CmpOp} (h : op ≠ .In := by decide) (h2 : op ≠ .NotIn := by decide) : behindInMarks op b = false := by
  have e1 : (op == CmpOp.In) = false := by cases op <;> first | rfl | exact absurd rfl h
  have e2 : (op == CmpOp.NotIn) = false := by cases op <;> first | rfl | exact absurd rfl h2
  cases b <;> simp [behindInMarks, e1, e2]
theorem pe_cmpR {op : CmpOp} {r : R2} (ho : OpR X (compareOp op) r) (ha : PE X a ta) (hb : PE X b tb) (hm : behindInMarks op b = false) : PE X (.Compare a [op] [b] pos) (tOp r ta tb) := by
  intro pins s σ H Q I h
  exact wpAny_Compare1 (binT ha hb I h fun v u s2 x y H2 I2 rx ry q => ho pins s2 σ H2 x y v u Q I2 rx ry q) hm
def tTest (t : TE) : TT := fun σ H Q => t σ H fun x H' => ∃ k, x = .bl k ∧ Q k H'
theorem pt_cmpR {op : CmpOp} {r : R2} (ho : OpR X (compareOp op) r) (ha : PE X a ta) (hb : PE X b tb) (hm : behindInMarks op b = false) : PT X (.Compare a [op] [b] pos) (tTest (tOp r ta tb)) := by
  intro pins s σ H Q I h
  refine wpAny_isTrue_Compare1 (thn (ha pins s σ H _ I h) fun v s1 ⟨x, H1, I1, r1, q1⟩ => thn (hb pins s1 σ H1 _ I1 q1) fun u s2 ⟨y, H2, I2, r2, q2⟩ =>
    thn (ho pins s2 σ H2 x y v u _ I2 r1 r2 q2) fun c s3 ⟨z, H3, I3, r3, k, e, q3⟩ => ?_) hm
  subst e
  cases r3
  exact wpAny_truthy_bool ⟨H3, I3, q3⟩
def tChain (r r' : R2) (ta tb tc : TE) : TE := fun σ H Q => ta σ H fun x H1 => tb σ H1 fun y H2 => r x y H2 fun z H3 => ∃ k, z = .bl k ∧
  (if k = true then tc σ H3 fun w' H4 => r' y w' H4 Q else Q (.bl false) H3)
theorem pe_chain {op op' : CmpOp} {r r' : R2} (ho : OpR X (compareOp op) r) (ho' : OpR X (compareOp op') r') (ha : PE X a ta) (hb : PE X b tb) (hc : PE X c tc)
    (hm : lastMarks [op, op'] [b, c] = false := by with_unfolding_all rfl) : PE X (.Compare a [op, op'] [b, c] pos) (tChain r r' ta tb tc) := by
  intro pins s σ H Q I h
  refine Compare_chain (thn (ha pins s σ H _ I h) fun v s1 ⟨x, H1, I1, r1, q1⟩ => chain_link (thn (hb pins s1 σ H1 _ I1 q1) fun u s2 ⟨y, H2, I2, r2, q2⟩ =>
    thn (ho pins s2 σ H2 x y v u _ I2 r1 r2 q2) fun d s3 ⟨z, H3, I3, r3, k, e, q3⟩ => ?_)) hm
  subst e
  cases r3
  refine wpAny_truthy_bool ?_
  cases k with
  | false => exact ite_ff ⟨.bl false, H3, I3, rfl, q3⟩
  | true => exact ite_tt (chain_last (thn (hc pins s3 σ H3 _ I3 q3) fun w' s4 ⟨z', H4, I4, r4, q4⟩ => ho' pins s4 σ H4 y z' u w' Q I4 r2 r4 q4))
theorem pt_chain {op op' : CmpOp} {r r' : R2} (ho : OpR X (compareOp op) r) (ho' : OpR X (compareOp op') r') (ha : PE X a ta) (hb : PE X b tb) (hc : PE X c tc)
    (hm : lastMarks [op, op'] [b, c] = false := by with_unfolding_all rfl) : PT X (.Compare a [op, op'] [b, c] pos) (tTest (tChain r r' ta tb tc)) := by
  intro pins s σ H Q I h
  refine isTrue_chain (thn (ha pins s σ H _ I h) fun v s1 ⟨x, H1, I1, r1, q1⟩ => test_link (thn (hb pins s1 σ H1 _ I1 q1) fun u s2 ⟨y, H2, I2, r2, q2⟩ =>
    thn (ho pins s2 σ H2 x y v u _ I2 r1 r2 q2) fun d s3 ⟨z, H3, I3, r3, k, e, q3⟩ => ?_)) hm
  subst e
  cases r3
  refine wpAny_truthy_bool ?_
  cases k with
  | false =>
    obtain ⟨k', e', q'⟩ := q3
    cases e'
    exact ite_ff ⟨H3, I3, q'⟩
  | true =>
    refine ite_tt (test_last (thn (hc pins s3 σ H3 _ I3 q3) fun w' s4 ⟨z', H4, I4, r4, q4⟩ => thn (ho' pins s4 σ H4 y z' u w' _ I4 r2 r4 q4) fun d' s5 ⟨z2, H5, I5, r5, k2, e2, q5⟩ => ?_))
    subst e2
    cases r5
    exact wpAny_truthy_bool ⟨H5, I5, q5⟩
theorem line63 : (sizeLine : Nat) < 2 ^ 63 := by rw [sizeLine_eq]; decide
theorem vals1 {x : V} {us : List Value} (r : Vals [x] us) : ∃ u, us = [u] ∧ RelV x u := by
  cases r with
  | cons r1 r2 => cases r2; exact ⟨_, rfl, r1⟩
theorem vals2 {x y : V} {us : List Value} (r : Vals [x, y] us) : ∃ u w', us = [u, w'] ∧ RelV x u ∧ RelV y w' := by
  cases r with
  | cons r1 r2 =>
    cases r2 with
    | cons r3 r4 => cases r4; exact ⟨_, _, rfl, r1, r3⟩
theorem call_min2 (hc : X.calm = true) : CallR X (.builtin "min") (fun xs H Q => ∃ i j, xs = [.int i, .int j] ∧ Q (.int (if j < i then j else i)) H) := by
  intro pins s σ H xs us Q I r h
  obtain ⟨i, j, rfl, q⟩ := h
  obtain ⟨u, w', rfl, ⟨t, rfl⟩, ⟨t', rfl⟩⟩ := vals2 r
  refine min_two_ints (I.ok.hd hc) fun h' tk k => ⟨_, H, I.kept k, ?_, q⟩
  by_cases hj : j < i
  · rw [if_pos hj, if_pos hj]; exact ⟨_, rfl⟩
  · rw [if_neg hj, if_neg hj]; exact ⟨_, rfl⟩
end
end L2
namespace L2
open PySem PySem.Spec PyProof.Rows
structure ObjM (h : Heap) (x dx C : Addr) (mA : Str → Option Value) : Prop where
  obj : h.get? x = some (PySem.W.instObj C dx)
  ns : h.Ns1 dx mA
  ne : dx ≠ x
theorem lookIn_ns {h : Heap} {dx : Addr} {mA : Str → Option Value} (n : h.Ns1 dx mA) : ∃ od, h.get? dx = some od ∧ ∀ name, PySem.W.lookIn name od = some (mA name) := by
  obtain ⟨o, es, ep, ho, hd, hk, _, hm⟩ := n
  refine ⟨o, ho, fun name => ?_⟩
  have e := hm name
  unfold nsFind findBy at e
  rw [← Array.find?_toList] at e
  unfold PySem.W.lookIn
  rw [hd]
  dsimp only
  split
  · rename_i y q
    rw [q] at e
    exact congrArg some e
  · rename_i q
    rw [q] at e
    have a : es.toList.any (·.refKey) = false := by
      rw [List.any_eq_false]
      intro y hy
      obtain ⟨z, t, hkey⟩ := hk y (Array.mem_toList_iff.mp hy)
      simp [DictEntry.refKey, hkey]
    have a' : ¬ es.toList.any (·.refKey) = true := by rw [a]; exact Bool.false_ne_true
    rw [if_neg a']
    exact congrArg some e
theorem ObjM.look {h : Heap} {x dx C : Addr} {mA : Str → Option Value} (I : ObjM h x dx C mA) : ∃ od, PySem.W.InstAt h x (PySem.W.instObj C dx) C (some od) ∧ ∀ name, PySem.W.lookIn name od = some (mA name) :=
  let ⟨od, ho, hl⟩ := lookIn_ns I.ns
  ⟨od, ⟨I.obj, rfl, rfl, ho⟩, hl⟩
section
variable {prog : Program} {w : World} {A : Around} {E : Value → Shared → Prop} {s : Shared} {K : PySem.W.Frag} {x dx C f : Addr} {mA : Str → Option Value} {name : Str} {v : Value}
theorem get_map {expr : Bool} {Q : Value → Shared → Prop} (X : K.In s.heap) (I : ObjM s.heap x dx C mA) (hg : PySem.W.plainGet K C name = true) (hh : PySem.W.hasDictIn K C = true)
    (ha : PySem.W.findIn K (.ref C) name = some none) (hv : mA name = some v) (hv' : PySem.W.handedIn v = true) (h : Q v { s with toks := s.toks + 1 }) :
    wpAny (model prog w) A (getAttr (.ref x) name expr) Q E s := by
  obtain ⟨od, J, hl⟩ := I.look
  exact PySem.W.get_value X J (PySem.W.plainGet_of hg).1 (PySem.W.findObj_own hh ha rfl (by rw [hl, hv])) hv' h
theorem get_meth {pl : Sem Bool} {Q : Value × List Value → Shared → Prop} (X : K.In s.heap) (I : ObjM s.heap x dx C mA) (hg : PySem.W.plainGet K C name = true)
    (hf : PySem.W.findIn K (.ref C) name = some (some (.ref f))) (ht : PySem.W.isFn K (.ref f) = true) (hv : mA name = none) (h : Q (.ref f, [.ref x]) s) :
    wpAny (model prog w) A (getMethod (.ref x) name pl) Q E s := by
  obtain ⟨od, J, hl⟩ := I.look
  exact PySem.W.method_fn X J (PySem.W.plainGet_of hg).1 (PySem.W.plainGet_of hg).2 hf (beq_iff_eq.mp ht) (by show (PySem.W.lookIn name od).map (·.isSome) = some false; rw [hl, hv]; rfl) h
theorem set_map {ns : List Str} {Q : Unit → Shared → Prop} (X : K.In s.heap) (I : ObjM s.heap x dx C mA)
    (hs : PySem.W.findIn K (.ref C) "__setattr__" = some (some (.builtin "object.__setattr__"))) (hp : PySem.W.plainOver K C = true) (ht : PySem.W.takerIn K C name = some none) (hh : PySem.W.hasDictIn K C = true)
    (hw : PySem.Within mA ns) (hsz : ns.length ≤ sizeLine)
    (h : ∀ h', ObjM h' x dx C (fun y => if y = name then some v else mA y) → Heap.SameBut dx s.heap h' → Q () { s with heap := h', toks := s.toks + 2 }) :
    wpAny (model prog w) A (setAttr (.ref x) name v) Q E s := by
  obtain ⟨od, J, hl⟩ := I.look
  refine PySem.W.set_plain X J hs (PySem.W.osa_open (s := { s with toks := s.toks + 1 }) (r := none) X J hp ht fun b => ?_)
  obtain ⟨cd, hc, hd'⟩ := PySem.W.any_some hh
  have hx : s.heap.get? x = some ⟨.ref C, some dx, .plain, #[]⟩ := I.obj
  refine wpAny_bind (wpAny_pure (wpAny_bind (wpAny_bind (wpAny_loadPart hx (wpAny_bind (PySem.W.Looks.here (s := { s with toks := s.toks + 1 }) (PySem.W.looks_clsIn X hc) ?_))))))
  rw [hd']
  refine wpAny_pure (a := some dx) (wpAny_bind (wpAny_pure (wpAny_bind ?_)))
  refine wpAny_nsSet1 (s := { s with toks := s.toks + 1 }) I.ns fun h' hn2 hs2 => ?_
  obtain ⟨oD, esD, epD, hoD, hdD, hcD⟩ := hn2.count (PySem.Within.cons name v hw)
  refine wpAny_bind (wpAny_lookBehind hoD (by rw [hdD]; exact pastItsLine_dict (Nat.le_trans hcD (by rw [List.length_cons]; omega))) ?_)
  exact wpAny_pure (h _ ⟨(hs2.2 _ (Ne.symm I.ne)).trans I.obj, hn2, I.ne⟩ hs2)
theorem make_map {R : Result → Shared → Prop} {vs : List Value} {kw : List (Str × Value)} (X : K.In s.heap) (hm : PySem.W.makesIn K C = true)
    (hi : PySem.W.findIn K (.ref C) "__init__" = some (some (.ref f))) (hf : PySem.W.typeIn K (.ref f) = some (.type "function"))
    (h : codeAny (model prog w) (A.under (.builtin "type.__call__" ⟨.ref C :: vs, kw⟩)) (.call (.ref f) ⟨.ref (s.heap.objs.size + 1) :: vs, kw⟩) (PySem.W.InitBack (s.heap.objs.size + 1) R)
      { s with heap := (s.heap.push PySem.W.emptyDict).push (PySem.W.instObj C s.heap.objs.size) }) :
    codeAny (model prog w) A (.call (.ref C) ⟨vs, kw⟩) R s := by
  obtain ⟨hh, g, d, t, os⟩ := s
  exact PySem.W.make_core (PySem.W.makes_of X hm) (PySem.W.looks_findIn X hi) (fun self => PySem.W.bind_fn X self hf) (.inl rfl) h
end
def putF (f : Str) (v : V) : List (Str × V) → List (Str × V)
  | [] => [(f, v)]
  | (g, x) :: r => if g = f then (g, v) :: r else (g, x) :: putF f v r
theorem lookup_putF (f g : Str) (v : V) : ∀ fs : List (Str × V), (putF f v fs).lookup g = if g = f then some v else fs.lookup g
  | [] => by
    show List.lookup g [(f, v)] = _
    by_cases h : g = f
    · have hb : (g == f) = true := beq_iff_eq.mpr h
      simp only [List.lookup, hb, if_pos h]
    · have hb : (g == f) = false := beq_eq_false_iff_ne.mpr h
      simp only [List.lookup, hb, if_neg h]
  | (k, x) :: r => by
    have ih := lookup_putF f g v r
    rw [show putF f v ((k, x) :: r) = (if k = f then (k, v) :: r else (k, x) :: putF f v r) from rfl]
    by_cases hk : k = f
    · rw [if_pos hk]
      by_cases h : g = k
      · have hb : (g == k) = true := beq_iff_eq.mpr h
        simp only [List.lookup, hb, if_pos (h.trans hk)]
      · have hb : (g == k) = false := beq_eq_false_iff_ne.mpr h
        simp only [List.lookup, hb, if_neg (fun e : g = f => h (e.trans hk.symm))]
    · rw [if_neg hk]
      by_cases h : g = k
      · have hb : (g == k) = true := beq_iff_eq.mpr h
        simp only [List.lookup, hb, if_neg (fun e : g = f => hk (h.symm.trans e))]
      · have hb : (g == k) = false := beq_eq_false_iff_ne.mpr h
        simp only [List.lookup, hb]
        exact ih
theorem keys_putF (f : Str) (v : V) : ∀ fs : List (Str × V), f ∈ (putF f v fs).map (·.1) ∧ ∀ g, g ∈ fs.map (·.1) → g ∈ (putF f v fs).map (·.1)
  | [] => ⟨by simp [putF], fun g h => by simp at h⟩
  | (k, x) :: r => by
    obtain ⟨i1, i2⟩ := keys_putF f v r
    rw [show putF f v ((k, x) :: r) = (if k = f then (k, v) :: r else (k, x) :: putF f v r) from rfl]
    by_cases hk : k = f
    · rw [if_pos hk]
      subst hk
      exact ⟨by simp, fun g h => by simpa using h⟩
    · rw [if_neg hk]
      refine ⟨?_, fun g h => ?_⟩
      · rw [List.map_cons]
        exact List.mem_cons_of_mem _ i1
      · rw [List.map_cons] at h ⊢
        rcases List.mem_cons.mp h with e | e
        · exact List.mem_cons.mpr (.inl e)
        · exact List.mem_cons_of_mem _ (i2 g e)
theorem length_putF (f : Str) (v : V) : ∀ fs : List (Str × V), (putF f v fs).length ≤ fs.length + 1
  | [] => by simp [putF]
  | (k, x) :: r => by
    have ih := length_putF f v r
    rw [show putF f v ((k, x) :: r) = (if k = f then (k, v) :: r else (k, x) :: putF f v r) from rfl]
    by_cases hk : k = f
    · rw [if_pos hk, List.length_cons, List.length_cons]; omega
    · rw [if_neg hk, List.length_cons, List.length_cons]; omega
theorem RelO.some_of {v : V} {o : Option Value} (r : RelO (some v) o) : ∃ u, o = some u ∧ RelV v u := by
  cases o with
  | none => exact (show False from r).elim
  | some u => exact ⟨u, rfl, r⟩
theorem RelO.none_of {o : Option Value} (r : RelO none o) : o = none := by
  cases o with
  | none => rfl
  | some u => exact (show False from r).elim
theorem handed_of {v : V} {u : Value} (r : RelV v u) : PySem.W.handedIn u = true := by
  cases v with
  | non => cases (show u = Value.none from r); rfl
  | bl b => cases (show u = Value.bool b from r); rfl
  | int i => obtain ⟨t, e⟩ := (show ∃ t, u = Value.int i t from r); cases e; rfl
  | str x => obtain ⟨t, e⟩ := (show ∃ t, u = Value.str x t from r); cases e; rfl
  | byt b => obtain ⟨t, e⟩ := (show ∃ t, u = Value.bytes b t from r); cases e; rfl
  | flt b => obtain ⟨t, e⟩ := (show ∃ t, u = Value.float b t from r); cases e; rfl
  | ref a => cases (show u = Value.ref a from r); rfl
  | ty n => cases (show u = Value.type n from r); rfl
section
variable {P : Program} {w : World} {H H' : Hp} {h h' : Heap} {a C dx : Addr} {fs fs' : List (Str × V)}
theorem ins_get (hok : HOk P w H h) (e : H a = some (.ins C dx fs)) : ∃ mA, ObjM h a dx C mA ∧ (∀ f, RelO (fs.lookup f) (mA f)) ∧ PySem.Within mA (fs.map (·.1)) ∧ fs.length ≤ 1000 ∧ H dx = some (.own a) := by
  obtain ⟨d, z, ne, ob, mA, n, r, q⟩ := (show ObjOk P w H h a (.ins C dx fs) from hok a _ e)
  exact ⟨mA, ⟨ob, n, ne⟩, r, q, z, d⟩
end
structure Cls (K : PySem.W.Frag) (C : Addr) : Prop where
  pg : PySem.W.plainGet K C Str.empty = true
  hd : PySem.W.hasDictIn K C = true
  po : PySem.W.plainOver K C = true
  sa : PySem.W.findIn K (.ref C) "__setattr__" = some (some (.builtin "object.__setattr__"))
theorem Cls.get {K : PySem.W.Frag} {C : Addr} (c : Cls K C) (f : Str) : PySem.W.plainGet K C f = true := c.pg
def NoAttr (K : PySem.W.Frag) (C : Addr) (f : Str) : Prop := PySem.W.findIn K (.ref C) f = some none
theorem NoAttr.taker {K : PySem.W.Frag} {C : Addr} {f : Str} (n : NoAttr K C f) : PySem.W.takerIn K C f = some none := by
  unfold PySem.W.takerIn
  rw [show PySem.W.findIn K (.ref C) f = some none from n]
  rfl
structure Con (K : PySem.W.Frag) (C : Addr) (f : Str) (v : V) (u : Value) : Prop where
  at_ : PySem.W.findIn K (.ref C) f = some (some u)
  rel : RelV v u
  get : PySem.W.specialIn K u "__get__" = some none
  cp : PySem.W.copiedNames.contains f = false
structure Meth (K : PySem.W.Frag) (C : Addr) (m : Str) (f : Addr) : Prop where
  at_ : PySem.W.findIn K (.ref C) m = some (some (.ref f))
  fn : PySem.W.isFn K (.ref f) = true
  kp : PySem.W.keepIn K (.ref f) = true
section
variable {X : Cx} {pins : List (Addr × Obj)} {σ : St} {H : Hp} {s : Shared} {a C dx : Addr} {fs : List (Str × V)} {f : Str} {v : V} {A : Around} {E : Value → Shared → Prop}
theorem getattr_ok {b : Bool} {Q : Value → Shared → Prop} (I : Inv X pins σ H s) (e : H a = some (.ins C dx fs)) (c : Cls X.K C) (n : NoAttr X.K C f) (l : fs.lookup f = some v)
    (h : ∀ u s', Inv X pins σ H s' → RelV v u → Q u s') : wpAny (model X.prog X.w) A (getAttr (.ref a) f b) Q E s := by
  obtain ⟨mA, O, r, _, _, _⟩ := ins_get I.hok e
  obtain ⟨u, hu, ru⟩ := RelO.some_of (v := v) (o := mA f) (by rw [← l]; exact r f)
  exact get_map I.kIn O (c.get f) c.hd n hu (handed_of ru) (h u _ (I.tok _) ru)
theorem getmeth_ok {m : Str} {g : Addr} {pl : Sem Bool} {Q : Value × List Value → Shared → Prop} (I : Inv X pins σ H s) (e : H a = some (.ins C dx fs)) (c : Cls X.K C) (k : Meth X.K C m g) (l : fs.lookup m = none)
    (h : Q (.ref g, [.ref a]) s) : wpAny (model X.prog X.w) A (getMethod (.ref a) m pl) Q E s := by
  obtain ⟨mA, O, r, _, _, _⟩ := ins_get I.hok e
  have hn : mA m = none := RelO.none_of (by rw [← l]; exact r m)
  exact get_meth I.kIn O (c.get m) k.at_ k.fn hn h
theorem setattr_ok {y : V} {u : Value} {Q : Unit → Shared → Prop} (I : Inv X pins σ H s) (e : H a = some (.ins C dx fs)) (c : Cls X.K C) (n : NoAttr X.K C f) (hl : fs.length < 1000) (ry : RelV y u)
    (h : ∀ s', Inv X pins σ (upd H a (.ins C dx (putF f y fs))) s' → Q () s') : wpAny (model X.prog X.w) A (setAttr (.ref a) f u) Q E s := by
  obtain ⟨mA, O, r, wi, _, ho⟩ := ins_get I.hok e
  have hz : (fs.map (·.1)).length ≤ sizeLine := by rw [List.length_map, sizeLine_eq]; omega
  refine set_map I.kIn O c.sa c.po n.taker c.hd wi hz fun h' O' sb => h _ ?_
  have hd : ∃ o, h'.get? dx = some o := let ⟨o, _, _, e', _⟩ := O'.ns; ⟨o, e'⟩
  refine I.write (x := a) (e := dx) (by rw [e]; exact True.intro) (.inr ho) (fun b q hb z => (sb.2 b hb).trans z) hd ?_
  refine ⟨by rw [upd_ne O.ne]; exact ho, ?_, O.ne, O'.obj, _, O'.ns, fun g => ?_, fun g hg => ?_⟩
  · have := length_putF f y fs; omega
  · show RelO ((putF f y fs).lookup g) (if g = f then some u else mA g)
    rw [lookup_putF]
    by_cases q : g = f
    · rw [if_pos q, if_pos q]; exact ry
    · rw [if_neg q, if_neg q]; exact r g
  · by_cases q : g = f
    · rw [q]; exact (keys_putF f y fs).1
    · refine (keys_putF f y fs).2 g (wi g fun z => hg ?_)
      show (if g = f then some u else mA g) = none
      rw [if_neg q]; exact z
theorem Inv.made (I : Inv X pins σ H s) : Inv X pins σ (upd (upd H s.heap.objs.size (.own (s.heap.objs.size + 1))) (s.heap.objs.size + 1) (.ins C s.heap.objs.size []))
    { s with heap := (s.heap.push PySem.W.emptyDict).push (PySem.W.instObj C s.heap.objs.size) } := by
  have e1 : (s.heap.push PySem.W.emptyDict).get? s.heap.objs.size = some PySem.W.emptyDict := Heap.get?_push_size s.heap rfl
  have e2 : ((s.heap.push PySem.W.emptyDict).push (PySem.W.instObj C s.heap.objs.size)).get? (s.heap.objs.size + 1) = some (PySem.W.instObj C s.heap.objs.size) := by
    have := Heap.get?_push_size (s.heap.push PySem.W.emptyDict) (o := PySem.W.instObj C s.heap.objs.size) rfl
    rwa [Heap.size_push] at this
  have e3 : (s.heap.push PySem.W.emptyDict).Ns s.heap.objs.size (fun _ => none) := ⟨PySem.W.emptyDict, #[], _, e1, rfl, (fun e he => absurd he (by simp)), fun _ => rfl⟩
  have I1 := I.laid (a := s.heap.objs.size) (o := .own (s.heap.objs.size + 1)) (h' := s.heap.push PySem.W.emptyDict) (t' := s.toks) (fun b u q => Heap.get?_push_of_some _ q) (Nat.le_refl _) ⟨_, e1⟩
  refine I1.laid (a := s.heap.objs.size + 1) (o := .ins C s.heap.objs.size []) (t' := s.toks) (fun b u q => Heap.get?_push_of_some _ q) (Nat.le_of_eq (Heap.size_push _ _)) ?_
  have ne : s.heap.objs.size ≠ s.heap.objs.size + 1 := Nat.ne_of_lt (Nat.lt_succ_self _)
  refine ⟨by rw [upd_ne ne, upd_same], Nat.zero_le _, ne, e2, fun _ => none, (Heap.Ns1.of_empty e3).at fun o q => Heap.get?_push_of_some _ q, fun _ => True.intro, fun y hy => absurd rfl hy⟩
theorem attr_of {prog : Program} {w : World} {env : Env} {e : Expr} {f : Str} {pos : Pos} {s : Shared} {Q : Value → Shared → Prop} (hb : attributeBase e f env (eval e env) = eval e env)
    (h : wpAny (model prog w) A (eval e env) (fun o s₁ => wpAny (model prog w) A (getAttr o f true) Q E s₁) E s) : wpAny (model prog w) A (eval (.Attribute e f pos) env) Q E s :=
  Attribute_any_ h (by rw [arm_eval_Attribute, hb])
end
def tFld (K : PySem.W.Frag) (ta : TE) (f : Str) : TE := fun σ H Q => ta σ H fun x H1 => ∃ a C dx fs v, x = .ref a ∧ H1 a = some (.ins C dx fs) ∧ Cls K C ∧ NoAttr K C f ∧ fs.lookup f = some v ∧ Q v H1
def sFld (K : PySem.W.Frag) (ta tv : TE) (f : Str) : TS := fun D σ H => tv σ H fun y H1 => ta σ H1 fun x H2 => ∃ a C dx fs, x = .ref a ∧ H2 a = some (.ins C dx fs) ∧ Cls K C ∧ NoAttr K C f ∧ fs.length < 1000 ∧
  D.nx σ (upd H2 a (.ins C dx (putF f y fs)))
def InOp (X : Cx) (op : Operator) (rd : V → V → Hp → VK → Prop) : Prop :=
  ∀ (pins : List (Addr × Obj)) (s : Shared) (σ : St) (H : Hp) (x y : V) (u v : Value) (Q : VK), Inv X pins σ H s → RelV x u → RelV y v → rd x y H Q → wpAny (model X.prog X.w) X.A (inplaceOp op u v) (EP X pins σ Q) X.xe s
def sFldAug (K : PySem.W.Frag) (ta tv : TE) (rd : V → V → Hp → VK → Prop) (f : Str) : TS := fun D σ H => ta σ H fun x H1 => ∃ a C dx fs v, x = .ref a ∧ H1 a = some (.ins C dx fs) ∧ Cls K C ∧ NoAttr K C f ∧ fs.lookup f = some v ∧
  tv σ H1 fun y H2 => rd v y H2 fun z H3 => ∃ dx' fs', H3 a = some (.ins C dx' fs') ∧ fs'.length < 1000 ∧ D.nx σ (upd H3 a (.ins C dx' (putF f z fs')))
section
variable {X : Cx} {o e value : Expr} {f : Str} {pos pos' tpos : Pos} {ta tv : TE}
theorem pe_fld (he : PE X e ta) (hb : attributeBase e f X.env (eval e X.env) = eval e X.env) : PE X (.Attribute e f pos) (tFld X.K ta f) := by
  intro pins s σ H Q I h
  refine attr_of hb (thn (he pins s σ H _ I h) fun u s1 ⟨x, H1, I1, rx, a, C, dx, fs, v, ex, ea, c, n, l, q⟩ => ?_)
  subst ex
  obtain rfl : u = Value.ref a := rx
  exact getattr_ok I1 ea c n l fun u' s2 I2 ru => ⟨v, H1, I2, ru, q⟩
theorem ps_fld (ha : PE X o ta) (hv : PE X value tv) (hs : swapsWith value (some (.Attribute o f pos')) pos.line X.env = pure false) : PS X (.Assign [.Attribute o f pos'] value pos) (sFld X.K ta tv f) := by
  intro pins s σ H D I h
  refine plainObj_wpAny_Assign_Attribute (thn (hv pins s σ H _ I h) fun u s1 ⟨y, H1, I1, ry, q⟩ => thn (ha pins s1 σ H1 _ I1 q) fun ov s2 ⟨x, H2, I2, rx, a, C, dx, fs, ex, ea, c, n, l, q2⟩ => ?_) hs
  subst ex
  obtain rfl : ov = Value.ref a := rx
  exact setattr_ok I2 ea c n l ry fun s3 I3 => ⟨σ, _, I3, q2⟩
theorem ps_fldaug {op : Operator} {rd : V → V → Hp → VK → Prop} (ha : PE X o ta) (hv : PE X value tv) (hop : InOp X op rd) : PS X (.AugAssign (.Attribute o f tpos) op value pos) (sFldAug X.K ta tv rd f) := by
  intro pins s σ H D I h
  refine wpAny_AugAssign_AttributeAny (thn (ha pins s σ H _ I h) fun ov s1 ⟨x, H1, I1, rx, a, C, dx, fs, v, ex, ea, c, n, l, q⟩ => ?_)
  subst ex
  obtain rfl : ov = Value.ref a := rx
  refine getattr_ok I1 ea c n l fun u s2 I2 ru => thn (hv pins s2 σ H1 _ I2 q) fun w3 s3 ⟨y, H2, I3, ry, q3⟩ => thn (hop pins s3 σ H2 v y u w3 _ I3 ru ry q3) fun w4 s4 ⟨z, H3, I4, rz, dx', fs', ea', l', q4⟩ => ?_
  exact setattr_ok I4 ea' c n l' rz fun s5 I5 => ⟨σ, _, I5, q4⟩
def rAdd : V → V → Hp → VK → Prop := fun x y H Q => ∃ i j, x = .int i ∧ y = .int j ∧ Q (.int (i + j)) H
theorem in_add : InOp X .Add rAdd := by
  rintro pins s σ H x y u v Q I rx ry ⟨i, j, rfl, rfl, q⟩
  obtain ⟨t, rfl⟩ := (show ∃ t, u = Value.int i t from rx)
  obtain ⟨t', rfl⟩ := (show ∃ t', v = Value.int j t' from ry)
  exact PyProof.Rows.iadd_int ⟨.int (i + j), H, I.tok _, ⟨_, rfl⟩, q⟩
end
section
variable {X : Cx} {pins : List (Addr × Obj)} {σ : St} {H : Hp} {s : Shared} {A : Around} {E : Value → Shared → Prop} {Q : Value → Shared → Prop} {c : Value} {b : Bool}
inductive TyOf (K : PySem.W.Frag) (H : Hp) : V → Value → Prop where
  | non : TyOf K H .non (.type "NoneType")
  | bl (x : Bool) : TyOf K H (.bl x) (.type "bool")
  | int (i : Int) : TyOf K H (.int i) (.type "int")
  | str (x : Str) : TyOf K H (.str x) (.type "str")
  | flt (x : UInt64) : TyOf K H (.flt x) (.type "float")
  | lst {a : Addr} {xs : List V} (e : H a = some (.lst xs)) : TyOf K H (.ref a) (.type "list")
  | frz {a : Addr} {o : Obj} {xs : List V} (e : H a = some (.frz o (.lst xs))) : TyOf K H (.ref a) (.type "list")
  | tup {a : Addr} {xs : List V} (e : H a = some (.tup xs)) : TyOf K H (.ref a) (.type "tuple")
  | dK {a : Addr} {kvs : List (Key × V)} (e : H a = some (.dK kvs)) : TyOf K H (.ref a) (.type "dict")
  | dT {a : Addr} {kvs : List (List Key × V)} (e : H a = some (.dT kvs)) : TyOf K H (.ref a) (.type "dict")
  | ins {a C dx : Addr} {fs : List (Str × V)} (e : H a = some (.ins C dx fs)) (cl : Cls K C) (ha : PySem.W.findIn K (.ref C) "__class__" = some (some (.builtin "object.__class__")))
      (hn : PySem.W.specialIn K (.builtin "object.__class__") "__get__" = some (some (.builtin "getset_descriptor.__get__"))) (htk : PySem.W.takesIn K (.builtin "object.__class__") = some true)
      (hm : PySem.W.mroIn K C (.type "object") = some true) : TyOf K H (.ref a) (.ref C)
end
end L2
namespace L2
open PySem PySem.Spec PyProof.Rows
structure Room (k : Nat) (A : Around) : Prop where
  hd : A.handled = none
  dp : A.depth + 3 * k + 5 < recursionLimit
  un : A.units + 16 * k + 200 < cLine
theorem Room.mono {j k : Nat} {A : Around} (r : Room k A) (h : j ≤ k) : Room j A := ⟨r.hd, by have := r.dp; omega, by have := r.un; omega⟩
theorem Room.deeper {k : Nat} {A : Around} (r : Room (k + 1) A) (env : Env) : Room k (A.deeper env) :=
  ⟨r.hd, by have := r.dp; show A.depth + 1 + 3 * k + 5 < _; omega, by have := r.un; show A.units + 3 + 16 * k + 200 < _; omega⟩
theorem make_depth {A : Around} {C : Addr} {us : List Value} {kw : List (Str × Value)} : (A.under (.builtin "type.__call__" ⟨.ref C :: us, kw⟩)).depth = A.depth + 1 := by
  first | rfl | simp [Around.under, Code.weight, Code.isCreation, Code.isGuard, Code.isCaller, Code.frames, Code.isFrame, guardIds]
theorem make_units {A : Around} {C : Addr} {us : List Value} {kw : List (Str × Value)} : (A.under (.builtin "type.__call__" ⟨.ref C :: us, kw⟩)).units = A.units + 1 := by
  first | rfl | simp [Around.under, Code.cUnits, Code.frames, Code.isFrame]
theorem Room.make {k : Nat} {A : Around} (r : Room (k + 1) A) (C : Addr) (us : List Value) (kw : List (Str × Value)) : Room k (A.under (.builtin "type.__call__" ⟨.ref C :: us, kw⟩)) :=
  ⟨r.hd, by have := r.dp; rw [make_depth]; omega, by have := r.un; rw [make_units]; omega⟩
theorem Room.depth {k : Nat} {A : Around} (r : Room k A) : A.depth < recursionLimit := by have := r.dp; omega
theorem Room.units {k : Nat} {A : Around} (r : Room k A) : A.units + 64 < cLine := by have := r.un; omega
def tNil : TA := fun _ H Q => Q [] H
def tCons (ta : TE) (tr : TA) : TA := fun σ H Q => ta σ H fun x H1 => tr σ H1 fun xs H2 => Q (x :: xs) H2
section
variable {X : Cx} {e : Expr} {es : List Expr} {te : TE} {t : TA} {pos : Pos}
theorem pa_nil : PA X [] tNil := fun _ _ _ _ H Q I h => Calls.spliced_nil ⟨[], H, I, .nil, h⟩
theorem pa_cons (ha : PE X e te) (hr : PA X es t) (hs : starEach (e :: es) X.env = (false, eval e X.env) :: starEach es X.env := by rfl) : PA X (e :: es) (tCons te t) := by
  intro pos pins s σ H Q I h
  rw [hs]
  show wpAny _ _ (spliced ((false, eval e X.env) :: backTo pos (starEach es X.env))) _ _ s
  refine Calls.spliced_cons (thn (ha pins s σ H _ I h) fun u s1 ⟨x, H1, I1, r1, q1⟩ => ?_)
  exact thn (hr pos pins s1 σ H1 _ I1 q1) fun us s2 ⟨xs, H2, I2, r2, q2⟩ => ⟨x :: xs, H2, I2, .cons r1 r2, q2⟩
def tTup (t : TA) : TE := fun σ H Q => t σ H fun xs H1 => xs.length ≤ sizeLine ∧ ∀ p, H1 p = none → Q (.ref p) (upd H1 p (.tup xs))
def tLst (t : TA) : TE := fun σ H Q => t σ H fun xs H1 => xs.length ≤ sizeLine ∧ ∀ p, H1 p = none → Q (.ref p) (upd H1 p (.lst xs))
theorem pe_tup {x1} (h : PA X es t) : PE X (.Tuple es x1 pos) (tTup t) := by
  intro pins s σ H Q I hq
  refine wpAny_Tuple_spliced (thn (h pos pins s σ H _ I hq) fun us s1 ⟨xs, H1, I1, r, z, q⟩ => ⟨by rw [← r.length]; exact z, ?_⟩)
  have hf : H1 s1.heap.objs.size = none := I1.hok.fresh (Nat.le_refl _)
  refine ⟨.ref s1.heap.objs.size, upd H1 s1.heap.objs.size (.tup xs), I1.laid (t' := s1.toks) (fun b u e => Heap.get?_push_of_some _ e) (Nat.le_refl _) ?_, rfl, q _ hf⟩
  exact ⟨z, us, r, ⟨_, Heap.get?_push_size _ rfl, rfl, _, rfl⟩⟩
theorem pe_lst (h : PA X es t) : PE X (.List es pos) (tLst t) := by
  intro pins s σ H Q I hq
  refine wpAny_List_spliced (thn (h pos pins s σ H _ I hq) fun us s1 ⟨xs, H1, I1, r, z, q⟩ => ⟨by rw [← r.length]; exact z, ?_⟩)
  have hf : H1 s1.heap.objs.size = none := I1.hok.fresh (Nat.le_refl _)
  refine ⟨.ref s1.heap.objs.size, upd H1 s1.heap.objs.size (.lst xs), I1.laid (t' := s1.toks) (fun b u e => Heap.get?_push_of_some _ e) (Nat.le_refl _) ?_, rfl, q _ hf⟩
  exact ⟨z, us, 0, r, Heap.get?_push_size _ rfl⟩
end
abbrev Sp := List V → Hp → VK → XK → Prop
abbrev CXT := List Env → Hp → Shared → XK → Value → Shared → Prop
structure Env0 (P : Program) (w : World) (K : PySem.W.Frag) (mg : Str → Option Value) (base : Heap) (A : Around) (outer : List Env) (s : Shared) (H : Hp) : Prop where
  frames : A.frames = some outer
  mod : Mod K mg base
  bs : ∀ b o, base.get? b = some o → s.heap.get? b = some o ∧ H b = none
  bsz : base.objs.size ≤ s.heap.objs.size
  funs : s.heap.FunFrames base outer
  frf : ∀ b ∈ frs outer, H b = none
  hok : HOk P w H s.heap
  bare : AllBare s.gens
def CE (outer : List Env) (P : Program) (w : World) (H : Hp) (s : Shared) (Q : VK) (u : Value) (s' : Shared) : Prop :=
  ∃ v H', s'.os = s.os ∧ AllBare s'.gens ∧ Un (frs outer) [] H H' s.heap s'.heap ∧ HOk P w H' s'.heap ∧ RelV v u ∧ Q v H'
def CR (CX : CXT) (outer : List Env) (P : Program) (w : World) (H : Hp) (s : Shared) (Q : VK) (E : XK) (r : Result) (s' : Shared) : Prop :=
  match r with
  | .ok (.ret u) => CE outer P w H s Q u s'
  | .ok _ => False
  | .error e => CX outer H s E e s'
structure FnOk (P : Program) (w : World) (K : PySem.W.Frag) (mg : Str → Option Value) (base : Heap) (CX : CXT) (k : Nat) (f : Addr) (fd : FuncData) (ps : List Str) (sp : Sp) : Prop where
  len : ∀ vs H Q E, sp vs H Q E → vs.length = ps.length
  run : ∀ (A : Around) (outer : List Env) (s : Shared) (H : Hp) (args : Args) (us : List Value) (vs : List V) (Q : VK) (E : XK), Room k A → Env0 P w K mg base A outer s H → BindsTo s fd args (ps.zip us) → Vals vs us → sp vs H Q E →
    codeAny (model P w) A (.call (.ref f) args) (CR CX outer P w H s Q E) s
theorem FnOk.mono {P : Program} {w : World} {K : PySem.W.Frag} {mg : Str → Option Value} {base : Heap} {CX : CXT} {j k : Nat} {f : Addr} {fd : FuncData} {ps : List Str} {sp : Sp} (F : FnOk P w K mg base CX j f fd ps sp) (h : j ≤ k) :
    FnOk P w K mg base CX k f fd ps sp := ⟨F.len, fun A outer s H args us vs Q E hr => F.run A outer s H args us vs Q E (hr.mono h)⟩
theorem Env0.make {P : Program} {w : World} {K : PySem.W.Frag} {mg : Str → Option Value} {base : Heap} {A : Around} {outer : List Env} {s : Shared} {H : Hp} (e : Env0 P w K mg base A outer s H) (C : Addr) (us : List Value) (kw : List (Str × Value)) :
    Env0 P w K mg base (A.under (.builtin "type.__call__" ⟨.ref C :: us, kw⟩)) outer s H := ⟨by first | exact e.frames | (simpa [Around.under, Code.envs, Code.isFrame, pushEnvs] using e.frames), e.mod, e.bs, e.bsz, e.funs, e.frf, e.hok, e.bare⟩
section
variable {X : Cx} {pins : List (Addr × Obj)} {σ : St} {H : Hp} {s s' : Shared}
theorem Inv.env0 (I : Inv X pins σ H s) : Env0 X.prog X.w X.K X.mg X.base X.A X.stack s H :=
  ⟨I.ok.frames, I.ok.mod, I.bs, Nat.le_trans I.ok.bsz I.sz, I.stack, I.stkFree, I.hok, I.bare⟩
theorem Inv.after {Q : VK} {u : Value} (I : Inv X pins σ H s) (h : CE X.stack X.prog X.w H s Q u s') : EP X pins σ Q u s' := by
  obtain ⟨v, H', os, bare, un, hok, r, q⟩ := h
  obtain ⟨hh, g, d, t, os'⟩ := s'
  obtain rfl : os' = s.os := os
  exact ⟨v, H', I.call (h' := hh) (g' := g) (d' := d) (t' := t) (ch := []) un hok bare (fun b z => absurd z (by simp)), r, q⟩
end
def tCall (sp : Sp) (dvs : List V) (E : XK) (t : TA) : TE := fun σ H Q => t σ H fun vs H1 => sp (vs ++ dvs) H1 Q E
def tMeth (C : Addr) (m : Str) (sp : Sp) (dvs : List V) (E : XK) (ta : TE) (t : TA) : TE := fun σ H Q => ta σ H fun x H1 => ∃ a dx fs, x = .ref a ∧ H1 a = some (.ins C dx fs) ∧ fs.lookup m = none ∧
  t σ H1 fun vs H2 => sp (x :: (vs ++ dvs)) H2 Q E
def tMake (C : Addr) (sp : Sp) (dvs : List V) (E : XK) (t : TA) : TE := fun σ H Q => t σ H fun vs H1 => ∀ x dx, H1 x = none → H1 dx = none → dx ≠ x →
  sp (.ref x :: (vs ++ dvs)) (upd (upd H1 dx (.own x)) x (.ins C dx [])) (fun v H2 => v = .non ∧ Q (.ref x) H2) E
def Binds (K : PySem.W.Frag) (fd : FuncData) (ps : List Str) (ds : List Value) : Prop :=
  ∀ (s : Shared) (us : List Value), K.In s.heap → (us ++ ds).length = ps.length → BindsTo s fd ⟨us, []⟩ (ps.zip (us ++ ds))
theorem Binds.all {K : PySem.W.Frag} {fd : FuncData} {ps : List Str} (h : ∀ us : List Value, us.length = ps.length → bindArgs fd ⟨us, []⟩ = pure (ps.zip us)) : Binds K fd ps [] := fun s us _ hl => by
  rw [List.append_nil] at hl ⊢
  exact .of_eq (h us hl)
def Passes (CX : CXT) (X : Cx) (E : XK) : Prop := ∀ (pins : List (Addr × Obj)) (σ : St) (H : Hp) (s : Shared) (e : Value) (s' : Shared), Inv X pins σ H s → CX X.stack H s E e s' → X.xe e s'
section
variable {X : Cx} {CX : CXT} {k : Nat} {f C : Addr} {fd : FuncData} {ps : List Str} {sp : Sp} {dvs : List V} {ds : List Value} {E : XK} {x m : Str} {p pos apos : Pos} {e o : Expr} {es : List Expr} {ta : TE} {t : TA}
theorem run_fn {pins : List (Addr × Obj)} {σ : St} {H : Hp} {s : Shared} {Q : VK} {us : List Value} {vs : List V} (F : FnOk X.prog X.w X.K X.mg X.base CX k f fd ps sp) (hr : Room k X.A) (hb : Binds X.K fd ps ds) (hd : Vals dvs ds) (hx : Passes CX X E)
    (I : Inv X pins σ H s) (r : Vals vs us) (h : sp (vs ++ dvs) H Q E) : wpAny (model X.prog X.w) X.A (call (.ref f) us) (EP X pins σ Q) X.xe s := by
  have r2 : Vals (vs ++ dvs) (us ++ ds) := r.append hd
  have hl : (us ++ ds).length = ps.length := by rw [← r2.length]; exact F.len _ _ _ _ h
  refine wpAny_call (codeAny_mono (F.run X.A X.stack s H ⟨us, []⟩ (us ++ ds) (vs ++ dvs) Q E hr I.env0 (hb s us I.kIn hl) r2 h) fun r s' hq => ?_)
  cases r with
  | error e => exact hx pins σ H s e s' I hq
  | ok fl =>
    cases fl with
    | ret u => exact I.after hq
    | next => exact False.elim hq
    | brk => exact False.elim hq
    | cont => exact False.elim hq
theorem pe_call (F : FnOk X.prog X.w X.K X.mg X.base CX k f fd ps sp) (hr : Room k X.A) (hg : Gl X x) (hm : X.mg x = some (.ref f)) (hk : PySem.W.keepIn X.K (.ref f) = true) (hb : Binds X.K fd ps ds) (hd : Vals dvs ds) (hx : Passes CX X E)
    (ha : PA X (e :: es) t) (hdb : (x == ("__debug__" : Str)) = false := by decide) (he : starEach (e :: es) X.env = (false, eval e X.env) :: starEach es X.env := by rfl) (hpl : (backTo pos (starEach es X.env)).any (·.1) = false := by rfl) :
    PE X (.Call (.Name x p) (e :: es) [] pos) (tCall sp dvs E t) := by
  intro pins s σ H Q I h
  refine wpAny_Call_Name_kw (ld_glob I hg hm ?_ hdb)
  refine PySem.W.callWith_K (h₀ := X.base) I.ok.mod.kin hk (thn (ha pos pins s σ H _ I h) fun us s1 ⟨vs, H1, I1, r, q⟩ => ⟨I1.kIn, ?_⟩) he hpl
  exact run_fn F hr hb hd hx I1 r q
theorem pe_call0 (F : FnOk X.prog X.w X.K X.mg X.base CX k f fd ps sp) (hr : Room k X.A) (hg : Gl X x) (hm : X.mg x = some (.ref f)) (hk : PySem.W.keepIn X.K (.ref f) = true) (hb : Binds X.K fd ps ds) (hd : Vals dvs ds) (hx : Passes CX X E)
    (hdb : (x == ("__debug__" : Str)) = false := by decide) : PE X (.Call (.Name x p) [] [] pos) (tCall sp dvs E tNil) := by
  intro pins s σ H Q I h
  refine wpAny_Call_Name_kw (ld_glob I hg hm ?_ hdb)
  exact PySem.W.callWith_K0 I.kIn hk (run_fn (us := []) F hr hb hd hx I .nil h)
theorem pe_meth {pl : Sem Bool} (he : PE X o ta) (c : Cls X.K C) (hm : Meth X.K C m f) (F : FnOk X.prog X.w X.K X.mg X.base CX k f fd ps sp) (hr : Room k X.A) (hb : Binds X.K fd ps ds) (hd : Vals dvs ds) (hx : Passes CX X E) (ha : PA X (e :: es) t)
    (hst : starEach (e :: es) X.env = (false, eval e X.env) :: starEach es X.env := by rfl) (hpl : (backTo pos (starEach es X.env)).any (·.1) = false := by rfl)
    (ht : eval (.Call (.Attribute o m apos) (e :: es) [] pos) X.env = (do
      let ov ← eval o X.env
      standAt apos.atName
      let (f, first) ← holding [ov] (getMethod ov m pl)
      callWith pos f first (backTo pos (starEach (e :: es) X.env)) (backToKw pos (keywordEach [] X.env))) := by rfl) :
    PE X (.Call (.Attribute o m apos) (e :: es) [] pos) (tMeth C m sp dvs E ta t) := by
  intro pins s σ H Q I h
  refine PySem.W.methodCall_KW (pl := pl) (thn (he pins s σ H _ I h) fun u s1 ⟨x, H1, I1, rx, a, dx, fs, ex, ea, l, q⟩ => ?_) ht
  subst ex
  obtain rfl : u = Value.ref a := rx
  refine getmeth_ok I1 ea c hm l ?_
  refine PySem.W.callWith_K (first := [.ref a]) (h₀ := X.base) I.ok.mod.kin hm.kp (thn (ha pos pins s1 σ H1 _ I1 q) fun us s2 ⟨vs, H2, I2, r, q2⟩ => ⟨I2.kIn, ?_⟩) hst hpl
  exact run_fn (us := .ref a :: us) (vs := .ref a :: vs) F hr hb hd hx I2 (.cons rfl r) q2
theorem pe_meth0 {pl : Sem Bool} (he : PE X o ta) (c : Cls X.K C) (hm : Meth X.K C m f) (F : FnOk X.prog X.w X.K X.mg X.base CX k f fd ps sp) (hr : Room k X.A) (hb : Binds X.K fd ps ds) (hd : Vals dvs ds) (hx : Passes CX X E)
    (ht : eval (.Call (.Attribute o m apos) [] [] pos) X.env = (do
      let ov ← eval o X.env
      standAt apos.atName
      let (f, first) ← holding [ov] (getMethod ov m pl)
      callWith pos f first (backTo pos (starEach [] X.env)) (backToKw pos (keywordEach [] X.env))) := by rfl) :
    PE X (.Call (.Attribute o m apos) [] [] pos) (tMeth C m sp dvs E ta tNil) := by
  intro pins s σ H Q I h
  refine PySem.W.methodCall_KW (pl := pl) (thn (he pins s σ H _ I h) fun u s1 ⟨x, H1, I1, rx, a, dx, fs, ex, ea, l, q⟩ => ?_) ht
  subst ex
  obtain rfl : u = Value.ref a := rx
  refine getmeth_ok I1 ea c hm l ?_
  exact PySem.W.callWith_K0 (first := [.ref a]) I1.kIn hm.kp (run_fn (us := [.ref a]) (vs := [.ref a]) F hr hb hd hx I1 (.cons rfl .nil) q)
structure Mk (K : PySem.W.Frag) (C f : Addr) : Prop where
  makes : PySem.W.makesIn K C = true
  init : PySem.W.findIn K (.ref C) "__init__" = some (some (.ref f))
  fn : PySem.W.isFn K (.ref f) = true
  kp : PySem.W.keepIn K (.ref C) = true
theorem run_make {pins : List (Addr × Obj)} {σ : St} {H : Hp} {s : Shared} {Q : VK} {us : List Value} {vs : List V} (M : Mk X.K C f) (F : FnOk X.prog X.w X.K X.mg X.base CX k f fd ps sp) (hr : Room (k + 1) X.A) (hb : Binds X.K fd ps ds) (hd : Vals dvs ds)
    (hx : Passes CX X E) (I : Inv X pins σ H s) (r : Vals vs us)
    (h : ∀ x dx, H x = none → H dx = none → dx ≠ x → sp (.ref x :: (vs ++ dvs)) (upd (upd H dx (.own x)) x (.ins C dx [])) (fun v H2 => v = .non ∧ Q (.ref x) H2) E) :
    wpAny (model X.prog X.w) X.A (call (.ref C) us) (EP X pins σ Q) X.xe s := by
  have hq := h (s.heap.objs.size + 1) s.heap.objs.size (I.hok.fresh (Nat.le_succ _)) (I.hok.fresh (Nat.le_refl _)) (Nat.ne_of_lt (Nat.lt_succ_self _))
  have I2 := Inv.made (C := C) I
  have r2 : Vals (V.ref (s.heap.objs.size + 1) :: (vs ++ dvs)) (Value.ref (s.heap.objs.size + 1) :: (us ++ ds)) := .cons rfl (r.append hd)
  have hl : (Value.ref (s.heap.objs.size + 1) :: us ++ ds).length = ps.length := by
    have e := r2.length
    rw [F.len _ _ _ _ hq] at e
    exact e.symm
  refine wpAny_call (make_map (f := f) I.kIn M.makes M.init (beq_iff_eq.mp M.fn) (codeAny_mono (F.run _ X.stack _ _ ⟨Value.ref (s.heap.objs.size + 1) :: us, []⟩ (Value.ref (s.heap.objs.size + 1) :: (us ++ ds)) _ _ E (hr.make C us [])
    (I2.env0.make C us []) (hb _ (Value.ref (s.heap.objs.size + 1) :: us) I2.kIn hl) r2 hq) fun r s' hq' => ?_))
  cases r with
  | error e => exact hx pins σ _ _ e s' I2 hq'
  | ok fl =>
    cases fl with
    | ret u =>
      obtain ⟨v, H', I3, rv, ev, q3⟩ := I2.after hq'
      subst ev
      exact ⟨rv, ⟨V.ref (s.heap.objs.size + 1), H', I3, rfl, q3⟩⟩
    | next => exact False.elim hq'
    | brk => exact False.elim hq'
    | cont => exact False.elim hq'
theorem pe_make (M : Mk X.K C f) (F : FnOk X.prog X.w X.K X.mg X.base CX k f fd ps sp) (hr : Room (k + 1) X.A) (hg : Gl X x) (hm : X.mg x = some (.ref C)) (hb : Binds X.K fd ps ds) (hd : Vals dvs ds) (hx : Passes CX X E)
    (ha : PA X (e :: es) t) (hdb : (x == ("__debug__" : Str)) = false := by decide) (he : starEach (e :: es) X.env = (false, eval e X.env) :: starEach es X.env := by rfl) (hpl : (backTo pos (starEach es X.env)).any (·.1) = false := by rfl) :
    PE X (.Call (.Name x p) (e :: es) [] pos) (tMake C sp dvs E t) := by
  intro pins s σ H Q I h
  refine wpAny_Call_Name_kw (ld_glob I hg hm ?_ hdb)
  refine PySem.W.callWith_K (h₀ := X.base) I.ok.mod.kin M.kp (thn (ha pos pins s σ H _ I h) fun us s1 ⟨vs, H1, I1, r, q⟩ => ⟨I1.kIn, ?_⟩) he hpl
  exact run_make M F hr hb hd hx I1 r q
theorem pe_make0 (M : Mk X.K C f) (F : FnOk X.prog X.w X.K X.mg X.base CX k f fd ps sp) (hr : Room (k + 1) X.A) (hg : Gl X x) (hm : X.mg x = some (.ref C)) (hb : Binds X.K fd ps ds) (hd : Vals dvs ds) (hx : Passes CX X E)
    (hdb : (x == ("__debug__" : Str)) = false := by decide) : PE X (.Call (.Name x p) [] [] pos) (tMake C sp dvs E tNil) := by
  intro pins s σ H Q I h
  refine wpAny_Call_Name_kw (ld_glob I hg hm ?_ hdb)
  exact PySem.W.callWith_K0 I.kIn M.kp (run_make (us := []) M F hr hb hd hx I .nil h)
end
section
variable {X : Cx} {CX : CXT} {k : Nat} {f C : Addr} {fd : FuncData} {ps ks : List Str} {sp : Sp} {E : XK} {x m : Str} {p pos apos kpos : Pos} {e o : Expr} {es : List Expr} {kws : List Keyword} {te ta : TE} {t tk : TA} {nm : Option Str}
structure KBinds (K : PySem.W.Frag) (fd : FuncData) (ps ks : List Str) (g : List Value → List Value → List Value) (gV : List V → List V → List V) : Prop where
  to : ∀ (s : Shared) (us ws : List Value), K.In s.heap → (g us ws).length = ps.length → BindsTo s fd ⟨us, ks.zip ws⟩ (ps.zip (g us ws))
  rel : ∀ {vs : List V} {us : List Value} {zs : List V} {ws : List Value}, Vals vs us → Vals zs ws → Vals (gV vs zs) (g us ws)
variable {g : List Value → List Value → List Value} {gV : List V → List V → List V}
end
structure FnScope (N P : List Str) (sc : Scope) : Prop where
  kind : sc.kind = .function
  co : sc.isCoroutine = false
  gen : sc.isGenerator = false
  nd : N.Nodup
  pre : N.take P.length = P
  par : ∀ x ∈ P, sc.names.lookup x = some .local ∨ sc.names.lookup x = some .cell
  nofree : ∀ y ∈ sc.names, y.2 ≠ .free
theorem bindL_out {kindOf : Str → Option NameKind} {x : Str} : ∀ {binds : List (Str × Value)} {m : Str → Option Value}, (∀ v, (x, v) ∉ binds) → bindL kindOf binds m x = m x
  | [], _, _ => rfl
  | (n, v) :: r, m, h => by
    unfold bindL
    rw [bindL_out fun w hw => h w (List.mem_cons_of_mem _ hw)]
    split
    · have : x ≠ n := by rintro rfl; exact h v List.mem_cons_self
      simp [this]
    · rfl
theorem bindC_out {kindOf : Str → Option NameKind} {x : Str} : ∀ {binds : List (Str × Value)} {m : Str → Option Value}, (∀ v, (x, v) ∉ binds) → bindC kindOf binds m x = m x
  | [], _, _ => rfl
  | (n, v) :: r, m, h => by
    unfold bindC
    rw [bindC_out fun w hw => h w (List.mem_cons_of_mem _ hw)]
    split
    · rfl
    · have : x ≠ n := by rintro rfl; exact h v List.mem_cons_self
      simp [this]
theorem bindL_get {kindOf : Str → Option NameKind} {x : Str} {v : Value} : ∀ {P : List Str} {vs : List Value} {i : Nat} {m : Str → Option Value}, P.Nodup → P[i]? = some x → vs[i]? = some v → kindOf x = some .local →
    bindL kindOf (P.zip vs) m x = some v
  | [], _, _, _, _, h, _, _ => by simp at h
  | _ :: _, [], _, _, _, _, h, _ => by simp at h
  | p :: P, w :: vs, 0, m, nd, h1, h2, hk => by
    simp at h1 h2; subst h1; subst h2
    show bindL kindOf ((p, w) :: P.zip vs) m p = _
    unfold bindL
    rw [bindL_out fun v hv => (List.nodup_cons.mp nd).1 (List.of_mem_zip hv).1, if_pos hk]
    simp
  | p :: P, w :: vs, i + 1, m, nd, h1, h2, hk => by
    show bindL kindOf ((p, w) :: P.zip vs) m x = _
    unfold bindL
    exact bindL_get (i := i) (List.nodup_cons.mp nd).2 (by simpa using h1) (by simpa using h2) hk
theorem bindC_get {kindOf : Str → Option NameKind} {x : Str} {v : Value} : ∀ {P : List Str} {vs : List Value} {i : Nat} {m : Str → Option Value}, P.Nodup → P[i]? = some x → vs[i]? = some v → kindOf x ≠ some .local →
    bindC kindOf (P.zip vs) m x = some v
  | [], _, _, _, _, h, _, _ => by simp at h
  | _ :: _, [], _, _, _, _, h, _ => by simp at h
  | p :: P, w :: vs, 0, m, nd, h1, h2, hk => by
    simp at h1 h2; subst h1; subst h2
    show bindC kindOf ((p, w) :: P.zip vs) m p = _
    unfold bindC
    rw [bindC_out fun v hv => (List.nodup_cons.mp nd).1 (List.of_mem_zip hv).1, if_neg hk]
    simp
  | p :: P, w :: vs, i + 1, m, nd, h1, h2, hk => by
    show bindC kindOf ((p, w) :: P.zip vs) m x = _
    unfold bindC
    exact bindC_get (i := i) (List.nodup_cons.mp nd).2 (by simpa using h1) (by simpa using h2) hk
def start (N : List Str) (vs : List V) : St := vs.map some ++ List.replicate (N.length - vs.length) none
def cxOf (CX : CXT) (P : Program) (w : World) (K : PySem.W.Frag) (mg : Str → Option Value) (base : Heap) (N : List Str) (qual : Str) (scope : Scope) (f : Addr) (cd : Value) (A : Around) (outer : List Env) (s : Shared) (H : Hp) (E : XK) : Cx where
  prog := P
  w := w
  K := K
  mg := mg
  base := base
  A := A.deeper (envOfC qual scope s.heap.objs.size f cd)
  N := N
  s_0 := s
  H_0 := H
  env := envOfC qual scope s.heap.objs.size f cd
  outer := outer
  stack := envOfC qual scope s.heap.objs.size f cd :: outer
  ex := []
  calm := true
  fn := fun _ => true
  pn := []
  xe := fun e s' => wpAny (model P w) (A.deeper (envOfC qual scope s.heap.objs.size f cd)) (leaving (envOfC qual scope s.heap.objs.size f cd) e) (fun _ s'' => CX outer H s E e s'') (fun e' s'' => CX outer H s E e' s'') s'
theorem cell_has {sc : Scope} {n : Nat} {x : Str} (h : sc.names.lookup x = some .cell) : ∃ c, (cellsFrom n sc.names []).lookup x = some c := by
  have q := PySem.W.cellsFrom_some sc.names n [] (.inl h)
  exact Option.isSome_iff_exists.mp q
theorem inv_start {CX : CXT} {P : Program} {w : World} {K : PySem.W.Frag} {mg : Str → Option Value} {base : Heap} {N ps : List Str} {qual : Str} {scope : Scope} {f : Addr} {cd : Value} {A : Around} {outer : List Env} {s s1 : Shared} {H : Hp} {E : XK} {us : List Value} {vs : List V}
    (S : FnScope N ps scope) (hd : A.handled = none) (e0 : Env0 P w K mg base A outer s H) (hl : vs.length = ps.length) (r : Vals vs us)
    (x : InCallC s s.heap.objs.size (bindL (envOfC qual scope s.heap.objs.size f cd).kindOf (ps.zip us) fun _ => none) (cellsFrom (s.heap.objs.size + 1) scope.names []) (bindC (envOfC qual scope s.heap.objs.size f cd).kindOf (ps.zip us) fun _ => none) s1) :
    Inv (cxOf CX P w K mg base N qual scope f cd A outer s H E) [] (start N vs) H s1 := by
  have hpl : ps.length ≤ N.length := by have := congrArg List.length S.pre; rw [List.length_take] at this; omega
  obtain ⟨h1, tk, rfl, hk⟩ := x.done
  have noA : ∀ b : Addr, b ∉ (cxOf CX P w K mg base N qual scope f cd A outer s H E).ex := fun b z => absurd (show b ∈ ([] : List Addr) from z) (by simp)
  refine ⟨⟨e0.mod, S.kind, rfl, rfl, Nat.le_refl _, fun y z c h1 h2 => ?_, fun y hy => ?_, fun y c _ h => ?_, fun _ => hd, Around.frames_deeper e0.frames, .inr ⟨rfl, rfl⟩, fun b z => absurd z (noA b), e0.bs, e0.bsz, fun b _ _ => noA b, fun b z => absurd z (noA b), e0.funs, e0.frf⟩,
    rfl, e0.bare, Un.kept hk, ⟨_, x.toInCall.ns, fun i y v h1 h2 h3 => ?_⟩, fun y c h => ⟨_, x.cell y c h⟩, e0.hok.fresh (Nat.le_refl _), fun y c h => ?_, fun p hp => absurd (show p ∈ ([] : List (Addr × Obj)) from hp) (by simp), e0.hok.kept hk, ?_⟩
  · exact name_of_addr x.apart (PySem.mem_of_lookup h1) (PySem.mem_of_lookup h2)
  · have hy : scope.names.lookup y = some .cell ∨ scope.names.lookup y = some .free := hy
    rcases hy with hy | hy
    · exact cell_has hy
    · exact absurd rfl (S.nofree _ (PySem.mem_of_lookup hy))
  · exact Nat.le_of_lt (x.above y c (PySem.mem_of_lookup h))
  · have hi : i < vs.length := by
      unfold start at h2
      by_cases hi : i < vs.length
      · exact hi
      · rw [List.getElem?_append_right (by simpa using hi)] at h2
        rw [List.getElem?_replicate] at h2
        split at h2 <;> cases h2
    have ha : vs[i]? = some v := by
      unfold start at h2
      rw [List.getElem?_append_left (by simpa using hi), List.getElem?_map] at h2
      cases e : vs[i]? with
      | none => rw [e] at h2; cases h2
      | some a => rw [e] at h2; cases h2; rfl
    obtain ⟨u, hu, rv⟩ := r.get ha
    have hp : ps[i]? = some y := by
      rw [← S.pre, List.getElem?_take_of_lt (by omega)]; exact h1
    have ndP : ps.Nodup := by rw [← S.pre]; exact S.nd.sublist (List.take_sublist _ _)
    refine ⟨u, rv, ?_⟩
    rcases S.par y (List.mem_of_getElem? hp) with k | k
    · exact .inl ⟨k, bindL_get ndP hp hu k⟩
    · obtain ⟨c, e⟩ := cell_has (n := s.heap.objs.size + 1) k
      refine .inr ⟨.inl k, c, e, ?_⟩
      have q := x.cell y c e
      rw [bindC_get ndP hp hu (by show scope.names.lookup y ≠ _; rw [k]; decide)] at q
      exact q
  · exact e0.hok.fresh (Nat.le_of_lt (x.above y c (PySem.mem_of_lookup h)))
  · unfold start
    show _ = N.length
    rw [List.length_append, List.length_map, List.length_replicate]
    omega
theorem fn_of {CX : CXT} {P : Program} {w : World} {K : PySem.W.Frag} {mg : Str → Option Value} {base : Heap} {k : Nat} {f : Addr} {name qual : Str} {params : Arguments} {body : List Stmt} {scope : Scope} {dV kV doc pm cdv ct oc : Value} {an od : Option Addr}
    {osl : Array (Option Value)} {N ps : List Str} {sp : Sp} (lk : K.lookup f = some ⟨oc, od, .func (PySem.W.fnOf name qual params body scope dV kV doc pm an cdv ct), osl⟩) (hcd : PySem.W.codeIn K cdv qual = true) (S : FnScope N ps scope)
    (len : ∀ vs H Q E, sp vs H Q E → vs.length = ps.length)
    (hbody : ∀ (A : Around) (outer : List Env) (s : Shared) (H : Hp) (vs : List V) (Q : VK) (E : XK), Room k (A.deeper (envOfC qual scope s.heap.objs.size f cdv)) → sp vs H Q E →
      ∃ t, PSs (cxOf CX P w K mg base N qual scope f cdv A outer s H E) body t ∧ t { nx := fun _ H' => Q .non H', rt := Q } (start N vs) H) :
    FnOk P w K mg base CX (k + 1) f (PySem.W.fnOf name qual params body scope dV kV doc pm an cdv ct) ps sp := by
  refine ⟨len, fun A outer s H args us vs Q E hr e0 hb r hsp => ?_⟩
  have hl := len _ _ _ _ hsp
  have KX : K.In s.heap := e0.mod.kin.keeps fun b o e => (e0.bs b o e).1
  have lim : s.heap.NoLimit := e0.mod.nolimit.keeps fun b o e => (e0.bs b o e).1
  have hkind : ∀ y ∈ ps.zip us, scope.names.lookup y.1 = some .local ∨ (scope.names.lookup y.1 = some .cell ∧ ((cellsFrom (s.heap.objs.size + 1) scope.names []).lookup y.1).isSome = true) := fun ⟨n, v⟩ hy => by
    rcases S.par n (List.of_mem_zip hy).1 with q | q
    · exact .inl q
    · exact .inr ⟨q, PySem.W.cellsFrom_some _ _ _ (.inl q)⟩
  refine codeAny_call_function hr.depth (KX _ _ lk) rfl S.co S.gen rfl (PySem.W.codeRec_of KX hcd) (hb _ _ _ _ ?_)
  refine wpAny_newFunctionEnv_cells S.kind hkind fun env he s1 x => ?_
  subst he
  refine ⟨lim.keeps x.toInCall.keep, codeAny_func ?_⟩
  obtain ⟨t, ht, hq⟩ := hbody A outer s H vs Q E (hr.deeper _) hsp
  have I : Inv (cxOf CX P w K mg base N qual scope f cdv A outer s H E) [] (start N vs) H s1 := inv_start S hr.hd e0 hl r x
  refine wpAny_mono (ht [] s1 (start N vs) H _ I hq) (fun fl s' hs => ?_) fun e s' hs => hs
  have fin : ∀ {σ' : St} {H' : Hp} {v : V} {u : Value}, Inv (cxOf CX P w K mg base N qual scope f cdv A outer s H E) [] σ' H' s' → RelV v u → Q v H' → CE outer P w H s Q u s' :=
    fun {σ' H' v u} J rv q => ⟨v, H', J.os, J.bare, J.base, J.hok, rv, q⟩
  cases fl with
  | ret u =>
    obtain ⟨v, σ', H', J, rv, q⟩ := hs
    exact fin J rv q
  | next =>
    obtain ⟨σ', H', J, q⟩ := hs
    exact fin (v := V.non) (u := Value.none) J rfl q
  | brk =>
    obtain ⟨_, _, _, q⟩ := hs
    exact False.elim q
  | cont =>
    obtain ⟨_, _, _, q⟩ := hs
    exact False.elim q
end L2
namespace L2
open PySem PySem.Spec PyProof.Rows
section
variable {X : Cx} {x : Str} {p pos : Pos} {e : Expr} {es : List Expr} {t : TA} {id T : String} {r : List V → Hp → VK → Prop}
def tCB (r : List V → Hp → VK → Prop) (t : TA) : TE := fun σ H Q => t σ H fun vs H1 => r vs H1 Q
theorem pe_callB (hc : CallR X (.builtin id) r) (hg : Gl X x) (hm : X.mg x = none) (hv : bootBuiltins x = some (.builtin id)) (ha : PA X (e :: es) t) (hn : x ≠ "__name__" := by decide) (hdb : (x == ("__debug__" : Str)) = false := by decide)
    (he : starEach (e :: es) X.env = (false, eval e X.env) :: starEach es X.env := by rfl) (hpl : (backTo pos (starEach es X.env)).any (·.1) = false := by rfl) : PE X (.Call (.Name x p) (e :: es) [] pos) (tCB r t) := by
  intro pins s σ H Q I h
  refine wpAny_Call_Name_kw (ld_blt I hg hm hv ?_ hn hdb)
  exact PyProof.Rows.callWith_builtin1 (thn (ha pos pins s σ H _ I h) fun us s1 ⟨vs, H1, I1, r1, q1⟩ => hc pins s1 σ H1 vs us Q I1 r1 q1) he hpl
theorem pe_callTy (hc : CallR X (.type T) r) (hg : Gl X x) (hm : X.mg x = none) (hv : bootBuiltins x = some (.type T)) (ha : PA X (e :: es) t) (hn : x ≠ "__name__" := by decide) (hdb : (x == ("__debug__" : Str)) = false := by decide)
    (he : starEach (e :: es) X.env = (false, eval e X.env) :: starEach es X.env := by rfl) (hpl : (backTo pos (starEach es X.env)).any (·.1) = false := by rfl) : PE X (.Call (.Name x p) (e :: es) [] pos) (tCB r t) := by
  intro pins s σ H Q I h
  refine wpAny_Call_Name_kw (ld_blt I hg hm hv ?_ hn hdb)
  exact PyProof.Rows.callWith_type1 (thn (ha pos pins s σ H _ I h) fun us s1 ⟨vs, H1, I1, r1, q1⟩ => hc pins s1 σ H1 vs us Q I1 r1 q1) he hpl
end
end L2
namespace HT
open PySem PyProof.Rows
section
open PySem.SeqAt
open PySem.AutoSeq1 (wpAny_loadPart')
open PySem.MeetsSeq PySem.MeetsSeq2 PySem.MeetsSeq3
end
section
variable {prog : Program} {w : World} {A : Around} {E : Value → Shared → Prop} {s : Shared}
def sIx (n d : Nat) : Option Int → Nat
  | none => d
  | some v => if v < 0 then (v + (n : Int)).toNat else min v.toNat n
theorem sIx_none (n d : Nat) : sIx n d none = d := rfl
theorem sIx_nat (n d k : Nat) : sIx n d (some (k : Int)) = min k n := by
  show (if (k : Int) < 0 then ((k : Int) + (n : Int)).toNat else min (k : Int).toNat n) = min k n
  rw [if_neg (by omega), Int.toNat_natCast]
theorem sIx_le (n d : Nat) (hd : d ≤ n) (o : Option Int) : sIx n d o ≤ n := by
  cases o with
  | none => exact hd
  | some v =>
    show (if v < 0 then (v + (n : Int)).toNat else min v.toNat n) ≤ n
    by_cases hv : v < 0
    · rw [if_pos hv]; omega
    · rw [if_neg hv]; exact Nat.min_le_right _ _
theorem clip_eq (v : Int) (n d : Nat) : (if v < 0 then max (v + (n : Int)) 0 else min v (n : Int)) = ((sIx n d (some v) : Nat) : Int) := by
  show (if v < 0 then max (v + (n : Int)) 0 else min v (n : Int)) = (((if v < 0 then (v + (n : Int)).toNat else min v.toNat n) : Nat) : Int)
  by_cases hv : v < 0
  · simp only [if_pos hv]; omega
  · simp only [if_neg hv]; omega
theorem adjust_gen (lo hi : Option Int) (n : Nat) : Builtin.Slice.sliceAdjust lo hi 1 (n : Int) = (((sIx n 0 lo : Nat) : Int), ((sIx n n hi : Nat) : Int)) := by
  have h1 : ¬ ((1 : Int) < 0) := by omega
  unfold Builtin.Slice.sliceAdjust
  simp only [h1, if_false]
  refine Prod.ext ?_ ?_
  · cases lo with
    | none => rfl
    | some v => exact clip_eq v n 0
  · cases hi with
    | none => rfl
    | some v => exact clip_eq v n n
theorem places_gen (i j : Nat) : Builtin.Slice.slicePlaces (i : Int) (j : Int) 1 = j - i := by
  unfold Builtin.Slice.slicePlaces
  have h1 : (1 : Int) > 0 := by omega
  simp only [h1, if_true, Int.ediv_one]
  split <;> omega
theorem slicePart_ {v : Value} {o : Option Int} {Q : Option Int → Shared → Prop} (p : IsPart v o) (h : Q o s) : wpAny (model prog w) A (Builtin.Slice.slicePartIndex v) Q E s := by
  cases p with
  | none => exact slicePart_none h
  | int i t => exact slicePart_int h
theorem sliceApplied_gen {sl : Addr} {vl vu : Value} {lo hi : Option Int} {n : Nat} {Q : Int × Int × Nat → Shared → Prop} (hs : s.heap.IsSliceOf sl vl vu .none) (pl : IsPart vl lo) (pu : IsPart vu hi)
    (h : Q (((sIx n 0 lo : Nat) : Int), 1, sIx n n hi - sIx n 0 lo) s) : wpAny (model prog w) A (Builtin.Slice.sliceApplied (.ref sl) (pure (n : Int))) Q E s := by
  obtain ⟨os, hos, hcs, hds⟩ := id hs
  unfold Builtin.Slice.sliceApplied Builtin.Slice.sliceFields
  refine wpAny_bind (wpAny_bind (wpAny_field hos hds (x := vl) rfl (wpAny_bind (wpAny_field hos hds (x := vu) rfl (wpAny_bind (wpAny_field hos hds (x := .none) rfl (wpAny_pure ?_)))))))
  refine wpAny_bind (slicePart_none ?_)
  show wpAny _ _ (if ((1 : Int) == 0) = true then _ else _) _ _ s
  rw [if_neg (by decide)]
  refine wpAny_bind (slicePart_ pl (wpAny_bind (slicePart_ pu (wpAny_bind (wpAny_pure ?_)))))
  show wpAny _ _ (match Builtin.Slice.sliceAdjust lo hi 1 (n : Int) with | (lo, hi) => pure (lo, (1 : Int), Builtin.Slice.slicePlaces lo hi 1)) _ _ s
  rw [adjust_gen lo hi n]
  show wpAny _ _ (pure (((sIx n 0 lo : Nat) : Int), (1 : Int), Builtin.Slice.slicePlaces ((sIx n 0 lo : Nat) : Int) ((sIx n n hi : Nat) : Int) 1)) _ _ s
  rw [places_gen]
  exact wpAny_pure h
theorem pick_gen (xs : Array Value) (i k : Nat) : ((List.range k).filterMap fun (m : Nat) => xs[((i : Int) + (m : Int) * 1).toNat]?).toArray = ((xs.toList.drop i).take k).toArray := by
  have e : (fun (m : Nat) => xs[((i : Int) + (m : Int) * 1).toNat]?) = fun m => xs[i + m]? := by
    funext m
    have : ((i : Int) + (m : Int) * 1).toNat = i + m := by omega
    rw [this]
  rw [e]
  have := pick_run xs i k
  rw [List.filterMap_map] at this
  have e2 : ((fun x => xs[x]?) ∘ fun x => i + x) = fun m => xs[i + m]? := rfl
  rw [e2] at this
  rw [this]
theorem getItem_tuple_cut {t sl : Addr} {items : Array Value} {vl vu : Value} {lo hi : Option Int} {Q : Value → Shared → Prop} (ht : IsTup s.heap t items) (hs : s.heap.IsSliceOf sl vl vu .none) (pl : IsPart vl lo) (pu : IsPart vu hi)
    (hw : ¬ (sIx items.size 0 lo = 0 ∧ sIx items.size items.size hi = items.size))
    (h : Q (.ref s.heap.objs.size) { s with heap := s.heap.push { cls := .type "tuple", data := .seq ((items.toList.drop (sIx items.size 0 lo)).take (sIx items.size items.size hi - sIx items.size 0 lo)).toArray } })
    (hsz : items.size ≤ sizeLine) : wpAny (model prog w) A (getItem (.ref t) (.ref sl)) Q E s := by
  have htake : sizeOk (.seq ((items.toList.drop (sIx items.size 0 lo)).take (sIx items.size items.size hi - sIx items.size 0 lo)).toArray) := by
    show ((items.toList.drop (sIx items.size 0 lo)).take (sIx items.size items.size hi - sIx items.size 0 lo)).toArray.size ≤ sizeLine
    rw [List.size_toArray, List.length_take, List.length_drop, Array.length_toList]
    omega
  have hj : sIx items.size items.size hi ≤ items.size := sIx_le _ _ (Nat.le_refl _) hi
  obtain ⟨os, hos, hcs, hds⟩ := id hs
  have hTs : s.TypeIs (.ref sl) "slice" := ⟨os, hos, hcs⟩
  unfold getItem
  try with_reducible refine wpAny_holding ?_
  first | refine wpAny_bind (wpAny_pure ?_) | skip
  refine wpAny_bind (wpAny_sequenceKey ht.typeIs (by decide) ?_)
  refine wpAny_bind (wpAny_callSpecial?_slot (name := Str.ofString "__getitem__") ht.typeIs PyProof.Rows.slot_tuple_getitem
    (wpAny_call_entry PyProof.Rows.slot_tuple_getitem ht.typeIs entry_tuple_getitem ?_ (args_tuple_getitem _ _)))
  show wpAny _ _ (Builtin.Tuple.tupleItemsOf (.ref t) >>= _) _ _ s
  refine wpAny_bind (tupleItemsOf_ ht ?_)
  refine wpAny_bind (wpAny_typeOf hTs ?_)
  rw [if_pos (by decide)]
  refine wpAny_bind (sliceApplied_gen hs pl pu ?_)
  have hno : ¬ ((((sIx items.size 0 lo : Nat) : Int) == 0 && (1 : Int) == 1 && (sIx items.size items.size hi - sIx items.size 0 lo) == items.size) = true) := by
    intro q
    rw [Bool.and_eq_true, Bool.and_eq_true] at q
    have q1 : ((sIx items.size 0 lo : Nat) : Int) = 0 := eq_of_beq q.1.1
    have q2 : sIx items.size items.size hi - sIx items.size 0 lo = items.size := eq_of_beq q.2
    exact hw ⟨by omega, by omega⟩
  show wpAny _ _ (if (((sIx items.size 0 lo : Nat) : Int) == 0 && (1 : Int) == 1 && (sIx items.size items.size hi - sIx items.size 0 lo) == items.size) = true then _ else _) _ _ s
  rw [if_neg hno, pick_gen]
  first
    | exact wpAny_bind (m := Builtin.Tuple.tupleExact _) (wpAny_newObj_type (wpAny_pure ⟨_, rfl, wpAny_pure h⟩) htake)
    | exact wpAny_bind (m := Builtin.Tuple.tupleExact _) (wpAny_newObj_type (wpAny_bind (wpAny_pure (wpAny_pure ⟨_, rfl, wpAny_pure h⟩))) htake)
    | exact wpAny_bind (wpAny_bind (m := Builtin.Tuple.tupleExact _) (wpAny_newObj_type (wpAny_pure (wpAny_pure ⟨_, rfl, wpAny_pure h⟩)) htake))
    | exact wpAny_bind (wpAny_bind (m := Builtin.Tuple.tupleExact _) (wpAny_newObj_type (wpAny_pure ⟨_, rfl, wpAny_pure h⟩) htake))
end
end HT
namespace L2
open PySem PySem.Spec PyProof.Rows
abbrev TO := St → Hp → (Option Int → Hp → Prop) → Prop
def PO (X : Cx) (e : Option Expr) (t : TO) : Prop :=
  ∀ (pins : List (Addr × Obj)) (s : Shared) (σ : St) (H : Hp) (Q : Option Int → Hp → Prop), Inv X pins σ H s → t σ H Q →
    wpAny (model X.prog X.w) X.A (evalPart e X.env) (fun u s' => ∃ o H', Inv X pins σ H' s' ∧ IsPart u o ∧ Q o H') X.xe s
def tNoPart : TO := fun _ H Q => Q none H
def tPart (t : TE) : TO := fun σ H Q => t σ H fun x H1 => ∃ i, x = .int i ∧ Q (some i) H1
section
variable {X : Cx} {e : Expr} {te : TE} {lo hi : Option Expr} {tl th : TO} {pos p2 : Pos}
theorem po_none : PO X none tNoPart := by
  intro pins s σ H Q I h
  rw [evalPart_none]
  exact wpAny_pure ⟨none, H, I, .none, h⟩
theorem po_some (h : PE X e te) : PO X (some e) (tPart te) := by
  intro pins s σ H Q I hw
  rw [evalPart_some]
  refine thn (h pins s σ H _ I hw) fun u s1 ⟨x, H1, I1, r1, q1⟩ => ?_
  obtain ⟨i, rfl, q⟩ := q1
  obtain ⟨t, rfl⟩ := r1
  exact ⟨some i, H1, I1, .int i t, q⟩
def SlR (X : Cx) (r : V → Option Int → Option Int → Hp → VK → Prop) : Prop :=
  ∀ (pins : List (Addr × Obj)) (s : Shared) (σ : St) (H : Hp) (x : V) (v vl vu : Value) (lo hi : Option Int) (sl : Addr) (Q : VK), Inv X pins σ H s → RelV x v → s.heap.IsSliceOf sl vl vu .none → IsPart vl lo → IsPart vu hi → r x lo hi H Q →
    ∃ T id, typeLookup (.type T) "__getitem__" = pure (some (.builtin id)) ∧ s.TypeIs v T ∧ wpAny (model X.prog X.w) X.A (getItem v (.ref sl)) (EP X pins σ Q) X.xe s
theorem SlR.or {r r' : V → Option Int → Option Int → Hp → VK → Prop} (h : SlR X r) (h' : SlR X r') : SlR X (fun x lo hi H Q => r x lo hi H Q ∨ r' x lo hi H Q) := by
  intro pins s σ H x v vl vu lo hi sl Q I rx hs pl pu q
  rcases q with q | q
  · exact h pins s σ H x v vl vu lo hi sl Q I rx hs pl pu q
  · exact h' pins s σ H x v vl vu lo hi sl Q I rx hs pl pu q
def tSl (r : V → Option Int → Option Int → Hp → VK → Prop) (te : TE) (tl th : TO) : TE := fun σ H Q => te σ H fun x H1 => tl σ H1 fun l H2 => th σ H2 fun u H3 => r x l u H3 Q
theorem pe_slice {r : V → Option Int → Option Int → Hp → VK → Prop} (hr : SlR X r) (he : PE X e te) (hl : PO X lo tl) (hu : PO X hi th) : PE X (.Subscript e (.Slice lo hi none p2) pos) (tSl r te tl th) := by
  intro pins s σ H Q I h
  refine Subscript_ (thn (he pins s σ H _ I h) fun v s1 ⟨x, H1, I1, r1, q1⟩ => ?_)
  refine wpAny_Slice (thn (hl pins s1 σ H1 _ I1 q1) fun vl s2 ⟨l, H2, I2, pl, q2⟩ => thn (hu pins s2 σ H2 _ I2 q2) fun vu s3 ⟨u, H3, I3, pu, q3⟩ => ?_)
  rw [evalPart_none]
  refine wpAny_pure ?_
  have I4 : Inv X pins σ H3 { s3 with heap := s3.heap.push { cls := .type "slice", data := .fields #[vl, vu, .none] } } := I3.kept (t' := s3.toks) fun b ob q => Heap.get?_push_of_some _ q
  obtain ⟨T, id, hT, ht, hg⟩ := hr pins { s3 with heap := s3.heap.push { cls := .type "slice", data := .fields #[vl, vu, .none] } } σ H3 x v vl vu l u s3.heap.objs.size Q I4 r1 (Heap.IsSliceOf.new ..) pl pu q3
  show wpAny (model X.prog X.w) X.A (subscriptTail e (.Slice lo hi none p2) v (.ref s3.heap.objs.size)) (EP X pins σ Q) X.xe { s3 with heap := s3.heap.push { cls := .type "slice", data := .fields #[vl, vu, .none] } }
  exact tail_any (ops := [.ref s3.heap.objs.size, v]) ht hT hg (by with_unfolding_all rfl)
def cutV (xs : List V) (lo hi : Option Int) : List V := (xs.drop (HT.sIx xs.length 0 lo)).take (HT.sIx xs.length xs.length hi - HT.sIx xs.length 0 lo)
theorem cutV_length (xs : List V) (lo hi : Option Int) : (cutV xs lo hi).length ≤ xs.length := by
  unfold cutV
  rw [List.length_take, List.length_drop]
  omega
def rSlT (K : PySem.W.Frag) : V → Option Int → Option Int → Hp → VK → Prop := fun x lo hi H Q => ∃ a xs, x = .ref a ∧ SqT K H a xs ∧
  ¬ (HT.sIx xs.length 0 lo = 0 ∧ HT.sIx xs.length xs.length hi = xs.length) ∧ ∀ p, H p = none → Q (.ref p) (upd H p (.tup (cutV xs lo hi)))
theorem sl_tup : SlR X (rSlT X.K) := by
  intro pins s σ H x v vl vu lo hi sl Q I rx hs pl pu h
  obtain ⟨a, xs, rfl, hx, hw, q⟩ := h
  cases rx
  obtain ⟨its, r, ht, hz⟩ := I.tuple hx
  have hlen : its.toArray.size = xs.length := by rw [List.size_toArray]; exact r.length.symm
  refine ⟨"tuple", _, PyProof.Rows.slot_tuple_getitem.lookup, ht.typeIs, ?_⟩
  refine HT.getItem_tuple_cut ht hs pl pu (by rw [hlen]; exact hw) ?_ (by rw [hlen]; exact hz)
  rw [hlen]
  refine ⟨.ref s.heap.objs.size, _, I.laid (t' := s.toks) (o := .tup (cutV xs lo hi)) (fun b ob q => Heap.get?_push_of_some _ q) (Nat.le_refl _) ?_, rfl, q _ (I.hok.fresh (Nat.le_refl _))⟩
  exact ⟨Nat.le_trans (cutV_length xs lo hi) hz, _, (r.drop (HT.sIx xs.length 0 lo)).take (HT.sIx xs.length xs.length hi - HT.sIx xs.length 0 lo), IsTup.new _ _⟩
end
end L2
namespace L2
open PySem PySem.Spec PyProof.Rows
def ixN (n : Nat) (i : Int) : Option Nat := if 0 ≤ i then (if i < n then some i.toNat else none) else if -(n : Int) ≤ i then some (i + n).toNat else none
def atI {α : Type} (xs : List α) (i : Int) : Option α := (ixN xs.length i).bind fun j => xs[j]?
theorem ixN_seq {n : Nat} {i : Int} {j : Nat} (h : ixN n i = some j) : seqIndex? i n = some j ∧ j < n ∧ -(n : Int) ≤ i ∧ i < n := by
  unfold ixN at h
  by_cases h0 : 0 ≤ i
  · rw [if_pos h0] at h
    by_cases h1 : i < n
    · rw [if_pos h1] at h
      have e : i.toNat = j := Option.some.inj h
      exact ⟨by rw [seqIndex_of h0 h1, e], by omega, by omega, h1⟩
    · rw [if_neg h1] at h; cases h
  · rw [if_neg h0] at h
    by_cases h1 : -(n : Int) ≤ i
    · rw [if_pos h1] at h
      have e : (i + n).toNat = j := Option.some.inj h
      exact ⟨by rw [seqIndex_neg (by omega) h1, e], by omega, h1, by omega⟩
    · rw [if_neg h1] at h; cases h
theorem atI_get {α : Type} {xs : List α} {i : Int} {v : α} (h : atI xs i = some v) : ∃ j, seqIndex? i xs.length = some j ∧ xs[j]? = some v ∧ j < xs.length ∧ -(xs.length : Int) ≤ i ∧ i < xs.length := by
  unfold atI at h
  cases e : ixN xs.length i with
  | none => rw [e] at h; cases h
  | some j =>
    rw [e] at h
    obtain ⟨h1, h2, h3, h4⟩ := ixN_seq e
    exact ⟨j, h1, h, h2, h3, h4⟩
theorem atI_nat {α : Type} {xs : List α} {j : Nat} {v : α} (h : xs[j]? = some v) : atI xs (j : Int) = some v := by
  have hj : j < xs.length := (List.getElem?_eq_some_iff.mp h).1
  have e : ixN xs.length (j : Int) = some j := by
    unfold ixN
    rw [if_pos (by omega), if_pos (by omega)]; simp
  unfold atI; rw [e]; exact h
def PlainIx (b : Expr) : Prop := ∀ o i, subscripted b false o i = operate [o, i] (getItem o i)
def IxR (X : Cx) (r : R2) : Prop :=
  ∀ (value slice : Expr) (pins : List (Addr × Obj)) (s : Shared) (σ : St) (H : Hp) (x y : V) (v u : Value) (Q : VK), Inv X pins σ H s → RelV x v → RelV y u → r x y H Q →
    subscripted slice false v u = operate [v, u] (getItem v u) → wpAny (model X.prog X.w) X.A (subscriptTail value slice v u) (EP X pins σ Q) X.xe s
def MtR (X : Cx) (id : String) (r : V → List V → Hp → VK → Prop) : Prop :=
  ∀ (pins : List (Addr × Obj)) (s : Shared) (σ : St) (H : Hp) (x : V) (xs : List V) (v : Value) (us : List Value) (Q : VK), Inv X pins σ H s → RelV x v → Vals xs us → r x xs H Q →
    wpAny (model X.prog X.w) X.A (call (.builtin id) (v :: us)) (EP X pins σ Q) X.xe s
section
variable {X : Cx} {a b : Expr} {ta tb : TE} {pos : Pos}
theorem IxR.or {r r' : R2} (h : IxR X r) (h' : IxR X r') : IxR X (fun x y H Q => r x y H Q ∨ r' x y H Q) := by
  intro value slice pins s σ H x y v u Q I rx ry q hs
  rcases q with q | q
  · exact h value slice pins s σ H x y v u Q I rx ry q hs
  · exact h' value slice pins s σ H x y v u Q I rx ry q hs
theorem MtR.or {id : String} {r r' : V → List V → Hp → VK → Prop} (h : MtR X id r) (h' : MtR X id r') : MtR X id (fun x xs H Q => r x xs H Q ∨ r' x xs H Q) := by
  intro pins s σ H x xs v us Q I rx rs q
  rcases q with q | q
  · exact h pins s σ H x xs v us Q I rx rs q
  · exact h' pins s σ H x xs v us Q I rx rs q
theorem pe_ix {r : R2} (hr : IxR X r) (ha : PE X a ta) (hb : PE X b tb) (hs : PlainIx b) : PE X (.Subscript a b pos) (tOp r ta tb) := by
  intro pins s σ H Q I h
  exact Subscript_ (binT ha hb I h fun v u s2 x y H2 I2 rx ry q => hr a b pins s2 σ H2 x y v u Q I2 rx ry q (hs _ _))
def rIxL (K : PySem.W.Frag) : R2 := fun x y H Q => ∃ p xs i v, x = .ref p ∧ y = .int i ∧ SqL K H p xs ∧ atI xs i = some v ∧ Q v H
def rIxT (K : PySem.W.Frag) : R2 := fun x y H Q => ∃ p xs i v, x = .ref p ∧ y = .int i ∧ SqT K H p xs ∧ atI xs i = some v ∧ Q v H
theorem ix_list : IxR X (rIxL X.K) := by
  intro value slice pins s σ H x y v u Q I rx ry h hs
  obtain ⟨p, xs, i, z, rfl, rfl, hq, he, q⟩ := h
  cases rx
  obtain ⟨t, rfl⟩ := ry
  obtain ⟨its, r, pl, hz⟩ := I.list hq
  obtain ⟨j, h1, h2, h3, h4, h5⟩ := atI_get he
  obtain ⟨w, ew, rw'⟩ := r.get h2
  have hl := r.length
  have hn := line63
  have fin : EP X pins σ Q w s := ⟨z, H, I, rw', q⟩
  by_cases h0 : 0 ≤ i
  · have hj : i.toNat = j := by
      rw [seqIndex_of h0 h5] at h1
      exact Option.some.inj h1
    exact item_listR pl.isList h0 (by omega) (by rw [hj]; simpa using ew) fin hs
  · have hj : (i + (its.toArray.size : Int)).toNat = j := by
      rw [seqIndex_neg (by omega) h4] at h1
      rw [List.size_toArray, ← hl]
      exact Option.some.inj h1
    exact subscriptTail_builtinR (x := w) pl.isList.typeIs slot_list_getitem.lookup
      (wpAny_getItem_list_neg (Q := fun r s' => r = w ∧ EP X pins σ Q r s') pl.isList (by omega) (by rw [List.size_toArray] <;> omega) (by omega) (by rw [hj]; simpa using ew) ⟨rfl, fin⟩) hs
theorem ix_tup : IxR X (rIxT X.K) := by
  intro value slice pins s σ H x y v u Q I rx ry h hs
  obtain ⟨p, xs, i, z, rfl, rfl, hq, he, q⟩ := h
  cases rx
  obtain ⟨t, rfl⟩ := ry
  obtain ⟨its, r, pl, hz⟩ := I.tuple hq
  obtain ⟨j, h1, h2, h3, h4, h5⟩ := atI_get he
  obtain ⟨w, ew, rw'⟩ := r.get h2
  have hl := r.length
  have hn := line63
  have fin : EP X pins σ Q w s := ⟨z, H, I, rw', q⟩
  exact subscriptTail_builtinR (x := w) pl.typeIs slot_tuple_getitem.lookup
    (getItem_tuple (j := j) (Q := fun r s' => r = w ∧ EP X pins σ Q r s') pl (by omega) (by omega) (by rw [List.size_toArray, ← hl]; exact h1) (by simpa using ew) ⟨rfl, fin⟩) hs
theorem Inv.lst {pins : List (Addr × Obj)} {σ : St} {H : Hp} {s : Shared} {p : Addr} {xs : List V} (I : Inv X pins σ H s) (h : H p = some (.lst xs)) :
    ∃ (its : List Value) (n : Nat), Vals xs its ∧ s.heap.get? p = some { cls := .type "list", data := .seq its.toArray n } ∧ xs.length ≤ sizeLine := by
  obtain ⟨z, its, n, r, e⟩ := I.hok p _ h
  exact ⟨its, n, r, e, z⟩
theorem slice_bounds (lo hi : Option Int) (n : Nat) : (sliceBounds lo hi none n).1 = ((HT.sIx n 0 lo : Nat) : Int) ∧ (sliceBounds lo hi none n).2.1 = ((HT.sIx n n hi : Nat) : Int) ∧ (sliceBounds lo hi none n).2.2 = 1 := by
  refine ⟨?_, ?_, rfl⟩
  · cases lo with
    | none => simp [sliceBounds, HT.sIx]
    | some i =>
      simp only [sliceBounds, HT.sIx, Option.getD_none, show (1 : Int) > 0 by decide, if_true]
      by_cases h : i < 0
      · simp only [h, if_true] <;> omega
      · simp only [h, if_false] <;> omega
  · cases hi with
    | none => simp [sliceBounds, HT.sIx]
    | some i =>
      simp only [sliceBounds, HT.sIx, Option.getD_none, show (1 : Int) > 0 by decide, if_true]
      by_cases h : i < 0
      · simp only [h, if_true] <;> omega
      · simp only [h, if_false] <;> omega
theorem slicePick_cut (its : List Value) (lo hi : Option Int) : slicePick its.toArray lo hi none = ((its.drop (HT.sIx its.length 0 lo)).take (HT.sIx its.length its.length hi - HT.sIx its.length 0 lo)).toArray := by
  obtain ⟨h1, h2, h3⟩ := slice_bounds lo hi its.toArray.size
  unfold slicePick
  rw [h1, h2, h3]
  simp only [sliceRange_one, pick_run, List.size_toArray] <;> rfl
def rSlL (K : PySem.W.Frag) : V → Option Int → Option Int → Hp → VK → Prop := fun x lo hi H Q => ∃ a xs, x = .ref a ∧ SqL K H a xs ∧ ∀ p, H p = none → Q (.ref p) (upd H p (.lst (cutV xs lo hi)))
theorem sl_list : SlR X (rSlL X.K) := by
  intro pins s σ H x v vl vu lo hi sl Q I rx hs pl pu h
  obtain ⟨a, xs, rfl, hx, q⟩ := h
  cases rx
  obtain ⟨its, r, ht, hz⟩ := I.list hx
  have hlen := r.length
  refine ⟨"list", _, slot_list_getitem.lookup, ht.isList.typeIs, ?_⟩
  refine wpAny_getItem_list_slice ht.isList hs pl pu .none (by simp) ?_ (by rw [List.size_toArray] <;> omega)
  rw [slicePick_cut, ← hlen]
  refine ⟨.ref s.heap.objs.size, _, I.laid (t' := s.toks) (o := .lst (cutV xs lo hi)) (fun b ob q => Heap.get?_push_of_some _ q) (Nat.le_refl _) ?_, rfl, q _ (I.hok.fresh (Nat.le_refl _))⟩
  exact ⟨Nat.le_trans (cutV_length xs lo hi) hz, _, 0, (r.drop (HT.sIx xs.length 0 lo)).take (HT.sIx xs.length xs.length hi - HT.sIx xs.length 0 lo), Heap.get?_push_size _ rfl⟩
theorem call_len_seq : CallR X (.builtin "len") (fun xs H Q => ∃ p ys, xs = [.ref p] ∧ (SqL X.K H p ys ∨ SqT X.K H p ys) ∧ Q (.int ys.length) H) := by
  intro pins s σ H xs us Q I r h
  obtain ⟨p, ys, rfl, hq, q⟩ := h
  obtain ⟨u, rfl, rx⟩ := vals1 r
  cases rx
  have hn := line63
  rcases hq with hq | hq
  · obtain ⟨its, r', pl, hz⟩ := I.list hq
    have hlen := r'.length
    exact Calls.call_len_list pl.isList (by simp only [List.size_toArray] <;> omega) ⟨.int ys.length, H, I.tok _, ⟨s.toks + 1, by rw [List.size_toArray, hlen]⟩, q⟩
  · obtain ⟨its, r', pl, hz⟩ := I.tuple hq
    have hlen := r'.length
    exact len_tuple pl (by simp only [List.size_toArray] <;> omega) ⟨.int ys.length, H, I.tok _, ⟨s.toks + 1, by rw [List.size_toArray, hlen]⟩, q⟩
theorem CallR.or {f : Value} {r r' : List V → Hp → VK → Prop} (h : CallR X f r) (h' : CallR X f r') : CallR X f (fun xs H Q => r xs H Q ∨ r' xs H Q) := by
  intro pins s σ H xs us Q I rs q
  rcases q with q | q
  · exact h pins s σ H xs us Q I rs q
  · exact h' pins s σ H xs us Q I rs q
theorem call_tuple_of : CallR X (.type "tuple") (fun xs H Q => ∃ p ys, xs = [.ref p] ∧ ((SqL X.K H p ys ∧ ∀ l, H l = none → Q (.ref l) (upd H l (.tup ys))) ∨ (SqT X.K H p ys ∧ Q (.ref p) H))) := by
  intro pins s σ H xs us Q I r h
  obtain ⟨p, ys, rfl, h⟩ := h
  obtain ⟨u, rfl, rx⟩ := vals1 r
  cases rx
  rcases h with ⟨hq, q⟩ | ⟨hq, q⟩
  · obtain ⟨its, r', pl, hz⟩ := I.list hq
    have hlen := r'.length
    refine call_tuple_list pl.isList (fun h' kp => ?_) (by simp only [List.size_toArray] <;> omega)
    have I1 : Inv X pins σ H { s with heap := h' } := I.kept (t' := s.toks) kp
    have I2 : Inv X pins σ (upd H h'.objs.size (.tup ys)) { s with heap := h'.push { cls := .type "tuple", data := .seq its.toArray } } :=
      I1.laid (t' := s.toks) (fun b o e => Heap.get?_push_of_some _ e) (Nat.le_refl _) (show ObjOk X.prog X.w _ _ _ (.tup ys) from ⟨hz, its, r', IsTup.new _ _⟩)
    exact ⟨.ref h'.objs.size, _, I2, rfl, q _ (I1.hok.fresh (Nat.le_refl _))⟩
  · obtain ⟨its, r', pl, hz⟩ := I.tuple hq
    exact call_tuple_same pl ⟨.ref p, H, I, rfl, q⟩
def tyV (K : PySem.W.Frag) (T : String) (x : V) (H : Hp) : Prop := match x with
  | .str _ => T = "str"
  | .int _ => T = "int"
  | .ref p => (T = "list" ∧ ∃ xs, SqL K H p xs) ∨ (T = "tuple" ∧ ∃ o, K.lookup p = some o ∧ o.cls = .type "tuple" ∧ o.dict = none) ∨
      (T = "dict" ∧ ((∃ kvs, H p = some (.dK kvs)) ∨ ∃ kvs, H p = some (.dT kvs))) ∨ (T = "set" ∧ ∃ S n, H p = some (.set S n))
  | _ => False
theorem tyV_is {pins : List (Addr × Obj)} {σ : St} {H : Hp} {s : Shared} {T : String} {x : V} {v : Value} (I : Inv X pins σ H s) (r : RelV x v) (ty : tyV X.K T x H) :
    s.TypeIs v T ∧ ∀ a, v = .ref a → ∃ ob, s.heap.get? a = some ob ∧ ob.dict = none := by
  cases x with
  | str z =>
    obtain ⟨t, rfl⟩ := r
    cases (show T = "str" from ty)
    exact ⟨typeIs_str s z t, fun _ e => nomatch e⟩
  | int i =>
    obtain ⟨t, rfl⟩ := r
    cases (show T = "int" from ty)
    exact ⟨typeIs_int s i t, fun _ e => nomatch e⟩
  | ref p =>
    cases r
    rcases ty with ⟨rfl, xs, hq⟩ | ⟨rfl, o, hk, hc, hd⟩ | ⟨rfl, hk⟩ | ⟨rfl, S, n, hk⟩
    · obtain ⟨its, _, pl, _⟩ := I.list hq
      refine ⟨pl.isList.typeIs, fun a e => ?_⟩
      cases e
      obtain ⟨o, n, e, c, hd, _⟩ := pl
      exact ⟨o, e, hd⟩
    · refine ⟨⟨o, I.kIn p o hk, hc⟩, fun a e => ?_⟩
      cases e
      exact ⟨o, I.kIn _ o hk, hd⟩
    · have z : ∃ o, s.heap.get? p = some o ∧ o.ExactDict := by
        rcases hk with ⟨kvs, hk⟩ | ⟨kvs, hk⟩
        · obtain ⟨_, _, _, _, o, _, _, e, ex, _⟩ := I.hok p _ hk
          exact ⟨o, e, ex⟩
        · obtain ⟨_, _, _, _, o, _, _, e, ex, _⟩ := I.hok p _ hk
          exact ⟨o, e, ex⟩
      obtain ⟨o, e, ex⟩ := z
      refine ⟨⟨o, e, ex.1⟩, fun a e2 => ?_⟩
      cases e2
      exact ⟨o, e, ex.2.1⟩
    · obtain ⟨o, _, _, _, e, ex, _⟩ := I.hok p _ hk
      refine ⟨⟨o, e, ex.1⟩, fun a e2 => ?_⟩
      cases e2
      exact ⟨o, e, ex.2.1⟩
  | _ => exact False.elim ty
def tBM (K : PySem.W.Frag) (T : String) (r : V → List V → Hp → VK → Prop) (to : TE) (t : TA) : TE := fun σ H Q => to σ H fun x H1 => tyV K T x H1 ∧ t σ H1 fun xs H2 => r x xs H2 Q
variable {o e : Expr} {es : List Expr} {to : TE} {t : TA} {name : Str} {apos cpos : Pos} {T id : String} {r : V → List V → Hp → VK → Prop}
theorem pe_bm (pa : PlainAttrs T) (slot : Slot T name id) (hty : typeOf (.builtin id) = pure (.type "method_descriptor")) (hm : MtR X id r) (ho : PE X o to) (ha : PA X (e :: es) t)
    (hbase : attributeBase o name X.env (eval o X.env) = eval o X.env := by rfl)
    (hfew : ((backTo cpos (starEach (e :: es) X.env)).all (fun x => !x.1) && (backToKw cpos (keywordEach [] X.env)).all (fun x => x.1.isSome)
      && decide ((e :: es).length + ([] : List Keyword).length + (if ([] : List Keyword).isEmpty then 0 else 1) < 30)) = true := by rfl)
    (hline : (apos.endLine == cpos.line) = true := by rfl) (hs : starEach (e :: es) X.env = (false, eval e X.env) :: starEach es X.env := by rfl) (hplain : (backTo cpos (starEach es X.env)).any (·.1) = false := by rfl) :
    PE X (.Call (.Attribute o name apos) (e :: es) [] cpos) (tBM X.K T r to t) := by
  intro pins s σ H Q I h
  refine wpAny_Call_method_late hbase hfew hline rfl (thn (ho pins s σ H _ I h) fun v s1 ⟨x, H1, I1, r1, ty, q1⟩ => ?_)
  obtain ⟨h1, h2⟩ := tyV_is I1 r1 ty
  refine ⟨T, id, pa, slot, hty, h1, h2, ?_⟩
  have hA := ha cpos pins s1 σ H1 _ I1 q1
  rw [hs] at hA ⊢
  refine Calls.callWith_builtin (by show (false || (backTo cpos (starEach es X.env)).any (·.1)) = false; rw [hplain] <;> rfl) (Calls.evalArgs_plain ?_)
  exact thn hA fun us s2 ⟨vs, H2, I2, r2, q2⟩ => hm pins s2 σ H2 x vs v us Q I2 r1 r2 q2
end
end L2
namespace L2
open PySem PySem.Spec PyProof.Rows
def MtM (X : Cx) (id : String) (r : V → List V → Hp → VK → Prop) : Prop :=
  ∀ (pins : List (Addr × Obj)) (s : Shared) (σ : St) (H : Hp) (x : V) (xs : List V) (v : Value) (us : List Value) (Q : VK), Inv X pins σ H s → RelV x v → Vals xs us → r x xs H Q →
    wpAny (model X.prog X.w) X.A (call (.builtin id) (v :: us)) (EP X pins σ Q) X.xe s
theorem Vals.one : ∀ {x : V} {us : List Value}, Vals [x] us → ∃ u, us = [u] ∧ RelV x u
  | _, _, .cons r .nil => ⟨_, rfl, r⟩
theorem Vals.zero : ∀ {us : List Value}, Vals [] us → us = []
  | _, .nil => rfl
theorem Vals.reverse {xs : List V} {us : List Value} (h : Vals xs us) : Vals xs.reverse us.reverse := by
  induction h with
  | nil => exact .nil
  | cons r t ih => rw [List.reverse_cons, List.reverse_cons]; exact Vals.append ih (.cons r .nil)
section
variable {X : Cx} {pins : List (Addr × Obj)} {σ : St} {H : Hp} {s : Shared} {l b : Addr} {xs ys zs : List V}
theorem Inv.lset {its its' : List Value} {n : Nat} {f : Array Value → Array Value} {t' : Nat} (I : Inv X pins σ H s) (hH : H l = some (.lst xs))
    (e : s.heap.get? l = some { cls := .type "list", data := .seq its.toArray n }) (hf : f its.toArray = its'.toArray) (hv : Vals ys its') (hz : ys.length ≤ sizeLine) :
    Inv X pins σ (upd H l (.lst ys)) { s with heap := s.heap.update l (Obj.mapSeq f), toks := t' } := by
  have q := PySem.IsL.update e f
  rw [hf] at q
  refine I.write (x := l) (e := l) (by rw [hH]; exact trivial) (.inl rfl) (fun b' u hb hu => (Heap.get?_update_other s.heap (Obj.mapSeq f) (Ne.symm hb)).trans hu) ⟨_, q⟩ ?_
  exact ⟨hz, its', _, hv, q⟩
theorem Inv.lnew {its : List Value} {t' : Nat} (I : Inv X pins σ H s) (hv : Vals ys its) (hz : ys.length ≤ sizeLine) :
    Inv X pins σ (upd H s.heap.objs.size (.lst ys)) { s with heap := s.heap.push { cls := .type "list", data := .seq its.toArray }, toks := t' } :=
  I.laid (fun _ _ q => Heap.get?_push_of_some _ q) (Nat.le_refl _) ⟨hz, its, 0, hv, Heap.get?_push_size _ rfl⟩
theorem Inv.fresh (I : Inv X pins σ H s) : H s.heap.objs.size = none := I.hok.fresh (Nat.le_refl _)
theorem Inv.lstM (I : Inv X pins σ H s) (hH : H l = some (.lst xs)) : xs.length ≤ sizeLine ∧ ∃ (its : List Value) (n : Nat), Vals xs its ∧ xs.length = its.length ∧ s.heap.get? l = some { cls := .type "list", data := .seq its.toArray n } := by
  obtain ⟨z, its, n, r, e⟩ := I.hok l _ hH
  exact ⟨z, its, n, r, r.length, e⟩
theorem notLongL {n : Nat} (h : n ≤ sizeLine) : Builtin.List.listTooLong n = false := by
  unfold Builtin.List.listTooLong
  exact decide_eq_false (by omega)
end
section
variable {X : Cx}
def rAppend : V → List V → Hp → VK → Prop := fun x vs H Q => ∃ l xs y, x = .ref l ∧ vs = [y] ∧ H l = some (.lst xs) ∧ xs.length < sizeLine ∧ Q .non (upd H l (.lst (xs ++ [y])))
theorem mt_append : MtM X "list.append" rAppend := by
  intro pins s σ H x vs v us Q I rx rv h
  obtain ⟨l, xs, y, rfl, rfl, hH, hz, q⟩ := h
  cases rx
  obtain ⟨u, rfl, ru⟩ := rv.one
  obtain ⟨z, its, n, r, hl, e⟩ := I.lstM hH
  refine call_meets F.slot_list_append ⟨_, e, rfl⟩ F.entry_list_append (F.args_list_append_2 _ _) (PySem.list_append l its.toArray n u (by rw [List.size_toArray]; omega)) ⟨e, ?_⟩
  refine ⟨.non, _, I.lset (its' := its ++ [u]) hH e (by simp) (r.append (.cons ru .nil)) ?_, rfl, q⟩
  rw [List.length_append, List.length_singleton]
  omega
def rExtend : V → List V → Hp → VK → Prop := fun x vs H Q => ∃ l b xs zs, x = .ref l ∧ vs = [.ref b] ∧ H l = some (.lst xs) ∧ H b = some (.lst zs) ∧ xs.length + zs.length ≤ sizeLine ∧ Q .non (upd H l (.lst (xs ++ zs)))
theorem mt_extend : MtM X "list.extend" rExtend := by
  intro pins s σ H x vs v us Q I rx rv h
  obtain ⟨l, b, xs, zs, rfl, rfl, hH, hB, hz, q⟩ := h
  cases rx
  obtain ⟨u, rfl, ru⟩ := rv.one
  cases ru
  obtain ⟨z, its, n, r, hl, e⟩ := I.lstM hH
  obtain ⟨z2, its2, n2, r2, hl2, e2⟩ := I.lstM hB
  have hsz : its.toArray.size + its2.toArray.size ≤ sizeLine := by rw [List.size_toArray, List.size_toArray]; omega
  have hlong : ¬ (!its.toArray.isEmpty && Builtin.List.listTooLong (its.toArray.size + its2.toArray.size)) = true := by
    rw [notLongL hsz, Bool.and_false]
    exact Bool.false_ne_true
  refine call_meets F.slot_list_extend ⟨_, e, rfl⟩ F.entry_list_extend (F.args_list_extend_2 _ _)
    (AutoSeq1.list_extend_list_list_0 l its.toArray n b its2.toArray n2 hlong (by rw [List.size_toArray]; omega) (by omega)) ⟨e, e2, ?_⟩
  refine ⟨.non, _, I.lset (its' := its ++ its2) hH e (by simp) (r.append r2) ?_, rfl, q⟩
  rw [List.length_append]
  omega
def rCat : R2 := fun x y H Q => ∃ l b xs zs, x = .ref l ∧ y = .ref b ∧ H l = some (.lst xs) ∧ H b = some (.lst zs) ∧ xs.length + zs.length ≤ sizeLine ∧ ∀ p, H p = none → Q (.ref p) (upd H p (.lst (xs ++ zs)))
theorem op_cat : OpR X (binaryOp .Add) rCat := by
  intro pins s σ H x y v u Q I rx ry h
  obtain ⟨l, b, xs, zs, rfl, rfl, hH, hB, hz, q⟩ := h
  cases rx
  cases ry
  obtain ⟨z, its, n, r, hl, e⟩ := I.lstM hH
  obtain ⟨z2, its2, n2, r2, hl2, e2⟩ := I.lstM hB
  refine PySem.P.add_list e e2 ?_ (by rw [List.size_toArray, List.size_toArray]; omega)
  have ea : its.toArray ++ its2.toArray = (its ++ its2).toArray := by simp
  rw [ea]
  exact ⟨.ref _, _, I.lnew (t' := s.toks) (r.append r2) (by rw [List.length_append]; omega), rfl, q _ I.fresh⟩
end
section
variable {prog : Program} {w : World} {A : Around} {E : Value → Shared → Prop} {s : Shared}
set_option maxRecDepth 100000 in
end
section
variable {X : Cx}
end
end L2
namespace L2
open PySem PySem.Spec PyProof.Rows
theorem Vals.ints : ∀ {ns : List Int} {us : List Value}, Vals (ns.map V.int) us → IntsAre us ns
  | [], us, h => by
    rw [List.map_nil] at h
    cases h
    exact IntsAre.nil
  | n :: ns, us, h => by
    rw [List.map_cons] at h
    cases h with
    | cons r t =>
      obtain ⟨k, rfl⟩ := r
      exact IntsAre.cons n k (Vals.ints t)
theorem Vals.bls : ∀ {bs : List Bool} {us : List Value}, Vals (bs.map V.bl) us → us = bs.map Value.bool
  | [], us, h => by
    rw [List.map_nil] at h
    cases h
    rfl
  | b :: bs, us, h => by
    rw [List.map_cons] at h
    cases h with
    | cons r t =>
      cases r
      rw [Vals.bls t, List.map_cons]
theorem Vals.ref1 {a : Addr} {us : List Value} (r : Vals [V.ref a] us) : us = [Value.ref a] := by
  cases r with
  | cons r t =>
    cases t
    cases r
    rfl
section
variable {prog : Program} {w : World} {A : Around} {E : Value → Shared → Prop} {s : Shared} {l : Addr} {its : List Value} {ns : List Int} {Q : Value → Shared → Prop}
theorem max_raw (hh : A.handled = none) (hl : s.heap.IsList l its.toArray) (hi : IntsAre its ns) (hne : 0 < ns.length)
    (h : ∀ h' tk M t', (∀ b o, s.heap.get? b = some o → h'.get? b = some o) → M ∈ ns → (∀ a, a ∈ ns → a ≤ M) → Q (.int M t') { s with heap := h', toks := tk }) : wpAny (model prog w) A (call (.builtin "max") [.ref l]) Q E s := by
  obtain ⟨xs, e⟩ := hi.allInts.items
  have hn : numsOf (intItems xs).toList = ns := by rw [← e]; exact hi.numsOf
  rw [nums_intItems] at hn
  subst hn
  rw [e] at hl
  have hsz : 0 < xs.size := by simpa using hne
  refine PySem.max_intList hh hl hsz fun v h' tk hv hk => ?_
  obtain ⟨t, rfl⟩ := intItems_at hv
  obtain ⟨h1, h2⟩ := argBest_gt (numAt xs) (xs.size - 1)
  refine h h' tk _ t hk ?_ fun a ha => ?_
  · rw [numAt_eq]; exact PySem.getD_mem (by rw [List.length_map, Array.length_toList]; omega)
  · obtain ⟨j, hj, rfl⟩ := mem_getD ha
    rw [List.length_map, Array.length_toList] at hj
    rw [← numAt_eq]; exact h2 j (by omega)
theorem min_raw (hh : A.handled = none) (hl : s.heap.IsList l its.toArray) (hi : IntsAre its ns) (hne : 0 < ns.length)
    (h : ∀ h' tk M t', (∀ b o, s.heap.get? b = some o → h'.get? b = some o) → M ∈ ns → (∀ a, a ∈ ns → M ≤ a) → Q (.int M t') { s with heap := h', toks := tk }) : wpAny (model prog w) A (call (.builtin "min") [.ref l]) Q E s := by
  obtain ⟨xs, e⟩ := hi.allInts.items
  have hn : numsOf (intItems xs).toList = ns := by rw [← e]; exact hi.numsOf
  rw [nums_intItems] at hn
  subst hn
  rw [e] at hl
  have hsz : 0 < xs.size := by simpa using hne
  refine PySem.min_intList hh hl hsz fun v h' tk hv hk => ?_
  obtain ⟨t, rfl⟩ := intItems_at hv
  obtain ⟨h1, h2⟩ := argBest_lt (numAt xs) (xs.size - 1)
  refine h h' tk _ t hk ?_ fun a ha => ?_
  · rw [numAt_eq]; exact PySem.getD_mem (by rw [List.length_map, Array.length_toList]; omega)
  · obtain ⟨j, hj, rfl⟩ := mem_getD ha
    rw [List.length_map, Array.length_toList] at hj
    rw [← numAt_eq]; exact h2 j (by omega)
end
section
variable {X : Cx}
def rMax (K : PySem.W.Frag) : List V → Hp → VK → Prop := fun vs H Q => ∃ (a : Addr) (ns : List Int), vs = [V.ref a] ∧ SqL K H a (ns.map V.int) ∧ 0 < ns.length ∧ ∀ m, m ∈ ns → (∀ y, y ∈ ns → y ≤ m) → Q (.int m) H
def rMin (K : PySem.W.Frag) : List V → Hp → VK → Prop := fun vs H Q => ∃ (a : Addr) (ns : List Int), vs = [V.ref a] ∧ SqL K H a (ns.map V.int) ∧ 0 < ns.length ∧ ∀ m, m ∈ ns → (∀ y, y ∈ ns → m ≤ y) → Q (.int m) H
theorem cr_max (hc : X.calm = true) : CallR X (.builtin "max") (rMax X.K) := by
  intro pins s σ H vs us Q I r h
  obtain ⟨a, ns, rfl, hs, hne, q⟩ := h
  obtain ⟨its, rv, hl, _⟩ := I.list hs
  rw [Vals.ref1 r]
  exact max_raw (I.ok.hd hc) hl.isList rv.ints hne fun h' tk m t' hk h1 h2 => ⟨.int _, H, I.kept hk, ⟨_, rfl⟩, q m h1 h2⟩
theorem cr_min (hc : X.calm = true) : CallR X (.builtin "min") (rMin X.K) := by
  intro pins s σ H vs us Q I r h
  obtain ⟨a, ns, rfl, hs, hne, q⟩ := h
  obtain ⟨its, rv, hl, _⟩ := I.list hs
  rw [Vals.ref1 r]
  exact min_raw (I.ok.hd hc) hl.isList rv.ints hne fun h' tk m t' hk h1 h2 => ⟨.int _, H, I.kept hk, ⟨_, rfl⟩, q m h1 h2⟩
end
section
variable {X : Cx}
end
section
variable {X : Cx}
end
theorem iter_any {prog : Program} {w : World} {A : Around} {E : Value → Shared → Prop} {s : Shared} {l : Addr} {items : Array Value} {Q : Value → Shared → Prop} (hl : s.heap.IsList l items)
    (h : ∀ s₂ : Shared, s₂ = { s with heap := s.heap.push { cls := .type "list_iterator", data := .fields #[.ref l, .int 0 0] } } →
      (s₂.heap.IsListIter s.heap.objs.size l 0 ∧ s₂.heap.IsList l items) → l ≠ s.heap.objs.size → Q (.ref s.heap.objs.size) s₂) : wpAny (model prog w) A (pyIter (.ref l)) Q E s := by
  have hlt : l < s.heap.objs.size := by obtain ⟨_, e, _⟩ := hl; exact Heap.lt_size e
  exact wpAny_pyIter_list hl (h _ rfl ⟨⟨_, Heap.get?_push_size _ rfl, rfl, rfl⟩, hl.push _⟩ (Nat.ne_of_lt hlt))
theorem truth_bools {prog : Program} {w : World} {A : Around} {bs : List Bool} {its : List Value} (e : its = bs.map Value.bool) :
    TruthOf prog w A (fun i v => its.toArray[i]? = some v) (fun i => bs.getD i false) := fun i v s Q E hv hq => by
  have hv' : its[i]? = some v := by simpa using hv
  rw [e, List.getElem?_map] at hv'
  obtain ⟨b, hb, rfl⟩ := Option.map_eq_some_iff.mp hv'
  have hg : bs.getD i false = b := by rw [List.getD_eq_getElem?_getD, hb] <;> rfl
  have hq' : Q (bs.getD i false) s := hq
  rw [hg] at hq'
  exact wpAny_truthy_bool hq'
theorem all_range : ∀ bs : List Bool, (List.range bs.length).all (fun i => bs.getD i false) = bs.all id
  | [] => rfl
  | b :: bs => by
    rw [List.length_cons, List.range_succ_eq_map, List.all_cons, List.all_map, List.all_cons, ← all_range bs]
    all_goals rfl
section
variable {X : Cx}
def rAll (K : PySem.W.Frag) : List V → Hp → VK → Prop := fun vs H Q => ∃ (a : Addr) (bs : List Bool), vs = [V.ref a] ∧ SqL K H a (bs.map V.bl) ∧ Q (.bl (bs.all id)) H
theorem cr_all (hc : X.calm = true) : CallR X (.builtin "all") (rAll X.K) := by
  intro pins s σ H vs us Q I r h
  obtain ⟨a, bs, rfl, hs, q⟩ := h
  obtain ⟨its, rv, hl, _⟩ := I.list hs
  rw [Vals.ref1 r]
  have hb := rv.bls
  refine call_all_walk (iter_any hl.isList fun s₂ e2 st hne => ?_)
  subst e2
  refine ⟨_, _, _, _, _, _, _, rfl, Walks.list (A := X.A.in1) (I.ok.hd hc) _ a hne its.toArray, st, truth_bools hb, fun h' tk hk => ?_⟩
  refine ⟨.bl _, H, I.kept fun b o eo => hk b o (fun hmem => ?_) (Heap.get?_push_of_some _ eo), ?_, q⟩
  · rcases List.mem_cons.mp hmem with e1 | hmem
    · exact absurd (e1 ▸ Heap.lt_size eo) (Nat.lt_irrefl _)
    · cases hmem
  · show Value.bool _ = Value.bool _
    rw [← all_range, hb, List.size_toArray, List.length_map]
end
mutual
inductive Dp (K : PySem.W.Frag) (H : Hp) : V → PyData → Prop
  | non : Dp K H .non .none
  | bl (b : Bool) : Dp K H (.bl b) (.bool b)
  | int (i : Int) : Dp K H (.int i) (.int i)
  | str (x : Str) : Dp K H (.str x) (.str x)
  | lst {a : Addr} {xs : List V} {ds : List PyData} : SqL K H a xs → DpAll K H xs ds → Dp K H (.ref a) (.list ds)
  | tup {a : Addr} {xs : List V} {ds : List PyData} : SqT K H a xs → DpAll K H xs ds → Dp K H (.ref a) (.tuple ds)
inductive DpAll (K : PySem.W.Frag) (H : Hp) : List V → List PyData → Prop
  | nil : DpAll K H [] []
  | cons {v : V} {vs : List V} {d : PyData} {ds : List PyData} : Dp K H v d → DpAll K H vs ds → DpAll K H (v :: vs) (d :: ds)
end
section
variable {X : Cx} {pins : List (Addr × Obj)} {σ : St} {H : Hp} {s : Shared}
mutual
theorem Dp.reads (I : Inv X pins σ H s) : ∀ (d : PyData) (v : V) (u : Value), Dp X.K H v d → RelV v u → ∃ as, Reads s.heap u d as
  | .none, _, _, h, r => by
    cases h
    cases r
    exact ⟨_, Reads.none⟩
  | .bool b, _, _, h, r => by
    cases h
    cases r
    exact ⟨_, Reads.bool b⟩
  | .int i, _, _, h, r => by
    cases h
    obtain ⟨t, rfl⟩ := r
    exact ⟨_, Reads.int i t⟩
  | .str x, _, _, h, r => by
    cases h
    obtain ⟨t, rfl⟩ := r
    exact ⟨_, Reads.str x t⟩
  | .list ds, _, _, h, r => by
    cases h with
    | lst hs ha =>
      cases r
      obtain ⟨its, rv, ⟨o, n, ho, hc, _, hd⟩, _⟩ := I.list hs
      obtain ⟨as, hr⟩ := Dp.readsAll I ds _ its ha rv
      exact ⟨_, Reads.list ho hc hd hr⟩
  | .tuple ds, _, _, h, r => by
    cases h with
    | tup hs ha =>
      cases r
      obtain ⟨its, rv, ⟨o, ho, hc, n, hd⟩, _⟩ := I.tuple hs
      obtain ⟨as, hr⟩ := Dp.readsAll I ds _ its ha rv
      exact ⟨_, Reads.tuple ho hc hd hr⟩
  | .dict _, _, _, h, _ => by cases h
theorem Dp.readsAll (I : Inv X pins σ H s) : ∀ (ds : List PyData) (vs : List V) (us : List Value), DpAll X.K H vs ds → Vals vs us → ∃ as, ReadsAll s.heap us ds as
  | [], _, _, h, r => by
    cases h
    cases r
    exact ⟨_, ReadsAll.nil⟩
  | d :: ds, _, _, h, r => by
    cases h with
    | cons h1 h2 =>
      cases r with
      | cons r1 r2 =>
        obtain ⟨as, q1⟩ := Dp.reads I d _ _ h1 r1
        obtain ⟨bs, q2⟩ := Dp.readsAll I ds _ _ h2 r2
        exact ⟨_, ReadsAll.cons q1 q2⟩
end
end
section
variable {X : Cx}
end
end L2
namespace L2
open PySem PySem.Spec PyProof.Rows
abbrev CellAt (h : Heap) (c : Addr) (v : Option Value) : Prop := h.IsCell c v
def relS (scope sc : Scope) : Scope :=
  { scope with names := scope.names.map fun (n, k) => if (k == .free && sc.kind == .function && sc.names.lookup n == some .cell) then (n, .cell) else (n, k) }
def cloFrom (cells : List (Str × Addr)) : List (Str × NameKind) → List (Str × Addr) → List (Str × Addr)
  | [], acc => acc
  | (n, k) :: r, acc => if k == .free then cloFrom cells r ((n, (cells.lookup n).getD 0) :: acc) else cloFrom cells r acc
theorem closure_loop (env : Env) (f : Str × NameKind → List (Str × Addr) → Sem (ForInStep (List (Str × Addr))))
    (hf : ∀ n k c, f (n, k) c = if k == .free then (do let a ← cellOf env n; pure (.yield ((n, a) :: c))) else pure (.yield c)) :
    ∀ (names : List (Str × NameKind)) (acc : List (Str × Addr)), (∀ y ∈ names, y.2 = .free → ∃ c, env.cells.lookup y.1 = some c) → forIn names acc f = pure (cloFrom env.cells names acc)
  | [], acc, _ => by rw [List.forIn_nil]; rfl
  | (n, k) :: r, acc, h => by
    rw [List.forIn_cons, hf]
    have ih := fun acc => closure_loop env f hf r acc fun y hy => h y (List.mem_cons_of_mem _ hy)
    unfold cloFrom
    by_cases hk : (k == NameKind.free) = true
    · rw [if_pos hk, if_pos hk]
      obtain ⟨c, hc⟩ := h (n, k) List.mem_cons_self (by simpa using hk)
      have e : cellOf env n = pure c := by unfold cellOf; rw [hc]
      rw [e]
      have e2 : (env.cells.lookup n).getD 0 = c := by rw [hc]; rfl
      rw [e2]
      exact ih _
    · rw [if_neg hk, if_neg hk]
      exact ih _
theorem closure_ok {scope : Scope} {env : Env} (h : ∀ y ∈ scope.names, y.2 = .free → ∃ c, env.cells.lookup y.1 = some c) : closureFor scope env = pure (cloFrom env.cells scope.names []) := by
  simp only [closureFor]
  rw [closure_loop env _ (fun n k c => rfl) scope.names [] h]
  rfl
theorem mem_lookup {α : Type} : ∀ {l : List (Str × α)} {n : Str} {c : α}, (n, c) ∈ l → ∃ c', l.lookup n = some c'
  | (k, v) :: r, n, c, h => by
    rw [List.lookup_cons]
    cases hb : n == k with
    | true => exact ⟨_, rfl⟩
    | false =>
      rcases List.mem_cons.mp h with e | h
      · cases e; simp at hb
      · exact mem_lookup h
theorem cloFrom_mem {cells : List (Str × Addr)} : ∀ {names : List (Str × NameKind)} {acc : List (Str × Addr)} {n : Str} {c : Addr}, (n, c) ∈ cloFrom cells names acc → (n, c) ∈ acc ∨ ((n, .free) ∈ names ∧ c = (cells.lookup n).getD 0)
  | [], _, _, _, h => .inl h
  | (m, k) :: r, acc, n, c, h => by
    unfold cloFrom at h
    split at h
    · rename_i hk
      have hk : k = .free := by simpa using hk
      rcases cloFrom_mem h with h | ⟨h1, h2⟩
      · rcases List.mem_cons.mp h with e | h
        · cases e; exact .inr ⟨hk ▸ List.mem_cons_self, rfl⟩
        · exact .inl h
      · exact .inr ⟨List.mem_cons_of_mem _ h1, h2⟩
    · rcases cloFrom_mem h with h | ⟨h1, h2⟩
      · exact .inl h
      · exact .inr ⟨List.mem_cons_of_mem _ h1, h2⟩
theorem cloFrom_acc {cells : List (Str × Addr)} : ∀ {names : List (Str × NameKind)} {acc : List (Str × Addr)} {p : Str × Addr}, p ∈ acc → p ∈ cloFrom cells names acc
  | [], _, _, h => h
  | (m, k) :: r, acc, p, h => by
    unfold cloFrom
    split
    · exact cloFrom_acc (List.mem_cons_of_mem _ h)
    · exact cloFrom_acc h
theorem cloFrom_has {cells : List (Str × Addr)} : ∀ {names : List (Str × NameKind)} {acc : List (Str × Addr)} {n : Str}, (n, .free) ∈ names → (n, (cells.lookup n).getD 0) ∈ cloFrom cells names acc
  | (m, k) :: r, acc, n, h => by
    unfold cloFrom
    rcases List.mem_cons.mp h with e | h
    · cases e
      exact cloFrom_acc List.mem_cons_self
    · split
      · exact cloFrom_has h
      · exact cloFrom_has h
theorem cells_mem : ∀ {names : List (Str × NameKind)} {h : Heap} {acc : List (Str × Addr)} {x : Str} {c : Addr}, (x, c) ∈ cellsFrom h.objs.size names acc →
    (x, c) ∈ acc ∨ ((x, .cell) ∈ names ∧ h.objs.size ≤ c ∧ CellAt (pushCells h names) c none)
  | [], _, _, _, _, h => .inl h
  | (n, k) :: r, h, acc, x, c, hm => by
    unfold cellsFrom at hm
    unfold pushCells
    split at hm
    · rename_i hk
      rw [if_pos hk]
      have hk : k = .cell := by simpa using hk
      rw [← Heap.size_push h { cls := .type "cell", data := .cell none }] at hm
      rcases cells_mem hm with hm | ⟨h1, h2, h3⟩
      · rcases List.mem_cons.mp hm with e | hm
        · cases e
          exact .inr ⟨hk ▸ List.mem_cons_self, Nat.le_refl _, _, pushCells_keeps r _ _ _ (Heap.get?_push_size _ rfl), rfl⟩
        · exact .inl hm
      · rw [Heap.size_push] at h2
        exact .inr ⟨List.mem_cons_of_mem _ h1, Nat.le_of_succ_le h2, h3⟩
    · rename_i hk
      rw [if_neg hk]
      rcases cells_mem hm with hm | ⟨h1, h2, h3⟩
      · exact .inl hm
      · exact .inr ⟨List.mem_cons_of_mem _ h1, h2, h3⟩
theorem cells_acc : ∀ {names : List (Str × NameKind)} {n : Nat} {acc : List (Str × Addr)} {p : Str × Addr}, p ∈ acc → p ∈ cellsFrom n names acc
  | [], _, _, _, h => h
  | (m, k) :: r, n, acc, p, h => by
    unfold cellsFrom
    split
    · exact cells_acc (List.mem_cons_of_mem _ h)
    · exact cells_acc h
theorem cells_has : ∀ {names : List (Str × NameKind)} {n : Nat} {acc : List (Str × Addr)} {x : Str}, (x, .cell) ∈ names → ∃ c, (x, c) ∈ cellsFrom n names acc
  | (m, k) :: r, n, acc, x, h => by
    unfold cellsFrom
    rcases List.mem_cons.mp h with e | h
    · cases e
      exact ⟨n, cells_acc List.mem_cons_self⟩
    · split
      · exact cells_has h
      · exact cells_has h
theorem cells_inj : ∀ {names : List (Str × NameKind)} {h : Heap} {acc : List (Str × Addr)} {x y : Str} {c : Addr}, (∀ p ∈ acc, p.2 < h.objs.size) → (∀ x y c, (x, c) ∈ acc → (y, c) ∈ acc → x = y) →
    (x, c) ∈ cellsFrom h.objs.size names acc → (y, c) ∈ cellsFrom h.objs.size names acc → x = y
  | [], _, _, _, _, _, _, hi, h1, h2 => hi _ _ _ h1 h2
  | (n, k) :: r, h, acc, x, y, c, hl, hi, h1, h2 => by
    unfold cellsFrom at h1 h2
    split at h1
    · rename_i hk
      rw [if_pos hk] at h2
      rw [← Heap.size_push h { cls := .type "cell", data := .cell none }] at h1 h2
      refine cells_inj (h := h.push _) (fun p hp => ?_) (fun x y c a b => ?_) h1 h2
      · rw [Heap.size_push]
        rcases List.mem_cons.mp hp with rfl | hp
        · exact Nat.lt_succ_self _
        · exact Nat.lt_succ_of_lt (hl p hp)
      · rcases List.mem_cons.mp a with e | a <;> rcases List.mem_cons.mp b with e' | b
        · cases e; cases e'; rfl
        · cases e; exact absurd (hl _ b) (Nat.lt_irrefl _)
        · cases e'; exact absurd (hl _ a) (Nat.lt_irrefl _)
        · exact hi _ _ _ a b
    · rename_i hk
      rw [if_neg hk] at h2
      exact cells_inj hl hi h1 h2
theorem newEnv_comp {M : Model} {A : Around} {E : Value → Shared → Prop} {s : Shared} {scope : Scope} {globals : Addr} {closure : List (Str × Addr)} {qual : Str} {func : Option Addr} {code : Value} {around : Env} {builtins : Addr} {Q : Env → Shared → Prop}
    (h : Q (newEnv scope s.heap.objs.size globals (cellsFrom (s.heap.objs.size + 1) scope.names closure) qual func code (some around) builtins)
      { s with heap := pushCells (s.heap.push { cls := .type "dict", data := .dict #[] }) scope.names }) :
    wpAny M A (newFunctionEnv scope globals closure [] qual func code (some around) builtins) Q E s := by
  simp only [newFunctionEnv, Option.isSome_some, if_true]
  refine wpAny_bind (wpAny_alloc ?_)
  refine wpAny_bind (wpAny_layCells _ (fun n k c => rfl) scope.names closure _ _ ?_)
  rw [show ({ s with heap := s.heap.push { cls := .type "dict", data := .dict #[] } } : Shared).heap.objs.size = s.heap.objs.size + 1 from Heap.size_push ..]
  rw [List.forIn_nil]
  exact wpAny_bind (wpAny_pure (wpAny_pure h))
theorem lookup_relS {sc : Scope} : ∀ {names : List (Str × NameKind)} {x : Str} {k : NameKind},
    (names.map fun (n, k) => if (k == NameKind.free && sc.kind == .function && sc.names.lookup n == some .cell) then (n, NameKind.cell) else (n, k)).lookup x = some k →
    ∃ k', names.lookup x = some k' ∧ (k = k' ∨ (k' = .free ∧ k = .cell))
  | [], _, _, h => by simp at h
  | (n, k₀) :: r, x, k, h => by
    have ih := @lookup_relS sc r x k
    have h' : List.lookup x ((if (k₀ == NameKind.free && sc.kind == .function && sc.names.lookup n == some .cell) = true then (n, NameKind.cell) else (n, k₀)) :: (r.map _)) = some k := h
    cases hx : x == n with
    | true =>
      simp only [List.lookup_cons, hx]
      by_cases hc : (k₀ == NameKind.free && sc.kind == .function && sc.names.lookup n == some .cell) = true
      · rw [if_pos hc] at h'
        simp only [List.lookup_cons, hx] at h'
        cases h'
        simp only [Bool.and_eq_true, beq_iff_eq] at hc
        exact ⟨k₀, rfl, .inr ⟨hc.1.1, rfl⟩⟩
      · rw [if_neg hc] at h'
        simp only [List.lookup_cons, hx] at h'
        cases h'
        exact ⟨_, rfl, .inl rfl⟩
    | false =>
      simp only [List.lookup_cons, hx]
      by_cases hc : (k₀ == NameKind.free && sc.kind == .function && sc.names.lookup n == some .cell) = true
      · rw [if_pos hc] at h'
        simp only [List.lookup_cons, hx] at h'
        exact ih h'
      · rw [if_neg hc] at h'
        simp only [List.lookup_cons, hx] at h'
        exact ih h'
structure BlkOk (N : List Str) (sc scope : Scope) (own : List (Str × Nat)) : Prop where
  kind : scope.kind = .function
  uniq : ∀ y ∈ scope.names, scope.names.lookup y.1 = some y.2
  ix : ∀ p ∈ own, N[p.2]? = some p.1
  free : ∀ y ∈ scope.names, y.2 = .free → sc.names.lookup y.1 = some .cell ∨ sc.names.lookup y.1 = some .free
  own : ∀ y ∈ scope.names, y.2 = .local ∨ y.2 = .cell → y.1 ∈ own.map (·.1) ∨ y.1 ∉ N
def wipe (σ : St) : List Nat → St
  | [] => σ
  | v :: vs => (wipe σ vs).set v none
theorem wipe_length (σ : St) : ∀ vs : List Nat, (wipe σ vs).length = σ.length
  | [] => rfl
  | v :: vs => by unfold wipe; rw [List.length_set, wipe_length σ vs]
theorem wipe_some {σ : St} {i : Nat} {x : V} : ∀ {vs : List Nat}, (wipe σ vs)[i]? = some (some x) → σ[i]? = some (some x) ∧ i ∉ vs
  | [], h => ⟨h, by simp⟩
  | v :: vs, h => by
    unfold wipe at h
    by_cases hi : v = i
    · subst hi
      by_cases hv : v < (wipe σ vs).length
      · rw [List.getElem?_set_self hv] at h; cases h
      · rw [List.getElem?_eq_none (by simpa using hv)] at h; cases h
    · rw [List.getElem?_set_ne hi] at h
      obtain ⟨h1, h2⟩ := wipe_some h
      exact ⟨h1, by simp only [List.mem_cons, not_or]; exact ⟨fun e => hi e.symm, h2⟩⟩
abbrev Cx.blk (X : Cx) (s : Shared) (H : Hp) (scope : Scope) (cenv : Env) (fp : List Addr) : Cx := { X with s_0 := s, H_0 := H, env := cenv, outer := X.stack, ex := fp, fn := fun x => scope.names.lookup x == some .cell, pn := [], xe := fun _ _ => False }
section
variable {X : Cx} {pins : List (Addr × Obj)} {σ : St} {H : Hp} {s : Shared}
theorem block_start {scope : Scope} {own : List (Str × Nat)} {fp : List Addr} (I : Inv X pins σ H s) (ok : BlkOk X.N X.env.scope scope own) (hN : X.N.Nodup) (hfp : ∀ b ∈ fp, FpOk X pins H b ∧ b < s.heap.objs.size) :
    Inv (X.blk s H scope (compEnvC scope (cellsFrom (s.heap.objs.size + 1) scope.names (cloFrom X.env.cells scope.names [])) s.heap.objs.size X.env) fp) [] (wipe σ (own.map (·.2))) H { s with heap := pushCells (s.heap.push { cls := .type "dict", data := .dict #[] }) scope.names } := by
  have hfree : ∀ y ∈ scope.names, y.2 = .free → ∃ c, X.env.cells.lookup y.1 = some c := fun y hy e => by
    rcases ok.free y hy e with k | k
    · exact I.ok.has _ (.inl k)
    · exact I.ok.has _ (.inr k)
  generalize hcenv : compEnvC scope (cellsFrom (s.heap.objs.size + 1) scope.names (cloFrom X.env.cells scope.names [])) s.heap.objs.size X.env = cenv
  have kp : ∀ b o, s.heap.get? b = some o → (pushCells (s.heap.push { cls := .type "dict", data := .dict #[] }) scope.names).get? b = some o := fun b o e => pushCells_keeps _ _ _ _ (Heap.get?_push_of_some _ e)
  have hL : cenv.locals = s.heap.objs.size := by rw [← hcenv]; rfl
  have hcl : cenv.cells = cellsFrom (s.heap.objs.size + 1) scope.names (cloFrom X.env.cells scope.names []) := by rw [← hcenv]; rfl
  have hsc : cenv.scope = relS scope X.env.scope := by rw [← hcenv]; rfl
  rw [← Heap.size_push s.heap { cls := .type "dict", data := .dict #[] }] at hcl
  have cm : ∀ {y c}, (y, c) ∈ cloFrom X.env.cells scope.names [] → X.env.cells.lookup y = some c ∧ c < s.heap.objs.size := fun {y c} hm => by
    rcases cloFrom_mem hm with hm | ⟨h1, rfl⟩
    · cases hm
    · obtain ⟨c, hc⟩ := hfree _ h1 rfl
      rw [hc]
      obtain ⟨w, z⟩ := I.cell _ _ hc
      exact ⟨rfl, z.lt⟩
  have mem : ∀ {y c}, cenv.cells.lookup y = some c → (X.env.cells.lookup y = some c ∧ c < s.heap.objs.size) ∨ (s.heap.objs.size + 1 ≤ c ∧ CellAt (pushCells (s.heap.push { cls := .type "dict", data := .dict #[] }) scope.names) c none) := fun {y c} e => by
    rw [hcl] at e
    rcases cells_mem (PySem.mem_of_lookup e) with hm | ⟨_, h2, h3⟩
    · exact .inl (cm hm)
    · rw [Heap.size_push] at h2; exact .inr ⟨h2, h3⟩
  have look : ∀ {y}, scope.names.lookup y = some .free → ∃ c, cenv.cells.lookup y = some c ∧ X.env.cells.lookup y = some c := fun {y} hl => by
    have hy : (y, NameKind.free) ∈ scope.names := PySem.mem_of_lookup hl
    obtain ⟨c', e'⟩ := mem_lookup (cells_acc (names := scope.names) (n := (s.heap.push { cls := .type "dict", data := .dict #[] }).objs.size) (cloFrom_has (cells := X.env.cells) (acc := []) hy))
    rw [← hcl] at e'
    refine ⟨c', e', ?_⟩
    rw [hcl] at e'
    rcases cells_mem (PySem.mem_of_lookup e') with hm | ⟨h1, _, _⟩
    · exact (cm hm).1
    · have := ok.uniq _ h1
      rw [hl] at this; cases this
  have okB : (X.blk s H scope cenv fp).Ok := by
    refine ⟨I.ok.mod, by show cenv.scope.kind = _; rw [hsc]; exact ok.kind, by show cenv.globals = _; rw [← hcenv]; exact I.ok.glob, by show cenv.builtins = _; rw [← hcenv]; exact I.ok.blt, by show s.heap.objs.size ≤ cenv.locals; rw [hL]; exact Nat.le_refl _,
      fun y z c e1 e2 => ?_, fun y hy => ?_, fun y c z e => ?_, I.ok.hd, I.ok.frames, .inl rfl, fun b hb => ⟨?_, fun y c e z => ?_⟩, I.bs, Nat.le_trans I.ok.bsz I.sz, fun b o e hb => ?_, fun b hb z => ?_, I.stack, I.stkFree⟩
    · have e1 : cenv.cells.lookup y = some c := e1
      have e2 : cenv.cells.lookup z = some c := e2
      rw [hcl] at e1 e2
      refine cells_inj (fun p hp => ?_) (fun y z c a b => I.ok.inj y z c (cm a).1 (cm b).1) (PySem.mem_of_lookup e1) (PySem.mem_of_lookup e2)
      rw [Heap.size_push]
      exact Nat.lt_succ_of_lt (cm (y := p.1) (c := p.2) hp).2
    · show ∃ c, cenv.cells.lookup y = some c
      have key : ∀ k, cenv.kindOf y = some k → (k = .cell ∨ k = .free) → ∃ c, cenv.cells.lookup y = some c := fun k hk hk' => by
        unfold Env.kindOf at hk
        rw [hsc] at hk
        obtain ⟨k', e, r⟩ := lookup_relS hk
        have : k' = .cell ∨ k' = .free := by
          rcases r with rfl | ⟨rfl, _⟩
          · exact hk'
          · exact .inr rfl
        rcases this with rfl | rfl
        · obtain ⟨c, hm⟩ := cells_has (n := (s.heap.push { cls := .type "dict", data := .dict #[] }).objs.size) (acc := cloFrom X.env.cells scope.names []) (PySem.mem_of_lookup e)
          obtain ⟨c', e'⟩ := mem_lookup hm
          exact ⟨c', by rw [hcl]; exact e'⟩
        · obtain ⟨c, h1, _⟩ := look e
          exact ⟨c, h1⟩
      rcases hy with hy | hy
      · exact key _ hy (.inl rfl)
      · exact key _ hy (.inr rfl)
    · have z : (scope.names.lookup y == some NameKind.cell) = true := z
      have z : scope.names.lookup y = some .cell := by simpa using z
      have e : cenv.cells.lookup y = some c := e
      rw [hcl] at e
      rcases cells_mem (PySem.mem_of_lookup e) with hm | ⟨_, h2, _⟩
      · rcases cloFrom_mem hm with hm | ⟨h1, _⟩
        · cases hm
        · have q := ok.uniq _ h1
          rw [z] at q; cases q
      · rw [Heap.size_push] at h2
        exact Nat.le_of_succ_le h2
    · show b ≠ cenv.locals
      rw [hL]; exact Nat.ne_of_lt (hfp b hb).2
    · have e : cenv.cells.lookup y = some c := e
      rcases mem e with ⟨h1, _⟩ | ⟨h1, _⟩
      · exact (hfp b hb).1.2.2.2.2.1 y c h1 z
      · have h2 : s.heap.objs.size + 1 ≤ b := by rw [← z]; exact h1
        exact absurd (Nat.lt_of_lt_of_le (hfp b hb).2 (Nat.le_of_succ_le h2)) (Nat.lt_irrefl _)
    · rcases (hfp b hb).1.2.2.2.1 with z | z
      · exact I.ok.noex b o e z
      · exact absurd (Nat.lt_of_lt_of_le (Heap.lt_size e) (Nat.le_trans I.ok.bsz z)) (Nat.lt_irrefl _)
    · rcases List.mem_cons.mp (I.stkSub b z) with z | z
      · exact (hfp b hb).1.2.1 z
      · exact (hfp b hb).1.2.2.1 z
  refine ⟨okB, rfl, I.bare, Un.kept kp, ⟨fun _ => none, ?_, fun i y av e1 e2 e3 => ?_⟩, fun y c e => ?_, ?_, fun y c e => ?_, fun p hp => ?_, I.hok.kept kp, by rw [wipe_length]; exact I.len⟩
  · show Heap.Ns _ cenv.locals _
    rw [hL]
    exact Heap.Ns.keeps (Heap.Ns.new ..) fun b o e => pushCells_keeps _ _ _ _ e
  · obtain ⟨e2, hne⟩ := wipe_some e2
    have hfr : scope.names.lookup y = some .free ∧ (cenv.kindOf y = some .cell ∨ cenv.kindOf y = some .free) := by
      have key : ∀ k, cenv.scope.names.lookup y = some k → k = .local ∨ k = .cell ∨ k = .free → scope.names.lookup y = some .free ∧ (cenv.kindOf y = some .cell ∨ cenv.kindOf y = some .free) := fun k hk hk' => by
        have hk0 := hk
        rw [hsc] at hk
        obtain ⟨k', e, r⟩ := lookup_relS hk
        have no : ¬ (k' = .local ∨ k' = .cell) := fun hh => by
          rcases ok.own _ (PySem.mem_of_lookup e) hh with e' | e'
          · obtain ⟨p, hp, hpy⟩ := List.mem_map.mp e'
            have e3 := ok.ix p hp
            have : p.1 = y := hpy
            rw [this] at e3
            exact hne (List.mem_map.mpr ⟨p, hp, nodup_ix hN e3 e1⟩)
          · exact e' (List.mem_of_getElem? e1)
        rcases r with rfl | ⟨rfl, rfl⟩
        · rcases hk' with rfl | rfl | rfl
          · exact absurd (.inl rfl) no
          · exact absurd (.inr rfl) no
          · exact ⟨e, .inr hk0⟩
        · exact ⟨e, .inl hk0⟩
      have e3 : Vis cenv.scope y := e3
      rcases e3 with e3 | e3 | e3
      · exact key _ e3 (.inl rfl)
      · exact key _ e3 (.inr (.inl rfl))
      · exact key _ e3 (.inr (.inr rfl))
    obtain ⟨m, hn, hl⟩ := I.loc
    have hvis : Vis X.env.scope y := (ok.free _ (PySem.mem_of_lookup hfr.1) rfl).elim (fun k => .inr (.inl k)) (fun k => .inr (.inr k))
    obtain ⟨w, r, q⟩ := hl i y av e1 e2 hvis
    refine ⟨w, r, .inr ⟨hfr.2, ?_⟩⟩
    obtain ⟨c, h1, h2⟩ := look hfr.1
    rcases q with ⟨k, _⟩ | ⟨_, c', e', z⟩
    · have k : X.env.scope.names.lookup y = some .local := k
      rcases ok.free _ (PySem.mem_of_lookup hfr.1) rfl with k' | k' <;> rw [show X.env.scope.names.lookup y = _ from k'] at k <;> cases k
    · rw [h2] at e'; cases e'
      exact ⟨c, h1, z.keeps kp⟩
  · have e : cenv.cells.lookup y = some c := e
    rcases mem e with ⟨h1, _⟩ | ⟨_, z⟩
    · obtain ⟨w, z⟩ := I.cell y c h1
      exact ⟨w, z.keeps kp⟩
    · exact ⟨_, z⟩
  · show H cenv.locals = none
    rw [hL]; exact I.hok.fresh (Nat.le_refl _)
  · have e : cenv.cells.lookup y = some c := e
    rcases mem e with ⟨h1, _⟩ | ⟨h1, _⟩
    · exact I.freeC y c h1
    · exact I.hok.fresh (Nat.le_of_succ_le h1)
  · exact absurd (show p ∈ ([] : List (Addr × Obj)) ++ [] from hp) (by simp)
theorem app_ok {E : Value → Shared → Prop} {D : Addr} {xs : List V} {y : V} {v : Value} {Q : Value → Shared → Prop} (I : Inv X pins σ H s) (hD : H D = some (.lst xs)) (hz : xs.length < sizeLine) (r : RelV y v)
    (h : ∀ s', Inv X pins σ (upd H D (.lst (xs ++ [y]))) s' → Q .none s') : wpAny (model X.prog X.w) X.A (call (.builtin "list.append") [.ref D, v]) Q E s := by
  obtain ⟨hz', its, n, ri, e⟩ := I.hok D _ hD
  have hl := ri.length
  refine append_at (hsz := by rw [List.size_toArray]; omega) e fun h' sb ho' => ?_
  refine h { s with heap := h' } (I.write (t' := s.toks) (by rw [hD]; trivial) (.inl rfl) (fun b u hb q => (sb.2 b hb).trans q) ⟨_, ho'⟩ ⟨by rw [List.length_append]; exact hz, its ++ [v], n + 1, ri.append (.cons r .nil), ?_⟩)
  rw [ho']
  simp
def PTs (X : Cx) (ifs : List Expr) (t : TT) : Prop :=
  ∀ (pins : List (Addr × Obj)) (s : Shared) (σ : St) (H : Hp) (Q : Bool → Hp → Prop), Inv X pins σ H s → t σ H Q →
    wpAny (model X.prog X.w) X.A (forIn ifs true fun c r => if r = true then do let ok ← isTrue c X.env (eval c X.env); pure (ForInStep.yield ok) else pure (ForInStep.yield r)) (TP X pins σ Q) X.xe s
def tYes : TT := fun _ H Q => Q true H
theorem pts_nil : PTs X [] tYes := fun _ _ _ H _ I h => wpAny_tests_nil ⟨H, I, h⟩
theorem pts_one {c : Expr} {t : TT} (h : PT X c t) : PTs X [c] t := fun pins s σ H Q I hw => wpAny_tests_one (h pins s σ H Q I hw)
end
theorem thnF {α : Type} {t : Sem α} {Q Q' : α → Shared → Prop} {M : Model} {A : Around} {E : Value → Shared → Prop} {s : Shared} (h : wpAny M A t Q (fun _ _ => False) s) (hQ : ∀ a s, Q a s → Q' a s) : wpAny M A t Q' E s := wpAny_mono h hQ fun _ _ z => False.elim z
theorem compLoop_any {prog : Program} {w : World} {A : Around} {R : Result → Shared → Prop} {s : Shared} {elt target iter : Expr} {ifs : List Expr} {scope : Scope} {pos : Pos} {it acc : Value} {env : Env} (I : Nat → Shared → Prop)
    (turn : ∀ n s, I n s → wpAny (model prog w) A (pyNext it) (fun r s₁ => match r with
      | none => R (.ok .next) s₁
      | some v => wpAny (model prog w) A (letOwnedTupleGo target it v) (fun _ s₁' => wpAny (model prog w) A (assign target env v) (fun _ s₂ =>
          wpAny (model prog w) A (forIn ifs true fun c r => if r = true then do let ok ← isTrue c env (eval c env); pure (ForInStep.yield ok) else pure (ForInStep.yield r)) (fun ok s₃ =>
            if ok = true then wpAny (model prog w) A (eval elt env) (fun x s₄ =>
              wpAny (model prog w) A (call (.builtin "list.append") [acc, x]) (fun _ s₅ => ∃ m, m < n ∧ I m s₅) (notedBy (model prog w) A env fun e s' => R (.error e) s') s₄) (notedBy (model prog w) A env fun e s' => R (.error e) s') s₃
            else ∃ m, m < n ∧ I m s₃) (notedBy (model prog w) A env fun e s' => R (.error e) s') s₂) (notedBy (model prog w) A env fun e s' => R (.error e) s') s₁') (notedBy (model prog w) A env fun e s' => R (.error e) s') s₁) (notedBy (model prog w) A env fun e s' => R (.error e) s') s)
    (n : Nat) (h : I n s) :
    codeAny (model prog w) A (.compLoop (.ListComp elt [⟨target, iter, ifs, 0⟩] scope pos) 0 it acc env) R s := by
  refine codeAny_loop rfl I (fun n s hI => ?_) n h
  show wpAny _ A ((compTurn (.ListComp elt [⟨target, iter, ifs, 0⟩] scope pos) 0 it acc env).onRaise (fun x => do noteFrame x env; theTreesLotGoes x)) _ _ s
  refine wpAny_noted ?_
  rw [compTurn_list]
  refine wpAny_bind (wpAny_standAt (wpAny_bind (wpAny_mono (turn n s hI) (fun r s₁ h₁ => ?_) fun _ _ h' => h')))
  cases r with
  | none => exact wpAny_pure h₁
  | some v =>
    refine wpAny_bind (wpAny_mono h₁ (fun _ s₁' h₁' => ?_) fun _ _ h' => h')
    refine wpAny_bind (wpAny_mono h₁' (fun _ s₂ h₂ => wpAny_bind (wpAny_mono h₂ (fun ok s₃ h₃ => ?_) fun _ _ h' => h')) fun _ _ h' => h')
    cases ok with
    | false => exact wpAny_pure ⟨rfl, h₃⟩
    | true =>
      exact wpAny_bind (wpAny_bind (wpAny_mono h₃ (fun x s₄ h₄ => wpAny_bind (wpAny_mono h₄ (fun _ s₅ h₅ => wpAny_pure (wpAny_pure ⟨rfl, h₅⟩)) fun _ _ h' => h')) fun _ _ h' => h'))
section
variable {X : Cx}
def tLc (wi : TI) (g : TG) (tt : TT) (te : TE) (vs : List Nat) : TE := fun σ H Q => wi σ H fun J H1 => ∀ D, H1 D = none → ∃ W : Nat → Nat → Hp → Prop, (∃ m, W 0 m (upd H1 D (.lst []))) ∧ ∀ i m H, W i m H →
  (J.stop i H ∧ Q (.ref D) H) ∨ (J.go i H ∧ ∃ Nx : Hp → Prop, (∀ H', Nx H' → ∃ m', m' < m ∧ W (i + 1) m' H') ∧ ∀ x H', J.yld i H x H' → g x (wipe σ vs) H' fun σ2 H2 => wipe σ2 vs = wipe σ vs ∧ tt σ2 H2 fun b H3 =>
    if b = true then te σ2 H3 fun y H4 => ∃ acc, H4 D = some (.lst acc) ∧ acc.length < sizeLine ∧ Nx (upd H4 D (.lst (acc ++ [y]))) else Nx H3)
theorem lc_core {pins : List (Addr × Obj)} {s : Shared} {σ : St} {H : Hp} {Q : VK} {elt tg iter : Expr} {ifs : List Expr} {scope : Scope} {own : List (Str × Nat)} {pos pos' : Pos} {wi : TI} {g : TG} {tt : TT} {te : TE} {use : Option (Value → Sem Unit)} {Qf : Value → Shared → Prop}
    (hc : X.calm = true) (hN : X.N.Nodup) (I : Inv X pins σ H s) (hi : PI X tg iter wi) (ok : BlkOk X.N X.env.scope scope own)
    (hg : ∀ (s : Shared) (H : Hp) (C : Addr) (cl : List (Str × Addr)) (fp : List Addr), PG (X.blk s H scope (compEnvC scope cl C X.env) fp) tg g) (ht : ∀ (s : Shared) (H : Hp) (C : Addr) (cl : List (Str × Addr)) (fp : List Addr), PTs (X.blk s H scope (compEnvC scope cl C X.env) fp) ifs tt)
    (he : ∀ (s : Shared) (H : Hp) (C : Addr) (cl : List (Str × Addr)) (fp : List Addr), PE (X.blk s H scope (compEnvC scope cl C X.env) fp) elt te) (hs : ∀ x, foldedSetIterable iter X.env x = pure x)
    (h : tLc wi g tt te (own.map (·.2)) σ H Q)
    (hRR : ∀ D C s' m H', Inv X pins σ H' s' → Q (.ref D) H' → s'.heap.Ns C m → FpOk X pins H' C → compPost (model X.prog X.w) X.A X.xe use Qf (.ref D) C (.ok .next) s') :
    wpAny (model X.prog X.w) X.A (comprehension (.ListComp elt [⟨tg, iter, ifs, 0⟩] scope pos) scope X.env pos' (newList []) false (eval iter X.env) use) Qf X.xe s := by
  have hfree : ∀ y ∈ scope.names, y.2 = .free → ∃ c, X.env.cells.lookup y.1 = some c := fun y hy e => by
    rcases ok.free y hy e with k | k
    · exact I.ok.has _ (.inl k)
    · exact I.ok.has _ (.inr k)
  refine wpAny_comprehension_free (use := use) rfl hs (closure_ok hfree) ok.kind (fun y hy e => by rw [ok.uniq y hy, e])
    (thn (hi pins s σ H _ I h) fun xv s1 hx => thn hx fun itv s2 h2 => ?_)
  obtain ⟨it, fp, tn, J, H2, e, I2, T, st2, f2, q⟩ := h2
  subst e
  refine wpAny_newObj_type (newEnv_comp ?_) (by show 0 ≤ sizeLine; decide)
  generalize hD : s2.heap.objs.size = D
  have hDn : H2 D = none := I2.hok.fresh (Nat.le_of_eq hD)
  obtain ⟨W, ⟨m0, w0⟩, turn⟩ := q D hDn
  -- the new list
  generalize hs3 : ({ s2 with heap := s2.heap.push { cls := .type "list", data := .seq ([] : List Value).toArray } } : Shared) = s3
  have I3 : Inv X pins σ (upd H2 D (.lst [])) s3 := by
    rw [← hs3]
    refine I2.laid (t' := s2.toks) (fun b o e => Heap.get?_push_of_some _ e) (Nat.le_of_eq hD) ⟨Nat.zero_le _, [], 0, .nil, ?_⟩
    rw [← hD]
    exact Heap.get?_push_size _ rfl
  have h3 : s3.heap = s2.heap.push { cls := .type "list", data := .seq ([] : List Value).toArray } := by rw [← hs3]
  have sz : ∀ b ∈ fp, b < s2.heap.objs.size := fun b hb => by
    obtain ⟨o, e, _⟩ := T.obj _ _ st2 b hb
    exact Heap.lt_size e
  have f3 : ∀ b ∈ fp, FpOk X pins (upd H2 D (.lst [])) b ∧ b < s3.heap.objs.size := fun b hb => by
    have hlt := sz b hb
    refine ⟨⟨?_, (f2 b hb).2⟩, by rw [h3, Heap.size_push]; exact Nat.lt_succ_of_lt hlt⟩
    rw [upd_ne (by rw [← hD]; exact Nat.ne_of_lt hlt)]
    exact (f2 b hb).1
  have st3 : tn 0 s3.heap := T.keep _ _ _ st2 fun b _ o e => by rw [h3]; exact Heap.get?_push_of_some _ e
  have I4 := block_start I3 ok hN f3
  have pg := hg s3 (upd H2 D (.lst [])) s3.heap.objs.size (cellsFrom (s3.heap.objs.size + 1) scope.names (cloFrom X.env.cells scope.names [])) fp
  have pt := ht s3 (upd H2 D (.lst [])) s3.heap.objs.size (cellsFrom (s3.heap.objs.size + 1) scope.names (cloFrom X.env.cells scope.names [])) fp
  have pe := he s3 (upd H2 D (.lst [])) s3.heap.objs.size (cellsFrom (s3.heap.objs.size + 1) scope.names (cloFrom X.env.cells scope.names [])) fp
  show codeAny _ _ (.compStart (.ListComp elt [⟨tg, iter, ifs, 0⟩] scope pos) 0 (.ref it) (.ref D) (compEnvC scope (cellsFrom (s3.heap.objs.size + 1) scope.names (cloFrom X.env.cells scope.names [])) s3.heap.objs.size X.env)) (compPost (model X.prog X.w) X.A X.xe use Qf (.ref D) s3.heap.objs.size) { s3 with heap := pushCells (s3.heap.push { cls := .type "dict", data := .dict #[] }) scope.names }
  have nfp : ∀ b ∈ fp, (upd H2 D (.lst [])) b = none := fun b hb => (f3 b hb).1.1
  generalize hce : compEnvC scope (cellsFrom (s3.heap.objs.size + 1) scope.names (cloFrom X.env.cells scope.names [])) s3.heap.objs.size X.env = ce at I4 pg pt pe ⊢
  have cL : ce.locals = s3.heap.objs.size := by subst hce; rfl
  generalize hH3 : upd H2 D (.lst []) = H3 at I3 I4 pg pt pe w0 nfp f3
  generalize hs4 : ({ s3 with heap := pushCells (s3.heap.push { cls := .type "dict", data := .dict #[] }) scope.names } : Shared) = s4 at I4 ⊢
  have st4 : tn 0 s4.heap := T.keep _ _ _ st3 fun b _ o e => by rw [← hs4]; exact pushCells_keeps _ _ _ _ (Heap.get?_push_of_some _ e)
  have stat : ∀ {σ' : St} {H' : Hp} {s' : Shared}, Inv (X.blk s3 H3 scope ce fp) [] σ' H' s' → (∀ b ∈ fp, H' b = none) → ∀ b ∈ fp, FpOk (X.blk s3 H3 scope ce fp) [] H' b := fun {σ' H' s'} I' hn b hb =>
    ⟨hn b hb, (I'.ok.exf b hb).1, I'.ok.exfs b hb, .inl hb, fun x c e => (I'.ok.exf b hb).2 x c e, fun p hp => absurd (show p ∈ ([] : List (Addr × Obj)) ++ [] from hp) (by simp)⟩
  have loop : codeAny (model X.prog X.w) X.A (.compLoop (.ListComp elt [⟨tg, iter, ifs, 0⟩] scope pos) 0 (.ref it) (.ref D) ce) (compPost (model X.prog X.w) X.A X.xe use Qf (.ref D) s3.heap.objs.size) s4 := by
    refine compLoop_any (fun n s' => ∃ i H', Inv (X.blk s3 H3 scope ce fp) [] (wipe σ (own.map (·.2))) H' s' ∧ tn i s'.heap ∧ (∀ b ∈ fp, H' b = none) ∧ W i n H') ?_ m0 ⟨0, H3, I4, st4, nfp, w0⟩
    rintro n s5 ⟨i, H5, I5, st5, n5, w5⟩
    rcases turn i n H5 w5 with ⟨stop, qq⟩ | ⟨go, Nx, hNx, step⟩
    · have td := T.done (X.blk s3 H3 scope ce fp) rfl rfl rfl hc i [] s5 _ H5 (fun _ _ => False) I5 (stat I5 n5) st5 stop
      refine thnF td fun r s6 ⟨hr, I6⟩ => ?_
      subst hr
      -- back in the def's context
      have I7 : Inv X pins σ H5 s6 := I3.call' (ch := fp) I6.os I6.base I6.hok I6.bare fun b hb => ⟨(f3 b hb).1.2.2.2.1, (f3 b hb).1.2.1, (f3 b hb).1.2.2.2.2.1, (f3 b hb).1.2.2.2.2.2⟩
      have nC : H5 s3.heap.objs.size = none := by
        have z : H5 ce.locals = none := I6.free
        rw [cL] at z
        exact z
      obtain ⟨m, hn, _⟩ := I6.loc
      have hn : s6.heap.Ns ce.locals m := hn
      rw [cL] at hn
      exact hRR D s3.heap.objs.size s6 m H5 I7 qq hn (I3.fpOk (Nat.le_refl _) nC)
    · have ti := T.item (X.blk s3 H3 scope ce fp) rfl rfl rfl hc i [] s5 _ H5 (fun _ _ => False) I5 (stat I5 n5) st5 go
      refine thnF ti fun r s6 ⟨u, hr, h6⟩ => ?_
      subst hr
      refine thnF h6 fun _ s7 ⟨x, H7, I7, r7, y7, st7, n7⟩ => ?_
      have I7' := I7.pinned (stat I7 n7) (T.obj _ _ st7)
      refine thnF (pg _ s7 _ H7 x u _ I7' r7 (step x H7 y7)) fun _ s8 ⟨σ8, H8, I8, hw8, q8⟩ => ?_
      refine thnF (pt _ s8 σ8 H8 _ I8 q8) fun b s9 ⟨H9, I9, q9⟩ => ?_
      -- the turn's end
      have fin : ∀ {s' : Shared} {H' : Hp}, Inv (X.blk s3 H3 scope ce fp) ([] ++ pinsAt fp s7.heap) σ8 H' s' → Nx H' → ∃ m, m < n ∧ ∃ i H', Inv (X.blk s3 H3 scope ce fp) [] (wipe σ (own.map (·.2))) H' s' ∧ tn i s'.heap ∧ (∀ b ∈ fp, H' b = none) ∧ W i m H' := fun {s' H'} I' nx => by
        obtain ⟨m', hm, w'⟩ := hNx H' nx
        have pin' : ∀ b ∈ fp, ∀ o, s7.heap.get? b = some o → s'.heap.get? b = some o ∧ H' b = none := fun b hb o e =>
          let z := I'.pin (b, o) (List.mem_append_right _ (List.mem_append_right _ (mem_pinsAt hb e)))
          ⟨z.1, z.2.1⟩
        have hl : (wipe σ (own.map (·.2))).length = σ8.length := by rw [← hw8, wipe_length]
        refine ⟨m', hm, i + 1, H', (I'.unpinned (pins := [])).weak hl (fun j v e => ?_), T.keep _ _ _ st7 fun b hb o e => (pin' b hb o e).1, fun b hb => ?_, w'⟩
        · rw [← hw8] at e
          exact (wipe_some e).1
        · obtain ⟨o, e, _⟩ := T.obj _ _ st7 b hb
          exact (pin' b hb o e).2
      cases b with
      | false =>
        simp only [Bool.false_eq_true, if_false] at q9 ⊢
        exact fin I9 q9
      | true =>
        simp only [if_true] at q9 ⊢
        refine thnF (pe _ s9 σ8 H9 _ I9 q9) fun z s10 ⟨yv, H10, I10, r10, acc, hD10, hz10, nx⟩ => ?_
        exact app_ok (X := X.blk s3 H3 scope ce fp) I10 hD10 hz10 r10 fun s11 I11 => fin I11 nx
  exact codeAny_compStart_list loop (T.self X.A 0 _ _ _ st4 loop)
theorem pe_lc {elt tg iter : Expr} {ifs : List Expr} {scope : Scope} {own : List (Str × Nat)} {pos : Pos} {wi : TI} {g : TG} {tt : TT} {te : TE} (hc : X.calm = true) (hN : X.N.Nodup) (hi : PI X tg iter wi) (ok : BlkOk X.N X.env.scope scope own)
    (hg : ∀ (s : Shared) (H : Hp) (C : Addr) (cl : List (Str × Addr)) (fp : List Addr), PG (X.blk s H scope (compEnvC scope cl C X.env) fp) tg g) (ht : ∀ (s : Shared) (H : Hp) (C : Addr) (cl : List (Str × Addr)) (fp : List Addr), PTs (X.blk s H scope (compEnvC scope cl C X.env) fp) ifs tt)
    (he : ∀ (s : Shared) (H : Hp) (C : Addr) (cl : List (Str × Addr)) (fp : List Addr), PE (X.blk s H scope (compEnvC scope cl C X.env) fp) elt te) (hs : ∀ x, foldedSetIterable iter X.env x = pure x := by intro _; rfl) :
    PE X (.ListComp elt [⟨tg, iter, ifs, 0⟩] scope pos) (tLc wi g tt te (own.map (·.2))) := by
  intro pins s σ H Q I h
  rw [eval_ListComp]
  refine lc_core hc hN I hi ok hg ht he hs h fun D C s' m H' I' q hn f => ⟨m, hn, fun h'' sb => ?_⟩
  obtain ⟨f0, f1, f2, f3, f4, f5⟩ := f
  exact ⟨.ref D, H', I'.turned (t' := s'.toks) (fun b o hb e => (sb.2 b hb).trans e) f0 f1 f3 f4 f5, rfl, q⟩
theorem ps_setLc {i : Nat} {y : Str} {py : Pos} {elt tg iter : Expr} {ifs : List Expr} {scope : Scope} {own : List (Str × Nat)} {pos spos : Pos} {wi : TI} {g : TG} {tt : TT} {te : TE} (hc : X.calm = true) (hN : X.N.Nodup) (hy : X.N[i]? = some y) (hyl : X.env.scope.names.lookup y = some .local)
    (hsw : swapsWith (.ListComp elt [⟨tg, iter, ifs, 0⟩] scope pos) (some (.Name y py)) spos.line X.env = pure true) (hi : PI X tg iter wi) (ok : BlkOk X.N X.env.scope scope own)
    (hg : ∀ (s : Shared) (H : Hp) (C : Addr) (cl : List (Str × Addr)) (fp : List Addr), PG (X.blk s H scope (compEnvC scope cl C X.env) fp) tg g) (ht : ∀ (s : Shared) (H : Hp) (C : Addr) (cl : List (Str × Addr)) (fp : List Addr), PTs (X.blk s H scope (compEnvC scope cl C X.env) fp) ifs tt)
    (he : ∀ (s : Shared) (H : Hp) (C : Addr) (cl : List (Str × Addr)) (fp : List Addr), PE (X.blk s H scope (compEnvC scope cl C X.env) fp) elt te) (hs : ∀ x, foldedSetIterable iter X.env x = pure x := by intro _; rfl) :
    PS X (.Assign [.Name y py] (.ListComp elt [⟨tg, iter, ifs, 0⟩] scope pos) spos) (tAsg (tLc wi g tt te (own.map (·.2))) (gName i)) := by
  intro pins s σ H D I h
  rw [exec_Assign_Name_used _ _ _ _ hsw]
  refine wpAny_bind (wpAny_standAt (wpAny_bind ?_))
  show wpAny _ X.A (do let _ ← comprehension (.ListComp elt [⟨tg, iter, ifs, 0⟩] scope pos) scope X.env (firstIterPos [⟨tg, iter, ifs, 0⟩] pos) (newList []) false (eval iter X.env) (some (assign (.Name y py) X.env))) _ _ s
  have h : tLc wi g tt te (own.map (·.2)) σ H (fun x H1 => gName i x σ H1 D.nx) := h
  refine wpAny_bind (thn (lc_core (Qf := fun _ s' => SP X pins D .next s') hc hN I hi ok hg ht he hs h fun L C s' m H' I' q hn f => ?_) fun _ s' hq => wpAny_pure (wpAny_pure hq))
  show wpAny _ _ (assign (.Name y py) X.env (.ref L)) _ _ _
  refine wpAny_assign_Name (store_ok2 (v := V.ref L) I' hN hy (.inl hyl) rfl (fun s2 I2 ⟨a, sb, ha⟩ => ?_) (.inr hyl))
  obtain ⟨f0, f1, f2, f3, f4, f5⟩ := f
  have haC : C ≠ a := by
    rcases ha with z | z
    · rw [z]; exact f1
    · exact fun e => f4 y a z e.symm
  refine ⟨m, hn.sameBut sb haC, fun h3 sb3 => ?_⟩
  exact ⟨_, H', I2.turned (t' := s2.toks) (fun b o hb e => (sb3.2 b hb).trans e) f0 f1 f3 f4 f5, q⟩
theorem sw_true {elt : Expr} {gs : List Comprehension} {scope : Scope} {pos py : Pos} {y : Str} {l : Nat} {env : Env} (hk : env.scope.kind = .function) (hy : env.scope.names.lookup y = some .local) (hl : (py.line == pos.line) = true)
    (ha : (scope.names.any fun (n, k) => n == y && (k == .local || k == .cell)) = false) : swapsWith (.ListComp elt gs scope pos) (some (.Name y py)) l env = pure true := by
  have ky : env.kindOf y = some .local := hy
  have hb : env.blockKind = .function := by unfold Env.blockKind; rw [hk]; rfl
  unfold swapsWith
  simp only [hb, ky, ha, Expr.pos, hl]
  rfl
end
theorem lc_list {K : PySem.W.Frag} {a : Addr} {xs : List V} {g : TG} {tt : TT} {te : TE} {vs : List Nat} {σ : St} {H1 : Hp} {D : Addr} {Qd : Hp → Prop} (Pv : Nat → Hp → Prop) (h0 : Pv 0 (upd H1 D (.lst []))) (hl : ∀ i H, i ≤ xs.length → Pv i H → SqL K H a xs)
    (hs : ∀ i x H, xs[i]? = some x → Pv i H → g x (wipe σ vs) H fun σ2 H2 => wipe σ2 vs = wipe σ vs ∧ tt σ2 H2 fun b H3 =>
      if b = true then te σ2 H3 fun y H4 => ∃ acc, H4 D = some (.lst acc) ∧ acc.length < sizeLine ∧ Pv (i + 1) (upd H4 D (.lst (acc ++ [y]))) else Pv (i + 1) H3) (hd : ∀ H, Pv xs.length H → Qd H) :
    ∃ W : Nat → Nat → Hp → Prop, (∃ m, W 0 m (upd H1 D (.lst []))) ∧ ∀ i m H, W i m H →
      ((Itl K a).stop i H ∧ Qd H) ∨ ((Itl K a).go i H ∧ ∃ Nx : Hp → Prop, (∀ H', Nx H' → ∃ m', m' < m ∧ W (i + 1) m' H') ∧ ∀ x H', (Itl K a).yld i H x H' → g x (wipe σ vs) H' fun σ2 H2 => wipe σ2 vs = wipe σ vs ∧ tt σ2 H2 fun b H3 =>
        if b = true then te σ2 H3 fun y H4 => ∃ acc, H4 D = some (.lst acc) ∧ acc.length < sizeLine ∧ Nx (upd H4 D (.lst (acc ++ [y]))) else Nx H3) := by
  refine ⟨fun i m H => m = xs.length - i ∧ i ≤ xs.length ∧ Pv i H, ⟨xs.length, by simp, Nat.zero_le _, h0⟩, ?_⟩
  rintro i m H ⟨rfl, hi, p⟩
  have q := hl i H hi p
  by_cases hlt : i < xs.length
  · refine .inr ⟨⟨xs, xs[i], q, by simp [hlt]⟩, Pv (i + 1), fun H' p' => ⟨xs.length - (i + 1), by omega, rfl, hlt, p'⟩, fun x H' y => ?_⟩
    obtain ⟨e, y⟩ := y
    subst e
    exact hs i x _ (y xs q) p
  · have e : i = xs.length := by omega
    subst e
    exact .inl ⟨⟨xs, q, Nat.le_refl _⟩, hd H p⟩
def blkC (N : List Str) (sc scope : Scope) (own : List (Str × Nat)) : Bool :=
  (match scope.kind with | .function => true | _ => false) && (scope.names.all fun y => decide (scope.names.lookup y.1 = some y.2)) && (own.all fun p => decide (N[p.2]? = some p.1)) &&
    (scope.names.all fun y => match y.2 with
      | .free => (match sc.names.lookup y.1 with | some .cell => true | some .free => true | _ => false)
      | .local => decide (y.1 ∈ own.map (·.1)) || decide (y.1 ∉ N)
      | .cell => decide (y.1 ∈ own.map (·.1)) || decide (y.1 ∉ N)
      | _ => true)
theorem blkOk_by {N : List Str} {sc scope : Scope} {own : List (Str × Nat)} (h : blkC N sc scope own = true) : BlkOk N sc scope own := by
  unfold blkC at h
  simp only [Bool.and_eq_true, List.all_eq_true, decide_eq_true_eq] at h
  obtain ⟨⟨⟨h1, h2⟩, h3⟩, h4⟩ := h
  refine ⟨?_, h2, h3, fun y hy e => ?_, fun y hy e => ?_⟩
  · split at h1
    · assumption
    · cases h1
  · have q := h4 y hy
    simp only [e] at q
    split at q <;> first | exact .inl (by assumption) | exact .inr (by assumption) | cases q
  · have q := h4 y hy
    rcases e with e | e <;> (simp only [e, Bool.or_eq_true, decide_eq_true_eq] at q; exact q)
end L2
namespace L2
open PySem PySem.Spec PyProof.Rows
section
variable {prog : Program} {w : World} {A : Around} {R : Result → Shared → Prop} {s : Shared} {elt t0 i0 t1 i1 : Expr} {ifs0 ifs1 : List Expr} {scope : Scope} {pos : Pos} {it acc : Value} {env : Env}
end
section
variable {X : Cx}
end
end L2
namespace L2
open PySem PySem.Spec PyProof.Rows
section
variable {κ : Type} [DecidableEq κ]
def valV (kvs : List (κ × V)) (k : κ) : Option V := (kvs.find? fun kv => decide (kv.1 = k)).map (·.2)
def putK (kvs : List (κ × V)) (k : κ) (v : V) : List (κ × V) :=
  if (kvs.any fun kv => decide (kv.1 = k)) = true then kvs.map (fun kv => if kv.1 = k then (kv.1, v) else kv) else kvs ++ [(k, v)]
def dropK (kvs : List (κ × V)) (k : κ) : List (κ × V) := kvs.filter fun kv => decide (kv.1 ≠ k)
theorem valV_pos {p : κ × V} {r : List (κ × V)} {k : κ} (e : p.1 = k) : valV (p :: r) k = some p.2 := by simp [valV, List.find?_cons, e]
theorem valV_neg {p : κ × V} {r : List (κ × V)} {k : κ} (e : ¬ p.1 = k) : valV (p :: r) k = valV r k := by simp [valV, List.find?_cons, e]
theorem valV_any (k : κ) : ∀ kvs : List (κ × V), (kvs.any fun kv => decide (kv.1 = k)) = (valV kvs k).isSome
  | [] => rfl
  | p :: r => by
    rw [List.any_cons]
    by_cases e : p.1 = k
    · simp only [valV_pos e, decide_eq_true e, Bool.true_or, Option.isSome_some]
    · rw [valV_neg e, decide_eq_false e, Bool.false_or]; exact valV_any k r
theorem length_putK (kvs : List (κ × V)) (k : κ) (v : V) : (putK kvs k v).length ≤ kvs.length + 1 := by
  unfold putK
  split
  · rw [List.length_map]; omega
  · rw [List.length_append, List.length_cons, List.length_nil]; omega
theorem putK_new {kvs : List (κ × V)} {k : κ} (v : V) (h : valV kvs k = none) : putK kvs k v = kvs ++ [(k, v)] := by
  unfold putK
  rw [valV_any, h]
  exact if_neg (by decide)
theorem RelO.isSome_eq {o : Option V} {u : Option Value} (r : RelO o u) : o.isSome = u.isSome := by
  cases o with
  | none => cases u with
    | none => rfl
    | some _ => exact (show False from r).elim
  | some _ => cases u with
    | none => exact (show False from r).elim
    | some _ => rfl
theorem RelO.getD {o : Option V} {u : Option Value} {d : V} {d' : Value} (r : RelO o u) (rd : RelV d d') : RelV (o.getD d) (u.getD d') := by
  cases o with
  | none => cases u with
    | none => exact rd
    | some _ => exact (show False from r).elim
  | some _ => cases u with
    | none => exact (show False from r).elim
    | some _ => exact r
theorem KV.val {kvs : List (κ × V)} {vs : List (κ × Value)} (r : KV kvs vs) (k : κ) : RelO (valV kvs k) (valueAt vs k) := by
  unfold KV at r
  induction r with
  | nil => exact True.intro
  | @cons p q ps qs h t ih =>
    obtain ⟨h1, h2⟩ := h
    by_cases e : p.1 = k
    · have e' : q.1 = k := h1.symm.trans e
      have b : valueAt (q :: qs) k = some q.2 := by simp [valueAt, List.find?_cons, e']
      rw [valV_pos e, b]; exact h2
    · have e' : ¬ q.1 = k := fun z => e (h1.trans z)
      have b : valueAt (q :: qs) k = valueAt qs k := by simp [valueAt, List.find?_cons, e']
      rw [valV_neg e, b]; exact ih
theorem KV.any {kvs : List (κ × V)} {vs : List (κ × Value)} (r : KV kvs vs) (k : κ) : (kvs.any fun kv => decide (kv.1 = k)) = vs.any fun kv => decide (kv.1 = k) := by
  unfold KV at r
  induction r with
  | nil => rfl
  | cons h t ih => rw [List.any_cons, List.any_cons, ih, h.1]
theorem KV.repl {kvs : List (κ × V)} {vs : List (κ × Value)} (r : KV kvs vs) (k : κ) {y : V} {u : Value} (ry : RelV y u) :
    KV (kvs.map fun kv => if kv.1 = k then (kv.1, y) else kv) (vs.map fun kv => if kv.1 = k then (kv.1, u) else kv) := by
  unfold KV at r ⊢
  induction r with
  | nil => exact .nil
  | @cons p q ps qs h t ih =>
    rw [List.map_cons, List.map_cons]
    refine .cons ?_ ih
    obtain ⟨h1, h2⟩ := h
    by_cases e : p.1 = k
    · rw [if_pos e, if_pos (h1.symm.trans e)]; exact ⟨h1, ry⟩
    · rw [if_neg e, if_neg (fun z => e (h1.trans z))]; exact ⟨h1, h2⟩
theorem KV.put {kvs : List (κ × V)} {vs : List (κ × Value)} (r : KV kvs vs) (k : κ) {y : V} {u : Value} (ry : RelV y u) : KV (putK kvs k y) (stored vs k u) := by
  unfold putK stored
  rw [r.any k]
  by_cases e : (vs.any fun kv => decide (kv.1 = k)) = true
  · rw [if_pos e, if_pos e]; exact r.repl k ry
  · rw [if_neg e, if_neg e]; exact Paired.snoc r ⟨rfl, ry⟩
theorem KV.drop {kvs : List (κ × V)} {vs : List (κ × Value)} (r : KV kvs vs) (k : κ) : KV (dropK kvs k) (without vs k) := by
  unfold KV at r ⊢
  unfold dropK without
  induction r with
  | nil => exact .nil
  | @cons p q ps qs h t ih =>
    obtain ⟨h1, h2⟩ := h
    rw [List.filter_cons, List.filter_cons]
    by_cases e : p.1 = k
    · have a : ¬ decide (p.1 ≠ k) = true := by simp [e]
      have b : ¬ decide (q.1 ≠ k) = true := by simp [h1.symm.trans e]
      rw [if_neg a, if_neg b]; exact ih
    · have e' : ¬ q.1 = k := fun z => e (h1.trans z)
      have a : decide (p.1 ≠ k) = true := by simp [e]
      have b : decide (q.1 ≠ k) = true := by simp [e']
      rw [if_pos a, if_pos b]; exact .cons ⟨h1, h2⟩ ih
theorem KV.length {kvs : List (κ × V)} {vs : List (κ × Value)} (r : KV kvs vs) : kvs.length = vs.length := Paired.length r
end
theorem kV_is {P : Program} {w : World} {k : Key} {u : Value} (r : RelV (kV k) u) : (mixKind P w).is k u = true := by
  cases k with
  | inl i => obtain ⟨t, e⟩ := (show ∃ t, u = Value.int i t from r); subst e; exact mixKind_int P w i t
  | inr x => obtain ⟨t, e⟩ := (show ∃ t, u = Value.str x t from r); subst e; exact mixKind_str P w x t
theorem items_are {P : Program} {w : World} : ∀ {ks : List Key} {us : List Value}, Vals (ks.map kV) us → ItemsAre (mixKind P w) ks us
  | [], _, r => by rw [List.map_nil] at r; cases r; exact .nil
  | k :: ks, _, r => by
    rw [List.map_cons] at r
    cases r with
    | cons h t => exact .cons (kV_is h) (items_are t)
abbrev KT (H : Hp) : List (List Key × V) → List (List Key × Addr × Value) → Prop := Paired fun p q => p.1 = q.1 ∧ H q.2.1 = some (.tup (p.1.map kV)) ∧ RelV p.2 q.2.2
theorem KT.val {H : Hp} {kvs : List (List Key × V)} {xs : List (List Key × Addr × Value)} (r : KT H kvs xs) (k : List Key) : RelO (valV kvs k) ((atKey xs k).map (·.2)) := by
  induction r with
  | nil => exact True.intro
  | @cons p q ps qs h t ih =>
    obtain ⟨h1, _, h2⟩ := h
    by_cases e : p.1 = k
    · have e' : q.1 = k := h1.symm.trans e
      have b : atKey (q :: qs) k = some q.2 := by simp [atKey, List.find?_cons, e']
      rw [valV_pos e, b]; exact h2
    · have e' : ¬ q.1 = k := fun z => e (h1.trans z)
      have b : atKey (q :: qs) k = atKey qs k := by simp [atKey, List.find?_cons, e']
      rw [valV_neg e, b]; exact ih
theorem KT.repl {H : Hp} {kvs : List (List Key × V)} {xs : List (List Key × Addr × Value)} (r : KT H kvs xs) (k : List Key) {y : V} {u : Value} (ry : RelV y u) :
    KT H (kvs.map fun kv => if kv.1 = k then (kv.1, y) else kv) (xs.map (putAt k u)) := by
  induction r with
  | nil => exact .nil
  | @cons p q ps qs h t ih =>
    rw [List.map_cons, List.map_cons]
    refine .cons ?_ ih
    obtain ⟨h1, h2, h3⟩ := h
    unfold putAt
    by_cases e : p.1 = k
    · rw [if_pos e, if_pos (h1.symm.trans e)]; exact ⟨h1, h2, ry⟩
    · rw [if_neg e, if_neg (fun z => e (h1.trans z))]; exact ⟨h1, h2, h3⟩
theorem KT.put {H : Hp} {kvs : List (List Key × V)} {xs : List (List Key × Addr × Value)} (r : KT H kvs xs) (k : List Key) {b : Addr} {y : V} {u : Value} (hb : H b = some (.tup (k.map kV))) (ry : RelV y u) :
    KT H (putK kvs k y) (storedH xs k b u) := by
  have e : (kvs.any fun kv => decide (kv.1 = k)) = (atKey xs k).isSome := by
    rw [valV_any, (r.val k).isSome_eq, Option.isSome_map]
  unfold putK storedH
  rw [e]
  by_cases q : (atKey xs k).isSome = true
  · rw [if_pos q, if_pos q]; exact r.repl k ry
  · rw [if_neg q, if_neg q]; exact Paired.snoc r ⟨rfl, hb, ry⟩
section
variable {P : Program} {w : World} {H : Hp} {h : Heap} {a : Addr}
theorem rd_of {u : HO} (ok : HOk P w H h) (e : Rd H a u) : ObjOk P w H h a u := e.ok ok
theorem dk_rd {kvs : List (Key × V)} (ok : HOk P w H h) (e : Rd H a (.dK kvs)) : kvs.length ≤ sizeLine ∧ (a == sysModules) = false ∧ ∃ vs, KV kvs vs ∧ h.DictOf (mixKind P w) a vs :=
  show ObjOk P w H h a (.dK kvs) from rd_of ok e
theorem key_of {ks : List Key} (ok : HOk P w H h) (e : H a = some (.tup (ks.map kV))) : (tupleKind (mixKind P w)).is h ks a := by
  obtain ⟨_, its, r, o, h1, h2, n, h3⟩ := (show ObjOk P w H h a (.tup (ks.map kV)) from ok a _ e)
  exact ⟨o, its.toArray, n, h1, h2, h3, by simpa using items_are r⟩
theorem dt_rd {kvs : List (List Key × V)} (ok : HOk P w H h) (e : Rd H a (.dT kvs)) : kvs.length ≤ sizeLine ∧ (a == sysModules) = false ∧
    ∃ xs, KT H kvs xs ∧ h.DictOfH (tupleKind (mixKind P w)) a xs := by
  obtain ⟨z, y, xs, r, o, es, ep, h1, h2, h3, h4, h5⟩ := (show ObjOk P w H h a (.dT kvs) from rd_of ok e)
  refine ⟨z, y, xs, r, o, es, ep, h1, h2, h3, h4, fun x hx => ?_, h5⟩
  have all : ∀ {l : List (List Key × V)} {m : List (List Key × Addr × Value)}, KT H l m → ∀ x ∈ m, (tupleKind (mixKind P w)).is h x.1 x.2.1 := by
    intro l m q
    induction q with
    | nil => intro x hx; exact nomatch hx
    | @cons p q ps qs hq t ih =>
      intro x hx
      rcases List.mem_cons.mp hx with e | hx
      · subst e
        exact key_of ok (by rw [← hq.1]; exact hq.2.1)
      · exact ih x hx
  exact all r x hx
end
def DGet (H : Hp) (a : Addr) (y : V) (r : Option V) : Prop :=
  (∃ kvs k, Rd H a (.dK kvs) ∧ y = kV k ∧ r = valV kvs k) ∨ ∃ kvs k b, Rd H a (.dT kvs) ∧ y = .ref b ∧ H b = some (.tup (k.map kV)) ∧ r = valV kvs k
def DPut (H : Hp) (a : Addr) (y v : V) (H' : Hp) : Prop :=
  (∃ kvs k, H a = some (.dK kvs) ∧ y = kV k ∧ kvs.length < sizeLine ∧ H' = upd H a (.dK (putK kvs k v))) ∨
  ∃ kvs k b, H a = some (.dT kvs) ∧ y = .ref b ∧ H b = some (.tup (k.map kV)) ∧ kvs.length < sizeLine ∧ H' = upd H a (.dT (putK kvs k v))
theorem DGet.k {H : Hp} {a : Addr} {kvs : List (Key × V)} {k : Key} (e : H a = some (.dK kvs)) : DGet H a (kV k) (valV kvs k) := .inl ⟨kvs, k, .inl e, rfl, rfl⟩
theorem DGet.t {H : Hp} {a b : Addr} {kvs : List (List Key × V)} {k : List Key} (e : H a = some (.dT kvs)) (eb : H b = some (.tup (k.map kV))) : DGet H a (.ref b) (valV kvs k) := .inr ⟨kvs, k, b, .inl e, rfl, eb, rfl⟩
theorem DPut.k {H : Hp} {a : Addr} {kvs : List (Key × V)} {k : Key} {v : V} (e : H a = some (.dK kvs)) (hl : kvs.length < sizeLine) : DPut H a (kV k) v (upd H a (.dK (putK kvs k v))) := .inl ⟨kvs, k, e, rfl, hl, rfl⟩
theorem DPut.t {H : Hp} {a b : Addr} {kvs : List (List Key × V)} {k : List Key} {v : V} (e : H a = some (.dT kvs)) (eb : H b = some (.tup (k.map kV))) (hl : kvs.length < sizeLine) :
    DPut H a (.ref b) v (upd H a (.dT (putK kvs k v))) := .inr ⟨kvs, k, b, e, rfl, eb, hl, rfl⟩
section
variable {X : Cx} {pins : List (Addr × Obj)} {σ : St} {H : Hp} {s : Shared} {a : Addr} {y v : V} {u r : Value} {o : Option V} {A : Around} {E : Value → Shared → Prop}
theorem Inv.big (I : Inv X pins σ H s) : sysModules < s.heap.objs.size := by
  have h : mainGlobals < s.heap.objs.size := (I.mod.glob.keeps I.bk).lt
  exact Nat.lt_trans (by decide) h
end
section
variable {X : Cx} {pins : List (Addr × Obj)} {σ : St} {H : Hp} {s : Shared} {a : Addr} {kvs : List (Key × V)} {k : Key} {u : Value} {A : Around} {E : Value → Shared → Prop}
theorem d_len {Q : Value → Shared → Prop} (I : Inv X pins σ H s) (e : Rd H a (.dK kvs)) (h : ∀ t s', Inv X pins σ H s' → Q (.int kvs.length t) s') : wpAny (model X.prog X.w) A (call (.builtin "len") [.ref a]) Q E s := by
  obtain ⟨z, hd, vs, rel, dd⟩ := dk_rd I.hok e
  refine call_len_dict hd dd (by rw [← rel.length]; rw [sizeLine_eq] at z; omega) ?_
  rw [← rel.length]
  exact h _ _ (I.tok _)
end
section
variable {X : Cx} {o i e value : Expr} {pos pos' tpos : Pos} {td ty tv : TE}
end
section
variable {X : Cx} {pos : Pos}
end
def mergeK (kvs more : List (Key × V)) : List (Key × V) := more.foldl (fun acc kv => putK acc kv.1 kv.2) kvs
theorem KV.merge : ∀ {more : List (Key × V)} {rs : List (Key × Value)} {kvs : List (Key × V)} {vs : List (Key × Value)}, KV more rs → KV kvs vs → KV (mergeK kvs more) (merged vs rs) := by
  intro more rs kvs vs r
  unfold KV at r
  induction r generalizing kvs vs with
  | nil => intro q; exact q
  | @cons p q ps qs h t ih =>
    intro r0
    have e : KV (putK kvs p.1 p.2) (stored vs q.1 q.2) := by
      have := r0.put p.1 h.2
      rw [← h.1]; exact this
    exact ih e
theorem length_mergeK : ∀ (more kvs : List (Key × V)), (mergeK kvs more).length ≤ kvs.length + more.length
  | [], kvs => by show kvs.length ≤ kvs.length + 0; omega
  | p :: r, kvs => by
    have h1 := length_mergeK r (putK kvs p.1 p.2)
    have h2 := length_putK kvs p.1 p.2
    show (mergeK (putK kvs p.1 p.2) r).length ≤ _
    rw [List.length_cons]; omega
structure M1 (X : Cx) (o : Expr) (m : Str) (apos : Pos) (e : Expr) (cpos : Pos) : Prop where
  base : attributeBase o m X.env (eval o X.env) = eval o X.env
  few : ((backTo cpos (starEach [e] X.env)).all (fun x => !x.1) && (backToKw cpos (keywordEach [] X.env)).all (fun x => x.1.isSome)
    && decide (([e] : List Expr).length + ([] : List Keyword).length + (if ([] : List Keyword).isEmpty then 0 else 1) < 30)) = true
  line : (apos.endLine == cpos.line) = true
  trees : backTo cpos (starEach [e] X.env) = [(false, eval e X.env)]
structure M2 (X : Cx) (o : Expr) (m : Str) (apos : Pos) (e f : Expr) (cpos : Pos) : Prop where
  base : attributeBase o m X.env (eval o X.env) = eval o X.env
  few : ((backTo cpos (starEach [e, f] X.env)).all (fun x => !x.1) && (backToKw cpos (keywordEach [] X.env)).all (fun x => x.1.isSome)
    && decide (([e, f] : List Expr).length + ([] : List Keyword).length + (if ([] : List Keyword).isEmpty then 0 else 1) < 30)) = true
  line : (apos.endLine == cpos.line) = true
  trees : backTo cpos (starEach [e, f] X.env) = [(false, eval e X.env), (false, eval f X.env)]
def IsD (H : Hp) (a : Addr) : Prop := (∃ kvs, Rd H a (.dK kvs)) ∨ ∃ kvs, Rd H a (.dT kvs)
theorem isD_at {X : Cx} {pins : List (Addr × Obj)} {σ : St} {H : Hp} {s : Shared} {a : Addr} (I : Inv X pins σ H s) (d : IsD H a) :
    s.TypeIs (.ref a) "dict" ∧ (∀ b, Value.ref a = .ref b → ∃ ob, s.heap.get? b = some ob ∧ ob.dict = none) ∧ (a == sysModules) = false := by
  rcases d with ⟨kvs, e⟩ | ⟨kvs, e⟩
  · obtain ⟨_, hd, vs, _, dd⟩ := dk_rd I.hok e
    refine ⟨dd.typeIs, fun b q => ?_, hd⟩
    cases q
    obtain ⟨ob, _, _, h1, h2, _⟩ := dd
    exact ⟨ob, h1, h2.2.1⟩
  · obtain ⟨_, hd, xs, _, dd⟩ := dt_rd I.hok e
    refine ⟨dd.typeIs, fun b q => ?_, hd⟩
    cases q
    obtain ⟨ob, _, _, h1, h2, _⟩ := dd
    exact ⟨ob, h1, h2.2.1⟩
section
variable {X : Cx} {pins : List (Addr × Obj)} {σ : St} {H : Hp} {s : Shared} {a : Addr} {y d : V} {u r : Value} {o : Option V} {A : Around} {E : Value → Shared → Prop}
theorem d_get2 {Q : Value → Shared → Prop} (hu : A.units + 1 < cLine) (I : Inv X pins σ H s) (g : DGet H a y o) (ry : RelV y u) (rd : RelV d r) (h : ∀ w' s', Inv X pins σ H s' → RelV (o.getD d) w' → Q w' s') :
    wpAny (model X.prog X.w) A (call (.builtin "dict.get") [.ref a, u, r]) Q E s := by
  rcases g with ⟨kvs, k, e, ey, l⟩ | ⟨kvs, k, b, e, ey, eb, l⟩
  · subst ey
    obtain ⟨z, hd, vs, rel, dd⟩ := dk_rd I.hok e
    refine call_meetsIn PySem.F.slot_dict_get dd.typeIs PySem.F.entry_dict_get (PySem.F.args_dict_get_3 _ _ _) (meets_dict_get_default (mixKind X.prog X.w) a (kV_is ry) hd r) ⟨_, dd.mapOf, h _ _ (I.tok _) ?_⟩
    rw [l]
    exact (rel.val k).getD rd
  · subst ey
    cases (show u = Value.ref b from ry)
    obtain ⟨z, hd, xs, rel, dd⟩ := dt_rd I.hok e
    refine call_meetsIn PySem.F.slot_dict_get dd.typeIs PySem.F.entry_dict_get (PySem.F.args_dict_get_3 _ _ _) (meetsH_dict_get_default (tupleKind (mixKind X.prog X.w)) a b hd r) ⟨tupleKind_room_in1 hu, k, xs, key_of I.hok eb, dd, h _ _ (I.tok _) ?_⟩
    rw [l]
    exact (rel.val k).getD rd
end
def tDGet2 (td ty tx : TE) : TE := fun σ H Q => td σ H fun x H1 => ∃ a, x = .ref a ∧ IsD H1 a ∧ ty σ H1 fun y H2 => tx σ H2 fun z H3 => ∃ o, DGet H3 a y o ∧ Q (o.getD z) H3
section
variable {X : Cx} {o e f : Expr} {apos cpos : Pos} {td ty tx : TE}
theorem pe_dget2 (hu : X.A.units + 1 < cLine) (ho : PE X o td) (he : PE X e ty) (hf : PE X f tx) (m : M2 X o "get" apos e f cpos) : PE X (.Call (.Attribute o "get" apos) [e, f] [] cpos) (tDGet2 td ty tx) := by
  intro pins s σ H Q I h
  refine wpAny_Call_method m.base m.few m.line PySem.F.plainAttrs_dict PySem.F.slot_dict_get PySem.F.type_dict_get (thn (ho pins s σ H _ I h) fun u s1 ⟨x, H1, I1, rx, a, ex, d, q1⟩ => ?_)
  subst ex
  obtain rfl : u = Value.ref a := rx
  obtain ⟨t1, t2, _⟩ := isD_at I1 d
  refine ⟨t1, t2, ?_⟩
  rw [m.trees]
  refine Calls.callWith_builtin rfl (Calls.evalArgs_plain (Calls.spliced_cons (thn (he pins s1 σ H1 _ I1 q1) fun iv s2 ⟨y, H2, I2, ry, q2⟩ =>
    Calls.spliced_cons (thn (hf pins s2 σ H2 _ I2 q2) fun fv s3 ⟨z, H3, I3, rz, ov, g, q3⟩ => Calls.spliced_nil ?_))))
  exact d_get2 hu I3 g ry rz fun w' s4 I4 rw' => ⟨_, H3, I4, rw', q3⟩
end
section
variable {X : Cx} {pins : List (Addr × Obj)} {σ : St} {H : Hp} {s : Shared} {a : Addr} {kvs : List (Key × V)} {A : Around} {E : Value → Shared → Prop}
end
section
variable {X : Cx} {pins : List (Addr × Obj)} {σ : St} {H : Hp} {s : Shared} {a : Addr} {y : V} {u : Value} {A : Around} {E : Value → Shared → Prop}
end
end L2
namespace L2
open PySem PySem.Spec PyProof.Rows
theorem list_keys_none : typeLookup (.type "list") "keys" = pure none := am_miss_of_fast (by first | decide +kernel | rfl)
theorem ud_entry : entryFor table "dict.update.loop" = some Builtin.«dict.update.loop» := entryFor_of_tree (by kernel_rfl)
theorem ud_plain : plainId "dict.update.loop" = true := by decide +kernel
section
variable {prog : Program} {w : World} {A : Around} {E : Value → Shared → Prop}
theorem miss_list {s : Shared} {a : Addr} {o : Obj} {xs : Array Value} {k : Nat} {Q : Option Value → Shared → Prop} (hx : s.heap.get? a = some o) (hc : o.cls = .type "list") (hdat : o.data = .seq xs k) (hd : o.dict = none) (hA : A.handled = none)
    (h : ∀ h' tk, (∀ b ob, s.heap.get? b = some ob → h'.get? b = some ob) → Q none { s with heap := h', toks := tk }) : wpAny (model prog w) A (getAttr? (.ref a) "keys") Q E s := by
  obtain ⟨c, dct, dat, sl⟩ := o
  simp only at hc hdat hd
  subst hc hdat hd
  obtain ⟨hp, g, d, tk, os⟩ := s
  have hT : ∀ tk', (⟨hp, g, d, tk', os⟩ : Shared).TypeIs (.ref a) "list" := fun _ => ⟨_, hx, rfl⟩
  have hmiss := list_keys_none
  have hname : (["__module__", "__name__", "__qualname__", "__doc__", "__annotations__"] : List Str).contains "keys" = false := by decide +kernel
  have hsz : ("keys" : Str).length + 100 ≤ sizeLine := by first | size_fits | decide +kernel
  have f1 := sub_AttributeError
  have f3 := PySem.F.slot_list_getattribute.lookup
  have f4 := PySem.F.slot_list_getattribute.bind (.ref a)
  have f5 := am_list_getattr_none
  unfold getAttr? getAttrBy? getAttrBy
  repeat (any_goals (first | assumption | exact hT _ | ((with_reducible show wpAny _ _ (call (Value.builtin "list.__getattribute__") _ _) _ _ _); refine call_meets PySem.F.slot_list_getattribute (hT _) am_entry_list_getattribute (PySem.F.args_list_getattribute_2 _ _) (meets_getattribute_miss_list a xs k sl "keys" _ hmiss hname hsz) ⟨hx, hA, fun h' tk' e hx' => ?_⟩) | wp_step))
  obtain ⟨t', u', he⟩ := hx'.there
  show wpAny _ _ (getattributeRaised _ _ _ _ _ _ _) _ _ _
  unfold getattributeRaised
  repeat (any_goals (first | assumption | wp_step))
  all_goals first | exact h _ _ hx'.keeps | (dsimp only; repeat (any_goals (first | assumption | exact h _ _ hx'.keeps | wp_step)))
theorem upd_loop {R : Result → Shared → Prop} {S I l : Addr} {items : Array Value} {res : Value} (hh : A.handled = none) (hlI : l ≠ I) (hSI : S ≠ I) (hSl : S ≠ l) :
    ∀ (rest : List (Key × Value)) (i : Nat) (acc : List (Key × Value)) (ix : Int) (t : Tok) (s : Shared), items.size = i + rest.length → acc.length + rest.length ≤ sizeLine →
      (∀ (j : Nat) (q : Key × Value), rest[j]? = some q → ∃ (b : Addr) (u : Value), items[i + j]? = some (.ref b) ∧ b ≠ S ∧ b ≠ I ∧ IsTup s.heap b #[u, q.2] ∧ keyIs q.1 u = true) →
      s.heap.IsListIter I l i → s.heap.IsList l items → s.heap.DictOf (mixKind prog w) S acc →
      (∀ h' tk, h'.DictOf (mixKind prog w) S (merged acc rest) → (∀ b o, b ≠ S → b ≠ I → s.heap.get? b = some o → h'.get? b = some o) → R (.ok (.ret res)) { s with heap := h', toks := tk }) →
      codeAny (model prog w) A (.builtin "dict.update.loop" ⟨[.ref S, .ref I, .int ix t, res], []⟩) R s
  | [], i, acc, ix, t, s, hsz, hln, ht, hit, hl, hm, hR => by
    refine codeAny_builtin ud_entry ?_
    rw [Around.under_plainId ud_plain _]
    show wpAny _ A.in1 (pyNext (.ref I) >>= _) _ _ s
    refine wpAny_bind (wpAny_pyNext_list_end (A := A.in1) hh hit hl (by first | exact Array.getElem?_eq_none (Nat.le_of_eq hsz) | (simp at hsz; simp; omega)) fun h' he => ?_)
    show wpAny _ A.in1 (Builtin.Dict.addKeywords S [] >>= _) _ _ _
    refine wpAny_bind (wpAny_pure (wpAny_pure ?_))
    exact hR h' s.toks (hm.extBut he hSI) fun b o _ hb e => he b o hb e
  | q :: rest, i, acc, ix, t, s, hsz, hln, ht, hit, hl, hm, hR => by
    obtain ⟨b, u, hb, hbS, hbI, htup, hk⟩ := ht 0 q rfl
    rw [List.length_cons] at hsz hln
    refine codeAny_builtin ud_entry ?_
    rw [Around.under_plainId ud_plain _]
    show wpAny _ A.in1 (pyNext (.ref I) >>= _) _ _ s
    refine wpAny_bind (wpAny_pyNext_list_item (x := .ref b) hit hl (by simpa using hb) fun h1 hit1 hs1 => ?_)
    have ht1 : IsTup h1 b #[u, q.2] := htup.extBut hs1.extBut hbI
    have hl1 : h1.IsList l items := hl.extBut hs1.extBut hlI
    have hm1 : h1.DictOf (mixKind prog w) S acc := hm.extBut hs1.extBut hSI
    obtain ⟨o, ho, hc, n, hd⟩ := id ht1
    show wpAny _ A.in1 (holding [Value.ref b] _ >>= _) _ _ _
    refine wpAny_bind (wpAny_holding ?_)
    refine wpAny_bind (wpAny_tryCatch ?_)
    unfold Builtin.Dict.pairItems
    refine wpAny_bind (wpAny_typeOf (T := "tuple") ⟨o, ho, hc⟩ ?_)
    rw [if_pos (by first | decide | rfl | simp)]
    refine wpAny_bind (wpAny_seqItems ho hd (wpAny_pure ?_))
    show wpAny _ A.in1 (holding [u, q.2] (dictSet S u q.2)) _ _ _
    refine wpAny_holding (wpAny_dictSet_pairs (knd := mixKind prog w) (k := q.1) hk hm1 (fun h2 hm2 hs2 => ?_) (by omega))
    refine wpAny_pure ⟨plainId_quiet ud_plain _, upd_loop (items := items) hh hlI hSI hSl rest (i + 1) (stored acc q.1 q.2) (ix + 1) 0 _ (show items.size = i + 1 + rest.length by omega) ?_ (fun j q' e => ?_) ?_ ?_ hm2 fun h' tk hd' k => ?_⟩
    · have z := stored_length_le acc q.1 q.2
      omega
    · obtain ⟨b', u', hb', hbS', hbI', htup', hk'⟩ := ht (j + 1) q' (by simpa using e)
      refine ⟨b', u', ?_, hbS', hbI', (htup'.extBut hs1.extBut hbI').extBut hs2.extBut hbS', hk'⟩
      rw [show i + 1 + j = i + (j + 1) by omega]
      exact hb'
    · exact hit1.at fun o' e => hs2.extBut I o' (Ne.symm hSI) e
    · exact hl1.extBut hs2.extBut (Ne.symm hSl)
    · exact hR h' tk hd' fun c oc h3 h4 e => k c oc h3 h4 (hs2.extBut c oc h3 (hs1.extBut c oc h4 e))
theorem call_dict_pairs {s : Shared} {l : Addr} {ol : Obj} {items : Array Value} {n : Nat} {prs : List (Key × Value)} {Q : Value → Shared → Prop} (hh : A.handled = none) (hl : s.heap.get? l = some ol) (hc : ol.cls = .type "list") (hd : ol.dict = none)
    (hdat : ol.data = .seq items n) (hsz : items.size = prs.length) (hln : prs.length ≤ sizeLine)
    (ht : ∀ (j : Nat) (q : Key × Value), prs[j]? = some q → ∃ (b : Addr) (u : Value), items[j]? = some (.ref b) ∧ IsTup s.heap b #[u, q.2] ∧ keyIs q.1 u = true)
    (h : ∀ h' tk, h'.DictOf (mixKind prog w) s.heap.objs.size (merged [] prs) → (∀ b o, s.heap.get? b = some o → h'.get? b = some o) → Q (.ref s.heap.objs.size) { s with heap := h', toks := tk }) :
    wpAny (model prog w) A (call (.type "dict") [.ref l]) Q E s := by
  refine callType_codes (Q₁ := fun obj s₁ => obj = .ref s.heap.objs.size ∧ s₁ = { s with heap := s.heap.push { cls := .type "dict", data := .dict #[] } }) PySem.F.kt_called_dict (PySem.F.kt_typeCall_dict_1 _) PySem.F.entry_dict_init (kt_code_dict_new _ ⟨rfl, rfl⟩) ?_
  rintro obj s₁ ⟨rfl, rfl⟩
  have hnew : (s.heap.push { cls := .type "dict", data := .dict #[] }).DictOf (mixKind prog w) s.heap.objs.size [] := Heap.DictOf.new s.heap
  have k0 : ∀ b o, s.heap.get? b = some o → (s.heap.push { cls := .type "dict", data := .dict #[] }).get? b = some o := fun b o e => Heap.get?_push_of_some _ e
  refine ⟨hnew.typeIs, PySem.F.args_dict_init_2 _ _, ?_⟩
  unfold Builtin.«dict.__init__»
  refine wpAny_bind ?_
  unfold Builtin.Dict.selfAndRest
  refine wpAny_bind (wpAny_notOrdered_dict hnew.typeIs ?_)
  show wpAny _ _ (pure (s.heap.objs.size, [Value.ref l])) _ _ _
  refine wpAny_pure ?_
  show wpAny _ _ (Builtin.Dict.updateFrom "dict.__init__" s.heap.objs.size (.ref l) [] .none) _ _ _
  unfold Builtin.Dict.updateFrom
  refine wpAny_bind (wpAny_typeOf (T := "list") ⟨ol, k0 _ _ hl, hc⟩ ?_)
  rw [if_pos (by first | decide | rfl | simp)]
  refine wpAny_bind (miss_list (k0 _ _ hl) hc hdat hd hh fun h1 tk1 hk1 => ?_)
  rw [if_pos (show (none : Option Value).isNone = true from rfl)]
  refine wpAny_bind (wpAny_rule ?_)
  have hl1 : h1.IsList l items := ⟨ol, hk1 _ _ (k0 _ _ hl), hc, n, hdat⟩
  have hS1 : s.heap.objs.size < h1.objs.size := by
    have e : (s.heap.push { cls := .type "dict", data := .dict #[] }).get? s.heap.objs.size = some { cls := .type "dict", data := .dict #[] } := Heap.get?_push_size _ rfl
    exact Heap.lt_size (hk1 _ _ e)
  refine wpAny_bind (wpAny_pyIter_list hl1 ?_)
  have k2 : ∀ b o, h1.get? b = some o → (h1.push { cls := .type "list_iterator", data := .fields #[.ref l, .int 0 0] }).get? b = some o := fun b o e => Heap.get?_push_of_some _ e
  have hlt : l < s.heap.objs.size := Heap.lt_size hl
  have key := upd_loop (prog := prog) (w := w) (A := A.in1) (R := wants (fun r s₂ => r = .none ∧ Q (.ref s.heap.objs.size) s₂) E) (S := s.heap.objs.size) (I := h1.objs.size) (l := l) (items := items) (res := Value.none) hh
    (Nat.ne_of_lt (Nat.lt_trans hlt hS1)) (Nat.ne_of_lt hS1) (Nat.ne_of_gt hlt) prs 0 [] 0 0
    { s with heap := h1.push { cls := .type "list_iterator", data := .fields #[.ref l, .int 0 0] }, toks := tk1 } (by rw [hsz, Nat.zero_add]) (by rw [List.length_nil, Nat.zero_add]; exact hln)
    (fun j q e => by
      obtain ⟨b, u, e1, e2, e3⟩ := ht j q e
      have hb : b < s.heap.objs.size := e2.lt
      exact ⟨b, u, by rw [Nat.zero_add]; exact e1, Nat.ne_of_lt hb, Nat.ne_of_lt (Nat.lt_trans hb hS1), e2.keeps fun c o z => k2 _ _ (hk1 _ _ (k0 _ _ z)), e3⟩)
    ⟨_, Heap.get?_push_size _ rfl, rfl, rfl⟩ (hl1.at fun o e => k2 _ _ e) ((hnew.at fun o e => hk1 _ _ e).at fun o e => k2 _ _ e)
    (fun h' tk hd' k => ⟨rfl, h h' tk hd' fun b o e => k b o (Nat.ne_of_lt (Heap.lt_size e)) (Nat.ne_of_lt (Nat.lt_trans (Heap.lt_size e) hS1)) (k2 _ _ (hk1 _ _ (k0 _ _ e)))⟩)
  first
    | exact wpAny_pure ⟨plainId_quiet ud_plain _, key⟩
    | exact wpAny_bind (wpAny_pure (wpAny_pure ⟨plainId_quiet ud_plain _, key⟩))
end
section
variable {X : Cx}
theorem pairs_of {pins : List (Addr × Obj)} {σ : St} {H : Hp} {s : Shared} (I : Inv X pins σ H s) : ∀ {ps : List Addr} {kvs : List (Key × V)}, Paired (fun p kv => SqT X.K H p [kV kv.1, kv.2]) ps kvs →
    ∃ prs : List (Key × Value), KV kvs prs ∧ prs.length = ps.length ∧ ∀ (j : Nat) (q : Key × Value), prs[j]? = some q → ∃ (b : Addr) (u : Value), ps[j]? = some b ∧ IsTup s.heap b #[u, q.2] ∧ keyIs q.1 u = true
  | _, _, .nil => ⟨[], .nil, rfl, fun j q e => by simp at e⟩
  | _, _, .cons (a := p) (b := kv) h t => by
    obtain ⟨prs, r, hl, hp⟩ := pairs_of I t
    obtain ⟨its, rv, ht, _⟩ := I.tuple h
    obtain ⟨u, y, ei, ru, ry⟩ := vals2 rv
    subst ei
    refine ⟨(kv.1, y) :: prs, .cons ⟨rfl, ry⟩ r, by rw [List.length_cons, List.length_cons, hl], fun j q e => ?_⟩
    cases j with
    | zero =>
      have e' : (kv.1, y) = q := Option.some.inj e
      subst e'
      exact ⟨p, u, rfl, ht, kV_is (P := X.prog) (w := X.w) ru⟩
    | succ j =>
      obtain ⟨b, u', e1, e2, e3⟩ := hp j q (by simpa using e)
      exact ⟨b, u', by simpa using e1, e2, e3⟩
theorem refs_at : ∀ {ps : List Addr} {us : List Value}, Vals (ps.map V.ref) us → us = ps.map Value.ref
  | [], us, r => by
    rw [List.map_nil] at r
    cases r
    rfl
  | p :: ps, us, r => by
    rw [List.map_cons] at r
    cases r with
    | cons h t =>
      cases h
      rw [List.map_cons, ← refs_at t]
theorem call_dictP (hcalm : X.calm = true) : CallR X (.type "dict") (fun xs H Q => ∃ (a : Addr) (ps : List Addr) (kvs : List (Key × V)), xs = [.ref a] ∧ SqL X.K H a (ps.map V.ref) ∧ Paired (fun p kv => SqT X.K H p [kV kv.1, kv.2]) ps kvs ∧
    ∀ p, H p = none → Q (.ref p) (upd H p (.dK (mergeK [] kvs)))) := by
  intro pins s σ H xs us Q I r q
  obtain ⟨a, ps, kvs, ex, hq, hp, q⟩ := q
  subst ex
  obtain ⟨u, eu, rx⟩ := vals1 r
  subst eu
  cases rx
  obtain ⟨its, rv, pl, hz⟩ := I.list hq
  have ei := refs_at rv
  subst ei
  rw [List.length_map] at hz
  obtain ⟨prs, rel, hl, hpr⟩ := pairs_of I hp
  obtain ⟨o, n, ho, hc, hd, hdat⟩ := pl
  refine call_dict_pairs (prs := prs) (I.ok.hd hcalm) ho hc hd hdat (by simp [hl]) (by rw [hl]; exact hz) (fun j q' e => ?_) fun h' tk hd' k => ?_
  · obtain ⟨b, u, e1, e2, e3⟩ := hpr j q' e
    exact ⟨b, u, by simp [e1], e2, e3⟩
  · have hm : (s.heap.objs.size == sysModules) = false := beq_eq_false_iff_ne.mpr (Nat.ne_of_gt I.big)
    have hlen : (mergeK [] kvs).length ≤ sizeLine := by
      refine Nat.le_trans (length_mergeK kvs []) ?_
      rw [List.length_nil, Nat.zero_add, rel.length, hl]
      exact hz
    exact ⟨.ref s.heap.objs.size, upd H s.heap.objs.size (.dK (mergeK [] kvs)), I.laid (t' := tk) k (Nat.le_refl _) (show ObjOk X.prog X.w _ _ _ (.dK (mergeK [] kvs)) from ⟨hlen, hm, merged [] prs, KV.merge rel .nil, hd'⟩), rfl, q _ (I.hok.fresh (Nat.le_refl _))⟩
end
end L2
namespace L2
open PySem PySem.Spec PyProof.Rows
theorem boot_reversed5 : bootBuiltins "reversed" = some (.type "reversed") := by decide +kernel
section
variable {X : Cx} {pins : List (Addr × Obj)} {σ : St} {H : Hp} {s : Shared} {h' : Heap}
theorem Inv.turnedNew {t' : Nat} {ch : List Addr} {T : Addr} {ob : HO} (I : Inv X pins σ H s) (k : ∀ b o, b ∉ ch → s.heap.get? b = some o → h'.get? b = some o) (hf : ∀ b ∈ ch, FpOk X pins H b) (hT : s.heap.objs.size ≤ T)
    (new : ObjOk X.prog X.w (upd H T ob) h' T ob) : Inv X pins σ (upd H T ob) { s with heap := h', toks := t' } := by
  have hn : H T = none := I.hok.fresh hT
  have nit : ∀ b u, H b = some u → b ∉ ch := fun b u e z => by
    have q := (hf b z).1
    rw [q] at e; cases e
  refine I.step (g' := s.gens) (d' := s.drawn) (ch := ch) (fun b hb => ⟨(hf b hb).2.2.2.1, (hf b hb).2.1, (hf b hb).2.2.2.2.1, (hf b hb).2.2.2.2.2⟩) (fun b o _ _ hc e _ => k b o hc e) (fun b o _ _ hc e _ => ⟨o.slots, k b o hc e⟩)
    (fun b o _ e n => ?_) (fun b o hc e => ⟨o, k b o hc e⟩) (fun b xs e => ?_) (fun b o u e => ?_) (fun b ps e => ⟨#[], ?_⟩) (fun m hm => ?_) (fun b u e => ?_) I.bare
  · rw [upd_ne (Nat.ne_of_lt (Nat.lt_of_lt_of_le (Heap.lt_size e) hT))]; exact n
  · rw [upd_ne (ne_of_none e hn)]; exact e
  · rw [upd_ne (ne_of_none e hn)]; exact e
  · rw [upd_ne (ne_of_none e hn), e]; simp
  · obtain ⟨o, es, ep, ho, r⟩ := hm
    exact ⟨o, es, ep, k _ o (fun z => (hf _ z).2.1 rfl) ho, r⟩
  · by_cases hb : b = T
    · subst hb
      rw [upd_same] at e
      cases e
      exact new
    · rw [upd_ne hb] at e
      refine (I.hok b u e).stay (fun c v hc q => k c v ?_ q) (fun c q => by rw [upd_ne (ne_of_none q hn)]; exact q) fun c xs q => by rw [upd_ne (ne_of_none q hn)]; exact q
      rcases hc with z | z
      · rw [z]; exact nit b u e
      · exact nit c _ z
theorem Inv.lock {d : Addr} {u : HO} (I : Inv X pins σ H s) (h : H d = some u) (mu : Mut (some u)) : ∃ od, Inv X pins σ (upd H d (.frz od u)) s := by
  have x := I.hok d u h
  have ex : ∃ od, s.heap.get? d = some od := by
    cases u with
    | lst xs => obtain ⟨_, _, _, _, e⟩ := x; exact ⟨_, e⟩
    | dK kvs => obtain ⟨_, _, _, _, o, _, _, e, _⟩ := x; exact ⟨o, e⟩
    | dT kvs => obtain ⟨_, _, _, _, o, _, _, e, _⟩ := x; exact ⟨o, e⟩
    | set S n => obtain ⟨o, _, _, _, e, _⟩ := x; exact ⟨o, e⟩
    | ins C dx fs => obtain ⟨_, _, _, e, _⟩ := x; exact ⟨_, e⟩
    | ext φ => obtain ⟨_, ⟨_, e⟩, _⟩ := x; exact ⟨_, e⟩
    | _ => exact False.elim mu
  obtain ⟨od, e⟩ := ex
  have new : ObjOk X.prog X.w (upd H d (.frz od u)) s.heap d (.frz od u) := by
    refine ⟨e, x.stay (fun b v _ q => q) (fun b q => ?_) fun b xs q => ?_⟩
    · rw [upd_ne (fun z => by rw [z, h] at q; cases q; exact mu)]; exact q
    · rw [upd_ne (fun z => by rw [z, h] at q; cases q; exact mu)]; exact q
  exact ⟨od, I.write (x := d) (e := d) (t' := s.toks) (h' := s.heap) (by rw [h]; exact mu) (.inl rfl) (fun b v _ q => q) ⟨od, e⟩ new⟩
theorem Inv.nofrz {d : Addr} {u : HO} (I : Inv X pins σ H s) (h : H d = some u) (mu : Mut (some u)) : ∀ o' u', X.H_0 d ≠ some (.frz o' u') := fun o' u' e => by
  have q := I.base.frzs d o' u' e
  rw [h] at q
  cases q
  exact mu
theorem Inv.unlock {d : Addr} {od : Obj} {u : HO} (I : Inv X pins σ H s) (h : H d = some (.frz od u)) (hn : ∀ o' u', X.H_0 d ≠ some (.frz o' u')) : Inv X pins σ (upd H d u) s := by
  have neH : ∀ b o, H b = some o → (∀ o' u', o ≠ .frz o' u') → b ≠ d := fun b o e hne z => by
    rw [z, h] at e
    cases e
    exact hne _ _ rfl
  have neN : ∀ b, H b = none → b ≠ d := fun b e z => by rw [z, h] at e; cases e
  refine ⟨I.ok, I.os, I.bare, ⟨I.base.keep, I.base.slot, fun b o e n hx => ?_, I.base.there, fun b xs e => ?_, fun b o x e => ?_, fun b ps e => ?_⟩, I.loc, I.cell, ?_, fun x c e => ?_, fun p hp => ?_, fun b o e => ?_, I.len⟩
  · rw [upd_ne (neN b (I.base.free b o e n hx))]; exact I.base.free b o e n hx
  · have q := I.base.tups b xs e
    rw [upd_ne (neH b _ q (fun _ _ z => nomatch z))]; exact q
  · have q := I.base.frzs b o x e
    rw [upd_ne (fun z => by rw [z] at e; exact hn _ _ e)]; exact q
  · obtain ⟨m, q⟩ := I.base.tbls b ps e
    exact ⟨m, by rw [upd_ne (neH b _ q (fun _ _ z => nomatch z))]; exact q⟩
  · rw [upd_ne (neN _ I.free)]; exact I.free
  · rw [upd_ne (neN c (I.freeC x c e))]; exact I.freeC x c e
  · obtain ⟨e, n, r⟩ := I.pin p hp
    exact ⟨e, by rw [upd_ne (neN _ n)]; exact n, r⟩
  · by_cases hb : b = d
    · rw [hb, upd_same] at e
      cases e
      rw [hb]
      obtain ⟨_, x⟩ := I.hok d _ h
      exact x.stay (fun c v _ q => q) (fun c q => by rw [upd_ne (neH c _ q (fun _ _ z => nomatch z))]; exact q) fun c xs q => by rw [upd_ne (neH c _ q (fun _ _ z => nomatch z))]; exact q
    · rw [upd_ne hb] at e
      exact (I.hok b o e).stay (fun c v _ q => q) (fun c q => by rw [upd_ne (neH c _ q (fun _ _ z => nomatch z))]; exact q) fun c xs q => by rw [upd_ne (neH c _ q (fun _ _ z => nomatch z))]; exact q
end
def tLockE (t : TE) : TE := fun σ H Q => ∃ d u, H d = some u ∧ Mut (some u) ∧ ∀ od, t σ (upd H d (.frz od u)) fun v H' => H' d = some (.frz od u) ∧ Q v (upd H' d u)
section
variable {X : Cx}
theorem pe_lock {e : Expr} {t : TE} (h : PE X e t) : PE X e (tLockE t) := by
  intro pins s σ H Q I hw
  obtain ⟨d, u, hd, mu, hw⟩ := hw
  obtain ⟨od, I1⟩ := I.lock hd mu
  refine thn (h pins s σ _ _ I1 (hw od)) fun v s1 ⟨x, H1, I2, r, e2, q⟩ => ?_
  exact ⟨x, _, I2.unlock e2 (I.nofrz hd mu), r, q⟩
theorem pi_one {tg : Expr} {pins : List (Addr × Obj)} {σ : St} {H : Hp} {s : Shared} {R : It → Hp → Prop} {J : It} {tn : Nat → Heap → Prop} {tk : Nat} (I : Inv X pins σ H s) (o : Obj)
    (T : Turn X.prog X.w X.K tg J [s.heap.objs.size] s.heap.objs.size tn) (st : tn 0 (s.heap.push o)) (q : R J H) : PIE X pins σ tg R (.ref s.heap.objs.size) { s with heap := s.heap.push o, toks := tk } := by
  refine ⟨s.heap.objs.size, [s.heap.objs.size], tn, J, H, rfl, I.kept fun b ob e => Heap.get?_push_of_some _ e, T, st, fun b hb => ?_, q⟩
  have e : b = s.heap.objs.size := by simpa using hb
  subst e
  exact I.fpOk (Nat.le_refl _) (I.hok.fresh (Nat.le_refl _))
end
def Itc (lo c : Int) (n : Nat) : It := ⟨fun i _ => i < n, fun i H x H' => H' = H ∧ x = .int (lo + (i : Nat) * c), fun i _ => n ≤ i⟩
theorem turn_rangeC {P : Program} {w : World} {K : PySem.W.Frag} {tg : Expr} (it : Addr) (lo c : Int) (n : Nat) : Turn P w K tg (Itc lo c n) [it] it (fun i h => IsRangeIter h it (lo + (i : Nat) * c) ((n : Int) - (i : Nat)) c) where
  mem := by simp
  obj := fun i h st b hb => by
    have e : b = it := by simpa using hb
    subst e
    exact ⟨_, st, fun v z => nomatch z⟩
  keep := fun i h h' st k => k it (by simp) _ st
  item := by
    intro X hP hw hK hc i pins s σ H E I hf st hg
    subst hP hw hK
    obtain ⟨f0, f1, f2, f3, f4, f5⟩ := hf it (by simp)
    have W := Walks.range (prog := X.prog) (w := X.w) (I.ok.hd hc) it lo c n
    refine W.item i s _ _ hg st fun v h' tk hv st' kk => ?_
    obtain ⟨t, rfl⟩ := hv
    have I1 : Inv X pins σ H { s with heap := h', toks := tk } := I.turned (fun b o hb e => kk b o (by simpa using hb) e) f0 f1 f3 f4 f5
    exact ⟨_, rfl, go_of (s := { s with heap := h', toks := tk }) (n := "range_iterator") st' rfl rfl (by decide) ⟨.int (lo + (i : Nat) * c), H, I1, ⟨t, rfl⟩, ⟨rfl, rfl⟩, st', fun b hb => (hf b hb).1⟩⟩
  done := by
    intro X hP hw hK hc i pins s σ H E I hf st hg
    subst hP hw hK
    obtain ⟨f0, f1, f2, f3, f4, f5⟩ := hf it (by simp)
    exact wpAny_pyNext_range_end (I.ok.hd hc) st (by have : n ≤ i := hg; omega) fun h' eb => ⟨rfl, I.turned (t' := s.toks) (fun b o hb e => eb b o hb e) f0 f1 f3 f4 f5⟩
  self := fun A i s Q E st h => wpAny_pyIter_rangeiter st h
def RgC (i j c : Int) (n : Nat) : Prop := c ≠ 0 ∧ c.natAbs < 1073741824 ∧ Builtin.Range.small i j c = true ∧ Builtin.Range.rangeSize i j c = n
def iRng3 (ta : TA) : TI := fun σ H R => ta σ H fun vs H1 => ∃ (i j c : Int) (n : Nat), vs = [.int i, .int j, .int c] ∧ RgC i j c n ∧ R (Itc i c n) H1
section
variable {X : Cx} {tg : Expr}
theorem pi_range3 {a b c : Expr} {ta : TA} {p pos : Pos} (hg : Gl X "range") (hm : X.mg "range" = none) (ha : PA X [a, b, c] ta)
    (hs : starEach [a, b, c] X.env = (false, eval a X.env) :: starEach [b, c] X.env := by rfl) (hpl : (backTo pos (starEach [b, c] X.env)).any (·.1) = false := by rfl) :
    PI X tg (.Call (.Name "range" p) [a, b, c] [] pos) (iRng3 ta) := by
  intro pins s σ H R I h
  refine Call_ (ld_blt I hg hm boot_range (PyProof.Rows.callWith_type1 (thn (ha pos pins s σ H _ I h) fun us s1 ⟨vs, H1, I1, r1, q1⟩ => ?_) hs hpl))
  obtain ⟨i, j, k, n, e, ⟨c0, c1, c2, c3⟩, q⟩ := q1
  subst e
  cases r1 with
  | cons r rr =>
    cases rr with
    | cons r' rr =>
      cases rr with
      | cons r'' rr =>
        cases rr
        obtain ⟨t, rfl⟩ := r
        obtain ⟨t', rfl⟩ := r'
        obtain ⟨t'', rfl⟩ := r''
        refine call_range_3 c0 ?_ (.inl (PyProof.noPylong_small c1))
        refine wpAny_pyIter_range (IsRange.new ..) c2 ?_
        have I2 : Inv X pins σ H1 { s1 with heap := s1.heap.push { cls := .type "range", data := .fields #[.int i t, .int j t', .int k t''] } } := I1.kept (t' := s1.toks) fun b o e => Heap.get?_push_of_some _ e
        refine pi_one (tk := s1.toks) I2 _ (turn_rangeC _ i k n) ?_ q
        have e1 : i + ((0 : Nat) : Int) * k = i := by simp
        have e2 : (n : Int) - ((0 : Nat) : Int) = Builtin.Range.rangeSize i j k := by rw [c3]; simp
        show IsRangeIter _ _ (i + ((0 : Nat) : Int) * k) ((n : Int) - ((0 : Nat) : Int)) k
        rw [e1, e2]
        exact Heap.get?_push_size _ rfl
end
section
variable {X : Cx} {tg : Expr}
end
section
variable {prog : Program} {w : World} {A : Around} {E : Value → Shared → Prop} {s : Shared}
end
theorem paired_get {α β : Type} {G : α → β → Prop} {l₁ : List α} {l₂ : List β} (h : Paired G l₁ l₂) : ∀ {i : Nat} {a : α}, l₁[i]? = some a → ∃ b, l₂[i]? = some b ∧ G a b := by
  induction h with
  | nil => intro i a e; simp at e
  | @cons a b l₁ l₂ r t ih =>
    intro i a' e
    cases i with
    | zero =>
      simp only [List.getElem?_cons_zero, Option.some.injEq] at e
      subst e
      exact ⟨b, rfl, r⟩
    | succ j =>
      simp only [List.getElem?_cons_succ] at e ⊢
      exact ih e
section
variable {X : Cx} {pins : List (Addr × Obj)} {σ : St} {H : Hp} {s : Shared} {d : Addr} {o : Obj}
end
section
variable {P : Program} {w : World} {K : PySem.W.Frag} {tg : Expr} {d : Addr} {o : Obj} {es : Array DictEntry} {ep : Nat}
end
section
variable {X : Cx} {tg e : Expr} {td : TE} {apos cpos : Pos}
end
def Ite (K : PySem.W.Frag) (a : Addr) : It :=
  ⟨fun i H => ∃ (xs : List V) (x : V), SqL K H a xs ∧ xs[i]? = some x, fun i H v H' => ∃ T x, v = .ref T ∧ H T = none ∧ H' = upd H T (.tup [.int (i : Nat), x]) ∧ ∀ xs, SqL K H a xs → xs[i]? = some x, fun i H => ∃ xs : List V, SqL K H a xs ∧ xs.length ≤ i⟩
theorem turn_enum {P : Program} {w : World} {K : PySem.W.Frag} {elts : List Expr} {kk : Nat} {tpos : Pos} (a e it : Addr) :
    Turn P w K (.Tuple elts kk tpos) (Ite K a) [e, it] e (fun i h => (∃ old, IsEnum h e it ((i : Nat) : Int) old) ∧ h.IsListIter it a i ∧ e ≠ it) where
  mem := by simp
  obj := fun i h st b hb => by
    obtain ⟨⟨old, he⟩, ⟨o, ho, hc, hd⟩, _⟩ := st
    have e' : b = e ∨ b = it := by simpa using hb
    rcases e' with z | z
    · rw [z]; exact ⟨_, he, fun v q => nomatch q⟩
    · rw [z]; exact ⟨o, ho, fun v q => by rw [hd] at q; cases q⟩
  keep := fun i h h' st k => let ⟨⟨old, he⟩, hi, hne⟩ := st; ⟨⟨old, k e (by simp) _ he⟩, hi.at fun o q => k it (by simp) o q, hne⟩
  item := by
    intro X hP hw hK hc i pins s σ H E I hf st hg
    subst hP hw hK
    obtain ⟨⟨old, he⟩, hit, hne⟩ := st
    obtain ⟨xs, x, hq, hx⟩ := hg
    obtain ⟨its, rv, p, hz⟩ := I.list hq
    obtain ⟨u, hu, ru⟩ := rv.get hx
    have hel : e < s.heap.objs.size := Heap.lt_size he
    have hil : it < s.heap.objs.size := by obtain ⟨_, q, _⟩ := hit; exact Heap.lt_size q
    refine wpAny_pyNext_enum_item he hit p.isList (x := u) (by simpa using hu) hne fun h' ho hit' hT hsz hk => ?_
    refine ⟨_, rfl, wpAny_letOwnedTupleGo_enum (s := { s with heap := h', toks := s.toks + 1 }) ho fun h'' he' sb => ?_⟩
    have hT2 : h''.get? s.heap.objs.size = some { cls := .type "tuple", data := .seq #[.int i s.toks, u] } := (sb.2 _ (Nat.ne_of_gt hel)).trans hT
    have new : ObjOk X.prog X.w (upd H s.heap.objs.size (.tup [.int (i : Nat), x])) h'' s.heap.objs.size (.tup [.int (i : Nat), x]) :=
      ⟨by show 2 ≤ sizeLine; decide, [.int i s.toks, u], .cons ⟨_, rfl⟩ (.cons ru .nil), ⟨_, hT2, rfl, _, rfl⟩⟩
    have I1 : Inv X pins σ (upd H s.heap.objs.size (.tup [.int (i : Nat), x])) { s with heap := h'', toks := s.toks + 1 } :=
      I.turnedNew (ch := [e, it]) (fun b ob hb q => (sb.2 b (fun z => hb (by simp [z]))).trans (hk b ob (fun z => hb (by simp [z])) (fun z => hb (by simp [z])) q)) hf (Nat.le_refl _) new
    refine ⟨.ref s.heap.objs.size, _, I1, rfl, ⟨_, x, rfl, I.hok.fresh (Nat.le_refl _), rfl, fun ys hy => by rw [I.list_inj hy hq]; exact hx⟩, ⟨⟨u, ?_⟩, hit'.at fun o q => (sb.2 it (Ne.symm hne)).trans q, hne⟩, fun b hb => ?_⟩
    · have e1 : ((i + 1 : Nat) : Int) = (i : Int) + 1 := by omega
      rw [e1]; exact he'
    · have hb' : b < s.heap.objs.size := by
        have e' : b = e ∨ b = it := by simpa using hb
        rcases e' with z | z
        · rw [z]; exact hel
        · rw [z]; exact hil
      rw [upd_ne (Nat.ne_of_lt hb')]
      exact (hf b hb).1
  done := by
    intro X hP hw hK hc i pins s σ H E I hf st hg
    subst hP hw hK
    obtain ⟨⟨old, he⟩, hit, hne⟩ := st
    obtain ⟨xs, hq, hx⟩ := hg
    obtain ⟨its, rv, p, hz⟩ := I.list hq
    obtain ⟨f0, f1, f2, f3, f4, f5⟩ := hf it (by simp)
    have hl := rv.length
    exact wpAny_pyNext_enum_end (I.ok.hd hc) he hit p.isList (by simp; omega) fun h' eb => ⟨rfl, I.turned (t' := s.toks) (fun b o hb q => eb b o hb q) f0 f1 f3 f4 f5⟩
  self := fun A i s Q E st h => let ⟨⟨_, he⟩, _⟩ := st; wpAny_pyIter_enum he h
def iEnum (K : PySem.W.Frag) (ta : TA) : TI := fun σ H R => ta σ H fun vs H1 => ∃ a xs, vs = [.ref a] ∧ SqL K H1 a xs ∧ R (Ite K a) H1
theorem pi_enum {X : Cx} {e : Expr} {ta : TA} {p pos tpos : Pos} {elts : List Expr} {kk : Nat} (hg : Gl X "enumerate") (hm : X.mg "enumerate" = none) (ha : PA X [e] ta) (hs : starEach [e] X.env = [(false, eval e X.env)] := by rfl) :
    PI X (.Tuple elts kk tpos) (.Call (.Name "enumerate" p) [e] [] pos) (iEnum X.K ta) := by
  intro pins s σ H R I h
  refine Call_ (ld_blt I hg hm boot_enumerate (PyProof.Rows.callWith_type1 (thn (ha pos pins s σ H _ I h) fun us s1 ⟨vs, H1, I1, r1, q1⟩ => ?_) hs rfl))
  obtain ⟨a, xs, ex, hq, q⟩ := q1
  subst ex
  cases r1 with
  | cons r rr =>
    cases rr
    cases r
    obtain ⟨its, rv, p', hz⟩ := I1.list hq
    refine call_enumerate_list p'.isList fun h' he hit hsz hk => wpAny_pyIter_enum he ?_
    have I2 : Inv X pins σ H1 { s1 with heap := h' } := I1.kept (t' := s1.toks) hk
    refine ⟨s1.heap.objs.size + 1, [s1.heap.objs.size + 1, s1.heap.objs.size], _, _, H1, rfl, I2, turn_enum a (s1.heap.objs.size + 1) s1.heap.objs.size, ⟨⟨.none, he⟩, hit, Nat.succ_ne_self _⟩, fun b hb => ?_, q⟩
    have e' : b = s1.heap.objs.size + 1 ∨ b = s1.heap.objs.size := by simpa using hb
    have hle : s1.heap.objs.size ≤ b := by
      rcases e' with z | z
      · rw [z]; exact Nat.le_add_right _ _
      · rw [z]; exact Nat.le_refl _
    exact I1.fpOk hle (I1.hok.fresh hle)
end L2
section 
namespace Bits
open PySem PyProof.Rows
end Bits
end 
section 
namespace TL
open PySem PySem.Builtin PySem.Builtin.Str PySem.StrLaws
abbrev tl (x : Str) : List Nat := x.cps.toList
def pre (S l : List Nat) : Bool := l.take S.length == S
end TL
end 
namespace L2
open PySem PySem.Spec PyProof.Rows
section
variable {X : Cx} {pins : List (Addr × Obj)} {σ : St} {H : Hp} {s : Shared} {Q : VK}
end
section
variable {X : Cx}
end
section
variable {X : Cx} {o e : Expr} {to te : TE}
end
end L2
namespace L2
open PySem PySem.Spec PyProof.Rows
section
variable {X : Cx}
end
end L2
namespace Att
open PySem PySem.W PySem.Calls PyProof.Rows
section
variable {prog : Program} {w : World} {A : Around} {E : Value → Shared → Prop} {s : Shared} {K : Frag}
end
end Att
namespace L2
open PySem PySem.Spec PyProof.Rows
end L2
namespace L2
open PySem PySem.Spec PyProof.Rows
abbrev KOf {K : PySem.W.Frag} {h : Heap} (_ : K.In h) : PySem.W.Frag := K
end L2
namespace L2
open PySem PySem.Spec PyProof.Rows
abbrev CX0 : CXT := fun _ _ _ _ _ _ => False
abbrev E0 : XK := fun _ _ _ => False
theorem pass0 {X : Cx} : Passes CX0 X E0 := fun _ _ _ _ _ _ _ h => h.elim
structure Fun (K : PySem.W.Frag) (x qual : Str) (st : Stmt) (f : Addr) (fd : FuncData) : Prop where
  ex : ∃ (oc : Value) (od : Option Addr) (kV doc pm : Value) (an : Option Addr) (cdv ct : Value) (osl : Array (Option Value)),
    fd = PySem.W.fnOf x qual (defArgs st) (defBody st) (defScope st) .none kV doc pm an cdv ct ∧ K.lookup f = some ⟨oc, od, .func fd, osl⟩ ∧ PySem.W.codeIn K cdv qual = true
  kp : PySem.W.keepIn K (.ref f) = true
section
variable {P : Program} {w : World} {K : PySem.W.Frag} {mg : Str → Option Value} {base : Heap}
theorem Fun.ok {x qual : Str} {st : Stmt} {f : Addr} {fd : FuncData} {N ps : List Str} {k : Nat} {sp : Sp} (F : Fun K x qual st f fd) (S : FnScope N ps (defScope st)) (len : ∀ vs H Q E, sp vs H Q E → vs.length = ps.length)
    (hbody : ∀ (cdv : Value) (A : Around) (outer : List Env) (s : Shared) (H : Hp) (vs : List V) (Q : VK) (E : XK), Room k (A.deeper (envOfC qual (defScope st) s.heap.objs.size f cdv)) → sp vs H Q E →
      ∃ t, PSs (cxOf CX0 P w K mg base N qual (defScope st) f cdv A outer s H E).nox (defBody st) t ∧ t { nx := fun _ H' => Q .non H', rt := Q } (start N vs) H) : FnOk P w K mg base CX0 (k + 1) f fd ps sp := by
  obtain ⟨oc, od, kV, doc, pm, an, cdv, ct, osl, rfl, lk, hcd⟩ := F.ex
  refine fn_of lk hcd S len fun A outer s H vs Q E hr hsp => ?_
  obtain ⟨t, h, q⟩ := hbody cdv A outer s H vs Q E hr hsp
  exact ⟨t, h.nox, q⟩
theorem Fun.binds {x qual : Str} {st : Stmt} {f : Addr} {fd : FuncData} {ps : List Str} (F : Fun K x qual st f fd)
    (h : ∀ (kV doc pm : Value) (an : Option Addr) (cdv ct : Value) (us : List Value), us.length = ps.length → bindArgs (PySem.W.fnOf x qual (defArgs st) (defBody st) (defScope st) .none kV doc pm an cdv ct) ⟨us, []⟩ = pure (ps.zip us)) : Binds K fd ps [] := by
  obtain ⟨oc, od, kV, doc, pm, an, cdv, ct, osl, rfl, lk, hcd⟩ := F.ex
  exact .all (h kV doc pm an cdv ct)
theorem fun_mk {x qual : Str} {st : Stmt} {f : Addr} {oc : Value} {od an : Option Addr} {osl : Array (Option Value)} {kV doc pm cdv ct : Value} (l : K.lookup f = some ⟨oc, od, .func (PySem.W.fnOf x qual (defArgs st) (defBody st) (defScope st) .none kV doc pm an cdv ct), osl⟩)
    (c : PySem.W.codeIn K cdv qual = true) (k : PySem.W.keepIn K (.ref f) = true) : Fun K x qual st f (PySem.W.fnOf x qual (defArgs st) (defBody st) (defScope st) .none kV doc pm an cdv ct) := ⟨⟨oc, od, kV, doc, pm, an, cdv, ct, osl, rfl, l, c⟩, k⟩
end
theorem hu_of {A : Around} {k : Nat} (hr : Room k A) : A.units + 1 < cLine := Nat.lt_of_le_of_lt (Nat.add_le_add_left (by decide : 1 ≤ 64) _) hr.units
section
variable {X : Cx}
theorem pv (i : Nat) {x : Str} {pos : Pos} (hN : X.N[i]? = some x := by rfl) (hv : Vis X.env.scope x := by first | exact Or.inl rfl | exact Or.inr (Or.inl rfl) | exact Or.inr (Or.inr rfl)) (hd : (x == ("__debug__" : Str)) = false := by decide)
    (hcd : (x == ("__classdict__" : Str)) = false := by decide) : PE X (.Name x pos) (tVar i) := pe_var hN hv hd hcd
theorem call_lenD : CallR X (.builtin "len") (fun xs H Q => ∃ a kvs, xs = [V.ref a] ∧ H a = some (.dK kvs) ∧ Q (.int kvs.length) H) := by
  intro pins s σ H xs us Q I r h
  obtain ⟨a, kvs, rfl, ha, q⟩ := h
  obtain ⟨u, rfl, ru⟩ := vals1 r
  cases ru
  exact d_len I (.inl ha) fun t s' I' => ⟨.int kvs.length, H, I', ⟨t, rfl⟩, q⟩
end
theorem iteF {A B : Prop} (h : B) : if false = true then A else B := by
  rw [if_neg Bool.false_ne_true]
  exact h
theorem iteT {A B : Prop} (h : A) : if true = true then A else B := by
  rw [if_pos rfl]
  exact h
theorem ite2 {c A B : Prop} [Decidable c] (h1 : c → A) (h2 : ¬ c → B) : if c then A else B := by
  by_cases h : c
  · rw [if_pos h]
    exact h1 h
  · rw [if_neg h]
    exact h2 h
def Same (H H' : Hp) : Prop := ∀ b o, H b = some o → H' b = some o
theorem Same.refl (H : Hp) : Same H H := fun _ _ h => h
theorem Same.trans {H H1 H2 : Hp} (a : Same H H1) (b : Same H1 H2) : Same H H2 := fun c o h => b c o (a c o h)
theorem Same.free {H H' : Hp} (e : Same H H') {l : Addr} (h : H' l = Option.none) : H l = Option.none := by
  cases q : H l with
  | none => rfl
  | some o =>
    rw [e l o q] at h
    cases h
theorem Same.seq {K : PySem.W.Frag} {H H' : Hp} {a : Addr} {xs : List V} (e : Same H H') (h : SqL K H a xs) : SqL K H' a xs := by
  rcases h with (h | ⟨o, h⟩) | h
  · exact .inl (.inl (e _ _ h))
  · exact .inl (.inr ⟨o, e _ _ h⟩)
  · exact .inr h
section
variable {κ : Type} [DecidableEq κ]
theorem valV_not {kvs : List (κ × V)} {k : κ} (h : valV kvs k = none) : ¬ k ∈ kvs.map (·.1) := by
  intro m
  obtain ⟨p, hp, e⟩ := List.mem_map.mp m
  have q : (kvs.any fun kv => decide (kv.1 = k)) = true := List.any_eq_true.mpr ⟨p, hp, decide_eq_true e⟩
  rw [valV_any, h] at q
  exact absurd q (by simp)
theorem valV_in {kvs : List (κ × V)} {k : κ} {v : V} (h : valV kvs k = some v) : k ∈ kvs.map (·.1) := by
  have q : (kvs.any fun kv => decide (kv.1 = k)) = true := by
    rw [valV_any, h]
    all_goals rfl
  obtain ⟨p, hp, e⟩ := List.any_eq_true.mp q
  exact List.mem_map.mpr ⟨p, hp, of_decide_eq_true e⟩
theorem nd_snoc : ∀ {l : List κ} {k : κ}, l.Nodup → ¬ k ∈ l → (l ++ [k]).Nodup
  | [], k, _, _ => by simp
  | a :: r, k, h, hk => by
    obtain ⟨h1, h2⟩ := List.nodup_cons.mp h
    show (a :: (r ++ [k])).Nodup
    refine List.nodup_cons.mpr ⟨fun m => ?_, nd_snoc h2 fun m => hk (List.mem_cons.mpr (Or.inr m))⟩
    rcases List.mem_append.mp m with q | q
    · exact h1 q
    · exact hk (List.mem_cons.mpr (Or.inl (List.mem_singleton.mp q).symm))
end
theorem at_of {xs : List V} {z : Int} {j : Nat} {v : V} (e : z = (j : Int)) (h : xs[j]? = some v) : atI xs z = some v := by
  rw [e]
  exact atI_nat h
theorem nd_ix {α : Type} {l : List α} (hN : l.Nodup) {i j : Nat} {x : α} (a : l[i]? = some x) (b : l[j]? = some x) : i = j := by
  obtain ⟨h1, e1⟩ := List.getElem?_eq_some_iff.mp a
  obtain ⟨h2, e2⟩ := List.getElem?_eq_some_iff.mp b
  exact (List.getElem_inj hN).mp (e1.trans e2.symm)
theorem Same.made {H H1 : Hp} {x dx C : Addr} (nx : H x = Option.none) (nd : H dx = Option.none) (k : ∀ b o, (upd (upd H dx (.own x)) x (.ins C dx [])) b = some o → b ≠ x → H1 b = some o) : Same H H1 := fun b o e =>
  k b o (by rw [upd_ne (ne_of_none e nx), upd_ne (ne_of_none e nd)]; exact e) (ne_of_none e nx)
end L2
section
set_option Elab.async false
set_option linter.all false
set_option maxRecDepth 100000
set_option maxHeartbeats 2000000
namespace L2
open PySem PySem.Spec PyProof.Rows
open PySem.W (WData Codec OpenSpec Well WellAll ReadsW ReadsAllW)
mutual
/-- x stands for the datum d, lists and tuples all the way -/
inductive Dw (K : PySem.W.Frag) (H : Hp) : V → WData → Prop
  | non : Dw K H .non .none
  | bl (b : Bool) : Dw K H (.bl b) (.bool b)
  | int (i : Int) : Dw K H (.int i) (.int i)
  | str (x : Str) : Dw K H (.str x) (.str x)
  | byt (b : Array UInt8) : Dw K H (.byt b) (.bytes b.toList)
  | lst {a : Addr} {xs : List V} {ds : List WData} : SqL K H a xs → DwAll K H xs ds → Dw K H (.ref a) (.list ds)
  | tup {a : Addr} {xs : List V} {ds : List WData} : SqT K H a xs → DwAll K H xs ds → Dw K H (.ref a) (.tuple ds)
inductive DwAll (K : PySem.W.Frag) (H : Hp) : List V → List WData → Prop
  | nil : DwAll K H [] []
  | cons {v : V} {vs : List V} {d : WData} {ds : List WData} : Dw K H v d → DwAll K H vs ds → DwAll K H (v :: vs) (d :: ds)
end
theorem dw_ints {K : PySem.W.Frag} {H : Hp} : ∀ ns : List Int, DwAll K H (ns.map V.int) (ns.map WData.int)
  | [] => .nil
  | n :: r => .cons (.int n) (dw_ints r)
theorem ints_dw {K : PySem.W.Frag} {H : Hp} : ∀ (ns : List Int) (xs : List V), DwAll K H xs (ns.map WData.int) → xs = ns.map V.int
  | [], xs, h => by
    cases h
    rfl
  | n :: r, xs, h => by
    cases h with
    | cons h1 h2 =>
      cases h1
      rw [ints_dw r _ h2] <;> rfl
section
variable {P : Program} {w : World} {K : PySem.W.Frag} {H : Hp} {h : Heap} {R : PySem.W.WRecords} {cl : Str → Option Addr}
theorem sqL_at {a : Addr} {xs : List V} (hok : HOk P w H h) (KX : K.In h) (q : SqL K H a xs) : ∃ (its : List Value) (o : Obj) (n : Nat), Vals xs its ∧ h.get? a = some o ∧ o.cls = .type "list" ∧ o.data = .seq its.toArray n := by
  rcases q with q | ⟨o, its, n, e, hc, _, hd, _, hv⟩
  · obtain ⟨_, its, n, hv, e⟩ := (show ObjOk P w H h a (.lst xs) from q.ok hok)
    exact ⟨its, _, n, hv, e, rfl, rfl⟩
  · exact ⟨its.toList, o, n, hv, KX _ _ e, hc, by simp [hd]⟩
theorem sqT_at {a : Addr} {xs : List V} (hok : HOk P w H h) (KX : K.In h) (q : SqT K H a xs) : ∃ (its : List Value) (o : Obj) (n : Nat), Vals xs its ∧ h.get? a = some o ∧ o.cls = .type "tuple" ∧ o.data = .seq its.toArray n := by
  rcases q with q | ⟨o, its, n, e, hc, hd, _, hv⟩
  · obtain ⟨_, its, hv, o, e, hc, n, hd⟩ := (show ObjOk P w H h a (.tup xs) from q.ok hok)
    exact ⟨its, o, n, hv, e, hc, hd⟩
  · exact ⟨its.toList, o, n, hv, KX _ _ e, hc, by simp [hd]⟩
mutual
theorem Dw.reads (hok : HOk P w H h) (KX : K.In h) : ∀ (d : WData) (v : V) (u : Value), Dw K H v d → RelV v u → ∃ as, ReadsW R cl h u d as
  | .none, _, _, x, r => by
    cases x
    cases r
    exact ⟨_, ReadsW.none⟩
  | .bool b, _, _, x, r => by
    cases x
    cases r
    exact ⟨_, ReadsW.bool b⟩
  | .int i, _, _, x, r => by
    cases x
    obtain ⟨t, rfl⟩ := r
    exact ⟨_, ReadsW.int i t⟩
  | .str s, _, _, x, r => by
    cases x
    obtain ⟨t, rfl⟩ := r
    exact ⟨_, ReadsW.str s t⟩
  | .bytes b, _, _, x, r => by
    cases x
    obtain ⟨t, rfl⟩ := r
    exact ⟨_, ReadsW.bytes _ t⟩
  | .list ds, _, _, x, r => by
    cases x with
    | lst hs ha =>
      cases r
      obtain ⟨its, o, n, rv, ho, hc, hd⟩ := sqL_at hok KX hs
      obtain ⟨as, hr⟩ := Dw.readsAll hok KX ds _ its ha rv
      exact ⟨_, ReadsW.list ho hc hd hr⟩
  | .tuple ds, _, _, x, r => by
    cases x with
    | tup hs ha =>
      cases r
      obtain ⟨its, o, n, rv, ho, hc, hd⟩ := sqT_at hok KX hs
      obtain ⟨as, hr⟩ := Dw.readsAll hok KX ds _ its ha rv
      exact ⟨_, ReadsW.tuple ho hc hd hr⟩
  | .float _, _, _, x, _ => by cases x
  | .dict _, _, _, x, _ => by cases x
  | .bytearray _, _, _, x, _ => by cases x
  | .set _, _, _, x, _ => by cases x
  | .frozenset _, _, _, x, _ => by cases x
  | .obj _ _, _, _, x, _ => by cases x
theorem Dw.readsAll (hok : HOk P w H h) (KX : K.In h) : ∀ (ds : List WData) (vs : List V) (us : List Value), DwAll K H vs ds → Vals vs us → ∃ as, ReadsAllW R cl h us ds as
  | [], _, _, x, r => by
    cases x
    cases r
    exact ⟨_, ReadsAllW.nil⟩
  | d :: ds, _, _, x, r => by
    cases x with
    | cons h1 h2 =>
      cases r with
      | cons r1 r2 =>
        obtain ⟨as, q1⟩ := Dw.reads hok KX d _ _ h1 r1
        obtain ⟨bs, q2⟩ := Dw.readsAll hok KX ds _ _ h2 r2
        exact ⟨_, ReadsAllW.cons q1 q2⟩
end
end
mutual
/-- data that a codec tells -/
def plW : WData → Bool
  | .none => true
  | .bool _ => true
  | .int _ => true
  | .str _ => true
  | .bytes _ => true
  | .list xs => plWs xs
  | .tuple xs => plWs xs
  | _ => false
def plWs : List WData → Bool
  | [] => true
  | x :: r => plW x && plWs r
end
theorem plWs_map {α : Type} {f : α → WData} (h : ∀ a, plW (f a) = true) : ∀ l : List α, plWs (l.map f) = true
  | [] => rfl
  | x :: r => by
    show (plW (f x) && plWs (r.map f)) = true
    rw [h x, plWs_map h r] <;> rfl
theorem pl_enc : ∀ (c : Codec) (a : c.denote), plW (c.enc a) = true
  | .unit, _ => rfl
  | .bool, _ => rfl
  | .int _ _, _ => rfl
  | .nat _ _, _ => rfl
  | .u8, _ => rfl
  | .bytes _ _, _ => rfl
  | .text _ _ _ _, _ => rfl
  | .list _ _ c, a => plWs_map (fun x => pl_enc c x) a
  | .pair c d, a => by
    show (plW (c.enc a.1) && (plW (d.enc a.2) && true)) = true
    rw [pl_enc c a.1, pl_enc d a.2] <;> rfl
  | .triple c d e, a => by
    show (plW (c.enc a.1) && (plW (d.enc a.2.1) && (plW (e.enc a.2.2) && true))) = true
    rw [pl_enc c a.1, pl_enc d a.2.1, pl_enc e a.2.2] <;> rfl
  | .option c, none => rfl
  | .option c, some x => pl_enc c x
theorem pl_encAll : ∀ (cs : List Codec) (a : Codec.denoteAll cs), plWs (Codec.encAll cs a) = true
  | [], _ => rfl
  | c :: cs, a => by
    show (plW (c.enc a.1) && plWs (Codec.encAll cs a.2)) = true
    rw [pl_enc c a.1, pl_encAll cs a.2] <;> rfl
theorem weight_mem : ∀ {xs : List WData} {d : WData}, d ∈ xs → d.weight ≤ WData.weightAll xs
  | [], d, h => absurd h (by simp)
  | x :: r, d, h => by
    show d.weight ≤ x.weight + 1 + WData.weightAll r
    rcases List.mem_cons.mp h with e | m
    · rw [e]
      omega
    · have z := weight_mem m
      omega
def toV : Value → V
  | .none => .non
  | .bool b => .bl b
  | .int i _ => .int i
  | .str x _ => .str x
  | .bytes b _ => .byt b
  | .ref a => .ref a
  | _ => .non
def OkU (A : List Addr) : Value → Prop
  | .none => True
  | .bool _ => True
  | .int _ _ => True
  | .str _ _ => True
  | .bytes _ _ => True
  | .ref a => a ∈ A
  | _ => False
theorem OkU.mono {A B : List Addr} (h : ∀ a ∈ A, a ∈ B) : ∀ {u : Value}, OkU A u → OkU B u := fun {u} x => by
  cases u with
  | ref a => exact h a x
  | none => trivial
  | bool b => trivial
  | int i t => trivial
  | str s t => trivial
  | bytes b t => trivial
  | _ => exact False.elim x
theorem relV_toV {A : List Addr} {u : Value} (x : OkU A u) : RelV (toV u) u := by
  cases u with
  | ref a => rfl
  | none => rfl
  | bool b => rfl
  | int i t => exact ⟨t, rfl⟩
  | str s t => exact ⟨t, rfl⟩
  | bytes b t => exact ⟨t, rfl⟩
  | _ => exact False.elim x
theorem vals_toV {A : List Addr} : ∀ {vs : List Value}, (∀ u ∈ vs, OkU A u) → Vals (vs.map toV) vs
  | [], _ => .nil
  | u :: r, h => .cons (relV_toV (h u (List.mem_cons_self ..))) (vals_toV fun x hx => h x (List.mem_cons_of_mem _ hx))
def ArgOb (h : Heap) (A : List Addr) (a : Addr) : Prop := ∃ vs : List Value, vs.length ≤ sizeLine ∧ (∀ u ∈ vs, OkU A u) ∧
  (h.get? a = some { cls := .type "list", data := .seq vs.toArray } ∨ h.get? a = some { cls := .type "tuple", data := .seq vs.toArray })
theorem ArgOb.mono {h : Heap} {A B : List Addr} {a : Addr} (k : ∀ a ∈ A, a ∈ B) (x : ArgOb h A a) : ArgOb h B a := by
  obtain ⟨vs, h1, h2, h3⟩ := x
  exact ⟨vs, h1, fun u hu => (h2 u hu).mono k, h3⟩
theorem wellAll_len {P : Params} {h : Heap} : ∀ {vs : List Value} {ds : List WData}, WellAll P h vs ds → vs.length = ds.length
  | _, _, .nil => rfl
  | _, _, .cons _ b => by
    show _ + 1 = _ + 1
    rw [wellAll_len b]
theorem well_list {P : Params} {h : Heap} {v : Value} {ds : List WData} (x : Well P h v (.list ds)) : ∃ (a : Addr) (vs : List Value), v = .ref a ∧ h.get? a = some { cls := .type "list", data := .seq vs.toArray } ∧ WellAll P h vs ds := by
  cases x with
  | list ho hall => exact ⟨_, _, rfl, ho, hall⟩
theorem well_tuple {P : Params} {h : Heap} {v : Value} {ds : List WData} (x : Well P h v (.tuple ds)) : ∃ (a : Addr) (vs : List Value), v = .ref a ∧ h.get? a = some { cls := .type "tuple", data := .seq vs.toArray } ∧ WellAll P h vs ds := by
  cases x with
  | tuple ho hall => exact ⟨_, _, rfl, ho, hall⟩
theorem well_cons {P : Params} {h : Heap} {us : List Value} {d : WData} {ds : List WData} (x : WellAll P h us (d :: ds)) : ∃ (v : Value) (vs : List Value), us = v :: vs ∧ Well P h v d ∧ WellAll P h vs ds := by
  cases x with
  | cons a b => exact ⟨_, _, rfl, a, b⟩
theorem line_of {n : Nat} (h : n ≤ 1048576) : n ≤ sizeLine := Nat.le_trans h (by decide)
section
variable {P : Params} {h : Heap}
mutual
theorem area_one : ∀ (d : WData) (v : Value), Well P h v d → plW d = true → d.weight ≤ 1048576 → ∃ A : List Addr, OkU A v ∧ ∀ a ∈ A, ArgOb h A a
  | .none, _, x, _, _ => by
    cases x
    exact ⟨[], trivial, fun a m => absurd m (by simp)⟩
  | .bool b, _, x, _, _ => by
    cases x
    exact ⟨[], trivial, fun a m => absurd m (by simp)⟩
  | .int i, _, x, _, _ => by
    cases x
    exact ⟨[], trivial, fun a m => absurd m (by simp)⟩
  | .str s, _, x, _, _ => by
    cases x
    exact ⟨[], trivial, fun a m => absurd m (by simp)⟩
  | .bytes b, _, x, _, _ => by
    cases x
    exact ⟨[], trivial, fun a m => absurd m (by simp)⟩
  | .list ds, _, x, p, z => by
    obtain ⟨a, vs, rfl, ho, hall⟩ := well_list x
    have z2 : WData.weightAll ds ≤ 1048576 := z
    obtain ⟨A, h1, h2⟩ := area_all ds _ hall p fun d hd => Nat.le_trans (weight_mem hd) z2
    have k : ∀ b ∈ A, b ∈ a :: A := fun b hb => List.mem_cons_of_mem _ hb
    refine ⟨a :: A, List.mem_cons_self .., fun b hb => ?_⟩
    rcases List.mem_cons.mp hb with e | m
    · rw [e]
      exact ⟨vs, line_of (by rw [wellAll_len hall]; exact Nat.le_trans (PySem.W.length_le_weightAllW ds) z2), fun u hu => (h1 u hu).mono k, .inl ho⟩
    · exact (h2 b m).mono k
  | .tuple ds, _, x, p, z => by
    obtain ⟨a, vs, rfl, ho, hall⟩ := well_tuple x
    have z2 : WData.weightAll ds ≤ 1048576 := z
    obtain ⟨A, h1, h2⟩ := area_all ds _ hall p fun d hd => Nat.le_trans (weight_mem hd) z2
    have k : ∀ b ∈ A, b ∈ a :: A := fun b hb => List.mem_cons_of_mem _ hb
    refine ⟨a :: A, List.mem_cons_self .., fun b hb => ?_⟩
    rcases List.mem_cons.mp hb with e | m
    · rw [e]
      exact ⟨vs, line_of (by rw [wellAll_len hall]; exact Nat.le_trans (PySem.W.length_le_weightAllW ds) z2), fun u hu => (h1 u hu).mono k, .inr ho⟩
    · exact (h2 b m).mono k
  | .float _, _, _, p, _ => Bool.noConfusion (show false = true from p)
  | .dict _, _, _, p, _ => Bool.noConfusion (show false = true from p)
  | .bytearray _, _, _, p, _ => Bool.noConfusion (show false = true from p)
  | .set _, _, _, p, _ => Bool.noConfusion (show false = true from p)
  | .frozenset _, _, _, p, _ => Bool.noConfusion (show false = true from p)
  | .obj _ _, _, _, p, _ => Bool.noConfusion (show false = true from p)
theorem area_all : ∀ (ds : List WData) (vs : List Value), WellAll P h vs ds → plWs ds = true → (∀ d ∈ ds, d.weight ≤ 1048576) → ∃ A : List Addr, (∀ u ∈ vs, OkU A u) ∧ ∀ a ∈ A, ArgOb h A a
  | [], _, x, _, _ => by
    cases x
    exact ⟨[], fun u m => absurd m (by simp), fun a m => absurd m (by simp)⟩
  | d :: ds, _, x, p, z => by
    obtain ⟨v, vs, rfl, x1, x2⟩ := well_cons x
    have q : plW d = true ∧ plWs ds = true := Bool.and_eq_true_iff.mp p
    obtain ⟨A, a1, a2⟩ := area_one d v x1 q.1 (z d (List.mem_cons_self ..))
    obtain ⟨B, b1, b2⟩ := area_all ds vs x2 q.2 fun e he => z e (List.mem_cons_of_mem _ he)
    have kA : ∀ b ∈ A, b ∈ A ++ B := fun b hb => List.mem_append.mpr (.inl hb)
    have kB : ∀ b ∈ B, b ∈ A ++ B := fun b hb => List.mem_append.mpr (.inr hb)
    refine ⟨A ++ B, fun u hu => ?_, fun b hb => ?_⟩
    · rcases List.mem_cons.mp hu with e | m
      · rw [e]
        exact a1.mono kA
      · exact (b1 u m).mono kB
    · rcases List.mem_append.mp hb with m | m
      · exact (a2 b m).mono kA
      · exact (b2 b m).mono kB
end
end
def hoOf (o : Obj) : Option HO := match o.data with
  | .seq vs _ => if (o.cls == Value.type "list") = true then some (.frz o (.lst (vs.toList.map toV))) else some (.frz o (.tup (vs.toList.map toV)))
  | _ => none
def argH (K : PySem.W.Frag) (h : Heap) (A : List Addr) : Hp := fun b => if b ∈ A then (if (K.lookup b).isNone = true then (h.get? b).bind hoOf else none) else none
def OnlyF (H : Hp) : Prop := ∀ b, H b = none ∨ ∃ o u, H b = some (.frz o u)
theorem hoOf_lst (vs : List Value) : hoOf { cls := .type "list", data := .seq vs.toArray } = some (.frz { cls := .type "list", data := .seq vs.toArray } (.lst (vs.map toV))) := by
  show (if (Value.type "list" == Value.type "list") = true then some (HO.frz { cls := .type "list", data := .seq vs.toArray } (.lst (vs.toArray.toList.map toV))) else some (HO.frz { cls := .type "list", data := .seq vs.toArray } (.tup (vs.toArray.toList.map toV)))) = _
  rw [if_pos (beq_self_eq_true _)]
theorem hoOf_tup (vs : List Value) : hoOf { cls := .type "tuple", data := .seq vs.toArray } = some (.frz { cls := .type "tuple", data := .seq vs.toArray } (.tup (vs.map toV))) := by
  show (if (Value.type "tuple" == Value.type "list") = true then some (HO.frz { cls := .type "tuple", data := .seq vs.toArray } (.lst (vs.toArray.toList.map toV))) else some (HO.frz { cls := .type "tuple", data := .seq vs.toArray } (.tup (vs.toArray.toList.map toV)))) = _
  rw [if_neg (by decide)]
section
variable {P : Program} {w : World} {K : PySem.W.Frag} {h : Heap} {A : List Addr}
theorem argH_at {b : Addr} {o : Obj} (hb : b ∈ A) (hk : K.lookup b = none) (e : h.get? b = some o) : argH K h A b = hoOf o := by
  unfold argH
  rw [if_pos hb, hk, if_pos (show (none : Option Obj).isNone = true from rfl), e] <;> rfl
theorem of_argH {b : Addr} {u : HO} (q : argH K h A b = some u) : b ∈ A ∧ K.lookup b = none := by
  unfold argH at q
  by_cases hb : b ∈ A
  · rw [if_pos hb] at q
    cases hk : K.lookup b with
    | none => exact ⟨hb, rfl⟩
    | some o =>
      rw [hk, if_neg (by simp)] at q
      cases q
  · rw [if_neg hb] at q
    cases q
theorem argH_is (ar : ∀ a ∈ A, ArgOb h A a) {b : Addr} {u : HO} (q : argH K h A b = some u) : K.lookup b = none ∧ ∃ vs : List Value, vs.length ≤ sizeLine ∧ (∀ u ∈ vs, OkU A u) ∧
    ((h.get? b = some { cls := .type "list", data := .seq vs.toArray } ∧ u = .frz { cls := .type "list", data := .seq vs.toArray } (.lst (vs.map toV))) ∨
     (h.get? b = some { cls := .type "tuple", data := .seq vs.toArray } ∧ u = .frz { cls := .type "tuple", data := .seq vs.toArray } (.tup (vs.map toV)))) := by
  obtain ⟨hb, hk⟩ := of_argH q
  obtain ⟨vs, h1, h2, h3⟩ := ar b hb
  refine ⟨hk, vs, h1, h2, ?_⟩
  rcases h3 with e | e
  · rw [argH_at hb hk e, hoOf_lst] at q
    exact .inl ⟨e, (Option.some.inj q).symm⟩
  · rw [argH_at hb hk e, hoOf_tup] at q
    exact .inr ⟨e, (Option.some.inj q).symm⟩
theorem argH_only (ar : ∀ a ∈ A, ArgOb h A a) : OnlyF (argH K h A) := fun b => by
  cases q : argH K h A b with
  | none => exact .inl rfl
  | some u =>
    obtain ⟨_, vs, _, _, ⟨_, e⟩ | ⟨_, e⟩⟩ := argH_is ar q
    · exact .inr ⟨_, _, by rw [e]⟩
    · exact .inr ⟨_, _, by rw [e]⟩
theorem argH_ok (ar : ∀ a ∈ A, ArgOb h A a) : HOk P w (argH K h A) h := fun b u q => by
  obtain ⟨_, vs, h1, h2, ⟨e, rfl⟩ | ⟨e, rfl⟩⟩ := argH_is ar q
  · exact ⟨e, by rw [List.length_map]; exact h1, vs, _, vals_toV h2, e⟩
  · exact ⟨e, by rw [List.length_map]; exact h1, vs, vals_toV h2, _, e, rfl, _, rfl⟩
theorem seq_inj {c c' : Value} {vs us : List Value} (e : (some { cls := c, data := .seq vs.toArray } : Option Obj) = some { cls := c', data := .seq us.toArray }) : c = c' ∧ vs = us := by
  have e1 := Option.some.inj e
  have e2 : c = c' := congrArg Obj.cls e1
  have e3 : Data.seq vs.toArray = Data.seq us.toArray := congrArg Obj.data e1
  injection e3 with e4
  refine ⟨e2, ?_⟩
  have e5 := congrArg Array.toList e4
  simpa using e5
theorem argL (KX : K.In h) (ar : ∀ a ∈ A, ArgOb h A a) {a : Addr} {vs : List Value} (ha : a ∈ A) (e : h.get? a = some { cls := .type "list", data := .seq vs.toArray }) : (∀ u ∈ vs, OkU A u) ∧ SqL K (argH K h A) a (vs.map toV) := by
  obtain ⟨us, h1, h2, h3⟩ := ar a ha
  have hu : us = vs := by
    rcases h3 with q | q
    · rw [e] at q
      exact (seq_inj q).2.symm
    · rw [e] at q
      exact absurd (Value.type.inj (seq_inj q).1) (by decide)
  subst hu
  refine ⟨h2, ?_⟩
  cases hk : K.lookup a with
  | none => exact .inl (.inr ⟨_, by rw [argH_at ha hk e, hoOf_lst]⟩)
  | some o =>
    have e2 := KX a o hk
    rw [e] at e2
    obtain rfl := Option.some.inj e2
    exact .inr ⟨_, us.toArray, _, hk, rfl, rfl, rfl, by rw [List.size_toArray]; exact h1, by simpa using vals_toV h2⟩
theorem argT (KX : K.In h) (ar : ∀ a ∈ A, ArgOb h A a) {a : Addr} {vs : List Value} (ha : a ∈ A) (e : h.get? a = some { cls := .type "tuple", data := .seq vs.toArray }) : (∀ u ∈ vs, OkU A u) ∧ SqT K (argH K h A) a (vs.map toV) := by
  obtain ⟨us, h1, h2, h3⟩ := ar a ha
  have hu : us = vs := by
    rcases h3 with q | q
    · rw [e] at q
      exact absurd (Value.type.inj (seq_inj q).1) (by decide)
    · rw [e] at q
      exact (seq_inj q).2.symm
  subst hu
  refine ⟨h2, ?_⟩
  cases hk : K.lookup a with
  | none => exact .inl (.inr ⟨_, by rw [argH_at ha hk e, hoOf_tup]⟩)
  | some o =>
    have e2 := KX a o hk
    rw [e] at e2
    obtain rfl := Option.some.inj e2
    exact .inr ⟨_, us.toArray, _, hk, rfl, rfl, by rw [List.size_toArray]; exact h1, by simpa using vals_toV h2⟩
mutual
theorem dw_one {Pm : Params} (KX : K.In h) (ar : ∀ a ∈ A, ArgOb h A a) : ∀ (d : WData) (v : Value), Well Pm h v d → plW d = true → OkU A v → Dw K (argH K h A) (toV v) d
  | .none, _, x, _, _ => by
    cases x
    exact .non
  | .bool b, _, x, _, _ => by
    cases x
    exact .bl b
  | .int i, _, x, _, _ => by
    cases x
    exact .int i
  | .str s, _, x, _, _ => by
    cases x
    exact .str s
  | .bytes b, _, x, _, _ => by
    cases x
    have z := Dw.byt (K := K) (H := argH K h A) b.toArray
    exact z
  | .list ds, _, x, p, hu => by
    obtain ⟨a, vs, rfl, ho, hall⟩ := well_list x
    obtain ⟨h2, hs⟩ := argL KX ar hu ho
    exact .lst hs (dw_all KX ar ds _ hall p h2)
  | .tuple ds, _, x, p, hu => by
    obtain ⟨a, vs, rfl, ho, hall⟩ := well_tuple x
    obtain ⟨h2, hs⟩ := argT KX ar hu ho
    exact .tup hs (dw_all KX ar ds _ hall p h2)
  | .float _, _, _, p, _ => Bool.noConfusion (show false = true from p)
  | .dict _, _, _, p, _ => Bool.noConfusion (show false = true from p)
  | .bytearray _, _, _, p, _ => Bool.noConfusion (show false = true from p)
  | .set _, _, _, p, _ => Bool.noConfusion (show false = true from p)
  | .frozenset _, _, _, p, _ => Bool.noConfusion (show false = true from p)
  | .obj _ _, _, _, p, _ => Bool.noConfusion (show false = true from p)
theorem dw_all {Pm : Params} (KX : K.In h) (ar : ∀ a ∈ A, ArgOb h A a) : ∀ (ds : List WData) (vs : List Value), WellAll Pm h vs ds → plWs ds = true → (∀ u ∈ vs, OkU A u) → DwAll K (argH K h A) (vs.map toV) ds
  | [], _, x, _, _ => by
    cases x
    exact .nil
  | d :: ds, _, x, p, hu => by
    obtain ⟨v, vs, rfl, x1, x2⟩ := well_cons x
    have q : plW d = true ∧ plWs ds = true := Bool.and_eq_true_iff.mp p
    exact .cons (dw_one KX ar d v x1 q.1 (hu _ (List.mem_cons_self ..))) (dw_all KX ar ds vs x2 q.2 fun u m => hu u (List.mem_cons_of_mem _ m))
end
end
theorem spec_call {P : Program} {w : World} {K : PySem.W.Frag} {mg mb : Str → Option Value} {CX : CXT} {k : Nat} {fa : Addr} {fd : FuncData} {ps : List Str} {sp : Sp} {s₁ : Shared} {vals : List Value} {ds : List WData} {R : PySem.W.WRecords} {cl : Str → Option Addr} {d0 : WData}
    (KX : K.In s₁.heap) (hns : s₁.heap.Ns mainGlobals mg) (hb : s₁.heap.Ns builtinsNs mb) (hbb : ∀ x : Str, x ≠ "__name__" → mb x = bootBuiltins x) (hlim : s₁.heap.NoLimit) (hg : s₁.gens = #[])
    (hwl : WellAll w.params s₁.heap vals ds) (hpl : plWs ds = true) (hwt : ∀ d ∈ ds, d.weight ≤ 1048576) (hr : Room k callerA)
    (F : ∀ base : Heap, K.In base → base.Ns mainGlobals mg → FnOk P w K mg base CX k fa fd ps sp) (hbind : ∀ (s : Shared) (us : List Value), us.length = ps.length → BindsTo s fd ⟨us, []⟩ (ps.zip us)) (hlen : ds.length = ps.length)
    (hsp : ∀ (H : Hp) (xs : List V), OnlyF H → DwAll K H xs ds → sp xs H (fun v H' => Dw K H' v d0) fun _ _ _ => False)
    (hCX : ∀ H e s', CX [] H s₁ (fun _ _ _ => False) e s' → False) :
    codeAny (model P w) callerA (.call (.ref fa) ⟨vals, []⟩) (fun r s' => ∃ u as, r = .ok (.ret u) ∧ ReadsW R cl s'.heap u d0 as ∧ OldK s₁.heap s'.heap ∧ s'.os = s₁.os ∧ AllBare s'.gens) s₁ := by
  obtain ⟨A, ho, ar⟩ := area_all ds vals hwl hpl hwt
  have hO : OnlyF (argH K s₁.heap A) := argH_only ar
  have hok : HOk P w (argH K s₁.heap A) s₁.heap := argH_ok ar
  have hS := dw_all KX ar ds vals hwl hpl ho
  have hV := vals_toV ho
  have hK : ∀ b u, argH K s₁.heap A b = some u → K.lookup b = none := fun b u q => (argH_is ar q).1
  have noA : ∀ {b : Addr} {o : Obj} {es : Array DictEntry} {ep : Nat}, s₁.heap.get? b = some o → o.data = .dict es ep → argH K s₁.heap A b = none := fun {b o es ep} e d => by
    cases q : argH K s₁.heap A b with
    | none => rfl
    | some u =>
      obtain ⟨_, vs, _, _, ⟨e2, _⟩ | ⟨e2, _⟩⟩ := argH_is ar q
      · rw [e2] at e
        cases e
        have d' : Data.seq vs.toArray _ = Data.dict es ep := d
        cases d'
      · rw [e2] at e
        cases e
        have d' : Data.seq vs.toArray _ = Data.dict es ep := d
        cases d'
  generalize argH K s₁.heap A = H at hO hok hS hK noA
  have base_of : ∀ {b : Addr} {o : Obj}, s₁.heap.get? b = some o → H b = none → (hidT s₁.heap H).get? b = some o := fun e n => hidT_get e n
  have nsK : ∀ {b : Addr} {m : Str → Option Value}, s₁.heap.Ns b m → (hidT s₁.heap H).Ns b m := fun {b m} ⟨o, es, ep, e, d, r⟩ => ⟨o, es, ep, base_of e (noA e d), d, r⟩
  have nK : ∀ b o, K.lookup b = some o → H b = none := fun b o e => by
    cases q : H b with
    | none => rfl
    | some u =>
      rw [hK b u q] at e
      cases e
  have hKb : K.In (hidT s₁.heap H) := fun b o e => base_of (KX b o e) (nK b o e)
  have hM : Mod K mg (hidT s₁.heap H) := ⟨hKb, nsK hns, ⟨mb, nsK hb, hbb⟩, let ⟨mc, h1, h2⟩ := hlim; ⟨mc, nsK h1, h2⟩⟩
  have e0 : Env0 P w K mg (hidT s₁.heap H) callerA [] s₁ H := ⟨rfl, hM, fun b o e => of_hidT e, Nat.le_of_eq (hidT_size _ _), trivial, fun b hb => absurd (show b ∈ ([] : List Addr) from hb) (by simp), hok, .of_eq hg⟩
  have hl : vals.length = ps.length := by rw [wellAll_len hwl]; exact hlen
  refine codeAny_mono ((F _ hKb (nsK hns)).run callerA [] s₁ H ⟨vals, []⟩ vals (vals.map toV) _ _ hr e0 (hbind s₁ vals hl) hV (hsp H _ hO hS)) fun r s' x => ?_
  cases r with
  | error e => exact (hCX H e s' x).elim
  | ok fl =>
    cases fl with
    | next => exact False.elim x
    | brk => exact False.elim x
    | cont => exact False.elim x
    | ret u =>
      obtain ⟨v, H', os, bare, un, hok', r', q⟩ := x
      have kept : ∀ b o, s₁.heap.get? b = some o → s'.heap.get? b = some o := fun b o e => by
        cases q2 : H b with
        | none => exact un.keep b o e q2 (by intro z; exact absurd (show b ∈ ([] : List Addr) from z) (by simp)) (by simp)
        | some u2 =>
          rcases hO b with z | ⟨ob, u3, z⟩
          · rw [q2] at z
            cases z
          · have z2 := un.frzs b ob _ z
            obtain ⟨e1, _⟩ := hok b _ z
            obtain ⟨e2, _⟩ := hok' b _ z2
            rw [e] at e1
            cases e1
            exact e2
      have KX' : K.In s'.heap := fun b o e => kept b o (KX b o e)
      obtain ⟨as, hrd⟩ := Dw.reads (R := R) (cl := cl) hok' KX' d0 v u q r'
      exact ⟨u, as, rfl, hrd, OldK.of_keep kept, os, bare⟩
theorem layable_weight {ds : List WData} (h : WData.layableAll ds = true) : ∀ d ∈ ds, d.weight ≤ 1048576 := fun d hd =>
  (PySem.W.layableW_iff.mp (List.all_eq_true.mp h d hd)).2.2
theorem encAll_len : ∀ (cs : List Codec) (a : Codec.denoteAll cs), (Codec.encAll cs a).length = cs.length
  | [], _ => rfl
  | c :: cs, a => by
    show (Codec.encAll cs a.2).length + 1 = cs.length + 1
    rw [encAll_len cs a.2]
theorem walk_spec {r : OpenSpec} {k : Nat} {q : Program} {loose : List Str} {XP : (Str → Option Value) → Heap → Prop} {YP : World → Heap → Prop} {d : DefRec} {K : Params → PySem.W.Frag} {CX : World → CXT} {ps : List Str} {sp : World → Sp}
    (hwell : r.wellSaid = true) (hdf : d.params.defaults = []) (hlen : r.args.length = ps.length) (hr : Room k callerA)
    (hY : ∀ (w : World) (h : Heap), YP w h → (K w.params).In h)
    (F : ∀ (w : World) (mg : Str → Option Value) (fa : Addr) (h : Heap), YP w h → (K w.params).In h → h.Ns mainGlobals mg → mg d.name = some (.ref fa) →
      ∃ fd : FuncData, (∀ (s : Shared) (us : List Value), us.length = ps.length → BindsTo s fd ⟨us, []⟩ (ps.zip us)) ∧
        ∀ base : Heap, (K w.params).In base → base.Ns mainGlobals mg → FnOk r.prog w (K w.params) mg base (CX w) k fa fd ps (sp w))
    (hsp : ∀ (w : World) (H : Hp) (xs : List V) (a : Codec.denoteAll r.args), OnlyF H → Codec.withinAll r.args a = true → Codec.app r.args r.asked a = true → DwAll (K w.params) H xs (Codec.encAll r.args a) →
      sp w xs H (fun v H' => Dw (K w.params) H' v (r.ret.enc (Codec.app r.args r.f a))) fun _ _ _ => False)
    (hCX : ∀ (w : World) (H : Hp) (s : Shared) (e : Value) (s' : Shared), CX w [] H s (fun _ _ _ => False) e s' → False) :
    PySem.W.WalkOS q loose XP YP r d [] (fun f vs => PySem.call f vs) := by
  intro w s_0 s₁ mg mb G Y fa o pm cd doc dV kV ho hd hcd hD hmg hg args vals as hpre hlay hrd hwl hlo
  obtain ⟨a, e1, e2⟩ := PySem.W.os_pre_some hpre
  obtain ⟨e3, hwi⟩ := Codec.encAll_of_decAll r.args args a e1
  subst e3
  have KX := hY w _ Y
  obtain ⟨fd, hb, hF⟩ := F w mg fa _ Y KX G.T.g hmg
  refine PySem.W.enter_call (codeAny_mono (spec_call (R := []) (cl := classAt s_0.heap) (d0 := r.ret.enc (Codec.app r.args r.f a)) KX G.T.g G.T.b G.T.builtins G.T.nolimit hg hwl (pl_encAll _ _) (layable_weight hlay) hr hF hb (by rw [encAll_len]; exact hlen)
    (fun H xs hO hS => hsp w H xs a hO hwi e2 hS) fun H e s' => hCX w H s₁ e s') fun r' s' hq => ?_)
  obtain ⟨u, as', rfl, h1, h2, h3, h4⟩ := hq
  exact ⟨.inl ⟨u, _, as', rfl, fun _ => rfl, h1, (OpenSpec.post_iff hwell hwi _ _).mpr rfl, fun z => Bool.noConfusion (show false = true from z)⟩, h2, h3, h4⟩
theorem walk_specK {r : OpenSpec} {k : Nat} {q : Program} {loose : List Str} {XP : (Str → Option Value) → Heap → Prop} {YP : World → Heap → Prop} {d : DefRec} {K : Params → PySem.W.Frag} {CX : CXT} {ps : List Str} {sp : PySem.W.Frag → Sp}
    (hwell : r.wellSaid = true) (hdf : d.params.defaults = []) (hlen : r.args.length = ps.length) (hr : Room k callerA)
    (hY : ∀ (w : World) (h : Heap), YP w h → (K w.params).In h)
    (F : ∀ (w : World) (mg : Str → Option Value) (fa : Addr) (h : Heap), YP w h → (K w.params).In h → h.Ns mainGlobals mg → mg d.name = some (.ref fa) →
      ∃ fd : FuncData, (∀ (s : Shared) (us : List Value), us.length = ps.length → BindsTo s fd ⟨us, []⟩ (ps.zip us)) ∧
        ∀ base : Heap, (K w.params).In base → base.Ns mainGlobals mg → FnOk r.prog w (K w.params) mg base CX k fa fd ps (sp (K w.params)))
    (hsp : ∀ (K : PySem.W.Frag) (H : Hp) (xs : List V) (a : Codec.denoteAll r.args), OnlyF H → Codec.withinAll r.args a = true → Codec.app r.args r.asked a = true → DwAll K H xs (Codec.encAll r.args a) →
      sp K xs H (fun v H' => Dw K H' v (r.ret.enc (Codec.app r.args r.f a))) fun _ _ _ => False)
    (hCX : ∀ (H : Hp) (s : Shared) (e : Value) (s' : Shared), CX [] H s (fun _ _ _ => False) e s' → False) :
    PySem.W.WalkOS q loose XP YP r d [] (fun f vs => PySem.call f vs) :=
  walk_spec (K := K) (CX := fun _ => CX) (sp := fun w => sp (K w.params)) hwell hdf hlen hr hY F (fun w H xs a h1 h2 h3 h4 => hsp (K w.params) H xs a h1 h2 h3 h4) fun _ H s e s' => hCX H s e s'
end L2
-- rests on (row put in by the clerk, for the bench that shows a file only what it spells): KE.SpHead KE.OsShapes
end
namespace Rp
open Rs
variable {b : Book} {rs : List (Nat × Rule)} {cap : Nat}
theorem pass_fuel : ∀ (f g k : Nat) (x : Cur), k * (cap + 1) + x.right.length < f → k * (cap + 1) + x.right.length < g → pass b rs cap f k x = pass b rs cap g k x
  | 0, _, _, _, h, _ => absurd h (Nat.not_lt_zero _)
  | _, 0, _, _, _, h => absurd h (Nat.not_lt_zero _)
  | f + 1, g + 1, k, x, hf, hg => by
    obtain ⟨left, right⟩ := x
    cases right with
    | nil => rfl
    | cons p r =>
      have hl : (p :: r).length = r.length + 1 := rfl
      simp only [hl] at hf hg
      cases e : first b ⟨left, p :: r⟩ rs with
      | none =>
        simp only [pass, e]
        exact pass_fuel f g k ⟨p :: left, r⟩ (by simp only; omega) (by simp only; omega)
      | some y =>
        simp only [pass, e]
        by_cases hk : k = 0
        · simp only [hk, if_true]
        · simp only [if_neg hk]
          by_cases hc : cap < (applied b y.2.1 y.2.2 ⟨left, p :: r⟩).size
          · simp only [if_pos hc]
          · simp only [if_neg hc]
            have hz : (applied b y.2.1 y.2.2 ⟨left, p :: r⟩).right.length ≤ cap := by
              have : (applied b y.2.1 y.2.2 ⟨left, p :: r⟩).size = (applied b y.2.1 y.2.2 ⟨left, p :: r⟩).left.length + (applied b y.2.1 y.2.2 ⟨left, p :: r⟩).right.length := rfl
              omega
            obtain ⟨k', rfl⟩ : ∃ k', k = k' + 1 := ⟨k - 1, by omega⟩
            have hm : (k' + 1) * (cap + 1) = k' * (cap + 1) + (cap + 1) := Nat.succ_mul _ _
            rw [show k' + 1 - 1 = k' from rfl]
            rw [pass_fuel f g k' (applied b y.2.1 y.2.2 ⟨left, p :: r⟩) (by omega) (by omega)]
def passW (b : Book) (rs : List (Nat × Rule)) (cap k : Nat) (x : Cur) : List Step × End := pass b rs cap (k * (cap + 1) + x.right.length + 1) k x
theorem pass_eq {f k : Nat} {x : Cur} (h : k * (cap + 1) + x.right.length < f) : pass b rs cap f k x = passW b rs cap k x := pass_fuel _ _ _ _ h (Nat.lt_succ_self _)
theorem passW_over {k : Nat} {l : Text} : passW b rs cap k ⟨l, []⟩ = ([], .over l.reverse) := rfl
theorem passW_none {k : Nat} {l r : Text} {p : P} (e : first b ⟨l, p :: r⟩ rs = none) : passW b rs cap k ⟨l, p :: r⟩ = passW b rs cap k ⟨p :: l, r⟩ := by
  unfold passW
  conv => lhs; unfold pass
  simp only [e]
  exact pass_fuel _ _ _ _ (by simp only [List.length_cons]; omega) (by simp only; omega)
theorem passW_endless {l r : Text} {p : P} {y : Nat × Rule × List Nat} (e : first b ⟨l, p :: r⟩ rs = some y) : passW b rs cap 0 ⟨l, p :: r⟩ = ([], .endless) := by
  unfold passW pass
  simp only [e, if_true]
theorem passW_long {k : Nat} {l r : Text} {p : P} {y : Nat × Rule × List Nat} (e : first b ⟨l, p :: r⟩ rs = some y) (hc : cap < (applied b y.2.1 y.2.2 ⟨l, p :: r⟩).size) : passW b rs cap (k + 1) ⟨l, p :: r⟩ = ([], .long) := by
  unfold passW pass
  simp only [e, if_pos hc, if_neg (Nat.succ_ne_zero k)]
theorem passW_step {k : Nat} {l r : Text} {p : P} {y : Nat × Rule × List Nat} (e : first b ⟨l, p :: r⟩ rs = some y) (hc : (applied b y.2.1 y.2.2 ⟨l, p :: r⟩).size ≤ cap) :
    passW b rs cap (k + 1) ⟨l, p :: r⟩ = (⟨y.1, l.length, y.2.2.sum, (applied b y.2.1 y.2.2 ⟨l, p :: r⟩).size + y.2.2.sum - (⟨l, p :: r⟩ : Cur).size⟩ :: (passW b rs cap k (applied b y.2.1 y.2.2 ⟨l, p :: r⟩)).1, (passW b rs cap k (applied b y.2.1 y.2.2 ⟨l, p :: r⟩)).2) := by
  have hz : (applied b y.2.1 y.2.2 ⟨l, p :: r⟩).size = (applied b y.2.1 y.2.2 ⟨l, p :: r⟩).left.length + (applied b y.2.1 y.2.2 ⟨l, p :: r⟩).right.length := rfl
  have hm : (k + 1) * (cap + 1) = k * (cap + 1) + (cap + 1) := Nat.succ_mul _ _
  conv => lhs; unfold passW pass
  simp only [e, if_neg (Nat.not_lt.mpr hc), if_neg (Nat.succ_ne_zero k), Nat.add_sub_cancel]
  rw [pass_eq (by omega)]
theorem pass_whole {t : Text} (h : t.length ≤ cap) : pass b rs cap (turns t.length cap) (most t.length) ⟨[], t⟩ = passW b rs cap (most t.length) ⟨[], t⟩ := by
  apply pass_eq
  show most t.length * (cap + 1) + t.length < (most t.length + 1) * (cap + 2)
  have h1 : (most t.length + 1) * (cap + 2) = most t.length * (cap + 2) + (cap + 2) := Nat.succ_mul _ _
  have h2 : most t.length * (cap + 2) = most t.length * (cap + 1) + most t.length := Nat.mul_succ _ _
  omega
theorem passW_len : ∀ (n k : Nat) (x : Cur), k * (cap + 1) + x.right.length < n → x.size ≤ cap → ∀ u, (passW b rs cap k x).2 = .over u → u.length ≤ cap
  | 0, _, _, h, _, _, _ => absurd h (Nat.not_lt_zero _)
  | n + 1, k, ⟨l, []⟩, _, hs, u, hu => by
    rw [passW_over] at hu
    cases hu
    rw [List.length_reverse]
    simpa [Cur.size] using hs
  | n + 1, k, ⟨l, p :: r⟩, hn, hs, u, hu => by
    simp only [List.length_cons] at hn
    cases e : first b ⟨l, p :: r⟩ rs with
    | none =>
      rw [passW_none e] at hu
      exact passW_len n k ⟨p :: l, r⟩ (by simp only; omega) (by simp [Cur.size] at hs ⊢; omega) u hu
    | some y =>
      cases k with
      | zero => rw [passW_endless e] at hu; cases hu
      | succ k =>
        by_cases hc : cap < (applied b y.2.1 y.2.2 ⟨l, p :: r⟩).size
        · rw [passW_long e hc] at hu; cases hu
        · rw [passW_step e (Nat.not_lt.mp hc)] at hu
          have hz : (applied b y.2.1 y.2.2 ⟨l, p :: r⟩).size = (applied b y.2.1 y.2.2 ⟨l, p :: r⟩).left.length + (applied b y.2.1 y.2.2 ⟨l, p :: r⟩).right.length := rfl
          have hm : (k + 1) * (cap + 1) = k * (cap + 1) + (cap + 1) := Nat.succ_mul _ _
          exact passW_len n k _ (by omega) (Nat.not_lt.mp hc) u hu
def passesW (b : Book) (cap : Nat) : List Nat → Text → List Step × End
  | [], t => ([], .over t)
  | p :: ps, t => match (passW b (rulesOf b p) cap (most t.length) ⟨[], t⟩).2 with
    | .over u => ((passW b (rulesOf b p) cap (most t.length) ⟨[], t⟩).1 ++ (passesW b cap ps u).1, (passesW b cap ps u).2)
    | _ => passW b (rulesOf b p) cap (most t.length) ⟨[], t⟩
theorem passes_eq : ∀ (ps : List Nat) (t : Text), t.length ≤ cap → passes b cap ps t = passesW b cap ps t
  | [], _, _ => rfl
  | p :: ps, t, h => by
    unfold passes passesW
    simp only [pass_whole h]
    cases e : (passW b (rulesOf b p) cap (most t.length) ⟨[], t⟩).2 with
    | over u =>
      have hu := passW_len (b := b) (rs := rulesOf b p) (cap := cap) _ (most t.length) ⟨[], t⟩ (Nat.lt_succ_self _) (by simpa [Cur.size] using h) u e
      simp only [passes_eq ps u hu]
    | long => rfl
    | endless => rfl
theorem passW_steps : ∀ (n k : Nat) (x : Cur), k * (cap + 1) + x.right.length < n → (passW b rs cap k x).1.length ≤ k
  | 0, _, _, h => absurd h (Nat.not_lt_zero _)
  | n + 1, k, ⟨l, []⟩, _ => Nat.zero_le _
  | n + 1, k, ⟨l, p :: r⟩, hn => by
    simp only [List.length_cons] at hn
    cases e : first b ⟨l, p :: r⟩ rs with
    | none =>
      rw [passW_none e]
      exact passW_steps n k ⟨p :: l, r⟩ (by simp only; omega)
    | some y =>
      cases k with
      | zero => rw [passW_endless e]; exact Nat.le_refl _
      | succ k =>
        by_cases hc : cap < (applied b y.2.1 y.2.2 ⟨l, p :: r⟩).size
        · rw [passW_long e hc]; exact Nat.zero_le _
        · rw [passW_step e (Nat.not_lt.mp hc)]
          have hz : (applied b y.2.1 y.2.2 ⟨l, p :: r⟩).size = (applied b y.2.1 y.2.2 ⟨l, p :: r⟩).left.length + (applied b y.2.1 y.2.2 ⟨l, p :: r⟩).right.length := rfl
          have hm : (k + 1) * (cap + 1) = k * (cap + 1) + (cap + 1) := Nat.succ_mul _ _
          have := passW_steps n k (applied b y.2.1 y.2.2 ⟨l, p :: r⟩) (by omega)
          simp only [List.length_cons]
          omega
theorem passesW_len : ∀ (ps : List Nat) (t : Text), t.length ≤ cap → ∀ u, (passesW b cap ps t).2 = .over u → u.length ≤ cap
  | [], t, h, u, hu => by cases hu; exact h
  | p :: ps, t, h, u, hu => by
    unfold passesW at hu
    cases e : (passW b (rulesOf b p) cap (most t.length) ⟨[], t⟩).2 with
    | over v =>
      simp only [e] at hu
      have hv := passW_len (b := b) (rs := rulesOf b p) (cap := cap) _ (most t.length) ⟨[], t⟩ (Nat.lt_succ_self _) (by simpa [Cur.size] using h) v e
      exact passesW_len ps v hv u hu
    | long => simp only [e] at hu; cases hu
    | endless => simp only [e] at hu; cases hu
theorem passesW_steps : ∀ (ps : List Nat) (t : Text), t.length ≤ cap → (passesW b cap ps t).1.length ≤ ps.length * most cap
  | [], t, h => Nat.zero_le _
  | p :: ps, t, h => by
    have h1 := passW_steps (b := b) (rs := rulesOf b p) (cap := cap) _ (most t.length) ⟨[], t⟩ (Nat.lt_succ_self _)
    have h2 : most t.length ≤ most cap := by unfold most; omega
    have h3 : (p :: ps).length * most cap = ps.length * most cap + most cap := Nat.succ_mul _ _
    unfold passesW
    cases e : (passW b (rulesOf b p) cap (most t.length) ⟨[], t⟩).2 with
    | over v =>
      simp only
      have hv := passW_len (b := b) (rs := rulesOf b p) (cap := cap) _ (most t.length) ⟨[], t⟩ (Nat.lt_succ_self _) (by simpa [Cur.size] using h) v e
      have := passesW_steps ps v hv
      rw [List.length_append]
      omega
    | long => simp only; omega
    | endless => simp only; omega
end Rp
namespace Rq
open Rs
def isz (k : Int) : Nat := if k < 3 then 6 else if k < 5 then 2 else if k < 6 then 3 else 1
def splitI : Nat → List Int → List (List Int)
  | 0, _ => []
  | _ + 1, [] => []
  | f + 1, k :: r => if 7 ≤ k then [[k]] else (k :: r).take (isz k) :: splitI f ((k :: r).drop (isz k))
def hd (it : List Int) : Int := it.headD 0
def cnt (row : List (List Int)) (k : Int) : Nat := (row.filter fun it => decide (hd it = k)).length
def lastK (E : List (List Int)) : Int := hd (E.getLastD [])
def come (kind : Int) (E : List (List Int)) : Bool :=
  if 7 ≤ kind then false else if 2 ≤ kind ∧ cnt E 1 = 0 then false else if kind = 6 ∧ 0 < cnt E 6 then false
  else decide (E.length = 0) || decide (min (lastK E) 3 ≤ min kind 3)
def bounds (lo hi : Int) : Bool := decide (lo ≤ 62) && (decide (1 ≤ hi) && decide (hi ≤ 63)) && decide (lo ≤ hi)
def isEl (e : List Int) (sets : Nat) : Bool :=
  if 1 < e.getD 2 0 ∨ bounds (e.getD 3 0) (e.getD 4 0) = false then false else
  if e.getD 0 0 = 0 then decide (e.getD 1 0 < 1114112) else if e.getD 0 0 = 1 then decide (e.getD 1 0 < sets) else
  decide (e.getD 0 0 = 2) && decide (e.getD 1 0 = 0) && decide (e.getD 2 0 = 0)
def stand (it : List Int) (E : List (List Int)) (sets maps : Nat) : Bool :=
  if 32 ≤ E.length ∨ come (hd it) E = false then false else
  if it.length < isz (hd it) then false else
  if hd it ≤ 2 then isEl (it.drop 1) sets else
  if hd it = 3 then decide (it.getD 1 0 < 1114112) else
  if hd it = 6 then true else
  if (cnt E 1 : Int) ≤ it.getD 1 0 then false else
  decide (hd it = 4) || decide (it.getD 2 0 < maps)
def wrongI (sets maps : Nat) : List (List Int) → List (List Int) → Option Nat
  | E, [] => if cnt E 1 = 0 then some E.length else none
  | E, it :: r => if stand it E sets maps then wrongI sets maps (E ++ [it]) r else some E.length
def elemI (e : List Int) : Elem :=
  ⟨if e.getD 0 0 = 0 then .point (e.getD 1 0).toNat else if e.getD 0 0 = 1 then .set (e.getD 1 0).toNat else .any, decide (e.getD 2 0 = 1), (e.getD 3 0).toNat, if e.getD 4 0 = 63 then none else some (e.getD 4 0).toNat⟩
def itemI (it : List Int) : Item :=
  if hd it < 3 then .elem (hd it).toNat (elemI (it.drop 1)) else if hd it = 3 then .res (.put (it.getD 1 0).toNat) else if hd it = 4 then .res (.copy (it.getD 1 0).toNat)
  else if hd it = 5 then .res (.mapped (it.getD 1 0).toNat (it.getD 2 0).toNat) else .res .cursor
def ruleI (p : Nat) (row : List (List Int)) : Rule := row.foldl (fun r it => r.with_ (itemI it)) ⟨p, [], [], [], [], true⟩
structure St (p : Nat) (E : List (List Int)) (ph : Phase) (r : Rule) : Prop where
  rule : r = ruleI p E
  takes : r.takes.length = cnt E 1
  curs : ph.cursor = decide (0 < cnt E 6)
  nil : E = [] → ph.at_ = 0
  at_ : E ≠ [] → (ph.at_ : Int) = min (lastK E) 3
  zero : ph.at_ = 0 ↔ cnt E 1 = 0
  kinds : E ≠ [] → 0 ≤ lastK E
theorem cnt_snoc (E : List (List Int)) (it : List Int) (k : Int) : cnt (E ++ [it]) k = cnt E k + if hd it = k then 1 else 0 := by
  unfold cnt
  rw [List.filter_append, List.length_append]
  by_cases h : hd it = k <;> simp [h]
theorem lastK_snoc (E : List (List Int)) (it : List Int) : lastK (E ++ [it]) = hd it := by
  unfold lastK
  simp
theorem ruleI_snoc (p : Nat) (E : List (List Int)) (it : List Int) : ruleI p (E ++ [it]) = (ruleI p E).with_ (itemI it) := by
  unfold ruleI
  rw [List.foldl_append]
  rfl
theorem St.start (p : Nat) : St p [] ⟨0, false⟩ ⟨p, [], [], [], [], true⟩ :=
  ⟨rfl, rfl, rfl, fun _ => rfl, fun h => absurd rfl h, ⟨fun _ => rfl, fun _ => rfl⟩, fun h => absurd rfl h⟩
variable {b : Book} {t : Nat}
theorem itemOf_big {k : Nat} (h : 7 ≤ k) (rest : List Nat) : itemOf b t (k :: rest) = none := by
  unfold itemOf
  split <;> first | omega | (rename_i e; first | (have := (List.cons.inj e).1; omega) | rfl) | rfl | skip
  all_goals (rename_i e; have := (List.cons.inj e).1; rw [if_neg (by omega)])
theorem elemOf_eq (sets : Nat) (o a u v w : Int) (ho : 0 ≤ o) (ha : 0 ≤ a) (hu : 0 ≤ u) (hv : 0 ≤ v) (hw : 0 ≤ w) :
    elemOf sets [o.toNat, a.toNat, u.toNat, v.toNat, w.toNat] = if isEl [o, a, u, v, w] sets = true then some (elemI [o, a, u, v, w]) else none := by
  obtain ⟨o, rfl⟩ := Int.eq_ofNat_of_zero_le ho
  obtain ⟨a, rfl⟩ := Int.eq_ofNat_of_zero_le ha
  obtain ⟨u, rfl⟩ := Int.eq_ofNat_of_zero_le hu
  obtain ⟨v, rfl⟩ := Int.eq_ofNat_of_zero_le hv
  obtain ⟨w, rfl⟩ := Int.eq_ofNat_of_zero_le hw
  simp only [elemOf, isEl, elemI, bounds, Int.toNat_natCast, List.getD_cons_zero, List.getD_cons_succ, POINTS]
  by_cases h1 : w < v ∨ w < 1 ∨ 63 < w ∨ 62 < v ∨ 1 < u
  · have h2 : 1 < (u : Int) ∨ (decide ((v : Int) ≤ 62) && (decide (1 ≤ (w : Int)) && decide ((w : Int) ≤ 63)) && decide ((v : Int) ≤ (w : Int))) = false := by
      rcases h1 with h | h | h | h | h
      · right; simp; omega
      · right; simp; omega
      · right; simp; omega
      · right; simp; omega
      · left; omega
    rw [if_pos h1, if_pos h2]
    rfl
  · have h2 : ¬ (1 < (u : Int) ∨ (decide ((v : Int) ≤ 62) && (decide (1 ≤ (w : Int)) && decide ((w : Int) ≤ 63)) && decide ((v : Int) ≤ (w : Int))) = false) := by
      intro q
      rcases q with q | q
      · omega
      · simp at q; omega
    rw [if_neg h1, if_neg h2]
    have e1 : (u == 1) = decide ((u : Int) = 1) := by
      by_cases h : u = 1
      · subst h; rfl
      · rw [decide_eq_false (by omega)]; exact beq_eq_false_iff_ne.mpr h
    have e2 : (if w = 63 then none else some w) = (if (w : Int) = 63 then none else some w) := by
      by_cases h : w = 63
      · rw [if_pos h, if_pos (by omega)]
      · rw [if_neg h, if_neg (by omega)]
    rw [e1, e2]
    match o with
    | 0 =>
      by_cases h : a < 1114112
      · simp [h]; omega
      · simp [h]; omega
    | 1 =>
      by_cases h : a < sets <;> simp [h]
    | 2 =>
      by_cases h : a = 0 ∧ u = 0
      · obtain ⟨rfl, rfl⟩ := h; simp
      · simp [h]
    | o + 3 =>
      have q0 : ¬ (o + 3 = 0) := by omega
      have q1 : ¬ (o + 3 = 1) := by omega
      have q2 : ¬ (o + 3 = 2 ∧ a = 0 ∧ u = 0) := by omega
      have r0 : ¬ (((o + 3 : Nat) : Int) = 0) := by omega
      have r1 : ¬ (((o + 3 : Nat) : Int) = 1) := by omega
      have r2 : ¬ (((o + 3 : Nat) : Int) = 2) := by omega
      simp only [if_neg q0, if_neg q1, if_neg q2, if_neg r0, if_neg r1, decide_eq_false r2, Bool.false_and]
      rfl
theorem itemOf_elem {k : Nat} (h : k < 3) (o a u v w : Nat) (r : List Nat) : itemOf b t (k :: o :: a :: u :: v :: w :: r) = (elemOf b.sets.length [o, a, u, v, w]).map fun (e : Elem) => (.elem k e, r) := by
  match k, h with
  | 0, _ => rfl
  | 1, _ => rfl
  | 2, _ => rfl
theorem itemOf_cut {k : Nat} (h : k < 3) (r : List Nat) (hr : r.length < 5) : itemOf b t (k :: r) = none := by
  have h' : k = 0 ∨ k = 1 ∨ k = 2 := by omega
  rcases h' with rfl | rfl | rfl <;> rcases r with _ | ⟨_, _ | ⟨_, _ | ⟨_, _ | ⟨_, _ | ⟨_, _⟩⟩⟩⟩⟩ <;> first | rfl | (exfalso; simp only [List.length_cons] at hr; omega)
theorem five {l : List Int} (h : ¬ l.length < 5) : ∃ o a u v w l', l = o :: a :: u :: v :: w :: l' := by
  rcases l with _ | ⟨_, _ | ⟨_, _ | ⟨_, _ | ⟨_, _ | ⟨_, _⟩⟩⟩⟩⟩ <;> first | exact ⟨_, _, _, _, _, _, rfl⟩ | (exfalso; simp only [List.length_cons, List.length_nil] at h; omega)
def One (b : Book) (p : Nat) (E : List (List Int)) (ph : Phase) (r : Rule) (it : List Int) (l rest : List Int) : Prop :=
  (stand it E b.sets.length b.maps.length = true ∧ itemOf b r.takes.length (l.map Int.toNat) = some (itemI it, rest.map Int.toNat) ∧ ∃ q, ph.on (itemI it) = some q ∧ St p (E ++ [it]) q (r.with_ (itemI it))) ∨
  (stand it E b.sets.length b.maps.length = false ∧ ∀ x, itemOf b r.takes.length (l.map Int.toNat) = some x → ph.on x.1 = none)
theorem one_elem {p : Nat} {E : List (List Int)} {ph : Phase} {r : Rule} (S : St p E ph r) (hE : E.length < 32) {k : Int} (h0 : 0 ≤ k) (h3 : k < 3) {l : List Int} (hl : ∀ x ∈ l, 0 ≤ x) :
    One b p E ph r ((k :: l).take 6) (k :: l) ((k :: l).drop 6) := by
  obtain ⟨k, rfl⟩ := Int.eq_ofNat_of_zero_le h0
  have hk : k < 3 := by omega
  have e0 : (k :: l : List Int).map Int.toNat = k :: l.map Int.toNat := rfl
  have hh : hd (((k : Int) :: l).take 6) = k := rfl
  have hz : isz (k : Int) = 6 := by unfold isz; rw [if_pos h3]
  by_cases hlen : l.length < 5
  · refine Or.inr ⟨?_, fun x hx => ?_⟩
    · unfold stand
      rw [hh, hz]
      have : (((k : Int) :: l).take 6).length < 6 := by simp; omega
      rw [if_pos this]
      split <;> rfl
    · rw [e0, itemOf_cut hk _ (by simpa using hlen)] at hx
      cases hx
  · obtain ⟨o, a, u, v, w, l', rfl⟩ := five hlen
    · skip
      have ho : 0 ≤ o := hl o (by simp)
      have ha : 0 ≤ a := hl a (by simp)
      have hu : 0 ≤ u := hl u (by simp)
      have hv : 0 ≤ v := hl v (by simp)
      have hw : 0 ≤ w := hl w (by simp)
      have ei : itemOf b r.takes.length (((k : Int) :: o :: a :: u :: v :: w :: l').map Int.toNat) = if isEl [o, a, u, v, w] b.sets.length = true then some (.elem k (elemI [o, a, u, v, w]), l'.map Int.toNat) else none := by
        show itemOf b r.takes.length (k :: o.toNat :: a.toNat :: u.toNat :: v.toNat :: w.toNat :: l'.map Int.toNat) = _
        rw [itemOf_elem hk, elemOf_eq _ _ _ _ _ _ ho ha hu hv hw]
        split <;> rfl
      have et : ((k : Int) :: o :: a :: u :: v :: w :: l').take 6 = [(k : Int), o, a, u, v, w] := rfl
      have ed : ((k : Int) :: o :: a :: u :: v :: w :: l').drop 6 = l' := rfl
      rw [et, ed]
      have hit : itemI [(k : Int), o, a, u, v, w] = .elem k (elemI [o, a, u, v, w]) := by
        show (if (k : Int) < 3 then Item.elem (k : Int).toNat (elemI [o, a, u, v, w]) else _) = _
        rw [if_pos h3]
        rfl
      have hst : stand [(k : Int), o, a, u, v, w] E b.sets.length b.maps.length = (come k E && isEl [o, a, u, v, w] b.sets.length) := by
        unfold stand
        have : hd [(k : Int), o, a, u, v, w] = k := rfl
        rw [this, hz]
        cases hc : come (k : Int) E with
        | false => simp
        | true =>
          rw [if_neg (by simp; omega), if_neg (by simp), if_pos (by omega)]
          rfl
      have hE0 : E.length = 0 ↔ E = [] := List.length_eq_zero_iff
      have hon : ∀ e, (come k E = true → ∃ q, ph.on (.elem k e) = some q ∧ q.cursor = ph.cursor ∧ q.at_ = (if E = [] ∧ k = 0 then 0 else k)) ∧ (come k E = false → ph.on (.elem k e) = none) := by
        intro e
        have hcase : (E = [] ∧ ph.at_ = 0 ∧ cnt E 1 = 0) ∨ (E ≠ [] ∧ (ph.at_ : Int) = min (lastK E) 3 ∧ 0 ≤ lastK E) := by
          by_cases hE : E = []
          · exact Or.inl ⟨hE, S.nil hE, by rw [hE]; rfl⟩
          · exact Or.inr ⟨hE, S.at_ hE, S.kinds hE⟩
        have hzero := S.zero
        match k, hk with
        | 0, _ =>
          have : come ((0 : Nat) : Int) E = (decide (E.length = 0) || decide (min (lastK E) 3 ≤ 0)) := by
            unfold come
            simp [show (min 0 3 : Int) = 0 by decide]
          rw [this]
          rcases hcase with ⟨hE, ha, _⟩ | ⟨hE, ha, hk⟩
          · refine ⟨fun _ => ⟨ph, by simp [Phase.on, ha], rfl, by simp [hE, ha]⟩, fun h => ?_⟩
            simp [hE] at h
          · have : ¬ E.length = 0 := fun q => hE (hE0.mp q)
            refine ⟨fun h => ?_, fun h => ?_⟩
            · simp [hE] at h
              have : ph.at_ = 0 := by omega
              exact ⟨ph, by simp [Phase.on, this], rfl, by simp [this]⟩
            · simp [hE] at h
              have : ph.at_ ≠ 0 := by omega
              simp [Phase.on, this]
        | 1, _ =>
          have : come ((1 : Nat) : Int) E = (decide (E.length = 0) || decide (min (lastK E) 3 ≤ 1)) := by
            unfold come
            simp [show (min 1 3 : Int) = 1 by decide]
          rw [this]
          rcases hcase with ⟨hE, ha, _⟩ | ⟨hE, ha, hk⟩
          · refine ⟨fun _ => ⟨⟨1, ph.cursor⟩, by simp [Phase.on, ha], rfl, by simp⟩, fun h => ?_⟩
            simp [hE] at h
          · refine ⟨fun h => ?_, fun h => ?_⟩
            · simp [hE] at h
              have : ph.at_ ≤ 1 := by omega
              exact ⟨⟨1, ph.cursor⟩, by simp [Phase.on, this], rfl, by simp⟩
            · simp [hE] at h
              have : ¬ ph.at_ ≤ 1 := by omega
              simp [Phase.on, this]
        | 2, _ =>
          have : come ((2 : Nat) : Int) E = (!decide (cnt E 1 = 0) && (decide (E.length = 0) || decide (min (lastK E) 3 ≤ 2))) := by
            unfold come
            by_cases hc : cnt E 1 = 0 <;> simp [hc, show (min 2 3 : Int) = 2 by decide]
          rw [this]
          rcases hcase with ⟨hE, ha, hc⟩ | ⟨hE, ha, hk⟩
          · refine ⟨fun h => ?_, fun h => ?_⟩
            · simp [hc] at h
            · simp [Phase.on, ha]
          · refine ⟨fun h => ?_, fun h => ?_⟩
            · simp [hE] at h
              have h1 : 1 ≤ ph.at_ := by
                rcases Nat.eq_zero_or_pos ph.at_ with q | q
                · exact absurd (hzero.mp q) h.1
                · exact q
              have h2 : ph.at_ ≤ 2 := by omega
              exact ⟨⟨2, ph.cursor⟩, by simp [Phase.on, h1, h2], rfl, by simp⟩
            · have : ¬ (1 ≤ ph.at_ ∧ ph.at_ ≤ 2) := by
                intro ⟨q1, q2⟩
                have hc : cnt E 1 ≠ 0 := fun q => by have := hzero.mpr q; omega
                simp [hc, hE] at h
                omega
              simp [Phase.on, this]
      cases hel : isEl [o, a, u, v, w] b.sets.length with
      | false =>
        refine Or.inr ⟨by rw [hst, hel, Bool.and_false], fun x hx => ?_⟩
        rw [ei, hel] at hx
        cases hx
      | true =>
        cases hc : come (k : Int) E with
        | false =>
          refine Or.inr ⟨by rw [hst, hc]; rfl, fun x hx => ?_⟩
          rw [ei, hel, if_pos rfl] at hx
          cases hx
          exact (hon _).2 hc
        | true =>
          refine Or.inl ⟨by rw [hst, hc, hel]; rfl, ?_, ?_⟩
          · rw [ei, hel, if_pos rfl, hit]
          · obtain ⟨q, hq, hcur, hat⟩ := (hon (elemI [o, a, u, v, w])).1 hc
            rw [hit]
            refine ⟨q, hq, ?_⟩
            have hh' : hd [(k : Int), o, a, u, v, w] = k := rfl
            have c1 : cnt (E ++ [[(k : Int), o, a, u, v, w]]) 1 = cnt E 1 + if k = 1 then 1 else 0 := by
              rw [cnt_snoc, hh']
              congr 1
              by_cases q : k = 1
              · rw [if_pos (by omega), if_pos q]
              · rw [if_neg (by omega), if_neg q]
            have c6 : cnt (E ++ [[(k : Int), o, a, u, v, w]]) 6 = cnt E 6 := by
              rw [cnt_snoc, hh', if_neg (by omega), Nat.add_zero]
            refine ⟨?_, ?_, ?_, fun h => by simp at h, fun _ => ?_, ?_, fun _ => ?_⟩
            · rw [ruleI_snoc, ← S.rule, hit]
            · rw [c1, ← S.takes]
              unfold Rule.with_
              match k, hk with
              | 0, _ => rfl
              | 1, _ => simp
              | 2, _ => rfl
            · rw [hcur, c6, S.curs]
            · rw [lastK_snoc, hh', hat]
              by_cases q : E = [] ∧ k = 0
              · rw [if_pos q, q.2]; rfl
              · rw [if_neg q]; omega
            · rw [hat, c1]
              match k, hk with
              | 0, _ =>
                have : cnt E 1 = 0 := by
                  by_cases hE : E = []
                  · rw [hE]; rfl
                  · apply S.zero.mp
                    have ha := S.at_ hE
                    have hk := S.kinds hE
                    have hcc := hc
                    unfold come at hcc
                    simp [hE] at hcc
                    omega
                simp [this]
              | 1, _ => simp
              | 2, _ =>
                have : cnt E 1 ≠ 0 := by
                  intro q
                  unfold come at hc
                  simp [q] at hc
                simp [this]
            · rw [lastK_snoc, hh']; omega
theorem come_res {k : Int} {E : List (List Int)} (h3 : 3 ≤ k) (h7 : k < 7) : come k E = (!decide (cnt E 1 = 0) && !(decide (k = 6) && decide (0 < cnt E 6))) := by
  unfold come
  rw [if_neg (by omega)]
  by_cases hc : cnt E 1 = 0
  · rw [if_pos ⟨by omega, hc⟩, decide_eq_true hc]; rfl
  · rw [if_neg (fun q => hc q.2), decide_eq_false hc]
    by_cases h6 : k = 6 ∧ 0 < cnt E 6
    · rw [if_pos h6, decide_eq_true h6.1, decide_eq_true h6.2]; rfl
    · rw [if_neg h6]
      have e2 : (decide (k = 6) && decide (0 < cnt E 6)) = false := by
        cases q : (decide (k = 6) && decide (0 < cnt E 6)) with
        | false => rfl
        | true => simp at q; exact absurd ⟨q.1, by omega⟩ h6
      have e3 : decide (min (lastK E) 3 ≤ min k 3) = true := by
        apply decide_eq_true
        omega
      rw [e2, e3, Bool.or_true]
      rfl
theorem on_res {p : Nat} {E : List (List Int)} {ph : Phase} {r : Rule} (S : St p E ph r) {x : Res} {k : Int} (h3 : 3 ≤ k) (h7 : k < 7) (hx : isCursor x = decide (k = 6)) :
    (come k E = true → ph.on (.res x) = some ⟨3, ph.cursor || isCursor x⟩) ∧ (come k E = false → ph.on (.res x) = none) := by
  rw [come_res h3 h7]
  unfold Phase.on
  rw [hx, S.curs]
  have hz := S.zero
  by_cases hc : cnt E 1 = 0
  · have : ph.at_ = 0 := hz.mpr hc
    simp [hc, this]
  · have : ph.at_ ≠ 0 := fun q => hc (hz.mp q)
    by_cases h6 : k = 6 <;> by_cases h0 : 0 < cnt E 6 <;> simp [hc, this, h6, h0, hx]
theorem St.res {p : Nat} {E : List (List Int)} {ph : Phase} {r : Rule} (S : St p E ph r) {x : Res} {it : List Int} (h3 : 3 ≤ hd it) (h7 : hd it < 7) (hx : isCursor x = decide (hd it = 6)) (hi : itemI it = .res x) (hc : come (hd it) E = true) :
    ∃ q, ph.on (itemI it) = some q ∧ St p (E ++ [it]) q (r.with_ (itemI it)) := by
  refine ⟨⟨3, ph.cursor || isCursor x⟩, by rw [hi]; exact (on_res S h3 h7 hx).1 hc, ?_⟩
  have c1 : cnt (E ++ [it]) 1 = cnt E 1 := by rw [cnt_snoc, if_neg (by omega), Nat.add_zero]
  refine ⟨?_, ?_, ?_, fun h => by simp at h, fun _ => ?_, ?_, fun _ => ?_⟩
  · rw [ruleI_snoc, ← S.rule]
  · rw [hi, c1, ← S.takes]; rfl
  · show (ph.cursor || isCursor x) = _
    rw [S.curs, hx, cnt_snoc]
    by_cases h6 : hd it = 6 <;> simp [h6]
  · rw [lastK_snoc]
    show (3 : Int) = _
    omega
  · rw [c1]
    rw [come_res h3 h7] at hc
    show (3 = 0 ↔ _)
    simp at hc
    simp [hc.1]
  · rw [lastK_snoc]; omega
def itemAt (k : Int) (l : List Int) : List Int := if 7 ≤ k then [k] else (k :: l).take (isz k)
theorem stand_big {k : Int} {E : List (List Int)} {sets maps : Nat} (h : 7 ≤ k) : stand [k] E sets maps = false := by
  unfold stand
  have : come (hd [k]) E = false := by
    unfold come
    rw [if_pos (show 7 ≤ hd [k] from h)]
  rw [if_pos (Or.inr this)]
theorem stand_res {it : List Int} {E : List (List Int)} {sets maps : Nat} (hE : E.length < 32) (h3 : 3 ≤ hd it) (hl : isz (hd it) ≤ it.length) :
    stand it E sets maps = (come (hd it) E && (if hd it = 3 then decide (it.getD 1 0 < 1114112) else if hd it = 6 then true else if (cnt E 1 : Int) ≤ it.getD 1 0 then false else decide (hd it = 4) || decide (it.getD 2 0 < maps))) := by
  unfold stand
  cases hc : come (hd it) E with
  | false => simp
  | true =>
    rw [if_neg (by simp; omega), if_neg (by omega), if_neg (by omega), Bool.true_and]
theorem one {p : Nat} {E : List (List Int)} {ph : Phase} {r : Rule} (S : St p E ph r) (hE : E.length < 32) {k : Int} (h0 : 0 ≤ k) {l : List Int} (hl : ∀ x ∈ l, 0 ≤ x) :
    One b p E ph r (itemAt k l) (k :: l) ((k :: l).drop (isz k)) := by
  unfold itemAt
  by_cases h7 : 7 ≤ k
  · rw [if_pos h7]
    refine Or.inr ⟨stand_big h7, fun x hx => ?_⟩
    have e : (k :: l).map Int.toNat = k.toNat :: l.map Int.toNat := rfl
    rw [e, itemOf_big (by omega)] at hx
    cases hx
  · rw [if_neg h7]
    by_cases h3 : k < 3
    · have : isz k = 6 := by unfold isz; rw [if_pos h3]
      rw [this]
      exact one_elem S hE h0 h3 hl
    · have hk : k = 3 ∨ k = 4 ∨ k = 5 ∨ k = 6 := by omega
      have ht := S.takes
      rcases hk with rfl | rfl | rfl | rfl
      · have hz : isz 3 = 2 := rfl
        rw [hz]
        rcases l with _ | ⟨a, l⟩
        · refine Or.inr ⟨?_, fun x hx => by cases hx⟩
          unfold stand
          show (if _ then false else if 1 < 2 then false else _) = false
          split <;> rfl
        · have ha : 0 ≤ a := hl a (by simp)
          have ei : itemOf b r.takes.length (((3 : Int) :: a :: l).map Int.toNat) = if a.toNat < POINTS then some (.res (.put a.toNat), l.map Int.toNat) else none := rfl
          have et : ((3 : Int) :: a :: l).take 2 = [3, a] := rfl
          have ed : ((3 : Int) :: a :: l).drop 2 = l := rfl
          rw [et, ed]
          have hst := stand_res (it := [3, a]) (sets := b.sets.length) (maps := b.maps.length) hE (by show (3 : Int) ≤ 3; omega) (by show 2 ≤ 2; omega)
          have hst' : stand [3, a] E b.sets.length b.maps.length = (come 3 E && decide (a < 1114112)) := hst
          by_cases h : a < 1114112
          · have hn : a.toNat < POINTS := by show a.toNat < 1114112; omega
            rw [decide_eq_true h, Bool.and_true] at hst'
            cases hc : come 3 E with
            | true => exact Or.inl ⟨by rw [hst', hc], by rw [ei, if_pos hn]; rfl, S.res (x := .put a.toNat) (by show (3 : Int) ≤ 3; omega) (by show (3 : Int) < 7; omega) rfl rfl hc⟩
            | false =>
              refine Or.inr ⟨by rw [hst', hc], fun x hx => ?_⟩
              rw [ei, if_pos hn] at hx
              cases hx
              exact (on_res S (k := 3) (by omega) (by omega) rfl).2 hc
          · refine Or.inr ⟨by rw [hst', decide_eq_false h, Bool.and_false], fun x hx => ?_⟩
            rw [ei, if_neg (by show ¬ a.toNat < 1114112; omega)] at hx
            cases hx
      · have hz : isz 4 = 2 := rfl
        rw [hz]
        rcases l with _ | ⟨a, l⟩
        · refine Or.inr ⟨?_, fun x hx => by cases hx⟩
          unfold stand
          show (if _ then false else if 1 < 2 then false else _) = false
          split <;> rfl
        · have ha : 0 ≤ a := hl a (by simp)
          have ei : itemOf b r.takes.length (((4 : Int) :: a :: l).map Int.toNat) = if a.toNat < r.takes.length then some (.res (.copy a.toNat), l.map Int.toNat) else none := rfl
          have et : ((4 : Int) :: a :: l).take 2 = [4, a] := rfl
          have ed : ((4 : Int) :: a :: l).drop 2 = l := rfl
          rw [et, ed]
          have hst := stand_res (it := [4, a]) (sets := b.sets.length) (maps := b.maps.length) hE (by show (3 : Int) ≤ 4; omega) (by show 2 ≤ 2; omega)
          have hst' : stand [4, a] E b.sets.length b.maps.length = (come 4 E && (if (cnt E 1 : Int) ≤ a then false else true)) := hst
          by_cases h : (cnt E 1 : Int) ≤ a
          · refine Or.inr ⟨by rw [hst', if_pos h, Bool.and_false], fun x hx => ?_⟩
            rw [ei, if_neg (by omega)] at hx
            cases hx
          · rw [if_neg h, Bool.and_true] at hst'
            cases hc : come 4 E with
            | true => exact Or.inl ⟨by rw [hst', hc], by rw [ei, if_pos (by omega)]; rfl, S.res (x := .copy a.toNat) (by show (3 : Int) ≤ 4; omega) (by show (4 : Int) < 7; omega) rfl rfl hc⟩
            | false =>
              refine Or.inr ⟨by rw [hst', hc], fun x hx => ?_⟩
              rw [ei, if_pos (by omega)] at hx
              cases hx
              exact (on_res S (k := 4) (by omega) (by omega) rfl).2 hc
      · have hz : isz 5 = 3 := rfl
        rw [hz]
        rcases l with _ | ⟨a, _ | ⟨m, l⟩⟩
        · refine Or.inr ⟨?_, fun x hx => by cases hx⟩
          unfold stand
          show (if _ then false else if 1 < 3 then false else _) = false
          split <;> rfl
        · refine Or.inr ⟨?_, fun x hx => by cases hx⟩
          unfold stand
          show (if _ then false else if 2 < 3 then false else _) = false
          split <;> rfl
        · have ha : 0 ≤ a := hl a (by simp)
          have hm : 0 ≤ m := hl m (by simp)
          have ei : itemOf b r.takes.length (((5 : Int) :: a :: m :: l).map Int.toNat) = if a.toNat < r.takes.length ∧ m.toNat < b.maps.length then some (.res (.mapped a.toNat m.toNat), l.map Int.toNat) else none := rfl
          have et : ((5 : Int) :: a :: m :: l).take 3 = [5, a, m] := rfl
          have ed : ((5 : Int) :: a :: m :: l).drop 3 = l := rfl
          rw [et, ed]
          have hst := stand_res (it := [5, a, m]) (sets := b.sets.length) (maps := b.maps.length) hE (by show (3 : Int) ≤ 5; omega) (by show 3 ≤ 3; omega)
          have hst' : stand [5, a, m] E b.sets.length b.maps.length = (come 5 E && (if (cnt E 1 : Int) ≤ a then false else decide (m < b.maps.length))) := hst
          by_cases h : (cnt E 1 : Int) ≤ a
          · refine Or.inr ⟨by rw [hst', if_pos h, Bool.and_false], fun x hx => ?_⟩
            rw [ei, if_neg (by omega)] at hx
            cases hx
          · rw [if_neg h] at hst'
            by_cases h2 : m < b.maps.length
            · rw [decide_eq_true h2, Bool.and_true] at hst'
              cases hc : come 5 E with
              | true => exact Or.inl ⟨by rw [hst', hc], by rw [ei, if_pos ⟨by omega, by omega⟩]; rfl, S.res (x := .mapped a.toNat m.toNat) (by show (3 : Int) ≤ 5; omega) (by show (5 : Int) < 7; omega) rfl rfl hc⟩
              | false =>
                refine Or.inr ⟨by rw [hst', hc], fun x hx => ?_⟩
                rw [ei, if_pos ⟨by omega, by omega⟩] at hx
                cases hx
                exact (on_res S (k := 5) (by omega) (by omega) rfl).2 hc
            · refine Or.inr ⟨by rw [hst', decide_eq_false h2, Bool.and_false], fun x hx => ?_⟩
              rw [ei, if_neg (by omega)] at hx
              cases hx
      · have hz : isz 6 = 1 := rfl
        rw [hz]
        have ei : itemOf b r.takes.length (((6 : Int) :: l).map Int.toNat) = some (.res .cursor, l.map Int.toNat) := rfl
        have et : ((6 : Int) :: l).take 1 = [6] := rfl
        have ed : ((6 : Int) :: l).drop 1 = l := rfl
        rw [et, ed]
        have hst := stand_res (it := [6]) (sets := b.sets.length) (maps := b.maps.length) hE (by show (3 : Int) ≤ 6; omega) (by show 1 ≤ 1; omega)
        have hst' : stand [6] E b.sets.length b.maps.length = (come 6 E && true) := hst
        rw [Bool.and_true] at hst'
        cases hc : come 6 E with
        | true => exact Or.inl ⟨by rw [hst', hc], by rw [ei]; rfl, S.res (x := .cursor) (by show (3 : Int) ≤ 6; omega) (by show (6 : Int) < 7; omega) rfl rfl hc⟩
        | false =>
          refine Or.inr ⟨by rw [hst', hc], fun x hx => ?_⟩
          rw [ei] at hx
          cases hx
          exact (on_res S (k := 6) (by omega) (by omega) rfl).2 hc
theorem isz_pos (k : Int) : 1 ≤ isz k := by
  unfold isz
  split
  · omega
  · split
    · omega
    · split <;> omega
theorem splitI_nil (g : Nat) : splitI g [] = [] := by cases g <;> rfl
theorem parse (p : Nat) : ∀ (f g : Nat) (l : List Int) (E : List (List Int)) (ph : Phase) (r : Rule), (∀ x ∈ l, 0 ≤ x) → l.length ≤ g → St p E ph r → f + E.length = 32 →
    match ruleOf b f E.length ph r (l.map Int.toNat) with
    | .error j => wrongI b.sets.length b.maps.length E (splitI g l) = some j
    | .ok r' => wrongI b.sets.length b.maps.length E (splitI g l) = none ∧ r' = ruleI p (E ++ splitI g l) := by
  intro f
  induction f with
  | zero =>
    intro g l E ph r hl hg S hf
    cases l with
    | nil =>
      rw [splitI_nil]
      have e : ruleOf b 0 E.length ph r ([].map Int.toNat) = if ph.at_ = 0 then .error E.length else .ok r := rfl
      rw [e]
      by_cases h : ph.at_ = 0
      · rw [if_pos h]; show (if cnt E 1 = 0 then _ else _) = _; rw [if_pos (S.zero.mp h)]
      · rw [if_neg h]; refine ⟨?_, by rw [List.append_nil]; exact S.rule⟩; show (if cnt E 1 = 0 then _ else _) = _; rw [if_neg (fun q => h (S.zero.mpr q))]
    | cons k l =>
      cases g with
      | zero => simp at hg
      | succ g =>
        show wrongI _ _ E (splitI (g + 1) (k :: l)) = some E.length
        have : ∃ it rest, splitI (g + 1) (k :: l) = it :: rest := by
          unfold splitI
          split
          · exact ⟨_, _, rfl⟩
          · exact ⟨_, _, rfl⟩
        obtain ⟨it, rest, e⟩ := this
        rw [e]
        have hs : stand it E b.sets.length b.maps.length = false := by
          unfold stand
          rw [if_pos (Or.inl (by omega))]
        show (if stand it E b.sets.length b.maps.length = true then _ else _) = _
        rw [hs]
        rfl
  | succ f ih =>
    intro g l E ph r hl hg S hf
    cases l with
    | nil =>
      rw [splitI_nil]
      have e : ruleOf b (f + 1) E.length ph r ([].map Int.toNat) = if ph.at_ = 0 then .error E.length else .ok r := rfl
      rw [e]
      by_cases h : ph.at_ = 0
      · rw [if_pos h]; show (if cnt E 1 = 0 then _ else _) = _; rw [if_pos (S.zero.mp h)]
      · rw [if_neg h]; refine ⟨?_, by rw [List.append_nil]; exact S.rule⟩; show (if cnt E 1 = 0 then _ else _) = _; rw [if_neg (fun q => h (S.zero.mpr q))]
    | cons k l =>
      cases g with
      | zero => simp at hg
      | succ g =>
        have hk : 0 ≤ k := hl k (by simp)
        have O := one (b := b) S (by omega) hk (l := l) (fun x hx => hl x (by simp [hx]))
        have es : splitI (g + 1) (k :: l) = itemAt k l :: (if 7 ≤ k then [] else splitI g ((k :: l).drop (isz k))) := by
          show (if 7 ≤ k then _ else _) = _
          unfold itemAt
          by_cases h : 7 ≤ k
          · simp only [if_pos h]
          · simp only [if_neg h]
        have er : ruleOf b (f + 1) E.length ph r ((k :: l).map Int.toNat) = match itemOf b r.takes.length ((k :: l).map Int.toNat) with
          | none => .error E.length
          | some x => match ph.on x.1 with
            | none => .error E.length
            | some q => ruleOf b f (E.length + 1) q (r.with_ x.1) x.2 := rfl
        have ew : wrongI b.sets.length b.maps.length E (itemAt k l :: (if 7 ≤ k then [] else splitI g ((k :: l).drop (isz k)))) = if stand (itemAt k l) E b.sets.length b.maps.length = true then wrongI b.sets.length b.maps.length (E ++ [itemAt k l]) (if 7 ≤ k then [] else splitI g ((k :: l).drop (isz k))) else some E.length := rfl
        rw [es, er, ew]
        rcases O with ⟨hs, hi, q, hq, S'⟩ | ⟨hs, hn⟩
        · have h7 : ¬ 7 ≤ k := by
            intro h
            have : itemAt k l = [k] := by unfold itemAt; rw [if_pos h]
            rw [this, stand_big h] at hs
            cases hs
          rw [hi]
          simp only [hq, if_pos hs, if_neg h7]
          have hlen : (E ++ [itemAt k l]).length = E.length + 1 := by simp
          have := ih g ((k :: l).drop (isz k)) (E ++ [itemAt k l]) q (r.with_ (itemI (itemAt k l))) (fun x hx => hl x (List.mem_of_mem_drop hx)) (by have := isz_pos k; rw [List.length_drop]; simp at hg ⊢; omega) S' (by omega)
          rw [hlen] at this
          have ea : E ++ itemAt k l :: splitI g ((k :: l).drop (isz k)) = E ++ [itemAt k l] ++ splitI g ((k :: l).drop (isz k)) := by simp
          rw [ea]
          exact this
        · rw [hs]
          cases hi : itemOf b r.takes.length ((k :: l).map Int.toNat) with
          | none => rfl
          | some x =>
            have := hn x hi
            simp only [this]
            rfl
theorem splitI_fuel : ∀ (f g : Nat) (l : List Int), l.length ≤ f → l.length ≤ g → splitI f l = splitI g l
  | f, g, [], _, _ => by rw [splitI_nil, splitI_nil]
  | 0, _, _ :: _, h, _ => by simp at h
  | _, 0, _ :: _, _, h => by simp at h
  | f + 1, g + 1, k :: r, hf, hg => by
    show (if 7 ≤ k then _ else _) = (if 7 ≤ k then _ else _)
    have := isz_pos k
    rw [splitI_fuel f g ((k :: r).drop (isz k)) (by rw [List.length_drop]; simp only [List.length_cons] at hf ⊢; omega) (by rw [List.length_drop]; simp only [List.length_cons] at hg ⊢; omega)]
def splitW (l : List Int) : List (List Int) := splitI l.length l
theorem splitW_nil : splitW [] = [] := rfl
theorem splitW_big {k : Int} (r : List Int) (h : 7 ≤ k) : splitW (k :: r) = [[k]] := by
  show (if 7 ≤ k then _ else _) = _
  rw [if_pos h]
theorem splitW_cons {k : Int} (r : List Int) (h : ¬ 7 ≤ k) : splitW (k :: r) = (k :: r).take (isz k) :: splitW ((k :: r).drop (isz k)) := by
  show (if 7 ≤ k then _ else _) = _
  rw [if_neg h]
  congr 1
  have := isz_pos k
  exact splitI_fuel _ _ _ (by rw [List.length_drop]; simp only [List.length_cons]; omega) (Nat.le_refl _)
theorem splitW_ne : ∀ (n : Nat) (l : List Int), l.length ≤ n → ∀ it ∈ splitW l, it ≠ []
  | _, [], _, it, h => by rw [splitW_nil] at h; cases h
  | 0, _ :: _, h, _, _ => by simp at h
  | n + 1, k :: r, hn, it, h => by
    have := isz_pos k
    by_cases h7 : 7 ≤ k
    · rw [splitW_big r h7] at h
      rw [List.mem_singleton.mp h]
      exact List.cons_ne_nil _ _
    · rw [splitW_cons r h7] at h
      rcases List.mem_cons.mp h with rfl | h
      · intro q
        have : ((k :: r).take (isz k)).length = 0 := by rw [q]; rfl
        rw [List.length_take, List.length_cons] at this
        omega
      · exact splitW_ne n _ (by rw [List.length_drop]; simp only [List.length_cons] at hn ⊢; omega) it h
theorem splitW_mem : ∀ (n : Nat) (l : List Int), l.length ≤ n → ∀ it ∈ splitW l, ∀ x ∈ it, x ∈ l
  | _, [], _, it, h, _, _ => by rw [splitW_nil] at h; cases h
  | 0, _ :: _, h, _, _, _, _ => by simp at h
  | n + 1, k :: r, hn, it, h, x, hx => by
    have := isz_pos k
    by_cases h7 : 7 ≤ k
    · rw [splitW_big r h7] at h
      rw [List.mem_singleton.mp h] at hx
      rw [List.mem_singleton.mp hx]
      exact List.mem_cons_self
    · rw [splitW_cons r h7] at h
      rcases List.mem_cons.mp h with rfl | h
      · exact List.mem_of_mem_take hx
      · exact List.mem_of_mem_drop (splitW_mem n _ (by rw [List.length_drop]; simp only [List.length_cons] at hn ⊢; omega) it h x hx)
theorem splitW_len : ∀ (n : Nat) (l : List Int), l.length ≤ n → (splitW l).length ≤ l.length
  | _, [], _ => Nat.le_refl _
  | 0, _ :: _, h => by simp at h
  | n + 1, k :: r, hn => by
    have := isz_pos k
    by_cases h7 : 7 ≤ k
    · rw [splitW_big r h7]; simp
    · rw [splitW_cons r h7]
      have ih := splitW_len n ((k :: r).drop (isz k)) (by rw [List.length_drop]; simp only [List.length_cons] at hn ⊢; omega)
      rw [List.length_drop] at ih
      simp only [List.length_cons] at ih ⊢
      omega
theorem parse_all (p : Nat) (l : List Int) (hl : ∀ x ∈ l, 0 ≤ x) :
    match ruleOf b ITEMS 0 ⟨0, false⟩ ⟨p, [], [], [], [], true⟩ (l.map Int.toNat) with
    | .error j => wrongI b.sets.length b.maps.length [] (splitI l.length l) = some j
    | .ok r' => wrongI b.sets.length b.maps.length [] (splitI l.length l) = none ∧ r' = ruleI p (splitI l.length l) :=
  parse (b := b) p 32 l.length l [] ⟨0, false⟩ _ hl (Nat.le_refl _) (St.start p) rfl
end Rq
namespace Rb
open Rs
def pairsI : List Int → List (Int × Int)
  | a :: b :: r => (a, b) :: pairsI r
  | _ => []
def natP (p : Int × Int) : Nat × Nat := (p.1.toNat, p.2.toNat)
theorem pairsI_len : ∀ (l : List Int), (pairsI l).length = l.length / 2
  | [] => rfl
  | [_] => by simp [pairsI]
  | a :: b :: r => by
    have := pairsI_len r
    simp only [pairsI, List.length_cons]
    omega
theorem pairsI_get : ∀ (l : List Int) (i : Nat), i < l.length / 2 → ∃ a b, (pairsI l)[i]? = some (a, b) ∧ l[2 * i]? = some a ∧ l[2 * i + 1]? = some b
  | [], i, h => by simp at h
  | [_], i, h => by simp at h
  | a :: b :: r, 0, _ => ⟨a, b, rfl, rfl, rfl⟩
  | a :: b :: r, i + 1, h => by
    obtain ⟨x, y, h1, h2, h3⟩ := pairsI_get r i (by simp only [List.length_cons] at h; omega)
    refine ⟨x, y, ?_, ?_, ?_⟩
    · simpa [pairsI] using h1
    · rw [show 2 * (i + 1) = 2 * i + 1 + 1 by omega]; simpa using h2
    · rw [show 2 * (i + 1) + 1 = 2 * i + 1 + 1 + 1 by omega]; simpa using h3
theorem pairsOf_even : ∀ (l : List Int), l.length % 2 = 0 → pairsOf (l.map Int.toNat) = some ((pairsI l).map natP)
  | [], _ => rfl
  | [_], h => by simp at h
  | a :: b :: r, h => by
    have := pairsOf_even r (by simp only [List.length_cons] at h; omega)
    simp only [List.map_cons, pairsOf, this, pairsI, Option.map_some, natP]
theorem pairsOf_odd : ∀ (l : List Int), ¬ l.length % 2 = 0 → pairsOf (l.map Int.toNat) = none
  | [], h => by simp at h
  | [_], _ => rfl
  | a :: b :: r, h => by
    have := pairsOf_odd r (by simp only [List.length_cons] at h; omega)
    simp only [List.map_cons, pairsOf, this, Option.map_none]
theorem pairsI_mem : ∀ (l : List Int) (p : Int × Int), p ∈ pairsI l → p.1 ∈ l ∧ p.2 ∈ l
  | [], p, h => by cases h
  | [_], p, h => by cases h
  | a :: b :: r, p, h => by
    rcases List.mem_cons.mp h with rfl | h
    · simp
    · have := pairsI_mem r p h
      simp [this.1, this.2]
def rangesI (l : List (Int × Int)) : Bool := l.all fun p => decide (p.1 ≤ p.2) && decide (p.2 < 1114112)
theorem ranges_eq : ∀ (l : List (Int × Int)), (∀ p ∈ l, 0 ≤ p.1 ∧ 0 ≤ p.2) → rangesRight (l.map natP) = rangesI l
  | [], _ => rfl
  | p :: l, h => by
    have hp := h p (by simp)
    have ih := ranges_eq l fun q hq => h q (by simp [hq])
    unfold rangesRight rangesI at *
    simp only [List.map_cons, List.all_cons, ih, natP, POINTS]
    congr 1
    congr 1
    · exact decide_eq_decide.mpr (by omega)
    · exact decide_eq_decide.mpr (by omega)
def inI (l : List (Int × Int)) (c : Int) : Bool := l.any fun p => decide (p.1 ≤ c) && decide (c ≤ p.2)
theorem inI_eq (l : List (Int × Int)) (c : Int) (h : ∀ p ∈ l, 0 ≤ p.1 ∧ 0 ≤ p.2) (hc : 0 ≤ c) : inRanges (l.map natP) c.toNat = inI l c := by
  induction l with
  | nil => rfl
  | cons p l ih =>
    have hp := h p (by simp)
    have ih := ih fun q hq => h q (by simp [hq])
    unfold inRanges inI at *
    simp only [List.map_cons, List.any_cons, ih, natP]
    congr 1
    congr 1
    · exact decide_eq_decide.mpr (by omega)
    · exact decide_eq_decide.mpr (by omega)
theorem any_fst : ∀ (l : List (Int × Int)) (p : Int × Int), (∀ q ∈ l, 0 ≤ q.1) → 0 ≤ p.1 → ((l.map natP).any fun y => y.1 == p.1.toNat) = decide (p.1 ∈ l.map (·.1))
  | [], _, _, _ => by simp
  | q :: l, p, h, hp => by
    have hq := h q (by simp)
    have ih := any_fst l p (fun r hr => h r (by simp [hr])) hp
    rw [List.map_cons, List.any_cons, ih, List.map_cons]
    by_cases e : q.1 = p.1
    · simp [natP, e]
    · have e1 : (q.1.toNat == p.1.toNat) = false := beq_eq_false_iff_ne.mpr (by omega)
      have e' : ¬ p.1 = q.1 := fun z => e z.symm
      show ((q.1.toNat == p.1.toNat) || _) = _
      rw [e1, Bool.false_or]
      exact decide_eq_decide.mpr (by simp [e'])
theorem pairs_eq : ∀ (l : List (Int × Int)), (∀ p ∈ l, 0 ≤ p.1 ∧ 0 ≤ p.2) → (pairsRight (l.map natP) = true ↔ (l.map (·.1)).Nodup ∧ ∀ p ∈ l, p.1 < 1114112 ∧ p.2 < 1114112)
  | [], _ => by simp [pairsRight]
  | p :: l, h => by
    have hp := h p (by simp)
    have ih := pairs_eq l fun q hq => h q (by simp [hq])
    have ha := any_fst l p (fun q hq => (h q (by simp [hq])).1) hp.1
    have e : pairsRight ((p :: l).map natP) = (decide (p.1.toNat < 1114112) && (decide (p.2.toNat < 1114112) && (!((l.map natP).any fun y => y.1 == p.1.toNat) && pairsRight (l.map natP)))) := rfl
    rw [e, ha]
    simp only [Bool.and_eq_true, ih, decide_eq_true_eq, List.map_cons, List.nodup_cons, List.mem_cons, forall_eq_or_imp, Bool.not_eq_true', decide_eq_false_iff_not]
    constructor
    · rintro ⟨h1, h2, h3, h4, h5⟩
      exact ⟨⟨h3, h4⟩, ⟨by omega, by omega⟩, h5⟩
    · rintro ⟨⟨h1, h4⟩, ⟨h2, h3⟩, h5⟩
      exact ⟨by omega, by omega, h1, h4, h5⟩
def mapI (l : List (Int × Int)) (c : Int) : Int := match l.find? fun p => decide (p.1 = c) with
  | some p => p.2
  | none => c
theorem mapI_eq : ∀ (l : List (Int × Int)) (c : Int), (∀ p ∈ l, 0 ≤ p.1 ∧ 0 ≤ p.2) → 0 ≤ c → mapped (l.map natP) c.toNat = (mapI l c).toNat
  | [], _, _, _ => rfl
  | p :: l, c, h, hc => by
    have hp := h p (by simp)
    have ih := mapI_eq l c (fun q hq => h q (by simp [hq])) hc
    unfold mapped mapI at *
    rw [List.map_cons, List.find?_cons, List.find?_cons]
    by_cases e : p.1 = c
    · have : ((natP p).1 == c.toNat) = true := by
        show (p.1.toNat == c.toNat) = true
        rw [e]; exact beq_self_eq_true _
      rw [this, decide_eq_true e]
      rfl
    · have : ((natP p).1 == c.toNat) = false := by
        show (p.1.toNat == c.toNat) = false
        exact beq_eq_false_iff_ne.mpr (by omega)
      rw [this, decide_eq_false e]
      exact ih
def after (s : State) : List (List (List Int)) → State
  | [] => s
  | c :: r => after (RsNeutral.step s c).1 r
theorem after_snoc : ∀ (cs : List (List (List Int))) (s : State) (c : List (List Int)), after s (cs ++ [c]) = (RsNeutral.step (after s cs) c).1
  | [], _, _ => rfl
  | d :: cs, s, c => after_snoc cs (RsNeutral.step s d).1 c
theorem played_snoc : ∀ (cs : List (List (List Int))) (s : State) (c : List (List Int)), PyFlat.played RsNeutral.step s (cs ++ [c]) = PyFlat.played RsNeutral.step s cs ++ [(RsNeutral.step (after s cs) c).2]
  | [], _, _ => rfl
  | d :: cs, s, c => by
    show _ :: PyFlat.played RsNeutral.step (RsNeutral.step s d).1 (cs ++ [c]) = _
    rw [played_snoc cs (RsNeutral.step s d).1 c]
    rfl
theorem told_snoc (l : List (List Int)) (a : List Int) : PyFlat.told (l ++ [a]) = PyFlat.told l ++ ((a.length : Int) :: a) := by
  unfold PyFlat.told
  rw [List.flatMap_append]
  simp
inductive Ok : List (List Int) → Prop
  | set (l : List Int) : (∀ x ∈ l, 0 ≤ x) → Ok [[0], l]
  | map (l : List Int) : (∀ x ∈ l, 0 ≤ x) → Ok [[1], l]
  | rule (p : Int) (l : List Int) : 0 ≤ p → (∀ x ∈ l, 0 ≤ x) → Ok [[2, p], l]
  | turn (r o : Int) : 0 ≤ r → 0 ≤ o → Ok [[3, r, o]]
  | has (r o : Int) : 0 ≤ r → 0 ≤ o → Ok [[4, r, o]]
  | look (r o : Int) : 0 ≤ r → 0 ≤ o → Ok [[5, r, o]]
  | find (r o : Int) (l : List Int) : 0 ≤ r → 0 ≤ o → (∀ x ∈ l, 0 ≤ x) → Ok [[6, r, o], l]
  | apply (p : Int) (l : List Int) : 0 ≤ p → (∀ x ∈ l, 0 ≤ x) → Ok [[7, p], l]
  | steps (p : Int) (l : List Int) : 0 ≤ p → (∀ x ∈ l, 0 ≤ x) → Ok [[8, p], l]
theorem ok_whole {c : List (List Int)} (h : Ok c) : PyWqasap.whole c = c := by cases h <;> rfl
theorem shaped {c : List (List Int)} (h : PyFlat.okCall PyWqasap.shape c) (hp : RsNeutral.asked1 (PyWqasap.whole c) = true) : Ok c := by
  obtain ⟨p, a, xs, rfl, hs⟩ := h
  unfold PyWqasap.shape at hs
  have k2 : ∀ {n m : Nat}, some (n, m) = some (a.length, xs.length) → a.length = n ∧ xs.length = m := fun e => by
    have := Option.some.inj e
    exact ⟨(Prod.mk.inj this).1.symm, (Prod.mk.inj this).2.symm⟩
  have l0 : ∀ {α : Type} {l : List α}, l.length = 0 → l = [] := fun h => List.length_eq_zero_iff.mp h
  have l1 : ∀ {α : Type} {l : List α}, l.length = 1 → ∃ x, l = [x] := fun h => List.length_eq_one_iff.mp h
  have l2 : ∀ {α : Type} {l : List α}, l.length = 2 → ∃ x y, l = [x, y] := fun {α l} h => by
    match l, h with
    | [x, y], _ => exact ⟨x, y, rfl⟩
  have hall : ∀ {l : List Int}, (l.all fun z => decide (0 ≤ z)) = true → ∀ x ∈ l, 0 ≤ x := fun h x hx => of_decide_eq_true (List.all_eq_true.mp h x hx)
  by_cases h0 : p = 0
  · subst h0
    obtain ⟨e1, e2⟩ := k2 hs
    obtain ⟨r, rfl⟩ := l1 e2
    rw [l0 e1] at hp ⊢
    exact .set r (hall hp)
  rw [if_neg h0] at hs
  by_cases h0 : p = 1
  · subst h0
    obtain ⟨e1, e2⟩ := k2 hs
    obtain ⟨r, rfl⟩ := l1 e2
    rw [l0 e1] at hp ⊢
    exact .map r (hall hp)
  rw [if_neg h0] at hs
  by_cases h0 : p = 2
  · subst h0
    obtain ⟨e1, e2⟩ := k2 hs
    obtain ⟨r, rfl⟩ := l1 e2
    obtain ⟨x, rfl⟩ := l1 e1
    have hp' : (decide (0 ≤ x) && r.all fun z => decide (0 ≤ z)) = true := hp
    rw [Bool.and_eq_true] at hp'
    exact .rule x r (of_decide_eq_true hp'.1) (hall hp'.2)
  rw [if_neg h0] at hs
  by_cases h0 : p = 3
  · subst h0
    obtain ⟨e1, e2⟩ := k2 hs
    obtain ⟨x, y, rfl⟩ := l2 e1
    rw [l0 e2] at hp ⊢
    have hp' : (decide (0 ≤ x) && decide (0 ≤ y)) = true := hp
    rw [Bool.and_eq_true] at hp'
    exact .turn x y (of_decide_eq_true hp'.1) (of_decide_eq_true hp'.2)
  rw [if_neg h0] at hs
  by_cases h0 : p = 4
  · subst h0
    obtain ⟨e1, e2⟩ := k2 hs
    obtain ⟨x, y, rfl⟩ := l2 e1
    rw [l0 e2] at hp ⊢
    have hp' : (decide (0 ≤ x) && decide (0 ≤ y)) = true := hp
    rw [Bool.and_eq_true] at hp'
    exact .has x y (of_decide_eq_true hp'.1) (of_decide_eq_true hp'.2)
  rw [if_neg h0] at hs
  by_cases h0 : p = 5
  · subst h0
    obtain ⟨e1, e2⟩ := k2 hs
    obtain ⟨x, y, rfl⟩ := l2 e1
    rw [l0 e2] at hp ⊢
    have hp' : (decide (0 ≤ x) && decide (0 ≤ y)) = true := hp
    rw [Bool.and_eq_true] at hp'
    exact .look x y (of_decide_eq_true hp'.1) (of_decide_eq_true hp'.2)
  rw [if_neg h0] at hs
  by_cases h0 : p = 6
  · subst h0
    obtain ⟨e1, e2⟩ := k2 hs
    obtain ⟨x, y, rfl⟩ := l2 e1
    obtain ⟨r, rfl⟩ := l1 e2
    have hp' : (decide (0 ≤ x) && decide (0 ≤ y) && r.all fun z => decide (0 ≤ z)) = true := hp
    rw [Bool.and_eq_true, Bool.and_eq_true] at hp'
    exact .find x y r (of_decide_eq_true hp'.1.1) (of_decide_eq_true hp'.1.2) (hall hp'.2)
  rw [if_neg h0] at hs
  by_cases h0 : p = 7
  · subst h0
    obtain ⟨e1, e2⟩ := k2 hs
    obtain ⟨r, rfl⟩ := l1 e2
    obtain ⟨x, rfl⟩ := l1 e1
    have hp' : (decide (0 ≤ x) && r.all fun z => decide (0 ≤ z)) = true := hp
    rw [Bool.and_eq_true] at hp'
    exact .apply x r (of_decide_eq_true hp'.1) (hall hp'.2)
  rw [if_neg h0] at hs
  by_cases h0 : p = 8
  · subst h0
    obtain ⟨e1, e2⟩ := k2 hs
    obtain ⟨r, rfl⟩ := l1 e2
    obtain ⟨x, rfl⟩ := l1 e1
    have hp' : (decide (0 ≤ x) && r.all fun z => decide (0 ≤ z)) = true := hp
    rw [Bool.and_eq_true] at hp'
    exact .steps x r (of_decide_eq_true hp'.1) (hall hp'.2)
  rw [if_neg h0] at hs
  cases hs
theorem asked_calls {l : List Int} (h : PyWqasap.answers_asked l = true) : ∃ cs : List (List (List Int)), l = PyFlat.put cs ∧ (∀ c ∈ cs, Ok c) ∧ cs.length ≤ 20 ∧ 1 ≤ cs.length ∧ PyWqasap.answers l = PyFlat.told (PyFlat.played RsNeutral.step RsNeutral.start cs) := by
  unfold PyWqasap.answers_asked at h
  unfold PyWqasap.answers
  cases e : PyWqasap.calls l with
  | none => rw [e] at h; cases h
  | some cs =>
    rw [e] at h
    have h : (PyFlat.atMost 20 cs && RsNeutral.asked cs) = true := h
    unfold PyWqasap.calls at e
    cases e2 : PyFlat.calls PyWqasap.shape l.length l with
    | none => rw [e2] at e; cases e
    | some ds =>
      rw [e2] at e
      have e : ds.map PyWqasap.whole = cs := Option.some.inj e
      obtain ⟨h1, h2⟩ := PyFlat.put_calls _ _ _ e2
      rw [Bool.and_eq_true] at h
      obtain ⟨h3, h4⟩ := h
      unfold RsNeutral.asked at h4
      rw [Bool.and_eq_true, Bool.and_eq_true, Bool.and_eq_true] at h4
      obtain ⟨⟨⟨h5, h6⟩, h7⟩, _⟩ := h4
      have hok : ∀ c ∈ ds, Ok c := fun c hc => shaped (h2 c hc) (List.all_eq_true.mp h5 _ (by rw [← e]; exact List.mem_map.mpr ⟨c, hc, rfl⟩))
      have ew : ds.map PyWqasap.whole = ds := by
        conv => rhs; rw [← List.map_id ds]
        exact List.map_congr_left fun c hc => ok_whole (hok c hc)
      have ec : cs = ds := e.symm.trans ew
      subst ec
      exact ⟨cs, h1, hok, of_decide_eq_true h7, of_decide_eq_true h6, rfl⟩
end Rb
namespace Rb
open Rs
theorem step_eq {c : List (List Int)} {q : Rs.Call} (b : State) (h : RsNeutral.specCall c = some q) : RsNeutral.step b c = ((Rs.step b q).1, RsNeutral.shown (Rs.step b q).2) := by
  unfold RsNeutral.step
  rw [h]
theorem call_set (l : List Int) : RsNeutral.specCall [[0], l] = some (.set (l.map Int.toNat)) := rfl
theorem call_map (l : List Int) : RsNeutral.specCall [[1], l] = some (.map (l.map Int.toNat)) := rfl
theorem call_rule (p : Int) (l : List Int) : RsNeutral.specCall [[2, p], l] = some (.rule p.toNat (l.map Int.toNat)) := rfl
theorem call_turn (r o : Int) : RsNeutral.specCall [[3, r, o]] = some (.turn r.toNat o.toNat) := rfl
theorem call_has (r o : Int) : RsNeutral.specCall [[4, r, o]] = some (.has r.toNat o.toNat) := rfl
theorem call_look (r o : Int) : RsNeutral.specCall [[5, r, o]] = some (.look r.toNat o.toNat) := rfl
theorem call_find (r o : Int) (l : List Int) : RsNeutral.specCall [[6, r, o], l] = some (.find r.toNat o.toNat (l.map Int.toNat)) := rfl
theorem call_apply (p : Int) (l : List Int) : RsNeutral.specCall [[7, p], l] = some (.apply p.toNat (l.map Int.toNat)) := rfl
theorem call_steps (p : Int) (l : List Int) : RsNeutral.specCall [[8, p], l] = some (.steps p.toNat (l.map Int.toNat)) := rfl
theorem nonneg_pairs {l : List Int} (hl : ∀ x ∈ l, 0 ≤ x) : ∀ p ∈ pairsI l, 0 ≤ p.1 ∧ 0 ≤ p.2 := fun p hp => ⟨hl _ (pairsI_mem l p hp).1, hl _ (pairsI_mem l p hp).2⟩
theorem step_set (b : State) (l : List Int) (hl : ∀ x ∈ l, 0 ≤ x) : RsNeutral.step b [[0], l] =
    if ¬ (l.length % 2 = 0 ∧ l.length ≤ 128) then (b, [-1]) else if rangesI (pairsI l) = false then (b, [-2]) else if 32 ≤ b.sets.length then (b, [-3]) else (⟨b.sets ++ [(pairsI l).map natP], b.maps, b.rules⟩, [(b.sets.length : Int)]) := by
  rw [step_eq b (call_set l)]
  by_cases h : l.length % 2 = 0
  · have e := pairsOf_even l h
    simp only [Rs.step, e, List.length_map, pairsI_len, ranges_eq _ (nonneg_pairs hl)]
    by_cases h2 : RANGES < l.length / 2
    · have h2' : 64 < l.length / 2 := h2
      rw [if_pos h2, if_pos (show ¬ (l.length % 2 = 0 ∧ l.length ≤ 128) by omega)]
      rfl
    · have h2' : ¬ 64 < l.length / 2 := h2
      rw [if_neg h2, if_neg (show ¬ ¬ (l.length % 2 = 0 ∧ l.length ≤ 128) by omega)]
      by_cases h3 : rangesI (pairsI l) = false
      · rw [if_pos h3, if_pos h3]; rfl
      · rw [if_neg h3, if_neg h3]
        by_cases h4 : SETS ≤ b.sets.length
        · rw [if_pos h4, if_pos (show 32 ≤ b.sets.length from h4)]; rfl
        · rw [if_neg h4, if_neg (show ¬ 32 ≤ b.sets.length from h4)]; rfl
  · have e := pairsOf_odd l h
    simp only [Rs.step, e]
    rw [if_pos (fun q => h q.1)]
    rfl
def mapRight (l : List Int) : Bool := decide (((pairsI l).map (·.1)).Nodup) && l.all fun x => decide (x < 1114112)
theorem pairs_all : ∀ (l : List Int), l.length % 2 = 0 → ((∀ p ∈ pairsI l, p.1 < 1114112 ∧ p.2 < 1114112) ↔ ∀ x ∈ l, x < 1114112)
  | [], _ => by simp [pairsI]
  | [_], h => by simp at h
  | a :: b :: r, h => by
    have ih := pairs_all r (by simp only [List.length_cons] at h; omega)
    simp only [pairsI, List.mem_cons, forall_eq_or_imp, ih, and_assoc]
theorem mapRight_eq (l : List Int) (hl : ∀ x ∈ l, 0 ≤ x) (h : l.length % 2 = 0) : pairsRight ((pairsI l).map natP) = mapRight l := by
  have h1 := pairs_eq (pairsI l) (nonneg_pairs hl)
  rw [pairs_all l h] at h1
  have h2 : mapRight l = true ↔ ((pairsI l).map (·.1)).Nodup ∧ ∀ x ∈ l, x < 1114112 := by
    unfold mapRight
    simp only [Bool.and_eq_true, decide_eq_true_eq, List.all_eq_true]
  cases e1 : pairsRight ((pairsI l).map natP) with
  | true => exact (h2.mpr (h1.mp e1)).symm
  | false =>
    cases e2 : mapRight l with
    | true => rw [h1.mpr (h2.mp e2)] at e1; cases e1
    | false => rfl
theorem step_map (b : State) (l : List Int) (hl : ∀ x ∈ l, 0 ≤ x) : RsNeutral.step b [[1], l] =
    if ¬ (l.length % 2 = 0 ∧ l.length ≤ 512) then (b, [-1]) else if mapRight l = false then (b, [-2]) else if 16 ≤ b.maps.length then (b, [-3]) else (⟨b.sets, b.maps ++ [(pairsI l).map natP], b.rules⟩, [(b.maps.length : Int)]) := by
  rw [step_eq b (call_map l)]
  by_cases h : l.length % 2 = 0
  · have e := pairsOf_even l h
    simp only [Rs.step, e, List.length_map, pairsI_len, mapRight_eq l hl h]
    by_cases h2 : PAIRS < l.length / 2
    · have h2' : 256 < l.length / 2 := h2
      rw [if_pos h2, if_pos (show ¬ (l.length % 2 = 0 ∧ l.length ≤ 512) by omega)]
      rfl
    · have h2' : ¬ 256 < l.length / 2 := h2
      rw [if_neg h2, if_neg (show ¬ ¬ (l.length % 2 = 0 ∧ l.length ≤ 512) by omega)]
      by_cases h3 : mapRight l = false
      · rw [if_pos h3, if_pos h3]; rfl
      · rw [if_neg h3, if_neg h3]
        by_cases h4 : MAPS ≤ b.maps.length
        · rw [if_pos h4, if_pos (show 16 ≤ b.maps.length from h4)]; rfl
        · rw [if_neg h4, if_neg (show ¬ 16 ≤ b.maps.length from h4)]; rfl
  · have e := pairsOf_odd l h
    simp only [Rs.step, e]
    rw [if_pos (fun q => h q.1)]
    rfl
theorem step_rule (b : State) (p : Int) (l : List Int) (hp : 0 ≤ p) (hl : ∀ x ∈ l, 0 ≤ x) : RsNeutral.step b [[2, p], l] =
    if 7 < p then (b, [-2]) else match Rq.wrongI b.sets.length b.maps.length [] (Rq.splitI l.length l) with
      | some i => (b, [-3, (i : Int)])
      | none => if 64 ≤ b.rules.length then (b, [-4]) else (⟨b.sets, b.maps, b.rules ++ [Rq.ruleI p.toNat (Rq.splitI l.length l)]⟩, [(b.rules.length : Int)]) := by
  rw [step_eq b (call_rule p l)]
  simp only [Rs.step]
  by_cases h : 7 < p
  · rw [if_pos h, if_pos (by omega)]; rfl
  · rw [if_neg h, if_neg (by omega)]
    have q := Rq.parse_all (b := b) p.toNat l hl
    cases e : ruleOf b ITEMS 0 ⟨0, false⟩ ⟨p.toNat, [], [], [], [], true⟩ (l.map Int.toNat) with
    | error j =>
      rw [e] at q
      rw [show Rq.wrongI b.sets.length b.maps.length [] (Rq.splitI l.length l) = some j from q]
      rfl
    | ok r =>
      rw [e] at q
      have q : Rq.wrongI b.sets.length b.maps.length [] (Rq.splitI l.length l) = none ∧ r = Rq.ruleI p.toNat (Rq.splitI l.length l) := q
      rw [q.1, ← q.2]
      by_cases h4 : RULES ≤ b.rules.length
      · simp only [if_pos h4, if_pos (show 64 ≤ b.rules.length from h4)]; rfl
      · simp only [if_neg h4, if_neg (show ¬ 64 ≤ b.rules.length from h4)]; rfl
theorem step_turn (b : State) (r o : Int) (hr : 0 ≤ r) (ho : 0 ≤ o) : RsNeutral.step b [[3, r, o]] =
    match b.rules[r.toNat]? with
    | none => (b, [-1])
    | some x => if 1 < o then (b, [-1]) else (⟨b.sets, b.maps, b.rules.set r.toNat { x with on := decide (o = 1) }⟩, [0]) := by
  rw [step_eq b (call_turn r o)]
  simp only [Rs.step]
  cases e : b.rules[r.toNat]? with
  | none => rfl
  | some x =>
    simp only
    by_cases h : 1 < o
    · rw [if_pos h, if_pos (by omega)]; rfl
    · rw [if_neg h, if_neg (by omega)]
      have e1 : (o.toNat == 1) = decide (o = 1) := by
        by_cases z : o = 1
        · subst z; rfl
        · rw [decide_eq_false z]; exact beq_eq_false_iff_ne.mpr (by omega)
      rw [e1]
      rfl
theorem step_has (b : State) (r o : Int) (hr : 0 ≤ r) : RsNeutral.step b [[4, r, o]] =
    match b.sets[r.toNat]? with
    | none => (b, [-1])
    | some x => (b, [if inRanges x o.toNat = true then 1 else 0]) := by
  rw [step_eq b (call_has r o)]
  simp only [Rs.step]
  cases e : b.sets[r.toNat]? with
  | none => rfl
  | some x =>
    simp only
    cases inRanges x o.toNat <;> rfl
theorem step_look (b : State) (r o : Int) (hr : 0 ≤ r) : RsNeutral.step b [[5, r, o]] =
    match b.maps[r.toNat]? with
    | none => (b, [-1])
    | some x => (b, [(mapped x o.toNat : Int)]) := by
  rw [step_eq b (call_look r o)]
  simp only [Rs.step]
  cases e : b.maps[r.toNat]? <;> rfl
def findI (x : List (Int × Int)) (f : Int) : Nat → List Int → Nat
  | n, [] => n
  | n, c :: t => if f ≤ (n : Int) ∧ inI x c = true then n else findI x f (n + 1) t
theorem step_find (b : State) (r o : Int) (l : List Int) (hr : 0 ≤ r) : RsNeutral.step b [[6, r, o], l] =
    match b.sets[r.toNat]? with
    | none => (b, [-1])
    | some x => (b, [(((List.range l.length).find? fun (i : Nat) => decide (o.toNat ≤ i) && inRanges x ((l.map Int.toNat).getD i 0)).getD l.length : Nat)]) := by
  rw [step_eq b (call_find r o l)]
  simp only [Rs.step, List.length_map]
  cases e : b.sets[r.toNat]? <;> rfl
theorem step_apply (b : State) (p : Int) (l : List Int) (hp : 0 ≤ p) (hl : ∀ x ∈ l, 0 ≤ x) : RsNeutral.step b [[7, p], l] =
    (b, if p < 1 ∨ 64 < p then [-1] else if p < l.length then [-2] else if (l.all fun x => decide (x < 1114112)) = false then [-3] else match (Rp.passesW b p.toNat (List.range 8) (fresh (l.map Int.toNat))).2 with
      | .over u => (pointsOf u).map fun (n : Nat) => (n : Int)
      | .long => [-5]
      | .endless => [-6]) := by
  rw [step_eq b (call_apply p l)]
  simp only [Rs.step, ofText, List.length_map]
  by_cases h1 : p.toNat < 1 ∨ CAP < p.toNat
  · have h1' : p.toNat < 1 ∨ 64 < p.toNat := h1
    rw [if_pos h1, if_pos (show p < 1 ∨ 64 < p by omega)]; rfl
  · have h1' : ¬ (p.toNat < 1 ∨ 64 < p.toNat) := h1
    rw [if_neg h1, if_neg (show ¬ (p < 1 ∨ 64 < p) by omega)]
    by_cases h2 : p.toNat < l.length
    · rw [if_pos h2, if_pos (show p < l.length by omega)]; rfl
    · rw [if_neg h2, if_neg (show ¬ p < l.length by omega)]
      have e3 : ((l.map Int.toNat).all fun (c : Nat) => decide (c < POINTS)) = l.all fun x => decide (x < 1114112) := by
        rw [List.all_map]
        apply Bool.eq_iff_iff.mpr
        simp only [List.all_eq_true, Function.comp, decide_eq_true_eq, POINTS]
        exact ⟨fun h x hx => by
          have h1 : x.toNat < 1114112 := of_decide_eq_true (h x hx)
          have := hl x hx
          omega, fun h x hx => by
          have h1 := h x hx
          have := hl x hx
          exact decide_eq_true (show x.toNat < 1114112 by omega)⟩
      rw [e3]
      by_cases h3 : (l.all fun x => decide (x < 1114112)) = false
      · rw [if_pos h3, if_pos h3]; rfl
      · rw [if_neg h3, if_neg h3]
        have e4 : rewrite b p.toNat (l.map Int.toNat) = Rp.passesW b p.toNat (List.range 8) (fresh (l.map Int.toNat)) := by
          unfold rewrite
          exact Rp.passes_eq _ _ (by unfold fresh; simp; omega)
        rw [e4]
        cases (Rp.passesW b p.toNat (List.range 8) (fresh (l.map Int.toNat))).2 <;> rfl
theorem step_steps (b : State) (p : Int) (l : List Int) (hp : 0 ≤ p) (hl : ∀ x ∈ l, 0 ≤ x) : RsNeutral.step b [[8, p], l] =
    (b, if p < 1 ∨ 64 < p then [-1] else if p < l.length then [-2] else if (l.all fun x => decide (x < 1114112)) = false then [-3] else (stepNums (Rp.passesW b p.toNat (List.range 8) (fresh (l.map Int.toNat))).1).map fun (n : Nat) => (n : Int)) := by
  rw [step_eq b (call_steps p l)]
  simp only [Rs.step, ofText, List.length_map]
  by_cases h1 : p.toNat < 1 ∨ CAP < p.toNat
  · have h1' : p.toNat < 1 ∨ 64 < p.toNat := h1
    rw [if_pos h1, if_pos (show p < 1 ∨ 64 < p by omega)]; rfl
  · have h1' : ¬ (p.toNat < 1 ∨ 64 < p.toNat) := h1
    rw [if_neg h1, if_neg (show ¬ (p < 1 ∨ 64 < p) by omega)]
    by_cases h2 : p.toNat < l.length
    · rw [if_pos h2, if_pos (show p < l.length by omega)]; rfl
    · rw [if_neg h2, if_neg (show ¬ p < l.length by omega)]
      have e3 : ((l.map Int.toNat).all fun (c : Nat) => decide (c < POINTS)) = l.all fun x => decide (x < 1114112) := by
        rw [List.all_map]
        apply Bool.eq_iff_iff.mpr
        simp only [List.all_eq_true, Function.comp, decide_eq_true_eq, POINTS]
        exact ⟨fun h x hx => by
          have h1 : x.toNat < 1114112 := of_decide_eq_true (h x hx)
          have := hl x hx
          omega, fun h x hx => by
          have h1 := h x hx
          have := hl x hx
          exact decide_eq_true (show x.toNat < 1114112 by omega)⟩
      rw [e3]
      by_cases h3 : (l.all fun x => decide (x < 1114112)) = false
      · rw [if_pos h3, if_pos h3]; rfl
      · rw [if_neg h3, if_neg h3]
        have e4 : rewrite b p.toNat (l.map Int.toNat) = Rp.passesW b p.toNat (List.range 8) (fresh (l.map Int.toNat)) := by
          unfold rewrite
          exact Rp.passes_eq _ _ (by unfold fresh; simp; omega)
        rw [e4]
        rfl
end Rb
namespace Rm
open Rs Rq
def elems (k : Int) (row : List (List Int)) : List (List Int) := (row.filter fun it => decide (hd it = k)).map (·.drop 1)
def wris (row : List (List Int)) : List (List Int) := row.filter fun it => decide (3 ≤ hd it)
def resI (it : List Int) : Res := if hd it = 3 then .put (it.getD 1 0).toNat else if hd it = 4 then .copy (it.getD 1 0).toNat
  else if hd it = 5 then .mapped (it.getD 1 0).toNat (it.getD 2 0).toNat else .cursor
theorem elems_snoc (k : Int) (E : List (List Int)) (it : List Int) : elems k (E ++ [it]) = elems k E ++ if hd it = k then [it.drop 1] else [] := by
  unfold elems
  rw [List.filter_append, List.map_append]
  congr 1
  by_cases h : hd it = k
  · rw [if_pos h, List.filter_cons_of_pos (by simp [h])]; rfl
  · rw [if_neg h, List.filter_cons_of_neg (by simp [h])]; rfl
theorem wris_snoc (E : List (List Int)) (it : List Int) : wris (E ++ [it]) = wris E ++ if 3 ≤ hd it then [it] else [] := by
  unfold wris
  rw [List.filter_append]
  congr 1
  by_cases h : 3 ≤ hd it
  · rw [if_pos h, List.filter_cons_of_pos (by simp [h])]; rfl
  · rw [if_neg h, List.filter_cons_of_neg (by simp [h])]; rfl
def shapeOf (p : Nat) (row : List (List Int)) : Rule := ⟨p, (elems 0 row).map elemI, (elems 1 row).map elemI, (elems 2 row).map elemI, (wris row).map resI, true⟩
theorem ruleI_shape (p : Nat) (row : List (List Int)) (h : ∀ it ∈ row, 0 ≤ hd it ∧ hd it < 7) : ruleI p row = shapeOf p row := by
  have key : ∀ (R E : List (List Int)), row = E ++ R → ruleI p E = shapeOf p E → ruleI p row = shapeOf p row := by
    intro R
    induction R with
    | nil => intro E e i; rw [e, List.append_nil]; exact i
    | cons it R ih =>
      intro E e i
      have hm := h it (by rw [e]; simp)
      refine ih (E ++ [it]) (by rw [e, List.append_assoc]; rfl) ?_
      rw [ruleI_snoc, i]
      unfold shapeOf
      simp only [elems_snoc, wris_snoc, List.map_append]
      have hc : hd it = 0 ∨ hd it = 1 ∨ hd it = 2 ∨ hd it = 3 ∨ hd it = 4 ∨ hd it = 5 ∨ hd it = 6 := by omega
      rcases hc with e | e | e | e | e | e | e <;> simp [itemI, resI, e, Rule.with_]
  exact key row [] rfl rfl
theorem wrong_all (sets maps : Nat) : ∀ (R E : List (List Int)), wrongI sets maps E R = none → (∀ i it, R[i]? = some it → stand it (E ++ R.take i) sets maps = true) ∧ cnt (E ++ R) 1 ≠ 0
  | [], E, h => by
    unfold wrongI at h
    by_cases hc : cnt E 1 = 0
    · rw [if_pos hc] at h; cases h
    · exact ⟨fun i it e => by simp at e, by rw [List.append_nil]; exact hc⟩
  | x :: R, E, h => by
    unfold wrongI at h
    by_cases hs : stand x E sets maps = true
    · rw [if_pos hs] at h
      obtain ⟨h1, h2⟩ := wrong_all sets maps R (E ++ [x]) h
      refine ⟨fun i it e => ?_, by rw [List.append_assoc] at h2; exact h2⟩
      cases i with
      | zero =>
        have e := Option.some.inj e
        subst e
        simpa using hs
      | succ i =>
        have := h1 i it (by simpa using e)
        rw [List.append_assoc] at this
        exact this
    · rw [if_neg hs] at h; cases h
theorem stand_come {it : List Int} {E : List (List Int)} {s m : Nat} (h : stand it E s m = true) : come (hd it) E = true ∧ ¬ it.length < isz (hd it) ∧ E.length < 32 ∧ (if hd it ≤ 2 then isEl (it.drop 1) s else
    if hd it = 3 then decide (it.getD 1 0 < 1114112) else if hd it = 6 then true else if (cnt E 1 : Int) ≤ it.getD 1 0 then false else decide (hd it = 4) || decide (it.getD 2 0 < m)) = true := by
  unfold stand at h
  by_cases h1 : 32 ≤ E.length ∨ come (hd it) E = false
  · rw [if_pos h1] at h; cases h
  · rw [if_neg h1] at h
    by_cases h2 : it.length < isz (hd it)
    · rw [if_pos h2] at h; cases h
    · rw [if_neg h2] at h
      refine ⟨?_, h2, by omega, h⟩
      cases e : come (hd it) E with
      | true => rfl
      | false => exact absurd (Or.inr e) h1
theorem come_lt {k : Int} {E : List (List Int)} (h : come k E = true) : k < 7 := by
  unfold come at h
  by_cases h1 : 7 ≤ k
  · rw [if_pos h1] at h; cases h
  · omega
theorem come_cur {E : List (List Int)} (h : come 6 E = true) : cnt E 6 = 0 := by
  unfold come at h
  rw [if_neg (by omega)] at h
  by_cases h1 : (2 : Int) ≤ 6 ∧ cnt E 1 = 0
  · rw [if_pos h1] at h; cases h
  · rw [if_neg h1] at h
    by_cases h2 : (6 : Int) = 6 ∧ 0 < cnt E 6
    · rw [if_pos h2] at h; cases h
    · omega
def ElOk (ns : Nat) (e : List Int) : Prop := e.length = 5 ∧ (∀ x ∈ e, 0 ≤ x) ∧ isEl e ns = true
def WrOk (nm km : Nat) (w : List Int) : Prop := (∀ x ∈ w, 0 ≤ x) ∧ ((hd w = 3 ∧ w.length = 2) ∨ (hd w = 4 ∧ w.length = 2 ∧ w.getD 1 0 < km) ∨ (hd w = 5 ∧ w.length = 3 ∧ w.getD 1 0 < km ∧ w.getD 2 0 < nm) ∨ (hd w = 6 ∧ w.length = 1))
structure RowOk (ns nm : Nat) (row : List (List Int)) : Prop where
  el : ∀ k, k ≤ 2 → ∀ e ∈ elems k row, ElOk ns e
  wr : ∀ w ∈ wris row, WrOk nm (elems 1 row).length w
  cur : ((wris row).filter fun it => decide (hd it = 6)).length ≤ 1
  few : (elems 1 row).length ≤ 32 ∧ (elems 0 row).length ≤ 32 ∧ (elems 2 row).length ≤ 32 ∧ (wris row).length ≤ 32
  hds : ∀ it ∈ row, 0 ≤ hd it ∧ hd it < 7
theorem cnt_take (row : List (List Int)) (i : Nat) (k : Int) : cnt (row.take i) k ≤ cnt row k := by
  conv => rhs; rw [← List.take_append_drop i row]
  unfold cnt
  rw [List.filter_append, List.length_append]
  omega
theorem elems_len (k : Int) (row : List (List Int)) : (elems k row).length = cnt row k := by
  unfold elems cnt
  rw [List.length_map]
theorem isz_le (k : Int) : isz k ≤ 6 := by
  unfold isz
  split
  · omega
  · split
    · omega
    · split <;> omega
theorem splitW_item : ∀ (n : Nat) (l : List Int), l.length ≤ n → ∀ it ∈ splitW l, it.length ≤ isz (hd it)
  | 0, l, hn, it, hit => by
    have e : l = [] := List.length_eq_zero_iff.mp (by omega)
    subst e
    cases hit
  | n + 1, [], hn, it, hit => by cases hit
  | n + 1, k :: r, hn, it, hit => by
    by_cases h : 7 ≤ k
    · rw [splitW_big r h] at hit
      have e := List.mem_singleton.mp hit
      subst e
      show 1 ≤ isz k
      exact isz_pos k
    · rw [splitW_cons r h] at hit
      rcases List.mem_cons.mp hit with e | hit
      · subst e
        have hp := isz_pos k
        obtain ⟨m, hm⟩ : ∃ m, isz k = m + 1 := ⟨isz k - 1, by omega⟩
        rw [hm, List.take_succ_cons]
        show _ ≤ isz k
        rw [List.length_cons, List.length_take]
        omega
      · exact splitW_item n _ (by rw [List.length_drop]; have := isz_pos k; simp only [List.length_cons] at hn ⊢; omega) it hit
theorem row_ok {ns nm : Nat} {l : List Int} (hl : ∀ x ∈ l, 0 ≤ x) (h : wrongI ns nm [] (splitW l) = none) : RowOk ns nm (splitW l) := by
  obtain ⟨h1, h2⟩ := wrong_all ns nm _ _ h
  have hmem : ∀ it ∈ splitW l, ∀ x ∈ it, 0 ≤ x := fun it hit x hx => hl x (splitW_mem _ l (Nat.le_refl _) it hit x hx)
  have hne := splitW_ne _ l (Nat.le_refl _)
  have hlen := splitW_item _ l (Nat.le_refl _)
  have hst : ∀ it ∈ splitW l, ∃ i, stand it ((splitW l).take i) ns nm = true := fun it hit => by
    obtain ⟨i, hi⟩ := List.getElem?_of_mem hit
    exact ⟨i, by simpa using h1 i it hi⟩
  have hhd : ∀ it ∈ splitW l, 0 ≤ hd it ∧ hd it < 7 := fun it hit => by
    obtain ⟨i, hs⟩ := hst it hit
    refine ⟨?_, come_lt (stand_come hs).1⟩
    obtain ⟨y, r, rfl⟩ := List.exists_cons_of_ne_nil (hne it hit)
    exact hmem _ hit y (by simp)
  have h32 : (splitW l).length ≤ 32 := by
    by_cases hz : (splitW l).length = 0
    · omega
    · obtain ⟨it, hit⟩ : ∃ it, (splitW l)[(splitW l).length - 1]? = some it := ⟨_, List.getElem?_eq_getElem (by omega)⟩
      have := (stand_come (by simpa using h1 _ it hit)).2.2.1
      rw [List.length_take] at this
      omega
  refine ⟨fun k hk e he => ?_, fun w hw => ?_, ?_, ?_, hhd⟩
  · unfold elems at he
    obtain ⟨it, hit, rfl⟩ := List.mem_map.mp he
    obtain ⟨hit, hk2⟩ := List.mem_filter.mp hit
    have hk2 : hd it = k := of_decide_eq_true hk2
    obtain ⟨i, hs⟩ := hst it hit
    obtain ⟨_, h4, _, h5⟩ := stand_come hs
    rw [if_pos (by omega)] at h5
    have h6 := hlen it hit
    have hz : isz (hd it) = 6 := by unfold isz; rw [if_pos (by omega)]
    refine ⟨by rw [List.length_drop]; omega, fun x hx => hmem it hit x (List.mem_of_mem_drop hx), h5⟩
  · unfold wris at hw
    obtain ⟨hit, hk⟩ := List.mem_filter.mp hw
    have hk : 3 ≤ hd w := of_decide_eq_true hk
    obtain ⟨i, hs⟩ := hst w hit
    obtain ⟨_, h4, _, h5⟩ := stand_come hs
    have h6 := hlen w hit
    have h7 := (hhd w hit).2
    have hcn : cnt ((splitW l).take i) 1 ≤ (elems 1 (splitW l)).length := by rw [elems_len]; exact cnt_take _ _ _
    rw [if_neg (by omega)] at h5
    refine ⟨fun x hx => hmem w hit x hx, ?_⟩
    have hc : hd w = 3 ∨ hd w = 4 ∨ hd w = 5 ∨ hd w = 6 := by omega
    rcases hc with e | e | e | e
    · have hz : isz (hd w) = 2 := by rw [e]; rfl
      exact .inl ⟨e, by omega⟩
    · have hz : isz (hd w) = 2 := by rw [e]; rfl
      rw [if_neg (by omega), if_neg (by omega)] at h5
      by_cases hq : (cnt ((splitW l).take i) 1 : Int) ≤ w.getD 1 0
      · rw [if_pos hq] at h5; cases h5
      · exact .inr (.inl ⟨e, by omega, by omega⟩)
    · have hz : isz (hd w) = 3 := by rw [e]; rfl
      rw [if_neg (by omega), if_neg (by omega)] at h5
      by_cases hq : (cnt ((splitW l).take i) 1 : Int) ≤ w.getD 1 0
      · rw [if_pos hq] at h5; cases h5
      · rw [if_neg hq, decide_eq_false (by omega), Bool.false_or] at h5
        exact .inr (.inr (.inl ⟨e, by omega, by omega, of_decide_eq_true h5⟩))
    · have hz : isz (hd w) = 1 := by rw [e]; rfl
      exact .inr (.inr (.inr ⟨e, by omega⟩))
  · have e : ((wris (splitW l)).filter fun it => decide (hd it = 6)) = (splitW l).filter fun it => decide (hd it = 6) := by
      unfold wris
      rw [List.filter_filter]
      refine List.filter_congr fun it _ => ?_
      by_cases q : hd it = 6
      · simp [q]
      · simp [q]
    rw [e]
    have key : ∀ i, i ≤ (splitW l).length → cnt ((splitW l).take i) 6 ≤ 1 := by
      intro i
      induction i with
      | zero => intro _; exact Nat.zero_le _
      | succ i ih =>
        intro hi
        have ih := ih (by omega)
        obtain ⟨it, hit⟩ : ∃ it, (splitW l)[i]? = some it := ⟨_, List.getElem?_eq_getElem (by omega)⟩
        have hs := (stand_come (by simpa using h1 i it hit)).1
        rw [List.take_add_one, hit]
        show cnt ((splitW l).take i ++ [it]) 6 ≤ 1
        rw [cnt_snoc]
        by_cases q : hd it = 6
        · rw [q] at hs
          have := come_cur hs
          rw [if_pos q]
          omega
        · rw [if_neg q]
          omega
    have := key _ (Nat.le_refl _)
    rw [List.take_length] at this
    exact this
  · have he : ∀ k, (elems k (splitW l)).length ≤ 32 := fun k => by
      unfold elems
      rw [List.length_map]
      exact Nat.le_trans (List.length_filter_le _ _) h32
    exact ⟨he 1, he 0, he 2, Nat.le_trans (List.length_filter_le _ _) h32⟩
theorem ElOk.mono {a b : Nat} (h : a ≤ b) {e : List Int} (q : ElOk a e) : ElOk b e := by
  obtain ⟨h1, h2, h3⟩ := q
  refine ⟨h1, h2, ?_⟩
  unfold isEl at h3 ⊢
  by_cases c1 : 1 < e.getD 2 0 ∨ bounds (e.getD 3 0) (e.getD 4 0) = false
  · rw [if_pos c1] at h3; cases h3
  · rw [if_neg c1] at h3 ⊢
    by_cases c2 : e.getD 0 0 = 0
    · rw [if_pos c2] at h3 ⊢; exact h3
    · rw [if_neg c2] at h3 ⊢
      by_cases c3 : e.getD 0 0 = 1
      · rw [if_pos c3] at h3 ⊢
        have := of_decide_eq_true h3
        exact decide_eq_true (by omega)
      · rw [if_neg c3] at h3 ⊢; exact h3
theorem WrOk.mono {a b k : Nat} (h : a ≤ b) {w : List Int} (q : WrOk a k w) : WrOk b k w := by
  obtain ⟨h1, h2⟩ := q
  refine ⟨h1, ?_⟩
  rcases h2 with h2 | h2 | ⟨h2, h3, h4, h5⟩ | h2
  · exact .inl h2
  · exact .inr (.inl h2)
  · exact .inr (.inr (.inl ⟨h2, h3, h4, by omega⟩))
  · exact .inr (.inr (.inr h2))
def bnds (s : Nat) : List Nat → List Int
  | [] => [(s : Int)]
  | k :: ks => (s : Int) :: bnds (s + k) ks
theorem bnds_len : ∀ (s : Nat) (ks : List Nat), (bnds s ks).length = ks.length + 1
  | _, [] => rfl
  | s, k :: ks => by simp [bnds, bnds_len (s + k) ks]
theorem bnds_get : ∀ (s : Nat) (ks : List Nat) (i : Nat), i ≤ ks.length → (bnds s ks)[i]? = some ((s + (ks.take i).sum : Nat) : Int)
  | s, [], i, h => by
    have e : i = 0 := by simpa using h
    subst e
    simp [bnds]
  | s, k :: ks, 0, _ => by simp [bnds]
  | s, k :: ks, i + 1, h => by
    have := bnds_get (s + k) ks i (by simpa using h)
    simp only [bnds, List.getElem?_cons_succ, this, List.take_succ_cons, List.sum_cons]
    rw [Nat.add_assoc]
theorem bnds_snoc : ∀ (s : Nat) (ks : List Nat) (k : Nat), bnds s (ks ++ [k]) = bnds s ks ++ [((s + ks.sum + k : Nat) : Int)]
  | s, [], k => by simp [bnds]
  | s, j :: ks, k => by
    simp only [List.cons_append, bnds, bnds_snoc (s + j) ks k, List.sum_cons]
    rw [show s + j + ks.sum + k = s + (j + ks.sum) + k by omega]
theorem bnds_last (s : Nat) (ks : List Nat) : (bnds s ks)[(bnds s ks).length - 1]? = some ((s + ks.sum : Nat) : Int) := by
  rw [bnds_len, Nat.add_sub_cancel, bnds_get s ks _ (Nat.le_refl _), List.take_length]
theorem took_le {sets : List Ranges} {e : Elem} {l : Text} {k : Nat} (h : took sets e l = some k) : k ≤ l.length := by
  unfold took at h
  have ht : (l.takeWhile fun (x : P) => isOf sets e x.c).length ≤ l.length := (List.takeWhile_prefix _).length_le
  simp only at h
  cases em : e.most with
  | none =>
    simp only [em] at h
    split at h
    · cases h
    · cases h; exact ht
  | some m =>
    simp only [em] at h
    split at h
    · cases h
    · cases h; omega
theorem tookAll_le {sets : List Ranges} : ∀ {es : List Elem} {l : Text} {ks : List Nat}, tookAll sets es l = some ks → ks.sum ≤ l.length ∧ ks.length = es.length
  | [], l, ks, h => by
    have e := Option.some.inj h
    subst e
    simp
  | e :: es, l, ks, h => by
    unfold tookAll at h
    cases hk : took sets e l with
    | none => rw [hk] at h; cases h
    | some k =>
      rw [hk] at h
      cases hr : tookAll sets es (l.drop k) with
      | none => simp [hr] at h
      | some r =>
        simp only [hr, Option.map_some] at h
        have e2 := Option.some.inj h
        subst e2
        obtain ⟨h1, h2⟩ := tookAll_le hr
        have h3 := took_le hk
        rw [List.length_drop] at h1
        simp only [List.sum_cons, List.length_cons]
        omega
theorem tookAll_snoc {sets : List Ranges} : ∀ (es : List Elem) (e : Elem) (l : Text), tookAll sets (es ++ [e]) l = match tookAll sets es l with
    | some ks => (match took sets e (l.drop ks.sum) with
      | some k => some (ks ++ [k])
      | none => none)
    | none => none
  | [], e, l => by
    show tookAll sets [e] l = _
    unfold tookAll
    simp only [tookAll, List.sum_nil, List.drop_zero]
    cases took sets e l <;> rfl
  | d :: es, e, l => by
    rw [List.cons_append]
    conv => lhs; unfold tookAll
    conv => rhs; unfold tookAll
    cases hk : took sets d l with
    | none => rfl
    | some k =>
      simp only
      rw [tookAll_snoc es e (l.drop k)]
      cases hr : tookAll sets es (l.drop k) with
      | none => rfl
      | some r =>
        simp only [Option.map_some, List.sum_cons, List.drop_drop]
        cases took sets e (l.drop (k + r.sum)) <;> rfl
theorem tookAll_none {sets : List Ranges} : ∀ (es fs : List Elem) (l : Text), tookAll sets es l = none → tookAll sets (es ++ fs) l = none
  | [], fs, l, h => by cases h
  | e :: es, fs, l, h => by
    rw [List.cons_append]
    unfold tookAll at h ⊢
    cases hk : took sets e l with
    | none => rfl
    | some k =>
      rw [hk] at h
      simp only at h ⊢
      cases hr : tookAll sets es (l.drop k) with
      | none => rw [tookAll_none es fs _ hr]; rfl
      | some r => rw [hr] at h; cases h
theorem fits_le {sets : List Ranges} {r : Rule} {x : Cur} {ks : List Nat} (h : fits sets r x = some ks) : ks.sum ≤ x.right.length ∧ ks.length = r.takes.length := by
  unfold fits at h
  cases hk : tookAll sets r.takes x.right with
  | none => rw [hk] at h; cases h
  | some k =>
    rw [hk] at h
    simp only at h
    split at h
    · cases h; exact tookAll_le hk
    · cases h
def allP (bs : List (Option (List Nat))) : List Nat := bs.flatMap fun b => b.getD []
theorem front_back : ∀ bs : List (Option (List Nat)), front bs ++ back bs = allP bs
  | [] => rfl
  | some l :: r => by
    show (l ++ front r) ++ back r = _
    rw [List.append_assoc, front_back r]
    rfl
  | none :: r => by
    show [] ++ r.flatMap _ = _
    rfl
theorem front_no : ∀ bs : List (Option (List Nat)), (∀ b ∈ bs, b ≠ none) → front bs = allP bs
  | [], _ => rfl
  | some l :: r, h => by
    show l ++ front r = _
    rw [front_no r fun b hb => h b (by simp [hb])]
    rfl
  | none :: r, h => absurd rfl (h none (by simp))
theorem front_cur : ∀ (a r : List (Option (List Nat))), (∀ b ∈ a, b ≠ none) → front (a ++ none :: r) = allP a
  | [], r, _ => rfl
  | some l :: a, r, h => by
    show l ++ front (a ++ none :: r) = _
    rw [front_cur a r fun b hb => h b (by simp [hb])]
    rfl
  | none :: a, r, h => absurd rfl (h none (by simp))
theorem allP_snoc (bs : List (Option (List Nat))) (b : Option (List Nat)) : allP (bs ++ [b]) = allP bs ++ b.getD [] := by
  unfold allP
  rw [List.flatMap_append]
  simp
theorem least_fold : ∀ (l : Text) (n : Nat), l.foldl (fun (n : Nat) (x : P) => min n x.from_) n ≤ n ∧ (∀ x ∈ l, l.foldl (fun (n : Nat) (x : P) => min n x.from_) n ≤ x.from_) ∧ (l.foldl (fun (n : Nat) (x : P) => min n x.from_) n = n ∨ ∃ x ∈ l, x.from_ = l.foldl (fun (n : Nat) (x : P) => min n x.from_) n)
  | [], n => ⟨Nat.le_refl _, by simp, .inl rfl⟩
  | y :: l, n => by
    obtain ⟨h1, h2, h3⟩ := least_fold l (min n y.from_)
    rw [List.foldl_cons]
    refine ⟨by omega, fun x hx => ?_, ?_⟩
    · rcases List.mem_cons.mp hx with rfl | hx
      · omega
      · exact h2 x hx
    · rcases h3 with h3 | ⟨x, hx, e⟩
      · rw [h3]
        by_cases hm : n ≤ y.from_
        · exact .inl (by omega)
        · exact .inr ⟨y, by simp, by omega⟩
      · exact .inr ⟨x, by simp [hx], e⟩
theorem leastFrom_eq {l : Text} {m : Nat} (hm : ∃ x ∈ l, x.from_ = m) (hle : ∀ x ∈ l, m ≤ x.from_) : leastFrom l = m := by
  obtain ⟨x, hx, e⟩ := hm
  cases l with
  | nil => cases hx
  | cons y l =>
    have h := least_fold (y :: l) y.from_
    have e2 : leastFrom (y :: l) = (y :: l).foldl (fun (n : Nat) (x : P) => min n x.from_) y.from_ := rfl
    rw [e2]
    obtain ⟨_, h2, h3⟩ := h
    have h4 := h2 x hx
    rcases h3 with h3 | ⟨z, hz, e3⟩
    · have := hle y (by simp); omega
    · have := hle z hz; omega
theorem great_fold : ∀ (l : Text) (n : Nat), n ≤ l.foldl (fun (n : Nat) (x : P) => max n x.to) n ∧ (∀ x ∈ l, x.to ≤ l.foldl (fun (n : Nat) (x : P) => max n x.to) n) ∧ (l.foldl (fun (n : Nat) (x : P) => max n x.to) n = n ∨ ∃ x ∈ l, x.to = l.foldl (fun (n : Nat) (x : P) => max n x.to) n)
  | [], n => ⟨Nat.le_refl _, by simp, .inl rfl⟩
  | y :: l, n => by
    obtain ⟨h1, h2, h3⟩ := great_fold l (max n y.to)
    rw [List.foldl_cons]
    refine ⟨by omega, fun x hx => ?_, ?_⟩
    · rcases List.mem_cons.mp hx with rfl | hx
      · omega
      · exact h2 x hx
    · rcases h3 with h3 | ⟨x, hx, e⟩
      · rw [h3]
        by_cases hm : y.to ≤ n
        · exact .inl (by omega)
        · exact .inr ⟨y, by simp, by omega⟩
      · exact .inr ⟨x, by simp [hx], e⟩
theorem greatestTo_eq {l : Text} {m : Nat} (hm : ∃ x ∈ l, x.to = m) (hle : ∀ x ∈ l, x.to ≤ m) : greatestTo l = m := by
  obtain ⟨x, hx, e⟩ := hm
  obtain ⟨_, h2, h3⟩ := great_fold l 0
  have e2 : greatestTo l = l.foldl (fun (n : Nat) (x : P) => max n x.to) 0 := rfl
  rw [e2]
  have h4 := h2 x hx
  rcases h3 with h3 | ⟨z, hz, e3⟩
  · omega
  · have := hle z hz; omega
theorem rulesOf_eq (b : Book) (p : Nat) (d : Rule) : rulesOf b p = ((List.range b.rules.length).filter fun i => (b.rules.getD i d).on && (b.rules.getD i d).pass == p).map fun i => (i, b.rules.getD i d) := by
  unfold rulesOf
  have e : b.rules.zipIdx = (List.range b.rules.length).map fun i => (b.rules.getD i d, i) := by
    apply List.ext_getElem?
    intro i
    rw [List.getElem?_zipIdx, List.getElem?_map]
    by_cases h : i < b.rules.length
    · rw [List.getElem?_range h, List.getElem?_eq_getElem h]
      simp [h]
    · rw [List.getElem?_eq_none (by simpa using h), List.getElem?_eq_none (by simpa using h)]
      rfl
  rw [e, List.filter_map, List.map_map]
  rfl
end Rm
namespace Rm
open Rs Rq
theorem tw_step {α : Type} {p : α → Bool} : ∀ {l : List α} {j : Nat} {x : α}, j ≤ (l.takeWhile p).length → l[j]? = some x → p x = true → j + 1 ≤ (l.takeWhile p).length
  | [], j, x, _, h, _ => by simp at h
  | a :: l, 0, x, _, h, hp => by
    have e := Option.some.inj h
    subst e
    rw [List.takeWhile_cons_of_pos hp]
    simp
  | a :: l, j + 1, x, hj, h, hp => by
    by_cases ha : p a = true
    · rw [List.takeWhile_cons_of_pos ha] at hj ⊢
      simp only [List.length_cons] at hj ⊢
      have := tw_step (l := l) (j := j) (by omega) (by simpa using h) hp
      omega
    · rw [List.takeWhile_cons_of_neg ha] at hj
      simp at hj
theorem tw_stop {α : Type} {p : α → Bool} : ∀ {l : List α} {j : Nat} {x : α}, j ≤ (l.takeWhile p).length → l[j]? = some x → p x = false → (l.takeWhile p).length = j
  | [], j, x, _, h, _ => by simp at h
  | a :: l, 0, x, _, h, hp => by
    have e := Option.some.inj h
    subst e
    rw [List.takeWhile_cons_of_neg (by rw [hp]; decide)]
    rfl
  | a :: l, j + 1, x, hj, h, hp => by
    by_cases ha : p a = true
    · rw [List.takeWhile_cons_of_pos ha] at hj ⊢
      simp only [List.length_cons] at hj ⊢
      have := tw_stop (l := l) (j := j) (by omega) (by simpa using h) hp
      omega
    · rw [List.takeWhile_cons_of_neg ha] at hj
      simp at hj
def allOf (sets : List Ranges) (e : Elem) (l : Text) : Nat := (l.takeWhile fun (x : P) => isOf sets e x.c).length
theorem allOf_le (sets : List Ranges) (e : Elem) (l : Text) : allOf sets e l ≤ l.length := (List.takeWhile_prefix _).length_le
theorem took_end {sets : List Ranges} {e : Elem} {t : Text} {st j bound : Nat} (hst : st ≤ t.length) (hb : bound = match e.most with
      | none => t.length
      | some m => min t.length (st + m)) (hj : j ≤ allOf sets e (t.drop st)) (hjb : st + j ≤ bound) (hend : st + j = bound ∨ allOf sets e (t.drop st) = j) : took sets e (t.drop st) = if j < e.least then none else some j := by
  have hle := allOf_le sets e (t.drop st)
  rw [List.length_drop] at hle
  have e1 : took sets e (t.drop st) = if (match e.most with
      | some m => min m (allOf sets e (t.drop st))
      | none => allOf sets e (t.drop st)) < e.least then none else some (match e.most with
      | some m => min m (allOf sets e (t.drop st))
      | none => allOf sets e (t.drop st)) := rfl
  rw [e1]
  cases em : e.most with
  | none =>
    rw [em] at hb
    simp only at hb ⊢
    have : allOf sets e (t.drop st) = j := by
      rcases hend with h | h
      · omega
      · exact h
    rw [this]
  | some m =>
    rw [em] at hb
    simp only at hb ⊢
    have : min m (allOf sets e (t.drop st)) = j := by
      rcases hend with h | h
      · omega
      · omega
    rw [this]
theorem isEl_cases {o b u v w : Int} {ns : Nat} (h : isEl [o, b, u, v, w] ns = true) : u ≤ 1 ∧ v ≤ 62 ∧ 1 ≤ w ∧ w ≤ 63 ∧ v ≤ w ∧ (o = 0 ∨ (o = 1 ∧ b < ns) ∨ (o = 2 ∧ b = 0 ∧ u = 0)) := by
  unfold isEl at h
  simp only [List.getD_cons_zero, List.getD_cons_succ] at h
  by_cases h1 : 1 < u ∨ bounds v w = false
  · rw [if_pos h1] at h; cases h
  · rw [if_neg h1] at h
    have hb : bounds v w = true := by
      cases e : bounds v w with
      | true => rfl
      | false => exact absurd (Or.inr e) h1
    unfold bounds at hb
    simp only [Bool.and_eq_true, decide_eq_true_eq] at hb
    refine ⟨by omega, by omega, by omega, by omega, by omega, ?_⟩
    by_cases h2 : o = 0
    · exact .inl h2
    · rw [if_neg h2] at h
      by_cases h3 : o = 1
      · rw [if_pos h3] at h
        exact .inr (.inl ⟨h3, of_decide_eq_true h⟩)
      · rw [if_neg h3] at h
        simp only [Bool.and_eq_true, decide_eq_true_eq] at h
        exact .inr (.inr ⟨h.1.1, h.1.2, h.2⟩)
theorem first_cons (b : Book) (x : Cur) (q : Nat × Rule) (l : List (Nat × Rule)) : first b x (q :: l) = match fits b.sets q.2 x with
    | some ks => some (q.1, q.2, ks)
    | none => first b x l := rfl
theorem first_snoc (b : Book) (x : Cur) : ∀ (l r : List (Nat × Rule)), first b x l = none → first b x (l ++ r) = first b x r
  | [], r, _ => rfl
  | q :: l, r, h => by
    rw [List.cons_append, first_cons]
    rw [first_cons] at h
    cases e : fits b.sets q.2 x with
    | some ks => rw [e] at h; cases h
    | none =>
      rw [e] at h
      exact first_snoc b x l r h
end Rm
section
set_option maxHeartbeats 4000000
namespace Re
open PySem PySem.Spec PyProof.Rows L2
structure Cal (P : Program) (w : World) (K : PySem.W.Frag) (mg : Str → Option Value) (base : Heap) (k : Nat) (x : Str) (ps : List Str) (sp : Sp) : Prop where
  ex : ∃ f fd, mg x = some (.ref f) ∧ PySem.W.keepIn K (.ref f) = true ∧ Binds K fd ps [] ∧ FnOk P w K mg base CX0 k f fd ps sp
structure Mth (P : Program) (w : World) (K : PySem.W.Frag) (mg : Str → Option Value) (base : Heap) (k : Nat) (C : Addr) (m : Str) (ps : List Str) (sp : Sp) : Prop where
  cl : Cls K C
  ex : ∃ f fd, Meth K C m f ∧ Binds K fd ps [] ∧ FnOk P w K mg base CX0 k f fd ps sp
structure Mkr (P : Program) (w : World) (K : PySem.W.Frag) (mg : Str → Option Value) (base : Heap) (k : Nat) (x : Str) (C : Addr) (ps : List Str) (sp : Sp) : Prop where
  ex : ∃ f fd, mg x = some (.ref C) ∧ Mk K C f ∧ Binds K fd ps [] ∧ FnOk P w K mg base CX0 k f fd ps sp
section
variable {X : Cx} {k n : Nat} {x m : Str} {ps : List Str} {sp : Sp} {e o : Expr} {es : List Expr} {t : TA} {ta : TE} {p pos apos : Pos} {C : Addr}
theorem pe_fun (c : Cal X.prog X.w X.K X.mg X.base k x ps sp) (hr : Room n X.A) (ha : PA X (e :: es) t) (hk : k ≤ n := by decide) (hg : Gl X x := by rfl) (hdb : (x == ("__debug__" : Str)) = false := by decide)
    (he : starEach (e :: es) X.env = (false, eval e X.env) :: starEach es X.env := by rfl) (hpl : (backTo pos (starEach es X.env)).any (·.1) = false := by rfl) : PE X (.Call (.Name x p) (e :: es) [] pos) (tCall sp [] E0 t) := by
  obtain ⟨f, fd, h1, h2, h3, h4⟩ := c.ex
  exact pe_call h4 (hr.mono hk) hg h1 h2 h3 .nil pass0 ha hdb he hpl
theorem pe_mt {pl : Sem Bool} (he : PE X o ta) (c : Mth X.prog X.w X.K X.mg X.base k C m ps sp) (hr : Room n X.A) (ha : PA X (e :: es) t) (hk : k ≤ n := by decide)
    (hst : starEach (e :: es) X.env = (false, eval e X.env) :: starEach es X.env := by rfl) (hpl : (backTo pos (starEach es X.env)).any (·.1) = false := by rfl)
    (ht : eval (.Call (.Attribute o m apos) (e :: es) [] pos) X.env = (do
      let ov ← eval o X.env
      standAt apos.atName
      let (f, first) ← holding [ov] (getMethod ov m pl)
      callWith pos f first (backTo pos (starEach (e :: es) X.env)) (backToKw pos (keywordEach [] X.env))) := by rfl) :
    PE X (.Call (.Attribute o m apos) (e :: es) [] pos) (tMeth C m sp [] E0 ta t) := by
  obtain ⟨f, fd, h1, h2, h3⟩ := c.ex
  exact pe_meth he c.cl h1 h3 (hr.mono hk) h2 .nil pass0 ha hst hpl ht
theorem pe_mt0 {pl : Sem Bool} (he : PE X o ta) (c : Mth X.prog X.w X.K X.mg X.base k C m ps sp) (hr : Room n X.A) (hk : k ≤ n := by decide)
    (ht : eval (.Call (.Attribute o m apos) [] [] pos) X.env = (do
      let ov ← eval o X.env
      standAt apos.atName
      let (f, first) ← holding [ov] (getMethod ov m pl)
      callWith pos f first (backTo pos (starEach [] X.env)) (backToKw pos (keywordEach [] X.env))) := by rfl) :
    PE X (.Call (.Attribute o m apos) [] [] pos) (tMeth C m sp [] E0 ta tNil) := by
  obtain ⟨f, fd, h1, h2, h3⟩ := c.ex
  exact pe_meth0 he c.cl h1 h3 (hr.mono hk) h2 .nil pass0 ht
theorem pe_new (c : Mkr X.prog X.w X.K X.mg X.base k x C ps sp) (hr : Room n X.A) (ha : PA X (e :: es) t) (hk : k + 1 ≤ n := by decide) (hg : Gl X x := by rfl) (hdb : (x == ("__debug__" : Str)) = false := by decide)
    (he : starEach (e :: es) X.env = (false, eval e X.env) :: starEach es X.env := by rfl) (hpl : (backTo pos (starEach es X.env)).any (·.1) = false := by rfl) : PE X (.Call (.Name x p) (e :: es) [] pos) (tMake C sp [] E0 t) := by
  obtain ⟨f, fd, h1, h2, h3, h4⟩ := c.ex
  exact pe_make h2 h4 (hr.mono hk) hg h1 h3 .nil pass0 ha hdb he hpl
theorem pe_new0 (c : Mkr X.prog X.w X.K X.mg X.base k x C ps sp) (hr : Room n X.A) (hk : k + 1 ≤ n := by decide) (hg : Gl X x := by rfl) (hdb : (x == ("__debug__" : Str)) = false := by decide) : PE X (.Call (.Name x p) [] [] pos) (tMake C sp [] E0 tNil) := by
  obtain ⟨f, fd, h1, h2, h3, h4⟩ := c.ex
  exact pe_make0 h2 h4 (hr.mono hk) hg h1 h3 .nil pass0 hdb
theorem pg_tupK {K : PySem.W.Frag} {ex : List Expr} {kk : Nat} {tg : TGs} {nn : Nat} (hK : X.K = K) (hc : X.calm = true) (h : PGs X ex tg) (hn : (assignEach ex X.env).length = nn := by rfl) (hst : (assignEach ex X.env).findIdx? (·.1) = none := by rfl) : PG X (.Tuple ex kk pos) (gTup K nn tg) := by
  rw [← hK]
  exact pg_tup hc h hn hst
theorem pe_fldK {K : PySem.W.Frag} {fl : Str} (hK : X.K = K) (he : PE X e ta) (hb : attributeBase e fl X.env (eval e X.env) = eval e X.env) : PE X (.Attribute e fl pos) (tFld K ta fl) := by
  rw [← hK]
  exact pe_fld he hb
theorem pi_listK {K : PySem.W.Frag} {tg l : Expr} {tl : TE} (hK : X.K = K) (hl : PE X l tl) : PI X tg l (iList K tl) := by
  rw [← hK]
  exact pi_list hl
theorem pi_enumK {K : PySem.W.Frag} {tpos : Pos} {elts : List Expr} {kk : Nat} (hK : X.K = K) (hg : Gl X "enumerate") (hm : X.mg "enumerate" = none) (ha : PA X [e] t) (hs : starEach [e] X.env = [(false, eval e X.env)] := by rfl) :
    PI X (.Tuple elts kk tpos) (.Call (.Name "enumerate" p) [e] [] pos) (iEnum K t) := by
  rw [← hK]
  exact pi_enum hg hm ha hs
theorem ps_fldK {K : PySem.W.Frag} {fl : Str} {value : Expr} {tv : TE} {pos' : Pos} (hK : X.K = K) (ha : PE X o ta) (hv : PE X value tv) (hs : swapsWith value (some (.Attribute o fl pos')) pos.line X.env = pure false) : PS X (.Assign [.Attribute o fl pos'] value pos) (sFld K ta tv fl) := by
  rw [← hK]
  exact ps_fld ha hv hs
theorem ps_fldaugK {K : PySem.W.Frag} {fl : Str} {value : Expr} {tv : TE} {tpos : Pos} {op : Operator} {rd : V → V → Hp → VK → Prop} (hK : X.K = K) (ha : PE X o ta) (hv : PE X value tv) (hop : InOp X op rd) : PS X (.AugAssign (.Attribute o fl tpos) op value pos) (sFldAug K ta tv rd fl) := by
  rw [← hK]
  exact ps_fldaug ha hv hop
theorem pe_bmK {K : PySem.W.Frag} {Ty name id : String} {r : V → List V → Hp → VK → Prop} {cpos : Pos} (hK : X.K = K) (pa : PlainAttrs Ty) (slot : Slot Ty name id) (hty : typeOf (.builtin id) = pure (.type "method_descriptor")) (hm : MtR X id r) (ho : PE X o ta) (ha : PA X (e :: es) t)
    (hbase : attributeBase o name X.env (eval o X.env) = eval o X.env := by rfl)
    (hfew : ((backTo cpos (starEach (e :: es) X.env)).all (fun x => !x.1) && (backToKw cpos (keywordEach [] X.env)).all (fun x => x.1.isSome)
      && decide ((e :: es).length + ([] : List Keyword).length + (if ([] : List Keyword).isEmpty then 0 else 1) < 30)) = true := by rfl)
    (hline : (apos.endLine == cpos.line) = true := by rfl) (hs : starEach (e :: es) X.env = (false, eval e X.env) :: starEach es X.env := by rfl) (hplain : (backTo cpos (starEach es X.env)).any (·.1) = false := by rfl) :
    PE X (.Call (.Attribute o name apos) (e :: es) [] cpos) (tBM K Ty r ta t) := by
  rw [← hK]
  exact pe_bm pa slot hty hm ho ha hbase hfew hline hs hplain
theorem pe_gi {i : Int} (h : ∃ tk, X.mg x = some (.int i tk)) (hg : Gl X x := by rfl) (hd : (x == ("__debug__" : Str)) = false := by decide) : PE X (.Name x pos) (tC (.int i)) := by
  obtain ⟨tk, h⟩ := h
  exact pe_glob hg h ⟨tk, rfl⟩ hd
theorem pe_gr {a : Addr} (h : X.mg x = some (.ref a)) (hg : Gl X x := by rfl) (hd : (x == ("__debug__" : Str)) = false := by decide) : PE X (.Name x pos) (tC (.ref a)) := pe_glob hg h rfl hd
end
def rLenS (K : PySem.W.Frag) : List V → Hp → VK → Prop := fun xs H Q => ∃ p ys, xs = [.ref p] ∧ (SqL K H p ys ∨ SqT K H p ys) ∧ Q (.int ys.length) H
def rTupS (K : PySem.W.Frag) : List V → Hp → VK → Prop := fun xs H Q => ∃ p ys, xs = [.ref p] ∧ ((SqL K H p ys ∧ ∀ l, H l = none → Q (.ref l) (upd H l (.tup ys))) ∨ (SqT K H p ys ∧ Q (.ref p) H))
def rLstS (K : PySem.W.Frag) : List V → Hp → VK → Prop := fun xs H Q => ∃ p ys, xs = [.ref p] ∧ (SqL K H p ys ∨ SqT K H p ys) ∧ ∀ l, H l = none → Q (.ref l) (upd H l (.lst ys))
def rDctP (K : PySem.W.Frag) : List V → Hp → VK → Prop := fun xs H Q => ∃ (a : Addr) (ps : List Addr) (kvs : List (Key × V)), xs = [.ref a] ∧ SqL K H a (ps.map V.ref) ∧ Paired (fun p kv => SqT K H p [kV kv.1, kv.2]) ps kvs ∧
    ∀ p, H p = none → Q (.ref p) (upd H p (.dK (mergeK [] kvs)))
theorem scal_ii (a b : Int) : scal (.int a) (.int b) = true := rfl
theorem scal_bb (a b : Bool) : scal (.bl a) (.bl b) = true := rfl
theorem ref_at {ts : List Addr} {i : Nat} {x : V} (h : (ts.map V.ref)[i]? = some x) : ∃ t, ts[i]? = some t ∧ x = V.ref t := by
  rw [List.getElem?_map] at h
  cases e : ts[i]? with
  | none => rw [e] at h; cases h
  | some t => rw [e] at h; exact ⟨t, rfl, (Option.some.inj h).symm⟩
theorem int_at {ts : List Int} {i : Nat} {x : V} (h : (ts.map V.int)[i]? = some x) : ∃ t, ts[i]? = some t ∧ x = V.int t := by
  rw [List.getElem?_map] at h
  cases e : ts[i]? with
  | none => rw [e] at h; cases h
  | some t => rw [e] at h; exact ⟨t, rfl, (Option.some.inj h).symm⟩
theorem getD_of {α : Type} {l : List α} {i : Nat} {x d : α} (h : l[i]? = some x) : l.getD i d = x := by
  rw [List.getD_eq_getElem?_getD, h]
  rfl
theorem map_at {α β : Type} {l : List α} {i : Nat} {x : α} (g : α → β) (h : l[i]? = some x) : (l.map g)[i]? = some (g x) := by
  rw [List.getElem?_map, h]
  rfl
def Tups (H : Hp) (ts : List Addr) (row : List (List Int)) : Prop := Paired (fun t it => H t = some (.tup (it.map V.int))) ts row
def LT (H : Hp) (a : Addr) (row : List (List Int)) : Prop := ∃ ts, H a = some (.lst (ts.map V.ref)) ∧ Tups H ts row
theorem Tups.same {H H' : Hp} {ts : List Addr} {row : List (List Int)} (s : Same H H') (h : Tups H ts row) : Tups H' ts row := Paired.mono (fun _ _ e => s _ _ e) h
theorem LT.same {H H' : Hp} {a : Addr} {row : List (List Int)} (s : Same H H') (h : LT H a row) : LT H' a row := by
  obtain ⟨ts, h1, h2⟩ := h
  exact ⟨ts, s _ _ h1, h2.same s⟩
theorem Tups.get {H : Hp} : ∀ {ts : List Addr} {row : List (List Int)} {i : Nat} {t : Addr}, Tups H ts row → ts[i]? = some t → ∃ it, row[i]? = some it ∧ H t = some (.tup (it.map V.int))
  | _, _, _, _, .nil, h => by simp at h
  | _, _, 0, _, .cons r _, h => by
    have e := Option.some.inj h
    subst e
    exact ⟨_, rfl, r⟩
  | _, _, i + 1, _, .cons _ q, h => Tups.get (i := i) q h
theorem Tups.len {H : Hp} {ts : List Addr} {row : List (List Int)} (h : Tups H ts row) : ts.length = row.length := Paired.length h
theorem Tups.take {H : Hp} : ∀ {ts : List Addr} {row : List (List Int)} (n : Nat), Tups H ts row → Tups H (ts.take n) (row.take n)
  | _, _, 0, _ => .nil
  | _, _, _ + 1, .nil => .nil
  | _, _, n + 1, .cons r t => .cons r (Tups.take n t)
theorem same_new {H : Hp} {p : Addr} {o : HO} (h : H p = none) : Same H (upd H p o) := fun b u e => by
  rw [upd_ne (ne_of_none e h)]
  exact e
theorem same_own {H : Hp} {p : Addr} {u : HO} {H' : Hp} (s : Same H H') (h : H p = none) : Same H (upd H' p u) := fun b v e => by
  rw [upd_ne (ne_of_none e h)]
  exact s _ _ e
theorem range_snoc_filter (p : Nat → Bool) (f : Nat → V) (i : Nat) : ((List.range (i + 1)).filter p).map f = ((List.range i).filter p).map f ++ (if p i = true then [f i] else []) := by
  rw [List.range_succ, List.filter_append, List.map_append]
  by_cases h : p i = true
  · rw [if_pos h]; simp [h]
  · rw [if_neg h]; simp [h]
theorem filt_len (p : Nat → Bool) (f : Nat → V) (i : Nat) : (((List.range i).filter p).map f).length ≤ i := by
  rw [List.length_map]
  exact Nat.le_trans (List.length_filter_le _ _) (by simp)
theorem lc_ix {K : PySem.W.Frag} {a : Addr} {xs : List V} {g : TG} {tt : TT} {te : TE} {vs : List Nat} {σ : L2.St} {H1 : Hp} {D : Addr} {Qd : Hp → Prop} (p : Nat → Bool) (f : Nat → V) (hD : H1 D = none) (hS : SqL K H1 a xs) (hz : xs.length ≤ sizeLine)
    (hs : ∀ i x acc (N : Hp → Prop), xs[i]? = some x → acc.length < sizeLine → (p i = true → N (upd H1 D (.lst (acc ++ [f i])))) → (p i = false → N (upd H1 D (.lst acc))) →
      g x (wipe σ vs) (upd H1 D (.lst acc)) fun σ2 H2 => wipe σ2 vs = wipe σ vs ∧ tt σ2 H2 fun b H3 => if b = true then te σ2 H3 fun y H4 => ∃ acc, H4 D = some (.lst acc) ∧ acc.length < sizeLine ∧ N (upd H4 D (.lst (acc ++ [y]))) else N H3)
    (hd : Qd (upd H1 D (.lst (((List.range xs.length).filter p).map f)))) :
    ∃ W : Nat → Nat → Hp → Prop, (∃ m, W 0 m (upd H1 D (.lst []))) ∧ ∀ i m H, W i m H →
      ((Itl K a).stop i H ∧ Qd H) ∨ ((Itl K a).go i H ∧ ∃ Nx : Hp → Prop, (∀ H', Nx H' → ∃ m', m' < m ∧ W (i + 1) m' H') ∧ ∀ x H', (Itl K a).yld i H x H' → g x (wipe σ vs) H' fun σ2 H2 => wipe σ2 vs = wipe σ vs ∧ tt σ2 H2 fun b H3 =>
        if b = true then te σ2 H3 fun y H4 => ∃ acc, H4 D = some (.lst acc) ∧ acc.length < sizeLine ∧ Nx (upd H4 D (.lst (acc ++ [y]))) else Nx H3) := by
  refine lc_list (xs := xs) (fun i H => H = upd H1 D (.lst (((List.range i).filter p).map f))) rfl (fun i H _ e => ?_) (fun i x H hx e => ?_) (fun H e => by rw [e]; exact hd)
  · rw [e]
    exact (same_new hD).seq hS
  · subst e
    have hi : i < xs.length := (List.getElem?_eq_some_iff.mp hx).1
    refine hs i x _ _ hx (by have := filt_len p f i; omega) (fun h => ?_) (fun h => ?_)
    · rw [range_snoc_filter, if_pos h]
    · rw [range_snoc_filter, if_neg (by rw [h]; decide), List.append_nil]
theorem range_getD {α : Type} (d : α) : ∀ l : List α, (List.range l.length).map (fun i => l.getD i d) = l
  | [] => rfl
  | x :: l => by
    rw [List.length_cons, List.range_succ_eq_map, List.map_cons, List.map_map]
    show x :: (List.range l.length).map (fun i => l.getD i d) = x :: l
    rw [range_getD d l]
theorem range_map {α : Type} (d : α) (l : List α) (h : α → V) {f : Nat → V} (e : ∀ i, i < l.length → f i = h (l.getD i d)) : ((List.range l.length).filter fun _ => true).map f = l.map h := by
  have e1 : (List.range l.length).filter (fun _ => true) = List.range l.length := List.filter_eq_self.mpr fun _ _ => rfl
  rw [e1]
  conv => rhs; rw [← range_getD d l]
  rw [List.map_map]
  exact List.map_congr_left fun i hi => e i (List.mem_range.mp hi)
theorem range_count {α : Type} (d : α) (l : List α) (q : α → Bool) {p : Nat → Bool} (e : ∀ i, i < l.length → p i = q (l.getD i d)) : ((List.range l.length).filter p).length = (l.filter q).length := by
  conv => rhs; rw [← range_getD d l]
  rw [List.filter_map, List.length_map]
  congr 1
  exact List.filter_congr fun i hi => e i (List.mem_range.mp hi)
theorem lc_rangeC {lo c : Int} {n : Nat} {g : TG} {tt : TT} {te : TE} {vs : List Nat} {σ : L2.St} {H1 : Hp} {D : Addr} {Qd : Hp → Prop} (Pv : Nat → Hp → Prop) (h0 : Pv 0 (upd H1 D (.lst [])))
    (hs : ∀ i H, i < n → Pv i H → g (.int (lo + (i : Nat) * c)) (wipe σ vs) H fun σ2 H2 => wipe σ2 vs = wipe σ vs ∧ tt σ2 H2 fun b H3 =>
      if b = true then te σ2 H3 fun y H4 => ∃ acc, H4 D = some (.lst acc) ∧ acc.length < sizeLine ∧ Pv (i + 1) (upd H4 D (.lst (acc ++ [y]))) else Pv (i + 1) H3) (hd : ∀ H, Pv n H → Qd H) :
    ∃ W : Nat → Nat → Hp → Prop, (∃ m, W 0 m (upd H1 D (.lst []))) ∧ ∀ i m H, W i m H →
      ((Itc lo c n).stop i H ∧ Qd H) ∨ ((Itc lo c n).go i H ∧ ∃ Nx : Hp → Prop, (∀ H', Nx H' → ∃ m', m' < m ∧ W (i + 1) m' H') ∧ ∀ x H', (Itc lo c n).yld i H x H' → g x (wipe σ vs) H' fun σ2 H2 => wipe σ2 vs = wipe σ vs ∧ tt σ2 H2 fun b H3 =>
        if b = true then te σ2 H3 fun y H4 => ∃ acc, H4 D = some (.lst acc) ∧ acc.length < sizeLine ∧ Nx (upd H4 D (.lst (acc ++ [y]))) else Nx H3) := by
  refine ⟨fun i m H => m = n - i ∧ i ≤ n ∧ Pv i H, ⟨n, by simp, Nat.zero_le _, h0⟩, ?_⟩
  rintro i m H ⟨rfl, hi, p⟩
  by_cases hlt : i < n
  · refine .inr ⟨hlt, Pv (i + 1), fun H' p' => ⟨n - (i + 1), by omega, rfl, hlt, p'⟩, fun x H' y => ?_⟩
    obtain ⟨e, y⟩ := y
    subst e y
    exact hs i _ hlt p
  · have e : i = n := by omega
    subst e
    exact .inl ⟨Nat.le_refl _, hd H p⟩
theorem for_enum {K : PySem.W.Frag} {a : Addr} {xs : List V} {g : TG} {tb : TS} {D : Ends} {σ : L2.St} {H : Hp} (Pv : Nat → L2.St → Hp → Prop) (h0 : Pv 0 σ H) (hl : ∀ i σ H, i ≤ xs.length → Pv i σ H → SqL K H a xs)
    (hs : ∀ i x σ H T, xs[i]? = some x → Pv i σ H → H T = none → g (.ref T) σ (upd H T (.tup [.int (i : Nat), x])) fun σ2 H2 => tb { D with nx := Pv (i + 1), ct := Pv (i + 1), bk := D.nx } σ2 H2) (hd : ∀ σ H, Pv xs.length σ H → D.nx σ H) :
    ∃ W : Nat → Nat → L2.St → Hp → Prop, (∃ m, W 0 m σ H) ∧ ∀ i m σ H, W i m σ H →
      ((Ite K a).stop i H ∧ D.nx σ H) ∨ ((Ite K a).go i H ∧ ∃ N : L2.St → Hp → Prop, (∀ σ' H', N σ' H' → ∃ m', m' < m ∧ W (i + 1) m' σ' H') ∧ ∀ x H', (Ite K a).yld i H x H' → g x σ H' fun σ2 H2 => tb { D with nx := N, ct := N, bk := D.nx } σ2 H2) := by
  refine ⟨fun i m σ H => m = xs.length - i ∧ i ≤ xs.length ∧ Pv i σ H, ⟨xs.length, by simp, Nat.zero_le _, h0⟩, ?_⟩
  rintro i m σ H ⟨rfl, hi, p⟩
  have q := hl i σ H hi p
  by_cases hlt : i < xs.length
  · refine .inr ⟨⟨xs, xs[i], q, by simp [hlt]⟩, Pv (i + 1), fun σ' H' p' => ⟨xs.length - (i + 1), by omega, rfl, hlt, p'⟩, fun x H' y => ?_⟩
    obtain ⟨T, z, rfl, hT, rfl, y⟩ := y
    exact hs i z σ H T (y xs q) p hT
  · have e : i = xs.length := by omega
    subst e
    exact .inl ⟨⟨xs, q, Nat.le_refl _⟩, hd σ H p⟩
structure Txt (K : PySem.W.Frag) (mg : Str → Option Value) (Sz : Addr) : Prop where
  c_CODE_POINTS : ∃ tk, mg "CODE_POINTS" = some (.int (1114112) tk)
  c_BEFORE : ∃ tk, mg "BEFORE" = some (.int (0) tk)
  c_MATCH : ∃ tk, mg "MATCH" = some (.int (1) tk)
  c_AFTER : ∃ tk, mg "AFTER" = some (.int (2) tk)
  c_PUT : ∃ tk, mg "PUT" = some (.int (3) tk)
  c_COPY : ∃ tk, mg "COPY" = some (.int (4) tk)
  c_MAPPED : ∃ tk, mg "MAPPED" = some (.int (5) tk)
  c_CURSOR : ∃ tk, mg "CURSOR" = some (.int (6) tk)
  c_ITEM_SIZES : mg "ITEM_SIZES" = some (.ref Sz)
  c_OF_POINT : ∃ tk, mg "OF_POINT" = some (.int (0) tk)
  c_OF_SET : ∃ tk, mg "OF_SET" = some (.int (1) tk)
  c_OF_ANY : ∃ tk, mg "OF_ANY" = some (.int (2) tk)
  c_MOST_ITEMS : ∃ tk, mg "MOST_ITEMS" = some (.int (32) tk)
  c_LEAST_BOUND : ∃ tk, mg "LEAST_BOUND" = some (.int (62) tk)
  c_MOST_BOUND : ∃ tk, mg "MOST_BOUND" = some (.int (63) tk)
  c_MOST_RANGES : ∃ tk, mg "MOST_RANGES" = some (.int (64) tk)
  c_MOST_PAIRS : ∃ tk, mg "MOST_PAIRS" = some (.int (256) tk)
  c_MOST_SETS : ∃ tk, mg "MOST_SETS" = some (.int (32) tk)
  c_MOST_MAPS : ∃ tk, mg "MOST_MAPS" = some (.int (16) tk)
  c_MOST_RULES : ∃ tk, mg "MOST_RULES" = some (.int (64) tk)
  c_LAST_PASS : ∃ tk, mg "LAST_PASS" = some (.int (7) tk)
  c_MOST_CAP : ∃ tk, mg "MOST_CAP" = some (.int (64) tk)
  c_STEPS_A_POINT : ∃ tk, mg "STEPS_A_POINT" = some (.int (16) tk)
  c_POINTS_ADDED : ∃ tk, mg "POINTS_ADDED" = some (.int (16) tk)
  c_ENDLESS : ∃ tk, mg "ENDLESS" = some (.int (-6) tk)
  c_TOO_LONG : ∃ tk, mg "TOO_LONG" = some (.int (-5) tk)
  c_SET_CALL : ∃ tk, mg "SET_CALL" = some (.int (0) tk)
  c_MAP_CALL : ∃ tk, mg "MAP_CALL" = some (.int (1) tk)
  c_RULE_CALL : ∃ tk, mg "RULE_CALL" = some (.int (2) tk)
  c_TURN_CALL : ∃ tk, mg "TURN_CALL" = some (.int (3) tk)
  c_HAS_CALL : ∃ tk, mg "HAS_CALL" = some (.int (4) tk)
  c_LOOK_CALL : ∃ tk, mg "LOOK_CALL" = some (.int (5) tk)
  c_FIND_CALL : ∃ tk, mg "FIND_CALL" = some (.int (6) tk)
  c_APPLY_CALL : ∃ tk, mg "APPLY_CALL" = some (.int (7) tk)
  c_STEPS_CALL : ∃ tk, mg "STEPS_CALL" = some (.int (8) tk)
  sizes : ∀ H : Hp, SqT K H Sz ([6, 6, 6, 2, 2, 3, 1].map V.int)
  b_len : mg "len" = none
  b_min : mg "min" = none
  b_max : mg "max" = none
  b_all : mg "all" = none
  b_any : mg "any" = none
  b_sum : mg "sum" = none
  b_range : mg "range" = none
  b_enumerate : mg "enumerate" = none
  b_tuple : mg "tuple" = none
  b_list : mg "list" = none
  b_dict : mg "dict" = none
  b_zip : mg "zip" = none
  b_reversed : mg "reversed" = none
end Re
end
section
set_option maxHeartbeats 4000000
namespace Re
open PySem PySem.Spec PyProof.Rows L2
section
variable {X : Cx}
def rExtT (K : PySem.W.Frag) : V → List V → Hp → VK → Prop := fun x vs H Q => ∃ l b xs zs, x = .ref l ∧ vs = [.ref b] ∧ H l = some (.lst xs) ∧ H b = some (.tup zs) ∧ xs.length + zs.length ≤ sizeLine ∧ Q .non (upd H l (.lst (xs ++ zs)))
theorem mt_extendT : MtM X "list.extend" (rExtT X.K) := by
  intro pins s σ H x vs v us Q I rx rv h
  obtain ⟨l, b, xs, zs, rfl, rfl, hH, hB, hz, q⟩ := h
  cases rx
  obtain ⟨u, rfl, ru⟩ := rv.one
  cases ru
  obtain ⟨z, its, n, r, hl, e⟩ := I.lstM hH
  obtain ⟨its2, r2, e2, hz2⟩ := I.tuple (SqT.of hB)
  obtain ⟨o, ho, hc, n2, hd⟩ := e2
  have hl2 := r2.length
  have hsz : its.toArray.size + its2.toArray.size ≤ sizeLine := by rw [List.size_toArray, List.size_toArray]; omega
  have hlong : ¬ (!its.toArray.isEmpty && Builtin.List.listTooLong (its.toArray.size + its2.toArray.size)) = true := by
    rw [notLongL hsz, Bool.and_false]
    exact Bool.false_ne_true
  refine wpAny_call_entry F.slot_list_extend ⟨_, e, rfl⟩ F.entry_list_extend ?_ (F.args_list_extend_2 _ _)
  show wpAny _ _ (Builtin.List.listExtendWith (.ref l) (.ref b) .none) _ _ s
  unfold Builtin.List.listExtendWith
  refine wpAny_bind (wpAny_typeOf ⟨o, ho, hc⟩ ?_)
  have h1 : (Builtin.List.listSameRef (.ref l) (.ref b) || Value.type "tuple" == Value.type "list" || Value.type "tuple" == Value.type "tuple") = true := by simp
  simp only [h1, if_true]
  refine wpAny_bind ?_
  unfold Builtin.List.listItems
  refine wpAny_bind (wpAny_seqItems ho hd (wpAny_pure ?_))
  refine wpAny_bind ?_
  refine wpAny_bind (wpAny_seqItems e rfl (wpAny_pure ?_))
  rw [if_neg hlong]
  show wpAny _ _ (updateSeq l (· ++ its2.toArray) >>= fun _ => ret .none) _ _ s
  refine wpAny_bind (wpAny_updateSeq e rfl ?_ (hz := by rw [List.size_toArray]; omega) (_hz' := by rw [Array.size_append]; omega))
  refine wpAny_pure ⟨_, rfl, ?_⟩
  refine ⟨.non, _, I.lset (its' := its ++ its2) hH e (by simp) (r.append r2) ?_, rfl, q⟩
  rw [List.length_append]
  omega
end
section
variable {X : Cx} {e : Expr} {te : TE} {pos p2 p3 p4 : Pos}
def tRev (K : PySem.W.Frag) (te : TE) : TE := fun σ H Q => te σ H fun x H1 => ∃ a xs, x = .ref a ∧ SqL K H1 a xs ∧ ∀ p, H1 p = none → Q (.ref p) (upd H1 p (.lst xs.reverse))
theorem pe_rev {K : PySem.W.Frag} {st : Expr} (hK : X.K = K) (he : PE X e te) (hst : PE X st (tUn (rU fun i => .int (-i)) (tC (.int 1)))) : PE X (.Subscript e (.Slice none none (some st) p2) pos) (tRev K te) := by
  subst hK
  intro pins s σ H Q I h
  refine Subscript_ (thn (he pins s σ H _ I h) fun v s1 ⟨x, H1, I1, r1, q1⟩ => ?_)
  obtain ⟨a, xs, rfl, hS, q⟩ := q1
  cases r1
  refine wpAny_Slice ?_
  rw [evalPart_none]
  refine wpAny_pure (wpAny_pure ?_)
  rw [evalPart_some]
  refine thn (hst pins s1 σ H1 (fun x H2 => x = .int (-1) ∧ H2 = H1) I1 ⟨1, rfl, rfl, rfl⟩) fun vk s2 ⟨x, H2, I2, r2, q2⟩ => ?_
  obtain ⟨rfl, rfl⟩ := q2
  obtain ⟨tk, rfl⟩ := r2
  have I4 : Inv X pins σ H2 { s2 with heap := s2.heap.push { cls := .type "slice", data := .fields #[.none, .none, .int (-1) tk] } } := I2.kept (t' := s2.toks) fun b ob q => Heap.get?_push_of_some _ q
  obtain ⟨its, r, ht, hz⟩ := I4.list hS
  have hlen := r.length
  refine tail_any (ops := [.ref a, .ref s2.heap.objs.size]) ht.isList.typeIs slot_list_getitem.lookup ?_ rfl
  refine wpAny_getItem_list_slice (lo := none) (hi := none) (st := some (-1)) ht.isList (Heap.IsSliceOf.new ..) .none .none (.int _ _) (by simp) ?_ (by rw [List.size_toArray] <;> omega)
  rw [W.krv_pick]
  refine ⟨.ref _, _, I4.laid (t' := s2.toks) (o := .lst xs.reverse) (fun b ob q => Heap.get?_push_of_some _ q) (Nat.le_refl _) ?_, rfl, q _ (I4.hok.fresh (Nat.le_refl _))⟩
  refine ⟨by rw [List.length_reverse]; exact hz, its.reverse, 0, r.reverse, ?_⟩
  exact Heap.get?_push_size _ rfl
end
section
variable {X : Cx} {tg : Expr}
theorem turn_long0 {P : Program} {w : World} {K : PySem.W.Frag} {tg : Expr} (it : Addr) (lo : Int) : Turn P w K tg (Itr lo 0) [it] it (fun i h => IsLongIter h it lo 0 1) where
  mem := by simp
  obj := fun i h st b hb => by
    have e : b = it := by simpa using hb
    subst e
    exact ⟨_, st, fun v z => nomatch z⟩
  keep := fun i h h' st k => k it (by simp) _ st
  item := by
    intro X hP hw hK hc i pins s σ H E I hf st hg
    exact absurd hg (Nat.not_lt_zero _)
  done := by
    intro X hP hw hK hc i pins s σ H E I hf st hg
    subst hP hw hK
    obtain ⟨f0, f1, f2, f3, f4, f5⟩ := hf it (by simp)
    exact wpAny_pyNext_long_end (I.ok.hd hc) st (by decide) fun h' eb => ⟨rfl, I.turned (t' := s.toks) (fun b o hb e => eb b o hb e) f0 f1 f3 f4 f5⟩
  self := fun A i s Q E st h => wpAny_pyIter_longiter st h
def iRngB (ta : TA) : TI := fun σ H R => ta σ H fun vs H1 => ∃ i j : Int, vs = [.int i, .int j] ∧ 0 ≤ i ∧ 0 ≤ j ∧ j < 2 ^ 62 ∧ R (Itr i (j - i).toNat) H1
theorem pi_range2B {a b : Expr} {ta : TA} {p pos : Pos} (hg : Gl X "range") (hm : X.mg "range" = none) (ha : PA X [a, b] ta) (hs : starEach [a, b] X.env = [(false, eval a X.env), (false, eval b X.env)] := by rfl) (hs2 : starEach [b] X.env = [(false, eval b X.env)] := by rfl) :
    PI X tg (.Call (.Name "range" p) [a, b] [] pos) (iRngB ta) := by
  intro pins s σ H R I h
  refine Call_ (ld_blt I hg hm boot_range (PyProof.Rows.callWith_type1 (thn (ha pos pins s σ H _ I h) fun us s1 ⟨vs, H1, I1, r1, q1⟩ => ?_) (by rw [hs, hs2]) (by rw [hs2]; rfl)))
  obtain ⟨i, j, e, q1, q3, q4, q⟩ := q1
  subst e
  cases r1 with
  | cons r rr =>
    cases rr with
    | cons r' rr =>
      cases rr
      obtain ⟨t, rfl⟩ := r
      obtain ⟨t', rfl⟩ := r'
      by_cases hb : i < 2 ^ 62
      · exact call_range_2 (range_it I1 (by omega) hb (by omega) q4 q)
      · refine call_range_2 ?_
        have en : (j - i).toNat = 0 := by omega
        rw [en] at q
        by_cases hsm : Builtin.Range.small i j 1 = true
        · refine wpAny_pyIter_range (IsRange.new ..) hsm ?_
          have I2 : Inv X pins σ H1 { s1 with heap := s1.heap.push { cls := .type "range", data := .fields #[.int i t, .int j t', .int 1 s1.toks] }, toks := s1.toks + 1 } := I1.kept (t' := s1.toks + 1) fun b o e => Heap.get?_push_of_some _ e
          have ez : Builtin.Range.rangeSize i j 1 = 0 := by
            rw [rangeSize_one, if_neg (by omega)]
          refine pi_one (tk := s1.toks + 1) I2 _ (turn_range _ i 0) ?_ q
          have e1 : i + ((0 : Nat) : Int) * 1 = i := by simp
          have e2 : ((0 : Nat) : Int) - ((0 : Nat) : Int) = Builtin.Range.rangeSize i j 1 := by rw [ez]; rfl
          show IsRangeIter _ _ (i + ((0 : Nat) : Int) * 1) (((0 : Nat) : Int) - ((0 : Nat) : Int)) 1
          rw [e1, e2]
          exact Heap.get?_push_size _ rfl
        · have hsm : Builtin.Range.small i j 1 = false := by
            cases e : Builtin.Range.small i j 1 with
            | true => exact absurd e hsm
            | false => rfl
          refine wpAny_pyIter_longrange (IsRange.new ..) hsm ?_
          have I2 : Inv X pins σ H1 { s1 with heap := s1.heap.push { cls := .type "range", data := .fields #[.int i t, .int j t', .int 1 s1.toks] }, toks := s1.toks + 1 } := I1.kept (t' := s1.toks + 1) fun b o e => Heap.get?_push_of_some _ e
          refine pi_one (tk := s1.toks + 1) I2 _ (turn_long0 _ i) ?_ q
          have ez : Builtin.Range.rangeSize i j 1 = 0 := by
            rw [rangeSize_one, if_neg (by omega)]
          rw [ez]
          exact Heap.get?_push_size _ rfl
end
section
theorem nolen_lri : typeLookup (.type "list_reverseiterator") "__len__" = pure none := by rw [typeLookup_type, builtinLookup_eq_fast]; kernel_rfl
theorem hint_lri : typeLookup (.type "list_reverseiterator") "__length_hint__" = pure (some (.builtin "list_reverseiterator.__length_hint__")) := by rw [typeLookup_type, builtinLookup_eq_fast]; kernel_rfl
variable {prog : Program} {w : World} {A : Around} {E : Value → Shared → Prop} {s : Shared} {I : Addr} {fp wr : List Addr} {n : Nat} {P : Nat → Value → Prop} {St : Nat → Heap → Prop}
theorem extend_rev {R : Result → Shared → Prop} (W : Walks prog w A.in1 I fp wr n P St) (hT : ∀ i (s : Shared), St i s.heap → s.TypeIs (.ref I) "list_reverseiterator") (hst : St 0 s.heap) (hI : I ∈ fp) (S : Addr) (res : Value) (c₀ : Nat) (hSf : S ∉ fp)
    (hS : s.heap.get? S = some { cls := .type "list", data := .seq #[] c₀ }) (hn : n ≤ sizeLine)
    (hR : ∀ h' tk acc' c', (∀ b o, b ≠ S → b ∉ wr → s.heap.get? b = some o → h'.get? b = some o) → h'.get? S = some { cls := .type "list", dict := none, data := .seq acc' c', slots := #[] } →
      ItemsOf P acc' n → R (.ok (.ret res)) { s with heap := h', toks := tk }) :
    wpAny (model prog w) A.in1 (Builtin.List.listExtendWith (.ref S) (.ref I) res)
      (fun fin s' => match fin with | .done f => R (.ok f) s' | .again c' => c'.quiet = true ∧ codeAny (model prog w) A c' R s') (fun e s' => R (.error e) s') s := by
  have hSI : S ≠ I := fun e => hSf (e ▸ hI)
  have h1 : Builtin.List.listSameRef (.ref S) (.ref I) = false := by simp [Builtin.List.listSameRef, hSI]
  unfold Builtin.List.listExtendWith
  refine wpAny_bind (wpAny_typeOf (hT 0 _ hst) ?_)
  rw [if_neg (by rw [h1]; decide)]
  refine wpAny_bind (W.self 0 _ _ _ hst ?_)
  refine wpAny_bind (wpAny_holding ?_)
  unfold Builtin.List.listLengthHint
  refine wpAny_bind (wpAny_specialOf (hT 0 _ hst) nolen_lri ?_)
  show wpAny _ A.in1 (specialOf (Value.ref I) (Str.ofString "__length_hint__") >>= _) _ _ _
  refine wpAny_bind (wpAny_specialOf (hT 0 _ hst) hint_lri ?_)
  generalize hid : ("list_reverseiterator.__length_hint__" : String) = id0
  wp_delta
  rw [show splitId id0 = some ("list_reverseiterator", "__length_hint__") from by subst hid; decide +kernel]
  subst hid
  refine wpAny_bind (wpAny_isInstance (b := true) (hT 0 _ hst) (by rw [isSubtype_type]; kernel_rfl) ?_)
  refine wpAny_pure ?_
  rw [if_neg (by decide)]
  refine wpAny_pure ⟨plainId_quiet F.plain_extend_loop _, codeAny_extend_loopS W.toS hn S hSf res n 0 _ _ _ rfl (Nat.zero_le _) hst hS (ItemsOf.nil P) fun s' acc' c' hm hS' hacc => ?_⟩
  rw [Moved.eq_with hm]
  exact hR s'.heap s'.toks acc' c' (fun b o hb hw e => hm.heap b o (fun hmem => (List.mem_cons.mp hmem).elim hb hw) e) hS' hacc
theorem call_list_rev {l : Addr} {items : Array Value} {Q : Value → Shared → Prop} (hh : A.handled = none) (hl : s.heap.IsList l items) (hit : s.heap.IsRevIter I l ((items.size : Int) - 1)) (hz : items.size ≤ sizeLine)
    (hQ : ∀ h' tk acc' c', (∀ b o, b ≠ I → s.heap.get? b = some o → h'.get? b = some o) →
      h'.get? s.heap.objs.size = some { cls := .type "list", dict := none, data := .seq acc' c', slots := #[] } → acc'.toList = items.toList.reverse → Q (.ref s.heap.objs.size) { s with heap := h', toks := tk }) :
    wpAny (model prog w) A (call (.type "list") [.ref I]) Q E s := by
  have hIlt : I < s.heap.objs.size := by obtain ⟨o, ho, _⟩ := hit; exact Heap.lt_size ho
  have hllt : l < s.heap.objs.size := by obtain ⟨o, ho, _⟩ := hl; exact Heap.lt_size ho
  have hne : l ≠ I := fun e => by
    obtain ⟨o, ho, hc, _⟩ := hl
    obtain ⟨o', ho', hc', _⟩ := hit
    rw [e, ho'] at ho
    have e2 : o' = o := Option.some.inj ho
    rw [e2, hc] at hc'
    exact absurd hc' (by decide)
  refine callType_codes (Q₁ := fun obj s₁ => obj = .ref s.heap.objs.size ∧ s₁ = { s with heap := s.heap.push { cls := .type "list", data := .seq #[] } }) F.called_list (F.typeCall_list_1 _) F.entry_list_init
    (code_list_new _ ⟨rfl, rfl⟩) fun obj s₁ h₁ => ?_
  obtain ⟨rfl, rfl⟩ := h₁
  have hS : (s.heap.push { cls := .type "list", data := .seq #[] }).get? s.heap.objs.size = some { cls := .type "list", data := .seq #[] } := Heap.get?_push_size _ rfl
  refine ⟨⟨_, hS, rfl⟩, F.args_list_init_2 _ _, ?_⟩
  show wpAny _ _ (do let old ← Builtin.List.listItems (.ref s.heap.objs.size); Builtin.List.listUpdate (.ref s.heap.objs.size) (fun _ => #[]); letGo old.toList.reverse; Builtin.List.listExtendWith (.ref s.heap.objs.size) (.ref I) .none) _ _ _
  refine wpAny_bind ?_
  unfold Builtin.List.listItems
  refine wpAny_bind (wpAny_seqItems hS rfl (wpAny_pure ?_))
  show wpAny _ _ (updateSeq s.heap.objs.size (fun _ => #[]) >>= fun _ => letGo (#[] : Array Value).toList.reverse >>= fun _ => Builtin.List.listExtendWith (.ref s.heap.objs.size) (.ref I) .none) _ _ _
  refine wpAny_bind (wpAny_updateSeq hS rfl ?_)
  have hS₂ := Heap.get?_update_self (Obj.mapSeq (fun _ => (#[] : Array Value))) hS rfl
  refine wpAny_bind (wpAny_letGo ?_)
  have oth : ∀ b o, s.heap.get? b = some o → ((s.heap.push { cls := .type "list", data := .seq #[] }).update s.heap.objs.size (Obj.mapSeq (fun _ => (#[] : Array Value)))).get? b = some o :=
    fun b o e => (Heap.get?_update_other _ _ (Nat.ne_of_gt (Heap.lt_size e))).trans (Heap.get?_push_of_some _ e)
  have W := Walks.listRev (prog := prog) (w := w) (A := A.in1.in1) hh I l hne items
  refine extend_rev (A := A.in1) W (fun i s st => st.2.1.typeIs) ⟨Nat.zero_le _, ?_, hl.at fun o e => oth l o e⟩ (by simp) _ .none _ ?_ hS₂ hz fun h' tk acc' c' hk hS' hacc => ⟨rfl, hQ h' tk acc' c' (fun b o hb e => hk b o (Nat.ne_of_lt (Heap.lt_size e)) (by simpa using hb) (oth b o e)) hS' ?_⟩
  · have e : (items.size : Int) - 1 - ((0 : Nat) : Int) = (items.size : Int) - 1 := by omega
    rw [e]
    exact hit.at fun o e => oth I o e
  · intro hm
    rcases List.mem_cons.mp hm with e | hm
    · exact absurd hIlt (by rw [← e]; exact Nat.lt_irrefl _)
    · exact absurd hllt (by rw [← List.mem_singleton.mp hm]; exact Nat.lt_irrefl _)
  · obtain ⟨hsz, hat⟩ := hacc
    apply List.ext_getElem?
    intro j
    by_cases hj : j < acc'.size
    · have h1 : acc'[j]? = some acc'[j] := Array.getElem?_eq_getElem hj
      have h2 := hat j _ h1
      rw [Array.getElem?_toList, h1, List.getElem?_reverse (by rw [Array.length_toList]; omega), Array.length_toList, Array.getElem?_toList]
      exact h2.symm
    · rw [List.getElem?_eq_none (by rw [Array.length_toList]; omega), List.getElem?_eq_none (by rw [List.length_reverse, Array.length_toList]; omega)]
end
section
variable {X : Cx} {e : Expr} {t : TA} {pos p p2 p3 : Pos}
def tLstRev (K : PySem.W.Frag) (t : TA) : TE := fun σ H Q => t σ H fun vs H1 => ∃ a xs, vs = [.ref a] ∧ SqL K H1 a xs ∧ ∀ l, H1 l = none → Q (.ref l) (upd H1 l (.lst xs.reverse))
theorem pe_listrev {K : PySem.W.Frag} (hK : X.K = K) (hc : X.calm = true) (hg : Gl X "reversed") (hm : X.mg "reversed" = none) (hg2 : Gl X "list") (hm2 : X.mg "list" = none) (ha : PA X [e] t) (hs : starEach [e] X.env = [(false, eval e X.env)] := by rfl)
    (hs2 : starEach [.Call (.Name "reversed" p) [e] [] p2] X.env = [(false, eval (.Call (.Name "reversed" p) [e] [] p2) X.env)] := by rfl) :
    PE X (.Call (.Name "list" p3) [.Call (.Name "reversed" p) [e] [] p2] [] pos) (tLstRev K t) := by
  subst hK
  intro pins s σ H Q I h
  refine Call_ (ld_blt I hg2 hm2 boot_list (PyProof.Rows.callWith_type1 ?_ hs2 rfl))
  rw [hs2]
  show wpAny _ _ (spliced ((false, eval (.Call (.Name "reversed" p) [e] [] p2) X.env) :: backTo pos [])) _ _ s
  refine Calls.spliced_cons (Call_ (ld_blt I hg hm boot_reversed5 (PyProof.Rows.callWith_type1 (thn (ha p2 pins s σ H _ I h) fun us s1 ⟨vs, H1, I1, r1, q1⟩ => ?_) hs rfl)))
  obtain ⟨a, xs, e, hq, q⟩ := q1
  subst e
  cases r1 with
  | cons r rr =>
    cases rr
    cases r
    obtain ⟨its, rv, p', hz⟩ := I1.list hq
    have hl := rv.length
    refine call_reversed_list p'.isList ?_
    refine wpAny_pure ?_
    have hl2 : (s1.heap.push (revObj a (((its.toArray.size : Nat) : Int) - 1))).IsList a its.toArray := p'.isList.at fun o e => Heap.get?_push_of_some _ e
    refine call_list_rev (s := { s1 with heap := s1.heap.push (revObj a (((its.toArray.size : Nat) : Int) - 1)) }) (I.ok.hd hc) hl2 ⟨_, Heap.get?_push_size _ rfl, rfl, rfl⟩ (by rw [List.size_toArray]; omega) fun h' tk acc' c' kp e ea => ?_
    have esz : (s1.heap.push (revObj a (((its.toArray.size : Nat) : Int) - 1))).objs.size = s1.heap.objs.size + 1 := by simp [Heap.push]
    refine ⟨.ref _, _, I1.laid (t' := tk) (o := .lst xs.reverse) (fun b ob z => kp b ob (Nat.ne_of_lt (Heap.lt_size z)) (Heap.get?_push_of_some _ z)) (by rw [esz]; exact Nat.le_succ _) ?_, rfl, q _ (I1.hok.fresh (by rw [esz]; exact Nat.le_succ _))⟩
    refine ⟨by rw [List.length_reverse]; exact hz, its.reverse, c', rv.reverse, ?_⟩
    rw [e]
    have ea2 : acc' = its.reverse.toArray := by
      apply Array.toList_inj.mp
      rw [ea]
    rw [ea2]
end
end Re
end
section
set_option maxHeartbeats 4000000
namespace Re
open PySem PySem.Spec PyProof.Rows L2
section
variable {P : Program} {w : World} {K : PySem.W.Frag} {mg : Str → Option Value} {base : Heap} {Sz f : Addr} {fd : FuncData}
abbrev s_is_code_point : Stmt := top 2
theorem sc_is_code_point : FnScope ["number"] ["number"] (defScope s_is_code_point) := ⟨rfl, rfl, rfl, by decide +kernel, rfl, by decide +kernel, by decide +kernel⟩
def sp_is_code_point : Sp := fun vs H Q _ => ∃ n : Int, vs = [.int n] ∧ Q (.bl (decide (n < 1114112))) H
theorem ok_is_code_point (F : Fun K "is_code_point" "is_code_point" s_is_code_point f fd) (T : Txt K mg Sz) : FnOk P w K mg base CX0 1 f fd ["number"] sp_is_code_point := by
  refine F.ok sc_is_code_point (fun vs H Q E h => ?_) (fun cdv A outer s H vs Q E hr h => ?_)
  · obtain ⟨n, rfl, _⟩ := h
    rfl
  · obtain ⟨n, rfl, k⟩ := h
    refine ⟨_, (pss_one (ps_ret (pe_cmpR op_lt (pv 0) (pe_gi T.c_CODE_POINTS) (nomark _)))), ?_⟩
    simp only [tRet, tOp, tC, tVar, rI0, L2.start, List.map_cons, List.map_nil, List.length_cons, List.length_nil, List.replicate, List.append_nil, List.getElem?_cons_zero, Option.some.injEq, V.int.injEq, exists_eq_left', exists_and_left, Nat.reduceSub, Nat.reduceAdd,  if_false]
    exact k
abbrev s_are_paired : Stmt := top 4
theorem sc_are_paired : FnScope ["numbers", "most_pairs"] ["numbers", "most_pairs"] (defScope s_are_paired) := ⟨rfl, rfl, rfl, by decide +kernel, rfl, by decide +kernel, by decide +kernel⟩
def sp_are_paired (K : PySem.W.Frag) : Sp := fun vs H Q _ => ∃ (a : Addr) (ns : List V) (m : Int), vs = [.ref a, .int m] ∧ SqL K H a ns ∧ Q (.bl (decide ((ns.length : Int) % 2 = 0) && decide ((ns.length : Int) ≤ 2 * m))) H
theorem ok_are_paired (F : Fun K "are_paired" "are_paired" s_are_paired f fd) (T : Txt K mg Sz) : FnOk P w K mg base CX0 1 f fd ["numbers", "most_pairs"] (sp_are_paired K) := by
  refine F.ok sc_are_paired (fun vs H Q E h => ?_) (fun cdv A outer s H vs Q E hr h => ?_)
  · obtain ⟨a, ns, m, rfl, _⟩ := h
    rfl
  · obtain ⟨a, ns, m, rfl, hS, k⟩ := h
    refine ⟨_, (pss_one (ps_ret (pe_and (pe_cmpR op_eq (pe_op op_mod (pe_callB (r := rLenS K) call_len_seq (by rfl) T.b_len boot_len (pa_cons (pv 0) pa_nil)) pe_int) pe_int (nomark _)) (pe_one (pe_cmpR op_le (pe_callB (r := rLenS K) call_len_seq (by rfl) T.b_len boot_len (pa_cons (pv 0) pa_nil)) (pe_op op_mul pe_int (pv 1)) (nomark _)))))), ?_⟩
    simp only [tRet, tOp, tC, tVar, rI, rI0, rEq, tAndV, tCons, tNil, L2.start, List.map_cons, List.map_nil, List.length_cons, List.length_nil, List.replicate, List.append_nil, List.getElem?_cons_zero, List.getElem?_cons_succ, Option.some.injEq, V.int.injEq, V.bl.injEq, V.ref.injEq, List.cons.injEq, and_true, true_and, exists_eq_left', exists_and_left, Nat.reduceSub, Nat.reduceAdd, scal_ii,  decide_eq_true_eq, rLenS, tCB]
    refine ⟨ns, Or.inl hS, by decide, ?_⟩
    refine ite2 (fun h => ⟨ns, Or.inl hS, Or.inl (by decide), ?_⟩) (fun h => ?_)
    · rw [decide_eq_true h, Bool.true_and] at k
      exact k
    · rw [decide_eq_false h, Bool.false_and] at k
      exact k
abbrev s_pairs_of : Stmt := top 5
theorem sc_pairs_of : FnScope ["numbers", "k"] ["numbers"] (defScope s_pairs_of) := ⟨rfl, rfl, rfl, by decide +kernel, rfl, by decide +kernel, by decide +kernel⟩
def sp_pairs_of (K : PySem.W.Frag) : Sp := fun vs H Q _ => ∃ (a : Addr) (ns : List Int), vs = [.ref a] ∧ SqL K H a (ns.map V.int) ∧ ns.length % 2 = 0 ∧ ns.length ≤ 4100 ∧
  ∀ (H' : Hp) (p : Addr), Same H H' → H p = none → LT H' p ((Rb.pairsI ns).map fun q => [q.1, q.2]) → Q (.ref p) H'
theorem ok_pairs_of (F : Fun K "pairs_of" "pairs_of" s_pairs_of f fd) (T : Txt K mg Sz) : FnOk P w K mg base CX0 1 f fd ["numbers"] (sp_pairs_of K) := by
  refine F.ok sc_pairs_of (fun vs H Q E h => ?_) (fun cdv A outer s H vs Q E hr h => ?_)
  · obtain ⟨a, ns, rfl, _⟩ := h
    rfl
  · obtain ⟨a, ns, rfl, hS, hev, hlen, k⟩ := h
    refine ⟨_, (pss_one (ps_ret (pe_lc rfl sc_pairs_of.nd (pi_range3 rfl T.b_range (pa_cons pe_int (pa_cons (pe_callB (r := rLenS K) call_len_seq (by rfl) T.b_len boot_len (pa_cons (pv 0) pa_nil)) (pa_cons pe_int pa_nil)))) (blkOk_by (N := ["numbers", "k"]) (sc := defScope s_pairs_of) (own := [("k", 1)]) (by decide +kernel)) (fun _ _ _ _ _ => (pg_name (i := 1) sc_pairs_of.nd rfl (Or.inl rfl))) (fun _ _ _ _ _ => pts_nil) (fun _ _ _ _ _ => (pe_tup (pa_cons (pe_ix (r := rIxL K) ix_list (pv 0) (pv 1) (fun _ _ => rfl)) (pa_cons (pe_ix (r := rIxL K) ix_list (pv 0) (pe_op op_add (pv 1) pe_int) (fun _ _ => rfl)) pa_nil))))))), ?_⟩
    have hrg : RgC 0 (((ns.map V.int).length : Nat) : Int) 2 (ns.length / 2) := by
      refine ⟨by decide, by decide, ?_, ?_⟩
      · rw [List.length_map]
        unfold Builtin.Range.small Builtin.Range.rangeFitsLong
        rw [rangeSize_pos (by omega) (by omega), if_pos (by omega)]
        simp only [Bool.and_eq_true, Bool.or_eq_true, decide_eq_true_eq]
        refine ⟨⟨⟨⟨⟨by omega, by omega⟩, by omega, by omega⟩, by omega, by omega⟩, by omega, by omega⟩, .inr ⟨by omega, by omega⟩⟩
      · rw [List.length_map, rangeSize_pos (by omega) (by omega)]
        omega
    refine ⟨_, rfl, _, _, rfl, Or.inl hS, 0, _, 2, _, rfl, hrg, fun D hD => lc_rangeC (fun i H' => Same H H' ∧ H D = none ∧ ∃ ts, H' D = some (.lst (ts.map V.ref)) ∧ Tups H' ts (((Rb.pairsI ns).take i).map fun q => [q.1, q.2])) ?_ ?_ ?_⟩
    · exact ⟨same_new hD, hD, [], upd_same, .nil⟩
    · rintro i H' hi ⟨hs, _, ts, h1, h2⟩
      obtain ⟨x, y, hxy, hx, hy⟩ := Rb.pairsI_get ns i hi
      have hl := h2.len
      simp only [gName, tOp, tC, tVar, rI0, tCons, tNil, L2.start, List.map_cons, List.map_nil, List.length_cons, List.length_nil, List.replicate, List.cons_append, List.nil_append, List.getElem?_cons_zero, List.getElem?_cons_succ, List.set_cons_zero, List.set_cons_succ, Option.some.injEq, V.int.injEq, V.ref.injEq, true_and, exists_eq_left', exists_and_left, Nat.reduceSub, Nat.reduceAdd, rIxL, tTup,  if_true, tYes, wipe]
      refine ⟨_, hs.seq hS, _, at_of (j := 2 * i) (v := V.int x) (by omega) (map_at V.int hx), _, hs.seq hS, _, at_of (j := 2 * i + 1) (v := V.int y) (by omega) (map_at V.int hy), by decide, fun t ht => ?_⟩
      have htD : D ≠ t := ne_of_none h1 ht
      have e : (Rb.pairsI ns).take (i + 1) = (Rb.pairsI ns).take i ++ [(x, y)] := by rw [List.take_add_one, hxy]; rfl
      rw [e, List.map_append]
      refine ⟨_, (upd_ne htD).trans h1, ?_, same_own (hs.trans (same_new ht)) hD, hD, ts ++ [t], ?_, ?_⟩
      · rw [List.length_map, hl, List.length_map, List.length_take, sizeLine_eq]
        omega
      · rw [upd_same, List.map_append]
        rfl
      · have h3 : Tups (upd (upd H' t (.tup [.int x, .int y])) D (.lst ((ts ++ [t]).map V.ref))) ts (((Rb.pairsI ns).take i).map fun q => [q.1, q.2]) := by
          refine Paired.mono (fun a b e => ?_) h2
          rw [upd_ne (ne_of e h1 (by intro q; cases q)), upd_ne (ne_of_none e ht)]
          exact e
        have h4 : (upd (upd H' t (.tup [.int x, .int y])) D (.lst ((ts ++ [t]).map V.ref))) t = some (.tup ([x, y].map V.int)) := by
          rw [upd_ne (Ne.symm htD), upd_same]
          rfl
        have h5 := Paired.snoc h3 h4
        rw [List.map_append] at h5
        exact h5
    · rintro H' ⟨hs, _, ts, h1, h2⟩
      have e : (Rb.pairsI ns).take (ns.length / 2) = Rb.pairsI ns := by
        rw [← Rb.pairsI_len]
        exact List.take_length
      rw [e] at h2
      exact k H' D hs hD ⟨ts, h1, h2⟩
abbrev s_group_of : Stmt := top 26
theorem sc_group_of : FnScope ["kind"] ["kind"] (defScope s_group_of) := ⟨rfl, rfl, rfl, by decide +kernel, rfl, by decide +kernel, by decide +kernel⟩
def sp_group_of : Sp := fun vs H Q _ => ∃ n : Int, vs = [.int n] ∧ Q (.int (min n 3)) H
theorem ok_group_of (F : Fun K "group_of" "group_of" s_group_of f fd) (T : Txt K mg Sz) : FnOk P w K mg base CX0 1 f fd ["kind"] sp_group_of := by
  refine F.ok sc_group_of (fun vs H Q E h => ?_) (fun cdv A outer s H vs Q E hr h => ?_)
  · obtain ⟨n, rfl, _⟩ := h
    rfl
  · obtain ⟨n, rfl, k⟩ := h
    refine ⟨_, (pss_one (ps_ret (pe_callB (call_min2 rfl) (by rfl) T.b_min boot_min (pa_cons (pv 0) (pa_cons (pe_gi T.c_PUT) pa_nil))))), ?_⟩
    simp only [tRet, tC, tVar, tCons, tNil, L2.start, List.map_cons, List.map_nil, List.length_cons, List.length_nil, List.replicate, List.append_nil, List.getElem?_cons_zero, Option.some.injEq, V.int.injEq, List.cons.injEq, and_true, exists_eq_left', Nat.reduceSub, Nat.reduceAdd,  tCB]
    refine ⟨n, 3, ⟨rfl, rfl⟩, ?_⟩
    have e : (if (3 : Int) < n then 3 else n) = min n 3 := by
      by_cases h : (3 : Int) < n
      · rw [if_pos h]; omega
      · rw [if_neg h]; omega
    rw [e]
    exact k
abbrev s_are_bounds : Stmt := top 31
theorem sc_are_bounds : FnScope ["least", "most"] ["least", "most"] (defScope s_are_bounds) := ⟨rfl, rfl, rfl, by decide +kernel, rfl, by decide +kernel, by decide +kernel⟩
def sp_are_bounds : Sp := fun vs H Q _ => ∃ n m : Int, vs = [.int n, .int m] ∧ Q (.bl (Rq.bounds n m)) H
theorem ok_are_bounds (F : Fun K "are_bounds" "are_bounds" s_are_bounds f fd) (T : Txt K mg Sz) : FnOk P w K mg base CX0 1 f fd ["least", "most"] sp_are_bounds := by
  refine F.ok sc_are_bounds (fun vs H Q E h => ?_) (fun cdv A outer s H vs Q E hr h => ?_)
  · obtain ⟨n, m, rfl, _⟩ := h
    rfl
  · obtain ⟨n, m, rfl, k⟩ := h
    refine ⟨_, (pss_one (ps_ret (pe_and (pe_cmpR op_le (pv 0) (pe_gi T.c_LEAST_BOUND) (nomark _)) (pe_and (pe_chain op_le op_le pe_int (pv 1) (pe_gi T.c_MOST_BOUND)) (pe_one (pe_cmpR op_le (pv 0) (pv 1) (nomark _))))))), ?_⟩
    simp only [tRet, tOp, tC, tVar, rI0, tAndV, tChain, L2.start, List.map_cons, List.map_nil, List.length_cons, List.length_nil, List.replicate, List.append_nil, List.getElem?_cons_zero, List.getElem?_cons_succ, Option.some.injEq, V.int.injEq, V.bl.injEq, exists_eq_left', exists_and_left, Nat.reduceSub, Nat.reduceAdd,  if_false, Bool.false_eq_true, decide_eq_true_eq]
    unfold Rq.bounds at k
    refine ite2 (fun h1 => ite2 (fun h2 => ite2 (fun h3 => ?_) fun h3 => ?_) fun h2 => ?_) fun h1 => ?_
    · rw [decide_eq_true h1, decide_eq_true h2, decide_eq_true h3, Bool.true_and, Bool.true_and] at k
      exact k
    · rw [decide_eq_false h3, Bool.and_false, Bool.and_false, Bool.false_and] at k
      exact k
    · rw [decide_eq_false h2, Bool.false_and, Bool.and_false, Bool.false_and] at k
      exact k
    · rw [decide_eq_false h1, Bool.false_and, Bool.false_and] at k
      exact k
abbrev s_count_kind : Stmt := top 27
theorem sc_count_kind : FnScope ["row", "kind", "item"] ["row", "kind"] (defScope s_count_kind) := ⟨rfl, rfl, rfl, by decide +kernel, rfl, by decide +kernel, by decide +kernel⟩
def sp_count_kind (K : PySem.W.Frag) : Sp := fun vs H Q _ => ∃ (a : Addr) (row : List (List Int)) (n : Int), vs = [.ref a, .int n] ∧ LT H a row ∧ (∀ it ∈ row, it ≠ []) ∧ row.length ≤ 4100 ∧ ∀ H' : Hp, Same H H' → Q (.int (Rq.cnt row n : Nat)) H'
theorem ok_count_kind (F : Fun K "count_kind" "count_kind" s_count_kind f fd) (T : Txt K mg Sz) : FnOk P w K mg base CX0 1 f fd ["row", "kind"] (sp_count_kind K) := by
  refine F.ok sc_count_kind (fun vs H Q E h => ?_) (fun cdv A outer s H vs Q E hr h => ?_)
  · obtain ⟨a, row, n, rfl, _⟩ := h
    rfl
  · obtain ⟨a, row, n, rfl, hR, hne, hlen, k⟩ := h
    refine ⟨_, (pss_one (ps_ret (pe_callB (r := rLenS K) call_len_seq (by rfl) T.b_len boot_len (pa_cons (pe_lc rfl sc_count_kind.nd (pi_listK (K := K) rfl (pv 0)) (blkOk_by (N := ["row", "kind", "item"]) (sc := defScope s_count_kind) (own := [("item", 2)]) (by decide +kernel)) (fun _ _ _ _ _ => (pg_name (i := 2) sc_count_kind.nd rfl (Or.inl rfl))) (fun _ _ _ _ _ => (pts_one (pt_cmpR op_eq (pe_ix (r := rIxT K) ix_tup (pv 2) pe_int (fun _ _ => rfl)) (pv 1) (nomark _)))) (fun _ _ _ _ _ => (pv 2))) pa_nil)))), ?_⟩
    obtain ⟨ts, hA, hT⟩ := hR
    have hlt := hT.len
    refine ⟨_, rfl, a, rfl, ⟨_, SqL.of hA⟩, fun D hD => lc_ix (xs := ts.map V.ref) (fun i => decide (Rq.hd (row.getD i []) = n)) (fun i => V.ref (ts.getD i 0)) hD (SqL.of hA) (by rw [List.length_map, sizeLine_eq]; omega) ?_ ?_⟩
    · intro i x acc N hx hacc h1 h2
      obtain ⟨t, ht, rfl⟩ := ref_at hx
      obtain ⟨it, hit, hH⟩ := hT.get ht
      have hnn : it ≠ [] := hne it (List.mem_of_getElem? hit)
      rw [getD_of hit, getD_of ht] at h1
      rw [getD_of hit] at h2
      obtain ⟨y, r, rfl⟩ := List.exists_cons_of_ne_nil hnn
      simp only [gName, tOp, tC, tVar, rEq, tTest, L2.start, List.map_cons, List.map_nil, List.length_cons, List.length_nil, List.replicate, List.cons_append, List.nil_append, List.getElem?_cons_zero, List.getElem?_cons_succ, List.set_cons_zero, List.set_cons_succ, Option.some.injEq, V.int.injEq, V.bl.injEq, V.ref.injEq, true_and, exists_eq_left', exists_and_left, Nat.reduceSub, Nat.reduceAdd, rIxT,  decide_eq_true_eq, wipe]
      refine ⟨_, SqT.of ((upd_ne (ne_of_none hH hD)).trans hH), V.int y, at_of (j := 0) rfl rfl, rfl, ?_⟩
      refine ite2 (fun h => ⟨acc, upd_same, hacc, ?_⟩) (fun h => ?_)
      · rw [upd_upd]
        exact h1 (decide_eq_true (V.int.inj h))
      · exact h2 (decide_eq_false (fun q => h (congrArg V.int q)))
    · refine ⟨_, _, rfl, Or.inl (SqL.of upd_same), ?_⟩
      have e : (((List.range (ts.map V.ref).length).filter fun i => decide (Rq.hd (row.getD i []) = n)).map fun i => V.ref (ts.getD i 0)).length = Rq.cnt row n := by
        rw [List.length_map, List.length_map, hlt]
        exact range_count [] row (fun it => decide (Rq.hd it = n)) fun i _ => rfl
      rw [e]
      exact k _ (same_new hD)
abbrev s_is_element : Stmt := top 30
theorem sc_is_element : FnScope ["numbers", "set_count", "of", "a", "but"] ["numbers", "set_count"] (defScope s_is_element) := ⟨rfl, rfl, rfl, by decide +kernel, rfl, by decide +kernel, by decide +kernel⟩
def sp_is_element (K : PySem.W.Frag) : Sp := fun vs H Q _ => ∃ (a : Addr) (e : List Int) (n : Nat), vs = [.ref a, .int n] ∧ SqT K H a (e.map V.int) ∧ e.length = 5 ∧ Q (.bl (Rq.isEl e n)) H
theorem ok_is_element (F : Fun K "is_element" "is_element" s_is_element f fd) (T : Txt K mg Sz) (c_are_bounds : Cal P w K mg base 1 "are_bounds" ["least", "most"] sp_are_bounds) (c_is_code_point : Cal P w K mg base 1 "is_code_point" ["number"] sp_is_code_point) :
    FnOk P w K mg base CX0 2 f fd ["numbers", "set_count"] (sp_is_element K) := by
  refine F.ok sc_is_element (fun vs H Q E h => ?_) (fun cdv A outer s H vs Q E hr h => ?_)
  · obtain ⟨a, e, n, rfl, _⟩ := h
    rfl
  · obtain ⟨a, e, n, rfl, hS, hlen, k⟩ := h
    obtain ⟨o, b, u, v, w', rfl⟩ : ∃ o b u v w', e = [o, b, u, v, w'] := by
      match e, hlen with
      | [o, b, u, v, w'], _ => exact ⟨o, b, u, v, w', rfl⟩
    refine ⟨_, (pss_cons (ps_set (i := 2) sc_is_element.nd rfl (Or.inl rfl) (pe_ix (r := rIxT K) ix_tup (pv 0) pe_int (fun _ _ => rfl)))
  (pss_cons (ps_set (i := 3) sc_is_element.nd rfl (Or.inl rfl) (pe_ix (r := rIxT K) ix_tup (pv 0) pe_int (fun _ _ => rfl)))
  (pss_cons (ps_set (i := 4) sc_is_element.nd rfl (Or.inl rfl) (pe_ix (r := rIxT K) ix_tup (pv 0) pe_int (fun _ _ => rfl)))
  (pss_cons (ps_if (PW.pt (pw_or (pt_cmpR op_gt (pv 4) pe_int (nomark _)) (pw_or1 (pt_not (pt_val (pe_fun (sp := sp_are_bounds) c_are_bounds hr (pa_cons (pe_ix (r := rIxT K) ix_tup (pv 0) pe_int (fun _ _ => rfl)) (pa_cons (pe_ix (r := rIxT K) ix_tup (pv 0) pe_int (fun _ _ => rfl)) pa_nil)))))))) (pss_one (ps_ret pe_bl)) pss_nil)
  (pss_cons (ps_if (pt_cmpR op_eq (pv 2) (pe_gi T.c_OF_POINT) (nomark _)) (pss_one (ps_ret (pe_fun (sp := sp_is_code_point) c_is_code_point hr (pa_cons (pv 3) pa_nil)))) pss_nil)
  (pss_cons (ps_if (pt_cmpR op_eq (pv 2) (pe_gi T.c_OF_SET) (nomark _)) (pss_one (ps_ret (pe_cmpR op_lt (pv 3) (pv 1) (nomark _)))) pss_nil)
  (pss_one (ps_ret (pe_and (pe_cmpR op_eq (pv 2) (pe_gi T.c_OF_ANY) (nomark _)) (pe_and (pe_cmpR op_eq (pv 3) pe_int (nomark _)) (pe_one (pe_cmpR op_eq (pv 4) pe_int (nomark _))))))))))))), ?_⟩
    simp only [tSeq, tNext, tRet, tIfS, tAsg, gName, tOp, tC, tVar, rI0, rEq, tTest, tB, tOr, tNot, tAndV, tCons, tNil, tCall, L2.start, List.map_cons, List.map_nil, List.length_cons, List.length_nil, List.replicate, List.cons_append, List.nil_append, List.append_nil, List.getElem?_cons_zero, List.getElem?_cons_succ, List.set_cons_zero, List.set_cons_succ, Option.some.injEq, V.int.injEq, V.bl.injEq, V.ref.injEq, List.cons.injEq, and_true, exists_eq_left', exists_and_left, Nat.reduceSub, Nat.reduceAdd, rIxT,  if_true, decide_eq_true_eq, sp_are_bounds, sp_is_code_point]
    have k : Q (V.bl (if 1 < u ∨ Rq.bounds v w' = false then false else if o = 0 then decide (b < 1114112) else if o = 1 then decide (b < (n : Int)) else decide (o = 2) && decide (b = 0) && decide (u = 0))) H := k
    refine ⟨_, hS, V.int o, rfl, _, hS, V.int b, rfl, _, hS, V.int u, rfl, u, rfl, ?_⟩
    refine ite2 (fun h1 => ?_) fun h1 => ⟨_, hS, V.int v, rfl, _, hS, V.int w', rfl, v, w', ⟨rfl, rfl⟩, ?_⟩
    · rw [if_pos (Or.inl h1)] at k
      exact k
    cases hb : Rq.bounds v w' with
    | false =>
      rw [if_pos (Or.inr hb)] at k
      exact iteT k
    | true =>
      rw [if_neg (by rintro (q | q); exact h1 q; rw [hb] at q; cases q)] at k
      refine iteF ⟨rfl, ite2 (fun h2 => ⟨b, rfl, ?_⟩) fun h2 => ⟨rfl, ite2 (fun h3 => ⟨b, rfl, ?_⟩) fun h3 => ⟨rfl, ite2 (fun h4 => ⟨rfl, ite2 (fun h5 => ⟨rfl, ?_⟩) fun h5 => ?_⟩) fun h4 => ?_⟩⟩⟩
      · rw [if_pos (V.int.inj h2)] at k
        exact k
      · rw [if_neg (fun q => h2 (congrArg V.int q)), if_pos (V.int.inj h3)] at k
        exact k
      · rw [if_neg (fun q => h2 (congrArg V.int q)), if_neg (fun q => h3 (congrArg V.int q)), decide_eq_true (V.int.inj h4), decide_eq_true (V.int.inj h5), Bool.true_and, Bool.true_and] at k
        rw [show decide (V.int u = V.int 0) = decide (u = 0) from decide_eq_decide.mpr ⟨V.int.inj, congrArg V.int⟩]
        exact k
      · rw [if_neg (fun q => h2 (congrArg V.int q)), if_neg (fun q => h3 (congrArg V.int q)), decide_eq_true (V.int.inj h4), decide_eq_false (fun q => h5 (congrArg V.int q)), Bool.and_false, Bool.false_and] at k
        exact k
      · rw [if_neg (fun q => h2 (congrArg V.int q)), if_neg (fun q => h3 (congrArg V.int q)), decide_eq_false (fun q => h4 (congrArg V.int q)), Bool.false_and, Bool.false_and] at k
        exact k
abbrev s_kind_can_come : Stmt := top 25
theorem sc_kind_can_come : FnScope ["kind", "earlier"] ["kind", "earlier"] (defScope s_kind_can_come) := ⟨rfl, rfl, rfl, by decide +kernel, rfl, by decide +kernel, by decide +kernel⟩
def sp_kind_can_come (K : PySem.W.Frag) : Sp := fun vs H Q _ => ∃ (a : Addr) (row : List (List Int)) (n : Int), vs = [.int n, .ref a] ∧ LT H a row ∧ (∀ it ∈ row, it ≠ []) ∧ row.length ≤ 4100 ∧ ∀ H' : Hp, Same H H' → Q (.bl (Rq.come n row)) H'
theorem ok_kind_can_come (F : Fun K "kind_can_come" "kind_can_come" s_kind_can_come f fd) (T : Txt K mg Sz) (c_count_kind : Cal P w K mg base 1 "count_kind" ["row", "kind"] (sp_count_kind K)) (c_group_of : Cal P w K mg base 1 "group_of" ["kind"] sp_group_of) :
    FnOk P w K mg base CX0 2 f fd ["kind", "earlier"] (sp_kind_can_come K) := by
  refine F.ok sc_kind_can_come (fun vs H Q E h => ?_) (fun cdv A outer s H vs Q E hr h => ?_)
  · obtain ⟨a, e, n, rfl, _⟩ := h
    rfl
  · obtain ⟨a, row, n, rfl, hR, hne, hlen, k⟩ := h
    refine ⟨_, (pss_cons (ps_if (pt_cmpR op_ge (pv 0) (pe_callB (r := rLenS K) call_len_seq (by rfl) T.b_len boot_len (pa_cons (pe_gr T.c_ITEM_SIZES) pa_nil)) (nomark _)) (pss_one (ps_ret pe_bl)) pss_nil)
  (pss_cons (ps_if (PW.pt (pw_and (pt_cmpR op_ge (pv 0) (pe_gi T.c_AFTER) (nomark _)) (pw_and1 (pt_cmpR op_eq (pe_fun (sp := (sp_count_kind K)) c_count_kind hr (pa_cons (pv 1) (pa_cons (pe_gi T.c_MATCH) pa_nil))) pe_int (nomark _))))) (pss_one (ps_ret pe_bl)) pss_nil)
  (pss_cons (ps_if (PW.pt (pw_and (pt_cmpR op_eq (pv 0) (pe_gi T.c_CURSOR) (nomark _)) (pw_and1 (pt_cmpR op_gt (pe_fun (sp := (sp_count_kind K)) c_count_kind hr (pa_cons (pv 1) (pa_cons (pe_gi T.c_CURSOR) pa_nil))) pe_int (nomark _))))) (pss_one (ps_ret pe_bl)) pss_nil)
  (pss_one (ps_ret (pe_or (pe_cmpR op_eq (pe_callB (r := rLenS K) call_len_seq (by rfl) T.b_len boot_len (pa_cons (pv 1) pa_nil)) pe_int (nomark _)) (pe_one (pe_cmpR op_le (pe_fun (sp := sp_group_of) c_group_of hr (pa_cons (pe_ix (r := rIxT K) ix_tup (pe_ix (r := rIxL K) ix_list (pv 1) (pe_un un_neg pe_int) (fun _ _ => rfl)) pe_int (fun _ _ => rfl)) pa_nil)) (pe_fun (sp := sp_group_of) c_group_of hr (pa_cons (pv 0) pa_nil)) (nomark _))))))))), ?_⟩
    have e7 : (((([6, 6, 6, 2, 2, 3, 1] : List Int).map V.int).length : Nat) : Int) = 7 := rfl
    have last : ∀ H' : Hp, Same H H' → Rq.come n row = (decide (row.length = 0) || decide (min (Rq.lastK row) 3 ≤ min n 3)) →
        (tOrV (tOp rEq (tCB (rLenS K) (tCons (tVar 1) tNil)) (tC (.int 0))) (tOp (rI0 fun i j => .bl (decide (i ≤ j))) (tCall sp_group_of [] E0 (tCons (tOp (rIxT K) (tOp (rIxL K) (tVar 1) (tUn (rU fun i => .int (-i)) (tC (.int 1)))) (tC (.int 0))) tNil)) (tCall sp_group_of [] E0 (tCons (tVar 0) tNil)))) [some (.int n), some (.ref a)] H' Q := by
      intro H' hs hc
      obtain ⟨ts, hA, hT⟩ := hR.same hs
      have hl := hT.len
      have k := k H' hs
      rw [hc] at k
      simp only [tOp, tUn, tC, tVar, rI0, rU, rEq, tOrV, tCons, tNil, tCall, List.append_nil, List.getElem?_cons_zero, List.getElem?_cons_succ, Option.some.injEq, V.int.injEq, V.bl.injEq, V.ref.injEq, List.cons.injEq, and_true, true_and, exists_eq_left', exists_and_left, scal_ii, rIxL, rIxT,  decide_eq_true_eq, rLenS, tCB, sp_group_of]
      refine ⟨_, Or.inl (SqL.of hA), ite2 (fun h => ?_) fun h => ?_⟩
      · rw [decide_eq_true (by rw [List.length_map] at h; omega), Bool.true_or] at k
        exact k
      · rw [List.length_map] at h
        rw [decide_eq_false (by omega), Bool.false_or] at k
        obtain ⟨t, ht⟩ : ∃ t, ts[ts.length - 1]? = some t := ⟨_, List.getElem?_eq_getElem (by omega)⟩
        obtain ⟨it, hit, hH⟩ := hT.get ht
        have hne' := hne it (List.mem_of_getElem? hit)
        obtain ⟨y, r, rfl⟩ := List.exists_cons_of_ne_nil hne'
        have ek : Rq.lastK row = y := by
          unfold Rq.lastK
          rw [List.getLastD_eq_getLast?, List.getLast?_eq_getElem?, ← hl, hit]
          rfl
        rw [ek] at k
        refine ⟨_, SqL.of hA, V.ref t, ?_, t, rfl, _, SqT.of hH, V.int y, at_of (j := 0) rfl rfl, y, rfl, k⟩
        unfold atI ixN
        rw [if_neg (by decide), List.length_map, if_pos (by omega)]
        have e : (-1 + (ts.length : Int)).toNat = ts.length - 1 := by omega
        rw [e]
        exact map_at V.ref ht
    have k0 := k
    unfold Rq.come at k0
    have mid : ∀ H' : Hp, Same H H' → ¬ 7 ≤ n → ¬ (2 ≤ n ∧ Rq.cnt row 1 = 0) →
        tSeq (tIfS (tAnd (tTest (tOp rEq (tVar 0) (tC (V.int 6)))) (tTest (tOp (rI0 fun i j => V.bl (decide (j < i))) (tCall (sp_count_kind K) [] E0 (tCons (tVar 1) (tCons (tC (V.int 6)) tNil))) (tC (V.int 0))))) (tRet (tC (V.bl false))) tNext)
          (tRet (tOrV (tOp rEq (tCB (rLenS K) (tCons (tVar 1) tNil)) (tC (V.int 0))) (tOp (rI0 fun i j => V.bl (decide (i ≤ j))) (tCall sp_group_of [] E0 (tCons (tOp (rIxT K) (tOp (rIxL K) (tVar 1) (tUn (rU fun i => V.int (-i)) (tC (V.int 1)))) (tC (V.int 0))) tNil)) (tCall sp_group_of [] E0 (tCons (tVar 0) tNil)))))
          { nx := fun x H' => Q V.non H', rt := Q } [some (.int n), some (.ref a)] H' := by
      intro H' hs h7 h2
      refine ⟨_, rfl, rfl, _, rfl, ite2 (fun h6 => ⟨_, rfl, a, row, 6, rfl, hR.same hs, hne, hlen, fun H1 s1 => ⟨_, _, rfl, rfl, _, rfl, ite2 (fun hc => ?_) fun hc => ?_⟩⟩) fun h6 => iteF ?_⟩
      · have k := k0 H1 (hs.trans s1)
        have hc : (0 : Int) < (Rq.cnt row 6 : Nat) := of_decide_eq_true hc
        rw [if_neg h7, if_neg h2, if_pos ⟨V.int.inj (of_decide_eq_true h6), by omega⟩] at k
        exact k
      · have hc : ¬ (0 : Int) < (Rq.cnt row 6 : Nat) := fun q => hc (decide_eq_true q)
        refine last H1 (hs.trans s1) ?_
        unfold Rq.come
        rw [if_neg h7, if_neg h2, if_neg (by omega)]
      · have h6 : ¬ n = 6 := fun q => h6 (decide_eq_true (congrArg V.int q))
        refine last H' hs ?_
        unfold Rq.come
        rw [if_neg h7, if_neg h2, if_neg (by omega)]
    refine ⟨_, rfl, _, _, rfl, Or.inr (T.sizes H), _, _, rfl, rfl, _, rfl, ite2 (fun h7 => ?_) fun h7 => ?_⟩
    · have h7 : 7 ≤ n := of_decide_eq_true h7
      have k := k0 H (Same.refl H)
      rw [if_pos h7] at k
      exact k
    · have h7 : ¬ 7 ≤ n := fun q => h7 (decide_eq_true q)
      refine ⟨_, rfl, _, _, rfl, rfl, _, rfl, ite2 (fun h2 => ⟨_, rfl, a, row, 1, rfl, hR, hne, hlen, fun H1 s1 => ⟨rfl, _, rfl, ite2 (fun hc => ?_) fun hc => ?_⟩⟩) fun h2 => iteF ?_⟩
      · have h2 : 2 ≤ n := of_decide_eq_true h2
        have hc : ((Rq.cnt row 1 : Nat) : Int) = 0 := V.int.inj (of_decide_eq_true hc)
        have k := k0 H1 s1
        rw [if_neg h7, if_pos ⟨h2, by omega⟩] at k
        exact k
      · have hc : ¬ ((Rq.cnt row 1 : Nat) : Int) = 0 := fun q => hc (decide_eq_true (congrArg V.int q))
        exact mid H1 s1 h7 (by omega)
      · have h2 : ¬ 2 ≤ n := fun q => h2 (decide_eq_true q)
        exact mid H (Same.refl H) h7 (by omega)
end
end Re
end
section
set_option maxHeartbeats 4000000
namespace Re
open PySem PySem.Spec PyProof.Rows L2
open Rm (ElOk WrOk bnds resI)
def Kp (F : List Addr) (H H' : Hp) : Prop := ∀ b o, H b = some o → b ∉ F → H' b = some o
theorem Kp.refl (F : List Addr) (H : Hp) : Kp F H H := fun _ _ h _ => h
theorem Kp.trans {F : List Addr} {H H1 H2 : Hp} (a : Kp F H H1) (b : Kp F H1 H2) : Kp F H H2 := fun c o h n => b c o (a c o h n) n
theorem Kp.of_same {F : List Addr} {H H' : Hp} (a : Same H H') : Kp F H H' := fun c o h _ => a c o h
theorem Kp.mono {F G : List Addr} {H H' : Hp} (a : Kp F H H') (s : ∀ x ∈ F, x ∈ G) : Kp G H H' := fun c o h n => a c o h fun m => n (s c m)
theorem Kp.upd {F : List Addr} {H H' : Hp} {x : Addr} {u : HO} (a : Kp F H H') (m : x ∈ F) : Kp F H (L2.upd H' x u) := fun c o h n => by
  rw [upd_ne (fun e : c = x => n (by rw [e]; exact m))]
  exact a c o h n
theorem Kp.new {F : List Addr} {H H' : Hp} {x : Addr} {u : HO} (a : Kp F H H') (m : H' x = none) : Kp F H (L2.upd H' x u) := fun c o h n => by
  have q := a c o h n
  rw [upd_ne (ne_of_none q m)]
  exact q
theorem Kp.one {x : Addr} {H H' : Hp} (a : Kp [x] H H') {c : Addr} {o : HO} (h : H c = some o) (n : c ≠ x) : H' c = some o := a c o h (by simpa using n)
def LI (H : Hp) (a : Addr) (ns : List Int) : Prop := H a = some (.lst (ns.map V.int))
theorem LI.same {H H' : Hp} {a : Addr} {ns : List Int} (h : LI H a ns) (s : Same H H') : LI H' a ns := s _ _ h
theorem LI.sq {K : PySem.W.Frag} {H : Hp} {a : Addr} {ns : List Int} (h : LI H a ns) : SqL K H a (ns.map V.int) := SqL.of h
theorem Tups.kp {F : List Addr} {H H' : Hp} {ts : List Addr} {row : List (List Int)} (h : Tups H ts row) (nt : ∀ f ∈ F, ∀ xs, H f ≠ some (.tup xs)) (k : Kp F H H') : Tups H' ts row := Paired.mono (fun t it e => k t _ e fun m => nt t m _ e) h
theorem LT.kp {F : List Addr} {H H' : Hp} {a : Addr} {row : List (List Int)} (h : LT H a row) (ha : a ∉ F) (nt : ∀ f ∈ F, ∀ xs, H f ≠ some (.tup xs)) (k : Kp F H H') : LT H' a row := by
  obtain ⟨ts, h1, h2⟩ := h
  exact ⟨ts, k _ _ h1 ha, h2.kp nt k⟩
def tx (t : Rs.Text) : List (List Int) := t.map fun p => [(p.c : Int), (p.from_ : Int), (p.to : Int)]
theorem tx_len (t : Rs.Text) : (tx t).length = t.length := by unfold tx; rw [List.length_map]
theorem tx_app (t u : Rs.Text) : tx (t ++ u) = tx t ++ tx u := by unfold tx; rw [List.map_append]
theorem tx_get {t : Rs.Text} {i : Nat} {p : Rs.P} (h : t[i]? = some p) : (tx t)[i]? = some [(p.c : Int), (p.from_ : Int), (p.to : Int)] := by unfold tx; rw [List.getElem?_map, h]; rfl
def prs (ps : List (Int × Int)) : List (List Int) := ps.map fun q => [q.1, q.2]
def SetAt (H : Hp) (a : Addr) (l : Rs.Ranges) : Prop := ∃ ps : List (Int × Int), l = ps.map Rb.natP ∧ (∀ p ∈ ps, 0 ≤ p.1 ∧ 0 ≤ p.2) ∧ LT H a (prs ps)
def MapAt (H : Hp) (a : Addr) (l : Rs.Pairs) : Prop := ∃ ps : List (Int × Int), l = ps.map Rb.natP ∧ (∀ p ∈ ps, 0 ≤ p.1 ∧ 0 ≤ p.2) ∧ H a = some (.dK (ps.map fun q => (Sum.inl q.1, V.int q.2)))
def SetsAt (H : Hp) (s : Addr) (l : List Rs.Ranges) : Prop := ∃ as, H s = some (.lst (as.map V.ref)) ∧ Paired (SetAt H) as l
def MapsAt (H : Hp) (s : Addr) (l : List Rs.Pairs) : Prop := ∃ as, H s = some (.lst (as.map V.ref)) ∧ Paired (MapAt H) as l
theorem SetAt.same {H H' : Hp} {a : Addr} {l : Rs.Ranges} (h : SetAt H a l) (s : Same H H') : SetAt H' a l := by
  obtain ⟨ps, h1, h2, h3⟩ := h
  exact ⟨ps, h1, h2, h3.same s⟩
theorem MapAt.same {H H' : Hp} {a : Addr} {l : Rs.Pairs} (h : MapAt H a l) (s : Same H H') : MapAt H' a l := by
  obtain ⟨ps, h1, h2, h3⟩ := h
  exact ⟨ps, h1, h2, s _ _ h3⟩
theorem SetsAt.same {H H' : Hp} {a : Addr} {l : List Rs.Ranges} (h : SetsAt H a l) (s : Same H H') : SetsAt H' a l := by
  obtain ⟨as, h1, h2⟩ := h
  exact ⟨as, s _ _ h1, Paired.mono (fun _ _ q => q.same s) h2⟩
theorem MapsAt.same {H H' : Hp} {a : Addr} {l : List Rs.Pairs} (h : MapsAt H a l) (s : Same H H') : MapsAt H' a l := by
  obtain ⟨as, h1, h2⟩ := h
  exact ⟨as, s _ _ h1, Paired.mono (fun _ _ q => q.same s) h2⟩
theorem paired_get {α β : Type} {F : α → β → Prop} : ∀ {l : List α} {r : List β} {i : Nat} {x : α}, Paired F l r → l[i]? = some x → ∃ y, r[i]? = some y ∧ F x y
  | _, _, _, _, .nil, h => by simp at h
  | _, _, 0, _, .cons q _, h => by
    have e := Option.some.inj h
    subst e
    exact ⟨_, rfl, q⟩
  | _, _, i + 1, _, .cons _ q, h => paired_get (i := i) q h
theorem paired_get' {α β : Type} {F : α → β → Prop} : ∀ {l : List α} {r : List β} {i : Nat} {y : β}, Paired F l r → r[i]? = some y → ∃ x, l[i]? = some x ∧ F x y
  | _, _, _, _, .nil, h => by simp at h
  | _, _, 0, _, .cons q _, h => by
    have e := Option.some.inj h
    subst e
    exact ⟨_, rfl, q⟩
  | _, _, i + 1, _, .cons _ q, h => paired_get' (i := i) q h
structure Cs where
  Book : Addr
  Rule : Addr
  Reader : Addr
  Fit : Addr
  Written : Addr
  Rewriting : Addr
structure Cn (K : PySem.W.Frag) (c : Cs) : Prop where
  cl_Rule : Cls K c.Rule
  n_Rule_number : NoAttr K c.Rule "number"
  n_Rule_pass_number : NoAttr K c.Rule "pass_number"
  n_Rule_befores : NoAttr K c.Rule "befores"
  n_Rule_matches : NoAttr K c.Rule "matches"
  n_Rule_afters : NoAttr K c.Rule "afters"
  n_Rule_writers : NoAttr K c.Rule "writers"
  n_Rule_in_effect : NoAttr K c.Rule "in_effect"
  cl_Book : Cls K c.Book
  n_Book_sets : NoAttr K c.Book "sets"
  n_Book_maps : NoAttr K c.Book "maps"
  n_Book_rules : NoAttr K c.Book "rules"
  cl_Reader : Cls K c.Reader
  n_Reader_calls : NoAttr K c.Reader "calls"
  n_Reader_place : NoAttr K c.Reader "place"
  cl_Fit : Cls K c.Fit
  n_Fit_rule : NoAttr K c.Fit "rule"
  n_Fit_bounds : NoAttr K c.Fit "bounds"
  cl_Written : Cls K c.Written
  n_Written_row : NoAttr K c.Written "row"
  n_Written_cursor : NoAttr K c.Written "cursor"
  cl_Rewriting : Cls K c.Rewriting
  n_Rewriting_cap : NoAttr K c.Rewriting "cap"
  n_Rewriting_left : NoAttr K c.Rewriting "left"
  n_Rewriting_right : NoAttr K c.Rewriting "right"
  n_Rewriting_steps : NoAttr K c.Rewriting "steps"
  n_Rewriting_refusal : NoAttr K c.Rewriting "refusal"
def rf (n p : Int) (b m a w : Addr) (on : Bool) : List (Str × V) := [("number", .int n), ("pass_number", .int p), ("befores", .ref b), ("matches", .ref m), ("afters", .ref a), ("writers", .ref w), ("in_effect", .bl on)]
structure RuleOf (ns nm : Nat) (eb em ea ew : List (List Int)) (r : Rs.Rule) : Prop where
  bef : r.before.reverse = eb.map Rq.elemI
  mat : r.takes = em.map Rq.elemI
  aft : r.after = ea.map Rq.elemI
  wri : r.res = ew.map resI
  okb : ∀ e ∈ eb, ElOk ns e
  okm : ∀ e ∈ em, ElOk ns e
  oka : ∀ e ∈ ea, ElOk ns e
  okw : ∀ w ∈ ew, WrOk nm em.length w
  cur : (ew.filter fun it => decide (Rq.hd it = 6)).length ≤ 1
  few : eb.length ≤ 32 ∧ em.length ≤ 32 ∧ ea.length ≤ 32 ∧ ew.length ≤ 32
theorem RuleOf.mono {ns nm ns' nm' : Nat} {eb em ea ew : List (List Int)} {r : Rs.Rule} (h : RuleOf ns nm eb em ea ew r) (h1 : ns ≤ ns') (h2 : nm ≤ nm') : RuleOf ns' nm' eb em ea ew r :=
  ⟨h.bef, h.mat, h.aft, h.wri, fun e m => (h.okb e m).mono h1, fun e m => (h.okm e m).mono h1, fun e m => (h.oka e m).mono h1, fun e m => (h.okw e m).mono h2, h.cur, h.few⟩
def RuleAt (c : Cs) (H : Hp) (G : Addr → Prop) (ns nm : Nat) (x : Addr) (n : Nat) (r : Rs.Rule) : Prop :=
  ∃ dx b m a w eb em ea ew, H x = some (.ins c.Rule dx (rf n r.pass b m a w r.on)) ∧ LT H b eb ∧ LT H m em ∧ LT H a ea ∧ LT H w ew ∧ (G b ∧ G m ∧ G a ∧ G w) ∧ RuleOf ns nm eb em ea ew r
theorem RuleAt.same {c : Cs} {H H' : Hp} {G : Addr → Prop} {ns nm n : Nat} {x : Addr} {r : Rs.Rule} (h : RuleAt c H G ns nm x n r) (s : Same H H') : RuleAt c H' G ns nm x n r := by
  obtain ⟨dx, b, m, a, w, eb, em, ea, ew, h1, h2, h3, h4, h5, h6⟩ := h
  exact ⟨dx, b, m, a, w, eb, em, ea, ew, s _ _ h1, h2.same s, h3.same s, h4.same s, h5.same s, h6⟩
abbrev GT : Addr → Prop := fun _ => True
theorem RuleAt.any {c : Cs} {H : Hp} {G : Addr → Prop} {ns nm n : Nat} {x : Addr} {r : Rs.Rule} (h : RuleAt c H G ns nm x n r) : RuleAt c H GT ns nm x n r := by
  obtain ⟨dx, b, m, a, w, eb, em, ea, ew, h1, h2, h3, h4, h5, _, h6⟩ := h
  exact ⟨dx, b, m, a, w, eb, em, ea, ew, h1, h2, h3, h4, h5, ⟨trivial, trivial, trivial, trivial⟩, h6⟩
structure BookAt (c : Cs) (H : Hp) (bk s m r : Addr) (rs : List Addr) (b : Rs.State) : Prop where
  obj : ∃ dx, H bk = some (.ins c.Book dx [("sets", .ref s), ("maps", .ref m), ("rules", .ref r)])
  sm : s ≠ m
  sr : s ≠ r
  mr : m ≠ r
  sets : ∃ as, H s = some (.lst (as.map V.ref)) ∧ Paired (fun a l => SetAt H a l ∧ a ∉ [s, m, r]) as b.sets
  maps : MapsAt H m b.maps
  rules : H r = some (.lst (rs.map V.ref))
  each : ∀ j x, rs[j]? = some x → ∃ ru, b.rules[j]? = some ru ∧ RuleAt c H (fun a => a ∉ [s, m, r]) b.sets.length b.maps.length x j ru
  len : rs.length = b.rules.length
  nd : rs.Nodup
  few : b.sets.length ≤ 32 ∧ b.maps.length ≤ 16 ∧ b.rules.length ≤ 64
theorem BookAt.same {c : Cs} {H H' : Hp} {bk s m r : Addr} {rs : List Addr} {b : Rs.State} (B : BookAt c H bk s m r rs b) (q : Same H H') : BookAt c H' bk s m r rs b := by
  obtain ⟨⟨dx, h1⟩, h2, h3, h4, ⟨as, h5, h5'⟩, h6, h7, h8, h9, h10, h11⟩ := B
  exact ⟨⟨dx, q _ _ h1⟩, h2, h3, h4, ⟨as, q _ _ h5, Paired.mono (fun _ _ z => ⟨z.1.same q, z.2⟩) h5'⟩, h6.same q, q _ _ h7, fun j x e => by
    obtain ⟨ru, e1, e2⟩ := h8 j x e
    exact ⟨ru, e1, e2.same q⟩, h9, h10, h11⟩
theorem BookAt.setsAt {c : Cs} {H : Hp} {bk s m r : Addr} {rs : List Addr} {b : Rs.State} (B : BookAt c H bk s m r rs b) : SetsAt H s b.sets := by
  obtain ⟨as, h1, h2⟩ := B.sets
  exact ⟨as, h1, Paired.mono (fun _ _ z => z.1) h2⟩
def ReaderAt (c : Cs) (H : Hp) (rd a : Addr) (pl : Nat) : Prop := ∃ dx, H rd = some (.ins c.Reader dx [("calls", .ref a), ("place", .int pl)])
def BkPost (c : Cs) (H : Hp) (bk s m r : Addr) (rs : List Addr) (b : Rs.State) (cl : List (List Int)) (Q : VK) : Prop :=
  ∀ (H' : Hp) (p : Addr) (rs' : List Addr), BookAt c H' bk s m r rs' (RsNeutral.step b cl).1 → LI H' p (RsNeutral.step b cl).2 → H p = none → Kp (s :: m :: r :: rs) H H' → (∀ x ∈ rs', x ∈ rs ∨ H x = none) → Q (.ref p) H'
def optV : Option Nat → V
  | some n => .int n
  | none => .non
def sp_are_code_points (K : PySem.W.Frag) : Sp := fun vs H Q _ => ∃ (a : Addr) (ns : List Int), vs = [.ref a] ∧ SqL K H a (ns.map V.int) ∧ ns.length ≤ 4100 ∧ ∀ H' : Hp, Same H H' → Q (.bl (ns.all fun x => decide (x < 1114112))) H'
def sp_in_ranges : Sp := fun vs H Q _ => ∃ (a : Addr) (ps : List (Int × Int)) (n : Int), vs = [.int n, .ref a] ∧ LT H a (prs ps) ∧ Q (.bl (Rb.inI ps n)) H
def sp_split_items (K : PySem.W.Frag) : Sp := fun vs H Q _ => ∃ (a : Addr) (ns : List Int), vs = [.ref a] ∧ SqL K H a (ns.map V.int) ∧ ns.length ≤ 4100 ∧ (∀ x ∈ ns, 0 ≤ x) ∧ ∀ (H' : Hp) (p : Addr), Same H H' → H p = none → LT H' p (Rq.splitW ns) → Q (.ref p) H'
def sp_can_stand (K : PySem.W.Frag) : Sp := fun vs H Q _ => ∃ (a e : Addr) (it : List Int) (E : List (List Int)) (n m : Nat), vs = [.ref a, .ref e, .int n, .int m] ∧ H a = some (.tup (it.map V.int)) ∧ it ≠ [] ∧ 0 ≤ Rq.hd it ∧ it.length ≤ 6 ∧ LT H e E ∧ (∀ it ∈ E, it ≠ []) ∧ E.length ≤ 4100 ∧
  ∀ H' : Hp, Same H H' → Q (.bl (Rq.stand it E n m)) H'
def sp_first_wrong_item (K : PySem.W.Frag) : Sp := fun vs H Q _ => ∃ (a : Addr) (row : List (List Int)) (n m : Nat), vs = [.ref a, .int n, .int m] ∧ LT H a row ∧ (∀ it ∈ row, it ≠ [] ∧ 0 ≤ Rq.hd it ∧ it.length ≤ 6) ∧ row.length ≤ 4100 ∧
  ∀ H' : Hp, Same H H' → Q (optV (Rq.wrongI n m [] row)) H'
def sp_elements_of : Sp := fun vs H Q _ => ∃ (a : Addr) (row : List (List Int)) (k : Int), vs = [.ref a, .int k] ∧ LT H a row ∧ (∀ it ∈ row, it ≠ []) ∧ row.length ≤ 4100 ∧ ∀ (H' : Hp) (p : Addr), Same H H' → H p = none → LT H' p (Rm.elems k row) → Q (.ref p) H'
def sp_writers_of : Sp := fun vs H Q _ => ∃ (a : Addr) (row : List (List Int)), vs = [.ref a] ∧ LT H a row ∧ (∀ it ∈ row, it ≠ []) ∧ row.length ≤ 4100 ∧ ∀ (H' : Hp) (p : Addr), Same H H' → H p = none → LT H' p (Rm.wris row) → Q (.ref p) H'
def sp_Rule (c : Cs) : Sp := fun vs H Q _ => ∃ (x dx a : Addr) (n p : Int) (row : List (List Int)), vs = [.ref x, .int n, .int p, .ref a] ∧ H x = some (.ins c.Rule dx []) ∧ LT H a row ∧ (∀ it ∈ row, it ≠ []) ∧ row.length ≤ 4100 ∧
  ∀ (H' : Hp) (b m af w : Addr), Kp [x] H H' → H b = none → H m = none → H af = none → H w = none → H' x = some (.ins c.Rule dx (rf n p b m af w true)) → LT H' b (Rm.elems 0 row).reverse → LT H' m (Rm.elems 1 row) → LT H' af (Rm.elems 2 row) → LT H' w (Rm.wris row) → Q .non H'
def sp_Book (c : Cs) : Sp := fun vs H Q _ => ∃ (x dx : Addr), vs = [.ref x] ∧ H x = some (.ins c.Book dx []) ∧
  ∀ (H' : Hp) (s m r : Addr), Kp [x] H H' → H s = none → H m = none → H r = none → BookAt c H' x s m r [] Rs.start → Q .non H'
def sp_Book_add_set (K : PySem.W.Frag) (c : Cs) : Sp := fun vs H Q _ => ∃ (bk s m r a : Addr) (rs : List Addr) (b : Rs.State) (l : List Int), vs = [.ref bk, .ref a] ∧ BookAt c H bk s m r rs b ∧ SqL K H a (l.map V.int) ∧ l.length ≤ 4100 ∧ (∀ x ∈ l, 0 ≤ x) ∧ BkPost c H bk s m r rs b [[0], l] Q
def sp_Book_add_map (K : PySem.W.Frag) (c : Cs) : Sp := fun vs H Q _ => ∃ (bk s m r a : Addr) (rs : List Addr) (b : Rs.State) (l : List Int), vs = [.ref bk, .ref a] ∧ BookAt c H bk s m r rs b ∧ SqL K H a (l.map V.int) ∧ l.length ≤ 4100 ∧ (∀ x ∈ l, 0 ≤ x) ∧ BkPost c H bk s m r rs b [[1], l] Q
def sp_Book_add_rule (K : PySem.W.Frag) (c : Cs) : Sp := fun vs H Q _ => ∃ (bk s m r a : Addr) (rs : List Addr) (b : Rs.State) (p : Int) (l : List Int), vs = [.ref bk, .int p, .ref a] ∧ BookAt c H bk s m r rs b ∧ SqL K H a (l.map V.int) ∧ l.length ≤ 4100 ∧ (∀ x ∈ l, 0 ≤ x) ∧ 0 ≤ p ∧ BkPost c H bk s m r rs b [[2, p], l] Q
def sp_Book_turn_rule (c : Cs) : Sp := fun vs H Q _ => ∃ (bk s m r : Addr) (rs : List Addr) (b : Rs.State) (x o : Int), vs = [.ref bk, .int x, .int o] ∧ BookAt c H bk s m r rs b ∧ 0 ≤ x ∧ 0 ≤ o ∧ BkPost c H bk s m r rs b [[3, x, o]] Q
def sp_Book_ask_set (c : Cs) : Sp := fun vs H Q _ => ∃ (bk s m r : Addr) (rs : List Addr) (b : Rs.State) (x o : Int), vs = [.ref bk, .int x, .int o] ∧ BookAt c H bk s m r rs b ∧ 0 ≤ x ∧ 0 ≤ o ∧ BkPost c H bk s m r rs b [[4, x, o]] Q
def sp_Book_ask_map (c : Cs) : Sp := fun vs H Q _ => ∃ (bk s m r : Addr) (rs : List Addr) (b : Rs.State) (x o : Int), vs = [.ref bk, .int x, .int o] ∧ BookAt c H bk s m r rs b ∧ 0 ≤ x ∧ 0 ≤ o ∧ BkPost c H bk s m r rs b [[5, x, o]] Q
def sp_Book_find_place (K : PySem.W.Frag) (c : Cs) : Sp := fun vs H Q _ => ∃ (bk s m r a : Addr) (rs : List Addr) (b : Rs.State) (x o : Int) (l : List Int), vs = [.ref bk, .int x, .int o, .ref a] ∧ BookAt c H bk s m r rs b ∧ SqL K H a (l.map V.int) ∧ l.length ≤ 4100 ∧ (∀ x ∈ l, 0 ≤ x) ∧ 0 ≤ x ∧ 0 ≤ o ∧ BkPost c H bk s m r rs b [[6, x, o], l] Q
def sp_Reader (c : Cs) : Sp := fun vs H Q _ => ∃ (x dx a : Addr), vs = [.ref x, .ref a] ∧ H x = some (.ins c.Reader dx []) ∧ ∀ H' : Hp, Kp [x] H H' → ReaderAt c H' x a 0 → Q .non H'
def sp_Reader_is_done (K : PySem.W.Frag) (c : Cs) : Sp := fun vs H Q _ => ∃ (x a : Addr) (ns : List V) (pl : Nat), vs = [.ref x] ∧ ReaderAt c H x a pl ∧ SqL K H a ns ∧ Q (.bl (decide (ns.length ≤ pl))) H
def sp_Reader_take_number (K : PySem.W.Frag) (c : Cs) : Sp := fun vs H Q _ => ∃ (x a : Addr) (ns : List Int) (pl : Nat) (z : Int), vs = [.ref x] ∧ ReaderAt c H x a pl ∧ SqL K H a (ns.map V.int) ∧ ns[pl]? = some z ∧ ∀ H' : Hp, Kp [x] H H' → ReaderAt c H' x a (pl + 1) → Q (.int z) H'
def sp_Reader_take_row (K : PySem.W.Frag) (c : Cs) : Sp := fun vs H Q _ => ∃ (x a : Addr) (ns row rest : List Int) (pl : Nat), vs = [.ref x] ∧ ReaderAt c H x a pl ∧ SqL K H a (ns.map V.int) ∧ ns.drop pl = (row.length : Int) :: (row ++ rest) ∧
  ∀ (H' : Hp) (p : Addr), Kp [x] H H' → ReaderAt c H' x a (pl + 1 + row.length) → H p = none → LI H' p row → Q (.ref p) H'
def sp_is_of (K : PySem.W.Frag) : Sp := fun vs H Q _ => ∃ (e s : Addr) (el : List Int) (n : Nat) (sets : List Rs.Ranges), vs = [.ref e, .int n, .ref s] ∧ SqT K H e (el.map V.int) ∧ SetsAt H s sets ∧ ElOk sets.length el ∧ Q (.bl (Rs.isOf sets (Rq.elemI el) n)) H
def sp_end_of_element (K : PySem.W.Frag) : Sp := fun vs H Q _ => ∃ (e r s : Addr) (el : List Int) (t : Rs.Text) (st : Nat) (sets : List Rs.Ranges), vs = [.ref e, .ref r, .int st, .ref s] ∧ SqT K H e (el.map V.int) ∧ LT H r (tx t) ∧ SetsAt H s sets ∧ ElOk sets.length el ∧ st ≤ t.length ∧
  Q (optV ((Rs.took sets (Rq.elemI el) (t.drop st)).map fun k => st + k)) H
def sp_bounds_of_row : Sp := fun vs H Q _ => ∃ (w r s : Addr) (els : List (List Int)) (t : Rs.Text) (st : Nat) (sets : List Rs.Ranges), vs = [.ref w, .ref r, .int st, .ref s] ∧ LT H w els ∧ LT H r (tx t) ∧ SetsAt H s sets ∧ (∀ e ∈ els, ElOk sets.length e) ∧ st ≤ t.length ∧ els.length ≤ 32 ∧
  (∀ (ks : List Nat) (H' : Hp) (p : Addr), Rs.tookAll sets (els.map Rq.elemI) (t.drop st) = some ks → Same H H' → H p = none → LI H' p (bnds st ks) → Q (.ref p) H') ∧ (∀ H' : Hp, Rs.tookAll sets (els.map Rq.elemI) (t.drop st) = none → Same H H' → Q .non H')
def sp_bounds_of_matches (c : Cs) : Sp := fun vs H Q _ => ∃ (x l r s : Addr) (n nm : Nat) (ru : Rs.Rule) (left right : Rs.Text) (sets : List Rs.Ranges), vs = [.ref x, .ref l, .ref r, .ref s] ∧ RuleAt c H GT sets.length nm x n ru ∧ LT H l (tx left) ∧ LT H r (tx right) ∧ SetsAt H s sets ∧
  (∀ (ks : List Nat) (H' : Hp) (p : Addr), Rs.fits sets ru ⟨left.reverse, right⟩ = some ks → Same H H' → H p = none → LI H' p (bnds 0 ks) → Q (.ref p) H') ∧ (∀ H' : Hp, Rs.fits sets ru ⟨left.reverse, right⟩ = none → Same H H' → Q .non H')
def sp_Fit (c : Cs) : Sp := fun vs H Q _ => ∃ (p dx x b : Addr), vs = [.ref p, .ref x, .ref b] ∧ H p = some (.ins c.Fit dx []) ∧ ∀ H' : Hp, H' p = some (.ins c.Fit dx [("rule", .ref x), ("bounds", .ref b)]) → Kp [p] H H' → Q .non H'
def FitAt (c : Cs) (H : Hp) (f : Addr) (ns nm n : Nat) (ru : Rs.Rule) (ks : List Nat) : Prop := ∃ dx x b, H f = some (.ins c.Fit dx [("rule", .ref x), ("bounds", .ref b)]) ∧ RuleAt c H GT ns nm x n ru ∧ LI H b (bnds 0 ks)
def sp_first_fit (c : Cs) : Sp := fun vs H Q _ => ∃ (rl l r s : Addr) (xs : List Addr) (rs : List (Nat × Rs.Rule)) (left right : Rs.Text) (b : Rs.Book) (nm : Nat), vs = [.ref rl, .ref l, .ref r, .ref s] ∧ H rl = some (.lst (xs.map V.ref)) ∧ Paired (fun x q => RuleAt c H GT b.sets.length nm x q.1 q.2) xs rs ∧
  LT H l (tx left) ∧ LT H r (tx right) ∧ SetsAt H s b.sets ∧ (∀ (y : Nat × Rs.Rule × List Nat) (H' : Hp) (f : Addr), Rs.first b ⟨left.reverse, right⟩ rs = some y → Same H H' → FitAt c H' f b.sets.length nm y.1 y.2.1 y.2.2 → Q (.ref f) H') ∧
  (∀ H' : Hp, Rs.first b ⟨left.reverse, right⟩ rs = none → Same H H' → Q .non H')
def sp_Written (c : Cs) : Sp := fun vs H Q _ => ∃ (p dx q : Addr) (n : Int), vs = [.ref p, .ref q, .int n] ∧ H p = some (.ins c.Written dx []) ∧ ∀ H' : Hp, H' p = some (.ins c.Written dx [("row", .ref q), ("cursor", .int n)]) → Kp [p] H H' → Q .non H'
def sp_points_of (K : PySem.W.Frag) : Sp := fun vs H Q _ => ∃ (w bd r m : Addr) (it : List Int) (ks : List Nat) (x : Rs.Cur) (b : Rs.Book), vs = [.ref w, .ref bd, .ref r, .ref m] ∧ SqT K H w (it.map V.int) ∧ LI H bd (bnds 0 ks) ∧ LT H r (tx x.right) ∧ MapsAt H m b.maps ∧ WrOk b.maps.length ks.length it ∧
  Rq.hd it ≠ 6 ∧ x.right.length ≤ 64 ∧ ∀ (pts : List Nat) (H' : Hp) (p : Addr), Rs.writes b ks x (resI it) = some pts → Same H H' → H p = none → LI H' p (pts.map Int.ofNat) → Q (.ref p) H'
def sp_span_of : Sp := fun vs H Q _ => ∃ (t l : Addr) (taken left : Rs.Text), vs = [.ref t, .ref l] ∧ LT H t (tx taken) ∧ LT H l (tx left) ∧ taken.length ≤ 64 ∧
  ∀ (H' : Hp) (p : Addr), Same H H' → H' p = some (.tup [.int (Rs.whence taken left.reverse).1, .int (Rs.whence taken left.reverse).2]) → Q (.ref p) H'
def bsOf (b : Rs.Book) (ru : Rs.Rule) (ks : List Nat) (left right : Rs.Text) : List (Option (List Nat)) := ru.res.map (Rs.writes b ks ⟨left.reverse, right⟩)
def wrT (b : Rs.Book) (ru : Rs.Rule) (ks : List Nat) (left right : Rs.Text) (cs : List Nat) : Rs.Text := cs.map fun q => (⟨q, (Rs.whence (right.take ks.sum) left.reverse).1, (Rs.whence (right.take ks.sum) left.reverse).2⟩ : Rs.P)
def sp_write (c : Cs) : Sp := fun vs H Q _ => ∃ (f l r m : Addr) (n : Nat) (ru : Rs.Rule) (ks : List Nat) (left right : Rs.Text) (b : Rs.Book), vs = [.ref f, .ref l, .ref r, .ref m] ∧ FitAt c H f b.sets.length b.maps.length n ru ks ∧ LT H l (tx left) ∧ LT H r (tx right) ∧ MapsAt H m b.maps ∧
  ks.sum ≤ right.length ∧ ks.length = ru.takes.length ∧ right.length ≤ 64 ∧ ∀ (H' : Hp) (p dx q : Addr), Same H H' → H' p = some (.ins c.Written dx [("row", .ref q), ("cursor", .int (Rs.front (bsOf b ru ks left right)).length)]) →
    LT H' q (tx (wrT b ru ks left right (Rs.front (bsOf b ru ks left right) ++ Rs.back (bsOf b ru ks left right)))) → Q (.ref p) H'
def tf (cap : Int) (l r st : Addr) (v : V) : List (Str × V) := [("cap", .int cap), ("left", .ref l), ("right", .ref r), ("steps", .ref st), ("refusal", v)]
def srow (s : Rs.Step) : List Int := [(s.rule : Int), (s.place : Int), (s.took : Int), (s.gave : Int)]
structure TextAt (c : Cs) (H0 H : Hp) (x : Addr) (cap : Nat) (left right : Rs.Text) (steps : List Rs.Step) (v : V) : Prop where
  ex : ∃ dx l r st, H x = some (.ins c.Rewriting dx (tf cap l r st v)) ∧ LT H l (tx left) ∧ LT H r (tx right) ∧ LT H st (steps.map srow) ∧ l ≠ r ∧ l ≠ st ∧ r ≠ st ∧ H0 l = none ∧ H0 st = none
  nx : H0 x = none
  same : Same H0 H
def sp_Rewriting (K : PySem.W.Frag) (c : Cs) : Sp := fun vs H Q _ => ∃ (x dx a : Addr) (cap : Nat) (ns : List Int), vs = [.ref x, .int cap, .ref a] ∧ H x = some (.ins c.Rewriting dx []) ∧ SqL K H a (ns.map V.int) ∧ ns.length ≤ 64 ∧ (∀ x ∈ ns, 0 ≤ x) ∧
  ∀ (H' : Hp) (l r st : Addr), Kp [x] H H' → H' x = some (.ins c.Rewriting dx (tf cap l r st .non)) → H l = none → H st = none → l ≠ r → l ≠ st → r ≠ st → LT H' l [] → LT H' r (tx (Rs.fresh (ns.map Int.toNat))) → LT H' st [] → Q .non H'
def sp_move_on (c : Cs) : Sp := fun vs H Q _ => ∃ (H0 : Hp) (x : Addr) (cap : Nat) (left right : Rs.Text) (p : Rs.P) (steps : List Rs.Step) (v : V), vs = [.ref x] ∧ TextAt c H0 H x cap left (p :: right) steps v ∧ left.length ≤ 4100 ∧ ∀ H' : Hp, TextAt c H0 H' x cap (left ++ [p]) right steps v → Q .non H'
def sp_begin_again (c : Cs) : Sp := fun vs H Q _ => ∃ (H0 : Hp) (x : Addr) (cap : Nat) (left right : Rs.Text) (steps : List Rs.Step) (v : V), vs = [.ref x] ∧ TextAt c H0 H x cap left right steps v ∧ ∀ H' : Hp, TextAt c H0 H' x cap [] left steps v → Q .non H'
def gaveOf (b : Rs.Book) (ru : Rs.Rule) (ks : List Nat) (left right : Rs.Text) : Rs.Step → Rs.Step := id
def sp_apply_fit (c : Cs) : Sp := fun vs H Q _ => ∃ (H0 : Hp) (x f m : Addr) (cap n : Nat) (left right : Rs.Text) (steps : List Rs.Step) (b : Rs.Book) (ru : Rs.Rule) (ks : List Nat), vs = [.ref x, .ref f, .ref m] ∧ TextAt c H0 H x cap left right steps .non ∧ FitAt c H f b.sets.length b.maps.length n ru ks ∧ MapsAt H m b.maps ∧
  ks.sum ≤ right.length ∧ ks.length = ru.takes.length ∧ right.length ≤ 64 ∧ left.length ≤ 64 ∧ steps.length ≤ 20000 ∧
  (cap < (Rs.applied b ru ks ⟨left.reverse, right⟩).size → ∀ H' : Hp, TextAt c H0 H' x cap left right steps (.int (-5)) → Q .non H') ∧
  ((Rs.applied b ru ks ⟨left.reverse, right⟩).size ≤ cap → ∀ H' : Hp, TextAt c H0 H' x cap (Rs.applied b ru ks ⟨left.reverse, right⟩).left.reverse (Rs.applied b ru ks ⟨left.reverse, right⟩).right
    (steps ++ [⟨n, left.length, ks.sum, (Rs.applied b ru ks ⟨left.reverse, right⟩).size + ks.sum - (left.length + right.length)⟩]) .non → Q .non H')
def EndAt (c : Cs) (H0 H' : Hp) (x : Addr) (cap : Nat) (steps : List Rs.Step) (fin : Rs.Text → Prop) : Rs.End → Prop
  | .over u => fin u
  | .long => ∃ l r, TextAt c H0 H' x cap l r steps (.int (-5))
  | .endless => ∃ l r, TextAt c H0 H' x cap l r steps (.int (-6))
def sp_go_over (c : Cs) : Sp := fun vs H Q _ => ∃ (H0 : Hp) (x bk s m r : Addr) (rs : List Addr) (b : Rs.Book) (cap pn : Nat) (t : Rs.Text) (steps : List Rs.Step), vs = [.ref x, .ref bk, .int pn] ∧ BookAt c H0 bk s m r rs b ∧ TextAt c H0 H x cap [] t steps .non ∧ t.length ≤ cap ∧ cap ≤ 64 ∧ steps.length ≤ 10000 ∧
  ∀ H' : Hp, EndAt c H0 H' x cap (steps ++ (Rp.passW b (Rs.rulesOf b pn) cap (Rs.most t.length) ⟨[], t⟩).1) (fun u => TextAt c H0 H' x cap u [] (steps ++ (Rp.passW b (Rs.rulesOf b pn) cap (Rs.most t.length) ⟨[], t⟩).1) .non) (Rp.passW b (Rs.rulesOf b pn) cap (Rs.most t.length) ⟨[], t⟩).2 → Q .non H'
def sp_rewrite (K : PySem.W.Frag) (c : Cs) : Sp := fun vs H Q _ => ∃ (bk s m r a : Addr) (rs : List Addr) (b : Rs.Book) (cap : Nat) (ns : List Int), vs = [.ref bk, .int cap, .ref a] ∧ BookAt c H bk s m r rs b ∧ SqL K H a (ns.map V.int) ∧ ns.length ≤ cap ∧ cap ≤ 64 ∧ (∀ x ∈ ns, 0 ≤ x) ∧
  ∀ (H' : Hp) (x : Addr), EndAt c H H' x cap (Rp.passesW b cap (List.range 8) (Rs.fresh (ns.map Int.toNat))).1 (fun u => TextAt c H H' x cap [] u (Rp.passesW b cap (List.range 8) (Rs.fresh (ns.map Int.toNat))).1 .non) (Rp.passesW b cap (List.range 8) (Rs.fresh (ns.map Int.toNat))).2 → Q (.ref x) H'
def sp_refusal_of_text (K : PySem.W.Frag) : Sp := fun vs H Q _ => ∃ (a : Addr) (p : Int) (l : List Int), vs = [.int p, .ref a] ∧ SqL K H a (l.map V.int) ∧ l.length ≤ 4100 ∧
  ∀ H' : Hp, Same H H' → Q (if p < 1 ∨ 64 < p then .int (-1) else if p < l.length then .int (-2) else if (l.all fun x => decide (x < 1114112)) = false then .int (-3) else .non) H'
def sp_joined : Sp := fun vs H Q _ => ∃ (a : Addr) (rows : List (List Int)), vs = [.ref a] ∧ LT H a rows ∧ rows.flatten.length ≤ 100000 ∧ ∀ (H' : Hp) (p : Addr), Same H H' → H p = none → LI H' p rows.flatten → Q (.ref p) H'
def sp_apply_rules (K : PySem.W.Frag) (c : Cs) : Sp := fun vs H Q _ => ∃ (bk s m r a : Addr) (rs : List Addr) (b : Rs.State) (p : Int) (l : List Int), vs = [.ref bk, .int p, .ref a] ∧ BookAt c H bk s m r rs b ∧ SqL K H a (l.map V.int) ∧ l.length ≤ 4100 ∧ (∀ x ∈ l, 0 ≤ x) ∧ 0 ≤ p ∧ BkPost c H bk s m r rs b [[7, p], l] Q
def sp_list_steps (K : PySem.W.Frag) (c : Cs) : Sp := fun vs H Q _ => ∃ (bk s m r a : Addr) (rs : List Addr) (b : Rs.State) (p : Int) (l : List Int), vs = [.ref bk, .int p, .ref a] ∧ BookAt c H bk s m r rs b ∧ SqL K H a (l.map V.int) ∧ l.length ≤ 4100 ∧ (∀ x ∈ l, 0 ≤ x) ∧ 0 ≤ p ∧ BkPost c H bk s m r rs b [[8, p], l] Q
def sp_answer_call (K : PySem.W.Frag) (c : Cs) : Sp := fun vs H Q _ => ∃ (bk s m r rd a : Addr) (rs : List Addr) (b : Rs.State) (pl : Nat) (ns rest : List Int) (cl : List (List Int)), vs = [.ref bk, .ref rd] ∧ BookAt c H bk s m r rs b ∧ ReaderAt c H rd a pl ∧ SqL K H a (ns.map V.int) ∧ ns.length ≤ 4100 ∧
  Rb.Ok cl ∧ ns.drop pl = PyFlat.put1 cl ++ rest ∧ (∀ (H' : Hp) (p : Addr) (rs' : List Addr), BookAt c H' bk s m r rs' (RsNeutral.step b cl).1 → ReaderAt c H' rd a (pl + (PyFlat.put1 cl).length) → LI H' p (RsNeutral.step b cl).2 → H p = none → Kp (rd :: s :: m :: r :: rs) H H' → (∀ x ∈ rs', x ∈ rs ∨ H x = none) → Q (.ref p) H')
def sp_answers (K : PySem.W.Frag) : Sp := fun vs H Q _ => ∃ (a : Addr) (l : List Int), vs = [.ref a] ∧ SqL K H a (l.map V.int) ∧ l.length ≤ 4100 ∧ PyWqasap.answers_asked l = true ∧ ∀ (H' : Hp) (p : Addr), LI H' p (PyWqasap.answers l) → Q (.ref p) H'
end Re
end
section
set_option maxHeartbeats 4000000
namespace Re
open PySem PySem.Spec PyProof.Rows L2
open Rm (ElOk WrOk bnds resI)
theorem inI_take {ps : List (Int × Int)} {i : Nat} {n : Int} (h : Rb.inI (ps.take i) n = true) : Rb.inI ps n = true := by
  unfold Rb.inI at h ⊢
  obtain ⟨q, hq, e⟩ := List.any_eq_true.mp h
  exact List.any_eq_true.mpr ⟨q, List.mem_of_mem_take hq, e⟩
theorem Tups.snoc_new {H' : Hp} {ts : List Addr} {row : List (List Int)} {t D : Addr} {it : List Int} {xs : List V} (h : Tups H' ts row) (hD : H' D = some (.lst xs)) (ht : H' t = none) (o : HO) (ho : ∃ ys, o = .lst ys) :
    Tups (upd (upd H' t (.tup (it.map V.int))) D o) (ts ++ [t]) (row ++ [it]) := by
  have htD : D ≠ t := ne_of_none hD ht
  refine Paired.snoc (Paired.mono (fun a b e => ?_) h) ?_
  · rw [upd_ne (ne_of e hD (by intro q; cases q)), upd_ne (ne_of_none e ht)]
    exact e
  · rw [upd_ne (Ne.symm htD), upd_same]
theorem cutV_mid (xs : List V) (i j : Nat) : cutV xs (some (i : Int)) (some (j : Int)) = (xs.drop i).take (j - i) := by
  unfold cutV
  rw [HT.sIx_nat, HT.sIx_nat]
  apply List.ext_getElem?
  intro k
  rw [List.getElem?_take, List.getElem?_take, List.getElem?_drop, List.getElem?_drop]
  by_cases h1 : i ≤ xs.length
  · rw [Nat.min_eq_left h1]
    by_cases h2 : k < min j xs.length - i
    · rw [if_pos h2, if_pos (by omega)]
    · rw [if_neg h2]
      by_cases h3 : k < j - i
      · rw [if_pos h3, List.getElem?_eq_none (by omega)]
      · rw [if_neg h3]
  · rw [if_neg (by omega)]
    by_cases h3 : k < j - i
    · rw [if_pos h3, List.getElem?_eq_none (by omega)]
    · rw [if_neg h3]
theorem cutV_from (xs : List V) (i : Nat) : cutV xs (some (i : Int)) none = xs.drop i := by
  unfold cutV
  rw [HT.sIx_nat, HT.sIx_none]
  apply List.ext_getElem?
  intro k
  rw [List.getElem?_take, List.getElem?_drop, List.getElem?_drop]
  by_cases h1 : i ≤ xs.length
  · rw [Nat.min_eq_left h1]
    by_cases h2 : k < xs.length - i
    · rw [if_pos h2]
    · rw [if_neg h2, List.getElem?_eq_none (by omega)]
  · rw [if_neg (by omega), List.getElem?_eq_none (by omega)]
theorem cutV_to (xs : List V) (j : Nat) : cutV xs none (some (j : Int)) = xs.take j := by
  unfold cutV
  rw [HT.sIx_nat, HT.sIx_none, List.drop_zero, Nat.sub_zero]
  apply List.ext_getElem?
  intro k
  rw [List.getElem?_take, List.getElem?_take]
  by_cases h : k < j
  · rw [if_pos h]
    by_cases h2 : k < xs.length
    · rw [if_pos (by omega)]
    · rw [if_neg (by omega), List.getElem?_eq_none (by omega)]
  · rw [if_neg h, if_neg (by omega)]
theorem sub_whole {n : Nat} {hi : Option Int} (h : n ≠ 0) : ¬ (HT.sIx n 0 (some 1) = 0 ∧ HT.sIx n n hi = n) := by
  rintro ⟨z, _⟩
  have := HT.sIx_nat n 0 1
  rw [show ((1 : Nat) : Int) = 1 from rfl] at this
  omega
theorem at_last {α : Type} {xs : List α} {v : α} (h : xs[xs.length - 1]? = some v) : atI xs (-1) = some v := by
  have hl : 0 < xs.length := by
    have := (List.getElem?_eq_some_iff.mp h).1
    omega
  unfold atI ixN
  rw [if_neg (by decide), if_pos (by omega)]
  have e : (-1 + (xs.length : Int)).toNat = xs.length - 1 := by omega
  rw [e]
  exact h
theorem Tups.drop {H : Hp} : ∀ {ts : List Addr} {row : List (List Int)} (n : Nat), Tups H ts row → Tups H (ts.drop n) (row.drop n)
  | _, _, 0, h => h
  | _, _, _ + 1, .nil => .nil
  | _, _, n + 1, .cons _ t => Tups.drop n t
theorem Tups.app {H : Hp} : ∀ {ts us : List Addr} {row rw : List (List Int)}, Tups H ts row → Tups H us rw → Tups H (ts ++ us) (row ++ rw)
  | _, _, _, _, .nil, h => h
  | _, _, _, _, .cons r t, h => .cons r (Tups.app t h)
theorem Tups.rev {H : Hp} : ∀ {ts : List Addr} {row : List (List Int)}, Tups H ts row → Tups H ts.reverse row.reverse
  | _, _, .nil => .nil
  | _, _, .cons r t => by
    rw [List.reverse_cons, List.reverse_cons]
    exact Paired.snoc (Tups.rev t) r
theorem lc_enum {K : PySem.W.Frag} {a : Addr} {xs : List V} {g : TG} {tt : TT} {te : TE} {vs : List Nat} {σ : L2.St} {H1 : Hp} {D : Addr} {Qd : Hp → Prop} (Pv : Nat → Hp → Prop) (h0 : Pv 0 (upd H1 D (.lst []))) (hl : ∀ i H, i ≤ xs.length → Pv i H → SqL K H a xs)
    (hs : ∀ i x H T, xs[i]? = some x → Pv i H → H T = none → g (.ref T) (wipe σ vs) (upd H T (.tup [.int (i : Nat), x])) fun σ2 H2 => wipe σ2 vs = wipe σ vs ∧ tt σ2 H2 fun b H3 =>
      if b = true then te σ2 H3 fun y H4 => ∃ acc, H4 D = some (.lst acc) ∧ acc.length < sizeLine ∧ Pv (i + 1) (upd H4 D (.lst (acc ++ [y]))) else Pv (i + 1) H3) (hd : ∀ H, Pv xs.length H → Qd H) :
    ∃ W : Nat → Nat → Hp → Prop, (∃ m, W 0 m (upd H1 D (.lst []))) ∧ ∀ i m H, W i m H →
      ((Ite K a).stop i H ∧ Qd H) ∨ ((Ite K a).go i H ∧ ∃ Nx : Hp → Prop, (∀ H', Nx H' → ∃ m', m' < m ∧ W (i + 1) m' H') ∧ ∀ x H', (Ite K a).yld i H x H' → g x (wipe σ vs) H' fun σ2 H2 => wipe σ2 vs = wipe σ vs ∧ tt σ2 H2 fun b H3 =>
        if b = true then te σ2 H3 fun y H4 => ∃ acc, H4 D = some (.lst acc) ∧ acc.length < sizeLine ∧ Nx (upd H4 D (.lst (acc ++ [y]))) else Nx H3) := by
  refine ⟨fun i m H => m = xs.length - i ∧ i ≤ xs.length ∧ Pv i H, ⟨xs.length, by simp, Nat.zero_le _, h0⟩, ?_⟩
  rintro i m H ⟨rfl, hi, p⟩
  have q := hl i H hi p
  by_cases hlt : i < xs.length
  · refine .inr ⟨⟨xs, xs[i], q, by simp [hlt]⟩, Pv (i + 1), fun H' p' => ⟨xs.length - (i + 1), by omega, rfl, hlt, p'⟩, fun x H' y => ?_⟩
    obtain ⟨T, z, rfl, hT, rfl, y⟩ := y
    exact hs i z H T (y xs q) p hT
  · have e : i = xs.length := by omega
    subst e
    exact .inl ⟨⟨xs, q, Nat.le_refl _⟩, hd H p⟩
structure Bd (H H1 : Hp) (x : Addr) : Prop where
  kp : Kp [x] H H1
  fr : ∀ q, H1 q = none → H q = none
theorem Bd.refl (H : Hp) (x : Addr) : Bd H H x := ⟨Kp.refl _ _, fun _ h => h⟩
theorem Bd.st {H H1 : Hp} {x : Addr} {o : HO} (B : Bd H H1 x) : Bd H (upd H1 x o) x := ⟨B.kp.upd (by simp), fun q h => B.fr q (by
  by_cases e : q = x
  · rw [e, upd_same] at h; cases h
  · rw [upd_ne e] at h; exact h)⟩
theorem Bd.al {H H1 : Hp} {x q : Addr} {o : HO} (B : Bd H H1 x) (hq : H1 q = none) : Bd H (upd H1 q o) x := ⟨B.kp.new hq, fun r h => B.fr r (by
  by_cases e : r = q
  · rw [e, upd_same] at h; cases h
  · rw [upd_ne e] at h; exact h)⟩
theorem Bd.sm {H H1 H2 : Hp} {x : Addr} (B : Bd H H1 x) (s : Same H1 H2) : Bd H H2 x := ⟨B.kp.trans (Kp.of_same s), fun q h => B.fr q (s.free h)⟩
theorem LT.st {H : Hp} {a x C dx : Addr} {fs : List (Str × V)} {row : List (List Int)} {o : HO} (h : LT H a row) (hx : H x = some (.ins C dx fs)) : LT (upd H x o) a row := by
  obtain ⟨ts, h1, h2⟩ := h
  refine ⟨ts, (upd_ne (ne_of h1 hx (by intro q; cases q))).trans h1, Paired.mono (fun t it e => ?_) h2⟩
  rw [upd_ne (ne_of e hx (by intro q; cases q))]
  exact e
theorem sqL_of {K : PySem.W.Frag} {H H1 : Hp} {a : Addr} {xs : List V} (hS : SqL K H a xs) (k : ∀ o, H a = some o → H1 a = some o) : SqL K H1 a xs := by
  rcases hS with (q | ⟨o, q⟩) | q
  · exact .inl (.inl (k _ q))
  · exact .inl (.inr ⟨o, k _ q⟩)
  · exact .inr q
theorem sqL_ins {K : PySem.W.Frag} {H H1 : Hp} {a x C dx : Addr} {fs : List (Str × V)} {xs : List V} (hS : SqL K H a xs) (hx : H x = some (.ins C dx fs)) (k1 : Kp [x] H H1) : SqL K H1 a xs := by
  rcases hS with (q | ⟨o, q⟩) | q
  · exact .inl (.inl (k1.one q (ne_of q hx (by intro z; cases z))))
  · exact .inl (.inr ⟨o, k1.one q (ne_of q hx (by intro z; cases z))⟩)
  · exact .inr q
end Re
end
section
set_option maxHeartbeats 4000000
namespace Re
open PySem PySem.Spec PyProof.Rows L2
open Rm (ElOk WrOk bnds resI)
theorem val_ints : ∀ (ps : List (Int × Int)) (n : Int), (valV (ps.map fun q => ((Sum.inl q.1 : Key), V.int q.2)) (Sum.inl n : Key)).getD (V.int n) = V.int (Rb.mapI ps n)
  | [], n => rfl
  | q :: ps, n => by
    have ih := val_ints ps n
    rw [List.map_cons]
    unfold Rb.mapI at ih ⊢
    rw [List.find?_cons]
    by_cases e : q.1 = n
    · rw [valV_pos (congrArg Sum.inl e), decide_eq_true e]
      rfl
    · rw [valV_neg (fun z => e (Sum.inl.inj z)), decide_eq_false e]
      exact ih
theorem mapI_nonneg (ps : List (Int × Int)) (n : Int) (h : ∀ p ∈ ps, 0 ≤ p.1 ∧ 0 ≤ p.2) (hn : 0 ≤ n) : 0 ≤ Rb.mapI ps n := by
  unfold Rb.mapI
  split
  · rename_i p hp
    exact (h p (List.mem_of_find?_eq_some hp)).2
  · exact hn
theorem map_get {H : Hp} {a : Addr} {l : Rs.Pairs} (h : MapAt H a l) (n : Int) (hn : 0 ≤ n) : IsD H a ∧ ∃ o, DGet H a (.int n) o ∧ o.getD (V.int n) = V.int (Rs.mapped l n.toNat : Nat) := by
  obtain ⟨ps, h1, h2, h3⟩ := h
  refine ⟨.inl ⟨_, .inl h3⟩, _, DGet.k (k := Sum.inl n) h3, ?_⟩
  rw [val_ints, h1, Rb.mapI_eq ps n h2 hn, Int.toNat_of_nonneg (mapI_nonneg ps n h2 hn)]
theorem tx_drop (t : Rs.Text) (n : Nat) : (tx t).drop n = tx (t.drop n) := by unfold tx; rw [List.map_drop]
theorem tx_take (t : Rs.Text) (n : Nat) : (tx t).take n = tx (t.take n) := by unfold tx; rw [List.map_take]
def col (z : Nat) (row : List (List Int)) : List Int := row.map fun it => it.getD z 0
theorem col0 (t : Rs.Text) : col 0 (tx t) = t.map fun p => (p.c : Int) := by unfold col tx; rw [List.map_map]; rfl
theorem col1 (t : Rs.Text) : col 1 (tx t) = t.map fun p => (p.from_ : Int) := by unfold col tx; rw [List.map_map]; rfl
theorem col2 (t : Rs.Text) : col 2 (tx t) = t.map fun p => (p.to : Int) := by unfold col tx; rw [List.map_map]; rfl
theorem lc_col {K : PySem.W.Frag} {i z : Nat} {σ : L2.St} {H : Hp} {a : Addr} {row : List (List Int)} {Q : VK} (hA : LT H a row) (hz : ∀ it ∈ row, z < it.length) (hlen : row.length ≤ 4100) (hi : i < σ.length)
    (k : ∀ D, H D = none → LI (upd H D (.lst ((col z row).map V.int))) D (col z row) → Q (.ref D) (upd H D (.lst ((col z row).map V.int)))) (wi : TI) (hw : ∀ R, R (Itl K a) H → wi σ H R) :
    tLc wi (gName i) tYes (tOp (rIxT K) (tVar i) (tC (V.int z))) [i] σ H Q := by
  obtain ⟨ts, hA, hT⟩ := hA
  have hlt := hT.len
  refine hw _ fun D hD => ?_
  refine lc_ix (xs := ts.map V.ref) (fun _ => true) (fun j => V.int ((row.getD j []).getD z 0)) hD (SqL.of hA) (by rw [List.length_map, sizeLine_eq]; omega) ?_ ?_
  · intro j x acc N hx hacc h1 h2
    obtain ⟨t, ht, rfl⟩ := ref_at hx
    obtain ⟨it, hit, hH⟩ := hT.get ht
    have h1 := h1 rfl
    rw [getD_of hit] at h1
    have hzi := hz it (List.mem_of_getElem? hit)
    have hg : ((wipe σ [i]).set i (some (V.ref t)))[i]? = some (some (V.ref t)) := by
      rw [List.getElem?_set_self (by rw [show (wipe σ [i]).length = σ.length from by simp [wipe]]; exact hi)]
    refine ⟨by simp [wipe], ?_⟩
    simp only [tYes, if_true]
    refine ⟨V.ref t, hg, t, _, z, V.int (it.getD z 0), rfl, rfl, SqT.of ((upd_ne (ne_of_none hH hD)).trans hH), at_of (j := z) rfl (map_at V.int (by rw [List.getElem?_eq_getElem hzi, List.getD_eq_getElem?_getD, List.getElem?_eq_getElem hzi]; rfl)), acc, upd_same, hacc, ?_⟩
    rw [upd_upd]
    exact h1
  · rw [List.length_map, hlt, range_map [] row (fun it => V.int (it.getD z 0)) (fun i _ => rfl)]
    have e : (row.map fun it => V.int (it.getD z 0)) = (col z row).map V.int := by unfold col; rw [List.map_map]; rfl
    rw [e]
    exact k D hD upd_same
theorem writes_len {b : Rs.Book} {ks : List Nat} {x : Rs.Cur} {r : Rs.Res} {pts : List Nat} (h : Rs.writes b ks x r = some pts) (h64 : x.right.length ≤ 64) : pts.length ≤ 64 := by
  have hp : ∀ k, (Rs.piece ks x k).length ≤ 64 := fun k => by
    unfold Rs.piece
    rw [List.length_map, List.length_take, List.length_drop]
    omega
  cases r with
  | put c => cases h; show 1 ≤ 64; decide
  | copy k => cases h; exact hp k
  | mapped k m => cases h; rw [List.length_map]; exact hp k
  | cursor => cases h
theorem TextAt.keep {c : Cs} {H0 H H1 : Hp} {x : Addr} {cap : Nat} {left right : Rs.Text} {steps : List Rs.Step} {v : V} (h : TextAt c H0 H x cap left right steps v) (s : Same H H1) : TextAt c H0 H1 x cap left right steps v := by
  obtain ⟨⟨dx, l, r, st, hx, hl, hr1, hst, nlr, nls, nrs, nl0, ns0⟩, nx, s0⟩ := h
  exact ⟨⟨dx, l, r, st, s _ _ hx, hl.same s, hr1.same s, hst.same s, nlr, nls, nrs, nl0, ns0⟩, nx, s0.trans s⟩
theorem TextAt.weak {c : Cs} {H0 H00 H : Hp} {x : Addr} {cap : Nat} {left right : Rs.Text} {steps : List Rs.Step} {v : V} (h : TextAt c H00 H x cap left right steps v) (s : Same H0 H00) : TextAt c H0 H x cap left right steps v := by
  obtain ⟨⟨dx, l, r, st, hx, hl, hr1, hst, nlr, nls, nrs, nl0, ns0⟩, nx, s0⟩ := h
  exact ⟨⟨dx, l, r, st, hx, hl, hr1, hst, nlr, nls, nrs, s.free nl0, s.free ns0⟩, s.free nx, s.trans s0⟩
theorem TextAt.more {c : Cs} {H0 H : Hp} {x D : Addr} {cap : Nat} {left right : Rs.Text} {steps : List Rs.Step} {v : V} {o : HO} (h : TextAt c H0 H x cap left right steps v) (hD : H D = none) : TextAt c (upd H0 D o) (upd H D o) x cap left right steps v := by
  obtain ⟨⟨dx, l, r, st, hx, hl, hr1, hst, nlr, nls, nrs, nl0, ns0⟩, nx, s0⟩ := h
  have s : Same H (upd H D o) := same_new hD
  have nl : l ≠ D := by obtain ⟨ts, e, _⟩ := hl; exact ne_of_none e hD
  have ns : st ≠ D := by obtain ⟨ts, e, _⟩ := hst; exact ne_of_none e hD
  refine ⟨⟨dx, l, r, st, s _ _ hx, hl.same s, hr1.same s, hst.same s, nlr, nls, nrs, by rw [upd_ne nl]; exact nl0, by rw [upd_ne ns]; exact ns0⟩, by rw [upd_ne (ne_of_none hx hD)]; exact nx, fun a u e => ?_⟩
  by_cases q : a = D
  · rw [q, upd_same] at e ⊢; exact e
  · rw [upd_ne q] at e ⊢; exact s0 _ _ e
theorem paired_map {α β : Type} {F : α → β → Prop} {f : Nat → α} {g : Nat → β} : ∀ {l : List Nat}, (∀ i ∈ l, F (f i) (g i)) → Paired F (l.map f) (l.map g)
  | [], _ => .nil
  | a :: l, h => .cons (h a (by simp)) (paired_map fun i hi => h i (by simp [hi]))
theorem first_fits {b : Rs.Book} {x : Rs.Cur} : ∀ {l : List (Nat × Rs.Rule)} {y : Nat × Rs.Rule × List Nat}, Rs.first b x l = some y → Rs.fits b.sets y.2.1 x = some y.2.2
  | [], y, h => by cases h
  | q :: l, y, h => by
    rw [Rm.first_cons] at h
    cases e : Rs.fits b.sets q.2 x with
    | some ks =>
      rw [e] at h
      have e2 := Option.some.inj h
      subst e2
      exact e
    | none =>
      rw [e] at h
      exact first_fits h
theorem TextAt.refuse {c : Cs} {H0 H : Hp} {x : Addr} {cap : Nat} {left right : Rs.Text} {steps : List Rs.Step} {v : V} (h : TextAt c H0 H x cap left right steps v) (v' : V) :
    ∃ dx l r st, H x = some (.ins c.Rewriting dx (tf cap l r st v)) ∧ TextAt c H0 (upd H x (.ins c.Rewriting dx (tf cap l r st v'))) x cap left right steps v' := by
  obtain ⟨⟨dx, l, r, st, hx, hl, hr1, hst, nlr, nls, nrs, nl0, ns0⟩, nx, s0⟩ := h
  exact ⟨dx, l, r, st, hx, ⟨dx, l, r, st, upd_same, hl.st hx, hr1.st hx, hst.st hx, nlr, nls, nrs, nl0, ns0⟩, nx, same_own s0 nx⟩
end Re
end
section
set_option maxHeartbeats 4000000
namespace Re
open PySem PySem.Spec PyProof.Rows L2
open Rm (ElOk WrOk bnds resI)
theorem RuleAt.kp1 {c : Cs} {H H' : Hp} {G : Addr → Prop} {ns nm ns' nm' n : Nat} {x s : Addr} {ru : Rs.Rule} {xs : List V} (h : RuleAt c H G ns nm x n ru) (hs : H s = some (.lst xs)) (hG : ∀ a, G a → a ≠ s) (k : Kp [s] H H') (h1 : ns ≤ ns') (h2 : nm ≤ nm') : RuleAt c H' G ns' nm' x n ru := by
  obtain ⟨dx, b, m, a, w, eb, em, ea, ew, g1, g2, g3, g4, g5, ⟨gb, gm, ga, gw⟩, R⟩ := h
  have nt : ∀ f ∈ [s], ∀ ys, H f ≠ some (.tup ys) := fun f hf ys e => by
    rw [List.mem_singleton.mp hf, hs] at e
    cases e
  have ni : ∀ {a}, G a → a ∉ [s] := fun {a} ga => by simpa using hG a ga
  exact ⟨dx, b, m, a, w, eb, em, ea, ew, k.one g1 (ne_of g1 hs (by intro z; cases z)), g2.kp (ni gb) nt k, g3.kp (ni gm) nt k, g4.kp (ni ga) nt k, g5.kp (ni gw) nt k, ⟨gb, gm, ga, gw⟩, R.mono h1 h2⟩
theorem SetAt.kp1 {H H' : Hp} {a s : Addr} {l : Rs.Ranges} {xs : List V} (h : SetAt H a l) (hs : H s = some (.lst xs)) (ha : a ≠ s) (k : Kp [s] H H') : SetAt H' a l := by
  obtain ⟨ps, h1, h2, h3⟩ := h
  refine ⟨ps, h1, h2, h3.kp (by simpa using ha) (fun f hf ys e => ?_) k⟩
  rw [List.mem_singleton.mp hf, hs] at e
  cases e
theorem MapAt.kp1 {H H' : Hp} {a s : Addr} {l : Rs.Pairs} {xs : List V} (h : MapAt H a l) (hs : H s = some (.lst xs)) (k : Kp [s] H H') : MapAt H' a l := by
  obtain ⟨ps, h1, h2, h3⟩ := h
  exact ⟨ps, h1, h2, k.one h3 (ne_of h3 hs (by intro z; cases z))⟩
theorem kp_upd {H : Hp} {s : Addr} {o : HO} : Kp [s] H (upd H s o) := (Kp.refl _ _).upd (by simp)
theorem BookAt.addSet {c : Cs} {H : Hp} {bk s m r p : Addr} {rs as : List Addr} {b : Rs.State} {l : Rs.Ranges} (B : BookAt c H bk s m r rs b) (hs : H s = some (.lst (as.map V.ref))) (hp : SetAt H p l) (hpn : p ∉ [s, m, r]) (hf : b.sets.length < 32) :
    BookAt c (upd H s (.lst (as.map V.ref ++ [V.ref p]))) bk s m r rs ⟨b.sets ++ [l], b.maps, b.rules⟩ := by
  obtain ⟨⟨dx, h1⟩, h2, h3, h4, ⟨as', h5, h5'⟩, ⟨am, h6, h6'⟩, h7, h8, h9, h10, h11⟩ := B
  have e : as' = as := by
    rw [hs] at h5
    have := HO.lst.inj (Option.some.inj h5)
    exact ((List.map_inj_right (fun a b q => V.ref.inj q)).mp this).symm
  subst e
  refine ⟨⟨dx, (upd_ne (ne_of h1 hs (by intro z; cases z))).trans h1⟩, h2, h3, h4, ⟨as' ++ [p], by rw [upd_same, List.map_append]; rfl, ?_⟩, ⟨am, (upd_ne (Ne.symm h2)).trans h6, Paired.mono (fun _ _ q => q.kp1 hs kp_upd) h6'⟩, (upd_ne (Ne.symm h3)).trans h7, fun j x e => ?_, h9, h10, ?_⟩
  · refine Paired.snoc (Paired.mono (fun a l q => ⟨q.1.kp1 hs (fun z => q.2 (by simp [z])) kp_upd, q.2⟩) h5') ⟨hp.kp1 hs (fun z => hpn (by simp [z])) kp_upd, hpn⟩
  · obtain ⟨ru, e1, e2⟩ := h8 j x e
    exact ⟨ru, e1, e2.kp1 hs (fun a ga z => ga (by simp [z])) kp_upd (by simp) (Nat.le_refl _)⟩
  · refine ⟨?_, h11.2.1, h11.2.2⟩
    rw [List.length_append, List.length_singleton]
    omega
theorem BookAt.addMap {c : Cs} {H : Hp} {bk s m r p : Addr} {rs as : List Addr} {b : Rs.State} {l : Rs.Pairs} (B : BookAt c H bk s m r rs b) (hs : H m = some (.lst (as.map V.ref))) (hp : MapAt H p l) (hf : b.maps.length < 16) :
    BookAt c (upd H m (.lst (as.map V.ref ++ [V.ref p]))) bk s m r rs ⟨b.sets, b.maps ++ [l], b.rules⟩ := by
  obtain ⟨⟨dx, h1⟩, h2, h3, h4, ⟨as', h5, h5'⟩, ⟨am, h6, h6'⟩, h7, h8, h9, h10, h11⟩ := B
  have e : am = as := by
    rw [hs] at h6
    have := HO.lst.inj (Option.some.inj h6)
    exact ((List.map_inj_right (fun a b q => V.ref.inj q)).mp this).symm
  subst e
  refine ⟨⟨dx, (upd_ne (ne_of h1 hs (by intro z; cases z))).trans h1⟩, h2, h3, h4, ⟨as', (upd_ne h2).trans h5, Paired.mono (fun a l q => ⟨q.1.kp1 hs (fun z => q.2 (by simp [z])) kp_upd, q.2⟩) h5'⟩, ⟨am ++ [p], by rw [upd_same, List.map_append]; rfl, Paired.snoc (Paired.mono (fun _ _ q => q.kp1 hs kp_upd) h6') (hp.kp1 hs kp_upd)⟩, (upd_ne (Ne.symm h4)).trans h7, fun j x e => ?_, h9, h10, ?_⟩
  · obtain ⟨ru, e1, e2⟩ := h8 j x e
    exact ⟨ru, e1, e2.kp1 hs (fun a ga z => ga (by simp [z])) kp_upd (Nat.le_refl _) (by simp)⟩
  · refine ⟨h11.1, ?_, h11.2.2⟩
    rw [List.length_append, List.length_singleton]
    omega
theorem BookAt.addRule {c : Cs} {H : Hp} {bk s m r x : Addr} {rs : List Addr} {b : Rs.State} {ru : Rs.Rule} (B : BookAt c H bk s m r rs b) (hx : x ∉ rs) (hp : RuleAt c H (fun a => a ∉ [s, m, r]) b.sets.length b.maps.length x b.rules.length ru) (hf : b.rules.length < 64) :
    BookAt c (upd H r (.lst (rs.map V.ref ++ [V.ref x]))) bk s m r (rs ++ [x]) ⟨b.sets, b.maps, b.rules ++ [ru]⟩ := by
  obtain ⟨⟨dx, h1⟩, h2, h3, h4, ⟨as', h5, h5'⟩, ⟨am, h6, h6'⟩, h7, h8, h9, h10, h11⟩ := B
  refine ⟨⟨dx, (upd_ne (ne_of h1 h7 (by intro z; cases z))).trans h1⟩, h2, h3, h4, ⟨as', (upd_ne h3).trans h5, Paired.mono (fun a l q => ⟨q.1.kp1 h7 (fun z => q.2 (by simp [z])) kp_upd, q.2⟩) h5'⟩, ⟨am, (upd_ne h4).trans h6, Paired.mono (fun _ _ q => q.kp1 h7 kp_upd) h6'⟩, by rw [upd_same, List.map_append]; rfl, fun j y e => ?_, by rw [List.length_append, List.length_append, h9]; rfl, nd_snoc h10 hx, ?_⟩
  · by_cases hj : j < rs.length
    · rw [List.getElem?_append_left hj] at e
      obtain ⟨ru', e1, e2⟩ := h8 j y e
      exact ⟨ru', by rw [List.getElem?_append_left (by omega)]; exact e1, e2.kp1 h7 (fun a ga z => ga (by simp [z])) kp_upd (Nat.le_refl _) (Nat.le_refl _)⟩
    · have hj2 : j = rs.length := by
        have := (List.getElem?_eq_some_iff.mp e).1
        rw [List.length_append, List.length_singleton] at this
        omega
      subst hj2
      rw [List.getElem?_append_right (Nat.le_refl _), Nat.sub_self] at e
      have e := Option.some.inj e
      subst e
      refine ⟨ru, by rw [List.getElem?_append_right (by omega), h9, Nat.sub_self]; rfl, ?_⟩
      rw [h9]
      exact hp.kp1 h7 (fun a ga z => ga (by simp [z])) kp_upd (Nat.le_refl _) (Nat.le_refl _)
  · refine ⟨h11.1, h11.2.1, ?_⟩
    rw [List.length_append, List.length_singleton]
    omega
theorem merge_nodup : ∀ (more acc : List (Key × V)), ((acc ++ more).map (·.1)).Nodup → mergeK acc more = acc ++ more
  | [], acc, _ => by rw [List.append_nil]; rfl
  | q :: more, acc, h => by
    have e : acc ++ q :: more = (acc ++ [q]) ++ more := by rw [List.append_assoc]; rfl
    have hn : valV acc q.1 = none := by
      cases hv : valV acc q.1 with
      | none => rfl
      | some v =>
        have := valV_in hv
        rw [List.map_append, List.nodup_append] at h
        exact absurd rfl (h.2.2 q.1 this q.1 (by simp))
    show mergeK (putK acc q.1 q.2) more = _
    rw [putK_new q.2 hn, e]
    exact merge_nodup more (acc ++ [q]) (by rw [← e]; exact h)
theorem putK_len (acc : List (Key × V)) (k : Key) (v : V) : (putK acc k v).length ≤ acc.length + 1 := by
  unfold putK
  split
  · rw [List.length_map]; omega
  · rw [List.length_append]; exact Nat.le_refl _
theorem merge_le : ∀ (more acc : List (Key × V)), (mergeK acc more).length ≤ acc.length + more.length
  | [], acc => Nat.le_refl _
  | q :: more, acc => by
    have h1 := merge_le more (putK acc q.1 q.2)
    have h2 := putK_len acc q.1 q.2
    show (mergeK (putK acc q.1 q.2) more).length ≤ _
    rw [List.length_cons]
    omega
theorem merge_dup : ∀ (more acc : List (Key × V)), (acc.map (·.1)).Nodup → ¬ ((acc ++ more).map (·.1)).Nodup → (mergeK acc more).length < acc.length + more.length
  | [], acc, h, hn => by rw [List.append_nil] at hn; exact absurd h hn
  | q :: more, acc, h, hn => by
    have e : acc ++ q :: more = (acc ++ [q]) ++ more := by rw [List.append_assoc]; rfl
    show (mergeK (putK acc q.1 q.2) more).length < _
    rw [List.length_cons]
    cases hv : valV acc q.1 with
    | none =>
      rw [putK_new q.2 hv]
      have hd : ((acc ++ [q]).map (·.1)).Nodup := by
        rw [List.map_append]
        exact nd_snoc h (valV_not hv)
      have := merge_dup more (acc ++ [q]) hd (by rw [← e]; exact hn)
      rw [List.length_append, List.length_singleton] at this
      have e2 : (q.1, q.2) = q := rfl
      rw [e2]
      omega
    | some v =>
      have h1 := merge_le more (putK acc q.1 q.2)
      have h2 : (putK acc q.1 q.2).length = acc.length := by
        unfold putK
        rw [if_pos (by rw [valV_any, hv]; rfl), List.length_map]
      omega
theorem BkPost.un {c : Cs} {H : Hp} {bk s m r : Addr} {rs : List Addr} {b : Rs.State} {cl : List (List Int)} {Q : VK} (k : BkPost c H bk s m r rs b cl Q) (B : BookAt c H bk s m r rs b) {H' : Hp} {q : Addr} {ans : List Int} (e : RsNeutral.step b cl = (b, ans)) (sm : Same H H') (nq : H q = none) (hq : LI H' q ans) : Q (.ref q) H' := by
  refine k H' q rs ?_ ?_ nq (Kp.of_same sm) (fun x hx => .inl hx)
  · rw [e]; exact B.same sm
  · rw [e]; exact hq
theorem BkPost.one {c : Cs} {H : Hp} {bk s m r : Addr} {rs : List Addr} {b : Rs.State} {cl : List (List Int)} {Q : VK} (k : BkPost c H bk s m r rs b cl Q) (B : BookAt c H bk s m r rs b) {H1 : Hp} {z : Int} (e : RsNeutral.step b cl = (b, [z])) (sm : Same H H1) :
    1 ≤ sizeLine ∧ ∀ p, H1 p = none → Q (.ref p) (upd H1 p (.lst [V.int z])) :=
  ⟨by decide, fun p hp => k.un B e (sm.trans (same_new hp)) (sm.free hp) upd_same⟩
theorem BookAt.turn {c : Cs} {H : Hp} {bk s m r a : Addr} {rs : List Addr} {b : Rs.State} {j : Nat} {ru : Rs.Rule} {dx pb pm pa pw : Addr} {on : Bool} (B : BookAt c H bk s m r rs b) (hj : rs[j]? = some a) (hru : b.rules[j]? = some ru) (ha : H a = some (.ins c.Rule dx (rf j ru.pass pb pm pa pw ru.on))) :
    BookAt c (upd H a (.ins c.Rule dx (rf j ru.pass pb pm pa pw on))) bk s m r rs ⟨b.sets, b.maps, b.rules.set j { ru with on := on }⟩ := by
  obtain ⟨⟨dxb, h1⟩, h2, h3, h4, ⟨as', h5, h5'⟩, ⟨am, h6, h6'⟩, h7, h8, h9, h10, h11⟩ := B
  have nba : bk ≠ a := ne_of h1 ha (by
    intro z
    have := congrArg (fun o => match o with | HO.ins _ _ fs => fs.length | _ => 0) z
    simp [rf] at this)
  have q5 : Paired (fun x l => SetAt (upd H a (.ins c.Rule dx (rf j ru.pass pb pm pa pw on))) x l ∧ x ∉ [s, m, r]) as' b.sets := Paired.mono (fun x l q => by
    obtain ⟨⟨ps, g1, g2, g3⟩, g4⟩ := q
    exact ⟨⟨ps, g1, g2, g3.st ha⟩, g4⟩) h5'
  have q6 : Paired (MapAt (upd H a (.ins c.Rule dx (rf j ru.pass pb pm pa pw on)))) am b.maps := Paired.mono (fun x l q => by
    obtain ⟨ps, g1, g2, g3⟩ := q
    exact ⟨ps, g1, g2, (upd_ne (ne_of g3 ha (by intro z; cases z))).trans g3⟩) h6'
  refine ⟨⟨dxb, (upd_ne nba).trans h1⟩, h2, h3, h4, ⟨as', (upd_ne (ne_of h5 ha (by intro z; cases z))).trans h5, q5⟩, ⟨am, (upd_ne (ne_of h6 ha (by intro z; cases z))).trans h6, q6⟩, (upd_ne (ne_of h7 ha (by intro z; cases z))).trans h7, fun i y e => ?_, by rw [List.length_set]; exact h9, h10, by rw [List.length_set]; exact h11⟩
  · obtain ⟨ru', e1, e2⟩ := h8 i y e
    by_cases hij : i = j
    · subst hij
      have ey : y = a := Option.some.inj (e.symm.trans hj)
      have er : ru' = ru := Option.some.inj (e1.symm.trans hru)
      subst ey er
      obtain ⟨dx', pb', pm', pa', pw', eb, em, ea, ew, g1, g2, g3, g4, g5, g6, R⟩ := e2
      rw [ha] at g1
      have g1 := HO.ins.inj (Option.some.inj g1)
      have gf := g1.2.2
      unfold rf at gf
      simp only [List.cons.injEq, Prod.mk.injEq, V.ref.injEq, true_and, and_true] at gf
      obtain ⟨rfl, rfl, rfl, rfl⟩ := gf
      refine ⟨_, List.getElem?_set_self (List.getElem?_eq_some_iff.mp hru).1, dx, pb, pm, pa, pw, eb, em, ea, ew, upd_same, g2.st ha, g3.st ha, g4.st ha, g5.st ha, g6, ⟨R.bef, R.mat, R.aft, R.wri, R.okb, R.okm, R.oka, R.okw, R.cur, R.few⟩⟩
    · have nya : y ≠ a := fun q => hij (nd_ix h10 e (by rw [q]; exact hj))
      obtain ⟨dx', pb', pm', pa', pw', eb, em, ea, ew, g1, g2, g3, g4, g5, g6, R⟩ := e2
      exact ⟨ru', by rw [List.getElem?_set_ne (fun q => hij q.symm)]; exact e1, dx', pb', pm', pa', pw', eb, em, ea, ew, (upd_ne nya).trans g1, g2.st ha, g3.st ha, g4.st ha, g5.st ha, g6, R⟩
theorem paired_conv {α β γ δ : Type} {F : α → γ → Prop} {F' : α → δ → Prop} {g : β → γ} {g' : β → δ} (hc : ∀ a q, F a (g q) → F' a (g' q)) : ∀ {ps : List β} {ts : List α}, Paired F ts (ps.map g) → Paired F' ts (ps.map g')
  | [], _, .nil => .nil
  | _ :: _, _, .cons h t => .cons (hc _ _ h) (paired_conv hc t)
theorem nodup_inl (l : List Int) : (l.map fun z => (Sum.inl z : Key)).Nodup ↔ l.Nodup := by
  unfold List.Nodup
  rw [List.pairwise_map]
  constructor
  · exact fun h => h.imp fun q e => q (congrArg Sum.inl e)
  · exact fun h => h.imp fun q e => q (Sum.inl.inj e)
end Re
end
section
set_option maxHeartbeats 4000000
namespace Re
open PySem PySem.Spec PyProof.Rows L2
open Rm (ElOk WrOk bnds resI)
section
variable {P : Program} {w : World} {K : PySem.W.Frag} {mg : Str → Option Value} {base : Heap} {Sz f : Addr} {fd : FuncData} {c : Cs}
abbrev s_are_code_points : Stmt := top 3
theorem sc_are_code_points : FnScope ["numbers", "number"] ["numbers"] (defScope s_are_code_points) := ⟨rfl, rfl, rfl, by decide +kernel, rfl, by decide +kernel, by decide +kernel⟩
theorem ok_are_code_points (F : Fun K "are_code_points" "are_code_points" s_are_code_points f fd) (T : Txt K mg Sz) (c_is_code_point : Cal P w K mg base 1 "is_code_point" ["number"] sp_is_code_point) : FnOk P w K mg base CX0 2 f fd ["numbers"] (sp_are_code_points K) := by
  refine F.ok sc_are_code_points (fun vs H Q E h => ?_) (fun cdv A outer s H vs Q E hr h => ?_)
  · obtain ⟨a, ns, rfl, _⟩ := h
    rfl
  · obtain ⟨a, ns, rfl, hS, hlen, k⟩ := h
    refine ⟨_, (pss_one (ps_ret (pe_callB (r := rAll K) (cr_all rfl) (by rfl) T.b_all boot_all (pa_cons (pe_lc rfl sc_are_code_points.nd (pi_listK (K := K) rfl (pv 0)) (blkOk_by (N := ["numbers", "number"]) (sc := defScope s_are_code_points) (own := [("number", 1)]) (by decide +kernel)) (fun _ _ _ _ _ => (pg_name (i := 1) sc_are_code_points.nd rfl (Or.inl rfl))) (fun _ _ _ _ _ => pts_nil) (fun _ _ _ _ _ => (pe_fun (sp := sp_is_code_point) c_is_code_point hr (pa_cons (pv 1) pa_nil)))) pa_nil)))), ?_⟩
    refine ⟨_, rfl, a, rfl, ⟨_, hS⟩, fun D hD => lc_ix (xs := ns.map V.int) (fun _ => true) (fun i => V.bl (decide (ns.getD i 0 < 1114112))) hD hS (by rw [List.length_map, sizeLine_eq]; omega) ?_ ?_⟩
    · intro i x acc N hx hacc h1 h2
      obtain ⟨z, hz, rfl⟩ := int_at hx
      simp only [gName, tVar, tCons, tNil, tCall, L2.start, List.map_cons, List.map_nil, List.length_cons, List.length_nil, List.replicate, List.cons_append, List.nil_append, List.append_nil, List.getElem?_cons_zero, List.getElem?_cons_succ, List.set_cons_zero, List.set_cons_succ, Option.some.injEq, V.int.injEq, List.cons.injEq, and_true, true_and, exists_eq_left', Nat.reduceSub, Nat.reduceAdd,  if_true, tYes, wipe, sp_is_code_point]
      refine ⟨acc, upd_same, hacc, ?_⟩
      rw [upd_upd]
      have h1 := h1 rfl
      rw [getD_of hz] at h1
      exact h1
    · rw [List.length_map, range_map 0 ns (fun z => V.bl (decide (z < 1114112))) (fun i _ => rfl)]
      refine ⟨D, ns.map fun z => decide (z < 1114112), rfl, SqL.of (by rw [upd_same, List.map_map]; rfl), ?_⟩
      have e : (ns.map fun z => decide (z < 1114112)).all id = ns.all fun z => decide (z < 1114112) := by rw [List.all_map]; rfl
      rw [e]
      exact k _ (same_new hD)
abbrev s_in_ranges : Stmt := top 6
theorem sc_in_ranges : FnScope ["point", "ranges", "first", "last"] ["point", "ranges"] (defScope s_in_ranges) := ⟨rfl, rfl, rfl, by decide +kernel, rfl, by decide +kernel, by decide +kernel⟩
theorem ok_in_ranges (F : Fun K "in_ranges" "in_ranges" s_in_ranges f fd) (T : Txt K mg Sz) : FnOk P w K mg base CX0 1 f fd ["point", "ranges"] sp_in_ranges := by
  refine F.ok sc_in_ranges (fun vs H Q E h => ?_) (fun cdv A outer s H vs Q E hr h => ?_)
  · obtain ⟨a, ps, n, rfl, _⟩ := h
    rfl
  · obtain ⟨a, ps, n, rfl, hL, k⟩ := h
    obtain ⟨ts, hA, hT⟩ := hL
    have hlt := hT.len
    refine ⟨_, (pss_cons (ps_for PassesOwn.never rfl (pi_listK (K := K) rfl (pv 1)) (pg_tupK (K := K) (nn := 2) rfl rfl (pgs_cons (pg_name (i := 2) sc_in_ranges.nd rfl (Or.inl rfl)) (pgs_cons (pg_name (i := 3) sc_in_ranges.nd rfl (Or.inl rfl)) pgs_nil))) (pss_one (ps_if (pt_chain op_le op_le (pv 2) (pv 0) (pv 3)) (pss_one (ps_ret pe_bl)) pss_nil)))
  (pss_one (ps_ret pe_bl))), ?_⟩
    refine ⟨_, rfl, a, rfl, ⟨_, SqL.of hA⟩, for_list (xs := ts.map V.ref) (fun i σ H' => (∃ v3 v4, σ = [some (.int n), some (.ref a), v3, v4]) ∧ H' = H ∧ Rb.inI (ps.take i) n = false) ⟨⟨none, none, rfl⟩, rfl, rfl⟩ (fun i σ H' _ z => by rw [z.2.1]; exact SqL.of hA) ?_ ?_⟩
    · rintro i x σ H' hx ⟨⟨v3, v4, rfl⟩, rfl, hn⟩
      obtain ⟨t, ht, rfl⟩ := ref_at hx
      obtain ⟨it, hit, hH⟩ := hT.get ht
      unfold prs at hit
      rw [List.getElem?_map] at hit
      cases hp : ps[i]? with
      | none => rw [hp] at hit; cases hit
      | some q =>
        rw [hp] at hit
        have e := Option.some.inj hit
        subst e
        have e3 : Rb.inI (ps.take (i + 1)) n = (decide (q.1 ≤ n) && decide (n ≤ q.2)) := by
          unfold Rb.inI at hn ⊢
          rw [List.take_add_one, List.any_append, hn, Bool.false_or, hp]
          simp
        simp only [tNext, tRet, tIfS, gName, gCons, gNil, gTup, tC, tVar, rI0, tTest, tChain, List.getElem?_cons_zero, List.getElem?_cons_succ, List.set_cons_zero, List.set_cons_succ, Option.some.injEq, V.int.injEq, V.bl.injEq, V.ref.injEq, List.cons.injEq, and_true, true_and, exists_eq_left', exists_and_left,  if_false, Bool.false_eq_true, decide_eq_true_eq]
        refine ⟨_, SqT.of hH, rfl, _, _, rfl, _, _, rfl, rfl, _, rfl, ite2 (fun h1 => ⟨_, rfl, ite2 (fun h2 => ?_) fun h2 => ⟨⟨_, rfl⟩, ?_⟩⟩) fun h1 => ⟨⟨_, rfl⟩, ?_⟩⟩
        · have e4 : Rb.inI ps n = true := inI_take (i := i + 1) (by rw [e3, decide_eq_true h1, decide_eq_true h2]; rfl)
          rw [e4] at k
          exact k
        · rw [e3, decide_eq_false h2, Bool.and_false]
        · rw [e3, decide_eq_false h1, Bool.false_and]
    · rintro σ H' ⟨⟨v3, v4, rfl⟩, rfl, hn⟩
      rw [List.length_map, hlt] at hn
      have e : ps.take (prs ps).length = ps := by unfold prs; rw [List.length_map]; exact List.take_length
      rw [e] at hn
      rw [hn] at k
      exact k
abbrev s_writers_of : Stmt := top 29
theorem sc_writers_of : FnScope ["row", "item"] ["row"] (defScope s_writers_of) := ⟨rfl, rfl, rfl, by decide +kernel, rfl, by decide +kernel, by decide +kernel⟩
theorem ok_writers_of (F : Fun K "writers_of" "writers_of" s_writers_of f fd) (T : Txt K mg Sz) : FnOk P w K mg base CX0 1 f fd ["row"] sp_writers_of := by
  refine F.ok sc_writers_of (fun vs H Q E h => ?_) (fun cdv A outer s H vs Q E hr h => ?_)
  · obtain ⟨a, row, rfl, _⟩ := h
    rfl
  · obtain ⟨a, row, rfl, hL, hne, hlen, k⟩ := h
    obtain ⟨ts, hA, hT⟩ := hL
    have hlt := hT.len
    refine ⟨_, (pss_one (ps_ret (pe_lc rfl sc_writers_of.nd (pi_listK (K := K) rfl (pv 0)) (blkOk_by (N := ["row", "item"]) (sc := defScope s_writers_of) (own := [("item", 1)]) (by decide +kernel)) (fun _ _ _ _ _ => (pg_name (i := 1) sc_writers_of.nd rfl (Or.inl rfl))) (fun _ _ _ _ _ => (pts_one (pt_cmpR op_ge (pe_ix (r := rIxT K) ix_tup (pv 1) pe_int (fun _ _ => rfl)) (pe_gi T.c_PUT) (nomark _)))) (fun _ _ _ _ _ => (pv 1))))), ?_⟩
    refine ⟨_, rfl, a, rfl, ⟨_, SqL.of hA⟩, fun D hD => lc_list (xs := ts.map V.ref) (fun i H' => ∃ us, H' = upd H D (.lst (us.map V.ref)) ∧ Tups H us (Rm.wris (row.take i)) ∧ us.length ≤ i) ⟨[], rfl, .nil, Nat.le_refl _⟩ (fun i H' _ z => ?_) ?_ ?_⟩
    · obtain ⟨us, rfl, _⟩ := z
      exact (same_new hD).seq (SqL.of hA)
    · rintro i x H' hx ⟨us, rfl, hU, hu⟩
      obtain ⟨t, ht, rfl⟩ := ref_at hx
      obtain ⟨it, hit, hH⟩ := hT.get ht
      obtain ⟨y, r, rfl⟩ := List.exists_cons_of_ne_nil (hne it (List.mem_of_getElem? hit))
      have hi : i < ts.length := by have := (List.getElem?_eq_some_iff.mp ht).1; exact this
      have e : row.take (i + 1) = row.take i ++ [y :: r] := by rw [List.take_add_one, hit]; rfl
      simp only [gName, tOp, tC, tVar, rI0, tTest, L2.start, List.map_cons, List.map_nil, List.length_cons, List.length_nil, List.replicate, List.cons_append, List.nil_append, List.getElem?_cons_zero, List.getElem?_cons_succ, List.set_cons_zero, List.set_cons_succ, Option.some.injEq, V.int.injEq, V.bl.injEq, V.ref.injEq, true_and, exists_eq_left', exists_and_left, Nat.reduceSub, Nat.reduceAdd, rIxT,  decide_eq_true_eq, wipe]
      refine ⟨_, SqT.of ((upd_ne (ne_of_none hH hD)).trans hH), V.int y, at_of (j := 0) rfl rfl, y, rfl, ?_⟩
      refine ite2 (fun h => ⟨_, upd_same, by rw [List.length_map, sizeLine_eq]; omega, us ++ [t], ?_, ?_, by rw [List.length_append, List.length_singleton]; omega⟩) (fun h => ⟨us, rfl, ?_, by omega⟩)
      · rw [upd_upd, List.map_append]; rfl
      · rw [e, Rm.wris_snoc, if_pos (show (3 : Int) ≤ Rq.hd (y :: r) from h)]
        exact Paired.snoc hU hH
      · rw [e, Rm.wris_snoc, if_neg (show ¬ (3 : Int) ≤ Rq.hd (y :: r) from h), List.append_nil]
        exact hU
    · rintro H' ⟨us, rfl, hU, hu⟩
      rw [List.length_map, hlt, List.take_length] at hU
      exact k _ D (same_new hD) hD ⟨us, upd_same, hU.same (same_new hD)⟩
abbrev s_elements_of : Stmt := top 28
theorem sc_elements_of : FnScope ["row", "kind", "item"] ["row", "kind"] (defScope s_elements_of) := ⟨rfl, rfl, rfl, by decide +kernel, rfl, by decide +kernel, by decide +kernel⟩
theorem ok_elements_of (F : Fun K "elements_of" "elements_of" s_elements_of f fd) (T : Txt K mg Sz) : FnOk P w K mg base CX0 1 f fd ["row", "kind"] sp_elements_of := by
  refine F.ok sc_elements_of (fun vs H Q E h => ?_) (fun cdv A outer s H vs Q E hr h => ?_)
  · obtain ⟨a, row, n, rfl, _⟩ := h
    rfl
  · obtain ⟨a, row, n, rfl, hL, hne, hlen, k⟩ := h
    obtain ⟨ts, hA, hT⟩ := hL
    have hlt := hT.len
    refine ⟨_, (pss_one (ps_ret (pe_lc rfl sc_elements_of.nd (pi_listK (K := K) rfl (pv 0)) (blkOk_by (N := ["row", "kind", "item"]) (sc := defScope s_elements_of) (own := [("item", 2)]) (by decide +kernel)) (fun _ _ _ _ _ => (pg_name (i := 2) sc_elements_of.nd rfl (Or.inl rfl))) (fun _ _ _ _ _ => (pts_one (pt_cmpR op_eq (pe_ix (r := rIxT K) ix_tup (pv 2) pe_int (fun _ _ => rfl)) (pv 1) (nomark _)))) (fun _ _ _ _ _ => (pe_slice (r := rSlT K) sl_tup (pv 2) (po_some pe_int) po_none))))), ?_⟩
    refine ⟨_, rfl, a, rfl, ⟨_, SqL.of hA⟩, fun D hD => lc_list (xs := ts.map V.ref) (fun i H' => Same H H' ∧ ∃ us, H' D = some (.lst (us.map V.ref)) ∧ Tups H' us (Rm.elems n (row.take i)) ∧ us.length ≤ i) ⟨same_new hD, [], upd_same, .nil, Nat.le_refl _⟩ (fun i H' _ z => z.1.seq (SqL.of hA)) ?_ ?_⟩
    · rintro i x H' hx ⟨hs, us, hU, hT', hu⟩
      obtain ⟨t, ht, rfl⟩ := ref_at hx
      obtain ⟨it, hit, hH⟩ := hT.get ht
      obtain ⟨y, r, rfl⟩ := List.exists_cons_of_ne_nil (hne it (List.mem_of_getElem? hit))
      have hi : i < ts.length := by have := (List.getElem?_eq_some_iff.mp ht).1; exact this
      have e : row.take (i + 1) = row.take i ++ [y :: r] := by rw [List.take_add_one, hit]; rfl
      simp only [gName, tOp, tC, tVar, rEq, tTest, tPart, tNoPart, tSl, L2.start, List.map_cons, List.map_nil, List.length_cons, List.length_nil, List.replicate, List.cons_append, List.nil_append, List.getElem?_cons_zero, List.getElem?_cons_succ, List.set_cons_zero, List.set_cons_succ, Option.some.injEq, V.int.injEq, V.bl.injEq, V.ref.injEq, true_and, exists_eq_left', exists_and_left, Nat.reduceSub, Nat.reduceAdd, rIxT,  decide_eq_true_eq, wipe, rSlT]
      refine ⟨_, SqT.of (hs _ _ hH), V.int y, at_of (j := 0) rfl rfl, rfl, ?_⟩
      refine ite2 (fun h => ⟨_, SqT.of (hs _ _ hH), ?_, fun q hq => ⟨us.map V.ref, ?_, ?_, ?_, us ++ [q], ?_, ?_, ?_⟩⟩) (fun h => ⟨hs, us, hU, ?_, by omega⟩)
      · rintro ⟨z, _⟩
        rw [List.length_map, List.length_cons] at z
        have z2 : HT.sIx (r.length + 1) 0 (some 1) = 1 := by
          unfold HT.sIx
          simp
        rw [z2] at z
        cases z
      · rw [upd_ne (ne_of_none hU hq)]; exact hU
      · rw [List.length_map, sizeLine_eq]; omega
      · exact same_own (hs.trans (same_new hq)) hD
      · rw [upd_same, List.map_append]; rfl
      · have ec : cutV ((y :: r).map V.int) (some 1) none = (((y :: r).drop 1)).map V.int := by
          rw [List.map_drop]
          exact cutV_from _ 1
        rw [ec, e, Rm.elems_snoc, if_pos (show Rq.hd (y :: r) = n from V.int.inj h)]
        exact hT'.snoc_new hU hq _ ⟨_, rfl⟩
      · rw [List.length_append, List.length_singleton]; omega
      · rw [e, Rm.elems_snoc, if_neg (show ¬ Rq.hd (y :: r) = n from fun z => h (congrArg V.int z)), List.append_nil]
        exact hT'
    · rintro H' ⟨hs, us, hU, hT', hu⟩
      rw [List.length_map, hlt, List.take_length] at hT'
      exact k _ D hs hD ⟨us, hU, hT'⟩
end
end Re
end
section
set_option maxHeartbeats 4000000
namespace Re
open PySem PySem.Spec PyProof.Rows L2
open Rm (ElOk WrOk bnds resI)
section
variable {P : Program} {w : World} {K : PySem.W.Frag} {mg : Str → Option Value} {base : Heap} {Sz f : Addr} {fd : FuncData} {c : Cs}
theorem sizes_at {k : Int} (h0 : 0 ≤ k) (h7 : ¬ 7 ≤ k) : atI ([6, 6, 6, 2, 2, 3, 1].map V.int) k = some (V.int (Rq.isz k)) := by
  have hc : k = 0 ∨ k = 1 ∨ k = 2 ∨ k = 3 ∨ k = 4 ∨ k = 5 ∨ k = 6 := by omega
  rcases hc with e | e | e | e | e | e | e <;> subst e <;> rfl
abbrev s_split_items : Stmt := top 22
theorem sc_split_items : FnScope ["numbers", "row", "place", "kind", "behind"] ["numbers"] (defScope s_split_items) := ⟨rfl, rfl, rfl, by decide +kernel, rfl, by decide +kernel, by decide +kernel⟩
theorem ok_split_items (F : Fun K "split_items" "split_items" s_split_items f fd) (T : Txt K mg Sz) : FnOk P w K mg base CX0 1 f fd ["numbers"] (sp_split_items K) := by
  refine F.ok sc_split_items (fun vs H Q E h => ?_) (fun cdv A outer s H vs Q E hr h => ?_)
  · obtain ⟨a, ns, rfl, _⟩ := h
    rfl
  · obtain ⟨a, ns, rfl, hS, hlen, hnn, k⟩ := h
    refine ⟨_, (pss_cons (ps_set (i := 1) sc_split_items.nd rfl (Or.inl rfl) (pe_lst pa_nil))
  (pss_cons (ps_set (i := 2) sc_split_items.nd rfl (Or.inl rfl) pe_int)
  (pss_cons (ps_while PassesOwn.never (pt_cmpR op_lt (pv 2) (pe_callB (r := rLenS K) call_len_seq (by rfl) T.b_len boot_len (pa_cons (pv 0) pa_nil)) (nomark _)) (pss_cons (ps_set (i := 3) sc_split_items.nd rfl (Or.inl rfl) (pe_ix (r := rIxL K) ix_list (pv 0) (pv 2) (fun _ _ => rfl)))
  (pss_cons (ps_if (pt_cmpR op_ge (pv 3) (pe_callB (r := rLenS K) call_len_seq (by rfl) T.b_len boot_len (pa_cons (pe_gr T.c_ITEM_SIZES) pa_nil)) (nomark _)) (pss_cons (ps_expr (pe_bmK (K := K) rfl PySem.F.plainAttrs_list PySem.F.slot_list_append PySem.F.type_list_append mt_append (pv 1) (pa_cons (pe_tup (pa_cons (pv 3) pa_nil)) pa_nil)))
  (pss_one (ps_ret (pv 1)))) pss_nil)
  (pss_cons (ps_set (i := 4) sc_split_items.nd rfl (Or.inl rfl) (pe_op op_add (pv 2) (pe_ix (r := rIxT K) ix_tup (pe_gr T.c_ITEM_SIZES) (pv 3) (fun _ _ => rfl))))
  (pss_cons (ps_expr (pe_bmK (K := K) rfl PySem.F.plainAttrs_list PySem.F.slot_list_append PySem.F.type_list_append mt_append (pv 1) (pa_cons (pe_callTy (r := rTupS K) call_tuple_of (by rfl) T.b_tuple boot_tuple (pa_cons (pe_slice (r := rSlL K) sl_list (pv 0) (po_some (pv 2)) (po_some (pv 4))) pa_nil)) pa_nil)))
  (pss_one (ps_set (i := 2) sc_split_items.nd rfl (Or.inl rfl) (pv 4))))))))
  (pss_one (ps_ret (pv 1)))))), ?_⟩
    simp only [tSeq, tAsg, gName, tC, tNil, L2.start, List.map_cons, List.map_nil, List.length_cons, List.length_nil, List.replicate, List.cons_append, List.nil_append, List.set_cons_zero, List.set_cons_succ, Nat.reduceSub, Nat.reduceAdd, tLst,  if_false]
    refine ⟨Nat.zero_le _, fun D hD => ?_⟩
    refine ⟨fun m σ H' => ∃ (v3 v4 : Option V) (ts : List Addr) (pl : Nat) (done : List (List Int)), m = ns.length - pl ∧ σ = [some (.ref a), some (.ref D), some (.int pl), v3, v4] ∧ Same H H' ∧ H' D = some (.lst (ts.map V.ref)) ∧ Tups H' ts done ∧ done ++ Rq.splitW (ns.drop pl) = Rq.splitW ns ∧ done.length ≤ pl,
      ⟨_, none, none, [], 0, [], rfl, rfl, same_new hD, upd_same, .nil, rfl, Nat.le_refl _⟩, ?_⟩
    rintro m σ H' ⟨v3, v4, ts, pl, done, rfl, rfl, hs, hU, hT, hd, hdl⟩
    have htl := hT.len
    simp only [tSeq, tNext, tDrop, tRet, tIfS, tAsg, gName, tOp, tC, tVar, rI0, tTest, tCons, tNil, tPart, tSl, List.length_cons, List.length_nil, List.getElem?_cons_zero, List.getElem?_cons_succ, List.set_cons_zero, List.set_cons_succ, Option.some.injEq, V.int.injEq, V.bl.injEq, V.ref.injEq, List.cons.injEq, and_true, exists_eq_left', exists_and_left, Nat.reduceAdd, rIxL, rIxT, tTup,  decide_eq_true_eq, rLenS, tCB, tBM, rAppend, rTupS, rSlL]
    refine ⟨_, Or.inl (hs.seq hS), ite2 (fun hlt => ⟨_, fun _ _ z => z, _, hs.seq hS, ?_⟩) fun hlt => ?_⟩
    · rw [List.length_map] at hlt
      have hpl : pl < ns.length := by omega
      obtain ⟨z, hz⟩ : ∃ z, ns[pl]? = some z := ⟨_, List.getElem?_eq_getElem hpl⟩
      have hz0 : 0 ≤ z := hnn z (List.mem_of_getElem? hz)
      have hdr : ns.drop pl = z :: ns.drop (pl + 1) := by
        rw [List.drop_eq_getElem_cons hpl]
        congr 1
        exact Option.some.inj ((List.getElem?_eq_getElem hpl).symm.trans hz)
      refine ⟨V.int z, at_of (j := pl) rfl (map_at V.int hz), _, Or.inr (T.sizes H'), z, rfl, ite2 (fun h7 => ?_) fun h7 => ?_⟩
      · have h7 : (7 : Int) ≤ z := h7
        rw [hdr, Rq.splitW_big _ h7] at hd
        refine ⟨.inl ⟨rfl, _, SqL.of hU⟩, by decide, fun t ht => ⟨_, (upd_ne (ne_of_none hU ht)).trans hU, by rw [List.length_map, sizeLine_eq]; omega, ?_⟩⟩
        refine k _ D (same_own (hs.trans (same_new ht)) hD) hD ⟨ts ++ [t], by rw [upd_same, List.map_append]; rfl, ?_⟩
        rw [← hd]
        exact hT.snoc_new (it := [z]) hU ht _ ⟨_, rfl⟩
      · have h7 : ¬ (7 : Int) ≤ z := h7
        refine ⟨_, z, rfl, T.sizes H', V.int (Rq.isz z), sizes_at hz0 h7, _, rfl, .inl ⟨rfl, _, SqL.of hU⟩, _, hs.seq hS, fun p hp => ⟨_, .inl ⟨SqL.of upd_same, fun t ht => ⟨ts.map V.ref, ?_, by rw [List.length_map, sizeLine_eq]; omega, ?_⟩⟩⟩⟩
        · rw [upd_ne (ne_of_none ((upd_ne (ne_of_none hU hp)).trans hU) ht), upd_ne (ne_of_none hU hp)]
          exact hU
        · have hU2 : (upd H' p (.lst (cutV (ns.map V.int) (some (pl : Int)) (some ((pl : Int) + (Rq.isz z : Nat)))))) D = some (.lst (ts.map V.ref)) := (upd_ne (ne_of_none hU hp)).trans hU
          have hT2 : Tups (upd H' p (.lst (cutV (ns.map V.int) (some (pl : Int)) (some ((pl : Int) + (Rq.isz z : Nat)))))) ts done := hT.same (same_new hp)
          have hp1 := Rq.isz_pos z
          have ec : cutV (ns.map V.int) (some (pl : Int)) (some ((pl : Int) + (Rq.isz z : Nat))) = (((z :: ns.drop (pl + 1)).take (Rq.isz z))).map V.int := by
            rw [← hdr, List.map_take, List.map_drop, show (pl : Int) + (Rq.isz z : Nat) = ((pl + Rq.isz z : Nat) : Int) by omega, cutV_mid, Nat.add_sub_cancel_left]
          refine ⟨ns.length - (pl + Rq.isz z), by omega, _, _, ts ++ [t], pl + Rq.isz z, rfl, rfl, same_own ((hs.trans (same_new hp)).trans (same_new ht)) hD, by rw [upd_same, List.map_append]; rfl, done ++ [(z :: ns.drop (pl + 1)).take (Rq.isz z)], ?_, ?_, by rw [List.length_append, List.length_singleton]; omega⟩
          · rw [ec] at ht hU2 hT2 ⊢
            exact hT2.snoc_new hU2 ht _ ⟨_, rfl⟩
          · rw [hdr, Rq.splitW_cons _ h7, ← hdr, List.drop_drop] at hd
            rw [List.append_assoc, ← hd, hdr]
            rfl
    · rw [List.length_map] at hlt
      rw [List.drop_eq_nil_of_le (by omega), Rq.splitW_nil, List.append_nil] at hd
      rw [hd] at hT
      exact k H' D hs hD ⟨ts, hU, hT⟩
abbrev s_can_stand : Stmt := top 24
theorem sc_can_stand : FnScope ["item", "earlier", "set_count", "map_count", "kind"] ["item", "earlier", "set_count", "map_count"] (defScope s_can_stand) := ⟨rfl, rfl, rfl, by decide +kernel, rfl, by decide +kernel, by decide +kernel⟩
theorem ok_can_stand (F : Fun K "can_stand" "can_stand" s_can_stand f fd) (T : Txt K mg Sz) (c_kind_can_come : Cal P w K mg base 2 "kind_can_come" ["kind", "earlier"] (sp_kind_can_come K)) (c_is_element : Cal P w K mg base 2 "is_element" ["numbers", "set_count"] (sp_is_element K))
    (c_is_code_point : Cal P w K mg base 1 "is_code_point" ["number"] sp_is_code_point) (c_count_kind : Cal P w K mg base 1 "count_kind" ["row", "kind"] (sp_count_kind K)) : FnOk P w K mg base CX0 3 f fd ["item", "earlier", "set_count", "map_count"] (sp_can_stand K) := by
  refine F.ok sc_can_stand (fun vs H Q E h => ?_) (fun cdv A outer s H vs Q E hr h => ?_)
  · obtain ⟨a, e, it, E, n, m, rfl, _⟩ := h
    rfl
  · obtain ⟨a, e, it, E, n, m, rfl, hA, hne, h0, h6, hE, hEn, hEl, k⟩ := h
    obtain ⟨y, r, rfl⟩ := List.exists_cons_of_ne_nil hne
    refine ⟨_, (pss_cons (ps_set (i := 4) sc_can_stand.nd rfl (Or.inl rfl) (pe_ix (r := rIxT K) ix_tup (pv 0) pe_int (fun _ _ => rfl)))
  (pss_cons (ps_if (PW.pt (pw_or (pt_cmpR op_ge (pe_callB (r := rLenS K) call_len_seq (by rfl) T.b_len boot_len (pa_cons (pv 1) pa_nil)) (pe_gi T.c_MOST_ITEMS) (nomark _)) (pw_or1 (pt_not (pt_val (pe_fun (sp := (sp_kind_can_come K)) c_kind_can_come hr (pa_cons (pv 4) (pa_cons (pv 1) pa_nil)))))))) (pss_one (ps_ret pe_bl)) pss_nil)
  (pss_cons (ps_if (pt_cmpR op_lt (pe_callB (r := rLenS K) call_len_seq (by rfl) T.b_len boot_len (pa_cons (pv 0) pa_nil)) (pe_ix (r := rIxT K) ix_tup (pe_gr T.c_ITEM_SIZES) (pv 4) (fun _ _ => rfl)) (nomark _)) (pss_one (ps_ret pe_bl)) pss_nil)
  (pss_cons (ps_if (pt_cmpR op_le (pv 4) (pe_gi T.c_AFTER) (nomark _)) (pss_one (ps_ret (pe_fun (sp := (sp_is_element K)) c_is_element hr (pa_cons (pe_slice (r := rSlT K) sl_tup (pv 0) (po_some pe_int) po_none) (pa_cons (pv 2) pa_nil))))) pss_nil)
  (pss_cons (ps_if (pt_cmpR op_eq (pv 4) (pe_gi T.c_PUT) (nomark _)) (pss_one (ps_ret (pe_fun (sp := sp_is_code_point) c_is_code_point hr (pa_cons (pe_ix (r := rIxT K) ix_tup (pv 0) pe_int (fun _ _ => rfl)) pa_nil)))) pss_nil)
  (pss_cons (ps_if (pt_cmpR op_eq (pv 4) (pe_gi T.c_CURSOR) (nomark _)) (pss_one (ps_ret pe_bl)) pss_nil)
  (pss_cons (ps_if (pt_cmpR op_ge (pe_ix (r := rIxT K) ix_tup (pv 0) pe_int (fun _ _ => rfl)) (pe_fun (sp := (sp_count_kind K)) c_count_kind hr (pa_cons (pv 1) (pa_cons (pe_gi T.c_MATCH) pa_nil))) (nomark _)) (pss_one (ps_ret pe_bl)) pss_nil)
  (pss_one (ps_ret (pe_or (pe_cmpR op_eq (pv 4) (pe_gi T.c_COPY) (nomark _)) (pe_one (pe_cmpR op_lt (pe_ix (r := rIxT K) ix_tup (pv 0) pe_int (fun _ _ => rfl)) (pv 3) (nomark _))))))))))))), ?_⟩
    simp only [tSeq, tNext, tRet, tIfS, tAsg, gName, tOp, tC, tVar, rI0, rEq, tTest, tB, tOr, tNot, tOrV, tCons, tNil, tCall, tPart, tNoPart, tSl, L2.start, List.map_cons, List.map_nil, List.length_cons, List.length_nil, List.replicate, List.cons_append, List.nil_append, List.append_nil, List.getElem?_cons_zero, List.getElem?_cons_succ, List.set_cons_zero, List.set_cons_succ, Option.some.injEq, V.int.injEq, V.bl.injEq, V.ref.injEq, List.cons.injEq, and_true, exists_eq_left', exists_and_left, Nat.reduceSub, Nat.reduceAdd, rIxT,  if_true, decide_eq_true_eq, rLenS, tCB, rSlT, sp_kind_can_come, sp_is_element, sp_is_code_point, sp_count_kind]
    have est : Rq.stand (y :: r) E n m = if 32 ≤ E.length ∨ Rq.come y E = false then false else if r.length + 1 < Rq.isz y then false else if y ≤ 2 then Rq.isEl r n else if y = 3 then decide (r.getD 0 0 < 1114112) else if y = 6 then true else
        if (Rq.cnt E 1 : Int) ≤ r.getD 0 0 then false else decide (y = 4) || decide (r.getD 1 0 < m) := rfl
    have h0 : 0 ≤ y := h0
    have h6 : r.length + 1 ≤ 6 := h6
    rw [est] at k
    have hE0 := hE
    obtain ⟨ts, hB, hT⟩ := hE
    have htl := hT.len
    refine ⟨_, SqT.of hA, V.int y, at_of (j := 0) rfl rfl, _, Or.inl (SqL.of hB), ite2 (fun h1 => ?_) fun h1 => ⟨e, E, y, ⟨rfl, rfl⟩, hE0, hEn, hEl, fun H1 s1 => ?_⟩⟩
    · have k := k H (Same.refl H)
      rw [List.length_map] at h1
      rw [if_pos (Or.inl (by omega))] at k
      exact k
    have k := fun H' (q : Same H1 H') => k H' (s1.trans q)
    rw [List.length_map] at h1
    cases hc : Rq.come y E with
    | false =>
      have k := k H1 (Same.refl H1)
      rw [if_pos (Or.inr hc)] at k
      exact iteT k
    | true =>
      have h7 : ¬ 7 ≤ y := by have := Rm.come_lt hc; omega
      have hA1 := s1 _ _ hA
      rw [if_neg (by rintro (q | q); omega; rw [hc] at q; cases q)] at k
      refine iteF ⟨_, Or.inr (SqT.of hA1), _, y, rfl, T.sizes H1, V.int (Rq.isz y), sizes_at h0 h7, _, rfl, ite2 (fun h2 => ?_) fun h2 => ⟨y, rfl, ite2 (fun h3 => ?_) fun h3 => ⟨rfl, ite2 (fun h4 => ?_) fun h4 => ⟨rfl, ite2 (fun h5 => ?_) fun h5 => ?_⟩⟩⟩⟩
      · have k := k H1 (Same.refl H1)
        rw [List.length_map, List.length_cons] at h2
        rw [if_pos (by omega)] at k
        exact k
      · rw [List.length_map, List.length_cons] at h2
        rw [if_neg (by omega), if_pos h3] at k
        have hz : Rq.isz y = 6 := by unfold Rq.isz; rw [if_pos (by omega)]
        refine ⟨_, SqT.of hA1, sub_whole (by simp), fun p hp => ?_⟩
        have ec : cutV ((y :: r).map V.int) (some 1) none = r.map V.int := cutV_from _ 1
        rw [ec]
        exact ⟨p, r, n, ⟨rfl, rfl⟩, SqT.of upd_same, by omega, k _ (same_new hp)⟩
      all_goals rw [List.length_map, List.length_cons] at h2
      · have e3 : y = 3 := V.int.inj h4
        subst e3
        have hz : Rq.isz 3 = 2 := rfl
        rw [hz] at h2
        obtain ⟨b, r', rfl⟩ : ∃ b r', r = b :: r' := by
          cases r with
          | nil => exact absurd h2 (by decide)
          | cons b r' => exact ⟨b, r', rfl⟩
        have k := k H1 (Same.refl H1)
        rw [if_neg (by rw [hz]; simp), if_neg (by decide), if_pos rfl] at k
        exact ⟨_, SqT.of hA1, V.int b, at_of (j := 1) rfl rfl, b, rfl, k⟩
      · have e3 : y = 6 := V.int.inj h5
        subst e3
        have k := k H1 (Same.refl H1)
        rw [if_neg (by have : Rq.isz 6 = 1 := rfl; omega), if_neg (by decide), if_neg (by decide), if_pos rfl] at k
        exact k
      · have hy : y = 4 ∨ y = 5 := by
          have a1 : y ≠ 3 := fun q => h4 (congrArg V.int q)
          have a2 : y ≠ 6 := fun q => h5 (congrArg V.int q)
          omega
        have hz : 2 ≤ Rq.isz y := by rcases hy with e | e <;> subst e <;> decide
        obtain ⟨b, r', rfl⟩ : ∃ b r', r = b :: r' := by
          cases r with
          | nil => exact absurd h2 (by simp; omega)
          | cons b r' => exact ⟨b, r', rfl⟩
        have a1 : y ≠ 3 := fun q => h4 (congrArg V.int q)
        have a2 : y ≠ 6 := fun q => h5 (congrArg V.int q)
        rw [if_neg (by omega), if_neg h3, if_neg a1, if_neg a2] at k
        refine ⟨_, SqT.of hA1, V.int b, at_of (j := 1) rfl rfl, e, E, 1, ⟨rfl, rfl⟩, hE0.same s1, hEn, hEl, fun H2 s2 => ⟨b, rfl, ite2 (fun h8 => ?_) fun h8 => ⟨rfl, ite2 (fun h9 => ?_) fun h9 => ?_⟩⟩⟩
        · have k := k H2 s2
          rw [if_pos (show (Rq.cnt E 1 : Int) ≤ (b :: r').getD 0 0 from h8)] at k
          exact k
        · have k := k H2 s2
          rw [if_neg (show ¬ (Rq.cnt E 1 : Int) ≤ (b :: r').getD 0 0 from h8), decide_eq_true (V.int.inj h9), Bool.true_or] at k
          exact k
        · have e5 : y = 5 := by
            rcases hy with e | e
            · exact absurd (congrArg V.int e) h9
            · exact e
          subst e5
          have hz : Rq.isz 5 = 3 := rfl
          rw [hz] at h2
          obtain ⟨d, r'', rfl⟩ : ∃ d r'', r' = d :: r'' := by
            cases r' with
            | nil => exact absurd h2 (by simp)
            | cons b r' => exact ⟨b, r', rfl⟩
          have k := k H2 s2
          rw [if_neg (show ¬ (Rq.cnt E 1 : Int) ≤ (b :: d :: r'').getD 0 0 from h8), decide_eq_false (by decide), Bool.false_or] at k
          exact ⟨_, SqT.of (s2 _ _ hA1), V.int d, at_of (j := 2) rfl rfl, d, rfl, k⟩
abbrev s_first_wrong_item : Stmt := top 23
theorem sc_first_wrong_item : FnScope ["row", "set_count", "map_count", "number", "item"] ["row", "set_count", "map_count"] (defScope s_first_wrong_item) := ⟨rfl, rfl, rfl, by decide +kernel, rfl, by decide +kernel, by decide +kernel⟩
theorem ok_first_wrong_item (F : Fun K "first_wrong_item" "first_wrong_item" s_first_wrong_item f fd) (T : Txt K mg Sz) (c_can_stand : Cal P w K mg base 3 "can_stand" ["item", "earlier", "set_count", "map_count"] (sp_can_stand K))
    (c_count_kind : Cal P w K mg base 1 "count_kind" ["row", "kind"] (sp_count_kind K)) : FnOk P w K mg base CX0 4 f fd ["row", "set_count", "map_count"] (sp_first_wrong_item K) := by
  refine F.ok sc_first_wrong_item (fun vs H Q E h => ?_) (fun cdv A outer s H vs Q E hr h => ?_)
  · obtain ⟨a, row, n, m, rfl, _⟩ := h
    rfl
  · obtain ⟨a, row, n, m, rfl, hL, hrow, hlen, k⟩ := h
    refine ⟨_, (pss_cons (ps_for PassesOwn.never rfl (pi_enumK (K := K) rfl rfl T.b_enumerate (pa_cons (pv 0) pa_nil)) (pg_tupK (K := K) (nn := 2) rfl rfl (pgs_cons (pg_name (i := 3) sc_first_wrong_item.nd rfl (Or.inl rfl)) (pgs_cons (pg_name (i := 4) sc_first_wrong_item.nd rfl (Or.inl rfl)) pgs_nil))) (pss_one (ps_if (pt_not (pt_val (pe_fun (sp := (sp_can_stand K)) c_can_stand hr (pa_cons (pv 4) (pa_cons (pe_slice (r := rSlL K) sl_list (pv 0) po_none (po_some (pv 3))) (pa_cons (pv 1) (pa_cons (pv 2) pa_nil))))))) (pss_one (ps_ret (pv 3))) pss_nil)))
  (pss_cons (ps_if (pt_cmpR op_eq (pe_fun (sp := (sp_count_kind K)) c_count_kind hr (pa_cons (pv 0) (pa_cons (pe_gi T.c_MATCH) pa_nil))) pe_int (nomark _)) (pss_one (ps_ret (pe_callB (r := rLenS K) call_len_seq (by rfl) T.b_len boot_len (pa_cons (pv 0) pa_nil)))) pss_nil)
  (pss_one (ps_ret pe_non)))), ?_⟩
    obtain ⟨ts, hA, hT⟩ := hL
    have htl := hT.len
    refine ⟨_, rfl, a, _, rfl, SqL.of hA, for_enum (xs := ts.map V.ref) (fun i σ H' => (∃ v3 v4, σ = [some (.ref a), some (.int n), some (.int m), v3, v4]) ∧ Same H H' ∧ Rq.wrongI n m (row.take i) (row.drop i) = Rq.wrongI n m [] row) ⟨⟨none, none, rfl⟩, Same.refl H, rfl⟩ (fun i σ H' _ z => z.2.1.seq (SqL.of hA)) ?_ ?_⟩
    · rintro i x σ H' tt hx ⟨⟨v3, v4, rfl⟩, hs, hw⟩ htt
      obtain ⟨t, ht, rfl⟩ := ref_at hx
      obtain ⟨it, hit, hH⟩ := hT.get ht
      have hi : i < row.length := (List.getElem?_eq_some_iff.mp hit).1
      have hq := hrow it (List.mem_of_getElem? hit)
      have hs2 : Same H (upd H' tt (.tup [.int (i : Nat), .ref t])) := hs.trans (same_new htt)
      have hdr : row.drop i = it :: row.drop (i + 1) := by
        rw [List.drop_eq_getElem_cons hi]
        congr 1
        exact Option.some.inj ((List.getElem?_eq_getElem hi).symm.trans hit)
      have hw2 : (if Rq.stand it (row.take i) n m = true then Rq.wrongI n m (row.take i ++ [it]) (row.drop (i + 1)) else some (row.take i).length) = Rq.wrongI n m [] row := by
        rw [← hw, hdr]
        rfl
      simp only [tNext, tRet, tIfS, gName, gCons, gNil, gTup, tVar, tB, tNot, tCons, tNil, tCall, tPart, tNoPart, tSl, List.append_nil, List.getElem?_cons_zero, List.getElem?_cons_succ, List.set_cons_zero, List.set_cons_succ, Option.some.injEq, V.int.injEq, V.bl.injEq, V.ref.injEq, List.cons.injEq, and_true, true_and, exists_eq_left', exists_and_left,  rSlL, sp_can_stand]
      refine ⟨_, SqT.of upd_same, rfl, _, _, rfl, _, _, rfl, rfl, _, rfl, _, hs2.seq (SqL.of hA), fun p hp => ⟨t, p, it, row.take i, n, m, ⟨rfl, rfl, rfl, rfl⟩, ?_, hq.1, hq.2.1, hq.2.2, ⟨ts.take i, ?_, ?_⟩, fun it hm => (hrow it (List.mem_of_mem_take hm)).1, ?_, fun H2 s2 => ?_⟩⟩
      · exact (hs2.trans (same_new hp)) _ _ hH
      · rw [upd_same, cutV_to, List.map_take]
      · exact (hT.same (hs2.trans (same_new hp))).take i
      · rw [List.length_take]; omega
      · have s3 : Same H H2 := (hs2.trans (same_new hp)).trans s2
        cases hst : Rq.stand it (row.take i) n m with
        | true =>
          rw [if_pos hst] at hw2
          refine iteF ⟨⟨_, rfl⟩, s3, ?_⟩
          rw [List.take_add_one, hit]
          exact hw2
        | false =>
          rw [if_neg (by rw [hst]; decide)] at hw2
          have k := k H2 s3
          rw [← hw2, List.length_take, Nat.min_eq_left (by omega)] at k
          exact iteT k
    · rintro σ H' ⟨⟨v3, v4, rfl⟩, hs, hw⟩
      rw [List.length_map, htl, List.take_length, List.drop_length] at hw
      have hw : (if Rq.cnt row 1 = 0 then some row.length else none) = Rq.wrongI n m [] row := hw
      simp only [tSeq, tNext, tRet, tIfS, tOp, tC, tVar, rEq, tTest, tCons, tNil, tCall, List.append_nil, List.getElem?_cons_zero, Option.some.injEq, V.int.injEq, V.bl.injEq, V.ref.injEq, List.cons.injEq, and_true, true_and, exists_eq_left', exists_and_left, scal_ii,  decide_eq_true_eq, rLenS, tCB, sp_count_kind]
      refine ⟨a, row, 1, ⟨rfl, rfl⟩, ⟨ts, hs _ _ hA, hT.same hs⟩, fun it hm => (hrow it hm).1, hlen, fun H2 s2 => ite2 (fun h1 => ?_) fun h1 => ?_⟩
      · have h1 : ((Rq.cnt row 1 : Nat) : Int) = 0 := h1
        rw [if_pos (by omega)] at hw
        have k := k H2 (hs.trans s2)
        rw [← hw] at k
        refine ⟨_, Or.inl (SqL.of (s2 _ _ (hs _ _ hA))), ?_⟩
        rw [List.length_map, htl]
        exact k
      · have h1 : ¬ ((Rq.cnt row 1 : Nat) : Int) = 0 := h1
        rw [if_neg (by omega)] at hw
        have k := k H2 (hs.trans s2)
        rw [← hw] at k
        exact k
end
end Re
end
section
set_option maxHeartbeats 4000000
namespace Re
open PySem PySem.Spec PyProof.Rows L2
open Rm (ElOk WrOk bnds resI)
section
variable {P : Program} {w : World} {K : PySem.W.Frag} {mg : Str → Option Value} {base : Heap} {Sz f : Addr} {fd : FuncData} {c : Cs}
abbrev s_Reader___init__ : Stmt := inClass (top 42) 0
theorem sc_Reader___init__ : FnScope ["self", "calls"] ["self", "calls"] (defScope s_Reader___init__) := ⟨rfl, rfl, rfl, by decide +kernel, rfl, by decide +kernel, by decide +kernel⟩
theorem ok_Reader (F : Fun K "__init__" "Reader.__init__" s_Reader___init__ f fd) (T : Txt K mg Sz) (N : Cn K c) : FnOk P w K mg base CX0 1 f fd ["self", "calls"] (sp_Reader c) := by
  refine F.ok sc_Reader___init__ (fun vs H Q E h => ?_) (fun cdv A outer s H vs Q E hr h => ?_)
  · obtain ⟨x, dx, a, rfl, _⟩ := h
    rfl
  · obtain ⟨x, dx, a, rfl, hx, k⟩ := h
    refine ⟨_, (pss_cons (ps_fldK (K := K) rfl (pv 0) (pv 1) rfl)
  (pss_one (ps_fldK (K := K) rfl (pv 0) pe_int rfl))), ?_⟩
    simp only [tSeq, tC, tVar, L2.start, List.map_cons, List.map_nil, List.length_cons, List.length_nil, List.replicate, List.append_nil, List.getElem?_cons_zero, List.getElem?_cons_succ, Option.some.injEq, V.ref.injEq, exists_eq_left', exists_and_left, Nat.reduceSub, Nat.reduceAdd,  sFld]
    refine ⟨c.Reader, dx, [], hx, N.cl_Reader, N.n_Reader_calls, by decide, c.Reader, dx, _, upd_same, N.cl_Reader, N.n_Reader_place, (by show (1 : Nat) < 1000; decide), ?_⟩
    exact k _ (((Kp.refl _ _).upd (by simp)).upd (by simp)) ⟨dx, upd_same⟩
abbrev s_Reader_is_done : Stmt := inClass (top 42) 1
theorem sc_Reader_is_done : FnScope ["self"] ["self"] (defScope s_Reader_is_done) := ⟨rfl, rfl, rfl, by decide +kernel, rfl, by decide +kernel, by decide +kernel⟩
theorem ok_Reader_is_done (F : Fun K "is_done" "Reader.is_done" s_Reader_is_done f fd) (T : Txt K mg Sz) (N : Cn K c) : FnOk P w K mg base CX0 1 f fd ["self"] (sp_Reader_is_done K c) := by
  refine F.ok sc_Reader_is_done (fun vs H Q E h => ?_) (fun cdv A outer s H vs Q E hr h => ?_)
  · obtain ⟨x, a, ns, pl, rfl, _⟩ := h
    rfl
  · obtain ⟨x, a, ns, pl, rfl, ⟨dx, hx⟩, hS, k⟩ := h
    refine ⟨_, (pss_one (ps_ret (pe_cmpR op_ge (pe_fldK (K := K) rfl (pv 0) rfl) (pe_callB (r := rLenS K) call_len_seq (by rfl) T.b_len boot_len (pa_cons (pe_fldK (K := K) rfl (pv 0) rfl) pa_nil)) (nomark _)))), ?_⟩
    simp only [tRet, tOp, tVar, rI0, tCons, tNil, L2.start, List.map_cons, List.map_nil, List.length_cons, List.length_nil, List.replicate, List.append_nil, List.getElem?_cons_zero, Option.some.injEq, V.int.injEq, V.ref.injEq, List.cons.injEq, and_true, exists_eq_left', exists_and_left, Nat.reduceSub, Nat.reduceAdd,  rLenS, tCB, tFld]
    refine ⟨c.Reader, dx, _, hx, N.cl_Reader, N.n_Reader_place, _, rfl, c.Reader, dx, _, hx, N.cl_Reader, N.n_Reader_calls, _, rfl, a, rfl, ns, Or.inl hS, _, rfl, ?_⟩
    rw [show decide ((ns.length : Int) ≤ (pl : Int)) = decide (ns.length ≤ pl) from decide_eq_decide.mpr (by omega)]
    exact k
abbrev s_Reader_take_number : Stmt := inClass (top 42) 2
theorem sc_Reader_take_number : FnScope ["self", "number"] ["self"] (defScope s_Reader_take_number) := ⟨rfl, rfl, rfl, by decide +kernel, rfl, by decide +kernel, by decide +kernel⟩
theorem ok_Reader_take_number (F : Fun K "take_number" "Reader.take_number" s_Reader_take_number f fd) (T : Txt K mg Sz) (N : Cn K c) : FnOk P w K mg base CX0 1 f fd ["self"] (sp_Reader_take_number K c) := by
  refine F.ok sc_Reader_take_number (fun vs H Q E h => ?_) (fun cdv A outer s H vs Q E hr h => ?_)
  · obtain ⟨x, a, ns, pl, z, rfl, _⟩ := h
    rfl
  · obtain ⟨x, a, ns, pl, z, rfl, ⟨dx, hx⟩, hS, hz, k⟩ := h
    refine ⟨_, (pss_cons (ps_set (i := 1) sc_Reader_take_number.nd rfl (Or.inl rfl) (pe_ix (r := rIxL K) ix_list (pe_fldK (K := K) rfl (pv 0) rfl) (pe_fldK (K := K) rfl (pv 0) rfl) (fun _ _ => rfl)))
  (pss_cons (ps_fldaugK (K := K) rfl (pv 0) pe_int in_add)
  (pss_one (ps_ret (pv 1))))), ?_⟩
    simp only [tSeq, tRet, tAsg, gName, tOp, tC, tVar, L2.start, List.map_cons, List.map_nil, List.length_cons, List.length_nil, List.replicate, List.cons_append, List.nil_append, List.getElem?_cons_zero, List.getElem?_cons_succ, List.set_cons_zero, List.set_cons_succ, Option.some.injEq, V.int.injEq, V.ref.injEq, exists_eq_left', exists_and_left, Nat.reduceSub, Nat.reduceAdd, rIxL,  tFld, sFldAug, rAdd]
    refine ⟨c.Reader, dx, _, hx, N.cl_Reader, N.n_Reader_calls, _, rfl, c.Reader, dx, _, hx, N.cl_Reader, N.n_Reader_place, _, rfl, a, rfl, _, pl, rfl, hS, V.int z, at_of (j := pl) rfl (map_at V.int hz), c.Reader, dx, _, hx, N.cl_Reader, N.n_Reader_place, _, rfl, _, rfl, dx, _, hx, (by show (2 : Nat) < 1000; decide), ?_⟩
    exact k _ ((Kp.refl _ _).upd (by simp)) ⟨dx, upd_same⟩
abbrev s_Reader_take_row : Stmt := inClass (top 42) 3
theorem sc_Reader_take_row : FnScope ["self", "size", "behind", "row"] ["self"] (defScope s_Reader_take_row) := ⟨rfl, rfl, rfl, by decide +kernel, rfl, by decide +kernel, by decide +kernel⟩
theorem ok_Reader_take_row (F : Fun K "take_row" "Reader.take_row" s_Reader_take_row f fd) (T : Txt K mg Sz) (N : Cn K c) (c_Reader_take_number : Mth P w K mg base 1 c.Reader "take_number" ["self"] (sp_Reader_take_number K c)) : FnOk P w K mg base CX0 2 f fd ["self"] (sp_Reader_take_row K c) := by
  refine F.ok sc_Reader_take_row (fun vs H Q E h => ?_) (fun cdv A outer s H vs Q E hr h => ?_)
  · obtain ⟨x, a, ns, row, rest, pl, rfl, _⟩ := h
    rfl
  · obtain ⟨x, a, ns, row, rest, pl, rfl, ⟨dx, hx⟩, hS, hz, k⟩ := h
    refine ⟨_, (pss_cons (ps_set (i := 1) sc_Reader_take_row.nd rfl (Or.inl rfl) (pe_mt0 (pv 0) c_Reader_take_number hr))
  (pss_cons (ps_set (i := 2) sc_Reader_take_row.nd rfl (Or.inl rfl) (pe_op op_add (pe_fldK (K := K) rfl (pv 0) rfl) (pv 1)))
  (pss_cons (ps_set (i := 3) sc_Reader_take_row.nd rfl (Or.inl rfl) (pe_slice (r := rSlL K) sl_list (pe_fldK (K := K) rfl (pv 0) rfl) (po_some (pe_fldK (K := K) rfl (pv 0) rfl)) (po_some (pv 2))))
  (pss_cons (ps_fldK (K := K) rfl (pv 0) (pv 2) rfl)
  (pss_one (ps_ret (pv 3))))))), ?_⟩
    simp only [tSeq, tRet, tAsg, gName, tOp, tVar, rI0, tNil, tPart, tSl, L2.start, List.map_cons, List.map_nil, List.length_cons, List.length_nil, List.replicate, List.cons_append, List.nil_append, List.append_nil, List.getElem?_cons_zero, List.getElem?_cons_succ, List.set_cons_zero, List.set_cons_succ, Option.some.injEq, V.int.injEq, V.ref.injEq, List.cons.injEq, and_true, exists_eq_left', exists_and_left, Nat.reduceSub, Nat.reduceAdd,  rSlL, tFld, sFld, tMeth, sp_Reader_take_number]
    have hz0 : ns[pl]? = some (row.length : Int) := by
      have := congrArg (fun l => l[0]?) hz
      simpa using this
    have hdr : (ns.drop (pl + 1)) = row ++ rest := by
      have := congrArg (List.drop 1) hz
      rw [List.drop_drop] at this
      exact this
    refine ⟨dx, _, hx, rfl, a, ns, pl, ⟨dx, hx⟩, hS, _, hz0, fun H1 k1 ⟨d1, h1⟩ => ?_⟩
    have hS1 : SqL K H1 a (ns.map V.int) := sqL_ins hS hx k1
    refine ⟨c.Reader, d1, _, h1, N.cl_Reader, N.n_Reader_place, _, rfl, _, rfl, c.Reader, d1, _, h1, N.cl_Reader, N.n_Reader_calls, _, rfl, ?_⟩
    refine ⟨c.Reader, d1, _, h1, N.cl_Reader, N.n_Reader_place, _, rfl, _, rfl, a, rfl, _, hS1, fun p hp => ⟨c.Reader, d1, _, (upd_ne (ne_of_none h1 hp)).trans h1, N.cl_Reader, N.n_Reader_place, (by show (2 : Nat) < 1000; decide), ?_⟩⟩
    have ec : cutV (ns.map V.int) (some ((pl + 1 : Nat) : Int)) (some (((pl + 1 : Nat) : Int) + (row.length : Int))) = row.map V.int := by
      rw [show (((pl + 1 : Nat) : Int) + (row.length : Int)) = ((pl + 1 + row.length : Nat) : Int) by omega, cutV_mid, ← List.map_drop, hdr, Nat.add_sub_cancel_left, ← List.map_take, List.take_left]
    rw [ec]
    have hpx : p ≠ x := fun q => by rw [q, h1] at hp; cases hp
    have hp0 : H p = none := by
      cases q : H p with
      | none => rfl
      | some o => rw [k1.one q hpx] at hp; cases hp
    refine k _ p ((k1.new hp).upd (by simp)) ⟨d1, ?_⟩ hp0 ?_
    · rw [upd_same, show (((pl + 1 : Nat) : Int) + (row.length : Int)) = ((pl + 1 + row.length : Nat) : Int) by omega]
      rfl
    · show (upd (upd H1 p _) x _) p = _
      rw [upd_ne hpx, upd_same]
abbrev s_Rule___init__ : Stmt := inClass (top 39) 0
theorem sc_Rule___init__ : FnScope ["self", "number", "pass_number", "row"] ["self", "number", "pass_number", "row"] (defScope s_Rule___init__) := ⟨rfl, rfl, rfl, by decide +kernel, rfl, by decide +kernel, by decide +kernel⟩
theorem ok_Rule (F : Fun K "__init__" "Rule.__init__" s_Rule___init__ f fd) (T : Txt K mg Sz) (N : Cn K c) (c_elements_of : Cal P w K mg base 1 "elements_of" ["row", "kind"] sp_elements_of) (c_writers_of : Cal P w K mg base 1 "writers_of" ["row"] sp_writers_of) : FnOk P w K mg base CX0 2 f fd ["self", "number", "pass_number", "row"] (sp_Rule c) := by
  refine F.ok sc_Rule___init__ (fun vs H Q E h => ?_) (fun cdv A outer s H vs Q E hr h => ?_)
  · obtain ⟨x, dx, a, n, p, row, rfl, _⟩ := h
    rfl
  · obtain ⟨x, dx, a, n, p, row, rfl, hx, hL, hne, hlen, k⟩ := h
    refine ⟨_, (pss_cons (ps_fldK (K := K) rfl (pv 0) (pv 1) rfl)
  (pss_cons (ps_fldK (K := K) rfl (pv 0) (pv 2) rfl)
  (pss_cons (ps_fldK (K := K) rfl (pv 0) (pe_listrev (K := K) rfl rfl rfl T.b_reversed rfl T.b_list (pa_cons (pe_fun (sp := sp_elements_of) c_elements_of hr (pa_cons (pv 3) (pa_cons (pe_gi T.c_BEFORE) pa_nil))) pa_nil)) rfl)
  (pss_cons (ps_fldK (K := K) rfl (pv 0) (pe_fun (sp := sp_elements_of) c_elements_of hr (pa_cons (pv 3) (pa_cons (pe_gi T.c_MATCH) pa_nil))) rfl)
  (pss_cons (ps_fldK (K := K) rfl (pv 0) (pe_fun (sp := sp_elements_of) c_elements_of hr (pa_cons (pv 3) (pa_cons (pe_gi T.c_AFTER) pa_nil))) rfl)
  (pss_cons (ps_fldK (K := K) rfl (pv 0) (pe_fun (sp := sp_writers_of) c_writers_of hr (pa_cons (pv 3) pa_nil)) rfl)
  (pss_one (ps_fldK (K := K) rfl (pv 0) pe_bl rfl)))))))), ?_⟩
    simp only [tSeq, tC, tVar, tCons, tNil, tCall, L2.start, List.map_cons, List.map_nil, List.length_cons, List.length_nil, List.replicate, List.append_nil, List.getElem?_cons_zero, List.getElem?_cons_succ, Option.some.injEq, V.int.injEq, V.ref.injEq, List.cons.injEq, and_true, exists_eq_left', exists_and_left, Nat.reduceSub, Nat.reduceAdd,  sFld, sp_elements_of, sp_writers_of, tLstRev]
    refine ⟨c.Rule, dx, _, hx, N.cl_Rule, N.n_Rule_number, by decide, c.Rule, dx, _, upd_same, N.cl_Rule, N.n_Rule_pass_number, (by show (1 : Nat) < 1000; decide), ?_⟩
    rw [upd_upd]
    obtain ⟨H1, e1⟩ : ∃ H1, H1 = upd H x (HO.ins c.Rule dx (putF "pass_number" (V.int p) (putF "number" (V.int n) []))) := ⟨_, rfl⟩
    rw [← e1]
    have h1 : H1 x = some (.ins c.Rule dx [("number", V.int n), ("pass_number", V.int p)]) := by rw [e1]; exact upd_same
    have B1 : Bd H H1 x := by rw [e1]; exact (Bd.refl H x).st
    have hL1 : LT H1 a row := by rw [e1]; exact hL.st hx
    clear e1
    refine ⟨a, row, 0, ⟨rfl, rfl⟩, hL1, hne, hlen, fun H2 pb s2 npb ⟨tb, hpb, htb⟩ => ⟨_, SqL.of hpb, fun b hb => ?_⟩⟩
    refine ⟨c.Rule, dx, _, (upd_ne (ne_of_none (s2 _ _ h1) hb)).trans (s2 _ _ h1), N.cl_Rule, N.n_Rule_befores, (by show (2 : Nat) < 1000; decide), ?_⟩
    have h2 : (upd H2 b (HO.lst (tb.map V.ref).reverse)) x = some (.ins c.Rule dx [("number", V.int n), ("pass_number", V.int p)]) := (upd_ne (ne_of_none (s2 _ _ h1) hb)).trans (s2 _ _ h1)
    obtain ⟨H3, e3⟩ : ∃ H3, H3 = upd (upd H2 b (HO.lst (tb.map V.ref).reverse)) x (HO.ins c.Rule dx (putF "befores" (V.ref b) [("number", V.int n), ("pass_number", V.int p)])) := ⟨_, rfl⟩
    rw [← e3]
    have h3 : H3 x = some (.ins c.Rule dx [("number", V.int n), ("pass_number", V.int p), ("befores", V.ref b)]) := by rw [e3]; exact upd_same
    have B3 : Bd H H3 x := by rw [e3]; exact ((B1.sm s2).al hb).st
    have nb : H b = none := (B1.sm s2).fr b hb
    have hL3 : LT H3 a row := by rw [e3]; exact ((hL1.same s2).same (same_new hb)).st h2
    have hb3 : LT H3 b (Rm.elems 0 row).reverse := by
      rw [e3]
      have q : LT (upd H2 b (HO.lst (tb.map V.ref).reverse)) b (Rm.elems 0 row).reverse := ⟨tb.reverse, by rw [upd_same, List.map_reverse], (Tups.rev htb).same (same_new hb)⟩
      exact q.st h2
    clear e3
    refine ⟨a, row, 1, ⟨rfl, rfl⟩, hL3, hne, hlen, fun H4 pm s4 npm lpm => ?_⟩
    refine ⟨c.Rule, dx, _, s4 _ _ h3, N.cl_Rule, N.n_Rule_matches, (by show (3 : Nat) < 1000; decide), ?_⟩
    obtain ⟨H5, e5⟩ : ∃ H5, H5 = upd H4 x (HO.ins c.Rule dx (putF "matches" (V.ref pm) [("number", V.int n), ("pass_number", V.int p), ("befores", V.ref b)])) := ⟨_, rfl⟩
    rw [← e5]
    have h5 : H5 x = some (.ins c.Rule dx [("number", V.int n), ("pass_number", V.int p), ("befores", V.ref b), ("matches", V.ref pm)]) := by rw [e5]; exact upd_same
    have B5 : Bd H H5 x := by rw [e5]; exact (B3.sm s4).st
    have npm0 : H pm = none := B3.fr pm npm
    have hL5 : LT H5 a row := by rw [e5]; exact (hL3.same s4).st (s4 _ _ h3)
    have hb5 : LT H5 b (Rm.elems 0 row).reverse := by rw [e5]; exact (hb3.same s4).st (s4 _ _ h3)
    have hpm5 : LT H5 pm (Rm.elems 1 row) := by rw [e5]; exact lpm.st (s4 _ _ h3)
    clear e5
    refine ⟨a, row, 2, ⟨rfl, rfl⟩, hL5, hne, hlen, fun H6 pa s6 npa lpa => ?_⟩
    refine ⟨c.Rule, dx, _, s6 _ _ h5, N.cl_Rule, N.n_Rule_afters, (by show (4 : Nat) < 1000; decide), ?_⟩
    obtain ⟨H7, e7⟩ : ∃ H7, H7 = upd H6 x (HO.ins c.Rule dx (putF "afters" (V.ref pa) [("number", V.int n), ("pass_number", V.int p), ("befores", V.ref b), ("matches", V.ref pm)])) := ⟨_, rfl⟩
    rw [← e7]
    have h7 : H7 x = some (.ins c.Rule dx [("number", V.int n), ("pass_number", V.int p), ("befores", V.ref b), ("matches", V.ref pm), ("afters", V.ref pa)]) := by rw [e7]; exact upd_same
    have B7 : Bd H H7 x := by rw [e7]; exact (B5.sm s6).st
    have npa0 : H pa = none := B5.fr pa npa
    have hL7 : LT H7 a row := by rw [e7]; exact (hL5.same s6).st (s6 _ _ h5)
    have hb7 : LT H7 b (Rm.elems 0 row).reverse := by rw [e7]; exact (hb5.same s6).st (s6 _ _ h5)
    have hpm7 : LT H7 pm (Rm.elems 1 row) := by rw [e7]; exact (hpm5.same s6).st (s6 _ _ h5)
    have hpa7 : LT H7 pa (Rm.elems 2 row) := by rw [e7]; exact lpa.st (s6 _ _ h5)
    clear e7
    refine ⟨row, hL7, hne, hlen, fun H8 pw s8 npw lpw => ?_⟩
    refine ⟨c.Rule, dx, _, s8 _ _ h7, N.cl_Rule, N.n_Rule_writers, (by show (5 : Nat) < 1000; decide), ?_⟩
    obtain ⟨H9, e9⟩ : ∃ H9, H9 = upd H8 x (HO.ins c.Rule dx (putF "writers" (V.ref pw) [("number", V.int n), ("pass_number", V.int p), ("befores", V.ref b), ("matches", V.ref pm), ("afters", V.ref pa)])) := ⟨_, rfl⟩
    rw [← e9]
    have h9 : H9 x = some (.ins c.Rule dx [("number", V.int n), ("pass_number", V.int p), ("befores", V.ref b), ("matches", V.ref pm), ("afters", V.ref pa), ("writers", V.ref pw)]) := by rw [e9]; exact upd_same
    have B9 : Bd H H9 x := by rw [e9]; exact (B7.sm s8).st
    have npw0 : H pw = none := B7.fr pw npw
    have hL9 : LT H9 a row := by rw [e9]; exact (hL7.same s8).st (s8 _ _ h7)
    have hb9 : LT H9 b (Rm.elems 0 row).reverse := by rw [e9]; exact (hb7.same s8).st (s8 _ _ h7)
    have hpm9 : LT H9 pm (Rm.elems 1 row) := by rw [e9]; exact (hpm7.same s8).st (s8 _ _ h7)
    have hpa9 : LT H9 pa (Rm.elems 2 row) := by rw [e9]; exact (hpa7.same s8).st (s8 _ _ h7)
    have hpw9 : LT H9 pw (Rm.wris row) := by rw [e9]; exact lpw.st (s8 _ _ h7)
    clear e9
    refine ⟨c.Rule, dx, _, h9, N.cl_Rule, N.n_Rule_in_effect, (by show (6 : Nat) < 1000; decide), ?_⟩
    exact k _ b pm pa pw B9.st.kp nb npm0 npa0 npw0 upd_same (hb9.st h9) (hpm9.st h9) (hpa9.st h9) (hpw9.st h9)
abbrev s_Book___init__ : Stmt := inClass (top 40) 0
theorem sc_Book___init__ : FnScope ["self"] ["self"] (defScope s_Book___init__) := ⟨rfl, rfl, rfl, by decide +kernel, rfl, by decide +kernel, by decide +kernel⟩
theorem ok_Book (F : Fun K "__init__" "Book.__init__" s_Book___init__ f fd) (T : Txt K mg Sz) (N : Cn K c) : FnOk P w K mg base CX0 1 f fd ["self"] (sp_Book c) := by
  refine F.ok sc_Book___init__ (fun vs H Q E h => ?_) (fun cdv A outer s H vs Q E hr h => ?_)
  · obtain ⟨x, dx, rfl, _⟩ := h
    rfl
  · obtain ⟨x, dx, rfl, hx, k⟩ := h
    refine ⟨_, (pss_cons (ps_fldK (K := K) rfl (pv 0) (pe_lst pa_nil) rfl)
  (pss_cons (ps_fldK (K := K) rfl (pv 0) (pe_lst pa_nil) rfl)
  (pss_one (ps_fldK (K := K) rfl (pv 0) (pe_lst pa_nil) rfl)))), ?_⟩
    simp only [tSeq, tVar, tNil, L2.start, List.map_cons, List.map_nil, List.length_cons, List.length_nil, List.replicate, List.append_nil, List.getElem?_cons_zero, Option.some.injEq, V.ref.injEq, exists_eq_left', exists_and_left, Nat.reduceSub, Nat.reduceAdd, tLst,  sFld]
    refine ⟨Nat.zero_le _, fun ps hps => ⟨c.Book, dx, _, (upd_ne (ne_of_none hx hps)).trans hx, N.cl_Book, N.n_Book_sets, by decide, Nat.zero_le _, fun pm hpm => ?_⟩⟩
    obtain ⟨H1, e1⟩ : ∃ H1, H1 = upd (upd H ps (HO.lst [])) x (HO.ins c.Book dx (putF "sets" (V.ref ps) [])) := ⟨_, rfl⟩
    rw [← e1] at hpm ⊢
    have h1 : H1 x = some (.ins c.Book dx [("sets", V.ref ps)]) := by rw [e1]; exact upd_same
    have nx : ps ≠ x := fun q => by rw [q, hx] at hps; cases hps
    have g1 : H1 ps = some (.lst []) := by rw [e1, upd_ne nx, upd_same]
    have B1 : Bd H H1 x := by rw [e1]; exact ((Bd.refl H x).al hps).st
    clear e1
    refine ⟨c.Book, dx, _, (upd_ne (ne_of_none h1 hpm)).trans h1, N.cl_Book, N.n_Book_maps, (by show (1 : Nat) < 1000; decide), Nat.zero_le _, fun pr hpr => ?_⟩
    obtain ⟨H2, e2⟩ : ∃ H2, H2 = upd (upd H1 pm (HO.lst [])) x (HO.ins c.Book dx (putF "maps" (V.ref pm) [("sets", V.ref ps)])) := ⟨_, rfl⟩
    rw [← e2] at hpr ⊢
    have h2 : H2 x = some (.ins c.Book dx [("sets", V.ref ps), ("maps", V.ref pm)]) := by rw [e2]; exact upd_same
    have nx2 : pm ≠ x := fun q => by rw [q, h1] at hpm; cases hpm
    have nsm : ps ≠ pm := ne_of_none g1 hpm
    have g2 : H2 ps = some (.lst []) := by rw [e2, upd_ne nx, upd_ne nsm]; exact g1
    have g3 : H2 pm = some (.lst []) := by rw [e2, upd_ne nx2, upd_same]
    have B2 : Bd H H2 x := by rw [e2]; exact (B1.al hpm).st
    clear e2
    refine ⟨c.Book, dx, _, (upd_ne (ne_of_none h2 hpr)).trans h2, N.cl_Book, N.n_Book_rules, (by show (2 : Nat) < 1000; decide), ?_⟩
    have nx3 : pr ≠ x := fun q => by rw [q, h2] at hpr; cases hpr
    have nsr : ps ≠ pr := ne_of_none g2 hpr
    have nmr : pm ≠ pr := ne_of_none g3 hpr
    refine k _ ps pm pr ((B2.al hpr).st).kp hps (B1.fr _ hpm) (B2.fr _ hpr) ?_
    refine ⟨⟨dx, upd_same⟩, nsm, nsr, nmr, ⟨[], ?_, .nil⟩, ⟨[], ?_, .nil⟩, ?_, fun j x e => by simp at e, rfl, List.nodup_nil, ⟨by decide, by decide, by decide⟩⟩
    · rw [upd_ne nx, upd_ne nsr]; exact g2
    · rw [upd_ne nx2, upd_ne nmr]; exact g3
    · rw [upd_ne nx3, upd_same]; rfl
abbrev s_Fit___init__ : Stmt := inClass (top 44) 0
theorem sc_Fit___init__ : FnScope ["self", "rule", "bounds"] ["self", "rule", "bounds"] (defScope s_Fit___init__) := ⟨rfl, rfl, rfl, by decide +kernel, rfl, by decide +kernel, by decide +kernel⟩
theorem ok_Fit (F : Fun K "__init__" "Fit.__init__" s_Fit___init__ f fd) (T : Txt K mg Sz) (N : Cn K c) : FnOk P w K mg base CX0 1 f fd ["self", "rule", "bounds"] (sp_Fit c) := by
  refine F.ok sc_Fit___init__ (fun vs H Q E h => ?_) (fun cdv A outer s H vs Q E hr h => ?_)
  · obtain ⟨x, dx, a, b, rfl, _⟩ := h
    rfl
  · obtain ⟨x, dx, a, b, rfl, hx, k⟩ := h
    refine ⟨_, (pss_cons (ps_fldK (K := K) rfl (pv 0) (pv 1) rfl)
  (pss_one (ps_fldK (K := K) rfl (pv 0) (pv 2) rfl))), ?_⟩
    simp only [tSeq, tVar, L2.start, List.map_cons, List.map_nil, List.length_cons, List.length_nil, List.replicate, List.append_nil, List.getElem?_cons_zero, List.getElem?_cons_succ, Option.some.injEq, V.ref.injEq, exists_eq_left', exists_and_left, Nat.reduceSub, Nat.reduceAdd,  sFld]
    refine ⟨c.Fit, dx, [], hx, N.cl_Fit, N.n_Fit_rule, by decide, c.Fit, dx, _, upd_same, N.cl_Fit, N.n_Fit_bounds, (by show (1 : Nat) < 1000; decide), ?_⟩
    exact k _ upd_same (((Kp.refl _ _).upd (by simp)).upd (by simp))
abbrev s_Written___init__ : Stmt := inClass (top 51) 0
theorem sc_Written___init__ : FnScope ["self", "row", "cursor"] ["self", "row", "cursor"] (defScope s_Written___init__) := ⟨rfl, rfl, rfl, by decide +kernel, rfl, by decide +kernel, by decide +kernel⟩
theorem ok_Written (F : Fun K "__init__" "Written.__init__" s_Written___init__ f fd) (T : Txt K mg Sz) (N : Cn K c) : FnOk P w K mg base CX0 1 f fd ["self", "row", "cursor"] (sp_Written c) := by
  refine F.ok sc_Written___init__ (fun vs H Q E h => ?_) (fun cdv A outer s H vs Q E hr h => ?_)
  · obtain ⟨x, dx, a, b, rfl, _⟩ := h
    rfl
  · obtain ⟨x, dx, a, b, rfl, hx, k⟩ := h
    refine ⟨_, (pss_cons (ps_fldK (K := K) rfl (pv 0) (pv 1) rfl)
  (pss_one (ps_fldK (K := K) rfl (pv 0) (pv 2) rfl))), ?_⟩
    simp only [tSeq, tVar, L2.start, List.map_cons, List.map_nil, List.length_cons, List.length_nil, List.replicate, List.append_nil, List.getElem?_cons_zero, List.getElem?_cons_succ, Option.some.injEq, V.ref.injEq, exists_eq_left', exists_and_left, Nat.reduceSub, Nat.reduceAdd,  sFld]
    refine ⟨c.Written, dx, [], hx, N.cl_Written, N.n_Written_row, by decide, c.Written, dx, _, upd_same, N.cl_Written, N.n_Written_cursor, (by show (1 : Nat) < 1000; decide), ?_⟩
    exact k _ upd_same (((Kp.refl _ _).upd (by simp)).upd (by simp))
abbrev s_Rewriting___init__ : Stmt := inClass (top 61) 0
theorem sc_Rewriting___init__ : FnScope ["self", "cap", "points", "place", "point"] ["self", "cap", "points"] (defScope s_Rewriting___init__) := ⟨rfl, rfl, rfl, by decide +kernel, rfl, by decide +kernel, by decide +kernel⟩
theorem ok_Rewriting (F : Fun K "__init__" "Rewriting.__init__" s_Rewriting___init__ f fd) (T : Txt K mg Sz) (N : Cn K c) : FnOk P w K mg base CX0 1 f fd ["self", "cap", "points"] (sp_Rewriting K c) := by
  refine F.ok sc_Rewriting___init__ (fun vs H Q E h => ?_) (fun cdv A outer s H vs Q E hr h => ?_)
  · obtain ⟨x, dx, a, cap, ns, rfl, _⟩ := h
    rfl
  · obtain ⟨x, dx, a, cap, ns, rfl, hx, hS, hlen, hnn, k⟩ := h
    refine ⟨_, (pss_cons (ps_fldK (K := K) rfl (pv 0) (pv 1) rfl)
  (pss_cons (ps_fldK (K := K) rfl (pv 0) (pe_lst pa_nil) rfl)
  (pss_cons (ps_fldK (K := K) rfl (pv 0) (pe_lc rfl sc_Rewriting___init__.nd (pi_enumK (K := K) rfl rfl T.b_enumerate (pa_cons (pv 2) pa_nil)) (blkOk_by (N := ["self", "cap", "points", "place", "point"]) (sc := defScope s_Rewriting___init__) (own := [("place", 3), ("point", 4)]) (by decide +kernel)) (fun _ _ _ _ _ => (pg_tupK (K := K) (nn := 2) rfl rfl (pgs_cons (pg_name (i := 3) sc_Rewriting___init__.nd rfl (Or.inl rfl)) (pgs_cons (pg_name (i := 4) sc_Rewriting___init__.nd rfl (Or.inl rfl)) pgs_nil)))) (fun _ _ _ _ _ => pts_nil) (fun _ _ _ _ _ => (pe_tup (pa_cons (pv 4) (pa_cons (pv 3) (pa_cons (pe_op op_add (pv 3) pe_int) pa_nil)))))) rfl)
  (pss_cons (ps_fldK (K := K) rfl (pv 0) (pe_lst pa_nil) rfl)
  (pss_one (ps_fldK (K := K) rfl (pv 0) pe_non rfl)))))), ?_⟩
    simp only [tSeq, tC, tVar, tNil, L2.start, List.map_cons, List.map_nil, List.length_cons, List.length_nil, List.replicate, List.cons_append, List.nil_append, List.getElem?_cons_zero, List.getElem?_cons_succ, Option.some.injEq, V.ref.injEq, exists_eq_left', exists_and_left, Nat.reduceSub, Nat.reduceAdd, tLst,  sFld]
    refine ⟨c.Rewriting, dx, _, hx, N.cl_Rewriting, N.n_Rewriting_cap, by decide, Nat.zero_le _, fun l hl => ?_⟩
    obtain ⟨H1, e1⟩ : ∃ H1, H1 = upd H x (HO.ins c.Rewriting dx (putF "cap" (V.int cap) [])) := ⟨_, rfl⟩
    rw [← e1] at hl ⊢
    have h1 : H1 x = some (.ins c.Rewriting dx [("cap", V.int cap)]) := by rw [e1]; exact upd_same
    have B1 : Bd H H1 x := by rw [e1]; exact (Bd.refl H x).st
    refine ⟨c.Rewriting, dx, _, (upd_ne (ne_of_none h1 hl)).trans h1, N.cl_Rewriting, N.n_Rewriting_left, (by show (1 : Nat) < 1000; decide), ?_⟩
    obtain ⟨H2, e2⟩ : ∃ H2, H2 = upd (upd H1 l (HO.lst [])) x (HO.ins c.Rewriting dx (putF "left" (V.ref l) [("cap", V.int cap)])) := ⟨_, rfl⟩
    rw [← e2]
    have nlx : l ≠ x := fun q => by rw [q, h1] at hl; cases hl
    have h2 : H2 x = some (.ins c.Rewriting dx [("cap", V.int cap), ("left", V.ref l)]) := by rw [e2]; exact upd_same
    have B2 : Bd H H2 x := by rw [e2]; exact (B1.al hl).st
    have g2 : H2 l = some (.lst []) := by rw [e2, upd_ne nlx, upd_same]
    have hS2 : SqL K H2 a (ns.map V.int) := sqL_ins hS hx B2.kp
    clear e1 e2
    refine ⟨_, rfl, a, _, rfl, hS2, fun D hD => lc_enum (xs := ns.map V.int) (fun i H' => Same H2 H' ∧ ∃ us, H' D = some (.lst (us.map V.ref)) ∧ Tups H' us (tx ((Rs.fresh (ns.map Int.toNat)).take i)) ∧ us.length ≤ i) ⟨same_new hD, [], upd_same, .nil, Nat.le_refl _⟩ (fun i H' _ z => z.1.seq hS2) ?_ ?_⟩
    · rintro i y H' T hy ⟨hs, us, hU, hT, hu⟩ hTn
      obtain ⟨z, hz, rfl⟩ := int_at hy
      have hi : i < ns.length := (List.getElem?_eq_some_iff.mp hz).1
      have hz0 := hnn z (List.mem_of_getElem? hz)
      simp only [gName, gCons, gNil, gTup, tOp, tC, tVar, rI0, tCons, tNil, List.length_cons, List.length_nil, List.getElem?_cons_zero, List.getElem?_cons_succ, List.set_cons_zero, List.set_cons_succ, Option.some.injEq, V.int.injEq, V.ref.injEq, true_and, exists_eq_left', exists_and_left, Nat.reduceAdd, tTup,  if_true, tYes, wipe]
      refine ⟨_, SqT.of upd_same, rfl, _, _, rfl, _, _, rfl, rfl, _, rfl, by decide, fun p hp => ?_⟩
      obtain ⟨H3, e3⟩ : ∃ H3, H3 = upd H' T (HO.tup [V.int (i : Nat), V.int z]) := ⟨_, rfl⟩
      rw [← e3] at hp ⊢
      have s3 : Same H' H3 := by rw [e3]; exact same_new hTn
      have hU3 := s3 _ _ hU
      have hT3 := hT.same s3
      have ef : (Rs.fresh (ns.map Int.toNat))[i]? = some ⟨z.toNat, i, i + 1⟩ := by
        unfold Rs.fresh
        rw [List.getElem?_map, List.getElem?_zipIdx, List.getElem?_map, hz]
        simp
      have et : tx ((Rs.fresh (ns.map Int.toNat)).take (i + 1)) = tx ((Rs.fresh (ns.map Int.toNat)).take i) ++ [[z, (i : Int), (i : Int) + 1]] := by
        rw [List.take_add_one, ef, tx_app]
        congr 1
        show [[((z.toNat : Nat) : Int), ((i : Nat) : Int), ((i + 1 : Nat) : Int)]] = _
        rw [Int.toNat_of_nonneg hz0]
        rfl
      rw [et]
      refine ⟨us.map V.ref, (upd_ne (ne_of_none hU3 hp)).trans hU3, by rw [List.length_map, sizeLine_eq]; omega, same_own ((hs.trans s3).trans (same_new hp)) hD, us ++ [p], by rw [upd_same, List.map_append]; rfl, ?_, by rw [List.length_append, List.length_singleton]; omega⟩
      exact hT3.snoc_new (it := [z, (i : Int), (i : Int) + 1]) hU3 hp _ ⟨_, rfl⟩
    · rintro H3 ⟨s3, us, hU, hT, hu⟩
      have ef : (Rs.fresh (ns.map Int.toNat)).length = ns.length := by unfold Rs.fresh; simp
      rw [List.length_map, ← ef, List.take_length] at hT
      have h3 := s3 _ _ h2
      have B3 := B2.sm s3
      have nDx : D ≠ x := fun q => by rw [q, h2] at hD; cases hD
      have nlD : l ≠ D := ne_of_none g2 hD
      refine ⟨c.Rewriting, dx, _, h3, N.cl_Rewriting, N.n_Rewriting_right, (by show (2 : Nat) < 1000; decide), Nat.zero_le _, fun st hst => ?_⟩
      obtain ⟨H4, e4⟩ : ∃ H4, H4 = upd H3 x (HO.ins c.Rewriting dx (putF "right" (V.ref D) [("cap", V.int cap), ("left", V.ref l)])) := ⟨_, rfl⟩
      rw [← e4] at hst ⊢
      have h4 : H4 x = some (.ins c.Rewriting dx [("cap", V.int cap), ("left", V.ref l), ("right", V.ref D)]) := by rw [e4]; exact upd_same
      have B4 : Bd H H4 x := by rw [e4]; exact B3.st
      have gl4 : LT H4 l [] := by
        rw [e4]
        exact LT.st (row := []) ⟨[], s3 _ _ g2, .nil⟩ h3
      have gD4 : LT H4 D (tx (Rs.fresh (ns.map Int.toNat))) := by
        rw [e4]
        exact LT.st ⟨us, hU, hT⟩ h3
      clear e4
      have nlst : l ≠ st := by
        obtain ⟨ts, q, _⟩ := gl4
        exact ne_of_none q hst
      have nDst : D ≠ st := by
        obtain ⟨ts, q, _⟩ := gD4
        exact ne_of_none q hst
      have nst : H st = none := B4.fr st hst
      have h5 : (upd H4 st (HO.lst [])) x = some (.ins c.Rewriting dx [("cap", V.int cap), ("left", V.ref l), ("right", V.ref D)]) := (upd_ne (ne_of_none h4 hst)).trans h4
      refine ⟨c.Rewriting, dx, _, h5, N.cl_Rewriting, N.n_Rewriting_steps, (by show (3 : Nat) < 1000; decide), c.Rewriting, dx, _, upd_same, N.cl_Rewriting, N.n_Rewriting_refusal, (by show (4 : Nat) < 1000; decide), ?_⟩
      rw [upd_upd]
      refine k _ l D st ((B4.al hst).st).kp upd_same (B1.fr l hl) nst nlD nlst nDst ((gl4.same (same_new hst)).st h5) ((gD4.same (same_new hst)).st h5) ?_
      exact LT.st (row := []) ⟨[], upd_same, .nil⟩ h5
end
end Re
end
section
set_option maxHeartbeats 4000000
namespace Re
open PySem PySem.Spec PyProof.Rows L2
open Rm (ElOk WrOk bnds resI)
section
variable {P : Program} {w : World} {K : PySem.W.Frag} {mg : Str → Option Value} {base : Heap} {Sz f : Addr} {fd : FuncData} {c : Cs}
abbrev s_Book_ask_set : Stmt := inClass (top 40) 5
theorem sc_Book_ask_set : FnScope ["self", "set_number", "point"] ["self", "set_number", "point"] (defScope s_Book_ask_set) := ⟨rfl, rfl, rfl, by decide +kernel, rfl, by decide +kernel, by decide +kernel⟩
theorem ok_Book_ask_set (F : Fun K "ask_set" "Book.ask_set" s_Book_ask_set f fd) (T : Txt K mg Sz) (N : Cn K c) (c_in_ranges : Cal P w K mg base 1 "in_ranges" ["point", "ranges"] sp_in_ranges) : FnOk P w K mg base CX0 2 f fd ["self", "set_number", "point"] (sp_Book_ask_set c) := by
  refine F.ok sc_Book_ask_set (fun vs H Q E h => ?_) (fun cdv A outer s H vs Q E hr h => ?_)
  · obtain ⟨bk, s, m, r, rs, b, x, o, rfl, _⟩ := h
    rfl
  · obtain ⟨bk, s, m, r, rs, b, x, o, rfl, B, hx0, ho0, k⟩ := h
    refine ⟨_, (pss_cons (ps_if (pt_cmpR op_ge (pv 1) (pe_callB (r := rLenS K) call_len_seq (by rfl) T.b_len boot_len (pa_cons (pe_fldK (K := K) rfl (pv 0) rfl) pa_nil)) (nomark _)) (pss_one (ps_ret (pe_lst (pa_cons (pe_un un_neg pe_int) pa_nil)))) pss_nil)
  (pss_one (ps_ret (pe_lst (pa_cons (pe_ifExp (pt_val (pe_fun (sp := sp_in_ranges) c_in_ranges hr (pa_cons (pv 2) (pa_cons (pe_ix (r := rIxL K) ix_list (pe_fldK (K := K) rfl (pv 0) rfl) (pv 1) (fun _ _ => rfl)) pa_nil)))) pe_int pe_int) pa_nil))))), ?_⟩
    simp only [tSeq, tNext, tRet, tIfS, tOp, tUn, tC, tVar, rI0, rU, tTest, tB, tIf, tCons, tNil, tCall, L2.start, List.map_cons, List.map_nil, List.length_cons, List.length_nil, List.replicate, List.append_nil, List.getElem?_cons_zero, List.getElem?_cons_succ, Option.some.injEq, V.int.injEq, V.bl.injEq, V.ref.injEq, List.cons.injEq, and_true, exists_eq_left', exists_and_left, Nat.reduceSub, Nat.reduceAdd, rIxL, tLst,  decide_eq_true_eq, rLenS, tCB, tFld, sp_in_ranges]
    obtain ⟨dxb, hbk⟩ := B.obj
    obtain ⟨as, hs1, hs2⟩ := B.sets
    have hal := Paired.length hs2
    have hst := Rb.step_has b x o hx0
    refine ⟨c.Book, dxb, _, hbk, N.cl_Book, N.n_Book_sets, _, rfl, s, rfl, _, Or.inl (SqL.of hs1), ite2 (fun h => k.one B ?_ (Same.refl H)) fun h => ?_⟩
    · rw [List.length_map, hal] at h
      rw [hst, List.getElem?_eq_none (by omega)]
    · rw [List.length_map, hal] at h
      obtain ⟨rg, hrg⟩ : ∃ rg, b.sets[x.toNat]? = some rg := ⟨_, List.getElem?_eq_getElem (by omega)⟩
      obtain ⟨a, ha, ⟨ps, e3, hps, hLT⟩, _⟩ := paired_get' hs2 hrg
      rw [hrg] at hst
      have e4 := Rb.inI_eq ps o hps ho0
      rw [← e3] at e4
      refine ⟨c.Book, dxb, _, hbk, N.cl_Book, N.n_Book_sets, _, rfl, s, rfl, _, SqL.of hs1, V.ref a, at_of (j := x.toNat) (by omega) (map_at V.ref ha), a, ps, o, ⟨rfl, rfl⟩, hLT, ite2 (fun h2 => k.one B ?_ (Same.refl H)) fun h2 => k.one B ?_ (Same.refl H)⟩
      · rw [hst]
        show (b, [if Rs.inRanges rg o.toNat = true then 1 else 0]) = _
        rw [e4, if_pos h2]
      · rw [hst]
        show (b, [if Rs.inRanges rg o.toNat = true then 1 else 0]) = _
        rw [e4, if_neg h2]
abbrev s_Book_ask_map : Stmt := inClass (top 40) 6
theorem sc_Book_ask_map : FnScope ["self", "map_number", "point"] ["self", "map_number", "point"] (defScope s_Book_ask_map) := ⟨rfl, rfl, rfl, by decide +kernel, rfl, by decide +kernel, by decide +kernel⟩
theorem ok_Book_ask_map (F : Fun K "ask_map" "Book.ask_map" s_Book_ask_map f fd) (T : Txt K mg Sz) (N : Cn K c) : FnOk P w K mg base CX0 1 f fd ["self", "map_number", "point"] (sp_Book_ask_map c) := by
  refine F.ok sc_Book_ask_map (fun vs H Q E h => ?_) (fun cdv A outer s H vs Q E hr h => ?_)
  · obtain ⟨bk, s, m, r, rs, b, x, o, rfl, _⟩ := h
    rfl
  · obtain ⟨bk, s, m, r, rs, b, x, o, rfl, B, hx0, ho0, k⟩ := h
    have hu := hu_of hr
    refine ⟨_, (pss_cons (ps_if (pt_cmpR op_ge (pv 1) (pe_callB (r := rLenS K) call_len_seq (by rfl) T.b_len boot_len (pa_cons (pe_fldK (K := K) rfl (pv 0) rfl) pa_nil)) (nomark _)) (pss_one (ps_ret (pe_lst (pa_cons (pe_un un_neg pe_int) pa_nil)))) pss_nil)
  (pss_one (ps_ret (pe_lst (pa_cons (pe_dget2 hu (pe_ix (r := rIxL K) ix_list (pe_fldK (K := K) rfl (pv 0) rfl) (pv 1) (fun _ _ => rfl)) (pv 2) (pv 2) ⟨rfl, rfl, rfl, rfl⟩) pa_nil))))), ?_⟩
    simp only [tSeq, tNext, tRet, tIfS, tOp, tUn, tC, tVar, rI0, rU, tTest, tCons, tNil, L2.start, List.map_cons, List.map_nil, List.length_cons, List.length_nil, List.replicate, List.append_nil, List.getElem?_cons_zero, List.getElem?_cons_succ, Option.some.injEq, V.int.injEq, V.bl.injEq, V.ref.injEq, List.cons.injEq, and_true, exists_eq_left', exists_and_left, Nat.reduceSub, Nat.reduceAdd, rIxL, tLst,  decide_eq_true_eq, rLenS, tCB, tFld, tDGet2]
    obtain ⟨dxb, hbk⟩ := B.obj
    obtain ⟨as, hs1, hs2⟩ := B.maps
    have hal := Paired.length hs2
    have hst := Rb.step_look b x o hx0
    refine ⟨c.Book, dxb, _, hbk, N.cl_Book, N.n_Book_maps, _, rfl, m, rfl, _, Or.inl (SqL.of hs1), ite2 (fun h => k.one B ?_ (Same.refl H)) fun h => ?_⟩
    · rw [List.length_map, hal] at h
      rw [hst, List.getElem?_eq_none (by omega)]
    · rw [List.length_map, hal] at h
      obtain ⟨rg, hrg⟩ : ∃ rg, b.maps[x.toNat]? = some rg := ⟨_, List.getElem?_eq_getElem (by omega)⟩
      obtain ⟨a, ha, hMA⟩ := paired_get' hs2 hrg
      rw [hrg] at hst
      obtain ⟨g1, ov, g2, g3⟩ := map_get hMA o ho0
      refine ⟨c.Book, dxb, _, hbk, N.cl_Book, N.n_Book_maps, _, rfl, m, rfl, _, SqL.of hs1, V.ref a, at_of (j := x.toNat) (by omega) (map_at V.ref ha), a, rfl, g1, ov, g2, ?_⟩
      rw [g3]
      exact k.one B hst (Same.refl H)
abbrev s_Book_turn_rule : Stmt := inClass (top 40) 4
theorem sc_Book_turn_rule : FnScope ["self", "rule_number", "on", "rule"] ["self", "rule_number", "on"] (defScope s_Book_turn_rule) := ⟨rfl, rfl, rfl, by decide +kernel, rfl, by decide +kernel, by decide +kernel⟩
theorem ok_Book_turn_rule (F : Fun K "turn_rule" "Book.turn_rule" s_Book_turn_rule f fd) (T : Txt K mg Sz) (N : Cn K c) : FnOk P w K mg base CX0 1 f fd ["self", "rule_number", "on"] (sp_Book_turn_rule c) := by
  refine F.ok sc_Book_turn_rule (fun vs H Q E h => ?_) (fun cdv A outer s H vs Q E hr h => ?_)
  · obtain ⟨bk, s, m, r, rs, b, x, o, rfl, _⟩ := h
    rfl
  · obtain ⟨bk, s, m, r, rs, b, x, o, rfl, B, hx0, ho0, k⟩ := h
    refine ⟨_, (pss_cons (ps_if (PW.pt (pw_or (pt_cmpR op_ge (pv 1) (pe_callB (r := rLenS K) call_len_seq (by rfl) T.b_len boot_len (pa_cons (pe_fldK (K := K) rfl (pv 0) rfl) pa_nil)) (nomark _)) (pw_or1 (pt_cmpR op_gt (pv 2) pe_int (nomark _))))) (pss_one (ps_ret (pe_lst (pa_cons (pe_un un_neg pe_int) pa_nil)))) pss_nil)
  (pss_cons (ps_set (i := 3) sc_Book_turn_rule.nd rfl (Or.inl rfl) (pe_ix (r := rIxL K) ix_list (pe_fldK (K := K) rfl (pv 0) rfl) (pv 1) (fun _ _ => rfl)))
  (pss_cons (ps_fldK (K := K) rfl (pv 3) (pe_cmpR op_eq (pv 2) pe_int (nomark _)) rfl)
  (pss_one (ps_ret (pe_lst (pa_cons pe_int pa_nil))))))), ?_⟩
    simp only [tSeq, tNext, tRet, tIfS, tAsg, gName, tOp, tUn, tC, tVar, rI0, rU, rEq, tTest, tOr, tCons, tNil, L2.start, List.map_cons, List.map_nil, List.length_cons, List.length_nil, List.replicate, List.cons_append, List.nil_append, List.getElem?_cons_zero, List.getElem?_cons_succ, List.set_cons_zero, List.set_cons_succ, Option.some.injEq, V.int.injEq, V.bl.injEq, V.ref.injEq, List.cons.injEq, and_true, true_and, exists_eq_left', exists_and_left, Nat.reduceSub, Nat.reduceAdd, scal_ii, rIxL, tLst,  if_true, decide_eq_true_eq, rLenS, tCB, tFld, sFld]
    obtain ⟨dxb, hbk⟩ := B.obj
    have hrl := B.rules
    have hst := Rb.step_turn b x o hx0 ho0
    refine ⟨c.Book, dxb, _, hbk, N.cl_Book, N.n_Book_rules, _, rfl, r, rfl, _, Or.inl (SqL.of hrl), ite2 (fun h => k.one B ?_ (Same.refl H)) fun h => ?_⟩
    · rw [List.length_map, B.len] at h
      rw [hst, List.getElem?_eq_none (by omega)]
    · rw [List.length_map] at h
      obtain ⟨a, ha⟩ : ∃ a, rs[x.toNat]? = some a := ⟨_, List.getElem?_eq_getElem (by omega)⟩
      obtain ⟨ru, hru, hRA⟩ := B.each _ a ha
      rw [hru] at hst
      refine ite2 (fun h2 => k.one B ?_ (Same.refl H)) fun h2 => ?_
      · rw [hst]
        show (if 1 < o then (b, [-1]) else _) = _
        rw [if_pos h2]
      · have hst : RsNeutral.step b [[3, x, o]] = (⟨b.sets, b.maps, b.rules.set x.toNat { ru with on := decide (o = 1) }⟩, [0]) := by
          rw [hst]
          show (if 1 < o then (b, [-1]) else _) = _
          rw [if_neg h2]
        obtain ⟨dxr, pb, pm, pa, pw, eb, em, ea, ew, g1, _⟩ := hRA
        have B2 := B.turn (on := decide (o = 1)) ha hru g1
        refine ⟨c.Book, dxb, _, hbk, N.cl_Book, N.n_Book_rules, _, rfl, r, rfl, _, SqL.of hrl, V.ref a, at_of (j := x.toNat) (by omega) (map_at V.ref ha), a, rfl, c.Rule, dxr, _, g1, N.cl_Rule, N.n_Rule_in_effect, (by show (7 : Nat) < 1000; decide), by decide, fun p hp => ?_⟩
        have e : putF "in_effect" (V.bl (decide (o = 1))) (rf (x.toNat : Nat) ru.pass pb pm pa pw ru.on) = rf (x.toNat : Nat) ru.pass pb pm pa pw (decide (o = 1)) := rfl
        rw [e] at hp ⊢
        have hpn : H p = none := by
          by_cases q : p = a
          · rw [q, upd_same] at hp; cases hp
          · rw [upd_ne q] at hp; exact hp
        refine k _ p rs ?_ ?_ hpn ?_ (fun x hx => .inl hx)
        · rw [hst]; exact B2.same (same_new hp)
        · rw [hst]; exact upd_same
        · refine Kp.new (Kp.upd (Kp.refl _ _) ?_) hp
          simp [List.mem_of_getElem? ha]
abbrev s_Book_find_place : Stmt := inClass (top 40) 7
theorem sc_Book_find_place : FnScope ["self", "set_number", "start", "points", "place"] ["self", "set_number", "start", "points"] (defScope s_Book_find_place) := ⟨rfl, rfl, rfl, by decide +kernel, rfl, by decide +kernel, by decide +kernel⟩
theorem ok_Book_find_place (F : Fun K "find_place" "Book.find_place" s_Book_find_place f fd) (T : Txt K mg Sz) (N : Cn K c) (c_in_ranges : Cal P w K mg base 1 "in_ranges" ["point", "ranges"] sp_in_ranges) : FnOk P w K mg base CX0 2 f fd ["self", "set_number", "start", "points"] (sp_Book_find_place K c) := by
  refine F.ok sc_Book_find_place (fun vs H Q E h => ?_) (fun cdv A outer s H vs Q E hr h => ?_)
  · obtain ⟨bk, s, m, r, a, rs, b, x, o, l, rfl, _⟩ := h
    rfl
  · obtain ⟨bk, s, m, r, a, rs, b, x, o, l, rfl, B, hS, hlen, hnn, hx0, ho0, k⟩ := h
    refine ⟨_, (pss_cons (ps_if (pt_cmpR op_ge (pv 1) (pe_callB (r := rLenS K) call_len_seq (by rfl) T.b_len boot_len (pa_cons (pe_fldK (K := K) rfl (pv 0) rfl) pa_nil)) (nomark _)) (pss_one (ps_ret (pe_lst (pa_cons (pe_un un_neg pe_int) pa_nil)))) pss_nil)
  (pss_cons (ps_for PassesOwn.never rfl (pi_range2B rfl T.b_range (pa_cons (pv 2) (pa_cons (pe_callB (r := rLenS K) call_len_seq (by rfl) T.b_len boot_len (pa_cons (pv 3) pa_nil)) pa_nil))) (pg_name (i := 4) sc_Book_find_place.nd rfl (Or.inl rfl)) (pss_one (ps_if (pt_val (pe_fun (sp := sp_in_ranges) c_in_ranges hr (pa_cons (pe_ix (r := rIxL K) ix_list (pv 3) (pv 4) (fun _ _ => rfl)) (pa_cons (pe_ix (r := rIxL K) ix_list (pe_fldK (K := K) rfl (pv 0) rfl) (pv 1) (fun _ _ => rfl)) pa_nil)))) (pss_one (ps_ret (pe_lst (pa_cons (pv 4) pa_nil)))) pss_nil)))
  (pss_one (ps_ret (pe_lst (pa_cons (pe_callB (r := rLenS K) call_len_seq (by rfl) T.b_len boot_len (pa_cons (pv 3) pa_nil)) pa_nil)))))), ?_⟩
    simp only [tSeq, tNext, tRet, tIfS, tOp, tUn, tC, tVar, rI0, rU, tTest, tCons, tNil, L2.start, List.map_cons, List.map_nil, List.length_cons, List.length_nil, List.replicate, List.cons_append, List.nil_append, List.getElem?_cons_zero, List.getElem?_cons_succ, Option.some.injEq, V.int.injEq, V.bl.injEq, V.ref.injEq, List.cons.injEq, and_true, exists_eq_left', exists_and_left, Nat.reduceSub, Nat.reduceAdd, tLst,  decide_eq_true_eq, rLenS, tCB, tFld]
    obtain ⟨dxb, hbk⟩ := B.obj
    obtain ⟨as, hs1, hs2⟩ := B.sets
    have hal := Paired.length hs2
    have hst := Rb.step_find b x o l hx0
    refine ⟨c.Book, dxb, _, hbk, N.cl_Book, N.n_Book_sets, _, rfl, s, rfl, _, Or.inl (SqL.of hs1), ite2 (fun h => k.one B ?_ (Same.refl H)) fun h => ?_⟩
    · rw [List.length_map, hal] at h
      rw [hst, List.getElem?_eq_none (by omega)]
    · rw [List.length_map, hal] at h
      obtain ⟨rg, hrg⟩ : ∃ rg, b.sets[x.toNat]? = some rg := ⟨_, List.getElem?_eq_getElem (by omega)⟩
      obtain ⟨as1, ha, ⟨ps, e3, hps, hLT⟩, _⟩ := paired_get' hs2 hrg
      rw [hrg] at hst
      obtain ⟨pp, epp⟩ : ∃ pp : Nat → Bool, pp = fun (i : Nat) => decide (o.toNat ≤ i) && Rs.inRanges rg ((l.map Int.toNat).getD i 0) := ⟨_, rfl⟩
      have hst : RsNeutral.step b [[6, x, o], l] = (b, [((((List.range l.length).find? pp).getD l.length : Nat) : Int)]) := by rw [epp]; exact hst
      have ppz : ∀ i z, l[i]? = some z → pp i = (decide (o.toNat ≤ i) && Rb.inI ps z) := fun i z hz => by
        rw [epp, e3]
        have : (l.map Int.toNat).getD i 0 = z.toNat := getD_of (by rw [List.getElem?_map, hz]; rfl)
        simp only [this]
        rw [Rb.inI_eq ps z hps (hnn z (List.mem_of_getElem? hz))]
      obtain ⟨Pv, ePv⟩ : ∃ Pv : Nat → L2.St → Hp → Prop, Pv = fun i σ H' => (∃ v4, σ = [some (V.ref bk), some (V.int x), some (V.int o), some (V.ref a), v4]) ∧ H' = H ∧ ∀ j, j < o.toNat + i → j < l.length → pp j = false := ⟨_, rfl⟩
      refine ⟨_, rfl, _, rfl, a, _, rfl, Or.inl hS, o, _, rfl, ho0, by rw [List.length_map]; omega, by rw [List.length_map]; omega, for_range (n := (((l.map V.int).length : Int) - o).toNat) Pv ?_ ?_ ?_⟩
      · rw [ePv]
        refine ⟨⟨none, rfl⟩, rfl, fun j hj hl => ?_⟩
        rw [epp]
        simp only [decide_eq_false (show ¬ o.toNat ≤ j by omega), Bool.false_and]
      · rintro i σ H' hi hP
        rw [ePv] at hP
        obtain ⟨⟨v4, rfl⟩, rfl, hno⟩ := hP
        rw [List.length_map] at hi
        have hil : o.toNat + i < l.length := by omega
        obtain ⟨z, hz⟩ : ∃ z, l[o.toNat + i]? = some z := ⟨_, List.getElem?_eq_getElem hil⟩
        have eo : o + (i : Int) = ((o.toNat + i : Nat) : Int) := by omega
        rw [eo]
        have epz := ppz _ z hz
        rw [decide_eq_true (show o.toNat ≤ o.toNat + i by omega), Bool.true_and] at epz
        simp only [tNext, tRet, tIfS, gName, tOp, tVar, tB, tCons, tNil, tCall, List.length_cons, List.length_nil, List.append_nil, List.getElem?_cons_zero, List.getElem?_cons_succ, List.set_cons_zero, List.set_cons_succ, Option.some.injEq, V.int.injEq, V.bl.injEq, V.ref.injEq, List.cons.injEq, and_true, exists_eq_left', exists_and_left, Nat.reduceAdd, rIxL, tLst,  tFld, sp_in_ranges]
        refine ⟨_, hS, V.int z, at_of (j := o.toNat + i) rfl (map_at V.int hz), c.Book, dxb, _, hbk, N.cl_Book, N.n_Book_sets, _, rfl, s, rfl, _, SqL.of hs1, V.ref as1, at_of (j := x.toNat) (by omega) (map_at V.ref ha), as1, ps, z, ⟨rfl, rfl⟩, hLT, ite2 (fun h2 => ?_) fun h2 => ?_⟩
        · have ef : (List.range l.length).find? pp = some (o.toNat + i) := by
            rw [List.find?_range_eq_some]
            refine ⟨by rw [epz]; exact h2, by simpa using hil, fun j hj => ?_⟩
            rw [hno j hj (by omega)]
            rfl
          rw [ef] at hst
          exact k.one B hst (Same.refl H')
        · rw [ePv]
          refine ⟨⟨_, rfl⟩, rfl, fun j hj hl => ?_⟩
          by_cases hj2 : j < o.toNat + i
          · exact hno j hj2 hl
          · have : j = o.toNat + i := by omega
            rw [this, epz]
            cases q : Rb.inI ps z with
            | true => exact absurd q h2
            | false => rfl
      · rintro σ H' hP
        rw [ePv] at hP
        obtain ⟨⟨v4, rfl⟩, rfl, hno⟩ := hP
        rw [List.length_map] at hno
        have ef : (List.range l.length).find? pp = none := by
          rw [List.find?_range_eq_none]
          intro j hj
          rw [hno j (by omega) hj]
          rfl
        rw [ef] at hst
        refine ⟨_, rfl, a, _, rfl, Or.inl hS, ?_⟩
        rw [List.length_map]
        exact k.one B hst (Same.refl H')
abbrev s_Book_add_set : Stmt := inClass (top 40) 1
theorem sc_Book_add_set : FnScope ["self", "numbers", "ranges", "first", "last"] ["self", "numbers"] (defScope s_Book_add_set) := ⟨rfl, rfl, rfl, by decide +kernel, rfl, by decide +kernel, by decide +kernel⟩
theorem ok_Book_add_set (F : Fun K "add_set" "Book.add_set" s_Book_add_set f fd) (T : Txt K mg Sz) (N : Cn K c) (c_are_paired : Cal P w K mg base 1 "are_paired" ["numbers", "most_pairs"] (sp_are_paired K)) (c_pairs_of : Cal P w K mg base 1 "pairs_of" ["numbers"] (sp_pairs_of K))
    (c_is_code_point : Cal P w K mg base 1 "is_code_point" ["number"] sp_is_code_point) : FnOk P w K mg base CX0 2 f fd ["self", "numbers"] (sp_Book_add_set K c) := by
  refine F.ok sc_Book_add_set (fun vs H Q E h => ?_) (fun cdv A outer s H vs Q E hr h => ?_)
  · obtain ⟨bk, s, m, r, a, rs, b, l, rfl, _⟩ := h
    rfl
  · obtain ⟨bk, s, m, r, a, rs, b, l, rfl, B, hS, hlen, hnn, k⟩ := h
    refine ⟨_, (pss_cons (ps_if (pt_not (pt_val (pe_fun (sp := (sp_are_paired K)) c_are_paired hr (pa_cons (pv 1) (pa_cons (pe_gi T.c_MOST_RANGES) pa_nil))))) (pss_one (ps_ret (pe_lst (pa_cons (pe_un un_neg pe_int) pa_nil)))) pss_nil)
  (pss_cons (ps_set (i := 2) sc_Book_add_set.nd rfl (Or.inl rfl) (pe_fun (sp := (sp_pairs_of K)) c_pairs_of hr (pa_cons (pv 1) pa_nil)))
  (pss_cons (ps_if (pt_not (pt_val (pe_callB (r := rAll K) (cr_all rfl) (by rfl) T.b_all boot_all (pa_cons (pe_lc rfl sc_Book_add_set.nd (pi_listK (K := K) rfl (pv 2)) (blkOk_by (N := ["self", "numbers", "ranges", "first", "last"]) (sc := defScope s_Book_add_set) (own := [("first", 3), ("last", 4)]) (by decide +kernel)) (fun _ _ _ _ _ => (pg_tupK (K := K) (nn := 2) rfl rfl (pgs_cons (pg_name (i := 3) sc_Book_add_set.nd rfl (Or.inl rfl)) (pgs_cons (pg_name (i := 4) sc_Book_add_set.nd rfl (Or.inl rfl)) pgs_nil)))) (fun _ _ _ _ _ => pts_nil) (fun _ _ _ _ _ => (pe_and (pe_cmpR op_le (pv 3) (pv 4) (nomark _)) (pe_one (pe_fun (sp := sp_is_code_point) c_is_code_point hr (pa_cons (pv 4) pa_nil)))))) pa_nil)))) (pss_one (ps_ret (pe_lst (pa_cons (pe_un un_neg pe_int) pa_nil)))) pss_nil)
  (pss_cons (ps_if (pt_cmpR op_ge (pe_callB (r := rLenS K) call_len_seq (by rfl) T.b_len boot_len (pa_cons (pe_fldK (K := K) rfl (pv 0) rfl) pa_nil)) (pe_gi T.c_MOST_SETS) (nomark _)) (pss_one (ps_ret (pe_lst (pa_cons (pe_un un_neg pe_int) pa_nil)))) pss_nil)
  (pss_cons (ps_expr (pe_bmK (K := K) rfl PySem.F.plainAttrs_list PySem.F.slot_list_append PySem.F.type_list_append mt_append (pe_fldK (K := K) rfl (pv 0) rfl) (pa_cons (pv 2) pa_nil)))
  (pss_one (ps_ret (pe_lst (pa_cons (pe_op op_sub (pe_callB (r := rLenS K) call_len_seq (by rfl) T.b_len boot_len (pa_cons (pe_fldK (K := K) rfl (pv 0) rfl) pa_nil)) pe_int) pa_nil))))))))), ?_⟩
    simp only [tSeq, tNext, tDrop, tRet, tIfS, tAsg, gName, tOp, tUn, tC, tVar, rI0, rU, tTest, tB, tNot, tCons, tNil, tCall, L2.start, List.map_cons, List.map_nil, List.length_cons, List.length_nil, List.replicate, List.cons_append, List.nil_append, List.append_nil, List.getElem?_cons_zero, List.getElem?_cons_succ, List.set_cons_zero, List.set_cons_succ, Option.some.injEq, V.int.injEq, V.bl.injEq, V.ref.injEq, List.cons.injEq, and_true, exists_eq_left', exists_and_left, Nat.reduceSub, Nat.reduceAdd, tLst,  decide_eq_true_eq, rLenS, tCB, tBM, rAppend, tFld, sp_are_paired, sp_pairs_of, rAll]
    obtain ⟨dxb, hbk⟩ := B.obj
    obtain ⟨as, hs1, hs2⟩ := B.sets
    have hal := Paired.length hs2
    have hst := Rb.step_set b l hnn
    refine ⟨a, l.map V.int, 64, ⟨rfl, rfl⟩, hS, ?_⟩
    rw [List.length_map]
    have ec : (decide ((l.length : Int) % 2 = 0) && decide ((l.length : Int) ≤ 2 * 64)) = decide (l.length % 2 = 0 ∧ l.length ≤ 128) := by
      apply Bool.eq_iff_iff.mpr
      simp only [Bool.and_eq_true, decide_eq_true_eq]
      omega
    rw [ec]
    by_cases h1 : l.length % 2 = 0 ∧ l.length ≤ 128
    · rw [decide_eq_true h1]
      rw [if_neg (fun q => q h1)] at hst
      refine iteF ⟨l, hS, h1.1, hlen, fun H1 p s1 hp hL => ?_⟩
      have hL0 : LT H1 p (prs (Rb.pairsI l)) := hL
      obtain ⟨ts, hp1, hp2⟩ := hL
      have htl := hp2.len
      rw [List.length_map] at htl
      have hpl : (Rb.pairsI l).length ≤ 4100 := by rw [Rb.pairsI_len]; omega
      refine ⟨_, rfl, p, rfl, ⟨_, SqL.of hp1⟩, fun D hD => lc_ix (xs := ts.map V.ref) (fun _ => true) (fun i => V.bl (decide (((Rb.pairsI l).getD i (0, 0)).1 ≤ ((Rb.pairsI l).getD i (0, 0)).2) && decide (((Rb.pairsI l).getD i (0, 0)).2 < 1114112))) hD (SqL.of hp1) (by rw [List.length_map, sizeLine_eq]; omega) ?_ ?_⟩
      · intro i y acc Nx hy hacc g1 g2
        obtain ⟨t, ht, rfl⟩ := ref_at hy
        obtain ⟨it, hit, hH⟩ := hp2.get ht
        rw [List.getElem?_map] at hit
        cases hq : (Rb.pairsI l)[i]? with
        | none => rw [hq] at hit; cases hit
        | some q =>
          rw [hq] at hit
          have e := Option.some.inj hit
          subst e
          have g1 := g1 rfl
          rw [getD_of hq] at g1
          simp only [gName, gCons, gNil, gTup, tOp, tVar, rI0, tAndV, tCons, tNil, tCall, List.append_nil, List.getElem?_cons_zero, List.getElem?_cons_succ, List.set_cons_zero, List.set_cons_succ, Option.some.injEq, V.bl.injEq, V.ref.injEq, List.cons.injEq, and_true, true_and, exists_eq_left', exists_and_left,  if_true, decide_eq_true_eq, tYes, wipe, sp_is_code_point]
          refine ⟨_, SqT.of ((upd_ne (ne_of_none hH hD)).trans hH), rfl, _, _, rfl, _, _, rfl, rfl, _, rfl, _, rfl, ite2 (fun h2 => ⟨_, rfl, acc, upd_same, hacc, ?_⟩) fun h2 => ⟨acc, upd_same, hacc, ?_⟩⟩
          · rw [upd_upd]
            rw [decide_eq_true h2, Bool.true_and] at g1
            exact g1
          · rw [upd_upd]
            rw [decide_eq_false h2, Bool.false_and] at g1
            exact g1
      · rw [List.length_map, htl, range_map (0, 0) (Rb.pairsI l) (fun q => V.bl (decide (q.1 ≤ q.2) && decide (q.2 < 1114112))) (fun i _ => rfl)]
        have er : ((Rb.pairsI l).map fun q => decide (q.1 ≤ q.2) && decide (q.2 < 1114112)).all id = Rb.rangesI (Rb.pairsI l) := by rw [List.all_map]; rfl
        obtain ⟨H2, e2⟩ : ∃ H2, H2 = upd H1 D (.lst ((Rb.pairsI l).map fun q => V.bl (decide (q.1 ≤ q.2) && decide (q.2 < 1114112)))) := ⟨_, rfl⟩
        rw [← e2]
        have s12 : Same H1 H2 := by rw [e2]; exact same_new hD
        have s2 := s1.trans s12
        refine ⟨D, rfl, (Rb.pairsI l).map fun q => decide (q.1 ≤ q.2) && decide (q.2 < 1114112), SqL.of (by rw [e2, upd_same, List.map_map]; rfl), ?_⟩
        rw [er]
        clear e2
        cases hrg : Rb.rangesI (Rb.pairsI l) with
        | false =>
          rw [if_pos hrg] at hst
          exact iteT (k.one B hst s2)
        | true =>
          rw [if_neg (by rw [hrg]; decide)] at hst
          refine iteF ⟨c.Book, dxb, _, s2 _ _ hbk, N.cl_Book, N.n_Book_sets, _, rfl, s, rfl, _, Or.inl (SqL.of (s2 _ _ hs1)), ite2 (fun h3 => ?_) fun h3 => ?_⟩
          · rw [List.length_map, hal] at h3
            rw [if_pos (by omega)] at hst
            exact k.one B hst s2
          · rw [List.length_map, hal] at h3
            rw [if_neg (by omega)] at hst
            have hpn : p ∉ [s, m, r] := by
              obtain ⟨_, g⟩ := B.sets
              obtain ⟨am, gm, _⟩ := B.maps
              simp only [List.mem_cons, List.not_mem_nil, or_false]
              rintro (q | q | q)
              · rw [q, hs1] at hp; cases hp
              · rw [q, gm] at hp; cases hp
              · rw [q, B.rules] at hp; cases hp
            have hset : SetAt H2 p ((Rb.pairsI l).map Rb.natP) := ⟨_, rfl, Rb.nonneg_pairs hnn, hL0.same s12⟩
            have B3 := (B.same s2).addSet (s2 _ _ hs1) hset hpn (by omega)
            obtain ⟨H3, e3⟩ : ∃ H3, H3 = upd H2 s (.lst (as.map V.ref ++ [V.ref p])) := ⟨_, rfl⟩
            have k3 : Kp (s :: m :: r :: rs) H H3 := by rw [e3]; exact (Kp.of_same s2).upd (by simp)
            have g3 : H3 s = some (.lst (as.map V.ref ++ [V.ref p])) := by rw [e3]; exact upd_same
            rw [← e3] at B3
            obtain ⟨dxb3, hbk3⟩ := B3.obj
            have f3 : ∀ q, H3 q = none → H q = none := fun q hq => by
              rw [e3] at hq
              by_cases z : q = s
              · rw [z, upd_same] at hq; cases hq
              · rw [upd_ne z] at hq; exact s2.free hq
            refine ⟨c.Book, dxb, _, s2 _ _ hbk, N.cl_Book, N.n_Book_sets, _, rfl, .inl ⟨rfl, _, SqL.of (s2 _ _ hs1)⟩, s, rfl, _, s2 _ _ hs1, by rw [List.length_map, sizeLine_eq]; omega, ?_⟩
            rw [← e3]
            refine ⟨c.Book, dxb3, _, hbk3, N.cl_Book, N.n_Book_sets, _, rfl, s, rfl, _, Or.inl (SqL.of g3), by decide, fun q hq => ?_⟩
            refine k _ q rs ?_ ?_ (f3 q hq) (k3.new hq) (fun x hx => .inl hx)
            · rw [hst]; exact B3.same (same_new hq)
            · rw [hst]
              show upd H3 q _ q = _
              rw [upd_same, List.length_append, List.length_map, hal]
              show some (HO.lst [V.int ((b.sets.length + 1 : Nat) - 1 : Int)]) = some (HO.lst [V.int (b.sets.length : Int)])
              rw [show ((b.sets.length + 1 : Nat) - 1 : Int) = (b.sets.length : Int) by omega]
    · rw [decide_eq_false h1]
      rw [if_pos h1] at hst
      exact iteT (k.one B hst (Same.refl H))
abbrev s_Book_add_map : Stmt := inClass (top 40) 2
theorem sc_Book_add_map : FnScope ["self", "numbers", "pairs", "table"] ["self", "numbers"] (defScope s_Book_add_map) := ⟨rfl, rfl, rfl, by decide +kernel, rfl, by decide +kernel, by decide +kernel⟩
theorem ok_Book_add_map (F : Fun K "add_map" "Book.add_map" s_Book_add_map f fd) (T : Txt K mg Sz) (N : Cn K c) (c_are_paired : Cal P w K mg base 1 "are_paired" ["numbers", "most_pairs"] (sp_are_paired K)) (c_pairs_of : Cal P w K mg base 1 "pairs_of" ["numbers"] (sp_pairs_of K))
    (c_are_code_points : Cal P w K mg base 2 "are_code_points" ["numbers"] (sp_are_code_points K)) : FnOk P w K mg base CX0 3 f fd ["self", "numbers"] (sp_Book_add_map K c) := by
  refine F.ok sc_Book_add_map (fun vs H Q E h => ?_) (fun cdv A outer s H vs Q E hr h => ?_)
  · obtain ⟨bk, s, m, r, a, rs, b, l, rfl, _⟩ := h
    rfl
  · obtain ⟨bk, s, m, r, a, rs, b, l, rfl, B, hS, hlen, hnn, k⟩ := h
    refine ⟨_, (pss_cons (ps_if (pt_not (pt_val (pe_fun (sp := (sp_are_paired K)) c_are_paired hr (pa_cons (pv 1) (pa_cons (pe_gi T.c_MOST_PAIRS) pa_nil))))) (pss_one (ps_ret (pe_lst (pa_cons (pe_un un_neg pe_int) pa_nil)))) pss_nil)
  (pss_cons (ps_set (i := 2) sc_Book_add_map.nd rfl (Or.inl rfl) (pe_fun (sp := (sp_pairs_of K)) c_pairs_of hr (pa_cons (pv 1) pa_nil)))
  (pss_cons (ps_set (i := 3) sc_Book_add_map.nd rfl (Or.inl rfl) (pe_callTy (r := rDctP K) (call_dictP rfl) (by rfl) T.b_dict boot_dict (pa_cons (pv 2) pa_nil)))
  (pss_cons (ps_if (PW.pt (pw_or (pt_cmpR op_lt (pe_callB call_lenD (by rfl) T.b_len PySem.boot_len (pa_cons (pv 3) pa_nil)) (pe_callB (r := rLenS K) call_len_seq (by rfl) T.b_len boot_len (pa_cons (pv 2) pa_nil)) (nomark _)) (pw_or1 (pt_not (pt_val (pe_fun (sp := (sp_are_code_points K)) c_are_code_points hr (pa_cons (pv 1) pa_nil))))))) (pss_one (ps_ret (pe_lst (pa_cons (pe_un un_neg pe_int) pa_nil)))) pss_nil)
  (pss_cons (ps_if (pt_cmpR op_ge (pe_callB (r := rLenS K) call_len_seq (by rfl) T.b_len boot_len (pa_cons (pe_fldK (K := K) rfl (pv 0) rfl) pa_nil)) (pe_gi T.c_MOST_MAPS) (nomark _)) (pss_one (ps_ret (pe_lst (pa_cons (pe_un un_neg pe_int) pa_nil)))) pss_nil)
  (pss_cons (ps_expr (pe_bmK (K := K) rfl PySem.F.plainAttrs_list PySem.F.slot_list_append PySem.F.type_list_append mt_append (pe_fldK (K := K) rfl (pv 0) rfl) (pa_cons (pv 3) pa_nil)))
  (pss_one (ps_ret (pe_lst (pa_cons (pe_op op_sub (pe_callB (r := rLenS K) call_len_seq (by rfl) T.b_len boot_len (pa_cons (pe_fldK (K := K) rfl (pv 0) rfl) pa_nil)) pe_int) pa_nil)))))))))), ?_⟩
    simp only [tSeq, tNext, tDrop, tRet, tIfS, tAsg, gName, tOp, tUn, tC, tVar, rI0, rU, tTest, tB, tOr, tNot, tCons, tNil, tCall, L2.start, List.map_cons, List.map_nil, List.length_cons, List.length_nil, List.replicate, List.cons_append, List.nil_append, List.append_nil, List.getElem?_cons_zero, List.getElem?_cons_succ, List.set_cons_zero, List.set_cons_succ, Option.some.injEq, V.int.injEq, V.bl.injEq, V.ref.injEq, List.cons.injEq, and_true, exists_eq_left', exists_and_left, Nat.reduceSub, Nat.reduceAdd, tLst,  if_true, decide_eq_true_eq, rLenS, tCB, tBM, rAppend, tFld, sp_are_paired, sp_pairs_of, sp_are_code_points, rDctP]
    obtain ⟨dxb, hbk⟩ := B.obj
    obtain ⟨as, hs1, hs2⟩ := B.maps
    have hal := Paired.length hs2
    have hst := Rb.step_map b l hnn
    refine ⟨a, l.map V.int, 256, ⟨rfl, rfl⟩, hS, ?_⟩
    rw [List.length_map]
    have ec : (decide ((l.length : Int) % 2 = 0) && decide ((l.length : Int) ≤ 2 * 256)) = decide (l.length % 2 = 0 ∧ l.length ≤ 512) := by
      apply Bool.eq_iff_iff.mpr
      simp only [Bool.and_eq_true, decide_eq_true_eq]
      omega
    rw [ec]
    by_cases h1 : l.length % 2 = 0 ∧ l.length ≤ 512
    · rw [decide_eq_true h1]
      rw [if_neg (fun q => q h1)] at hst
      refine iteF ⟨l, hS, h1.1, hlen, fun H1 p s1 hp hL => ?_⟩
      obtain ⟨ts, hp1, hp2⟩ := hL
      have htl := hp2.len
      rw [List.length_map] at htl
      obtain ⟨kvs, ekv⟩ : ∃ kvs, kvs = (Rb.pairsI l).map fun q => ((Sum.inl q.1 : Key), V.int q.2) := ⟨_, rfl⟩
      have hkl : kvs.length = (Rb.pairsI l).length := by rw [ekv, List.length_map]
      have hkk : kvs.map (·.1) = ((Rb.pairsI l).map (·.1)).map fun z => (Sum.inl z : Key) := by rw [ekv, List.map_map, List.map_map]; rfl
      refine ⟨ts, SqL.of hp1, kvs, by rw [ekv]; exact paired_conv (F := fun (t : Addr) (it : List Int) => H1 t = some (HO.tup (it.map V.int))) (F' := fun (p : Addr) (kv : Key × V) => SqT K H1 p [kV kv.1, kv.2]) (g := fun q : Int × Int => [q.1, q.2]) (g' := fun q : Int × Int => ((Sum.inl q.1 : Key), V.int q.2)) (fun t q e => SqT.of e) hp2, fun d hd => ⟨_, upd_same, _, Or.inl (SqL.of ((upd_ne (ne_of_none hp1 hd)).trans hp1)), ?_⟩⟩
      rw [List.length_map, htl]
      obtain ⟨H2, e2⟩ : ∃ H2, H2 = upd H1 d (HO.dK (mergeK [] kvs)) := ⟨_, rfl⟩
      rw [← e2]
      have s12 : Same H1 H2 := by rw [e2]; exact same_new hd
      have s2 := s1.trans s12
      have gd : H2 d = some (.dK (mergeK [] kvs)) := by rw [e2]; exact upd_same
      clear e2
      by_cases hn : ((Rb.pairsI l).map (·.1)).Nodup
      · have em : mergeK [] kvs = kvs := merge_nodup kvs [] (by rw [List.nil_append, hkk]; exact (nodup_inl _).mpr hn)
        rw [em] at gd ⊢
        refine ite2 (fun q => absurd q (by omega)) fun _ => ⟨l, s2.seq hS, hlen, fun H3 s3 => ?_⟩
        have s03 := s2.trans s3
        have eR : Rb.mapRight l = l.all fun x => decide (x < 1114112) := by
          unfold Rb.mapRight
          rw [decide_eq_true hn, Bool.true_and]
        rw [eR] at hst
        cases hrg : l.all fun x => decide (x < 1114112) with
        | false =>
          rw [if_pos hrg] at hst
          exact iteT (k.one B hst s03)
        | true =>
          rw [if_neg (by rw [hrg]; decide)] at hst
          refine iteF ⟨c.Book, dxb, _, s03 _ _ hbk, N.cl_Book, N.n_Book_maps, _, rfl, m, rfl, _, Or.inl (SqL.of (s03 _ _ hs1)), ite2 (fun h3 => ?_) fun h3 => ?_⟩
          · rw [List.length_map, hal] at h3
            rw [if_pos (by omega)] at hst
            exact k.one B hst s03
          · rw [List.length_map, hal] at h3
            rw [if_neg (by omega)] at hst
            have hmap : MapAt H3 d ((Rb.pairsI l).map Rb.natP) := ⟨_, rfl, Rb.nonneg_pairs hnn, by rw [← ekv]; exact s3 _ _ gd⟩
            have B3 := (B.same s03).addMap (s03 _ _ hs1) hmap (by omega)
            obtain ⟨H4, e3⟩ : ∃ H4, H4 = upd H3 m (.lst (as.map V.ref ++ [V.ref d])) := ⟨_, rfl⟩
            have k3 : Kp (s :: m :: r :: rs) H H4 := by rw [e3]; exact (Kp.of_same s03).upd (by simp)
            have g3 : H4 m = some (.lst (as.map V.ref ++ [V.ref d])) := by rw [e3]; exact upd_same
            rw [← e3] at B3
            obtain ⟨dxb3, hbk3⟩ := B3.obj
            have f3 : ∀ q, H4 q = none → H q = none := fun q hq => by
              rw [e3] at hq
              by_cases z : q = m
              · rw [z, upd_same] at hq; cases hq
              · rw [upd_ne z] at hq; exact s03.free hq
            refine ⟨c.Book, dxb, _, s03 _ _ hbk, N.cl_Book, N.n_Book_maps, _, rfl, .inl ⟨rfl, _, SqL.of (s03 _ _ hs1)⟩, m, rfl, _, s03 _ _ hs1, by rw [List.length_map, sizeLine_eq]; omega, ?_⟩
            rw [← e3]
            refine ⟨c.Book, dxb3, _, hbk3, N.cl_Book, N.n_Book_maps, _, rfl, m, rfl, _, Or.inl (SqL.of g3), by decide, fun q hq => ?_⟩
            refine k _ q rs ?_ ?_ (f3 q hq) (k3.new hq) (fun x hx => .inl hx)
            · rw [hst]; exact B3.same (same_new hq)
            · rw [hst]
              show upd H4 q _ q = _
              rw [upd_same, List.length_append, List.length_map, hal]
              show some (HO.lst [V.int ((b.maps.length + 1 : Nat) - 1 : Int)]) = some (HO.lst [V.int (b.maps.length : Int)])
              rw [show ((b.maps.length + 1 : Nat) - 1 : Int) = (b.maps.length : Int) by omega]
      · have hlt := merge_dup kvs [] List.nodup_nil (by rw [List.nil_append, hkk]; exact fun q => hn ((nodup_inl _).mp q))
        rw [List.length_nil, Nat.zero_add] at hlt
        refine ite2 (fun _ => k.one B ?_ s2) fun q => absurd (show ((mergeK [] kvs).length : Int) < ((Rb.pairsI l).length : Int) by omega) q
        have eR : Rb.mapRight l = false := by
          unfold Rb.mapRight
          rw [decide_eq_false hn, Bool.false_and]
        rw [hst, if_pos eR]
    · rw [decide_eq_false h1]
      rw [if_pos h1] at hst
      exact iteT (k.one B hst (Same.refl H))
abbrev s_Book_add_rule : Stmt := inClass (top 40) 3
theorem sc_Book_add_rule : FnScope ["self", "pass_number", "numbers", "row", "wrong"] ["self", "pass_number", "numbers"] (defScope s_Book_add_rule) := ⟨rfl, rfl, rfl, by decide +kernel, rfl, by decide +kernel, by decide +kernel⟩
theorem ok_Book_add_rule (F : Fun K "add_rule" "Book.add_rule" s_Book_add_rule f fd) (T : Txt K mg Sz) (N : Cn K c) (c_split_items : Cal P w K mg base 1 "split_items" ["numbers"] (sp_split_items K)) (c_first_wrong_item : Cal P w K mg base 4 "first_wrong_item" ["row", "set_count", "map_count"] (sp_first_wrong_item K))
    (c_Rule : Mkr P w K mg base 2 "Rule" c.Rule ["self", "number", "pass_number", "row"] (sp_Rule c)) : FnOk P w K mg base CX0 5 f fd ["self", "pass_number", "numbers"] (sp_Book_add_rule K c) := by
  refine F.ok sc_Book_add_rule (fun vs H Q E h => ?_) (fun cdv A outer s H vs Q E hr h => ?_)
  · obtain ⟨bk, s, m, r, a, rs, b, p, l, rfl, _⟩ := h
    rfl
  · obtain ⟨bk, s, m, r, a, rs, b, p, l, rfl, B, hS, hlen, hnn, hp0, k⟩ := h
    refine ⟨_, (pss_cons (ps_if (pt_cmpR op_gt (pv 1) (pe_gi T.c_LAST_PASS) (nomark _)) (pss_one (ps_ret (pe_lst (pa_cons (pe_un un_neg pe_int) pa_nil)))) pss_nil)
  (pss_cons (ps_set (i := 3) sc_Book_add_rule.nd rfl (Or.inl rfl) (pe_fun (sp := (sp_split_items K)) c_split_items hr (pa_cons (pv 2) pa_nil)))
  (pss_cons (ps_set (i := 4) sc_Book_add_rule.nd rfl (Or.inl rfl) (pe_fun (sp := (sp_first_wrong_item K)) c_first_wrong_item hr (pa_cons (pv 3) (pa_cons (pe_callB (r := rLenS K) call_len_seq (by rfl) T.b_len boot_len (pa_cons (pe_fldK (K := K) rfl (pv 0) rfl) pa_nil)) (pa_cons (pe_callB (r := rLenS K) call_len_seq (by rfl) T.b_len boot_len (pa_cons (pe_fldK (K := K) rfl (pv 0) rfl) pa_nil)) pa_nil)))))
  (pss_cons (ps_if (pt_cmpR op_notN (pv 4) pe_non (nomark _)) (pss_one (ps_ret (pe_lst (pa_cons (pe_un un_neg pe_int) (pa_cons (pv 4) pa_nil))))) pss_nil)
  (pss_cons (ps_if (pt_cmpR op_ge (pe_callB (r := rLenS K) call_len_seq (by rfl) T.b_len boot_len (pa_cons (pe_fldK (K := K) rfl (pv 0) rfl) pa_nil)) (pe_gi T.c_MOST_RULES) (nomark _)) (pss_one (ps_ret (pe_lst (pa_cons (pe_un un_neg pe_int) pa_nil)))) pss_nil)
  (pss_cons (ps_expr (pe_bmK (K := K) rfl PySem.F.plainAttrs_list PySem.F.slot_list_append PySem.F.type_list_append mt_append (pe_fldK (K := K) rfl (pv 0) rfl) (pa_cons (pe_new c_Rule hr (pa_cons (pe_callB (r := rLenS K) call_len_seq (by rfl) T.b_len boot_len (pa_cons (pe_fldK (K := K) rfl (pv 0) rfl) pa_nil)) (pa_cons (pv 1) (pa_cons (pv 3) pa_nil)))) pa_nil)))
  (pss_one (ps_ret (pe_lst (pa_cons (pe_op op_sub (pe_callB (r := rLenS K) call_len_seq (by rfl) T.b_len boot_len (pa_cons (pe_fldK (K := K) rfl (pv 0) rfl) pa_nil)) pe_int) pa_nil)))))))))), ?_⟩
    simp only [tSeq, tNext, tDrop, tRet, tIfS, tAsg, gName, tOp, tUn, tC, tVar, rI0, rU, tTest, tCons, tNil, tCall, L2.start, List.map_cons, List.map_nil, List.length_cons, List.length_nil, List.replicate, List.cons_append, List.nil_append, List.append_nil, List.getElem?_cons_zero, List.getElem?_cons_succ, List.set_cons_zero, List.set_cons_succ, Option.some.injEq, V.int.injEq, V.bl.injEq, V.ref.injEq, List.cons.injEq, and_true, true_and, exists_eq_left', exists_and_left, Nat.reduceSub, Nat.reduceAdd, tLst,  decide_eq_true_eq, rLenS, tCB, tBM, rAppend, tFld, tMake, sp_split_items, sp_first_wrong_item, sp_Rule]
    obtain ⟨dxb, hbk⟩ := B.obj
    obtain ⟨as, hs1, hs2⟩ := B.sets
    obtain ⟨am, hm1, hm2⟩ := B.maps
    have hal := Paired.length hs2
    have hml := Paired.length hm2
    have hst := Rb.step_rule b p l hp0 hnn
    have hsp : Rq.splitI l.length l = Rq.splitW l := rfl
    rw [hsp] at hst
    refine ite2 (fun h => k.one B (by rw [hst, if_pos h]) (Same.refl H)) fun h => ⟨l, hS, hlen, hnn, fun H1 ra s1 hra hL => ?_⟩
    rw [if_neg h] at hst
    have hne := Rq.splitW_ne _ l (Nat.le_refl _)
    have hmem := Rq.splitW_mem _ l (Nat.le_refl _)
    have hsl := Rq.splitW_len _ l (Nat.le_refl _)
    refine ⟨c.Book, dxb, _, s1 _ _ hbk, N.cl_Book, N.n_Book_sets, _, rfl, s, rfl, _, Or.inl (SqL.of (s1 _ _ hs1)), c.Book, dxb, _, s1 _ _ hbk, N.cl_Book, N.n_Book_maps, _, rfl, m, rfl, _, Or.inl (SqL.of (s1 _ _ hm1)), ra, Rq.splitW l, b.sets.length, b.maps.length, ⟨rfl, by rw [List.length_map, hal], by rw [List.length_map, hml]⟩, hL, fun it hit => ⟨hne it hit, ?_, ?_⟩, by omega, fun H2 s2 => ?_⟩
    · obtain ⟨y, rr, rfl⟩ := List.exists_cons_of_ne_nil (hne it hit)
      exact hnn y (hmem _ hit y (by simp))
    · exact Nat.le_trans (Rm.splitW_item _ l (Nat.le_refl _) it hit) (Rm.isz_le _)
    have s02 := s1.trans s2
    cases hw : Rq.wrongI b.sets.length b.maps.length [] (Rq.splitW l) with
    | some i =>
      rw [hw] at hst
      have hst : RsNeutral.step b [[2, p], l] = (b, [-3, (i : Int)]) := hst
      rw [if_pos (show (!decide (optV (some i) = V.non)) = true by simp [optV])]
      exact ⟨by decide, fun q hq => k.un B hst (s02.trans (same_new hq)) (s02.free hq) upd_same⟩
    | none =>
      rw [hw] at hst
      have hst : RsNeutral.step b [[2, p], l] = (if 64 ≤ b.rules.length then (b, [-4]) else (⟨b.sets, b.maps, b.rules ++ [Rq.ruleI p.toNat (Rq.splitW l)]⟩, [(b.rules.length : Int)])) := hst
      rw [if_neg (show ¬ (!decide (optV none = V.non)) = true by simp [optV])]
      have hrl := B.rules
      refine ⟨c.Book, dxb, _, s02 _ _ hbk, N.cl_Book, N.n_Book_rules, _, rfl, r, rfl, _, Or.inl (SqL.of (s02 _ _ hrl)), ite2 (fun h3 => ?_) fun h3 => ?_⟩
      · rw [List.length_map, B.len] at h3
        rw [if_pos (by omega)] at hst
        exact k.one B hst s02
      · rw [List.length_map, B.len] at h3
        rw [if_neg (by omega)] at hst
        refine ⟨c.Book, dxb, _, s02 _ _ hbk, N.cl_Book, N.n_Book_rules, _, rfl, .inl ⟨rfl, _, SqL.of (s02 _ _ hrl)⟩, c.Book, dxb, _, s02 _ _ hbk, N.cl_Book, N.n_Book_rules, _, rfl, ?_⟩
        refine ⟨r, rfl, _, Or.inl (SqL.of (s02 _ _ hrl)), fun x dx nx ndx hne2 => ?_⟩
        have sN : Same H2 (upd (upd H2 dx (.own x)) x (.ins c.Rule dx [])) := fun b o e => by rw [upd_ne (ne_of_none e nx), upd_ne (ne_of_none e ndx)]; exact e
        have fr : ∀ q, upd (upd H2 dx (HO.own x)) x (HO.ins c.Rule dx []) q = none → H2 q = none := fun q hq => sN.free hq
        refine ⟨x, dx, ra, _, p, ⟨rfl, rfl, rfl, rfl⟩, upd_same, Rq.splitW l, (hL.same s2).same sN, hne, by omega, fun H3 pb pm pa pw k3 nb nm na nw hx hb hm ha hw2 => ?_⟩
        have s3 : Same H2 H3 := Same.made nx ndx fun b o e hb => k3 b o e (by simpa using hb)
        have s03 := s02.trans s3
        have nin : ∀ q, H2 q = none → q ∉ [s, m, r] := fun q hq => by
          simp only [List.mem_cons, List.not_mem_nil, or_false]
          rintro (z | z | z)
          · rw [z, s02 _ _ hs1] at hq; cases hq
          · rw [z, s02 _ _ hm1] at hq; cases hq
          · rw [z, s02 _ _ hrl] at hq; cases hq
        have RO := Rm.row_ok hnn hw
        have esh := Rm.ruleI_shape p.toNat (Rq.splitW l) RO.hds
        have hRA : RuleAt c H3 (fun a => a ∉ [s, m, r]) b.sets.length b.maps.length x b.rules.length (Rq.ruleI p.toNat (Rq.splitW l)) := by
          rw [esh]
          refine ⟨dx, pb, pm, pa, pw, _, _, _, _, ?_, hb, hm, ha, hw2, ⟨nin _ (fr _ nb), nin _ (fr _ nm), nin _ (fr _ na), nin _ (fr _ nw)⟩, ?_⟩
          · rw [hx, List.length_map, B.len]
            show some (HO.ins c.Rule dx (rf _ p pb pm pa pw true)) = some (HO.ins c.Rule dx (rf _ ((p.toNat : Nat) : Int) pb pm pa pw true))
            rw [Int.toNat_of_nonneg hp0]
          · refine ⟨?_, rfl, rfl, rfl, fun e he => RO.el 0 (by decide) e (List.mem_reverse.mp he), RO.el 1 (by decide), RO.el 2 (by decide), RO.wr, RO.cur, ?_⟩
            · show ((Rm.elems 0 (Rq.splitW l)).map Rq.elemI).reverse = _
              rw [List.map_reverse]
            · rw [List.length_reverse]
              exact ⟨RO.few.2.1, RO.few.1, RO.few.2.2.1, RO.few.2.2.2⟩
        have hxrs : x ∉ rs := fun hm => by
          obtain ⟨i, hi⟩ := List.getElem?_of_mem hm
          obtain ⟨ru, _, _, _, _, _, _, _, _, _, _, g1, _⟩ := B.each i x hi
          rw [s02 _ _ g1] at nx
          cases nx
        have B3 := (B.same s03).addRule hxrs hRA (by omega)
        obtain ⟨H4, e4⟩ : ∃ H4, H4 = upd H3 r (.lst (rs.map V.ref ++ [V.ref x])) := ⟨_, rfl⟩
        have k4 : Kp (s :: m :: r :: rs) H H4 := by rw [e4]; exact (Kp.of_same s03).upd (by simp)
        have g4 : H4 r = some (.lst (rs.map V.ref ++ [V.ref x])) := by rw [e4]; exact upd_same
        rw [← e4] at B3
        obtain ⟨dxb4, hbk4⟩ := B3.obj
        have f4 : ∀ q, H4 q = none → H q = none := fun q hq => by
          rw [e4] at hq
          by_cases z : q = r
          · rw [z, upd_same] at hq; cases hq
          · rw [upd_ne z] at hq; exact s03.free hq
        refine ⟨r, rfl, _, s03 _ _ hrl, by rw [List.length_map, B.len, sizeLine_eq]; omega, ?_⟩
        rw [← e4]
        refine ⟨c.Book, dxb4, _, hbk4, N.cl_Book, N.n_Book_rules, _, rfl, r, rfl, _, Or.inl (SqL.of g4), by decide, fun q hq => ?_⟩
        refine k _ q (rs ++ [x]) ?_ ?_ (f4 q hq) (k4.new hq) (fun y hy => ?_)
        · rw [hst]; exact B3.same (same_new hq)
        · rw [hst]
          show upd H4 q _ q = _
          rw [upd_same, List.length_append, List.length_map, B.len]
          show some (HO.lst [V.int ((b.rules.length + 1 : Nat) - 1 : Int)]) = some (HO.lst [V.int (b.rules.length : Int)])
          rw [show ((b.rules.length + 1 : Nat) - 1 : Int) = (b.rules.length : Int) by omega]
        · rcases List.mem_append.mp hy with hy | hy
          · exact .inl hy
          · rw [List.mem_singleton.mp hy]
            exact .inr (s02.free nx)
end
end Re
end
section
set_option maxHeartbeats 4000000
namespace Re
open PySem PySem.Spec PyProof.Rows L2
open Rm (ElOk WrOk bnds resI)
theorem five {el : List Int} (h : el.length = 5) : ∃ o b u v w, el = [o, b, u, v, w] := by
  match el, h with
  | [o, b, u, v, w], _ => exact ⟨o, b, u, v, w, rfl⟩
section
variable {P : Program} {w : World} {K : PySem.W.Frag} {mg : Str → Option Value} {base : Heap} {Sz f : Addr} {fd : FuncData} {c : Cs}
abbrev s_is_of : Stmt := top 49
theorem sc_is_of : FnScope ["element", "point", "sets", "of", "a", "but"] ["element", "point", "sets"] (defScope s_is_of) := ⟨rfl, rfl, rfl, by decide +kernel, rfl, by decide +kernel, by decide +kernel⟩
theorem ok_is_of (F : Fun K "is_of" "is_of" s_is_of f fd) (T : Txt K mg Sz) (c_in_ranges : Cal P w K mg base 1 "in_ranges" ["point", "ranges"] sp_in_ranges) : FnOk P w K mg base CX0 2 f fd ["element", "point", "sets"] (sp_is_of K) := by
  refine F.ok sc_is_of (fun vs H Q E h => ?_) (fun cdv A outer s H vs Q E hr h => ?_)
  · obtain ⟨e, s, el, n, sets, rfl, _⟩ := h
    rfl
  · obtain ⟨e, s, el, n, sets, rfl, hE, hS, ⟨h5, hnn, hEl⟩, k⟩ := h
    obtain ⟨o, b, u, v, w', rfl⟩ := five h5
    obtain ⟨hu, hv, hw1, hw2, hvw, hc⟩ := Rm.isEl_cases hEl
    have hb0 : 0 ≤ b := hnn b (by simp)
    have hu0 : 0 ≤ u := hnn u (by simp)
    refine ⟨_, (pss_cons (ps_set (i := 3) sc_is_of.nd rfl (Or.inl rfl) (pe_ix (r := rIxT K) ix_tup (pv 0) pe_int (fun _ _ => rfl)))
  (pss_cons (ps_set (i := 4) sc_is_of.nd rfl (Or.inl rfl) (pe_ix (r := rIxT K) ix_tup (pv 0) pe_int (fun _ _ => rfl)))
  (pss_cons (ps_set (i := 5) sc_is_of.nd rfl (Or.inl rfl) (pe_ix (r := rIxT K) ix_tup (pv 0) pe_int (fun _ _ => rfl)))
  (pss_cons (ps_if (pt_cmpR op_eq (pv 3) (pe_gi T.c_OF_ANY) (nomark _)) (pss_one (ps_ret pe_bl)) pss_nil)
  (pss_cons (ps_if (pt_cmpR op_eq (pv 3) (pe_gi T.c_OF_POINT) (nomark _)) (pss_one (ps_ret (pe_cmpR op_ne (pe_cmpR op_eq (pv 1) (pv 4) (nomark _)) (pe_cmpR op_eq (pv 5) pe_int (nomark _)) (nomark _)))) pss_nil)
  (pss_one (ps_ret (pe_cmpR op_ne (pe_fun (sp := sp_in_ranges) c_in_ranges hr (pa_cons (pv 1) (pa_cons (pe_ix (r := rIxL K) ix_list (pv 2) (pv 4) (fun _ _ => rfl)) pa_nil))) (pe_cmpR op_eq (pv 5) pe_int (nomark _)) (nomark _))))))))), ?_⟩
    simp only [tSeq, tNext, tRet, tIfS, tAsg, gName, tOp, tC, tVar, rEq, rNe, tTest, tCons, tNil, tCall, L2.start, List.map_cons, List.map_nil, List.length_cons, List.length_nil, List.replicate, List.cons_append, List.nil_append, List.append_nil, List.getElem?_cons_zero, List.getElem?_cons_succ, List.set_cons_zero, List.set_cons_succ, Option.some.injEq, V.int.injEq, V.bl.injEq, V.ref.injEq, List.cons.injEq, and_true, true_and, exists_eq_left', exists_and_left, Nat.reduceSub, Nat.reduceAdd, scal_bb, rIxL, rIxT,  decide_eq_true_eq, sp_in_ranges]
    refine ⟨_, hE, V.int o, rfl, _, hE, V.int b, rfl, _, hE, V.int u, rfl, ?_⟩
    have eu : decide (V.int u = V.int 1) = decide (u = 1) := decide_eq_decide.mpr ⟨V.int.inj, congrArg V.int⟩
    have en : ∀ p q : Bool, (!decide (p = q)) = (p != q) := fun p q => by cases p <;> cases q <;> rfl
    rcases hc with e | ⟨e, hb⟩ | ⟨e, hb, hu2⟩
    · subst e
      refine ⟨rfl, ite2 (fun h => absurd (V.int.inj h) (by decide)) fun _ => ⟨rfl, ite2 (fun _ => ⟨rfl, rfl, ?_⟩) fun h => absurd rfl h⟩⟩
      have k : Q (V.bl ((n == b.toNat) != decide (u = 1))) H := k
      have e2 : decide (V.int (n : Int) = V.int b) = (n == b.toNat) := by
        by_cases q : (n : Int) = b
        · rw [decide_eq_true (congrArg V.int q)]
          exact (beq_iff_eq.mpr (by omega)).symm
        · rw [decide_eq_false (fun z => q (V.int.inj z))]
          exact (beq_eq_false_iff_ne.mpr (by omega)).symm
      rw [eu, e2, en]
      exact k
    · subst e
      obtain ⟨as, hs1, hs2⟩ := hS
      obtain ⟨rg, hrg⟩ : ∃ rg, sets[b.toNat]? = some rg := ⟨_, List.getElem?_eq_getElem (by omega)⟩
      obtain ⟨a, ha, ps, e3, hps, hLT⟩ := paired_get' hs2 hrg
      refine ⟨rfl, ite2 (fun h => absurd (V.int.inj h) (by decide)) fun _ => ⟨rfl, ite2 (fun h => absurd (V.int.inj h) (by decide)) fun _ => ⟨_, b, rfl, SqL.of hs1, V.ref a, at_of (j := b.toNat) (by omega) (map_at V.ref ha), a, ps, n, ⟨rfl, rfl⟩, hLT, rfl, ?_⟩⟩⟩
      have k : Q (V.bl (Rs.inRanges (sets.getD b.toNat []) n != decide (u = 1))) H := k
      have e4 := Rb.inI_eq ps (n : Int) hps (by omega)
      rw [Int.toNat_natCast] at e4
      rw [getD_of hrg, e3, e4] at k
      rw [eu, en]
      exact k
    · subst e
      exact ⟨rfl, ite2 (fun _ => k) fun h => absurd rfl h⟩
abbrev s_end_of_element : Stmt := top 48
theorem sc_end_of_element : FnScope ["element", "row", "start", "sets", "least", "most", "bound", "end"] ["element", "row", "start", "sets"] (defScope s_end_of_element) := ⟨rfl, rfl, rfl, by decide +kernel, rfl, by decide +kernel, by decide +kernel⟩
theorem ok_end_of_element (F : Fun K "end_of_element" "end_of_element" s_end_of_element f fd) (T : Txt K mg Sz) (c_is_of : Cal P w K mg base 2 "is_of" ["element", "point", "sets"] (sp_is_of K)) : FnOk P w K mg base CX0 3 f fd ["element", "row", "start", "sets"] (sp_end_of_element K) := by
  refine F.ok sc_end_of_element (fun vs H Q E h => ?_) (fun cdv A outer s H vs Q E hr h => ?_)
  · obtain ⟨e, r, s, el, t, st, sets, rfl, _⟩ := h
    rfl
  · obtain ⟨e, r, s, el, t, st, sets, rfl, hE, hR, hS, hok, hst, k⟩ := h
    have hok0 := hok
    obtain ⟨h5, hnn, hEl⟩ := hok
    obtain ⟨o, b, u, v, w', rfl⟩ := five h5
    obtain ⟨hu, hv, hw1, hw2, hvw, hc⟩ := Rm.isEl_cases hEl
    have hv0 : 0 ≤ v := hnn v (by simp)
    obtain ⟨ts, hA, hT⟩ := hR
    have htl : ts.length = t.length := by rw [hT.len, tx_len]
    refine ⟨_, (pss_cons (ps_set (i := 4) sc_end_of_element.nd rfl (Or.inl rfl) (pe_ix (r := rIxT K) ix_tup (pv 0) pe_int (fun _ _ => rfl)))
  (pss_cons (ps_set (i := 5) sc_end_of_element.nd rfl (Or.inl rfl) (pe_ix (r := rIxT K) ix_tup (pv 0) pe_int (fun _ _ => rfl)))
  (pss_cons (ps_set (i := 6) sc_end_of_element.nd rfl (Or.inl rfl) (pe_ifExp (pt_cmpR op_eq (pv 5) (pe_gi T.c_MOST_BOUND) (nomark _)) (pe_callB (r := rLenS K) call_len_seq (by rfl) T.b_len boot_len (pa_cons (pv 1) pa_nil)) (pe_callB (call_min2 rfl) (by rfl) T.b_min boot_min (pa_cons (pe_callB (r := rLenS K) call_len_seq (by rfl) T.b_len boot_len (pa_cons (pv 1) pa_nil)) (pa_cons (pe_op op_add (pv 2) (pv 5)) pa_nil)))))
  (pss_cons (ps_set (i := 7) sc_end_of_element.nd rfl (Or.inl rfl) (pv 2))
  (pss_cons (ps_while PassesOwn.never (PW.pt (pw_and (pt_cmpR op_lt (pv 7) (pv 6) (nomark _)) (pw_and1 (pt_val (pe_fun (sp := (sp_is_of K)) c_is_of hr (pa_cons (pv 0) (pa_cons (pe_ix (r := rIxT K) ix_tup (pe_ix (r := rIxL K) ix_list (pv 1) (pv 7) (fun _ _ => rfl)) pe_int (fun _ _ => rfl)) (pa_cons (pv 3) pa_nil)))))))) (pss_one (ps_aug (i := 7) sc_end_of_element.nd rfl (Or.inl rfl) pe_int ip_add)))
  (pss_one (ps_ret (pe_ifExp (pt_cmpR op_ge (pe_op op_sub (pv 7) (pv 2)) (pv 4) (nomark _)) (pv 7) pe_non)))))))), ?_⟩
    simp only [tSeq, tAsg, gName, tOp, tC, tVar, rI0, rEq, tTest, tIf, tCons, tNil, L2.start, List.map_cons, List.map_nil, List.length_cons, List.length_nil, List.replicate, List.cons_append, List.nil_append, List.getElem?_cons_zero, List.getElem?_cons_succ, List.set_cons_zero, List.set_cons_succ, Option.some.injEq, V.int.injEq, V.bl.injEq, V.ref.injEq, List.cons.injEq, and_true, exists_eq_left', exists_and_left, Nat.reduceSub, Nat.reduceAdd, rIxT,  decide_eq_true_eq, rLenS, tCB]
    have loop : ∀ bound : Nat, bound = (match (Rq.elemI [o, b, u, v, w']).most with
        | none => t.length
        | some m => min t.length (st + m)) → (tWhile
          (tAnd (tTest (tOp (rI0 fun i j => V.bl (decide (i < j))) (tVar 7) (tVar 6))) (tB (tCall (sp_is_of K) [] E0 (tCons (tVar 0) (tCons (tOp (rIxT K) (tOp (rIxL K) (tVar 1) (tVar 7)) (tC (V.int 0))) (tCons (tVar 3) tNil))))))
          (tAug 7 (tC (V.int 1)) (ipI fun i j => i + j))
          { nx := tRet (tIf (tTest (tOp (rI0 fun i j => V.bl (decide (j ≤ i))) (tOp (rI0 fun i j => V.int (i - j)) (tVar 7) (tVar 2)) (tVar 4))) (tVar 7) (tC V.non)) { nx := fun x H' => Q V.non H', rt := Q }, rt := Q }
          [some (V.ref e), some (V.ref r), some (V.int st), some (V.ref s), some (V.int v), some (V.int w'), some (V.int bound), some (V.int st)] H) := by
      intro bound hb
      have hbt : st ≤ bound ∧ bound ≤ t.length := by
        rw [hb]
        cases (Rq.elemI [o, b, u, v, w']).most with
        | none => exact ⟨hst, Nat.le_refl _⟩
        | some m => simp only; omega
      refine ⟨fun m σ H' => ∃ j : Nat, m = bound - (st + j) ∧ σ = [some (V.ref e), some (V.ref r), some (V.int st), some (V.ref s), some (V.int v), some (V.int w'), some (V.int bound), some (V.int (st + j : Nat))] ∧ H' = H ∧ st + j ≤ bound ∧ j ≤ Rm.allOf sets (Rq.elemI [o, b, u, v, w']) (t.drop st), ⟨_, 0, rfl, rfl, rfl, by omega, Nat.zero_le _⟩, ?_⟩
      rintro m σ H' ⟨j, rfl, rfl, rfl, h1, h2⟩
      simp only [tRet, tOp, tC, tVar, rI0, tTest, tB, tAnd, tIf, tCons, tNil, tCall, List.append_nil, List.getElem?_cons_zero, List.getElem?_cons_succ, List.set_cons_zero, List.set_cons_succ, Option.some.injEq, V.int.injEq, V.bl.injEq, V.ref.injEq, List.cons.injEq, and_true, exists_eq_left', exists_and_left, rIxL, rIxT,  if_false, Bool.false_eq_true, decide_eq_true_eq, tAug, ipI, sp_is_of]
      have fin : Rs.took sets (Rq.elemI [o, b, u, v, w']) (t.drop st) = (if j < (Rq.elemI [o, b, u, v, w']).least then none else some j) → (if v ≤ ((st + j : Nat) : Int) - (st : Int) then Q (V.int (st + j : Nat)) H' else Q V.non H') := by
        intro ht
        have el : (Rq.elemI [o, b, u, v, w']).least = v.toNat := rfl
        rw [ht, el] at k
        refine ite2 (fun h => ?_) fun h => ?_
        · rw [if_neg (by omega)] at k
          exact k
        · rw [if_pos (by omega)] at k
          exact k
      refine ite2 (fun hlt => ?_) fun hlt => fin (Rm.took_end hst hb h2 h1 (Or.inl (by omega)))
      have hpj : st + j < t.length := by omega
      obtain ⟨p, hp⟩ : ∃ p, t[st + j]? = some p := ⟨_, List.getElem?_eq_getElem hpj⟩
      obtain ⟨tp, htp⟩ : ∃ tp, ts[st + j]? = some tp := ⟨_, List.getElem?_eq_getElem (by omega)⟩
      obtain ⟨it, hit, hH⟩ := hT.get htp
      have ei : it = [(p.c : Int), (p.from_ : Int), (p.to : Int)] := Option.some.inj (hit.symm.trans (tx_get hp))
      subst ei
      have hd : (t.drop st)[j]? = some p := by rw [List.getElem?_drop]; exact hp
      refine ⟨_, SqL.of hA, V.ref tp, at_of (j := st + j) rfl (map_at V.ref htp), tp, rfl, _, SqT.of hH, V.int p.c, at_of (j := 0) rfl rfl, e, s, [o, b, u, v, w'], p.c, ⟨rfl, rfl, rfl⟩, hE, sets, hS, hok0, ite2 (fun ho => ⟨_, fun _ _ z => z, bound - (st + (j + 1)), by omega, j + 1, rfl, ?_, rfl, by omega, Rm.tw_step h2 hd ho⟩) fun ho => fin (Rm.took_end hst hb h2 h1 (Or.inr (Rm.tw_stop h2 hd ?_)))⟩
      · rw [show ((st + j : Nat) : Int) + 1 = ((st + (j + 1) : Nat) : Int) by omega]
      · cases q : Rs.isOf sets (Rq.elemI [o, b, u, v, w']) p.c with
        | true => exact absurd q ho
        | false => rfl
    refine ⟨_, hE, V.int v, rfl, _, hE, V.int w', rfl, rfl, ite2 (fun h => ⟨_, Or.inl (SqL.of hA), ?_⟩) fun h => ⟨_, Or.inl (SqL.of hA), w', rfl, _, _, ⟨rfl, rfl⟩, ?_⟩⟩
    · have hw : w' = 63 := V.int.inj h
      subst hw
      rw [List.length_map, htl]
      exact loop t.length rfl
    · have hw : ¬ w' = 63 := fun z => h (congrArg V.int z)
      have em : (Rq.elemI [o, b, u, v, w']).most = some w'.toNat := by
        show (if w' = 63 then none else some w'.toNat) = _
        rw [if_neg hw]
      have eb : (if (st : Int) + w' < (((ts.map V.ref).length : Nat) : Int) then (st : Int) + w' else (((ts.map V.ref).length : Nat) : Int)) = ((min t.length (st + w'.toNat) : Nat) : Int) := by
        rw [List.length_map, htl]
        split <;> omega
      rw [eb]
      exact loop _ (by rw [em])
abbrev s_bounds_of_row : Stmt := top 47
theorem sc_bounds_of_row : FnScope ["wanted", "row", "start", "sets", "bounds", "element", "end"] ["wanted", "row", "start", "sets"] (defScope s_bounds_of_row) := ⟨rfl, rfl, rfl, by decide +kernel, rfl, by decide +kernel, by decide +kernel⟩
theorem ok_bounds_of_row (F : Fun K "bounds_of_row" "bounds_of_row" s_bounds_of_row f fd) (T : Txt K mg Sz) (c_end_of_element : Cal P w K mg base 3 "end_of_element" ["element", "row", "start", "sets"] (sp_end_of_element K)) : FnOk P w K mg base CX0 4 f fd ["wanted", "row", "start", "sets"] sp_bounds_of_row := by
  refine F.ok sc_bounds_of_row (fun vs H Q E h => ?_) (fun cdv A outer s H vs Q E hr h => ?_)
  · obtain ⟨wd, r, s, els, t, st, sets, rfl, _⟩ := h
    rfl
  · obtain ⟨wd, r, s, els, t, st, sets, rfl, hW, hR, hS, hok, hst, hfew, k1, k2⟩ := h
    refine ⟨_, (pss_cons (ps_set (i := 4) sc_bounds_of_row.nd rfl (Or.inl rfl) (pe_lst (pa_cons (pv 2) pa_nil)))
  (pss_cons (ps_for PassesOwn.never rfl (pi_listK (K := K) rfl (pv 0)) (pg_name (i := 5) sc_bounds_of_row.nd rfl (Or.inl rfl)) (pss_cons (ps_set (i := 6) sc_bounds_of_row.nd rfl (Or.inl rfl) (pe_fun (sp := (sp_end_of_element K)) c_end_of_element hr (pa_cons (pv 5) (pa_cons (pv 1) (pa_cons (pe_ix (r := rIxL K) ix_list (pv 4) (pe_un un_neg pe_int) (fun _ _ => rfl)) (pa_cons (pv 3) pa_nil))))))
  (pss_cons (ps_if (pt_cmpR op_isN (pv 6) pe_non (nomark _)) (pss_one (ps_ret pe_non)) pss_nil)
  (pss_one (ps_expr (pe_bmK (K := K) rfl PySem.F.plainAttrs_list PySem.F.slot_list_append PySem.F.type_list_append mt_append (pv 4) (pa_cons (pv 6) pa_nil)))))))
  (pss_one (ps_ret (pv 4))))), ?_⟩
    simp only [tSeq, tAsg, gName, tVar, tCons, tNil, L2.start, List.map_cons, List.map_nil, List.length_cons, List.length_nil, List.replicate, List.cons_append, List.nil_append, List.getElem?_cons_zero, List.getElem?_cons_succ, List.set_cons_zero, List.set_cons_succ, Option.some.injEq, exists_eq_left', Nat.reduceSub, Nat.reduceAdd, tLst,  if_false]
    obtain ⟨tw, hA, hT⟩ := hW
    have htl := hT.len
    refine ⟨by decide, fun D hD => ⟨_, rfl, wd, rfl, ⟨_, (same_new hD).seq (SqL.of hA)⟩, for_list (xs := tw.map V.ref) (fun i σ H' => (∃ v5 v6, σ = [some (V.ref wd), some (V.ref r), some (V.int st), some (V.ref s), some (V.ref D), v5, v6]) ∧ ∃ ks, Rs.tookAll sets ((els.take i).map Rq.elemI) (t.drop st) = some ks ∧ H' = upd H D (.lst ((bnds st ks).map V.int)))
      ⟨⟨none, none, rfl⟩, [], rfl, rfl⟩ (fun i σ H' _ z => ?_) ?_ ?_⟩⟩
    · obtain ⟨_, ks, _, rfl⟩ := z
      exact (same_new hD).seq (SqL.of hA)
    · rintro i y σ H' hy ⟨⟨v5, v6, rfl⟩, ks, hks, rfl⟩
      obtain ⟨e, he, rfl⟩ := ref_at hy
      obtain ⟨el, hel, hH⟩ := hT.get he
      have hi : i < els.length := (List.getElem?_eq_some_iff.mp hel).1
      have sD : Same H (upd H D (.lst ((bnds st ks).map V.int))) := same_new hD
      obtain ⟨hle, hkl⟩ := Rm.tookAll_le hks
      rw [List.length_drop] at hle
      have hok1 := hok el (List.mem_of_getElem? hel)
      have etk : Rs.tookAll sets ((els.take (i + 1)).map Rq.elemI) (t.drop st) = match Rs.took sets (Rq.elemI el) (t.drop (st + ks.sum)) with
          | some q => some (ks ++ [q])
          | none => none := by
        rw [List.take_add_one, hel]
        show Rs.tookAll sets ((els.take i ++ [el]).map Rq.elemI) (t.drop st) = _
        rw [List.map_append, List.map_singleton, Rm.tookAll_snoc, hks]
        simp only [List.drop_drop] <;> rfl
      simp only [tSeq, tNext, tDrop, tRet, tIfS, tAsg, gName, tOp, tUn, tC, tVar, rU, tTest, tCons, tNil, tCall, List.append_nil, List.getElem?_cons_zero, List.getElem?_cons_succ, List.set_cons_zero, List.set_cons_succ, Option.some.injEq, V.int.injEq, V.bl.injEq, V.ref.injEq, List.cons.injEq, and_true, true_and, exists_eq_left', exists_and_left, rIxL,  decide_eq_true_eq, tBM, rAppend, sp_end_of_element]
      refine ⟨_, SqL.of upd_same, V.int ((st + ks.sum : Nat) : Int), at_last (by rw [List.length_map]; exact map_at V.int (Rm.bnds_last st ks)), e, r, s, el, t, st + ks.sum, ⟨rfl, rfl, rfl, rfl⟩, SqT.of (sD _ _ hH), hR.same sD, sets, hS.same sD, hok1, by omega, ?_⟩
      cases hk : Rs.took sets (Rq.elemI el) (t.drop (st + ks.sum)) with
      | none =>
        rw [hk] at etk
        rw [if_pos (show optV (Option.map (fun k => st + ks.sum + k) none) = V.non from rfl)]
        refine k2 _ ?_ sD
        rw [← List.take_append_drop (i + 1) els, List.map_append]
        exact Rm.tookAll_none _ _ _ etk
      | some q =>
        rw [hk] at etk
        rw [if_neg (show ¬ optV (Option.map (fun k => st + ks.sum + k) (some q)) = V.non from fun z => by cases z)]
        refine ⟨.inl ⟨rfl, _, SqL.of upd_same⟩, _, upd_same, ?_, ⟨_, rfl⟩, ks ++ [q], etk, ?_⟩
        · rw [List.length_map, Rm.bnds_len, hkl, List.length_map, List.length_take, sizeLine_eq]
          omega
        · rw [upd_upd, Rm.bnds_snoc, List.map_append]
          rfl
    · rintro σ H' ⟨⟨v5, v6, rfl⟩, ks, hks, rfl⟩
      rw [List.length_map, htl, List.take_length] at hks
      exact ⟨_, rfl, k1 ks _ D hks (same_new hD) hD upd_same⟩
abbrev s_bounds_of_matches : Stmt := top 46
theorem sc_bounds_of_matches : FnScope ["rule", "left", "right", "sets", "bounds"] ["rule", "left", "right", "sets"] (defScope s_bounds_of_matches) := ⟨rfl, rfl, rfl, by decide +kernel, rfl, by decide +kernel, by decide +kernel⟩
theorem ok_bounds_of_matches (F : Fun K "bounds_of_matches" "bounds_of_matches" s_bounds_of_matches f fd) (T : Txt K mg Sz) (N : Cn K c) (c_bounds_of_row : Cal P w K mg base 4 "bounds_of_row" ["wanted", "row", "start", "sets"] sp_bounds_of_row) : FnOk P w K mg base CX0 5 f fd ["rule", "left", "right", "sets"] (sp_bounds_of_matches c) := by
  refine F.ok sc_bounds_of_matches (fun vs H Q E h => ?_) (fun cdv A outer s H vs Q E hr h => ?_)
  · obtain ⟨x, l, r, s, n, nm, ru, left, right, sets, rfl, _⟩ := h
    rfl
  · obtain ⟨x, l, r, s, n, nm, ru, left, right, sets, rfl, hx, hL, hR, hS, k1, k2⟩ := h
    refine ⟨_, (pss_cons (ps_set (i := 4) sc_bounds_of_matches.nd rfl (Or.inl rfl) (pe_fun (sp := sp_bounds_of_row) c_bounds_of_row hr (pa_cons (pe_fldK (K := K) rfl (pv 0) rfl) (pa_cons (pv 2) (pa_cons pe_int (pa_cons (pv 3) pa_nil))))))
  (pss_cons (ps_if (pt_cmpR op_isN (pv 4) pe_non (nomark _)) (pss_one (ps_ret pe_non)) pss_nil)
  (pss_cons (ps_if (pt_cmpR op_isN (pe_fun (sp := sp_bounds_of_row) c_bounds_of_row hr (pa_cons (pe_fldK (K := K) rfl (pv 0) rfl) (pa_cons (pv 2) (pa_cons (pe_ix (r := rIxL K) ix_list (pv 4) (pe_un un_neg pe_int) (fun _ _ => rfl)) (pa_cons (pv 3) pa_nil))))) pe_non (nomark _)) (pss_one (ps_ret pe_non)) pss_nil)
  (pss_cons (ps_if (pt_cmpR op_isN (pe_fun (sp := sp_bounds_of_row) c_bounds_of_row hr (pa_cons (pe_fldK (K := K) rfl (pv 0) rfl) (pa_cons (pe_rev (K := K) rfl (pv 1) (pe_un un_neg pe_int)) (pa_cons pe_int (pa_cons (pv 3) pa_nil))))) pe_non (nomark _)) (pss_one (ps_ret pe_non)) pss_nil)
  (pss_one (ps_ret (pv 4))))))), ?_⟩
    simp only [tSeq, tNext, tRet, tIfS, tAsg, gName, tOp, tUn, tC, tVar, rU, tTest, tCons, tNil, tCall, L2.start, List.map_cons, List.map_nil, List.length_cons, List.length_nil, List.replicate, List.cons_append, List.nil_append, List.append_nil, List.getElem?_cons_zero, List.getElem?_cons_succ, List.set_cons_zero, List.set_cons_succ, Option.some.injEq, V.int.injEq, V.bl.injEq, V.ref.injEq, List.cons.injEq, and_true, true_and, exists_eq_left', exists_and_left, Nat.reduceSub, Nat.reduceAdd, reduceCtorEq, rIxL,  if_false, if_true, decide_eq_true_eq, tFld, sp_bounds_of_row, tRev]
    obtain ⟨dx, pb, pm, pa, pw, eb, em, ea, ew, h1, hb, hm, ha, hw, _, R⟩ := hx
    have efit : Rs.fits sets ru ⟨left.reverse, right⟩ = match Rs.tookAll sets (em.map Rq.elemI) right with
        | some ks => if (Rs.tookAll sets (ea.map Rq.elemI) (right.drop ks.sum)).isSome = true ∧ (Rs.tookAll sets (eb.map Rq.elemI) left.reverse).isSome = true then some ks else none
        | none => none := by
      unfold Rs.fits
      rw [R.mat, R.aft, R.bef]
      rfl
    refine ⟨c.Rule, dx, _, h1, N.cl_Rule, N.n_Rule_matches, _, rfl, pm, r, s, em, right, 0, ⟨rfl, rfl, rfl, rfl⟩, hm, hR, sets, hS, R.okm, Nat.zero_le _, R.few.2.1, fun ks H1 p hks s1 hp hpl => ?_, fun H1 hn s1 => ?_⟩
    · rw [List.drop_zero] at hks
      rw [hks] at efit
      obtain ⟨hle, hkl⟩ := Rm.tookAll_le hks
      simp only at efit
      refine ⟨c.Rule, dx, _, s1 _ _ h1, N.cl_Rule, N.n_Rule_afters, _, rfl, _, SqL.of hpl, V.int ((ks.sum : Nat) : Int), at_last (by have := Rm.bnds_last 0 ks; rw [Nat.zero_add] at this; rw [List.length_map]; exact map_at V.int this), pa, r, s, ea, right, ks.sum, ⟨rfl, rfl, rfl, rfl⟩, ha.same s1, hR.same s1, sets, hS.same s1, R.oka, hle, R.few.2.2.1, fun ks2 H2 p2 hk2 s2 hp2 hl2 => ?_, fun H2 hn s2 => ?_⟩
      · obtain ⟨tl, hl1, hl3⟩ := hL
        have s12 := s1.trans s2
        refine ⟨c.Rule, dx, _, s12 _ _ h1, N.cl_Rule, N.n_Rule_befores, _, rfl, _, SqL.of (s12 _ _ hl1), fun q hq => ?_⟩
        have s3 : Same H (upd H2 q (.lst (tl.map V.ref).reverse)) := s12.trans (same_new hq)
        refine ⟨pb, q, s, eb, left.reverse, 0, ⟨rfl, rfl, rfl, rfl⟩, hb.same s3, ⟨tl.reverse, by rw [upd_same, List.map_reverse], ?_⟩, sets, hS.same s3, R.okb, Nat.zero_le _, R.few.1, fun ks3 H3 p3 hk3 s4 hp3 hl3 => ?_, fun H3 hn s4 => ?_⟩
        · have := (Tups.rev hl3).same s3
          unfold tx at this ⊢
          rw [List.map_reverse]
          exact this
        · rw [List.drop_zero] at hk3
          rw [hk2, hk3, if_pos ⟨rfl, rfl⟩] at efit
          exact k1 ks H3 p efit (s3.trans s4) hp (((hpl.same s2).same (same_new hq)).same s4)
        · rw [List.drop_zero] at hn
          rw [hk2, hn, if_neg (by rintro ⟨_, q⟩; cases q)] at efit
          exact k2 H3 efit (s3.trans s4)
      · rw [hn, if_neg (by rintro ⟨q, _⟩; cases q)] at efit
        exact k2 H2 efit (s1.trans s2)
    · rw [List.drop_zero] at hn
      rw [hn] at efit
      exact k2 H1 efit s1
abbrev s_first_fit : Stmt := top 45
theorem sc_first_fit : FnScope ["rules", "left", "right", "sets", "rule", "bounds"] ["rules", "left", "right", "sets"] (defScope s_first_fit) := ⟨rfl, rfl, rfl, by decide +kernel, rfl, by decide +kernel, by decide +kernel⟩
theorem ok_first_fit (F : Fun K "first_fit" "first_fit" s_first_fit f fd) (T : Txt K mg Sz) (N : Cn K c) (c_bounds_of_matches : Cal P w K mg base 5 "bounds_of_matches" ["rule", "left", "right", "sets"] (sp_bounds_of_matches c)) (c_Fit : Mkr P w K mg base 1 "Fit" c.Fit ["self", "rule", "bounds"] (sp_Fit c)) :
    FnOk P w K mg base CX0 6 f fd ["rules", "left", "right", "sets"] (sp_first_fit c) := by
  refine F.ok sc_first_fit (fun vs H Q E h => ?_) (fun cdv A outer s H vs Q E hr h => ?_)
  · obtain ⟨rl, l, r, s, xs, rs, left, right, b, nm, rfl, _⟩ := h
    rfl
  · obtain ⟨rl, l, r, s, xs, rs, left, right, b, nm, rfl, hX, hP, hL, hR, hS, k1, k2⟩ := h
    refine ⟨_, (pss_cons (ps_for PassesOwn.never rfl (pi_listK (K := K) rfl (pv 0)) (pg_name (i := 4) sc_first_fit.nd rfl (Or.inl rfl)) (pss_cons (ps_set (i := 5) sc_first_fit.nd rfl (Or.inl rfl) (pe_fun (sp := (sp_bounds_of_matches c)) c_bounds_of_matches hr (pa_cons (pv 4) (pa_cons (pv 1) (pa_cons (pv 2) (pa_cons (pv 3) pa_nil))))))
  (pss_one (ps_if (pt_cmpR op_notN (pv 5) pe_non (nomark _)) (pss_one (ps_ret (pe_new c_Fit hr (pa_cons (pv 4) (pa_cons (pv 5) pa_nil))))) pss_nil))))
  (pss_one (ps_ret pe_non))), ?_⟩
    have hl := Paired.length hP
    refine ⟨_, rfl, rl, rfl, ⟨_, SqL.of hX⟩, for_list (xs := xs.map V.ref) (fun i σ H' => (∃ v4 v5, σ = [some (V.ref rl), some (V.ref l), some (V.ref r), some (V.ref s), v4, v5]) ∧ Same H H' ∧ Rs.first b ⟨left.reverse, right⟩ (rs.take i) = none)
      ⟨⟨none, none, rfl⟩, Same.refl H, rfl⟩ (fun i σ H' _ z => SqL.of (z.2.1 _ _ hX)) ?_ ?_⟩
    · rintro i y σ H' hy ⟨⟨v4, v5, rfl⟩, hs, hn⟩
      obtain ⟨x, hx, rfl⟩ := ref_at hy
      obtain ⟨⟨n, ru⟩, hq, hru⟩ := paired_get hP hx
      have hi : i < rs.length := (List.getElem?_eq_some_iff.mp hq).1
      have etk : rs.take (i + 1) = rs.take i ++ [(n, ru)] := by rw [List.take_add_one, hq]; rfl
      have erd : rs = rs.take i ++ ((n, ru) :: rs.drop (i + 1)) := by
        conv => lhs; rw [← List.take_append_drop i rs]
        congr 1
        rw [List.drop_eq_getElem_cons hi]
        congr 1
        exact Option.some.inj ((List.getElem?_eq_getElem hi).symm.trans hq)
      simp only [tSeq, tNext, tRet, tIfS, tAsg, gName, tOp, tC, tVar, tTest, tCons, tNil, tCall, List.append_nil, List.getElem?_cons_zero, List.getElem?_cons_succ, List.set_cons_zero, List.set_cons_succ, Option.some.injEq, V.bl.injEq, V.ref.injEq, List.cons.injEq, and_true, true_and, exists_eq_left', exists_and_left, reduceCtorEq,  tMake, sp_bounds_of_matches, sp_Fit]
      refine ⟨x, l, r, s, ⟨rfl, rfl, rfl, rfl⟩, n, nm, ru, left, right, b.sets, hru.same hs, hL.same hs, hR.same hs, hS.same hs, fun ks H1 p hf s1 hp hl1 => ?_, fun H1 hf s1 => ?_⟩
      · rw [if_pos (by decide)]
        intro fa dx nf ndx hne
        refine ⟨fa, dx, x, p, ⟨rfl, rfl, rfl⟩, upd_same, fun H2 h2 q2 => ?_⟩
        have s2 : Same H1 H2 := Same.made nf ndx fun b o e hb => q2 b o e (by simpa using hb)
        refine k1 (n, ru, ks) H2 fa ?_ ((hs.trans s1).trans s2) ⟨dx, x, p, h2, hru.same ((hs.trans s1).trans s2), hl1.same s2⟩
        rw [erd, Rm.first_snoc _ _ _ _ hn, Rm.first_cons, hf]
      · rw [if_neg (by decide)]
        refine ⟨⟨_, rfl⟩, hs.trans s1, ?_⟩
        rw [etk, Rm.first_snoc _ _ _ _ hn, Rm.first_cons, hf]
        rfl
    · rintro σ H' ⟨⟨v4, v5, rfl⟩, hs, hn⟩
      rw [List.length_map, hl, List.take_length] at hn
      exact k2 H' hn hs
end
end Re
end
section
set_option maxHeartbeats 4000000
namespace Re
open PySem PySem.Spec PyProof.Rows L2
open Rm (ElOk WrOk bnds resI)
section
variable {P : Program} {w : World} {K : PySem.W.Frag} {mg : Str → Option Value} {base : Heap} {Sz f : Addr} {fd : FuncData} {c : Cs}
abbrev s_points_of : Stmt := top 53
theorem sc_points_of : FnScope ["item", "bounds", "right", "maps", "kind", "k", "points", "table", "spot", "point"] ["item", "bounds", "right", "maps"] (defScope s_points_of) := ⟨rfl, rfl, rfl, by decide +kernel, rfl, by decide +kernel, by decide +kernel⟩
theorem ok_points_of (F : Fun K "points_of" "points_of" s_points_of f fd) (T : Txt K mg Sz) : FnOk P w K mg base CX0 1 f fd ["item", "bounds", "right", "maps"] (sp_points_of K) := by
  refine F.ok sc_points_of (fun vs H Q E h => ?_) (fun cdv A outer s H vs Q E hr h => ?_)
  · obtain ⟨wa, bd, r, m, it, ks, x, b, rfl, _⟩ := h
    rfl
  · obtain ⟨wa, bd, r, m, it, ks, x, b, rfl, hW, hB, hR, hM, ⟨hnn, hok⟩, h6, h64, k⟩ := h
    have hu := hu_of hr
    refine ⟨_, (pss_cons (ps_set (i := 4) sc_points_of.nd rfl (Or.inl rfl) (pe_ix (r := rIxT K) ix_tup (pv 0) pe_int (fun _ _ => rfl)))
  (pss_cons (ps_if (pt_cmpR op_eq (pv 4) (pe_gi T.c_PUT) (nomark _)) (pss_one (ps_ret (pe_lst (pa_cons (pe_ix (r := rIxT K) ix_tup (pv 0) pe_int (fun _ _ => rfl)) pa_nil)))) pss_nil)
  (pss_cons (ps_set (i := 5) sc_points_of.nd rfl (Or.inl rfl) (pe_ix (r := rIxT K) ix_tup (pv 0) pe_int (fun _ _ => rfl)))
  (pss_cons (ps_setLc (i := 6) rfl sc_points_of.nd rfl rfl (sw_true rfl rfl rfl (by decide +kernel)) (pi_listK (K := K) rfl (pe_slice (r := rSlL K) sl_list (pv 2) (po_some (pe_ix (r := rIxL K) ix_list (pv 1) (pv 5) (fun _ _ => rfl))) (po_some (pe_ix (r := rIxL K) ix_list (pv 1) (pe_op op_add (pv 5) pe_int) (fun _ _ => rfl))))) (blkOk_by (N := ["item", "bounds", "right", "maps", "kind", "k", "points", "table", "spot", "point"]) (sc := defScope s_points_of) (own := [("spot", 8)]) (by decide +kernel)) (fun _ _ _ _ _ => (pg_name (i := 8) sc_points_of.nd rfl (Or.inl rfl))) (fun _ _ _ _ _ => pts_nil) (fun _ _ _ _ _ => (pe_ix (r := rIxT K) ix_tup (pv 8) pe_int (fun _ _ => rfl))))
  (pss_cons (ps_if (pt_cmpR op_eq (pv 4) (pe_gi T.c_MAPPED) (nomark _)) (pss_cons (ps_set (i := 7) sc_points_of.nd rfl (Or.inr rfl) (pe_ix (r := rIxL K) ix_list (pv 3) (pe_ix (r := rIxT K) ix_tup (pv 0) pe_int (fun _ _ => rfl)) (fun _ _ => rfl)))
  (pss_one (ps_ret (pe_lc rfl sc_points_of.nd (pi_listK (K := K) rfl (pv 6)) (blkOk_by (N := ["item", "bounds", "right", "maps", "kind", "k", "points", "table", "spot", "point"]) (sc := defScope s_points_of) (own := [("point", 9)]) (by decide +kernel)) (fun _ _ _ _ _ => (pg_name (i := 9) sc_points_of.nd rfl (Or.inl rfl))) (fun _ _ _ _ _ => pts_nil) (fun _ _ _ _ _ => (pe_dget2 hu (pv 7) (pv 9) (pv 9) ⟨rfl, rfl, rfl, rfl⟩)))))) pss_nil)
  (pss_one (ps_ret (pv 6)))))))), ?_⟩
    simp only [tSeq, tNext, tRet, tIfS, tAsg, gName, tOp, tC, tVar, rEq, tTest, tCons, tNil, L2.start, List.map_cons, List.map_nil, List.length_cons, List.length_nil, List.replicate, List.cons_append, List.nil_append, List.getElem?_cons_zero, List.getElem?_cons_succ, List.set_cons_zero, List.set_cons_succ, Option.some.injEq, V.int.injEq, V.bl.injEq, V.ref.injEq, exists_eq_left', exists_and_left, Nat.reduceSub, Nat.reduceAdd, rIxL, rIxT, tLst,  decide_eq_true_eq]
    obtain ⟨tr, hr1, hr2⟩ := hR
    have hrl : tr.length = x.right.length := by rw [hr2.len, tx_len]
    have seg : ∀ (y kk : Int) (rest : List Int) (kn : Nat), it = y :: kk :: rest → kk = (kn : Int) → kn < ks.length → ∀ (σ' : L2.St) (Q' : VK), σ'[1]? = some (some (V.ref bd)) → σ'[2]? = some (some (V.ref r)) → σ'[5]? = some (some (V.int kk)) → 8 < σ'.length →
        (∀ D H1, Same H H1 → H D = none → LI H1 D ((Rs.piece ks x kn).map Int.ofNat) → Q' (V.ref D) H1) →
        tLc (iList K (tSl (rSlL K) (tVar 2) (tPart (tOp (rIxL K) (tVar 1) (tVar 5))) (tPart (tOp (rIxL K) (tVar 1) (tOp (rI0 fun i j => V.int (i + j)) (tVar 5) (tC (V.int 1))))))) (gName 8) tYes (tOp (rIxT K) (tVar 8) (tC (V.int 0))) [8] σ' H Q' := by
      intro y kk rest kn e1 e2 hkn σ' Q' g1 g2 g5 g8 kq
      have b1 := Rm.bnds_get 0 ks kn (by omega)
      have b2 := Rm.bnds_get 0 ks (kn + 1) (by omega)
      rw [Nat.zero_add] at b1 b2
      obtain ⟨kd, hkd⟩ : ∃ kd, ks[kn]? = some kd := ⟨_, List.getElem?_eq_getElem hkn⟩
      have es : (ks.take (kn + 1)).sum = (ks.take kn).sum + kd := by
        rw [List.take_add_one, hkd]
        simp
      have ec : cutV (tr.map V.ref) (some (((ks.take kn).sum : Nat) : Int)) (some (((ks.take (kn + 1)).sum : Nat) : Int)) = ((tr.drop (ks.take kn).sum).take kd).map V.ref := by
        rw [cutV_mid, es, Nat.add_sub_cancel_left, List.map_take, List.map_drop]
      have ep : (Rs.piece ks x kn).map Int.ofNat = col 0 (tx ((x.right.drop (ks.take kn).sum).take kd)) := by
        rw [col0]
        unfold Rs.piece
        rw [getD_of hkd, List.map_map]
        rfl
      have main : ∀ q, H q = none → tLc (iList K (tC (V.ref q))) (gName 8) tYes (tOp (rIxT K) (tVar 8) (tC (V.int 0))) [8] σ' (upd H q (.lst (((tr.drop (ks.take kn).sum).take kd).map V.ref))) Q' := by
        intro q hq
        have hLT : LT (upd H q (.lst (((tr.drop (ks.take kn).sum).take kd).map V.ref))) q (tx ((x.right.drop (ks.take kn).sum).take kd)) := by
          refine ⟨_, upd_same, ?_⟩
          have := (Tups.take kd (Tups.drop (ks.take kn).sum hr2)).same (same_new (o := .lst (((tr.drop (ks.take kn).sum).take kd).map V.ref)) hq)
          rw [tx_drop, tx_take] at this
          exact this
        refine lc_col (z := 0) (a := q) hLT (fun it hm => ?_) ?_ g8 (fun D hD hL => ?_) _ (fun R h => ⟨q, rfl, ?_, h⟩)
        · unfold tx at hm
          obtain ⟨p, _, rfl⟩ := List.mem_map.mp hm
          show 0 < 3
          decide
        · rw [tx_len, List.length_take, List.length_drop]
          omega
        · refine kq D _ ((same_new hq).trans (same_new hD)) ((same_new hq).free hD) ?_
          rw [ep]
          exact hL
        · obtain ⟨ts, h1, _⟩ := hLT
          exact ⟨_, SqL.of h1⟩
      refine ⟨_, g2, _, g1, _, g5, bd, _, kn, V.int ((ks.take kn).sum : Nat), rfl, congrArg V.int e2, SqL.of hB, at_of (j := kn) rfl (map_at V.int b1), _, rfl, _, g1, _, g5, kn, 1, congrArg V.int e2, rfl, bd, _, (kn : Int) + 1, V.int ((ks.take (kn + 1)).sum : Nat), rfl, rfl, SqL.of hB, at_of (j := kn + 1) (by omega) (map_at V.int b2), _, rfl, r, _, rfl, SqL.of hr1, fun q hq => ?_⟩
      rw [ec]
      exact main q hq
    rcases hok with ⟨e3, hl2⟩ | ⟨e3, hl2, hk⟩ | ⟨e3, hl3, hk, hm⟩ | ⟨e3, _⟩
    · obtain ⟨y, a, rfl⟩ : ∃ y a, it = [y, a] := by
        match it, hl2 with
        | [y, a], _ => exact ⟨y, a, rfl⟩
      have e3 : y = 3 := e3
      subst e3
      refine ⟨_, hW, V.int 3, at_of (j := 0) rfl rfl, rfl, ite2 (fun _ => ⟨_, hW, V.int a, at_of (j := 1) rfl rfl, by decide, fun p hp => ?_⟩) fun h => absurd rfl h⟩
      refine k [a.toNat] _ p rfl (same_new hp) hp ?_
      show upd H p _ p = _
      rw [upd_same]
      have : (Int.ofNat a.toNat) = a := Int.toNat_of_nonneg (hnn a (by simp))
      show some (HO.lst [V.int a]) = some (HO.lst [V.int (Int.ofNat a.toNat)])
      rw [this]
    · obtain ⟨y, a, rfl⟩ : ∃ y a, it = [y, a] := by
        match it, hl2 with
        | [y, a], _ => exact ⟨y, a, rfl⟩
      have e3 : y = 4 := e3
      subst e3
      have ha0 : 0 ≤ a := hnn a (by simp)
      have hk : a < ks.length := hk
      refine ⟨_, hW, V.int 4, at_of (j := 0) rfl rfl, rfl, ite2 (fun h => absurd (V.int.inj h) (by decide)) fun _ => ⟨_, hW, V.int a, at_of (j := 1) rfl rfl, ?_⟩⟩
      refine seg 4 a [] a.toNat rfl (by omega) (by omega) _ _ rfl rfl rfl (by show (8 : Nat) < 10; decide) fun D H1 s1 hD hL => ⟨rfl, ite2 (fun h => absurd (V.int.inj h) (by decide)) fun _ => ?_⟩
      exact k _ H1 D rfl s1 hD hL
    · obtain ⟨y, a, d, rfl⟩ : ∃ y a d, it = [y, a, d] := by
        match it, hl3 with
        | [y, a, d], _ => exact ⟨y, a, d, rfl⟩
      have e3 : y = 5 := e3
      subst e3
      have ha0 : 0 ≤ a := hnn a (by simp)
      have hd0 : 0 ≤ d := hnn d (by simp)
      have hk : a < ks.length := hk
      have hm : d < b.maps.length := hm
      refine ⟨_, hW, V.int 5, at_of (j := 0) rfl rfl, rfl, ite2 (fun h => absurd (V.int.inj h) (by decide)) fun _ => ⟨_, hW, V.int a, at_of (j := 1) rfl rfl, ?_⟩⟩
      refine seg 5 a [d] a.toNat rfl (by omega) (by omega) _ _ rfl rfl rfl (by show (8 : Nat) < 10; decide) fun D H1 s1 hD hL => ⟨rfl, ite2 (fun _ => ?_) fun h => absurd rfl h⟩
      obtain ⟨as, hm1, hm2⟩ := hM
      obtain ⟨mp, hmp⟩ : ∃ mp, b.maps[d.toNat]? = some mp := ⟨_, List.getElem?_eq_getElem (by omega)⟩
      obtain ⟨ad, had, hMA⟩ := paired_get' hm2 hmp
      have hW1 : SqT K H1 wa ([5, a, d].map V.int) := by
        rcases hW with (q | ⟨o, q⟩) | q
        · exact .inl (.inl (s1 _ _ q))
        · exact .inl (.inr ⟨o, s1 _ _ q⟩)
        · exact .inr q
      refine ⟨_, hW1, V.int d, at_of (j := 2) rfl rfl, _, d, rfl, SqL.of (s1 _ _ hm1), V.ref ad, at_of (j := d.toNat) (by omega) (map_at V.ref had), ?_⟩
      have hpl : (Rs.piece ks x a.toNat).length ≤ 64 := by
        unfold Rs.piece
        rw [List.length_map, List.length_take, List.length_drop]
        omega
      refine ⟨_, rfl, D, rfl, ⟨_, SqL.of hL⟩, fun D2 hD2 => lc_ix (xs := ((Rs.piece ks x a.toNat).map Int.ofNat).map V.int) (fun _ => true) (fun i => V.int (Rs.mapped mp ((Rs.piece ks x a.toNat).getD i 0) : Nat)) hD2 (SqL.of hL) (by rw [List.length_map, List.length_map, sizeLine_eq]; omega) ?_ ?_⟩
      · intro i v acc Nx hv hacc h1 h2
        obtain ⟨z, hz, rfl⟩ := int_at hv
        have h1 := h1 rfl
        rw [List.getElem?_map] at hz
        cases hp : (Rs.piece ks x a.toNat)[i]? with
        | none => rw [hp] at hz; cases hz
        | some pn =>
          rw [hp] at hz
          have ez := Option.some.inj hz
          subst ez
          rw [getD_of hp] at h1
          obtain ⟨g1, o, g2, g3⟩ := map_get ((hMA.same s1).same (same_new (o := .lst acc) hD2)) ((pn : Nat) : Int) (by omega)
          rw [Int.toNat_natCast] at g3
          simp only [gName, tVar, List.getElem?_cons_zero, List.getElem?_cons_succ, List.set_cons_zero, List.set_cons_succ, Option.some.injEq, V.ref.injEq, true_and, exists_eq_left',  if_true, tYes, wipe, tDGet2]
          refine ⟨g1, o, g2, acc, upd_same, hacc, ?_⟩
          rw [upd_upd, show o.getD (V.int (Int.ofNat pn)) = V.int (Rs.mapped mp pn : Nat) from g3]
          exact h1
      · rw [List.length_map, List.length_map, range_map 0 (Rs.piece ks x a.toNat) (fun n => V.int (Rs.mapped mp n : Nat)) (fun i _ => rfl)]
        refine k ((Rs.piece ks x a.toNat).map (Rs.mapped mp)) _ D2 ?_ (s1.trans (same_new hD2)) (s1.free hD2) ?_
        · show some ((Rs.piece ks x a.toNat).map (Rs.mapped (b.maps.getD d.toNat []))) = _
          rw [getD_of hmp]
        · show upd H1 D2 _ D2 = _
          rw [upd_same, List.map_map, List.map_map]
          rfl
    · exact absurd e3 h6
abbrev s_span_of : Stmt := top 54
theorem sc_span_of : FnScope ["taken", "left", "spot"] ["taken", "left"] (defScope s_span_of) := ⟨rfl, rfl, rfl, by decide +kernel, rfl, by decide +kernel, by decide +kernel⟩
theorem ok_span_of (F : Fun K "span_of" "span_of" s_span_of f fd) (T : Txt K mg Sz) : FnOk P w K mg base CX0 1 f fd ["taken", "left"] sp_span_of := by
  refine F.ok sc_span_of (fun vs H Q E h => ?_) (fun cdv A outer s H vs Q E hr h => ?_)
  · obtain ⟨t, l, taken, left, rfl, _⟩ := h
    rfl
  · obtain ⟨t, l, taken, left, rfl, hT, hL, hlen, k⟩ := h
    refine ⟨_, (pss_cons (ps_if (pt_cmpR op_gt (pe_callB (r := rLenS K) call_len_seq (by rfl) T.b_len boot_len (pa_cons (pv 0) pa_nil)) pe_int (nomark _)) (pss_one (ps_ret (pe_tup (pa_cons (pe_callB (r := rMin K) (cr_min rfl) (by rfl) T.b_min boot_min (pa_cons (pe_lc rfl sc_span_of.nd (pi_listK (K := K) rfl (pv 0)) (blkOk_by (N := ["taken", "left", "spot"]) (sc := defScope s_span_of) (own := [("spot", 2)]) (by decide +kernel)) (fun _ _ _ _ _ => (pg_name (i := 2) sc_span_of.nd rfl (Or.inl rfl))) (fun _ _ _ _ _ => pts_nil) (fun _ _ _ _ _ => (pe_ix (r := rIxT K) ix_tup (pv 2) pe_int (fun _ _ => rfl)))) pa_nil)) (pa_cons (pe_callB (r := rMax K) (cr_max rfl) (by rfl) T.b_max boot_max (pa_cons (pe_lc rfl sc_span_of.nd (pi_listK (K := K) rfl (pv 0)) (blkOk_by (N := ["taken", "left", "spot"]) (sc := defScope s_span_of) (own := [("spot", 2)]) (by decide +kernel)) (fun _ _ _ _ _ => (pg_name (i := 2) sc_span_of.nd rfl (Or.inl rfl))) (fun _ _ _ _ _ => pts_nil) (fun _ _ _ _ _ => (pe_ix (r := rIxT K) ix_tup (pv 2) pe_int (fun _ _ => rfl)))) pa_nil)) pa_nil))))) pss_nil)
  (pss_cons (ps_if (pt_cmpR op_gt (pe_callB (r := rLenS K) call_len_seq (by rfl) T.b_len boot_len (pa_cons (pv 1) pa_nil)) pe_int (nomark _)) (pss_one (ps_ret (pe_tup (pa_cons (pe_ix (r := rIxT K) ix_tup (pe_ix (r := rIxL K) ix_list (pv 1) (pe_un un_neg pe_int) (fun _ _ => rfl)) pe_int (fun _ _ => rfl)) (pa_cons (pe_ix (r := rIxT K) ix_tup (pe_ix (r := rIxL K) ix_list (pv 1) (pe_un un_neg pe_int) (fun _ _ => rfl)) pe_int (fun _ _ => rfl)) pa_nil))))) pss_nil)
  (pss_one (ps_ret (pe_tup (pa_cons pe_int (pa_cons pe_int pa_nil))))))), ?_⟩
    simp only [tSeq, tNext, tRet, tIfS, tOp, tUn, tC, tVar, rI0, rU, tTest, tCons, tNil, L2.start, List.map_cons, List.map_nil, List.length_cons, List.length_nil, List.replicate, List.cons_append, List.nil_append, List.getElem?_cons_zero, List.getElem?_cons_succ, Option.some.injEq, V.int.injEq, V.bl.injEq, V.ref.injEq, List.cons.injEq, and_true, exists_eq_left', exists_and_left, Nat.reduceSub, Nat.reduceAdd, rIxL, rIxT, tTup,  decide_eq_true_eq, rLenS, tCB, rMin, rMax]
    have hT0 := hT
    have hL0 := hL
    obtain ⟨tt, hT1, hT2⟩ := hT
    obtain ⟨tl, hL1, hL2⟩ := hL
    have htl : tt.length = taken.length := by rw [hT2.len, tx_len]
    have hll : tl.length = left.length := by rw [hL2.len, tx_len]
    have h3 : ∀ (z : Nat), z < 3 → ∀ it ∈ tx taken, z < it.length := fun z hz it hm => by
      unfold tx at hm
      obtain ⟨p, _, rfl⟩ := List.mem_map.mp hm
      exact hz
    refine ⟨_, Or.inl (SqL.of hT1), ite2 (fun h => ?_) fun h => ⟨_, Or.inl (SqL.of hL1), ite2 (fun h2 => ?_) fun h2 => ⟨by decide, fun p hp => ?_⟩⟩⟩
    · rw [List.length_map] at h
      have hne : taken.isEmpty = false := by
        cases taken with
        | nil => simp at htl; rw [htl] at h; simp at h
        | cons a r => rfl
      refine lc_col (z := 1) (a := t) hT0 (h3 1 (by decide)) (by rw [tx_len]; omega) (by show (2 : Nat) < 3; decide) (fun D hD hLI => ⟨D, rfl, col 1 (tx taken), SqL.of hLI, by rw [col1, List.length_map]; omega, fun m hm hmin => ?_⟩) _ (fun R q => ⟨_, rfl, t, rfl, ⟨_, SqL.of hT1⟩, q⟩)
      have s1 : Same H (upd H D (.lst ((col 1 (tx taken)).map V.int))) := same_new hD
      refine lc_col (z := 2) (a := t) (hT0.same s1) (h3 2 (by decide)) (by rw [tx_len]; omega) (by show (2 : Nat) < 3; decide) (fun D2 hD2 hLI2 => ⟨D2, rfl, col 2 (tx taken), SqL.of hLI2, by rw [col2, List.length_map]; omega, fun m2 hm2 hmax => ⟨by decide, fun p hp => ?_⟩⟩) _ (fun R q => ⟨_, rfl, t, rfl, ⟨_, SqL.of (s1 _ _ hT1)⟩, q⟩)
      rw [col1] at hm hmin
      rw [col2] at hm2 hmax
      obtain ⟨p1, hp1, rfl⟩ := List.mem_map.mp hm
      obtain ⟨p2, hp2, rfl⟩ := List.mem_map.mp hm2
      have e1 : Rs.leastFrom taken = p1.from_ := Rm.leastFrom_eq ⟨p1, hp1, rfl⟩ fun x hx => by
        have := hmin (x.from_ : Int) (List.mem_map.mpr ⟨x, hx, rfl⟩)
        omega
      have e2 : Rs.greatestTo taken = p2.to := Rm.greatestTo_eq ⟨p2, hp2, rfl⟩ fun x hx => by
        have := hmax (x.to : Int) (List.mem_map.mpr ⟨x, hx, rfl⟩)
        omega
      have ew : Rs.whence taken left.reverse = (p1.from_, p2.to) := by
        unfold Rs.whence
        rw [hne, if_neg (by decide), e1, e2]
      rw [ew] at k
      exact k _ p ((s1.trans (same_new hD2)).trans (same_new hp)) upd_same
    all_goals
      have hem : taken = [] := by
        rw [List.length_map] at h
        exact List.length_eq_zero_iff.mp (by omega)
      subst hem
    · rw [List.length_map] at h2
      obtain ⟨a, ha⟩ : ∃ a, tl[tl.length - 1]? = some a := ⟨_, List.getElem?_eq_getElem (by omega)⟩
      obtain ⟨p, hp⟩ : ∃ p, left[left.length - 1]? = some p := ⟨_, List.getElem?_eq_getElem (by omega)⟩
      obtain ⟨it, hit, hH⟩ := hL2.get ha
      have ei : it = [(p.c : Int), (p.from_ : Int), (p.to : Int)] := Option.some.inj (hit.symm.trans (by rw [hll]; exact tx_get hp))
      subst ei
      have eal : atI (tl.map V.ref) (-1) = some (V.ref a) := at_last (by rw [List.length_map]; exact map_at V.ref ha)
      refine ⟨_, SqL.of hL1, V.ref a, eal, a, rfl, _, SqT.of hH, V.int p.to, at_of (j := 2) rfl rfl, _, SqL.of hL1, V.ref a, eal, a, rfl, _, SqT.of hH, V.int p.to, at_of (j := 2) rfl rfl, by decide, fun q hq => ?_⟩
      have ew : Rs.whence [] left.reverse = (p.to, p.to) := by
        have er : left.reverse = p :: (left.dropLast).reverse := by
          have hne : left ≠ [] := fun z => by rw [z] at hp; cases hp
          have : left = left.dropLast ++ [p] := by
            conv => lhs; rw [← List.dropLast_concat_getLast hne]
            congr 2
            rw [List.getLast_eq_getElem]
            exact Option.some.inj ((List.getElem?_eq_getElem _).symm.trans hp)
          conv => lhs; rw [this]
          rw [List.reverse_append]
          rfl
        unfold Rs.whence
        rw [er]
        rfl
      rw [ew] at k
      exact k _ q (same_new hq) upd_same
    · rw [List.length_map] at h2
      have hel : left = [] := List.length_eq_zero_iff.mp (by omega)
      subst hel
      exact k _ p (same_new hp) upd_same
abbrev s_write : Stmt := top 52
theorem sc_write : FnScope ["fit", "left", "right", "maps", "points", "cursor", "item", "came_from", "row", "point"] ["fit", "left", "right", "maps"] (defScope s_write) := ⟨rfl, rfl, rfl, by decide +kernel, rfl, by decide +kernel, by decide +kernel⟩
theorem ok_write (F : Fun K "write" "write" s_write f fd) (T : Txt K mg Sz) (N : Cn K c) (c_points_of : Cal P w K mg base 1 "points_of" ["item", "bounds", "right", "maps"] (sp_points_of K)) (c_span_of : Cal P w K mg base 1 "span_of" ["taken", "left"] sp_span_of)
    (c_Written : Mkr P w K mg base 1 "Written" c.Written ["self", "row", "cursor"] (sp_Written c)) : FnOk P w K mg base CX0 3 f fd ["fit", "left", "right", "maps"] (sp_write c) := by
  refine F.ok sc_write (fun vs H Q E h => ?_) (fun cdv A outer s H vs Q E hr h => ?_)
  · obtain ⟨fa, l, r, m, n, ru, ks, left, right, b, rfl, _⟩ := h
    rfl
  · obtain ⟨fa, l, r, m, n, ru, ks, left, right, b, rfl, hF, hL, hR, hM, hks, hkl, h64, k⟩ := h
    refine ⟨_, (pss_cons (ps_set (i := 4) sc_write.nd rfl (Or.inl rfl) (pe_lst pa_nil))
  (pss_cons (ps_set (i := 5) sc_write.nd rfl (Or.inl rfl) pe_non)
  (pss_cons (ps_for PassesOwn.never rfl (pi_listK (K := K) rfl (pe_fldK (K := K) rfl (pe_fldK (K := K) rfl (pv 0) rfl) rfl)) (pg_name (i := 6) sc_write.nd rfl (Or.inl rfl)) (pss_one (ps_if (pt_cmpR op_eq (pe_ix (r := rIxT K) ix_tup (pv 6) pe_int (fun _ _ => rfl)) (pe_gi T.c_CURSOR) (nomark _)) (pss_one (ps_set (i := 5) sc_write.nd rfl (Or.inl rfl) (pe_callB (r := rLenS K) call_len_seq (by rfl) T.b_len boot_len (pa_cons (pv 4) pa_nil)))) (pss_one (ps_expr (pe_bmK (K := K) rfl PySem.F.plainAttrs_list PySem.F.slot_list_extend PySem.F.type_list_extend mt_extend (pv 4) (pa_cons (pe_fun (sp := (sp_points_of K)) c_points_of hr (pa_cons (pv 6) (pa_cons (pe_fldK (K := K) rfl (pv 0) rfl) (pa_cons (pv 2) (pa_cons (pv 3) pa_nil))))) pa_nil)))))))
  (pss_cons (ps_set (i := 7) sc_write.nd rfl (Or.inr rfl) (pe_fun (sp := sp_span_of) c_span_of hr (pa_cons (pe_slice (r := rSlL K) sl_list (pv 2) po_none (po_some (pe_ix (r := rIxL K) ix_list (pe_fldK (K := K) rfl (pv 0) rfl) (pe_un un_neg pe_int) (fun _ _ => rfl)))) (pa_cons (pv 1) pa_nil))))
  (pss_cons (ps_setLc (i := 8) rfl sc_write.nd rfl rfl (sw_true rfl rfl rfl (by decide +kernel)) (pi_listK (K := K) rfl (pv 4)) (blkOk_by (N := ["fit", "left", "right", "maps", "points", "cursor", "item", "came_from", "row", "point"]) (sc := defScope s_write) (own := [("point", 9)]) (by decide +kernel)) (fun _ _ _ _ _ => (pg_name (i := 9) sc_write.nd rfl (Or.inl rfl))) (fun _ _ _ _ _ => pts_nil) (fun _ _ _ _ _ => (pe_tup (pa_cons (pv 9) (pa_cons (pe_ix (r := rIxT K) ix_tup (pv 7) pe_int (fun _ _ => rfl)) (pa_cons (pe_ix (r := rIxT K) ix_tup (pv 7) pe_int (fun _ _ => rfl)) pa_nil))))))
  (pss_one (ps_ret (pe_new c_Written hr (pa_cons (pv 8) (pa_cons (pe_ifExp (pt_cmpR op_isN (pv 5) pe_non (nomark _)) (pe_callB (r := rLenS K) call_len_seq (by rfl) T.b_len boot_len (pa_cons (pv 8) pa_nil)) (pv 5)) pa_nil)))))))))), ?_⟩
    simp only [tSeq, tAsg, gName, tC, tNil, L2.start, List.map_cons, List.map_nil, List.length_cons, List.length_nil, List.replicate, List.cons_append, List.nil_append, List.set_cons_zero, List.set_cons_succ, Nat.reduceSub, Nat.reduceAdd, tLst,  if_false]
    have hF0 := hF
    obtain ⟨dx, xr, bd, hf, hX, hbd⟩ := hF
    obtain ⟨dxr, pb, pm, pa, pw, eb, em, ea, ew, h1, hb, hm, ha, hw, _, R⟩ := hX
    obtain ⟨tw, hw1, hw2⟩ := hw
    have hwl := hw2.len
    obtain ⟨bs, ebs⟩ : ∃ bs, bs = bsOf b ru ks left right := ⟨_, rfl⟩
    rw [← ebs] at k
    have ebs2 : bs = ew.map fun it => Rs.writes b ks ⟨left.reverse, right⟩ (resI it) := by
      rw [ebs]
      unfold bsOf
      rw [R.wri, List.map_map]
      rfl
    have hkm : ks.length = em.length := by rw [hkl, R.mat, List.length_map]
    have bsget : ∀ i it, ew[i]? = some it → bs.take (i + 1) = bs.take i ++ [Rs.writes b ks ⟨left.reverse, right⟩ (resI it)] := fun i it hi => by
      rw [ebs2, List.take_add_one, List.getElem?_map, hi]
      rfl
    have c6 : ∀ i it, ew[i]? = some it → ((ew.take (i + 1)).filter fun it => decide (Rq.hd it = 6)).length = ((ew.take i).filter fun it => decide (Rq.hd it = 6)).length + if Rq.hd it = 6 then 1 else 0 := fun i it hi => by
      rw [List.take_add_one, hi]
      show ((ew.take i ++ [it]).filter _).length = _
      rw [List.filter_append, List.length_append]
      by_cases q : Rq.hd it = 6
      · rw [if_pos q, List.filter_cons_of_pos (by simp [q])]; rfl
      · rw [if_neg q, List.filter_cons_of_neg (by simp [q])]; rfl
    refine ⟨Nat.zero_le _, fun p hp => ?_⟩
    have sp : Same H (upd H p (.lst [])) := same_new hp
    obtain ⟨Pv, ePv⟩ : ∃ Pv : Nat → L2.St → Hp → Prop, Pv = fun i σ H' => (∃ v6 vc, σ = [some (V.ref fa), some (V.ref l), some (V.ref r), some (V.ref m), some (V.ref p), some vc, v6, none, none, none] ∧
        ((((ew.take i).filter fun it => decide (Rq.hd it = 6)).length = 0 ∧ (∀ q ∈ bs.take i, q ≠ none) ∧ vc = V.non) ∨ (((ew.take i).filter fun it => decide (Rq.hd it = 6)).length ≠ 0 ∧ ∃ pre post, bs.take i = pre ++ none :: post ∧ (∀ q ∈ pre, q ≠ none) ∧ vc = V.int (Rm.allP pre).length))) ∧
        Same H H' ∧ LI H' p ((Rm.allP (bs.take i)).map Int.ofNat) ∧ (Rm.allP (bs.take i)).length ≤ 64 * i := ⟨_, rfl⟩
    have Pv_in : ∀ i v6 vc H', ((((ew.take i).filter fun it => decide (Rq.hd it = 6)).length = 0 ∧ (∀ q ∈ bs.take i, q ≠ none) ∧ vc = V.non) ∨ (((ew.take i).filter fun it => decide (Rq.hd it = 6)).length ≠ 0 ∧ ∃ pre post, bs.take i = pre ++ none :: post ∧ (∀ q ∈ pre, q ≠ none) ∧ vc = V.int (Rm.allP pre).length)) →
        Same H H' → LI H' p ((Rm.allP (bs.take i)).map Int.ofNat) → (Rm.allP (bs.take i)).length ≤ 64 * i → Pv i [some (V.ref fa), some (V.ref l), some (V.ref r), some (V.ref m), some (V.ref p), some vc, v6, none, none, none] H' := fun i v6 vc H' a1 a2 a3 a4 => by
      rw [ePv]
      exact ⟨⟨v6, vc, rfl, a1⟩, a2, a3, a4⟩
    refine ⟨_, rfl, fa, c.Fit, dx, _, _, rfl, sp _ _ hf, N.cl_Fit, N.n_Fit_rule, rfl, xr, c.Rule, dxr, _, _, rfl, sp _ _ h1, N.cl_Rule, N.n_Rule_writers, rfl, pw, rfl, ⟨_, SqL.of (sp _ _ hw1)⟩, for_list (xs := tw.map V.ref) Pv
      (Pv_in 0 none V.non _ (.inl ⟨rfl, by simp, rfl⟩) sp upd_same (Nat.le_refl _)) (fun i σ H' _ z => by rw [ePv] at z; exact SqL.of (z.2.1 _ _ hw1)) ?_ ?_⟩
    · rintro i y σ H' hy hPv
      rw [ePv] at hPv
      obtain ⟨⟨v6, vc, rfl, hcur⟩, hs, hpt, hsz⟩ := hPv
      obtain ⟨t, ht, rfl⟩ := ref_at hy
      obtain ⟨it, hit, hH⟩ := hw2.get ht
      have hi : i < ew.length := (List.getElem?_eq_some_iff.mp hit).1
      have h32 := R.few.2.2.2
      have hwr := R.okw it (List.mem_of_getElem? hit)
      rw [← hkm] at hwr
      have eb1 := bsget i it hit
      have ec1 := c6 i it hit
      obtain ⟨y0, r0, rfl⟩ : ∃ y0 r0, it = y0 :: r0 := by
        cases it with
        | nil => rcases hwr.2 with ⟨_, q⟩ | ⟨_, q, _⟩ | ⟨_, q, _⟩ | ⟨_, q⟩ <;> cases q
        | cons y0 r0 => exact ⟨y0, r0, rfl⟩
      have ehd : Rq.hd (y0 :: r0) = y0 := rfl
      simp only [tDrop, tIfS, tAsg, gName, tOp, tC, tVar, rEq, tTest, tCons, tNil, tCall, List.append_nil, List.getElem?_cons_zero, List.getElem?_cons_succ, List.set_cons_zero, List.set_cons_succ, Option.some.injEq, V.int.injEq, V.bl.injEq, V.ref.injEq, List.cons.injEq, and_true, exists_eq_left', exists_and_left, rIxT,  decide_eq_true_eq, rLenS, tCB, tBM, rExtend, tFld, sp_points_of]
      refine ⟨_, SqT.of (hs _ _ hH), V.int y0, at_of (j := 0) rfl rfl, rfl, ite2 (fun h6 => ?_) fun h6 => ?_⟩
      · have h6 : y0 = 6 := V.int.inj h6
        subst h6
        rw [if_pos ehd] at ec1
        have hc1 : ((ew.take (i + 1)).filter fun it => decide (Rq.hd it = 6)).length ≤ 1 := by
          refine Nat.le_trans ?_ R.cur
          conv => rhs; rw [← List.take_append_drop (i + 1) ew]
          rw [List.filter_append, List.length_append]
          omega
        have er : Rs.writes b ks ⟨left.reverse, right⟩ (resI (6 :: r0)) = none := rfl
        rw [er] at eb1
        have e0 : ((ew.take i).filter fun it => decide (Rq.hd it = 6)).length = 0 := by omega
        rcases hcur with ⟨_, hno, _⟩ | ⟨q, _⟩
        · have ea : Rm.allP (bs.take (i + 1)) = Rm.allP (bs.take i) := by rw [eb1, Rm.allP_snoc]; simp
          refine ⟨_, Or.inl hpt.sq, ?_⟩
          rw [List.length_map, List.length_map]
          exact Pv_in _ _ _ _ (.inr ⟨by rw [ec1]; omega, bs.take i, [], eb1, hno, rfl⟩) hs (by rw [ea]; exact hpt) (by rw [ea]; omega)
        · exact absurd e0 q
      · have h6 : y0 ≠ 6 := fun q => h6 (congrArg V.int q)
        rw [if_neg (show ¬ Rq.hd (y0 :: r0) = 6 from h6), Nat.add_zero] at ec1
        refine ⟨.inl ⟨rfl, _, hpt.sq⟩, c.Fit, dx, _, hs _ _ hf, N.cl_Fit, N.n_Fit_bounds, _, rfl, t, bd, r, m, ⟨rfl, rfl, rfl, rfl⟩, y0 :: r0, SqT.of (hs _ _ hH), ks, hbd.same hs, ⟨left.reverse, right⟩, hR.same hs, b, hM.same hs, hwr, h6, h64, fun pts H2 q hq s2 hqn hqL => ?_⟩
        rw [hq] at eb1
        have hpl : pts.length ≤ 64 := writes_len hq h64
        have ea : Rm.allP (bs.take (i + 1)) = Rm.allP (bs.take i) ++ pts := by rw [eb1, Rm.allP_snoc]; rfl
        have hp2 := s2 _ _ hpt
        refine ⟨_, hp2, _, hqL, by rw [List.length_map, List.length_map, List.length_map, List.length_map, sizeLine_eq]; omega, ?_⟩
        refine Pv_in _ _ _ _ ?_ (same_own (hs.trans s2) hp) ?_ (by rw [ea, List.length_append]; omega)
        · rcases hcur with ⟨q1, q2, q3⟩ | ⟨q1, pre, post, q2, q3, q4⟩
          · refine .inl ⟨by rw [ec1]; exact q1, ?_, q3⟩
            rw [eb1]
            intro z hz
            rcases List.mem_append.mp hz with hz | hz
            · exact q2 z hz
            · rw [List.mem_singleton.mp hz]; intro w; cases w
          · exact .inr ⟨by rw [ec1]; exact q1, pre, post ++ [some pts], by rw [eb1, q2, List.append_assoc]; rfl, q3, q4⟩
        · show upd H2 p _ p = _
          rw [upd_same, ea, List.map_append, List.map_append]
    · rintro σ H' hPv
      rw [ePv] at hPv
      obtain ⟨⟨v6, vc, rfl, hcur⟩, hs, hpt, hsz⟩ := hPv
      rw [List.length_map, hwl] at hcur hpt hsz
      have hbl : bs.take ew.length = bs := by
        have : ew.length = bs.length := by rw [ebs2, List.length_map]
        rw [this, List.take_length]
      rw [hbl] at hcur hpt hsz
      have h32 := R.few.2.2.2
      simp only [tSeq, tRet, tAsg, gName, tOp, tUn, tC, tVar, rU, tTest, tIf, tCons, tNil, tCall, tPart, tNoPart, tSl, List.append_nil, List.getElem?_cons_zero, List.getElem?_cons_succ, List.set_cons_zero, List.set_cons_succ, Option.some.injEq, V.int.injEq, V.bl.injEq, V.ref.injEq, List.cons.injEq, and_true, true_and, exists_eq_left', exists_and_left, rIxL,  decide_eq_true_eq, rLenS, tCB, rSlL, tFld, tMake, sp_span_of, sp_Written]
      obtain ⟨tr, hr1, hr2⟩ := hR
      have elast : atI ((bnds 0 ks).map V.int) (-1) = some (V.int ((ks.sum : Nat) : Int)) := at_last (by have := Rm.bnds_last 0 ks; rw [Nat.zero_add] at this; rw [List.length_map]; exact map_at V.int this)
      refine ⟨c.Fit, dx, _, hs _ _ hf, N.cl_Fit, N.n_Fit_bounds, _, rfl, bd, rfl, _, (hbd.same hs).sq, V.int ((ks.sum : Nat) : Int), elast, _, rfl, _, SqL.of (hs _ _ hr1), fun q hq => ?_⟩
      have s3 : Same H (upd H' q (.lst (cutV (tr.map V.ref) none (some ((ks.sum : Nat) : Int))))) := hs.trans (same_new hq)
      have hp3 := (same_new (o := .lst (cutV (tr.map V.ref) none (some ((ks.sum : Nat) : Int)))) hq) _ _ hpt
      refine ⟨q, l, ⟨rfl, rfl⟩, right.take ks.sum, ⟨tr.take ks.sum, ?_, ?_⟩, left, hL.same s3, ?_, fun H4 cf s4 hcf => ?_⟩
      · rw [upd_same, cutV_to, List.map_take]
      · have := (Tups.take ks.sum hr2).same s3
        rw [tx_take] at this
        exact this
      · rw [List.length_take]; omega
      · have s34 := s3.trans s4
        have hp4 : LI H4 p ((Rm.allP bs).map Int.ofNat) := s4 _ _ hp3
        refine ⟨_, rfl, p, rfl, ⟨_, hp4.sq⟩, fun D hD => lc_list (xs := ((Rm.allP bs).map Int.ofNat).map V.int) (fun i H' => Same H4 H' ∧ ∃ us, H' D = some (.lst (us.map V.ref)) ∧ Tups H' us (tx (wrT b ru ks left right ((Rm.allP bs).take i))) ∧ us.length ≤ i) ⟨same_new hD, [], upd_same, .nil, Nat.le_refl _⟩ (fun i H' _ z => z.1.seq hp4.sq) ?_ ?_⟩
        · rintro i y H5 hy ⟨s5, us, hU, hT5, hu⟩
          obtain ⟨z, hz, rfl⟩ := int_at hy
          rw [List.getElem?_map] at hz
          cases hpn : (Rm.allP bs)[i]? with
          | none => rw [hpn] at hz; cases hz
          | some pn =>
            rw [hpn] at hz
            have ez := Option.some.inj hz
            subst ez
            have hi : i < (Rm.allP bs).length := (List.getElem?_eq_some_iff.mp hpn).1
            have et : tx (wrT b ru ks left right ((Rm.allP bs).take (i + 1))) = tx (wrT b ru ks left right ((Rm.allP bs).take i)) ++ [[((pn : Nat) : Int), ((Rs.whence (right.take ks.sum) left.reverse).1 : Int), ((Rs.whence (right.take ks.sum) left.reverse).2 : Int)]] := by
              rw [List.take_add_one, hpn]
              unfold wrT
              rw [List.map_append, tx_app]
              rfl
            simp only [gName, tOp, tC, tVar, tCons, tNil, List.length_cons, List.length_nil, List.getElem?_cons_zero, List.getElem?_cons_succ, List.set_cons_zero, List.set_cons_succ, Option.some.injEq, V.int.injEq, V.ref.injEq, true_and, exists_eq_left', exists_and_left, Nat.reduceAdd, rIxT, tTup,  if_true, tYes, wipe]
            refine ⟨_, SqT.of (s5 _ _ hcf), V.int (Rs.whence (right.take ks.sum) left.reverse).1, at_of (j := 0) rfl rfl, _, SqT.of (s5 _ _ hcf), V.int (Rs.whence (right.take ks.sum) left.reverse).2, at_of (j := 1) rfl rfl, by decide, fun q hq => ?_⟩
            rw [et]
            refine ⟨us.map V.ref, (upd_ne (ne_of_none hU hq)).trans hU, by rw [List.length_map, sizeLine_eq]; omega, same_own (s5.trans (same_new hq)) hD, us ++ [q], by rw [upd_same, List.map_append]; rfl, ?_, by rw [List.length_append, List.length_singleton]; omega⟩
            exact hT5.snoc_new (it := [((pn : Nat) : Int), ((Rs.whence (right.take ks.sum) left.reverse).1 : Int), ((Rs.whence (right.take ks.sum) left.reverse).2 : Int)]) hU hq _ ⟨_, rfl⟩
        · rintro H5 ⟨s5, us, hU, hT5, hu⟩
          rw [List.length_map, List.length_map, List.take_length] at hT5
          have hul : us.length = (Rm.allP bs).length := by rw [hT5.len, tx_len]; unfold wrT; rw [List.length_map]
          have hLT5 : LT H5 D (tx (wrT b ru ks left right (Rs.front bs ++ Rs.back bs))) := by
            rw [Rm.front_back]
            exact ⟨us, hU, hT5⟩
          have s05 : Same H H5 := s34.trans s5
          rcases hcur with ⟨_, q2, rfl⟩ | ⟨_, pre, post, q2, q3, rfl⟩
          · rw [if_pos rfl]
            refine ⟨D, rfl, _, Or.inl (SqL.of hU), fun x d nx nd hne => ⟨x, d, D, _, ⟨rfl, rfl, rfl⟩, upd_same, fun H6 h6 k6 => ?_⟩⟩
            have s6 : Same H5 H6 := Same.made nx nd fun b o e hb => k6 b o e (by simpa using hb)
            refine k H6 x d D (s05.trans s6) ?_ (hLT5.same s6)
            rw [h6, List.length_map, hul, Rm.front_no bs q2]
          · rw [if_neg (fun z => by cases z)]
            refine fun x d nx nd hne => ⟨x, d, D, _, ⟨rfl, rfl, rfl⟩, upd_same, fun H6 h6 k6 => ?_⟩
            have s6 : Same H5 H6 := Same.made nx nd fun b o e hb => k6 b o e (by simpa using hb)
            refine k H6 x d D (s05.trans s6) ?_ (hLT5.same s6)
            rw [h6, q2, Rm.front_cur pre post q3]
end
end Re
end
section
set_option maxHeartbeats 4000000
namespace Re
open PySem PySem.Spec PyProof.Rows L2
open Rm (ElOk WrOk bnds resI)
theorem bs_len {c : Cs} {H : Hp} {G : Addr → Prop} {n : Nat} {b : Rs.Book} {ru : Rs.Rule} {ks : List Nat} {left right : Rs.Text} {x : Addr} (hX : RuleAt c H G b.sets.length b.maps.length x n ru) (h64 : right.length ≤ 64) : (Rm.allP (bsOf b ru ks left right)).length ≤ 4096 := by
  obtain ⟨dx, pb, pm, pa, pw, eb, em, ea, ew, _, _, _, _, _, _, R⟩ := hX
  have h32 := R.few.2.2.2
  have key : ∀ l : List Rs.Res, (Rm.allP (l.map (Rs.writes b ks ⟨left.reverse, right⟩))).length ≤ 64 * l.length := by
    intro l
    induction l with
    | nil => exact Nat.le_refl _
    | cons r l ih =>
      have h1 : ((Rs.writes b ks ⟨left.reverse, right⟩ r).getD []).length ≤ 64 := by
        cases e : Rs.writes b ks ⟨left.reverse, right⟩ r with
        | none => exact Nat.zero_le _
        | some pts => exact writes_len e h64
      show ((Rs.writes b ks ⟨left.reverse, right⟩ r).getD [] ++ Rm.allP (l.map (Rs.writes b ks ⟨left.reverse, right⟩))).length ≤ 64 * (l.length + 1)
      rw [List.length_append]
      omega
  have := key ru.res
  have hl : ru.res.length ≤ 32 := by rw [R.wri, List.length_map]; exact h32
  unfold bsOf
  omega
section
variable {P : Program} {w : World} {K : PySem.W.Frag} {mg : Str → Option Value} {base : Heap} {Sz f : Addr} {fd : FuncData} {c : Cs}
abbrev s_move_on : Stmt := top 69
theorem sc_move_on : FnScope ["text"] ["text"] (defScope s_move_on) := ⟨rfl, rfl, rfl, by decide +kernel, rfl, by decide +kernel, by decide +kernel⟩
theorem ok_move_on (F : Fun K "move_on" "move_on" s_move_on f fd) (T : Txt K mg Sz) (N : Cn K c) : FnOk P w K mg base CX0 1 f fd ["text"] (sp_move_on c) := by
  refine F.ok sc_move_on (fun vs H Q E h => ?_) (fun cdv A outer s H vs Q E hr h => ?_)
  · obtain ⟨H0, x, cap, left, right, p, steps, v, rfl, _⟩ := h
    rfl
  · obtain ⟨H0, x, cap, left, right, p, steps, v, rfl, TA, hlen, k⟩ := h
    obtain ⟨⟨dx, l, r, st, hx, hl, hr1, hst, nlr, nls, nrs, nl0, ns0⟩, nx, s0⟩ := TA
    refine ⟨_, (pss_cons (ps_expr (pe_bmK (K := K) rfl PySem.F.plainAttrs_list PySem.F.slot_list_append PySem.F.type_list_append mt_append (pe_fldK (K := K) rfl (pv 0) rfl) (pa_cons (pe_ix (r := rIxL K) ix_list (pe_fldK (K := K) rfl (pv 0) rfl) pe_int (fun _ _ => rfl)) pa_nil)))
  (pss_one (ps_fldK (K := K) rfl (pv 0) (pe_slice (r := rSlL K) sl_list (pe_fldK (K := K) rfl (pv 0) rfl) (po_some pe_int) po_none) rfl))), ?_⟩
    simp only [tSeq, tDrop, tOp, tC, tVar, tCons, tNil, tPart, tNoPart, tSl, L2.start, List.map_cons, List.map_nil, List.length_cons, List.length_nil, List.replicate, List.append_nil, List.getElem?_cons_zero, Option.some.injEq, V.int.injEq, V.ref.injEq, List.cons.injEq, and_true, exists_eq_left', exists_and_left, Nat.reduceSub, Nat.reduceAdd, rIxL,  tBM, rAppend, rSlL, tFld, sFld]
    obtain ⟨tl, hl1, hl2⟩ := hl
    obtain ⟨tr, hr2, hr3⟩ := hr1
    cases hr3 with
    | @cons t0 _ tr' _ g1 g2 =>
    have htl : tl.length = left.length := by rw [hl2.len, tx_len]
    have nxl : x ≠ l := ne_of hx hl1 (by intro z; cases z)
    have nxr : x ≠ r := ne_of hx hr2 (by intro z; cases z)
    refine ⟨c.Rewriting, dx, _, hx, N.cl_Rewriting, N.n_Rewriting_left, _, rfl, .inl ⟨rfl, _, SqL.of hl1⟩, c.Rewriting, dx, _, hx, N.cl_Rewriting, N.n_Rewriting_right, _, rfl, r, rfl, _, SqL.of hr2, V.ref t0, at_of (j := 0) rfl rfl, l, rfl, _, hl1, by rw [List.length_map, sizeLine_eq]; omega, ?_⟩
    obtain ⟨H1, e1⟩ : ∃ H1, H1 = upd H l (HO.lst (tl.map V.ref ++ [V.ref t0])) := ⟨_, rfl⟩
    rw [← e1]
    have h1x : H1 x = some (.ins c.Rewriting dx (tf cap l r st v)) := by rw [e1, upd_ne nxl]; exact hx
    have h1r : H1 r = some (.lst ((t0 :: tr').map V.ref)) := by rw [e1, upd_ne (Ne.symm nlr)]; exact hr2
    have s1 : Same H0 H1 := by rw [e1]; exact same_own s0 nl0
    have kt : ∀ a xs, H a = some (.tup xs) → H1 a = some (.tup xs) := fun a xs e => by rw [e1, upd_ne (ne_of e hl1 (by intro z; cases z))]; exact e
    have hl' : LT H1 l (tx (left ++ [p])) := by
      refine ⟨tl ++ [t0], by rw [e1, upd_same, List.map_append]; rfl, ?_⟩
      rw [tx_app]
      exact Tups.app (Paired.mono (fun a b e => kt _ _ e) hl2) (.cons (kt _ _ g1) .nil)
    have hst' : LT H1 st (steps.map srow) := by
      obtain ⟨tst, q1, q2⟩ := hst
      exact ⟨tst, by rw [e1, upd_ne (Ne.symm nls)]; exact q1, Paired.mono (fun a b e => kt _ _ e) q2⟩
    have hr' : Tups H1 tr' (tx right) := Paired.mono (fun a b e => kt _ _ e) g2
    clear e1
    refine ⟨c.Rewriting, dx, _, h1x, N.cl_Rewriting, N.n_Rewriting_right, _, rfl, r, rfl, _, SqL.of h1r, fun q hq => ?_⟩
    have ec : cutV ((t0 :: tr').map V.ref) (some 1) none = tr'.map V.ref := cutV_from _ 1
    rw [ec]
    have h2x : (upd H1 q (HO.lst (tr'.map V.ref))) x = some (.ins c.Rewriting dx (tf cap l r st v)) := (upd_ne (ne_of_none h1x hq)).trans h1x
    refine ⟨c.Rewriting, dx, _, h2x, N.cl_Rewriting, N.n_Rewriting_right, (by show (5 : Nat) < 1000; decide), ?_⟩
    have nql : l ≠ q := by obtain ⟨ts, e, _⟩ := hl'; exact ne_of_none e hq
    have nqs : q ≠ st := by obtain ⟨ts, e, _⟩ := hst'; exact Ne.symm (ne_of_none e hq)
    exact k _ ⟨⟨dx, l, q, st, upd_same, (hl'.same (same_new hq)).st h2x, LT.st ⟨tr', upd_same, hr'.same (same_new hq)⟩ h2x, (hst'.same (same_new hq)).st h2x, nql, nls, nqs, nl0, ns0⟩, nx, same_own (s1.trans (same_new hq)) nx⟩
abbrev s_begin_again : Stmt := top 67
theorem sc_begin_again : FnScope ["text"] ["text"] (defScope s_begin_again) := ⟨rfl, rfl, rfl, by decide +kernel, rfl, by decide +kernel, by decide +kernel⟩
theorem ok_begin_again (F : Fun K "begin_again" "begin_again" s_begin_again f fd) (T : Txt K mg Sz) (N : Cn K c) : FnOk P w K mg base CX0 1 f fd ["text"] (sp_begin_again c) := by
  refine F.ok sc_begin_again (fun vs H Q E h => ?_) (fun cdv A outer s H vs Q E hr h => ?_)
  · obtain ⟨H0, x, cap, left, right, steps, v, rfl, _⟩ := h
    rfl
  · obtain ⟨H0, x, cap, left, right, steps, v, rfl, TA, k⟩ := h
    obtain ⟨⟨dx, l, r, st, hx, hl, hr1, hst, nlr, nls, nrs, nl0, ns0⟩, nx, s0⟩ := TA
    refine ⟨_, (pss_cons (ps_fldK (K := K) rfl (pv 0) (pe_fldK (K := K) rfl (pv 0) rfl) rfl)
  (pss_one (ps_fldK (K := K) rfl (pv 0) (pe_lst pa_nil) rfl))), ?_⟩
    simp only [tSeq, tVar, tNil, L2.start, List.map_cons, List.map_nil, List.length_cons, List.length_nil, List.replicate, List.append_nil, List.getElem?_cons_zero, Option.some.injEq, V.ref.injEq, exists_eq_left', exists_and_left, Nat.reduceSub, Nat.reduceAdd, tLst,  tFld, sFld]
    refine ⟨c.Rewriting, dx, _, hx, N.cl_Rewriting, N.n_Rewriting_left, _, rfl, c.Rewriting, dx, _, hx, N.cl_Rewriting, N.n_Rewriting_right, (by show (5 : Nat) < 1000; decide), Nat.zero_le _, fun q hq => ?_⟩
    obtain ⟨H1, e1⟩ : ∃ H1, H1 = upd H x (HO.ins c.Rewriting dx (putF "right" (V.ref l) (tf cap l r st v))) := ⟨_, rfl⟩
    rw [← e1] at hq ⊢
    have h1x : H1 x = some (.ins c.Rewriting dx (tf cap l l st v)) := by rw [e1]; exact upd_same
    have s1 : Same H0 H1 := by rw [e1]; exact same_own s0 nx
    have hl' : LT H1 l (tx left) := by rw [e1]; exact hl.st hx
    have hst' : LT H1 st (steps.map srow) := by rw [e1]; exact hst.st hx
    clear e1
    have h2x : (upd H1 q (HO.lst [])) x = some (.ins c.Rewriting dx (tf cap l l st v)) := (upd_ne (ne_of_none h1x hq)).trans h1x
    refine ⟨c.Rewriting, dx, _, h2x, N.cl_Rewriting, N.n_Rewriting_left, (by show (5 : Nat) < 1000; decide), ?_⟩
    have nql : q ≠ l := by obtain ⟨ts, e, _⟩ := hl'; exact Ne.symm (ne_of_none e hq)
    have nqs : q ≠ st := by obtain ⟨ts, e, _⟩ := hst'; exact Ne.symm (ne_of_none e hq)
    refine k _ ⟨⟨dx, q, l, st, upd_same, LT.st (row := []) ⟨[], upd_same, .nil⟩ h2x, (hl'.same (same_new hq)).st h2x, (hst'.same (same_new hq)).st h2x, nql, nqs, nls, s1.free hq, ns0⟩, nx, same_own (s1.trans (same_new hq)) nx⟩
abbrev s_apply_fit : Stmt := top 70
theorem sc_apply_fit : FnScope ["text", "fit", "maps", "taken", "written", "right", "left"] ["text", "fit", "maps"] (defScope s_apply_fit) := ⟨rfl, rfl, rfl, by decide +kernel, rfl, by decide +kernel, by decide +kernel⟩
theorem ok_apply_fit (F : Fun K "apply_fit" "apply_fit" s_apply_fit f fd) (T : Txt K mg Sz) (N : Cn K c) (c_write : Cal P w K mg base 3 "write" ["fit", "left", "right", "maps"] (sp_write c)) : FnOk P w K mg base CX0 4 f fd ["text", "fit", "maps"] (sp_apply_fit c) := by
  refine F.ok sc_apply_fit (fun vs H Q E h => ?_) (fun cdv A outer s H vs Q E hr h => ?_)
  · obtain ⟨H0, x, fa, m, cap, n, left, right, steps, b, ru, ks, rfl, _⟩ := h
    rfl
  · obtain ⟨H0, x, fa, m, cap, n, left, right, steps, b, ru, ks, rfl, TA, hF, hM, hks, hkl, h64, hl64, hsl, k1, k2⟩ := h
    obtain ⟨⟨dx, l, r, st, hx, hl, hr1, hst, nlr, nls, nrs, nl0, ns0⟩, nx, s0⟩ := TA
    refine ⟨_, (pss_cons (ps_set (i := 3) sc_apply_fit.nd rfl (Or.inl rfl) (pe_ix (r := rIxL K) ix_list (pe_fldK (K := K) rfl (pv 1) rfl) (pe_un un_neg pe_int) (fun _ _ => rfl)))
  (pss_cons (ps_set (i := 4) sc_apply_fit.nd rfl (Or.inl rfl) (pe_fun (sp := (sp_write c)) c_write hr (pa_cons (pv 1) (pa_cons (pe_fldK (K := K) rfl (pv 0) rfl) (pa_cons (pe_fldK (K := K) rfl (pv 0) rfl) (pa_cons (pv 2) pa_nil))))))
  (pss_cons (ps_set (i := 5) sc_apply_fit.nd rfl (Or.inl rfl) (pe_op op_cat (pe_slice (r := rSlL K) sl_list (pe_fldK (K := K) rfl (pv 4) rfl) (po_some (pe_fldK (K := K) rfl (pv 4) rfl)) po_none) (pe_slice (r := rSlL K) sl_list (pe_fldK (K := K) rfl (pv 0) rfl) (po_some (pv 3)) po_none)))
  (pss_cons (ps_set (i := 6) sc_apply_fit.nd rfl (Or.inl rfl) (pe_op op_cat (pe_fldK (K := K) rfl (pv 0) rfl) (pe_slice (r := rSlL K) sl_list (pe_fldK (K := K) rfl (pv 4) rfl) po_none (po_some (pe_fldK (K := K) rfl (pv 4) rfl)))))
  (pss_cons (ps_if (pt_cmpR op_gt (pe_op op_add (pe_callB (r := rLenS K) call_len_seq (by rfl) T.b_len boot_len (pa_cons (pv 6) pa_nil)) (pe_callB (r := rLenS K) call_len_seq (by rfl) T.b_len boot_len (pa_cons (pv 5) pa_nil))) (pe_fldK (K := K) rfl (pv 0) rfl) (nomark _)) (pss_cons (ps_fldK (K := K) rfl (pv 0) (pe_gi T.c_TOO_LONG) rfl)
  (pss_one ps_retN)) pss_nil)
  (pss_cons (ps_expr (pe_bmK (K := K) rfl PySem.F.plainAttrs_list PySem.F.slot_list_append PySem.F.type_list_append mt_append (pe_fldK (K := K) rfl (pv 0) rfl) (pa_cons (pe_tup (pa_cons (pe_fldK (K := K) rfl (pe_fldK (K := K) rfl (pv 1) rfl) rfl) (pa_cons (pe_callB (r := rLenS K) call_len_seq (by rfl) T.b_len boot_len (pa_cons (pe_fldK (K := K) rfl (pv 0) rfl) pa_nil)) (pa_cons (pv 3) (pa_cons (pe_callB (r := rLenS K) call_len_seq (by rfl) T.b_len boot_len (pa_cons (pe_fldK (K := K) rfl (pv 4) rfl) pa_nil)) pa_nil))))) pa_nil)))
  (pss_cons (ps_fldK (K := K) rfl (pv 0) (pv 6) rfl)
  (pss_one (ps_fldK (K := K) rfl (pv 0) (pv 5) rfl))))))))), ?_⟩
    simp only [tSeq, tNext, tDrop, tRetN, tIfS, tAsg, gName, tOp, tUn, tC, tVar, rI0, rU, tTest, tCons, tNil, tCall, tPart, tNoPart, tSl, L2.start, List.map_cons, List.map_nil, List.length_cons, List.length_nil, List.replicate, List.cons_append, List.nil_append, List.append_nil, List.getElem?_cons_zero, List.getElem?_cons_succ, List.set_cons_zero, List.set_cons_succ, Option.some.injEq, V.int.injEq, V.bl.injEq, V.ref.injEq, List.cons.injEq, and_true, exists_eq_left', exists_and_left, Nat.reduceSub, Nat.reduceAdd, rIxL, tTup,  decide_eq_true_eq, rLenS, tCB, tBM, rAppend, rSlL, tFld, sFld, sp_write]
    have hF0 := hF
    obtain ⟨dxf, xr, bd, hf, hX, hbd⟩ := hF
    have elast : atI ((bnds 0 ks).map V.int) (-1) = some (V.int ((ks.sum : Nat) : Int)) := at_last (by have := Rm.bnds_last 0 ks; rw [Nat.zero_add] at this; rw [List.length_map]; exact map_at V.int this)
    refine ⟨c.Fit, dxf, _, hf, N.cl_Fit, N.n_Fit_bounds, _, rfl, bd, rfl, _, hbd.sq, V.int ((ks.sum : Nat) : Int), elast, c.Rewriting, dx, _, hx, N.cl_Rewriting, N.n_Rewriting_left, _, rfl, c.Rewriting, dx, _, hx, N.cl_Rewriting, N.n_Rewriting_right, _, rfl, ?_⟩
    refine ⟨fa, l, r, m, ⟨rfl, rfl, rfl, rfl⟩, n, ru, ks, left, right, b, hF0, hl, hr1, hM, hks, hkl, h64, fun H1 wp dw q s1 hw hq => ?_⟩
    obtain ⟨fr, efr⟩ : ∃ fr, fr = Rs.front (bsOf b ru ks left right) := ⟨_, rfl⟩
    obtain ⟨bk, ebk⟩ : ∃ bk, bk = Rs.back (bsOf b ru ks left right) := ⟨_, rfl⟩
    rw [← efr] at hw hq
    rw [← ebk] at hq
    have hwlen : ∀ cs, (wrT b ru ks left right cs).length = cs.length := fun cs => by unfold wrT; rw [List.length_map]
    have hwapp : ∀ cs ds, wrT b ru ks left right (cs ++ ds) = wrT b ru ks left right cs ++ wrT b ru ks left right ds := fun cs ds => by unfold wrT; rw [List.map_append]
    have hap : Rs.applied b ru ks ⟨left.reverse, right⟩ = ⟨(wrT b ru ks left right fr).reverse ++ left.reverse, wrT b ru ks left right bk ++ right.drop ks.sum⟩ := by
      rw [efr, ebk]
      rfl
    obtain ⟨tq, hq1, hq2⟩ := hq
    rw [hwapp, tx_app] at hq2
    have hfl : (tx (wrT b ru ks left right fr)).length = fr.length := by rw [tx_len, hwlen]
    have hqA := Tups.take fr.length hq2
    have hqB := Tups.drop fr.length hq2
    rw [← hfl, List.take_left, hfl] at hqA
    rw [← hfl, List.drop_left, hfl] at hqB
    have hlA : (tq.take fr.length).length = fr.length := by rw [hqA.len, hfl]
    have hlB : (tq.drop fr.length).length = bk.length := by rw [hqB.len, tx_len, hwlen]
    obtain ⟨tl, hl1, hl2⟩ := hl
    obtain ⟨tr, hr2, hr3⟩ := hr1
    have htl : tl.length = left.length := by rw [hl2.len, tx_len]
    have htr : tr.length = right.length := by rw [hr3.len, tx_len]
    have hrD := Tups.drop ks.sum hr3
    rw [tx_drop] at hrD
    have hlim : fr.length + bk.length ≤ 4096 := by
      have e : fr ++ bk = Rm.allP (bsOf b ru ks left right) := by rw [efr, ebk]; exact Rm.front_back _
      have := congrArg List.length e
      rw [List.length_append] at this
      rw [this]
      exact bs_len hX h64
    refine ⟨c.Written, dw, _, hw, N.cl_Written, N.n_Written_row, _, rfl, c.Written, dw, _, hw, N.cl_Written, N.n_Written_cursor, _, rfl, _, rfl, q, rfl, _, SqL.of hq1, fun a1 ha1 => ?_⟩
    rw [cutV_from, ← List.map_drop]
    obtain ⟨H2, e2⟩ : ∃ H2, H2 = upd H1 a1 (HO.lst ((tq.drop fr.length).map V.ref)) := ⟨_, rfl⟩
    rw [← e2]
    have s2 : Same H1 H2 := by rw [e2]; exact same_new ha1
    have g1 : H2 a1 = some (.lst ((tq.drop fr.length).map V.ref)) := by rw [e2]; exact upd_same
    clear e2
    refine ⟨c.Rewriting, dx, _, s2 _ _ (s1 _ _ hx), N.cl_Rewriting, N.n_Rewriting_right, _, rfl, _, rfl, r, rfl, _, SqL.of (s2 _ _ (s1 _ _ hr2)), fun a2 ha2 => ?_⟩
    rw [cutV_from, ← List.map_drop]
    obtain ⟨H3, e3⟩ : ∃ H3, H3 = upd H2 a2 (HO.lst ((tr.drop ks.sum).map V.ref)) := ⟨_, rfl⟩
    rw [← e3]
    have s3 : Same H2 H3 := by rw [e3]; exact same_new ha2
    have g2 : H3 a2 = some (.lst ((tr.drop ks.sum).map V.ref)) := by rw [e3]; exact upd_same
    clear e3
    refine ⟨a1, a2, _, _, rfl, rfl, s3 _ _ g1, g2, ?_, fun rt hrt => ?_⟩
    · rw [List.length_map, List.length_map, hlB, List.length_drop, sizeLine_eq]
      omega
    rw [← List.map_append]
    obtain ⟨H4, e4⟩ : ∃ H4, H4 = upd H3 rt (HO.lst ((tq.drop fr.length ++ tr.drop ks.sum).map V.ref)) := ⟨_, rfl⟩
    rw [← e4]
    have s4 : Same H3 H4 := by rw [e4]; exact same_new hrt
    have g3 : H4 rt = some (.lst ((tq.drop fr.length ++ tr.drop ks.sum).map V.ref)) := by rw [e4]; exact upd_same
    clear e4
    have s14 : Same H1 H4 := (s2.trans s3).trans s4
    have s04 : Same H H4 := s1.trans s14
    refine ⟨c.Rewriting, dx, _, s04 _ _ hx, N.cl_Rewriting, N.n_Rewriting_left, _, rfl, c.Written, dw, _, s14 _ _ hw, N.cl_Written, N.n_Written_row, _, rfl, c.Written, dw, _, s14 _ _ hw, N.cl_Written, N.n_Written_cursor, _, rfl, _, rfl, q, rfl, _, SqL.of (s14 _ _ hq1), fun a3 ha3 => ?_⟩
    rw [cutV_to, ← List.map_take]
    obtain ⟨H5, e5⟩ : ∃ H5, H5 = upd H4 a3 (HO.lst ((tq.take fr.length).map V.ref)) := ⟨_, rfl⟩
    rw [← e5]
    have s5 : Same H4 H5 := by rw [e5]; exact same_new ha3
    have g4 : H5 a3 = some (.lst ((tq.take fr.length).map V.ref)) := by rw [e5]; exact upd_same
    clear e5
    refine ⟨l, a3, _, _, rfl, rfl, s5 _ _ (s04 _ _ hl1), g4, ?_, fun lf hlf => ?_⟩
    · rw [List.length_map, List.length_map, hlA, sizeLine_eq]
      omega
    rw [← List.map_append]
    obtain ⟨H6, e6⟩ : ∃ H6, H6 = upd H5 lf (HO.lst ((tl ++ tq.take fr.length).map V.ref)) := ⟨_, rfl⟩
    rw [← e6]
    have s6 : Same H5 H6 := by rw [e6]; exact same_new hlf
    have g5 : H6 lf = some (.lst ((tl ++ tq.take fr.length).map V.ref)) := by rw [e6]; exact upd_same
    clear e6
    have s46 : Same H4 H6 := s5.trans s6
    have s06 : Same H H6 := s04.trans s46
    have s16 : Same H1 H6 := s14.trans s46
    have g6 := s46 _ _ g3
    have nlf : H lf = none := (s04.trans s5).free hlf
    have nrt : H rt = none := (s1.trans (s2.trans s3)).free hrt
    have nlr2 : lf ≠ rt := fun z => by rw [z, s5 _ _ g3] at hlf; cases hlf
    have hsz : (Rs.applied b ru ks ⟨left.reverse, right⟩).size = (left.length + fr.length) + (bk.length + (right.length - ks.sum)) := by
      rw [hap]
      unfold Rs.Cur.size
      simp only [List.length_append, List.length_reverse, hwlen, List.length_drop]
      omega
    have hlen1 : ((tl ++ tq.take fr.length).map V.ref).length = left.length + fr.length := by rw [List.length_map, List.length_append, hlA, htl]
    have hlen2 : ((tq.drop fr.length ++ tr.drop ks.sum).map V.ref).length = bk.length + (right.length - ks.sum) := by rw [List.length_map, List.length_append, hlB, List.length_drop, htr]
    have hl6 : LT H6 l (tx left) := ⟨tl, s06 _ _ hl1, hl2.same s06⟩
    have hr6 : LT H6 r (tx right) := ⟨tr, s06 _ _ hr2, hr3.same s06⟩
    refine ⟨lf, rfl, _, Or.inl (SqL.of g5), rt, rfl, _, Or.inl (SqL.of g6), c.Rewriting, dx, _, s06 _ _ hx, N.cl_Rewriting, N.n_Rewriting_cap, _, rfl, _, rfl, ite2 (fun hc => ⟨c.Rewriting, dx, _, s06 _ _ hx, N.cl_Rewriting, N.n_Rewriting_refusal, (by show (5 : Nat) < 1000; decide), ?_⟩) fun hc => ?_⟩
    · rw [hlen1, hlen2] at hc
      exact k1 (by omega) _ ⟨⟨dx, l, r, st, upd_same, hl6.st (s06 _ _ hx), hr6.st (s06 _ _ hx), (hst.same s06).st (s06 _ _ hx), nlr, nls, nrs, nl0, ns0⟩, nx, same_own (s0.trans s06) nx⟩
    · rw [hlen1, hlen2] at hc
      have k2 := k2 (by omega)
      obtain ⟨dxr, pb, pm, pa, pw, eb, em, ea, ew, h1r, _⟩ := hX
      obtain ⟨tst, hst1, hst2⟩ := hst
      have hstl : tst.length = steps.length := by rw [hst2.len, List.length_map]
      have hst6 := s06 _ _ hst1
      refine ⟨c.Rewriting, dx, _, s06 _ _ hx, N.cl_Rewriting, N.n_Rewriting_steps, _, rfl, .inl ⟨rfl, _, SqL.of hst6⟩, c.Fit, dxf, _, s06 _ _ hf, N.cl_Fit, N.n_Fit_rule, _, rfl, xr, rfl, c.Rule, dxr, _, s06 _ _ h1r, N.cl_Rule, N.n_Rule_number, _, rfl, c.Rewriting, dx, _, s06 _ _ hx, N.cl_Rewriting, N.n_Rewriting_left, _, rfl, l, rfl, _, Or.inl (SqL.of (s06 _ _ hl1)), c.Written, dw, _, s16 _ _ hw, N.cl_Written, N.n_Written_row, _, rfl, q, rfl, _, Or.inl (SqL.of (s16 _ _ hq1)), by decide, fun tp htp => ⟨st, rfl, _, (upd_ne (ne_of_none hst6 htp)).trans hst6, by rw [List.length_map, sizeLine_eq]; omega, ?_⟩⟩
      obtain ⟨H7, e7⟩ : ∃ H7, H7 = upd H6 tp (HO.tup [V.int n, V.int (tl.map V.ref).length, V.int ks.sum, V.int (tq.map V.ref).length]) := ⟨_, rfl⟩
      rw [← e7]
      have s7 : Same H6 H7 := by rw [e7]; exact same_new htp
      have g7 : H7 tp = some (.tup ([(n : Int), ((tl.map V.ref).length : Int), (ks.sum : Int), ((tq.map V.ref).length : Int)].map V.int)) := by rw [e7]; exact upd_same
      clear e7
      have s07 := s06.trans s7
      have hst7 := s7 _ _ hst6
      have nxst : x ≠ st := ne_of hx hst1 (by intro z; cases z)
      have nlfst : lf ≠ st := fun z => by rw [z, hst1] at nlf; cases nlf
      have nrtst : rt ≠ st := fun z => by rw [z, hst1] at nrt; cases nrt
      obtain ⟨H8, e8⟩ : ∃ H8, H8 = upd H7 st (HO.lst (tst.map V.ref ++ [V.ref tp])) := ⟨_, rfl⟩
      rw [← e8]
      have kt : ∀ a xs, H7 a = some (.tup xs) → H8 a = some (.tup xs) := fun a xs e => by rw [e8, upd_ne (ne_of e hst7 (by intro z; cases z))]; exact e
      have h8x : H8 x = some (.ins c.Rewriting dx (tf cap l r st .non)) := by rw [e8, upd_ne nxst]; exact s07 _ _ hx
      have h8lf : H8 lf = some (.lst ((tl ++ tq.take fr.length).map V.ref)) := by rw [e8, upd_ne nlfst]; exact s7 _ _ g5
      have h8rt : H8 rt = some (.lst ((tq.drop fr.length ++ tr.drop ks.sum).map V.ref)) := by rw [e8, upd_ne nrtst]; exact s7 _ _ g6
      have h8st : H8 st = some (.lst ((tst ++ [tp]).map V.ref)) := by rw [e8, upd_same, List.map_append]; rfl
      have s8 : Same H0 H8 := by rw [e8]; exact same_own (s0.trans s07) ns0
      clear e8
      have m8 : ∀ {ts : List Addr} {row : List (List Int)}, Tups H7 ts row → Tups H8 ts row := fun h => Paired.mono (fun a b e => kt _ _ e) h
      have hl8 : LT H8 lf (tx (Rs.applied b ru ks ⟨left.reverse, right⟩).left.reverse) := by
        refine ⟨_, h8lf, ?_⟩
        rw [hap]
        show Tups H8 _ (tx ((wrT b ru ks left right fr).reverse ++ left.reverse).reverse)
        rw [List.reverse_append, List.reverse_reverse, List.reverse_reverse, tx_app]
        exact m8 (Tups.app (hl2.same s07) (hqA.same (s16.trans s7)))
      have hr8 : LT H8 rt (tx (Rs.applied b ru ks ⟨left.reverse, right⟩).right) := by
        refine ⟨_, h8rt, ?_⟩
        rw [hap]
        show Tups H8 _ (tx (wrT b ru ks left right bk ++ right.drop ks.sum))
        rw [tx_app]
        exact m8 (Tups.app (hqB.same (s16.trans s7)) (hrD.same s07))
      have hst8 : LT H8 st ((steps ++ [(⟨n, left.length, ks.sum, (Rs.applied b ru ks ⟨left.reverse, right⟩).size + ks.sum - (left.length + right.length)⟩ : Rs.Step)]).map srow) := by
        refine ⟨_, h8st, ?_⟩
        rw [List.map_append]
        refine Tups.app (m8 (hst2.same s07)) (.cons ?_ .nil)
        rw [kt _ _ g7, List.length_map, List.length_map, htl, hsz]
        have e : tq.length = fr.length + bk.length := by
          have := congrArg List.length (List.take_append_drop fr.length tq)
          rw [List.length_append, hlA, hlB] at this
          exact this.symm
        rw [e]
        have e9 : left.length + fr.length + (bk.length + (right.length - ks.sum)) + ks.sum - (left.length + right.length) = fr.length + bk.length := by omega
        rw [e9]
        rfl
      refine ⟨c.Rewriting, dx, _, h8x, N.cl_Rewriting, N.n_Rewriting_left, (by show (5 : Nat) < 1000; decide), c.Rewriting, dx, _, upd_same, N.cl_Rewriting, N.n_Rewriting_right, (by show (5 : Nat) < 1000; decide), ?_⟩
      rw [upd_upd]
      exact k2 _ ⟨⟨dx, lf, rt, st, upd_same, hl8.st h8x, hr8.st h8x, hst8.st h8x, nlr2, nlfst, nrtst, s0.free nlf, ns0⟩, nx, same_own s8 nx⟩
abbrev s_joined : Stmt := top 65
theorem sc_joined : FnScope ["rows", "numbers", "row"] ["rows"] (defScope s_joined) := ⟨rfl, rfl, rfl, by decide +kernel, rfl, by decide +kernel, by decide +kernel⟩
theorem ok_joined (F : Fun K "joined" "joined" s_joined f fd) (T : Txt K mg Sz) : FnOk P w K mg base CX0 1 f fd ["rows"] sp_joined := by
  refine F.ok sc_joined (fun vs H Q E h => ?_) (fun cdv A outer s H vs Q E hr h => ?_)
  · obtain ⟨a, rows, rfl, _⟩ := h
    rfl
  · obtain ⟨a, rows, rfl, hL, hlen, k⟩ := h
    obtain ⟨ts, hA, hT⟩ := hL
    have htl := hT.len
    refine ⟨_, (pss_cons (ps_set (i := 1) sc_joined.nd rfl (Or.inl rfl) (pe_lst pa_nil))
  (pss_cons (ps_for PassesOwn.never rfl (pi_listK (K := K) rfl (pv 0)) (pg_name (i := 2) sc_joined.nd rfl (Or.inl rfl)) (pss_one (ps_expr (pe_bmK (K := K) rfl PySem.F.plainAttrs_list PySem.F.slot_list_extend PySem.F.type_list_extend (r := rExtT K) mt_extendT (pv 1) (pa_cons (pv 2) pa_nil)))))
  (pss_one (ps_ret (pv 1))))), ?_⟩
    simp only [tSeq, tAsg, gName, tNil, L2.start, List.map_cons, List.map_nil, List.length_cons, List.length_nil, List.replicate, List.cons_append, List.nil_append, List.set_cons_zero, List.set_cons_succ, Nat.reduceSub, Nat.reduceAdd, tLst,  if_false]
    refine ⟨Nat.zero_le _, fun D hD => ?_⟩
    obtain ⟨Pv, ePv⟩ : ∃ Pv : Nat → L2.St → Hp → Prop, Pv = fun i σ H' => (∃ v2, σ = [some (V.ref a), some (V.ref D), v2]) ∧ H' = upd H D (.lst ((rows.take i).flatten.map V.int)) := ⟨_, rfl⟩
    refine ⟨_, rfl, a, rfl, ⟨_, (same_new hD).seq (SqL.of hA)⟩, for_list (xs := ts.map V.ref) Pv (by rw [ePv]; exact ⟨⟨none, rfl⟩, rfl⟩) (fun i σ H' _ z => by rw [ePv] at z; rw [z.2]; exact (same_new hD).seq (SqL.of hA)) ?_ ?_⟩
    · rintro i y σ H' hy z
      rw [ePv] at z
      obtain ⟨⟨v2, rfl⟩, rfl⟩ := z
      obtain ⟨t, ht, rfl⟩ := ref_at hy
      obtain ⟨it, hit, hH⟩ := hT.get ht
      simp only [tDrop, gName, tVar, tCons, tNil, List.getElem?_cons_zero, List.getElem?_cons_succ, List.set_cons_zero, List.set_cons_succ, Option.some.injEq, V.ref.injEq, List.cons.injEq, and_true, exists_eq_left', exists_and_left,  tBM, rExtT]
      refine ⟨.inl ⟨rfl, _, SqL.of upd_same⟩, _, upd_same, _, (upd_ne (ne_of_none hH hD)).trans hH, ?_, ?_⟩
      · have e : rows = rows.take (i + 1) ++ rows.drop (i + 1) := (List.take_append_drop (i + 1) rows).symm
        have h1 : (rows.take (i + 1)).flatten.length ≤ rows.flatten.length := by
          conv => rhs; rw [e, List.flatten_append, List.length_append]
          omega
        have e2 : ((some it).toList).flatten = it := by simp
        rw [List.take_add_one, hit, List.flatten_append, e2, List.length_append] at h1
        rw [List.length_map, List.length_map, sizeLine_eq]
        omega
      · rw [ePv]
        refine ⟨⟨_, rfl⟩, ?_⟩
        rw [upd_upd, List.take_add_one, hit, List.flatten_append, List.map_append]
        simp
    · rintro σ H' z
      rw [ePv] at z
      obtain ⟨⟨v2, rfl⟩, rfl⟩ := z
      rw [List.length_map, htl, List.take_length]
      exact ⟨_, rfl, k _ D (same_new hD) hD upd_same⟩
abbrev s_refusal_of_text : Stmt := top 64
theorem sc_refusal_of_text : FnScope ["cap", "points"] ["cap", "points"] (defScope s_refusal_of_text) := ⟨rfl, rfl, rfl, by decide +kernel, rfl, by decide +kernel, by decide +kernel⟩
theorem ok_refusal_of_text (F : Fun K "refusal_of_text" "refusal_of_text" s_refusal_of_text f fd) (T : Txt K mg Sz) (c_are_code_points : Cal P w K mg base 2 "are_code_points" ["numbers"] (sp_are_code_points K)) : FnOk P w K mg base CX0 3 f fd ["cap", "points"] (sp_refusal_of_text K) := by
  refine F.ok sc_refusal_of_text (fun vs H Q E h => ?_) (fun cdv A outer s H vs Q E hr h => ?_)
  · obtain ⟨a, p, l, rfl, _⟩ := h
    rfl
  · obtain ⟨a, p, l, rfl, hS, hlen, k⟩ := h
    refine ⟨_, (pss_cons (ps_if (PW.pt (pw_or (pt_cmpR op_lt (pv 0) pe_int (nomark _)) (pw_or1 (pt_cmpR op_gt (pv 0) (pe_gi T.c_MOST_CAP) (nomark _))))) (pss_one (ps_ret (pe_un un_neg pe_int))) pss_nil)
  (pss_cons (ps_if (pt_cmpR op_gt (pe_callB (r := rLenS K) call_len_seq (by rfl) T.b_len boot_len (pa_cons (pv 1) pa_nil)) (pv 0) (nomark _)) (pss_one (ps_ret (pe_un un_neg pe_int))) pss_nil)
  (pss_cons (ps_if (pt_not (pt_val (pe_fun (sp := (sp_are_code_points K)) c_are_code_points hr (pa_cons (pv 1) pa_nil)))) (pss_one (ps_ret (pe_un un_neg pe_int))) pss_nil)
  (pss_one (ps_ret pe_non))))), ?_⟩
    simp only [tSeq, tNext, tRet, tIfS, tOp, tUn, tC, tVar, rI0, rU, tTest, tB, tOr, tNot, tCons, tNil, tCall, L2.start, List.map_cons, List.map_nil, List.length_cons, List.length_nil, List.replicate, List.append_nil, List.getElem?_cons_zero, List.getElem?_cons_succ, Option.some.injEq, V.int.injEq, V.bl.injEq, V.ref.injEq, List.cons.injEq, and_true, exists_eq_left', exists_and_left, Nat.reduceSub, Nat.reduceAdd,  if_true, decide_eq_true_eq, rLenS, tCB, sp_are_code_points]
    refine ite2 (fun h1 => ?_) fun h1 => ite2 (fun h2 => ?_) fun h2 => ⟨_, Or.inl hS, ite2 (fun h3 => ?_) fun h3 => ⟨l, hS, hlen, fun H1 s1 => ?_⟩⟩
    · have k := k H (Same.refl H)
      rw [if_pos (Or.inl h1)] at k
      exact k
    · have k := k H (Same.refl H)
      rw [if_pos (Or.inr h2)] at k
      exact k
    all_goals
      rw [List.length_map] at h3
      rw [if_neg (by omega)] at k
    · have k := k H (Same.refl H)
      rw [if_pos h3] at k
      exact k
    · have k := k H1 s1
      rw [if_neg h3] at k
      cases e : l.all fun x => decide (x < 1114112) with
      | true =>
        rw [e, if_neg (by decide)] at k
        exact iteF k
      | false =>
        rw [e, if_pos rfl] at k
        exact iteT k
end
end Re
end
section
set_option maxHeartbeats 4000000
namespace Re
open PySem PySem.Spec PyProof.Rows L2
open Rm (ElOk WrOk bnds resI)
theorem flat_tx (u : Rs.Text) : (tx u).flatten = (Rs.pointsOf u).map fun (n : Nat) => (n : Int) := by
  unfold tx Rs.pointsOf
  induction u with
  | nil => rfl
  | cons p u ih =>
    rw [List.map_cons, List.flatten_cons, ih, List.flatMap_cons, List.map_append]
    rfl
theorem points_len (u : Rs.Text) : (Rs.pointsOf u).length = 3 * u.length := by
  unfold Rs.pointsOf
  induction u with
  | nil => rfl
  | cons p u ih =>
    rw [List.flatMap_cons, List.length_append, ih]
    show 3 + 3 * u.length = 3 * (u.length + 1)
    omega
theorem flat_steps (l : List Rs.Step) : (l.map srow).flatten = (Rs.stepNums l).map fun (n : Nat) => (n : Int) := by
  unfold Rs.stepNums
  induction l with
  | nil => rfl
  | cons p u ih =>
    rw [List.map_cons, List.flatten_cons, ih, List.flatMap_cons, List.map_append]
    rfl
theorem steps_len (u : List Rs.Step) : (Rs.stepNums u).length = 4 * u.length := by
  unfold Rs.stepNums
  induction u with
  | nil => rfl
  | cons p u ih =>
    rw [List.flatMap_cons, List.length_append, ih]
    show 4 + 4 * u.length = 4 * (u.length + 1)
    omega
section
variable {P : Program} {w : World} {K : PySem.W.Frag} {mg : Str → Option Value} {base : Heap} {Sz f : Addr} {fd : FuncData} {c : Cs}
abbrev s_go_over : Stmt := top 68
theorem sc_go_over : FnScope ["text", "book", "pass_number", "rules", "most_steps", "applied", "fit", "rule"] ["text", "book", "pass_number"] (defScope s_go_over) := ⟨rfl, rfl, rfl, by decide +kernel, rfl, by decide +kernel, by decide +kernel⟩
theorem ok_go_over (F : Fun K "go_over" "go_over" s_go_over f fd) (T : Txt K mg Sz) (N : Cn K c) (c_first_fit : Cal P w K mg base 6 "first_fit" ["rules", "left", "right", "sets"] (sp_first_fit c)) (c_move_on : Cal P w K mg base 1 "move_on" ["text"] (sp_move_on c))
    (c_apply_fit : Cal P w K mg base 4 "apply_fit" ["text", "fit", "maps"] (sp_apply_fit c)) : FnOk P w K mg base CX0 7 f fd ["text", "book", "pass_number"] (sp_go_over c) := by
  refine F.ok sc_go_over (fun vs H Q E h => ?_) (fun cdv A outer s H vs Q E hr h => ?_)
  · obtain ⟨H0, x, bk, s, m, r, rs, b, cap, pn, t, steps, rfl, _⟩ := h
    rfl
  · obtain ⟨H0, x, bk, s, m, r, rs, b, cap, pn, t, steps, rfl, B, TA, hlen, hcap, hst, k⟩ := h
    refine ⟨_, (pss_cons (ps_setLc (i := 3) rfl sc_go_over.nd rfl rfl (sw_true rfl rfl rfl (by decide +kernel)) (pi_listK (K := K) rfl (pe_fldK (K := K) rfl (pv 1) rfl)) (blkOk_by (N := ["text", "book", "pass_number", "rules", "most_steps", "applied", "fit", "rule"]) (sc := defScope s_go_over) (own := [("rule", 7)]) (by decide +kernel)) (fun _ _ _ _ _ => (pg_name (i := 7) sc_go_over.nd rfl (Or.inl rfl))) (fun _ _ _ _ _ => (pts_one (PW.pt (pw_and (pt_val (pe_fldK (K := K) rfl (pv 7) rfl)) (pw_and1 (pt_cmpR op_eq (pe_fldK (K := K) rfl (pv 7) rfl) (pv 2) (nomark _))))))) (fun _ _ _ _ _ => (pv 7)))
  (pss_cons (ps_set (i := 4) sc_go_over.nd rfl (Or.inl rfl) (pe_op op_mul (pe_gi T.c_STEPS_A_POINT) (pe_op op_add (pe_callB (r := rLenS K) call_len_seq (by rfl) T.b_len boot_len (pa_cons (pe_fldK (K := K) rfl (pv 0) rfl) pa_nil)) (pe_gi T.c_POINTS_ADDED))))
  (pss_cons (ps_set (i := 5) sc_go_over.nd rfl (Or.inl rfl) pe_int)
  (pss_one (ps_while PassesOwn.never (PW.pt (pw_and (pt_cmpR op_gt (pe_callB (r := rLenS K) call_len_seq (by rfl) T.b_len boot_len (pa_cons (pe_fldK (K := K) rfl (pv 0) rfl) pa_nil)) pe_int (nomark _)) (pw_and1 (pt_cmpR op_isN (pe_fldK (K := K) rfl (pv 0) rfl) pe_non (nomark _))))) (pss_cons (ps_set (i := 6) sc_go_over.nd rfl (Or.inl rfl) (pe_fun (sp := (sp_first_fit c)) c_first_fit hr (pa_cons (pv 3) (pa_cons (pe_fldK (K := K) rfl (pv 0) rfl) (pa_cons (pe_fldK (K := K) rfl (pv 0) rfl) (pa_cons (pe_fldK (K := K) rfl (pv 1) rfl) pa_nil))))))
  (pss_one (ps_if (pt_cmpR op_isN (pv 6) pe_non (nomark _)) (pss_one (ps_expr (pe_fun (sp := (sp_move_on c)) c_move_on hr (pa_cons (pv 0) pa_nil)))) (pss_one (ps_if (pt_cmpR op_eq (pv 5) (pv 4) (nomark _)) (pss_one (ps_fldK (K := K) rfl (pv 0) (pe_gi T.c_ENDLESS) rfl)) (pss_cons (ps_aug (i := 5) sc_go_over.nd rfl (Or.inl rfl) pe_int ip_add)
  (pss_one (ps_expr (pe_fun (sp := (sp_apply_fit c)) c_apply_fit hr (pa_cons (pv 0) (pa_cons (pv 6) (pa_cons (pe_fldK (K := K) rfl (pv 1) rfl) pa_nil))))))))))))))))), ?_⟩
    simp only [tSeq, tAsg, gName, tOp, tC, tVar, rI, rI0, tCons, tNil, L2.start, List.map_cons, List.map_nil, List.length_cons, List.length_nil, List.replicate, List.cons_append, List.nil_append, List.getElem?_cons_zero, List.set_cons_zero, List.set_cons_succ, Option.some.injEq, V.int.injEq, V.ref.injEq, List.cons.injEq, and_true, exists_eq_left', exists_and_left, Nat.reduceSub, Nat.reduceAdd,  rLenS, tCB, tFld]
    have s0 := TA.same
    obtain ⟨dxb, hbk⟩ := B.obj
    obtain ⟨d, hd⟩ : ∃ d : Rs.Rule, d = ⟨0, [], [], [], [], false⟩ := ⟨_, rfl⟩
    have rget : ∀ i, i < rs.length → ∃ x, rs[i]? = some x ∧ rs.getD i 0 = x ∧ RuleAt c H0 (fun a => a ∉ [s, m, r]) b.sets.length b.maps.length x i (b.rules.getD i d) := fun i hi => by
      obtain ⟨y, hy⟩ : ∃ y, rs[i]? = some y := ⟨_, List.getElem?_eq_getElem hi⟩
      obtain ⟨ru, e1, e2⟩ := B.each i y hy
      exact ⟨y, hy, getD_of hy, by rw [getD_of e1]; exact e2⟩
    obtain ⟨pp, epp⟩ : ∃ pp : Nat → Bool, pp = fun i => (b.rules.getD i d).on && (b.rules.getD i d).pass == pn := ⟨_, rfl⟩
    have erules := Rm.rulesOf_eq b pn d
    rw [← epp, ← B.len] at erules
    obtain ⟨ys, eys⟩ : ∃ ys, ys = ((List.range rs.length).filter pp).map fun i => rs.getD i 0 := ⟨_, rfl⟩
    have hfew := B.few.2.2
    rw [← B.len] at hfew
    refine ⟨_, rfl, bk, c.Book, dxb, _, _, rfl, s0 _ _ hbk, N.cl_Book, N.n_Book_rules, rfl, r, rfl, ⟨_, SqL.of (s0 _ _ B.rules)⟩, fun D hD => lc_ix (xs := rs.map V.ref) pp (fun i => V.ref (rs.getD i 0)) hD (SqL.of (s0 _ _ B.rules)) (by rw [List.length_map, sizeLine_eq]; omega) ?_ ?_⟩
    · intro i y acc Nx hy hacc h1 h2
      obtain ⟨xr, hxr, rfl⟩ := ref_at hy
      have hi : i < rs.length := (List.getElem?_eq_some_iff.mp hxr).1
      obtain ⟨xr', e1, e2, dxr, pb, pm, pa, pw, eb, em, ea, ew, g1, _⟩ := rget i hi
      have e3 : xr = xr' := Option.some.inj (hxr.symm.trans e1)
      subst e3
      rw [e2] at h1
      have g2 : (upd H D (.lst acc)) xr = _ := (upd_ne (ne_of_none (s0 _ _ g1) hD)).trans (s0 _ _ g1)
      simp only [gName, tOp, tVar, rEq, tTest, tB, tAnd, List.getElem?_cons_zero, List.getElem?_cons_succ, List.set_cons_zero, List.set_cons_succ, Option.some.injEq, V.bl.injEq, V.ref.injEq, true_and, exists_eq_left', exists_and_left,  if_false, Bool.false_eq_true, decide_eq_true_eq, tFld, wipe]
      refine ⟨c.Rule, dxr, _, g2, N.cl_Rule, N.n_Rule_in_effect, _, rfl, _, rfl, ?_⟩
      cases hon : (b.rules.getD i d).on with
      | false =>
        refine iteF (h2 ?_)
        rw [epp]
        simp only [hon, Bool.false_and]
      | true =>
        refine iteT ⟨c.Rule, dxr, _, g2, N.cl_Rule, N.n_Rule_pass_number, _, rfl, rfl, ite2 (fun hp => ⟨acc, upd_same, hacc, ?_⟩) fun hp => h2 ?_⟩
        · rw [upd_upd]
          refine h1 ?_
          rw [epp]
          have : (b.rules.getD i d).pass = pn := by have := V.int.inj hp; omega
          simp only [hon, this, beq_self_eq_true, Bool.and_self]
        · rw [epp]
          have : ((b.rules.getD i d).pass == pn) = false := beq_eq_false_iff_ne.mpr fun q => hp (by rw [q])
          simp only [hon, this, Bool.and_false]
    · rw [List.length_map]
      have el : ((List.range rs.length).filter pp).map (fun i => V.ref (rs.getD i 0)) = ys.map V.ref := by rw [eys, List.map_map]; rfl
      rw [el]
      obtain ⟨H00, e00⟩ : ∃ H00, H00 = upd H0 D (.lst (ys.map V.ref)) := ⟨_, rfl⟩
      obtain ⟨H1, e1⟩ : ∃ H1, H1 = upd H D (.lst (ys.map V.ref)) := ⟨_, rfl⟩
      have TA1 : TextAt c H00 H1 x cap [] t steps .non := by rw [e00, e1]; exact TA.more hD
      have s00 : Same H0 H00 := by rw [e00]; exact same_new (s0.free hD)
      have hD00 : H00 D = some (.lst (ys.map V.ref)) := by rw [e00]; exact upd_same
      rw [← e1]
      clear e00 e1
      have B1 := B.same s00
      have hRu : Paired (fun x q => RuleAt c H00 GT b.sets.length b.maps.length x q.1 q.2) ys (Rs.rulesOf b pn) := by
        rw [eys, erules]
        refine paired_map fun i hi => ?_
        have hi2 : i < rs.length := List.mem_range.mp (List.mem_filter.mp hi).1
        obtain ⟨y, _, e2, e3⟩ := rget i hi2
        rw [e2]
        exact (e3.any).same s00
      obtain ⟨rules, erl⟩ : ∃ rules, rules = Rs.rulesOf b pn := ⟨_, rfl⟩
      rw [← erl] at k hRu
      obtain ⟨dx, l, r1, st, hx, hl, hr1, hst1, _⟩ := TA1.ex
      obtain ⟨tr, hr2, hr3⟩ := hr1
      have htr : tr.length = t.length := by rw [hr3.len, tx_len]
      refine ⟨c.Rewriting, dx, _, hx, N.cl_Rewriting, N.n_Rewriting_right, _, rfl, r1, rfl, _, Or.inl (SqL.of hr2), Or.inl ⟨by decide, by decide⟩, ?_⟩
      rw [List.length_map, htr]
      have emost : (16 : Int) * ((t.length : Int) + 16) = ((Rs.most t.length : Nat) : Int) := by unfold Rs.most; omega
      rw [emost]
      obtain ⟨mst, emst⟩ : ∃ mst, mst = Rs.most t.length := ⟨_, rfl⟩
      have hmst : mst ≤ 1280 := by rw [emst]; unfold Rs.most; omega
      rw [← emst] at k ⊢
      obtain ⟨PL, ePL⟩ : ∃ PL : Nat → L2.St → Hp → Prop, PL = fun q σ H' => ∃ (v6 v7 : Option V) (left right : Rs.Text) (done : List Rs.Step) (j : Nat), σ = [some (V.ref x), some (V.ref bk), some (V.int pn), some (V.ref D), some (V.int mst), some (V.int j), v6, v7] ∧
        TextAt c H00 H' x cap left right (steps ++ done) .non ∧ left.length + right.length ≤ cap ∧ j ≤ mst ∧ done.length = j ∧
        Rp.passW b rules cap mst ⟨[], t⟩ = (done ++ (Rp.passW b rules cap (mst - j) ⟨left.reverse, right⟩).1, (Rp.passW b rules cap (mst - j) ⟨left.reverse, right⟩).2) ∧ q = 1 + (mst - j) * (cap + 1) + right.length := ⟨_, rfl⟩
      obtain ⟨PE, ePE⟩ : ∃ PE : L2.St → Hp → Prop, PE = fun σ H' => ∃ (v5 v6 v7 : Option V) (left right : Rs.Text) (z : Int), σ = [some (V.ref x), some (V.ref bk), some (V.int pn), some (V.ref D), some (V.int mst), v5, v6, v7] ∧
        TextAt c H00 H' x cap left right (steps ++ (Rp.passW b rules cap mst ⟨[], t⟩).1) (.int z) ∧ ((z = -5 ∧ (Rp.passW b rules cap mst ⟨[], t⟩).2 = .long) ∨ (z = -6 ∧ (Rp.passW b rules cap mst ⟨[], t⟩).2 = .endless)) := ⟨_, rfl⟩
      refine ⟨fun q σ H' => PL q σ H' ∨ (q = 0 ∧ PE σ H'), ⟨1 + mst * (cap + 1) + t.length, .inl ?_⟩, ?_⟩
      · rw [ePL]
        refine ⟨none, none, [], t, [], 0, rfl, ?_, by simpa using hlen, Nat.zero_le _, rfl, ?_, rfl⟩
        · rw [List.append_nil]; exact TA1
        · rw [List.nil_append, Nat.sub_zero]; rfl
      · rintro q σ H' (hP | ⟨rfl, hP⟩)
        · rw [ePL] at hP
          obtain ⟨v6, v7, left, right, done, j, rfl, TA2, hsz, hj, hdl, hpw, rfl⟩ := hP
          simp only [tSeq, tDrop, tIfS, tAsg, gName, tOp, tC, tVar, rI0, rEq, tTest, tAnd, tCons, tNil, tCall, List.append_nil, List.getElem?_cons_zero, List.getElem?_cons_succ, List.set_cons_zero, List.set_cons_succ, Option.some.injEq, V.int.injEq, V.bl.injEq, V.ref.injEq, List.cons.injEq, and_true, true_and, exists_eq_left', exists_and_left, scal_ii,  if_false, Bool.false_eq_true, decide_eq_true_eq, rLenS, tCB, tFld, sFld]
          obtain ⟨dx2, l2, r2, st2, hx2, hl2, hr2', hst2, _⟩ := TA2.ex
          obtain ⟨tr2, hr22, hr23⟩ := hr2'
          have htr2 : tr2.length = right.length := by rw [hr23.len, tx_len]
          have s02 := TA2.same
          refine ⟨c.Rewriting, dx2, _, hx2, N.cl_Rewriting, N.n_Rewriting_right, _, rfl, r2, rfl, _, Or.inl (SqL.of hr22), ite2 (fun hpos => ⟨c.Rewriting, dx2, _, hx2, N.cl_Rewriting, N.n_Rewriting_refusal, _, rfl, ite2 (fun _ => ⟨_, fun _ _ z => z, c.Rewriting, dx2, _, hx2, N.cl_Rewriting, N.n_Rewriting_left, _, rfl, c.Rewriting, dx2, _, hx2, N.cl_Rewriting, N.n_Rewriting_right, _, rfl, c.Book, dxb, _, s02 _ _ (s00 _ _ hbk), N.cl_Book, N.n_Book_sets, _, rfl, ?_⟩) fun q => absurd rfl q⟩) fun hpos => ?_⟩
          · rw [List.length_map] at hpos
            obtain ⟨p, right', rfl⟩ : ∃ p right', right = p :: right' := by
              cases right with
              | nil => rw [htr2] at hpos; exact absurd hpos (by decide)
              | cons p r' => exact ⟨p, r', rfl⟩
            rw [List.length_cons] at hsz
            refine ⟨D, l2, r2, s, ys, rules, left, p :: right', b, b.maps.length, rfl, s02 _ _ hD00, Paired.mono (fun _ _ q => q.same s02) hRu, hl2, ⟨tr2, hr22, hr23⟩, B1.setsAt.same s02, fun y H2 fa hy s2 hF => ?_, fun H2 hy s2 => ?_⟩
            · show if V.ref fa = V.non then _ else _
              rw [if_neg (fun z : V.ref fa = V.non => by cases z)]
              have TA3 := TA2.keep s2
              refine ite2 (fun hj2 => ?_) fun hj2 => ?_
              · have hj2 : j = mst := by omega
                have e0 : mst - j = 0 := by omega
                rw [e0, Rp.passW_endless hy, List.append_nil] at hpw
                obtain ⟨dx3, l3, r3, st3, hx3, TA4⟩ := TA3.refuse (V.int (-6))
                refine ⟨c.Rewriting, dx3, _, hx3, N.cl_Rewriting, N.n_Rewriting_refusal, (by show (5 : Nat) < 1000; decide), 0, by omega, .inr ⟨rfl, ?_⟩⟩
                rw [ePE]
                exact ⟨_, _, _, left, p :: right', -6, rfl, by rw [hpw]; exact TA4, .inr ⟨rfl, by rw [hpw]⟩⟩
              · have hj2 : j < mst := by omega
                obtain ⟨hle, hkl⟩ := Rm.fits_le (first_fits hy)
                obtain ⟨kk, ekk⟩ : ∃ kk, mst - j = kk + 1 := ⟨mst - j - 1, by omega⟩
                rw [ekk] at hpw ⊢
                simp only [tDrop, tC, tVar, tCons, tNil, tCall, List.length_cons, List.append_nil, List.getElem?_cons_zero, List.getElem?_cons_succ, List.set_cons_zero, List.set_cons_succ, Option.some.injEq, V.int.injEq, V.ref.injEq, exists_eq_left', exists_and_left,  tFld, tAug, ipI]
                refine ⟨c.Book, dxb, _, s2 _ _ (s02 _ _ (s00 _ _ hbk)), N.cl_Book, N.n_Book_maps, _, rfl, ?_⟩
                refine ⟨H00, x, fa, m, cap, y.1, left, p :: right', steps ++ done, b, y.2.1, y.2.2, rfl, TA3, hF, (B1.maps.same s02).same s2, hle, hkl, by rw [List.length_cons]; omega, by omega, by rw [List.length_append]; omega, fun hlong H3 TA4 => ?_, fun hok H3 TA4 => ?_⟩
                · rw [Rp.passW_long hy hlong, List.append_nil] at hpw
                  refine ⟨0, by omega, .inr ⟨rfl, ?_⟩⟩
                  rw [ePE]
                  exact ⟨_, _, _, left, p :: right', -5, rfl, by rw [hpw]; exact TA4, .inl ⟨rfl, by rw [hpw]⟩⟩
                · rw [Rp.passW_step hy hok] at hpw
                  have hz : (Rs.applied b y.2.1 y.2.2 ⟨left.reverse, p :: right'⟩).size = (Rs.applied b y.2.1 y.2.2 ⟨left.reverse, p :: right'⟩).left.length + (Rs.applied b y.2.1 y.2.2 ⟨left.reverse, p :: right'⟩).right.length := rfl
                  have hm : (kk + 1) * (cap + 1) = kk * (cap + 1) + (cap + 1) := Nat.succ_mul _ _
                  refine ⟨1 + kk * (cap + 1) + (Rs.applied b y.2.1 y.2.2 ⟨left.reverse, p :: right'⟩).right.length, by omega, .inl ?_⟩
                  rw [ePL]
                  have e9 : mst - (j + 1) = kk := by omega
                  refine ⟨some (V.ref fa), v7, (Rs.applied b y.2.1 y.2.2 ⟨left.reverse, p :: right'⟩).left.reverse, (Rs.applied b y.2.1 y.2.2 ⟨left.reverse, p :: right'⟩).right, done ++ [⟨y.1, left.length, y.2.2.sum, (Rs.applied b y.2.1 y.2.2 ⟨left.reverse, p :: right'⟩).size + y.2.2.sum - (left.length + (p :: right').length)⟩], j + 1, ?_, ?_, ?_, by omega, ?_, ?_, ?_⟩
                  · rfl
                  · rw [← List.append_assoc]; exact TA4
                  · rw [List.length_reverse]; omega
                  · rw [List.length_append, List.length_singleton, hdl]
                  · rw [e9, List.reverse_reverse, hpw, List.append_assoc]
                    have e8 : (⟨left.reverse, p :: right'⟩ : Rs.Cur).size = left.length + (p :: right').length := by
                      unfold Rs.Cur.size
                      rw [List.length_reverse]
                    rw [e8, List.length_reverse]
                    rfl
                  · rw [e9]
            · show if V.non = V.non then _ else _
              rw [if_pos rfl]
              have TA3 := TA2.keep s2
              rw [Rp.passW_none hy] at hpw
              refine ⟨H00, x, cap, left, right', p, steps ++ done, .non, rfl, TA3, by omega, fun H3 TA4 => ?_⟩
              refine ⟨1 + (mst - j) * (cap + 1) + right'.length, by rw [List.length_cons]; omega, .inl ?_⟩
              rw [ePL]
              refine ⟨_, _, left ++ [p], right', done, j, rfl, TA4, by rw [List.length_append, List.length_singleton]; omega, hj, hdl, ?_, rfl⟩
              rw [List.reverse_append]
              exact hpw
          · rw [List.length_map] at hpos
            have er : right = [] := List.length_eq_zero_iff.mp (by omega)
            subst er
            rw [Rp.passW_over, List.reverse_reverse, List.append_nil] at hpw
            refine k H' ?_
            rw [hpw]
            exact TA2.weak s00
        · rw [ePE] at hP
          obtain ⟨v5, v6, v7, left, right, z, rfl, TA2, hz⟩ := hP
          simp only [tSeq, tDrop, tIfS, tAsg, gName, tOp, tC, tVar, rI0, rEq, tTest, tAnd, tCons, tNil, tCall, List.append_nil, List.getElem?_cons_zero, List.getElem?_cons_succ, List.set_cons_zero, List.set_cons_succ, Option.some.injEq, V.int.injEq, V.bl.injEq, V.ref.injEq, List.cons.injEq, and_true, true_and, exists_eq_left', exists_and_left,  if_false, Bool.false_eq_true, decide_eq_true_eq, rLenS, tCB, tFld, sFld]
          obtain ⟨dx2, l2, r2, st2, hx2, hl2, hr2', hst2, _⟩ := TA2.ex
          obtain ⟨tr2, hr22, hr23⟩ := hr2'
          have fin : Q V.non H' := by
            refine k H' ?_
            rcases hz with ⟨rfl, e⟩ | ⟨rfl, e⟩
            · rw [e]; exact ⟨left, right, TA2.weak s00⟩
            · rw [e]; exact ⟨left, right, TA2.weak s00⟩
          refine ⟨c.Rewriting, dx2, _, hx2, N.cl_Rewriting, N.n_Rewriting_right, _, rfl, r2, rfl, _, Or.inl (SqL.of hr22), ite2 (fun _ => ⟨c.Rewriting, dx2, _, hx2, N.cl_Rewriting, N.n_Rewriting_refusal, _, rfl, ite2 (fun q => by cases q) fun _ => fin⟩) fun _ => fin⟩
abbrev s_rewrite : Stmt := top 66
theorem sc_rewrite : FnScope ["book", "cap", "points", "text", "pass_number"] ["book", "cap", "points"] (defScope s_rewrite) := ⟨rfl, rfl, rfl, by decide +kernel, rfl, by decide +kernel, by decide +kernel⟩
theorem ok_rewrite (F : Fun K "rewrite" "rewrite" s_rewrite f fd) (T : Txt K mg Sz) (N : Cn K c) (c_go_over : Cal P w K mg base 7 "go_over" ["text", "book", "pass_number"] (sp_go_over c)) (c_begin_again : Cal P w K mg base 1 "begin_again" ["text"] (sp_begin_again c))
    (c_Rewriting : Mkr P w K mg base 1 "Rewriting" c.Rewriting ["self", "cap", "points"] (sp_Rewriting K c)) : FnOk P w K mg base CX0 8 f fd ["book", "cap", "points"] (sp_rewrite K c) := by
  refine F.ok sc_rewrite (fun vs H Q E h => ?_) (fun cdv A outer s H vs Q E hr h => ?_)
  · obtain ⟨bk, s, m, r, a, rs, b, cap, ns, rfl, _⟩ := h
    rfl
  · obtain ⟨bk, s, m, r, a, rs, b, cap, ns, rfl, B, hS, hlen, hcap, hnn, k⟩ := h
    refine ⟨_, (pss_cons (ps_set (i := 3) sc_rewrite.nd rfl (Or.inl rfl) (pe_new c_Rewriting hr (pa_cons (pv 1) (pa_cons (pv 2) pa_nil))))
  (pss_cons (ps_for PassesOwn.never rfl (pi_range1 rfl T.b_range (pa_cons (pe_op op_add (pe_gi T.c_LAST_PASS) pe_int) pa_nil)) (pg_name (i := 4) sc_rewrite.nd rfl (Or.inl rfl)) (pss_cons (ps_expr (pe_fun (sp := (sp_go_over c)) c_go_over hr (pa_cons (pv 3) (pa_cons (pv 0) (pa_cons (pv 4) pa_nil)))))
  (pss_cons (ps_if (pt_cmpR op_notN (pe_fldK (K := K) rfl (pv 3) rfl) pe_non (nomark _)) (pss_one (ps_ret (pv 3))) pss_nil)
  (pss_one (ps_expr (pe_fun (sp := (sp_begin_again c)) c_begin_again hr (pa_cons (pv 3) pa_nil)))))))
  (pss_one (ps_ret (pv 3))))), ?_⟩
    simp only [tSeq, tAsg, gName, tVar, tCons, tNil, L2.start, List.map_cons, List.map_nil, List.length_cons, List.length_nil, List.replicate, List.cons_append, List.nil_append, List.append_nil, List.getElem?_cons_zero, List.getElem?_cons_succ, List.set_cons_zero, List.set_cons_succ, Option.some.injEq, V.int.injEq, V.ref.injEq, List.cons.injEq, and_true, true_and, exists_eq_left', exists_and_left, Nat.reduceSub, Nat.reduceAdd,  tMake, sp_Rewriting]
    intro x dx nx ndx hne
    refine ⟨x, dx, a, cap, ⟨rfl, rfl, rfl⟩, upd_same, ns, sqL_of hS (fun o e => by rw [upd_ne (ne_of_none e nx), upd_ne (ne_of_none e ndx)]; exact e), by omega, hnn, fun H1 l r1 st k1 hx nl nst nlr nls nrs hl hr1 hst => ?_⟩
    have s1 : Same H H1 := Same.made nx ndx fun b o e hb => k1 b o e (by simpa using hb)
    have fr : ∀ q, upd (upd H dx (HO.own x)) x (HO.ins c.Rewriting dx []) q = none → H q = none := fun q hq => by
      by_cases e1 : q = x
      · rw [e1]; exact nx
      · rw [upd_ne e1] at hq
        by_cases e2 : q = dx
        · rw [e2]; exact ndx
        · rw [upd_ne e2] at hq; exact hq
    obtain ⟨t0, et0⟩ : ∃ t0, t0 = Rs.fresh (ns.map Int.toNat) := ⟨_, rfl⟩
    rw [← et0] at hr1 k
    have ht0 : t0.length ≤ cap := by rw [et0]; unfold Rs.fresh; simp; omega
    have TA1 : TextAt c H H1 x cap [] t0 [] .non := ⟨⟨dx, l, r1, st, hx, hl, hr1, hst, nlr, nls, nrs, fr l nl, fr st nst⟩, nx, s1⟩
    obtain ⟨Pv, ePv⟩ : ∃ Pv : Nat → L2.St → Hp → Prop, Pv = fun i σ H' => (∃ v4, σ = [some (V.ref bk), some (V.int cap), some (V.ref a), some (V.ref x), v4]) ∧ ∃ u done, TextAt c H H' x cap [] u done .non ∧ u.length ≤ cap ∧ done.length ≤ i * 1280 ∧
      Rp.passesW b cap (List.range 8) t0 = (done ++ (Rp.passesW b cap ((List.range 8).drop i) u).1, (Rp.passesW b cap ((List.range 8).drop i) u).2) := ⟨_, rfl⟩
    refine ⟨7, 1, rfl, rfl, 8, rfl, by decide, by decide, for_range (n := 8) Pv (by rw [ePv]; exact ⟨⟨none, rfl⟩, t0, [], TA1, ht0, Nat.le_refl _, rfl⟩) ?_ ?_⟩
    · rintro i σ H2 hi hP
      rw [ePv] at hP
      obtain ⟨⟨v4, rfl⟩, u, done, TA2, hu, hdl, hpw⟩ := hP
      have ei : (0 : Int) + (i : Int) = (i : Int) := Int.zero_add _
      rw [ei]
      simp only [tSeq, tNext, tDrop, tRet, tIfS, gName, tOp, tC, tVar, tTest, tCons, tNil, tCall, List.append_nil, List.getElem?_cons_zero, List.getElem?_cons_succ, List.set_cons_zero, List.set_cons_succ, Option.some.injEq, V.int.injEq, V.bl.injEq, V.ref.injEq, List.cons.injEq, and_true, true_and, exists_eq_left', exists_and_left,  tFld, sp_go_over, sp_begin_again]
      have edr : (List.range 8).drop i = i :: (List.range 8).drop (i + 1) := by
        rw [List.drop_eq_getElem_cons (by simpa using hi)]
        congr 1
        simp
      have epw : Rp.passesW b cap ((List.range 8).drop i) u = match (Rp.passW b (Rs.rulesOf b i) cap (Rs.most u.length) ⟨[], u⟩).2 with
          | .over u' => ((Rp.passW b (Rs.rulesOf b i) cap (Rs.most u.length) ⟨[], u⟩).1 ++ (Rp.passesW b cap ((List.range 8).drop (i + 1)) u').1, (Rp.passesW b cap ((List.range 8).drop (i + 1)) u').2)
          | _ => Rp.passW b (Rs.rulesOf b i) cap (Rs.most u.length) ⟨[], u⟩ := by
        rw [edr]
        rfl
      have hmost : Rs.most u.length ≤ 1280 := by unfold Rs.most; omega
      have hss := Rp.passW_steps (b := b) (rs := Rs.rulesOf b i) (cap := cap) _ (Rs.most u.length) ⟨[], u⟩ (Nat.lt_succ_self _)
      have hul := Rp.passW_len (b := b) (rs := Rs.rulesOf b i) (cap := cap) _ (Rs.most u.length) ⟨[], u⟩ (Nat.lt_succ_self _) (by simpa [Rs.Cur.size] using hu)
      refine ⟨H, x, bk, s, m, r, rs, b, cap, i, ⟨rfl, rfl, rfl⟩, B, u, done, TA2, hu, hcap, by omega, fun H3 hE => ?_⟩
      obtain ⟨pw, epw2⟩ : ∃ pw, pw = Rp.passW b (Rs.rulesOf b i) cap (Rs.most u.length) ⟨[], u⟩ := ⟨_, rfl⟩
      rw [← epw2] at hE epw hss hul
      cases hp2 : pw.2 with
      | over u' =>
        rw [hp2] at hE epw
        have TA3 : TextAt c H H3 x cap u' [] (done ++ pw.1) .non := hE
        have epw : Rp.passesW b cap ((List.range 8).drop i) u = (pw.1 ++ (Rp.passesW b cap ((List.range 8).drop (i + 1)) u').1, (Rp.passesW b cap ((List.range 8).drop (i + 1)) u').2) := epw
        rw [epw] at hpw
        obtain ⟨dx3, l3, r3, st3, hx3, _⟩ := TA3.ex
        refine ⟨c.Rewriting, dx3, _, hx3, N.cl_Rewriting, N.n_Rewriting_refusal, _, rfl, ?_⟩
        rw [if_neg (by simp)]
        refine ⟨H, cap, u', [], done ++ pw.1, .non, TA3, fun H4 TA4 => ?_⟩
        rw [ePv]
        exact ⟨⟨_, rfl⟩, u', done ++ pw.1, TA4, hul u' hp2, by rw [List.length_append]; omega, by rw [hpw, List.append_assoc]⟩
      | long =>
        rw [hp2] at hE epw
        obtain ⟨lf, rt, TA3⟩ := hE
        have epw : Rp.passesW b cap ((List.range 8).drop i) u = pw := epw
        rw [epw] at hpw
        obtain ⟨dx3, l3, r3, st3, hx3, _⟩ := TA3.ex
        refine ⟨c.Rewriting, dx3, _, hx3, N.cl_Rewriting, N.n_Rewriting_refusal, _, rfl, ?_⟩
        rw [if_pos (by simp)]
        refine k H3 x ?_
        rw [hpw, hp2]
        exact ⟨lf, rt, TA3⟩
      | endless =>
        rw [hp2] at hE epw
        obtain ⟨lf, rt, TA3⟩ := hE
        have epw : Rp.passesW b cap ((List.range 8).drop i) u = pw := epw
        rw [epw] at hpw
        obtain ⟨dx3, l3, r3, st3, hx3, _⟩ := TA3.ex
        refine ⟨c.Rewriting, dx3, _, hx3, N.cl_Rewriting, N.n_Rewriting_refusal, _, rfl, ?_⟩
        rw [if_pos (by simp)]
        refine k H3 x ?_
        rw [hpw, hp2]
        exact ⟨lf, rt, TA3⟩
    · rintro σ H2 hP
      rw [ePv] at hP
      obtain ⟨⟨v4, rfl⟩, u, done, TA2, hu, hdl, hpw⟩ := hP
      have e8 : (List.range 8).drop 8 = [] := rfl
      rw [e8] at hpw
      have hpw : Rp.passesW b cap (List.range 8) t0 = (done, .over u) := by
        rw [hpw]
        show (done ++ [], Rs.End.over u) = _
        rw [List.append_nil]
      refine ⟨_, rfl, k H2 x ?_⟩
      rw [hpw]
      exact TA2
abbrev s_apply_rules : Stmt := top 62
theorem sc_apply_rules : FnScope ["book", "cap", "points", "refusal", "text"] ["book", "cap", "points"] (defScope s_apply_rules) := ⟨rfl, rfl, rfl, by decide +kernel, rfl, by decide +kernel, by decide +kernel⟩
theorem ok_apply_rules (F : Fun K "apply_rules" "apply_rules" s_apply_rules f fd) (T : Txt K mg Sz) (N : Cn K c) (c_refusal_of_text : Cal P w K mg base 3 "refusal_of_text" ["cap", "points"] (sp_refusal_of_text K)) (c_rewrite : Cal P w K mg base 8 "rewrite" ["book", "cap", "points"] (sp_rewrite K c))
    (c_joined : Cal P w K mg base 1 "joined" ["rows"] sp_joined) : FnOk P w K mg base CX0 9 f fd ["book", "cap", "points"] (sp_apply_rules K c) := by
  refine F.ok sc_apply_rules (fun vs H Q E h => ?_) (fun cdv A outer s H vs Q E hr h => ?_)
  · obtain ⟨bk, s, m, r, a, rs, b, p, l, rfl, _⟩ := h
    rfl
  · obtain ⟨bk, s, m, r, a, rs, b, p, l, rfl, B, hS, hlen, hnn, hp0, k⟩ := h
    refine ⟨_, (pss_cons (ps_set (i := 3) sc_apply_rules.nd rfl (Or.inl rfl) (pe_fun (sp := (sp_refusal_of_text K)) c_refusal_of_text hr (pa_cons (pv 1) (pa_cons (pv 2) pa_nil))))
  (pss_cons (ps_if (pt_cmpR op_notN (pv 3) pe_non (nomark _)) (pss_one (ps_ret (pe_lst (pa_cons (pv 3) pa_nil)))) pss_nil)
  (pss_cons (ps_set (i := 4) sc_apply_rules.nd rfl (Or.inl rfl) (pe_fun (sp := (sp_rewrite K c)) c_rewrite hr (pa_cons (pv 0) (pa_cons (pv 1) (pa_cons (pv 2) pa_nil)))))
  (pss_cons (ps_if (pt_cmpR op_notN (pe_fldK (K := K) rfl (pv 4) rfl) pe_non (nomark _)) (pss_one (ps_ret (pe_lst (pa_cons (pe_fldK (K := K) rfl (pv 4) rfl) pa_nil)))) pss_nil)
  (pss_one (ps_ret (pe_fun (sp := sp_joined) c_joined hr (pa_cons (pe_fldK (K := K) rfl (pv 4) rfl) pa_nil)))))))), ?_⟩
    simp only [tSeq, tNext, tRet, tIfS, tAsg, gName, tOp, tC, tVar, tTest, tCons, tNil, tCall, L2.start, List.map_cons, List.map_nil, List.length_cons, List.length_nil, List.replicate, List.cons_append, List.nil_append, List.append_nil, List.getElem?_cons_zero, List.getElem?_cons_succ, List.set_cons_zero, List.set_cons_succ, Option.some.injEq, V.int.injEq, V.bl.injEq, V.ref.injEq, List.cons.injEq, and_true, true_and, exists_eq_left', exists_and_left, Nat.reduceSub, Nat.reduceAdd, tLst,  tFld, sp_refusal_of_text, sp_rewrite, sp_joined]
    have kk : ∀ (H' : Hp) (q : Addr) (ans : List Int), RsNeutral.step b [[7, p], l] = (b, ans) → Same H H' → H q = none → LI H' q ans → Q (.ref q) H' := fun H' q ans e sm nq hq => by
      refine k H' q rs ?_ ?_ nq (Kp.of_same sm) (fun x hx => .inl hx)
      · rw [e]; exact B.same sm
      · rw [e]; exact hq
    have hst := Rb.step_apply b p l hp0 hnn
    refine ⟨a, p, ⟨rfl, rfl⟩, l, hS, hlen, fun H1 s1 => ?_⟩
    by_cases h1 : p < 1 ∨ 64 < p
    · rw [if_pos h1] at hst ⊢
      exact iteT ⟨by decide, fun q hq => kk _ q _ hst (s1.trans (same_new hq)) (s1.free hq) upd_same⟩
    rw [if_neg h1] at hst ⊢
    by_cases h2 : p < (l.length : Int)
    · rw [if_pos h2] at hst ⊢
      exact iteT ⟨by decide, fun q hq => kk _ q _ hst (s1.trans (same_new hq)) (s1.free hq) upd_same⟩
    rw [if_neg h2] at hst ⊢
    by_cases h3 : (l.all fun x => decide (x < 1114112)) = false
    · rw [if_pos h3] at hst ⊢
      exact iteT ⟨by decide, fun q hq => kk _ q _ hst (s1.trans (same_new hq)) (s1.free hq) upd_same⟩
    rw [if_neg h3] at hst ⊢
    refine iteF ⟨bk, s, m, r, a, rs, b, p.toNat, ⟨rfl, by omega, rfl⟩, B.same s1, l, s1.seq hS, by omega, by omega, hnn, fun H2 x hE => ?_⟩
    obtain ⟨pw, epw⟩ : ∃ pw, pw = Rp.passesW b p.toNat (List.range 8) (Rs.fresh (l.map Int.toNat)) := ⟨_, rfl⟩
    have hfl : (Rs.fresh (l.map Int.toNat)).length ≤ p.toNat := by unfold Rs.fresh; simp; omega
    have hul := Rp.passesW_len (b := b) (cap := p.toNat) (List.range 8) _ hfl
    have hsl := Rp.passesW_steps (b := b) (cap := p.toNat) (List.range 8) _ hfl
    rw [← epw] at hst hE hul hsl
    have refused : ∀ z : Int, (∃ lf rt, TextAt c H1 H2 x p.toNat lf rt pw.1 (.int z)) → RsNeutral.step b [[7, p], l] = (b, [z]) → (∃ x_1 x_2 x_3, H2 x = some (HO.ins x_1 x_2 x_3) ∧ Cls K x_1 ∧ NoAttr K x_1 (Str.ofString "refusal") ∧ ∃ x_4, List.lookup (Str.ofString "refusal") x_3 = some x_4 ∧
        (x_4 ≠ V.non ∧ ∃ x_1 x_2 x_3, H2 x = some (HO.ins x_1 x_2 x_3) ∧ Cls K x_1 ∧ NoAttr K x_1 (Str.ofString "refusal") ∧ ∃ x_4, List.lookup (Str.ofString "refusal") x_3 = some x_4 ∧ 1 ≤ sizeLine ∧ ∀ (q : Addr), H2 q = none → Q (V.ref q) (upd H2 q (HO.lst [x_4])))) := by
      rintro z ⟨lf, rt, TA⟩ e
      obtain ⟨dx, l2, r2, st2, hx, _⟩ := TA.ex
      refine ⟨c.Rewriting, dx, _, hx, N.cl_Rewriting, N.n_Rewriting_refusal, _, rfl, (fun q => by cases q), c.Rewriting, dx, _, hx, N.cl_Rewriting, N.n_Rewriting_refusal, _, rfl, by decide, fun q hq => ?_⟩
      exact kk _ q [z] e ((s1.trans TA.same).trans (same_new hq)) ((s1.trans TA.same).free hq) upd_same
    cases hp2 : pw.2 with
    | over u =>
      rw [hp2] at hE hst
      have TA : TextAt c H1 H2 x p.toNat [] u pw.1 .non := hE
      obtain ⟨dx, l2, r2, st2, hx, _, hr2, _⟩ := TA.ex
      refine ⟨c.Rewriting, dx, _, hx, N.cl_Rewriting, N.n_Rewriting_refusal, _, rfl, ?_⟩
      rw [if_neg (by simp)]
      refine ⟨c.Rewriting, dx, _, hx, N.cl_Rewriting, N.n_Rewriting_right, _, rfl, r2, rfl, tx u, hr2, ?_, fun H3 q s3 nq hq => ?_⟩
      · rw [flat_tx, List.length_map]
        have := hul u hp2
        have e : (Rs.pointsOf u).length = 3 * u.length := points_len u
        omega
      · rw [flat_tx] at hq
        exact kk H3 q _ hst ((s1.trans TA.same).trans s3) ((s1.trans TA.same).free nq) hq
    | long =>
      rw [hp2] at hE hst
      obtain ⟨x1, x2, x3, g1, g2, g3, x4, g4, g5, g6⟩ := refused (-5) hE hst
      refine ⟨x1, x2, x3, g1, g2, g3, x4, g4, ?_⟩
      rw [if_pos (by simp [g5])]
      exact g6
    | endless =>
      rw [hp2] at hE hst
      obtain ⟨x1, x2, x3, g1, g2, g3, x4, g4, g5, g6⟩ := refused (-6) hE hst
      refine ⟨x1, x2, x3, g1, g2, g3, x4, g4, ?_⟩
      rw [if_pos (by simp [g5])]
      exact g6
abbrev s_list_steps : Stmt := top 63
theorem sc_list_steps : FnScope ["book", "cap", "points", "refusal"] ["book", "cap", "points"] (defScope s_list_steps) := ⟨rfl, rfl, rfl, by decide +kernel, rfl, by decide +kernel, by decide +kernel⟩
theorem ok_list_steps (F : Fun K "list_steps" "list_steps" s_list_steps f fd) (T : Txt K mg Sz) (N : Cn K c) (c_refusal_of_text : Cal P w K mg base 3 "refusal_of_text" ["cap", "points"] (sp_refusal_of_text K)) (c_rewrite : Cal P w K mg base 8 "rewrite" ["book", "cap", "points"] (sp_rewrite K c))
    (c_joined : Cal P w K mg base 1 "joined" ["rows"] sp_joined) : FnOk P w K mg base CX0 9 f fd ["book", "cap", "points"] (sp_list_steps K c) := by
  refine F.ok sc_list_steps (fun vs H Q E h => ?_) (fun cdv A outer s H vs Q E hr h => ?_)
  · obtain ⟨bk, s, m, r, a, rs, b, p, l, rfl, _⟩ := h
    rfl
  · obtain ⟨bk, s, m, r, a, rs, b, p, l, rfl, B, hS, hlen, hnn, hp0, k⟩ := h
    refine ⟨_, (pss_cons (ps_set (i := 3) sc_list_steps.nd rfl (Or.inl rfl) (pe_fun (sp := (sp_refusal_of_text K)) c_refusal_of_text hr (pa_cons (pv 1) (pa_cons (pv 2) pa_nil))))
  (pss_cons (ps_if (pt_cmpR op_notN (pv 3) pe_non (nomark _)) (pss_one (ps_ret (pe_lst (pa_cons (pv 3) pa_nil)))) pss_nil)
  (pss_one (ps_ret (pe_fun (sp := sp_joined) c_joined hr (pa_cons (pe_fldK (K := K) rfl (pe_fun (sp := (sp_rewrite K c)) c_rewrite hr (pa_cons (pv 0) (pa_cons (pv 1) (pa_cons (pv 2) pa_nil)))) rfl) pa_nil)))))), ?_⟩
    simp only [tSeq, tNext, tRet, tIfS, tAsg, gName, tOp, tC, tVar, tTest, tCons, tNil, tCall, L2.start, List.map_cons, List.map_nil, List.length_cons, List.length_nil, List.replicate, List.cons_append, List.nil_append, List.append_nil, List.getElem?_cons_zero, List.getElem?_cons_succ, List.set_cons_zero, List.set_cons_succ, Option.some.injEq, V.int.injEq, V.bl.injEq, V.ref.injEq, List.cons.injEq, and_true, true_and, exists_eq_left', exists_and_left, Nat.reduceSub, Nat.reduceAdd, tLst,  tFld, sp_refusal_of_text, sp_rewrite, sp_joined]
    have kk : ∀ (H' : Hp) (q : Addr) (ans : List Int), RsNeutral.step b [[8, p], l] = (b, ans) → Same H H' → H q = none → LI H' q ans → Q (.ref q) H' := fun H' q ans e sm nq hq => by
      refine k H' q rs ?_ ?_ nq (Kp.of_same sm) (fun x hx => .inl hx)
      · rw [e]; exact B.same sm
      · rw [e]; exact hq
    have hst := Rb.step_steps b p l hp0 hnn
    refine ⟨a, p, ⟨rfl, rfl⟩, l, hS, hlen, fun H1 s1 => ?_⟩
    by_cases h1 : p < 1 ∨ 64 < p
    · rw [if_pos h1] at hst ⊢
      exact iteT ⟨by decide, fun q hq => kk _ q _ hst (s1.trans (same_new hq)) (s1.free hq) upd_same⟩
    rw [if_neg h1] at hst ⊢
    by_cases h2 : p < (l.length : Int)
    · rw [if_pos h2] at hst ⊢
      exact iteT ⟨by decide, fun q hq => kk _ q _ hst (s1.trans (same_new hq)) (s1.free hq) upd_same⟩
    rw [if_neg h2] at hst ⊢
    by_cases h3 : (l.all fun x => decide (x < 1114112)) = false
    · rw [if_pos h3] at hst ⊢
      exact iteT ⟨by decide, fun q hq => kk _ q _ hst (s1.trans (same_new hq)) (s1.free hq) upd_same⟩
    rw [if_neg h3] at hst ⊢
    refine iteF ⟨bk, s, m, r, a, rs, b, p.toNat, ⟨rfl, by omega, rfl⟩, B.same s1, l, s1.seq hS, by omega, by omega, hnn, fun H2 x hE => ?_⟩
    obtain ⟨pw, epw⟩ : ∃ pw, pw = Rp.passesW b p.toNat (List.range 8) (Rs.fresh (l.map Int.toNat)) := ⟨_, rfl⟩
    have hfl : (Rs.fresh (l.map Int.toNat)).length ≤ p.toNat := by unfold Rs.fresh; simp; omega
    have hul := Rp.passesW_len (b := b) (cap := p.toNat) (List.range 8) _ hfl
    have hsl := Rp.passesW_steps (b := b) (cap := p.toNat) (List.range 8) _ hfl
    rw [← epw] at hst hE hul hsl
    have fin : ∀ lf rt v, TextAt c H1 H2 x p.toNat lf rt pw.1 v → ∃ x_1 x_2 x_3, H2 x = some (HO.ins x_1 x_2 x_3) ∧ Cls K x_1 ∧ NoAttr K x_1 (Str.ofString "steps") ∧ ∃ x_4, List.lookup (Str.ofString "steps") x_3 = some x_4 ∧ ∃ a, x_4 = V.ref a ∧ ∃ rows, LT H2 a rows ∧ rows.flatten.length ≤ 100000 ∧
        ∀ (H' : Hp) (q : Addr), Same H2 H' → H2 q = none → LI H' q rows.flatten → Q (V.ref q) H' := by
      intro lf rt v TA
      obtain ⟨dx, l2, r2, st2, hx, _, _, hst2, _⟩ := TA.ex
      refine ⟨c.Rewriting, dx, _, hx, N.cl_Rewriting, N.n_Rewriting_steps, _, rfl, st2, rfl, pw.1.map srow, hst2, ?_, fun H3 q s3 nq hq => ?_⟩
      · rw [flat_steps, List.length_map]
        have e : (Rs.stepNums pw.1).length = 4 * pw.1.length := steps_len pw.1
        have hm : Rs.most p.toNat ≤ 1280 := by unfold Rs.most; omega
        have : (List.range 8).length * Rs.most p.toNat ≤ 8 * 1280 := by
          rw [List.length_range]
          omega
        omega
      · rw [flat_steps] at hq
        exact kk H3 q _ hst ((s1.trans TA.same).trans s3) ((s1.trans TA.same).free nq) hq
    cases hp2 : pw.2 with
    | over u =>
      rw [hp2] at hE
      exact fin _ _ _ hE
    | long =>
      rw [hp2] at hE
      obtain ⟨lf, rt, TA⟩ := hE
      exact fin _ _ _ TA
    | endless =>
      rw [hp2] at hE
      obtain ⟨lf, rt, TA⟩ := hE
      exact fin _ _ _ TA
end
end Re
end
section
set_option maxHeartbeats 4000000
namespace Re
open PySem PySem.Spec PyProof.Rows L2
open Rm (ElOk WrOk bnds resI)
theorem BookAt.rd {c : Cs} {H H' : Hp} {bk s m r rd a : Addr} {pl : Nat} {rs : List Addr} {b : Rs.State} (B : BookAt c H bk s m r rs b) (hR : ReaderAt c H rd a pl) (k : Kp [rd] H H') : BookAt c H' bk s m r rs b := by
  obtain ⟨dr, hr⟩ := hR
  obtain ⟨⟨dxb, h1⟩, h2, h3, h4, ⟨as', h5, h5'⟩, ⟨am, h6, h6'⟩, h7, h8, h9, h10, h11⟩ := B
  have nt : ∀ f ∈ [rd], ∀ ys, H f ≠ some (.tup ys) := fun f hf ys e => by
    rw [List.mem_singleton.mp hf, hr] at e
    cases e
  have nl : ∀ {x : Addr} {row : List (List Int)}, LT H x row → LT H' x row := fun {x row} h => by
    refine h.kp ?_ nt k
    obtain ⟨ts, e, _⟩ := h
    simpa using ne_of e hr (by intro z; cases z)
  have q5 : Paired (fun x l => SetAt H' x l ∧ x ∉ [s, m, r]) as' b.sets := Paired.mono (fun x l q => by
    obtain ⟨⟨ps, g1, g2, g3⟩, g4⟩ := q
    exact ⟨⟨ps, g1, g2, nl g3⟩, g4⟩) h5'
  have q6 : Paired (MapAt H') am b.maps := Paired.mono (fun x l q => by
    obtain ⟨ps, g1, g2, g3⟩ := q
    exact ⟨ps, g1, g2, k.one g3 (ne_of g3 hr (by intro z; cases z))⟩) h6'
  refine ⟨⟨dxb, k.one h1 (ne_of h1 hr ?_)⟩, h2, h3, h4, ⟨as', k.one h5 (ne_of h5 hr (by intro z; cases z)), q5⟩, ⟨am, k.one h6 (ne_of h6 hr (by intro z; cases z)), q6⟩, k.one h7 (ne_of h7 hr (by intro z; cases z)), fun i y e => ?_, h9, h10, h11⟩
  · intro z
    have := congrArg (fun o => match o with | HO.ins _ _ fs => fs.length | _ => 0) z
    simp at this
  · obtain ⟨ru', e1, dx', pb', pm', pa', pw', eb, em, ea, ew, g1, g2, g3, g4, g5, g6, R⟩ := h8 i y e
    refine ⟨ru', e1, dx', pb', pm', pa', pw', eb, em, ea, ew, k.one g1 (ne_of g1 hr ?_), nl g2, nl g3, nl g4, nl g5, g6, R⟩
    intro z
    have := congrArg (fun o => match o with | HO.ins _ _ fs => fs.length | _ => 0) z
    simp [rf] at this
theorem ReaderAt.bk {c : Cs} {H H' : Hp} {bk s m r rd a : Addr} {pl : Nat} {rs : List Addr} {b : Rs.State} (hR : ReaderAt c H rd a pl) (B : BookAt c H bk s m r rs b) (k : Kp (s :: m :: r :: rs) H H') : ReaderAt c H' rd a pl := by
  obtain ⟨dr, hr⟩ := hR
  refine ⟨dr, k _ _ hr ?_⟩
  obtain ⟨as, hs, _⟩ := B.sets
  obtain ⟨am, hm, _⟩ := B.maps
  simp only [List.mem_cons]
  rintro (z | z | z | z)
  · rw [z, hs] at hr; cases hr
  · rw [z, hm] at hr; cases hr
  · rw [z, B.rules] at hr; cases hr
  · obtain ⟨i, hi⟩ := List.getElem?_of_mem z
    obtain ⟨ru, _, _, _, _, _, _, _, _, _, _, g1, _⟩ := B.each i rd hi
    rw [hr] at g1
    have := congrArg (fun o => match o with | some (HO.ins _ _ fs) => fs.length | _ => 0) g1
    simp [rf] at this
theorem kp_free {H H2 : Hp} {rd p : Addr} {o : HO} (k : Kp [rd] H H2) (hr : H2 rd = some o) (hp : H2 p = none) : H p = none := by
  cases e : H p with
  | none => rfl
  | some u =>
    by_cases q : p = rd
    · rw [q, hr] at hp; cases hp
    · rw [k.one e q] at hp; cases hp
theorem put_app : ∀ a b : List (List (List Int)), PyFlat.put (a ++ b) = PyFlat.put a ++ PyFlat.put b
  | [], _ => rfl
  | c :: a, b => by
    show PyFlat.put1 c ++ PyFlat.put (a ++ b) = (PyFlat.put1 c ++ PyFlat.put a) ++ PyFlat.put b
    rw [put_app a b, List.append_assoc]
theorem ans_len (b : Rs.State) {cl : List (List Int)} (h : Rb.Ok cl) : (RsNeutral.step b cl).2.length ≤ 50000 := by
  cases h with
  | set l hl =>
    rw [Rb.step_set b l hl]
    repeat' split
    all_goals (simp)
  | map l hl =>
    rw [Rb.step_map b l hl]
    repeat' split
    all_goals (simp)
  | rule p l hp hl =>
    rw [Rb.step_rule b p l hp hl]
    repeat' split
    all_goals (simp)
  | turn r o hr ho =>
    rw [Rb.step_turn b r o hr ho]
    repeat' split
    all_goals (simp)
  | has r o hr ho =>
    rw [Rb.step_has b r o hr]
    split <;> simp
  | look r o hr ho =>
    rw [Rb.step_look b r o hr]
    split <;> simp
  | find r o l hr ho hl =>
    rw [Rb.step_find b r o l hr]
    split <;> simp
  | apply p l hp hl =>
    rw [Rb.step_apply b p l hp hl]
    simp only
    split
    · simp
    · split
      · simp
      · split
        · simp
        · have hfl : (Rs.fresh (l.map Int.toNat)).length ≤ p.toNat := by unfold Rs.fresh; simp; omega
          have hul := Rp.passesW_len (b := b) (cap := p.toNat) (List.range 8) _ hfl
          split
          · rename_i u hu
            have := hul u hu
            rw [List.length_map]
            have e : ∀ u : Rs.Text, (Rs.pointsOf u).length = 3 * u.length := fun u => by
              unfold Rs.pointsOf
              induction u with
              | nil => rfl
              | cons p u ih =>
                rw [List.flatMap_cons, List.length_append, ih]
                show 3 + 3 * u.length = 3 * (u.length + 1)
                omega
            rw [e]
            omega
          · simp
          · simp
  | steps p l hp hl =>
    rw [Rb.step_steps b p l hp hl]
    simp only
    split
    · simp
    · split
      · simp
      · split
        · simp
        · have hfl : (Rs.fresh (l.map Int.toNat)).length ≤ p.toNat := by unfold Rs.fresh; simp; omega
          have hsl := Rp.passesW_steps (b := b) (cap := p.toNat) (List.range 8) _ hfl
          rw [List.length_map]
          have e : ∀ u : List Rs.Step, (Rs.stepNums u).length = 4 * u.length := fun u => by
            unfold Rs.stepNums
            induction u with
            | nil => rfl
            | cons p u ih =>
              rw [List.flatMap_cons, List.length_append, ih]
              show 4 + 4 * u.length = 4 * (u.length + 1)
              omega
          rw [e]
          have hm : Rs.most p.toNat ≤ 1280 := by unfold Rs.most; omega
          rw [List.length_range] at hsl
          omega
def mns (g : Addr) (H : Hp) : Hp := fun b => if b = g then none else H b
theorem mns_ne {g b : Addr} {H : Hp} (h : b ≠ g) : mns g H b = H b := by unfold mns; rw [if_neg h]
theorem mns_upd {g : Addr} {H : Hp} {o : HO} : Same (mns g H) (upd H g o) := fun b u e => by
  by_cases q : b = g
  · unfold mns at e
    rw [if_pos q] at e
    cases e
  · rw [mns_ne q] at e
    rw [upd_ne q]
    exact e
theorem LT.nf {H H' : Hp} {a : Addr} {row : List (List Int)} (h : LT H a row) (k : ∀ b o, H b = some o → (∀ od u, o ≠ .frz od u) → H' b = some o) : LT H' a row := by
  obtain ⟨ts, h1, h2⟩ := h
  exact ⟨ts, k _ _ h1 (fun _ _ z => by cases z), Paired.mono (fun t it e => k _ _ e (fun _ _ z => by cases z)) h2⟩
theorem BookAt.nf {c : Cs} {H H' : Hp} {bk s m r : Addr} {rs : List Addr} {b : Rs.State} (B : BookAt c H bk s m r rs b) (k : ∀ b o, H b = some o → (∀ od u, o ≠ .frz od u) → H' b = some o) : BookAt c H' bk s m r rs b := by
  obtain ⟨⟨dxb, h1⟩, h2, h3, h4, ⟨as', h5, h5'⟩, ⟨am, h6, h6'⟩, h7, h8, h9, h10, h11⟩ := B
  have q5 : Paired (fun x l => SetAt H' x l ∧ x ∉ [s, m, r]) as' b.sets := Paired.mono (fun x l q => by
    obtain ⟨⟨ps, g1, g2, g3⟩, g4⟩ := q
    exact ⟨⟨ps, g1, g2, g3.nf k⟩, g4⟩) h5'
  have q6 : Paired (MapAt H') am b.maps := Paired.mono (fun x l q => by
    obtain ⟨ps, g1, g2, g3⟩ := q
    exact ⟨ps, g1, g2, k _ _ g3 (fun _ _ z => by cases z)⟩) h6'
  refine ⟨⟨dxb, k _ _ h1 (fun _ _ z => by cases z)⟩, h2, h3, h4, ⟨as', k _ _ h5 (fun _ _ z => by cases z), q5⟩, ⟨am, k _ _ h6 (fun _ _ z => by cases z), q6⟩, k _ _ h7 (fun _ _ z => by cases z), fun i y e => ?_, h9, h10, h11⟩
  obtain ⟨ru', e1, dx', pb', pm', pa', pw', eb, em, ea, ew, g1, g2, g3, g4, g5, g6, R⟩ := h8 i y e
  exact ⟨ru', e1, dx', pb', pm', pa', pw', eb, em, ea, ew, k _ _ g1 (fun _ _ z => by cases z), g2.nf k, g3.nf k, g4.nf k, g5.nf k, g6, R⟩
section
variable {P : Program} {w : World} {K : PySem.W.Frag} {mg : Str → Option Value} {base : Heap} {Sz f : Addr} {fd : FuncData} {c : Cs}
abbrev s_answer_call : Stmt := top 83
theorem sc_answer_call : FnScope ["book", "reader", "call", "pass_number", "rule_number", "set_number", "map_number", "start", "cap"] ["book", "reader"] (defScope s_answer_call) := ⟨rfl, rfl, rfl, by decide +kernel, rfl, by decide +kernel, by decide +kernel⟩
theorem ok_answer_call (F : Fun K "answer_call" "answer_call" s_answer_call f fd) (T : Txt K mg Sz) (N : Cn K c) (c_Reader_take_number : Mth P w K mg base 1 c.Reader "take_number" ["self"] (sp_Reader_take_number K c)) (c_Reader_take_row : Mth P w K mg base 2 c.Reader "take_row" ["self"] (sp_Reader_take_row K c))
    (c_Book_add_set : Mth P w K mg base 2 c.Book "add_set" ["self", "numbers"] (sp_Book_add_set K c)) (c_Book_add_map : Mth P w K mg base 3 c.Book "add_map" ["self", "numbers"] (sp_Book_add_map K c)) (c_Book_add_rule : Mth P w K mg base 5 c.Book "add_rule" ["self", "pass_number", "numbers"] (sp_Book_add_rule K c))
    (c_Book_turn_rule : Mth P w K mg base 1 c.Book "turn_rule" ["self", "rule_number", "on"] (sp_Book_turn_rule c)) (c_Book_ask_set : Mth P w K mg base 2 c.Book "ask_set" ["self", "set_number", "point"] (sp_Book_ask_set c)) (c_Book_ask_map : Mth P w K mg base 1 c.Book "ask_map" ["self", "map_number", "point"] (sp_Book_ask_map c))
    (c_Book_find_place : Mth P w K mg base 2 c.Book "find_place" ["self", "set_number", "start", "points"] (sp_Book_find_place K c)) (c_apply_rules : Cal P w K mg base 9 "apply_rules" ["book", "cap", "points"] (sp_apply_rules K c)) (c_list_steps : Cal P w K mg base 9 "list_steps" ["book", "cap", "points"] (sp_list_steps K c)) :
    FnOk P w K mg base CX0 10 f fd ["book", "reader"] (sp_answer_call K c) := by
  refine F.ok sc_answer_call (fun vs H Q E h => ?_) (fun cdv A outer s H vs Q E hr h => ?_)
  · obtain ⟨bk, s, m, r, rd, a, rs, b, pl, ns, rest, cl, rfl, _⟩ := h
    rfl
  · obtain ⟨bk, s, m, r, rd, a, rs, b, pl, ns, rest, cl, rfl, B, hRd, hS, hlen, hok, hdr, k⟩ := h
    refine ⟨_, (pss_cons (ps_set (i := 2) sc_answer_call.nd rfl (Or.inl rfl) (pe_mt0 (pv 1) c_Reader_take_number hr))
  (pss_cons (ps_if (pt_cmpR op_eq (pv 2) (pe_gi T.c_SET_CALL) (nomark _)) (pss_one (ps_ret (pe_mt (pv 0) c_Book_add_set hr (pa_cons (pe_mt0 (pv 1) c_Reader_take_row hr) pa_nil)))) pss_nil)
  (pss_cons (ps_if (pt_cmpR op_eq (pv 2) (pe_gi T.c_MAP_CALL) (nomark _)) (pss_one (ps_ret (pe_mt (pv 0) c_Book_add_map hr (pa_cons (pe_mt0 (pv 1) c_Reader_take_row hr) pa_nil)))) pss_nil)
  (pss_cons (ps_if (pt_cmpR op_eq (pv 2) (pe_gi T.c_RULE_CALL) (nomark _)) (pss_cons (ps_set (i := 3) sc_answer_call.nd rfl (Or.inl rfl) (pe_mt0 (pv 1) c_Reader_take_number hr))
  (pss_one (ps_ret (pe_mt (pv 0) c_Book_add_rule hr (pa_cons (pv 3) (pa_cons (pe_mt0 (pv 1) c_Reader_take_row hr) pa_nil)))))) pss_nil)
  (pss_cons (ps_if (pt_cmpR op_eq (pv 2) (pe_gi T.c_TURN_CALL) (nomark _)) (pss_cons (ps_set (i := 4) sc_answer_call.nd rfl (Or.inl rfl) (pe_mt0 (pv 1) c_Reader_take_number hr))
  (pss_one (ps_ret (pe_mt (pv 0) c_Book_turn_rule hr (pa_cons (pv 4) (pa_cons (pe_mt0 (pv 1) c_Reader_take_number hr) pa_nil)))))) pss_nil)
  (pss_cons (ps_if (pt_cmpR op_eq (pv 2) (pe_gi T.c_HAS_CALL) (nomark _)) (pss_cons (ps_set (i := 5) sc_answer_call.nd rfl (Or.inl rfl) (pe_mt0 (pv 1) c_Reader_take_number hr))
  (pss_one (ps_ret (pe_mt (pv 0) c_Book_ask_set hr (pa_cons (pv 5) (pa_cons (pe_mt0 (pv 1) c_Reader_take_number hr) pa_nil)))))) pss_nil)
  (pss_cons (ps_if (pt_cmpR op_eq (pv 2) (pe_gi T.c_LOOK_CALL) (nomark _)) (pss_cons (ps_set (i := 6) sc_answer_call.nd rfl (Or.inl rfl) (pe_mt0 (pv 1) c_Reader_take_number hr))
  (pss_one (ps_ret (pe_mt (pv 0) c_Book_ask_map hr (pa_cons (pv 6) (pa_cons (pe_mt0 (pv 1) c_Reader_take_number hr) pa_nil)))))) pss_nil)
  (pss_cons (ps_if (pt_cmpR op_eq (pv 2) (pe_gi T.c_FIND_CALL) (nomark _)) (pss_cons (ps_set (i := 5) sc_answer_call.nd rfl (Or.inl rfl) (pe_mt0 (pv 1) c_Reader_take_number hr))
  (pss_cons (ps_set (i := 7) sc_answer_call.nd rfl (Or.inl rfl) (pe_mt0 (pv 1) c_Reader_take_number hr))
  (pss_one (ps_ret (pe_mt (pv 0) c_Book_find_place hr (pa_cons (pv 5) (pa_cons (pv 7) (pa_cons (pe_mt0 (pv 1) c_Reader_take_row hr) pa_nil)))))))) pss_nil)
  (pss_cons (ps_if (pt_cmpR op_eq (pv 2) (pe_gi T.c_APPLY_CALL) (nomark _)) (pss_cons (ps_set (i := 8) sc_answer_call.nd rfl (Or.inl rfl) (pe_mt0 (pv 1) c_Reader_take_number hr))
  (pss_one (ps_ret (pe_fun (sp := (sp_apply_rules K c)) c_apply_rules hr (pa_cons (pv 0) (pa_cons (pv 8) (pa_cons (pe_mt0 (pv 1) c_Reader_take_row hr) pa_nil))))))) pss_nil)
  (pss_cons (ps_if (pt_cmpR op_eq (pv 2) (pe_gi T.c_STEPS_CALL) (nomark _)) (pss_cons (ps_set (i := 8) sc_answer_call.nd rfl (Or.inl rfl) (pe_mt0 (pv 1) c_Reader_take_number hr))
  (pss_one (ps_ret (pe_fun (sp := (sp_list_steps K c)) c_list_steps hr (pa_cons (pv 0) (pa_cons (pv 8) (pa_cons (pe_mt0 (pv 1) c_Reader_take_row hr) pa_nil))))))) pss_nil)
  (pss_one ps_never))))))))))), ?_⟩
    simp only [tSeq, tNext, tRet, tIfS, tAsg, gName, tOp, tC, tVar, rEq, tTest, tCons, tNil, tCall, L2.start, List.map_cons, List.map_nil, List.length_cons, List.length_nil, List.replicate, List.cons_append, List.nil_append, List.append_nil, List.getElem?_cons_zero, List.getElem?_cons_succ, List.set_cons_zero, List.set_cons_succ, Option.some.injEq, V.bl.injEq, V.ref.injEq, exists_eq_left', exists_and_left, Nat.reduceSub, Nat.reduceAdd,  decide_eq_true_eq, tMeth]
    have num : ∀ (H1 : Hp) (pl1 : Nat) (z : Int) (Q' : VK), Kp [rd] H H1 → ReaderAt c H1 rd a pl1 → ns[pl1]? = some z → (∀ H2, Kp [rd] H H2 → ReaderAt c H2 rd a (pl1 + 1) → Q' (.int z) H2) →
        ∃ x x_1, H1 rd = some (HO.ins c.Reader x x_1) ∧ List.lookup (Str.ofString "take_number") x_1 = none ∧ sp_Reader_take_number K c [V.ref rd] H1 Q' E0 := by
      intro H1 pl1 z Q' k1 hR1 hz kq
      obtain ⟨d1, e1⟩ := id hR1
      obtain ⟨d0, e0⟩ := id hRd
      exact ⟨d1, _, e1, rfl, rd, a, ns, pl1, z, rfl, hR1, sqL_ins hS e0 k1, hz, fun H2 k2 hR2 => kq H2 (k1.trans k2) hR2⟩
    have row : ∀ (H1 : Hp) (pl1 : Nat) (rw rest' : List Int) (Q' : VK), Kp [rd] H H1 → ReaderAt c H1 rd a pl1 → ns.drop pl1 = (rw.length : Int) :: (rw ++ rest') → (∀ H2 p, Kp [rd] H H2 → ReaderAt c H2 rd a (pl1 + 1 + rw.length) → LI H2 p rw → Q' (.ref p) H2) →
        ∃ x x_1, H1 rd = some (HO.ins c.Reader x x_1) ∧ List.lookup (Str.ofString "take_row") x_1 = none ∧ sp_Reader_take_row K c [V.ref rd] H1 Q' E0 := by
      intro H1 pl1 rw rest' Q' k1 hR1 hz kq
      obtain ⟨d1, e1⟩ := id hR1
      obtain ⟨d0, e0⟩ := id hRd
      exact ⟨d1, _, e1, rfl, rd, a, ns, rw, rest', pl1, rfl, hR1, sqL_ins hS e0 k1, hz, fun H2 p k2 hR2 _ hl => kq H2 p (k1.trans k2) hR2 hl⟩
    have fin : ∀ (H2 : Hp), Kp [rd] H H2 → ReaderAt c H2 rd a (pl + (PyFlat.put1 cl).length) → BookAt c H2 bk s m r rs b ∧ BkPost c H2 bk s m r rs b cl Q := by
      intro H2 k2 hR2
      have B2 := B.rd hRd k2
      obtain ⟨d2, e2⟩ := id hR2
      refine ⟨B2, fun H3 p rs' B3 hl hp k3 hrs => k H3 p rs' B3 (hR2.bk B2 k3) hl (kp_free k2 e2 hp) ?_ fun x hx => ?_⟩
      · exact (k2.mono (by simp)).trans (k3.mono fun x hx => List.mem_cons_of_mem _ hx)
      · rcases hrs x hx with q | q
        · exact .inl q
        · exact .inr (kp_free k2 e2 q)
    have bko : ∀ H1, Kp [rd] H H1 → ∃ d, H1 bk = some (.ins c.Book d [("sets", .ref s), ("maps", .ref m), ("rules", .ref r)]) := fun H1 k1 => (B.rd hRd k1).obj
    have dget : ∀ {q : Nat} {z : Int} {t : List Int}, ns.drop q = z :: t → ns[q]? = some z ∧ ns.drop (q + 1) = t := fun {q z t} e => by
      constructor
      · have := congrArg (fun l => l[0]?) e
        simpa using this
      · have := congrArg (List.drop 1) e
        rw [List.drop_drop] at this
        exact this
    have hlr : ∀ {q : Nat} {t u : List Int} {z : Int}, ns.drop q = z :: (t ++ u) → t.length ≤ 4100 := fun {q t u z} e => by
      have := congrArg List.length e
      rw [List.length_drop, List.length_cons, List.length_append] at this
      omega
    have k0 := Kp.refl [rd] H
    cases hok with
    | set l hl =>
      have ep : PyFlat.put1 [[0], l] = 0 :: (l.length : Int) :: l := by simp [PyFlat.put1, PyFlat.putRows, PyFlat.putRow]
      rw [ep] at fin hdr
      obtain ⟨h0, hd0⟩ := dget hdr
      refine num H pl 0 _ k0 hRd h0 fun H1 k1 hR1 => ?_
      obtain ⟨d1, eb1⟩ := bko H1 k1
      refine ⟨rfl, ite2 (fun _ => ⟨d1, _, eb1, rfl, ?_⟩) fun h => absurd rfl h⟩
      refine row H1 (pl + 1) l rest _ k1 hR1 hd0 fun H2 p k2 hR2 hp => ?_
      obtain ⟨B2, k9⟩ := fin H2 k2 (by rw [List.length_cons, List.length_cons, show pl + (l.length + 1 + 1) = pl + 1 + 1 + l.length by omega]; exact hR2)
      exact ⟨bk, s, m, r, p, rs, b, l, rfl, B2, hp.sq, hlr hd0, hl, k9⟩
    | map l hl =>
      have ep : PyFlat.put1 [[1], l] = 1 :: (l.length : Int) :: l := by simp [PyFlat.put1, PyFlat.putRows, PyFlat.putRow]
      rw [ep] at fin hdr
      obtain ⟨h0, hd0⟩ := dget hdr
      refine num H pl 1 _ k0 hRd h0 fun H1 k1 hR1 => ?_
      obtain ⟨d1, eb1⟩ := bko H1 k1
      refine ⟨rfl, ite2 (fun h => absurd (V.int.inj h) (by decide)) fun _ => ⟨rfl, ite2 (fun _ => ⟨d1, _, eb1, rfl, ?_⟩) fun h => absurd rfl h⟩⟩
      refine row H1 (pl + 1) l rest _ k1 hR1 hd0 fun H2 p k2 hR2 hp => ?_
      obtain ⟨B2, k9⟩ := fin H2 k2 (by rw [List.length_cons, List.length_cons, show pl + (l.length + 1 + 1) = pl + 1 + 1 + l.length by omega]; exact hR2)
      exact ⟨bk, s, m, r, p, rs, b, l, rfl, B2, hp.sq, hlr hd0, hl, k9⟩
    | rule p l hp0 hl =>
      have ep : PyFlat.put1 [[2, p], l] = 2 :: p :: (l.length : Int) :: l := by simp [PyFlat.put1, PyFlat.putRows, PyFlat.putRow]
      rw [ep] at fin hdr
      obtain ⟨h0, hd0⟩ := dget hdr
      obtain ⟨h1, hd1⟩ := dget hd0
      refine num H pl 2 _ k0 hRd h0 fun H1 k1 hR1 => ?_
      refine ⟨rfl, ite2 (fun h => absurd (V.int.inj h) (by decide)) fun _ => ⟨rfl, ite2 (fun h => absurd (V.int.inj h) (by decide)) fun _ => ⟨rfl, ite2 (fun _ => ?_) fun h => absurd rfl h⟩⟩⟩
      refine num H1 (pl + 1) p _ k1 hR1 h1 fun H2 k2 hR2 => ?_
      obtain ⟨d2, eb2⟩ := bko H2 k2
      refine ⟨d2, _, eb2, rfl, ?_⟩
      refine row H2 (pl + 1 + 1) l rest _ k2 hR2 hd1 fun H3 q k3 hR3 hq => ?_
      obtain ⟨B3, k9⟩ := fin H3 k3 (by rw [List.length_cons, List.length_cons, List.length_cons, show pl + (l.length + 1 + 1 + 1) = pl + 1 + 1 + 1 + l.length by omega]; exact hR3)
      exact ⟨bk, s, m, r, q, rs, b, p, l, rfl, B3, hq.sq, hlr hd1, hl, hp0, k9⟩
    | turn r0 o hr0 ho0 =>
      have ep : PyFlat.put1 [[3, r0, o]] = [3, r0, o] := by simp [PyFlat.put1, PyFlat.putRows]
      rw [ep] at fin hdr
      obtain ⟨h0, hd0⟩ := dget hdr
      obtain ⟨h1, hd1⟩ := dget hd0
      obtain ⟨h2, hd2⟩ := dget hd1
      refine num H pl 3 _ k0 hRd h0 fun H1 k1 hR1 => ?_
      refine ⟨rfl, ite2 (fun h => absurd (V.int.inj h) (by decide)) fun _ => ⟨rfl, ite2 (fun h => absurd (V.int.inj h) (by decide)) fun _ => ⟨rfl, ite2 (fun h => absurd (V.int.inj h) (by decide)) fun _ => ⟨rfl, ite2 (fun _ => ?_) fun h => absurd rfl h⟩⟩⟩⟩
      refine num H1 (pl + 1) r0 _ k1 hR1 h1 fun H2 k2 hR2 => ?_
      obtain ⟨d2, eb2⟩ := bko H2 k2
      refine ⟨d2, _, eb2, rfl, ?_⟩
      refine num H2 (pl + 1 + 1) o _ k2 hR2 h2 fun H3 k3 hR3 => ?_
      obtain ⟨B3, k9⟩ := fin H3 k3 hR3
      exact ⟨bk, s, m, r, rs, b, r0, o, rfl, B3, hr0, ho0, k9⟩
    | has r0 o hr0 ho0 =>
      have ep : PyFlat.put1 [[4, r0, o]] = [4, r0, o] := by simp [PyFlat.put1, PyFlat.putRows]
      rw [ep] at fin hdr
      obtain ⟨h0, hd0⟩ := dget hdr
      obtain ⟨h1, hd1⟩ := dget hd0
      obtain ⟨h2, hd2⟩ := dget hd1
      refine num H pl 4 _ k0 hRd h0 fun H1 k1 hR1 => ?_
      refine ⟨rfl, ite2 (fun h => absurd (V.int.inj h) (by decide)) fun _ => ⟨rfl, ite2 (fun h => absurd (V.int.inj h) (by decide)) fun _ => ⟨rfl, ite2 (fun h => absurd (V.int.inj h) (by decide)) fun _ => ⟨rfl, ite2 (fun h => absurd (V.int.inj h) (by decide)) fun _ => ⟨rfl, ite2 (fun _ => ?_) fun h => absurd rfl h⟩⟩⟩⟩⟩
      refine num H1 (pl + 1) r0 _ k1 hR1 h1 fun H2 k2 hR2 => ?_
      obtain ⟨d2, eb2⟩ := bko H2 k2
      refine ⟨d2, _, eb2, rfl, ?_⟩
      refine num H2 (pl + 1 + 1) o _ k2 hR2 h2 fun H3 k3 hR3 => ?_
      obtain ⟨B3, k9⟩ := fin H3 k3 hR3
      exact ⟨bk, s, m, r, rs, b, r0, o, rfl, B3, hr0, ho0, k9⟩
    | look r0 o hr0 ho0 =>
      have ep : PyFlat.put1 [[5, r0, o]] = [5, r0, o] := by simp [PyFlat.put1, PyFlat.putRows]
      rw [ep] at fin hdr
      obtain ⟨h0, hd0⟩ := dget hdr
      obtain ⟨h1, hd1⟩ := dget hd0
      obtain ⟨h2, hd2⟩ := dget hd1
      refine num H pl 5 _ k0 hRd h0 fun H1 k1 hR1 => ?_
      refine ⟨rfl, ite2 (fun h => absurd (V.int.inj h) (by decide)) fun _ => ⟨rfl, ite2 (fun h => absurd (V.int.inj h) (by decide)) fun _ => ⟨rfl, ite2 (fun h => absurd (V.int.inj h) (by decide)) fun _ => ⟨rfl, ite2 (fun h => absurd (V.int.inj h) (by decide)) fun _ => ⟨rfl, ite2 (fun h => absurd (V.int.inj h) (by decide)) fun _ => ⟨rfl, ite2 (fun _ => ?_) fun h => absurd rfl h⟩⟩⟩⟩⟩⟩
      refine num H1 (pl + 1) r0 _ k1 hR1 h1 fun H2 k2 hR2 => ?_
      obtain ⟨d2, eb2⟩ := bko H2 k2
      refine ⟨d2, _, eb2, rfl, ?_⟩
      refine num H2 (pl + 1 + 1) o _ k2 hR2 h2 fun H3 k3 hR3 => ?_
      obtain ⟨B3, k9⟩ := fin H3 k3 hR3
      exact ⟨bk, s, m, r, rs, b, r0, o, rfl, B3, hr0, ho0, k9⟩
    | find r0 o l hr0 ho0 hl =>
      have ep : PyFlat.put1 [[6, r0, o], l] = 6 :: r0 :: o :: (l.length : Int) :: l := by simp [PyFlat.put1, PyFlat.putRows, PyFlat.putRow]
      rw [ep] at fin hdr
      obtain ⟨h0, hd0⟩ := dget hdr
      obtain ⟨h1, hd1⟩ := dget hd0
      obtain ⟨h2, hd2⟩ := dget hd1
      refine num H pl 6 _ k0 hRd h0 fun H1 k1 hR1 => ?_
      refine ⟨rfl, ite2 (fun h => absurd (V.int.inj h) (by decide)) fun _ => ⟨rfl, ite2 (fun h => absurd (V.int.inj h) (by decide)) fun _ => ⟨rfl, ite2 (fun h => absurd (V.int.inj h) (by decide)) fun _ => ⟨rfl, ite2 (fun h => absurd (V.int.inj h) (by decide)) fun _ => ⟨rfl, ite2 (fun h => absurd (V.int.inj h) (by decide)) fun _ => ⟨rfl, ite2 (fun h => absurd (V.int.inj h) (by decide)) fun _ => ⟨rfl, ite2 (fun _ => ?_) fun h => absurd rfl h⟩⟩⟩⟩⟩⟩⟩
      refine num H1 (pl + 1) r0 _ k1 hR1 h1 fun H2 k2 hR2 => ?_
      refine num H2 (pl + 1 + 1) o _ k2 hR2 h2 fun H3 k3 hR3 => ?_
      obtain ⟨d3, eb3⟩ := bko H3 k3
      refine ⟨d3, _, eb3, rfl, ?_⟩
      refine row H3 (pl + 1 + 1 + 1) l rest _ k3 hR3 hd2 fun H4 q k4 hR4 hq => ?_
      obtain ⟨B4, k9⟩ := fin H4 k4 (by rw [List.length_cons, List.length_cons, List.length_cons, List.length_cons, show pl + (l.length + 1 + 1 + 1 + 1) = pl + 1 + 1 + 1 + 1 + l.length by omega]; exact hR4)
      exact ⟨bk, s, m, r, q, rs, b, r0, o, l, rfl, B4, hq.sq, hlr hd2, hl, hr0, ho0, k9⟩
    | apply p l hp0 hl =>
      have ep : PyFlat.put1 [[7, p], l] = 7 :: p :: (l.length : Int) :: l := by simp [PyFlat.put1, PyFlat.putRows, PyFlat.putRow]
      rw [ep] at fin hdr
      obtain ⟨h0, hd0⟩ := dget hdr
      obtain ⟨h1, hd1⟩ := dget hd0
      refine num H pl 7 _ k0 hRd h0 fun H1 k1 hR1 => ?_
      refine ⟨rfl, ite2 (fun h => absurd (V.int.inj h) (by decide)) fun _ => ⟨rfl, ite2 (fun h => absurd (V.int.inj h) (by decide)) fun _ => ⟨rfl, ite2 (fun h => absurd (V.int.inj h) (by decide)) fun _ => ⟨rfl, ite2 (fun h => absurd (V.int.inj h) (by decide)) fun _ => ⟨rfl, ite2 (fun h => absurd (V.int.inj h) (by decide)) fun _ => ⟨rfl, ite2 (fun h => absurd (V.int.inj h) (by decide)) fun _ => ⟨rfl, ite2 (fun h => absurd (V.int.inj h) (by decide)) fun _ => ⟨rfl, ite2 (fun _ => ?_) fun h => absurd rfl h⟩⟩⟩⟩⟩⟩⟩⟩
      refine num H1 (pl + 1) p _ k1 hR1 h1 fun H2 k2 hR2 => ?_
      refine row H2 (pl + 1 + 1) l rest _ k2 hR2 hd1 fun H3 q k3 hR3 hq => ?_
      obtain ⟨B3, k9⟩ := fin H3 k3 (by rw [List.length_cons, List.length_cons, List.length_cons, show pl + (l.length + 1 + 1 + 1) = pl + 1 + 1 + 1 + l.length by omega]; exact hR3)
      exact ⟨bk, s, m, r, q, rs, b, p, l, rfl, B3, hq.sq, hlr hd1, hl, hp0, k9⟩
    | steps p l hp0 hl =>
      have ep : PyFlat.put1 [[8, p], l] = 8 :: p :: (l.length : Int) :: l := by simp [PyFlat.put1, PyFlat.putRows, PyFlat.putRow]
      rw [ep] at fin hdr
      obtain ⟨h0, hd0⟩ := dget hdr
      obtain ⟨h1, hd1⟩ := dget hd0
      refine num H pl 8 _ k0 hRd h0 fun H1 k1 hR1 => ?_
      refine ⟨rfl, ite2 (fun h => absurd (V.int.inj h) (by decide)) fun _ => ⟨rfl, ite2 (fun h => absurd (V.int.inj h) (by decide)) fun _ => ⟨rfl, ite2 (fun h => absurd (V.int.inj h) (by decide)) fun _ => ⟨rfl, ite2 (fun h => absurd (V.int.inj h) (by decide)) fun _ => ⟨rfl, ite2 (fun h => absurd (V.int.inj h) (by decide)) fun _ => ⟨rfl, ite2 (fun h => absurd (V.int.inj h) (by decide)) fun _ => ⟨rfl, ite2 (fun h => absurd (V.int.inj h) (by decide)) fun _ => ⟨rfl, ite2 (fun h => absurd (V.int.inj h) (by decide)) fun _ => ⟨rfl, ite2 (fun _ => ?_) fun h => absurd rfl h⟩⟩⟩⟩⟩⟩⟩⟩⟩
      refine num H1 (pl + 1) p _ k1 hR1 h1 fun H2 k2 hR2 => ?_
      refine row H2 (pl + 1 + 1) l rest _ k2 hR2 hd1 fun H3 q k3 hR3 hq => ?_
      obtain ⟨B3, k9⟩ := fin H3 k3 (by rw [List.length_cons, List.length_cons, List.length_cons, show pl + (l.length + 1 + 1 + 1) = pl + 1 + 1 + 1 + l.length by omega]; exact hR3)
      exact ⟨bk, s, m, r, q, rs, b, p, l, rfl, B3, hq.sq, hlr hd1, hl, hp0, k9⟩
abbrev s_answers : Stmt := top 82
theorem sc_answers : FnScope ["calls", "book", "reader", "given", "answer"] ["calls"] (defScope s_answers) := ⟨rfl, rfl, rfl, by decide +kernel, rfl, by decide +kernel, by decide +kernel⟩
theorem ok_answers (F : Fun K "answers" "answers" s_answers f fd) (T : Txt K mg Sz) (N : Cn K c) (c_Book : Mkr P w K mg base 1 "Book" c.Book ["self"] (sp_Book c)) (c_Reader : Mkr P w K mg base 1 "Reader" c.Reader ["self", "calls"] (sp_Reader c)) (c_Reader_is_done : Mth P w K mg base 1 c.Reader "is_done" ["self"] (sp_Reader_is_done K c))
    (c_answer_call : Cal P w K mg base 10 "answer_call" ["book", "reader"] (sp_answer_call K c)) : FnOk P w K mg base CX0 11 f fd ["calls"] (sp_answers K) := by
  refine F.ok sc_answers (fun vs H Q E h => ?_) (fun cdv A outer s H vs Q E hr h => ?_)
  · obtain ⟨a, l, rfl, _⟩ := h
    rfl
  · obtain ⟨a, l, rfl, hS, hlen, hask, k⟩ := h
    refine ⟨_, (pss_cons (ps_set (i := 1) sc_answers.nd rfl (Or.inl rfl) (pe_new0 c_Book hr))
  (pss_cons (ps_set (i := 2) sc_answers.nd rfl (Or.inl rfl) (pe_new c_Reader hr (pa_cons (pv 0) pa_nil)))
  (pss_cons (ps_set (i := 3) sc_answers.nd rfl (Or.inl rfl) (pe_lst pa_nil))
  (pss_cons (ps_while PassesOwn.never (pt_not (pt_val (pe_mt0 (pv 2) c_Reader_is_done hr))) (pss_cons (ps_set (i := 4) sc_answers.nd rfl (Or.inl rfl) (pe_lock (pe_fun (sp := (sp_answer_call K c)) c_answer_call hr (pa_cons (pv 1) (pa_cons (pv 2) pa_nil)))))
  (pss_cons (ps_expr (pe_bmK (K := K) rfl PySem.F.plainAttrs_list PySem.F.slot_list_append PySem.F.type_list_append mt_append (pv 3) (pa_cons (pe_callB (r := rLenS K) call_len_seq (by rfl) T.b_len boot_len (pa_cons (pv 4) pa_nil)) pa_nil)))
  (pss_one (ps_expr (pe_bmK (K := K) rfl PySem.F.plainAttrs_list PySem.F.slot_list_extend PySem.F.type_list_extend mt_extend (pv 3) (pa_cons (pv 4) pa_nil)))))))
  (pss_one (ps_ret (pv 3))))))), ?_⟩
    simp only [tSeq, tAsg, gName, tVar, tCons, tNil, L2.start, List.map_cons, List.map_nil, List.length_cons, List.length_nil, List.replicate, List.cons_append, List.nil_append, List.append_nil, List.getElem?_cons_zero, List.set_cons_zero, List.set_cons_succ, Option.some.injEq, exists_eq_left', Nat.reduceSub, Nat.reduceAdd, tLst,  tMake]
    obtain ⟨cs, ecs, hoks, hc20, _, eans⟩ := Rb.asked_calls hask
    rw [eans] at k
    intro x dx nx ndx hne
    refine ⟨x, dx, rfl, upd_same, fun H1 s m r k1 nsn nmn nrn B1 => ⟨rfl, fun rd dr nrd ndr hne2 => ⟨rd, dr, a, rfl, upd_same, fun H2 k2 hR2 => ⟨rfl, Nat.zero_le _, fun g hg => ?_⟩⟩⟩⟩
    have s1 : Same H H1 := Same.made nx ndx fun b o e hb => k1 b o e (by simpa using hb)
    have s2 : Same H1 H2 := Same.made nrd ndr fun b o e hb => k2 b o e (by simpa using hb)
    have s12 := s1.trans s2
    have fr : ∀ q, upd (upd H dx (HO.own x)) x (HO.ins c.Book dx []) q = none → H q = none := fun q hq => by
      by_cases e1 : q = x
      · rw [e1]; exact nx
      · rw [upd_ne e1] at hq
        by_cases e2 : q = dx
        · rw [e2]; exact ndx
        · rw [upd_ne e2] at hq; exact hq
    have ns0 := fr s nsn
    have nm0 := fr m nmn
    have nr0 := fr r nrn
    have nrd0 : H rd = none := s1.free nrd
    have ng0 : H g = none := s12.free hg
    have B2 := B1.same s2
    have ngs : g ∉ [s, m, r] := by
      obtain ⟨as, hs, _⟩ := B2.sets
      obtain ⟨am, hm, _⟩ := B2.maps
      simp only [List.mem_cons, List.not_mem_nil, or_false]
      rintro (z | z | z)
      · rw [z, hs] at hg; cases hg
      · rw [z, hm] at hg; cases hg
      · rw [z, B2.rules] at hg; cases hg
    obtain ⟨PW, ePW⟩ : ∃ PW : Nat → L2.St → Hp → Prop, PW = fun q σ H' => ∃ (i : Nat) (rs : List Addr) (v4 : Option V), σ = [some (V.ref a), some (V.ref x), some (V.ref rd), some (V.ref g), v4] ∧ i ≤ cs.length ∧ q = cs.length - i ∧ BookAt c (mns g H') x s m r rs (Rb.after RsNeutral.start (cs.take i)) ∧
      ReaderAt c H' rd a (PyFlat.put (cs.take i)).length ∧ LI H' g (PyFlat.told (PyFlat.played RsNeutral.step RsNeutral.start (cs.take i))) ∧ (PyFlat.told (PyFlat.played RsNeutral.step RsNeutral.start (cs.take i))).length ≤ i * 50001 ∧ Same H H' ∧ (∀ y ∈ rs, H y = none) := ⟨_, rfl⟩
    refine ⟨PW, ⟨cs.length, ?_⟩, ?_⟩
    · rw [ePW]
      refine ⟨0, [], none, rfl, Nat.zero_le _, rfl, B2.same (fun b o e => by rw [mns_ne (ne_of_none e hg), upd_ne (ne_of_none e hg)]; exact e), ?_, upd_same, Nat.le_refl _, s12.trans (same_new hg), by simp⟩
      obtain ⟨d2, e2⟩ := hR2
      exact ⟨d2, (same_new hg) _ _ e2⟩
    · rintro q σ H3 hP
      rw [ePW] at hP
      obtain ⟨i, rs, v4, rfl, hi, rfl, B3, hR3, hg3, hsz, s3, hrs⟩ := hP
      obtain ⟨d3, e3⟩ := id hR3
      have hS3 := s3.seq hS
      have esp : l = PyFlat.put (cs.take i) ++ PyFlat.put (cs.drop i) := by rw [← put_app, List.take_append_drop]; exact ecs
      simp only [tSeq, tDrop, tRet, tAsg, gName, tVar, tB, tNot, tCons, tNil, List.append_nil, List.getElem?_cons_zero, List.getElem?_cons_succ, List.set_cons_zero, List.set_cons_succ, Option.some.injEq, V.bl.injEq, V.ref.injEq, List.cons.injEq, and_true, exists_eq_left', exists_and_left,  rLenS, tCB, tBM, rAppend, rExtend, tMeth, sp_Reader_is_done]
      refine ⟨d3, _, e3, rfl, a, _, _, hR3, hS3, ?_⟩
      rw [List.length_map]
      by_cases hlt : i < cs.length
      · obtain ⟨cl, hcl⟩ : ∃ cl, cs[i]? = some cl := ⟨_, List.getElem?_eq_getElem hlt⟩
        have hokc := hoks cl (List.mem_of_getElem? hcl)
        have edr : cs.drop i = cl :: cs.drop (i + 1) := by
          rw [List.drop_eq_getElem_cons hlt]
          congr 1
          exact Option.some.inj ((List.getElem?_eq_getElem hlt).symm.trans hcl)
        have etk : cs.take (i + 1) = cs.take i ++ [cl] := by rw [List.take_add_one, hcl]; rfl
        have hp1 : 1 ≤ (PyFlat.put1 cl).length := by cases hokc <;> simp [PyFlat.put1]
        have edl : l.drop (PyFlat.put (cs.take i)).length = PyFlat.put1 cl ++ PyFlat.put (cs.drop (i + 1)) := by
          conv => lhs; rw [esp]
          rw [List.drop_left, edr]
          rfl
        have hll : l.length = (PyFlat.put (cs.take i)).length + ((PyFlat.put1 cl).length + (PyFlat.put (cs.drop (i + 1))).length) := by
          have := congrArg List.length esp
          rw [List.length_append, edr] at this
          have e9 : PyFlat.put (cl :: cs.drop (i + 1)) = PyFlat.put1 cl ++ PyFlat.put (cs.drop (i + 1)) := rfl
          rw [e9, List.length_append] at this
          exact this
        rw [decide_eq_false (by omega)]
        have hans := ans_len (Rb.after RsNeutral.start (cs.take i)) hokc
        refine iteT ⟨_, fun _ _ z => z, ?_⟩
        obtain ⟨xs, exs⟩ : ∃ xs, xs = (PyFlat.told (PyFlat.played RsNeutral.step RsNeutral.start (cs.take i))).map V.int := ⟨_, rfl⟩
        have hxl : xs.length ≤ i * 50001 := by rw [exs, List.length_map]; exact hsz
        have hg3 : H3 g = some (.lst xs) := by rw [exs]; exact hg3
        refine ⟨g, _, hg3, trivial, fun od => ?_⟩
        obtain ⟨Hk, ek⟩ : ∃ Hk, Hk = upd H3 g (.frz od (.lst xs)) := ⟨_, rfl⟩
        rw [← ek]
        have gk : Hk g = some (.frz od (.lst xs)) := by rw [ek]; exact upd_same
        have Bk : BookAt c Hk x s m r rs (Rb.after RsNeutral.start (cs.take i)) := by rw [ek]; exact B3.same mns_upd
        have nrg : rd ≠ g := ne_of e3 hg3 (by intro z; cases z)
        have Rk : ReaderAt c Hk rd a (PyFlat.put (cs.take i)).length := ⟨d3, by rw [ek, upd_ne nrg]; exact e3⟩
        have sk : Same H Hk := by rw [ek]; exact same_own s3 ng0
        refine ⟨_, rfl, _, rfl, x, s, m, r, rd, a, rs, Rb.after RsNeutral.start (cs.take i), (PyFlat.put (cs.take i)).length, l, PyFlat.put (cs.drop (i + 1)), cl, rfl, Bk, Rk, sk.seq hS, hlen, hokc, edl, fun H4 p rs' B4 hR4 hl4 hp4 k4 hrs4 => ?_⟩
        have ngF : g ∉ rd :: s :: m :: r :: rs := by
          obtain ⟨as, hs, _⟩ := Bk.sets
          obtain ⟨am, hm, _⟩ := Bk.maps
          simp only [List.mem_cons]
          rintro (z | z | z | z | z)
          · exact nrg z.symm
          · rw [z, hs] at gk; cases gk
          · rw [z, hm] at gk; cases gk
          · rw [z, Bk.rules] at gk; cases gk
          · obtain ⟨j, hj⟩ := List.getElem?_of_mem z
            obtain ⟨ru, _, _, _, _, _, _, _, _, _, _, g1, _⟩ := Bk.each j g hj
            rw [gk] at g1
            cases g1
        have g4 : H4 g = some (.frz od (.lst xs)) := k4 _ _ gk ngF
        have npg : p ≠ g := Ne.symm (ne_of_none gk hp4)
        obtain ⟨ans, eans2⟩ : ∃ ans, ans = (RsNeutral.step (Rb.after RsNeutral.start (cs.take i)) cl).2 := ⟨_, rfl⟩
        rw [← eans2] at hl4 hans
        have s4 : Same H H4 := fun b o e => k4 _ _ (sk _ _ e) (by
          simp only [List.mem_cons]
          rintro (z | z | z | z | z)
          · rw [z, nrd0] at e; cases e
          · rw [z, ns0] at e; cases e
          · rw [z, nm0] at e; cases e
          · rw [z, nr0] at e; cases e
          · rw [hrs b z] at e; cases e)
        have hpl : upd H4 g (.lst xs) p = some (.lst (ans.map V.int)) := (upd_ne npg).trans hl4
        have hlim : i * 50001 ≤ 20 * 50001 := Nat.mul_le_mul_right _ (by omega)
        refine ⟨g4, ?_⟩
        refine ⟨.inl ⟨rfl, _, SqL.of upd_same⟩, p, rfl, _, Or.inl (SqL.of hpl), _, upd_same, by rw [sizeLine_eq]; omega, .inl ⟨rfl, _, SqL.of upd_same⟩, p, rfl, _, upd_same, _, (upd_ne npg).trans hpl, by rw [List.length_append, List.length_singleton, List.length_map, sizeLine_eq]; omega, cs.length - (i + 1), by omega, ?_⟩
        rw [upd_upd, upd_upd, List.length_map, ePW]
        have etold : PyFlat.told (PyFlat.played RsNeutral.step RsNeutral.start (cs.take (i + 1))) = PyFlat.told (PyFlat.played RsNeutral.step RsNeutral.start (cs.take i)) ++ ((ans.length : Int) :: ans) := by
          rw [etk, Rb.played_snoc, Rb.told_snoc, eans2]
        refine ⟨i + 1, rs', _, rfl, by omega, rfl, ?_, ?_, ?_, ?_, same_own s4 ng0, fun y hy => ?_⟩
        · rw [etk, Rb.after_snoc]
          refine B4.nf fun b o e hnf => ?_
          have nbg : b ≠ g := fun z => by
            rw [z, g4] at e
            exact hnf _ _ (Option.some.inj e).symm
          rw [mns_ne nbg, upd_ne nbg]
          exact e
        · obtain ⟨d4, e4⟩ := hR4
          refine ⟨d4, ?_⟩
          rw [upd_ne nrg, e4, etk, put_app, List.length_append]
          show some (HO.ins c.Reader d4 [("calls", V.ref a), ("place", V.int _)]) = some (HO.ins c.Reader d4 [("calls", V.ref a), ("place", V.int ((_ + (PyFlat.put1 cl ++ []).length : Nat) : Int))])
          rw [List.append_nil]
        · show upd H4 g _ g = _
          rw [upd_same, etold, List.map_append, exs, List.append_assoc]
          rfl
        · rw [etold, List.length_append, List.length_cons]
          omega
        · rcases hrs4 y hy with z | z
          · exact hrs y z
          · exact sk.free z
      · have ei : i = cs.length := by omega
        subst ei
        rw [List.take_length] at hg3 esp
        rw [List.take_length, decide_eq_true (by rw [ecs]; exact Nat.le_refl _)]
        exact iteF (k H3 g hg3)
end
end Re
end
section
set_option maxHeartbeats 4000000
namespace Re
open PySem PySem.Spec PyProof.Rows L2
open PySem.W (Codec)
def sizesB (o : Obj) : Bool := match o.cls, o.data with
  | .type n, .seq its _ => n == "tuple" && (match its.toList with
    | [.int a _, .int b _, .int c _, .int d _, .int e _, .int f _, .int g _] => a == 6 && b == 6 && c == 6 && d == 2 && e == 2 && f == 3 && g == 1
    | _ => false)
  | _, _ => false
theorem sizes_of {K : PySem.W.Frag} {a : Addr} {o : Obj} (ho : K.lookup a = some o) (h : sizesB o = true) (H : Hp) : SqT K H a ([6, 6, 6, 2, 2, 3, 1].map V.int) := by
  unfold sizesB at h
  split at h
  · rename_i n its k hc hd
    rw [Bool.and_eq_true] at h
    obtain ⟨h1, h2⟩ := h
    split at h2
    · rename_i e
      simp only [Bool.and_eq_true, beq_iff_eq] at h2 h1
      obtain ⟨⟨⟨⟨⟨⟨q1, q2⟩, q3⟩, q4⟩, q5⟩, q6⟩, q7⟩ := h2
      subst q1 q2 q3 q4 q5 q6 q7 h1
      refine .inr ⟨o, its, k, ho, hc, hd, ?_, ?_⟩
      · rw [← Array.length_toList, e]
        show 7 ≤ sizeLine
        decide
      · rw [e]
        exact .cons ⟨_, rfl⟩ (.cons ⟨_, rfl⟩ (.cons ⟨_, rfl⟩ (.cons ⟨_, rfl⟩ (.cons ⟨_, rfl⟩ (.cons ⟨_, rfl⟩ (.cons ⟨_, rfl⟩ .nil))))))
    · cases h2
  · cases h
theorem mk_fun {K : PySem.W.Frag} {h : Heap} {mg : Str → Option Value} (X : K.In h) (G : h.Ns mainGlobals mg) {x : Str} {st : Stmt} {f : Addr} {od an : Option Addr} {sl : Array (Option Value)} {oc kV dc pm cd ct : Value}
    (a : PySem.W.nsIn K mainGlobals x = some (some (.ref f))) (l : K.lookup f = some ⟨oc, od, .func (PySem.W.fnOf x x (defArgs st) (defBody st) (defScope st) .none kV dc pm an cd ct), sl⟩) (c : PySem.W.codeIn K cd x = true) (k : PySem.W.keepIn K (.ref f) = true) :
    ∃ f fd, mg x = some (.ref f) ∧ Fun K x x st f fd := ⟨f, _, PySem.W.mg_of X G a, fun_mk (st := st) l c k⟩
theorem mk_int {K : PySem.W.Frag} {h : Heap} {mg : Str → Option Value} (X : K.In h) (G : h.Ns mainGlobals mg) {x : Str} {i : Int} {tk : Tok} (a : PySem.W.nsIn K mainGlobals x = some (some (.int i tk))) : ∃ tk, mg x = some (.int i tk) := ⟨tk, PySem.W.mg_of X G a⟩
structure Cl_Rule (K : PySem.W.Frag) (mg : Str → Option Value) (C : Addr) : Prop where
  cl : Cls K C
  mg : mg "Rule" = some (.ref C)
  n_number : NoAttr K C "number"
  n_pass_number : NoAttr K C "pass_number"
  n_befores : NoAttr K C "befores"
  n_matches : NoAttr K C "matches"
  n_afters : NoAttr K C "afters"
  n_writers : NoAttr K C "writers"
  n_in_effect : NoAttr K C "in_effect"
  f_init : ∃ f fd, Mk K C f ∧ Fun K "__init__" "Rule.__init__" s_Rule___init__ f fd
theorem mk_Rule {K : PySem.W.Frag} {h : Heap} {mg : Str → Option Value} (X : K.In h) (G : h.Ns mainGlobals mg) {C : Addr} {f0 : Addr} {od0 an0 : Option Addr} {sl0 : Array (Option Value)} {oc0 kV0 dc0 pm0 cd0 ct0 : Value}
    (aC : PySem.W.nsIn K mainGlobals "Rule" = some (some (.ref C))) (a0 : PySem.W.findIn K (.ref C) "__init__" = some (some (.ref f0))) (i0 : PySem.W.isFn K (.ref f0) = true) (l0 : K.lookup f0 = some ⟨oc0, od0, .func (PySem.W.fnOf "__init__" "Rule.__init__" (defArgs s_Rule___init__) (defBody s_Rule___init__) (defScope s_Rule___init__) .none kV0 dc0 pm0 an0 cd0 ct0), sl0⟩) (c0 : PySem.W.codeIn K cd0 "Rule.__init__" = true) (k0 : PySem.W.keepIn K (.ref f0) = true) (pg : PySem.W.plainGet K C Str.empty = true) (hd : PySem.W.hasDictIn K C = true) (po : PySem.W.plainOver K C = true) (sa : PySem.W.findIn K (.ref C) "__setattr__" = some (some (.builtin "object.__setattr__"))) (mk : PySem.W.makesIn K C = true) (kc : PySem.W.keepIn K (.ref C) = true) (n_number : PySem.W.findIn K (.ref C) "number" = some none) (n_pass_number : PySem.W.findIn K (.ref C) "pass_number" = some none) (n_befores : PySem.W.findIn K (.ref C) "befores" = some none) (n_matches : PySem.W.findIn K (.ref C) "matches" = some none) (n_afters : PySem.W.findIn K (.ref C) "afters" = some none) (n_writers : PySem.W.findIn K (.ref C) "writers" = some none) (n_in_effect : PySem.W.findIn K (.ref C) "in_effect" = some none) : ∃ C, Cl_Rule K mg C := ⟨C, ⟨pg, hd, po, sa⟩, PySem.W.mg_of X G aC, n_number, n_pass_number, n_befores, n_matches, n_afters, n_writers, n_in_effect, ⟨_, _, ⟨mk, a0, i0, kc⟩, fun_mk (st := s_Rule___init__) l0 c0 k0⟩⟩
structure Cl_Book (K : PySem.W.Frag) (mg : Str → Option Value) (C : Addr) : Prop where
  cl : Cls K C
  mg : mg "Book" = some (.ref C)
  n_sets : NoAttr K C "sets"
  n_maps : NoAttr K C "maps"
  n_rules : NoAttr K C "rules"
  f_init : ∃ f fd, Mk K C f ∧ Fun K "__init__" "Book.__init__" s_Book___init__ f fd
  f_add_set : ∃ f fd, Meth K C "add_set" f ∧ Fun K "add_set" "Book.add_set" s_Book_add_set f fd
  f_add_map : ∃ f fd, Meth K C "add_map" f ∧ Fun K "add_map" "Book.add_map" s_Book_add_map f fd
  f_add_rule : ∃ f fd, Meth K C "add_rule" f ∧ Fun K "add_rule" "Book.add_rule" s_Book_add_rule f fd
  f_turn_rule : ∃ f fd, Meth K C "turn_rule" f ∧ Fun K "turn_rule" "Book.turn_rule" s_Book_turn_rule f fd
  f_ask_set : ∃ f fd, Meth K C "ask_set" f ∧ Fun K "ask_set" "Book.ask_set" s_Book_ask_set f fd
  f_ask_map : ∃ f fd, Meth K C "ask_map" f ∧ Fun K "ask_map" "Book.ask_map" s_Book_ask_map f fd
  f_find_place : ∃ f fd, Meth K C "find_place" f ∧ Fun K "find_place" "Book.find_place" s_Book_find_place f fd
theorem mk_Book {K : PySem.W.Frag} {h : Heap} {mg : Str → Option Value} (X : K.In h) (G : h.Ns mainGlobals mg) {C : Addr} {f0 : Addr} {od0 an0 : Option Addr} {sl0 : Array (Option Value)} {oc0 kV0 dc0 pm0 cd0 ct0 : Value} {f1 : Addr} {od1 an1 : Option Addr} {sl1 : Array (Option Value)} {oc1 kV1 dc1 pm1 cd1 ct1 : Value} {f2 : Addr} {od2 an2 : Option Addr} {sl2 : Array (Option Value)} {oc2 kV2 dc2 pm2 cd2 ct2 : Value} {f3 : Addr} {od3 an3 : Option Addr} {sl3 : Array (Option Value)} {oc3 kV3 dc3 pm3 cd3 ct3 : Value} {f4 : Addr} {od4 an4 : Option Addr} {sl4 : Array (Option Value)} {oc4 kV4 dc4 pm4 cd4 ct4 : Value} {f5 : Addr} {od5 an5 : Option Addr} {sl5 : Array (Option Value)} {oc5 kV5 dc5 pm5 cd5 ct5 : Value} {f6 : Addr} {od6 an6 : Option Addr} {sl6 : Array (Option Value)} {oc6 kV6 dc6 pm6 cd6 ct6 : Value} {f7 : Addr} {od7 an7 : Option Addr} {sl7 : Array (Option Value)} {oc7 kV7 dc7 pm7 cd7 ct7 : Value}
    (aC : PySem.W.nsIn K mainGlobals "Book" = some (some (.ref C))) (a0 : PySem.W.findIn K (.ref C) "__init__" = some (some (.ref f0))) (i0 : PySem.W.isFn K (.ref f0) = true) (l0 : K.lookup f0 = some ⟨oc0, od0, .func (PySem.W.fnOf "__init__" "Book.__init__" (defArgs s_Book___init__) (defBody s_Book___init__) (defScope s_Book___init__) .none kV0 dc0 pm0 an0 cd0 ct0), sl0⟩) (c0 : PySem.W.codeIn K cd0 "Book.__init__" = true) (k0 : PySem.W.keepIn K (.ref f0) = true) (a1 : PySem.W.findIn K (.ref C) "add_set" = some (some (.ref f1))) (i1 : PySem.W.isFn K (.ref f1) = true) (l1 : K.lookup f1 = some ⟨oc1, od1, .func (PySem.W.fnOf "add_set" "Book.add_set" (defArgs s_Book_add_set) (defBody s_Book_add_set) (defScope s_Book_add_set) .none kV1 dc1 pm1 an1 cd1 ct1), sl1⟩) (c1 : PySem.W.codeIn K cd1 "Book.add_set" = true) (k1 : PySem.W.keepIn K (.ref f1) = true) (a2 : PySem.W.findIn K (.ref C) "add_map" = some (some (.ref f2))) (i2 : PySem.W.isFn K (.ref f2) = true) (l2 : K.lookup f2 = some ⟨oc2, od2, .func (PySem.W.fnOf "add_map" "Book.add_map" (defArgs s_Book_add_map) (defBody s_Book_add_map) (defScope s_Book_add_map) .none kV2 dc2 pm2 an2 cd2 ct2), sl2⟩) (c2 : PySem.W.codeIn K cd2 "Book.add_map" = true) (k2 : PySem.W.keepIn K (.ref f2) = true) (a3 : PySem.W.findIn K (.ref C) "add_rule" = some (some (.ref f3))) (i3 : PySem.W.isFn K (.ref f3) = true) (l3 : K.lookup f3 = some ⟨oc3, od3, .func (PySem.W.fnOf "add_rule" "Book.add_rule" (defArgs s_Book_add_rule) (defBody s_Book_add_rule) (defScope s_Book_add_rule) .none kV3 dc3 pm3 an3 cd3 ct3), sl3⟩) (c3 : PySem.W.codeIn K cd3 "Book.add_rule" = true) (k3 : PySem.W.keepIn K (.ref f3) = true) (a4 : PySem.W.findIn K (.ref C) "turn_rule" = some (some (.ref f4))) (i4 : PySem.W.isFn K (.ref f4) = true) (l4 : K.lookup f4 = some ⟨oc4, od4, .func (PySem.W.fnOf "turn_rule" "Book.turn_rule" (defArgs s_Book_turn_rule) (defBody s_Book_turn_rule) (defScope s_Book_turn_rule) .none kV4 dc4 pm4 an4 cd4 ct4), sl4⟩) (c4 : PySem.W.codeIn K cd4 "Book.turn_rule" = true) (k4 : PySem.W.keepIn K (.ref f4) = true) (a5 : PySem.W.findIn K (.ref C) "ask_set" = some (some (.ref f5))) (i5 : PySem.W.isFn K (.ref f5) = true) (l5 : K.lookup f5 = some ⟨oc5, od5, .func (PySem.W.fnOf "ask_set" "Book.ask_set" (defArgs s_Book_ask_set) (defBody s_Book_ask_set) (defScope s_Book_ask_set) .none kV5 dc5 pm5 an5 cd5 ct5), sl5⟩) (c5 : PySem.W.codeIn K cd5 "Book.ask_set" = true) (k5 : PySem.W.keepIn K (.ref f5) = true) (a6 : PySem.W.findIn K (.ref C) "ask_map" = some (some (.ref f6))) (i6 : PySem.W.isFn K (.ref f6) = true) (l6 : K.lookup f6 = some ⟨oc6, od6, .func (PySem.W.fnOf "ask_map" "Book.ask_map" (defArgs s_Book_ask_map) (defBody s_Book_ask_map) (defScope s_Book_ask_map) .none kV6 dc6 pm6 an6 cd6 ct6), sl6⟩) (c6 : PySem.W.codeIn K cd6 "Book.ask_map" = true) (k6 : PySem.W.keepIn K (.ref f6) = true) (a7 : PySem.W.findIn K (.ref C) "find_place" = some (some (.ref f7))) (i7 : PySem.W.isFn K (.ref f7) = true) (l7 : K.lookup f7 = some ⟨oc7, od7, .func (PySem.W.fnOf "find_place" "Book.find_place" (defArgs s_Book_find_place) (defBody s_Book_find_place) (defScope s_Book_find_place) .none kV7 dc7 pm7 an7 cd7 ct7), sl7⟩) (c7 : PySem.W.codeIn K cd7 "Book.find_place" = true) (k7 : PySem.W.keepIn K (.ref f7) = true) (pg : PySem.W.plainGet K C Str.empty = true) (hd : PySem.W.hasDictIn K C = true) (po : PySem.W.plainOver K C = true) (sa : PySem.W.findIn K (.ref C) "__setattr__" = some (some (.builtin "object.__setattr__"))) (mk : PySem.W.makesIn K C = true) (kc : PySem.W.keepIn K (.ref C) = true) (n_sets : PySem.W.findIn K (.ref C) "sets" = some none) (n_maps : PySem.W.findIn K (.ref C) "maps" = some none) (n_rules : PySem.W.findIn K (.ref C) "rules" = some none) : ∃ C, Cl_Book K mg C := ⟨C, ⟨pg, hd, po, sa⟩, PySem.W.mg_of X G aC, n_sets, n_maps, n_rules, ⟨_, _, ⟨mk, a0, i0, kc⟩, fun_mk (st := s_Book___init__) l0 c0 k0⟩, ⟨_, _, ⟨a1, i1, k1⟩, fun_mk (st := s_Book_add_set) l1 c1 k1⟩, ⟨_, _, ⟨a2, i2, k2⟩, fun_mk (st := s_Book_add_map) l2 c2 k2⟩, ⟨_, _, ⟨a3, i3, k3⟩, fun_mk (st := s_Book_add_rule) l3 c3 k3⟩, ⟨_, _, ⟨a4, i4, k4⟩, fun_mk (st := s_Book_turn_rule) l4 c4 k4⟩, ⟨_, _, ⟨a5, i5, k5⟩, fun_mk (st := s_Book_ask_set) l5 c5 k5⟩, ⟨_, _, ⟨a6, i6, k6⟩, fun_mk (st := s_Book_ask_map) l6 c6 k6⟩, ⟨_, _, ⟨a7, i7, k7⟩, fun_mk (st := s_Book_find_place) l7 c7 k7⟩⟩
structure Cl_Reader (K : PySem.W.Frag) (mg : Str → Option Value) (C : Addr) : Prop where
  cl : Cls K C
  mg : mg "Reader" = some (.ref C)
  n_calls : NoAttr K C "calls"
  n_place : NoAttr K C "place"
  f_init : ∃ f fd, Mk K C f ∧ Fun K "__init__" "Reader.__init__" s_Reader___init__ f fd
  f_is_done : ∃ f fd, Meth K C "is_done" f ∧ Fun K "is_done" "Reader.is_done" s_Reader_is_done f fd
  f_take_number : ∃ f fd, Meth K C "take_number" f ∧ Fun K "take_number" "Reader.take_number" s_Reader_take_number f fd
  f_take_row : ∃ f fd, Meth K C "take_row" f ∧ Fun K "take_row" "Reader.take_row" s_Reader_take_row f fd
theorem mk_Reader {K : PySem.W.Frag} {h : Heap} {mg : Str → Option Value} (X : K.In h) (G : h.Ns mainGlobals mg) {C : Addr} {f0 : Addr} {od0 an0 : Option Addr} {sl0 : Array (Option Value)} {oc0 kV0 dc0 pm0 cd0 ct0 : Value} {f1 : Addr} {od1 an1 : Option Addr} {sl1 : Array (Option Value)} {oc1 kV1 dc1 pm1 cd1 ct1 : Value} {f2 : Addr} {od2 an2 : Option Addr} {sl2 : Array (Option Value)} {oc2 kV2 dc2 pm2 cd2 ct2 : Value} {f3 : Addr} {od3 an3 : Option Addr} {sl3 : Array (Option Value)} {oc3 kV3 dc3 pm3 cd3 ct3 : Value}
    (aC : PySem.W.nsIn K mainGlobals "Reader" = some (some (.ref C))) (a0 : PySem.W.findIn K (.ref C) "__init__" = some (some (.ref f0))) (i0 : PySem.W.isFn K (.ref f0) = true) (l0 : K.lookup f0 = some ⟨oc0, od0, .func (PySem.W.fnOf "__init__" "Reader.__init__" (defArgs s_Reader___init__) (defBody s_Reader___init__) (defScope s_Reader___init__) .none kV0 dc0 pm0 an0 cd0 ct0), sl0⟩) (c0 : PySem.W.codeIn K cd0 "Reader.__init__" = true) (k0 : PySem.W.keepIn K (.ref f0) = true) (a1 : PySem.W.findIn K (.ref C) "is_done" = some (some (.ref f1))) (i1 : PySem.W.isFn K (.ref f1) = true) (l1 : K.lookup f1 = some ⟨oc1, od1, .func (PySem.W.fnOf "is_done" "Reader.is_done" (defArgs s_Reader_is_done) (defBody s_Reader_is_done) (defScope s_Reader_is_done) .none kV1 dc1 pm1 an1 cd1 ct1), sl1⟩) (c1 : PySem.W.codeIn K cd1 "Reader.is_done" = true) (k1 : PySem.W.keepIn K (.ref f1) = true) (a2 : PySem.W.findIn K (.ref C) "take_number" = some (some (.ref f2))) (i2 : PySem.W.isFn K (.ref f2) = true) (l2 : K.lookup f2 = some ⟨oc2, od2, .func (PySem.W.fnOf "take_number" "Reader.take_number" (defArgs s_Reader_take_number) (defBody s_Reader_take_number) (defScope s_Reader_take_number) .none kV2 dc2 pm2 an2 cd2 ct2), sl2⟩) (c2 : PySem.W.codeIn K cd2 "Reader.take_number" = true) (k2 : PySem.W.keepIn K (.ref f2) = true) (a3 : PySem.W.findIn K (.ref C) "take_row" = some (some (.ref f3))) (i3 : PySem.W.isFn K (.ref f3) = true) (l3 : K.lookup f3 = some ⟨oc3, od3, .func (PySem.W.fnOf "take_row" "Reader.take_row" (defArgs s_Reader_take_row) (defBody s_Reader_take_row) (defScope s_Reader_take_row) .none kV3 dc3 pm3 an3 cd3 ct3), sl3⟩) (c3 : PySem.W.codeIn K cd3 "Reader.take_row" = true) (k3 : PySem.W.keepIn K (.ref f3) = true) (pg : PySem.W.plainGet K C Str.empty = true) (hd : PySem.W.hasDictIn K C = true) (po : PySem.W.plainOver K C = true) (sa : PySem.W.findIn K (.ref C) "__setattr__" = some (some (.builtin "object.__setattr__"))) (mk : PySem.W.makesIn K C = true) (kc : PySem.W.keepIn K (.ref C) = true) (n_calls : PySem.W.findIn K (.ref C) "calls" = some none) (n_place : PySem.W.findIn K (.ref C) "place" = some none) : ∃ C, Cl_Reader K mg C := ⟨C, ⟨pg, hd, po, sa⟩, PySem.W.mg_of X G aC, n_calls, n_place, ⟨_, _, ⟨mk, a0, i0, kc⟩, fun_mk (st := s_Reader___init__) l0 c0 k0⟩, ⟨_, _, ⟨a1, i1, k1⟩, fun_mk (st := s_Reader_is_done) l1 c1 k1⟩, ⟨_, _, ⟨a2, i2, k2⟩, fun_mk (st := s_Reader_take_number) l2 c2 k2⟩, ⟨_, _, ⟨a3, i3, k3⟩, fun_mk (st := s_Reader_take_row) l3 c3 k3⟩⟩
structure Cl_Fit (K : PySem.W.Frag) (mg : Str → Option Value) (C : Addr) : Prop where
  cl : Cls K C
  mg : mg "Fit" = some (.ref C)
  n_rule : NoAttr K C "rule"
  n_bounds : NoAttr K C "bounds"
  f_init : ∃ f fd, Mk K C f ∧ Fun K "__init__" "Fit.__init__" s_Fit___init__ f fd
theorem mk_Fit {K : PySem.W.Frag} {h : Heap} {mg : Str → Option Value} (X : K.In h) (G : h.Ns mainGlobals mg) {C : Addr} {f0 : Addr} {od0 an0 : Option Addr} {sl0 : Array (Option Value)} {oc0 kV0 dc0 pm0 cd0 ct0 : Value}
    (aC : PySem.W.nsIn K mainGlobals "Fit" = some (some (.ref C))) (a0 : PySem.W.findIn K (.ref C) "__init__" = some (some (.ref f0))) (i0 : PySem.W.isFn K (.ref f0) = true) (l0 : K.lookup f0 = some ⟨oc0, od0, .func (PySem.W.fnOf "__init__" "Fit.__init__" (defArgs s_Fit___init__) (defBody s_Fit___init__) (defScope s_Fit___init__) .none kV0 dc0 pm0 an0 cd0 ct0), sl0⟩) (c0 : PySem.W.codeIn K cd0 "Fit.__init__" = true) (k0 : PySem.W.keepIn K (.ref f0) = true) (pg : PySem.W.plainGet K C Str.empty = true) (hd : PySem.W.hasDictIn K C = true) (po : PySem.W.plainOver K C = true) (sa : PySem.W.findIn K (.ref C) "__setattr__" = some (some (.builtin "object.__setattr__"))) (mk : PySem.W.makesIn K C = true) (kc : PySem.W.keepIn K (.ref C) = true) (n_rule : PySem.W.findIn K (.ref C) "rule" = some none) (n_bounds : PySem.W.findIn K (.ref C) "bounds" = some none) : ∃ C, Cl_Fit K mg C := ⟨C, ⟨pg, hd, po, sa⟩, PySem.W.mg_of X G aC, n_rule, n_bounds, ⟨_, _, ⟨mk, a0, i0, kc⟩, fun_mk (st := s_Fit___init__) l0 c0 k0⟩⟩
structure Cl_Written (K : PySem.W.Frag) (mg : Str → Option Value) (C : Addr) : Prop where
  cl : Cls K C
  mg : mg "Written" = some (.ref C)
  n_row : NoAttr K C "row"
  n_cursor : NoAttr K C "cursor"
  f_init : ∃ f fd, Mk K C f ∧ Fun K "__init__" "Written.__init__" s_Written___init__ f fd
theorem mk_Written {K : PySem.W.Frag} {h : Heap} {mg : Str → Option Value} (X : K.In h) (G : h.Ns mainGlobals mg) {C : Addr} {f0 : Addr} {od0 an0 : Option Addr} {sl0 : Array (Option Value)} {oc0 kV0 dc0 pm0 cd0 ct0 : Value}
    (aC : PySem.W.nsIn K mainGlobals "Written" = some (some (.ref C))) (a0 : PySem.W.findIn K (.ref C) "__init__" = some (some (.ref f0))) (i0 : PySem.W.isFn K (.ref f0) = true) (l0 : K.lookup f0 = some ⟨oc0, od0, .func (PySem.W.fnOf "__init__" "Written.__init__" (defArgs s_Written___init__) (defBody s_Written___init__) (defScope s_Written___init__) .none kV0 dc0 pm0 an0 cd0 ct0), sl0⟩) (c0 : PySem.W.codeIn K cd0 "Written.__init__" = true) (k0 : PySem.W.keepIn K (.ref f0) = true) (pg : PySem.W.plainGet K C Str.empty = true) (hd : PySem.W.hasDictIn K C = true) (po : PySem.W.plainOver K C = true) (sa : PySem.W.findIn K (.ref C) "__setattr__" = some (some (.builtin "object.__setattr__"))) (mk : PySem.W.makesIn K C = true) (kc : PySem.W.keepIn K (.ref C) = true) (n_row : PySem.W.findIn K (.ref C) "row" = some none) (n_cursor : PySem.W.findIn K (.ref C) "cursor" = some none) : ∃ C, Cl_Written K mg C := ⟨C, ⟨pg, hd, po, sa⟩, PySem.W.mg_of X G aC, n_row, n_cursor, ⟨_, _, ⟨mk, a0, i0, kc⟩, fun_mk (st := s_Written___init__) l0 c0 k0⟩⟩
structure Cl_Rewriting (K : PySem.W.Frag) (mg : Str → Option Value) (C : Addr) : Prop where
  cl : Cls K C
  mg : mg "Rewriting" = some (.ref C)
  n_cap : NoAttr K C "cap"
  n_left : NoAttr K C "left"
  n_right : NoAttr K C "right"
  n_steps : NoAttr K C "steps"
  n_refusal : NoAttr K C "refusal"
  f_init : ∃ f fd, Mk K C f ∧ Fun K "__init__" "Rewriting.__init__" s_Rewriting___init__ f fd
theorem mk_Rewriting {K : PySem.W.Frag} {h : Heap} {mg : Str → Option Value} (X : K.In h) (G : h.Ns mainGlobals mg) {C : Addr} {f0 : Addr} {od0 an0 : Option Addr} {sl0 : Array (Option Value)} {oc0 kV0 dc0 pm0 cd0 ct0 : Value}
    (aC : PySem.W.nsIn K mainGlobals "Rewriting" = some (some (.ref C))) (a0 : PySem.W.findIn K (.ref C) "__init__" = some (some (.ref f0))) (i0 : PySem.W.isFn K (.ref f0) = true) (l0 : K.lookup f0 = some ⟨oc0, od0, .func (PySem.W.fnOf "__init__" "Rewriting.__init__" (defArgs s_Rewriting___init__) (defBody s_Rewriting___init__) (defScope s_Rewriting___init__) .none kV0 dc0 pm0 an0 cd0 ct0), sl0⟩) (c0 : PySem.W.codeIn K cd0 "Rewriting.__init__" = true) (k0 : PySem.W.keepIn K (.ref f0) = true) (pg : PySem.W.plainGet K C Str.empty = true) (hd : PySem.W.hasDictIn K C = true) (po : PySem.W.plainOver K C = true) (sa : PySem.W.findIn K (.ref C) "__setattr__" = some (some (.builtin "object.__setattr__"))) (mk : PySem.W.makesIn K C = true) (kc : PySem.W.keepIn K (.ref C) = true) (n_cap : PySem.W.findIn K (.ref C) "cap" = some none) (n_left : PySem.W.findIn K (.ref C) "left" = some none) (n_right : PySem.W.findIn K (.ref C) "right" = some none) (n_steps : PySem.W.findIn K (.ref C) "steps" = some none) (n_refusal : PySem.W.findIn K (.ref C) "refusal" = some none) : ∃ C, Cl_Rewriting K mg C := ⟨C, ⟨pg, hd, po, sa⟩, PySem.W.mg_of X G aC, n_cap, n_left, n_right, n_steps, n_refusal, ⟨_, _, ⟨mk, a0, i0, kc⟩, fun_mk (st := s_Rewriting___init__) l0 c0 k0⟩⟩
theorem mk_txt {K : PySem.W.Frag} {h : Heap} {mg : Str → Option Value} (X : K.In h) (G : h.Ns mainGlobals mg) {Sz : Addr} {o : Obj}
    (aS : PySem.W.nsIn K mainGlobals "ITEM_SIZES" = some (some (.ref Sz))) (lS : K.lookup Sz = some o) (hB : sizesB o = true)
    (h_CODE_POINTS : ∃ tk, mg "CODE_POINTS" = some (.int (1114112) tk))
    (h_BEFORE : ∃ tk, mg "BEFORE" = some (.int (0) tk))
    (h_MATCH : ∃ tk, mg "MATCH" = some (.int (1) tk))
    (h_AFTER : ∃ tk, mg "AFTER" = some (.int (2) tk))
    (h_PUT : ∃ tk, mg "PUT" = some (.int (3) tk))
    (h_COPY : ∃ tk, mg "COPY" = some (.int (4) tk))
    (h_MAPPED : ∃ tk, mg "MAPPED" = some (.int (5) tk))
    (h_CURSOR : ∃ tk, mg "CURSOR" = some (.int (6) tk))
    (h_OF_POINT : ∃ tk, mg "OF_POINT" = some (.int (0) tk))
    (h_OF_SET : ∃ tk, mg "OF_SET" = some (.int (1) tk))
    (h_OF_ANY : ∃ tk, mg "OF_ANY" = some (.int (2) tk))
    (h_MOST_ITEMS : ∃ tk, mg "MOST_ITEMS" = some (.int (32) tk))
    (h_LEAST_BOUND : ∃ tk, mg "LEAST_BOUND" = some (.int (62) tk))
    (h_MOST_BOUND : ∃ tk, mg "MOST_BOUND" = some (.int (63) tk))
    (h_MOST_RANGES : ∃ tk, mg "MOST_RANGES" = some (.int (64) tk))
    (h_MOST_PAIRS : ∃ tk, mg "MOST_PAIRS" = some (.int (256) tk))
    (h_MOST_SETS : ∃ tk, mg "MOST_SETS" = some (.int (32) tk))
    (h_MOST_MAPS : ∃ tk, mg "MOST_MAPS" = some (.int (16) tk))
    (h_MOST_RULES : ∃ tk, mg "MOST_RULES" = some (.int (64) tk))
    (h_LAST_PASS : ∃ tk, mg "LAST_PASS" = some (.int (7) tk))
    (h_MOST_CAP : ∃ tk, mg "MOST_CAP" = some (.int (64) tk))
    (h_STEPS_A_POINT : ∃ tk, mg "STEPS_A_POINT" = some (.int (16) tk))
    (h_POINTS_ADDED : ∃ tk, mg "POINTS_ADDED" = some (.int (16) tk))
    (h_ENDLESS : ∃ tk, mg "ENDLESS" = some (.int (-6) tk))
    (h_TOO_LONG : ∃ tk, mg "TOO_LONG" = some (.int (-5) tk))
    (h_SET_CALL : ∃ tk, mg "SET_CALL" = some (.int (0) tk))
    (h_MAP_CALL : ∃ tk, mg "MAP_CALL" = some (.int (1) tk))
    (h_RULE_CALL : ∃ tk, mg "RULE_CALL" = some (.int (2) tk))
    (h_TURN_CALL : ∃ tk, mg "TURN_CALL" = some (.int (3) tk))
    (h_HAS_CALL : ∃ tk, mg "HAS_CALL" = some (.int (4) tk))
    (h_LOOK_CALL : ∃ tk, mg "LOOK_CALL" = some (.int (5) tk))
    (h_FIND_CALL : ∃ tk, mg "FIND_CALL" = some (.int (6) tk))
    (h_APPLY_CALL : ∃ tk, mg "APPLY_CALL" = some (.int (7) tk))
    (h_STEPS_CALL : ∃ tk, mg "STEPS_CALL" = some (.int (8) tk))
    (b_len : PySem.W.nsIn K mainGlobals "len" = some none)
    (b_min : PySem.W.nsIn K mainGlobals "min" = some none)
    (b_max : PySem.W.nsIn K mainGlobals "max" = some none)
    (b_all : PySem.W.nsIn K mainGlobals "all" = some none)
    (b_any : PySem.W.nsIn K mainGlobals "any" = some none)
    (b_sum : PySem.W.nsIn K mainGlobals "sum" = some none)
    (b_range : PySem.W.nsIn K mainGlobals "range" = some none)
    (b_enumerate : PySem.W.nsIn K mainGlobals "enumerate" = some none)
    (b_tuple : PySem.W.nsIn K mainGlobals "tuple" = some none)
    (b_list : PySem.W.nsIn K mainGlobals "list" = some none)
    (b_dict : PySem.W.nsIn K mainGlobals "dict" = some none)
    (b_zip : PySem.W.nsIn K mainGlobals "zip" = some none)
    (b_reversed : PySem.W.nsIn K mainGlobals "reversed" = some none)
    : ∃ Sz, Txt K mg Sz := ⟨Sz, {
      c_CODE_POINTS := h_CODE_POINTS
      c_BEFORE := h_BEFORE
      c_MATCH := h_MATCH
      c_AFTER := h_AFTER
      c_PUT := h_PUT
      c_COPY := h_COPY
      c_MAPPED := h_MAPPED
      c_CURSOR := h_CURSOR
      c_ITEM_SIZES := PySem.W.mg_of X G aS
      c_OF_POINT := h_OF_POINT
      c_OF_SET := h_OF_SET
      c_OF_ANY := h_OF_ANY
      c_MOST_ITEMS := h_MOST_ITEMS
      c_LEAST_BOUND := h_LEAST_BOUND
      c_MOST_BOUND := h_MOST_BOUND
      c_MOST_RANGES := h_MOST_RANGES
      c_MOST_PAIRS := h_MOST_PAIRS
      c_MOST_SETS := h_MOST_SETS
      c_MOST_MAPS := h_MOST_MAPS
      c_MOST_RULES := h_MOST_RULES
      c_LAST_PASS := h_LAST_PASS
      c_MOST_CAP := h_MOST_CAP
      c_STEPS_A_POINT := h_STEPS_A_POINT
      c_POINTS_ADDED := h_POINTS_ADDED
      c_ENDLESS := h_ENDLESS
      c_TOO_LONG := h_TOO_LONG
      c_SET_CALL := h_SET_CALL
      c_MAP_CALL := h_MAP_CALL
      c_RULE_CALL := h_RULE_CALL
      c_TURN_CALL := h_TURN_CALL
      c_HAS_CALL := h_HAS_CALL
      c_LOOK_CALL := h_LOOK_CALL
      c_FIND_CALL := h_FIND_CALL
      c_APPLY_CALL := h_APPLY_CALL
      c_STEPS_CALL := h_STEPS_CALL
      sizes := sizes_of lS hB
      b_len := PySem.W.mg_none_of X G b_len
      b_min := PySem.W.mg_none_of X G b_min
      b_max := PySem.W.mg_none_of X G b_max
      b_all := PySem.W.mg_none_of X G b_all
      b_any := PySem.W.mg_none_of X G b_any
      b_sum := PySem.W.mg_none_of X G b_sum
      b_range := PySem.W.mg_none_of X G b_range
      b_enumerate := PySem.W.mg_none_of X G b_enumerate
      b_tuple := PySem.W.mg_none_of X G b_tuple
      b_list := PySem.W.mg_none_of X G b_list
      b_dict := PySem.W.mg_none_of X G b_dict
      b_zip := PySem.W.mg_none_of X G b_zip
      b_reversed := PySem.W.mg_none_of X G b_reversed
    }⟩
theorem cal_of {P : Program} {w : World} {K : PySem.W.Frag} {mg : Str → Option Value} {base : Heap} {k : Nat} {x : Str} {ps : List Str} {sp : Sp} {st : Stmt} (h : ∃ f fd, mg x = some (.ref f) ∧ Fun K x x st f fd) (hb : ∀ {f fd}, Fun K x x st f fd → Binds K fd ps []) (ok : ∀ {f fd}, Fun K x x st f fd → FnOk P w K mg base CX0 k f fd ps sp) : Cal P w K mg base k x ps sp := by
  obtain ⟨f, fd, h1, F⟩ := h
  exact ⟨f, fd, h1, F.kp, hb F, ok F⟩
theorem mth_of {P : Program} {w : World} {K : PySem.W.Frag} {mg : Str → Option Value} {base : Heap} {k : Nat} {C : Addr} {x q : Str} {ps : List Str} {sp : Sp} {st : Stmt} (cl : Cls K C) (h : ∃ f fd, Meth K C x f ∧ Fun K x q st f fd) (hb : ∀ {f fd}, Fun K x q st f fd → Binds K fd ps []) (ok : ∀ {f fd}, Fun K x q st f fd → FnOk P w K mg base CX0 k f fd ps sp) : Mth P w K mg base k C x ps sp := by
  obtain ⟨f, fd, h1, F⟩ := h
  exact ⟨cl, f, fd, h1, hb F, ok F⟩
theorem mkr_of {P : Program} {w : World} {K : PySem.W.Frag} {mg : Str → Option Value} {base : Heap} {k : Nat} {C : Addr} {x q : Str} {ps : List Str} {sp : Sp} {st : Stmt} (hx : mg x = some (.ref C)) (h : ∃ f fd, Mk K C f ∧ Fun K "__init__" q st f fd) (hb : ∀ {f fd}, Fun K "__init__" q st f fd → Binds K fd ps []) (ok : ∀ {f fd}, Fun K "__init__" q st f fd → FnOk P w K mg base CX0 k f fd ps sp) : Mkr P w K mg base k x C ps sp := by
  obtain ⟨f, fd, h1, F⟩ := h
  exact ⟨f, fd, hx, h1, hb F, ok F⟩
structure Facts (K : PySem.W.Frag) (mg : Str → Option Value) : Prop where
  T : ∃ Sz, Txt K mg Sz
  f_is_code_point : ∃ f fd, mg "is_code_point" = some (.ref f) ∧ Fun K "is_code_point" "is_code_point" s_is_code_point f fd
  f_are_code_points : ∃ f fd, mg "are_code_points" = some (.ref f) ∧ Fun K "are_code_points" "are_code_points" s_are_code_points f fd
  f_are_paired : ∃ f fd, mg "are_paired" = some (.ref f) ∧ Fun K "are_paired" "are_paired" s_are_paired f fd
  f_pairs_of : ∃ f fd, mg "pairs_of" = some (.ref f) ∧ Fun K "pairs_of" "pairs_of" s_pairs_of f fd
  f_in_ranges : ∃ f fd, mg "in_ranges" = some (.ref f) ∧ Fun K "in_ranges" "in_ranges" s_in_ranges f fd
  f_split_items : ∃ f fd, mg "split_items" = some (.ref f) ∧ Fun K "split_items" "split_items" s_split_items f fd
  f_first_wrong_item : ∃ f fd, mg "first_wrong_item" = some (.ref f) ∧ Fun K "first_wrong_item" "first_wrong_item" s_first_wrong_item f fd
  f_can_stand : ∃ f fd, mg "can_stand" = some (.ref f) ∧ Fun K "can_stand" "can_stand" s_can_stand f fd
  f_kind_can_come : ∃ f fd, mg "kind_can_come" = some (.ref f) ∧ Fun K "kind_can_come" "kind_can_come" s_kind_can_come f fd
  f_group_of : ∃ f fd, mg "group_of" = some (.ref f) ∧ Fun K "group_of" "group_of" s_group_of f fd
  f_count_kind : ∃ f fd, mg "count_kind" = some (.ref f) ∧ Fun K "count_kind" "count_kind" s_count_kind f fd
  f_elements_of : ∃ f fd, mg "elements_of" = some (.ref f) ∧ Fun K "elements_of" "elements_of" s_elements_of f fd
  f_writers_of : ∃ f fd, mg "writers_of" = some (.ref f) ∧ Fun K "writers_of" "writers_of" s_writers_of f fd
  f_is_element : ∃ f fd, mg "is_element" = some (.ref f) ∧ Fun K "is_element" "is_element" s_is_element f fd
  f_are_bounds : ∃ f fd, mg "are_bounds" = some (.ref f) ∧ Fun K "are_bounds" "are_bounds" s_are_bounds f fd
  f_first_fit : ∃ f fd, mg "first_fit" = some (.ref f) ∧ Fun K "first_fit" "first_fit" s_first_fit f fd
  f_bounds_of_matches : ∃ f fd, mg "bounds_of_matches" = some (.ref f) ∧ Fun K "bounds_of_matches" "bounds_of_matches" s_bounds_of_matches f fd
  f_bounds_of_row : ∃ f fd, mg "bounds_of_row" = some (.ref f) ∧ Fun K "bounds_of_row" "bounds_of_row" s_bounds_of_row f fd
  f_end_of_element : ∃ f fd, mg "end_of_element" = some (.ref f) ∧ Fun K "end_of_element" "end_of_element" s_end_of_element f fd
  f_is_of : ∃ f fd, mg "is_of" = some (.ref f) ∧ Fun K "is_of" "is_of" s_is_of f fd
  f_write : ∃ f fd, mg "write" = some (.ref f) ∧ Fun K "write" "write" s_write f fd
  f_points_of : ∃ f fd, mg "points_of" = some (.ref f) ∧ Fun K "points_of" "points_of" s_points_of f fd
  f_span_of : ∃ f fd, mg "span_of" = some (.ref f) ∧ Fun K "span_of" "span_of" s_span_of f fd
  f_apply_rules : ∃ f fd, mg "apply_rules" = some (.ref f) ∧ Fun K "apply_rules" "apply_rules" s_apply_rules f fd
  f_list_steps : ∃ f fd, mg "list_steps" = some (.ref f) ∧ Fun K "list_steps" "list_steps" s_list_steps f fd
  f_refusal_of_text : ∃ f fd, mg "refusal_of_text" = some (.ref f) ∧ Fun K "refusal_of_text" "refusal_of_text" s_refusal_of_text f fd
  f_joined : ∃ f fd, mg "joined" = some (.ref f) ∧ Fun K "joined" "joined" s_joined f fd
  f_rewrite : ∃ f fd, mg "rewrite" = some (.ref f) ∧ Fun K "rewrite" "rewrite" s_rewrite f fd
  f_begin_again : ∃ f fd, mg "begin_again" = some (.ref f) ∧ Fun K "begin_again" "begin_again" s_begin_again f fd
  f_go_over : ∃ f fd, mg "go_over" = some (.ref f) ∧ Fun K "go_over" "go_over" s_go_over f fd
  f_move_on : ∃ f fd, mg "move_on" = some (.ref f) ∧ Fun K "move_on" "move_on" s_move_on f fd
  f_apply_fit : ∃ f fd, mg "apply_fit" = some (.ref f) ∧ Fun K "apply_fit" "apply_fit" s_apply_fit f fd
  f_answers : ∃ f fd, mg "answers" = some (.ref f) ∧ Fun K "answers" "answers" s_answers f fd
  f_answer_call : ∃ f fd, mg "answer_call" = some (.ref f) ∧ Fun K "answer_call" "answer_call" s_answer_call f fd
  c_Rule : ∃ C, Cl_Rule K mg C
  c_Book : ∃ C, Cl_Book K mg C
  c_Reader : ∃ C, Cl_Reader K mg C
  c_Fit : ∃ C, Cl_Fit K mg C
  c_Written : ∃ C, Cl_Written K mg C
  c_Rewriting : ∃ C, Cl_Rewriting K mg C
theorem all_ok {P : Program} {w : World} {K : PySem.W.Frag} {mg : Str → Option Value} {base : Heap} (X : Facts K mg) : ∃ f fd, mg "answers" = some (.ref f) ∧ Fun K "answers" "answers" s_answers f fd ∧ FnOk P w K mg base CX0 11 f fd ["calls"] (sp_answers K) := by
  obtain ⟨Sz, T⟩ := X.T
  obtain ⟨ARule, CRule⟩ := X.c_Rule
  obtain ⟨ABook, CBook⟩ := X.c_Book
  obtain ⟨AReader, CReader⟩ := X.c_Reader
  obtain ⟨AFit, CFit⟩ := X.c_Fit
  obtain ⟨AWritten, CWritten⟩ := X.c_Written
  obtain ⟨ARewriting, CRewriting⟩ := X.c_Rewriting
  obtain ⟨c, ec⟩ : ∃ c : Cs, c = ⟨ABook, ARule, AReader, AFit, AWritten, ARewriting⟩ := ⟨_, rfl⟩
  have N : Cn K c := by
    rw [ec]
    exact ⟨CRule.cl, CRule.n_number, CRule.n_pass_number, CRule.n_befores, CRule.n_matches, CRule.n_afters, CRule.n_writers, CRule.n_in_effect, CBook.cl, CBook.n_sets, CBook.n_maps, CBook.n_rules, CReader.cl, CReader.n_calls, CReader.n_place, CFit.cl, CFit.n_rule, CFit.n_bounds, CWritten.cl, CWritten.n_row, CWritten.n_cursor, CRewriting.cl, CRewriting.n_cap, CRewriting.n_left, CRewriting.n_right, CRewriting.n_steps, CRewriting.n_refusal⟩
  have eRule : c.Rule = ARule := by rw [ec]
  rw [← eRule] at CRule
  have eBook : c.Book = ABook := by rw [ec]
  rw [← eBook] at CBook
  have eReader : c.Reader = AReader := by rw [ec]
  rw [← eReader] at CReader
  have eFit : c.Fit = AFit := by rw [ec]
  rw [← eFit] at CFit
  have eWritten : c.Written = AWritten := by rw [ec]
  rw [← eWritten] at CWritten
  have eRewriting : c.Rewriting = ARewriting := by rw [ec]
  rw [← eRewriting] at CRewriting
  have c_is_code_point : Cal P w K mg base 1 "is_code_point" ["number"] sp_is_code_point := cal_of X.f_is_code_point (fun F => F.binds fun _ _ _ _ _ _ us hl => match us, hl with | [_], _ => rfl) (fun F => ok_is_code_point F T)
  have c_are_code_points : Cal P w K mg base 2 "are_code_points" ["numbers"] (sp_are_code_points K) := cal_of X.f_are_code_points (fun F => F.binds fun _ _ _ _ _ _ us hl => match us, hl with | [_], _ => rfl) (fun F => ok_are_code_points F T c_is_code_point)
  have c_are_paired : Cal P w K mg base 1 "are_paired" ["numbers", "most_pairs"] (sp_are_paired K) := cal_of X.f_are_paired (fun F => F.binds fun _ _ _ _ _ _ us hl => match us, hl with | [_, _], _ => rfl) (fun F => ok_are_paired F T)
  have c_pairs_of : Cal P w K mg base 1 "pairs_of" ["numbers"] (sp_pairs_of K) := cal_of X.f_pairs_of (fun F => F.binds fun _ _ _ _ _ _ us hl => match us, hl with | [_], _ => rfl) (fun F => ok_pairs_of F T)
  have c_in_ranges : Cal P w K mg base 1 "in_ranges" ["point", "ranges"] sp_in_ranges := cal_of X.f_in_ranges (fun F => F.binds fun _ _ _ _ _ _ us hl => match us, hl with | [_, _], _ => rfl) (fun F => ok_in_ranges F T)
  have c_split_items : Cal P w K mg base 1 "split_items" ["numbers"] (sp_split_items K) := cal_of X.f_split_items (fun F => F.binds fun _ _ _ _ _ _ us hl => match us, hl with | [_], _ => rfl) (fun F => ok_split_items F T)
  have c_group_of : Cal P w K mg base 1 "group_of" ["kind"] sp_group_of := cal_of X.f_group_of (fun F => F.binds fun _ _ _ _ _ _ us hl => match us, hl with | [_], _ => rfl) (fun F => ok_group_of F T)
  have c_count_kind : Cal P w K mg base 1 "count_kind" ["row", "kind"] (sp_count_kind K) := cal_of X.f_count_kind (fun F => F.binds fun _ _ _ _ _ _ us hl => match us, hl with | [_, _], _ => rfl) (fun F => ok_count_kind F T)
  have c_elements_of : Cal P w K mg base 1 "elements_of" ["row", "kind"] sp_elements_of := cal_of X.f_elements_of (fun F => F.binds fun _ _ _ _ _ _ us hl => match us, hl with | [_, _], _ => rfl) (fun F => ok_elements_of F T)
  have c_writers_of : Cal P w K mg base 1 "writers_of" ["row"] sp_writers_of := cal_of X.f_writers_of (fun F => F.binds fun _ _ _ _ _ _ us hl => match us, hl with | [_], _ => rfl) (fun F => ok_writers_of F T)
  have c_are_bounds : Cal P w K mg base 1 "are_bounds" ["least", "most"] sp_are_bounds := cal_of X.f_are_bounds (fun F => F.binds fun _ _ _ _ _ _ us hl => match us, hl with | [_, _], _ => rfl) (fun F => ok_are_bounds F T)
  have c_Rule : Mkr P w K mg base 2 "Rule" c.Rule ["self", "number", "pass_number", "row"] (sp_Rule c) := mkr_of CRule.mg CRule.f_init (fun F => F.binds fun _ _ _ _ _ _ us hl => match us, hl with | [_, _, _, _], _ => rfl) (fun F => ok_Rule F T N c_elements_of c_writers_of)
  have c_Book : Mkr P w K mg base 1 "Book" c.Book ["self"] (sp_Book c) := mkr_of CBook.mg CBook.f_init (fun F => F.binds fun _ _ _ _ _ _ us hl => match us, hl with | [_], _ => rfl) (fun F => ok_Book F T N)
  have c_Book_add_set : Mth P w K mg base 2 c.Book "add_set" ["self", "numbers"] (sp_Book_add_set K c) := mth_of CBook.cl CBook.f_add_set (fun F => F.binds fun _ _ _ _ _ _ us hl => match us, hl with | [_, _], _ => rfl) (fun F => ok_Book_add_set F T N c_are_paired c_pairs_of c_is_code_point)
  have c_Book_add_map : Mth P w K mg base 3 c.Book "add_map" ["self", "numbers"] (sp_Book_add_map K c) := mth_of CBook.cl CBook.f_add_map (fun F => F.binds fun _ _ _ _ _ _ us hl => match us, hl with | [_, _], _ => rfl) (fun F => ok_Book_add_map F T N c_are_paired c_pairs_of c_are_code_points)
  have c_Book_turn_rule : Mth P w K mg base 1 c.Book "turn_rule" ["self", "rule_number", "on"] (sp_Book_turn_rule c) := mth_of CBook.cl CBook.f_turn_rule (fun F => F.binds fun _ _ _ _ _ _ us hl => match us, hl with | [_, _, _], _ => rfl) (fun F => ok_Book_turn_rule F T N)
  have c_Book_ask_set : Mth P w K mg base 2 c.Book "ask_set" ["self", "set_number", "point"] (sp_Book_ask_set c) := mth_of CBook.cl CBook.f_ask_set (fun F => F.binds fun _ _ _ _ _ _ us hl => match us, hl with | [_, _, _], _ => rfl) (fun F => ok_Book_ask_set F T N c_in_ranges)
  have c_Book_ask_map : Mth P w K mg base 1 c.Book "ask_map" ["self", "map_number", "point"] (sp_Book_ask_map c) := mth_of CBook.cl CBook.f_ask_map (fun F => F.binds fun _ _ _ _ _ _ us hl => match us, hl with | [_, _, _], _ => rfl) (fun F => ok_Book_ask_map F T N)
  have c_Book_find_place : Mth P w K mg base 2 c.Book "find_place" ["self", "set_number", "start", "points"] (sp_Book_find_place K c) := mth_of CBook.cl CBook.f_find_place (fun F => F.binds fun _ _ _ _ _ _ us hl => match us, hl with | [_, _, _, _], _ => rfl) (fun F => ok_Book_find_place F T N c_in_ranges)
  have c_Reader : Mkr P w K mg base 1 "Reader" c.Reader ["self", "calls"] (sp_Reader c) := mkr_of CReader.mg CReader.f_init (fun F => F.binds fun _ _ _ _ _ _ us hl => match us, hl with | [_, _], _ => rfl) (fun F => ok_Reader F T N)
  have c_Reader_is_done : Mth P w K mg base 1 c.Reader "is_done" ["self"] (sp_Reader_is_done K c) := mth_of CReader.cl CReader.f_is_done (fun F => F.binds fun _ _ _ _ _ _ us hl => match us, hl with | [_], _ => rfl) (fun F => ok_Reader_is_done F T N)
  have c_Reader_take_number : Mth P w K mg base 1 c.Reader "take_number" ["self"] (sp_Reader_take_number K c) := mth_of CReader.cl CReader.f_take_number (fun F => F.binds fun _ _ _ _ _ _ us hl => match us, hl with | [_], _ => rfl) (fun F => ok_Reader_take_number F T N)
  have c_Reader_take_row : Mth P w K mg base 2 c.Reader "take_row" ["self"] (sp_Reader_take_row K c) := mth_of CReader.cl CReader.f_take_row (fun F => F.binds fun _ _ _ _ _ _ us hl => match us, hl with | [_], _ => rfl) (fun F => ok_Reader_take_row F T N c_Reader_take_number)
  have c_Fit : Mkr P w K mg base 1 "Fit" c.Fit ["self", "rule", "bounds"] (sp_Fit c) := mkr_of CFit.mg CFit.f_init (fun F => F.binds fun _ _ _ _ _ _ us hl => match us, hl with | [_, _, _], _ => rfl) (fun F => ok_Fit F T N)
  have c_is_of : Cal P w K mg base 2 "is_of" ["element", "point", "sets"] (sp_is_of K) := cal_of X.f_is_of (fun F => F.binds fun _ _ _ _ _ _ us hl => match us, hl with | [_, _, _], _ => rfl) (fun F => ok_is_of F T c_in_ranges)
  have c_Written : Mkr P w K mg base 1 "Written" c.Written ["self", "row", "cursor"] (sp_Written c) := mkr_of CWritten.mg CWritten.f_init (fun F => F.binds fun _ _ _ _ _ _ us hl => match us, hl with | [_, _, _], _ => rfl) (fun F => ok_Written F T N)
  have c_points_of : Cal P w K mg base 1 "points_of" ["item", "bounds", "right", "maps"] (sp_points_of K) := cal_of X.f_points_of (fun F => F.binds fun _ _ _ _ _ _ us hl => match us, hl with | [_, _, _, _], _ => rfl) (fun F => ok_points_of F T)
  have c_span_of : Cal P w K mg base 1 "span_of" ["taken", "left"] sp_span_of := cal_of X.f_span_of (fun F => F.binds fun _ _ _ _ _ _ us hl => match us, hl with | [_, _], _ => rfl) (fun F => ok_span_of F T)
  have c_Rewriting : Mkr P w K mg base 1 "Rewriting" c.Rewriting ["self", "cap", "points"] (sp_Rewriting K c) := mkr_of CRewriting.mg CRewriting.f_init (fun F => F.binds fun _ _ _ _ _ _ us hl => match us, hl with | [_, _, _], _ => rfl) (fun F => ok_Rewriting F T N)
  have c_refusal_of_text : Cal P w K mg base 3 "refusal_of_text" ["cap", "points"] (sp_refusal_of_text K) := cal_of X.f_refusal_of_text (fun F => F.binds fun _ _ _ _ _ _ us hl => match us, hl with | [_, _], _ => rfl) (fun F => ok_refusal_of_text F T c_are_code_points)
  have c_joined : Cal P w K mg base 1 "joined" ["rows"] sp_joined := cal_of X.f_joined (fun F => F.binds fun _ _ _ _ _ _ us hl => match us, hl with | [_], _ => rfl) (fun F => ok_joined F T)
  have c_begin_again : Cal P w K mg base 1 "begin_again" ["text"] (sp_begin_again c) := cal_of X.f_begin_again (fun F => F.binds fun _ _ _ _ _ _ us hl => match us, hl with | [_], _ => rfl) (fun F => ok_begin_again F T N)
  have c_move_on : Cal P w K mg base 1 "move_on" ["text"] (sp_move_on c) := cal_of X.f_move_on (fun F => F.binds fun _ _ _ _ _ _ us hl => match us, hl with | [_], _ => rfl) (fun F => ok_move_on F T N)
  have c_kind_can_come : Cal P w K mg base 2 "kind_can_come" ["kind", "earlier"] (sp_kind_can_come K) := cal_of X.f_kind_can_come (fun F => F.binds fun _ _ _ _ _ _ us hl => match us, hl with | [_, _], _ => rfl) (fun F => ok_kind_can_come F T c_count_kind c_group_of)
  have c_is_element : Cal P w K mg base 2 "is_element" ["numbers", "set_count"] (sp_is_element K) := cal_of X.f_is_element (fun F => F.binds fun _ _ _ _ _ _ us hl => match us, hl with | [_, _], _ => rfl) (fun F => ok_is_element F T c_are_bounds c_is_code_point)
  have c_end_of_element : Cal P w K mg base 3 "end_of_element" ["element", "row", "start", "sets"] (sp_end_of_element K) := cal_of X.f_end_of_element (fun F => F.binds fun _ _ _ _ _ _ us hl => match us, hl with | [_, _, _, _], _ => rfl) (fun F => ok_end_of_element F T c_is_of)
  have c_write : Cal P w K mg base 3 "write" ["fit", "left", "right", "maps"] (sp_write c) := cal_of X.f_write (fun F => F.binds fun _ _ _ _ _ _ us hl => match us, hl with | [_, _, _, _], _ => rfl) (fun F => ok_write F T N c_points_of c_span_of c_Written)
  have c_apply_fit : Cal P w K mg base 4 "apply_fit" ["text", "fit", "maps"] (sp_apply_fit c) := cal_of X.f_apply_fit (fun F => F.binds fun _ _ _ _ _ _ us hl => match us, hl with | [_, _, _], _ => rfl) (fun F => ok_apply_fit F T N c_write)
  have c_can_stand : Cal P w K mg base 3 "can_stand" ["item", "earlier", "set_count", "map_count"] (sp_can_stand K) := cal_of X.f_can_stand (fun F => F.binds fun _ _ _ _ _ _ us hl => match us, hl with | [_, _, _, _], _ => rfl) (fun F => ok_can_stand F T c_kind_can_come c_is_element c_is_code_point c_count_kind)
  have c_bounds_of_row : Cal P w K mg base 4 "bounds_of_row" ["wanted", "row", "start", "sets"] sp_bounds_of_row := cal_of X.f_bounds_of_row (fun F => F.binds fun _ _ _ _ _ _ us hl => match us, hl with | [_, _, _, _], _ => rfl) (fun F => ok_bounds_of_row F T c_end_of_element)
  have c_first_wrong_item : Cal P w K mg base 4 "first_wrong_item" ["row", "set_count", "map_count"] (sp_first_wrong_item K) := cal_of X.f_first_wrong_item (fun F => F.binds fun _ _ _ _ _ _ us hl => match us, hl with | [_, _, _], _ => rfl) (fun F => ok_first_wrong_item F T c_can_stand c_count_kind)
  have c_Book_add_rule : Mth P w K mg base 5 c.Book "add_rule" ["self", "pass_number", "numbers"] (sp_Book_add_rule K c) := mth_of CBook.cl CBook.f_add_rule (fun F => F.binds fun _ _ _ _ _ _ us hl => match us, hl with | [_, _, _], _ => rfl) (fun F => ok_Book_add_rule F T N c_split_items c_first_wrong_item c_Rule)
  have c_bounds_of_matches : Cal P w K mg base 5 "bounds_of_matches" ["rule", "left", "right", "sets"] (sp_bounds_of_matches c) := cal_of X.f_bounds_of_matches (fun F => F.binds fun _ _ _ _ _ _ us hl => match us, hl with | [_, _, _, _], _ => rfl) (fun F => ok_bounds_of_matches F T N c_bounds_of_row)
  have c_first_fit : Cal P w K mg base 6 "first_fit" ["rules", "left", "right", "sets"] (sp_first_fit c) := cal_of X.f_first_fit (fun F => F.binds fun _ _ _ _ _ _ us hl => match us, hl with | [_, _, _, _], _ => rfl) (fun F => ok_first_fit F T N c_bounds_of_matches c_Fit)
  have c_go_over : Cal P w K mg base 7 "go_over" ["text", "book", "pass_number"] (sp_go_over c) := cal_of X.f_go_over (fun F => F.binds fun _ _ _ _ _ _ us hl => match us, hl with | [_, _, _], _ => rfl) (fun F => ok_go_over F T N c_first_fit c_move_on c_apply_fit)
  have c_rewrite : Cal P w K mg base 8 "rewrite" ["book", "cap", "points"] (sp_rewrite K c) := cal_of X.f_rewrite (fun F => F.binds fun _ _ _ _ _ _ us hl => match us, hl with | [_, _, _], _ => rfl) (fun F => ok_rewrite F T N c_go_over c_begin_again c_Rewriting)
  have c_apply_rules : Cal P w K mg base 9 "apply_rules" ["book", "cap", "points"] (sp_apply_rules K c) := cal_of X.f_apply_rules (fun F => F.binds fun _ _ _ _ _ _ us hl => match us, hl with | [_, _, _], _ => rfl) (fun F => ok_apply_rules F T N c_refusal_of_text c_rewrite c_joined)
  have c_list_steps : Cal P w K mg base 9 "list_steps" ["book", "cap", "points"] (sp_list_steps K c) := cal_of X.f_list_steps (fun F => F.binds fun _ _ _ _ _ _ us hl => match us, hl with | [_, _, _], _ => rfl) (fun F => ok_list_steps F T N c_refusal_of_text c_rewrite c_joined)
  have c_answer_call : Cal P w K mg base 10 "answer_call" ["book", "reader"] (sp_answer_call K c) := cal_of X.f_answer_call (fun F => F.binds fun _ _ _ _ _ _ us hl => match us, hl with | [_, _], _ => rfl) (fun F => ok_answer_call F T N c_Reader_take_number c_Reader_take_row c_Book_add_set c_Book_add_map c_Book_add_rule c_Book_turn_rule c_Book_ask_set c_Book_ask_map c_Book_find_place c_apply_rules c_list_steps)
  obtain ⟨fa, fda, h1, F⟩ := X.f_answers
  exact ⟨fa, fda, h1, F, ok_answers F T N c_Book c_Reader c_Reader_is_done c_answer_call⟩
theorem fin_of {P : Program} {w : World} {K : PySem.W.Frag} {mg : Str → Option Value} {fa : Addr} (hmg : mg "answers" = some (.ref fa)) (X : Facts K mg) :
    ∃ fd : FuncData, (∀ (s : Shared) (us : List Value), us.length = (["calls"] : List Str).length → BindsTo s fd ⟨us, []⟩ ((["calls"] : List Str).zip us)) ∧ ∀ base : Heap, K.In base → base.Ns mainGlobals mg → FnOk P w K mg base CX0 11 fa fd ["calls"] (sp_answers K) := by
  obtain ⟨f, fd, h1, F⟩ := X.f_answers
  have e : fa = f := by
    have := hmg.symm.trans h1
    cases this
    rfl
  subst e
  refine ⟨fd, ?_, fun base _ _ => ?_⟩
  · obtain ⟨oc, od, kV, doc, pm, an, cdv, ct, osl, rfl, lk, hcd⟩ := F.ex
    exact fun s us hu => match us, hu with | [_], _ => .of_eq rfl
  · obtain ⟨f', fd', h1', F', ok⟩ := all_ok (P := P) (w := w) (base := base) X
    have e : fa = f' := by
      have := h1.symm.trans h1'
      cases this
      rfl
    subst e
    obtain ⟨oc, od, kV, doc, pm, an, cdv, ct, osl, e1, lk, hcd⟩ := F.ex
    obtain ⟨oc', od', kV', doc', pm', an', cdv', ct', osl', e1', lk', hcd'⟩ := F'.ex
    have e2 := lk.symm.trans lk'
    have e3 : fd = fd' := by
      have := Option.some.inj e2
      injection this with _ _ h3 _
      injection h3
    rw [e3]
    exact ok
end Re
end
open PySem PySem.W PyProof.Rows
open Re L2
set_option maxHeartbeats 0 in
theorem PySem.Challenge.cw_respelling_s01_answers_holds : PySem.Challenge.rw_respelling_s01_answers.Holds := by
  w_on
  refine holds_os (q := qv) (loose := lo) (Xt := fun s => xlAt qv [] s && recOk [] s) (XP := XL qv []) (Yf := Hook.obs HK) (Ya := Hook.val HK) (YP := InK KK) (d := dA) (kwd := []) (N := 6738) hl (Hook.of HK) (Hook.keeps HK) (fun s e => xl_of s (Bool.and_eq_true_iff.mp e).1) XL.keeps dA_of (by kernel_rfl) (by kernel_rfl) (fun s e => recFacts_of (Bool.and_eq_true_iff.mp e).2) os_shapes (by decide +kernel) (by decide +kernel) ⟨rfl, rfl, rfl, rfl, rfl, by decide +kernel⟩ ⟨[.list [.int 0, .int 0]], by decide +kernel, by decide +kernel⟩ ?_
  k_fillS
  refine L2.walk_specK (r := PySem.Challenge.rw_respelling_s01_answers) (k := 11) (CX := L2.CX0) (ps := ["calls"]) (sp := Re.sp_answers) (by decide +kernel) rfl rfl ⟨rfl, by decide, by decide⟩ (fun w h Y => Y) ?F ?S (fun _ _ _ _ z => z)
  case F =>
    intro w mg fa h Y KX G hmg
    have FX : Facts (KK w.params) mg := ⟨mk_txt KX G (by k_is) (by k_is) (by rfl) (mk_int KX G (by k_is)) (mk_int KX G (by k_is)) (mk_int KX G (by k_is)) (mk_int KX G (by k_is)) (mk_int KX G (by k_is)) (mk_int KX G (by k_is)) (mk_int KX G (by k_is)) (mk_int KX G (by k_is)) (mk_int KX G (by k_is)) (mk_int KX G (by k_is)) (mk_int KX G (by k_is)) (mk_int KX G (by k_is)) (mk_int KX G (by k_is)) (mk_int KX G (by k_is)) (mk_int KX G (by k_is)) (mk_int KX G (by k_is)) (mk_int KX G (by k_is)) (mk_int KX G (by k_is)) (mk_int KX G (by k_is)) (mk_int KX G (by k_is)) (mk_int KX G (by k_is)) (mk_int KX G (by k_is)) (mk_int KX G (by k_is)) (mk_int KX G (by k_is)) (mk_int KX G (by k_is)) (mk_int KX G (by k_is)) (mk_int KX G (by k_is)) (mk_int KX G (by k_is)) (mk_int KX G (by k_is)) (mk_int KX G (by k_is)) (mk_int KX G (by k_is)) (mk_int KX G (by k_is)) (mk_int KX G (by k_is)) (mk_int KX G (by k_is)) (by k_is) (by k_is) (by k_is) (by k_is) (by k_is) (by k_is) (by k_is) (by k_is) (by k_is) (by k_is) (by k_is) (by k_is) (by k_is),
      mk_fun KX G (by k_is) (by k_is) (by k_is) (by k_is),
      mk_fun KX G (by k_is) (by k_is) (by k_is) (by k_is),
      mk_fun KX G (by k_is) (by k_is) (by k_is) (by k_is),
      mk_fun KX G (by k_is) (by k_is) (by k_is) (by k_is),
      mk_fun KX G (by k_is) (by k_is) (by k_is) (by k_is),
      mk_fun KX G (by k_is) (by k_is) (by k_is) (by k_is),
      mk_fun KX G (by k_is) (by k_is) (by k_is) (by k_is),
      mk_fun KX G (by k_is) (by k_is) (by k_is) (by k_is),
      mk_fun KX G (by k_is) (by k_is) (by k_is) (by k_is),
      mk_fun KX G (by k_is) (by k_is) (by k_is) (by k_is),
      mk_fun KX G (by k_is) (by k_is) (by k_is) (by k_is),
      mk_fun KX G (by k_is) (by k_is) (by k_is) (by k_is),
      mk_fun KX G (by k_is) (by k_is) (by k_is) (by k_is),
      mk_fun KX G (by k_is) (by k_is) (by k_is) (by k_is),
      mk_fun KX G (by k_is) (by k_is) (by k_is) (by k_is),
      mk_fun KX G (by k_is) (by k_is) (by k_is) (by k_is),
      mk_fun KX G (by k_is) (by k_is) (by k_is) (by k_is),
      mk_fun KX G (by k_is) (by k_is) (by k_is) (by k_is),
      mk_fun KX G (by k_is) (by k_is) (by k_is) (by k_is),
      mk_fun KX G (by k_is) (by k_is) (by k_is) (by k_is),
      mk_fun KX G (by k_is) (by k_is) (by k_is) (by k_is),
      mk_fun KX G (by k_is) (by k_is) (by k_is) (by k_is),
      mk_fun KX G (by k_is) (by k_is) (by k_is) (by k_is),
      mk_fun KX G (by k_is) (by k_is) (by k_is) (by k_is),
      mk_fun KX G (by k_is) (by k_is) (by k_is) (by k_is),
      mk_fun KX G (by k_is) (by k_is) (by k_is) (by k_is),
      mk_fun KX G (by k_is) (by k_is) (by k_is) (by k_is),
      mk_fun KX G (by k_is) (by k_is) (by k_is) (by k_is),
      mk_fun KX G (by k_is) (by k_is) (by k_is) (by k_is),
      mk_fun KX G (by k_is) (by k_is) (by k_is) (by k_is),
      mk_fun KX G (by k_is) (by k_is) (by k_is) (by k_is),
      mk_fun KX G (by k_is) (by k_is) (by k_is) (by k_is),
      mk_fun KX G (by k_is) (by k_is) (by k_is) (by k_is),
      mk_fun KX G (by k_is) (by k_is) (by k_is) (by k_is),
      mk_Rule KX G (by k_is) (by k_is) (by k_is) (by k_is) (by k_is) (by k_is) (by k_is) (by k_is) (by k_is) (by k_is) (by k_is) (by k_is) (by k_is) (by k_is) (by k_is) (by k_is) (by k_is) (by k_is) (by k_is),
      mk_Book KX G (by k_is) (by k_is) (by k_is) (by k_is) (by k_is) (by k_is) (by k_is) (by k_is) (by k_is) (by k_is) (by k_is) (by k_is) (by k_is) (by k_is) (by k_is) (by k_is) (by k_is) (by k_is) (by k_is) (by k_is) (by k_is) (by k_is) (by k_is) (by k_is) (by k_is) (by k_is) (by k_is) (by k_is) (by k_is) (by k_is) (by k_is) (by k_is) (by k_is) (by k_is) (by k_is) (by k_is) (by k_is) (by k_is) (by k_is) (by k_is) (by k_is) (by k_is) (by k_is) (by k_is) (by k_is) (by k_is) (by k_is) (by k_is) (by k_is) (by k_is),
      mk_Reader KX G (by k_is) (by k_is) (by k_is) (by k_is) (by k_is) (by k_is) (by k_is) (by k_is) (by k_is) (by k_is) (by k_is) (by k_is) (by k_is) (by k_is) (by k_is) (by k_is) (by k_is) (by k_is) (by k_is) (by k_is) (by k_is) (by k_is) (by k_is) (by k_is) (by k_is) (by k_is) (by k_is) (by k_is) (by k_is),
      mk_Fit KX G (by k_is) (by k_is) (by k_is) (by k_is) (by k_is) (by k_is) (by k_is) (by k_is) (by k_is) (by k_is) (by k_is) (by k_is) (by k_is) (by k_is),
      mk_Written KX G (by k_is) (by k_is) (by k_is) (by k_is) (by k_is) (by k_is) (by k_is) (by k_is) (by k_is) (by k_is) (by k_is) (by k_is) (by k_is) (by k_is),
      mk_Rewriting KX G (by k_is) (by k_is) (by k_is) (by k_is) (by k_is) (by k_is) (by k_is) (by k_is) (by k_is) (by k_is) (by k_is) (by k_is) (by k_is) (by k_is) (by k_is) (by k_is) (by k_is)⟩
    exact Re.fin_of hmg FX
  case S =>
    intro K H xs a hO hwi hask hx
    cases hx with
    | cons h1 h2 =>
      cases h2
      cases h1 with
      | lst hs ha =>
        have e := L2.ints_dw a.1 _ ha
        subst e
        have q : ((Codec.inLen 0 4100 a.1 && a.1.all (Codec.inInt (Int.ofNat 0) (Int.ofNat 340282366920938463463374607431768211455))) && true) = true := hwi
        rw [Bool.and_eq_true, Bool.and_eq_true] at q
        exact ⟨_, a.1, rfl, hs, (Codec.inNat_iff.mp q.1.1).2, hask, fun H' p hp => .lst (L2.SqL.of hp) (L2.dw_ints _)⟩
#print axioms PySem.Challenge.cw_respelling_s01_answers_holds
