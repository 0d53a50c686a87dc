import PyProof.Rows.All
import Wide.All
import OpenK.AllK
import Wide.FinOn
import PyProof.EqAt
import PyProof.EqKinds
import PyProof.TupleCall
import KE.BitLaws
import KE.OsGo
import PySem.Challenge.RW_dotboxes_s01_answers
set_option Elab.async false
set_option linter.all false
set_option maxRecDepth 100000
set_option maxHeartbeats 2000000
namespace L2
open PySem PySem.Spec PyProof.Rows
def inClass (s : Stmt) (j : Nat) : Stmt := match s with
  | .ClassDef _ _ _ body _ _ _ _ _ _ _ => body.getD j (.Pass ⟨0, 0, 0, 0⟩)
  | _ => .Pass ⟨0, 0, 0, 0⟩
def defArgs (s : Stmt) : Arguments := match s with
  | .FunctionDef _ a _ _ _ _ _ _ _ _ => a
  | _ => { posonlyargs := [], args := [], vararg := none, kwonlyargs := [], kw_defaults := [], kwarg := none, defaults := [] }
def defBody (s : Stmt) : List Stmt := match s with
  | .FunctionDef _ _ b _ _ _ _ _ _ _ => b
  | _ => []
def defScope (s : Stmt) : Scope := match s with
  | .FunctionDef _ _ _ _ _ _ sc _ _ _ => sc
  | _ => { kind := .function, names := [], isGenerator := false, isCoroutine := false }
end L2
namespace BXP
open PySem PySem.W L2 PySem.Calls PyProof.Rows
def top (i : Nat) : Stmt := PySem.Challenge.pw_dotboxes_s01_answers.main.body.getD i (.Pass ⟨0, 0, 0, 0⟩)
abbrev s_Thing_init : Stmt := inClass (top 1) 0
abbrev s_shared_lengths : Stmt := top 2
abbrev s_fair_parts : Stmt := top 3
abbrev s_full_ones : Stmt := top 4
abbrev s_changed_lengths : Stmt := top 5
abbrev s_natural_size : Stmt := top 15
abbrev s_natural_length : Stmt := top 16
abbrev s_content_length : Stmt := top 17
abbrev s_all_gaps : Stmt := top 18
abbrev s_inner_places : Stmt := top 19
abbrev s_inner_spans : Stmt := top 20
abbrev s_room_in : Stmt := top 21
abbrev s_thing_along : Stmt := top 22
abbrev s_spans_along : Stmt := top 23
abbrev s_rest_before : Stmt := top 24
abbrev s_span_by_side : Stmt := top 25
abbrev s_Box_init : Stmt := inClass (top 36) 0
abbrev s_Box_holds_dot : Stmt := inClass (top 36) 1
abbrev s_Boxes_init : Stmt := inClass (top 37) 0
abbrev s_Boxes_bx_start : Stmt := inClass (top 37) 1
abbrev s_Boxes_bx_add : Stmt := inClass (top 37) 2
abbrev s_Boxes_bx_set : Stmt := inClass (top 37) 3
abbrev s_Boxes_bx_drop : Stmt := inClass (top 37) 4
abbrev s_Boxes_bx_lay : Stmt := inClass (top 37) 5
abbrev s_Boxes_bx_place : Stmt := inClass (top 37) 6
abbrev s_Boxes_bx_at : Stmt := inClass (top 37) 7
abbrev s_Boxes_place_out : Stmt := inClass (top 37) 8
abbrev s_Boxes_has_space_in : Stmt := inClass (top 37) 9
abbrev s_Boxes_least_free_number : Stmt := inClass (top 37) 10
abbrev s_Boxes_last_at : Stmt := inClass (top 37) 11
abbrev s_Boxes_places_in_window : Stmt := inClass (top 37) 12
abbrev s_Boxes_natural_sizes : Stmt := inClass (top 37) 13
abbrev s_Boxes_outer_before_inner : Stmt := inClass (top 37) 14
abbrev s_Rule_init : Stmt := inClass (top 42) 0
abbrev s_Rule_is_as_told : Stmt := inClass (top 42) 1
abbrev s_Rule_sizes_are_as_told : Stmt := inClass (top 42) 2
abbrev s_Rule_choices_are_as_told : Stmt := inClass (top 42) 3
abbrev s_Rule_is_leaf : Stmt := inClass (top 42) 4
abbrev s_Rule_is_along : Stmt := inClass (top 42) 5
abbrev s_answers : Stmt := top 53
abbrev s_answer_to : Stmt := top 54
abbrev s_number_for : Stmt := top 55
end BXP
namespace BXT
open PySem PySem.W L2 PySem.Calls PyProof.Rows BXP
abbrev e (P : Params) (s : Str) (t : Tok) (v : Value) : DictEntry := { hash := PyData.keyHash P s, key := .str s t, val := v }
abbrev oD (l : List DictEntry) (n : Nat) : Obj := { cls := .type "dict", data := .dict l.toArray n }
abbrev oU (l : List Value) : Obj := { cls := .type "tuple", data := .seq l.toArray }
abbrev oT (s : Str) (a b : Addr) (t u : Tok) : Obj := { cls := .type "type", data := .cls { name := s, bases := [.type "object"], mro := [.ref a, .type "object"], ns := b, qualname := s }, slots := #[none, none, some (.str s t), some (.str s u), some (.builtin "object.__new__"), some (.bool true)] }
abbrev oF (n q : Str) (s : Stmt) (m : Str) (t : Tok) (c : Addr) : Obj := { cls := .type "function", data := .func (PySem.W.fnOf n q (defArgs s) (defBody s) (defScope s) .none .none .none (.str m t) none (.ref c) .none) }
abbrev oC (n q : Str) (t : Nat) (l a : Int) (b c : Addr) (x y : Value) (d : Addr) (k : Nat) : Obj := { cls := .type "code", data := .fields #[.str n t, .str q (t + 1), .str "/claim/cut.py" (t + 2), .int l 0, .int a 0, .int 0 0, .int 0 0, .int 3 0, .ref b, .bool true, .int 181 0, .ref c, .none, x, y, .ref d, .int k 0, .int l 0, .str "/claim/cut.py" (k + 1)] }
noncomputable def KK (P : Params) : PySem.W.Frag :=
(nat_lit 3, oD [(e P "__name__" 165 (.str "dotboxes.layer" 687)), (e P "__doc__" 166 (.none)), (e P "__package__" 167 (.none)), (e P "__loader__" 168 (.builtin "__main__.__loader__#opaque")), (e P "__spec__" 169 (.none)), (e P "__annotations__" 170 (.ref 6)), (e P "__builtins__" 171 (.ref 4)), (e P "__file__" 173 (.str "/claim/cut.py" 172)), (e P "__cached__" 174 (.none)), (e P "Thing" 225 (.ref 31)), (e P "shared_lengths" 231 (.ref 40)), (e P "fair_parts" 237 (.ref 45)), (e P "full_ones" 243 (.ref 50)), (e P "changed_lengths" 258 (.ref 57)), (e P "ACROSS" 262 (.int 0 261)), (e P "DOWN" 264 (.int 1 263)), (e P "SIDE_FILLS" 266 (.int 0 265)), (e P "SIDE_BEGINNING" 268 (.int 1 267)), (e P "SIDE_MIDDLE" 270 (.int 2 269)), (e P "REST_BEHIND" 272 (.int 0 271)), (e P "REST_HALF" 274 (.int 1 273)), (e P "REST_BEFORE" 276 (.int 2 275)), (e P "natural_size" 284 (.ref 64)), (e P "natural_length" 290 (.ref 69)), (e P "content_length" 299 (.ref 76)), (e P "all_gaps" 307 (.ref 83)), (e P "inner_places" 313 (.ref 88)), (e P "inner_spans" 319 (.ref 93)), (e P "room_in" 330 (.ref 100)), (e P "thing_along" 339 (.ref 107)), (e P "spans_along" 355 (.ref 114)), (e P "rest_before" 365 (.ref 121)), (e P "span_by_side" 375 (.ref 128)), (e P "NO_SUCH_BOX" 380 (.int (-2) 379)), (e P "NOT_LAID_OUT" 383 (.int (-11) 382)), (e P "NOT_ALLOWED" 386 (.int (-13) 385)), (e P "NOT_AS_TOLD" 389 (.int (-22) 388)), (e P "NO_MORE_FIT" 392 (.int (-28) 391)), (e P "MOST_BOXES" 394 (.int 256 393)), (e P "MOST_IN_ONE" 396 (.int 64 395)), (e P "MOST_DEEP" 398 (.int 16 397)), (e P "MOST_WINDOW" 400 (.int 65535 399)), (e P "Box" 446 (.ref 152)), (e P "Boxes" 602 (.ref 267)), (e P "LEAF" 606 (.int 2 605)), (e P "GREATEST_SIDE" 608 (.int 3 607)), (e P "GREATEST_REST" 610 (.int 3 609)), (e P "Rule" 686 (.ref 323)), (e P "BX_START" 690 (.int 0 689)), (e P "BX_ADD" 692 (.int 1 691)), (e P "BX_SET" 694 (.int 2 693)), (e P "BX_DROP" 696 (.int 3 695)), (e P "BX_LAY" 698 (.int 4 697)), (e P "BX_PLACE" 700 (.int 5 699)), (e P "HOW_MANY_NUMBERS" 708 (.ref 328)), (e P "FORM_NUMBER" 710 (.int 0 709)), (e P "FORM_PLACE" 712 (.int 1 711)), (e P "answers" 725 (.ref 335)), (e P "answer_to" 735 (.ref 342)), (e P "number_for" 744 (.ref 349))] 60) ::
(nat_lit 27, oC "__init__" "Thing.__init__" 201 4 6 22 23 (.ref 24) (.ref 25) 26 210) ::
(nat_lit 28, oF "__init__" "Thing.__init__" s_Thing_init "dotboxes.shares" 187 27) ::
(nat_lit 30, oD [(e P "__module__" 196 (.str "dotboxes.shares" 187)), (e P "__firstlineno__" 200 (.int 2 199)), (e P "__init__" 212 (.ref 28)), (e P "__static_attributes__" 218 (.ref 29)), (e P "__dict__" 220 (.ref 32)), (e P "__weakref__" 222 (.ref 33)), (e P "__doc__" 223 (.none))] 4) ::
(nat_lit 31, oT "Thing" 31 30 189 197) ::
(nat_lit 39, oC "shared_lengths" "shared_lengths" 226 10 2 36 37 (.none) (.none) 38 229) ::
(nat_lit 40, oF "shared_lengths" "shared_lengths" s_shared_lengths "dotboxes.shares" 187 39) ::
(nat_lit 44, oC "fair_parts" "fair_parts" 232 22 3 41 42 (.none) (.none) 43 235) ::
(nat_lit 45, oF "fair_parts" "fair_parts" s_fair_parts "dotboxes.shares" 187 44) ::
(nat_lit 49, oC "full_ones" "full_ones" 238 37 5 46 47 (.none) (.none) 48 241) ::
(nat_lit 50, oF "full_ones" "full_ones" s_full_ones "dotboxes.shares" 187 49) ::
(nat_lit 56, oC "changed_lengths" "changed_lengths" 244 39 3 51 52 (.ref 53) (.ref 54) 55 256) ::
(nat_lit 57, oF "changed_lengths" "changed_lengths" s_changed_lengths "dotboxes.shares" 187 56) ::
(nat_lit 63, oC "natural_size" "natural_size" 277 59 2 58 59 (.ref 60) (.ref 61) 62 282) ::
(nat_lit 64, oF "natural_size" "natural_size" s_natural_size "dotboxes.places" 259 63) ::
(nat_lit 68, oC "natural_length" "natural_length" 285 61 3 65 66 (.none) (.none) 67 288) ::
(nat_lit 69, oF "natural_length" "natural_length" s_natural_length "dotboxes.places" 259 68) ::
(nat_lit 75, oC "content_length" "content_length" 291 67 3 70 71 (.ref 72) (.ref 73) 74 297) ::
(nat_lit 76, oF "content_length" "content_length" s_content_length "dotboxes.places" 259 75) ::
(nat_lit 82, oC "all_gaps" "all_gaps" 300 73 2 77 78 (.ref 79) (.ref 80) 81 305) ::
(nat_lit 83, oF "all_gaps" "all_gaps" s_all_gaps "dotboxes.places" 259 82) ::
(nat_lit 87, oC "inner_places" "inner_places" 308 75 4 84 85 (.none) (.none) 86 311) ::
(nat_lit 88, oF "inner_places" "inner_places" s_inner_places "dotboxes.places" 259 87) ::
(nat_lit 92, oC "inner_spans" "inner_spans" 314 79 5 89 90 (.none) (.none) 91 317) ::
(nat_lit 93, oF "inner_spans" "inner_spans" s_inner_spans "dotboxes.places" 259 92) ::
(nat_lit 99, oC "room_in" "room_in" 320 86 3 94 95 (.ref 96) (.ref 97) 98 328) ::
(nat_lit 100, oF "room_in" "room_in" s_room_in "dotboxes.places" 259 99) ::
(nat_lit 106, oC "thing_along" "thing_along" 331 90 3 101 102 (.ref 103) (.ref 104) 105 337) ::
(nat_lit 107, oF "thing_along" "thing_along" s_thing_along "dotboxes.places" 259 106) ::
(nat_lit 113, oC "spans_along" "spans_along" 340 92 3 108 109 (.ref 110) (.ref 111) 112 353) ::
(nat_lit 114, oF "spans_along" "spans_along" s_spans_along "dotboxes.places" 259 113) ::
(nat_lit 120, oC "rest_before" "rest_before" 356 103 4 115 116 (.ref 117) (.ref 118) 119 363) ::
(nat_lit 121, oF "rest_before" "rest_before" s_rest_before "dotboxes.places" 259 120) ::
(nat_lit 127, oC "span_by_side" "span_by_side" 366 111 4 122 123 (.ref 124) (.ref 125) 126 373) ::
(nat_lit 128, oF "span_by_side" "span_by_side" s_span_by_side "dotboxes.places" 259 127) ::
(nat_lit 141, oC "__init__" "Box.__init__" 413 131 4 136 137 (.ref 138) (.ref 139) 140 420) ::
(nat_lit 142, oF "__init__" "Box.__init__" s_Box_init "dotboxes.boxes" 376 141) ::
(nat_lit 148, oC "holds_dot" "Box.holds_dot" 423 138 3 143 144 (.ref 145) (.ref 146) 147 431) ::
(nat_lit 149, oF "holds_dot" "Box.holds_dot" s_Box_holds_dot "dotboxes.boxes" 376 148) ::
(nat_lit 151, oD [(e P "__module__" 408 (.str "dotboxes.boxes" 376)), (e P "__firstlineno__" 412 (.int 129 411)), (e P "__init__" 422 (.ref 142)), (e P "holds_dot" 433 (.ref 149)), (e P "__static_attributes__" 439 (.ref 150)), (e P "__dict__" 441 (.ref 153)), (e P "__weakref__" 443 (.ref 154)), (e P "__doc__" 444 (.none))] 4) ::
(nat_lit 152, oT "Box" 152 151 401 409) ::
(nat_lit 169, oC "__init__" "Boxes.__init__" 459 146 1 164 165 (.ref 166) (.ref 167) 168 463) ::
(nat_lit 170, oF "__init__" "Boxes.__init__" s_Boxes_init "dotboxes.boxes" 376 169) ::
(nat_lit 176, oC "bx_start" "Boxes.bx_start" 466 149 2 171 172 (.ref 173) (.ref 174) 175 472) ::
(nat_lit 177, oF "bx_start" "Boxes.bx_start" s_Boxes_bx_start "dotboxes.boxes" 376 176) ::
(nat_lit 183, oC "bx_add" "Boxes.bx_add" 475 157 3 178 179 (.ref 180) (.ref 181) 182 483) ::
(nat_lit 184, oF "bx_add" "Boxes.bx_add" s_Boxes_bx_add "dotboxes.boxes" 376 183) ::
(nat_lit 190, oC "bx_set" "Boxes.bx_set" 486 172 3 185 186 (.ref 187) (.ref 188) 189 493) ::
(nat_lit 191, oF "bx_set" "Boxes.bx_set" s_Boxes_bx_set "dotboxes.boxes" 376 190) ::
(nat_lit 197, oC "bx_drop" "Boxes.bx_drop" 496 183 2 192 193 (.ref 194) (.ref 195) 196 503) ::
(nat_lit 198, oF "bx_drop" "Boxes.bx_drop" s_Boxes_bx_drop "dotboxes.boxes" 376 197) ::
(nat_lit 204, oC "bx_lay" "Boxes.bx_lay" 506 194 3 199 200 (.ref 201) (.ref 202) 203 516) ::
(nat_lit 205, oF "bx_lay" "Boxes.bx_lay" s_Boxes_bx_lay "dotboxes.boxes" 376 204) ::
(nat_lit 211, oC "bx_place" "Boxes.bx_place" 519 206 2 206 207 (.ref 208) (.ref 209) 210 524) ::
(nat_lit 212, oF "bx_place" "Boxes.bx_place" s_Boxes_bx_place "dotboxes.boxes" 376 211) ::
(nat_lit 218, oC "bx_at" "Boxes.bx_at" 527 213 3 213 214 (.ref 215) (.ref 216) 217 535) ::
(nat_lit 219, oF "bx_at" "Boxes.bx_at" s_Boxes_bx_at "dotboxes.boxes" 376 218) ::
(nat_lit 225, oC "place_out" "Boxes.place_out" 538 221 2 220 221 (.ref 222) (.ref 223) 224 543) ::
(nat_lit 226, oF "place_out" "Boxes.place_out" s_Boxes_place_out "dotboxes.boxes" 376 225) ::
(nat_lit 232, oC "has_space_in" "Boxes.has_space_in" 546 224 2 227 228 (.ref 229) (.ref 230) 231 551) ::
(nat_lit 233, oF "has_space_in" "Boxes.has_space_in" s_Boxes_has_space_in "dotboxes.boxes" 376 232) ::
(nat_lit 239, oC "least_free_number" "Boxes.least_free_number" 554 229 1 234 235 (.ref 236) (.ref 237) 238 559) ::
(nat_lit 240, oF "least_free_number" "Boxes.least_free_number" s_Boxes_least_free_number "dotboxes.boxes" 376 239) ::
(nat_lit 246, oC "last_at" "Boxes.last_at" 562 235 4 241 242 (.ref 243) (.ref 244) 245 570) ::
(nat_lit 247, oF "last_at" "Boxes.last_at" s_Boxes_last_at "dotboxes.boxes" 376 246) ::
(nat_lit 251, oC "places_in_window" "Boxes.places_in_window" 573 241 3 248 249 (.none) (.none) 250 576) ::
(nat_lit 252, oF "places_in_window" "Boxes.places_in_window" s_Boxes_places_in_window "dotboxes.boxes" 376 251) ::
(nat_lit 256, oC "natural_sizes" "Boxes.natural_sizes" 579 253 2 253 254 (.none) (.none) 255 582) ::
(nat_lit 257, oF "natural_sizes" "Boxes.natural_sizes" s_Boxes_natural_sizes "dotboxes.boxes" 376 256) ::
(nat_lit 263, oC "outer_before_inner" "Boxes.outer_before_inner" 585 260 1 258 259 (.ref 260) (.ref 261) 262 591) ::
(nat_lit 264, oF "outer_before_inner" "Boxes.outer_before_inner" s_Boxes_outer_before_inner "dotboxes.boxes" 376 263) ::
(nat_lit 266, oD [(e P "__module__" 454 (.str "dotboxes.boxes" 376)), (e P "__firstlineno__" 458 (.int 144 457)), (e P "__init__" 465 (.ref 170)), (e P "bx_start" 474 (.ref 177)), (e P "bx_add" 485 (.ref 184)), (e P "bx_set" 495 (.ref 191)), (e P "bx_drop" 505 (.ref 198)), (e P "bx_lay" 518 (.ref 205)), (e P "bx_place" 526 (.ref 212)), (e P "bx_at" 537 (.ref 219)), (e P "place_out" 545 (.ref 226)), (e P "has_space_in" 553 (.ref 233)), (e P "least_free_number" 561 (.ref 240)), (e P "last_at" 572 (.ref 247)), (e P "places_in_window" 578 (.ref 252)), (e P "natural_sizes" 584 (.ref 257)), (e P "outer_before_inner" 593 (.ref 264)), (e P "__static_attributes__" 595 (.ref 265)), (e P "__dict__" 597 (.ref 268)), (e P "__weakref__" 599 (.ref 269)), (e P "__doc__" 600 (.none))] 4) ::
(nat_lit 267, oT "Boxes" 267 266 447 455) ::
(nat_lit 284, oC "__init__" "Rule.__init__" 623 273 2 279 280 (.ref 281) (.ref 282) 283 628) ::
(nat_lit 285, oF "__init__" "Rule.__init__" s_Rule_init "dotboxes.rules" 603 284) ::
(nat_lit 291, oC "is_as_told" "Rule.is_as_told" 631 286 1 286 287 (.ref 288) (.ref 289) 290 635) ::
(nat_lit 292, oF "is_as_told" "Rule.is_as_told" s_Rule_is_as_told "dotboxes.rules" 603 291) ::
(nat_lit 298, oC "sizes_are_as_told" "Rule.sizes_are_as_told" 638 289 1 293 294 (.ref 295) (.ref 296) 297 643) ::
(nat_lit 299, oF "sizes_are_as_told" "Rule.sizes_are_as_told" s_Rule_sizes_are_as_told "dotboxes.rules" 603 298) ::
(nat_lit 305, oC "choices_are_as_told" "Rule.choices_are_as_told" 646 297 1 300 301 (.ref 302) (.ref 303) 304 650) ::
(nat_lit 306, oF "choices_are_as_told" "Rule.choices_are_as_told" s_Rule_choices_are_as_told "dotboxes.rules" 603 305) ::
(nat_lit 312, oC "is_leaf" "Rule.is_leaf" 653 304 1 307 308 (.ref 309) (.ref 310) 311 657) ::
(nat_lit 313, oF "is_leaf" "Rule.is_leaf" s_Rule_is_leaf "dotboxes.rules" 603 312) ::
(nat_lit 319, oC "is_along" "Rule.is_along" 660 307 2 314 315 (.ref 316) (.ref 317) 318 665) ::
(nat_lit 320, oF "is_along" "Rule.is_along" s_Rule_is_along "dotboxes.rules" 603 319) ::
(nat_lit 322, oD [(e P "__module__" 618 (.str "dotboxes.rules" 603)), (e P "__firstlineno__" 622 (.int 271 621)), (e P "__init__" 630 (.ref 285)), (e P "is_as_told" 637 (.ref 292)), (e P "sizes_are_as_told" 645 (.ref 299)), (e P "choices_are_as_told" 652 (.ref 306)), (e P "is_leaf" 659 (.ref 313)), (e P "is_along" 667 (.ref 320)), (e P "__static_attributes__" 679 (.ref 321)), (e P "__dict__" 681 (.ref 324)), (e P "__weakref__" 683 (.ref 325)), (e P "__doc__" 684 (.none))] 4) ::
(nat_lit 323, oT "Rule" 323 322 611 619) ::
(nat_lit 328, oU [.int 14 701, .int 15 702, .int 15 703, .int 1 704, .int 2 705, .int 1 706, .int 2 707]) ::
(nat_lit 334, oC "answers" "answers" 713 319 1 329 330 (.ref 331) (.ref 332) 333 723) ::
(nat_lit 335, oF "answers" "answers" s_answers "dotboxes.layer" 687 334) ::
(nat_lit 341, oC "answer_to" "answer_to" 726 331 3 336 337 (.ref 338) (.ref 339) 340 733) ::
(nat_lit 342, oF "answer_to" "answer_to" s_answer_to "dotboxes.layer" 687 341) ::
(nat_lit 348, oC "number_for" "number_for" 736 336 3 343 344 (.ref 345) (.ref 346) 347 742) ::
(nat_lit 349, oF "number_for" "number_for" s_number_for "dotboxes.layer" 687 348) :: []
def ads : List Addr := [3, 27, 28, 30, 31, 39, 40, 44, 45, 49, 50, 56, 57, 63, 64, 68, 69, 75, 76, 82, 83, 87, 88, 92, 93, 99, 100, 106, 107, 113, 114, 120, 121, 127, 128, 141, 142, 148, 149, 151, 152, 169, 170, 176, 177, 183, 184, 190, 191, 197, 198, 204, 205, 211, 212, 218, 219, 225, 226, 232, 233, 239, 240, 246, 247, 251, 252, 256, 257, 263, 264, 266, 267, 284, 285, 291, 292, 298, 299, 305, 306, 312, 313, 319, 320, 322, 323, 328, 334, 335, 341, 342, 348, 349]
noncomputable def vw : Program := { PySem.Challenge.pw_dotboxes_s01_answers with main := { PySem.Challenge.pw_dotboxes_s01_answers.main with body := [top 1, top 2, top 3, top 4, top 5, top 7, top 8, top 9, top 10, top 11, top 12, top 13, top 14, top 15, top 16, top 17, top 18, top 19, top 20, top 21, top 22, top 23, top 24, top 25, top 27, top 28, top 29, top 30, top 31, top 32, top 33, top 34, top 35, top 36, top 37, top 39, top 40, top 41, top 42, top 44, top 45, top 46, top 47, top 48, top 49, top 50, top 51, top 52, top 53, top 54, top 55] } }
abbrev prg : Program := PySem.Challenge.rw_dotboxes_s01_answers.prog
noncomputable abbrev opn (w : World) : Option Shared := PySem.W.openEnds treeTable prg w 5026
noncomputable abbrev osn (s : Shared) := PySem.W.openSeen vw [] (importedModules prg.main.body) (fun s => PySem.W.xlAt vw [] s && PySem.W.recOk [] s) true s
noncomputable abbrev gd := PySem.W.openGood vw []
noncomputable abbrev hk : PySem.W.Hook := PySem.W.kHook KK ads (fun _ => by kernel_rfl)
theorem two_of {σ α β : Type} {x : Option σ} {f : σ → α} {g : σ → β} {a : α} {b : β} (h : x.map f = some a) (k : x.map g = some b) : x.map (fun s => (f s, g s)) = some (a, b) := by
  cases x with
  | none => cases h
  | some s => cases h; cases k; rfl
theorem fst_of {σ α β : Type} {x : Option σ} {f : σ → α} {g : σ → β} {a : α} {b : β} (h : x.map (fun s => (f s, g s)) = some (a, b)) : x.map f = some a := by
  cases x with
  | none => cases h
  | some s => cases h; rfl
theorem snd_of {σ α β : Type} {x : Option σ} {f : σ → α} {g : σ → β} {a : α} {b : β} (h : x.map (fun s => (f s, g s)) = some (a, b)) : x.map g = some b := by
  cases x with
  | none => cases h
  | some s => cases h; rfl
theorem all_of {σ : Type} {x : Option σ} {a b c d e f g : σ → Bool} (h : x.map a = some true) (k : x.map (fun s => (b s, c s, d s, e s, f s, g s)) = some (true, true, true, true, true, true)) : x.map (fun s => a s && b s && c s && d s && e s && f s && g s) = some true := by
  cases x with
  | none => cases h
  | some s => simp only [Option.map_some, Option.some.injEq, Prod.mk.injEq] at h k ⊢; simp only [h, k, Bool.and_self]
theorem left_a (w : World) : (opn w).map (fun s => ((osn s).1, (osn s).2.2.2.1)) = some (gd.1, gd.2.2.2.1) := by dsimp only [osn, gd, PySem.W.openSeen, PySem.W.openGood]; kernel_rfl
theorem left_b (w : World) : (opn w).map (fun s => ((s.heap.accountedOkI (importedModules prg.main.body), s.heap.isNs mainGlobals, s.heap.isNs builtinsNs, PyProof.Rows.tablesOk vw s.heap, (PySem.W.xlAt vw [] s && PySem.W.recOk [] s), s.gens.size == 0), (osn s).2.1)) = some ((true, true, true, true, true, true), gd.2.1) := by dsimp only [osn, gd, PySem.W.openSeen, PySem.W.openGood]; kernel_rfl
theorem left_c (w : World) : (opn w).map (fun s => (osn s).2.2.2.2) = some gd.2.2.2.2 := by dsimp only [osn, gd, PySem.W.openSeen, PySem.W.openGood]; kernel_rfl
theorem left_d (w : World) : (opn w).map (fun s => (s.heap.keysOk (PySem.W.looseW vw []) ((recsOf vw).map (·.name)) ((litsOf vw).map (·.1)) ((clssOf vw (PySem.W.looseW vw [])).map (·.name)), hk.obs s)) = some (true, hk.val w) := by kernel_rfl
theorem left_ok : PySem.W.LeftO prg vw [] (fun s => PySem.W.xlAt vw [] s && PySem.W.recOk [] s) hk.obs hk.val 5026 := fun w => two_of (two_of (fst_of (left_a w)) (two_of (snd_of (left_b w)) (two_of (all_of (fst_of (left_d w)) (fst_of (left_b w))) (two_of (snd_of (left_a w)) (left_c w))))) (snd_of (left_d w))
end BXT
namespace L2
open PySem PySem.Spec PyProof.Rows
abbrev Key := Sum Int Str
def keyIs : Key → Value → Bool
  | .inl k, v => Value.isInt k v
  | .inr x, v => Value.isStrOf x v
def keyH (w : World) : Key → Int
  | .inl k => hashInt k
  | .inr x => hashStr w x
theorem keyIs_shape : ∀ {k : Key} {v : Value}, keyIs k v = true → (∃ i t, k = Sum.inl i ∧ v = Value.int i t) ∨ (∃ x t, k = Sum.inr x ∧ v = Value.str x t)
  | .inl i, v, h => by
    obtain ⟨t, e⟩ := Value.isInt_shape (k := i) (v := v) h
    exact .inl ⟨i, t, rfl, e⟩
  | .inr x, v, h => by
    obtain ⟨t, e⟩ := Value.isStrOf_shape (x := x) (v := v) h
    exact .inr ⟨x, t, rfl, e⟩
theorem keyIs_int (i : Int) (t : Tok) : keyIs (.inl i) (.int i t) = true := by simp [keyIs, Value.isInt]
theorem keyIs_str (x : Str) (t : Tok) : keyIs (.inr x) (.str x t) = true := by simp [keyIs, Value.isStrOf]
theorem key_ll (a b : Int) : decide ((Sum.inl a : Key) = Sum.inl b) = (a == b) := by
  by_cases e : a = b
  · subst e; simp
  · have h : ¬ (Sum.inl a : Key) = Sum.inl b := fun q => e (Sum.inl.inj q)
    rw [decide_eq_false h]
    exact (beq_eq_false_iff_ne.mpr e).symm
theorem key_rr (a b : Str) : decide ((Sum.inr a : Key) = Sum.inr b) = decide (a = b) := by
  by_cases e : a = b
  · subst e; simp
  · have h : ¬ (Sum.inr a : Key) = Sum.inr b := fun q => e (Sum.inr.inj q)
    rw [decide_eq_false h, decide_eq_false e]
theorem key_lr (a : Int) (b : Str) : decide ((Sum.inl a : Key) = Sum.inr b) = false := decide_eq_false (fun q => nomatch q)
theorem key_rl (a : Str) (b : Int) : decide ((Sum.inr a : Key) = Sum.inl b) = false := decide_eq_false (fun q => nomatch q)
def mixKind (prog : Program) (w : World) : PySem.KeyKind prog w Key where
  is := keyIs
  hash := keyH w
  inj := fun v a b ha hb => by
    rcases keyIs_shape ha with ⟨i, t, rfl, rfl⟩ | ⟨x, t, rfl, rfl⟩
    · rcases keyIs_shape hb with ⟨j, u, rfl, e⟩ | ⟨y, u, rfl, e⟩
      · injection e with e1 _; rw [e1]
      · exact nomatch e
    · rcases keyIs_shape hb with ⟨j, u, rfl, e⟩ | ⟨y, u, rfl, e⟩
      · exact nomatch e
      · injection e with e1 _; rw [e1]
  byValue := fun k v h => by
    rcases keyIs_shape h with ⟨i, t, rfl, rfl⟩ | ⟨x, t, rfl, rfl⟩ <;> rfl
  pyHash := fun hv h => by
    rcases keyIs_shape hv with ⟨i, t, rfl, rfl⟩ | ⟨x, t, rfl, rfl⟩
    · exact wpAny_pyHash_int h
    · exact wpAny_pyHash_str h
  eqBool := fun hu hv h => by
    rcases keyIs_shape hu with ⟨i, t, rfl, rfl⟩ | ⟨x, t, rfl, rfl⟩
    · rcases keyIs_shape hv with ⟨j, u, rfl, rfl⟩ | ⟨y, u, rfl, rfl⟩
      · rw [key_ll] at h; exact wpAny_eqBool_int h
      · rw [key_lr] at h; exact SeqAt.EqAt.int_str i t y u _ _ _ _ h
    · rcases keyIs_shape hv with ⟨j, u, rfl, rfl⟩ | ⟨y, u, rfl, rfl⟩
      · rw [key_rl] at h; exact SeqAt.EqAt.str_int x t j u _ _ _ _ h
      · rw [key_rr] at h; exact wpAny_eqBool_str h
  «strs» := fun k x t v h => by
    rcases keyIs_shape h with ⟨i, u, rfl, e⟩ | ⟨y, u, rfl, e⟩
    · exact nomatch e
    · injection e with e1 _
      subst e1
      cases v <;> rfl
theorem mixKind_int (prog : Program) (w : World) (i : Int) (t : Tok) : (mixKind prog w).is (.inl i) (.int i t) = true := keyIs_int i t
theorem mixKind_str (prog : Program) (w : World) (x : Str) (t : Tok) : (mixKind prog w).is (.inr x) (.str x t) = true := keyIs_str x t
end L2
namespace L2
open PySem PySem.Spec PyProof.Rows
inductive V where
  | non | bl (b : Bool) | int (i : Int) | str (x : Str) | byt (b : Array UInt8) | flt (b : UInt64) | ref (a : Addr) | ty (n : String)
  deriving DecidableEq
def RelV : V → Value → Prop
  | .non, u => u = Value.none
  | .bl b, u => u = Value.bool b
  | .int i, u => ∃ t, u = Value.int i t
  | .str x, u => ∃ t, u = Value.str x t
  | .byt b, u => ∃ t, u = Value.bytes b t
  | .flt b, u => ∃ t, u = Value.float b t
  | .ref a, u => u = Value.ref a
  | .ty n, u => u = Value.type n
abbrev Vals : List V → List Value → Prop := Paired RelV
theorem Vals.length {xs : List V} {us : List Value} (r : Vals xs us) : xs.length = us.length := Paired.length r
theorem Vals.get : ∀ {xs : List V} {us : List Value} {i : Nat} {x : V}, Vals xs us → xs[i]? = some x → ∃ u, us[i]? = some u ∧ RelV x u
  | _, _, _, _, .nil, e => by simp at e
  | _, _, 0, _, .cons r _, e => by simp at e; subst e; exact ⟨_, rfl, r⟩
  | _, _, i + 1, x, .cons _ t, e => by
    obtain ⟨u, h1, h2⟩ := Vals.get (i := i) (x := x) t (by simpa using e)
    exact ⟨u, by simpa using h1, h2⟩
theorem Vals.set {x : V} {u : Value} (r : RelV x u) : ∀ {xs : List V} {us : List Value} (i : Nat), Vals xs us → Vals (xs.set i x) (us.set i u)
  | _, _, _, .nil => .nil
  | _, _, 0, .cons _ t => .cons r t
  | _, _, i + 1, .cons q t => .cons q (Vals.set r i t)
theorem Vals.append : ∀ {xs ys : List V} {us ws : List Value}, Vals xs us → Vals ys ws → Vals (xs ++ ys) (us ++ ws)
  | _, _, _, _, .nil, s => s
  | _, _, _, _, .cons r t, s => .cons r (Vals.append t s)
theorem Vals.take : ∀ {xs : List V} {us : List Value} (n : Nat), Vals xs us → Vals (xs.take n) (us.take n)
  | _, _, 0, _ => .nil
  | _, _, _ + 1, .nil => .nil
  | _, _, n + 1, .cons r t => .cons r (Vals.take n t)
theorem Vals.drop : ∀ {xs : List V} {us : List Value} (n : Nat), Vals xs us → Vals (xs.drop n) (us.drop n)
  | _, _, 0, r => r
  | _, _, _ + 1, .nil => .nil
  | _, _, n + 1, .cons _ t => Vals.drop n t
theorem Vals.none_of : ∀ {xs : List V} {us : List Value} {i : Nat}, Vals xs us → xs[i]? = none → us[i]? = none := fun {xs us i} r e => by
  have h1 := r.length
  have h2 : xs.length ≤ i := List.getElem?_eq_none_iff.mp e
  exact List.getElem?_eq_none_iff.mpr (by omega)
def RelO : Option V → Option Value → Prop
  | some v, some u => RelV v u
  | none, none => True
  | _, _ => False
def KV {κ : Type} : List (κ × V) → List (κ × Value) → Prop := Paired fun (p : κ × V) (q : κ × Value) => p.1 = q.1 ∧ RelV p.2 q.2
def kV : Key → V
  | .inl i => .int i
  | .inr x => .str x
inductive HO where
  | lst (xs : List V)
  | tup (xs : List V)
  | dK (kvs : List (Key × V)) | dT (kvs : List (List Key × V))
  | set (S : Int → Bool) (n : Nat)
  | ins (C dx : Addr) (fs : List (Str × V))
  | own (x : Addr)
  | xd (fs : List (Str × V))
  | met (f x : Addr)
  | rng (lo hi : Int)
  | frz (o : Obj) (u : HO)
  | tbl (ps : Array Value)
  | ext (φ : Heap → Prop)
abbrev Hp := Addr → Option HO
def upd (H : Hp) (a : Addr) (o : HO) : Hp := fun b => if b = a then some o else H b
theorem upd_same {H : Hp} {a : Addr} {o : HO} : upd H a o a = some o := by unfold upd; rw [if_pos rfl]
theorem upd_ne {H : Hp} {a b : Addr} {o : HO} (h : b ≠ a) : upd H a o b = H b := by unfold upd; rw [if_neg h]
theorem ne_of {H : Hp} {a b : Addr} {o u : HO} (h : H a = some o) (h' : H b = some u) (d : o ≠ u) : a ≠ b := by
  intro e; subst e; rw [h] at h'; exact d (Option.some.inj h')
theorem ne_of_none {H : Hp} {a b : Addr} {o : HO} (h : H a = some o) (h' : H b = none) : a ≠ b := by
  intro e; subst e; rw [h] at h'; cases h'
section
variable (P : Program) (w : World)
def ObjOk (H : Hp) (h : Heap) (a : Addr) : HO → Prop
  | .lst xs => xs.length ≤ sizeLine ∧ ∃ (its : List Value) (n : Nat), Vals xs its ∧ h.get? a = some { cls := .type "list", data := .seq its.toArray n }
  | .tup xs => xs.length ≤ sizeLine ∧ ∃ its : List Value, Vals xs its ∧ IsTup h a its.toArray
  | .dK kvs => kvs.length ≤ sizeLine ∧ (a == sysModules) = false ∧ ∃ vs, KV kvs vs ∧ h.DictOf (mixKind P w) a vs
  | .dT kvs => kvs.length ≤ sizeLine ∧ (a == sysModules) = false ∧ ∃ xs : List (List Key × Addr × Value),
      Paired (fun (p : List Key × V) (q : List Key × Addr × Value) => p.1 = q.1 ∧ H q.2.1 = some (.tup (p.1.map kV)) ∧ RelV p.2 q.2.2) kvs xs ∧
      ∃ o es ep, h.get? a = some o ∧ o.ExactDict ∧ o.data = .dict es ep ∧ es.toList = xs.map (entryOfKey (tupleKind (mixKind P w))) ∧ (xs.map (·.1)).Nodup
  | .set S n => h.SetOf (intKind P w) a S n
  | .ins C dx fs => H dx = some (.own a) ∧ fs.length ≤ 1000 ∧ dx ≠ a ∧ h.get? a = some (PySem.W.instObj C dx) ∧
      ∃ mA, h.Ns1 dx mA ∧ (∀ f, RelO (fs.lookup f) (mA f)) ∧ PySem.Within mA (fs.map (·.1))
  | .own _ => ∃ o, h.get? a = some o
  | .xd fs => ∃ mA, h.Ns1 a mA ∧ ∀ f, RelO (fs.lookup f) (mA f)
  | .rng lo hi => ∃ t u v, h.get? a = some { cls := .type "range", data := .fields #[.int lo t, .int hi u, .int 1 v] }
  | .frz o u => h.get? a = some o ∧ ObjOk H h a u
  | .tbl ps => h.get? a = some { cls := .none, data := .fields ps }
  | .met f x => h.get? a = some (PySem.W.methodObj (.ref f) (.ref x))
  | .ext φ => φ h ∧ (∃ o, h.get? a = some o) ∧ ∀ h1 h2 : Heap, φ h1 → (∀ o, h1.get? a = some o → h2.get? a = some o) → φ h2
def HOk (H : Hp) (h : Heap) : Prop := ∀ a o, H a = some o → ObjOk P w H h a o
end
section
variable {P : Program} {w : World} {H H' : Hp} {h h' : Heap} {a : Addr} {o : HO}
theorem ObjOk.lt (x : ObjOk P w H h a o) : a < h.objs.size := by
  cases o with
  | lst xs => obtain ⟨_, _, _, _, e⟩ := x; exact Heap.lt_size e
  | tup xs => obtain ⟨_, _, _, p⟩ := x; exact p.lt
  | dK kvs => obtain ⟨_, _, _, _, o, _, _, e, _⟩ := x; exact Heap.lt_size e
  | dT kvs => obtain ⟨_, _, _, _, o, _, _, e, _⟩ := x; exact Heap.lt_size e
  | set S n => obtain ⟨o, _, _, _, e, _⟩ := x; exact Heap.lt_size e
  | ins C dx fs => obtain ⟨_, _, _, e, _⟩ := x; exact Heap.lt_size e
  | own y => obtain ⟨_, e⟩ := x; exact Heap.lt_size e
  | xd fs => obtain ⟨_, ⟨_, _, _, e, _⟩, _⟩ := x; exact Heap.lt_size e
  | rng lo hi => obtain ⟨_, _, _, e⟩ := x; exact Heap.lt_size e
  | frz ob u => obtain ⟨e, _⟩ := x; exact Heap.lt_size e
  | tbl ps => exact Heap.lt_size (show h.get? a = some _ from x)
  | met f y => exact Heap.lt_size (show h.get? a = some _ from x)
  | ext φ => obtain ⟨_, ⟨_, e⟩, _⟩ := x; exact Heap.lt_size e
theorem Paired.mapP {α β : Type} {F G : α → β → Prop} : ∀ {l₁ : List α} {l₂ : List β}, Paired F l₁ l₂ → (∀ a b, F a b → G a b) → Paired G l₁ l₂
  | _, _, .nil, _ => .nil
  | _, _, .cons r t, f => .cons (f _ _ r) (Paired.mapP t f)
theorem ObjOk.stay (x : ObjOk P w H h a o) (k : ∀ b u, (b = a ∨ H b = some (.own a)) → h.get? b = some u → h'.get? b = some u)
    (ho : ∀ b, H b = some (.own a) → H' b = some (.own a)) (ht : ∀ b xs, H b = some (.tup xs) → H' b = some (.tup xs)) : ObjOk P w H' h' a o := by
  induction o with
  | lst xs => obtain ⟨z, its, n, r, e⟩ := x; exact ⟨z, its, n, r, k _ _ (.inl rfl) e⟩
  | tup xs => obtain ⟨z, its, r, ob, e, c⟩ := x; exact ⟨z, its, r, ob, k _ _ (.inl rfl) e, c⟩
  | dK kvs => obtain ⟨z, y, vs, r, ob, es, ep, e, c⟩ := x; exact ⟨z, y, vs, r, ob, es, ep, k _ _ (.inl rfl) e, c⟩
  | dT kvs =>
    obtain ⟨z, y, xs, r, ob, es, ep, e, c⟩ := x
    exact ⟨z, y, xs, Paired.mapP r fun p q z => ⟨z.1, ht _ _ z.2.1, z.2.2⟩, ob, es, ep, k _ _ (.inl rfl) e, c⟩
  | set S n => obtain ⟨ob, es, ep, t, e, c⟩ := x; exact ⟨ob, es, ep, t, k _ _ (.inl rfl) e, c⟩
  | ins C dx fs =>
    obtain ⟨d, z, ne, e, mA, ⟨od, es, ep, e2, c⟩, r⟩ := x
    exact ⟨ho _ d, z, ne, k _ _ (.inl rfl) e, mA, ⟨od, es, ep, k _ _ (.inr d) e2, c⟩, r⟩
  | own y => obtain ⟨ob, e⟩ := x; exact ⟨ob, k _ _ (.inl rfl) e⟩
  | xd fs => obtain ⟨mA, ⟨od, es, ep, e, c⟩, r⟩ := x; exact ⟨mA, ⟨od, es, ep, k _ _ (.inl rfl) e, c⟩, r⟩
  | rng lo hi => obtain ⟨t, u, v, e⟩ := x; exact ⟨t, u, v, k _ _ (.inl rfl) e⟩
  | frz ob u ih => obtain ⟨e, q⟩ := x; exact ⟨k _ _ (.inl rfl) e, ih q⟩
  | tbl ps =>
    have e : h.get? a = some { cls := .none, data := .fields ps } := x
    show h'.get? a = some { cls := .none, data := .fields ps }
    exact k a _ (.inl rfl) e
  | met f y =>
    have e : h.get? a = some (PySem.W.methodObj (.ref f) (.ref y)) := x
    show h'.get? a = some (PySem.W.methodObj (.ref f) (.ref y))
    exact k a _ (.inl rfl) e
  | ext φ => obtain ⟨p, ⟨o, e⟩, st⟩ := x; exact ⟨st _ _ p fun o q => k _ _ (.inl rfl) q, ⟨o, k _ _ (.inl rfl) e⟩, st⟩
theorem HOk.lt (x : HOk P w H h) (e : H a = some o) : a < h.objs.size := (x a o e).lt
theorem HOk.fresh (x : HOk P w H h) (e : h.objs.size ≤ a) : H a = none := by
  cases q : H a with
  | none => rfl
  | some u => exact absurd (Nat.lt_of_lt_of_le (x.lt q) e) (Nat.lt_irrefl _)
theorem HOk.kept (x : HOk P w H h) (k : ∀ b u, h.get? b = some u → h'.get? b = some u) : HOk P w H h' := fun a o e =>
  (x a o e).stay (fun b u _ q => k b u q) (fun _ q => q) fun _ _ q => q
theorem HOk.laid (x : HOk P w H h) (k : ∀ b u, h.get? b = some u → h'.get? b = some u) (hp : h.objs.size ≤ a) (new : ObjOk P w (upd H a o) h' a o) : HOk P w (upd H a o) h' := fun b u e => by
  have hn := x.fresh hp
  by_cases hb : b = a
  · subst hb; rw [upd_same] at e; cases e; exact new
  · rw [upd_ne hb] at e
    exact (x b u e).stay (fun c v _ q => k c v q) (fun c q => by rw [upd_ne (ne_of_none q hn)]; exact q) fun c xs q => by rw [upd_ne (ne_of_none q hn)]; exact q
end
def Rd (H : Hp) (a : Addr) (u : HO) : Prop := H a = some u ∨ ∃ o, H a = some (.frz o u)
theorem Rd.ok {P : Program} {w : World} {H : Hp} {h : Heap} {a : Addr} {u : HO} (r : Rd H a u) (x : HOk P w H h) : ObjOk P w H h a u := by
  rcases r with r | ⟨o, r⟩
  · exact x a u r
  · obtain ⟨_, q⟩ := x a _ r
    exact q
def Mut : Option HO → Prop
  | some (.lst _) => True
  | some (.dK _) => True
  | some (.dT _) => True
  | some (.set _ _) => True
  | some (.ins _ _ _) => True
  | some (.ext _) => True
  | _ => False
section
variable {P : Program} {w : World} {H : Hp} {h h' : Heap} {x e : Addr} {o' : HO}
theorem HOk.write (ok : HOk P w H h) (mu : Mut (H x)) (he : e = x ∨ H e = some (.own x)) (k : ∀ b u, b ≠ e → h.get? b = some u → h'.get? b = some u) (heo : ∃ u, h'.get? e = some u)
    (new : ObjOk P w (upd H x o') h' x o') : HOk P w (upd H x o') h' := fun b u q => by
  have nown : ∀ c y, H c = some (.own y) → c ≠ x := fun c y r z => by subst z; rw [r] at mu; exact mu
  have ntup : ∀ c xs, H c = some (.tup xs) → c ≠ x := fun c xs r z => by subst z; rw [r] at mu; exact mu
  by_cases hb : b = x
  · subst hb; rw [upd_same] at q; cases q; exact new
  · rw [upd_ne hb] at q
    by_cases hbe : b = e
    · have q' : H b = some (.own x) := by
        rcases he with z | z
        · exact absurd (hbe.trans z) hb
        · rw [hbe]; exact z
      rw [q] at q'; cases q'
      obtain ⟨v, hv⟩ := heo
      exact ⟨v, by rw [hbe]; exact hv⟩
    · refine (ok b u q).stay (fun c v hc r => k c v ?_ r) (fun c r => by rw [upd_ne (nown c b r)]; exact r) fun c xs r => by rw [upd_ne (ntup c xs r)]; exact r
      rcases hc with rfl | hc
      · exact hbe
      · rintro rfl
        rcases he with z | z
        · exact nown c b hc z
        · rw [hc] at z; cases z; exact hb rfl
end
structure Un (fs ex : List Addr) (H H' : Hp) (h h' : Heap) : Prop where
  keep : ∀ b o, h.get? b = some o → H b = none → b ∉ fs → b ∉ ex → h'.get? b = some o
  slot : ∀ b o, h.get? b = some o → H b = none → b ∈ fs → b ∉ ex → ∃ sl, h'.get? b = some { o with slots := sl }
  free : ∀ b o, h.get? b = some o → H b = none → b ∉ ex → H' b = none
  there : ∀ b o, h.get? b = some o → b ∉ ex → ∃ o', h'.get? b = some o'
  tups : ∀ b xs, H b = some (.tup xs) → H' b = some (.tup xs)
  frzs : ∀ b o u, H b = some (.frz o u) → H' b = some (.frz o u)
  tbls : ∀ b ps, H b = some (.tbl ps) → ∃ more, H' b = some (.tbl (ps ++ more))
section
variable {fs fs' ex ex' : List Addr} {H H1 H2 : Hp} {h h1 h2 h' : Heap} {a x e : Addr} {o : HO}
theorem Un.any (u : Un fs ex H H1 h h1) {b : Addr} {ob : Obj} (q : h.get? b = some ob) (n : H b = none) (hx : b ∉ ex) : ∃ sl, h1.get? b = some { ob with slots := sl } := by
  by_cases hb : b ∈ fs
  · exact u.slot b ob q n hb hx
  · exact ⟨ob.slots, u.keep b ob q n hb hx⟩
theorem Un.trans (a : Un fs ex H H1 h h1) (b : Un fs ex H1 H2 h1 h2) : Un fs ex H H2 h h2 where
  keep := fun c ob q n hc hx => b.keep c ob (a.keep c ob q n hc hx) (a.free c ob q n hx) hc hx
  slot := fun c ob q n hc hx => by
    obtain ⟨sl, e1⟩ := a.slot c ob q n hc hx
    obtain ⟨sl', e2⟩ := b.slot c _ e1 (a.free c ob q n hx) hc hx
    exact ⟨sl', e2⟩
  free := fun c ob q n hx => by
    obtain ⟨o', e1⟩ := a.there c ob q hx
    exact b.free c o' e1 (a.free c ob q n hx) hx
  there := fun c ob q hx => by
    obtain ⟨o', e1⟩ := a.there c ob q hx
    exact b.there c o' e1 hx
  tups := fun c xs q => b.tups c xs (a.tups c xs q)
  frzs := fun c ob xs q => b.frzs c ob xs (a.frzs c ob xs q)
  tbls := fun c ps q => by
    obtain ⟨m1, e1⟩ := a.tbls c ps q
    obtain ⟨m2, e2⟩ := b.tbls c _ e1
    exact ⟨m1 ++ m2, by rw [e2, Array.append_assoc]⟩
theorem Un.kept (k : ∀ b u, h.get? b = some u → h'.get? b = some u) : Un fs ex H H h h' :=
  ⟨fun b ob q _ _ _ => k b ob q, fun b ob q _ _ _ => ⟨ob.slots, k b ob q⟩, fun _ _ _ n _ => n, fun b ob q _ => ⟨ob, k b ob q⟩, fun _ _ q => q, fun _ _ _ q => q, fun _ ps q => ⟨#[], by rw [q]; simp⟩⟩
theorem Un.refl : Un fs ex H H h h := Un.kept fun _ _ q => q
theorem Un.laid (k : ∀ b u, h.get? b = some u → h'.get? b = some u) (hp : h.objs.size ≤ a) (hn : H a = none) : Un fs ex H (upd H a o) h h' where
  keep := fun b u q _ _ _ => k b u q
  slot := fun b u q _ _ _ => ⟨u.slots, k b u q⟩
  free := fun b u q n _ => by rw [upd_ne (Nat.ne_of_lt (Nat.lt_of_lt_of_le (Heap.lt_size q) hp))]; exact n
  there := fun b u q _ => ⟨u, k b u q⟩
  tups := fun b xs q => by rw [upd_ne (ne_of_none q hn)]; exact q
  frzs := fun b u xs q => by rw [upd_ne (ne_of_none q hn)]; exact q
  tbls := fun b ps q => ⟨#[], by rw [upd_ne (ne_of_none q hn), q]; simp⟩
theorem Un.write (mu : Mut (H x)) (he : e = x ∨ H e = some (.own x)) (k : ∀ b u, b ≠ e → h.get? b = some u → h'.get? b = some u) (heo : ∃ u, h'.get? e = some u) : Un fs ex H (upd H x o) h h' := by
  have hx : ∀ b, H b = none → b ≠ x := fun b n z => by subst z; rw [n] at mu; exact mu
  have hb : ∀ b, H b = none → b ≠ e := fun b n z => by
    subst z
    rcases he with r | r
    · exact hx b n r
    · rw [n] at r; cases r
  have hm : ∀ b u, H b = some u → ¬ Mut (some u) → b ≠ x := fun b u q nm z => by subst z; rw [q] at mu; exact nm mu
  refine ⟨fun b u q n _ _ => k b u (hb b n) q, fun b u q n _ _ => ⟨u.slots, k b u (hb b n) q⟩, fun b u q n _ => by rw [upd_ne (hx b n)]; exact n, fun b u q _ => ?_,
    fun b xs q => by rw [upd_ne (hm b _ q fun z => z)]; exact q, fun b u xs q => by rw [upd_ne (hm b _ q fun z => z)]; exact q, fun b ps q => ⟨#[], by rw [upd_ne (hm b _ q fun z => z), q]; simp⟩⟩
  by_cases hbe : b = e
  · subst hbe; exact heo
  · exact ⟨u, k b u hbe q⟩
theorem Un.mono (u : Un fs ex H H1 h h1) (hs : ∀ b ∈ fs, b ∈ fs') (hx : ∀ b ∈ ex, b ∈ ex') : Un fs' ex' H H1 h h1 :=
  ⟨fun b ob q n hb he => u.keep b ob q n (fun z => hb (hs b z)) fun z => he (hx b z), fun _ _ q n _ he => u.any q n fun z => he (hx _ z), fun b ob q n he => u.free b ob q n fun z => he (hx b z), fun b ob q he => u.there b ob q fun z => he (hx b z), u.tups, u.frzs, u.tbls⟩
end
def trk (h : Heap) (H : Hp) : List Addr := (List.range h.objs.size).filter fun a => (H a).isSome
def hidT (h : Heap) (H : Hp) : Heap := PySem.W.hideAll h (trk h H)
theorem hidT_size (h : Heap) (H : Hp) : (hidT h H).objs.size = h.objs.size := PySem.W.hideAll_size _ _
theorem hidT_get {h : Heap} {H : Hp} {b : Addr} {o : Obj} (e : h.get? b = some o) (n : H b = none) : (hidT h H).get? b = some o :=
  PySem.W.hideAll_get _ e fun hm => by
    have q : (H b).isSome = true := (List.mem_filter.mp hm).2
    rw [n] at q; simp at q
theorem of_hidT {h : Heap} {H : Hp} {b : Addr} {o : Obj} (e : (hidT h H).get? b = some o) : h.get? b = some o ∧ H b = none := by
  have e' : h.get? b = some o := PySem.W.of_hideAll (trk h H) e
  refine ⟨e', ?_⟩
  cases q : H b with
  | none => rfl
  | some x =>
    have hm : b ∈ trk h H := List.mem_filter.mpr ⟨List.mem_range.mpr (Heap.lt_size e'), by simp [q]⟩
    have z : (hidT h H).get? b = none := PySem.W.hideAll_none (trk h H) hm
    rw [z] at e; cases e
def allNews (g h : Heap) (L : Addr) : List (Addr × Obj) := (List.range h.objs.size).filterMap fun a => if a = L ∨ (g.get? a).isSome = true then none else (h.get? a).map fun o => (a, o)
def rest (g h : Heap) (L d : Addr) : List (Addr × Obj) := (allNews g h L).filter fun p => decide (p.1 ≠ d)
end L2
namespace L2
open PySem PySem.Spec PyProof.Rows
structure Mod (K : PySem.W.Frag) (mg : Str → Option Value) (base : Heap) : Prop where
  kin : K.In base
  glob : base.Ns mainGlobals mg
  blt : ∃ mb, base.Ns builtinsNs mb ∧ ∀ x : Str, x ≠ "__name__" → mb x = bootBuiltins x
  nolimit : base.NoLimit
structure Cx where
  prog : Program
  w : World
  K : PySem.W.Frag
  mg : Str → Option Value
  base : Heap
  A : Around
  N : List Str
  s₀ : Shared
  H₀ : Hp
  env : Env
  outer : List Env
  stack : List Env
  ex : List Addr
  fn : Str → Bool
  calm : Bool
  pn : List (Addr × Obj)
  xe : Value → Shared → Prop
def frs (l : List Env) : List Addr := l.filterMap (·.frame)
abbrev Cx.fs (X : Cx) : List Addr := frs X.outer
def Vis (sc : Scope) (x : Str) : Prop := sc.names.lookup x = some .local ∨ sc.names.lookup x = some .cell ∨ sc.names.lookup x = some .free
def Loc (sc : Scope) (x : Str) : Prop := sc.names.lookup x = some .local ∨ sc.names.lookup x = some .cell
def Look (env : Env) (h : Heap) (m : Str → Option Value) (x : Str) (u : Value) : Prop :=
  (env.kindOf x = some .local ∧ m x = some u) ∨ ((env.kindOf x = some .cell ∨ env.kindOf x = some .free) ∧ ∃ c, env.cells.lookup x = some c ∧ h.IsCell c (some u))
structure Cx.Ok (X : Cx) : Prop where
  mod : Mod X.K X.mg X.base
  kind : X.env.scope.kind = .function
  glob : X.env.globals = mainGlobals
  blt : X.env.builtins = builtinsNs
  above : X.s₀.heap.objs.size ≤ X.env.locals
  inj : ∀ x y c, X.env.cells.lookup x = some c → X.env.cells.lookup y = some c → x = y
  has : ∀ x, (X.env.kindOf x = some .cell ∨ X.env.kindOf x = some .free) → ∃ c, X.env.cells.lookup x = some c
  cab : ∀ x c, X.fn x = true → X.env.cells.lookup x = some c → X.s₀.heap.objs.size ≤ c
  hd : X.calm = true → X.A.handled = none
  frames : X.A.frames = some X.stack
  stk : X.stack = X.outer ∨ (X.stack = X.env :: X.outer ∧ X.env.frame = some X.env.locals)
  exf : ∀ b ∈ X.ex, b ≠ X.env.locals ∧ ∀ x c, X.env.cells.lookup x = some c → c ≠ b
  bs : ∀ b o, X.base.get? b = some o → X.s₀.heap.get? b = some o ∧ X.H₀ b = none
  bsz : X.base.objs.size ≤ X.s₀.heap.objs.size
  noex : ∀ b o, X.base.get? b = some o → b ∉ X.ex
  exfs : ∀ b ∈ X.ex, b ∉ X.fs
  funs : X.s₀.heap.FunFrames X.base X.outer
  frf : ∀ b ∈ X.fs, X.H₀ b = none
structure Inv (X : Cx) (pins : List (Addr × Obj)) (σ : List (Option V)) (H : Hp) (s : Shared) : Prop where
  ok : X.Ok
  os : s.os = X.s₀.os
  bare : AllBare s.gens
  base : Un X.fs X.ex X.H₀ H X.s₀.heap s.heap
  loc : ∃ m, s.heap.Ns X.env.locals m ∧ ∀ (i : Nat) (x : Str) (v : V), X.N[i]? = some x → σ[i]? = some (some v) → Vis X.env.scope x → ∃ u, RelV v u ∧ Look X.env s.heap m x u
  cell : ∀ x c, X.env.cells.lookup x = some c → ∃ v, s.heap.IsCell c v
  free : H X.env.locals = none
  freeC : ∀ x c, X.env.cells.lookup x = some c → H c = none
  pin : ∀ p ∈ X.pn ++ pins, s.heap.get? p.1 = some p.2 ∧ H p.1 = none ∧ p.1 ≠ X.env.locals ∧ p.1 ∉ X.fs ∧ ∀ v, p.2.data ≠ .cell v
  hok : HOk X.prog X.w H s.heap
  len : σ.length = X.N.length
section
variable {X : Cx} {pins : List (Addr × Obj)} {σ : List (Option V)} {H H' : Hp} {s : Shared} {h' : Heap}
theorem Cx.Ok.nofr (ok : X.Ok) {b : Addr} {o : Obj} (e : X.base.get? b = some o) : b ∉ X.fs := fun hb => by
  have := (ok.funs.mem hb).1
  rw [e] at this; cases this
theorem Inv.bs (I : Inv X pins σ H s) : ∀ b o, X.base.get? b = some o → s.heap.get? b = some o ∧ H b = none := fun b o e =>
  ⟨I.base.keep b o (I.ok.bs b o e).1 (I.ok.bs b o e).2 (I.ok.nofr e) (I.ok.noex b o e), I.base.free b o (I.ok.bs b o e).1 (I.ok.bs b o e).2 (I.ok.noex b o e)⟩
theorem Inv.bk (I : Inv X pins σ H s) : ∀ b o, X.base.get? b = some o → s.heap.get? b = some o := fun b o e => (I.bs b o e).1
theorem Inv.mod (I : Inv X pins σ H s) : Mod X.K X.mg X.base := I.ok.mod
theorem Inv.kIn (I : Inv X pins σ H s) : X.K.In s.heap := I.ok.mod.kin.keeps I.bk
theorem Inv.nolimit (I : Inv X pins σ H s) : s.heap.NoLimit := I.ok.mod.nolimit.keeps I.bk
theorem Inv.fr (I : Inv X pins σ H s) : ∃ m, Fr X.base X.env.locals s.heap m :=
  let ⟨m, hn, _⟩ := I.loc
  ⟨m, hn, I.bk, Nat.le_trans I.ok.bsz I.ok.above⟩
theorem Inv.lt (I : Inv X pins σ H s) : X.env.locals < s.heap.objs.size := let ⟨_, hn, _⟩ := I.loc; hn.lt
theorem Inv.sz (I : Inv X pins σ H s) : X.s₀.heap.objs.size ≤ s.heap.objs.size := Nat.le_trans I.ok.above (Nat.le_of_lt I.lt)
theorem Inv.nofs (I : Inv X pins σ H s) {a : Addr} (h : s.heap.objs.size ≤ a) : a ∉ X.fs := fun hb => by
  obtain ⟨_, o, ho, _⟩ := I.ok.funs.mem hb
  exact absurd (Nat.lt_of_lt_of_le (Heap.lt_size ho) (Nat.le_trans I.sz h)) (Nat.lt_irrefl _)
theorem Inv.cne (I : Inv X pins σ H s) : ∀ x c, X.env.cells.lookup x = some c → c ≠ X.env.locals := fun x c e z => by
  obtain ⟨v, o, ho, hd⟩ := I.cell x c e
  obtain ⟨m, ⟨o', es, ep, ho', hd', _⟩, _⟩ := I.loc
  rw [z, ho'] at ho; cases ho; rw [hd'] at hd; cases hd
theorem Inv.funs (I : Inv X pins σ H s) : s.heap.FunFrames X.base X.outer := by
  have all : ∀ (l : List Env), (∀ b ∈ frs l, b ∈ X.fs) → X.s₀.heap.FunFrames X.base l → s.heap.FunFrames X.base l := by
    intro l
    induction l with
    | nil => intro _ _; trivial
    | cons env r ih =>
      intro hs hl
      obtain ⟨hk, ⟨L, o, hf, hn, ho, hd⟩, hr⟩ := hl
      have hL : L ∈ X.fs := hs L (by unfold frs; rw [List.filterMap_cons, hf]; exact List.mem_cons_self)
      obtain ⟨sl, e⟩ := I.base.slot L o ho (I.ok.frf L hL) hL fun z => I.ok.exfs L z hL
      exact ⟨hk, ⟨L, _, hf, hn, e, hd⟩, ih (fun b hb => hs b (by unfold frs; rw [List.filterMap_cons, hf]; exact List.mem_cons_of_mem _ hb)) hr⟩
  exact all X.outer (fun _ hb => hb) I.ok.funs
theorem Inv.stack (I : Inv X pins σ H s) : s.heap.FunFrames X.base X.stack := by
  rcases I.ok.stk with e | ⟨e, hf⟩
  · rw [e]; exact I.funs
  · rw [e]
    obtain ⟨m, hn, _⟩ := I.loc
    refine .cons (by rw [I.ok.kind]; decide) hf hn ?_ I.funs
    exact Heap.get?_none_of_le (Nat.le_trans I.ok.bsz I.ok.above)
theorem Inv.stkSub (I : Inv X pins σ H s) : ∀ b ∈ frs X.stack, b ∈ X.env.locals :: X.fs := fun b hb => by
  rcases I.ok.stk with e | ⟨e, hf⟩
  · rw [e] at hb; exact List.mem_cons_of_mem _ hb
  · rw [e] at hb
    unfold frs at hb
    rw [List.filterMap_cons, hf] at hb
    exact hb
theorem Inv.stkFree (I : Inv X pins σ H s) : ∀ b ∈ frs X.stack, H b = none := fun b hb => by
  rcases List.mem_cons.mp (I.stkSub b hb) with e | hb
  · rw [e]; exact I.free
  · obtain ⟨_, o, ho, _⟩ := I.ok.funs.mem hb
    exact I.base.free b o ho (I.ok.frf b hb) fun z => I.ok.exfs b z hb
theorem Inv.step {g' : Array GenState} {t' : Nat} {d' : Drawn} {ch : List Addr} (I : Inv X pins σ H s)
    (hch : ∀ b ∈ ch, (b ∈ X.ex ∨ X.s₀.heap.objs.size ≤ b) ∧ b ≠ X.env.locals ∧ (∀ x c, X.env.cells.lookup x = some c → c ≠ b) ∧ ∀ p ∈ X.pn ++ pins, p.1 ≠ b)
    (keep : ∀ b o, b ≠ X.env.locals → b ∉ X.fs → b ∉ ch → s.heap.get? b = some o → H b = none → h'.get? b = some o)
    (slot : ∀ b o, b ≠ X.env.locals → b ∈ X.fs → b ∉ ch → s.heap.get? b = some o → H b = none → ∃ sl, h'.get? b = some { o with slots := sl }) (free : ∀ b o, b ∉ ch → s.heap.get? b = some o → H b = none → H' b = none)
    (there : ∀ b o, b ∉ ch → s.heap.get? b = some o → ∃ o', h'.get? b = some o')
    (tups : ∀ b xs, H b = some (.tup xs) → H' b = some (.tup xs)) (frzs : ∀ b o u, H b = some (.frz o u) → H' b = some (.frz o u)) (tbls : ∀ b ps, H b = some (.tbl ps) → ∃ more, H' b = some (.tbl (ps ++ more)))
    (ns : ∀ m, s.heap.Ns X.env.locals m → h'.Ns X.env.locals m) (hok : HOk X.prog X.w H' h') (hg : AllBare g') :
    Inv X pins σ H' { s with heap := h', gens := g', drawn := d', toks := t' } := by
  have neL : ∀ b o, X.s₀.heap.get? b = some o → b ≠ X.env.locals := fun b o e => Nat.ne_of_lt (Nat.lt_of_lt_of_le (Heap.lt_size e) I.ok.above)
  have neC : ∀ b o, X.s₀.heap.get? b = some o → b ∉ X.ex → b ∉ ch := fun b o e hx hb => by
    rcases (hch b hb).1 with z | z
    · exact hx z
    · exact absurd (Nat.lt_of_lt_of_le (Heap.lt_size e) z) (Nat.lt_irrefl _)
  have cellK : ∀ x c, X.env.cells.lookup x = some c → ∀ v, s.heap.IsCell c v → h'.IsCell c v := fun x c e v ⟨o, ho, hd⟩ => by
    have nch : c ∉ ch := fun z => (hch c z).2.2.1 x c e rfl
    by_cases hc : c ∈ X.fs
    · obtain ⟨sl, q⟩ := slot c o (I.cne x c e) hc nch ho (I.freeC x c e)
      exact ⟨_, q, hd⟩
    · exact ⟨o, keep c o (I.cne x c e) hc nch ho (I.freeC x c e), hd⟩
  refine ⟨I.ok, I.os, hg, ⟨fun b o e n hb hx => ?_, fun b o e n hb hx => ?_, fun b o e n hx => ?_, fun b o e hx => ?_, fun b xs e => tups b xs (I.base.tups b xs e), fun b o xs e => frzs b o xs (I.base.frzs b o xs e), fun b ps e => ?_⟩, ?_, fun x c e => ?_, ?_, fun x c e => ?_, fun p hp => ?_, hok, I.len⟩
  · exact keep b o (neL b o e) hb (neC b o e hx) (I.base.keep b o e n hb hx) (I.base.free b o e n hx)
  · obtain ⟨sl, e1⟩ := I.base.slot b o e n hb hx
    obtain ⟨sl', e2⟩ := slot b _ (neL b o e) hb (neC b o e hx) e1 (I.base.free b o e n hx)
    exact ⟨sl', e2⟩
  · obtain ⟨o', e1⟩ := I.base.there b o e hx
    exact free b o' (neC b o e hx) e1 (I.base.free b o e n hx)
  · obtain ⟨o', e1⟩ := I.base.there b o e hx
    exact there b o' (neC b o e hx) e1
  · obtain ⟨m1, e1⟩ := I.base.tbls b ps e
    obtain ⟨m2, e2⟩ := tbls b _ e1
    exact ⟨m1 ++ m2, by rw [e2, Array.append_assoc]⟩
  · obtain ⟨m, hn, hl⟩ := I.loc
    refine ⟨m, ns m hn, fun i x v e1 e2 e3 => ?_⟩
    obtain ⟨u, r, l⟩ := hl i x v e1 e2 e3
    refine ⟨u, r, ?_⟩
    rcases l with l | ⟨k, c, e, z⟩
    · exact .inl l
    · exact .inr ⟨k, c, e, cellK x c e _ z⟩
  · obtain ⟨v, z⟩ := I.cell x c e
    exact ⟨v, cellK x c e v z⟩
  · obtain ⟨m, ⟨o, _, _, ho, _⟩, _⟩ := I.loc
    exact free _ o (fun z => (hch _ z).2.1 rfl) ho I.free
  · obtain ⟨v, o, ho, hd⟩ := I.cell x c e
    exact free c o (fun z => (hch c z).2.2.1 x c e rfl) ho (I.freeC x c e)
  · obtain ⟨e, n, ne, nf, d⟩ := I.pin p hp
    have nch : p.1 ∉ ch := fun z => (hch p.1 z).2.2.2 p hp rfl
    exact ⟨keep p.1 p.2 ne nf nch e n, free p.1 p.2 nch e n, ne, nf, d⟩
theorem Inv.un {t' : Nat} (I : Inv X pins σ H s) (u : Un X.fs [] H H' s.heap h') (hok : HOk X.prog X.w H' h') : Inv X pins σ H' { s with heap := h', toks := t' } := by
  obtain ⟨m, ⟨o, es, ep, ho, r⟩, _⟩ := id I.loc
  obtain ⟨sl, hL⟩ := u.any ho I.free (by simp)
  exact I.step (g' := s.gens) (d' := s.drawn) (ch := []) (fun _ z => nomatch z) (fun b o _ hb _ e n => u.keep b o e n hb (by simp)) (fun b o _ hb _ e n => u.slot b o e n hb (by simp)) (fun b o _ e n => u.free b o e n (by simp)) (fun b o _ e => u.there b o e (by simp)) u.tups u.frzs u.tbls (fun m' hm => by
    obtain ⟨o', es', ep', ho', r'⟩ := hm
    rw [ho] at ho'; cases ho'
    exact ⟨_, es', ep', hL, r'⟩) hok I.bare
theorem Inv.call {g' : Array GenState} {t' : Nat} {d' : Drawn} {ch : List Addr} (I : Inv X pins σ H s) (u : Un (frs X.stack) ch H H' s.heap h') (hok : HOk X.prog X.w H' h') (hg : AllBare g')
    (hch : ∀ b ∈ ch, (b ∈ X.ex ∨ X.s₀.heap.objs.size ≤ b) ∧ b ≠ X.env.locals ∧ (∀ x c, X.env.cells.lookup x = some c → c ≠ b) ∧ ∀ p ∈ X.pn ++ pins, p.1 ≠ b) :
    Inv X pins σ H' { s with heap := h', gens := g', drawn := d', toks := t' } := by
  obtain ⟨m, ⟨o, es, ep, ho, r⟩, _⟩ := id I.loc
  obtain ⟨sl, hL⟩ := u.any ho I.free fun z => (hch _ z).2.1 rfl
  exact I.step (ch := ch) hch (fun b o hL hb hc e n => u.keep b o e n (fun z => (List.mem_cons.mp (I.stkSub b z)).elim hL hb) hc) (fun b o _ _ hc e n => u.any e n hc) (fun b o hc e n => u.free b o e n hc) (fun b o hc e => u.there b o e hc) u.tups u.frzs u.tbls (fun m' hm => by
    obtain ⟨o', es', ep', ho', r'⟩ := hm
    rw [ho] at ho'; cases ho'
    exact ⟨_, es', ep', hL, r'⟩) hok hg
theorem Inv.turned {t' : Nat} {it : Addr} (I : Inv X pins σ H s) (k : ∀ b o, b ≠ it → s.heap.get? b = some o → h'.get? b = some o) (hn : H it = none) (hL : it ≠ X.env.locals)
    (h1 : it ∈ X.ex ∨ X.s₀.heap.objs.size ≤ it) (h2 : ∀ x c, X.env.cells.lookup x = some c → c ≠ it) (h3 : ∀ p ∈ X.pn ++ pins, p.1 ≠ it) : Inv X pins σ H { s with heap := h', toks := t' } := by
  have nit : ∀ b u, H b = some u → b ≠ it := fun b u e z => by rw [z, hn] at e; cases e
  refine I.step (g' := s.gens) (d' := s.drawn) (ch := [it]) (fun b hb => ?_) (fun b o _ _ hc e _ => k b o (fun z => hc (by simp [z])) e) (fun b o _ _ hc e _ => ⟨o.slots, k b o (fun z => hc (by simp [z])) e⟩) (fun _ _ _ _ n => n)
    (fun b o hc e => ⟨o, k b o (fun z => hc (by simp [z])) e⟩) (fun _ _ e => e) (fun _ _ _ e => e) (fun b ps e => ⟨#[], by rw [e]; simp⟩) (fun m hm => ?_) (fun b u e => ?_) I.bare
  · have e : b = it := by simpa using hb
    subst e
    exact ⟨h1, hL, h2, h3⟩
  · obtain ⟨o, es, ep, ho, r⟩ := hm
    exact ⟨o, es, ep, k _ o (Ne.symm hL) ho, r⟩
  · refine (I.hok b u e).stay (fun c v hc q => k c v ?_ q) (fun _ q => q) fun _ _ q => q
    rcases hc with z | z
    · rw [z]; exact nit b u e
    · exact nit c _ z
theorem Inv.tok (I : Inv X pins σ H s) (t : Nat) : Inv X pins σ H { s with toks := t } := I.un (h' := s.heap) (t' := t) Un.refl I.hok
theorem Inv.kept {t' : Nat} (I : Inv X pins σ H s) (k : ∀ b u, s.heap.get? b = some u → h'.get? b = some u) : Inv X pins σ H { s with heap := h', toks := t' } := I.un (Un.kept k) (I.hok.kept k)
theorem Inv.laid {a : Addr} {o : HO} {t' : Nat} (I : Inv X pins σ H s) (k : ∀ b u, s.heap.get? b = some u → h'.get? b = some u) (hp : s.heap.objs.size ≤ a) (new : ObjOk X.prog X.w (upd H a o) h' a o) :
    Inv X pins σ (upd H a o) { s with heap := h', toks := t' } := I.un (Un.laid k hp (I.hok.fresh hp)) (I.hok.laid k hp new)
theorem Inv.write {x e : Addr} {o : HO} {t' : Nat} (I : Inv X pins σ H s) (mu : Mut (H x)) (he : e = x ∨ H e = some (.own x)) (k : ∀ b u, b ≠ e → s.heap.get? b = some u → h'.get? b = some u) (heo : ∃ u, h'.get? e = some u)
    (new : ObjOk X.prog X.w (upd H x o) h' x o) : Inv X pins σ (upd H x o) { s with heap := h', toks := t' } := I.un (Un.write mu he k heo) (I.hok.write mu he k heo new)
theorem Inv.weak {σ' : List (Option V)} (I : Inv X pins σ H s) (hl : σ'.length = σ.length) (w : ∀ (i : Nat) v, σ'[i]? = some (some v) → σ[i]? = some (some v)) : Inv X pins σ' H s :=
  ⟨I.ok, I.os, I.bare, I.base, let ⟨m, hn, hl'⟩ := I.loc; ⟨m, hn, fun i x v e1 e2 e3 => hl' i x v e1 (w i v e2) e3⟩, I.cell, I.free, I.freeC, I.pin, I.hok, hl.trans I.len⟩
theorem Inv.pins_of {pins' : List (Addr × Obj)} (I : Inv X pins σ H s) (h : ∀ p ∈ pins', s.heap.get? p.1 = some p.2 ∧ H p.1 = none ∧ p.1 ≠ X.env.locals ∧ p.1 ∉ X.fs ∧ ∀ v, p.2.data ≠ .cell v) : Inv X pins' σ H s :=
  ⟨I.ok, I.os, I.bare, I.base, I.loc, I.cell, I.free, I.freeC, fun p hp => (List.mem_append.mp hp).elim (fun z => I.pin p (List.mem_append_left _ z)) (h p), I.hok, I.len⟩
theorem nodup_ix {N : List Str} (hN : N.Nodup) {i j : Nat} {x : Str} (a : N[i]? = some x) (b : N[j]? = some x) : i = j := by
  obtain ⟨h1, e1⟩ := List.getElem?_eq_some_iff.mp a
  obtain ⟨h2, e2⟩ := List.getElem?_eq_some_iff.mp b
  exact (List.getElem_inj hN).mp (e1.trans e2.symm)
theorem store_ok2 {M : Model} {A : Around} {E : Value → Shared → Prop} {i : Nat} {x : Str} {v : V} {u : Value} {Q : Unit → Shared → Prop} (I : Inv X pins σ H s) (hN : X.N.Nodup) (hi : X.N[i]? = some x) (hx : Loc X.env.scope x) (r : RelV v u)
    (h : ∀ s', Inv X pins (σ.set i (some v)) H s' → (∃ a, Heap.SameBut a s.heap s'.heap ∧ (a = X.env.locals ∨ X.env.cells.lookup x = some a)) → Q () s') (hf : X.fn x = true ∨ X.env.scope.names.lookup x = some .local := by first | exact .inl rfl | exact .inr rfl | assumption) : wpAny M A (storeName X.env x u) Q E s := by
  obtain ⟨m, hn, hl⟩ := id I.loc
  have hcls : (X.env.scope.kind == .class || (X.env.scope.kind == .module && X.env.locals != X.env.globals)) = false := by rw [I.ok.kind]; rfl
  have hiσ : i < σ.length := by rw [I.len]; exact (List.getElem?_eq_some_iff.mp hi).1
  have cne := I.cne
  have tracked : ∀ {a : Addr} {h' : Heap}, (∃ o, s.heap.get? a = some o ∧ H a = none) → Heap.SameBut a s.heap h' → HOk X.prog X.w H h' := fun {a h'} ha hs b ob e => by
    obtain ⟨_, _, hfree⟩ := ha
    refine (I.hok b ob e).stay (fun c w' hc q => (hs.2 c ?_).trans q) (fun _ q => q) fun _ _ q => q
    rintro rfl
    rcases hc with rfl | hc
    · rw [hfree] at e; cases e
    · rw [hfree] at hc; cases hc
  rcases hx with hk | hk
  · refine wpAny_storeName_local hk hn (fun h' hn' hs => ?_) hcls
    obtain ⟨oL, _, _, hoL, _⟩ := id hn
    refine h _ ⟨I.ok, I.os, I.bare, ⟨fun b o e n hb hx => ?_, fun b o e n hb hx => ?_, I.base.free, fun b o e hx => ?_, I.base.tups, I.base.frzs, I.base.tbls⟩, ⟨_, hn', fun j y v' e1 e2 e3 => ?_⟩, fun y c e => ?_, I.free, I.freeC, fun p hp => ?_, tracked ⟨oL, hoL, I.free⟩ hs, by simpa using I.len⟩ ⟨_, hs, .inl rfl⟩
    · exact (hs.2 b (Nat.ne_of_lt (Nat.lt_of_lt_of_le (Heap.lt_size e) I.ok.above))).trans (I.base.keep b o e n hb hx)
    · obtain ⟨sl, e1⟩ := I.base.slot b o e n hb hx
      exact ⟨sl, (hs.2 b (Nat.ne_of_lt (Nat.lt_of_lt_of_le (Heap.lt_size e) I.ok.above))).trans e1⟩
    · obtain ⟨o', e1⟩ := I.base.there b o e hx
      exact ⟨o', (hs.2 b (Nat.ne_of_lt (Nat.lt_of_lt_of_le (Heap.lt_size e) I.ok.above))).trans e1⟩
    · by_cases hj : j = i
      · subst hj
        rw [hi] at e1; cases e1
        rw [List.getElem?_set_self hiσ] at e2
        cases e2
        exact ⟨u, r, .inl ⟨hk, by simp⟩⟩
      · rw [List.getElem?_set_ne (Ne.symm hj)] at e2
        obtain ⟨u', r', q⟩ := hl j y v' e1 e2 e3
        refine ⟨u', r', ?_⟩
        rcases q with ⟨k, e⟩ | ⟨k, c, e, z⟩
        · refine .inl ⟨k, ?_⟩
          have : y ≠ x := fun e => hj (nodup_ix hN e1 (e ▸ hi))
          simp [this, e]
        · exact .inr ⟨k, c, e, z.sameBut hs (cne y c e)⟩
    · obtain ⟨w', z⟩ := I.cell y c e
      exact ⟨w', z.sameBut hs (cne y c e)⟩
    · obtain ⟨e, n, ne, nf, d⟩ := I.pin p hp
      exact ⟨(hs.2 p.1 ne).trans e, n, ne, nf, d⟩
  · have hfn : X.fn x = true := by
      rcases hf with z | z
      · exact z
      · rw [z] at hk; cases hk
    obtain ⟨c, hc⟩ := I.ok.has x (.inl hk)
    obtain ⟨w', z⟩ := I.cell x c hc
    refine wpAny_storeName_cell I.ok.kind hk hc z (fun h' hc' hs => ?_)
    obtain ⟨oc, hoc, hocd⟩ := id z
    refine h { s with heap := h' } ⟨I.ok, I.os, I.bare, ⟨fun b o e n hb hx => ?_, fun b o e n hb hx => ?_, I.base.free, fun b o e hx => ?_, I.base.tups, I.base.frzs, I.base.tbls⟩, ⟨m, hn.sameBut hs (Ne.symm (cne x c hc)), fun j y v' e1 e2 e3 => ?_⟩, fun y c' e => ?_, I.free, I.freeC, fun p hp => ?_, tracked ⟨oc, hoc, I.freeC x c hc⟩ hs, by simpa using I.len⟩ ⟨c, hs, .inr hc⟩
    · exact (hs.2 b (Nat.ne_of_lt (Nat.lt_of_lt_of_le (Heap.lt_size e) (I.ok.cab x c hfn hc)))).trans (I.base.keep b o e n hb hx)
    · obtain ⟨sl, e1⟩ := I.base.slot b o e n hb hx
      exact ⟨sl, (hs.2 b (Nat.ne_of_lt (Nat.lt_of_lt_of_le (Heap.lt_size e) (I.ok.cab x c hfn hc)))).trans e1⟩
    · obtain ⟨o', e1⟩ := I.base.there b o e hx
      exact ⟨o', (hs.2 b (Nat.ne_of_lt (Nat.lt_of_lt_of_le (Heap.lt_size e) (I.ok.cab x c hfn hc)))).trans e1⟩
    · by_cases hj : j = i
      · subst hj
        rw [hi] at e1; cases e1
        rw [List.getElem?_set_self hiσ] at e2
        cases e2
        exact ⟨u, r, .inr ⟨.inl hk, c, hc, hc'⟩⟩
      · rw [List.getElem?_set_ne (Ne.symm hj)] at e2
        obtain ⟨u', r', q⟩ := hl j y v' e1 e2 e3
        refine ⟨u', r', ?_⟩
        rcases q with q | ⟨k, c', e, z'⟩
        · exact .inl q
        · refine .inr ⟨k, c', e, z'.sameBut hs ?_⟩
          rintro rfl
          exact hj (nodup_ix hN e1 (I.ok.inj _ _ _ e hc ▸ hi))
    · by_cases hcc : c' = c
      · subst hcc; exact ⟨_, hc'⟩
      · obtain ⟨w2, z2⟩ := I.cell y c' e
        exact ⟨w2, z2.sameBut hs hcc⟩
    · obtain ⟨e, n, ne, nf, d⟩ := I.pin p hp
      refine ⟨(hs.2 p.1 ?_).trans e, n, ne, nf, d⟩
      intro q
      rw [q, hoc] at e
      have q' : oc = p.2 := Option.some.inj e
      exact d w' (by rw [← q']; exact hocd)
theorem store_ok {M : Model} {A : Around} {E : Value → Shared → Prop} {i : Nat} {x : Str} {v : V} {u : Value} {Q : Unit → Shared → Prop} (I : Inv X pins σ H s) (hN : X.N.Nodup) (hi : X.N[i]? = some x) (hx : Loc X.env.scope x) (r : RelV v u)
    (h : ∀ s', Inv X pins (σ.set i (some v)) H s' → Q () s') (hf : X.fn x = true ∨ X.env.scope.names.lookup x = some .local := by first | exact .inl rfl | exact .inr rfl | assumption) : wpAny M A (storeName X.env x u) Q E s :=
  store_ok2 I hN hi hx r (fun s' I' _ => h s' I') hf
theorem Inv.call' {s' : Shared} {ch : List Addr} (I : Inv X pins σ H s) (ho : s'.os = s.os) (u : Un (frs X.stack) ch H H' s.heap s'.heap) (hok : HOk X.prog X.w H' s'.heap) (hg : AllBare s'.gens)
    (hch : ∀ b ∈ ch, (b ∈ X.ex ∨ X.s₀.heap.objs.size ≤ b) ∧ b ≠ X.env.locals ∧ (∀ x c, X.env.cells.lookup x = some c → c ≠ b) ∧ ∀ p ∈ X.pn ++ pins, p.1 ≠ b) : Inv X pins σ H' s' := by
  obtain ⟨h', g', d', t', o'⟩ := s'
  have e : o' = s.os := ho
  subst e
  exact I.call (g' := g') (t' := t') (d' := d') u hok hg hch
end
abbrev XK := Value → Option Addr → Hp → Prop
abbrev St := List (Option V)
abbrev VK := V → Hp → Prop
abbrev TE := St → Hp → VK → Prop
abbrev TT := St → Hp → (Bool → Hp → Prop) → Prop
abbrev TA := St → Hp → (List V → Hp → Prop) → Prop
structure Ends where
  nx : St → Hp → Prop
  rt : VK
  bk : St → Hp → Prop := fun _ _ => False
  ct : St → Hp → Prop := fun _ _ => False
abbrev TS := Ends → St → Hp → Prop
def EP (X : Cx) (pins : List (Addr × Obj)) (σ : St) (Q : VK) (u : Value) (s' : Shared) : Prop := ∃ v H', Inv X pins σ H' s' ∧ RelV v u ∧ Q v H'
def TP (X : Cx) (pins : List (Addr × Obj)) (σ : St) (Q : Bool → Hp → Prop) (b : Bool) (s' : Shared) : Prop := ∃ H', Inv X pins σ H' s' ∧ Q b H'
def AP (X : Cx) (pins : List (Addr × Obj)) (σ : St) (Q : List V → Hp → Prop) (us : List Value) (s' : Shared) : Prop := ∃ vs H', Inv X pins σ H' s' ∧ Vals vs us ∧ Q vs H'
def SP (X : Cx) (pins : List (Addr × Obj)) (D : Ends) (f : Flow) (s' : Shared) : Prop :=
  match f with
  | .next => ∃ σ' H', Inv X pins σ' H' s' ∧ D.nx σ' H'
  | .brk => ∃ σ' H', Inv X pins σ' H' s' ∧ D.bk σ' H'
  | .cont => ∃ σ' H', Inv X pins σ' H' s' ∧ D.ct σ' H'
  | .ret u => ∃ v σ' H', Inv X pins σ' H' s' ∧ RelV v u ∧ D.rt v H'
def PE (X : Cx) (e : Expr) (t : TE) : Prop :=
  ∀ (pins : List (Addr × Obj)) (s : Shared) (σ : St) (H : Hp) (Q : VK), Inv X pins σ H s → t σ H Q → wpAny (model X.prog X.w) X.A (eval e X.env) (EP X pins σ Q) X.xe s
def PT (X : Cx) (e : Expr) (t : TT) : Prop :=
  ∀ (pins : List (Addr × Obj)) (s : Shared) (σ : St) (H : Hp) (Q : Bool → Hp → Prop), Inv X pins σ H s → t σ H Q → wpAny (model X.prog X.w) X.A (isTrue e X.env (eval e X.env)) (TP X pins σ Q) X.xe s
def PW (X : Cx) (e : Expr) (t : TT) : Prop :=
  ∀ (whole : Sem Value) (pins : List (Addr × Obj)) (s : Shared) (σ : St) (H : Hp) (Q : Bool → Hp → Prop), Inv X pins σ H s → t σ H Q → wpAny (model X.prog X.w) X.A (isTrue e X.env whole) (TP X pins σ Q) X.xe s
theorem PW.pt {X : Cx} {e : Expr} {t : TT} (h : PW X e t) : PT X e t := h _
def PA (X : Cx) (es : List Expr) (t : TA) : Prop :=
  ∀ (pos : Pos) (pins : List (Addr × Obj)) (s : Shared) (σ : St) (H : Hp) (Q : List V → Hp → Prop), Inv X pins σ H s → t σ H Q → wpAny (model X.prog X.w) X.A (spliced (backTo pos (starEach es X.env))) (AP X pins σ Q) X.xe s
def PS (X : Cx) (st : Stmt) (t : TS) : Prop :=
  ∀ (pins : List (Addr × Obj)) (s : Shared) (σ : St) (H : Hp) (D : Ends), Inv X pins σ H s → t D σ H → wpAny (model X.prog X.w) X.A (exec st X.env) (SP X pins D) X.xe s
def PSs (X : Cx) (st : List Stmt) (t : TS) : Prop :=
  ∀ (pins : List (Addr × Obj)) (s : Shared) (σ : St) (H : Hp) (D : Ends), Inv X pins σ H s → t D σ H → wpAny (model X.prog X.w) X.A (execs st X.env) (SP X pins D) X.xe s
theorem thn {α : Type} {t : Sem α} {Q Q' : α → Shared → Prop} {M : Model} {A : Around} {E : Value → Shared → Prop} {s : Shared} (h : wpAny M A t Q E s) (hQ : ∀ a s, Q a s → Q' a s) : wpAny M A t Q' E s := wpAny_mono h hQ fun _ _ x => x
end L2
namespace L2
open PySem PySem.Spec PyProof.Rows
section
variable {X : Cx}
theorem bin {a b : Expr} {ta tb : TE} (ha : PE X a ta) (hb : PE X b tb) {pins : List (Addr × Obj)} {s : Shared} {σ : St} {H : Hp} {R : V → V → Hp → Prop} (I : Inv X pins σ H s) (h : ta σ H fun x H1 => tb σ H1 fun y H2 => R x y H2)
    {α : Type} {Q : α → Shared → Prop} {f : Value → Value → Sem α}
    (hf : ∀ v u s2 x y H2, Inv X pins σ H2 s2 → RelV x v → RelV y u → R x y H2 → wpAny (model X.prog X.w) X.A (f v u) Q X.xe s2) :
    wpAny (model X.prog X.w) X.A (eval a X.env) (fun v s₁ => wpAny (model X.prog X.w) X.A (eval b X.env) (fun u s₂ => wpAny (model X.prog X.w) X.A (f v u) Q X.xe s₂) X.xe s₁) X.xe s := by
  refine thn (ha pins s σ H _ I h) fun v s1 ⟨x, H1, I1, r1, q1⟩ => ?_
  refine thn (hb pins s1 σ H1 _ I1 q1) fun u s2 ⟨y, H2, I2, r2, q2⟩ => ?_
  exact hf v u s2 x y H2 I2 r1 r2 q2
def tVar (i : Nat) : TE := fun σ H Q => ∃ v, σ[i]? = some (some v) ∧ Q v H
def tC (v : V) : TE := fun _ H Q => Q v H
theorem pe_var {i : Nat} {x : Str} {pos : Pos} (hN : X.N[i]? = some x) (hv : Vis X.env.scope x) (hd : (x == ("__debug__" : Str)) = false := by decide) (hcd : (x == ("__classdict__" : Str)) = false := by decide) : PE X (.Name x pos) (tVar i) := by
  intro pins s σ H Q I h
  obtain ⟨v, e, h⟩ := h
  obtain ⟨m, hn, hl⟩ := I.loc
  obtain ⟨u, r, l⟩ := hl i x v hN e hv
  have fin : EP X pins σ Q u s := ⟨v, H, I, r, h⟩
  rcases l with ⟨hk, hm⟩ | ⟨hk, c, hc, hcell⟩
  · exact wpAny_Name (wpAny_loadName_local I.ok.kind hk hn hm fin) hd
  · rcases hk with hk | hk
    · exact wpAny_Name (wpAny_loadName_cell I.ok.kind hk hc hcell fin) hd
    · exact wpAny_Name (wpAny_loadName_free I.ok.kind hk hc hcell fin hcd) hd
theorem pe_int {i j pos} : PE X (.Constant (.int i) j pos) (tC (.int i)) := fun _ _ _ H _ I h => wpAny_Constant_int ⟨.int i, H, I.tok _, ⟨_, rfl⟩, h⟩
theorem pe_bl {b j pos} : PE X (.Constant (.bool b) j pos) (tC (.bl b)) := fun _ _ _ H _ I h => Constant_bool ⟨.bl b, H, I, rfl, h⟩
theorem pe_non {j pos} : PE X (.Constant .none j pos) (tC .non) := fun _ _ _ H _ I h => Constant_none ⟨.non, H, I, rfl, h⟩
def Gl (X : Cx) (x : Str) : Prop := X.env.kindOf x = some .globalImplicit
theorem ld_glob {E : Value → Shared → Prop} {pins : List (Addr × Obj)} {s : Shared} {σ : St} {H : Hp} {x : Str} {u : Value} {pos : Pos} {Q : Value → Shared → Prop} (I : Inv X pins σ H s) (hg : Gl X x) (hm : X.mg x = some u) (h : Q u s)
    (hd : (x == ("__debug__" : Str)) = false := by decide) : wpAny (model X.prog X.w) X.A (eval (.Name x pos) X.env) Q E s :=
  Calls.Name_function_global I.ok.kind hg (Calls.loadGlobal_global (by rw [I.ok.glob]; exact I.mod.glob.keeps I.bk) hm h) hd
theorem ld_blt {E : Value → Shared → Prop} {pins : List (Addr × Obj)} {s : Shared} {σ : St} {H : Hp} {x : Str} {u : Value} {pos : Pos} {Q : Value → Shared → Prop} (I : Inv X pins σ H s) (hg : Gl X x) (hm : X.mg x = none) (hv : bootBuiltins x = some u) (h : Q u s)
    (hn : x ≠ "__name__" := by decide) (hd : (x == ("__debug__" : Str)) = false := by decide) : wpAny (model X.prog X.w) X.A (eval (.Name x pos) X.env) Q E s := by
  obtain ⟨mb, h1, h2⟩ := I.mod.blt
  exact Calls.Name_function_global I.ok.kind hg (Calls.loadGlobal_builtin (by rw [I.ok.glob]; exact I.mod.glob.keeps I.bk) hm (by rw [I.ok.blt]; exact h1.keeps I.bk) ((h2 x hn).trans hv) h) hd
theorem pe_glob {x : Str} {v : V} {u : Value} {pos : Pos} (hg : Gl X x) (hm : X.mg x = some u) (r : RelV v u) (hd : (x == ("__debug__" : Str)) = false := by decide) : PE X (.Name x pos) (tC v) :=
  fun _ _ _ H _ I h => ld_glob I hg hm ⟨v, H, I, r, h⟩ hd
variable {a b : Expr} {ta tb : TE} {pos : Pos}
def PC (X : Cx) (op : CmpOp) (a b : Expr) (t : TE) : Prop :=
  ∀ (pins : List (Addr × Obj)) (s : Shared) (σ : St) (H : Hp) (Q : VK), Inv X pins σ H s → t σ H Q →
    wpAny (model X.prog X.w) X.A (eval a X.env) (fun v s₁ => wpAny (model X.prog X.w) X.A (eval b X.env) (fun u s₂ => wpAny (model X.prog X.w) X.A (compareOp op v u) (EP X pins σ Q) X.xe s₂) X.xe s₁) X.xe s
theorem nobehind (b : Expr) {op : CmpOp} (h : op ≠ .In) (h2 : op ≠ .NotIn) : behindInMarks op b = false := by
  have e1 : (op == CmpOp.In) = false := by cases op <;> first | rfl | exact absurd rfl h
  have e2 : (op == CmpOp.NotIn) = false := by cases op <;> first | rfl | exact absurd rfl h2
  cases b <;> simp [behindInMarks, e1, e2]
def tIsN (ta : TE) : TE := fun σ H Q => ta σ H fun x H1 => Q (.bl (decide (x = .non))) H1
theorem RelV.none_iff {x : V} {v : Value} (r : RelV x v) : (v == Value.none) = decide (x = .non) := by
  cases x with
  | non => cases r; rfl
  | bl _ => cases r; rfl
  | int _ => obtain ⟨t, rfl⟩ := r; rfl
  | str _ => obtain ⟨t, rfl⟩ := r; rfl
  | byt _ => obtain ⟨t, rfl⟩ := r; rfl
  | flt _ => obtain ⟨t, rfl⟩ := r; rfl
  | ref _ => cases r; rfl
  | ty _ => cases r; rfl
theorem pc_isN {j pos'} (ha : PE X a ta) : PC X .Is a (.Constant .none j pos') (tIsN ta) := by
  intro pins s σ H Q I h
  refine thn (ha pins s σ H _ I h) fun v s1 ⟨x, H1, I1, r1, q1⟩ => ?_
  exact Constant_none (is_none_gen ⟨.bl _, H1, I1, by rw [r1.none_iff]; rfl, q1⟩)
def tB (t : TE) : TT := fun σ H Q => t σ H fun x H1 => ∃ c, x = .bl c ∧ Q c H1
theorem pt_cmp {op : CmpOp} {t : TE} (h : PC X op a b t) (h1 : behindInMarks op b = false := by first | exact nobehind _ (by decide) (by decide) | rfl) : PT X (.Compare a [op] [b] pos) (tB t) := by
  intro pins s σ H Q I hw
  refine wpAny_isTrue_Compare1 (thn (h pins s σ H _ I hw) fun v s1 h1 => thn h1 fun u s2 h2 => thn h2 fun c s3 ⟨x, H1, I1, r1, q1⟩ => ?_) h1
  obtain ⟨d, rfl, q⟩ := q1
  cases r1
  exact wpAny_truthy_bool ⟨H1, I1, q⟩
theorem pt_val {e : Expr} {t : TE} (h : PE X e t) (he : ∀ whole, isTrue e X.env whole = (do let v ← whole; standAt e.pos; holding [v] (truthy v)) := by intro _; rfl) : PT X e (tB t) := by
  intro pins s σ H Q I hw
  refine isTrue_plain (thn (h pins s σ H _ I hw) fun v s1 ⟨x, H1, I1, r1, q1⟩ => ?_) (he _)
  obtain ⟨d, rfl, q⟩ := q1
  cases r1
  exact wpAny_truthy_bool ⟨H1, I1, q⟩
variable {tA tB' : TT} {rest : List Expr}
def tAnd (t u : TT) : TT := fun σ H Q => t σ H fun c H1 => if c = true then u σ H1 Q else Q false H1
def tOr (t u : TT) : TT := fun σ H Q => t σ H fun c H1 => if c = true then Q true H1 else u σ H1 Q
def tNot (t : TT) : TT := fun σ H Q => t σ H fun c H1 => Q (!c) H1
theorem pw_and1 (ha : PT X a tA) : PW X (.BoolOp .And [a] pos) tA := by
  intro wh pins s σ H Q I h
  refine isTrue_and (thn (ha pins s σ H Q I h) fun c s1 e => ?_)
  cases c with
  | true => exact isTrue_and_nil e
  | false => exact e
theorem pw_or1 (ha : PT X a tA) : PW X (.BoolOp .Or [a] pos) tA := by
  intro wh pins s σ H Q I h
  refine isTrue_or (thn (ha pins s σ H Q I h) fun c s1 e => ?_)
  cases c with
  | false => exact isTrue_or_nil e
  | true => exact e
theorem pw_and (ha : PT X a tA) (hb : PW X (.BoolOp .And (b :: rest) pos) tB') : PW X (.BoolOp .And (a :: b :: rest) pos) (tAnd tA tB') := by
  intro wh pins s σ H Q I h
  refine isTrue_and (thn (ha pins s σ H _ I h) fun c s1 ⟨H1, I1, q1⟩ => ?_)
  cases c with
  | true => exact hb wh pins s1 σ H1 Q I1 q1
  | false => exact ⟨H1, I1, q1⟩
theorem pw_or (ha : PT X a tA) (hb : PW X (.BoolOp .Or (b :: rest) pos) tB') : PW X (.BoolOp .Or (a :: b :: rest) pos) (tOr tA tB') := by
  intro wh pins s σ H Q I h
  refine isTrue_or (thn (ha pins s σ H _ I h) fun c s1 ⟨H1, I1, q1⟩ => ?_)
  cases c with
  | true => exact ⟨H1, I1, q1⟩
  | false => exact hb wh pins s1 σ H1 Q I1 q1
theorem pt_not (ha : PT X a tA) : PT X (.UnaryOp .Not a pos) (tNot tA) := by
  intro pins s σ H Q I h
  exact isTrue_not (ha pins s σ H (fun c H1 => Q (!c) H1) I h)
def tAndV (ta tb : TE) : TE := fun σ H Q => ta σ H fun x H1 => ∃ c, x = .bl c ∧ if c = true then tb σ H1 Q else Q (.bl false) H1
theorem pe_one {op} {t : TE} (h : PE X a t) : PE X (.BoolOp op [a] pos) t := fun pins s σ H Q I hw => BoolOp_one (h pins s σ H Q I hw)
theorem pe_and (ha : PE X a ta) (hb : PE X (.BoolOp .And (b :: rest) pos) tb) : PE X (.BoolOp .And (a :: b :: rest) pos) (tAndV ta tb) := by
  intro pins s σ H Q I h
  refine BoolOp_and (thn (ha pins s σ H _ I h) fun v s1 ⟨x, H1, I1, r1, q1⟩ => ?_)
  obtain ⟨c, rfl, q1⟩ := q1
  cases r1
  refine wpAny_truthy_bool ?_
  cases c with
  | true => exact hb pins s1 σ H1 Q I1 q1
  | false => exact ⟨.bl false, H1, I1, rfl, q1⟩
def tIf (t : TT) (ta tb : TE) : TE := fun σ H Q => t σ H fun c H1 => if c = true then ta σ H1 Q else tb σ H1 Q
theorem pe_ifExp {c : Expr} (hc : PT X c tA) (ha : PE X a ta) (hb : PE X b tb) : PE X (.IfExp c a b pos) (tIf tA ta tb) := by
  intro pins s σ H Q I h
  refine wpAny_IfExp (thn (hc pins s σ H _ I h) fun d s1 ⟨H1, I1, q1⟩ => ?_)
  cases d with
  | true => exact ha pins s1 σ H1 Q I1 q1
  | false => exact hb pins s1 σ H1 Q I1 q1
end
end L2
namespace L2
open PySem PySem.Spec PyProof.Rows
def SqL (K : PySem.W.Frag) (H : Hp) (a : Addr) (xs : List V) : Prop :=
  Rd H a (.lst xs) ∨
    ∃ (o : Obj) (its : Array Value) (n : Nat), K.lookup a = some o ∧ o.cls = .type "list" ∧ o.dict = none ∧ o.data = .seq its n ∧ its.size ≤ sizeLine ∧ Vals xs its.toList
def SqT (K : PySem.W.Frag) (H : Hp) (a : Addr) (xs : List V) : Prop :=
  Rd H a (.tup xs) ∨
    ∃ (o : Obj) (its : Array Value) (n : Nat), K.lookup a = some o ∧ o.cls = .type "tuple" ∧ o.data = .seq its n ∧ its.size ≤ sizeLine ∧ Vals xs its.toList
def absV : Value → Option V
  | .none => some .non
  | .bool b => some (.bl b)
  | .int i _ => some (.int i)
  | .str x _ => some (.str x)
  | .bytes b _ => some (.byt b)
  | .float b _ => some (.flt b)
  | .ref a => some (.ref a)
  | .type n => some (.ty n)
  | _ => none
theorem RelV.abs {x : V} {u : Value} (r : RelV x u) : absV u = some x := by
  cases x with
  | non => cases r; rfl
  | bl _ => cases r; rfl
  | int _ => obtain ⟨t, rfl⟩ := r; rfl
  | str _ => obtain ⟨t, rfl⟩ := r; rfl
  | byt _ => obtain ⟨t, rfl⟩ := r; rfl
  | flt _ => obtain ⟨t, rfl⟩ := r; rfl
  | ref _ => cases r; rfl
  | ty _ => cases r; rfl
theorem RelV.inj {x y : V} {u : Value} (r : RelV x u) (q : RelV y u) : x = y := Option.some.inj (r.abs.symm.trans q.abs)
theorem Vals.inj : ∀ {xs ys : List V} {us : List Value}, Vals xs us → Vals ys us → xs = ys
  | _, _, _, .nil, .nil => rfl
  | _, _, _, .cons r t, .cons r' t' => by rw [r.inj r', Vals.inj t t']
section
variable {X : Cx} {pins : List (Addr × Obj)} {σ : St} {H : Hp} {s : Shared} {a : Addr} {xs ys : List V}
theorem SqL.of {K : PySem.W.Frag} (h : H a = some (.lst xs)) : SqL K H a xs := .inl (.inl h)
theorem SqT.of {K : PySem.W.Frag} (h : H a = some (.tup xs)) : SqT K H a xs := .inl (.inl h)
theorem Inv.list (I : Inv X pins σ H s) (h : SqL X.K H a xs) : ∃ its : List Value, Vals xs its ∧ PlainL s.heap a its.toArray ∧ xs.length ≤ sizeLine := by
  rcases h with h | ⟨o, its, n, hk, hc, hd, hs, hz, r⟩
  · obtain ⟨z, its, n, r, e⟩ := h.ok I.hok
    exact ⟨its, r, ⟨_, n, e, rfl, rfl, rfl⟩, z⟩
  · refine ⟨its.toList, r, ⟨o, n, I.kIn a o hk, hc, hd, by simpa using hs⟩, ?_⟩
    have e := r.length
    simp only [Array.length_toList] at e
    omega
theorem Inv.tuple (I : Inv X pins σ H s) (h : SqT X.K H a xs) : ∃ its : List Value, Vals xs its ∧ IsTup s.heap a its.toArray ∧ xs.length ≤ sizeLine := by
  rcases h with h | ⟨o, its, n, hk, hc, hs, hz, r⟩
  · obtain ⟨z, its, r, p⟩ := h.ok I.hok
    exact ⟨its, r, p, z⟩
  · refine ⟨its.toList, r, ⟨o, I.kIn a o hk, hc, n, by simpa using hs⟩, ?_⟩
    have e := r.length
    simp only [Array.length_toList] at e
    omega
theorem Inv.list_inj (I : Inv X pins σ H s) (h : SqL X.K H a xs) (h' : SqL X.K H a ys) : xs = ys := by
  obtain ⟨its, r, ⟨o, n, e, _, _, d⟩, _⟩ := I.list h
  obtain ⟨its', r', ⟨o', n', e', _, _, d'⟩, _⟩ := I.list h'
  rw [e] at e'; cases e'
  rw [d] at d'
  injection d' with d1 _
  have : its = its' := by simpa using congrArg Array.toList d1
  subst this
  exact r.inj r'
theorem Inv.tuple_inj (I : Inv X pins σ H s) (h : SqT X.K H a xs) (h' : SqT X.K H a ys) : xs = ys := by
  obtain ⟨its, r, ⟨o, e, _, n, d⟩, _⟩ := I.tuple h
  obtain ⟨its', r', ⟨o', e', _, n', d'⟩, _⟩ := I.tuple h'
  rw [e] at e'; cases e'
  rw [d] at d'
  injection d' with d1 _
  have : its = its' := by simpa using congrArg Array.toList d1
  subst this
  exact r.inj r'
end
abbrev Cx.wish (X : Cx) (E : Value → Shared → Prop) : Cx := { X with xe := E }
abbrev Cx.nox (X : Cx) : Cx := X.wish fun _ _ => False
theorem Cx.Ok.wish {X : Cx} (ok : X.Ok) (E : Value → Shared → Prop) : (X.wish E).Ok :=
  ⟨ok.mod, ok.kind, ok.glob, ok.blt, ok.above, ok.inj, ok.has, ok.cab, ok.hd, ok.frames, ok.stk, ok.exf, ok.bs, ok.bsz, ok.noex, ok.exfs, ok.funs, ok.frf⟩
theorem Cx.Ok.unwish {X : Cx} {E : Value → Shared → Prop} (ok : (X.wish E).Ok) : X.Ok :=
  ⟨ok.mod, ok.kind, ok.glob, ok.blt, ok.above, ok.inj, ok.has, ok.cab, ok.hd, ok.frames, ok.stk, ok.exf, ok.bs, ok.bsz, ok.noex, ok.exfs, ok.funs, ok.frf⟩
section
variable {X : Cx} {pins : List (Addr × Obj)} {σ : St} {H : Hp} {s : Shared} {E : Value → Shared → Prop}
theorem Inv.wish (I : Inv X pins σ H s) (E : Value → Shared → Prop) : Inv (X.wish E) pins σ H s := ⟨I.ok.wish E, I.os, I.bare, I.base, I.loc, I.cell, I.free, I.freeC, I.pin, I.hok, I.len⟩
theorem Inv.unwish (I : Inv (X.wish E) pins σ H s) : Inv X pins σ H s := ⟨I.ok.unwish, I.os, I.bare, I.base, I.loc, I.cell, I.free, I.freeC, I.pin, I.hok, I.len⟩
theorem SP.unwish {D : Ends} {f : Flow} {s' : Shared} (h : SP (X.wish E) pins D f s') : SP X pins D f s' := by
  cases f with
  | next => obtain ⟨σ', H', I, q⟩ := h; exact ⟨σ', H', I.unwish, q⟩
  | brk => obtain ⟨σ', H', I, q⟩ := h; exact ⟨σ', H', I.unwish, q⟩
  | cont => obtain ⟨σ', H', I, q⟩ := h; exact ⟨σ', H', I.unwish, q⟩
  | ret u => obtain ⟨v, σ', H', I, r, q⟩ := h; exact ⟨v, σ', H', I.unwish, r, q⟩
theorem PE.nox {e : Expr} {t : TE} (h : PE X.nox e t) : PE X e t := fun pins s σ H Q I hw =>
  wpAny_mono (h pins s σ H Q (I.wish _) hw) (fun _ _ ⟨v, H', I', r, q⟩ => ⟨v, H', I'.unwish, r, q⟩) fun _ _ z => False.elim z
theorem PT.nox {e : Expr} {t : TT} (h : PT X.nox e t) : PT X e t := fun pins s σ H Q I hw =>
  wpAny_mono (h pins s σ H Q (I.wish _) hw) (fun _ _ ⟨H', I', q⟩ => ⟨H', I'.unwish, q⟩) fun _ _ z => False.elim z
theorem PSs.nox {st : List Stmt} {t : TS} (h : PSs X.nox st t) : PSs X st t := fun pins s σ H D I hw =>
  wpAny_mono (h pins s σ H D (I.wish _) hw) (fun _ _ q => q.unwish) fun _ _ z => False.elim z
end
section
variable {X : Cx} {st : Stmt} {rest : List Stmt} {t u : TS} {e : Expr} {te : TE} {pos : Pos}
def tNext : TS := fun D σ H => D.nx σ H
def tSeq (t u : TS) : TS := fun D σ H => t { D with nx := u D } σ H
theorem pss_nil : PSs X [] tNext := fun _ _ σ H _ I h => wpAny_execs_nil ⟨σ, H, I, h⟩
theorem pss_cons (h1 : PS X st t) (h2 : PSs X rest u) : PSs X (st :: rest) (tSeq t u) := by
  intro pins s σ H D I h
  refine wpAny_execs_cons (thn (h1 pins s σ H { D with nx := u D } I h) fun f s1 q => ?_)
  cases f with
  | next =>
    obtain ⟨σ', H', I', q⟩ := q
    exact h2 pins s1 σ' H' D I' q
  | ret v => exact q
  | brk => exact q
  | cont => exact q
theorem pss_one (h1 : PS X st t) : PSs X [st] t := by
  intro pins s σ H D I h
  refine wpAny_execs_cons (thn (h1 pins s σ H D I h) fun f s1 q => ?_)
  cases f with
  | next => exact wpAny_execs_nil q
  | ret v => exact q
  | brk => exact q
  | cont => exact q
theorem Inv.quiet {pins : List (Addr × Obj)} {σ : St} {H : Hp} {s : Shared} (I : Inv X pins σ H s) : interactive X.env = false := by simp [interactive, I.ok.kind]
def tDrop (te : TE) : TS := fun D σ H => te σ H fun _ H1 => D.nx σ H1
theorem ps_expr (he : PE X e te) (hs : swapsWith e none pos.line X.env = pure false := by rfl) : PS X (.Expr e pos) (tDrop te) := by
  intro pins s σ H D I h
  exact wpAny_Expr_any (thn (he pins s σ H _ I h) fun v s1 ⟨x, H1, I1, r1, q1⟩ => ⟨σ, H1, I1, q1⟩) I.quiet hs
def tRet (te : TE) : TS := fun D σ H => te σ H D.rt
theorem ps_ret (he : PE X e te) : PS X (.Return (some e) pos) (tRet te) := by
  intro pins s σ H D I h
  exact wpAny_Return_some (thn (he pins s σ H _ I h) fun v s1 ⟨x, H1, I1, r1, q1⟩ => ⟨x, σ, H1, I1, r1, q1⟩)
def tIfS (c : TT) (t u : TS) : TS := fun D σ H => c σ H fun b H1 => if b = true then t D σ H1 else u D σ H1
theorem ps_if {c : Expr} {a b : List Stmt} {tc : TT} (hc : PT X c tc) (ha : PSs X a t) (hb : PSs X b u) : PS X (.If c a b pos) (tIfS tc t u) := by
  intro pins s σ H D I h
  refine wpAny_If (thn (hc pins s σ H _ I h) fun d s1 ⟨H1, I1, q1⟩ => ?_)
  cases d with
  | true => exact ha pins s1 σ H1 D I1 q1
  | false => exact hb pins s1 σ H1 D I1 q1
end
abbrev TG := V → St → Hp → (St → Hp → Prop) → Prop
def PG (X : Cx) (target : Expr) (t : TG) : Prop :=
  ∀ (pins : List (Addr × Obj)) (s : Shared) (σ : St) (H : Hp) (v : V) (u : Value) (Q : St → Hp → Prop), Inv X pins σ H s → RelV v u → t v σ H Q →
    wpAny (model X.prog X.w) X.A (assign target X.env u) (fun _ s' => ∃ σ' H', Inv X pins σ' H' s' ∧ Q σ' H') X.xe s
abbrev TSet := V → V → V → Hp → (Hp → Prop) → Prop
def PSet (X : Cx) (t : TSet) : Prop :=
  ∀ (pins : List (Addr × Obj)) (s : Shared) (σ : St) (H : Hp) (o i v : V) (ov iv u : Value) (Q : Hp → Prop), Inv X pins σ H s → RelV o ov → RelV i iv → RelV v u → t o i v H Q →
    wpAny (model X.prog X.w) X.A (setItem ov iv u) (fun _ s' => ∃ H', Inv X pins σ H' s' ∧ Q H') X.xe s
section
variable {X : Cx} {pos : Pos}
def gName (i : Nat) : TG := fun v σ H Q => Q (σ.set i (some v)) H
theorem pg_name {i : Nat} {x : Str} (hN : X.N.Nodup) (hi : X.N[i]? = some x) (hx : Loc X.env.scope x) (hf : X.fn x = true ∨ X.env.scope.names.lookup x = some .local := by first | exact .inl rfl | exact .inr rfl | assumption) : PG X (.Name x pos) (gName i) := by
  intro pins s σ H v u Q I r h
  exact wpAny_assign_Name (store_ok I hN hi hx r (fun s' I' => ⟨_, H, I', h⟩) hf)
def gSub (to ti : TE) (t : TSet) : TG := fun v σ H Q => to σ H fun o H1 => ti σ H1 fun i H2 => t o i v H2 fun H3 => Q σ H3
theorem pg_sub {o i : Expr} {to ti : TE} {t : TSet} (ho : PE X o to) (hi : PE X i ti) (hs : PSet X t)
    (ha : ∀ v, assign (.Subscript o i pos) X.env v = (do
      let ov ← holding [v] (eval o X.env)
      let iv ← holding [v, ov] (eval i X.env)
      standAt pos
      holding [v, ov, iv] (setItem ov iv v)
      release [v, ov, iv] []) := by intro _; rfl) : PG X (.Subscript o i pos) (gSub to ti t) := by
  intro pins s σ H v u Q I r h
  rw [ha]
  refine wpAny_bind (wpAny_holding (thn (ho pins s σ H _ I h) fun ov s1 ⟨x, H1, I1, r1, q1⟩ => ?_))
  refine wpAny_bind (wpAny_holding (thn (hi pins s1 σ H1 _ I1 q1) fun iv s2 ⟨y, H2, I2, r2, q2⟩ => ?_))
  refine wpAny_bind (wpAny_standAt (wpAny_bind (wpAny_holding (thn (hs pins s2 σ H2 x y v ov iv u _ I2 r1 r2 r q2) fun _ s3 ⟨H3, I3, q3⟩ => ?_))))
  exact wpAny_release ⟨σ, H3, I3, q3⟩
def tAsg (te : TE) (g : TG) : TS := fun D σ H => te σ H fun x H1 => g x σ H1 D.nx
theorem ps_asg {tg e : Expr} {te : TE} {g : TG} (he : PE X e te) (hg : PG X tg g) (hs : swapsWithSole [tg] e pos.line X.env = pure false := by rfl) (hw : swappedStores [tg] e X.env = pure none := by rfl)
    (h1 : (assignEach [tg] X.env).map (·.2) = [assign tg X.env] := by rfl) : PS X (.Assign [tg] e pos) (tAsg te g) := by
  intro pins s σ H D I h
  refine wpAny_Assign_stores (thn (he pins s σ H _ I h) fun v s1 ⟨x, H1, I1, r1, q1⟩ => ?_) hs hw
  rw [h1]
  exact thn (hg pins s1 σ H1 x v _ I1 r1 q1) fun _ s2 q => q
theorem ps_set {i : Nat} {x : Str} {e : Expr} {te : TE} {pos' : Pos} (hN : X.N.Nodup) (hi : X.N[i]? = some x) (hx : Loc X.env.scope x) (he : PE X e te) (hs : swapsWith e (some (.Name x pos')) pos.line X.env = pure false := by rfl) (hf : X.fn x = true ∨ X.env.scope.names.lookup x = some .local := by first | exact .inl rfl | exact .inr rfl | assumption) :
    PS X (.Assign [.Name x pos'] e pos) (tAsg te (gName i)) := by
  intro pins s σ H D I h
  refine wpAny_Assign_Name (thn (he pins s σ H _ I h) fun v s1 ⟨y, H1, I1, r1, q1⟩ => ?_) hs
  exact store_ok I1 hN hi hx r1 (fun s2 I2 => ⟨_, H1, I2, q1⟩) hf
end
section
variable {X : Cx} {pos : Pos}
def tWhile (c : TT) (tb : TS) : TS := fun D σ H => ∃ W : Nat → St → Hp → Prop, (∃ m, W m σ H) ∧ ∀ m σ H, W m σ H →
  c σ H fun b H1 => if b = true then ∃ N : St → Hp → Prop, (∀ σ' H', N σ' H' → ∃ m', m' < m ∧ W m' σ' H') ∧ tb { D with nx := N, ct := N, bk := D.nx } σ H1 else D.nx σ H1
theorem ps_while {c : Expr} {body : List Stmt} {tc : TT} {tb : TS} (hp : PassesOwn (model X.prog X.w) X.A X.env X.xe) (hc : PT X c tc) (hb : PSs X body tb) : PS X (.While c body [] pos) (tWhile tc tb) := by
  intro pins s σ H D I h
  obtain ⟨W, ⟨m0, w0⟩, turn⟩ := h
  refine wpAny_While (codeAny_whileLoop (fun n s' => ∃ σ' H', Inv X pins σ' H' s' ∧ W n σ' H') ?_ m0 ⟨σ, H, I, w0⟩)
  rintro n s1 ⟨σ1, H1, I1, w1⟩
  refine wpAny_passesOwn hp (thn (hc pins s1 σ1 H1 _ I1 (turn n σ1 H1 w1)) fun b s2 ⟨H2, I2, q2⟩ => ?_)
  cases b with
  | true =>
    obtain ⟨N, hN, q2⟩ := q2
    rw [if_pos rfl]
    refine wpAny_passesOwn hp (thn (hb pins s2 σ1 H2 _ I2 q2) fun f s3 q3 => ?_)
    cases f with
    | next =>
      obtain ⟨σ3, H3, I3, n3⟩ := q3
      obtain ⟨m', hm, w3⟩ := hN σ3 H3 n3
      exact ⟨m', hm, σ3, H3, I3, w3⟩
    | cont =>
      obtain ⟨σ3, H3, I3, n3⟩ := q3
      obtain ⟨m', hm, w3⟩ := hN σ3 H3 n3
      exact ⟨m', hm, σ3, H3, I3, w3⟩
    | brk => exact q3
    | ret v => exact q3
  | false =>
    rw [if_neg Bool.false_ne_true]
    exact wpAny_execs_nil ⟨σ1, H2, I2, q2⟩
end
structure It where
  go : Nat → Hp → Prop
  yld : Nat → Hp → V → Hp → Prop
  stop : Nat → Hp → Prop
def FpOk (X : Cx) (pins : List (Addr × Obj)) (H : Hp) (b : Addr) : Prop :=
  H b = none ∧ b ≠ X.env.locals ∧ b ∉ X.fs ∧ (b ∈ X.ex ∨ X.s₀.heap.objs.size ≤ b) ∧ (∀ x c, X.env.cells.lookup x = some c → c ≠ b) ∧ ∀ p ∈ X.pn ++ pins, p.1 ≠ b
theorem Inv.fpOk {X : Cx} {pins : List (Addr × Obj)} {σ : St} {H H' : Hp} {s : Shared} {b : Addr} (I : Inv X pins σ H s) (hb : s.heap.objs.size ≤ b) (hn : H' b = none) : FpOk X pins H' b := by
  refine ⟨hn, Nat.ne_of_gt (Nat.lt_of_lt_of_le I.lt hb), I.nofs hb, .inr (Nat.le_trans I.sz hb), fun x c e z => ?_, fun p hp z => ?_⟩
  · obtain ⟨v, q⟩ := I.cell x c e
    exact absurd (Nat.lt_of_lt_of_le q.lt (by rw [z]; exact hb)) (Nat.lt_irrefl _)
  · exact absurd (Nat.lt_of_lt_of_le (Heap.lt_size (I.pin p hp).1) (by rw [z]; exact hb)) (Nat.lt_irrefl _)
structure Turn (P : Program) (w : World) (K : PySem.W.Frag) (tg : Expr) (J : It) (fp : List Addr) (it : Addr) (tn : Nat → Heap → Prop) : Prop where
  mem : it ∈ fp
  obj : ∀ i h, tn i h → ∀ b ∈ fp, ∃ o, h.get? b = some o ∧ ∀ v, o.data ≠ .cell v
  keep : ∀ i h h', tn i h → (∀ b ∈ fp, ∀ o, h.get? b = some o → h'.get? b = some o) → tn i h'
  item : ∀ (X : Cx), X.prog = P → X.w = w → X.K = K → X.calm = true → ∀ (i : Nat) (pins : List (Addr × Obj)) (s : Shared) (σ : St) (H : Hp) (E : Value → Shared → Prop), Inv X pins σ H s → (∀ b ∈ fp, FpOk X pins H b) → tn i s.heap → J.go i H →
    wpAny (model P w) X.A (pyNext (.ref it)) (fun r s1 => ∃ u, r = some u ∧
      wpAny (model P w) X.A (letOwnedTupleGo tg (.ref it) u) (fun _ s2 => ∃ x H', Inv X pins σ H' s2 ∧ RelV x u ∧ J.yld i H x H' ∧ tn (i + 1) s2.heap ∧ ∀ b ∈ fp, H' b = none) E s1) E s
  done : ∀ (X : Cx), X.prog = P → X.w = w → X.K = K → X.calm = true → ∀ (i : Nat) (pins : List (Addr × Obj)) (s : Shared) (σ : St) (H : Hp) (E : Value → Shared → Prop), Inv X pins σ H s → (∀ b ∈ fp, FpOk X pins H b) → tn i s.heap → J.stop i H →
    wpAny (model P w) X.A (pyNext (.ref it)) (fun r s1 => r = none ∧ Inv X pins σ H s1) E s
  self : ∀ (A : Around) (i : Nat) (s : Shared) (Q : Value → Shared → Prop) (E : Value → Shared → Prop), tn i s.heap → Q (.ref it) s → wpAny (model P w) A (pyIter (.ref it)) Q E s
abbrev TI := St → Hp → (It → Hp → Prop) → Prop
def PIE (X : Cx) (pins : List (Addr × Obj)) (σ : St) (tg : Expr) (R : It → Hp → Prop) (itv : Value) (s2 : Shared) : Prop :=
  ∃ (it : Addr) (fp : List Addr) (tn : Nat → Heap → Prop) (J : It) (H' : Hp), itv = .ref it ∧ Inv X pins σ H' s2 ∧ Turn X.prog X.w X.K tg J fp it tn ∧ tn 0 s2.heap ∧ (∀ b ∈ fp, FpOk X pins H' b) ∧ R J H'
def PI (X : Cx) (tg iter : Expr) (wi : TI) : Prop :=
  ∀ (pins : List (Addr × Obj)) (s : Shared) (σ : St) (H : Hp) (R : It → Hp → Prop), Inv X pins σ H s → wi σ H R →
    wpAny (model X.prog X.w) X.A (eval iter X.env) (fun v s1 => wpAny (model X.prog X.w) X.A (pyIter v) (PIE X pins σ tg R) X.xe s1) X.xe s
theorem go_of {M : Model} {A : Around} {E : Value → Shared → Prop} {s : Shared} {tg : Expr} {it : Addr} {u : Value} {o : Obj} {n : String} {vs : Array Value} {Q : Unit → Shared → Prop} (ho : s.heap.get? it = some o) (hc : o.cls = .type n) (hd : o.data = .fields vs)
    (hn : ["enumerate", "zip", "dict_itemiterator", "dict_reverseitemiterator", "odict_iterator", "itertools.zip_longest", "itertools.pairwise"].contains n = false) (hQ : Q () s) : wpAny M A (letOwnedTupleGo tg (.ref it) u) Q E s := by
  unfold letOwnedTupleGo
  cases tg <;> first
    | exact wpAny_pure hQ
    | (cases u <;> first
        | exact wpAny_pure hQ
        | (refine wpAny_bind (wpAny_load ho ?_)
           rw [hc, hd]
           show wpAny M A (if (["enumerate", "zip", "dict_itemiterator", "dict_reverseitemiterator", "odict_iterator", "itertools.zip_longest", "itertools.pairwise"].contains n && vs[0]? == some (rawInt _)) = true then _ else _) Q E s
           rw [if_neg (by intro h; rw [hn, Bool.false_and] at h; cases h)]
           exact wpAny_pure hQ))
def Itl (K : PySem.W.Frag) (a : Addr) : It :=
  ⟨fun i H => ∃ xs x, SqL K H a xs ∧ xs[i]? = some x, fun i H x H' => H' = H ∧ ∀ xs, SqL K H a xs → xs[i]? = some x, fun i H => ∃ xs, SqL K H a xs ∧ xs.length ≤ i⟩
def Itt (K : PySem.W.Frag) (a : Addr) : It :=
  ⟨fun i H => ∃ xs x, SqT K H a xs ∧ xs[i]? = some x, fun i H x H' => H' = H ∧ ∀ xs, SqT K H a xs → xs[i]? = some x, fun i H => ∃ xs, SqT K H a xs ∧ xs.length ≤ i⟩
def Itr (lo : Int) (n : Nat) : It := ⟨fun i _ => i < n, fun i H x H' => H' = H ∧ x = .int (lo + i), fun i _ => n ≤ i⟩
theorem turn_list {P : Program} {w : World} {K : PySem.W.Frag} {tg : Expr} (a it : Addr) : Turn P w K tg (Itl K a) [it] it (fun i h => h.IsListIter it a i) where
  mem := by simp
  obj := fun i h st b hb => by
    have e : b = it := by simpa using hb
    subst e
    obtain ⟨o, e, c, d⟩ := st
    exact ⟨o, e, fun v z => by rw [d] at z; cases z⟩
  keep := fun i h h' st k => st.at fun o e => k it (by simp) o e
  item := by
    intro X hP hw hK hc i pins s σ H E I hf st hg
    subst hP hw hK
    obtain ⟨xs, x, hq, hx⟩ := hg
    obtain ⟨its, rv, p, hz⟩ := I.list hq
    obtain ⟨u, hu, ru⟩ := rv.get hx
    obtain ⟨f0, f1, f2, f3, f4, f5⟩ := hf it (by simp)
    refine wpAny_pyNext_list_item st p.isList (x := u) (by simpa using hu) fun h' st' sb => ?_
    have I1 : Inv X pins σ H { s with heap := h' } := I.turned (t' := s.toks) (fun b o hb e => (sb.2 b hb).trans e) f0 f1 f3 f4 f5
    obtain ⟨o, e, c, d⟩ := id st'
    exact ⟨u, rfl, go_of (s := { s with heap := h' }) e c d (by decide) ⟨x, H, I1, ru, ⟨rfl, fun ys hy => by rw [I.list_inj hy hq]; exact hx⟩, st', fun b hb => (hf b hb).1⟩⟩
  done := by
    intro X hP hw hK hc i pins s σ H E I hf st hg
    subst hP hw hK
    obtain ⟨xs, hq, hx⟩ := hg
    obtain ⟨its, rv, p, hz⟩ := I.list hq
    obtain ⟨f0, f1, f2, f3, f4, f5⟩ := hf it (by simp)
    have hl := rv.length
    exact wpAny_pyNext_list_end (I.ok.hd hc) st p.isList (by simp; omega) fun h' eb => ⟨rfl, I.turned (t' := s.toks) (fun b o hb e => eb b o hb e) f0 f1 f3 f4 f5⟩
  self := fun _ _ _ _ _ st h => wpAny_pyIter_listiter st h
theorem turn_tuple {P : Program} {w : World} {K : PySem.W.Frag} {tg : Expr} (a it : Addr) : Turn P w K tg (Itt K a) [it] it (fun i h => h.IsTupleIter it a i) where
  mem := by simp
  obj := fun i h st b hb => by
    have e : b = it := by simpa using hb
    subst e
    obtain ⟨o, e, c, d⟩ := st
    exact ⟨o, e, fun v z => by rw [d] at z; cases z⟩
  keep := fun i h h' st k => st.at fun o e => k it (by simp) o e
  item := by
    intro X hP hw hK hc i pins s σ H E I hf st hg
    subst hP hw hK
    obtain ⟨xs, x, hq, hx⟩ := hg
    obtain ⟨its, rv, p, hz⟩ := I.tuple hq
    obtain ⟨u, hu, ru⟩ := rv.get hx
    obtain ⟨f0, f1, f2, f3, f4, f5⟩ := hf it (by simp)
    refine wpAny_pyNext_tuple_item st (show s.heap.IsTuple a its.toArray from p) (x := u) (by simpa using hu) fun h' st' sb => ?_
    have I1 : Inv X pins σ H { s with heap := h' } := I.turned (t' := s.toks) (fun b o hb e => (sb.2 b hb).trans e) f0 f1 f3 f4 f5
    obtain ⟨o, e, c, d⟩ := id st'
    exact ⟨u, rfl, go_of (s := { s with heap := h' }) e c d (by decide) ⟨x, H, I1, ru, ⟨rfl, fun ys hy => by rw [I.tuple_inj hy hq]; exact hx⟩, st', fun b hb => (hf b hb).1⟩⟩
  done := by
    intro X hP hw hK hc i pins s σ H E I hf st hg
    subst hP hw hK
    obtain ⟨xs, hq, hx⟩ := hg
    obtain ⟨its, rv, p, hz⟩ := I.tuple hq
    obtain ⟨f0, f1, f2, f3, f4, f5⟩ := hf it (by simp)
    have hl := rv.length
    exact wpAny_pyNext_tuple_end (I.ok.hd hc) st (show s.heap.IsTuple a its.toArray from p) (by simp; omega) fun h' eb => ⟨rfl, I.turned (t' := s.toks) (fun b o hb e => eb b o hb e) f0 f1 f3 f4 f5⟩
  self := fun _ _ _ _ _ st h => wpAny_pyIter_tupleiter st h
theorem turn_range {P : Program} {w : World} {K : PySem.W.Frag} {tg : Expr} (it : Addr) (lo : Int) (n : Nat) : Turn P w K tg (Itr lo n) [it] it (fun i h => IsRangeIter h it (lo + (i : Nat) * 1) ((n : Int) - (i : Nat)) 1) where
  mem := by simp
  obj := fun i h st b hb => by
    have e : b = it := by simpa using hb
    subst e
    exact ⟨_, st, fun v z => by
      have z' : Data.fields _ = Data.cell v := z
      cases z'⟩
  keep := fun i h h' st k => k it (by simp) _ st
  item := by
    intro X hP hw hK hc i pins s σ H E I hf st hg
    subst hP hw hK
    obtain ⟨f0, f1, f2, f3, f4, f5⟩ := hf it (by simp)
    have W := Walks.range (prog := X.prog) (w := X.w) (I.ok.hd hc) it lo 1 n
    refine W.item i s _ _ hg st fun v h' tk hv st' kk => ?_
    obtain ⟨t, rfl⟩ := hv
    have I1 : Inv X pins σ H { s with heap := h', toks := tk } := I.turned (fun b o hb e => kk b o (by simpa using hb) e) f0 f1 f3 f4 f5
    refine ⟨_, rfl, go_of (s := { s with heap := h', toks := tk }) (n := "range_iterator") st' rfl rfl (by decide) ⟨.int (lo + i), H, I1, ⟨t, ?_⟩, ⟨rfl, rfl⟩, st', fun b hb => (hf b hb).1⟩⟩
    rw [Int.mul_one]
  done := by
    intro X hP hw hK hc i pins s σ H E I hf st hg
    subst hP hw hK
    obtain ⟨f0, f1, f2, f3, f4, f5⟩ := hf it (by simp)
    exact wpAny_pyNext_range_end (I.ok.hd hc) st (by have : n ≤ i := hg; omega) fun h' eb => ⟨rfl, I.turned (t' := s.toks) (fun b o hb e => eb b o hb e) f0 f1 f3 f4 f5⟩
  self := fun _ _ _ _ _ st h => wpAny_pyIter_rangeiter st h
end L2
namespace L2
open PySem PySem.Spec PyProof.Rows
section
variable {X : Cx} {tg : Expr}
def iList (K : PySem.W.Frag) (tl : TE) : TI := fun σ H R => tl σ H fun x H1 => ∃ a, x = .ref a ∧ (∃ xs, SqL K H1 a xs) ∧ R (Itl K a) H1
def iTup (K : PySem.W.Frag) (tl : TE) : TI := fun σ H R => tl σ H fun x H1 => ∃ a, x = .ref a ∧ (∃ xs, SqT K H1 a xs) ∧ R (Itt K a) H1
theorem pi_list {l : Expr} {tl : TE} (hl : PE X l tl) : PI X tg l (iList X.K tl) := by
  intro pins s σ H R I h
  refine thn (hl pins s σ H _ I h) fun v s1 ⟨x, H1, I1, r1, q1⟩ => ?_
  obtain ⟨a, e, ⟨xs, hq⟩, q⟩ := q1
  subst e
  cases r1
  obtain ⟨its, rv, p, hz⟩ := I1.list hq
  refine wpAny_pyIter_list p.isList ?_
  refine ⟨s1.heap.objs.size, [s1.heap.objs.size], _, _, H1, rfl, I1.kept (t' := s1.toks) fun b o e => Heap.get?_push_of_some _ e, turn_list a _, ⟨_, Heap.get?_push_size _ rfl, rfl, rfl⟩, fun b hb => ?_, q⟩
  have e : b = s1.heap.objs.size := by simpa using hb
  subst e
  exact I1.fpOk (Nat.le_refl _) (I1.hok.fresh (Nat.le_refl _))
theorem pi_tup {l : Expr} {tl : TE} (hl : PE X l tl) : PI X tg l (iTup X.K tl) := by
  intro pins s σ H R I h
  refine thn (hl pins s σ H _ I h) fun v s1 ⟨x, H1, I1, r1, q1⟩ => ?_
  obtain ⟨a, e, ⟨xs, hq⟩, q⟩ := q1
  subst e
  cases r1
  obtain ⟨its, rv, p, hz⟩ := I1.tuple hq
  refine wpAny_pyIter_tuple (show s1.heap.IsTuple a its.toArray from p) ?_
  refine ⟨s1.heap.objs.size, [s1.heap.objs.size], _, _, H1, rfl, I1.kept (t' := s1.toks) fun b o e => Heap.get?_push_of_some _ e, turn_tuple a _, ⟨_, Heap.get?_push_size _ rfl, rfl, rfl⟩, fun b hb => ?_, q⟩
  have e : b = s1.heap.objs.size := by simpa using hb
  subst e
  exact I1.fpOk (Nat.le_refl _) (I1.hok.fresh (Nat.le_refl _))
theorem range_it {pins : List (Addr × Obj)} {σ : St} {H : Hp} {s : Shared} {R : It → Hp → Prop} {E : Value → Shared → Prop} {lo hi : Int} {t u v : Tok} {tk : Nat} (I : Inv X pins σ H s) (h1 : -(2 ^ 62) ≤ lo) (h2 : lo < 2 ^ 62) (h3 : -(2 ^ 62) ≤ hi) (h4 : hi < 2 ^ 62)
    (q : R (Itr lo (hi - lo).toNat) H) : wpAny (model X.prog X.w) X.A (pyIter (.ref s.heap.objs.size)) (PIE X pins σ tg R) E { s with heap := s.heap.push { cls := .type "range", data := .fields #[.int lo t, .int hi u, .int 1 v] }, toks := tk } := by
  refine wpAny_pyIter_range (IsRange.new ..) (small_one h1 h2 h3 h4) ?_
  have I1 : Inv X pins σ H { s with heap := s.heap.push { cls := .type "range", data := .fields #[.int lo t, .int hi u, .int 1 v] }, toks := tk } := I.kept fun b o e => Heap.get?_push_of_some _ e
  refine ⟨(s.heap.push { cls := .type "range", data := .fields #[.int lo t, .int hi u, .int 1 v] }).objs.size, [(s.heap.push { cls := .type "range", data := .fields #[.int lo t, .int hi u, .int 1 v] }).objs.size], _, _, H, rfl,
    I1.kept (t' := tk) fun b o e => Heap.get?_push_of_some _ e, turn_range _ lo (hi - lo).toNat, ?_, fun b hb => ?_, q⟩
  · have e1 : lo + ((0 : Nat) : Int) * 1 = lo := by simp
    have e2 : (((hi - lo).toNat : Nat) : Int) - ((0 : Nat) : Int) = Builtin.Range.rangeSize lo hi 1 := by rw [rangeSize_one]; split <;> omega
    show IsRangeIter _ _ (lo + ((0 : Nat) : Int) * 1) ((((hi - lo).toNat : Nat) : Int) - ((0 : Nat) : Int)) 1
    rw [e1, e2]
    exact Heap.get?_push_size _ rfl
  · have e : b = (s.heap.push { cls := .type "range", data := .fields #[.int lo t, .int hi u, .int 1 v] }).objs.size := by simpa using hb
    subst e
    exact I1.fpOk (Nat.le_refl _) (I1.hok.fresh (Nat.le_refl _))
def iRng1 (ta : TA) : TI := fun σ H R => ta σ H fun vs H1 => ∃ j : Int, vs = [.int j] ∧ -(2 ^ 62) ≤ j ∧ j < 2 ^ 62 ∧ R (Itr 0 j.toNat) H1
theorem pi_range1 {a : Expr} {ta : TA} {p pos : Pos} (hg : Gl X "range") (hm : X.mg "range" = none) (ha : PA X [a] ta) (hs : starEach [a] X.env = [(false, eval a X.env)] := by rfl) : PI X tg (.Call (.Name "range" p) [a] [] pos) (iRng1 ta) := by
  intro pins s σ H R I h
  refine Call_ (ld_blt I hg hm boot_range (PyProof.Rows.callWith_type1 (thn (ha pos pins s σ H _ I h) fun us s1 ⟨vs, H1, I1, r1, q1⟩ => ?_) hs rfl))
  obtain ⟨j, e, q1, q2, q⟩ := q1
  subst e
  cases r1 with
  | cons r rr =>
    cases rr
    obtain ⟨t, rfl⟩ := r
    exact call_range_1 (range_it I1 (by omega) (by omega) q1 q2 (by simpa using q))
def tFor (wi : TI) (g : TG) (tb : TS) : TS := fun D σ H => wi σ H fun J H1 => ∃ W : Nat → Nat → St → Hp → Prop, (∃ m, W 0 m σ H1) ∧ ∀ i m σ H, W i m σ H →
  (J.stop i H ∧ D.nx σ H) ∨ (J.go i H ∧ ∃ N : St → Hp → Prop, (∀ σ' H', N σ' H' → ∃ m', m' < m ∧ W (i + 1) m' σ' H') ∧ ∀ x H', J.yld i H x H' → g x σ H' fun σ2 H2 => tb { D with nx := N, ct := N, bk := D.nx } σ2 H2)
def pinsAt (fp : List Addr) (h : Heap) : List (Addr × Obj) := fp.filterMap fun b => (h.get? b).map fun o => (b, o)
theorem mem_pinsAt {fp : List Addr} {h : Heap} {b : Addr} {o : Obj} (hb : b ∈ fp) (e : h.get? b = some o) : (b, o) ∈ pinsAt fp h := List.mem_filterMap.mpr ⟨b, hb, by rw [e]; rfl⟩
theorem of_pinsAt {fp : List Addr} {h : Heap} {p : Addr × Obj} (hp : p ∈ pinsAt fp h) : p.1 ∈ fp ∧ h.get? p.1 = some p.2 := by
  obtain ⟨b, hb, e⟩ := List.mem_filterMap.mp hp
  cases q : h.get? b with
  | none => rw [q] at e; cases e
  | some o =>
    rw [q] at e
    have e' : (b, o) = p := Option.some.inj e
    subst e'
    exact ⟨hb, q⟩
theorem Inv.pinned {pins : List (Addr × Obj)} {σ : St} {H : Hp} {s : Shared} {fp : List Addr} (I : Inv X pins σ H s) (hf : ∀ b ∈ fp, FpOk X pins H b) (ho : ∀ b ∈ fp, ∃ o, s.heap.get? b = some o ∧ ∀ v, o.data ≠ .cell v) : Inv X (pins ++ pinsAt fp s.heap) σ H s :=
  I.pins_of fun p hp => (List.mem_append.mp hp).elim (fun z => I.pin p (List.mem_append_right _ z)) fun z => by
    obtain ⟨hb, e⟩ := of_pinsAt z
    obtain ⟨f0, f1, f2, _⟩ := hf p.1 hb
    obtain ⟨o, e', d⟩ := ho p.1 hb
    rw [e] at e'; cases e'
    exact ⟨e, f0, f1, f2, d⟩
theorem Inv.unpinned {pins pl : List (Addr × Obj)} {σ : St} {H : Hp} {s : Shared} (I : Inv X (pins ++ pl) σ H s) : Inv X pins σ H s := I.pins_of fun p hp => I.pin p (List.mem_append_right _ (List.mem_append_left _ hp))
theorem ps_for {iter : Expr} {body : List Stmt} {wi : TI} {g : TG} {tb : TS} {pos : Pos} (hp : PassesOwn (model X.prog X.w) X.A X.env X.xe) (hc : X.calm = true) (hi : PI X tg iter wi) (hg : PG X tg g) (hb : PSs X body tb)
    (hs : ∀ x, foldedSetIterable iter X.env x = pure x := by intro _; rfl) : PS X (.For tg iter body [] pos) (tFor wi g tb) := by
  intro pins s σ H D I h
  refine wpAny_For (thn (hi pins s σ H _ I h) fun v s1 h1 => thn h1 fun itv s2 h2 => ?_) hs
  obtain ⟨it, fp, tn, J, H2, e, I2, T, st2, f2, W, ⟨m0, w0⟩, turn⟩ := h2
  subst e
  -- what stays true of the iterator's objects through the loop
  have stat : ∀ {H' : Hp}, (∀ b ∈ fp, H' b = none) → ∀ b ∈ fp, FpOk X pins H' b := fun hn b hb => ⟨hn b hb, (f2 b hb).2⟩
  refine codeAny_forLoop_any (fun n s' => ∃ i σ' H', Inv X pins σ' H' s' ∧ tn i s'.heap ∧ (∀ b ∈ fp, H' b = none) ∧ W i n σ' H') ?_ m0 ⟨0, σ, H2, I2, st2, fun b hb => (f2 b hb).1, w0⟩
  rintro n s3 ⟨i, σ3, H3, I3, st3, fr3, w3⟩
  rcases turn i n σ3 H3 w3 with ⟨stop, qn⟩ | ⟨go, N, hN, step⟩
  · refine wpAny_passesOwn hp (thn (T.done X rfl rfl rfl hc i pins s3 σ3 H3 X.xe I3 (stat fr3) st3 stop) fun r s4 ⟨hr, I4⟩ => ?_)
    subst hr
    exact wpAny_execs_nil ⟨σ3, H3, I4, qn⟩
  · refine wpAny_passesOwn hp (thn (T.item X rfl rfl rfl hc i pins s3 σ3 H3 X.xe I3 (stat fr3) st3 go) fun r s4 ⟨u, hr, h4⟩ => ?_)
    subst hr
    refine wpAny_passesOwn hp (thn h4 fun _ s5 ⟨x, H5, I5, r5, y5, st5, fr5⟩ => ?_)
    have I5' := I5.pinned (stat fr5) (T.obj _ _ st5)
    refine wpAny_passesOwn hp (thn (hg _ s5 σ3 H5 x u _ I5' r5 (step x H5 y5)) fun _ s6 ⟨σ6, H6, I6, q6⟩ => ?_)
    refine wpAny_passesOwn hp (thn (hb _ s6 σ6 H6 _ I6 q6) fun f s7 q7 => ?_)
    have again : ∀ {σ7 : St} {H7 : Hp}, Inv X (pins ++ pinsAt fp s5.heap) σ7 H7 s7 → N σ7 H7 → ∃ m, m < n ∧ ∃ i σ' H', Inv X pins σ' H' s7 ∧ tn i s7.heap ∧ (∀ b ∈ fp, H' b = none) ∧ W i m σ' H' := fun {σ7 H7} I7 n7 => by
      obtain ⟨m', hm, w7⟩ := hN σ7 H7 n7
      refine ⟨m', hm, i + 1, σ7, H7, I7.unpinned, T.keep _ _ _ st5 fun b hb o e => (I7.pin (b, o) (List.mem_append_right _ (List.mem_append_right _ (mem_pinsAt hb e)))).1, fun b hb => ?_, w7⟩
      obtain ⟨o, e, d⟩ := T.obj _ _ st5 b hb
      exact (I7.pin (b, o) (List.mem_append_right _ (List.mem_append_right _ (mem_pinsAt hb e)))).2.1
    cases f with
    | next => obtain ⟨σ7, H7, I7, n7⟩ := q7; exact again I7 n7
    | cont => obtain ⟨σ7, H7, I7, n7⟩ := q7; exact again I7 n7
    | brk => obtain ⟨σ7, H7, I7, q7⟩ := q7; exact ⟨σ7, H7, I7.unpinned, q7⟩
    | ret v => obtain ⟨x7, σ7, H7, I7, r7, q7⟩ := q7; exact ⟨x7, σ7, H7, I7.unpinned, r7, q7⟩
end
theorem for_list {K : PySem.W.Frag} {a : Addr} {xs : List V} {g : TG} {tb : TS} {D : Ends} {σ : St} {H : Hp} (Pv : Nat → St → Hp → Prop) (h0 : Pv 0 σ H) (hl : ∀ i σ H, i ≤ xs.length → Pv i σ H → SqL K H a xs)
    (hs : ∀ i x σ H, xs[i]? = some x → Pv i σ H → g x σ H fun σ2 H2 => tb { D with nx := Pv (i + 1), ct := Pv (i + 1), bk := D.nx } σ2 H2) (hd : ∀ σ H, Pv xs.length σ H → D.nx σ H) :
    ∃ W : Nat → Nat → St → Hp → Prop, (∃ m, W 0 m σ H) ∧ ∀ i m σ H, W i m σ H →
      ((Itl K a).stop i H ∧ D.nx σ H) ∨ ((Itl K a).go i H ∧ ∃ N : St → Hp → Prop, (∀ σ' H', N σ' H' → ∃ m', m' < m ∧ W (i + 1) m' σ' H') ∧ ∀ x H', (Itl K a).yld i H x H' → g x σ H' fun σ2 H2 => tb { D with nx := N, ct := N, bk := D.nx } σ2 H2) := by
  refine ⟨fun i m σ H => m = xs.length - i ∧ i ≤ xs.length ∧ Pv i σ H, ⟨xs.length, by simp, Nat.zero_le _, h0⟩, ?_⟩
  rintro i m σ H ⟨rfl, hi, p⟩
  have q := hl i σ H hi p
  by_cases hlt : i < xs.length
  · refine .inr ⟨⟨xs, xs[i], q, by simp [hlt]⟩, Pv (i + 1), fun σ' H' p' => ⟨xs.length - (i + 1), by omega, rfl, hlt, p'⟩, fun x H' y => ?_⟩
    obtain ⟨e, y⟩ := y
    subst e
    exact hs i x σ _ (y xs q) p
  · have e : i = xs.length := by omega
    subst e
    exact .inl ⟨⟨xs, q, Nat.le_refl _⟩, hd σ H p⟩
theorem for_tup {K : PySem.W.Frag} {a : Addr} {xs : List V} {g : TG} {tb : TS} {D : Ends} {σ : St} {H : Hp} (Pv : Nat → St → Hp → Prop) (h0 : Pv 0 σ H) (hl : ∀ i σ H, i ≤ xs.length → Pv i σ H → SqT K H a xs)
    (hs : ∀ i x σ H, xs[i]? = some x → Pv i σ H → g x σ H fun σ2 H2 => tb { D with nx := Pv (i + 1), ct := Pv (i + 1), bk := D.nx } σ2 H2) (hd : ∀ σ H, Pv xs.length σ H → D.nx σ H) :
    ∃ W : Nat → Nat → St → Hp → Prop, (∃ m, W 0 m σ H) ∧ ∀ i m σ H, W i m σ H →
      ((Itt K a).stop i H ∧ D.nx σ H) ∨ ((Itt K a).go i H ∧ ∃ N : St → Hp → Prop, (∀ σ' H', N σ' H' → ∃ m', m' < m ∧ W (i + 1) m' σ' H') ∧ ∀ x H', (Itt K a).yld i H x H' → g x σ H' fun σ2 H2 => tb { D with nx := N, ct := N, bk := D.nx } σ2 H2) := by
  refine ⟨fun i m σ H => m = xs.length - i ∧ i ≤ xs.length ∧ Pv i σ H, ⟨xs.length, by simp, Nat.zero_le _, h0⟩, ?_⟩
  rintro i m σ H ⟨rfl, hi, p⟩
  have q := hl i σ H hi p
  by_cases hlt : i < xs.length
  · refine .inr ⟨⟨xs, xs[i], q, by simp [hlt]⟩, Pv (i + 1), fun σ' H' p' => ⟨xs.length - (i + 1), by omega, rfl, hlt, p'⟩, fun x H' y => ?_⟩
    obtain ⟨e, y⟩ := y
    subst e
    exact hs i x σ _ (y xs q) p
  · have e : i = xs.length := by omega
    subst e
    exact .inl ⟨⟨xs, q, Nat.le_refl _⟩, hd σ H p⟩
theorem for_range {lo : Int} {n : Nat} {g : TG} {tb : TS} {D : Ends} {σ : St} {H : Hp} (Pv : Nat → St → Hp → Prop) (h0 : Pv 0 σ H)
    (hs : ∀ i σ H, i < n → Pv i σ H → g (.int (lo + i)) σ H fun σ2 H2 => tb { D with nx := Pv (i + 1), ct := Pv (i + 1), bk := D.nx } σ2 H2) (hd : ∀ σ H, Pv n σ H → D.nx σ H) :
    ∃ W : Nat → Nat → St → Hp → Prop, (∃ m, W 0 m σ H) ∧ ∀ i m σ H, W i m σ H →
      ((Itr lo n).stop i H ∧ D.nx σ H) ∨ ((Itr lo n).go i H ∧ ∃ N : St → Hp → Prop, (∀ σ' H', N σ' H' → ∃ m', m' < m ∧ W (i + 1) m' σ' H') ∧ ∀ x H', (Itr lo n).yld i H x H' → g x σ H' fun σ2 H2 => tb { D with nx := N, ct := N, bk := D.nx } σ2 H2) := by
  refine ⟨fun i m σ H => m = n - i ∧ i ≤ n ∧ Pv i σ H, ⟨n, by simp, Nat.zero_le _, h0⟩, ?_⟩
  rintro i m σ H ⟨rfl, hi, p⟩
  by_cases hlt : i < n
  · refine .inr ⟨hlt, Pv (i + 1), fun σ' H' p' => ⟨n - (i + 1), by omega, rfl, hlt, p'⟩, fun x H' y => ?_⟩
    obtain ⟨e, y⟩ := y
    subst e y
    exact hs i σ _ hlt p
  · have e : i = n := by omega
    subst e
    exact .inl ⟨Nat.le_refl _, hd σ H p⟩
end L2
namespace L2
open PySem PySem.Spec PyProof.Rows
abbrev R2 := V → V → Hp → VK → Prop
def OpR (X : Cx) (f : Value → Value → Sem Value) (r : R2) : Prop :=
  ∀ (pins : List (Addr × Obj)) (s : Shared) (σ : St) (H : Hp) (x y : V) (v u : Value) (Q : VK), Inv X pins σ H s → RelV x v → RelV y u → r x y H Q →
    wpAny (model X.prog X.w) X.A (f v u) (EP X pins σ Q) X.xe s
def UnR (X : Cx) (f : Value → Sem Value) (r : V → Hp → VK → Prop) : Prop :=
  ∀ (pins : List (Addr × Obj)) (s : Shared) (σ : St) (H : Hp) (x : V) (v : Value) (Q : VK), Inv X pins σ H s → RelV x v → r x H Q →
    wpAny (model X.prog X.w) X.A (f v) (EP X pins σ Q) X.xe s
def CallR (X : Cx) (f : Value) (r : List V → Hp → VK → Prop) : Prop :=
  ∀ (pins : List (Addr × Obj)) (s : Shared) (σ : St) (H : Hp) (xs : List V) (us : List Value) (Q : VK), Inv X pins σ H s → Vals xs us → r xs H Q →
    wpAny (model X.prog X.w) X.A (call f us) (EP X pins σ Q) X.xe s
def tOp (r : R2) (ta tb : TE) : TE := fun σ H Q => ta σ H fun x H1 => tb σ H1 fun y H2 => r x y H2 Q
def tUn (r : V → Hp → VK → Prop) (ta : TE) : TE := fun σ H Q => ta σ H fun x H1 => r x H1 Q
def rI (C : Int → Int → Prop) (g : Int → Int → V) : R2 := fun x y H Q => ∃ i j, x = .int i ∧ y = .int j ∧ C i j ∧ Q (g i j) H
def rI0 (g : Int → Int → V) : R2 := fun x y H Q => ∃ i j, x = .int i ∧ y = .int j ∧ Q (g i j) H
def rU (g : Int → V) : V → Hp → VK → Prop := fun x H Q => ∃ i, x = .int i ∧ Q (g i) H
section
variable {X : Cx} {a b c : Expr} {ta tb tc : TE} {pos : Pos}
theorem binT (ha : PE X a ta) (hb : PE X b tb) {pins : List (Addr × Obj)} {s : Shared} {σ : St} {H : Hp} {R : V → V → Hp → Prop} (I : Inv X pins σ H s)
    (h : ta σ H fun x H1 => tb σ H1 fun y H2 => R x y H2) {Q : Value → Shared → Prop} {f : Value → Value → Sem Value}
    (hf : ∀ v u s2 x y H2, Inv X pins σ H2 s2 → RelV x v → RelV y u → R x y H2 → wpAny (model X.prog X.w) X.A (f v u) Q X.xe s2) :
    wpAny (model X.prog X.w) X.A (eval a X.env) (fun v s₁ => wpAny (model X.prog X.w) X.A (eval b X.env) (fun u s₂ => wpAny (model X.prog X.w) X.A (f v u) Q X.xe s₂) X.xe s₁) X.xe s := by
  refine thn (ha pins s σ H _ I h) fun v s1 ⟨x, H1, I1, r1, q1⟩ => ?_
  refine thn (hb pins s1 σ H1 _ I1 q1) fun u s2 ⟨y, H2, I2, r2, q2⟩ => ?_
  exact hf v u s2 x y H2 I2 r1 r2 q2
theorem pe_op {op : Operator} {r : R2} (ho : OpR X (binaryOp op) r) (ha : PE X a ta) (hb : PE X b tb) : PE X (.BinOp a op b pos) (tOp r ta tb) := by
  intro pins s σ H Q I h
  exact wpAny_BinOp (binT ha hb I h fun v u s2 x y H2 I2 rx ry q => ho pins s2 σ H2 x y v u Q I2 rx ry q)
theorem pe_un {op : UnaryOp} {r : V → Hp → VK → Prop} (ho : UnR X (unaryOp op) r) (ha : PE X a ta) : PE X (.UnaryOp op a pos) (tUn r ta) := by
  intro pins s σ H Q I h
  exact UnaryOp_ (thn (ha pins s σ H _ I h) fun v s1 ⟨x, H1, I1, r1, q1⟩ => ho pins s1 σ H1 x v Q I1 r1 q1)
theorem opI {f : Value → Value → Sem Value} {C : Int → Int → Prop} {g : Int → Int → Int}
    (rule : ∀ (i j : Int) (t u : Tok) (s : Shared) (Q : Value → Shared → Prop) (E : Value → Shared → Prop), C i j → Q (.int (g i j) s.toks) { s with toks := s.toks + 1 } → wpAny (model X.prog X.w) X.A (f (.int i t) (.int j u)) Q E s) :
    OpR X f (rI C fun i j => .int (g i j)) := by
  intro pins s σ H x y v u Q I rx ry h
  obtain ⟨i, j, rfl, rfl, hc, q⟩ := h
  obtain ⟨t, rfl⟩ := rx
  obtain ⟨t', rfl⟩ := ry
  exact rule i j t t' s _ _ hc ⟨.int (g i j), H, I.tok _, ⟨_, rfl⟩, q⟩
theorem opI0 {f : Value → Value → Sem Value} {g : Int → Int → Int}
    (rule : ∀ (i j : Int) (t u : Tok) (s : Shared) (Q : Value → Shared → Prop) (E : Value → Shared → Prop), Q (.int (g i j) s.toks) { s with toks := s.toks + 1 } → wpAny (model X.prog X.w) X.A (f (.int i t) (.int j u)) Q E s) :
    OpR X f (rI0 fun i j => .int (g i j)) := by
  intro pins s σ H x y v u Q I rx ry h
  obtain ⟨i, j, rfl, rfl, q⟩ := h
  obtain ⟨t, rfl⟩ := rx
  obtain ⟨t', rfl⟩ := ry
  exact rule i j t t' s _ _ ⟨.int (g i j), H, I.tok _, ⟨_, rfl⟩, q⟩
theorem opB0 {f : Value → Value → Sem Value} {g : Int → Int → Bool}
    (rule : ∀ (i j : Int) (t u : Tok) (s : Shared) (Q : Value → Shared → Prop) (E : Value → Shared → Prop), Q (.bool (g i j)) s → wpAny (model X.prog X.w) X.A (f (.int i t) (.int j u)) Q E s) :
    OpR X f (rI0 fun i j => .bl (g i j)) := by
  intro pins s σ H x y v u Q I rx ry h
  obtain ⟨i, j, rfl, rfl, q⟩ := h
  obtain ⟨t, rfl⟩ := rx
  obtain ⟨t', rfl⟩ := ry
  exact rule i j t t' s _ _ ⟨.bl (g i j), H, I, rfl, q⟩
def CDiv (i j : Int) : Prop := 0 < j ∧ j < 1073741824
def CMul (i j : Int) : Prop := (-(2 ^ 64) < i ∧ i < 2 ^ 64) ∨ (-(2 ^ 64) < j ∧ j < 2 ^ 64)
theorem CMul.ok {i j : Int} (h : CMul i j) : IntMulOk i j := by
  rcases h with ⟨h1, h2⟩ | ⟨h1, h2⟩
  · exact .of_left (intBits_le_64 h1 h2)
  · exact .of_right (intBits_le_64 h1 h2)
theorem op_add : OpR X (binaryOp .Add) (rI0 fun i j => .int (i + j)) := opI0 fun _ _ _ _ _ _ _ q => add_int q
theorem op_sub : OpR X (binaryOp .Sub) (rI0 fun i j => .int (i - j)) := opI0 fun _ _ _ _ _ _ _ q => sub_int q
theorem op_mul : OpR X (binaryOp .Mult) (rI CMul fun i j => .int (i * j)) := opI fun _ _ _ _ _ _ _ hc q => mul_int q hc.ok
theorem op_fdiv : OpR X (binaryOp .FloorDiv) (rI CDiv fun i j => .int (i / j)) := opI fun i j _ _ _ _ _ hc q => by
  have h1 : (0 : Int) < j := hc.1
  have h2 : j < 1073741824 := hc.2
  exact floordiv_int (by omega) (by rw [Int.fdiv_eq_ediv_of_nonneg i (by omega)]; exact q) (.inl (PyProof.noPylong_small (by omega)))
theorem unI {f : Value → Sem Value} {g : Int → Int}
    (rule : ∀ (i : Int) (t : Tok) (s : Shared) (Q : Value → Shared → Prop) (E : Value → Shared → Prop), Q (.int (g i) s.toks) { s with toks := s.toks + 1 } → wpAny (model X.prog X.w) X.A (f (.int i t)) Q E s) :
    UnR X f (rU fun i => .int (g i)) := by
  intro pins s σ H x v Q I rx h
  obtain ⟨i, rfl, q⟩ := h
  obtain ⟨t, rfl⟩ := rx
  exact rule i t s _ _ ⟨.int (g i), H, I.tok _, ⟨_, rfl⟩, q⟩
theorem un_neg : UnR X (unaryOp .USub) (rU fun i => .int (-i)) := unI fun _ _ _ _ _ q => neg_int q
end
def scal : V → V → Bool
  | .non, .non => true | .non, .int _ => true | .int _, .non => true | .non, .bl _ => true | .bl _, .non => true | .non, .str _ => true | .str _, .non => true
  | .int _, .int _ => true | .bl _, .bl _ => true | .str _, .str _ => true | .byt _, .byt _ => true
  | .int _, .str _ => true | .str _, .int _ => true | .bl _, .str _ => true | .str _, .bl _ => true
  | _, _ => false
def rEq : R2 := fun x y H Q => scal x y = true ∧ Q (.bl (decide (x = y))) H
def rNe : R2 := fun x y H Q => scal x y = true ∧ Q (.bl (!decide (x = y))) H
theorem dec_int {i j : Int} : decide (V.int i = V.int j) = (i == j) := by
  rw [Bool.eq_iff_iff]
  simp
theorem dec_bl {i j : Bool} : decide (V.bl i = V.bl j) = (i == j) := by
  rw [Bool.eq_iff_iff]
  simp
theorem dec_str {i j : Str} : decide (V.str i = V.str j) = (i == j) := by
  rw [Bool.eq_iff_iff]
  simp
theorem dec_byt {i j : Array UInt8} : decide (V.byt i = V.byt j) = (i.toList == j.toList) := by
  rw [Bool.eq_iff_iff]
  cases i
  cases j
  simp
section
variable {X : Cx} {a b c : Expr} {ta tb tc : TE} {pos : Pos}
theorem fin_bl {pins : List (Addr × Obj)} {σ : St} {H : Hp} {s : Shared} {Q : VK} {k k' : Bool} (I : Inv X pins σ H s) (q : Q (.bl k) H) (e : k = k') : EP X pins σ Q (.bool k') s := by
  subst e
  exact ⟨.bl k, H, I, rfl, q⟩
theorem op_eq : OpR X (compareOp .Eq) rEq := by
  intro pins s σ H x y v u Q I rx ry h
  obtain ⟨hs, q⟩ := h
  cases x with
  | non =>
    cases rx
    cases y with
    | non => cases ry; exact PySem.EqNone.eq_none_none (fin_bl I q (by simp))
    | bl j => cases ry; exact PySem.EqNone.eq_none_bool (fin_bl I q (by simp))
    | int j => obtain ⟨t', rfl⟩ := ry; exact PySem.EqNone.eq_none_int (fin_bl I q (by simp))
    | str j => obtain ⟨t', rfl⟩ := ry; exact PySem.EqNone.eq_none_str (fin_bl I q (by simp))
    | _ => exact absurd (show false = true from hs) Bool.false_ne_true
  | bl i =>
    cases rx
    cases y with
    | non => cases ry; exact PySem.EqNone.eq_bool_none (fin_bl I q (by simp))
    | bl j => cases ry; exact eq_bool (fin_bl I q dec_bl)
    | str j => obtain ⟨t', rfl⟩ := ry; exact PySem.EqMixed.eq_bool_str (fin_bl I q (by simp))
    | _ => exact absurd (show false = true from hs) Bool.false_ne_true
  | int i =>
    obtain ⟨t, rfl⟩ := rx
    cases y with
    | non => cases ry; exact PySem.EqNone.eq_int_none (fin_bl I q (by simp))
    | int j => obtain ⟨t', rfl⟩ := ry; exact eq_int (fin_bl I q dec_int)
    | str j => obtain ⟨t', rfl⟩ := ry; exact PySem.EqMixed.eq_int_str (fin_bl I q (by simp))
    | _ => exact absurd (show false = true from hs) Bool.false_ne_true
  | str i =>
    obtain ⟨t, rfl⟩ := rx
    cases y with
    | non => cases ry; exact PySem.EqNone.eq_str_none (fin_bl I q (by simp))
    | bl j => cases ry; exact PySem.EqMixed.eq_str_bool (fin_bl I q (by simp))
    | int j => obtain ⟨t', rfl⟩ := ry; exact PySem.EqMixed.eq_str_int (fin_bl I q (by simp))
    | str j => obtain ⟨t', rfl⟩ := ry; exact eq_str (fin_bl I q dec_str)
    | _ => exact absurd (show false = true from hs) Bool.false_ne_true
  | byt i =>
    obtain ⟨t, rfl⟩ := rx
    cases y with
    | byt j => obtain ⟨t', rfl⟩ := ry; exact PySem.W.eq_bytes (fin_bl I q dec_byt)
    | _ => exact absurd (show false = true from hs) Bool.false_ne_true
  | _ => cases y <;> exact absurd (show false = true from hs) Bool.false_ne_true
theorem op_ne : OpR X (compareOp .NotEq) rNe := by
  intro pins s σ H x y v u Q I rx ry h
  obtain ⟨hs, q⟩ := h
  cases x with
  | non =>
    cases rx
    cases y with
    | non => cases ry; exact PySem.EqNone.ne_none_none (fin_bl I q (by simp))
    | bl j => cases ry; exact PySem.EqNone.ne_none_bool (fin_bl I q (by simp))
    | int j => obtain ⟨t', rfl⟩ := ry; exact PySem.EqNone.ne_none_int (fin_bl I q (by simp))
    | str j => obtain ⟨t', rfl⟩ := ry; exact PySem.EqNone.ne_none_str (fin_bl I q (by simp))
    | _ => exact absurd (show false = true from hs) Bool.false_ne_true
  | bl i =>
    cases rx
    cases y with
    | non => cases ry; exact PySem.EqNone.ne_bool_none (fin_bl I q (by simp))
    | bl j => cases ry; exact ne_bool (fin_bl I q (congrArg not dec_bl))
    | str j => obtain ⟨t', rfl⟩ := ry; exact PySem.EqMixed.ne_bool_str (fin_bl I q (by simp))
    | _ => exact absurd (show false = true from hs) Bool.false_ne_true
  | int i =>
    obtain ⟨t, rfl⟩ := rx
    cases y with
    | non => cases ry; exact PySem.EqNone.ne_int_none (fin_bl I q (by simp))
    | int j => obtain ⟨t', rfl⟩ := ry; exact ne_int (fin_bl I q (congrArg not dec_int))
    | str j => obtain ⟨t', rfl⟩ := ry; exact PySem.EqMixed.ne_int_str (fin_bl I q (by simp))
    | _ => exact absurd (show false = true from hs) Bool.false_ne_true
  | str i =>
    obtain ⟨t, rfl⟩ := rx
    cases y with
    | non => cases ry; exact PySem.EqNone.ne_str_none (fin_bl I q (by simp))
    | bl j => cases ry; exact PySem.EqMixed.ne_str_bool (fin_bl I q (by simp))
    | int j => obtain ⟨t', rfl⟩ := ry; exact PySem.EqMixed.ne_str_int (fin_bl I q (by simp))
    | str j => obtain ⟨t', rfl⟩ := ry; exact ne_str (fin_bl I q (congrArg not dec_str))
    | _ => exact absurd (show false = true from hs) Bool.false_ne_true
  | byt i =>
    obtain ⟨t, rfl⟩ := rx
    cases y with
    | byt j => obtain ⟨t', rfl⟩ := ry; exact PySem.W.ne_bytes (fin_bl I q (congrArg not dec_byt))
    | _ => exact absurd (show false = true from hs) Bool.false_ne_true
  | _ => cases y <;> exact absurd (show false = true from hs) Bool.false_ne_true
theorem op_lt : OpR X (compareOp .Lt) (rI0 fun i j => .bl (decide (i < j))) := opB0 fun _ _ _ _ _ _ _ q => lt_int q
theorem op_le : OpR X (compareOp .LtE) (rI0 fun i j => .bl (decide (i ≤ j))) := opB0 fun _ _ _ _ _ _ _ q => le_int q
theorem op_gt : OpR X (compareOp .Gt) (rI0 fun i j => .bl (decide (j < i))) := opB0 fun _ _ _ _ _ _ _ q => gt_int q
theorem op_ge : OpR X (compareOp .GtE) (rI0 fun i j => .bl (decide (j ≤ i))) := opB0 fun _ _ _ _ _ _ _ q => ge_int q
theorem nomark (b : Expr) {op : CmpOp} (h : op ≠ .In := by decide) (h2 : op ≠ .NotIn := by decide) : behindInMarks op b = false := by
  have e1 : (op == CmpOp.In) = false := by cases op <;> first | rfl | exact absurd rfl h
  have e2 : (op == CmpOp.NotIn) = false := by cases op <;> first | rfl | exact absurd rfl h2
  cases b <;> simp [behindInMarks, e1, e2]
theorem pe_cmpR {op : CmpOp} {r : R2} (ho : OpR X (compareOp op) r) (ha : PE X a ta) (hb : PE X b tb) (hm : behindInMarks op b = false) : PE X (.Compare a [op] [b] pos) (tOp r ta tb) := by
  intro pins s σ H Q I h
  exact wpAny_Compare1 (binT ha hb I h fun v u s2 x y H2 I2 rx ry q => ho pins s2 σ H2 x y v u Q I2 rx ry q) hm
def tTest (t : TE) : TT := fun σ H Q => t σ H fun x H' => ∃ k, x = .bl k ∧ Q k H'
theorem pt_cmpR {op : CmpOp} {r : R2} (ho : OpR X (compareOp op) r) (ha : PE X a ta) (hb : PE X b tb) (hm : behindInMarks op b = false) : PT X (.Compare a [op] [b] pos) (tTest (tOp r ta tb)) := by
  intro pins s σ H Q I h
  refine wpAny_isTrue_Compare1 (thn (ha pins s σ H _ I h) fun v s1 ⟨x, H1, I1, r1, q1⟩ => thn (hb pins s1 σ H1 _ I1 q1) fun u s2 ⟨y, H2, I2, r2, q2⟩ =>
    thn (ho pins s2 σ H2 x y v u _ I2 r1 r2 q2) fun c s3 ⟨z, H3, I3, r3, k, e, q3⟩ => ?_) hm
  subst e
  cases r3
  exact wpAny_truthy_bool ⟨H3, I3, q3⟩
def tChain (r r' : R2) (ta tb tc : TE) : TE := fun σ H Q => ta σ H fun x H1 => tb σ H1 fun y H2 => r x y H2 fun z H3 => ∃ k, z = .bl k ∧
  (if k = true then tc σ H3 fun w' H4 => r' y w' H4 Q else Q (.bl false) H3)
theorem pe_chain {op op' : CmpOp} {r r' : R2} (ho : OpR X (compareOp op) r) (ho' : OpR X (compareOp op') r') (ha : PE X a ta) (hb : PE X b tb) (hc : PE X c tc)
    (hm : lastMarks [op, op'] [b, c] = false := by with_unfolding_all rfl) : PE X (.Compare a [op, op'] [b, c] pos) (tChain r r' ta tb tc) := by
  intro pins s σ H Q I h
  refine Compare_chain (thn (ha pins s σ H _ I h) fun v s1 ⟨x, H1, I1, r1, q1⟩ => chain_link (thn (hb pins s1 σ H1 _ I1 q1) fun u s2 ⟨y, H2, I2, r2, q2⟩ =>
    thn (ho pins s2 σ H2 x y v u _ I2 r1 r2 q2) fun d s3 ⟨z, H3, I3, r3, k, e, q3⟩ => ?_)) hm
  subst e
  cases r3
  refine wpAny_truthy_bool ?_
  cases k with
  | false => exact ite_ff ⟨.bl false, H3, I3, rfl, q3⟩
  | true => exact ite_tt (chain_last (thn (hc pins s3 σ H3 _ I3 q3) fun w' s4 ⟨z', H4, I4, r4, q4⟩ => ho' pins s4 σ H4 y z' u w' Q I4 r2 r4 q4))
theorem line63 : (sizeLine : Nat) < 2 ^ 63 := by rw [sizeLine_eq]; decide
theorem vals1 {x : V} {us : List Value} (r : Vals [x] us) : ∃ u, us = [u] ∧ RelV x u := by
  cases r with
  | cons r1 r2 => cases r2; exact ⟨_, rfl, r1⟩
theorem vals2 {x y : V} {us : List Value} (r : Vals [x, y] us) : ∃ u w', us = [u, w'] ∧ RelV x u ∧ RelV y w' := by
  cases r with
  | cons r1 r2 =>
    cases r2 with
    | cons r3 r4 => cases r4; exact ⟨_, _, rfl, r1, r3⟩
theorem call_max2 (hc : X.calm = true) : CallR X (.builtin "max") (fun xs H Q => ∃ i j, xs = [.int i, .int j] ∧ Q (.int (if j > i then j else i)) H) := by
  intro pins s σ H xs us Q I r h
  obtain ⟨i, j, rfl, q⟩ := h
  obtain ⟨u, w', rfl, ⟨t, rfl⟩, ⟨t', rfl⟩⟩ := vals2 r
  refine max_two_ints (I.ok.hd hc) fun h' tk k => ⟨_, H, I.kept k, ?_, q⟩
  by_cases hj : j > i
  · rw [if_pos hj, if_pos hj]; exact ⟨_, rfl⟩
  · rw [if_neg hj, if_neg hj]; exact ⟨_, rfl⟩
theorem call_min2 (hc : X.calm = true) : CallR X (.builtin "min") (fun xs H Q => ∃ i j, xs = [.int i, .int j] ∧ Q (.int (if j < i then j else i)) H) := by
  intro pins s σ H xs us Q I r h
  obtain ⟨i, j, rfl, q⟩ := h
  obtain ⟨u, w', rfl, ⟨t, rfl⟩, ⟨t', rfl⟩⟩ := vals2 r
  refine min_two_ints (I.ok.hd hc) fun h' tk k => ⟨_, H, I.kept k, ?_, q⟩
  by_cases hj : j < i
  · rw [if_pos hj, if_pos hj]; exact ⟨_, rfl⟩
  · rw [if_neg hj, if_neg hj]; exact ⟨_, rfl⟩
end
end L2
namespace L2
open PySem PySem.Spec PyProof.Rows
structure ObjM (h : Heap) (x dx C : Addr) (mA : Str → Option Value) : Prop where
  obj : h.get? x = some (PySem.W.instObj C dx)
  ns : h.Ns1 dx mA
  ne : dx ≠ x
theorem lookIn_ns {h : Heap} {dx : Addr} {mA : Str → Option Value} (n : h.Ns1 dx mA) : ∃ od, h.get? dx = some od ∧ ∀ name, PySem.W.lookIn name od = some (mA name) := by
  obtain ⟨o, es, ep, ho, hd, hk, _, hm⟩ := n
  refine ⟨o, ho, fun name => ?_⟩
  have e := hm name
  unfold nsFind findBy at e
  rw [← Array.find?_toList] at e
  unfold PySem.W.lookIn
  rw [hd]
  dsimp only
  split
  · rename_i y q
    rw [q] at e
    exact congrArg some e
  · rename_i q
    rw [q] at e
    have a : es.toList.any (·.refKey) = false := by
      rw [List.any_eq_false]
      intro y hy
      obtain ⟨z, t, hkey⟩ := hk y (Array.mem_toList_iff.mp hy)
      simp [DictEntry.refKey, hkey]
    have a' : ¬ es.toList.any (·.refKey) = true := by rw [a]; exact Bool.false_ne_true
    rw [if_neg a']
    exact congrArg some e
theorem ObjM.look {h : Heap} {x dx C : Addr} {mA : Str → Option Value} (I : ObjM h x dx C mA) : ∃ od, PySem.W.InstAt h x (PySem.W.instObj C dx) C (some od) ∧ ∀ name, PySem.W.lookIn name od = some (mA name) :=
  let ⟨od, ho, hl⟩ := lookIn_ns I.ns
  ⟨od, ⟨I.obj, rfl, rfl, ho⟩, hl⟩
section
variable {prog : Program} {w : World} {A : Around} {E : Value → Shared → Prop} {s : Shared} {K : PySem.W.Frag} {x dx C f : Addr} {mA : Str → Option Value} {name : Str} {v : Value}
theorem get_map {expr : Bool} {Q : Value → Shared → Prop} (X : K.In s.heap) (I : ObjM s.heap x dx C mA) (hg : PySem.W.plainGet K C name = true) (hh : PySem.W.hasDictIn K C = true)
    (ha : PySem.W.findIn K (.ref C) name = some none) (hv : mA name = some v) (hv' : PySem.W.handedIn v = true) (h : Q v { s with toks := s.toks + 1 }) :
    wpAny (model prog w) A (getAttr (.ref x) name expr) Q E s := by
  obtain ⟨od, J, hl⟩ := I.look
  exact PySem.W.get_value X J (PySem.W.plainGet_of hg).1 (PySem.W.findObj_own hh ha rfl (by rw [hl, hv])) hv' h
theorem get_meth {pl : Sem Bool} {Q : Value × List Value → Shared → Prop} (X : K.In s.heap) (I : ObjM s.heap x dx C mA) (hg : PySem.W.plainGet K C name = true)
    (hf : PySem.W.findIn K (.ref C) name = some (some (.ref f))) (ht : PySem.W.isFn K (.ref f) = true) (hv : mA name = none) (h : Q (.ref f, [.ref x]) s) :
    wpAny (model prog w) A (getMethod (.ref x) name pl) Q E s := by
  obtain ⟨od, J, hl⟩ := I.look
  exact PySem.W.method_fn X J (PySem.W.plainGet_of hg).1 (PySem.W.plainGet_of hg).2 hf (beq_iff_eq.mp ht) (by show (PySem.W.lookIn name od).map (·.isSome) = some false; rw [hl, hv]; rfl) h
theorem set_map {ns : List Str} {Q : Unit → Shared → Prop} (X : K.In s.heap) (I : ObjM s.heap x dx C mA)
    (hs : PySem.W.findIn K (.ref C) "__setattr__" = some (some (.builtin "object.__setattr__"))) (hp : PySem.W.plainOver K C = true) (ht : PySem.W.takerIn K C name = some none) (hh : PySem.W.hasDictIn K C = true)
    (hw : PySem.Within mA ns) (hsz : ns.length ≤ sizeLine)
    (h : ∀ h', ObjM h' x dx C (fun y => if y = name then some v else mA y) → Heap.SameBut dx s.heap h' → Q () { s with heap := h', toks := s.toks + 2 }) :
    wpAny (model prog w) A (setAttr (.ref x) name v) Q E s := by
  obtain ⟨od, J, hl⟩ := I.look
  refine PySem.W.set_plain X J hs (PySem.W.osa_open (s := { s with toks := s.toks + 1 }) (r := none) X J hp ht fun b => ?_)
  obtain ⟨cd, hc, hd'⟩ := PySem.W.any_some hh
  have hx : s.heap.get? x = some ⟨.ref C, some dx, .plain, #[]⟩ := I.obj
  refine wpAny_bind (wpAny_pure (wpAny_bind (wpAny_bind (wpAny_loadPart hx (wpAny_bind (PySem.W.Looks.here (s := { s with toks := s.toks + 1 }) (PySem.W.looks_clsIn X hc) ?_))))))
  rw [hd']
  refine wpAny_pure (a := some dx) (wpAny_bind (wpAny_pure (wpAny_bind ?_)))
  refine wpAny_nsSet1 (s := { s with toks := s.toks + 1 }) I.ns fun h' hn2 hs2 => ?_
  obtain ⟨oD, esD, epD, hoD, hdD, hcD⟩ := hn2.count (PySem.Within.cons name v hw)
  refine wpAny_bind (wpAny_lookBehind hoD (by rw [hdD]; exact pastItsLine_dict (Nat.le_trans hcD (by rw [List.length_cons]; omega))) ?_)
  exact wpAny_pure (h _ ⟨(hs2.2 _ (Ne.symm I.ne)).trans I.obj, hn2, I.ne⟩ hs2)
theorem make_map {R : Result → Shared → Prop} {vs : List Value} {kw : List (Str × Value)} (X : K.In s.heap) (hm : PySem.W.makesIn K C = true)
    (hi : PySem.W.findIn K (.ref C) "__init__" = some (some (.ref f))) (hf : PySem.W.typeIn K (.ref f) = some (.type "function"))
    (h : codeAny (model prog w) (A.under (.builtin "type.__call__" ⟨.ref C :: vs, kw⟩)) (.call (.ref f) ⟨.ref (s.heap.objs.size + 1) :: vs, kw⟩) (PySem.W.InitBack (s.heap.objs.size + 1) R)
      { s with heap := (s.heap.push PySem.W.emptyDict).push (PySem.W.instObj C s.heap.objs.size) }) :
    codeAny (model prog w) A (.call (.ref C) ⟨vs, kw⟩) R s := by
  obtain ⟨hh, g, d, t, os⟩ := s
  exact PySem.W.make_core (PySem.W.makes_of X hm) (PySem.W.looks_findIn X hi) (fun self => PySem.W.bind_fn X self hf) (.inl rfl) h
end
def putF (f : Str) (v : V) : List (Str × V) → List (Str × V)
  | [] => [(f, v)]
  | (g, x) :: r => if g = f then (g, v) :: r else (g, x) :: putF f v r
theorem lookup_putF (f g : Str) (v : V) : ∀ fs : List (Str × V), (putF f v fs).lookup g = if g = f then some v else fs.lookup g
  | [] => by
    show List.lookup g [(f, v)] = _
    by_cases h : g = f
    · have hb : (g == f) = true := beq_iff_eq.mpr h
      simp only [List.lookup, hb, if_pos h]
    · have hb : (g == f) = false := beq_eq_false_iff_ne.mpr h
      simp only [List.lookup, hb, if_neg h]
  | (k, x) :: r => by
    have ih := lookup_putF f g v r
    rw [show putF f v ((k, x) :: r) = (if k = f then (k, v) :: r else (k, x) :: putF f v r) from rfl]
    by_cases hk : k = f
    · rw [if_pos hk]
      by_cases h : g = k
      · have hb : (g == k) = true := beq_iff_eq.mpr h
        simp only [List.lookup, hb, if_pos (h.trans hk)]
      · have hb : (g == k) = false := beq_eq_false_iff_ne.mpr h
        simp only [List.lookup, hb, if_neg (fun e : g = f => h (e.trans hk.symm))]
    · rw [if_neg hk]
      by_cases h : g = k
      · have hb : (g == k) = true := beq_iff_eq.mpr h
        simp only [List.lookup, hb, if_neg (fun e : g = f => hk (h.symm.trans e))]
      · have hb : (g == k) = false := beq_eq_false_iff_ne.mpr h
        simp only [List.lookup, hb]
        exact ih
theorem keys_putF (f : Str) (v : V) : ∀ fs : List (Str × V), f ∈ (putF f v fs).map (·.1) ∧ ∀ g, g ∈ fs.map (·.1) → g ∈ (putF f v fs).map (·.1)
  | [] => ⟨by simp [putF], fun g h => by simp at h⟩
  | (k, x) :: r => by
    obtain ⟨i1, i2⟩ := keys_putF f v r
    rw [show putF f v ((k, x) :: r) = (if k = f then (k, v) :: r else (k, x) :: putF f v r) from rfl]
    by_cases hk : k = f
    · rw [if_pos hk]
      subst hk
      exact ⟨by simp, fun g h => by simpa using h⟩
    · rw [if_neg hk]
      refine ⟨?_, fun g h => ?_⟩
      · rw [List.map_cons]
        exact List.mem_cons_of_mem _ i1
      · rw [List.map_cons] at h ⊢
        rcases List.mem_cons.mp h with e | e
        · exact List.mem_cons.mpr (.inl e)
        · exact List.mem_cons_of_mem _ (i2 g e)
theorem length_putF (f : Str) (v : V) : ∀ fs : List (Str × V), (putF f v fs).length ≤ fs.length + 1
  | [] => by simp [putF]
  | (k, x) :: r => by
    have ih := length_putF f v r
    rw [show putF f v ((k, x) :: r) = (if k = f then (k, v) :: r else (k, x) :: putF f v r) from rfl]
    by_cases hk : k = f
    · rw [if_pos hk, List.length_cons, List.length_cons]; omega
    · rw [if_neg hk, List.length_cons, List.length_cons]; omega
theorem RelO.some_of {v : V} {o : Option Value} (r : RelO (some v) o) : ∃ u, o = some u ∧ RelV v u := by
  cases o with
  | none => exact (show False from r).elim
  | some u => exact ⟨u, rfl, r⟩
theorem RelO.none_of {o : Option Value} (r : RelO none o) : o = none := by
  cases o with
  | none => rfl
  | some u => exact (show False from r).elim
theorem handed_of {v : V} {u : Value} (r : RelV v u) : PySem.W.handedIn u = true := by
  cases v with
  | non => cases (show u = Value.none from r); rfl
  | bl b => cases (show u = Value.bool b from r); rfl
  | int i => obtain ⟨t, e⟩ := (show ∃ t, u = Value.int i t from r); cases e; rfl
  | str x => obtain ⟨t, e⟩ := (show ∃ t, u = Value.str x t from r); cases e; rfl
  | byt b => obtain ⟨t, e⟩ := (show ∃ t, u = Value.bytes b t from r); cases e; rfl
  | flt b => obtain ⟨t, e⟩ := (show ∃ t, u = Value.float b t from r); cases e; rfl
  | ref a => cases (show u = Value.ref a from r); rfl
  | ty n => cases (show u = Value.type n from r); rfl
section
variable {P : Program} {w : World} {H H' : Hp} {h h' : Heap} {a C dx : Addr} {fs fs' : List (Str × V)}
theorem ins_get (hok : HOk P w H h) (e : H a = some (.ins C dx fs)) : ∃ mA, ObjM h a dx C mA ∧ (∀ f, RelO (fs.lookup f) (mA f)) ∧ PySem.Within mA (fs.map (·.1)) ∧ fs.length ≤ 1000 ∧ H dx = some (.own a) := by
  obtain ⟨d, z, ne, ob, mA, n, r, q⟩ := (show ObjOk P w H h a (.ins C dx fs) from hok a _ e)
  exact ⟨mA, ⟨ob, n, ne⟩, r, q, z, d⟩
end
structure Cls (K : PySem.W.Frag) (C : Addr) : Prop where
  pg : PySem.W.plainGet K C Str.empty = true
  hd : PySem.W.hasDictIn K C = true
  po : PySem.W.plainOver K C = true
  sa : PySem.W.findIn K (.ref C) "__setattr__" = some (some (.builtin "object.__setattr__"))
theorem Cls.get {K : PySem.W.Frag} {C : Addr} (c : Cls K C) (f : Str) : PySem.W.plainGet K C f = true := c.pg
def NoAttr (K : PySem.W.Frag) (C : Addr) (f : Str) : Prop := PySem.W.findIn K (.ref C) f = some none
theorem NoAttr.taker {K : PySem.W.Frag} {C : Addr} {f : Str} (n : NoAttr K C f) : PySem.W.takerIn K C f = some none := by
  unfold PySem.W.takerIn
  rw [show PySem.W.findIn K (.ref C) f = some none from n]
  rfl
structure Con (K : PySem.W.Frag) (C : Addr) (f : Str) (v : V) (u : Value) : Prop where
  at_ : PySem.W.findIn K (.ref C) f = some (some u)
  rel : RelV v u
  get : PySem.W.specialIn K u "__get__" = some none
  cp : PySem.W.copiedNames.contains f = false
structure Meth (K : PySem.W.Frag) (C : Addr) (m : Str) (f : Addr) : Prop where
  at_ : PySem.W.findIn K (.ref C) m = some (some (.ref f))
  fn : PySem.W.isFn K (.ref f) = true
  kp : PySem.W.keepIn K (.ref f) = true
section
variable {X : Cx} {pins : List (Addr × Obj)} {σ : St} {H : Hp} {s : Shared} {a C dx : Addr} {fs : List (Str × V)} {f : Str} {v : V} {A : Around} {E : Value → Shared → Prop}
theorem getattr_ok {b : Bool} {Q : Value → Shared → Prop} (I : Inv X pins σ H s) (e : H a = some (.ins C dx fs)) (c : Cls X.K C) (n : NoAttr X.K C f) (l : fs.lookup f = some v)
    (h : ∀ u s', Inv X pins σ H s' → RelV v u → Q u s') : wpAny (model X.prog X.w) A (getAttr (.ref a) f b) Q E s := by
  obtain ⟨mA, O, r, _, _, _⟩ := ins_get I.hok e
  obtain ⟨u, hu, ru⟩ := RelO.some_of (v := v) (o := mA f) (by rw [← l]; exact r f)
  exact get_map I.kIn O (c.get f) c.hd n hu (handed_of ru) (h u _ (I.tok _) ru)
theorem getmeth_ok {m : Str} {g : Addr} {pl : Sem Bool} {Q : Value × List Value → Shared → Prop} (I : Inv X pins σ H s) (e : H a = some (.ins C dx fs)) (c : Cls X.K C) (k : Meth X.K C m g) (l : fs.lookup m = none)
    (h : Q (.ref g, [.ref a]) s) : wpAny (model X.prog X.w) A (getMethod (.ref a) m pl) Q E s := by
  obtain ⟨mA, O, r, _, _, _⟩ := ins_get I.hok e
  have hn : mA m = none := RelO.none_of (by rw [← l]; exact r m)
  exact get_meth I.kIn O (c.get m) k.at_ k.fn hn h
theorem setattr_ok {y : V} {u : Value} {Q : Unit → Shared → Prop} (I : Inv X pins σ H s) (e : H a = some (.ins C dx fs)) (c : Cls X.K C) (n : NoAttr X.K C f) (hl : fs.length < 1000) (ry : RelV y u)
    (h : ∀ s', Inv X pins σ (upd H a (.ins C dx (putF f y fs))) s' → Q () s') : wpAny (model X.prog X.w) A (setAttr (.ref a) f u) Q E s := by
  obtain ⟨mA, O, r, wi, _, ho⟩ := ins_get I.hok e
  have hz : (fs.map (·.1)).length ≤ sizeLine := by rw [List.length_map, sizeLine_eq]; omega
  refine set_map I.kIn O c.sa c.po n.taker c.hd wi hz fun h' O' sb => h _ ?_
  have hd : ∃ o, h'.get? dx = some o := let ⟨o, _, _, e', _⟩ := O'.ns; ⟨o, e'⟩
  refine I.write (x := a) (e := dx) (by rw [e]; exact True.intro) (.inr ho) (fun b q hb z => (sb.2 b hb).trans z) hd ?_
  refine ⟨by rw [upd_ne O.ne]; exact ho, ?_, O.ne, O'.obj, _, O'.ns, fun g => ?_, fun g hg => ?_⟩
  · have := length_putF f y fs; omega
  · show RelO ((putF f y fs).lookup g) (if g = f then some u else mA g)
    rw [lookup_putF]
    by_cases q : g = f
    · rw [if_pos q, if_pos q]; exact ry
    · rw [if_neg q, if_neg q]; exact r g
  · by_cases q : g = f
    · rw [q]; exact (keys_putF f y fs).1
    · refine (keys_putF f y fs).2 g (wi g fun z => hg ?_)
      show (if g = f then some u else mA g) = none
      rw [if_neg q]; exact z
theorem Inv.made (I : Inv X pins σ H s) : Inv X pins σ (upd (upd H s.heap.objs.size (.own (s.heap.objs.size + 1))) (s.heap.objs.size + 1) (.ins C s.heap.objs.size []))
    { s with heap := (s.heap.push PySem.W.emptyDict).push (PySem.W.instObj C s.heap.objs.size) } := by
  have e1 : (s.heap.push PySem.W.emptyDict).get? s.heap.objs.size = some PySem.W.emptyDict := Heap.get?_push_size s.heap rfl
  have e2 : ((s.heap.push PySem.W.emptyDict).push (PySem.W.instObj C s.heap.objs.size)).get? (s.heap.objs.size + 1) = some (PySem.W.instObj C s.heap.objs.size) := by
    have := Heap.get?_push_size (s.heap.push PySem.W.emptyDict) (o := PySem.W.instObj C s.heap.objs.size) rfl
    rwa [Heap.size_push] at this
  have e3 : (s.heap.push PySem.W.emptyDict).Ns s.heap.objs.size (fun _ => none) := ⟨PySem.W.emptyDict, #[], _, e1, rfl, (fun e he => absurd he (by simp)), fun _ => rfl⟩
  have I1 := I.laid (a := s.heap.objs.size) (o := .own (s.heap.objs.size + 1)) (h' := s.heap.push PySem.W.emptyDict) (t' := s.toks) (fun b u q => Heap.get?_push_of_some _ q) (Nat.le_refl _) ⟨_, e1⟩
  refine I1.laid (a := s.heap.objs.size + 1) (o := .ins C s.heap.objs.size []) (t' := s.toks) (fun b u q => Heap.get?_push_of_some _ q) (Nat.le_of_eq (Heap.size_push _ _)) ?_
  have ne : s.heap.objs.size ≠ s.heap.objs.size + 1 := Nat.ne_of_lt (Nat.lt_succ_self _)
  refine ⟨by rw [upd_ne ne, upd_same], Nat.zero_le _, ne, e2, fun _ => none, (Heap.Ns1.of_empty e3).at fun o q => Heap.get?_push_of_some _ q, fun _ => True.intro, fun y hy => absurd rfl hy⟩
theorem attr_of {prog : Program} {w : World} {env : Env} {e : Expr} {f : Str} {pos : Pos} {s : Shared} {Q : Value → Shared → Prop} (hb : attributeBase e f env (eval e env) = eval e env)
    (h : wpAny (model prog w) A (eval e env) (fun o s₁ => wpAny (model prog w) A (getAttr o f true) Q E s₁) E s) : wpAny (model prog w) A (eval (.Attribute e f pos) env) Q E s :=
  Attribute_any_ h (by rw [arm_eval_Attribute, hb])
end
def tFld (K : PySem.W.Frag) (ta : TE) (f : Str) : TE := fun σ H Q => ta σ H fun x H1 => ∃ a C dx fs v, x = .ref a ∧ H1 a = some (.ins C dx fs) ∧ Cls K C ∧ NoAttr K C f ∧ fs.lookup f = some v ∧ Q v H1
def sFld (K : PySem.W.Frag) (ta tv : TE) (f : Str) : TS := fun D σ H => tv σ H fun y H1 => ta σ H1 fun x H2 => ∃ a C dx fs, x = .ref a ∧ H2 a = some (.ins C dx fs) ∧ Cls K C ∧ NoAttr K C f ∧ fs.length < 1000 ∧
  D.nx σ (upd H2 a (.ins C dx (putF f y fs)))
section
variable {X : Cx} {o e value : Expr} {f : Str} {pos pos' tpos : Pos} {ta tv : TE}
theorem pe_fld (he : PE X e ta) (hb : attributeBase e f X.env (eval e X.env) = eval e X.env) : PE X (.Attribute e f pos) (tFld X.K ta f) := by
  intro pins s σ H Q I h
  refine attr_of hb (thn (he pins s σ H _ I h) fun u s1 ⟨x, H1, I1, rx, a, C, dx, fs, v, ex, ea, c, n, l, q⟩ => ?_)
  subst ex
  obtain rfl : u = Value.ref a := rx
  exact getattr_ok I1 ea c n l fun u' s2 I2 ru => ⟨v, H1, I2, ru, q⟩
theorem ps_fld (ha : PE X o ta) (hv : PE X value tv) (hs : swapsWith value (some (.Attribute o f pos')) pos.line X.env = pure false) : PS X (.Assign [.Attribute o f pos'] value pos) (sFld X.K ta tv f) := by
  intro pins s σ H D I h
  refine plainObj_wpAny_Assign_Attribute (thn (hv pins s σ H _ I h) fun u s1 ⟨y, H1, I1, ry, q⟩ => thn (ha pins s1 σ H1 _ I1 q) fun ov s2 ⟨x, H2, I2, rx, a, C, dx, fs, ex, ea, c, n, l, q2⟩ => ?_) hs
  subst ex
  obtain rfl : ov = Value.ref a := rx
  exact setattr_ok I2 ea c n l ry fun s3 I3 => ⟨σ, _, I3, q2⟩
theorem methcall_of {pl : Sem Bool} {m : Str} {apos : Pos} {args : List Expr} {pins : List (Addr × Obj)} {s : Shared} {σ : St} {H : Hp} {Q : Value → Shared → Prop} {te : TE} (he : PE X e te) (I : Inv X pins σ H s)
    (h : te σ H fun x H1 => ∃ a C dx fs g, x = .ref a ∧ H1 a = some (.ins C dx fs) ∧ Cls X.K C ∧ Meth X.K C m g ∧ fs.lookup m = none ∧
      ∀ s1, Inv X pins σ H1 s1 → wpAny (model X.prog X.w) X.A (callWith pos (.ref g) [.ref a] (backTo pos (starEach args X.env)) (backToKw pos (keywordEach [] X.env))) Q X.xe s1)
    (ht : eval (.Call (.Attribute e m apos) args [] pos) X.env = (do
      let ov ← eval e X.env
      standAt apos.atName
      let (f, first) ← holding [ov] (getMethod ov m pl)
      callWith pos f first (backTo pos (starEach args X.env)) (backToKw pos (keywordEach [] X.env)))) :
    wpAny (model X.prog X.w) X.A (eval (.Call (.Attribute e m apos) args [] pos) X.env) Q X.xe s := by
  refine PySem.W.methodCall_KW (pl := pl) (thn (he pins s σ H _ I h) fun u s1 ⟨x, H1, I1, rx, a, C, dx, fs, g, ex, ea, c, k, l, q⟩ => ?_) ht
  subst ex
  obtain rfl : u = Value.ref a := rx
  exact getmeth_ok I1 ea c k l (q s1 I1)
end
section
variable {X : Cx} {pins : List (Addr × Obj)} {σ : St} {H : Hp} {s : Shared} {A : Around} {E : Value → Shared → Prop} {Q : Value → Shared → Prop} {c : Value} {b : Bool}
inductive TyOf (K : PySem.W.Frag) (H : Hp) : V → Value → Prop where
  | non : TyOf K H .non (.type "NoneType")
  | bl (x : Bool) : TyOf K H (.bl x) (.type "bool")
  | int (i : Int) : TyOf K H (.int i) (.type "int")
  | str (x : Str) : TyOf K H (.str x) (.type "str")
  | flt (x : UInt64) : TyOf K H (.flt x) (.type "float")
  | lst {a : Addr} {xs : List V} (e : H a = some (.lst xs)) : TyOf K H (.ref a) (.type "list")
  | frz {a : Addr} {o : Obj} {xs : List V} (e : H a = some (.frz o (.lst xs))) : TyOf K H (.ref a) (.type "list")
  | tup {a : Addr} {xs : List V} (e : H a = some (.tup xs)) : TyOf K H (.ref a) (.type "tuple")
  | dK {a : Addr} {kvs : List (Key × V)} (e : H a = some (.dK kvs)) : TyOf K H (.ref a) (.type "dict")
  | dT {a : Addr} {kvs : List (List Key × V)} (e : H a = some (.dT kvs)) : TyOf K H (.ref a) (.type "dict")
  | ins {a C dx : Addr} {fs : List (Str × V)} (e : H a = some (.ins C dx fs)) (cl : Cls K C) (ha : PySem.W.findIn K (.ref C) "__class__" = some (some (.builtin "object.__class__")))
      (hn : PySem.W.specialIn K (.builtin "object.__class__") "__get__" = some (some (.builtin "getset_descriptor.__get__"))) (htk : PySem.W.takesIn K (.builtin "object.__class__") = some true)
      (hm : PySem.W.mroIn K C (.type "object") = some true) : TyOf K H (.ref a) (.ref C)
theorem isinst_ok {x : V} {u t : Value} (I : Inv X pins σ H s) (rx : RelV x u) (ty : TyOf X.K H x t) (e : PySem.W.kitOne X.K t c = some b) (h : ∀ tk, Q (.bool b) { s with toks := tk }) :
    wpAny (model X.prog X.w) A (call (.builtin "isinstance") [u, c]) Q E s := by
  cases ty with
  | non => cases (show u = Value.none from rx); exact PySem.W.kia_one PySem.W.kitx_none I.kIn True.intro e (fun z => nomatch z) h
  | bl y => cases (show u = Value.bool y from rx); exact PySem.W.kia_one PySem.W.kitx_bool I.kIn True.intro e (fun z => nomatch z) h
  | int i => obtain ⟨t, q⟩ := (show ∃ t, u = Value.int i t from rx); cases q; exact PySem.W.kia_one PySem.W.kitx_int I.kIn True.intro e (fun z => nomatch z) h
  | str y => obtain ⟨t, q⟩ := (show ∃ t, u = Value.str y t from rx); cases q; exact PySem.W.kia_one PySem.W.kitx_str I.kIn True.intro e (fun z => nomatch z) h
  | flt y => obtain ⟨t, q⟩ := (show ∃ t, u = Value.float y t from rx); cases q; exact PySem.W.kia_one PySem.W.kitx_float I.kIn True.intro e (fun z => nomatch z) h
  | @lst a xs ea =>
    cases (show u = Value.ref a from rx)
    obtain ⟨_, _, n, _, h1⟩ := (show ObjOk X.prog X.w H s.heap a (.lst xs) from I.hok a _ ea)
    exact PySem.W.kia_one PySem.W.kitx_list I.kIn ⟨_, h1, rfl⟩ e (fun z => nomatch z) h
  | @frz a ob xs ea =>
    cases (show u = Value.ref a from rx)
    obtain ⟨_, _, _, n, _, h1⟩ := (show ObjOk X.prog X.w H s.heap a (.frz ob (.lst xs)) from I.hok a _ ea)
    exact PySem.W.kia_one PySem.W.kitx_list I.kIn ⟨_, h1, rfl⟩ e (fun z => nomatch z) h
  | @tup a xs ea =>
    cases (show u = Value.ref a from rx)
    obtain ⟨_, _, _, p⟩ := (show ObjOk X.prog X.w H s.heap a (.tup xs) from I.hok a _ ea)
    obtain ⟨o, h1, h2, _⟩ := p
    exact PySem.W.kia_one PySem.W.kitx_tuple I.kIn ⟨o, h1, h2⟩ e (fun z => nomatch z) h
  | @dK a kvs ea =>
    cases (show u = Value.ref a from rx)
    obtain ⟨_, _, vs, _, p⟩ := (show ObjOk X.prog X.w H s.heap a (.dK kvs) from I.hok a _ ea)
    obtain ⟨o, es, ep, h1, h2, _⟩ := p
    exact PySem.W.kia_one PySem.W.kitx_dict I.kIn ⟨o, h1, h2.1⟩ e (fun z => nomatch z) h
  | @dT a kvs ea =>
    cases (show u = Value.ref a from rx)
    obtain ⟨_, _, xs, _, o, es, ep, h1, h2, _⟩ := (show ObjOk X.prog X.w H s.heap a (.dT kvs) from I.hok a _ ea)
    exact PySem.W.kia_one PySem.W.kitx_dict I.kIn ⟨o, h1, h2.1⟩ e (fun z => nomatch z) h
  | @ins a C dx fs ea cl ha hn htk hm =>
    cases (show u = Value.ref a from rx)
    obtain ⟨mA, O, _⟩ := ins_get I.hok ea
    obtain ⟨od, J, _⟩ := O.look
    exact PySem.W.kia_one (PySem.W.kitx_own (cl.get _) cl.hd ha hn htk hm) I.kIn J e (fun z => nomatch z) h
end
end L2
namespace L2
open PySem PySem.Spec PyProof.Rows
structure Room (k : Nat) (A : Around) : Prop where
  hd : A.handled = none
  dp : A.depth + 3 * k + 5 < recursionLimit
  un : A.units + 16 * k + 200 < cLine
theorem Room.mono {j k : Nat} {A : Around} (r : Room k A) (h : j ≤ k) : Room j A := ⟨r.hd, by have := r.dp; omega, by have := r.un; omega⟩
theorem Room.deeper {k : Nat} {A : Around} (r : Room (k + 1) A) (env : Env) : Room k (A.deeper env) :=
  ⟨r.hd, by have := r.dp; show A.depth + 1 + 3 * k + 5 < _; omega, by have := r.un; show A.units + 3 + 16 * k + 200 < _; omega⟩
theorem Room.in1 {k : Nat} {A : Around} (r : Room (k + 1) A) : Room k A.in1 :=
  ⟨r.hd, by have := r.dp; show A.depth + 3 * k + 5 < _; omega, by have := r.un; show A.units + 1 + 16 * k + 200 < _; omega⟩
theorem make_depth {A : Around} {C : Addr} {us : List Value} {kw : List (Str × Value)} : (A.under (.builtin "type.__call__" ⟨.ref C :: us, kw⟩)).depth = A.depth + 1 := by
  first | rfl | simp [Around.under, Code.weight, Code.isCreation, Code.isGuard, Code.isCaller, Code.frames, Code.isFrame, guardIds]
theorem make_units {A : Around} {C : Addr} {us : List Value} {kw : List (Str × Value)} : (A.under (.builtin "type.__call__" ⟨.ref C :: us, kw⟩)).units = A.units + 1 := by
  first | rfl | simp [Around.under, Code.cUnits, Code.frames, Code.isFrame]
theorem Room.make {k : Nat} {A : Around} (r : Room (k + 1) A) (C : Addr) (us : List Value) (kw : List (Str × Value)) : Room k (A.under (.builtin "type.__call__" ⟨.ref C :: us, kw⟩)) :=
  ⟨r.hd, by have := r.dp; rw [make_depth]; omega, by have := r.un; rw [make_units]; omega⟩
theorem Room.depth {k : Nat} {A : Around} (r : Room k A) : A.depth < recursionLimit := by have := r.dp; omega
theorem Room.units {k : Nat} {A : Around} (r : Room k A) : A.units + 64 < cLine := by have := r.un; omega
def tNil : TA := fun _ H Q => Q [] H
def tCons (ta : TE) (tr : TA) : TA := fun σ H Q => ta σ H fun x H1 => tr σ H1 fun xs H2 => Q (x :: xs) H2
section
variable {X : Cx} {e : Expr} {es : List Expr} {te : TE} {t : TA} {pos : Pos}
theorem pa_nil : PA X [] tNil := fun _ _ _ _ H Q I h => Calls.spliced_nil ⟨[], H, I, .nil, h⟩
theorem pa_cons (ha : PE X e te) (hr : PA X es t) (hs : starEach (e :: es) X.env = (false, eval e X.env) :: starEach es X.env := by rfl) : PA X (e :: es) (tCons te t) := by
  intro pos pins s σ H Q I h
  rw [hs]
  show wpAny _ _ (spliced ((false, eval e X.env) :: backTo pos (starEach es X.env))) _ _ s
  refine Calls.spliced_cons (thn (ha pins s σ H _ I h) fun u s1 ⟨x, H1, I1, r1, q1⟩ => ?_)
  exact thn (hr pos pins s1 σ H1 _ I1 q1) fun us s2 ⟨xs, H2, I2, r2, q2⟩ => ⟨x :: xs, H2, I2, .cons r1 r2, q2⟩
def tTup (t : TA) : TE := fun σ H Q => t σ H fun xs H1 => xs.length ≤ sizeLine ∧ ∀ p, H1 p = none → Q (.ref p) (upd H1 p (.tup xs))
def tLst (t : TA) : TE := fun σ H Q => t σ H fun xs H1 => xs.length ≤ sizeLine ∧ ∀ p, H1 p = none → Q (.ref p) (upd H1 p (.lst xs))
theorem pe_tup {x1} (h : PA X es t) : PE X (.Tuple es x1 pos) (tTup t) := by
  intro pins s σ H Q I hq
  refine wpAny_Tuple_spliced (thn (h pos pins s σ H _ I hq) fun us s1 ⟨xs, H1, I1, r, z, q⟩ => ⟨by rw [← r.length]; exact z, ?_⟩)
  have hf : H1 s1.heap.objs.size = none := I1.hok.fresh (Nat.le_refl _)
  refine ⟨.ref s1.heap.objs.size, upd H1 s1.heap.objs.size (.tup xs), I1.laid (t' := s1.toks) (fun b u e => Heap.get?_push_of_some _ e) (Nat.le_refl _) ?_, rfl, q _ hf⟩
  exact ⟨z, us, r, ⟨_, Heap.get?_push_size _ rfl, rfl, _, rfl⟩⟩
theorem pe_lst (h : PA X es t) : PE X (.List es pos) (tLst t) := by
  intro pins s σ H Q I hq
  refine wpAny_List_spliced (thn (h pos pins s σ H _ I hq) fun us s1 ⟨xs, H1, I1, r, z, q⟩ => ⟨by rw [← r.length]; exact z, ?_⟩)
  have hf : H1 s1.heap.objs.size = none := I1.hok.fresh (Nat.le_refl _)
  refine ⟨.ref s1.heap.objs.size, upd H1 s1.heap.objs.size (.lst xs), I1.laid (t' := s1.toks) (fun b u e => Heap.get?_push_of_some _ e) (Nat.le_refl _) ?_, rfl, q _ hf⟩
  exact ⟨z, us, 0, r, Heap.get?_push_size _ rfl⟩
end
abbrev Sp := List V → Hp → VK → XK → Prop
abbrev CXT := List Env → Hp → Shared → XK → Value → Shared → Prop
structure Env0 (P : Program) (w : World) (K : PySem.W.Frag) (mg : Str → Option Value) (base : Heap) (A : Around) (outer : List Env) (s : Shared) (H : Hp) : Prop where
  frames : A.frames = some outer
  mod : Mod K mg base
  bs : ∀ b o, base.get? b = some o → s.heap.get? b = some o ∧ H b = none
  bsz : base.objs.size ≤ s.heap.objs.size
  funs : s.heap.FunFrames base outer
  frf : ∀ b ∈ frs outer, H b = none
  hok : HOk P w H s.heap
  bare : AllBare s.gens
def CE (outer : List Env) (P : Program) (w : World) (H : Hp) (s : Shared) (Q : VK) (u : Value) (s' : Shared) : Prop :=
  ∃ v H', s'.os = s.os ∧ AllBare s'.gens ∧ Un (frs outer) [] H H' s.heap s'.heap ∧ HOk P w H' s'.heap ∧ RelV v u ∧ Q v H'
def CR (CX : CXT) (outer : List Env) (P : Program) (w : World) (H : Hp) (s : Shared) (Q : VK) (E : XK) (r : Result) (s' : Shared) : Prop :=
  match r with
  | .ok (.ret u) => CE outer P w H s Q u s'
  | .ok _ => False
  | .error e => CX outer H s E e s'
structure FnOk (P : Program) (w : World) (K : PySem.W.Frag) (mg : Str → Option Value) (base : Heap) (CX : CXT) (k : Nat) (f : Addr) (fd : FuncData) (ps : List Str) (sp : Sp) : Prop where
  len : ∀ vs H Q E, sp vs H Q E → vs.length = ps.length
  run : ∀ (A : Around) (outer : List Env) (s : Shared) (H : Hp) (args : Args) (us : List Value) (vs : List V) (Q : VK) (E : XK), Room k A → Env0 P w K mg base A outer s H → BindsTo s fd args (ps.zip us) → Vals vs us → sp vs H Q E →
    codeAny (model P w) A (.call (.ref f) args) (CR CX outer P w H s Q E) s
theorem FnOk.mono {P : Program} {w : World} {K : PySem.W.Frag} {mg : Str → Option Value} {base : Heap} {CX : CXT} {j k : Nat} {f : Addr} {fd : FuncData} {ps : List Str} {sp : Sp} (F : FnOk P w K mg base CX j f fd ps sp) (h : j ≤ k) :
    FnOk P w K mg base CX k f fd ps sp := ⟨F.len, fun A outer s H args us vs Q E hr => F.run A outer s H args us vs Q E (hr.mono h)⟩
theorem Env0.make {P : Program} {w : World} {K : PySem.W.Frag} {mg : Str → Option Value} {base : Heap} {A : Around} {outer : List Env} {s : Shared} {H : Hp} (e : Env0 P w K mg base A outer s H) (C : Addr) (us : List Value) (kw : List (Str × Value)) :
    Env0 P w K mg base (A.under (.builtin "type.__call__" ⟨.ref C :: us, kw⟩)) outer s H := ⟨by first | exact e.frames | (simpa [Around.under, Code.envs, Code.isFrame, pushEnvs] using e.frames), e.mod, e.bs, e.bsz, e.funs, e.frf, e.hok, e.bare⟩
theorem Env0.in1 {P : Program} {w : World} {K : PySem.W.Frag} {mg : Str → Option Value} {base : Heap} {A : Around} {outer : List Env} {s : Shared} {H : Hp} (e : Env0 P w K mg base A outer s H) :
    Env0 P w K mg base A.in1 outer s H := ⟨e.frames, e.mod, e.bs, e.bsz, e.funs, e.frf, e.hok, e.bare⟩
section
variable {X : Cx} {pins : List (Addr × Obj)} {σ : St} {H : Hp} {s s' : Shared}
theorem Inv.env0 (I : Inv X pins σ H s) : Env0 X.prog X.w X.K X.mg X.base X.A X.stack s H :=
  ⟨I.ok.frames, I.ok.mod, I.bs, Nat.le_trans I.ok.bsz I.sz, I.stack, I.stkFree, I.hok, I.bare⟩
theorem Inv.after {Q : VK} {u : Value} (I : Inv X pins σ H s) (h : CE X.stack X.prog X.w H s Q u s') : EP X pins σ Q u s' := by
  obtain ⟨v, H', os, bare, un, hok, r, q⟩ := h
  obtain ⟨hh, g, d, t, os'⟩ := s'
  obtain rfl : os' = s.os := os
  exact ⟨v, H', I.call (h' := hh) (g' := g) (d' := d) (t' := t) (ch := []) un hok bare (fun b z => absurd z (by simp)), r, q⟩
end
def tCall (sp : Sp) (dvs : List V) (E : XK) (t : TA) : TE := fun σ H Q => t σ H fun vs H1 => sp (vs ++ dvs) H1 Q E
def tMeth (C : Addr) (m : Str) (sp : Sp) (dvs : List V) (E : XK) (ta : TE) (t : TA) : TE := fun σ H Q => ta σ H fun x H1 => ∃ a dx fs, x = .ref a ∧ H1 a = some (.ins C dx fs) ∧ fs.lookup m = none ∧
  t σ H1 fun vs H2 => sp (x :: (vs ++ dvs)) H2 Q E
def tMake (C : Addr) (sp : Sp) (dvs : List V) (E : XK) (t : TA) : TE := fun σ H Q => t σ H fun vs H1 => ∀ x dx, H1 x = none → H1 dx = none → dx ≠ x →
  sp (.ref x :: (vs ++ dvs)) (upd (upd H1 dx (.own x)) x (.ins C dx [])) (fun v H2 => v = .non ∧ Q (.ref x) H2) E
def Binds (K : PySem.W.Frag) (fd : FuncData) (ps : List Str) (ds : List Value) : Prop :=
  ∀ (s : Shared) (us : List Value), K.In s.heap → (us ++ ds).length = ps.length → BindsTo s fd ⟨us, []⟩ (ps.zip (us ++ ds))
theorem Binds.all {K : PySem.W.Frag} {fd : FuncData} {ps : List Str} (h : ∀ us : List Value, us.length = ps.length → bindArgs fd ⟨us, []⟩ = pure (ps.zip us)) : Binds K fd ps [] := fun s us _ hl => by
  rw [List.append_nil] at hl ⊢
  exact .of_eq (h us hl)
def Passes (CX : CXT) (X : Cx) (E : XK) : Prop := ∀ (pins : List (Addr × Obj)) (σ : St) (H : Hp) (s : Shared) (e : Value) (s' : Shared), Inv X pins σ H s → CX X.stack H s E e s' → X.xe e s'
section
variable {X : Cx} {CX : CXT} {k : Nat} {f C : Addr} {fd : FuncData} {ps : List Str} {sp : Sp} {dvs : List V} {ds : List Value} {E : XK} {x m : Str} {p pos apos : Pos} {e o : Expr} {es : List Expr} {ta : TE} {t : TA}
theorem run_fn {pins : List (Addr × Obj)} {σ : St} {H : Hp} {s : Shared} {Q : VK} {us : List Value} {vs : List V} (F : FnOk X.prog X.w X.K X.mg X.base CX k f fd ps sp) (hr : Room k X.A) (hb : Binds X.K fd ps ds) (hd : Vals dvs ds) (hx : Passes CX X E)
    (I : Inv X pins σ H s) (r : Vals vs us) (h : sp (vs ++ dvs) H Q E) : wpAny (model X.prog X.w) X.A (call (.ref f) us) (EP X pins σ Q) X.xe s := by
  have r2 : Vals (vs ++ dvs) (us ++ ds) := r.append hd
  have hl : (us ++ ds).length = ps.length := by rw [← r2.length]; exact F.len _ _ _ _ h
  refine wpAny_call (codeAny_mono (F.run X.A X.stack s H ⟨us, []⟩ (us ++ ds) (vs ++ dvs) Q E hr I.env0 (hb s us I.kIn hl) r2 h) fun r s' hq => ?_)
  cases r with
  | error e => exact hx pins σ H s e s' I hq
  | ok fl =>
    cases fl with
    | ret u => exact I.after hq
    | next => exact False.elim hq
    | brk => exact False.elim hq
    | cont => exact False.elim hq
theorem pe_call (F : FnOk X.prog X.w X.K X.mg X.base CX k f fd ps sp) (hr : Room k X.A) (hg : Gl X x) (hm : X.mg x = some (.ref f)) (hk : PySem.W.keepIn X.K (.ref f) = true) (hb : Binds X.K fd ps ds) (hd : Vals dvs ds) (hx : Passes CX X E)
    (ha : PA X (e :: es) t) (hdb : (x == ("__debug__" : Str)) = false := by decide) (he : starEach (e :: es) X.env = (false, eval e X.env) :: starEach es X.env := by rfl) (hpl : (backTo pos (starEach es X.env)).any (·.1) = false := by rfl) :
    PE X (.Call (.Name x p) (e :: es) [] pos) (tCall sp dvs E t) := by
  intro pins s σ H Q I h
  refine wpAny_Call_Name_kw (ld_glob I hg hm ?_ hdb)
  refine PySem.W.callWith_K (h₀ := X.base) I.ok.mod.kin hk (thn (ha pos pins s σ H _ I h) fun us s1 ⟨vs, H1, I1, r, q⟩ => ⟨I1.kIn, ?_⟩) he hpl
  exact run_fn F hr hb hd hx I1 r q
theorem pe_meth {pl : Sem Bool} (he : PE X o ta) (c : Cls X.K C) (hm : Meth X.K C m f) (F : FnOk X.prog X.w X.K X.mg X.base CX k f fd ps sp) (hr : Room k X.A) (hb : Binds X.K fd ps ds) (hd : Vals dvs ds) (hx : Passes CX X E) (ha : PA X (e :: es) t)
    (hst : starEach (e :: es) X.env = (false, eval e X.env) :: starEach es X.env := by rfl) (hpl : (backTo pos (starEach es X.env)).any (·.1) = false := by rfl)
    (ht : eval (.Call (.Attribute o m apos) (e :: es) [] pos) X.env = (do
      let ov ← eval o X.env
      standAt apos.atName
      let (f, first) ← holding [ov] (getMethod ov m pl)
      callWith pos f first (backTo pos (starEach (e :: es) X.env)) (backToKw pos (keywordEach [] X.env))) := by rfl) :
    PE X (.Call (.Attribute o m apos) (e :: es) [] pos) (tMeth C m sp dvs E ta t) := by
  intro pins s σ H Q I h
  refine PySem.W.methodCall_KW (pl := pl) (thn (he pins s σ H _ I h) fun u s1 ⟨x, H1, I1, rx, a, dx, fs, ex, ea, l, q⟩ => ?_) ht
  subst ex
  obtain rfl : u = Value.ref a := rx
  refine getmeth_ok I1 ea c hm l ?_
  refine PySem.W.callWith_K (first := [.ref a]) (h₀ := X.base) I.ok.mod.kin hm.kp (thn (ha pos pins s1 σ H1 _ I1 q) fun us s2 ⟨vs, H2, I2, r, q2⟩ => ⟨I2.kIn, ?_⟩) hst hpl
  exact run_fn (us := .ref a :: us) (vs := .ref a :: vs) F hr hb hd hx I2 (.cons rfl r) q2
theorem pe_meth0 {pl : Sem Bool} (he : PE X o ta) (c : Cls X.K C) (hm : Meth X.K C m f) (F : FnOk X.prog X.w X.K X.mg X.base CX k f fd ps sp) (hr : Room k X.A) (hb : Binds X.K fd ps ds) (hd : Vals dvs ds) (hx : Passes CX X E)
    (ht : eval (.Call (.Attribute o m apos) [] [] pos) X.env = (do
      let ov ← eval o X.env
      standAt apos.atName
      let (f, first) ← holding [ov] (getMethod ov m pl)
      callWith pos f first (backTo pos (starEach [] X.env)) (backToKw pos (keywordEach [] X.env))) := by rfl) :
    PE X (.Call (.Attribute o m apos) [] [] pos) (tMeth C m sp dvs E ta tNil) := by
  intro pins s σ H Q I h
  refine PySem.W.methodCall_KW (pl := pl) (thn (he pins s σ H _ I h) fun u s1 ⟨x, H1, I1, rx, a, dx, fs, ex, ea, l, q⟩ => ?_) ht
  subst ex
  obtain rfl : u = Value.ref a := rx
  refine getmeth_ok I1 ea c hm l ?_
  exact PySem.W.callWith_K0 (first := [.ref a]) I1.kIn hm.kp (run_fn (us := [.ref a]) (vs := [.ref a]) F hr hb hd hx I1 (.cons rfl .nil) q)
structure Mk (K : PySem.W.Frag) (C f : Addr) : Prop where
  makes : PySem.W.makesIn K C = true
  init : PySem.W.findIn K (.ref C) "__init__" = some (some (.ref f))
  fn : PySem.W.isFn K (.ref f) = true
  kp : PySem.W.keepIn K (.ref C) = true
theorem run_make {pins : List (Addr × Obj)} {σ : St} {H : Hp} {s : Shared} {Q : VK} {us : List Value} {vs : List V} (M : Mk X.K C f) (F : FnOk X.prog X.w X.K X.mg X.base CX k f fd ps sp) (hr : Room (k + 1) X.A) (hb : Binds X.K fd ps ds) (hd : Vals dvs ds)
    (hx : Passes CX X E) (I : Inv X pins σ H s) (r : Vals vs us)
    (h : ∀ x dx, H x = none → H dx = none → dx ≠ x → sp (.ref x :: (vs ++ dvs)) (upd (upd H dx (.own x)) x (.ins C dx [])) (fun v H2 => v = .non ∧ Q (.ref x) H2) E) :
    wpAny (model X.prog X.w) X.A (call (.ref C) us) (EP X pins σ Q) X.xe s := by
  have hq := h (s.heap.objs.size + 1) s.heap.objs.size (I.hok.fresh (Nat.le_succ _)) (I.hok.fresh (Nat.le_refl _)) (Nat.ne_of_lt (Nat.lt_succ_self _))
  have I2 := Inv.made (C := C) I
  have r2 : Vals (V.ref (s.heap.objs.size + 1) :: (vs ++ dvs)) (Value.ref (s.heap.objs.size + 1) :: (us ++ ds)) := .cons rfl (r.append hd)
  have hl : (Value.ref (s.heap.objs.size + 1) :: us ++ ds).length = ps.length := by
    have e := r2.length
    rw [F.len _ _ _ _ hq] at e
    exact e.symm
  refine wpAny_call (make_map (f := f) I.kIn M.makes M.init (beq_iff_eq.mp M.fn) (codeAny_mono (F.run _ X.stack _ _ ⟨Value.ref (s.heap.objs.size + 1) :: us, []⟩ (Value.ref (s.heap.objs.size + 1) :: (us ++ ds)) _ _ E (hr.make C us [])
    (I2.env0.make C us []) (hb _ (Value.ref (s.heap.objs.size + 1) :: us) I2.kIn hl) r2 hq) fun r s' hq' => ?_))
  cases r with
  | error e => exact hx pins σ _ _ e s' I2 hq'
  | ok fl =>
    cases fl with
    | ret u =>
      obtain ⟨v, H', I3, rv, ev, q3⟩ := I2.after hq'
      subst ev
      exact ⟨rv, ⟨V.ref (s.heap.objs.size + 1), H', I3, rfl, q3⟩⟩
    | next => exact False.elim hq'
    | brk => exact False.elim hq'
    | cont => exact False.elim hq'
theorem pe_make (M : Mk X.K C f) (F : FnOk X.prog X.w X.K X.mg X.base CX k f fd ps sp) (hr : Room (k + 1) X.A) (hg : Gl X x) (hm : X.mg x = some (.ref C)) (hb : Binds X.K fd ps ds) (hd : Vals dvs ds) (hx : Passes CX X E)
    (ha : PA X (e :: es) t) (hdb : (x == ("__debug__" : Str)) = false := by decide) (he : starEach (e :: es) X.env = (false, eval e X.env) :: starEach es X.env := by rfl) (hpl : (backTo pos (starEach es X.env)).any (·.1) = false := by rfl) :
    PE X (.Call (.Name x p) (e :: es) [] pos) (tMake C sp dvs E t) := by
  intro pins s σ H Q I h
  refine wpAny_Call_Name_kw (ld_glob I hg hm ?_ hdb)
  refine PySem.W.callWith_K (h₀ := X.base) I.ok.mod.kin M.kp (thn (ha pos pins s σ H _ I h) fun us s1 ⟨vs, H1, I1, r, q⟩ => ⟨I1.kIn, ?_⟩) he hpl
  exact run_make M F hr hb hd hx I1 r q
theorem pe_make0 (M : Mk X.K C f) (F : FnOk X.prog X.w X.K X.mg X.base CX k f fd ps sp) (hr : Room (k + 1) X.A) (hg : Gl X x) (hm : X.mg x = some (.ref C)) (hb : Binds X.K fd ps ds) (hd : Vals dvs ds) (hx : Passes CX X E)
    (hdb : (x == ("__debug__" : Str)) = false := by decide) : PE X (.Call (.Name x p) [] [] pos) (tMake C sp dvs E tNil) := by
  intro pins s σ H Q I h
  refine wpAny_Call_Name_kw (ld_glob I hg hm ?_ hdb)
  exact PySem.W.callWith_K0 I.kIn M.kp (run_make (us := []) M F hr hb hd hx I .nil h)
end
section
variable {X : Cx} {CX : CXT} {k : Nat} {f C : Addr} {fd : FuncData} {ps ks : List Str} {sp : Sp} {E : XK} {x m : Str} {p pos apos kpos : Pos} {e o : Expr} {es : List Expr} {kws : List Keyword} {te ta : TE} {t tk : TA} {nm : Option Str}
structure KBinds (K : PySem.W.Frag) (fd : FuncData) (ps ks : List Str) (g : List Value → List Value → List Value) (gV : List V → List V → List V) : Prop where
  to : ∀ (s : Shared) (us ws : List Value), K.In s.heap → (g us ws).length = ps.length → BindsTo s fd ⟨us, ks.zip ws⟩ (ps.zip (g us ws))
  rel : ∀ {vs : List V} {us : List Value} {zs : List V} {ws : List Value}, Vals vs us → Vals zs ws → Vals (gV vs zs) (g us ws)
variable {g : List Value → List Value → List Value} {gV : List V → List V → List V}
end
structure FnScope (N P : List Str) (sc : Scope) : Prop where
  kind : sc.kind = .function
  co : sc.isCoroutine = false
  gen : sc.isGenerator = false
  nd : N.Nodup
  pre : N.take P.length = P
  par : ∀ x ∈ P, sc.names.lookup x = some .local ∨ sc.names.lookup x = some .cell
  nofree : ∀ y ∈ sc.names, y.2 ≠ .free
theorem bindL_out {kindOf : Str → Option NameKind} {x : Str} : ∀ {binds : List (Str × Value)} {m : Str → Option Value}, (∀ v, (x, v) ∉ binds) → bindL kindOf binds m x = m x
  | [], _, _ => rfl
  | (n, v) :: r, m, h => by
    unfold bindL
    rw [bindL_out fun w hw => h w (List.mem_cons_of_mem _ hw)]
    split
    · have : x ≠ n := by rintro rfl; exact h v List.mem_cons_self
      simp [this]
    · rfl
theorem bindC_out {kindOf : Str → Option NameKind} {x : Str} : ∀ {binds : List (Str × Value)} {m : Str → Option Value}, (∀ v, (x, v) ∉ binds) → bindC kindOf binds m x = m x
  | [], _, _ => rfl
  | (n, v) :: r, m, h => by
    unfold bindC
    rw [bindC_out fun w hw => h w (List.mem_cons_of_mem _ hw)]
    split
    · rfl
    · have : x ≠ n := by rintro rfl; exact h v List.mem_cons_self
      simp [this]
theorem bindL_get {kindOf : Str → Option NameKind} {x : Str} {v : Value} : ∀ {P : List Str} {vs : List Value} {i : Nat} {m : Str → Option Value}, P.Nodup → P[i]? = some x → vs[i]? = some v → kindOf x = some .local →
    bindL kindOf (P.zip vs) m x = some v
  | [], _, _, _, _, h, _, _ => by simp at h
  | _ :: _, [], _, _, _, _, h, _ => by simp at h
  | p :: P, w :: vs, 0, m, nd, h1, h2, hk => by
    simp at h1 h2; subst h1; subst h2
    show bindL kindOf ((p, w) :: P.zip vs) m p = _
    unfold bindL
    rw [bindL_out fun v hv => (List.nodup_cons.mp nd).1 (List.of_mem_zip hv).1, if_pos hk]
    simp
  | p :: P, w :: vs, i + 1, m, nd, h1, h2, hk => by
    show bindL kindOf ((p, w) :: P.zip vs) m x = _
    unfold bindL
    exact bindL_get (i := i) (List.nodup_cons.mp nd).2 (by simpa using h1) (by simpa using h2) hk
theorem bindC_get {kindOf : Str → Option NameKind} {x : Str} {v : Value} : ∀ {P : List Str} {vs : List Value} {i : Nat} {m : Str → Option Value}, P.Nodup → P[i]? = some x → vs[i]? = some v → kindOf x ≠ some .local →
    bindC kindOf (P.zip vs) m x = some v
  | [], _, _, _, _, h, _, _ => by simp at h
  | _ :: _, [], _, _, _, _, h, _ => by simp at h
  | p :: P, w :: vs, 0, m, nd, h1, h2, hk => by
    simp at h1 h2; subst h1; subst h2
    show bindC kindOf ((p, w) :: P.zip vs) m p = _
    unfold bindC
    rw [bindC_out fun v hv => (List.nodup_cons.mp nd).1 (List.of_mem_zip hv).1, if_neg hk]
    simp
  | p :: P, w :: vs, i + 1, m, nd, h1, h2, hk => by
    show bindC kindOf ((p, w) :: P.zip vs) m x = _
    unfold bindC
    exact bindC_get (i := i) (List.nodup_cons.mp nd).2 (by simpa using h1) (by simpa using h2) hk
def start (N : List Str) (vs : List V) : St := vs.map some ++ List.replicate (N.length - vs.length) none
def cxOf (CX : CXT) (P : Program) (w : World) (K : PySem.W.Frag) (mg : Str → Option Value) (base : Heap) (N : List Str) (qual : Str) (scope : Scope) (f : Addr) (cd : Value) (A : Around) (outer : List Env) (s : Shared) (H : Hp) (E : XK) : Cx where
  prog := P
  w := w
  K := K
  mg := mg
  base := base
  A := A.deeper (envOfC qual scope s.heap.objs.size f cd)
  N := N
  s₀ := s
  H₀ := H
  env := envOfC qual scope s.heap.objs.size f cd
  outer := outer
  stack := envOfC qual scope s.heap.objs.size f cd :: outer
  ex := []
  calm := true
  fn := fun _ => true
  pn := []
  xe := fun e s' => wpAny (model P w) (A.deeper (envOfC qual scope s.heap.objs.size f cd)) (leaving (envOfC qual scope s.heap.objs.size f cd) e) (fun _ s'' => CX outer H s E e s'') (fun e' s'' => CX outer H s E e' s'') s'
theorem cell_has {sc : Scope} {n : Nat} {x : Str} (h : sc.names.lookup x = some .cell) : ∃ c, (cellsFrom n sc.names []).lookup x = some c := by
  have q := PySem.W.cellsFrom_some sc.names n [] (.inl h)
  exact Option.isSome_iff_exists.mp q
theorem inv_start {CX : CXT} {P : Program} {w : World} {K : PySem.W.Frag} {mg : Str → Option Value} {base : Heap} {N ps : List Str} {qual : Str} {scope : Scope} {f : Addr} {cd : Value} {A : Around} {outer : List Env} {s s1 : Shared} {H : Hp} {E : XK} {us : List Value} {vs : List V}
    (S : FnScope N ps scope) (hd : A.handled = none) (e0 : Env0 P w K mg base A outer s H) (hl : vs.length = ps.length) (r : Vals vs us)
    (x : InCallC s s.heap.objs.size (bindL (envOfC qual scope s.heap.objs.size f cd).kindOf (ps.zip us) fun _ => none) (cellsFrom (s.heap.objs.size + 1) scope.names []) (bindC (envOfC qual scope s.heap.objs.size f cd).kindOf (ps.zip us) fun _ => none) s1) :
    Inv (cxOf CX P w K mg base N qual scope f cd A outer s H E) [] (start N vs) H s1 := by
  have hpl : ps.length ≤ N.length := by have := congrArg List.length S.pre; rw [List.length_take] at this; omega
  obtain ⟨h1, tk, rfl, hk⟩ := x.done
  have noA : ∀ b : Addr, b ∉ (cxOf CX P w K mg base N qual scope f cd A outer s H E).ex := fun b z => absurd (show b ∈ ([] : List Addr) from z) (by simp)
  refine ⟨⟨e0.mod, S.kind, rfl, rfl, Nat.le_refl _, fun y z c h1 h2 => ?_, fun y hy => ?_, fun y c _ h => ?_, fun _ => hd, Around.frames_deeper e0.frames, .inr ⟨rfl, rfl⟩, fun b z => absurd z (noA b), e0.bs, e0.bsz, fun b _ _ => noA b, fun b z => absurd z (noA b), e0.funs, e0.frf⟩,
    rfl, e0.bare, Un.kept hk, ⟨_, x.toInCall.ns, fun i y v h1 h2 h3 => ?_⟩, fun y c h => ⟨_, x.cell y c h⟩, e0.hok.fresh (Nat.le_refl _), fun y c h => ?_, fun p hp => absurd (show p ∈ ([] : List (Addr × Obj)) from hp) (by simp), e0.hok.kept hk, ?_⟩
  · exact name_of_addr x.apart (PySem.mem_of_lookup h1) (PySem.mem_of_lookup h2)
  · have hy : scope.names.lookup y = some .cell ∨ scope.names.lookup y = some .free := hy
    rcases hy with hy | hy
    · exact cell_has hy
    · exact absurd rfl (S.nofree _ (PySem.mem_of_lookup hy))
  · exact Nat.le_of_lt (x.above y c (PySem.mem_of_lookup h))
  · have hi : i < vs.length := by
      unfold start at h2
      by_cases hi : i < vs.length
      · exact hi
      · rw [List.getElem?_append_right (by simpa using hi)] at h2
        rw [List.getElem?_replicate] at h2
        split at h2 <;> cases h2
    have ha : vs[i]? = some v := by
      unfold start at h2
      rw [List.getElem?_append_left (by simpa using hi), List.getElem?_map] at h2
      cases e : vs[i]? with
      | none => rw [e] at h2; cases h2
      | some a => rw [e] at h2; cases h2; rfl
    obtain ⟨u, hu, rv⟩ := r.get ha
    have hp : ps[i]? = some y := by
      rw [← S.pre, List.getElem?_take_of_lt (by omega)]; exact h1
    have ndP : ps.Nodup := by rw [← S.pre]; exact S.nd.sublist (List.take_sublist _ _)
    refine ⟨u, rv, ?_⟩
    rcases S.par y (List.mem_of_getElem? hp) with k | k
    · exact .inl ⟨k, bindL_get ndP hp hu k⟩
    · obtain ⟨c, e⟩ := cell_has (n := s.heap.objs.size + 1) k
      refine .inr ⟨.inl k, c, e, ?_⟩
      have q := x.cell y c e
      rw [bindC_get ndP hp hu (by show scope.names.lookup y ≠ _; rw [k]; decide)] at q
      exact q
  · exact e0.hok.fresh (Nat.le_of_lt (x.above y c (PySem.mem_of_lookup h)))
  · unfold start
    show _ = N.length
    rw [List.length_append, List.length_map, List.length_replicate]
    omega
theorem fn_of {CX : CXT} {P : Program} {w : World} {K : PySem.W.Frag} {mg : Str → Option Value} {base : Heap} {k : Nat} {f : Addr} {name qual : Str} {params : Arguments} {body : List Stmt} {scope : Scope} {dV kV doc pm cdv ct oc : Value} {an od : Option Addr}
    {osl : Array (Option Value)} {N ps : List Str} {sp : Sp} (lk : K.lookup f = some ⟨oc, od, .func (PySem.W.fnOf name qual params body scope dV kV doc pm an cdv ct), osl⟩) (hcd : PySem.W.codeIn K cdv qual = true) (S : FnScope N ps scope)
    (len : ∀ vs H Q E, sp vs H Q E → vs.length = ps.length)
    (hbody : ∀ (A : Around) (outer : List Env) (s : Shared) (H : Hp) (vs : List V) (Q : VK) (E : XK), Room k (A.deeper (envOfC qual scope s.heap.objs.size f cdv)) → sp vs H Q E →
      ∃ t, PSs (cxOf CX P w K mg base N qual scope f cdv A outer s H E) body t ∧ t { nx := fun _ H' => Q .non H', rt := Q } (start N vs) H) :
    FnOk P w K mg base CX (k + 1) f (PySem.W.fnOf name qual params body scope dV kV doc pm an cdv ct) ps sp := by
  refine ⟨len, fun A outer s H args us vs Q E hr e0 hb r hsp => ?_⟩
  have hl := len _ _ _ _ hsp
  have KX : K.In s.heap := e0.mod.kin.keeps fun b o e => (e0.bs b o e).1
  have lim : s.heap.NoLimit := e0.mod.nolimit.keeps fun b o e => (e0.bs b o e).1
  have hkind : ∀ y ∈ ps.zip us, scope.names.lookup y.1 = some .local ∨ (scope.names.lookup y.1 = some .cell ∧ ((cellsFrom (s.heap.objs.size + 1) scope.names []).lookup y.1).isSome = true) := fun ⟨n, v⟩ hy => by
    rcases S.par n (List.of_mem_zip hy).1 with q | q
    · exact .inl q
    · exact .inr ⟨q, PySem.W.cellsFrom_some _ _ _ (.inl q)⟩
  refine codeAny_call_function hr.depth (KX _ _ lk) rfl S.co S.gen rfl (PySem.W.codeRec_of KX hcd) (hb _ _ _ _ ?_)
  refine wpAny_newFunctionEnv_cells S.kind hkind fun env he s1 x => ?_
  subst he
  refine ⟨lim.keeps x.toInCall.keep, codeAny_func ?_⟩
  obtain ⟨t, ht, hq⟩ := hbody A outer s H vs Q E (hr.deeper _) hsp
  have I : Inv (cxOf CX P w K mg base N qual scope f cdv A outer s H E) [] (start N vs) H s1 := inv_start S hr.hd e0 hl r x
  refine wpAny_mono (ht [] s1 (start N vs) H _ I hq) (fun fl s' hs => ?_) fun e s' hs => hs
  have fin : ∀ {σ' : St} {H' : Hp} {v : V} {u : Value}, Inv (cxOf CX P w K mg base N qual scope f cdv A outer s H E) [] σ' H' s' → RelV v u → Q v H' → CE outer P w H s Q u s' :=
    fun {σ' H' v u} J rv q => ⟨v, H', J.os, J.bare, J.base, J.hok, rv, q⟩
  cases fl with
  | ret u =>
    obtain ⟨v, σ', H', J, rv, q⟩ := hs
    exact fin J rv q
  | next =>
    obtain ⟨σ', H', J, q⟩ := hs
    exact fin (v := V.non) (u := Value.none) J rfl q
  | brk =>
    obtain ⟨_, _, _, q⟩ := hs
    exact False.elim q
  | cont =>
    obtain ⟨_, _, _, q⟩ := hs
    exact False.elim q
end L2
namespace L2
open PySem PySem.Spec PyProof.Rows
section
variable {X : Cx} {x : Str} {p pos : Pos} {e : Expr} {es : List Expr} {t : TA} {id T : String} {r : List V → Hp → VK → Prop}
def tCB (r : List V → Hp → VK → Prop) (t : TA) : TE := fun σ H Q => t σ H fun vs H1 => r vs H1 Q
theorem pe_callB (hc : CallR X (.builtin id) r) (hg : Gl X x) (hm : X.mg x = none) (hv : bootBuiltins x = some (.builtin id)) (ha : PA X (e :: es) t) (hn : x ≠ "__name__" := by decide) (hdb : (x == ("__debug__" : Str)) = false := by decide)
    (he : starEach (e :: es) X.env = (false, eval e X.env) :: starEach es X.env := by rfl) (hpl : (backTo pos (starEach es X.env)).any (·.1) = false := by rfl) : PE X (.Call (.Name x p) (e :: es) [] pos) (tCB r t) := by
  intro pins s σ H Q I h
  refine wpAny_Call_Name_kw (ld_blt I hg hm hv ?_ hn hdb)
  exact PyProof.Rows.callWith_builtin1 (thn (ha pos pins s σ H _ I h) fun us s1 ⟨vs, H1, I1, r1, q1⟩ => hc pins s1 σ H1 vs us Q I1 r1 q1) he hpl
theorem pe_callTy (hc : CallR X (.type T) r) (hg : Gl X x) (hm : X.mg x = none) (hv : bootBuiltins x = some (.type T)) (ha : PA X (e :: es) t) (hn : x ≠ "__name__" := by decide) (hdb : (x == ("__debug__" : Str)) = false := by decide)
    (he : starEach (e :: es) X.env = (false, eval e X.env) :: starEach es X.env := by rfl) (hpl : (backTo pos (starEach es X.env)).any (·.1) = false := by rfl) : PE X (.Call (.Name x p) (e :: es) [] pos) (tCB r t) := by
  intro pins s σ H Q I h
  refine wpAny_Call_Name_kw (ld_blt I hg hm hv ?_ hn hdb)
  exact PyProof.Rows.callWith_type1 (thn (ha pos pins s σ H _ I h) fun us s1 ⟨vs, H1, I1, r1, q1⟩ => hc pins s1 σ H1 vs us Q I1 r1 q1) he hpl
end
end L2
namespace HT
open PySem PyProof.Rows
section
open PySem.SeqAt
open PySem.AutoSeq1 (wpAny_loadPart')
open PySem.MeetsSeq PySem.MeetsSeq2 PySem.MeetsSeq3
end
section
variable {prog : Program} {w : World} {A : Around} {E : Value → Shared → Prop} {s : Shared}
def sIx (n d : Nat) : Option Int → Nat
  | none => d
  | some v => if v < 0 then (v + (n : Int)).toNat else min v.toNat n
theorem sIx_none (n d : Nat) : sIx n d none = d := rfl
theorem sIx_nat (n d k : Nat) : sIx n d (some (k : Int)) = min k n := by
  show (if (k : Int) < 0 then ((k : Int) + (n : Int)).toNat else min (k : Int).toNat n) = min k n
  rw [if_neg (by omega), Int.toNat_natCast]
end
end HT
namespace L2
open PySem PySem.Spec PyProof.Rows
abbrev TO := St → Hp → (Option Int → Hp → Prop) → Prop
def PO (X : Cx) (e : Option Expr) (t : TO) : Prop :=
  ∀ (pins : List (Addr × Obj)) (s : Shared) (σ : St) (H : Hp) (Q : Option Int → Hp → Prop), Inv X pins σ H s → t σ H Q →
    wpAny (model X.prog X.w) X.A (evalPart e X.env) (fun u s' => ∃ o H', Inv X pins σ H' s' ∧ IsPart u o ∧ Q o H') X.xe s
def tNoPart : TO := fun _ H Q => Q none H
def tPart (t : TE) : TO := fun σ H Q => t σ H fun x H1 => ∃ i, x = .int i ∧ Q (some i) H1
section
variable {X : Cx} {e : Expr} {te : TE} {lo hi : Option Expr} {tl th : TO} {pos p2 : Pos}
theorem po_none : PO X none tNoPart := by
  intro pins s σ H Q I h
  rw [evalPart_none]
  exact wpAny_pure ⟨none, H, I, .none, h⟩
theorem po_some (h : PE X e te) : PO X (some e) (tPart te) := by
  intro pins s σ H Q I hw
  rw [evalPart_some]
  refine thn (h pins s σ H _ I hw) fun u s1 ⟨x, H1, I1, r1, q1⟩ => ?_
  obtain ⟨i, rfl, q⟩ := q1
  obtain ⟨t, rfl⟩ := r1
  exact ⟨some i, H1, I1, .int i t, q⟩
def SlR (X : Cx) (r : V → Option Int → Option Int → Hp → VK → Prop) : Prop :=
  ∀ (pins : List (Addr × Obj)) (s : Shared) (σ : St) (H : Hp) (x : V) (v vl vu : Value) (lo hi : Option Int) (sl : Addr) (Q : VK), Inv X pins σ H s → RelV x v → s.heap.IsSliceOf sl vl vu .none → IsPart vl lo → IsPart vu hi → r x lo hi H Q →
    ∃ T id, typeLookup (.type T) "__getitem__" = pure (some (.builtin id)) ∧ s.TypeIs v T ∧ wpAny (model X.prog X.w) X.A (getItem v (.ref sl)) (EP X pins σ Q) X.xe s
def tSl (r : V → Option Int → Option Int → Hp → VK → Prop) (te : TE) (tl th : TO) : TE := fun σ H Q => te σ H fun x H1 => tl σ H1 fun l H2 => th σ H2 fun u H3 => r x l u H3 Q
theorem pe_slice {r : V → Option Int → Option Int → Hp → VK → Prop} (hr : SlR X r) (he : PE X e te) (hl : PO X lo tl) (hu : PO X hi th) : PE X (.Subscript e (.Slice lo hi none p2) pos) (tSl r te tl th) := by
  intro pins s σ H Q I h
  refine Subscript_ (thn (he pins s σ H _ I h) fun v s1 ⟨x, H1, I1, r1, q1⟩ => ?_)
  refine wpAny_Slice (thn (hl pins s1 σ H1 _ I1 q1) fun vl s2 ⟨l, H2, I2, pl, q2⟩ => thn (hu pins s2 σ H2 _ I2 q2) fun vu s3 ⟨u, H3, I3, pu, q3⟩ => ?_)
  rw [evalPart_none]
  refine wpAny_pure ?_
  have I4 : Inv X pins σ H3 { s3 with heap := s3.heap.push { cls := .type "slice", data := .fields #[vl, vu, .none] } } := I3.kept (t' := s3.toks) fun b ob q => Heap.get?_push_of_some _ q
  obtain ⟨T, id, hT, ht, hg⟩ := hr pins { s3 with heap := s3.heap.push { cls := .type "slice", data := .fields #[vl, vu, .none] } } σ H3 x v vl vu l u s3.heap.objs.size Q I4 r1 (Heap.IsSliceOf.new ..) pl pu q3
  show wpAny (model X.prog X.w) X.A (subscriptTail e (.Slice lo hi none p2) v (.ref s3.heap.objs.size)) (EP X pins σ Q) X.xe { s3 with heap := s3.heap.push { cls := .type "slice", data := .fields #[vl, vu, .none] } }
  exact tail_any (ops := [.ref s3.heap.objs.size, v]) ht hT hg (by with_unfolding_all rfl)
def cutV (xs : List V) (lo hi : Option Int) : List V := (xs.drop (HT.sIx xs.length 0 lo)).take (HT.sIx xs.length xs.length hi - HT.sIx xs.length 0 lo)
theorem cutV_length (xs : List V) (lo hi : Option Int) : (cutV xs lo hi).length ≤ xs.length := by
  unfold cutV
  rw [List.length_take, List.length_drop]
  omega
end
end L2
namespace L2
open PySem PySem.Spec PyProof.Rows
def ixN (n : Nat) (i : Int) : Option Nat := if 0 ≤ i then (if i < n then some i.toNat else none) else if -(n : Int) ≤ i then some (i + n).toNat else none
def atI {α : Type} (xs : List α) (i : Int) : Option α := (ixN xs.length i).bind fun j => xs[j]?
theorem ixN_seq {n : Nat} {i : Int} {j : Nat} (h : ixN n i = some j) : seqIndex? i n = some j ∧ j < n ∧ -(n : Int) ≤ i ∧ i < n := by
  unfold ixN at h
  by_cases h0 : 0 ≤ i
  · rw [if_pos h0] at h
    by_cases h1 : i < n
    · rw [if_pos h1] at h
      have e : i.toNat = j := Option.some.inj h
      exact ⟨by rw [seqIndex_of h0 h1, e], by omega, by omega, h1⟩
    · rw [if_neg h1] at h; cases h
  · rw [if_neg h0] at h
    by_cases h1 : -(n : Int) ≤ i
    · rw [if_pos h1] at h
      have e : (i + n).toNat = j := Option.some.inj h
      exact ⟨by rw [seqIndex_neg (by omega) h1, e], by omega, h1, by omega⟩
    · rw [if_neg h1] at h; cases h
theorem atI_get {α : Type} {xs : List α} {i : Int} {v : α} (h : atI xs i = some v) : ∃ j, seqIndex? i xs.length = some j ∧ xs[j]? = some v ∧ j < xs.length ∧ -(xs.length : Int) ≤ i ∧ i < xs.length := by
  unfold atI at h
  cases e : ixN xs.length i with
  | none => rw [e] at h; cases h
  | some j =>
    rw [e] at h
    obtain ⟨h1, h2, h3, h4⟩ := ixN_seq e
    exact ⟨j, h1, h, h2, h3, h4⟩
theorem atI_nat {α : Type} {xs : List α} {j : Nat} {v : α} (h : xs[j]? = some v) : atI xs (j : Int) = some v := by
  have hj : j < xs.length := (List.getElem?_eq_some_iff.mp h).1
  have e : ixN xs.length (j : Int) = some j := by
    unfold ixN
    rw [if_pos (by omega), if_pos (by omega)]; simp
  unfold atI; rw [e]; exact h
def PlainIx (b : Expr) : Prop := ∀ o i, subscripted b false o i = operate [o, i] (getItem o i)
def IxR (X : Cx) (r : R2) : Prop :=
  ∀ (value slice : Expr) (pins : List (Addr × Obj)) (s : Shared) (σ : St) (H : Hp) (x y : V) (v u : Value) (Q : VK), Inv X pins σ H s → RelV x v → RelV y u → r x y H Q →
    subscripted slice false v u = operate [v, u] (getItem v u) → wpAny (model X.prog X.w) X.A (subscriptTail value slice v u) (EP X pins σ Q) X.xe s
def MtR (X : Cx) (id : String) (r : V → List V → Hp → VK → Prop) : Prop :=
  ∀ (pins : List (Addr × Obj)) (s : Shared) (σ : St) (H : Hp) (x : V) (xs : List V) (v : Value) (us : List Value) (Q : VK), Inv X pins σ H s → RelV x v → Vals xs us → r x xs H Q →
    wpAny (model X.prog X.w) X.A (call (.builtin id) (v :: us)) (EP X pins σ Q) X.xe s
section
variable {X : Cx} {a b : Expr} {ta tb : TE} {pos : Pos}
theorem pe_ix {r : R2} (hr : IxR X r) (ha : PE X a ta) (hb : PE X b tb) (hs : PlainIx b) : PE X (.Subscript a b pos) (tOp r ta tb) := by
  intro pins s σ H Q I h
  exact Subscript_ (binT ha hb I h fun v u s2 x y H2 I2 rx ry q => hr a b pins s2 σ H2 x y v u Q I2 rx ry q (hs _ _))
def rIxL (K : PySem.W.Frag) : R2 := fun x y H Q => ∃ p xs i v, x = .ref p ∧ y = .int i ∧ SqL K H p xs ∧ atI xs i = some v ∧ Q v H
def rIxT (K : PySem.W.Frag) : R2 := fun x y H Q => ∃ p xs i v, x = .ref p ∧ y = .int i ∧ SqT K H p xs ∧ atI xs i = some v ∧ Q v H
theorem ix_list : IxR X (rIxL X.K) := by
  intro value slice pins s σ H x y v u Q I rx ry h hs
  obtain ⟨p, xs, i, z, rfl, rfl, hq, he, q⟩ := h
  cases rx
  obtain ⟨t, rfl⟩ := ry
  obtain ⟨its, r, pl, hz⟩ := I.list hq
  obtain ⟨j, h1, h2, h3, h4, h5⟩ := atI_get he
  obtain ⟨w, ew, rw'⟩ := r.get h2
  have hl := r.length
  have hn := line63
  have fin : EP X pins σ Q w s := ⟨z, H, I, rw', q⟩
  by_cases h0 : 0 ≤ i
  · have hj : i.toNat = j := by
      rw [seqIndex_of h0 h5] at h1
      exact Option.some.inj h1
    exact item_listR pl.isList h0 (by omega) (by rw [hj]; simpa using ew) fin hs
  · have hj : (i + (its.toArray.size : Int)).toNat = j := by
      rw [seqIndex_neg (by omega) h4] at h1
      rw [List.size_toArray, ← hl]
      exact Option.some.inj h1
    exact subscriptTail_builtinR (x := w) pl.isList.typeIs slot_list_getitem.lookup
      (wpAny_getItem_list_neg (Q := fun r s' => r = w ∧ EP X pins σ Q r s') pl.isList (by omega) (by rw [List.size_toArray] <;> omega) (by omega) (by rw [hj]; simpa using ew) ⟨rfl, fin⟩) hs
theorem ix_tup : IxR X (rIxT X.K) := by
  intro value slice pins s σ H x y v u Q I rx ry h hs
  obtain ⟨p, xs, i, z, rfl, rfl, hq, he, q⟩ := h
  cases rx
  obtain ⟨t, rfl⟩ := ry
  obtain ⟨its, r, pl, hz⟩ := I.tuple hq
  obtain ⟨j, h1, h2, h3, h4, h5⟩ := atI_get he
  obtain ⟨w, ew, rw'⟩ := r.get h2
  have hl := r.length
  have hn := line63
  have fin : EP X pins σ Q w s := ⟨z, H, I, rw', q⟩
  exact subscriptTail_builtinR (x := w) pl.typeIs slot_tuple_getitem.lookup
    (getItem_tuple (j := j) (Q := fun r s' => r = w ∧ EP X pins σ Q r s') pl (by omega) (by omega) (by rw [List.size_toArray, ← hl]; exact h1) (by simpa using ew) ⟨rfl, fin⟩) hs
theorem mapSeq_set (its : List Value) (n j : Nat) (u : Value) : Obj.mapSeq (·.setIfInBounds j u) { cls := .type "list", data := .seq its.toArray n } = { cls := .type "list", data := .seq (its.set j u).toArray n } := by
  simp [Obj.mapSeq]
theorem Inv.lst {pins : List (Addr × Obj)} {σ : St} {H : Hp} {s : Shared} {p : Addr} {xs : List V} (I : Inv X pins σ H s) (h : H p = some (.lst xs)) :
    ∃ (its : List Value) (n : Nat), Vals xs its ∧ s.heap.get? p = some { cls := .type "list", data := .seq its.toArray n } ∧ xs.length ≤ sizeLine := by
  obtain ⟨z, its, n, r, e⟩ := I.hok p _ h
  exact ⟨its, n, r, e, z⟩
theorem Inv.lstUpd {pins : List (Addr × Obj)} {σ : St} {H : Hp} {s : Shared} {p : Addr} {xs ys : List V} {its its' : List Value} {n n' : Nat} {f : Obj → Obj} (I : Inv X pins σ H s) (h : H p = some (.lst xs))
    (ho : s.heap.get? p = some { cls := .type "list", data := .seq its.toArray n }) (hf : f { cls := .type "list", data := .seq its.toArray n } = { cls := .type "list", data := .seq its'.toArray n' }) (r : Vals ys its') (hz : ys.length ≤ sizeLine) (t : Nat) :
    Inv X pins σ (upd H p (.lst ys)) { s with heap := s.heap.update p f, toks := t } := by
  have e : (s.heap.update p f).get? p = some { cls := .type "list", data := .seq its'.toArray n' } := by
    rw [Heap.get?_update_self f ho (by rw [hf] <;> rfl), hf]
  refine I.write (x := p) (e := p) (by rw [h]; trivial) (.inl rfl) (fun b u hb q => (Heap.get?_update_other _ _ (Ne.symm hb)).trans q) ⟨_, e⟩ ?_
  exact ⟨hz, its', n', r, e⟩
def rSetL : V → V → V → Hp → (Hp → Prop) → Prop := fun o i v H Q => ∃ p xs k j, o = .ref p ∧ i = .int k ∧ H p = some (.lst xs) ∧ ixN xs.length k = some j ∧ Q (upd H p (.lst (xs.set j v)))
theorem set_list : PSet X rSetL := by
  intro pins s σ H o i v ov iv u Q I ro ri rv h
  obtain ⟨p, xs, k, j, rfl, rfl, hp, hj, q⟩ := h
  cases ro
  obtain ⟨t, rfl⟩ := ri
  obtain ⟨its, n, r, ho, hz⟩ := I.lst hp
  obtain ⟨h1, h2, h3, h4⟩ := ixN_seq hj
  have hl := r.length
  have hn := line63
  have I' : Inv X pins σ (upd H p (.lst (xs.set j v))) { s with heap := s.heap.update p (Obj.mapSeq (·.setIfInBounds j u)) } :=
    I.lstUpd hp ho (mapSeq_set its n j u) (r.set rv j) (by rw [List.length_set]; exact hz) s.toks
  by_cases h0 : 0 ≤ k
  · have hk : k.toNat = j := by
      rw [seqIndex_of h0 h4] at h1
      exact Option.some.inj h1
    exact PySem.W.ki_setAt ho h0 (by omega) (by rw [List.size_toArray, ← hl]; exact h4) (by rw [hk]; exact ⟨_, I', q⟩)
  · have hk : (k + (its.toArray.size : Int)).toNat = j := by
      rw [seqIndex_neg (by omega) h3] at h1
      rw [List.size_toArray, ← hl]
      exact Option.some.inj h1
    exact PySem.W.ki_setBack ho (by omega) (by rw [List.size_toArray, ← hl]; exact h3) (by omega) (by rw [hk]; exact ⟨_, I', q⟩)
theorem slice_bounds (lo hi : Option Int) (n : Nat) : (sliceBounds lo hi none n).1 = ((HT.sIx n 0 lo : Nat) : Int) ∧ (sliceBounds lo hi none n).2.1 = ((HT.sIx n n hi : Nat) : Int) ∧ (sliceBounds lo hi none n).2.2 = 1 := by
  refine ⟨?_, ?_, rfl⟩
  · cases lo with
    | none => simp [sliceBounds, HT.sIx]
    | some i =>
      simp only [sliceBounds, HT.sIx, Option.getD_none, show (1 : Int) > 0 by decide, if_true]
      by_cases h : i < 0
      · simp only [h, if_true] <;> omega
      · simp only [h, if_false] <;> omega
  · cases hi with
    | none => simp [sliceBounds, HT.sIx]
    | some i =>
      simp only [sliceBounds, HT.sIx, Option.getD_none, show (1 : Int) > 0 by decide, if_true]
      by_cases h : i < 0
      · simp only [h, if_true] <;> omega
      · simp only [h, if_false] <;> omega
theorem slicePick_cut (its : List Value) (lo hi : Option Int) : slicePick its.toArray lo hi none = ((its.drop (HT.sIx its.length 0 lo)).take (HT.sIx its.length its.length hi - HT.sIx its.length 0 lo)).toArray := by
  obtain ⟨h1, h2, h3⟩ := slice_bounds lo hi its.toArray.size
  unfold slicePick
  rw [h1, h2, h3]
  simp only [sliceRange_one, pick_run, List.size_toArray] <;> rfl
def rSlL (K : PySem.W.Frag) : V → Option Int → Option Int → Hp → VK → Prop := fun x lo hi H Q => ∃ a xs, x = .ref a ∧ SqL K H a xs ∧ ∀ p, H p = none → Q (.ref p) (upd H p (.lst (cutV xs lo hi)))
theorem sl_list : SlR X (rSlL X.K) := by
  intro pins s σ H x v vl vu lo hi sl Q I rx hs pl pu h
  obtain ⟨a, xs, rfl, hx, q⟩ := h
  cases rx
  obtain ⟨its, r, ht, hz⟩ := I.list hx
  have hlen := r.length
  refine ⟨"list", _, slot_list_getitem.lookup, ht.isList.typeIs, ?_⟩
  refine wpAny_getItem_list_slice ht.isList hs pl pu .none (by simp) ?_ (by rw [List.size_toArray] <;> omega)
  rw [slicePick_cut, ← hlen]
  refine ⟨.ref s.heap.objs.size, _, I.laid (t' := s.toks) (o := .lst (cutV xs lo hi)) (fun b ob q => Heap.get?_push_of_some _ q) (Nat.le_refl _) ?_, rfl, q _ (I.hok.fresh (Nat.le_refl _))⟩
  exact ⟨Nat.le_trans (cutV_length xs lo hi) hz, _, 0, (r.drop (HT.sIx xs.length 0 lo)).take (HT.sIx xs.length xs.length hi - HT.sIx xs.length 0 lo), Heap.get?_push_size _ rfl⟩
def flatV : V → Bool
  | .non => true
  | .bl _ => true
  | .int _ => true
  | .str _ => true
  | _ => false
def eqV : V → V → Bool
  | .non, .non => true
  | .bl a, .bl b => a == b
  | .bl a, .int b => (if a then 1 else 0) == b
  | .int a, .bl b => a == (if b then 1 else 0)
  | .int a, .int b => a == b
  | .str a, .str b => a == b
  | _, _ => false
theorem eqAt_V {A : Around} {s : Shared} {y x : V} {u v : Value} (ry : RelV y u) (rx : RelV x v) (fy : flatV y = true) (fx : flatV x = true) : SeqAt.EqAt A s u v (eqV y x) := by
  cases y with
  | non =>
    cases ry
    cases x with
    | non => cases rx; exact SeqAt.EqAt.same _
    | bl b => cases rx; exact SeqAt.EqAt.none_bool b
    | int b => obtain ⟨t, rfl⟩ := rx; exact SeqAt.EqAt.none_int b t
    | str b => obtain ⟨t, rfl⟩ := rx; exact SeqAt.EqAt.none_str b t
    | _ => exact absurd (show false = true from fx) Bool.false_ne_true
  | bl a =>
    cases ry
    cases x with
    | non => cases rx; exact SeqAt.EqAt.bool_none a
    | bl b => cases rx; exact SeqAt.EqAt.bool_bool a b
    | int b => obtain ⟨t, rfl⟩ := rx; exact SeqAt.EqAt.bool_int a b t
    | str b => obtain ⟨t, rfl⟩ := rx; exact SeqAt.EqAt.bool_str a b t
    | _ => exact absurd (show false = true from fx) Bool.false_ne_true
  | int a =>
    obtain ⟨t', rfl⟩ := ry
    cases x with
    | non => cases rx; exact SeqAt.EqAt.int_none a t'
    | bl b => cases rx; exact SeqAt.EqAt.int_bool a t' b
    | int b => obtain ⟨t, rfl⟩ := rx; exact SeqAt.EqAt.int_int a t' b t
    | str b => obtain ⟨t, rfl⟩ := rx; exact SeqAt.EqAt.int_str a t' b t
    | _ => exact absurd (show false = true from fx) Bool.false_ne_true
  | str a =>
    obtain ⟨t', rfl⟩ := ry
    cases x with
    | non => cases rx; exact SeqAt.EqAt.str_none a t'
    | bl b => cases rx; exact SeqAt.EqAt.str_bool a t' b
    | int b => obtain ⟨t, rfl⟩ := rx; exact SeqAt.EqAt.str_int a t' b t
    | str b => obtain ⟨t, rfl⟩ := rx; exact SeqAt.EqAt.str_str a t' b t
    | _ => exact absurd (show false = true from fx) Bool.false_ne_true
  | _ => exact absurd (show false = true from fy) Bool.false_ne_true
def eqU (x : V) (u : Value) : Bool := match u with
  | .none => eqV .non x
  | .bool b => eqV (.bl b) x
  | .int i _ => eqV (.int i) x
  | .str z _ => eqV (.str z) x
  | _ => false
theorem eqU_of {x y : V} {u : Value} (r : RelV y u) (f : flatV y = true) : eqU x u = eqV y x := by
  cases y with
  | non => cases r; rfl
  | bl b => cases r; rfl
  | int i => obtain ⟨t, rfl⟩ := r; rfl
  | str z => obtain ⟨t, rfl⟩ := r; rfl
  | _ => exact absurd (show false = true from f) Bool.false_ne_true
theorem any_eqU {x : V} : ∀ {xs : List V} {us : List Value}, Vals xs us → xs.all flatV = true → us.any (eqU x) = xs.any fun y => eqV y x
  | _, _, .nil, _ => rfl
  | y :: xs, u :: us, .cons r t, f => by
    rw [List.all_cons, Bool.and_eq_true] at f
    rw [List.any_cons, List.any_cons, eqU_of r f.1, any_eqU t f.2]
theorem mem_eqAt {A : Around} {s : Shared} {x : V} {v : Value} (rx : RelV x v) (fx : flatV x = true) : ∀ {xs : List V} {us : List Value}, Vals xs us → xs.all flatV = true → ∀ u ∈ us, SeqAt.EqAt A s u v (eqU x u)
  | _, _, .nil, _ => fun u hu => by cases hu
  | y :: xs, u :: us, .cons r t, f => fun u' hu => by
    rw [List.all_cons, Bool.and_eq_true] at f
    rcases List.mem_cons.mp hu with rfl | hu
    · rw [eqU_of r f.1]; exact eqAt_V r rx f.1 fx
    · exact mem_eqAt rx fx t f.2 u' hu
def inV (x : V) (xs : List V) : Bool := xs.any fun y => eqV y x
def rIn (K : PySem.W.Frag) (neg : Bool) : R2 := fun x y H Q => ∃ p xs, y = .ref p ∧ (SqL K H p xs ∨ SqT K H p xs) ∧ flatV x = true ∧ xs.all flatV = true ∧ Q (.bl (if neg then !inV x xs else inV x xs)) H
theorem op_notIn_seq : OpR X (compareOp .NotIn) (rIn X.K true) := by
  intro pins s σ H x y v u Q I rx ry h
  obtain ⟨p, xs, rfl, hq, fx, fs, q⟩ := h
  cases ry
  rcases hq with hq | hq
  · obtain ⟨its, r, pl, hz⟩ := I.list hq
    refine SeqAt.notIn_listAt (eqU x) pl.isList (fun w hw => mem_eqAt rx fx r fs w (by simpa using hw)) ⟨.bl _, H, I, rfl, ?_⟩
    rw [show its.toArray.any (eqU x) = its.any (eqU x) by simp, any_eqU r fs]
    exact q
  · obtain ⟨its, r, pl, hz⟩ := I.tuple hq
    refine SeqAt.notIn_tupleAt (eqU x) pl (fun w hw => mem_eqAt rx fx r fs w (by simpa using hw)) ⟨.bl _, H, I, rfl, ?_⟩
    rw [show its.toArray.any (eqU x) = its.any (eqU x) by simp, any_eqU r fs]
    exact q
theorem call_len_seq : CallR X (.builtin "len") (fun xs H Q => ∃ p ys, xs = [.ref p] ∧ (SqL X.K H p ys ∨ SqT X.K H p ys) ∧ Q (.int ys.length) H) := by
  intro pins s σ H xs us Q I r h
  obtain ⟨p, ys, rfl, hq, q⟩ := h
  obtain ⟨u, rfl, rx⟩ := vals1 r
  cases rx
  have hn := line63
  rcases hq with hq | hq
  · obtain ⟨its, r', pl, hz⟩ := I.list hq
    have hlen := r'.length
    exact Calls.call_len_list pl.isList (by simp only [List.size_toArray] <;> omega) ⟨.int ys.length, H, I.tok _, ⟨s.toks + 1, by rw [List.size_toArray, hlen]⟩, q⟩
  · obtain ⟨its, r', pl, hz⟩ := I.tuple hq
    have hlen := r'.length
    exact len_tuple pl (by simp only [List.size_toArray] <;> omega) ⟨.int ys.length, H, I.tok _, ⟨s.toks + 1, by rw [List.size_toArray, hlen]⟩, q⟩
theorem call_list_of : CallR X (.type "list") (fun xs H Q => ∃ p ys, xs = [.ref p] ∧ (SqL X.K H p ys ∨ SqT X.K H p ys) ∧ ∀ l, H l = none → Q (.ref l) (upd H l (.lst ys))) := by
  intro pins s σ H xs us Q I r h
  obtain ⟨p, ys, rfl, hq, q⟩ := h
  obtain ⟨u, rfl, rx⟩ := vals1 r
  cases rx
  have fin : ∀ (its : List Value), Vals ys its → ys.length ≤ sizeLine → ∀ (h' : Heap) (c' : Nat), (∀ b o', s.heap.get? b = some o' → h'.get? b = some o') →
      h'.get? s.heap.objs.size = some { cls := .type "list", dict := none, data := .seq its.toArray c', slots := #[] } → EP X pins σ Q (.ref s.heap.objs.size) { s with heap := h' } := fun its r' hz h' c' kp e =>
    ⟨.ref s.heap.objs.size, _, I.laid (t' := s.toks) kp (Nat.le_refl _) (show ObjOk X.prog X.w _ h' _ (.lst ys) from ⟨hz, its, c', r', e⟩), rfl, q _ (I.hok.fresh (Nat.le_refl _))⟩
  rcases hq with hq | hq
  · obtain ⟨its, r', pl, hz⟩ := I.list hq
    have hlen := r'.length
    obtain ⟨o, ho, hc, n, hd⟩ := pl.isList
    exact call_list_seq p (.inl rfl) ho hc hd (fun h' c' kp e => fin its r' hz h' c' kp e) (by simp only [List.size_toArray] <;> omega)
  · obtain ⟨its, r', pl, hz⟩ := I.tuple hq
    have hlen := r'.length
    obtain ⟨o, ho, hc, n, hd⟩ := pl
    exact call_list_seq p (.inr rfl) ho hc hd (fun h' c' kp e => fin its r' hz h' c' kp e) (by simp only [List.size_toArray] <;> omega)
def tyV (K : PySem.W.Frag) (T : String) (x : V) (H : Hp) : Prop := match x with
  | .str _ => T = "str"
  | .int _ => T = "int"
  | .ref p => (T = "list" ∧ ∃ xs, SqL K H p xs) ∨ (T = "tuple" ∧ ∃ o, K.lookup p = some o ∧ o.cls = .type "tuple" ∧ o.dict = none) ∨
      (T = "dict" ∧ ((∃ kvs, H p = some (.dK kvs)) ∨ ∃ kvs, H p = some (.dT kvs))) ∨ (T = "set" ∧ ∃ S n, H p = some (.set S n))
  | _ => False
theorem tyV_is {pins : List (Addr × Obj)} {σ : St} {H : Hp} {s : Shared} {T : String} {x : V} {v : Value} (I : Inv X pins σ H s) (r : RelV x v) (ty : tyV X.K T x H) :
    s.TypeIs v T ∧ ∀ a, v = .ref a → ∃ ob, s.heap.get? a = some ob ∧ ob.dict = none := by
  cases x with
  | str z =>
    obtain ⟨t, rfl⟩ := r
    cases (show T = "str" from ty)
    exact ⟨typeIs_str s z t, fun _ e => nomatch e⟩
  | int i =>
    obtain ⟨t, rfl⟩ := r
    cases (show T = "int" from ty)
    exact ⟨typeIs_int s i t, fun _ e => nomatch e⟩
  | ref p =>
    cases r
    rcases ty with ⟨rfl, xs, hq⟩ | ⟨rfl, o, hk, hc, hd⟩ | ⟨rfl, hk⟩ | ⟨rfl, S, n, hk⟩
    · obtain ⟨its, _, pl, _⟩ := I.list hq
      refine ⟨pl.isList.typeIs, fun a e => ?_⟩
      cases e
      obtain ⟨o, n, e, c, hd, _⟩ := pl
      exact ⟨o, e, hd⟩
    · refine ⟨⟨o, I.kIn p o hk, hc⟩, fun a e => ?_⟩
      cases e
      exact ⟨o, I.kIn _ o hk, hd⟩
    · have z : ∃ o, s.heap.get? p = some o ∧ o.ExactDict := by
        rcases hk with ⟨kvs, hk⟩ | ⟨kvs, hk⟩
        · obtain ⟨_, _, _, _, o, _, _, e, ex, _⟩ := I.hok p _ hk
          exact ⟨o, e, ex⟩
        · obtain ⟨_, _, _, _, o, _, _, e, ex, _⟩ := I.hok p _ hk
          exact ⟨o, e, ex⟩
      obtain ⟨o, e, ex⟩ := z
      refine ⟨⟨o, e, ex.1⟩, fun a e2 => ?_⟩
      cases e2
      exact ⟨o, e, ex.2.1⟩
    · obtain ⟨o, _, _, _, e, ex, _⟩ := I.hok p _ hk
      refine ⟨⟨o, e, ex.1⟩, fun a e2 => ?_⟩
      cases e2
      exact ⟨o, e, ex.2.1⟩
  | _ => exact False.elim ty
def tBM (K : PySem.W.Frag) (T : String) (r : V → List V → Hp → VK → Prop) (to : TE) (t : TA) : TE := fun σ H Q => to σ H fun x H1 => tyV K T x H1 ∧ t σ H1 fun xs H2 => r x xs H2 Q
variable {o e : Expr} {es : List Expr} {to : TE} {t : TA} {name : Str} {apos cpos : Pos} {T id : String} {r : V → List V → Hp → VK → Prop}
theorem pe_bm (pa : PlainAttrs T) (slot : Slot T name id) (hty : typeOf (.builtin id) = pure (.type "method_descriptor")) (hm : MtR X id r) (ho : PE X o to) (ha : PA X (e :: es) t)
    (hbase : attributeBase o name X.env (eval o X.env) = eval o X.env := by rfl)
    (hfew : ((backTo cpos (starEach (e :: es) X.env)).all (fun x => !x.1) && (backToKw cpos (keywordEach [] X.env)).all (fun x => x.1.isSome)
      && decide ((e :: es).length + ([] : List Keyword).length + (if ([] : List Keyword).isEmpty then 0 else 1) < 30)) = true := by rfl)
    (hline : (apos.endLine == cpos.line) = true := by rfl) (hs : starEach (e :: es) X.env = (false, eval e X.env) :: starEach es X.env := by rfl) (hplain : (backTo cpos (starEach es X.env)).any (·.1) = false := by rfl) :
    PE X (.Call (.Attribute o name apos) (e :: es) [] cpos) (tBM X.K T r to t) := by
  intro pins s σ H Q I h
  refine wpAny_Call_method_late hbase hfew hline rfl (thn (ho pins s σ H _ I h) fun v s1 ⟨x, H1, I1, r1, ty, q1⟩ => ?_)
  obtain ⟨h1, h2⟩ := tyV_is I1 r1 ty
  refine ⟨T, id, pa, slot, hty, h1, h2, ?_⟩
  have hA := ha cpos pins s1 σ H1 _ I1 q1
  rw [hs] at hA ⊢
  refine Calls.callWith_builtin (by show (false || (backTo cpos (starEach es X.env)).any (·.1)) = false; rw [hplain] <;> rfl) (Calls.evalArgs_plain ?_)
  exact thn hA fun us s2 ⟨vs, H2, I2, r2, q2⟩ => hm pins s2 σ H2 x vs v us Q I2 r1 r2 q2
/- xs.append(e), list.index on a module's tuple .. are MtR facts of 06m -/
end
end L2
namespace L2
open PySem PySem.Spec PyProof.Rows
def MtM (X : Cx) (id : String) (r : V → List V → Hp → VK → Prop) : Prop :=
  ∀ (pins : List (Addr × Obj)) (s : Shared) (σ : St) (H : Hp) (x : V) (xs : List V) (v : Value) (us : List Value) (Q : VK), Inv X pins σ H s → RelV x v → Vals xs us → r x xs H Q →
    wpAny (model X.prog X.w) X.A (call (.builtin id) (v :: us)) (EP X pins σ Q) X.xe s
theorem Vals.one : ∀ {x : V} {us : List Value}, Vals [x] us → ∃ u, us = [u] ∧ RelV x u
  | _, _, .cons r .nil => ⟨_, rfl, r⟩
theorem Vals.two : ∀ {x y : V} {us : List Value}, Vals [x, y] us → ∃ u v, us = [u, v] ∧ RelV x u ∧ RelV y v
  | _, _, _, .cons r (.cons q .nil) => ⟨_, _, rfl, r, q⟩
theorem Vals.zero : ∀ {us : List Value}, Vals [] us → us = []
  | _, .nil => rfl
theorem Vals.eraseIdx : ∀ {xs : List V} {us : List Value} (i : Nat), Vals xs us → Vals (xs.eraseIdx i) (us.eraseIdx i)
  | _, _, _, .nil => .nil
  | _, _, 0, .cons _ t => t
  | _, _, i + 1, .cons r t => .cons r (Vals.eraseIdx i t)
theorem len_erase {α : Type} : ∀ (l : List α) (i : Nat), (l.eraseIdx i).length ≤ l.length
  | [], _ => Nat.le_refl _
  | _ :: _, 0 => Nat.le_succ _
  | _ :: r, i + 1 => Nat.succ_le_succ (len_erase r i)
section
variable {X : Cx} {pins : List (Addr × Obj)} {σ : St} {H : Hp} {s : Shared} {l b : Addr} {xs ys zs : List V}
theorem Inv.lset {its its' : List Value} {n : Nat} {f : Array Value → Array Value} {t' : Nat} (I : Inv X pins σ H s) (hH : H l = some (.lst xs))
    (e : s.heap.get? l = some { cls := .type "list", data := .seq its.toArray n }) (hf : f its.toArray = its'.toArray) (hv : Vals ys its') (hz : ys.length ≤ sizeLine) :
    Inv X pins σ (upd H l (.lst ys)) { s with heap := s.heap.update l (Obj.mapSeq f), toks := t' } := by
  have q := PySem.IsL.update e f
  rw [hf] at q
  refine I.write (x := l) (e := l) (by rw [hH]; exact trivial) (.inl rfl) (fun b' u hb hu => (Heap.get?_update_other s.heap (Obj.mapSeq f) (Ne.symm hb)).trans hu) ⟨_, q⟩ ?_
  exact ⟨hz, its', _, hv, q⟩
theorem Inv.lnew {its : List Value} {t' : Nat} (I : Inv X pins σ H s) (hv : Vals ys its) (hz : ys.length ≤ sizeLine) :
    Inv X pins σ (upd H s.heap.objs.size (.lst ys)) { s with heap := s.heap.push { cls := .type "list", data := .seq its.toArray }, toks := t' } :=
  I.laid (fun _ _ q => Heap.get?_push_of_some _ q) (Nat.le_refl _) ⟨hz, its, 0, hv, Heap.get?_push_size _ rfl⟩
theorem Inv.fresh (I : Inv X pins σ H s) : H s.heap.objs.size = none := I.hok.fresh (Nat.le_refl _)
theorem Inv.lstM (I : Inv X pins σ H s) (hH : H l = some (.lst xs)) : xs.length ≤ sizeLine ∧ ∃ (its : List Value) (n : Nat), Vals xs its ∧ xs.length = its.length ∧ s.heap.get? l = some { cls := .type "list", data := .seq its.toArray n } := by
  obtain ⟨z, its, n, r, e⟩ := I.hok l _ hH
  exact ⟨z, its, n, r, r.length, e⟩
theorem notLongL {n : Nat} (h : n ≤ sizeLine) : Builtin.List.listTooLong n = false := by
  unfold Builtin.List.listTooLong
  exact decide_eq_false (by omega)
end
section
variable {X : Cx}
def rAppend : V → List V → Hp → VK → Prop := fun x vs H Q => ∃ l xs y, x = .ref l ∧ vs = [y] ∧ H l = some (.lst xs) ∧ xs.length < sizeLine ∧ Q .non (upd H l (.lst (xs ++ [y])))
theorem mt_append : MtM X "list.append" rAppend := by
  intro pins s σ H x vs v us Q I rx rv h
  obtain ⟨l, xs, y, rfl, rfl, hH, hz, q⟩ := h
  cases rx
  obtain ⟨u, rfl, ru⟩ := rv.one
  obtain ⟨z, its, n, r, hl, e⟩ := I.lstM hH
  refine call_meets F.slot_list_append ⟨_, e, rfl⟩ F.entry_list_append (F.args_list_append_2 _ _) (PySem.list_append l its.toArray n u (by rw [List.size_toArray]; omega)) ⟨e, ?_⟩
  refine ⟨.non, _, I.lset (its' := its ++ [u]) hH e (by simp) (r.append (.cons ru .nil)) ?_, rfl, q⟩
  rw [List.length_append, List.length_singleton]
  omega
def rExtend : V → List V → Hp → VK → Prop := fun x vs H Q => ∃ l b xs zs, x = .ref l ∧ vs = [.ref b] ∧ H l = some (.lst xs) ∧ H b = some (.lst zs) ∧ xs.length + zs.length ≤ sizeLine ∧ Q .non (upd H l (.lst (xs ++ zs)))
theorem mt_extend : MtM X "list.extend" rExtend := by
  intro pins s σ H x vs v us Q I rx rv h
  obtain ⟨l, b, xs, zs, rfl, rfl, hH, hB, hz, q⟩ := h
  cases rx
  obtain ⟨u, rfl, ru⟩ := rv.one
  cases ru
  obtain ⟨z, its, n, r, hl, e⟩ := I.lstM hH
  obtain ⟨z2, its2, n2, r2, hl2, e2⟩ := I.lstM hB
  have hsz : its.toArray.size + its2.toArray.size ≤ sizeLine := by rw [List.size_toArray, List.size_toArray]; omega
  have hlong : ¬ (!its.toArray.isEmpty && Builtin.List.listTooLong (its.toArray.size + its2.toArray.size)) = true := by
    rw [notLongL hsz, Bool.and_false]
    exact Bool.false_ne_true
  refine call_meets F.slot_list_extend ⟨_, e, rfl⟩ F.entry_list_extend (F.args_list_extend_2 _ _)
    (AutoSeq1.list_extend_list_list_0 l its.toArray n b its2.toArray n2 hlong (by rw [List.size_toArray]; omega) (by omega)) ⟨e, e2, ?_⟩
  refine ⟨.non, _, I.lset (its' := its ++ its2) hH e (by simp) (r.append r2) ?_, rfl, q⟩
  rw [List.length_append]
  omega
def rCat : R2 := fun x y H Q => ∃ l b xs zs, x = .ref l ∧ y = .ref b ∧ H l = some (.lst xs) ∧ H b = some (.lst zs) ∧ xs.length + zs.length ≤ sizeLine ∧ ∀ p, H p = none → Q (.ref p) (upd H p (.lst (xs ++ zs)))
theorem op_cat : OpR X (binaryOp .Add) rCat := by
  intro pins s σ H x y v u Q I rx ry h
  obtain ⟨l, b, xs, zs, rfl, rfl, hH, hB, hz, q⟩ := h
  cases rx
  cases ry
  obtain ⟨z, its, n, r, hl, e⟩ := I.lstM hH
  obtain ⟨z2, its2, n2, r2, hl2, e2⟩ := I.lstM hB
  refine PySem.P.add_list e e2 ?_ (by rw [List.size_toArray, List.size_toArray]; omega)
  have ea : its.toArray ++ its2.toArray = (its ++ its2).toArray := by simp
  rw [ea]
  exact ⟨.ref _, _, I.lnew (t' := s.toks) (r.append r2) (by rw [List.length_append]; omega), rfl, q _ I.fresh⟩
end
section
variable {prog : Program} {w : World} {A : Around} {E : Value → Shared → Prop} {s : Shared}
set_option maxRecDepth 100000 in
end
section
variable {X : Cx}
end
end L2
namespace L2
open PySem PySem.Spec PyProof.Rows
theorem Vals.ints : ∀ {ns : List Int} {us : List Value}, Vals (ns.map V.int) us → IntsAre us ns
  | [], us, h => by
    rw [List.map_nil] at h
    cases h
    exact IntsAre.nil
  | n :: ns, us, h => by
    rw [List.map_cons] at h
    cases h with
    | cons r t =>
      obtain ⟨k, rfl⟩ := r
      exact IntsAre.cons n k (Vals.ints t)
theorem vals_of_ints : ∀ {us : List Value} {ns : List Int}, IntsAre us ns → Vals (ns.map V.int) us
  | _, _, .nil => by rw [List.map_nil]; exact Paired.nil
  | _, _, .cons n t h => by rw [List.map_cons]; exact Paired.cons (show RelV (V.int n) (Value.int n t) from ⟨t, rfl⟩) (vals_of_ints h)
theorem Vals.ref1 {a : Addr} {us : List Value} (r : Vals [V.ref a] us) : us = [Value.ref a] := by
  cases r with
  | cons r t =>
    cases t
    cases r
    rfl
section
variable {prog : Program} {w : World} {A : Around} {E : Value → Shared → Prop} {s : Shared} {l : Addr} {its : List Value} {ns : List Int} {Q : Value → Shared → Prop}
theorem sum_raw (hh : A.handled = none) (hl : s.heap.IsList l its.toArray) (hi : IntsAre its ns)
    (h : ∀ h' tk t', (∀ b o, s.heap.get? b = some o → h'.get? b = some o) → Q (.int ns.sum t') { s with heap := h', toks := tk }) : wpAny (model prog w) A (call (.builtin "sum") [.ref l]) Q E s := by
  obtain ⟨xs, e⟩ := hi.allInts.items
  have hn : numsOf (intItems xs).toList = ns := by rw [← e]; exact hi.numsOf
  rw [nums_intItems] at hn
  rw [e] at hl
  refine PySem.sum_intListG hh hl fun h' tk t' hk => ?_
  have := h h' tk t' hk
  rw [preSum_eq, List.take_of_length_le (by simp), hn]; exact this
theorem max_raw (hh : A.handled = none) (hl : s.heap.IsList l its.toArray) (hi : IntsAre its ns) (hne : 0 < ns.length)
    (h : ∀ h' tk M t', (∀ b o, s.heap.get? b = some o → h'.get? b = some o) → M ∈ ns → (∀ a, a ∈ ns → a ≤ M) → Q (.int M t') { s with heap := h', toks := tk }) : wpAny (model prog w) A (call (.builtin "max") [.ref l]) Q E s := by
  obtain ⟨xs, e⟩ := hi.allInts.items
  have hn : numsOf (intItems xs).toList = ns := by rw [← e]; exact hi.numsOf
  rw [nums_intItems] at hn
  subst hn
  rw [e] at hl
  have hsz : 0 < xs.size := by simpa using hne
  refine PySem.max_intList hh hl hsz fun v h' tk hv hk => ?_
  obtain ⟨t, rfl⟩ := intItems_at hv
  obtain ⟨h1, h2⟩ := argBest_gt (numAt xs) (xs.size - 1)
  refine h h' tk _ t hk ?_ fun a ha => ?_
  · rw [numAt_eq]; exact PySem.getD_mem (by rw [List.length_map, Array.length_toList]; omega)
  · obtain ⟨j, hj, rfl⟩ := mem_getD ha
    rw [List.length_map, Array.length_toList] at hj
    rw [← numAt_eq]; exact h2 j (by omega)
end
section
variable {X : Cx}
def rSum (K : PySem.W.Frag) : List V → Hp → VK → Prop := fun vs H Q => ∃ (a : Addr) (ns : List Int), vs = [V.ref a] ∧ SqL K H a (ns.map V.int) ∧ Q (.int ns.sum) H
def rMax (K : PySem.W.Frag) : List V → Hp → VK → Prop := fun vs H Q => ∃ (a : Addr) (ns : List Int), vs = [V.ref a] ∧ SqL K H a (ns.map V.int) ∧ 0 < ns.length ∧ ∀ m, m ∈ ns → (∀ y, y ∈ ns → y ≤ m) → Q (.int m) H
theorem cr_sum (hc : X.calm = true) : CallR X (.builtin "sum") (rSum X.K) := by
  intro pins s σ H vs us Q I r h
  obtain ⟨a, ns, rfl, hs, q⟩ := h
  obtain ⟨its, rv, hl, _⟩ := I.list hs
  rw [Vals.ref1 r]
  exact sum_raw (I.ok.hd hc) hl.isList rv.ints fun h' tk t' hk => ⟨.int _, H, I.kept hk, ⟨_, rfl⟩, q⟩
theorem cr_max (hc : X.calm = true) : CallR X (.builtin "max") (rMax X.K) := by
  intro pins s σ H vs us Q I r h
  obtain ⟨a, ns, rfl, hs, hne, q⟩ := h
  obtain ⟨its, rv, hl, _⟩ := I.list hs
  rw [Vals.ref1 r]
  exact max_raw (I.ok.hd hc) hl.isList rv.ints hne fun h' tk m t' hk h1 h2 => ⟨.int _, H, I.kept hk, ⟨_, rfl⟩, q m h1 h2⟩
end
section
variable {X : Cx}
end
section
variable {X : Cx}
end
section
variable {X : Cx}
end
mutual
inductive Dp (K : PySem.W.Frag) (H : Hp) : V → PyData → Prop
  | non : Dp K H .non .none
  | bl (b : Bool) : Dp K H (.bl b) (.bool b)
  | int (i : Int) : Dp K H (.int i) (.int i)
  | str (x : Str) : Dp K H (.str x) (.str x)
  | lst {a : Addr} {xs : List V} {ds : List PyData} : SqL K H a xs → DpAll K H xs ds → Dp K H (.ref a) (.list ds)
  | tup {a : Addr} {xs : List V} {ds : List PyData} : SqT K H a xs → DpAll K H xs ds → Dp K H (.ref a) (.tuple ds)
inductive DpAll (K : PySem.W.Frag) (H : Hp) : List V → List PyData → Prop
  | nil : DpAll K H [] []
  | cons {v : V} {vs : List V} {d : PyData} {ds : List PyData} : Dp K H v d → DpAll K H vs ds → DpAll K H (v :: vs) (d :: ds)
end
section
variable {X : Cx} {pins : List (Addr × Obj)} {σ : St} {H : Hp} {s : Shared}
mutual
theorem Dp.reads (I : Inv X pins σ H s) : ∀ (d : PyData) (v : V) (u : Value), Dp X.K H v d → RelV v u → ∃ as, Reads s.heap u d as
  | .none, _, _, h, r => by
    cases h
    cases r
    exact ⟨_, Reads.none⟩
  | .bool b, _, _, h, r => by
    cases h
    cases r
    exact ⟨_, Reads.bool b⟩
  | .int i, _, _, h, r => by
    cases h
    obtain ⟨t, rfl⟩ := r
    exact ⟨_, Reads.int i t⟩
  | .str x, _, _, h, r => by
    cases h
    obtain ⟨t, rfl⟩ := r
    exact ⟨_, Reads.str x t⟩
  | .list ds, _, _, h, r => by
    cases h with
    | lst hs ha =>
      cases r
      obtain ⟨its, rv, ⟨o, n, ho, hc, _, hd⟩, _⟩ := I.list hs
      obtain ⟨as, hr⟩ := Dp.readsAll I ds _ its ha rv
      exact ⟨_, Reads.list ho hc hd hr⟩
  | .tuple ds, _, _, h, r => by
    cases h with
    | tup hs ha =>
      cases r
      obtain ⟨its, rv, ⟨o, ho, hc, n, hd⟩, _⟩ := I.tuple hs
      obtain ⟨as, hr⟩ := Dp.readsAll I ds _ its ha rv
      exact ⟨_, Reads.tuple ho hc hd hr⟩
  | .dict _, _, _, h, _ => by cases h
theorem Dp.readsAll (I : Inv X pins σ H s) : ∀ (ds : List PyData) (vs : List V) (us : List Value), DpAll X.K H vs ds → Vals vs us → ∃ as, ReadsAll s.heap us ds as
  | [], _, _, h, r => by
    cases h
    cases r
    exact ⟨_, ReadsAll.nil⟩
  | d :: ds, _, _, h, r => by
    cases h with
    | cons h1 h2 =>
      cases r with
      | cons r1 r2 =>
        obtain ⟨as, q1⟩ := Dp.reads I d _ _ h1 r1
        obtain ⟨bs, q2⟩ := Dp.readsAll I ds _ _ h2 r2
        exact ⟨_, ReadsAll.cons q1 q2⟩
end
end
section
variable {X : Cx}
def rNeD (K : PySem.W.Frag) : R2 := fun x y H Q => ∃ d e, Dp K H x d ∧ Dp K H y e ∧ SeqAt.shaped d = true ∧ SeqAt.shaped e = true ∧ Q (.bl (!PyData.eqv d e)) H
theorem op_neD (hu : X.A.units + 64 < cLine) : OpR X (compareOp .NotEq) (rNeD X.K) := by
  intro pins s σ H x y v u Q I rx ry h
  obtain ⟨d, e, hd, he, sd, se, q⟩ := h
  obtain ⟨as, r1⟩ := Dp.reads I d x v hd rx
  obtain ⟨bs, r2⟩ := Dp.reads I e y u he ry
  exact SeqAt.compareNe_shaped r1 r2 sd se hu ⟨.bl _, H, I, rfl, q⟩
end
end L2
namespace L2
open PySem PySem.Spec PyProof.Rows
abbrev CellAt (h : Heap) (c : Addr) (v : Option Value) : Prop := h.IsCell c v
def relS (scope sc : Scope) : Scope :=
  { scope with names := scope.names.map fun (n, k) => if (k == .free && sc.kind == .function && sc.names.lookup n == some .cell) then (n, .cell) else (n, k) }
def cloFrom (cells : List (Str × Addr)) : List (Str × NameKind) → List (Str × Addr) → List (Str × Addr)
  | [], acc => acc
  | (n, k) :: r, acc => if k == .free then cloFrom cells r ((n, (cells.lookup n).getD 0) :: acc) else cloFrom cells r acc
theorem closure_loop (env : Env) (f : Str × NameKind → List (Str × Addr) → Sem (ForInStep (List (Str × Addr))))
    (hf : ∀ n k c, f (n, k) c = if k == .free then (do let a ← cellOf env n; pure (.yield ((n, a) :: c))) else pure (.yield c)) :
    ∀ (names : List (Str × NameKind)) (acc : List (Str × Addr)), (∀ y ∈ names, y.2 = .free → ∃ c, env.cells.lookup y.1 = some c) → forIn names acc f = pure (cloFrom env.cells names acc)
  | [], acc, _ => by rw [List.forIn_nil]; rfl
  | (n, k) :: r, acc, h => by
    rw [List.forIn_cons, hf]
    have ih := fun acc => closure_loop env f hf r acc fun y hy => h y (List.mem_cons_of_mem _ hy)
    unfold cloFrom
    by_cases hk : (k == NameKind.free) = true
    · rw [if_pos hk, if_pos hk]
      obtain ⟨c, hc⟩ := h (n, k) List.mem_cons_self (by simpa using hk)
      have e : cellOf env n = pure c := by unfold cellOf; rw [hc]
      rw [e]
      have e2 : (env.cells.lookup n).getD 0 = c := by rw [hc]; rfl
      rw [e2]
      exact ih _
    · rw [if_neg hk, if_neg hk]
      exact ih _
theorem closure_ok {scope : Scope} {env : Env} (h : ∀ y ∈ scope.names, y.2 = .free → ∃ c, env.cells.lookup y.1 = some c) : closureFor scope env = pure (cloFrom env.cells scope.names []) := by
  simp only [closureFor]
  rw [closure_loop env _ (fun n k c => rfl) scope.names [] h]
  rfl
theorem mem_lookup {α : Type} : ∀ {l : List (Str × α)} {n : Str} {c : α}, (n, c) ∈ l → ∃ c', l.lookup n = some c'
  | (k, v) :: r, n, c, h => by
    rw [List.lookup_cons]
    cases hb : n == k with
    | true => exact ⟨_, rfl⟩
    | false =>
      rcases List.mem_cons.mp h with e | h
      · cases e; simp at hb
      · exact mem_lookup h
theorem cloFrom_mem {cells : List (Str × Addr)} : ∀ {names : List (Str × NameKind)} {acc : List (Str × Addr)} {n : Str} {c : Addr}, (n, c) ∈ cloFrom cells names acc → (n, c) ∈ acc ∨ ((n, .free) ∈ names ∧ c = (cells.lookup n).getD 0)
  | [], _, _, _, h => .inl h
  | (m, k) :: r, acc, n, c, h => by
    unfold cloFrom at h
    split at h
    · rename_i hk
      have hk : k = .free := by simpa using hk
      rcases cloFrom_mem h with h | ⟨h1, h2⟩
      · rcases List.mem_cons.mp h with e | h
        · cases e; exact .inr ⟨hk ▸ List.mem_cons_self, rfl⟩
        · exact .inl h
      · exact .inr ⟨List.mem_cons_of_mem _ h1, h2⟩
    · rcases cloFrom_mem h with h | ⟨h1, h2⟩
      · exact .inl h
      · exact .inr ⟨List.mem_cons_of_mem _ h1, h2⟩
theorem cloFrom_acc {cells : List (Str × Addr)} : ∀ {names : List (Str × NameKind)} {acc : List (Str × Addr)} {p : Str × Addr}, p ∈ acc → p ∈ cloFrom cells names acc
  | [], _, _, h => h
  | (m, k) :: r, acc, p, h => by
    unfold cloFrom
    split
    · exact cloFrom_acc (List.mem_cons_of_mem _ h)
    · exact cloFrom_acc h
theorem cloFrom_has {cells : List (Str × Addr)} : ∀ {names : List (Str × NameKind)} {acc : List (Str × Addr)} {n : Str}, (n, .free) ∈ names → (n, (cells.lookup n).getD 0) ∈ cloFrom cells names acc
  | (m, k) :: r, acc, n, h => by
    unfold cloFrom
    rcases List.mem_cons.mp h with e | h
    · cases e
      exact cloFrom_acc List.mem_cons_self
    · split
      · exact cloFrom_has h
      · exact cloFrom_has h
theorem cells_mem : ∀ {names : List (Str × NameKind)} {h : Heap} {acc : List (Str × Addr)} {x : Str} {c : Addr}, (x, c) ∈ cellsFrom h.objs.size names acc →
    (x, c) ∈ acc ∨ ((x, .cell) ∈ names ∧ h.objs.size ≤ c ∧ CellAt (pushCells h names) c none)
  | [], _, _, _, _, h => .inl h
  | (n, k) :: r, h, acc, x, c, hm => by
    unfold cellsFrom at hm
    unfold pushCells
    split at hm
    · rename_i hk
      rw [if_pos hk]
      have hk : k = .cell := by simpa using hk
      rw [← Heap.size_push h { cls := .type "cell", data := .cell none }] at hm
      rcases cells_mem hm with hm | ⟨h1, h2, h3⟩
      · rcases List.mem_cons.mp hm with e | hm
        · cases e
          exact .inr ⟨hk ▸ List.mem_cons_self, Nat.le_refl _, _, pushCells_keeps r _ _ _ (Heap.get?_push_size _ rfl), rfl⟩
        · exact .inl hm
      · rw [Heap.size_push] at h2
        exact .inr ⟨List.mem_cons_of_mem _ h1, Nat.le_of_succ_le h2, h3⟩
    · rename_i hk
      rw [if_neg hk]
      rcases cells_mem hm with hm | ⟨h1, h2, h3⟩
      · exact .inl hm
      · exact .inr ⟨List.mem_cons_of_mem _ h1, h2, h3⟩
theorem cells_acc : ∀ {names : List (Str × NameKind)} {n : Nat} {acc : List (Str × Addr)} {p : Str × Addr}, p ∈ acc → p ∈ cellsFrom n names acc
  | [], _, _, _, h => h
  | (m, k) :: r, n, acc, p, h => by
    unfold cellsFrom
    split
    · exact cells_acc (List.mem_cons_of_mem _ h)
    · exact cells_acc h
theorem cells_has : ∀ {names : List (Str × NameKind)} {n : Nat} {acc : List (Str × Addr)} {x : Str}, (x, .cell) ∈ names → ∃ c, (x, c) ∈ cellsFrom n names acc
  | (m, k) :: r, n, acc, x, h => by
    unfold cellsFrom
    rcases List.mem_cons.mp h with e | h
    · cases e
      exact ⟨n, cells_acc List.mem_cons_self⟩
    · split
      · exact cells_has h
      · exact cells_has h
theorem cells_inj : ∀ {names : List (Str × NameKind)} {h : Heap} {acc : List (Str × Addr)} {x y : Str} {c : Addr}, (∀ p ∈ acc, p.2 < h.objs.size) → (∀ x y c, (x, c) ∈ acc → (y, c) ∈ acc → x = y) →
    (x, c) ∈ cellsFrom h.objs.size names acc → (y, c) ∈ cellsFrom h.objs.size names acc → x = y
  | [], _, _, _, _, _, _, hi, h1, h2 => hi _ _ _ h1 h2
  | (n, k) :: r, h, acc, x, y, c, hl, hi, h1, h2 => by
    unfold cellsFrom at h1 h2
    split at h1
    · rename_i hk
      rw [if_pos hk] at h2
      rw [← Heap.size_push h { cls := .type "cell", data := .cell none }] at h1 h2
      refine cells_inj (h := h.push _) (fun p hp => ?_) (fun x y c a b => ?_) h1 h2
      · rw [Heap.size_push]
        rcases List.mem_cons.mp hp with rfl | hp
        · exact Nat.lt_succ_self _
        · exact Nat.lt_succ_of_lt (hl p hp)
      · rcases List.mem_cons.mp a with e | a <;> rcases List.mem_cons.mp b with e' | b
        · cases e; cases e'; rfl
        · cases e; exact absurd (hl _ b) (Nat.lt_irrefl _)
        · cases e'; exact absurd (hl _ a) (Nat.lt_irrefl _)
        · exact hi _ _ _ a b
    · rename_i hk
      rw [if_neg hk] at h2
      exact cells_inj hl hi h1 h2
theorem newEnv_comp {M : Model} {A : Around} {E : Value → Shared → Prop} {s : Shared} {scope : Scope} {globals : Addr} {closure : List (Str × Addr)} {qual : Str} {func : Option Addr} {code : Value} {around : Env} {builtins : Addr} {Q : Env → Shared → Prop}
    (h : Q (newEnv scope s.heap.objs.size globals (cellsFrom (s.heap.objs.size + 1) scope.names closure) qual func code (some around) builtins)
      { s with heap := pushCells (s.heap.push { cls := .type "dict", data := .dict #[] }) scope.names }) :
    wpAny M A (newFunctionEnv scope globals closure [] qual func code (some around) builtins) Q E s := by
  simp only [newFunctionEnv, Option.isSome_some, if_true]
  refine wpAny_bind (wpAny_alloc ?_)
  refine wpAny_bind (wpAny_layCells _ (fun n k c => rfl) scope.names closure _ _ ?_)
  rw [show ({ s with heap := s.heap.push { cls := .type "dict", data := .dict #[] } } : Shared).heap.objs.size = s.heap.objs.size + 1 from Heap.size_push ..]
  rw [List.forIn_nil]
  exact wpAny_bind (wpAny_pure (wpAny_pure h))
theorem lookup_relS {sc : Scope} : ∀ {names : List (Str × NameKind)} {x : Str} {k : NameKind},
    (names.map fun (n, k) => if (k == NameKind.free && sc.kind == .function && sc.names.lookup n == some .cell) then (n, NameKind.cell) else (n, k)).lookup x = some k →
    ∃ k', names.lookup x = some k' ∧ (k = k' ∨ (k' = .free ∧ k = .cell))
  | [], _, _, h => by simp at h
  | (n, k₀) :: r, x, k, h => by
    have ih := @lookup_relS sc r x k
    have h' : List.lookup x ((if (k₀ == NameKind.free && sc.kind == .function && sc.names.lookup n == some .cell) = true then (n, NameKind.cell) else (n, k₀)) :: (r.map _)) = some k := h
    cases hx : x == n with
    | true =>
      simp only [List.lookup_cons, hx]
      by_cases hc : (k₀ == NameKind.free && sc.kind == .function && sc.names.lookup n == some .cell) = true
      · rw [if_pos hc] at h'
        simp only [List.lookup_cons, hx] at h'
        cases h'
        simp only [Bool.and_eq_true, beq_iff_eq] at hc
        exact ⟨k₀, rfl, .inr ⟨hc.1.1, rfl⟩⟩
      · rw [if_neg hc] at h'
        simp only [List.lookup_cons, hx] at h'
        cases h'
        exact ⟨_, rfl, .inl rfl⟩
    | false =>
      simp only [List.lookup_cons, hx]
      by_cases hc : (k₀ == NameKind.free && sc.kind == .function && sc.names.lookup n == some .cell) = true
      · rw [if_pos hc] at h'
        simp only [List.lookup_cons, hx] at h'
        exact ih h'
      · rw [if_neg hc] at h'
        simp only [List.lookup_cons, hx] at h'
        exact ih h'
structure BlkOk (N : List Str) (sc scope : Scope) (own : List (Str × Nat)) : Prop where
  kind : scope.kind = .function
  uniq : ∀ y ∈ scope.names, scope.names.lookup y.1 = some y.2
  ix : ∀ p ∈ own, N[p.2]? = some p.1
  free : ∀ y ∈ scope.names, y.2 = .free → sc.names.lookup y.1 = some .cell ∨ sc.names.lookup y.1 = some .free
  own : ∀ y ∈ scope.names, y.2 = .local ∨ y.2 = .cell → y.1 ∈ own.map (·.1) ∨ y.1 ∉ N
def wipe (σ : St) : List Nat → St
  | [] => σ
  | v :: vs => (wipe σ vs).set v none
theorem wipe_length (σ : St) : ∀ vs : List Nat, (wipe σ vs).length = σ.length
  | [] => rfl
  | v :: vs => by unfold wipe; rw [List.length_set, wipe_length σ vs]
theorem wipe_some {σ : St} {i : Nat} {x : V} : ∀ {vs : List Nat}, (wipe σ vs)[i]? = some (some x) → σ[i]? = some (some x) ∧ i ∉ vs
  | [], h => ⟨h, by simp⟩
  | v :: vs, h => by
    unfold wipe at h
    by_cases hi : v = i
    · subst hi
      by_cases hv : v < (wipe σ vs).length
      · rw [List.getElem?_set_self hv] at h; cases h
      · rw [List.getElem?_eq_none (by simpa using hv)] at h; cases h
    · rw [List.getElem?_set_ne hi] at h
      obtain ⟨h1, h2⟩ := wipe_some h
      exact ⟨h1, by simp only [List.mem_cons, not_or]; exact ⟨fun e => hi e.symm, h2⟩⟩
abbrev Cx.blk (X : Cx) (s : Shared) (H : Hp) (scope : Scope) (cenv : Env) (fp : List Addr) : Cx := { X with s₀ := s, H₀ := H, env := cenv, outer := X.stack, ex := fp, fn := fun x => scope.names.lookup x == some .cell, pn := [], xe := fun _ _ => False }
section
variable {X : Cx} {pins : List (Addr × Obj)} {σ : St} {H : Hp} {s : Shared}
theorem block_start {scope : Scope} {own : List (Str × Nat)} {fp : List Addr} (I : Inv X pins σ H s) (ok : BlkOk X.N X.env.scope scope own) (hN : X.N.Nodup) (hfp : ∀ b ∈ fp, FpOk X pins H b ∧ b < s.heap.objs.size) :
    Inv (X.blk s H scope (compEnvC scope (cellsFrom (s.heap.objs.size + 1) scope.names (cloFrom X.env.cells scope.names [])) s.heap.objs.size X.env) fp) [] (wipe σ (own.map (·.2))) H { s with heap := pushCells (s.heap.push { cls := .type "dict", data := .dict #[] }) scope.names } := by
  have hfree : ∀ y ∈ scope.names, y.2 = .free → ∃ c, X.env.cells.lookup y.1 = some c := fun y hy e => by
    rcases ok.free y hy e with k | k
    · exact I.ok.has _ (.inl k)
    · exact I.ok.has _ (.inr k)
  generalize hcenv : compEnvC scope (cellsFrom (s.heap.objs.size + 1) scope.names (cloFrom X.env.cells scope.names [])) s.heap.objs.size X.env = cenv
  have kp : ∀ b o, s.heap.get? b = some o → (pushCells (s.heap.push { cls := .type "dict", data := .dict #[] }) scope.names).get? b = some o := fun b o e => pushCells_keeps _ _ _ _ (Heap.get?_push_of_some _ e)
  have hL : cenv.locals = s.heap.objs.size := by rw [← hcenv]; rfl
  have hcl : cenv.cells = cellsFrom (s.heap.objs.size + 1) scope.names (cloFrom X.env.cells scope.names []) := by rw [← hcenv]; rfl
  have hsc : cenv.scope = relS scope X.env.scope := by rw [← hcenv]; rfl
  rw [← Heap.size_push s.heap { cls := .type "dict", data := .dict #[] }] at hcl
  have cm : ∀ {y c}, (y, c) ∈ cloFrom X.env.cells scope.names [] → X.env.cells.lookup y = some c ∧ c < s.heap.objs.size := fun {y c} hm => by
    rcases cloFrom_mem hm with hm | ⟨h1, rfl⟩
    · cases hm
    · obtain ⟨c, hc⟩ := hfree _ h1 rfl
      rw [hc]
      obtain ⟨w, z⟩ := I.cell _ _ hc
      exact ⟨rfl, z.lt⟩
  have mem : ∀ {y c}, cenv.cells.lookup y = some c → (X.env.cells.lookup y = some c ∧ c < s.heap.objs.size) ∨ (s.heap.objs.size + 1 ≤ c ∧ CellAt (pushCells (s.heap.push { cls := .type "dict", data := .dict #[] }) scope.names) c none) := fun {y c} e => by
    rw [hcl] at e
    rcases cells_mem (PySem.mem_of_lookup e) with hm | ⟨_, h2, h3⟩
    · exact .inl (cm hm)
    · rw [Heap.size_push] at h2; exact .inr ⟨h2, h3⟩
  have look : ∀ {y}, scope.names.lookup y = some .free → ∃ c, cenv.cells.lookup y = some c ∧ X.env.cells.lookup y = some c := fun {y} hl => by
    have hy : (y, NameKind.free) ∈ scope.names := PySem.mem_of_lookup hl
    obtain ⟨c', e'⟩ := mem_lookup (cells_acc (names := scope.names) (n := (s.heap.push { cls := .type "dict", data := .dict #[] }).objs.size) (cloFrom_has (cells := X.env.cells) (acc := []) hy))
    rw [← hcl] at e'
    refine ⟨c', e', ?_⟩
    rw [hcl] at e'
    rcases cells_mem (PySem.mem_of_lookup e') with hm | ⟨h1, _, _⟩
    · exact (cm hm).1
    · have := ok.uniq _ h1
      rw [hl] at this; cases this
  have okB : (X.blk s H scope cenv fp).Ok := by
    refine ⟨I.ok.mod, by show cenv.scope.kind = _; rw [hsc]; exact ok.kind, by show cenv.globals = _; rw [← hcenv]; exact I.ok.glob, by show cenv.builtins = _; rw [← hcenv]; exact I.ok.blt, by show s.heap.objs.size ≤ cenv.locals; rw [hL]; exact Nat.le_refl _,
      fun y z c e1 e2 => ?_, fun y hy => ?_, fun y c z e => ?_, I.ok.hd, I.ok.frames, .inl rfl, fun b hb => ⟨?_, fun y c e z => ?_⟩, I.bs, Nat.le_trans I.ok.bsz I.sz, fun b o e hb => ?_, fun b hb z => ?_, I.stack, I.stkFree⟩
    · have e1 : cenv.cells.lookup y = some c := e1
      have e2 : cenv.cells.lookup z = some c := e2
      rw [hcl] at e1 e2
      refine cells_inj (fun p hp => ?_) (fun y z c a b => I.ok.inj y z c (cm a).1 (cm b).1) (PySem.mem_of_lookup e1) (PySem.mem_of_lookup e2)
      rw [Heap.size_push]
      exact Nat.lt_succ_of_lt (cm (y := p.1) (c := p.2) hp).2
    · show ∃ c, cenv.cells.lookup y = some c
      have key : ∀ k, cenv.kindOf y = some k → (k = .cell ∨ k = .free) → ∃ c, cenv.cells.lookup y = some c := fun k hk hk' => by
        unfold Env.kindOf at hk
        rw [hsc] at hk
        obtain ⟨k', e, r⟩ := lookup_relS hk
        have : k' = .cell ∨ k' = .free := by
          rcases r with rfl | ⟨rfl, _⟩
          · exact hk'
          · exact .inr rfl
        rcases this with rfl | rfl
        · obtain ⟨c, hm⟩ := cells_has (n := (s.heap.push { cls := .type "dict", data := .dict #[] }).objs.size) (acc := cloFrom X.env.cells scope.names []) (PySem.mem_of_lookup e)
          obtain ⟨c', e'⟩ := mem_lookup hm
          exact ⟨c', by rw [hcl]; exact e'⟩
        · obtain ⟨c, h1, _⟩ := look e
          exact ⟨c, h1⟩
      rcases hy with hy | hy
      · exact key _ hy (.inl rfl)
      · exact key _ hy (.inr rfl)
    · have z : (scope.names.lookup y == some NameKind.cell) = true := z
      have z : scope.names.lookup y = some .cell := by simpa using z
      have e : cenv.cells.lookup y = some c := e
      rw [hcl] at e
      rcases cells_mem (PySem.mem_of_lookup e) with hm | ⟨_, h2, _⟩
      · rcases cloFrom_mem hm with hm | ⟨h1, _⟩
        · cases hm
        · have q := ok.uniq _ h1
          rw [z] at q; cases q
      · rw [Heap.size_push] at h2
        exact Nat.le_of_succ_le h2
    · show b ≠ cenv.locals
      rw [hL]; exact Nat.ne_of_lt (hfp b hb).2
    · have e : cenv.cells.lookup y = some c := e
      rcases mem e with ⟨h1, _⟩ | ⟨h1, _⟩
      · exact (hfp b hb).1.2.2.2.2.1 y c h1 z
      · have h2 : s.heap.objs.size + 1 ≤ b := by rw [← z]; exact h1
        exact absurd (Nat.lt_of_lt_of_le (hfp b hb).2 (Nat.le_of_succ_le h2)) (Nat.lt_irrefl _)
    · rcases (hfp b hb).1.2.2.2.1 with z | z
      · exact I.ok.noex b o e z
      · exact absurd (Nat.lt_of_lt_of_le (Heap.lt_size e) (Nat.le_trans I.ok.bsz z)) (Nat.lt_irrefl _)
    · rcases List.mem_cons.mp (I.stkSub b z) with z | z
      · exact (hfp b hb).1.2.1 z
      · exact (hfp b hb).1.2.2.1 z
  refine ⟨okB, rfl, I.bare, Un.kept kp, ⟨fun _ => none, ?_, fun i y av e1 e2 e3 => ?_⟩, fun y c e => ?_, ?_, fun y c e => ?_, fun p hp => ?_, I.hok.kept kp, by rw [wipe_length]; exact I.len⟩
  · show Heap.Ns _ cenv.locals _
    rw [hL]
    exact Heap.Ns.keeps (Heap.Ns.new ..) fun b o e => pushCells_keeps _ _ _ _ e
  · obtain ⟨e2, hne⟩ := wipe_some e2
    have hfr : scope.names.lookup y = some .free ∧ (cenv.kindOf y = some .cell ∨ cenv.kindOf y = some .free) := by
      have key : ∀ k, cenv.scope.names.lookup y = some k → k = .local ∨ k = .cell ∨ k = .free → scope.names.lookup y = some .free ∧ (cenv.kindOf y = some .cell ∨ cenv.kindOf y = some .free) := fun k hk hk' => by
        have hk0 := hk
        rw [hsc] at hk
        obtain ⟨k', e, r⟩ := lookup_relS hk
        have no : ¬ (k' = .local ∨ k' = .cell) := fun hh => by
          rcases ok.own _ (PySem.mem_of_lookup e) hh with e' | e'
          · obtain ⟨p, hp, hpy⟩ := List.mem_map.mp e'
            have e3 := ok.ix p hp
            have : p.1 = y := hpy
            rw [this] at e3
            exact hne (List.mem_map.mpr ⟨p, hp, nodup_ix hN e3 e1⟩)
          · exact e' (List.mem_of_getElem? e1)
        rcases r with rfl | ⟨rfl, rfl⟩
        · rcases hk' with rfl | rfl | rfl
          · exact absurd (.inl rfl) no
          · exact absurd (.inr rfl) no
          · exact ⟨e, .inr hk0⟩
        · exact ⟨e, .inl hk0⟩
      have e3 : Vis cenv.scope y := e3
      rcases e3 with e3 | e3 | e3
      · exact key _ e3 (.inl rfl)
      · exact key _ e3 (.inr (.inl rfl))
      · exact key _ e3 (.inr (.inr rfl))
    obtain ⟨m, hn, hl⟩ := I.loc
    have hvis : Vis X.env.scope y := (ok.free _ (PySem.mem_of_lookup hfr.1) rfl).elim (fun k => .inr (.inl k)) (fun k => .inr (.inr k))
    obtain ⟨w, r, q⟩ := hl i y av e1 e2 hvis
    refine ⟨w, r, .inr ⟨hfr.2, ?_⟩⟩
    obtain ⟨c, h1, h2⟩ := look hfr.1
    rcases q with ⟨k, _⟩ | ⟨_, c', e', z⟩
    · have k : X.env.scope.names.lookup y = some .local := k
      rcases ok.free _ (PySem.mem_of_lookup hfr.1) rfl with k' | k' <;> rw [show X.env.scope.names.lookup y = _ from k'] at k <;> cases k
    · rw [h2] at e'; cases e'
      exact ⟨c, h1, z.keeps kp⟩
  · have e : cenv.cells.lookup y = some c := e
    rcases mem e with ⟨h1, _⟩ | ⟨_, z⟩
    · obtain ⟨w, z⟩ := I.cell y c h1
      exact ⟨w, z.keeps kp⟩
    · exact ⟨_, z⟩
  · show H cenv.locals = none
    rw [hL]; exact I.hok.fresh (Nat.le_refl _)
  · have e : cenv.cells.lookup y = some c := e
    rcases mem e with ⟨h1, _⟩ | ⟨h1, _⟩
    · exact I.freeC y c h1
    · exact I.hok.fresh (Nat.le_of_succ_le h1)
  · exact absurd (show p ∈ ([] : List (Addr × Obj)) ++ [] from hp) (by simp)
theorem app_ok {E : Value → Shared → Prop} {D : Addr} {xs : List V} {y : V} {v : Value} {Q : Value → Shared → Prop} (I : Inv X pins σ H s) (hD : H D = some (.lst xs)) (hz : xs.length < sizeLine) (r : RelV y v)
    (h : ∀ s', Inv X pins σ (upd H D (.lst (xs ++ [y]))) s' → Q .none s') : wpAny (model X.prog X.w) X.A (call (.builtin "list.append") [.ref D, v]) Q E s := by
  obtain ⟨hz', its, n, ri, e⟩ := I.hok D _ hD
  have hl := ri.length
  refine append_at (hsz := by rw [List.size_toArray]; omega) e fun h' sb ho' => ?_
  refine h { s with heap := h' } (I.write (t' := s.toks) (by rw [hD]; trivial) (.inl rfl) (fun b u hb q => (sb.2 b hb).trans q) ⟨_, ho'⟩ ⟨by rw [List.length_append]; exact hz, its ++ [v], n + 1, ri.append (.cons r .nil), ?_⟩)
  rw [ho']
  simp
def PTs (X : Cx) (ifs : List Expr) (t : TT) : Prop :=
  ∀ (pins : List (Addr × Obj)) (s : Shared) (σ : St) (H : Hp) (Q : Bool → Hp → Prop), Inv X pins σ H s → t σ H Q →
    wpAny (model X.prog X.w) X.A (forIn ifs true fun c r => if r = true then do let ok ← isTrue c X.env (eval c X.env); pure (ForInStep.yield ok) else pure (ForInStep.yield r)) (TP X pins σ Q) X.xe s
def tYes : TT := fun _ H Q => Q true H
theorem pts_nil : PTs X [] tYes := fun _ _ _ H _ I h => wpAny_tests_nil ⟨H, I, h⟩
theorem pts_one {c : Expr} {t : TT} (h : PT X c t) : PTs X [c] t := fun pins s σ H Q I hw => wpAny_tests_one (h pins s σ H Q I hw)
end
theorem thnF {α : Type} {t : Sem α} {Q Q' : α → Shared → Prop} {M : Model} {A : Around} {E : Value → Shared → Prop} {s : Shared} (h : wpAny M A t Q (fun _ _ => False) s) (hQ : ∀ a s, Q a s → Q' a s) : wpAny M A t Q' E s := wpAny_mono h hQ fun _ _ z => False.elim z
theorem compLoop_any {prog : Program} {w : World} {A : Around} {R : Result → Shared → Prop} {s : Shared} {elt target iter : Expr} {ifs : List Expr} {scope : Scope} {pos : Pos} {it acc : Value} {env : Env} (I : Nat → Shared → Prop)
    (turn : ∀ n s, I n s → wpAny (model prog w) A (pyNext it) (fun r s₁ => match r with
      | none => R (.ok .next) s₁
      | some v => wpAny (model prog w) A (letOwnedTupleGo target it v) (fun _ s₁' => wpAny (model prog w) A (assign target env v) (fun _ s₂ =>
          wpAny (model prog w) A (forIn ifs true fun c r => if r = true then do let ok ← isTrue c env (eval c env); pure (ForInStep.yield ok) else pure (ForInStep.yield r)) (fun ok s₃ =>
            if ok = true then wpAny (model prog w) A (eval elt env) (fun x s₄ =>
              wpAny (model prog w) A (call (.builtin "list.append") [acc, x]) (fun _ s₅ => ∃ m, m < n ∧ I m s₅) (notedBy (model prog w) A env fun e s' => R (.error e) s') s₄) (notedBy (model prog w) A env fun e s' => R (.error e) s') s₃
            else ∃ m, m < n ∧ I m s₃) (notedBy (model prog w) A env fun e s' => R (.error e) s') s₂) (notedBy (model prog w) A env fun e s' => R (.error e) s') s₁') (notedBy (model prog w) A env fun e s' => R (.error e) s') s₁) (notedBy (model prog w) A env fun e s' => R (.error e) s') s)
    (n : Nat) (h : I n s) :
    codeAny (model prog w) A (.compLoop (.ListComp elt [⟨target, iter, ifs, 0⟩] scope pos) 0 it acc env) R s := by
  refine codeAny_loop rfl I (fun n s hI => ?_) n h
  show wpAny _ A ((compTurn (.ListComp elt [⟨target, iter, ifs, 0⟩] scope pos) 0 it acc env).onRaise (fun x => do noteFrame x env; theTreesLotGoes x)) _ _ s
  refine wpAny_noted ?_
  rw [compTurn_list]
  refine wpAny_bind (wpAny_standAt (wpAny_bind (wpAny_mono (turn n s hI) (fun r s₁ h₁ => ?_) fun _ _ h' => h')))
  cases r with
  | none => exact wpAny_pure h₁
  | some v =>
    refine wpAny_bind (wpAny_mono h₁ (fun _ s₁' h₁' => ?_) fun _ _ h' => h')
    refine wpAny_bind (wpAny_mono h₁' (fun _ s₂ h₂ => wpAny_bind (wpAny_mono h₂ (fun ok s₃ h₃ => ?_) fun _ _ h' => h')) fun _ _ h' => h')
    cases ok with
    | false => exact wpAny_pure ⟨rfl, h₃⟩
    | true =>
      exact wpAny_bind (wpAny_bind (wpAny_mono h₃ (fun x s₄ h₄ => wpAny_bind (wpAny_mono h₄ (fun _ s₅ h₅ => wpAny_pure (wpAny_pure ⟨rfl, h₅⟩)) fun _ _ h' => h')) fun _ _ h' => h'))
section
variable {X : Cx}
def tLc (wi : TI) (g : TG) (tt : TT) (te : TE) (vs : List Nat) : TE := fun σ H Q => wi σ H fun J H1 => ∀ D, H1 D = none → ∃ W : Nat → Nat → Hp → Prop, (∃ m, W 0 m (upd H1 D (.lst []))) ∧ ∀ i m H, W i m H →
  (J.stop i H ∧ Q (.ref D) H) ∨ (J.go i H ∧ ∃ Nx : Hp → Prop, (∀ H', Nx H' → ∃ m', m' < m ∧ W (i + 1) m' H') ∧ ∀ x H', J.yld i H x H' → g x (wipe σ vs) H' fun σ2 H2 => wipe σ2 vs = wipe σ vs ∧ tt σ2 H2 fun b H3 =>
    if b = true then te σ2 H3 fun y H4 => ∃ acc, H4 D = some (.lst acc) ∧ acc.length < sizeLine ∧ Nx (upd H4 D (.lst (acc ++ [y]))) else Nx H3)
theorem lc_core {pins : List (Addr × Obj)} {s : Shared} {σ : St} {H : Hp} {Q : VK} {elt tg iter : Expr} {ifs : List Expr} {scope : Scope} {own : List (Str × Nat)} {pos pos' : Pos} {wi : TI} {g : TG} {tt : TT} {te : TE} {use : Option (Value → Sem Unit)} {Qf : Value → Shared → Prop}
    (hc : X.calm = true) (hN : X.N.Nodup) (I : Inv X pins σ H s) (hi : PI X tg iter wi) (ok : BlkOk X.N X.env.scope scope own)
    (hg : ∀ (s : Shared) (H : Hp) (C : Addr) (cl : List (Str × Addr)) (fp : List Addr), PG (X.blk s H scope (compEnvC scope cl C X.env) fp) tg g) (ht : ∀ (s : Shared) (H : Hp) (C : Addr) (cl : List (Str × Addr)) (fp : List Addr), PTs (X.blk s H scope (compEnvC scope cl C X.env) fp) ifs tt)
    (he : ∀ (s : Shared) (H : Hp) (C : Addr) (cl : List (Str × Addr)) (fp : List Addr), PE (X.blk s H scope (compEnvC scope cl C X.env) fp) elt te) (hs : ∀ x, foldedSetIterable iter X.env x = pure x)
    (h : tLc wi g tt te (own.map (·.2)) σ H Q)
    (hRR : ∀ D C s' m H', Inv X pins σ H' s' → Q (.ref D) H' → s'.heap.Ns C m → FpOk X pins H' C → compPost (model X.prog X.w) X.A X.xe use Qf (.ref D) C (.ok .next) s') :
    wpAny (model X.prog X.w) X.A (comprehension (.ListComp elt [⟨tg, iter, ifs, 0⟩] scope pos) scope X.env pos' (newList []) false (eval iter X.env) use) Qf X.xe s := by
  have hfree : ∀ y ∈ scope.names, y.2 = .free → ∃ c, X.env.cells.lookup y.1 = some c := fun y hy e => by
    rcases ok.free y hy e with k | k
    · exact I.ok.has _ (.inl k)
    · exact I.ok.has _ (.inr k)
  refine wpAny_comprehension_free (use := use) rfl hs (closure_ok hfree) ok.kind (fun y hy e => by rw [ok.uniq y hy, e])
    (thn (hi pins s σ H _ I h) fun xv s1 hx => thn hx fun itv s2 h2 => ?_)
  obtain ⟨it, fp, tn, J, H2, e, I2, T, st2, f2, q⟩ := h2
  subst e
  refine wpAny_newObj_type (newEnv_comp ?_) (by show 0 ≤ sizeLine; decide)
  generalize hD : s2.heap.objs.size = D
  have hDn : H2 D = none := I2.hok.fresh (Nat.le_of_eq hD)
  obtain ⟨W, ⟨m0, w0⟩, turn⟩ := q D hDn
  -- the new list
  generalize hs3 : ({ s2 with heap := s2.heap.push { cls := .type "list", data := .seq ([] : List Value).toArray } } : Shared) = s3
  have I3 : Inv X pins σ (upd H2 D (.lst [])) s3 := by
    rw [← hs3]
    refine I2.laid (t' := s2.toks) (fun b o e => Heap.get?_push_of_some _ e) (Nat.le_of_eq hD) ⟨Nat.zero_le _, [], 0, .nil, ?_⟩
    rw [← hD]
    exact Heap.get?_push_size _ rfl
  have h3 : s3.heap = s2.heap.push { cls := .type "list", data := .seq ([] : List Value).toArray } := by rw [← hs3]
  have sz : ∀ b ∈ fp, b < s2.heap.objs.size := fun b hb => by
    obtain ⟨o, e, _⟩ := T.obj _ _ st2 b hb
    exact Heap.lt_size e
  have f3 : ∀ b ∈ fp, FpOk X pins (upd H2 D (.lst [])) b ∧ b < s3.heap.objs.size := fun b hb => by
    have hlt := sz b hb
    refine ⟨⟨?_, (f2 b hb).2⟩, by rw [h3, Heap.size_push]; exact Nat.lt_succ_of_lt hlt⟩
    rw [upd_ne (by rw [← hD]; exact Nat.ne_of_lt hlt)]
    exact (f2 b hb).1
  have st3 : tn 0 s3.heap := T.keep _ _ _ st2 fun b _ o e => by rw [h3]; exact Heap.get?_push_of_some _ e
  have I4 := block_start I3 ok hN f3
  have pg := hg s3 (upd H2 D (.lst [])) s3.heap.objs.size (cellsFrom (s3.heap.objs.size + 1) scope.names (cloFrom X.env.cells scope.names [])) fp
  have pt := ht s3 (upd H2 D (.lst [])) s3.heap.objs.size (cellsFrom (s3.heap.objs.size + 1) scope.names (cloFrom X.env.cells scope.names [])) fp
  have pe := he s3 (upd H2 D (.lst [])) s3.heap.objs.size (cellsFrom (s3.heap.objs.size + 1) scope.names (cloFrom X.env.cells scope.names [])) fp
  show codeAny _ _ (.compStart (.ListComp elt [⟨tg, iter, ifs, 0⟩] scope pos) 0 (.ref it) (.ref D) (compEnvC scope (cellsFrom (s3.heap.objs.size + 1) scope.names (cloFrom X.env.cells scope.names [])) s3.heap.objs.size X.env)) (compPost (model X.prog X.w) X.A X.xe use Qf (.ref D) s3.heap.objs.size) { s3 with heap := pushCells (s3.heap.push { cls := .type "dict", data := .dict #[] }) scope.names }
  have nfp : ∀ b ∈ fp, (upd H2 D (.lst [])) b = none := fun b hb => (f3 b hb).1.1
  generalize hce : compEnvC scope (cellsFrom (s3.heap.objs.size + 1) scope.names (cloFrom X.env.cells scope.names [])) s3.heap.objs.size X.env = ce at I4 pg pt pe ⊢
  have cL : ce.locals = s3.heap.objs.size := by subst hce; rfl
  generalize hH3 : upd H2 D (.lst []) = H3 at I3 I4 pg pt pe w0 nfp f3
  generalize hs4 : ({ s3 with heap := pushCells (s3.heap.push { cls := .type "dict", data := .dict #[] }) scope.names } : Shared) = s4 at I4 ⊢
  have st4 : tn 0 s4.heap := T.keep _ _ _ st3 fun b _ o e => by rw [← hs4]; exact pushCells_keeps _ _ _ _ (Heap.get?_push_of_some _ e)
  have stat : ∀ {σ' : St} {H' : Hp} {s' : Shared}, Inv (X.blk s3 H3 scope ce fp) [] σ' H' s' → (∀ b ∈ fp, H' b = none) → ∀ b ∈ fp, FpOk (X.blk s3 H3 scope ce fp) [] H' b := fun {σ' H' s'} I' hn b hb =>
    ⟨hn b hb, (I'.ok.exf b hb).1, I'.ok.exfs b hb, .inl hb, fun x c e => (I'.ok.exf b hb).2 x c e, fun p hp => absurd (show p ∈ ([] : List (Addr × Obj)) ++ [] from hp) (by simp)⟩
  have loop : codeAny (model X.prog X.w) X.A (.compLoop (.ListComp elt [⟨tg, iter, ifs, 0⟩] scope pos) 0 (.ref it) (.ref D) ce) (compPost (model X.prog X.w) X.A X.xe use Qf (.ref D) s3.heap.objs.size) s4 := by
    refine compLoop_any (fun n s' => ∃ i H', Inv (X.blk s3 H3 scope ce fp) [] (wipe σ (own.map (·.2))) H' s' ∧ tn i s'.heap ∧ (∀ b ∈ fp, H' b = none) ∧ W i n H') ?_ m0 ⟨0, H3, I4, st4, nfp, w0⟩
    rintro n s5 ⟨i, H5, I5, st5, n5, w5⟩
    rcases turn i n H5 w5 with ⟨stop, qq⟩ | ⟨go, Nx, hNx, step⟩
    · have td := T.done (X.blk s3 H3 scope ce fp) rfl rfl rfl hc i [] s5 _ H5 (fun _ _ => False) I5 (stat I5 n5) st5 stop
      refine thnF td fun r s6 ⟨hr, I6⟩ => ?_
      subst hr
      -- back in the def's context
      have I7 : Inv X pins σ H5 s6 := I3.call' (ch := fp) I6.os I6.base I6.hok I6.bare fun b hb => ⟨(f3 b hb).1.2.2.2.1, (f3 b hb).1.2.1, (f3 b hb).1.2.2.2.2.1, (f3 b hb).1.2.2.2.2.2⟩
      have nC : H5 s3.heap.objs.size = none := by
        have z : H5 ce.locals = none := I6.free
        rw [cL] at z
        exact z
      obtain ⟨m, hn, _⟩ := I6.loc
      have hn : s6.heap.Ns ce.locals m := hn
      rw [cL] at hn
      exact hRR D s3.heap.objs.size s6 m H5 I7 qq hn (I3.fpOk (Nat.le_refl _) nC)
    · have ti := T.item (X.blk s3 H3 scope ce fp) rfl rfl rfl hc i [] s5 _ H5 (fun _ _ => False) I5 (stat I5 n5) st5 go
      refine thnF ti fun r s6 ⟨u, hr, h6⟩ => ?_
      subst hr
      refine thnF h6 fun _ s7 ⟨x, H7, I7, r7, y7, st7, n7⟩ => ?_
      have I7' := I7.pinned (stat I7 n7) (T.obj _ _ st7)
      refine thnF (pg _ s7 _ H7 x u _ I7' r7 (step x H7 y7)) fun _ s8 ⟨σ8, H8, I8, hw8, q8⟩ => ?_
      refine thnF (pt _ s8 σ8 H8 _ I8 q8) fun b s9 ⟨H9, I9, q9⟩ => ?_
      -- the turn's end
      have fin : ∀ {s' : Shared} {H' : Hp}, Inv (X.blk s3 H3 scope ce fp) ([] ++ pinsAt fp s7.heap) σ8 H' s' → Nx H' → ∃ m, m < n ∧ ∃ i H', Inv (X.blk s3 H3 scope ce fp) [] (wipe σ (own.map (·.2))) H' s' ∧ tn i s'.heap ∧ (∀ b ∈ fp, H' b = none) ∧ W i m H' := fun {s' H'} I' nx => by
        obtain ⟨m', hm, w'⟩ := hNx H' nx
        have pin' : ∀ b ∈ fp, ∀ o, s7.heap.get? b = some o → s'.heap.get? b = some o ∧ H' b = none := fun b hb o e =>
          let z := I'.pin (b, o) (List.mem_append_right _ (List.mem_append_right _ (mem_pinsAt hb e)))
          ⟨z.1, z.2.1⟩
        have hl : (wipe σ (own.map (·.2))).length = σ8.length := by rw [← hw8, wipe_length]
        refine ⟨m', hm, i + 1, H', (I'.unpinned (pins := [])).weak hl (fun j v e => ?_), T.keep _ _ _ st7 fun b hb o e => (pin' b hb o e).1, fun b hb => ?_, w'⟩
        · rw [← hw8] at e
          exact (wipe_some e).1
        · obtain ⟨o, e, _⟩ := T.obj _ _ st7 b hb
          exact (pin' b hb o e).2
      cases b with
      | false =>
        simp only [Bool.false_eq_true, if_false] at q9 ⊢
        exact fin I9 q9
      | true =>
        simp only [if_true] at q9 ⊢
        refine thnF (pe _ s9 σ8 H9 _ I9 q9) fun z s10 ⟨yv, H10, I10, r10, acc, hD10, hz10, nx⟩ => ?_
        exact app_ok (X := X.blk s3 H3 scope ce fp) I10 hD10 hz10 r10 fun s11 I11 => fin I11 nx
  exact codeAny_compStart_list loop (T.self X.A 0 _ _ _ st4 loop)
theorem pe_lc {elt tg iter : Expr} {ifs : List Expr} {scope : Scope} {own : List (Str × Nat)} {pos : Pos} {wi : TI} {g : TG} {tt : TT} {te : TE} (hc : X.calm = true) (hN : X.N.Nodup) (hi : PI X tg iter wi) (ok : BlkOk X.N X.env.scope scope own)
    (hg : ∀ (s : Shared) (H : Hp) (C : Addr) (cl : List (Str × Addr)) (fp : List Addr), PG (X.blk s H scope (compEnvC scope cl C X.env) fp) tg g) (ht : ∀ (s : Shared) (H : Hp) (C : Addr) (cl : List (Str × Addr)) (fp : List Addr), PTs (X.blk s H scope (compEnvC scope cl C X.env) fp) ifs tt)
    (he : ∀ (s : Shared) (H : Hp) (C : Addr) (cl : List (Str × Addr)) (fp : List Addr), PE (X.blk s H scope (compEnvC scope cl C X.env) fp) elt te) (hs : ∀ x, foldedSetIterable iter X.env x = pure x := by intro _; rfl) :
    PE X (.ListComp elt [⟨tg, iter, ifs, 0⟩] scope pos) (tLc wi g tt te (own.map (·.2))) := by
  intro pins s σ H Q I h
  rw [eval_ListComp]
  refine lc_core hc hN I hi ok hg ht he hs h fun D C s' m H' I' q hn f => ⟨m, hn, fun h'' sb => ?_⟩
  obtain ⟨f0, f1, f2, f3, f4, f5⟩ := f
  exact ⟨.ref D, H', I'.turned (t' := s'.toks) (fun b o hb e => (sb.2 b hb).trans e) f0 f1 f3 f4 f5, rfl, q⟩
theorem ps_setLc {i : Nat} {y : Str} {py : Pos} {elt tg iter : Expr} {ifs : List Expr} {scope : Scope} {own : List (Str × Nat)} {pos spos : Pos} {wi : TI} {g : TG} {tt : TT} {te : TE} (hc : X.calm = true) (hN : X.N.Nodup) (hy : X.N[i]? = some y) (hyl : X.env.scope.names.lookup y = some .local)
    (hsw : swapsWith (.ListComp elt [⟨tg, iter, ifs, 0⟩] scope pos) (some (.Name y py)) spos.line X.env = pure true) (hi : PI X tg iter wi) (ok : BlkOk X.N X.env.scope scope own)
    (hg : ∀ (s : Shared) (H : Hp) (C : Addr) (cl : List (Str × Addr)) (fp : List Addr), PG (X.blk s H scope (compEnvC scope cl C X.env) fp) tg g) (ht : ∀ (s : Shared) (H : Hp) (C : Addr) (cl : List (Str × Addr)) (fp : List Addr), PTs (X.blk s H scope (compEnvC scope cl C X.env) fp) ifs tt)
    (he : ∀ (s : Shared) (H : Hp) (C : Addr) (cl : List (Str × Addr)) (fp : List Addr), PE (X.blk s H scope (compEnvC scope cl C X.env) fp) elt te) (hs : ∀ x, foldedSetIterable iter X.env x = pure x := by intro _; rfl) :
    PS X (.Assign [.Name y py] (.ListComp elt [⟨tg, iter, ifs, 0⟩] scope pos) spos) (tAsg (tLc wi g tt te (own.map (·.2))) (gName i)) := by
  intro pins s σ H D I h
  rw [exec_Assign_Name_used _ _ _ _ hsw]
  refine wpAny_bind (wpAny_standAt (wpAny_bind ?_))
  show wpAny _ X.A (do let _ ← comprehension (.ListComp elt [⟨tg, iter, ifs, 0⟩] scope pos) scope X.env (firstIterPos [⟨tg, iter, ifs, 0⟩] pos) (newList []) false (eval iter X.env) (some (assign (.Name y py) X.env))) _ _ s
  have h : tLc wi g tt te (own.map (·.2)) σ H (fun x H1 => gName i x σ H1 D.nx) := h
  refine wpAny_bind (thn (lc_core (Qf := fun _ s' => SP X pins D .next s') hc hN I hi ok hg ht he hs h fun L C s' m H' I' q hn f => ?_) fun _ s' hq => wpAny_pure (wpAny_pure hq))
  show wpAny _ _ (assign (.Name y py) X.env (.ref L)) _ _ _
  refine wpAny_assign_Name (store_ok2 (v := V.ref L) I' hN hy (.inl hyl) rfl (fun s2 I2 ⟨a, sb, ha⟩ => ?_) (.inr hyl))
  obtain ⟨f0, f1, f2, f3, f4, f5⟩ := f
  have haC : C ≠ a := by
    rcases ha with z | z
    · rw [z]; exact f1
    · exact fun e => f4 y a z e.symm
  refine ⟨m, hn.sameBut sb haC, fun h3 sb3 => ?_⟩
  exact ⟨_, H', I2.turned (t' := s2.toks) (fun b o hb e => (sb3.2 b hb).trans e) f0 f1 f3 f4 f5, q⟩
theorem sw_true {elt : Expr} {gs : List Comprehension} {scope : Scope} {pos py : Pos} {y : Str} {l : Nat} {env : Env} (hk : env.scope.kind = .function) (hy : env.scope.names.lookup y = some .local) (hl : (py.line == pos.line) = true)
    (ha : (scope.names.any fun (n, k) => n == y && (k == .local || k == .cell)) = false) : swapsWith (.ListComp elt gs scope pos) (some (.Name y py)) l env = pure true := by
  have ky : env.kindOf y = some .local := hy
  have hb : env.blockKind = .function := by unfold Env.blockKind; rw [hk]; rfl
  unfold swapsWith
  simp only [hb, ky, ha, Expr.pos, hl]
  rfl
end
theorem lc_range {lo : Int} {n : Nat} {g : TG} {tt : TT} {te : TE} {vs : List Nat} {σ : St} {H1 : Hp} {D : Addr} {Qd : Hp → Prop} (Pv : Nat → Hp → Prop) (h0 : Pv 0 (upd H1 D (.lst [])))
    (hs : ∀ i H, i < n → Pv i H → g (.int (lo + i)) (wipe σ vs) H fun σ2 H2 => wipe σ2 vs = wipe σ vs ∧ tt σ2 H2 fun b H3 =>
      if b = true then te σ2 H3 fun y H4 => ∃ acc, H4 D = some (.lst acc) ∧ acc.length < sizeLine ∧ Pv (i + 1) (upd H4 D (.lst (acc ++ [y]))) else Pv (i + 1) H3) (hd : ∀ H, Pv n H → Qd H) :
    ∃ W : Nat → Nat → Hp → Prop, (∃ m, W 0 m (upd H1 D (.lst []))) ∧ ∀ i m H, W i m H →
      ((Itr lo n).stop i H ∧ Qd H) ∨ ((Itr lo n).go i H ∧ ∃ Nx : Hp → Prop, (∀ H', Nx H' → ∃ m', m' < m ∧ W (i + 1) m' H') ∧ ∀ x H', (Itr lo n).yld i H x H' → g x (wipe σ vs) H' fun σ2 H2 => wipe σ2 vs = wipe σ vs ∧ tt σ2 H2 fun b H3 =>
        if b = true then te σ2 H3 fun y H4 => ∃ acc, H4 D = some (.lst acc) ∧ acc.length < sizeLine ∧ Nx (upd H4 D (.lst (acc ++ [y]))) else Nx H3) := by
  refine ⟨fun i m H => m = n - i ∧ i ≤ n ∧ Pv i H, ⟨n, by simp, Nat.zero_le _, h0⟩, ?_⟩
  rintro i m H ⟨rfl, hi, p⟩
  by_cases hlt : i < n
  · refine .inr ⟨hlt, Pv (i + 1), fun H' p' => ⟨n - (i + 1), by omega, rfl, hlt, p'⟩, fun x H' y => ?_⟩
    obtain ⟨e, y⟩ := y
    subst e y
    exact hs i _ hlt p
  · have e : i = n := by omega
    subst e
    exact .inl ⟨Nat.le_refl _, hd H p⟩
theorem lc_list {K : PySem.W.Frag} {a : Addr} {xs : List V} {g : TG} {tt : TT} {te : TE} {vs : List Nat} {σ : St} {H1 : Hp} {D : Addr} {Qd : Hp → Prop} (Pv : Nat → Hp → Prop) (h0 : Pv 0 (upd H1 D (.lst []))) (hl : ∀ i H, i ≤ xs.length → Pv i H → SqL K H a xs)
    (hs : ∀ i x H, xs[i]? = some x → Pv i H → g x (wipe σ vs) H fun σ2 H2 => wipe σ2 vs = wipe σ vs ∧ tt σ2 H2 fun b H3 =>
      if b = true then te σ2 H3 fun y H4 => ∃ acc, H4 D = some (.lst acc) ∧ acc.length < sizeLine ∧ Pv (i + 1) (upd H4 D (.lst (acc ++ [y]))) else Pv (i + 1) H3) (hd : ∀ H, Pv xs.length H → Qd H) :
    ∃ W : Nat → Nat → Hp → Prop, (∃ m, W 0 m (upd H1 D (.lst []))) ∧ ∀ i m H, W i m H →
      ((Itl K a).stop i H ∧ Qd H) ∨ ((Itl K a).go i H ∧ ∃ Nx : Hp → Prop, (∀ H', Nx H' → ∃ m', m' < m ∧ W (i + 1) m' H') ∧ ∀ x H', (Itl K a).yld i H x H' → g x (wipe σ vs) H' fun σ2 H2 => wipe σ2 vs = wipe σ vs ∧ tt σ2 H2 fun b H3 =>
        if b = true then te σ2 H3 fun y H4 => ∃ acc, H4 D = some (.lst acc) ∧ acc.length < sizeLine ∧ Nx (upd H4 D (.lst (acc ++ [y]))) else Nx H3) := by
  refine ⟨fun i m H => m = xs.length - i ∧ i ≤ xs.length ∧ Pv i H, ⟨xs.length, by simp, Nat.zero_le _, h0⟩, ?_⟩
  rintro i m H ⟨rfl, hi, p⟩
  have q := hl i H hi p
  by_cases hlt : i < xs.length
  · refine .inr ⟨⟨xs, xs[i], q, by simp [hlt]⟩, Pv (i + 1), fun H' p' => ⟨xs.length - (i + 1), by omega, rfl, hlt, p'⟩, fun x H' y => ?_⟩
    obtain ⟨e, y⟩ := y
    subst e
    exact hs i x _ (y xs q) p
  · have e : i = xs.length := by omega
    subst e
    exact .inl ⟨⟨xs, q, Nat.le_refl _⟩, hd H p⟩
def blkC (N : List Str) (sc scope : Scope) (own : List (Str × Nat)) : Bool :=
  (match scope.kind with | .function => true | _ => false) && (scope.names.all fun y => decide (scope.names.lookup y.1 = some y.2)) && (own.all fun p => decide (N[p.2]? = some p.1)) &&
    (scope.names.all fun y => match y.2 with
      | .free => (match sc.names.lookup y.1 with | some .cell => true | some .free => true | _ => false)
      | .local => decide (y.1 ∈ own.map (·.1)) || decide (y.1 ∉ N)
      | .cell => decide (y.1 ∈ own.map (·.1)) || decide (y.1 ∉ N)
      | _ => true)
theorem blkOk_by {N : List Str} {sc scope : Scope} {own : List (Str × Nat)} (h : blkC N sc scope own = true) : BlkOk N sc scope own := by
  unfold blkC at h
  simp only [Bool.and_eq_true, List.all_eq_true, decide_eq_true_eq] at h
  obtain ⟨⟨⟨h1, h2⟩, h3⟩, h4⟩ := h
  refine ⟨?_, h2, h3, fun y hy e => ?_, fun y hy e => ?_⟩
  · split at h1
    · assumption
    · cases h1
  · have q := h4 y hy
    simp only [e] at q
    split at q <;> first | exact .inl (by assumption) | exact .inr (by assumption) | cases q
  · have q := h4 y hy
    rcases e with e | e <;> (simp only [e, Bool.or_eq_true, decide_eq_true_eq] at q; exact q)
end L2
namespace L2
open PySem PySem.Spec PyProof.Rows
section
variable {prog : Program} {w : World} {A : Around} {R : Result → Shared → Prop} {s : Shared} {elt t0 i0 t1 i1 : Expr} {ifs0 ifs1 : List Expr} {scope : Scope} {pos : Pos} {it acc : Value} {env : Env}
end
section
variable {X : Cx}
end
end L2
namespace L2
open PySem PySem.Spec PyProof.Rows
section
variable {κ : Type} [DecidableEq κ]
def valV (kvs : List (κ × V)) (k : κ) : Option V := (kvs.find? fun kv => decide (kv.1 = k)).map (·.2)
def putK (kvs : List (κ × V)) (k : κ) (v : V) : List (κ × V) :=
  if (kvs.any fun kv => decide (kv.1 = k)) = true then kvs.map (fun kv => if kv.1 = k then (kv.1, v) else kv) else kvs ++ [(k, v)]
def dropK (kvs : List (κ × V)) (k : κ) : List (κ × V) := kvs.filter fun kv => decide (kv.1 ≠ k)
theorem valV_pos {p : κ × V} {r : List (κ × V)} {k : κ} (e : p.1 = k) : valV (p :: r) k = some p.2 := by simp [valV, List.find?_cons, e]
theorem valV_neg {p : κ × V} {r : List (κ × V)} {k : κ} (e : ¬ p.1 = k) : valV (p :: r) k = valV r k := by simp [valV, List.find?_cons, e]
theorem valV_any (k : κ) : ∀ kvs : List (κ × V), (kvs.any fun kv => decide (kv.1 = k)) = (valV kvs k).isSome
  | [] => rfl
  | p :: r => by
    rw [List.any_cons]
    by_cases e : p.1 = k
    · simp only [valV_pos e, decide_eq_true e, Bool.true_or, Option.isSome_some]
    · rw [valV_neg e, decide_eq_false e, Bool.false_or]; exact valV_any k r
theorem valV_map (k j : κ) (y : V) : ∀ kvs : List (κ × V), valV (kvs.map fun kv => if kv.1 = k then (kv.1, y) else kv) j = (valV kvs j).map fun x => if j = k then y else x
  | [] => rfl
  | p :: r => by
    have ih := valV_map k j y r
    rw [List.map_cons]
    by_cases h : p.1 = k
    · rw [if_pos h]
      by_cases e : p.1 = j
      · rw [valV_pos (p := (p.1, y)) e, valV_pos e, Option.map_some, if_pos (e.symm.trans h)]
      · rw [valV_neg (p := (p.1, y)) e, valV_neg e, ih]
    · rw [if_neg h]
      by_cases e : p.1 = j
      · rw [valV_pos (p := p) e, valV_pos e, Option.map_some, if_neg (fun z => h (e.trans z))]
      · rw [valV_neg (p := p) e, valV_neg e, ih]
theorem valV_snoc (k j : κ) (y : V) : ∀ kvs : List (κ × V), valV kvs k = none → valV (kvs ++ [(k, y)]) j = if j = k then some y else valV kvs j
  | [], _ => by
    by_cases e : k = j
    · rw [if_pos e.symm]; exact valV_pos (p := (k, y)) e
    · rw [if_neg (fun z => e z.symm)]; exact valV_neg (p := (k, y)) e
  | p :: r, hn => by
    rw [List.cons_append]
    have hk : ¬ p.1 = k := fun z => by rw [valV_pos z] at hn; cases hn
    rw [valV_neg hk] at hn
    have ih := valV_snoc k j y r hn
    by_cases e : p.1 = j
    · rw [valV_pos e, valV_pos e, if_neg (fun z => hk (e.trans z))]
    · rw [valV_neg e, valV_neg e, ih]
theorem valV_put (kvs : List (κ × V)) (k j : κ) (y : V) : valV (putK kvs k y) j = if j = k then some y else valV kvs j := by
  unfold putK
  by_cases a : (kvs.any fun kv => decide (kv.1 = k)) = true
  · rw [if_pos a, valV_map]
    rw [valV_any] at a
    by_cases e : j = k
    · obtain ⟨x, hx⟩ := Option.isSome_iff_exists.mp a
      rw [if_pos e, e, hx, Option.map_some, if_pos rfl]
    · rw [if_neg e]
      cases valV kvs j with
      | none => rfl
      | some x => rw [Option.map_some, if_neg e]
  · rw [if_neg a]
    refine valV_snoc k j y kvs ?_
    rw [valV_any] at a
    cases q : valV kvs k with
    | none => rfl
    | some x => rw [q] at a; exact (a rfl).elim
theorem length_putK (kvs : List (κ × V)) (k : κ) (v : V) : (putK kvs k v).length ≤ kvs.length + 1 := by
  unfold putK
  split
  · rw [List.length_map]; omega
  · rw [List.length_append, List.length_cons, List.length_nil]; omega
theorem putK_new {kvs : List (κ × V)} {k : κ} (v : V) (h : valV kvs k = none) : putK kvs k v = kvs ++ [(k, v)] := by
  unfold putK
  rw [valV_any, h]
  exact if_neg (by decide)
theorem RelO.isSome_eq {o : Option V} {u : Option Value} (r : RelO o u) : o.isSome = u.isSome := by
  cases o with
  | none => cases u with
    | none => rfl
    | some _ => exact (show False from r).elim
  | some _ => cases u with
    | none => exact (show False from r).elim
    | some _ => rfl
theorem RelO.getD {o : Option V} {u : Option Value} {d : V} {d' : Value} (r : RelO o u) (rd : RelV d d') : RelV (o.getD d) (u.getD d') := by
  cases o with
  | none => cases u with
    | none => exact rd
    | some _ => exact (show False from r).elim
  | some _ => cases u with
    | none => exact (show False from r).elim
    | some _ => exact r
theorem KV.val {kvs : List (κ × V)} {vs : List (κ × Value)} (r : KV kvs vs) (k : κ) : RelO (valV kvs k) (valueAt vs k) := by
  unfold KV at r
  induction r with
  | nil => exact True.intro
  | @cons p q ps qs h t ih =>
    obtain ⟨h1, h2⟩ := h
    by_cases e : p.1 = k
    · have e' : q.1 = k := h1.symm.trans e
      have b : valueAt (q :: qs) k = some q.2 := by simp [valueAt, List.find?_cons, e']
      rw [valV_pos e, b]; exact h2
    · have e' : ¬ q.1 = k := fun z => e (h1.trans z)
      have b : valueAt (q :: qs) k = valueAt qs k := by simp [valueAt, List.find?_cons, e']
      rw [valV_neg e, b]; exact ih
theorem KV.any {kvs : List (κ × V)} {vs : List (κ × Value)} (r : KV kvs vs) (k : κ) : (kvs.any fun kv => decide (kv.1 = k)) = vs.any fun kv => decide (kv.1 = k) := by
  unfold KV at r
  induction r with
  | nil => rfl
  | cons h t ih => rw [List.any_cons, List.any_cons, ih, h.1]
theorem KV.repl {kvs : List (κ × V)} {vs : List (κ × Value)} (r : KV kvs vs) (k : κ) {y : V} {u : Value} (ry : RelV y u) :
    KV (kvs.map fun kv => if kv.1 = k then (kv.1, y) else kv) (vs.map fun kv => if kv.1 = k then (kv.1, u) else kv) := by
  unfold KV at r ⊢
  induction r with
  | nil => exact .nil
  | @cons p q ps qs h t ih =>
    rw [List.map_cons, List.map_cons]
    refine .cons ?_ ih
    obtain ⟨h1, h2⟩ := h
    by_cases e : p.1 = k
    · rw [if_pos e, if_pos (h1.symm.trans e)]; exact ⟨h1, ry⟩
    · rw [if_neg e, if_neg (fun z => e (h1.trans z))]; exact ⟨h1, h2⟩
theorem KV.put {kvs : List (κ × V)} {vs : List (κ × Value)} (r : KV kvs vs) (k : κ) {y : V} {u : Value} (ry : RelV y u) : KV (putK kvs k y) (stored vs k u) := by
  unfold putK stored
  rw [r.any k]
  by_cases e : (vs.any fun kv => decide (kv.1 = k)) = true
  · rw [if_pos e, if_pos e]; exact r.repl k ry
  · rw [if_neg e, if_neg e]; exact Paired.snoc r ⟨rfl, ry⟩
theorem KV.drop {kvs : List (κ × V)} {vs : List (κ × Value)} (r : KV kvs vs) (k : κ) : KV (dropK kvs k) (without vs k) := by
  unfold KV at r ⊢
  unfold dropK without
  induction r with
  | nil => exact .nil
  | @cons p q ps qs h t ih =>
    obtain ⟨h1, h2⟩ := h
    rw [List.filter_cons, List.filter_cons]
    by_cases e : p.1 = k
    · have a : ¬ decide (p.1 ≠ k) = true := by simp [e]
      have b : ¬ decide (q.1 ≠ k) = true := by simp [h1.symm.trans e]
      rw [if_neg a, if_neg b]; exact ih
    · have e' : ¬ q.1 = k := fun z => e (h1.trans z)
      have a : decide (p.1 ≠ k) = true := by simp [e]
      have b : decide (q.1 ≠ k) = true := by simp [e']
      rw [if_pos a, if_pos b]; exact .cons ⟨h1, h2⟩ ih
theorem KV.keys {kvs : List (κ × V)} {vs : List (κ × Value)} (r : KV kvs vs) : kvs.map (·.1) = vs.map (·.1) := by
  unfold KV at r
  induction r with
  | nil => rfl
  | cons h t ih => rw [List.map_cons, List.map_cons, ih, h.1]
theorem KV.length {kvs : List (κ × V)} {vs : List (κ × Value)} (r : KV kvs vs) : kvs.length = vs.length := Paired.length r
theorem dropK_le (kvs : List (κ × V)) (k : κ) : (dropK kvs k).length ≤ kvs.length := List.length_filter_le _ _
end
theorem kV_is {P : Program} {w : World} {k : Key} {u : Value} (r : RelV (kV k) u) : (mixKind P w).is k u = true := by
  cases k with
  | inl i => obtain ⟨t, e⟩ := (show ∃ t, u = Value.int i t from r); subst e; exact mixKind_int P w i t
  | inr x => obtain ⟨t, e⟩ := (show ∃ t, u = Value.str x t from r); subst e; exact mixKind_str P w x t
theorem items_are {P : Program} {w : World} : ∀ {ks : List Key} {us : List Value}, Vals (ks.map kV) us → ItemsAre (mixKind P w) ks us
  | [], _, r => by rw [List.map_nil] at r; cases r; exact .nil
  | k :: ks, _, r => by
    rw [List.map_cons] at r
    cases r with
    | cons h t => exact .cons (kV_is h) (items_are t)
abbrev KT (H : Hp) : List (List Key × V) → List (List Key × Addr × Value) → Prop := Paired fun p q => p.1 = q.1 ∧ H q.2.1 = some (.tup (p.1.map kV)) ∧ RelV p.2 q.2.2
theorem KT.val {H : Hp} {kvs : List (List Key × V)} {xs : List (List Key × Addr × Value)} (r : KT H kvs xs) (k : List Key) : RelO (valV kvs k) ((atKey xs k).map (·.2)) := by
  induction r with
  | nil => exact True.intro
  | @cons p q ps qs h t ih =>
    obtain ⟨h1, _, h2⟩ := h
    by_cases e : p.1 = k
    · have e' : q.1 = k := h1.symm.trans e
      have b : atKey (q :: qs) k = some q.2 := by simp [atKey, List.find?_cons, e']
      rw [valV_pos e, b]; exact h2
    · have e' : ¬ q.1 = k := fun z => e (h1.trans z)
      have b : atKey (q :: qs) k = atKey qs k := by simp [atKey, List.find?_cons, e']
      rw [valV_neg e, b]; exact ih
theorem KT.repl {H : Hp} {kvs : List (List Key × V)} {xs : List (List Key × Addr × Value)} (r : KT H kvs xs) (k : List Key) {y : V} {u : Value} (ry : RelV y u) :
    KT H (kvs.map fun kv => if kv.1 = k then (kv.1, y) else kv) (xs.map (putAt k u)) := by
  induction r with
  | nil => exact .nil
  | @cons p q ps qs h t ih =>
    rw [List.map_cons, List.map_cons]
    refine .cons ?_ ih
    obtain ⟨h1, h2, h3⟩ := h
    unfold putAt
    by_cases e : p.1 = k
    · rw [if_pos e, if_pos (h1.symm.trans e)]; exact ⟨h1, h2, ry⟩
    · rw [if_neg e, if_neg (fun z => e (h1.trans z))]; exact ⟨h1, h2, h3⟩
theorem KT.put {H : Hp} {kvs : List (List Key × V)} {xs : List (List Key × Addr × Value)} (r : KT H kvs xs) (k : List Key) {b : Addr} {y : V} {u : Value} (hb : H b = some (.tup (k.map kV))) (ry : RelV y u) :
    KT H (putK kvs k y) (storedH xs k b u) := by
  have e : (kvs.any fun kv => decide (kv.1 = k)) = (atKey xs k).isSome := by
    rw [valV_any, (r.val k).isSome_eq, Option.isSome_map]
  unfold putK storedH
  rw [e]
  by_cases q : (atKey xs k).isSome = true
  · rw [if_pos q, if_pos q]; exact r.repl k ry
  · rw [if_neg q, if_neg q]; exact Paired.snoc r ⟨rfl, hb, ry⟩
theorem KT.keeps {H H' : Hp} {kvs : List (List Key × V)} {xs : List (List Key × Addr × Value)} (r : KT H kvs xs) (ht : ∀ b ys, H b = some (.tup ys) → H' b = some (.tup ys)) : KT H' kvs xs :=
  Paired.mapP r fun _ _ z => ⟨z.1, ht _ _ z.2.1, z.2.2⟩
section
variable {P : Program} {w : World} {H : Hp} {h : Heap} {a : Addr}
theorem rd_of {u : HO} (ok : HOk P w H h) (e : Rd H a u) : ObjOk P w H h a u := e.ok ok
theorem dk_rd {kvs : List (Key × V)} (ok : HOk P w H h) (e : Rd H a (.dK kvs)) : kvs.length ≤ sizeLine ∧ (a == sysModules) = false ∧ ∃ vs, KV kvs vs ∧ h.DictOf (mixKind P w) a vs :=
  show ObjOk P w H h a (.dK kvs) from rd_of ok e
theorem dk_of {kvs : List (Key × V)} (ok : HOk P w H h) (e : H a = some (.dK kvs)) : kvs.length ≤ sizeLine ∧ (a == sysModules) = false ∧ ∃ vs, KV kvs vs ∧ h.DictOf (mixKind P w) a vs := dk_rd ok (.inl e)
theorem key_of {ks : List Key} (ok : HOk P w H h) (e : H a = some (.tup (ks.map kV))) : (tupleKind (mixKind P w)).is h ks a := by
  obtain ⟨_, its, r, o, h1, h2, n, h3⟩ := (show ObjOk P w H h a (.tup (ks.map kV)) from ok a _ e)
  exact ⟨o, its.toArray, n, h1, h2, h3, by simpa using items_are r⟩
theorem dt_rd {kvs : List (List Key × V)} (ok : HOk P w H h) (e : Rd H a (.dT kvs)) : kvs.length ≤ sizeLine ∧ (a == sysModules) = false ∧
    ∃ xs, KT H kvs xs ∧ h.DictOfH (tupleKind (mixKind P w)) a xs := by
  obtain ⟨z, y, xs, r, o, es, ep, h1, h2, h3, h4, h5⟩ := (show ObjOk P w H h a (.dT kvs) from rd_of ok e)
  refine ⟨z, y, xs, r, o, es, ep, h1, h2, h3, h4, fun x hx => ?_, h5⟩
  have all : ∀ {l : List (List Key × V)} {m : List (List Key × Addr × Value)}, KT H l m → ∀ x ∈ m, (tupleKind (mixKind P w)).is h x.1 x.2.1 := by
    intro l m q
    induction q with
    | nil => intro x hx; exact nomatch hx
    | @cons p q ps qs hq t ih =>
      intro x hx
      rcases List.mem_cons.mp hx with e | hx
      · subst e
        exact key_of ok (by rw [← hq.1]; exact hq.2.1)
      · exact ih x hx
  exact all r x hx
theorem dt_of {kvs : List (List Key × V)} (ok : HOk P w H h) (e : H a = some (.dT kvs)) : kvs.length ≤ sizeLine ∧ (a == sysModules) = false ∧
    ∃ xs, KT H kvs xs ∧ h.DictOfH (tupleKind (mixKind P w)) a xs := dt_rd ok (.inl e)
end
def DGet (H : Hp) (a : Addr) (y : V) (r : Option V) : Prop :=
  (∃ kvs k, Rd H a (.dK kvs) ∧ y = kV k ∧ r = valV kvs k) ∨ ∃ kvs k b, Rd H a (.dT kvs) ∧ y = .ref b ∧ H b = some (.tup (k.map kV)) ∧ r = valV kvs k
def DPut (H : Hp) (a : Addr) (y v : V) (H' : Hp) : Prop :=
  (∃ kvs k, H a = some (.dK kvs) ∧ y = kV k ∧ kvs.length < sizeLine ∧ H' = upd H a (.dK (putK kvs k v))) ∨
  ∃ kvs k b, H a = some (.dT kvs) ∧ y = .ref b ∧ H b = some (.tup (k.map kV)) ∧ kvs.length < sizeLine ∧ H' = upd H a (.dT (putK kvs k v))
theorem DGet.k {H : Hp} {a : Addr} {kvs : List (Key × V)} {k : Key} (e : H a = some (.dK kvs)) : DGet H a (kV k) (valV kvs k) := .inl ⟨kvs, k, .inl e, rfl, rfl⟩
theorem DPut.k {H : Hp} {a : Addr} {kvs : List (Key × V)} {k : Key} {v : V} (e : H a = some (.dK kvs)) (hl : kvs.length < sizeLine) : DPut H a (kV k) v (upd H a (.dK (putK kvs k v))) := .inl ⟨kvs, k, e, rfl, hl, rfl⟩
section
variable {X : Cx} {pins : List (Addr × Obj)} {σ : St} {H : Hp} {s : Shared} {a : Addr} {y v : V} {u r : Value} {o : Option V} {A : Around} {E : Value → Shared → Prop}
theorem Inv.big (I : Inv X pins σ H s) : sysModules < s.heap.objs.size := by
  have h : mainGlobals < s.heap.objs.size := (I.mod.glob.keeps I.bk).lt
  exact Nat.lt_trans (by decide) h
theorem d_getItem {Q : Value → Shared → Prop} (hu : A.units + 1 < cLine) (I : Inv X pins σ H s) (g : DGet H a y (some v)) (ry : RelV y u) (h : ∀ w' s', Inv X pins σ H s' → RelV v w' → Q w' s') :
    wpAny (model X.prog X.w) A (getItem (.ref a) u) Q E s := by
  rcases g with ⟨kvs, k, e, ey, l⟩ | ⟨kvs, k, b, e, ey, eb, l⟩
  · subst ey
    obtain ⟨z, hd, vs, rel, dd⟩ := dk_rd I.hok e
    obtain ⟨w', hw, rw'⟩ := RelO.some_of (v := v) (o := valueAt vs k) (by rw [l]; exact rel.val k)
    exact wpAny_getItem_of (kV_is ry) dd.mapOf hw (h w' _ (I.tok _) rw')
  · subst ey
    cases (show u = Value.ref b from ry)
    obtain ⟨z, hd, xs, rel, dd⟩ := dt_rd I.hok e
    obtain ⟨w', hw, rw'⟩ := RelO.some_of (v := v) (o := (atKey xs k).map (·.2)) (by rw [l]; exact rel.val k)
    obtain ⟨p, hp, hp2⟩ := Option.map_eq_some_iff.mp hw
    refine wpAny_getItem_heap (tupleKind_room_in1 hu) (key_of I.hok eb) dd hp ?_
    rw [hp2]
    exact h w' _ (I.tok _) rw'
theorem d_in {Q : Value → Shared → Prop} (hu : A.units + 1 < cLine) (I : Inv X pins σ H s) (g : DGet H a y o) (ry : RelV y u) (h : ∀ s', Inv X pins σ H s' → Q (.bool o.isSome) s') :
    wpAny (model X.prog X.w) A (compareOp .In u (.ref a)) Q E s := by
  rcases g with ⟨kvs, k, e, ey, l⟩ | ⟨kvs, k, b, e, ey, eb, l⟩
  · subst ey
    obtain ⟨z, hd, vs, rel, dd⟩ := dk_rd I.hok e
    refine wpAny_in_of (kV_is ry) hd dd.mapOf ?_
    rw [← (rel.val k).isSome_eq, ← l]
    exact h _ (I.tok _)
  · subst ey
    cases (show u = Value.ref b from ry)
    obtain ⟨z, hd, xs, rel, dd⟩ := dt_rd I.hok e
    refine wpAny_in_heap (tupleKind_room_in1 hu) (key_of I.hok eb) hd dd ?_
    have q := (rel.val k).isSome_eq
    rw [Option.isSome_map] at q
    rw [← q, ← l]
    exact h _ (I.tok _)
theorem d_notIn {Q : Value → Shared → Prop} (hu : A.units + 1 < cLine) (I : Inv X pins σ H s) (g : DGet H a y o) (ry : RelV y u) (h : ∀ s', Inv X pins σ H s' → Q (.bool (!o.isSome)) s') :
    wpAny (model X.prog X.w) A (compareOp .NotIn u (.ref a)) Q E s := by
  rcases g with ⟨kvs, k, e, ey, l⟩ | ⟨kvs, k, b, e, ey, eb, l⟩
  · subst ey
    obtain ⟨z, hd, vs, rel, dd⟩ := dk_rd I.hok e
    refine wpAny_notIn_of (kV_is ry) hd dd.mapOf ?_
    rw [← (rel.val k).isSome_eq, ← l]
    exact h _ (I.tok _)
  · subst ey
    cases (show u = Value.ref b from ry)
    obtain ⟨z, hd, xs, rel, dd⟩ := dt_rd I.hok e
    refine wpAny_notIn_heap (tupleKind_room_in1 hu) (key_of I.hok eb) hd dd ?_
    have q := (rel.val k).isSome_eq
    rw [Option.isSome_map] at q
    rw [← q, ← l]
    exact h _ (I.tok _)
theorem d_write {h' : Heap} {t' : Nat} {ob : HO} (I : Inv X pins σ H s) (mu : Mut (H a)) (hs : Heap.SameBut a s.heap h') (he : ∃ q, h'.get? a = some q) (new : ObjOk X.prog X.w (upd H a ob) h' a ob) :
    Inv X pins σ (upd H a ob) { s with heap := h', toks := t' } :=
  I.write (x := a) (e := a) mu (.inl rfl) (fun b q hb z => (hs.2 b hb).trans z) he new
theorem dk_new {P : Program} {w : World} {H' : Hp} {h' : Heap} {kvs : List (Key × V)} {vs : List (Key × Value)} (z : kvs.length ≤ sizeLine) (hd : (a == sysModules) = false) (rel : KV kvs vs) (dd : h'.DictOf (mixKind P w) a vs) :
    ObjOk P w H' h' a (.dK kvs) := ⟨z, hd, vs, rel, dd⟩
theorem d_setItem {H' : Hp} {Q : Unit → Shared → Prop} (hu : A.units + 1 < cLine) (I : Inv X pins σ H s) (g : DPut H a y v H') (ry : RelV y u) (rv : RelV v r) (h : ∀ s', Inv X pins σ H' s' → Q () s') :
    wpAny (model X.prog X.w) A (setItem (.ref a) u r) Q E s := by
  rcases g with ⟨kvs, k, e, ey, l, eH⟩ | ⟨kvs, k, b, e, ey, eb, l, eH⟩
  · subst ey eH
    obtain ⟨z, hd, vs, rel, dd⟩ := dk_of I.hok e
    have hz : vs.length ≤ sizeLine := by rw [← rel.length]; exact z
    have hl : (putK kvs k v).length ≤ sizeLine := by have := length_putK kvs k v; omega
    refine wpAny_setItem_pairs (hsz := hz) (kV_is ry) dd fun h' dd' hs => h _ ?_
    have he : ∃ q, h'.get? a = some q := let ⟨q, _, _, hq, _⟩ := dd'; ⟨q, hq⟩
    exact d_write I (by rw [e]; exact True.intro) hs he (dk_new hl hd (rel.put k rv) dd')
  · subst ey eH
    cases (show u = Value.ref b from ry)
    obtain ⟨z, hd, xs, rel, dd⟩ := dt_of I.hok e
    have hz : xs.length ≤ sizeLine := by rw [← Paired.length rel]; exact z
    have hl : (putK kvs k v).length ≤ sizeLine := by have := length_putK kvs k v; omega
    refine wpAny_setItem_heap (hsz := hz) (tupleKind_room_in1 hu) (key_of I.hok eb) dd fun h' dd' hs => h _ ?_
    obtain ⟨q, es, ep, hq, h2, h3, h4, _, h5⟩ := dd'
    refine d_write I (by rw [e]; exact True.intro) hs ⟨q, hq⟩ ⟨hl, hd, _, (rel.put k eb rv).keeps fun c ys ec => ?_, q, es, ep, hq, h2, h3, h4, h5⟩
    rw [upd_ne (ne_of ec e (fun z => nomatch z))]
    exact ec
end
section
variable {X : Cx} {pins : List (Addr × Obj)} {σ : St} {H : Hp} {s : Shared} {a : Addr} {kvs : List (Key × V)} {k : Key} {u : Value} {A : Around} {E : Value → Shared → Prop}
theorem d_delItem {Q : Unit → Shared → Prop} (I : Inv X pins σ H s) (e : H a = some (.dK kvs)) (ry : RelV (kV k) u) (l : (valV kvs k).isSome = true) (h : ∀ s', Inv X pins σ (upd H a (.dK (dropK kvs k))) s' → Q () s') :
    wpAny (model X.prog X.w) A (delItem (.ref a) u) Q E s := by
  obtain ⟨z, hd, vs, rel, dd⟩ := dk_of I.hok e
  refine wpAny_delItem_slot dd.typeIs (by decide) PySem.F.slot_dict_delitem
    (call_meetsIn PySem.F.slot_dict_delitem dd.typeIs PySem.F.entry_dict_delitem (PySem.F.args_dict_delitem_2 _ _) (meets_dict_delitem_pairs (mixKind X.prog X.w) a (kV_is ry)) ⟨vs, dd, by rw [← rel.length]; exact z, by rw [← (rel.val k).isSome_eq]; exact l, fun h' dd' hs => h _ ?_⟩)
  have he : ∃ q, h'.get? a = some q := let ⟨q, _, _, hq, _⟩ := dd'; ⟨q, hq⟩
  exact d_write I (by rw [e]; exact True.intro) hs he (dk_new (Nat.le_trans (dropK_le kvs k) z) hd (rel.drop k) dd')
theorem d_pop {v : V} {more : List Value} {Q : Value → Shared → Prop} (I : Inv X pins σ H s) (e : H a = some (.dK kvs)) (ry : RelV (kV k) u) (l : valV kvs k = some v) (hm : more = [] ∨ ∃ x, more = [x])
    (h : ∀ w' s', Inv X pins σ (upd H a (.dK (dropK kvs k))) s' → RelV v w' → Q w' s') : wpAny (model X.prog X.w) A (call (.builtin "dict.pop") (.ref a :: u :: more)) Q E s := by
  obtain ⟨z, hd, vs, rel, dd⟩ := dk_of I.hok e
  obtain ⟨w', hw, rw'⟩ := RelO.some_of (v := v) (o := valueAt vs k) (by rw [← l]; exact rel.val k)
  have hp : (keyPart u).isSome = true := by
    cases k with
    | inl i => obtain ⟨t, q⟩ := (show ∃ t, u = Value.int i t from ry); subst q; rfl
    | inr x => obtain ⟨t, q⟩ := (show ∃ t, u = Value.str x t from ry); subst q; rfl
  have ha : argsOk "dict.pop" ⟨.ref a :: u :: more, []⟩ := by
    rcases hm with q | ⟨x, q⟩
    · subst q; exact PySem.F.args_dict_pop_2 _ _
    · subst q; exact PySem.F.args_dict_pop_3 _ _ _
  refine call_meetsIn PySem.F.slot_dict_pop dd.typeIs PySem.F.entry_dict_pop ha (meets_dict_pop_there (mixKind X.prog X.w) a (kV_is ry) more hm hp)
    ⟨vs, w', dd, by rw [← rel.length]; exact z, hw, fun h' dd' hs => h w' _ ?_ rw'⟩
  have he : ∃ q, h'.get? a = some q := let ⟨q, _, _, hq, _⟩ := dd'; ⟨q, hq⟩
  exact d_write I (by rw [e]; exact True.intro) hs he (dk_new (Nat.le_trans (dropK_le kvs k) z) hd (rel.drop k) dd')
theorem d_len {Q : Value → Shared → Prop} (I : Inv X pins σ H s) (e : Rd H a (.dK kvs)) (h : ∀ t s', Inv X pins σ H s' → Q (.int kvs.length t) s') : wpAny (model X.prog X.w) A (call (.builtin "len") [.ref a]) Q E s := by
  obtain ⟨z, hd, vs, rel, dd⟩ := dk_rd I.hok e
  refine call_len_dict hd dd (by rw [← rel.length]; rw [sizeLine_eq] at z; omega) ?_
  rw [← rel.length]
  exact h _ _ (I.tok _)
end
def NoSl (i : Expr) : Prop := ∀ ov iv, subscripted i false ov iv = operate [ov, iv] (getItem ov iv)
theorem subD_of {prog : Program} {w : World} {A : Around} {E : Value → Shared → Prop} {s : Shared} {env : Env} {value slice : Expr} {pos : Pos} {T id : String} {Q : Value → Shared → Prop}
    (hl : typeLookup (.type T) "__getitem__" = pure (some (.builtin id))) (hs : NoSl slice)
    (h : wpAny (model prog w) A (eval value env) (fun o s₁ => wpAny (model prog w) A (eval slice env) (fun i s₂ => s₂.TypeIs o T ∧ wpAny (model prog w) A (getItem o i) Q E s₂) E s₁) E s) :
    wpAny (model prog w) A (eval (.Subscript value slice pos) env) Q E s := by
  refine Subscript_ (wpAny_mono h (fun o s₁ h₁ => wpAny_mono h₁ (fun i s₂ h₂ => ?_) fun _ _ x => x) fun _ _ x => x)
  obtain ⟨hT, h₂⟩ := h₂
  unfold subscriptTail
  refine wpAny_bind ?_
  rw [getitemInPython_of_ne hT.not_modules]
  refine wpAny_bind (wpAny_specialOf hT hl ?_)
  have fin : wpAny (model prog w) A (subscripted slice false o i) (fun r s₃ => wpAny (model prog w) A (letTemporaryGo value o r >>= fun _ => pure r) Q E s₃) E s₂ := by
    rw [hs o i]
    exact wpAny_operating (wpAny_mono h₂ (fun r s₃ h₃ => wpAny_bind (wpAny_letTemporaryGo (wpAny_pure h₃))) fun _ _ x => x)
  first
    | exact wpAny_pure (wpAny_bind fin)
    | exact wpAny_bind (wpAny_pure (wpAny_bind fin))
    | exact wpAny_bind fin
theorem dict_typeIs {X : Cx} {pins : List (Addr × Obj)} {σ : St} {H : Hp} {s : Shared} {a : Addr} {y : V} {o : Option V} (I : Inv X pins σ H s) (g : DGet H a y o) : s.TypeIs (.ref a) "dict" := by
  rcases g with ⟨kvs, k, e, _, _⟩ | ⟨kvs, k, b, e, _, _, _⟩
  · obtain ⟨_, _, vs, _, dd⟩ := dk_rd I.hok e
    exact dd.typeIs
  · obtain ⟨_, _, xs, _, dd⟩ := dt_rd I.hok e
    exact dd.typeIs
def tDGet (td ty : TE) : TE := fun σ H Q => td σ H fun x H1 => ty σ H1 fun y H2 => ∃ a v, x = .ref a ∧ DGet H2 a y (some v) ∧ Q v H2
def tDIn (ty td : TE) : TE := fun σ H Q => ty σ H fun y H1 => td σ H1 fun x H2 => ∃ a o, x = .ref a ∧ DGet H2 a y o ∧ Q (.bl o.isSome) H2
def tDNotIn (ty td : TE) : TE := fun σ H Q => ty σ H fun y H1 => td σ H1 fun x H2 => ∃ a o, x = .ref a ∧ DGet H2 a y o ∧ Q (.bl (!o.isSome)) H2
def sDPut (td ty tv : TE) : TS := fun D σ H => tv σ H fun v H1 => td σ H1 fun x H2 => ty σ H2 fun y H3 => ∃ a H4, x = .ref a ∧ DPut H3 a y v H4 ∧ D.nx σ H4
section
variable {X : Cx} {o i e value : Expr} {pos pos' tpos : Pos} {td ty tv : TE}
theorem pe_dget (hu : X.A.units + 1 < cLine) (ho : PE X o td) (hi : PE X i ty) (hs : NoSl i) : PE X (.Subscript o i pos) (tDGet td ty) := by
  intro pins s σ H Q I h
  refine subD_of PySem.F.slot_dict_getitem.lookup hs (thn (ho pins s σ H _ I h) fun u s1 ⟨x, H1, I1, rx, q1⟩ => thn (hi pins s1 σ H1 _ I1 q1) fun iv s2 ⟨y, H2, I2, ry, a, v, ex, g, q2⟩ => ?_)
  subst ex
  obtain rfl : u = Value.ref a := rx
  exact ⟨dict_typeIs I2 g, d_getItem hu I2 g ry fun w' s3 I3 rw' => ⟨v, H2, I3, rw', q2⟩⟩
theorem pc_din (hu : X.A.units + 1 < cLine) (hi : PE X i ty) (ho : PE X o td) : PC X .In i o (tDIn ty td) := by
  intro pins s σ H Q I h
  refine thn (hi pins s σ H _ I h) fun iv s1 ⟨y, H1, I1, ry, q1⟩ => thn (ho pins s1 σ H1 _ I1 q1) fun u s2 ⟨x, H2, I2, rx, a, ov, ex, g, q2⟩ => ?_
  subst ex
  obtain rfl : u = Value.ref a := rx
  exact d_in hu I2 g ry fun s3 I3 => ⟨.bl ov.isSome, H2, I3, rfl, q2⟩
theorem pc_dnotin (hu : X.A.units + 1 < cLine) (hi : PE X i ty) (ho : PE X o td) : PC X .NotIn i o (tDNotIn ty td) := by
  intro pins s σ H Q I h
  refine thn (hi pins s σ H _ I h) fun iv s1 ⟨y, H1, I1, ry, q1⟩ => thn (ho pins s1 σ H1 _ I1 q1) fun u s2 ⟨x, H2, I2, rx, a, ov, ex, g, q2⟩ => ?_
  subst ex
  obtain rfl : u = Value.ref a := rx
  exact d_notIn hu I2 g ry fun s3 I3 => ⟨.bl (!ov.isSome), H2, I3, rfl, q2⟩
theorem ps_dput (hu : X.A.units + 1 < cLine) (ho : PE X o td) (hi : PE X i ty) (hv : PE X value tv) (hs : swapsWith value (some (.Subscript o i pos')) pos.line X.env = pure false) :
    PS X (.Assign [.Subscript o i pos'] value pos) (sDPut td ty tv) := by
  intro pins s σ H D I h
  refine wpAny_Assign_Subscript (thn (hv pins s σ H _ I h) fun r s1 ⟨v, H1, I1, rv, q1⟩ => thn (ho pins s1 σ H1 _ I1 q1) fun u s2 ⟨x, H2, I2, rx, q2⟩ => thn (hi pins s2 σ H2 _ I2 q2) fun iv s3 ⟨y, H3, I3, ry, a, H4, ex, g, q3⟩ => ?_) hs
  subst ex
  obtain rfl : u = Value.ref a := rx
  exact d_setItem hu I3 g ry rv fun s4 I4 => ⟨σ, H4, I4, q3⟩
end
theorem dk_empty {P : Program} {w : World} {H : Hp} (h : Heap) (hb : sysModules < h.objs.size) : ObjOk P w H (h.push { cls := .type "dict", data := .dict #[] }) h.objs.size (.dK []) :=
  ⟨Nat.zero_le _, beq_eq_false_iff_ne.mpr (Ne.symm (Nat.ne_of_lt hb)), [], .nil, Heap.DictOf.new h⟩
def tDNewK : TE := fun _ H Q => ∀ p, H p = none → Q (.ref p) (upd H p (.dK []))
section
variable {X : Cx} {pos : Pos}
theorem pe_dnewK : PE X (.Dict [] [] pos) tDNewK := fun pins s σ H Q I h =>
  wpAny_Dict_empty ⟨.ref s.heap.objs.size, _, I.laid (a := s.heap.objs.size) (o := .dK []) (t' := s.toks) (fun _ _ q => Heap.get?_push_of_some _ q) (Nat.le_refl _) (dk_empty s.heap I.big), rfl, h _ (I.hok.fresh (Nat.le_refl _))⟩
end
def tPairs : List (TE × TE) → St → Hp → (List (V × V) → Hp → Prop) → Prop
  | [], _, H, Q => Q [] H
  | (tk, tv) :: r, σ, H, Q => tk σ H fun x H1 => tv σ H1 fun y H2 => tPairs r σ H2 fun ps H3 => Q ((x, y) :: ps) H3
abbrev VV : List (V × V) → List (Value × Value) → Prop := Paired fun p q => RelV p.1 q.1 ∧ RelV p.2 q.2
def PPs (X : Cx) (pos : Pos) (keys : List (Option Expr)) (values : List Expr) (trs : List (TE × TE)) : Prop :=
  ∀ (pins : List (Addr × Obj)) (s : Shared) (σ : St) (H : Hp) (Q : List (V × V) → Hp → Prop), Inv X pins σ H s → tPairs trs σ H Q →
    wpAny (model X.prog X.w) X.A (evalPairs (pairTrees keys values X.env pos)) (fun vs s' => ∃ ps H', Inv X pins σ H' s' ∧ VV ps vs ∧ Q ps H') X.xe s
theorem pps_nil {X : Cx} {pos : Pos} : PPs X pos [] [] [] := fun pins s σ H Q I h => pairTrees_nil_walk ⟨[], H, I, .nil, h⟩
theorem pps_cons {X : Cx} {pos : Pos} {k v : Expr} {ks : List (Option Expr)} {vs : List Expr} {tk tv : TE} {trs : List (TE × TE)} (hk : PE X k tk) (hv : PE X v tv) (hr : PPs X pos ks vs trs) :
    PPs X pos (some k :: ks) (v :: vs) ((tk, tv) :: trs) := fun pins s σ H Q I h =>
  pairTrees_cons_walk (thn (hk pins s σ H _ I h) fun u s1 ⟨x, H1, I1, rx, q1⟩ => thn (hv pins s1 σ H1 _ I1 q1) fun w2 s2 ⟨y, H2, I2, ry, q2⟩ =>
    thn (hr pins s2 σ H2 _ I2 q2) fun ws s3 ⟨ps, H3, I3, rel, q3⟩ => ⟨(x, y) :: ps, H3, I3, .cons ⟨rx, ry⟩ rel, q3⟩)
def mergeK (kvs more : List (Key × V)) : List (Key × V) := more.foldl (fun acc kv => putK acc kv.1 kv.2) kvs
theorem KV.merge : ∀ {more : List (Key × V)} {rs : List (Key × Value)} {kvs : List (Key × V)} {vs : List (Key × Value)}, KV more rs → KV kvs vs → KV (mergeK kvs more) (merged vs rs) := by
  intro more rs kvs vs r
  unfold KV at r
  induction r generalizing kvs vs with
  | nil => intro q; exact q
  | @cons p q ps qs h t ih =>
    intro r0
    have e : KV (putK kvs p.1 p.2) (stored vs q.1 q.2) := by
      have := r0.put p.1 h.2
      rw [← h.1]; exact this
    exact ih e
theorem length_mergeK : ∀ (more kvs : List (Key × V)), (mergeK kvs more).length ≤ kvs.length + more.length
  | [], kvs => by show kvs.length ≤ kvs.length + 0; omega
  | p :: r, kvs => by
    have h1 := length_mergeK r (putK kvs p.1 p.2)
    have h2 := length_putK kvs p.1 p.2
    show (mergeK (putK kvs p.1 p.2) r).length ≤ _
    rw [List.length_cons]; omega
theorem carries_of {P : Program} {w : World} : ∀ {kvs : List (Key × V)} {ws : List (Value × Value)}, VV (kvs.map fun kv => (kV kv.1, kv.2)) ws → ∃ rs, Carries (mixKind P w) ws rs ∧ KV kvs rs
  | [], _, r => by rw [List.map_nil] at r; cases r; exact ⟨[], True.intro, .nil⟩
  | p :: kvs, _, r => by
    rw [List.map_cons] at r
    cases r with
    | @cons a b as bs h t =>
      obtain ⟨rs, c, q⟩ := carries_of (P := P) (w := w) t
      obtain ⟨b1, b2⟩ := b
      exact ⟨(p.1, b2) :: rs, ⟨kV_is h.1, rfl, c⟩, .cons ⟨rfl, h.2⟩ q⟩
def tDisp (trs : List (TE × TE)) : TE := fun σ H Q => ∀ p, H p = none → tPairs trs σ (upd H p (.dK [])) fun ps H2 => H2 p = some (.dK []) ∧ ∃ kvs : List (Key × V), ps = kvs.map (fun kv => (kV kv.1, kv.2)) ∧ kvs.length ≤ 15 ∧ Q (.ref p) (upd H2 p (.dK (mergeK [] kvs)))
theorem pe_disp {X : Cx} {pos : Pos} {keys : List (Option Expr)} {values : List Expr} {trs : List (TE × TE)} (h : PPs X pos keys values trs) (hall : keys.all (·.isSome) = true) (hl : keys.length = values.length) (h0 : keys ≠ [])
    (h15 : keys.length ≤ 15) : PE X (.Dict keys values pos) (tDisp trs) := by
  intro pins s σ H Q I q
  have hn := I.hok.fresh (Nat.le_refl s.heap.objs.size)
  have I1 := I.laid (a := s.heap.objs.size) (o := .dK []) (h' := s.heap.push { cls := .type "dict", data := .dict #[] }) (t' := s.toks) (fun _ _ q => Heap.get?_push_of_some _ q) (Nat.le_refl _) (dk_empty s.heap I.big)
  refine wpAny_Dict_walk (knd := mixKind X.prog X.w) hall hl h0 h15 (thn (h pins _ σ _ _ I1 (q _ hn)) fun ws s2 ⟨ps, H2, I2, rel, e, kvs, ep, lk, q2⟩ => ?_)
  subst ep
  obtain ⟨rs, c, rk⟩ := carries_of (P := X.prog) (w := X.w) rel
  obtain ⟨z, hd, vs0, r0, dd⟩ := dk_of I2.hok e
  cases r0
  refine ⟨rs, c, dd, fun h' dd' hs => ⟨.ref s.heap.objs.size, _, ?_, rfl, q2⟩⟩
  have hz : (mergeK [] kvs).length ≤ sizeLine := by
    have h1 := length_mergeK kvs []
    rw [List.length_nil] at h1
    rw [sizeLine_eq]; omega
  have he : ∃ q, h'.get? s.heap.objs.size = some q := let ⟨q, _, _, hq, _⟩ := dd'; ⟨q, hq⟩
  exact d_write I2 (by rw [e]; exact True.intro) hs he (dk_new hz hd (rk.merge .nil) dd')
structure M1 (X : Cx) (o : Expr) (m : Str) (apos : Pos) (e : Expr) (cpos : Pos) : Prop where
  base : attributeBase o m X.env (eval o X.env) = eval o X.env
  few : ((backTo cpos (starEach [e] X.env)).all (fun x => !x.1) && (backToKw cpos (keywordEach [] X.env)).all (fun x => x.1.isSome)
    && decide (([e] : List Expr).length + ([] : List Keyword).length + (if ([] : List Keyword).isEmpty then 0 else 1) < 30)) = true
  line : (apos.endLine == cpos.line) = true
  trees : backTo cpos (starEach [e] X.env) = [(false, eval e X.env)]
structure M2 (X : Cx) (o : Expr) (m : Str) (apos : Pos) (e f : Expr) (cpos : Pos) : Prop where
  base : attributeBase o m X.env (eval o X.env) = eval o X.env
  few : ((backTo cpos (starEach [e, f] X.env)).all (fun x => !x.1) && (backToKw cpos (keywordEach [] X.env)).all (fun x => x.1.isSome)
    && decide (([e, f] : List Expr).length + ([] : List Keyword).length + (if ([] : List Keyword).isEmpty then 0 else 1) < 30)) = true
  line : (apos.endLine == cpos.line) = true
  trees : backTo cpos (starEach [e, f] X.env) = [(false, eval e X.env), (false, eval f X.env)]
def IsD (H : Hp) (a : Addr) : Prop := (∃ kvs, Rd H a (.dK kvs)) ∨ ∃ kvs, Rd H a (.dT kvs)
theorem isD_at {X : Cx} {pins : List (Addr × Obj)} {σ : St} {H : Hp} {s : Shared} {a : Addr} (I : Inv X pins σ H s) (d : IsD H a) :
    s.TypeIs (.ref a) "dict" ∧ (∀ b, Value.ref a = .ref b → ∃ ob, s.heap.get? b = some ob ∧ ob.dict = none) ∧ (a == sysModules) = false := by
  rcases d with ⟨kvs, e⟩ | ⟨kvs, e⟩
  · obtain ⟨_, hd, vs, _, dd⟩ := dk_rd I.hok e
    refine ⟨dd.typeIs, fun b q => ?_, hd⟩
    cases q
    obtain ⟨ob, _, _, h1, h2, _⟩ := dd
    exact ⟨ob, h1, h2.2.1⟩
  · obtain ⟨_, hd, xs, _, dd⟩ := dt_rd I.hok e
    refine ⟨dd.typeIs, fun b q => ?_, hd⟩
    cases q
    obtain ⟨ob, _, _, h1, h2, _⟩ := dd
    exact ⟨ob, h1, h2.2.1⟩
section
variable {X : Cx} {pins : List (Addr × Obj)} {σ : St} {H : Hp} {s : Shared} {a : Addr} {y d : V} {u r : Value} {o : Option V} {A : Around} {E : Value → Shared → Prop}
end
def tDPop1 (td ty : TE) : TE := fun σ H Q => td σ H fun x H1 => ∃ a, x = .ref a ∧ IsD H1 a ∧ ty σ H1 fun y H2 => ∃ kvs k v, H2 a = some (.dK kvs) ∧ y = kV k ∧ valV kvs k = some v ∧ Q v (upd H2 a (.dK (dropK kvs k)))
section
variable {X : Cx} {o e f : Expr} {apos cpos : Pos} {td ty tx : TE}
theorem pe_dpop1 (ho : PE X o td) (he : PE X e ty) (m : M1 X o "pop" apos e cpos) : PE X (.Call (.Attribute o "pop" apos) [e] [] cpos) (tDPop1 td ty) := by
  intro pins s σ H Q I h
  refine wpAny_Call_method m.base m.few m.line PySem.F.plainAttrs_dict PySem.F.slot_dict_pop PySem.F.type_dict_pop (thn (ho pins s σ H _ I h) fun u s1 ⟨x, H1, I1, rx, a, ex, d, q1⟩ => ?_)
  subst ex
  obtain rfl : u = Value.ref a := rx
  obtain ⟨t1, t2, _⟩ := isD_at I1 d
  refine ⟨t1, t2, ?_⟩
  rw [m.trees]
  refine Calls.callWith_builtin rfl (Calls.evalArgs_plain (Calls.spliced_cons (thn (he pins s1 σ H1 _ I1 q1) fun iv s2 ⟨y, H2, I2, ry, kvs, k, v, ea, ey, l, q2⟩ => Calls.spliced_nil ?_)))
  subst ey
  exact d_pop I2 ea ry l (.inl rfl) fun w' s3 I3 rw' => ⟨v, _, I3, rw', q2⟩
end
section
variable {X : Cx} {pins : List (Addr × Obj)} {σ : St} {H : Hp} {s : Shared} {a : Addr} {kvs : List (Key × V)} {A : Around} {E : Value → Shared → Prop}
end
section
variable {X : Cx} {pins : List (Addr × Obj)} {σ : St} {H : Hp} {s : Shared} {a : Addr} {y : V} {u : Value} {A : Around} {E : Value → Shared → Prop}
end
end L2
namespace L2
open PySem PySem.Spec PyProof.Rows
theorem ud_entry : entryFor table "dict.update.loop" = some Builtin.«dict.update.loop» := entryFor_of_tree (by kernel_rfl)
theorem ud_plain : plainId "dict.update.loop" = true := by decide +kernel
section
variable {prog : Program} {w : World} {A : Around} {E : Value → Shared → Prop}
end
section
variable {X : Cx}
end
end L2
namespace L2
open PySem PySem.Spec PyProof.Rows
theorem boot_reversed5 : bootBuiltins "reversed" = some (.type "reversed") := by decide +kernel
section
variable {X : Cx} {pins : List (Addr × Obj)} {σ : St} {H : Hp} {s : Shared} {h' : Heap}
theorem Inv.lock {d : Addr} {u : HO} (I : Inv X pins σ H s) (h : H d = some u) (mu : Mut (some u)) : ∃ od, Inv X pins σ (upd H d (.frz od u)) s := by
  have x := I.hok d u h
  have ex : ∃ od, s.heap.get? d = some od := by
    cases u with
    | lst xs => obtain ⟨_, _, _, _, e⟩ := x; exact ⟨_, e⟩
    | dK kvs => obtain ⟨_, _, _, _, o, _, _, e, _⟩ := x; exact ⟨o, e⟩
    | dT kvs => obtain ⟨_, _, _, _, o, _, _, e, _⟩ := x; exact ⟨o, e⟩
    | set S n => obtain ⟨o, _, _, _, e, _⟩ := x; exact ⟨o, e⟩
    | ins C dx fs => obtain ⟨_, _, _, e, _⟩ := x; exact ⟨_, e⟩
    | ext φ => obtain ⟨_, ⟨_, e⟩, _⟩ := x; exact ⟨_, e⟩
    | _ => exact False.elim mu
  obtain ⟨od, e⟩ := ex
  have new : ObjOk X.prog X.w (upd H d (.frz od u)) s.heap d (.frz od u) := by
    refine ⟨e, x.stay (fun b v _ q => q) (fun b q => ?_) fun b xs q => ?_⟩
    · rw [upd_ne (fun z => by rw [z, h] at q; cases q; exact mu)]; exact q
    · rw [upd_ne (fun z => by rw [z, h] at q; cases q; exact mu)]; exact q
  exact ⟨od, I.write (x := d) (e := d) (t' := s.toks) (h' := s.heap) (by rw [h]; exact mu) (.inl rfl) (fun b v _ q => q) ⟨od, e⟩ new⟩
theorem Inv.nofrz {d : Addr} {u : HO} (I : Inv X pins σ H s) (h : H d = some u) (mu : Mut (some u)) : ∀ o' u', X.H₀ d ≠ some (.frz o' u') := fun o' u' e => by
  have q := I.base.frzs d o' u' e
  rw [h] at q
  cases q
  exact mu
theorem Inv.unlock {d : Addr} {od : Obj} {u : HO} (I : Inv X pins σ H s) (h : H d = some (.frz od u)) (hn : ∀ o' u', X.H₀ d ≠ some (.frz o' u')) : Inv X pins σ (upd H d u) s := by
  have neH : ∀ b o, H b = some o → (∀ o' u', o ≠ .frz o' u') → b ≠ d := fun b o e hne z => by
    rw [z, h] at e
    cases e
    exact hne _ _ rfl
  have neN : ∀ b, H b = none → b ≠ d := fun b e z => by rw [z, h] at e; cases e
  refine ⟨I.ok, I.os, I.bare, ⟨I.base.keep, I.base.slot, fun b o e n hx => ?_, I.base.there, fun b xs e => ?_, fun b o x e => ?_, fun b ps e => ?_⟩, I.loc, I.cell, ?_, fun x c e => ?_, fun p hp => ?_, fun b o e => ?_, I.len⟩
  · rw [upd_ne (neN b (I.base.free b o e n hx))]; exact I.base.free b o e n hx
  · have q := I.base.tups b xs e
    rw [upd_ne (neH b _ q (fun _ _ z => nomatch z))]; exact q
  · have q := I.base.frzs b o x e
    rw [upd_ne (fun z => by rw [z] at e; exact hn _ _ e)]; exact q
  · obtain ⟨m, q⟩ := I.base.tbls b ps e
    exact ⟨m, by rw [upd_ne (neH b _ q (fun _ _ z => nomatch z))]; exact q⟩
  · rw [upd_ne (neN _ I.free)]; exact I.free
  · rw [upd_ne (neN c (I.freeC x c e))]; exact I.freeC x c e
  · obtain ⟨e, n, r⟩ := I.pin p hp
    exact ⟨e, by rw [upd_ne (neN _ n)]; exact n, r⟩
  · by_cases hb : b = d
    · rw [hb, upd_same] at e
      cases e
      rw [hb]
      obtain ⟨_, x⟩ := I.hok d _ h
      exact x.stay (fun c v _ q => q) (fun c q => by rw [upd_ne (neH c _ q (fun _ _ z => nomatch z))]; exact q) fun c xs q => by rw [upd_ne (neH c _ q (fun _ _ z => nomatch z))]; exact q
    · rw [upd_ne hb] at e
      exact (I.hok b o e).stay (fun c v _ q => q) (fun c q => by rw [upd_ne (neH c _ q (fun _ _ z => nomatch z))]; exact q) fun c xs q => by rw [upd_ne (neH c _ q (fun _ _ z => nomatch z))]; exact q
end
def tLock (t : TS) : TS := fun D σ H => ∃ d u, H d = some u ∧ Mut (some u) ∧ ∀ od, t ⟨fun σ' H' => H' d = some (.frz od u) ∧ D.nx σ' (upd H' d u), fun v H' => H' d = some (.frz od u) ∧ D.rt v (upd H' d u), fun σ' H' => H' d = some (.frz od u) ∧ D.bk σ' (upd H' d u), fun σ' H' => H' d = some (.frz od u) ∧ D.ct σ' (upd H' d u)⟩ σ (upd H d (.frz od u))
section
variable {X : Cx}
theorem ps_lock {st : Stmt} {t : TS} (h : PS X st t) : PS X st (tLock t) := by
  intro pins s σ H D I hw
  obtain ⟨d, u, hd, mu, hw⟩ := hw
  obtain ⟨od, I1⟩ := I.lock hd mu
  refine thn (h pins s σ _ _ I1 (hw od)) fun f s1 q => ?_
  cases f with
  | next => obtain ⟨σ', H', I2, e, q⟩ := q; exact ⟨σ', _, I2.unlock e (I.nofrz hd mu), q⟩
  | brk => obtain ⟨σ', H', I2, e, q⟩ := q; exact ⟨σ', _, I2.unlock e (I.nofrz hd mu), q⟩
  | cont => obtain ⟨σ', H', I2, e, q⟩ := q; exact ⟨σ', _, I2.unlock e (I.nofrz hd mu), q⟩
  | ret v => obtain ⟨x, σ', H', I2, r, e, q⟩ := q; exact ⟨x, σ', _, I2.unlock e (I.nofrz hd mu), r, q⟩
theorem pi_one {tg : Expr} {pins : List (Addr × Obj)} {σ : St} {H : Hp} {s : Shared} {R : It → Hp → Prop} {J : It} {tn : Nat → Heap → Prop} {tk : Nat} (I : Inv X pins σ H s) (o : Obj)
    (T : Turn X.prog X.w X.K tg J [s.heap.objs.size] s.heap.objs.size tn) (st : tn 0 (s.heap.push o)) (q : R J H) : PIE X pins σ tg R (.ref s.heap.objs.size) { s with heap := s.heap.push o, toks := tk } := by
  refine ⟨s.heap.objs.size, [s.heap.objs.size], tn, J, H, rfl, I.kept fun b ob e => Heap.get?_push_of_some _ e, T, st, fun b hb => ?_, q⟩
  have e : b = s.heap.objs.size := by simpa using hb
  subst e
  exact I.fpOk (Nat.le_refl _) (I.hok.fresh (Nat.le_refl _))
end
def RgC (i j c : Int) (n : Nat) : Prop := c ≠ 0 ∧ c.natAbs < 1073741824 ∧ Builtin.Range.small i j c = true ∧ Builtin.Range.rangeSize i j c = n
theorem RgC.neg {i j : Int} (ha : -(2 ^ 62) ≤ i) (ha' : i < 2 ^ 62) (hb : -(2 ^ 62) ≤ j) (hb' : j < 2 ^ 62) : RgC i j (-1) (i - j).toNat :=
  ⟨by decide, by decide, PySem.W.small_down ha ha' hb hb', PySem.W.rangeSize_downNat i j⟩
section
variable {X : Cx} {tg : Expr}
end
def Itv (K : PySem.W.Frag) (a : Addr) (n : Nat) : It :=
  ⟨fun i H => i < n ∧ ∃ (xs : List V) (x : V), SqL K H a xs ∧ xs[n - 1 - i]? = some x, fun i H x H' => H' = H ∧ ∀ xs, SqL K H a xs → xs[n - 1 - i]? = some x, fun i _ => n ≤ i⟩
theorem turn_rev {P : Program} {w : World} {K : PySem.W.Frag} {tg : Expr} (a it : Addr) (n : Nat) : Turn P w K tg (Itv K a n) [it] it (fun i h => i ≤ n ∧ h.IsRevIter it a ((n : Int) - 1 - (i : Nat))) where
  mem := by simp
  obj := fun i h st b hb => by
    have e : b = it := by simpa using hb
    subst e
    obtain ⟨_, o, e, c, d⟩ := st
    exact ⟨o, e, fun v z => by rw [d] at z; cases z⟩
  keep := fun i h h' st k => ⟨st.1, st.2.at fun o e => k it (by simp) o e⟩
  item := by
    intro X hP hw hK hc i pins s σ H E I hf st hg
    subst hP hw hK
    obtain ⟨hin, xs, x, hq, hx⟩ := hg
    obtain ⟨its, rv, p, hz⟩ := I.list hq
    obtain ⟨u, hu, ru⟩ := rv.get hx
    obtain ⟨f0, f1, f2, f3, f4, f5⟩ := hf it (by simp)
    obtain ⟨_, hit⟩ := st
    have e1 : (n : Int) - 1 - ((i : Nat) : Int) = ((n - 1 - i : Nat) : Int) := by omega
    rw [e1] at hit
    refine wpAny_pyNext_rev_item hit p.isList (x := u) (by simpa using hu) fun h' st' sb => ?_
    have e2 : ((n - 1 - i : Nat) : Int) - 1 = (n : Int) - 1 - ((i + 1 : Nat) : Int) := by omega
    rw [e2] at st'
    have I1 : Inv X pins σ H { s with heap := h' } := I.turned (t' := s.toks) (fun b o hb e => (sb.2 b hb).trans e) f0 f1 f3 f4 f5
    obtain ⟨o, e, c, d⟩ := id st'
    exact ⟨u, rfl, go_of (s := { s with heap := h' }) e c d (by decide) ⟨x, H, I1, ru, ⟨rfl, fun ys hy => by rw [I.list_inj hy hq]; exact hx⟩, ⟨hin, st'⟩, fun b hb => (hf b hb).1⟩⟩
  done := by
    intro X hP hw hK hc i pins s σ H E I hf st hg
    subst hP hw hK
    obtain ⟨f0, f1, f2, f3, f4, f5⟩ := hf it (by simp)
    obtain ⟨hin, hit⟩ := st
    have hge : n ≤ i := hg
    have e1 : (n : Int) - 1 - ((i : Nat) : Int) = -1 := by omega
    rw [e1] at hit
    exact wpAny_pyNext_rev_end (I.ok.hd hc) hit fun h' eb => ⟨rfl, I.turned (t' := s.toks) (fun b o hb e => eb b o hb e) f0 f1 f3 f4 f5⟩
  self := fun A i s Q E st h => wpAny_pyIter_revIter st.2 h
def iRev (K : PySem.W.Frag) (ta : TA) : TI := fun σ H R => ta σ H fun vs H1 => ∃ (a : Addr) (xs : List V), vs = [.ref a] ∧ SqL K H1 a xs ∧ R (Itv K a xs.length) H1
section
variable {X : Cx} {tg : Expr}
theorem pi_reversed {e : Expr} {ta : TA} {p pos : Pos} (hg : Gl X "reversed") (hm : X.mg "reversed" = none) (ha : PA X [e] ta) (hs : starEach [e] X.env = [(false, eval e X.env)] := by rfl) : PI X tg (.Call (.Name "reversed" p) [e] [] pos) (iRev X.K ta) := by
  intro pins s σ H R I h
  refine Call_ (ld_blt I hg hm boot_reversed5 (PyProof.Rows.callWith_type1 (thn (ha pos pins s σ H _ I h) fun us s1 ⟨vs, H1, I1, r1, q1⟩ => ?_) hs rfl))
  obtain ⟨a, xs, e, hq, q⟩ := q1
  subst e
  cases r1 with
  | cons r rr =>
    cases rr
    cases r
    obtain ⟨its, rv, p', hz⟩ := I1.list hq
    have hl := rv.length
    have e1 : ((its.toArray.size : Nat) : Int) - 1 = (xs.length : Int) - 1 - ((0 : Nat) : Int) := by simp only [List.size_toArray]; omega
    refine call_reversed_list p'.isList (wpAny_pyIter_revIter (l := a) (i := ((its.toArray.size : Nat) : Int) - 1) ⟨_, Heap.get?_push_size _ rfl, rfl, rfl⟩ ?_)
    refine pi_one (tk := s1.toks) I1 _ (turn_rev a _ xs.length) ⟨Nat.zero_le _, ?_⟩ q
    rw [← e1]
    exact ⟨_, Heap.get?_push_size _ rfl, rfl, rfl⟩
end
section
variable {prog : Program} {w : World} {A : Around} {E : Value → Shared → Prop} {s : Shared}
theorem iter_keys {d : Addr} {o : Obj} {es : Array DictEntry} {ep : Nat} {Q : Value → Shared → Prop} (hd : (d == sysModules) = false) (ho : s.heap.get? d = some o) (hc : o.ExactDict) (hdat : o.data = .dict es ep)
    (hQ : Q (.ref s.heap.objs.size) { s with heap := s.heap.push { cls := .type "dict_keyiterator", data := .fields #[.ref d, .int 0 0, .int es.size 0, .int ep 0] } }) :
    wpAny (model prog w) A (pyIter (.ref d)) Q E s := by
  have hT : s.TypeIs (.ref d) "dict" := ⟨o, ho, hc.1⟩
  refine wpAny_pyIter_slot hT F.slot_dict_iter (wpAny_call_entry F.slot_dict_iter hT F.entry_dict_iter ?_ (F.args_dict_iter_1 _))
  unfold Builtin.«dict.__iter__»
  refine wpAny_bind ?_
  unfold Builtin.Dict.dictSlotNone
  refine wpAny_bind (wpAny_notOrdered_dict hT ?_)
  show wpAny _ _ (pure (Value.ref d)) _ _ s
  refine wpAny_pure ?_
  show wpAny _ _ (Builtin.Dict.showsAll d >>= _) _ _ s
  unfold Builtin.Dict.showsAll
  rw [if_neg (by rw [hd]; exact Bool.false_ne_true)]
  refine wpAny_bind (wpAny_pure ?_)
  refine wpAny_bind (wpAny_dictEntries ho hdat ?_)
  refine wpAny_bind (wpAny_dictEpoch ho hdat ?_)
  refine wpAny_bind (wpAny_newObj_type (wpAny_pure ⟨_, rfl, "dict_keyiterator", _, ⟨_, Heap.get?_push_size _ rfl, rfl⟩, F.slot_dict_keyiterator_next.lookup, ?_⟩))
  simpa [rawInt] using hQ
theorem next_key_item {it d : Addr} {i n ep : Nat} {od : Obj} {es : Array DictEntry} {en : DictEntry} {Q : Option Value → Shared → Prop} (hit : s.heap.IsKeyIter it d i n ep) (hod : s.heap.get? d = some od) (hdd : od.data = .dict es ep)
    (hsz : es.size = n) (hx : es[i]? = some en) (hQ : ∀ h', h'.IsKeyIter it d (i + 1) n ep → Heap.SameBut it s.heap h' → Q (some en.key) { s with heap := h' }) : wpAny (model prog w) A (pyNext (.ref it)) Q E s := by
  obtain ⟨o, ho, hc, hd⟩ := id hit
  unfold pyNext
  refine wpAny_bind (wpAny_attempt (wpAny_callSpecial?_slot (name := Str.ofString "__next__") hit.typeIs F.slot_dict_keyiterator_next
    (wpAny_call_entry F.slot_dict_keyiterator_next hit.typeIs F.entry_dict_keyiterator_next ?_ (F.args_dict_keyiterator_next_1 _))))
  refine wpAny_bind (wpAny_pure ?_)
  refine wpAny_bind ?_
  refine wpAny_bind ?_
  first | refine wpAny_bind (wpAny_typeNameOfWhole_keyiter hit.typeIs (wpAny_pure ?_)) | refine wpAny_bind (wpAny_typeNameOf_keyiter hit.typeIs (wpAny_pure ?_))
  refine wpAny_bind (wpAny_fieldsOf ho hd ?_)
  have hown : Builtin.Dict_items.ownsTuple "dict_keyiterator" = false := by decide
  simp only [hown, Bool.false_eq_true, if_false]
  show wpAny _ _ (if (Value.ref d == Value.none) = true then _ else _) _ _ s
  rw [if_neg (show ¬ ((Value.ref d == Value.none) = true) from Bool.false_ne_true)]
  refine wpAny_bind (wpAny_pure ?_)
  refine wpAny_bind (wpAny_dictEntries hod hdd ?_)
  rw [if_neg (by rw [hsz]; simp)]
  refine wpAny_bind (wpAny_pure ?_)
  refine wpAny_bind (wpAny_dictEpoch hod hdd ?_)
  rw [if_neg (by simp)]
  refine wpAny_pure ?_
  obtain ⟨hlt', hen⟩ := Array.getElem?_eq_some_iff.mp hx
  simp only [show ¬ ((i : Int) < 0) from by omega, if_false, Int.toNat_natCast, Array.getElem?_eq_getElem hlt']
  refine wpAny_bind ?_
  first | refine wpAny_bind (wpAny_typeNameOfWhole_keyiter hit.typeIs (wpAny_pure ?_)) | refine wpAny_bind (wpAny_typeNameOf_keyiter hit.typeIs (wpAny_pure ?_))
  refine wpAny_bind (wpAny_isOneOf_keyiter hit.typeIs ?_)
  show wpAny _ _ (setField (.ref it) 1 (rawInt ((i : Int) + 1)) >>= _) _ _ s
  refine wpAny_bind (wpAny_setField ho hd (by simp) ?_)
  have hit' : (s.heap.update it (Obj.mapFields (·.setIfInBounds 1 (rawInt ((i : Int) + 1))))).IsKeyIter it d (i + 1) n ep :=
    ⟨_, Heap.get?_update_self _ ho (Obj.isFreed_of_fields (Obj.data_mapFields hd _)), (Obj.cls_mapFields ..).trans hc, by rw [Obj.data_mapFields hd]; simp [rawInt]⟩
  refine wpAny_bind (wpAny_holding ?_)
  refine wpAny_bind (wpAny_isOneOf_keyiter (s := { s with heap := s.heap.update it (Obj.mapFields (·.setIfInBounds 1 (rawInt ((i : Int) + 1)))) }) hit'.typeIs ?_)
  show wpAny _ _ (pure es[i].key) _ _ _
  rw [hen]
  exact wpAny_pure (wpAny_pure ⟨_, rfl, wpAny_pure (hQ _ hit' (Heap.SameBut.update ..))⟩)
theorem next_key_end {it d : Addr} {i n ep : Nat} {od : Obj} {es : Array DictEntry} {Q : Option Value → Shared → Prop} (hh : A.handled = none) (hit : s.heap.IsKeyIter it d i n ep) (hod : s.heap.get? d = some od) (hdd : od.data = .dict es ep)
    (hsz : es.size = n) (hge : n ≤ i) (hQ : ∀ h', Heap.ExtBut it s.heap h' → Q none { s with heap := h' }) : wpAny (model prog w) A (pyNext (.ref it)) Q E s := by
  obtain ⟨o, ho, hc, hd⟩ := id hit
  unfold pyNext
  refine wpAny_bind (wpAny_attempt (wpAny_callSpecial?_slot (name := Str.ofString "__next__") hit.typeIs F.slot_dict_keyiterator_next
    (wpAny_call_entry F.slot_dict_keyiterator_next hit.typeIs F.entry_dict_keyiterator_next ?_ (F.args_dict_keyiterator_next_1 _))))
  refine wpAny_bind (wpAny_pure ?_)
  refine wpAny_bind ?_
  refine wpAny_bind ?_
  first | refine wpAny_bind (wpAny_typeNameOfWhole_keyiter hit.typeIs (wpAny_pure ?_)) | refine wpAny_bind (wpAny_typeNameOf_keyiter hit.typeIs (wpAny_pure ?_))
  refine wpAny_bind (wpAny_fieldsOf ho hd ?_)
  have hown : Builtin.Dict_items.ownsTuple "dict_keyiterator" = false := by decide
  simp only [hown, Bool.false_eq_true, if_false]
  show wpAny _ _ (if (Value.ref d == Value.none) = true then _ else _) _ _ s
  rw [if_neg (show ¬ ((Value.ref d == Value.none) = true) from Bool.false_ne_true)]
  refine wpAny_bind (wpAny_pure ?_)
  refine wpAny_bind (wpAny_dictEntries hod hdd ?_)
  rw [if_neg (by rw [hsz]; simp)]
  refine wpAny_bind (wpAny_pure ?_)
  refine wpAny_bind (wpAny_dictEpoch hod hdd ?_)
  rw [if_neg (by simp)]
  refine wpAny_pure ?_
  have hge' : es.size ≤ i := by rw [hsz]; exact hge
  simp only [show ¬ ((i : Int) < 0) from by omega, if_false, Int.toNat_natCast, Array.getElem?_eq_none hge']
  refine wpAny_bind ?_
  first | refine wpAny_bind (wpAny_typeNameOfWhole_keyiter hit.typeIs (wpAny_pure ?_)) | refine wpAny_bind (wpAny_typeNameOf_keyiter hit.typeIs (wpAny_pure ?_))
  show wpAny _ _ (setField (.ref it) 0 .none >>= _) _ _ s
  refine wpAny_bind (wpAny_setField ho hd (by simp) ?_)
  show wpAny _ _ (newExc (.type "StopIteration") [] >>= _) _ _ _
  refine wpAny_bind ?_
  simp only [newExc, newTuple]
  refine wpAny_bind (wpAny_newObj_type ?_ (by size_fits))
  refine wpAny_bind (m := firstArgMember _ _) (wpAny_of_eq (a := Value.none) (by first | rfl | (simp only [firstArgMember]; rfl)) ?_)
  refine wpAny_newObj_type ?_ (by size_fits)
  simp only [raiseNew]
  refine wpAny_bind (wpAny_handled ?_)
  rw [show A.in1.handled = none from hh]
  refine wpAny_bind (wpAny_pure (wpAny_throw ?_))
  refine wpAny_bind (wpAny_isInstance (T := "StopIteration") (b := true) ⟨_, Heap.get?_push_size _ rfl, rfl⟩ isSubtype_stop ?_)
  exact wpAny_pure (hQ _ (((Heap.SameBut.update ..).extBut.push _).push _))
end
theorem kv_get {κ : Type} {kvs : List (κ × V)} {vs : List (κ × Value)} (h : KV kvs vs) : ∀ {i : Nat} {k : κ} {v : V}, kvs[i]? = some (k, v) → ∃ u, vs[i]? = some (k, u) ∧ RelV v u := by
  unfold KV at h
  induction h with
  | nil => intro i k v e; simp at e
  | @cons a b l₁ l₂ r t ih =>
    intro i k v e
    cases i with
    | zero =>
      simp only [List.getElem?_cons_zero, Option.some.injEq] at e
      subst e
      refine ⟨b.2, ?_, r.2⟩
      simp only [List.getElem?_cons_zero]
      exact congrArg some (Prod.ext r.1.symm rfl)
    | succ j =>
      simp only [List.getElem?_cons_succ] at e ⊢
      exact ih e
theorem paired_get {α β : Type} {G : α → β → Prop} {l₁ : List α} {l₂ : List β} (h : Paired G l₁ l₂) : ∀ {i : Nat} {a : α}, l₁[i]? = some a → ∃ b, l₂[i]? = some b ∧ G a b := by
  induction h with
  | nil => intro i a e; simp at e
  | @cons a b l₁ l₂ r t ih =>
    intro i a' e
    cases i with
    | zero =>
      simp only [List.getElem?_cons_zero, Option.some.injEq] at e
      subst e
      exact ⟨b, rfl, r⟩
    | succ j =>
      simp only [List.getElem?_cons_succ] at e ⊢
      exact ih e
theorem relV_key {k : Key} {u : Value} (h : keyIs k u = true) : RelV (kV k) u := by
  rcases keyIs_shape h with ⟨i, t, rfl, rfl⟩ | ⟨x, t, rfl, rfl⟩
  · exact ⟨t, rfl⟩
  · exact ⟨t, rfl⟩
section
variable {X : Cx} {pins : List (Addr × Obj)} {σ : St} {H : Hp} {s : Shared} {d : Addr} {o : Obj}
theorem Inv.frzK {kvs : List (Key × V)} (I : Inv X pins σ H s) (h : H d = some (.frz o (.dK kvs))) :
    (d == sysModules) = false ∧ s.heap.get? d = some o ∧ o.ExactDict ∧ ∃ (es : Array DictEntry) (ep : Nat) (vs : List (Key × Value)), o.data = .dict es ep ∧ es.size = kvs.length ∧ KV kvs vs ∧ s.heap.DictAt (mixKind X.prog X.w) d vs ep := by
  obtain ⟨hd, z, hs, vs, kv, o', es, ep, ho, hx, hdt, r⟩ := I.hok d _ h
  rw [hd] at ho
  cases ho
  refine ⟨hs, hd, hx, es, ep, vs, hdt, ?_, kv, o, es, hd, hx, hdt, r⟩
  have l1 := r.2.1.length
  have l2 : kvs.length = vs.length := Paired.length kv
  rw [Array.length_toList] at l1
  omega
theorem Inv.frzT {kvs : List (List Key × V)} (I : Inv X pins σ H s) (h : H d = some (.frz o (.dT kvs))) :
    (d == sysModules) = false ∧ s.heap.get? d = some o ∧ o.ExactDict ∧ ∃ (es : Array DictEntry) (ep : Nat), o.data = .dict es ep ∧ es.size = kvs.length ∧
      ∀ (i : Nat) (k : List Key) (v : V), kvs[i]? = some (k, v) → ∃ (en : DictEntry) (q : Addr), es[i]? = some en ∧ en.key = .ref q ∧ H q = some (.tup (k.map kV)) := by
  obtain ⟨hd, z, hs, xs, pr, o', es, ep, ho, hx, hdt, he, _⟩ := I.hok d _ h
  rw [hd] at ho
  cases ho
  refine ⟨hs, hd, hx, es, ep, hdt, ?_, fun i k v e => ?_⟩
  · have l1 : es.size = xs.length := size_of_entries he
    have l2 : kvs.length = xs.length := Paired.length pr
    omega
  · obtain ⟨b, hb, e1, e2, _⟩ := paired_get pr e
    have q := entry_at he i
    rw [hb] at q
    exact ⟨_, b.2.1, q, rfl, e2⟩
end
def Itk (d : Addr) (o : Obj) (kvs : List (Key × V)) : It :=
  ⟨fun i H => H d = some (.frz o (.dK kvs)) ∧ i < kvs.length, fun i H x H' => H' = H ∧ ∃ k v, kvs[i]? = some (k, v) ∧ x = kV k, fun i H => H d = some (.frz o (.dK kvs)) ∧ kvs.length ≤ i⟩
def Itkt (d : Addr) (o : Obj) (kvs : List (List Key × V)) : It :=
  ⟨fun i H => H d = some (.frz o (.dT kvs)) ∧ i < kvs.length, fun i H x H' => H' = H ∧ ∃ (k : List Key) (v : V) (q : Addr), kvs[i]? = some (k, v) ∧ x = .ref q ∧ H q = some (.tup (k.map kV)), fun i H => H d = some (.frz o (.dT kvs)) ∧ kvs.length ≤ i⟩
theorem dict_ep {o : Obj} {es es' : Array DictEntry} {ep ep' : Nat} (h : o.data = .dict es ep) (h' : o.data = .dict es' ep') : es' = es ∧ ep' = ep := by
  rw [h] at h'
  cases h'
  exact ⟨rfl, rfl⟩
section
variable {P : Program} {w : World} {K : PySem.W.Frag} {tg : Expr} {d : Addr} {o : Obj} {es : Array DictEntry} {ep : Nat}
theorem turn_keys {kvs : List (Key × V)} (it : Addr) (hod : o.data = .dict es ep) : Turn P w K tg (Itk d o kvs) [it] it (fun i h => h.IsKeyIter it d i kvs.length ep) where
  mem := by simp
  obj := fun i h st b hb => by
    have e : b = it := by simpa using hb
    subst e
    obtain ⟨oi, e, c, dd⟩ := st
    exact ⟨oi, e, fun v z => by rw [dd] at z; cases z⟩
  keep := fun i h h' st k => st.at fun oi e => k it (by simp) oi e
  item := by
    intro X hP hw hK hc i pins s σ H E I hf st hg
    subst hP hw hK
    obtain ⟨hd, hi⟩ := hg
    obtain ⟨f0, f1, f2, f3, f4, f5⟩ := hf it (by simp)
    obtain ⟨hs, hgd, hx, es', ep', vs, hdt, hsz, kv, hm⟩ := I.frzK hd
    obtain ⟨rfl, rfl⟩ := dict_ep hod hdt
    obtain ⟨⟨k, v⟩, hkv⟩ : ∃ p, kvs[i]? = some p := ⟨kvs[i], List.getElem?_eq_getElem hi⟩
    obtain ⟨u, hu, ru⟩ := kv_get kv hkv
    have hl : kvs.length = vs.length := Paired.length kv
    rw [hl] at st
    refine wpAny_pyNext_dict_item st hm hu fun key h' hkey st' sb => ?_
    have I1 : Inv X pins σ H { s with heap := h' } := I.turned (t' := s.toks) (fun b ob hb e => (sb.2 b hb).trans e) f0 f1 f3 f4 f5
    obtain ⟨oi, e, c, dd⟩ := id st'
    refine ⟨key, rfl, go_of (s := { s with heap := h' }) e c dd (by decide) ⟨kV k, H, I1, relV_key (show keyIs k key = true from hkey), ⟨rfl, k, v, hkv, rfl⟩, ?_, fun b hb => (hf b hb).1⟩⟩
    show h'.IsKeyIter it d (i + 1) kvs.length _
    rw [hl]
    exact st'
  done := by
    intro X hP hw hK hc i pins s σ H E I hf st hg
    subst hP hw hK
    obtain ⟨hd, hi⟩ := hg
    obtain ⟨f0, f1, f2, f3, f4, f5⟩ := hf it (by simp)
    obtain ⟨hs, hgd, hx, es', ep', vs, hdt, hsz, kv, hm⟩ := I.frzK hd
    obtain ⟨rfl, rfl⟩ := dict_ep hod hdt
    exact next_key_end (I.ok.hd hc) st hgd hdt hsz hi fun h' eb => ⟨rfl, I.turned (t' := s.toks) (fun b ob hb e => eb b ob hb e) f0 f1 f3 f4 f5⟩
  self := fun A i s Q E st h => wpAny_pyIter_keyiter st h
theorem turn_keysT {kvs : List (List Key × V)} (it : Addr) (hod : o.data = .dict es ep) : Turn P w K tg (Itkt d o kvs) [it] it (fun i h => h.IsKeyIter it d i kvs.length ep) where
  mem := by simp
  obj := fun i h st b hb => by
    have e : b = it := by simpa using hb
    subst e
    obtain ⟨oi, e, c, dd⟩ := st
    exact ⟨oi, e, fun v z => by rw [dd] at z; cases z⟩
  keep := fun i h h' st k => st.at fun oi e => k it (by simp) oi e
  item := by
    intro X hP hw hK hc i pins s σ H E I hf st hg
    subst hP hw hK
    obtain ⟨hd, hi⟩ := hg
    obtain ⟨f0, f1, f2, f3, f4, f5⟩ := hf it (by simp)
    obtain ⟨hs, hgd, hx, es', ep', hdt, hsz, ent⟩ := I.frzT hd
    obtain ⟨rfl, rfl⟩ := dict_ep hod hdt
    obtain ⟨⟨k, v⟩, hkv⟩ : ∃ p, kvs[i]? = some p := ⟨kvs[i], List.getElem?_eq_getElem hi⟩
    obtain ⟨en, q, hen, hkey, hq⟩ := ent i k v hkv
    refine next_key_item st hgd hdt hsz hen fun h' st' sb => ?_
    have I1 : Inv X pins σ H { s with heap := h' } := I.turned (t' := s.toks) (fun b ob hb e => (sb.2 b hb).trans e) f0 f1 f3 f4 f5
    obtain ⟨oi, e, c, dd⟩ := id st'
    exact ⟨en.key, rfl, go_of (s := { s with heap := h' }) e c dd (by decide) ⟨.ref q, H, I1, hkey, ⟨rfl, k, v, q, hkv, rfl, hq⟩, st', fun b hb => (hf b hb).1⟩⟩
  done := by
    intro X hP hw hK hc i pins s σ H E I hf st hg
    subst hP hw hK
    obtain ⟨hd, hi⟩ := hg
    obtain ⟨f0, f1, f2, f3, f4, f5⟩ := hf it (by simp)
    obtain ⟨hs, hgd, hx, es', ep', hdt, hsz, ent⟩ := I.frzT hd
    obtain ⟨rfl, rfl⟩ := dict_ep hod hdt
    exact next_key_end (I.ok.hd hc) st hgd hdt hsz hi fun h' eb => ⟨rfl, I.turned (t' := s.toks) (fun b ob hb e => eb b ob hb e) f0 f1 f3 f4 f5⟩
  self := fun A i s Q E st h => by
    refine wpAny_pyIter_slot st.typeIs F.slot_dict_keyiterator_iter (wpAny_call_entry F.slot_dict_keyiterator_iter st.typeIs F.entry_dict_keyiterator_iter ?_ (F.args_dict_keyiterator_iter_1 _))
    show wpAny _ _ (ret (.ref it)) _ _ s
    exact wpAny_pure ⟨_, rfl, "dict_keyiterator", _, st.typeIs, F.slot_dict_keyiterator_next.lookup, h⟩
end
def iKeys (td : TE) : TI := fun σ H R => td σ H fun x H1 => ∃ d o, x = .ref d ∧ ((∃ kvs, H1 d = some (.frz o (.dK kvs)) ∧ R (Itk d o kvs) H1) ∨ ∃ kvs, H1 d = some (.frz o (.dT kvs)) ∧ R (Itkt d o kvs) H1)
section
variable {X : Cx} {tg e : Expr} {td : TE} {apos cpos : Pos}
theorem pi_keys (he : PE X e td) : PI X tg e (iKeys td) := by
  intro pins s σ H R I h
  refine thn (he pins s σ H _ I h) fun u s1 ⟨x, H1, I1, rx, d, o, ex, q⟩ => ?_
  subst ex
  obtain rfl : u = Value.ref d := rx
  rcases q with ⟨kvs, hd, q⟩ | ⟨kvs, hd, q⟩
  · obtain ⟨hs, hgd, hx, es, ep, vs, hdt, hsz, kv, hm⟩ := I1.frzK hd
    refine iter_keys hs hgd hx hdt (pi_one (tk := s1.toks) I1 _ (turn_keys _ hdt) ⟨_, Heap.get?_push_size _ rfl, rfl, ?_⟩ q)
    rw [hsz] <;> rfl
  · obtain ⟨hs, hgd, hx, es, ep, hdt, hsz, ent⟩ := I1.frzT hd
    refine iter_keys hs hgd hx hdt (pi_one (tk := s1.toks) I1 _ (turn_keysT _ hdt) ⟨_, Heap.get?_push_size _ rfl, rfl, ?_⟩ q)
    rw [hsz] <;> rfl
end
theorem boot_zip5 : bootBuiltins "zip" = some (.type "zip") := by decide +kernel
end L2
section
namespace Bits
open PySem PyProof.Rows
end Bits
end
section
namespace TL
open PySem PySem.Builtin PySem.Builtin.Str PySem.StrLaws
def pre (S l : List Nat) : Bool := l.take S.length == S
def par (S : List Nat) : List Nat → List Nat → Option (List Nat × List Nat)
  | _, [] => none
  | acc, c :: r => if pre S (c :: r) = true then some (acc, (c :: r).drop S.length) else par S (acc ++ [c]) r
end TL
end
namespace L2
open PySem PySem.Spec PyProof.Rows
section
variable {X : Cx} {pins : List (Addr × Obj)} {σ : St} {H : Hp} {s : Shared} {Q : VK}
end
section
variable {X : Cx}
end
section
variable {X : Cx} {o e : Expr} {to te : TE}
end
end L2
namespace L2
open PySem PySem.Spec PyProof.Rows
section
variable {X : Cx}
end
theorem IsPart.raw {v : Value} {o : Option Int} (p : IsPart v o) : ∃ l : Option (Int × Tok), v = partValue l ∧ l.map (·.1) = o := by
  cases p with
  | none => exact ⟨none, rfl, rfl⟩
  | int i t => exact ⟨some (i, t), rfl, rfl⟩
end L2
namespace Att
open PySem PySem.W PySem.Calls PyProof.Rows
theorem ints_of_wellAll {P : Params} {h : Heap} : ∀ (ns : List Int) (vs : List Value), WellAll P h vs (ns.map WData.int) → IntsAre vs ns := by
  intro ns
  induction ns with
  | nil =>
    intro vs w
    rw [List.map_nil] at w
    cases w
    exact .nil
  | cons n ns ih =>
    intro vs w
    rw [List.map_cons] at w
    cases w with
    | cons a b =>
      cases a
      exact .cons _ _ (ih _ b)
section
variable {prog : Program} {w : World} {A : Around} {E : Value → Shared → Prop} {s : Shared} {K : Frag}
end
end Att
namespace L2
open PySem PySem.Spec PyProof.Rows
theorem vals_ints : ∀ {vs : List Value} {ns : List Int}, IntsAre vs ns → Vals (ns.map V.int) vs
  | _, _, .nil => .nil
  | _, _, .cons n t h => .cons ⟨t, rfl⟩ (vals_ints h)
def Only (H : Hp) : Prop := ∀ b, H b = none ∨ ∃ o xs, H b = some (.frz o (.lst xs))
end L2
namespace L2
open PySem PySem.Spec PyProof.Rows
end L2
/- THE LAST THEOREM (shape; LID, My.* are yours):
   My.Adr: a structure of the addresses that your layer names (classes, functions); My.Txt K t: a structure (Prop) of the equations over K;
   My.txt_mk : {K} {implicit addresses ..} (e1 : nsIn K mainGlobals "law" = some (some (.ref f))) (e2 : K.lookup f = some ⟨oc, od, .func (fnOf "law" "law" params body scope dV kV doc pm an cdv ct), sl⟩) (e3 : codeIn K cdv "law" = true) .. : ∃ t, My.Txt K t
set_option maxRecDepth 100000 in
set_option maxHeartbeats 0 in
theorem PySem.Challenge.cw_LID_holds : PySem.Challenge.rw_LID.Holds := by
  w_on; o_law; k_head; (case hw => w_witness2)
  k_fill
  refine L2.walk_of (l := PySem.Challenge.rw_LID) (n := 63) (k := 40) (x := "script") (CX := fun w => ..) (sp := fun _ => My.sp_law) rfl (by decide) rfl ⟨rfl, by decide, by decide⟩ (fun w h Y => PySem.W.kIn_of Y) ?F ?S ?C
  case F =>
    intro w mg fa h KX G hmg
    have T : ∃ t, My.Txt (L2.KOf KX) t := by
      dsimp only [L2.KOf]                          -- K must stand as «<heap const> w.params» for k_is
      refine' My.txt_mk ?e1 ?e2 ?e3 ..
      (case e1 => PySem.W.k_is)                    -- in the order: a name -> its address -> its object -> its parts
      (case e2 => PySem.W.k_is)
      ..
    obtain ⟨t, T⟩ := T
    have e0 := hmg.symm.trans (PySem.W.mg_of KX G T.law)
    cases e0                                       -- fa is the law's own address
    exact ⟨_, fun s u => .of_eq rfl, fun base kb nb => My.law_fn T kb nb⟩     -- if «.of_eq rfl» comes too early: refine' ⟨_, ?b, fun base kb nb => My.law_fn T kb nb⟩; exact fun s u => .of_eq rfl
  case S => exact fun w H a ns hl hO hS => ..
  case C => exact ..
(the tactic k_is has no namespace: write k_is) -/
namespace L2
open PySem PySem.Spec PyProof.Rows
abbrev CX0 : CXT := fun _ _ _ _ _ _ => False
abbrev E0 : XK := fun _ _ _ => False
theorem pass0 {X : Cx} : Passes CX0 X E0 := fun _ _ _ _ _ _ _ h => h.elim
structure Fun (K : PySem.W.Frag) (x qual : Str) (st : Stmt) (f : Addr) (fd : FuncData) : Prop where
  ex : ∃ (oc : Value) (od : Option Addr) (kV doc pm : Value) (an : Option Addr) (cdv ct : Value) (osl : Array (Option Value)),
    fd = PySem.W.fnOf x qual (defArgs st) (defBody st) (defScope st) .none kV doc pm an cdv ct ∧ K.lookup f = some ⟨oc, od, .func fd, osl⟩ ∧ PySem.W.codeIn K cdv qual = true
  kp : PySem.W.keepIn K (.ref f) = true
section
variable {P : Program} {w : World} {K : PySem.W.Frag} {mg : Str → Option Value} {base : Heap}
theorem Fun.ok {x qual : Str} {st : Stmt} {f : Addr} {fd : FuncData} {N ps : List Str} {k : Nat} {sp : Sp} (F : Fun K x qual st f fd) (S : FnScope N ps (defScope st)) (len : ∀ vs H Q E, sp vs H Q E → vs.length = ps.length)
    (hbody : ∀ (cdv : Value) (A : Around) (outer : List Env) (s : Shared) (H : Hp) (vs : List V) (Q : VK) (E : XK), Room k (A.deeper (envOfC qual (defScope st) s.heap.objs.size f cdv)) → sp vs H Q E →
      ∃ t, PSs (cxOf CX0 P w K mg base N qual (defScope st) f cdv A outer s H E).nox (defBody st) t ∧ t { nx := fun _ H' => Q .non H', rt := Q } (start N vs) H) : FnOk P w K mg base CX0 (k + 1) f fd ps sp := by
  obtain ⟨oc, od, kV, doc, pm, an, cdv, ct, osl, rfl, lk, hcd⟩ := F.ex
  refine fn_of lk hcd S len fun A outer s H vs Q E hr hsp => ?_
  obtain ⟨t, h, q⟩ := hbody cdv A outer s H vs Q E hr hsp
  exact ⟨t, h.nox, q⟩
theorem Fun.binds {x qual : Str} {st : Stmt} {f : Addr} {fd : FuncData} {ps : List Str} (F : Fun K x qual st f fd)
    (h : ∀ (kV doc pm : Value) (an : Option Addr) (cdv ct : Value) (us : List Value), us.length = ps.length → bindArgs (PySem.W.fnOf x qual (defArgs st) (defBody st) (defScope st) .none kV doc pm an cdv ct) ⟨us, []⟩ = pure (ps.zip us)) : Binds K fd ps [] := by
  obtain ⟨oc, od, kV, doc, pm, an, cdv, ct, osl, rfl, lk, hcd⟩ := F.ex
  exact .all (h kV doc pm an cdv ct)
theorem fun_mk {x qual : Str} {st : Stmt} {f : Addr} {oc : Value} {od an : Option Addr} {osl : Array (Option Value)} {kV doc pm cdv ct : Value} (l : K.lookup f = some ⟨oc, od, .func (PySem.W.fnOf x qual (defArgs st) (defBody st) (defScope st) .none kV doc pm an cdv ct), osl⟩)
    (c : PySem.W.codeIn K cdv qual = true) (k : PySem.W.keepIn K (.ref f) = true) : Fun K x qual st f (PySem.W.fnOf x qual (defArgs st) (defBody st) (defScope st) .none kV doc pm an cdv ct) := ⟨⟨oc, od, kV, doc, pm, an, cdv, ct, osl, rfl, l, c⟩, k⟩
end
theorem hu_of {A : Around} {k : Nat} (hr : Room k A) : A.units + 1 < cLine := Nat.lt_of_le_of_lt (Nat.add_le_add_left (by decide : 1 ≤ 64) _) hr.units
theorem small1000 {n : Nat} (h : n ≤ 1000) : n < sizeLine := Nat.lt_of_le_of_lt h (by decide)
section
variable {X : Cx}
theorem pv (i : Nat) {x : Str} {pos : Pos} (hN : X.N[i]? = some x := by rfl) (hv : Vis X.env.scope x := by first | exact Or.inl rfl | exact Or.inr (Or.inl rfl) | exact Or.inr (Or.inr rfl)) (hd : (x == ("__debug__" : Str)) = false := by decide)
    (hcd : (x == ("__classdict__" : Str)) = false := by decide) : PE X (.Name x pos) (tVar i) := pe_var hN hv hd hcd
theorem call_lenD : CallR X (.builtin "len") (fun xs H Q => ∃ a kvs, xs = [V.ref a] ∧ H a = some (.dK kvs) ∧ Q (.int kvs.length) H) := by
  intro pins s σ H xs us Q I r h
  obtain ⟨a, kvs, rfl, ha, q⟩ := h
  obtain ⟨u, rfl, ru⟩ := vals1 r
  cases ru
  exact d_len I (.inl ha) fun t s' I' => ⟨.int kvs.length, H, I', ⟨t, rfl⟩, q⟩
end
theorem iteF {A B : Prop} (h : B) : if false = true then A else B := by
  rw [if_neg Bool.false_ne_true]
  exact h
theorem iteT {A B : Prop} (h : A) : if true = true then A else B := by
  rw [if_pos rfl]
  exact h
theorem ite2 {c A B : Prop} [Decidable c] (h1 : c → A) (h2 : ¬ c → B) : if c then A else B := by
  by_cases h : c
  · rw [if_pos h]
    exact h1 h
  · rw [if_neg h]
    exact h2 h
def Same (H H' : Hp) : Prop := ∀ b o, H b = some o → H' b = some o
theorem Same.refl (H : Hp) : Same H H := fun _ _ h => h
theorem Same.trans {H H1 H2 : Hp} (a : Same H H1) (b : Same H1 H2) : Same H H2 := fun c o h => b c o (a c o h)
theorem Same.free {H H' : Hp} (e : Same H H') {l : Addr} (h : H' l = Option.none) : H l = Option.none := by
  cases q : H l with
  | none => rfl
  | some o =>
    rw [e l o q] at h
    cases h
theorem Same.seq {K : PySem.W.Frag} {H H' : Hp} {a : Addr} {xs : List V} (e : Same H H') (h : SqL K H a xs) : SqL K H' a xs := by
  rcases h with (h | ⟨o, h⟩) | h
  · exact .inl (.inl (e _ _ h))
  · exact .inl (.inr ⟨o, e _ _ h⟩)
  · exact .inr h
section
variable {κ : Type} [DecidableEq κ]
theorem valV_not {kvs : List (κ × V)} {k : κ} (h : valV kvs k = none) : ¬ k ∈ kvs.map (·.1) := by
  intro m
  obtain ⟨p, hp, e⟩ := List.mem_map.mp m
  have q : (kvs.any fun kv => decide (kv.1 = k)) = true := List.any_eq_true.mpr ⟨p, hp, decide_eq_true e⟩
  rw [valV_any, h] at q
  exact absurd q (by simp)
theorem valV_in {kvs : List (κ × V)} {k : κ} {v : V} (h : valV kvs k = some v) : k ∈ kvs.map (·.1) := by
  have q : (kvs.any fun kv => decide (kv.1 = k)) = true := by
    rw [valV_any, h]
    all_goals rfl
  obtain ⟨p, hp, e⟩ := List.any_eq_true.mp q
  exact List.mem_map.mpr ⟨p, hp, of_decide_eq_true e⟩
theorem nd_snoc : ∀ {l : List κ} {k : κ}, l.Nodup → ¬ k ∈ l → (l ++ [k]).Nodup
  | [], k, _, _ => by simp
  | a :: r, k, h, hk => by
    obtain ⟨h1, h2⟩ := List.nodup_cons.mp h
    show (a :: (r ++ [k])).Nodup
    refine List.nodup_cons.mpr ⟨fun m => ?_, nd_snoc h2 fun m => hk (List.mem_cons.mpr (Or.inr m))⟩
    rcases List.mem_append.mp m with q | q
    · exact h1 q
    · exact hk (List.mem_cons.mpr (Or.inl (List.mem_singleton.mp q).symm))
theorem nd_putK {kvs : List (κ × V)} {k : κ} (v : V) (hn : (kvs.map (·.1)).Nodup) (h : valV kvs k = none) : ((putK kvs k v).map (·.1)).Nodup := by
  rw [putK_new v h, List.map_append]
  exact nd_snoc hn (valV_not h)
theorem dropK_pos {p : κ × V} {r : List (κ × V)} {k : κ} (e : p.1 = k) : dropK (p :: r) k = dropK r k := by
  unfold dropK
  rw [List.filter_cons, if_neg (by simp [e])]
theorem dropK_neg {p : κ × V} {r : List (κ × V)} {k : κ} (e : ¬ p.1 = k) : dropK (p :: r) k = p :: dropK r k := by
  unfold dropK
  rw [List.filter_cons, if_pos (by simp [e])]
theorem dropK_no : ∀ {kvs : List (κ × V)} {k : κ}, ¬ k ∈ kvs.map (·.1) → dropK kvs k = kvs
  | [], _, _ => rfl
  | p :: r, k, h => by
    have h' : ¬ k ∈ r.map (·.1) := fun m => by
      obtain ⟨q, hq, e⟩ := List.mem_map.mp m
      exact h (List.mem_map.mpr ⟨q, List.mem_cons.mpr (Or.inr hq), e⟩)
    rw [dropK_neg fun e => h (List.mem_map.mpr ⟨p, List.mem_cons.mpr (Or.inl rfl), e⟩), dropK_no h']
theorem dropK_mem {kvs : List (κ × V)} {k : κ} {p : κ × V} (h : p ∈ dropK kvs k) : p ∈ kvs := (List.mem_filter.mp h).1
theorem nd_dropK : ∀ {kvs : List (κ × V)} {k : κ}, (kvs.map (·.1)).Nodup → ((dropK kvs k).map (·.1)).Nodup
  | [], _, _ => List.nodup_nil
  | p :: r, k, h => by
    have h : (p.1 :: r.map (·.1)).Nodup := h
    obtain ⟨h1, h2⟩ := List.nodup_cons.mp h
    by_cases e : p.1 = k
    · rw [dropK_pos e]
      exact nd_dropK h2
    · rw [dropK_neg e]
      show (p.1 :: (dropK r k).map (·.1)).Nodup
      refine List.nodup_cons.mpr ⟨fun m => h1 ?_, nd_dropK h2⟩
      obtain ⟨q, hq, eq⟩ := List.mem_map.mp m
      exact List.mem_map.mpr ⟨q, dropK_mem hq, eq⟩
theorem dropK_len : ∀ {kvs : List (κ × V)} {k : κ}, (kvs.map (·.1)).Nodup → k ∈ kvs.map (·.1) → (dropK kvs k).length + 1 = kvs.length
  | [], _, _, m => by simp at m
  | p :: r, k, h, m => by
    have h : (p.1 :: r.map (·.1)).Nodup := h
    have m : k = p.1 ∨ k ∈ r.map (·.1) := List.mem_cons.mp m
    obtain ⟨h1, h2⟩ := List.nodup_cons.mp h
    by_cases e : p.1 = k
    · subst e
      rw [dropK_pos rfl, dropK_no h1]
      all_goals rfl
    · have m' : k ∈ r.map (·.1) := m.resolve_left fun z => e z.symm
      have q := dropK_len h2 m'
      rw [dropK_neg e, List.length_cons, List.length_cons]
      omega
end
theorem nd_ix {α : Type} {l : List α} (hN : l.Nodup) {i j : Nat} {x : α} (a : l[i]? = some x) (b : l[j]? = some x) : i = j := by
  obtain ⟨h1, e1⟩ := List.getElem?_eq_some_iff.mp a
  obtain ⟨h2, e2⟩ := List.getElem?_eq_some_iff.mp b
  exact (List.getElem_inj hN).mp (e1.trans e2.symm)
theorem Same.made {H H1 : Hp} {x dx C : Addr} (nx : H x = Option.none) (nd : H dx = Option.none) (k : ∀ b o, (upd (upd H dx (.own x)) x (.ins C dx [])) b = some o → b ≠ x → H1 b = some o) : Same H H1 := fun b o e =>
  k b o (by rw [upd_ne (ne_of_none e nx), upd_ne (ne_of_none e nd)]; exact e) (ne_of_none e nx)
end L2
namespace BX
open Kp175
theorem box_lt {a : Abs} {i : Nat} {b : Box} (h : box a i = some b) : i < a.length := by
  unfold box at h
  cases e : a[i]? with
  | none => rw [e] at h; cases h
  | some o => exact (List.getElem?_eq_some_iff.mp e).1
theorem box_zipIdx {a : Abs} (g : Option Box × Nat → Option Box) (j : Nat) : box (a.zipIdx.map g) j = (a[j]?).bind fun o => g (o, j) := by
  unfold box
  rw [List.getElem?_map, List.getElem?_zipIdx]
  cases e : a[j]? with
  | none => rfl
  | some o => simp
theorem box_change {a : Abs} {i : Nat} {f : Box → Box} (j : Nat) : box (change a i f) j = if j = i then (box a j).map f else box a j := by
  unfold change
  rw [box_zipIdx]
  unfold box
  cases e : a[j]? with
  | none => by_cases h : j = i <;> simp [h]
  | some o => by_cases h : j = i <;> simp [h]
theorem len_change {a : Abs} {i : Nat} {f : Box → Box} : (change a i f).length = a.length := by simp [change]
theorem box_set {a : Abs} {k : Nat} {v : Option Box} (hk : k < a.length) (j : Nat) : box (a.set k v) j = if j = k then v else box a j := by
  unfold box
  by_cases h : j = k
  · subst h
    rw [if_pos rfl, List.getElem?_set_self hk]
    rfl
  · rw [if_neg h, List.getElem?_set_ne (fun e => h e.symm)]
theorem box_laid {a : Abs} {l : List (Nat × Place)} (j : Nat) : box (laid a l) j = (box a j).map fun b => { b with place := placeOf l j } := by
  unfold laid
  rw [box_zipIdx]
  unfold box
  cases e : a[j]? with
  | none => rfl
  | some o => rfl
theorem len_laid {a : Abs} {l : List (Nat × Place)} : (laid a l).length = a.length := by simp [laid]
theorem many_cons (o : Option Box) (a : Abs) : many (o :: a) = (if o.isSome then 1 else 0) + many a := by
  unfold many
  cases o with
  | none => simp
  | some b => simp; omega
theorem many_set : ∀ {a : Abs} {k : Nat} {o v : Option Box}, a[k]? = some o → many (a.set k v) + (if o.isSome then 1 else 0) = many a + (if v.isSome then 1 else 0)
  | [], k, o, v, h => by simp at h
  | x :: r, 0, o, v, h => by
    have e : x = o := by simpa using h
    subst e
    rw [List.set_cons_zero, many_cons, many_cons]
    omega
  | x :: r, k + 1, o, v, h => by
    have ih := many_set (a := r) (k := k) (o := o) (v := v) (by simpa using h)
    rw [List.set_cons_succ, many_cons, many_cons]
    omega
theorem many_le : ∀ (a : Abs), many a ≤ a.length
  | [] => by simp [many]
  | x :: r => by
    have ih := many_le r
    rw [many_cons, List.length_cons]
    cases x <;> simp <;> omega
theorem many_map {a : Abs} {g : Option Box × Nat → Option Box} (hg : ∀ o j, (g (o, j)).isSome = o.isSome) : ∀ n, many ((a.zipIdx n).map g) = many a := by
  induction a with
  | nil => intro n; rfl
  | cons x r ih =>
    intro n
    rw [List.zipIdx_cons, List.map_cons, many_cons, many_cons, ih, hg]
theorem many_change {a : Abs} {i : Nat} {f : Box → Box} : many (change a i f) = many a := by
  unfold change
  refine many_map (fun o j => ?_) 0
  by_cases h : j = i <;> simp [h]
theorem many_full : ∀ {a : Abs}, many a = a.length ↔ ∀ k, k < a.length → (box a k).isSome = true
  | [] => by simp [many]
  | x :: r => by
    have ih := many_full (a := r)
    have le := many_le r
    rw [many_cons, List.length_cons]
    constructor
    · intro h k hk
      cases x with
      | none => simp at h; omega
      | some b =>
        cases k with
        | zero => rfl
        | succ k =>
          have : box (some b :: r) (k + 1) = box r k := by unfold box; simp
          rw [this]
          exact ih.mp (by simp at h; omega) k (by omega)
    · intro h
      have h0 : (box (x :: r) 0).isSome = true := h 0 (by omega)
      have e0 : box (x :: r) 0 = x := by unfold box; simp
      rw [e0] at h0
      have hr : many r = r.length := ih.mpr fun k hk => by
        have := h (k + 1) (by omega)
        have e : box (x :: r) (k + 1) = box r k := by unfold box; simp
        rw [e] at this
        exact this
      rw [if_pos h0, hr]
      omega
def free (a : Abs) : Option Nat := (List.range BOXES).find? fun k => (box a k).isNone
theorem free_some {a : Abs} {k : Nat} (h : free a = some k) : k < 256 ∧ box a k = none ∧ ∀ j, j < k → ∃ b, box a j = some b := by
  unfold free at h
  rw [List.find?_range_eq_some] at h
  obtain ⟨h1, h2, h3⟩ := h
  refine ⟨by simpa [BOXES] using h2, by simpa using h1, fun j hj => ?_⟩
  have := h3 j hj
  cases e : box a j with
  | none => rw [e] at this; simp at this
  | some b => exact ⟨b, rfl⟩
theorem free_none {a : Abs} (hl : a.length = 256) : free a = none ↔ many a = 256 := by
  rw [← hl, many_full, hl]
  unfold free
  rw [List.find?_eq_none]
  constructor
  · intro h k hk
    have := h k (by simpa [BOXES] using hk)
    cases e : box a k with
    | none => rw [e] at this; simp at this
    | some b => rfl
  · intro h k hk
    have := h k (by simpa [BOXES] using hk)
    cases e : box a k with
    | none => rw [e] at this; cases this
    | some b => simp
structure Wf (a : Abs) (dp : Nat → Nat) : Prop where
  len : a.length = 256
  root : ∃ b, box a 0 = some b ∧ b.in_ = 0
  up : ∀ i b, box a i = some b → i ≠ 0 → ∃ p, box a b.in_ = some p ∧ i ∈ p.kids
  down : ∀ i b k, box a i = some b → k ∈ b.kids → k ≠ 0 ∧ ∃ c, box a k = some c ∧ c.in_ = i
  nd : ∀ i b, box a i = some b → b.kids.Nodup
  few : ∀ i b, box a i = some b → b.kids.length ≤ 64
  leaf : ∀ i b, box a i = some b → b.rule.kind = 2 → b.kids = []
  good : ∀ i b, box a i = some b → goodRule b.rule = true ∧ isRule b.rule
  dp0 : dp 0 = 1
  dps : ∀ i b, box a i = some b → i ≠ 0 → dp i = dp b.in_ + 1
  dpl : ∀ i b, box a i = some b → 1 ≤ dp i ∧ dp i ≤ 16
theorem Wf.deep {a : Abs} {dp : Nat → Nat} (h : Wf a dp) : ∀ (f i : Nat) (b : Box), box a i = some b → dp i ≤ f → Kp175.deep a f i = dp i
  | 0, i, b, hb, hf => by
    have := (h.dpl i b hb).1
    omega
  | f + 1, i, b, hb, hf => by
    unfold Kp175.deep
    by_cases hi : i = 0
    · rw [if_pos hi, hi, h.dp0]
    · rw [if_neg hi]
      obtain ⟨p, hp, _⟩ := h.up i b hb hi
      have e := h.dps i b hb hi
      have ih := h.deep f b.in_ p hp (by omega)
      rw [hb]
      show 1 + Kp175.deep a f b.in_ = dp i
      rw [ih]
      omega
theorem wf_begun {r : Rule} (h1 : goodRule r = true) (h2 : isRule r) : Wf (begun r) fun _ => 1 := by
  have e : ∀ i, box (begun r) i = if i = 0 then some ⟨r, 0, [], some ⟨0, 0, 0, 0⟩⟩ else none := by
    intro i
    unfold begun box
    cases i with
    | zero => rfl
    | succ i =>
      rw [if_neg (by omega), List.getElem?_cons_succ, List.getElem?_replicate]
      split <;> rfl
  have only : ∀ i b, box (begun r) i = some b → i = 0 ∧ b = ⟨r, 0, [], some ⟨0, 0, 0, 0⟩⟩ := fun i b h => by
    rw [e] at h
    by_cases hi : i = 0
    · rw [if_pos hi] at h
      cases h
      exact ⟨hi, rfl⟩
    · rw [if_neg hi] at h
      cases h
  exact {
    len := by unfold begun; rw [List.length_cons, List.length_replicate]; rfl
    root := ⟨⟨r, 0, [], some ⟨0, 0, 0, 0⟩⟩, by rw [e, if_pos rfl], rfl⟩
    up := fun i b h hi => absurd (only i b h).1 hi
    down := fun i b k h hk => by rw [(only i b h).2] at hk; simp at hk
    nd := fun i b h => by rw [(only i b h).2]; simp
    few := fun i b h => by rw [(only i b h).2]; simp
    leaf := fun i b h _ => by rw [(only i b h).2]
    good := fun i b h => by rw [(only i b h).2]; exact ⟨h1, h2⟩
    dp0 := rfl
    dps := fun i b h hi => absurd (only i b h).1 hi
    dpl := fun i b h => ⟨by omega, by omega⟩ }
theorem many_begun {r : Rule} : many (begun r) = 1 := by
  unfold begun
  rw [many_cons]
  have : ∀ n, many (List.replicate n none) = 0 := by
    intro n
    induction n with
    | zero => rfl
    | succ n ih => rw [List.replicate_succ, many_cons, ih]; rfl
  rw [this]
  rfl
def added (a : Abs) (i k : Nat) (r : Rule) : Abs := (change a i fun q => { q with kids := q.kids ++ [k] }).set k (some ⟨r, i, [], none⟩)
theorem box_added {a : Abs} {i k : Nat} {r : Rule} (hk : k < a.length) (j : Nat) :
    box (added a i k r) j = if j = k then some ⟨r, i, [], none⟩ else if j = i then (box a j).map (fun q => { q with kids := q.kids ++ [k] }) else box a j := by
  unfold added
  rw [box_set (by rw [len_change]; exact hk), box_change]
theorem many_added {a : Abs} {i k : Nat} {r : Rule} (hk : k < a.length) (hn : box a k = none) : many (added a i k r) = many a + 1 := by
  unfold added
  have hk' : k < (change a i fun q => { q with kids := q.kids ++ [k] }).length := by rw [len_change]; exact hk
  have e : (change a i fun q => { q with kids := q.kids ++ [k] })[k]? = some none := by
    have h1 := box_change (a := a) (i := i) (f := fun q => { q with kids := q.kids ++ [k] }) k
    rw [hn] at h1
    have h2 : box (change a i fun q => { q with kids := q.kids ++ [k] }) k = none := by rw [h1]; split <;> rfl
    unfold box at h2
    rw [List.getElem?_eq_getElem hk'] at h2 ⊢
    simpa using h2
  have := many_set (v := some ⟨r, i, [], none⟩) e
  rw [many_change] at this
  simpa using this
theorem wf_added {a : Abs} {dp : Nat → Nat} {i k : Nat} {b : Box} {r : Rule} (h : Wf a dp) (hb : box a i = some b) (hk : k < 256) (hn : box a k = none) (h1 : goodRule r = true) (h2 : isRule r) (hkind : b.rule.kind ≠ 2)
    (hin : b.kids.length < 64) (hd : dp i < 16) : Wf (added a i k r) fun j => if j = k then dp i + 1 else dp j := by
  have hkl : k < a.length := by rw [h.len]; exact hk
  have e := box_added (i := i) (r := r) hkl
  obtain ⟨b0, hb0, hb00⟩ := h.root
  have hk0 : k ≠ 0 := fun q => by rw [q, hb0] at hn; cases hn
  have hik : i ≠ k := fun q => by rw [q, hn] at hb; cases hb
  -- what stands at a place
  have look : ∀ j c, box (added a i k r) j = some c → (j = k ∧ c = ⟨r, i, [], none⟩) ∨ (j ≠ k ∧ j = i ∧ c = { b with kids := b.kids ++ [k] }) ∨ (j ≠ k ∧ j ≠ i ∧ box a j = some c) := by
    intro j c q
    rw [e] at q
    by_cases hj : j = k
    · rw [if_pos hj] at q
      cases q
      exact .inl ⟨hj, rfl⟩
    · rw [if_neg hj] at q
      by_cases hji : j = i
      · rw [if_pos hji, hji, hb] at q
        cases q
        exact .inr (.inl ⟨hj, hji, rfl⟩)
      · rw [if_neg hji] at q
        exact .inr (.inr ⟨hj, hji, q⟩)
  have lk : box (added a i k r) k = some ⟨r, i, [], none⟩ := by rw [e, if_pos rfl]
  have li : box (added a i k r) i = some { b with kids := b.kids ++ [k] } := by rw [e, if_neg hik, if_pos rfl, hb]; rfl
  have lo : ∀ j c, box a j = some c → j ≠ i → box (added a i k r) j = some c := fun j c q hji => by
    have hj : j ≠ k := fun z => by rw [z, hn] at q; cases q
    rw [e, if_neg hj, if_neg hji, q]
  -- an old box is there still, with the same in_, and its kids or one more
  have old : ∀ j c, box a j = some c → ∃ c', box (added a i k r) j = some c' ∧ c'.in_ = c.in_ ∧ ∀ m, m ∈ c.kids → m ∈ c'.kids := fun j c q => by
    by_cases hji : j = i
    · subst hji
      rw [hb] at q
      cases q
      exact ⟨_, li, rfl, fun m hm => List.mem_append.mpr (.inl hm)⟩
    · exact ⟨c, lo j c q hji, rfl, fun m hm => hm⟩
  refine { len := by simp [added, len_change, h.len], root := ?_, up := ?_, down := ?_, nd := ?_, few := ?_, leaf := ?_, good := ?_, dp0 := ?_, dps := ?_, dpl := ?_ }
  · obtain ⟨c', q1, q2, _⟩ := old 0 b0 hb0
    exact ⟨c', q1, q2.trans hb00⟩
  · intro j c q hj
    rcases look j c q with ⟨rfl, rfl⟩ | ⟨_, rfl, rfl⟩ | ⟨_, _, q'⟩
    · exact ⟨_, li, List.mem_append.mpr (.inr (List.mem_singleton.mpr rfl))⟩
    · obtain ⟨p, hp, hm⟩ := h.up j b hb hj
      obtain ⟨p', q1, _, q3⟩ := old _ p hp
      exact ⟨p', q1, q3 _ hm⟩
    · obtain ⟨p, hp, hm⟩ := h.up j c q' hj
      obtain ⟨p', q1, _, q3⟩ := old _ p hp
      exact ⟨p', q1, q3 _ hm⟩
  · intro j c m q hm
    rcases look j c q with ⟨rfl, rfl⟩ | ⟨_, rfl, rfl⟩ | ⟨_, _, q'⟩
    · simp at hm
    · rcases List.mem_append.mp hm with hm | hm
      · obtain ⟨z, c', q1, q2⟩ := h.down j b m hb hm
        obtain ⟨c2, q3, q4, _⟩ := old m c' q1
        exact ⟨z, c2, q3, q4.trans q2⟩
      · rw [List.mem_singleton.mp hm]
        exact ⟨hk0, _, lk, rfl⟩
    · obtain ⟨z, c', q1, q2⟩ := h.down j c m q' hm
      obtain ⟨c2, q3, q4, _⟩ := old m c' q1
      exact ⟨z, c2, q3, q4.trans q2⟩
  · intro j c q
    rcases look j c q with ⟨rfl, rfl⟩ | ⟨_, rfl, rfl⟩ | ⟨_, _, q'⟩
    · simp
    · refine List.nodup_append.mpr ⟨h.nd j b hb, by simp, fun x hx y hy => ?_⟩
      rw [List.mem_singleton.mp hy]
      intro z
      subst z
      obtain ⟨_, c', q1, _⟩ := h.down j b x hb hx
      rw [hn] at q1
      cases q1
    · exact h.nd j c q'
  · intro j c q
    rcases look j c q with ⟨rfl, rfl⟩ | ⟨_, rfl, rfl⟩ | ⟨_, _, q'⟩
    · simp
    · simp; omega
    · exact h.few j c q'
  · intro j c q hc
    rcases look j c q with ⟨rfl, rfl⟩ | ⟨_, rfl, rfl⟩ | ⟨_, _, q'⟩
    · rfl
    · exact absurd hc hkind
    · exact h.leaf j c q' hc
  · intro j c q
    rcases look j c q with ⟨rfl, rfl⟩ | ⟨_, rfl, rfl⟩ | ⟨_, _, q'⟩
    · exact ⟨h1, h2⟩
    · exact h.good j b hb
    · exact h.good j c q'
  · show (if 0 = k then dp i + 1 else dp 0) = 1
    rw [if_neg (fun z => hk0 z.symm), h.dp0]
  · intro j c q hj
    show (if j = k then dp i + 1 else dp j) = (if c.in_ = k then dp i + 1 else dp c.in_) + 1
    rcases look j c q with ⟨rfl, rfl⟩ | ⟨hjk, rfl, rfl⟩ | ⟨hjk, _, q'⟩
    · rw [if_pos rfl]
      show dp i + 1 = (if i = j then dp i + 1 else dp i) + 1
      rw [if_neg hik]
    · rw [if_neg hjk]
      obtain ⟨p, hp, _⟩ := h.up j b hb hj
      have hpk : b.in_ ≠ k := fun z => by rw [z, hn] at hp; cases hp
      show dp j = (if b.in_ = k then dp j + 1 else dp b.in_) + 1
      rw [if_neg hpk]
      exact h.dps j b hb hj
    · rw [if_neg hjk]
      obtain ⟨p, hp, _⟩ := h.up j c q' hj
      have hpk : c.in_ ≠ k := fun z => by rw [z, hn] at hp; cases hp
      rw [if_neg hpk]
      exact h.dps j c q' hj
  · intro j c q
    show 1 ≤ (if j = k then dp i + 1 else dp j) ∧ (if j = k then dp i + 1 else dp j) ≤ 16
    rcases look j c q with ⟨rfl, rfl⟩ | ⟨hjk, rfl, rfl⟩ | ⟨hjk, _, q'⟩
    · rw [if_pos rfl]
      omega
    · rw [if_neg hjk]
      exact h.dpl j b hb
    · rw [if_neg hjk]
      exact h.dpl j c q'
theorem wf_setRule {a : Abs} {dp : Nat → Nat} {i : Nat} {b : Box} {r : Rule} (h : Wf a dp) (hb : box a i = some b) (h1 : goodRule r = true) (h2 : isRule r) (hkind : ¬ (r.kind = 2 ∧ b.kids ≠ [])) :
    Wf (change a i fun q => { q with rule := r }) dp := by
  have e := box_change (a := a) (i := i) (f := fun q => { q with rule := r })
  have look : ∀ j c, box (change a i fun q => { q with rule := r }) j = some c → ∃ c0, box a j = some c0 ∧ c.in_ = c0.in_ ∧ c.kids = c0.kids ∧ ((j = i ∧ c.rule = r ∧ c0 = b) ∨ c.rule = c0.rule) := by
    intro j c q
    rw [e] at q
    by_cases hj : j = i
    · rw [if_pos hj, hj, hb] at q
      cases q
      exact ⟨b, by rw [hj]; exact hb, rfl, rfl, .inl ⟨hj, rfl, rfl⟩⟩
    · rw [if_neg hj] at q
      exact ⟨c, q, rfl, rfl, .inr rfl⟩
  have old : ∀ j c, box a j = some c → ∃ c', box (change a i fun q => { q with rule := r }) j = some c' ∧ c'.in_ = c.in_ ∧ c'.kids = c.kids := fun j c q => by
    by_cases hj : j = i
    · exact ⟨{ c with rule := r }, by rw [e, if_pos hj, q]; rfl, rfl, rfl⟩
    · exact ⟨c, by rw [e, if_neg hj, q], rfl, rfl⟩
  refine { len := by rw [len_change, h.len], root := ?_, up := ?_, down := ?_, nd := ?_, few := ?_, leaf := ?_, good := ?_, dp0 := h.dp0, dps := ?_, dpl := ?_ }
  · obtain ⟨b0, hb0, hb00⟩ := h.root
    obtain ⟨c', q1, q2, _⟩ := old 0 b0 hb0
    exact ⟨c', q1, q2.trans hb00⟩
  · intro j c q hj
    obtain ⟨c0, q0, e1, e2, _⟩ := look j c q
    obtain ⟨p, hp, hm⟩ := h.up j c0 q0 hj
    obtain ⟨p', q1, _, q3⟩ := old _ p hp
    exact ⟨p', by rw [e1]; exact q1, by rw [q3]; exact hm⟩
  · intro j c m q hm
    obtain ⟨c0, q0, e1, e2, _⟩ := look j c q
    rw [e2] at hm
    obtain ⟨z, c', q1, q2⟩ := h.down j c0 m q0 hm
    obtain ⟨c2, q3, q4, _⟩ := old m c' q1
    exact ⟨z, c2, q3, q4.trans q2⟩
  · intro j c q
    obtain ⟨c0, q0, e1, e2, _⟩ := look j c q
    rw [e2]
    exact h.nd j c0 q0
  · intro j c q
    obtain ⟨c0, q0, e1, e2, _⟩ := look j c q
    rw [e2]
    exact h.few j c0 q0
  · intro j c q hc
    obtain ⟨c0, q0, e1, e2, e3⟩ := look j c q
    rw [e2]
    rcases e3 with ⟨_, e4, e5⟩ | e4
    · subst e5
      rw [e4] at hc
      cases hk : c0.kids with
      | nil => rfl
      | cons x l => exact absurd ⟨hc, by rw [hk]; simp⟩ hkind
    · exact h.leaf j c0 q0 (by rw [← e4]; exact hc)
  · intro j c q
    obtain ⟨c0, q0, e1, e2, e3⟩ := look j c q
    rcases e3 with ⟨_, e4, _⟩ | e4
    · rw [e4]
      exact ⟨h1, h2⟩
    · rw [e4]
      exact h.good j c0 q0
  · intro j c q hj
    obtain ⟨c0, q0, e1, _⟩ := look j c q
    rw [e1]
    exact h.dps j c0 q0 hj
  · intro j c q
    obtain ⟨c0, q0, _⟩ := look j c q
    exact h.dpl j c0 q0
def dropped (a : Abs) (i p : Nat) : Abs := (change a p fun q => { q with kids := q.kids.filter (· != i) }).set i none
theorem box_dropped {a : Abs} {i p : Nat} (hi : i < a.length) (j : Nat) :
    box (dropped a i p) j = if j = i then none else if j = p then (box a j).map (fun q => { q with kids := q.kids.filter (· != i) }) else box a j := by
  unfold dropped
  rw [box_set (by rw [len_change]; exact hi), box_change]
theorem many_dropped {a : Abs} {i p : Nat} {b : Box} (hb : box a i = some b) : many (dropped a i p) = many a - 1 := by
  unfold dropped
  have hi : i < (change a p fun q => { q with kids := q.kids.filter (· != i) }).length := by rw [len_change]; exact box_lt hb
  have h1 := box_change (a := a) (i := p) (f := fun q => { q with kids := q.kids.filter (· != i) }) i
  have h2 : (box (change a p fun q => { q with kids := q.kids.filter (· != i) }) i).isSome = true := by
    rw [h1, hb]
    split <;> rfl
  have e : (change a p fun q => { q with kids := q.kids.filter (· != i) })[i]? = some ((change a p fun q => { q with kids := q.kids.filter (· != i) })[i]) := List.getElem?_eq_getElem hi
  have h3 := many_set (v := none) e
  have h4 : ((change a p fun q => { q with kids := q.kids.filter (· != i) })[i]).isSome = true := by
    unfold box at h2
    rw [e] at h2
    exact h2
  rw [if_pos h4, many_change] at h3
  simp at h3
  omega
theorem wf_dropped {a : Abs} {dp : Nat → Nat} {i : Nat} {b : Box} (h : Wf a dp) (hb : box a i = some b) (hi0 : i ≠ 0) (hk : b.kids = []) : Wf (dropped a i b.in_) dp := by
  have hil : i < a.length := box_lt hb
  have e := box_dropped (p := b.in_) hil
  obtain ⟨p, hp, hm⟩ := h.up i b hb hi0
  have hpi : b.in_ ≠ i := fun z => by
    rw [z, hb] at hp
    cases hp
    rw [hk] at hm
    simp at hm
  have look : ∀ j c, box (dropped a i b.in_) j = some c → j ≠ i ∧ ∃ c0, box a j = some c0 ∧ c.in_ = c0.in_ ∧ c.rule = c0.rule ∧ ((j = b.in_ ∧ c0 = p ∧ c.kids = p.kids.filter (· != i)) ∨ (j ≠ b.in_ ∧ c.kids = c0.kids)) := by
    intro j c q
    rw [e] at q
    by_cases hj : j = i
    · rw [if_pos hj] at q
      cases q
    · rw [if_neg hj] at q
      by_cases hjp : j = b.in_
      · rw [if_pos hjp, hjp, hp] at q
        cases q
        exact ⟨hj, p, by rw [hjp]; exact hp, rfl, rfl, .inl ⟨hjp, rfl, rfl⟩⟩
      · rw [if_neg hjp] at q
        exact ⟨hj, c, q, rfl, rfl, .inr ⟨hjp, rfl⟩⟩
  have old : ∀ j c, box a j = some c → j ≠ i → ∃ c', box (dropped a i b.in_) j = some c' ∧ c'.in_ = c.in_ ∧ ∀ m, m ∈ c.kids → m ≠ i → m ∈ c'.kids := fun j c q hj => by
    by_cases hjp : j = b.in_
    · refine ⟨{ c with kids := c.kids.filter (· != i) }, by rw [e, if_neg hj, if_pos hjp, q]; rfl, rfl, fun m hm' hmi => List.mem_filter.mpr ⟨hm', by simpa using hmi⟩⟩
    · exact ⟨c, by rw [e, if_neg hj, if_neg hjp, q], rfl, fun m hm' _ => hm'⟩
  have kids : ∀ j c c0, box (dropped a i b.in_) j = some c → box a j = some c0 → (∀ m, m ∈ c.kids → m ∈ c0.kids ∧ m ≠ i) ∧ c.kids.length ≤ c0.kids.length ∧ (c0.kids.Nodup → c.kids.Nodup) ∧ (c0.kids = [] → c.kids = []) := fun j c c0 q q0 => by
    obtain ⟨hji, c1, q1, _, _, q2⟩ := look j c q
    rw [q0] at q1
    cases q1
    rcases q2 with ⟨_, rfl, q2⟩ | ⟨hjp, q2⟩
    · rw [q2]
      refine ⟨fun m hm' => ?_, List.length_filter_le _ _, fun n => n.filter _, fun z => by rw [z]; rfl⟩
      have := List.mem_filter.mp hm'
      exact ⟨this.1, by simpa using this.2⟩
    · rw [q2]
      refine ⟨fun m hm' => ⟨hm', fun z => ?_⟩, Nat.le_refl _, fun n => n, fun z => z⟩
      subst z
      obtain ⟨_, c', q3, q4⟩ := h.down j c0 m q0 hm'
      rw [hb] at q3
      cases q3
      exact hjp q4.symm
  refine { len := by simp [dropped, len_change, h.len], root := ?_, up := ?_, down := ?_, nd := ?_, few := ?_, leaf := ?_, good := ?_, dp0 := h.dp0, dps := ?_, dpl := ?_ }
  · obtain ⟨b0, hb0, hb00⟩ := h.root
    obtain ⟨c', q1, q2, _⟩ := old 0 b0 hb0 (fun z => hi0 z.symm)
    exact ⟨c', q1, q2.trans hb00⟩
  · intro j c q hj
    obtain ⟨hji, c0, q0, e1, _⟩ := look j c q
    obtain ⟨u, hu, hum⟩ := h.up j c0 q0 hj
    have hne : c0.in_ ≠ i := fun z => by
      rw [z, hb] at hu
      cases hu
      rw [hk] at hum
      simp at hum
    obtain ⟨u', q1, _, q3⟩ := old _ u hu hne
    exact ⟨u', by rw [e1]; exact q1, q3 _ hum hji⟩
  · intro j c m q hm'
    obtain ⟨hji, c0, q0, e1, _⟩ := look j c q
    obtain ⟨k1, k2⟩ := (kids j c c0 q q0).1 m hm'
    obtain ⟨z, c', q1, q2⟩ := h.down j c0 m q0 k1
    obtain ⟨c2, q3, q4, _⟩ := old m c' q1 k2
    exact ⟨z, c2, q3, q4.trans q2⟩
  · intro j c q
    obtain ⟨hji, c0, q0, e1, _⟩ := look j c q
    exact (kids j c c0 q q0).2.2.1 (h.nd j c0 q0)
  · intro j c q
    obtain ⟨hji, c0, q0, e1, _⟩ := look j c q
    exact Nat.le_trans (kids j c c0 q q0).2.1 (h.few j c0 q0)
  · intro j c q hc
    obtain ⟨hji, c0, q0, e1, e2, _⟩ := look j c q
    exact (kids j c c0 q q0).2.2.2 (h.leaf j c0 q0 (by rw [← e2]; exact hc))
  · intro j c q
    obtain ⟨hji, c0, q0, e1, e2, _⟩ := look j c q
    rw [e2]
    exact h.good j c0 q0
  · intro j c q hj
    obtain ⟨hji, c0, q0, e1, e2, _⟩ := look j c q
    rw [e1]
    exact h.dps j c0 q0 hj
  · intro j c q
    obtain ⟨hji, c0, q0, e1, e2, _⟩ := look j c q
    exact h.dpl j c0 q0
theorem act_add_none {a : Abs} {i : Nat} {r : Rule} (h : box a i = none) : act a (.add i r) = (a, .num (-2)) := by simp only [act, h]
theorem act_add_bad {a : Abs} {i : Nat} {r : Rule} {b : Box} (h : box a i = some b) (hg : goodRule r = false) : act a (.add i r) = (a, .num (-22)) := by simp only [act, h, hg, if_pos]
theorem act_add_leaf {a : Abs} {i : Nat} {r : Rule} {b : Box} (h : box a i = some b) (hg : goodRule r = true) (hk : b.rule.kind = 2) : act a (.add i r) = (a, .num (-13)) := by
  simp only [act, h, hg, hk, if_pos]
  rfl
theorem act_add_full {a : Abs} {dp : Nat → Nat} {i : Nat} {r : Rule} {b : Box} (w : Wf a dp) (h : box a i = some b) (hg : goodRule r = true) (hk : ¬ b.rule.kind = 2) (hs : ¬ (b.kids.length < 64 ∧ dp i < 16)) : act a (.add i r) = (a, .num (-28)) := by
  have hd : deep a (DEEP + 1) i = dp i := w.deep (DEEP + 1) i b h (by have := (w.dpl i b h).2; show dp i ≤ 17; omega)
  have c : IN ≤ b.kids.length ∨ DEEP ≤ deep a (DEEP + 1) i := by
    rw [hd]
    show 64 ≤ _ ∨ 16 ≤ _
    omega
  simp only [act, h, hg, if_neg hk, if_pos c]
  rfl
theorem act_add_no {a : Abs} {dp : Nat → Nat} {i : Nat} {r : Rule} {b : Box} (w : Wf a dp) (h : box a i = some b) (hg : goodRule r = true) (hk : ¬ b.rule.kind = 2) (hs : b.kids.length < 64 ∧ dp i < 16) (hf : free a = none) : act a (.add i r) = (a, .num (-28)) := by
  have hd : deep a (DEEP + 1) i = dp i := w.deep (DEEP + 1) i b h (by have := (w.dpl i b h).2; show dp i ≤ 17; omega)
  have c : ¬ (IN ≤ b.kids.length ∨ DEEP ≤ deep a (DEEP + 1) i) := by
    rw [hd]
    show ¬ (64 ≤ _ ∨ 16 ≤ _)
    omega
  unfold free at hf
  simp only [act, h, hg, if_neg hk, if_neg c, hf]
  rfl
theorem act_add_ok {a : Abs} {dp : Nat → Nat} {i k : Nat} {r : Rule} {b : Box} (w : Wf a dp) (h : box a i = some b) (hg : goodRule r = true) (hk : ¬ b.rule.kind = 2) (hs : b.kids.length < 64 ∧ dp i < 16) (hf : free a = some k) :
    act a (.add i r) = (added a i k r, .num (k : Nat)) := by
  have hd : deep a (DEEP + 1) i = dp i := w.deep (DEEP + 1) i b h (by have := (w.dpl i b h).2; show dp i ≤ 17; omega)
  have c : ¬ (IN ≤ b.kids.length ∨ DEEP ≤ deep a (DEEP + 1) i) := by
    rw [hd]
    show ¬ (64 ≤ _ ∨ 16 ≤ _)
    omega
  unfold free at hf
  simp only [act, h, hg, if_neg hk, if_neg c, hf]
  rfl
theorem act_set_none {a : Abs} {i : Nat} {r : Rule} (h : box a i = none) : act a (.set i r) = (a, .num (-2)) := by simp only [act, h]
theorem act_set_bad {a : Abs} {i : Nat} {r : Rule} {b : Box} (h : box a i = some b) (hg : goodRule r = false) : act a (.set i r) = (a, .num (-22)) := by simp only [act, h, hg, if_pos]
theorem act_set_leaf {a : Abs} {i : Nat} {r : Rule} {b : Box} (h : box a i = some b) (hg : goodRule r = true) (hk : r.kind = 2 ∧ b.kids ≠ []) : act a (.set i r) = (a, .num (-13)) := by
  simp only [act, h, hg, if_pos hk]
  rfl
theorem act_set_ok {a : Abs} {i : Nat} {r : Rule} {b : Box} (h : box a i = some b) (hg : goodRule r = true) (hk : ¬ (r.kind = 2 ∧ b.kids ≠ [])) : act a (.set i r) = (change a i fun q => { q with rule := r }, .num 0) := by
  simp only [act, h, hg, if_neg hk]
  rfl
theorem act_drop_none {a : Abs} {i : Nat} (h : box a i = none) : act a (.drop i) = (a, .num (-2)) := by simp only [act, h]
theorem act_drop_no {a : Abs} {i : Nat} {b : Box} (h : box a i = some b) (hk : i = 0 ∨ b.kids ≠ []) : act a (.drop i) = (a, .num (-13)) := by simp only [act, h, if_pos hk]
theorem act_drop_ok {a : Abs} {i : Nat} {b : Box} (h : box a i = some b) (hk : ¬ (i = 0 ∨ b.kids ≠ [])) : act a (.drop i) = (dropped a i b.in_, .num (many a - 1 : Nat)) := by
  simp only [act, h, if_neg hk]
  rfl
theorem erase_filter : ∀ {l : List Nat} {j i : Nat}, l.Nodup → l[j]? = some i → l.eraseIdx j = l.filter (· != i)
  | [], j, i, _, h => by simp at h
  | x :: r, 0, i, nd, h => by
    have e : x = i := by simpa using h
    subst e
    obtain ⟨h1, h2⟩ := List.nodup_cons.mp nd
    rw [List.eraseIdx_cons_zero, List.filter_cons, if_neg (by simp)]
    exact (List.filter_eq_self.mpr fun y hy => by
      have : y ≠ x := fun z => h1 (z ▸ hy)
      simpa using this).symm
  | x :: r, j + 1, i, nd, h => by
    obtain ⟨h1, h2⟩ := List.nodup_cons.mp nd
    have h' : r[j]? = some i := by simpa using h
    have ih := erase_filter h2 h'
    have hx : x ≠ i := fun z => h1 (z ▸ List.mem_of_getElem? h')
    rw [List.eraseIdx_cons_succ, List.filter_cons, if_pos (by simpa using hx), ih]
end BX
namespace BX
open Kp175
def ruleL : List Int → Rule
  | [s0, s1, s2, s3, s4, s5, s6, s7, s8, s9, s10, s11, s12, s13] => ⟨⟨s0.toNat, s1.toNat⟩, ⟨s2.toNat, s3.toNat⟩, ⟨s4.toNat, s5.toNat⟩, s6.toNat, s7.toNat, s8.toNat, s9.toNat, s10.toNat, s11.toNat, s12.toNat, s13.toNat⟩
  | _ => default
def N63 (x : Int) : Prop := 0 ≤ x ∧ x < 2 ^ 63
theorem natural_63 {x : Int} (h : Kp175Neutral.natural x 63 = true) : N63 x := by
  unfold Kp175Neutral.natural at h
  simp only [Bool.and_eq_true, decide_eq_true_eq] at h
  exact h
theorem whole_id (c : List (List Int)) : PyKp175.whole c = c := by
  unfold PyKp175.whole
  split <;> rfl
theorem calls_eq (l : List Int) : PyKp175.calls l = PyFlat.calls PyKp175.shape l.length l := by
  unfold PyKp175.calls
  cases PyFlat.calls PyKp175.shape l.length l with
  | none => rfl
  | some cs =>
    show some (cs.map PyKp175.whole) = some cs
    have : PyKp175.whole = id := by funext c; exact whole_id c
    rw [this, List.map_id]
theorem shape_rows {p : Int} {n k : Nat} (h : PyKp175.shape p = some (n, k)) : k = 0 := by
  unfold PyKp175.shape at h
  repeat' split at h
  all_goals first | (cases h; rfl) | cases h
theorem calls_step {f : Nat} {p : Int} {r : List Int} {cs : List (List (List Int))} (h : PyFlat.calls PyKp175.shape f (p :: r) = some cs) :
    ∃ n g cs', PyKp175.shape p = some (n, 0) ∧ n ≤ r.length ∧ cs = [p :: r.take n] :: cs' ∧ f = g + 1 ∧ PyFlat.calls PyKp175.shape g (r.drop n) = some cs' := by
  cases f with
  | zero => exact nomatch h
  | succ g =>
    unfold PyFlat.calls at h
    cases hs : PyKp175.shape p with
    | none =>
      have e : PyFlat.call PyKp175.shape (p :: r) = none := by
        simp only [PyFlat.call, hs]
      rw [e] at h
      cases h
    | some nk =>
      obtain ⟨n, k⟩ := nk
      obtain rfl := shape_rows hs
      by_cases hl : r.length < n
      · have e : PyFlat.call PyKp175.shape (p :: r) = none := by
          simp only [PyFlat.call, hs, if_pos hl]
        rw [e] at h
        cases h
      · have e : PyFlat.call PyKp175.shape (p :: r) = some ([p :: r.take n], r.drop n) := by
          simp only [PyFlat.call, hs, if_neg hl, PyFlat.rows]
        rw [e] at h
        simp only [] at h
        cases hc : PyFlat.calls PyKp175.shape g (r.drop n) with
        | none => rw [hc] at h; cases h
        | some cs' =>
          rw [hc] at h
          cases h
          exact ⟨n, g, cs', rfl, by omega, rfl, rfl, hc⟩
theorem calls_nil {f : Nat} {cs : List (List (List Int))} (h : PyFlat.calls PyKp175.shape f [] = some cs) : cs = [] := by
  cases f <;> (unfold PyFlat.calls at h; cases h; rfl)
abbrev S := Kp175Neutral.S
structure At (l : List Int) (b : Nat) (s : S) (out : List Int) : Prop where
  le : b ≤ l.length
  small : out.length ≤ 6 * b
  rest : ∃ f cs, PyFlat.calls PyKp175.shape f (l.drop b) = some cs ∧ Kp175Neutral.askedFrom s cs = true ∧ PyKp175.answers l = out ++ PyFlat.told (PyFlat.played Kp175Neutral.step s cs)
theorem At.start {l : List Int} (h : PyKp175.answers_asked l = true) : At l 0 Kp175Neutral.start [] := by
  unfold PyKp175.answers_asked at h
  cases hc : PyKp175.calls l with
  | none => rw [hc] at h; cases h
  | some cs =>
    rw [hc] at h
    simp only [Kp175Neutral.asked, Bool.and_eq_true] at h
    refine ⟨Nat.zero_le _, Nat.zero_le _, l.length, cs, by rw [List.drop_zero, ← calls_eq]; exact hc, h.2.2.2, ?_⟩
    unfold PyKp175.answers
    rw [hc]
    rfl
theorem At.end_ {l : List Int} {b : Nat} {s : S} {out : List Int} (h : At l b s out) (hb : l.length ≤ b) : PyKp175.answers l = out := by
  obtain ⟨f, cs, h1, _, h3⟩ := h.rest
  rw [List.drop_eq_nil_of_le hb] at h1
  obtain rfl := calls_nil h1
  rw [h3]
  simp [PyFlat.played, PyFlat.told]
inductive Asked (s : S) : Int → List Int → Call → Prop where
  | start (v : List Int) : v.length = 14 → (∀ x, x ∈ v → N63 x) → isRule (ruleL v) → Asked s 0 v (.start (ruleL v))
  | add (i : Int) (v : List Int) : s.isSome = true → v.length = 14 → N63 i → (∀ x, x ∈ v → N63 x) → isRule (ruleL v) → Asked s 1 (i :: v) (.add i.toNat (ruleL v))
  | set (i : Int) (v : List Int) : s.isSome = true → v.length = 14 → N63 i → (∀ x, x ∈ v → N63 x) → isRule (ruleL v) → Asked s 2 (i :: v) (.set i.toNat (ruleL v))
  | drop (i : Int) : s.isSome = true → N63 i → Asked s 3 [i] (.drop i.toNat)
  | lay (w h : Int) : s.isSome = true → N63 w → N63 h → Asked s 4 [w, h] (.lay w.toNat h.toNat)
  | place (i : Int) : s.isSome = true → N63 i → Asked s 5 [i] (.place i.toNat)
  | at_ (x y : Int) : s.isSome = true → Asked s 6 [x, y] (.at_ x y)
theorem callOf_rule0 {v : List Int} (h : v.length = 14) : Kp175Neutral.callOf [0 :: v] = some (.start (ruleL v)) := by
  match v, h with
  | [s0, s1, s2, s3, s4, s5, s6, s7, s8, s9, s10, s11, s12, s13], _ => rfl
theorem callOf_rule1 {i : Int} {v : List Int} (h : v.length = 14) : Kp175Neutral.callOf [1 :: i :: v] = some (.add i.toNat (ruleL v)) := by
  match v, h with
  | [s0, s1, s2, s3, s4, s5, s6, s7, s8, s9, s10, s11, s12, s13], _ => rfl
theorem callOf_rule2 {i : Int} {v : List Int} (h : v.length = 14) : Kp175Neutral.callOf [2 :: i :: v] = some (.set i.toNat (ruleL v)) := by
  match v, h with
  | [s0, s1, s2, s3, s4, s5, s6, s7, s8, s9, s10, s11, s12, s13], _ => rfl
theorem asked_rule0 {v : List Int} (h : v.length = 14) (a : Kp175Neutral.asked1 [0 :: v] = true) : ∀ x, x ∈ v → N63 x := by
  match v, h with
  | [s0, s1, s2, s3, s4, s5, s6, s7, s8, s9, s10, s11, s12, s13], _ =>
    simp only [Kp175Neutral.asked1, Bool.and_eq_true] at a
    intro x hx
    apply natural_63
    simp only [List.mem_cons, List.not_mem_nil, or_false] at hx
    rcases hx with rfl | rfl | rfl | rfl | rfl | rfl | rfl | rfl | rfl | rfl | rfl | rfl | rfl | rfl <;> simp_all
theorem asked_rule1 {i : Int} {v : List Int} (h : v.length = 14) (a : Kp175Neutral.asked1 [1 :: i :: v] = true) : N63 i ∧ ∀ x, x ∈ v → N63 x := by
  match v, h with
  | [s0, s1, s2, s3, s4, s5, s6, s7, s8, s9, s10, s11, s12, s13], _ =>
    simp only [Kp175Neutral.asked1, Bool.and_eq_true] at a
    refine ⟨natural_63 (by simp_all), ?_⟩
    intro x hx
    apply natural_63
    simp only [List.mem_cons, List.not_mem_nil, or_false] at hx
    rcases hx with rfl | rfl | rfl | rfl | rfl | rfl | rfl | rfl | rfl | rfl | rfl | rfl | rfl | rfl <;> simp_all
theorem asked_rule2 {i : Int} {v : List Int} (h : v.length = 14) (a : Kp175Neutral.asked1 [2 :: i :: v] = true) : N63 i ∧ ∀ x, x ∈ v → N63 x := by
  match v, h with
  | [s0, s1, s2, s3, s4, s5, s6, s7, s8, s9, s10, s11, s12, s13], _ =>
    simp only [Kp175Neutral.asked1, Bool.and_eq_true] at a
    refine ⟨natural_63 (by simp_all), ?_⟩
    intro x hx
    apply natural_63
    simp only [List.mem_cons, List.not_mem_nil, or_false] at hx
    rcases hx with rfl | rfl | rfl | rfl | rfl | rfl | rfl | rfl | rfl | rfl | rfl | rfl | rfl | rfl <;> simp_all
theorem may_pre {s : S} {c : Call} (h : Kp175Neutral.may s c = true) : (s.isSome = true ∨ Kp175Neutral.starts c = true) ∧ Pre c := by
  unfold Kp175Neutral.may at h
  rw [Bool.and_eq_true] at h
  refine ⟨by simpa [Bool.or_eq_true] using h.1, ?_⟩
  have := h.2
  exact @of_decide_eq_true _ (Kp175Neutral.preDec c) this
theorem ans_len (x : Ans) : (Kp175Neutral.wrKp175_Ans x).length ≤ 5 := by
  cases x with
  | num v => simp [Kp175Neutral.wrKp175_Ans, Kp175Neutral.wrInt]
  | place p => simp [Kp175Neutral.wrKp175_Ans, Kp175Neutral.wrKp175_Place, Kp175Neutral.wrInt]
theorem At.step {l : List Int} {b : Nat} {s : S} {out : List Int} (h : At l b s out) (hb : b < l.length) :
    ∃ p v c, l[b]? = some p ∧ (l.drop (b + 1)).take v.length = v ∧ b + 1 + v.length ≤ l.length ∧ PyKp175.shape p = some (v.length, 0) ∧ Asked s p v c ∧
      At l (b + 1 + v.length) (Kp175Neutral.does s c).1 (out ++ ((Kp175Neutral.wrKp175_Ans (Kp175Neutral.does s c).2).length : Int) :: Kp175Neutral.wrKp175_Ans (Kp175Neutral.does s c).2) := by
  obtain ⟨f, cs, h1, h2, h3⟩ := h.rest
  have ed : l.drop b = l[b] :: l.drop (b + 1) := by rw [List.drop_eq_getElem_cons hb]
  rw [ed] at h1
  obtain ⟨n, g, cs', hs, hn, rfl, rfl, hc⟩ := calls_step h1
  generalize hp : l[b] = p at *
  have hv : ((l.drop (b + 1)).take n).length = n := by rw [List.length_take]; omega
  have hn' : b + 1 + n ≤ l.length := by
    rw [List.length_drop] at hn
    omega
  generalize hw : (l.drop (b + 1)).take n = v at *
  -- what is asked of it
  have h2' : Kp175Neutral.asked1 [p :: v] = true ∧ (∃ c, Kp175Neutral.callOf [p :: v] = some c ∧ Kp175Neutral.may s c = true) ∧ Kp175Neutral.askedFrom (Kp175Neutral.step s [p :: v]).1 cs' = true := by
    unfold Kp175Neutral.askedFrom at h2
    rw [Bool.and_eq_true, Bool.and_eq_true] at h2
    obtain ⟨⟨q1, q2⟩, q3⟩ := h2
    refine ⟨q1, ?_, q3⟩
    cases e : Kp175Neutral.callOf [p :: v] with
    | none => rw [e] at q2; cases q2
    | some c => rw [e] at q2; exact ⟨c, rfl, q2⟩
  obtain ⟨q1, ⟨c, qc, qm⟩, q3⟩ := h2'
  have est : Kp175Neutral.step s [p :: v] = ((Kp175Neutral.does s c).1, Kp175Neutral.wrKp175_Ans (Kp175Neutral.does s c).2) := by
    unfold Kp175Neutral.step
    rw [qc]
  have hA : Asked s p v c := by
    obtain ⟨m1, m2⟩ := may_pre qm
    unfold PyKp175.shape at hs
    split at hs
    · rename_i e
      subst e
      cases hs
      rw [callOf_rule0 hv] at qc
      cases qc
      exact .start v hv (asked_rule0 hv q1) m2
    split at hs
    · rename_i e
      subst e
      cases hs
      match v, hv with
      | i :: v, hv =>
        have hv : v.length = 14 := by simpa using hv
        rw [callOf_rule1 hv] at qc
        cases qc
        obtain ⟨a1, a2⟩ := asked_rule1 hv q1
        exact .add i v (m1.resolve_right (by simp [Kp175Neutral.starts])) hv a1 a2 m2
    split at hs
    · rename_i e
      subst e
      cases hs
      match v, hv with
      | i :: v, hv =>
        have hv : v.length = 14 := by simpa using hv
        rw [callOf_rule2 hv] at qc
        cases qc
        obtain ⟨a1, a2⟩ := asked_rule2 hv q1
        exact .set i v (m1.resolve_right (by simp [Kp175Neutral.starts])) hv a1 a2 m2
    split at hs
    · rename_i e
      subst e
      cases hs
      match v, hv with
      | [i], _ =>
        cases qc
        exact .drop i (m1.resolve_right (by simp [Kp175Neutral.starts])) (natural_63 q1)
    split at hs
    · rename_i e
      subst e
      cases hs
      match v, hv with
      | [i, j], _ =>
        cases qc
        have q1 : (Kp175Neutral.natural i 63 && Kp175Neutral.natural j 63) = true := q1
        rw [Bool.and_eq_true] at q1
        exact .lay i j (m1.resolve_right (by simp [Kp175Neutral.starts])) (natural_63 q1.1) (natural_63 q1.2)
    split at hs
    · rename_i e
      subst e
      cases hs
      match v, hv with
      | [i], _ =>
        cases qc
        exact .place i (m1.resolve_right (by simp [Kp175Neutral.starts])) (natural_63 q1)
    split at hs
    · rename_i e
      subst e
      cases hs
      match v, hv with
      | [i, j], _ =>
        cases qc
        exact .at_ i j (m1.resolve_right (by simp [Kp175Neutral.starts]))
    cases hs
  refine ⟨p, v, c, by rw [List.getElem?_eq_getElem hb, hp], by rw [hv]; exact hw, by rw [hv]; exact hn', by rw [hv]; exact hs, hA, ?_⟩
  rw [hv]
  refine ⟨hn', ?_, g, cs', by rw [← List.drop_drop] ; exact hc, ?_, ?_⟩
  · have := h.small
    have := ans_len (Kp175Neutral.does s c).2
    have n1 : 1 ≤ n := by
      cases hA <;> simp_all <;> omega
    rw [List.length_append, List.length_cons]
    omega
  · rw [est] at q3
    exact q3
  · rw [h3]
    have ep : PyFlat.played Kp175Neutral.step s ([p :: v] :: cs') = (Kp175Neutral.step s [p :: v]).2 :: PyFlat.played Kp175Neutral.step (Kp175Neutral.step s [p :: v]).1 cs' := rfl
    rw [ep, est]
    unfold PyFlat.told
    rw [List.flatMap_cons, List.append_assoc]
end BX
namespace BXH
open PySem PySem.Spec PyProof.Rows PySem.W PySem.Calls L2
theorem reads_ints {R : WRecords} {cl : Str → Option Addr} {h : Heap} : ∀ {ns : List Int} {its : List Value}, Vals (ns.map V.int) its → ReadsAllW R cl h its (ns.map WData.int) []
  | [], _, r => by
    cases r
    exact .nil
  | n :: r, its, q => by
    cases q with
    | cons h1 h2 =>
      obtain ⟨t, rfl⟩ := h1
      exact .cons (as := []) (bs := []) (.int n t) (reads_ints h2)
theorem spec_call {P : Program} {w : World} {K : PySem.W.Frag} {mg mb : Str → Option Value} {CX : CXT} {k : Nat} {fa a : Addr} {fd : FuncData} {x : Str} {sp : Sp} {s₁ : Shared} {vs : List Value} {ns out : List Int}
    (KX : K.In s₁.heap) (hns : s₁.heap.Ns mainGlobals mg) (hb : s₁.heap.Ns builtinsNs mb) (hbb : ∀ x : Str, x ≠ "__name__" → mb x = bootBuiltins x) (hlim : s₁.heap.NoLimit) (hg : s₁.gens = #[])
    (ha : s₁.heap.get? a = some { cls := .type "list", data := .seq vs.toArray }) (hi : IntsAre vs ns) (hl : ns.length ≤ sizeLine) (hr : Room k callerA)
    (F : ∀ base : Heap, K.In base → base.Ns mainGlobals mg → FnOk P w K mg base CX k fa fd [x] sp) (hbind : ∀ (s : Shared) (u : Value), BindsTo s fd ⟨[u], []⟩ [(x, u)])
    (hsp : ∀ H : Hp, Only H → SqL K H a (ns.map V.int) → sp [.ref a] H (fun v H' => ∃ p, v = .ref p ∧ H' p = some (.lst (out.map V.int))) fun _ _ _ => False)
    (hCX : ∀ H e s', CX [] H s₁ (fun _ _ _ => False) e s' → False) :
    codeAny (model P w) callerA (.call (.ref fa) ⟨[.ref a], []⟩) (fun r s' => (∃ (p : Addr) (its : List Value) (n : Nat), r = .ok (.ret (.ref p)) ∧ Vals (out.map V.int) its ∧ s'.heap.get? p = some { cls := .type "list", data := .seq its.toArray n }) ∧
      OldK s₁.heap s'.heap ∧ s'.os = s₁.os ∧ AllBare s'.gens) s₁ := by
  have rv := vals_ints hi
  have lenV := hi.length
  have core : ∀ H : Hp, Only H → SqL K H a (ns.map V.int) → HOk P w H s₁.heap → (∀ b, H b ≠ none → b = a) → (H a ≠ none → K.lookup a = none) →
      codeAny (model P w) callerA (.call (.ref fa) ⟨[.ref a], []⟩) (fun r s' => (∃ (p : Addr) (its : List Value) (n : Nat), r = .ok (.ret (.ref p)) ∧ Vals (out.map V.int) its ∧ s'.heap.get? p = some { cls := .type "list", data := .seq its.toArray n }) ∧
        OldK s₁.heap s'.heap ∧ s'.os = s₁.os ∧ AllBare s'.gens) s₁ := by
    intro H hO hS hok hA hK
    have base_of : ∀ {b : Addr} {o : Obj}, s₁.heap.get? b = some o → H b = none → (hidT s₁.heap H).get? b = some o := fun e n => hidT_get e n
    have noA : ∀ {b : Addr} {o : Obj} {es : Array DictEntry} {ep : Nat}, s₁.heap.get? b = some o → o.data = .dict es ep → H b = none := fun {b o es ep} e d => by
      cases q : H b with
      | none => rfl
      | some u =>
        have e' : b = a := hA b (by rw [q]; simp)
        subst e'
        rw [ha] at e; cases e
        have d' : Data.seq vs.toArray _ = Data.dict es ep := d
        cases d'
    have nsK : ∀ {b : Addr} {m : Str → Option Value}, s₁.heap.Ns b m → (hidT s₁.heap H).Ns b m := fun {b m} ⟨o, es, ep, e, d, r⟩ => ⟨o, es, ep, base_of e (noA e d), d, r⟩
    have hKb : K.In (hidT s₁.heap H) := fun b o e => base_of (KX b o e) (by
      cases q : H b with
      | none => rfl
      | some u =>
        have e' : b = a := hA b (by rw [q]; simp)
        subst e'
        rw [hK (by rw [q]; simp)] at e; cases e)
    have hM : Mod K mg (hidT s₁.heap H) := ⟨hKb, nsK hns, ⟨mb, nsK hb, hbb⟩, let ⟨mc, h1, h2⟩ := hlim; ⟨mc, nsK h1, h2⟩⟩
    have e0 : Env0 P w K mg (hidT s₁.heap H) callerA [] s₁ H := ⟨rfl, hM, fun b o e => of_hidT e, Nat.le_of_eq (hidT_size _ _), trivial, fun b hb => absurd (show b ∈ ([] : List Addr) from hb) (by simp), hok, .of_eq hg⟩
    refine codeAny_mono ((F _ hKb (nsK hns)).run callerA [] s₁ H ⟨[.ref a], []⟩ [.ref a] [.ref a] _ _ hr e0 (hbind s₁ (.ref a)) (.cons rfl .nil) (hsp H hO hS)) fun r s' h => ?_
    cases r with
    | error e => exact (hCX H e s' h).elim
    | ok fl =>
      cases fl with
      | next => exact False.elim h
      | brk => exact False.elim h
      | cont => exact False.elim h
      | ret u =>
        obtain ⟨v, H', os, bare, un, hok', r', q⟩ := h
        obtain ⟨p, rfl, hp⟩ := q
        obtain rfl : u = Value.ref p := r'
        obtain ⟨_, its, n, rv', he⟩ := hok' p _ hp
        refine ⟨⟨p, its, n, rfl, rv', he⟩, OldK.of_keep fun b o e => ?_, os, bare⟩
        cases q : H b with
        | none => exact un.keep b o e q (by intro z; exact absurd (show b ∈ ([] : List Addr) from z) (by simp)) (by simp)
        | some u =>
          rcases hO b with z | ⟨ob, xs, z⟩
          · rw [q] at z; cases z
          · have z2 := un.frzs b ob _ z
            obtain ⟨e1, _⟩ := hok b _ z
            obtain ⟨e2, _⟩ := hok' b _ z2
            rw [e] at e1; cases e1
            exact e2
  cases hk : K.lookup a with
  | some o =>
    have e := KX a o hk
    rw [ha] at e
    cases e
    refine core (fun _ => none) (fun _ => .inl rfl) (.inr ⟨_, vs.toArray, _, hk, rfl, rfl, rfl, by rw [List.size_toArray, lenV]; exact hl, by simpa using rv⟩) (fun b u z => by have z' : (none : Option HO) = some u := z; cases z') (fun b z => absurd rfl z) fun z => absurd rfl z
  | none =>
    refine core (fun b => if b = a then some (.frz { cls := .type "list", data := .seq vs.toArray } (.lst (ns.map V.int))) else none) (fun b => ?_) (.inl (.inr ⟨{ cls := .type "list", data := .seq vs.toArray }, if_pos rfl⟩)) (fun b u z => ?_) (fun b z => ?_) fun _ => hk
    · by_cases hb : b = a
      · exact .inr ⟨_, _, if_pos hb⟩
      · exact .inl (if_neg hb)
    · by_cases hb : b = a
      · have z' := (if_pos hb).symm.trans z
        cases z'
        subst hb
        exact ⟨ha, by rw [List.length_map]; exact hl, vs, _, rv, ha⟩
      · have z' := (if_neg hb).symm.trans z
        cases z'
    · by_cases hb : b = a
      · exact hb
      · exact absurd (if_neg hb) z
theorem ints_of {least most : Nat} {lo hi : Int} {P : Params} {h : Heap} {args : List WData} {vals : List Value} (hsh : WShape.hasAll [] args [.list .int] = true) (hwl : WellAll P h vals args) :
    ∃ a vs ns, vals = [Value.ref a] ∧ args = [ofPy (PyData.list (ns.map PyData.int))] ∧ h.get? a = some { cls := .type "list", data := .seq vs.toArray } ∧ IntsAre vs ns := by
  obtain ⟨d, r, rfl, h1, h2⟩ := hasAllW_cons hsh
  obtain rfl := hasAllW_nil h2
  obtain ⟨xs, rfl, h3⟩ := hasW_list h1
  obtain ⟨ns, rfl⟩ := items_int h3
  cases hwl with
  | cons w1 w2 =>
    cases w2
    cases w1 with
    | list ho hall => exact ⟨_, _, ns, rfl, by rw [← ofPys_ints]; rfl, ho, Att.ints_of_wellAll ns _ hall⟩
theorem walk_spec {P : Program} {nm : Str} {least most l2 m2 : Nat} {lo hi lo2 hi2 : Int} {asked : List Int → Bool} {f : List Int → List Int} {k : Nat} {q : Program} {loose : List Str} {XP : (Str → Option Value) → Heap → Prop} {YP : World → Heap → Prop}
    {d : DefRec} {K : Params → PySem.W.Frag} {sp : PySem.W.Frag → Sp} {x : Str}
    (hn2 : most ≤ sizeLine) (hdf : d.params.defaults = []) (hr : Room k callerA)
    (hY : ∀ (w : World) (h : Heap), YP w h → (K w.params).In h)
    (F : ∀ (w : World) (mg : Str → Option Value) (fa : Addr) (h : Heap), (K w.params).In h → h.Ns mainGlobals mg → mg d.name = some (.ref fa) →
      ∃ fd : FuncData, (∀ (s : Shared) (u : Value), BindsTo s fd ⟨[u], []⟩ [(x, u)]) ∧
        ∀ base : Heap, (K w.params).In base → base.Ns mainGlobals mg → FnOk P w (K w.params) mg base CX0 k fa fd [x] (sp (K w.params)))
    (hsp : ∀ (K : PySem.W.Frag) (H : Hp) (a : Addr) (ns : List Int), ns.length ≤ most → asked ns = true → (∀ x, x ∈ ns → lo ≤ x ∧ x ≤ hi) → Only H → SqL K H a (ns.map V.int) →
      sp K [.ref a] H (fun v H' => ∃ p, v = .ref p ∧ H' p = some (.lst ((f ns).map V.int))) fun _ _ _ => False) :
    PySem.W.WalkOS q loose XP YP ⟨P, nm, [.list least most (.int lo hi)], .list l2 m2 (.int lo2 hi2), asked, f⟩ d [] (fun f vs => PySem.call f vs) := by
  intro w s₀ s₁ mg mb G Y fa o pm cd doc dV kV ho hd hcd hD hmg hg args vals as hpre hlay hrd hwl hlo
  obtain rfl : dV = .none := Dflts.none hD hdf
  obtain rfl : kV = .none := Dflts.noKw hD
  have hsh : WShape.hasAll [] args [.list .int] = true := os_shapes args hpre
  obtain ⟨a, vs, ns, rfl, rfl, hobj, hints⟩ := ints_of (least := least) (most := most) (lo := lo) (hi := hi) hsh hwl
  obtain ⟨dec, le1, le2, items⟩ := os_dec_ints (least := least) (most := most) (lo := lo) (hi := hi) (os_pre_isSome hpre)
  have hasked : asked ns = true := os_pre_asked hpre dec
  have KX := hY w _ Y
  obtain ⟨fd, hb, hF⟩ := F w mg fa _ KX G.T.g hmg
  refine enter_call (codeAny_mono (spec_call (out := f ns) KX G.T.g G.T.b G.T.builtins G.T.nolimit hg hobj hints (Nat.le_trans le2 hn2) hr hF hb (fun H hO hS => hsp _ H a ns le2 hasked items hO hS) fun H e s' z => z) fun r s' hq => ?_)
  obtain ⟨⟨p, its, n, rfl, rv, he⟩, h2, h3, h4⟩ := hq
  refine ⟨.inl ⟨.ref p, .list ((f ns).map WData.int), [p], rfl, fun _ => rfl, .list he rfl rfl (by simpa using reads_ints rv), ?_, fun z => absurd z Bool.false_ne_true⟩, h2, h3, h4⟩
  exact osPost (os_post dec (by
    show same (.list ((f ns).map WData.int)) (.list ((f ns).map WData.int)) = true
    exact same_self _))
end BXH
namespace L2
open PySem PySem.Spec PyProof.Rows
section
variable {X : Cx}
theorem tyL {K : PySem.W.Frag} {H : Hp} {l : Addr} {xs : List V} (h : H l = some (.lst xs)) : tyV K "list" (.ref l) H := Or.inl ⟨rfl, _, SqL.of h⟩
def isK (k : Int) : Value → Bool
  | .int i _ => i == k
  | _ => false
theorem isK_of {ns : List Int} {its : List Value} (r : Vals (ns.map V.int) its) {j : Nat} (hj : j < its.length) (k : Int) : isK k its[j] = decide (ns[j]? = some k) := by
  have hl := r.length
  rw [List.length_map] at hl
  have hn : j < ns.length := by omega
  obtain ⟨u, hu, ru⟩ := r.get (i := j) (x := V.int ns[j]) (by rw [List.getElem?_map, List.getElem?_eq_getElem hn]; rfl)
  obtain ⟨_, e⟩ := List.getElem?_eq_some_iff.mp hu
  obtain ⟨t, rfl⟩ := ru
  rw [e]
  show (ns[j] == k) = _
  rw [List.getElem?_eq_getElem hn]
  simp [Bool.beq_eq_decide_eq]
theorem isK_eq {k : Int} {t : Tok} : ∀ {ns : List Int} {its : List Value}, Vals (ns.map V.int) its → ∀ y, y ∈ its → MeetsSeq.EqGives y (.int k t) (isK k y)
  | [], _, r, y, hy => by
    cases r
    cases hy
  | n :: ns, _, r, y, hy => by
    cases r with
    | cons r1 r2 =>
      obtain ⟨u, rfl⟩ := r1
      rcases List.mem_cons.mp hy with rfl | hy
      · exact MeetsSeq.EqGives.int n k u t
      · exact isK_eq r2 y hy
theorem map_eraseG {α β : Type} (f : α → β) : ∀ (j : Nat) (ns : List α), (ns.map f).eraseIdx j = (ns.eraseIdx j).map f
  | _, [] => rfl
  | 0, _ :: _ => rfl
  | j + 1, x :: r => by
    show f x :: (r.map f).eraseIdx j = f x :: (r.eraseIdx j).map f
    rw [map_eraseG f j r]
theorem map_erase (j : Nat) (ns : List Int) : (ns.map V.int).eraseIdx j = (ns.eraseIdx j).map V.int := map_eraseG _ j ns
def rRemove : V → List V → Hp → VK → Prop := fun x vs H Q => ∃ (l : Addr) (ns : List Int) (k : Int) (j : Nat), x = .ref l ∧ vs = [.int k] ∧ H l = some (.lst (ns.map V.int)) ∧ ns[j]? = some k ∧ (∀ m : Nat, m < j → ns[m]? ≠ some k) ∧
  Q .non (upd H l (.lst ((ns.eraseIdx j).map V.int)))
theorem mt_remove : MtM X "list.remove" rRemove := by
  intro pins s σ H x vs v us Q I rx rv h
  obtain ⟨l, ns, k, j, rfl, rfl, hH, hj, hno, q⟩ := h
  cases rx
  obtain ⟨u, rfl, ru⟩ := rv.one
  obtain ⟨t, rfl⟩ := ru
  obtain ⟨z, its, n, r, hl, e⟩ := I.lstM hH
  have hjn : j < ns.length := (List.getElem?_eq_some_iff.mp hj).1
  have hji : j < its.length := by rw [← hl, List.length_map]; exact hjn
  have ev : (ns.map V.int).eraseIdx j = (ns.eraseIdx j).map V.int := map_erase j ns
  refine call_meets F.slot_list_remove ⟨_, e, rfl⟩ F.entry_list_remove (F.args_list_remove_2 _ _)
    (MeetsSeq.list_remove l its.toArray n (.int k t) (isK k) (fun y hy => isK_eq r y (by simpa using hy)) j (by simpa using hji) ?_ ?_ (by rw [List.size_toArray]; omega)) ⟨e, ?_⟩
  · have := isK_of r hji k
    simpa [hj] using this
  · intro m hm hmj
    have hm' : m < its.length := by simpa using hm
    have := isK_of r hm' k
    simpa [hno m hmj] using this
  · refine ⟨.non, _, I.lset (its' := its.eraseIdx j) (ys := (ns.eraseIdx j).map V.int) hH e (by simp) (by rw [← ev]; exact r.eraseIdx j) ?_, rfl, q⟩
    rw [← ev]
    exact Nat.le_trans (len_erase _ _) z
end
end L2
namespace L2
open PySem PySem.Spec PyProof.Rows
section
variable {X : Cx}
theorem call_rng1 : CallR X (.type "range") (fun xs H Q => ∃ j : Int, xs = [.int j] ∧ ∀ p, H p = none → Q (.ref p) (upd H p (.rng 0 j))) := by
  intro pins s σ H xs us Q I r q
  obtain ⟨j, ex, q⟩ := q
  subst ex
  obtain ⟨u, eu, rx⟩ := vals1 r
  subst eu
  obtain ⟨t, rfl⟩ := rx
  refine call_range_1 ?_
  refine ⟨.ref s.heap.objs.size, _, I.laid (t' := _) (fun b o e => Heap.get?_push_of_some _ e) (Nat.le_refl _) (show ObjOk X.prog X.w _ _ _ (.rng 0 j) from ⟨_, _, _, Heap.get?_push_size _ rfl⟩), rfl, q _ (I.hok.fresh (Nat.le_refl _))⟩
theorem ints_from {n : Nat} : ∀ {vs : List Value} (k : Nat), (∀ (i : Nat) (v : Value), vs[i]? = some v → ∃ t, v = .int ((k + i : Nat) : Int) t) → Vals ((List.range' k vs.length).map fun i => V.int ((i : Nat) : Int)) vs
  | [], _, _ => .nil
  | v :: vs, k, h => by
    obtain ⟨t, e⟩ := h 0 v rfl
    have e1 : v = .int ((k : Nat) : Int) t := by rw [e, Nat.add_zero]
    refine .cons ⟨t, e1⟩ (ints_from (n := n) (k + 1) fun i w hw => ?_)
    obtain ⟨t', e'⟩ := h (i + 1) w (by simpa using hw)
    exact ⟨t', by rw [e']; congr 2; omega⟩
theorem call_list_rng (hc : X.calm = true) : CallR X (.type "list") (fun xs H Q => ∃ (p : Addr) (n : Nat), xs = [.ref p] ∧ H p = some (.rng 0 n) ∧ n ≤ 2 ^ 24 ∧ ∀ l, H l = none → Q (.ref l) (upd H l (.lst ((List.range n).map fun i => V.int ((i : Nat) : Int))))) := by
  intro pins s σ H xs us Q I r q
  obtain ⟨p, n, ex, hp, hn, q⟩ := q
  subst ex
  obtain ⟨u, eu, rx⟩ := vals1 r
  subst eu
  cases rx
  obtain ⟨t, t', t'', e⟩ := I.hok p _ hp
  refine call_list_range (n := n) (I.ok.hd hc) e (small_one (by omega) (by omega) (by omega) (by omega)) (by rw [rangeSize_one]; split <;> omega) hn fun h' tk acc c' kp hS hit => ?_
  refine ⟨.ref s.heap.objs.size, _, I.laid (t' := tk) kp (Nat.le_refl _) (show ObjOk X.prog X.w _ h' _ (.lst ((List.range n).map fun i => V.int ((i : Nat) : Int))) from ⟨?_, acc.toList, c', ?_, by simpa using hS⟩), rfl, q _ (I.hok.fresh (Nat.le_refl _))⟩
  · rw [List.length_map, List.length_range]
    exact hn
  · have hl : acc.toList.length = n := by rw [Array.length_toList]; exact hit.1
    have z := ints_from (n := n) (vs := acc.toList) 0 fun i v hv => by
      obtain ⟨t, e⟩ := hit.2 i v (by simpa using hv)
      exact ⟨t, by rw [e]; congr 1; omega⟩
    rw [hl] at z
    rw [List.range_eq_range']
    exact z
end
section
variable {prog : Program} {w : World} {A : Around} {E : Value → Shared → Prop} {s : Shared}
abbrev ZipO (h : Heap) (z ti to_ q : Addr) (f : Bool) : Prop := h.get? z = some { cls := .type "zip", dict := none, data := .fields #[rawInt q, .bool f, .bool false, .ref ti, .ref to_], slots := #[] }
theorem zipO_begin {z ti to_ q : Addr} {f : Bool} {oq : Obj} {Qz : Bool → Shared → Prop} (hz : ZipO s.heap z ti to_ q f) (hq : s.heap.get? q = some oq)
    (k : ∀ h', ZipO h' z ti to_ q true → Heap.SameBut z s.heap h' → Qz false { s with heap := h' }) : wpAny (model prog w) A (Builtin.SmallTypes.ownedTupleIsFree (.ref z)) Qz E s := by
  unfold Builtin.SmallTypes.ownedTupleIsFree
  refine wpAny_bind (wpAny_field hz rfl (x := rawInt q) rfl ?_)
  show wpAny _ _ (loadIfAlive ((q : Int).toNat) >>= _) _ _ _
  rw [Int.toNat_natCast]
  refine wpAny_bind (PySem.W.kdx_alive hq ?_)
  simp only [Option.isNone_some, Bool.false_eq_true, if_false]
  refine wpAny_bind (wpAny_field hz rfl (x := .bool f) rfl ?_)
  cases f with
  | true =>
    rw [if_neg (show ¬ ((Value.bool true != Value.bool true) = true) from Bool.false_ne_true)]
    exact wpAny_pure (k _ hz (Heap.SameBut.refl _ _))
  | false =>
    rw [if_pos (show (Value.bool false != Value.bool true) = true from rfl)]
    exact wpAny_bind (wpAny_setField_rec hz (by simp) fun h3 e3 s3 => wpAny_pure (k h3 e3 s3))
theorem zipO_item {z ti to_ i1 i2 l1 l2 q : Addr} {f : Bool} {oq : Obj} {k1 k2 : Nat} {xs ys : Array Value} {x y : Value} {Qz : Value → Shared → Prop} (D : ZipApart z ti to_ i1 i2 l1 l2)
    (hz : ZipO s.heap z ti to_ q f) (hq : s.heap.get? q = some oq) (hti : IsPair s.heap ti (.ref i1) (.ref i2))
    (h1 : s.heap.IsListIter i1 l1 k1) (h2 : s.heap.IsListIter i2 l2 k2) (hl1 : s.heap.IsList l1 xs) (hl2 : s.heap.IsList l2 ys) (hx : xs[k1]? = some x) (hy : ys[k2]? = some y)
    (k : ∀ h', ZipO h' z ti to_ q true → h'.IsListIter i1 l1 (k1 + 1) → h'.IsListIter i2 l2 (k2 + 1) → IsPair h' s.heap.objs.size x y → h'.objs.size = s.heap.objs.size + 1 →
      (∀ c o, c ≠ z → c ≠ i1 → c ≠ i2 → s.heap.get? c = some o → h'.get? c = some o) → Qz (.ref s.heap.objs.size) { s with heap := h' }) :
    wpAny (model prog w) A (Builtin.«zip.__next__» ⟨[.ref z], []⟩) (fun fin s' => ∃ v, fin = .done (.ret v) ∧ Qz v s') E s := by
  show wpAny _ _ (field (.ref z) 2 >>= _) _ _ _
  refine wpAny_bind (wpAny_field hz rfl (x := .bool false) rfl ?_)
  show wpAny _ _ (field (.ref z) 3 >>= _) _ _ _
  refine wpAny_bind (wpAny_field hz rfl (x := .ref ti) rfl ?_)
  refine wpAny_bind (wpAny_seqItems hti rfl ?_)
  show wpAny _ _ (Builtin.SmallTypes.ownedTupleIsFree (.ref z) >>= _) _ _ _
  refine wpAny_bind (zipO_begin hz hq fun ha hza sa => ?_)
  simp only [Bool.false_eq_true, if_false]
  refine wpAny_bind ?_
  rw [← Array.forIn_toList]
  simp only [List.forIn_cons, List.forIn_nil]
  refine wpAny_bind (wpAny_bind (wpAny_holding ?_))
  show wpAny _ _ (Builtin.SmallTypes.nextOf (.ref i1) >>= _) _ _ _
  refine wpAny_bind (wpAny_nextOf_list_item (h1.extBut sa.extBut D.i1z) (hl1.extBut sa.extBut D.l1z) hx fun hb h1b sb => wpAny_pure (wpAny_pure ?_))
  refine wpAny_bind (wpAny_bind (wpAny_holding ?_))
  show wpAny _ _ (Builtin.SmallTypes.nextOf (.ref i2) >>= _) _ _ _
  refine wpAny_bind (wpAny_nextOf_list_item ((h2.extBut sa.extBut D.i2z).extBut sb.extBut D.i12.symm) ((hl2.extBut sa.extBut D.l2z).extBut sb.extBut D.l2i1) hy fun hc h2c sc => wpAny_pure (wpAny_pure (wpAny_pure ?_)))
  show wpAny _ _ (newTuple [x, y] >>= _) _ _ _
  refine wpAny_bind (wpAny_newTuple ?_)
  have hsz : hc.objs.size = s.heap.objs.size := by rw [sc.1, sb.1, sa.1]
  have kp : ∀ c o, c ≠ z → c ≠ i1 → c ≠ i2 → s.heap.get? c = some o → hc.get? c = some o := fun c o c1 c2 c3 e => sc.extBut _ _ c3 (sb.extBut _ _ c2 (sa.extBut _ _ c1 e))
  have hzc : ZipO hc z ti to_ q true := sc.extBut _ _ D.i2z.symm (sb.extBut _ _ D.i1z.symm hza)
  have hT : IsPair (hc.push { cls := .type "tuple", data := .seq #[x, y] }) s.heap.objs.size x y := by rw [← hsz]; exact Heap.get?_push_size _ rfl
  refine wpAny_pure ⟨_, rfl, ?_⟩
  show Qz (.ref hc.objs.size) _
  rw [hsz]
  refine k _ (Heap.get?_push_of_some _ hzc) ((h1b.extBut sc.extBut D.i12).at fun o e => Heap.get?_push_of_some _ e) (h2c.at fun o e => Heap.get?_push_of_some _ e) hT (by rw [Heap.size_push, hsz]) fun c o c1 c2 c3 e => Heap.get?_push_of_some _ (kp c o c1 c2 c3 e)
theorem zipO_end {z ti to_ i1 i2 l1 l2 q : Addr} {f : Bool} {oq : Obj} {k1 k2 : Nat} {xs ys : Array Value} {Qz : Fin → Shared → Prop} (hh : A.handled = none) (D : ZipApart z ti to_ i1 i2 l1 l2)
    (hz : ZipO s.heap z ti to_ q f) (hq : s.heap.get? q = some oq) (hti : IsPair s.heap ti (.ref i1) (.ref i2))
    (h1 : s.heap.IsListIter i1 l1 k1) (hl1 : s.heap.IsList l1 xs) (hx : xs[k1]? = none)
    (k : ∀ h' e, (∀ c o, c ≠ z → c ≠ i1 → s.heap.get? c = some o → h'.get? c = some o) → (∃ o, h'.get? e = some o ∧ o.cls = .type "StopIteration") → E (.ref e) { s with heap := h' }) :
    wpAny (model prog w) A (Builtin.«zip.__next__» ⟨[.ref z], []⟩) Qz E s := by
  show wpAny _ _ (field (.ref z) 2 >>= _) _ _ _
  refine wpAny_bind (wpAny_field hz rfl (x := .bool false) rfl ?_)
  show wpAny _ _ (field (.ref z) 3 >>= _) _ _ _
  refine wpAny_bind (wpAny_field hz rfl (x := .ref ti) rfl ?_)
  refine wpAny_bind (wpAny_seqItems hti rfl ?_)
  show wpAny _ _ (Builtin.SmallTypes.ownedTupleIsFree (.ref z) >>= _) _ _ _
  refine wpAny_bind (zipO_begin hz hq fun ha hza sa => ?_)
  simp only [Bool.false_eq_true, if_false]
  refine wpAny_bind ?_
  rw [← Array.forIn_toList]
  simp only [List.forIn_cons, List.forIn_nil]
  refine wpAny_bind (wpAny_bind (wpAny_holding ?_))
  show wpAny _ _ (Builtin.SmallTypes.nextOf (.ref i1) >>= _) _ _ _
  exact wpAny_bind (wpAny_nextOf_list_end hh (h1.extBut sa.extBut D.i1z) (hl1.extBut sa.extBut D.l1z) hx fun hb e sb he => k hb e (fun c o c1 c2 x => sb _ _ c2 (sa.extBut _ _ c1 x)) he)
theorem next_zipO {z ti to_ i1 i2 l1 l2 q : Addr} {f : Bool} {oq : Obj} {k1 k2 : Nat} {xs ys : Array Value} {x y : Value} {Qz : Option Value → Shared → Prop} (D : ZipApart z ti to_ i1 i2 l1 l2)
    (hz : ZipO s.heap z ti to_ q f) (hq : s.heap.get? q = some oq) (hti : IsPair s.heap ti (.ref i1) (.ref i2))
    (h1 : s.heap.IsListIter i1 l1 k1) (h2 : s.heap.IsListIter i2 l2 k2) (hl1 : s.heap.IsList l1 xs) (hl2 : s.heap.IsList l2 ys) (hx : xs[k1]? = some x) (hy : ys[k2]? = some y)
    (k : ∀ h', ZipO h' z ti to_ q true → h'.IsListIter i1 l1 (k1 + 1) → h'.IsListIter i2 l2 (k2 + 1) → IsPair h' s.heap.objs.size x y → h'.objs.size = s.heap.objs.size + 1 →
      (∀ c o, c ≠ z → c ≠ i1 → c ≠ i2 → s.heap.get? c = some o → h'.get? c = some o) → Qz (some (.ref s.heap.objs.size)) { s with heap := h' }) :
    wpAny (model prog w) A (pyNext (.ref z)) Qz E s := by
  have tz : s.TypeIs (.ref z) "zip" := ⟨_, hz, rfl⟩
  unfold pyNext
  exact wpAny_bind (wpAny_attempt (wpAny_callSpecial?_slot (name := Str.ofString "__next__") tz F.slot_zip_next
    (wpAny_call_entry F.slot_zip_next tz F.entry_zip_next (zipO_item D hz hq hti h1 h2 hl1 hl2 hx hy fun h' a1 a2 a3 a4 a5 a6 => wpAny_pure (k h' a1 a2 a3 a4 a5 a6)) (F.args_zip_next_1 _))))
theorem next_zipO_end {z ti to_ i1 i2 l1 l2 q : Addr} {f : Bool} {oq : Obj} {k1 : Nat} {xs : Array Value} {Qz : Option Value → Shared → Prop} (hh : A.handled = none) (D : ZipApart z ti to_ i1 i2 l1 l2)
    (hz : ZipO s.heap z ti to_ q f) (hq : s.heap.get? q = some oq) (hti : IsPair s.heap ti (.ref i1) (.ref i2))
    (h1 : s.heap.IsListIter i1 l1 k1) (hl1 : s.heap.IsList l1 xs) (hx : xs[k1]? = none)
    (k : ∀ h', (∀ c o, c ≠ z → c ≠ i1 → s.heap.get? c = some o → h'.get? c = some o) → Qz none { s with heap := h' }) : wpAny (model prog w) A (pyNext (.ref z)) Qz E s := by
  have tz : s.TypeIs (.ref z) "zip" := ⟨_, hz, rfl⟩
  unfold pyNext
  refine wpAny_bind (wpAny_attempt (wpAny_callSpecial?_slot (name := Str.ofString "__next__") tz F.slot_zip_next
    (wpAny_call_entry F.slot_zip_next tz F.entry_zip_next (zipO_end (k2 := 0) (ys := #[]) hh D hz hq hti h1 hl1 hx fun h' e hk he => ?_) (F.args_zip_next_1 _))))
  obtain ⟨o, ho, hc⟩ := he
  refine wpAny_bind (wpAny_isInstance (T := "StopIteration") (b := true) ⟨o, ho, hc⟩ isSubtype_stop ?_)
  exact wpAny_pure (k _ hk)
theorem zip_keys_none : typeLookup (.type "zip") "keys" = pure none := by rw [typeLookup_type, builtinLookup_eq_fast]; kernel_rfl
theorem zip_getattr_none : typeLookup (.type "zip") "__getattr__" = pure none := by rw [typeLookup_type, builtinLookup_eq_fast]; kernel_rfl
theorem entry_zip_ga : entryFor table "zip.__getattribute__" = some Builtin.«object.__getattribute__» :=
  entryFor_alias (id' := "object.__getattribute__") (by kernel_rfl) (by decide +kernel) (by decide +kernel) (by kernel_rfl)
theorem meets_ga_zip (z : Addr) (fs : Array Value) (sl : Array (Option Value)) (nm : Str) (u : Tok) (hmiss : typeLookup (.type "zip") nm = pure none) (hname : (["__module__", "__name__", "__qualname__", "__doc__", "__annotations__"] : List Str).contains nm = false) (hsz : nm.length + 100 ≤ sizeLine) :
    Meets (Builtin.«object.__getattribute__» ⟨[.ref z, .str nm u], []⟩) (fun A R s => s.heap.get? z = some { cls := .type "zip", dict := none, data := .fields fs, slots := sl } ∧ raisesAttr (.ref z) nm A R s) :=
  Meets.of_wp fun prog w A R s hs => by
    obtain ⟨hp, g, d, tk, os⟩ := s
    obtain ⟨hx, hs⟩ := hs
    have tz : (⟨hp, g, d, tk, os⟩ : Shared).TypeIs (.ref z) "zip" := ⟨_, hx, rfl⟩
    unfold Builtin.«object.__getattribute__»
    repeat (any_goals (first | assumption | wp_step))
    simp only [hname, Bool.false_eq_true, if_false]
    repeat (any_goals (first | assumption | wp_step))
    exact wpAny_raiseAttrError hs.1 hs.2 (attrMsg_fits (by decide +kernel) hsz)
theorem miss_zip {z : Addr} {fs : Array Value} {sl : Array (Option Value)} {Qz : Option Value → Shared → Prop} (hx : s.heap.get? z = some { cls := .type "zip", dict := none, data := .fields fs, slots := sl }) (hA : A.handled = none)
    (k : ∀ h' tk, (∀ b ob, s.heap.get? b = some ob → h'.get? b = some ob) → Qz none { s with heap := h', toks := tk }) : wpAny (model prog w) A (getAttr? (.ref z) "keys") Qz E s := by
  obtain ⟨hp, g, d, tk, os⟩ := s
  have tz : ∀ tk', (⟨hp, g, d, tk', os⟩ : Shared).TypeIs (.ref z) "zip" := fun _ => ⟨_, hx, rfl⟩
  have hmiss := zip_keys_none
  have hname : (["__module__", "__name__", "__qualname__", "__doc__", "__annotations__"] : List Str).contains "keys" = false := by decide +kernel
  have hsz : ("keys" : Str).length + 100 ≤ sizeLine := by first | size_fits | decide +kernel
  have f1 := sub_AttributeError
  have f3 := PySem.F.slot_zip_getattribute.lookup
  have f4 := PySem.F.slot_zip_getattribute.bind (.ref z)
  have f5 := zip_getattr_none
  unfold getAttr? getAttrBy? getAttrBy
  repeat (any_goals (first | assumption | exact tz _ | ((with_reducible show wpAny _ _ (call (Value.builtin "zip.__getattribute__") _ _) _ _ _); refine call_meets PySem.F.slot_zip_getattribute (tz _) entry_zip_ga (PySem.F.args_zip_getattribute_2 _ _) (meets_ga_zip z fs sl "keys" _ hmiss hname hsz) ⟨hx, hA, fun h' tk' e hx' => ?_⟩) | wp_step))
  obtain ⟨t', u', he⟩ := hx'.there
  show wpAny _ _ (getattributeRaised _ _ _ _ _ _ _) _ _ _
  unfold getattributeRaised
  repeat (any_goals (first | assumption | wp_step))
  all_goals first | exact k _ _ hx'.keeps | (dsimp only; repeat (any_goals (first | assumption | exact k _ _ hx'.keeps | wp_step)))
end
end L2
namespace L2
open PySem PySem.Spec PyProof.Rows
section
variable {prog : Program} {w : World} {A : Around} {E : Value → Shared → Prop}
def ZipS (h : Heap) (S z ti to_ i1 i2 : Addr) : Prop :=
  (IsZip h z ti to_ .none ∧ ∃ a b, IsPair h to_ a b) ∨ ∃ (q : Addr) (f : Bool) (oq : Obj), ZipO h z ti to_ q f ∧ h.get? q = some oq ∧ q ≠ S ∧ q ≠ z ∧ q ≠ to_ ∧ q ≠ i1 ∧ q ≠ i2
theorem next_zs {s : Shared} {S z ti to_ i1 i2 l1 l2 : Addr} {k : Nat} {xs ys : Array Value} {x y : Value} {Qz : Option Value → Shared → Prop} (D : ZipApart z ti to_ i1 i2 l1 l2) (lS : S < s.heap.objs.size) (hZ : ZipS s.heap S z ti to_ i1 i2) (hti : IsPair s.heap ti (.ref i1) (.ref i2))
    (h1 : s.heap.IsListIter i1 l1 k) (h2 : s.heap.IsListIter i2 l2 k) (hl1 : s.heap.IsList l1 xs) (hl2 : s.heap.IsList l2 ys) (hx : xs[k]? = some x) (hy : ys[k]? = some y)
    (g : ∀ h', ZipS h' S z ti to_ i1 i2 → h'.IsListIter i1 l1 (k + 1) → h'.IsListIter i2 l2 (k + 1) → IsPair h' s.heap.objs.size x y → (∀ c o, c ≠ z → c ≠ to_ → c ≠ i1 → c ≠ i2 → s.heap.get? c = some o → h'.get? c = some o) → Qz (some (.ref s.heap.objs.size)) { s with heap := h' }) :
    wpAny (model prog w) A (pyNext (.ref z)) Qz E s := by
  have lt1 : i1 < s.heap.objs.size := by obtain ⟨_, e, _⟩ := h1; exact Heap.lt_size e
  have lt2 : i2 < s.heap.objs.size := by obtain ⟨_, e, _⟩ := h2; exact Heap.lt_size e
  rcases hZ with ⟨hz, a, b, hto⟩ | ⟨q, f, oq, hz, hq, q1, q2, q3, q4, q5⟩
  · refine wpAny_pyNext_zip_item D hz hti hto h1 h2 hl1 hl2 hx hy fun h' z' to' a1 a2 hT hsz hk => g h' (.inr ⟨s.heap.objs.size, false, _, z', hT, Nat.ne_of_gt lS, Nat.ne_of_gt (Heap.lt_size hz), Nat.ne_of_gt (Heap.lt_size hto), Nat.ne_of_gt lt1, Nat.ne_of_gt lt2⟩) a1 a2 hT hk
  · refine next_zipO D hz hq hti h1 h2 hl1 hl2 hx hy fun h' z' a1 a2 hT hsz hk => g h' (.inr ⟨q, true, oq, z', hk q oq q2 q4 q5 hq, q1, q2, q3, q4, q5⟩) a1 a2 hT fun c o c1 c2 c3 c4 e => hk c o c1 c3 c4 e
theorem upd_zip {R : Result → Shared → Prop} {S z ti to_ i1 i2 l1 l2 : Addr} {xs ys : Array Value} {res : Value} (hh : A.handled = none) (D : ZipApart z ti to_ i1 i2 l1 l2) (n1 : S ≠ z) (n2 : S ≠ ti) (n3 : S ≠ to_) (n4 : S ≠ i1) (n5 : S ≠ i2) (n6 : S ≠ l1) (n7 : S ≠ l2) :
    ∀ (rest : List (Key × Value)) (i : Nat) (acc : List (Key × Value)) (ix : Int) (t : Tok) (s : Shared), xs.size = i + rest.length → acc.length + rest.length ≤ sizeLine →
      (∀ (j : Nat) (q : Key × Value), rest[j]? = some q → ∃ u : Value, xs[i + j]? = some u ∧ ys[i + j]? = some q.2 ∧ keyIs q.1 u = true) →
      ZipS s.heap S z ti to_ i1 i2 → IsPair s.heap ti (.ref i1) (.ref i2) → s.heap.IsListIter i1 l1 i → s.heap.IsListIter i2 l2 i → s.heap.IsList l1 xs → s.heap.IsList l2 ys → s.heap.DictOf (mixKind prog w) S acc →
      (∀ h' tk, h'.DictOf (mixKind prog w) S (merged acc rest) → (∀ b o, b ≠ S → b ≠ z → b ≠ to_ → b ≠ i1 → b ≠ i2 → s.heap.get? b = some o → h'.get? b = some o) → R (.ok (.ret res)) { s with heap := h', toks := tk }) →
      codeAny (model prog w) A (.builtin "dict.update.loop" ⟨[.ref S, .ref z, .int ix t, res], []⟩) R s
  | [], i, acc, ix, t, s, hsz, hln, ht, hZ, hti, hi1, hi2, hl1, hl2, hm, hR => by
    refine codeAny_builtin ud_entry ?_
    rw [Around.under_plainId ud_plain _]
    show wpAny _ A.in1 (pyNext (.ref z) >>= _) _ _ s
    have hend : xs[i]? = none := Array.getElem?_eq_none (by simp at hsz; omega)
    rcases hZ with ⟨hz, a, b, hto⟩ | ⟨q, f, oq, hz, hq, q1, q2, q3, q4, q5⟩
    · refine wpAny_bind (wpAny_pyNext_zip_end (A := A.in1) hh D hz hti hto hi1 hi2 hl1 hl2 (.inl hend) fun h' he => ?_)
      show wpAny _ A.in1 (Builtin.Dict.addKeywords S [] >>= _) _ _ _
      refine wpAny_bind (wpAny_pure (wpAny_pure ?_))
      exact hR h' s.toks (hm.at fun o e => he S o n1 n3 n4 n5 e) fun b o b1 b2 b3 b4 b5 e => he b o b2 b3 b4 b5 e
    · refine wpAny_bind (next_zipO_end (A := A.in1) hh D hz hq hti hi1 hl1 hend fun h' he => ?_)
      show wpAny _ A.in1 (Builtin.Dict.addKeywords S [] >>= _) _ _ _
      refine wpAny_bind (wpAny_pure (wpAny_pure ?_))
      exact hR h' s.toks (hm.at fun o e => he S o n1 n4 e) fun b o b1 b2 b3 b4 b5 e => he b o b2 b4 e
  | q :: rest, i, acc, ix, t, s, hsz, hln, ht, hZ, hti, hi1, hi2, hl1, hl2, hm, hR => by
    obtain ⟨u, hx, hy, hk⟩ := ht 0 q rfl
    rw [List.length_cons] at hsz hln
    refine codeAny_builtin ud_entry ?_
    rw [Around.under_plainId ud_plain _]
    show wpAny _ A.in1 (pyNext (.ref z) >>= _) _ _ s
    have ltS : S < s.heap.objs.size := by
      obtain ⟨o, e, _⟩ := hm.typeIs
      exact Heap.lt_size e
    refine wpAny_bind (next_zs (A := A.in1) D ltS hZ hti hi1 hi2 hl1 hl2 (by simpa using hx) (by simpa using hy) fun h1 hZ1 hi11 hi21 hT kp => ?_)
    have hm1 : h1.DictOf (mixKind prog w) S acc := hm.at fun o e => kp S o n1 n3 n4 n5 e
    show wpAny _ A.in1 (holding [Value.ref s.heap.objs.size] _ >>= _) _ _ _
    refine wpAny_bind (wpAny_holding ?_)
    refine wpAny_bind (wpAny_tryCatch ?_)
    unfold Builtin.Dict.pairItems
    refine wpAny_bind (wpAny_typeOf (T := "tuple") ⟨_, hT, rfl⟩ ?_)
    rw [if_pos (by first | decide | rfl | simp)]
    refine wpAny_bind (wpAny_seqItems hT rfl (wpAny_pure ?_))
    show wpAny _ A.in1 (holding [u, q.2] (dictSet S u q.2)) _ _ _
    refine wpAny_holding (wpAny_dictSet_pairs (knd := mixKind prog w) (k := q.1) hk hm1 (fun h2 hm2 hs2 => ?_) (by omega))
    have kS : ∀ c o, c ≠ S → h1.get? c = some o → h2.get? c = some o := fun c o hc e => hs2.extBut c o hc e
    refine wpAny_pure ⟨plainId_quiet ud_plain _, upd_zip (xs := xs) (ys := ys) hh D n1 n2 n3 n4 n5 n6 n7 rest (i + 1) (stored acc q.1 q.2) (ix + 1) 0 _ (show xs.size = i + 1 + rest.length by omega) ?_ (fun j q' e => ?_) ?_ ?_ ?_ ?_ ?_ ?_ hm2 fun h' tk hd' k => ?_⟩
    · have := stored_length_le acc q.1 q.2
      omega
    · obtain ⟨u', e1, e2, e3⟩ := ht (j + 1) q' (by simpa using e)
      have ea : i + 1 + j = i + (j + 1) := by omega
      exact ⟨u', by rw [ea]; exact e1, by rw [ea]; exact e2, e3⟩
    · rcases hZ1 with ⟨hz, a, b, hto⟩ | ⟨q', f, oq, hz, hq, q1, q2, q3, q4, q5⟩
      · exact .inl ⟨kS _ _ n1.symm hz, a, b, kS _ _ n3.symm hto⟩
      · exact .inr ⟨q', f, oq, kS _ _ n1.symm hz, kS _ _ q1 hq, q1, q2, q3, q4, q5⟩
    · exact kS _ _ n2.symm (kp _ _ D.TIz D.TITO D.TIi1 D.TIi2 hti)
    · exact hi11.at fun o' e => kS _ _ n4.symm e
    · exact hi21.at fun o' e => kS _ _ n5.symm e
    · exact hl1.at fun o' e => kS _ _ n6.symm (kp _ _ D.l1z D.l1TO D.l1i1 D.l1i2 e)
    · exact hl2.at fun o' e => kS _ _ n7.symm (kp _ _ D.l2z D.l2TO D.l2i1 D.l2i2 e)
    · exact hR h' tk hd' fun c oc c1 c2 c3 c4 c5 e => k c oc c1 c2 c3 c4 c5 (kS c oc c1 (kp c oc c2 c3 c4 c5 e))
theorem call_dict_zip {s : Shared} {z ti to_ i1 i2 l1 l2 : Addr} {xs ys : Array Value} {prs : List (Key × Value)} {Q : Value → Shared → Prop} (hh : A.handled = none) (D : ZipApart z ti to_ i1 i2 l1 l2)
    (hz : IsZip s.heap z ti to_ .none) (hti : IsPair s.heap ti (.ref i1) (.ref i2)) (hto : ∃ a b, IsPair s.heap to_ a b) (h1 : s.heap.IsListIter i1 l1 0) (h2 : s.heap.IsListIter i2 l2 0) (hl1 : s.heap.IsList l1 xs) (hl2 : s.heap.IsList l2 ys)
    (hsz : xs.size = prs.length) (hln : prs.length ≤ sizeLine) (ht : ∀ (j : Nat) (q : Key × Value), prs[j]? = some q → ∃ u : Value, xs[j]? = some u ∧ ys[j]? = some q.2 ∧ keyIs q.1 u = true)
    (h : ∀ h' tk, h'.DictOf (mixKind prog w) s.heap.objs.size (merged [] prs) → (∀ b o, b ≠ z → b ≠ to_ → b ≠ i1 → b ≠ i2 → s.heap.get? b = some o → h'.get? b = some o) → Q (.ref s.heap.objs.size) { s with heap := h', toks := tk }) :
    wpAny (model prog w) A (call (.type "dict") [.ref z]) Q E s := by
  refine callType_codes (Q₁ := fun obj s₁ => obj = .ref s.heap.objs.size ∧ s₁ = { s with heap := s.heap.push { cls := .type "dict", data := .dict #[] } }) PySem.F.kt_called_dict (PySem.F.kt_typeCall_dict_1 _) PySem.F.entry_dict_init (kt_code_dict_new _ ⟨rfl, rfl⟩) ?_
  rintro obj s₁ ⟨rfl, rfl⟩
  have hnew : (s.heap.push { cls := .type "dict", data := .dict #[] }).DictOf (mixKind prog w) s.heap.objs.size [] := Heap.DictOf.new s.heap
  have k0 : ∀ b o, s.heap.get? b = some o → (s.heap.push { cls := .type "dict", data := .dict #[] }).get? b = some o := fun b o e => Heap.get?_push_of_some _ e
  refine ⟨hnew.typeIs, PySem.F.args_dict_init_2 _ _, ?_⟩
  unfold Builtin.«dict.__init__»
  refine wpAny_bind ?_
  unfold Builtin.Dict.selfAndRest
  refine wpAny_bind (wpAny_notOrdered_dict hnew.typeIs ?_)
  show wpAny _ _ (pure (s.heap.objs.size, [Value.ref z])) _ _ _
  refine wpAny_pure ?_
  show wpAny _ _ (Builtin.Dict.updateFrom "dict.__init__" s.heap.objs.size (.ref z) [] .none) _ _ _
  unfold Builtin.Dict.updateFrom
  refine wpAny_bind (wpAny_typeOf (T := "zip") ⟨_, k0 _ _ hz, rfl⟩ ?_)
  rw [if_pos (by first | decide | rfl | simp)]
  refine wpAny_bind (miss_zip (k0 _ _ hz) hh fun ha tk1 hk1 => ?_)
  rw [if_pos (show (none : Option Value).isNone = true from rfl)]
  refine wpAny_bind (wpAny_rule ?_)
  have ka : ∀ b o, s.heap.get? b = some o → ha.get? b = some o := fun b o e => hk1 _ _ (k0 _ _ e)
  refine wpAny_bind (wpAny_pyIter_zip (s := { s with heap := ha, toks := tk1 }) (ka _ _ hz) ?_)
  obtain ⟨a, b, hto⟩ := hto
  have lt : ∀ {b : Addr} {o : Obj}, s.heap.get? b = some o → s.heap.objs.size ≠ b := fun e => Nat.ne_of_gt (Heap.lt_size e)
  have lti : ∀ {b l : Addr} {n : Nat}, s.heap.IsListIter b l n → s.heap.objs.size ≠ b := fun e => by obtain ⟨_, e, _⟩ := e; exact lt e
  have ltl : ∀ {l : Addr} {vs : Array Value}, s.heap.IsList l vs → s.heap.objs.size ≠ l := fun e => by obtain ⟨_, e, _⟩ := e; exact lt e
  have key := upd_zip (prog := prog) (w := w) (A := A.in1) (R := wants (fun r s₂ => r = .none ∧ Q (.ref s.heap.objs.size) s₂) E) (S := s.heap.objs.size) (xs := xs) (ys := ys) (res := Value.none) hh D
    (lt hz) (lt hti) (lt hto) (lti h1) (lti h2) (ltl hl1) (ltl hl2) prs 0 [] 0 0 { s with heap := ha, toks := tk1 } (by rw [hsz, Nat.zero_add]) (by rw [List.length_nil, Nat.zero_add]; exact hln)
    (fun j q e => by rw [Nat.zero_add]; exact ht j q e) (.inl ⟨ka _ _ hz, a, b, ka _ _ hto⟩) (ka _ _ hti) (h1.at fun o e => ka _ _ e) (h2.at fun o e => ka _ _ e) (hl1.at fun o e => ka _ _ e) (hl2.at fun o e => ka _ _ e) (hnew.at fun o e => hk1 _ _ e)
    (fun h' tk hd' k => ⟨rfl, h h' tk hd' fun b o b1 b2 b3 b4 e => k b o (lt e).symm b1 b2 b3 b4 (ka _ _ e)⟩)
  first
    | exact wpAny_pure ⟨plainId_quiet ud_plain _, key⟩
    | exact wpAny_bind (wpAny_pure (wpAny_pure ⟨plainId_quiet ud_plain _, key⟩))
end
section
variable {X : Cx}
theorem boot_dictB : bootBuiltins "dict" = some (.type "dict") := by decide +kernel
theorem keys_zip (P : Program) (w : World) : ∀ {ks : List Key} {ys : List V} {us vs : List Value}, Vals (ks.map kV) us → Vals ys vs → ks.length = ys.length →
    ∃ prs : List (Key × Value), KV (ks.zip ys) prs ∧ prs.length = us.length ∧ ∀ (j : Nat) (q : Key × Value), prs[j]? = some q → ∃ u : Value, us[j]? = some u ∧ vs[j]? = some q.2 ∧ keyIs q.1 u = true
  | [], [], _, _, r1, r2, _ => by
    cases r1
    cases r2
    exact ⟨[], .nil, rfl, fun j q e => by simp at e⟩
  | [], _ :: _, _, _, _, _, hl => by simp at hl
  | _ :: _, [], _, _, _, _, hl => by simp at hl
  | k :: ks, y :: ys, us, vs, r1, r2, hl => by
    rw [List.map_cons] at r1
    cases r1 with
    | @cons _ u _ us r1 t1 =>
      cases r2 with
      | @cons _ v _ vs r2 t2 =>
        obtain ⟨prs, h1, h2, h3⟩ := keys_zip P w t1 t2 (by simpa using hl)
        refine ⟨(k, v) :: prs, .cons ⟨rfl, r2⟩ h1, by simp [h2], fun j q e => ?_⟩
        cases j with
        | zero =>
          have e' : (k, v) = q := Option.some.inj e
          subst e'
          exact ⟨u, rfl, rfl, kV_is (P := P) (w := w) r1⟩
        | succ j =>
          obtain ⟨u', e1, e2, e3⟩ := h3 j q (by simpa using e)
          exact ⟨u', by simpa using e1, by simpa using e2, e3⟩
def tDictZip (K : PySem.W.Frag) (ta : TA) : TE := fun σ H Q => ta σ H fun vs H1 => ∃ (a b : Addr) (ks : List Key) (ys : List V), vs = [.ref a, .ref b] ∧ SqL K H1 a (ks.map kV) ∧ SqL K H1 b ys ∧ ks.length = ys.length ∧
  ∀ p, H1 p = none → Q (.ref p) (upd H1 p (.dK (mergeK [] (ks.zip ys))))
theorem pe_dict_zip {e e2 : Expr} {ta : TA} {p p2 pos pos2 : Pos} (hcalm : X.calm = true) (hg : Gl X "dict") (hm : X.mg "dict" = none) (hg2 : Gl X "zip") (hm2 : X.mg "zip" = none) (ha : PA X [e, e2] ta)
    (hs : starEach [e, e2] X.env = (false, eval e X.env) :: starEach [e2] X.env := by rfl) (hpl : (backTo pos2 (starEach [e2] X.env)).any (·.1) = false := by rfl)
    (hs2 : starEach [Expr.Call (.Name "zip" p2) [e, e2] [] pos2] X.env = [(false, eval (.Call (.Name "zip" p2) [e, e2] [] pos2) X.env)] := by rfl) :
    PE X (.Call (.Name "dict" p) [.Call (.Name "zip" p2) [e, e2] [] pos2] [] pos) (tDictZip X.K ta) := by
  intro pins s σ H Q I h
  refine wpAny_Call_Name_kw (ld_blt I hg hm boot_dictB (PyProof.Rows.callWith_type1 ?_ (by rw [hs2]; rfl) rfl))
  rw [hs2]
  refine Calls.spliced_cons ?_
  refine wpAny_Call_Name_kw (ld_blt I hg2 hm2 boot_zip5 (PyProof.Rows.callWith_type1 (thn (ha pos2 pins s σ H _ I h) fun us s1 ⟨vs, H1, I1, r1, q1⟩ => ?_) hs hpl))
  obtain ⟨a, b, ks, ys, ex, hqa, hqb, hl, q⟩ := q1
  subst ex
  cases r1 with
  | cons r rr =>
    cases rr with
    | cons r' rr =>
      cases rr
      cases r
      cases r'
      obtain ⟨its, rv, p1, z1⟩ := I1.list hqa
      obtain ⟨its2, rv2, pb, z2⟩ := I1.list hqb
      have la : a < s1.heap.objs.size := p1.lt
      have lb : b < s1.heap.objs.size := pb.lt
      refine call_zip_2 p1.isList pb.isList fun h' hz hTI hTO h1 h2 hsz hk => Calls.spliced_nil ?_
      obtain ⟨prs, rel, hpl, hpr⟩ := keys_zip X.prog X.w rv rv2 hl
      have hlen : its.length = ks.length := by rw [← rv.length, List.length_map]
      have hks : ks.length ≤ sizeLine := by rw [List.length_map] at z1; exact z1
      refine call_dict_zip (s := { s1 with heap := h' }) (prs := prs) (I1.ok.hd hcalm) (PySem.W.ktu_apart s1.heap.objs.size a b la lb) hz hTI ⟨_, _, hTO⟩ h1 h2 (p1.isList.at fun o e => hk _ _ e) (pb.isList.at fun o e => hk _ _ e) (by simp [hpl]) (by omega) (fun j q e => ?_) fun h2' tk hd' kp => ?_
      · obtain ⟨u, e1, e2, e3⟩ := hpr j q e
        exact ⟨u, by simpa using e1, by simpa using e2, e3⟩
      · show EP X pins σ Q (.ref h'.objs.size) { s1 with heap := h2', toks := tk }
        have hle : s1.heap.objs.size ≤ h'.objs.size := by omega
        have hm' : (h'.objs.size == sysModules) = false := beq_eq_false_iff_ne.mpr (Nat.ne_of_gt (Nat.lt_of_lt_of_le I1.big hle))
        have hlen2 : (mergeK [] (ks.zip ys)).length ≤ sizeLine := by
          refine Nat.le_trans (length_mergeK (ks.zip ys) []) ?_
          rw [List.length_nil, Nat.zero_add, List.length_zip]
          omega
        have keep : ∀ c o, s1.heap.get? c = some o → h2'.get? c = some o := fun c o e => by
          have lc := Heap.lt_size e
          have ne : ∀ n : Nat, c ≠ s1.heap.objs.size + n := fun n => Nat.ne_of_lt (Nat.lt_add_right n lc)
          exact kp c o (ne 4) (ne 3) (ne 0) (ne 1) (hk c o e)
        exact ⟨.ref h'.objs.size, upd H1 h'.objs.size (.dK (mergeK [] (ks.zip ys))), I1.laid (t' := tk) keep hle (show ObjOk X.prog X.w _ _ _ (.dK (mergeK [] (ks.zip ys))) from ⟨hlen2, hm', merged [] prs, KV.merge rel .nil, hd'⟩), rfl, q _ (I1.hok.fresh hle)⟩
def rUpdate : V → List V → Hp → VK → Prop := fun x vs H Q => ∃ (d e : Addr) (kvs more : List (Key × V)), x = .ref d ∧ vs = [.ref e] ∧ d ≠ e ∧ H d = some (.dK kvs) ∧ H e = some (.dK more) ∧ kvs.length + more.length ≤ sizeLine ∧ Q .non (upd H d (.dK (mergeK kvs more)))
theorem mt_update : MtR X "dict.update" rUpdate := by
  intro pins s σ H x vs v us Q I rx rv h
  obtain ⟨d, e, kvs, more, ex, ev, hne, hd, he, hln, q⟩ := h
  subst ex ev
  cases rx
  obtain ⟨u, eu, ru⟩ := vals1 rv
  subst eu
  cases ru
  obtain ⟨z1, y1, vs1, r1, D1⟩ := I.hok d _ hd
  obtain ⟨z2, y2, vs2, r2, D2⟩ := I.hok e _ he
  have l1 : kvs.length = vs1.length := Paired.length r1
  have l2 : more.length = vs2.length := Paired.length r2
  refine call_meetsIn PySem.F.slot_dict_update D1.typeIs PySem.F.entry_dict_update (PySem.F.args_dict_update_2 _ _) (meets_dict_update (mixKind X.prog X.w) d e hne y2) ⟨vs1, vs2, D1, D2, by omega, fun h' m1 m2 sb => ?_⟩
  obtain ⟨o, ho, _⟩ := Heap.DictOf.typeIs (s := { s with heap := h' }) m1
  refine ⟨.non, _, I.write (x := d) (e := d) (t' := s.toks) (by rw [hd]; trivial) (.inl rfl) (fun b u hb q => sb.extBut b u hb q) ⟨_, ho⟩ (show ObjOk X.prog X.w _ h' d (.dK (mergeK kvs more)) from ⟨?_, y1, _, KV.merge r2 r1, m1⟩), rfl, q⟩
  exact Nat.le_trans (length_mergeK more kvs) hln
end
end L2
namespace BX
open Kp174 (One Part)
def sm {α : Type} (f : α → Int) (l : List α) : Int := (l.map f).sum
theorem sm_nil {α : Type} (f : α → Int) : sm f [] = 0 := rfl
theorem sm_cons {α : Type} (f : α → Int) (x : α) (l : List α) : sm f (x :: l) = f x + sm f l := by simp [sm]
theorem sm_congr {α : Type} {f g : α → Int} : ∀ {l : List α}, (∀ x, x ∈ l → f x = g x) → sm f l = sm g l
  | [], _ => rfl
  | x :: l, h => by
    rw [sm_cons, sm_cons, h x (by simp), sm_congr fun y hy => h y (by simp [hy])]
theorem sm_add {α : Type} (f g : α → Int) : ∀ l : List α, sm (fun x => f x + g x) l = sm f l + sm g l
  | [] => rfl
  | x :: l => by rw [sm_cons, sm_cons, sm_cons, sm_add f g l]; omega
theorem sm_sub {α : Type} (f g : α → Int) : ∀ l : List α, sm (fun x => f x - g x) l = sm f l - sm g l
  | [] => rfl
  | x :: l => by rw [sm_cons, sm_cons, sm_cons, sm_sub f g l]; omega
theorem sm_mul {α : Type} (f : α → Int) (c : Int) : ∀ l : List α, sm (fun x => f x * c) l = sm f l * c
  | [] => by simp [sm_nil]
  | x :: l => by rw [sm_cons, sm_cons, sm_mul f c l, Int.add_mul]
theorem sm_le {α : Type} {f g : α → Int} : ∀ {l : List α}, (∀ x, x ∈ l → f x ≤ g x) → sm f l ≤ sm g l
  | [], _ => Int.le_refl _
  | x :: l, h => by
    rw [sm_cons, sm_cons]
    have h1 := h x (by simp)
    have h2 := sm_le (l := l) fun y hy => h y (by simp [hy])
    omega
theorem sm_eq_of_le {α : Type} {f g : α → Int} : ∀ {l : List α}, (∀ x, x ∈ l → f x ≤ g x) → sm g l ≤ sm f l → ∀ x, x ∈ l → f x = g x
  | [], _, _, x, hx => nomatch hx
  | y :: l, h, e, x, hx => by
    rw [sm_cons, sm_cons] at e
    have h1 := h y (by simp)
    have h2 := sm_le (l := l) fun z hz => h z (by simp [hz])
    rcases List.mem_cons.mp hx with rfl | hx
    · omega
    · exact sm_eq_of_le (l := l) (fun z hz => h z (by simp [hz])) (by omega) x hx
theorem sm_nonneg {α : Type} {f : α → Int} {l : List α} (h : ∀ x, x ∈ l → 0 ≤ f x) : 0 ≤ sm f l := by
  have := sm_le (f := fun _ => 0) (g := f) (l := l) h
  have e : ∀ l : List α, sm (fun _ => (0 : Int)) l = 0 := fun l => by
    induction l with
    | nil => rfl
    | cons x l ih => rw [sm_cons, ih]; rfl
  rw [e] at this
  exact this
theorem sm_map {α β : Type} (f : β → Int) (g : α → β) (l : List α) : sm f (l.map g) = sm (fun x => f (g x)) l := by simp [sm, Function.comp_def]
theorem sum174 (l : List Int) : Kp174.sum l = l.sum := by
  unfold Kp174.sum
  have : ∀ (l : List Int) (c : Int), l.foldl (· + ·) c = c + l.sum := by
    intro l
    induction l with
    | nil => intro c; simp
    | cons x l ih => intro c; rw [List.foldl_cons, ih, List.sum_cons]; omega
  rw [this]; omega
abbrev It := Int × Int
def Gd (l : List It) : Prop := ∀ z, z ∈ l → 0 ≤ z.1 ∧ 0 ≤ z.2 ∧ (z.2 = 0 → z.1 = 0)
structure Lvl (l : List It) (m D : Int) (g : It → Int) : Prop where
  pos : 0 < D
  sol : (∃ p, (∀ z, z ∈ l → g z = min (z.2 * p) (z.1 * D)) ∧ sm g l = m * D) ∨ ((∀ z, z ∈ l → g z = z.1 * D) ∧ sm Prod.fst l ≤ m)
theorem min_lvl {w s p D p' D' : Int} (hD' : 0 < D') (hw : 0 ≤ w) (h : p * D' ≤ p' * D) : min (w * p) (s * D) * D' ≤ min (w * p') (s * D') * D := by
  have e1 : min (w * p) (s * D) * D' ≤ w * p * D' := Int.mul_le_mul_of_nonneg_right (Int.min_le_left _ _) (by omega)
  have e2 : min (w * p) (s * D) * D' ≤ s * D * D' := Int.mul_le_mul_of_nonneg_right (Int.min_le_right _ _) (by omega)
  have e3 : w * p * D' ≤ w * p' * D := by
    rw [Int.mul_assoc, Int.mul_assoc]
    exact Int.mul_le_mul_of_nonneg_left h hw
  rcases Int.le_total (w * p') (s * D') with c | c
  · rw [Int.min_eq_left c]; omega
  · rw [Int.min_eq_right c]
    have : s * D * D' = s * D' * D := by ac_rfl
    omega
theorem Lvl.uniq {l : List It} {m D D' : Int} {g g' : It → Int} (gd : Gd l) (h : Lvl l m D g) (h' : Lvl l m D' g') : ∀ z, z ∈ l → g z * D' = g' z * D := by
  have p1 := h.pos
  have p2 := h'.pos
  rcases h.sol with ⟨p, e, s⟩ | ⟨e, s⟩ <;> rcases h'.sol with ⟨p', e', s'⟩ | ⟨e', s'⟩
  · have hs : sm (fun z => g z * D') l = sm (fun z => g' z * D) l := by
      rw [sm_mul, sm_mul, s, s']; ac_rfl
    rcases Int.le_total (p * D') (p' * D) with c | c
    · exact sm_eq_of_le (fun z hz => by rw [e z hz, e' z hz]; exact min_lvl p2 (gd z hz).2.1 c) (Int.le_of_eq hs.symm)
    · exact fun z hz => (sm_eq_of_le (f := fun z => g' z * D) (g := fun z => g z * D') (fun z hz => by rw [e z hz, e' z hz]; exact min_lvl p1 (gd z hz).2.1 c) (Int.le_of_eq hs) z hz).symm
  · -- level, full
    refine sm_eq_of_le (f := fun z => g z * D') (g := fun z => g' z * D) (fun z hz => ?_) ?_
    · rw [e z hz, e' z hz]
      have : min (z.2 * p) (z.1 * D) * D' ≤ z.1 * D * D' := Int.mul_le_mul_of_nonneg_right (Int.min_le_right _ _) (by omega)
      have e3 : z.1 * D * D' = z.1 * D' * D := by ac_rfl
      omega
    · rw [sm_mul, sm_mul, s, sm_congr e', sm_mul]
      have a := Int.mul_le_mul_of_nonneg_right (Int.mul_le_mul_of_nonneg_right s' (show 0 ≤ D' by omega)) (show 0 ≤ D by omega)
      have b : m * D' * D = m * D * D' := by ac_rfl
      omega
  · refine fun z hz => (sm_eq_of_le (f := fun z => g' z * D) (g := fun z => g z * D') (fun z hz => ?_) ?_ z hz).symm
    · rw [e z hz, e' z hz]
      have : min (z.2 * p') (z.1 * D') * D ≤ z.1 * D' * D := Int.mul_le_mul_of_nonneg_right (Int.min_le_right _ _) (by omega)
      have e3 : z.1 * D * D' = z.1 * D' * D := by ac_rfl
      omega
    · rw [sm_mul, sm_mul, s', sm_congr e, sm_mul]
      have a := Int.mul_le_mul_of_nonneg_right (Int.mul_le_mul_of_nonneg_right s (show 0 ≤ D by omega)) (show 0 ≤ D' by omega)
      have b : m * D' * D = m * D * D' := by ac_rfl
      omega
  · intro z hz
    rw [e z hz, e' z hz]
    ac_rfl
theorem Lvl.zero {l : List It} (gd : Gd l) : Lvl l 0 1 fun _ => 0 := by
  refine ⟨by decide, .inl ⟨0, fun z hz => ?_, ?_⟩⟩
  · have := (gd z hz).1
    rw [Int.mul_zero, Int.mul_one, Int.min_eq_left this]
  · rw [Int.zero_mul]
    induction l with
    | nil => rfl
    | cons x l ih => rw [sm_cons, ih fun z hz => gd z (by simp [hz])]; rfl
def Lf (l : List It) (m : Int) (u : It → Bool) : Int := m - sm (fun z => if u z then 0 else z.1) l
def Wt (l : List It) (u : It → Bool) : Int := sm (fun z => if u z then z.2 else 0) l
structure Rnd (l : List It) (m : Int) (u : It → Bool) : Prop where
  lf : 0 ≤ Lf l m u
  fx : ∀ z, z ∈ l → u z = false → z.1 * Wt l u ≤ Lf l m u * z.2
theorem Wt_nonneg {l : List It} (gd : Gd l) (u : It → Bool) : 0 ≤ Wt l u := by
  refine sm_nonneg fun z hz => ?_
  have := (gd z hz).2.1
  cases u z <;> simp <;> omega
theorem Wt_zero {l : List It} (gd : Gd l) {u : It → Bool} (h : Wt l u = 0) : ∀ z, z ∈ l → u z = true → z.2 = 0 := by
  intro z hz hu
  have e := sm_eq_of_le (f := fun _ => 0) (g := fun z : It => if u z then z.2 else 0) (l := l) (fun z hz => by
    have := (gd z hz).2.1
    cases u z <;> simp <;> omega) (by
      have e0 : sm (fun _ : It => (0 : Int)) l = 0 := by
        clear h gd hz
        induction l with
        | nil => rfl
        | cons x l ih => rw [sm_cons, ih]; rfl
      rw [e0]; exact Int.le_of_eq h) z hz
  simp only [hu, if_true] at e
  exact e.symm
theorem Rnd.start {l : List It} {m : Int} (hm : 0 ≤ m) : Rnd l m fun _ => true := by
  refine ⟨?_, fun z _ h => nomatch h⟩
  unfold Lf
  have e : sm (fun z : It => if true = true then (0 : Int) else z.1) l = 0 := by
    induction l with
    | nil => rfl
    | cons x l ih => rw [sm_cons, ih]; rfl
  rw [e]; omega
theorem Rnd.step {l : List It} {m : Int} {u : It → Bool} (gd : Gd l) (h : Rnd l m u) (B : It → Bool) (hB : ∀ z, z ∈ l → u z = true → B z = true → z.1 * Wt l u ≤ Lf l m u * z.2) : Rnd l m fun z => u z && !B z := by
  have eL : Lf l m (fun z => u z && !B z) = Lf l m u - sm (fun z => if u z && B z then z.1 else 0) l := by
    unfold Lf
    have : sm (fun z => if (u z && !B z) = true then 0 else z.1) l = sm (fun z => if u z = true then 0 else z.1) l + sm (fun z => if (u z && B z) = true then z.1 else 0) l := by
      rw [← sm_add]
      refine sm_congr fun z _ => ?_
      cases u z <;> cases B z <;> simp
    rw [this]; omega
  have eW : Wt l (fun z => u z && !B z) = Wt l u - sm (fun z => if u z && B z then z.2 else 0) l := by
    unfold Wt
    rw [← sm_sub]
    refine sm_congr fun z _ => ?_
    dsimp only
    by_cases hu : u z = true <;> by_cases hb : B z = true <;> simp [hu, hb]
  generalize hS : sm (fun z => if (u z && B z) = true then z.1 else 0) l = SB at eL
  generalize hV : sm (fun z => if (u z && B z) = true then z.2 else 0) l = WB at eW
  have h0 := h.lf
  have w0 := Wt_nonneg gd u
  have S0 : 0 ≤ SB := by
    rw [← hS]
    refine sm_nonneg fun z hz => ?_
    have := (gd z hz).1
    split <;> omega
  have V0 : 0 ≤ WB := by
    rw [← hV]
    refine sm_nonneg fun z hz => ?_
    have := (gd z hz).2.1
    split <;> omega
  have VW : WB ≤ Wt l u := by
    rw [← hV]
    refine sm_le fun z hz => ?_
    have := (gd z hz).2.1
    cases u z <;> cases B z <;> simp <;> omega
  have key : SB * Wt l u ≤ Lf l m u * WB := by
    rw [← hS, ← hV, ← sm_mul, Int.mul_comm (Lf l m u), ← sm_mul]
    refine sm_le fun z hz => ?_
    by_cases c : (u z && B z) = true
    · rw [if_pos c, if_pos c]
      rw [Bool.and_eq_true] at c
      have := hB z hz c.1 c.2
      rw [Int.mul_comm (Lf l m u)] at this
      exact this
    · rw [if_neg c, if_neg c]
      simp
  have old : ∀ z, z ∈ l → (u z && !B z) = false → z.1 * Wt l u ≤ Lf l m u * z.2 := fun z hz e => by
    cases hu : u z with
    | false => exact h.fx z hz hu
    | true =>
      rw [hu] at e
      exact hB z hz hu (by simpa using e)
  by_cases c : Wt l u = 0
  · have SB0 : SB = 0 := by
      rw [← hS]
      have e0 : ∀ l' : List It, sm (fun _ : It => (0 : Int)) l' = 0 := fun l' => by
        induction l' with
        | nil => rfl
        | cons x l ih => rw [sm_cons, ih]; rfl
      refine Eq.trans (sm_congr fun z hz => ?_) (e0 l)
      by_cases cc : (u z && B z) = true
      · rw [if_pos cc]
        rw [Bool.and_eq_true] at cc
        exact (gd z hz).2.2 (Wt_zero gd c z hz cc.1)
      · rw [if_neg cc]
    refine ⟨by rw [eL]; omega, fun z hz e => ?_⟩
    have : Wt l (fun z => u z && !B z) = 0 := by omega
    rw [this, Int.mul_zero]
    exact Int.mul_nonneg (by omega) (gd z hz).2.1
  · have c : 0 < Wt l u := by omega
    have SL : SB ≤ Lf l m u := Int.le_of_mul_le_mul_right (Int.le_trans key (Int.mul_le_mul_of_nonneg_left VW h0)) c
    refine ⟨by omega, fun z hz e => ?_⟩
    have o := old z hz e
    have zw := (gd z hz).2.1
    have mono : Lf l m u * Wt l (fun z => u z && !B z) ≤ Lf l m (fun z => u z && !B z) * Wt l u := by
      rw [eW, eL, Int.mul_sub, Int.sub_mul]
      omega
    generalize Wt l (fun z => u z && !B z) = W' at *
    generalize Lf l m (fun z => u z && !B z) = L' at *
    refine Int.le_of_mul_le_mul_right (a := Wt l u) ?_ c
    have a1 : z.1 * Wt l u * W' ≤ Lf l m u * z.2 * W' := Int.mul_le_mul_of_nonneg_right o (by omega)
    have a2 : z.2 * (Lf l m u * W') ≤ z.2 * (L' * Wt l u) := Int.mul_le_mul_of_nonneg_left mono zw
    have b1 : z.1 * W' * Wt l u = z.1 * Wt l u * W' := by ac_rfl
    have b2 : Lf l m u * z.2 * W' = z.2 * (Lf l m u * W') := by ac_rfl
    have b3 : L' * z.2 * Wt l u = z.2 * (L' * Wt l u) := by ac_rfl
    omega
theorem Rnd.lvl {l : List It} {m : Int} {u : It → Bool} (h : Rnd l m u) (hW : 0 < Wt l u) (he : ∀ z, z ∈ l → u z = true → Lf l m u * z.2 ≤ z.1 * Wt l u) :
    Lvl l m (Wt l u) fun z => if u z then Lf l m u * z.2 else z.1 * Wt l u := by
  refine ⟨hW, .inl ⟨Lf l m u, fun z hz => ?_, ?_⟩⟩
  · show (if u z = true then _ else _) = _
    cases hu : u z with
    | true =>
      have := he z hz hu
      rw [Int.mul_comm z.2, Int.min_eq_left this]; rfl
    | false =>
      have := h.fx z hz hu
      rw [Int.mul_comm z.2, Int.min_eq_right this]; rfl
  · have e : sm (fun z => if u z = true then Lf l m u * z.2 else z.1 * Wt l u) l = sm (fun z => (if u z then z.2 else 0) * Lf l m u + (if u z then 0 else z.1) * Wt l u) l := by
      refine sm_congr fun z _ => ?_
      cases u z <;> simp [Int.mul_comm]
    rw [e, sm_add, sm_mul, sm_mul]
    have e1 : sm (fun z => if u z = true then 0 else z.1) l = m - Lf l m u := by unfold Lf; omega
    have e2 : sm (fun z => if u z = true then z.2 else 0) l = Wt l u := rfl
    rw [e1, e2, Int.sub_mul, Int.mul_comm (Wt l u)]
    omega
theorem Rnd.full {l : List It} {m : Int} {u : It → Bool} (h : Rnd l m u) (he : ∀ z, z ∈ l → u z = true → z.1 = 0) : Lvl l m 1 fun z => z.1 := by
  refine ⟨by decide, .inr ⟨fun z _ => (Int.mul_one _).symm, ?_⟩⟩
  have e : sm Prod.fst l = sm (fun z => if u z then 0 else z.1) l := by
    refine sm_congr fun z hz => ?_
    cases hu : u z with
    | true => exact he z hz hu
    | false => rfl
  have := h.lf
  unfold Lf at this
  omega
def sg (up : Bool) : Int := if up then 1 else -1
def pt (up : Bool) (x : One) : Part := if up then ⟨x.wish, x.grow, x.most⟩ else ⟨x.wish, x.give, x.least⟩
def itm (up : Bool) (x : One) : It := if up then (if 0 < x.grow then (x.most : Int) - x.wish else 0, x.grow) else (if 0 < x.give then (x.wish : Int) - x.least else 0, x.give)
def goodL (l : List One) : Prop := ∀ x, x ∈ l → x.least ≤ x.wish ∧ x.wish ≤ x.most
theorem gd_itm {up : Bool} {l : List One} (h : goodL l) : Gd (l.map (itm up)) := by
  intro z hz
  obtain ⟨x, hx, rfl⟩ := List.mem_map.mp hz
  obtain ⟨h1, h2⟩ := h x hx
  cases up <;> simp only [itm, Bool.false_eq_true, if_false, if_true] <;> refine ⟨?_, by omega, fun e => ?_⟩ <;> split <;> omega
def stOf (up : Bool) (l : List One) (u : It → Bool) : List Part := l.map fun x => if u (itm up x) then pt up x else ⟨x.wish + sg up * (itm up x).1, 0, x.wish + sg up * (itm up x).1⟩
theorem pt_base (up : Bool) (x : One) : (pt up x).base = x.wish := by cases up <;> rfl
theorem pt_weight (up : Bool) (x : One) : (pt up x).weight = (itm up x).2 := by cases up <;> rfl
theorem pt_halt {up : Bool} {x : One} (h : (itm up x).2 ≠ 0) : (pt up x).halt_ = x.wish + sg up * (itm up x).1 := by
  cases up
  · simp only [itm, Bool.false_eq_true, if_false] at h ⊢
    have : 0 < x.give := by omega
    rw [if_pos this]
    show (x.least : Int) = x.wish + -1 * _
    omega
  · simp only [itm, if_true] at h ⊢
    have : 0 < x.grow := by omega
    rw [if_pos this]
    show (x.most : Int) = x.wish + 1 * _
    omega
def amt (up : Bool) (length : Nat) (l : List One) : Int := sg up * (length - sm (fun x => (x.wish : Int)) l)
theorem over_eq (up : Bool) (length : Nat) (l : List One) (u : It → Bool) : (Kp174.tOf length (stOf up l u)).over = sg up * Lf (l.map (itm up)) (amt up length l) u := by
  unfold Kp174.tOf stOf Lf amt
  dsimp only
  rw [sum174, List.map_map, sm_map]
  show (length : Int) - sm _ l = _
  have e : sm (Part.base ∘ fun x => if u (itm up x) = true then pt up x else ⟨x.wish + sg up * (itm up x).1, 0, x.wish + sg up * (itm up x).1⟩) l = sm (fun x => (x.wish : Int) + (if u (itm up x) then 0 else (itm up x).1) * sg up) l := by
    refine sm_congr fun x _ => ?_
    simp only [Function.comp]
    cases u (itm up x)
    · simp [Int.mul_comm]
    · simp [pt_base]
  rw [e, sm_add, sm_mul]
  generalize sm (fun x => if u (itm up x) = true then 0 else (itm up x).1) l = S
  generalize sm (fun x : One => (x.wish : Int)) l = Wi
  cases up <;> simp [sg] <;> omega
theorem under_eq (up : Bool) (length : Nat) (l : List One) (u : It → Bool) : (Kp174.tOf length (stOf up l u)).under = Wt (l.map (itm up)) u := by
  unfold Kp174.tOf stOf Wt
  dsimp only
  rw [sum174, List.map_map, sm_map]
  show sm _ l = _
  refine sm_congr fun x _ => ?_
  simp only [Function.comp]
  cases u (itm up x)
  · simp
  · simp [pt_weight]
def byd (l : List It) (m : Int) (u : It → Bool) (z : It) : Bool := z.2 != 0 && decide (z.1 * Wt l u < Lf l m u * z.2)
theorem beyond_eq {up : Bool} {length : Nat} {l : List One} {u : It → Bool} {x : One} :
    Kp174.beyond up (Kp174.tOf length (stOf up l u)) (if u (itm up x) then pt up x else ⟨x.wish + sg up * (itm up x).1, 0, x.wish + sg up * (itm up x).1⟩) = (u (itm up x) && byd (l.map (itm up)) (amt up length l) u (itm up x)) := by
  unfold Kp174.beyond byd
  rw [over_eq, under_eq]
  cases u (itm up x) with
  | false => simp
  | true =>
    simp only [if_true, Bool.true_and, pt_weight, pt_base]
    by_cases h : (itm up x).2 = 0
    · simp [h]
    · rw [pt_halt h]
      generalize Wt (l.map (itm up)) u = W
      generalize Lf (l.map (itm up)) (amt up length l) u = L
      congr 1
      cases up
      · simp only [sg, Bool.false_eq_true, if_false]
        congr 1
        rw [Int.add_mul]
        have e1 : -1 * L * (itm false x).2 = -(L * (itm false x).2) := by rw [Int.mul_assoc]; omega
        have e2 : -1 * (itm false x).1 * W = -((itm false x).1 * W) := by rw [Int.mul_assoc]; omega
        rw [e1, e2]
        simp only [eq_iff_iff]
        omega
      · simp only [sg, if_true]
        congr 1
        rw [Int.add_mul, Int.one_mul, Int.one_mul]
        simp only [eq_iff_iff]
        omega
theorem any_eq {up : Bool} {length : Nat} {l : List One} {u : It → Bool} :
    (stOf up l u).any (Kp174.beyond up (Kp174.tOf length (stOf up l u))) = (l.any fun x => u (itm up x) && byd (l.map (itm up)) (amt up length l) u (itm up x)) := by
  conv => lhs; arg 1; unfold stOf
  rw [List.any_map]
  congr 1
  funext x
  exact beyond_eq
theorem map_eq {up : Bool} {length : Nat} {l : List One} {u : It → Bool} :
    ((stOf up l u).map fun x => if Kp174.beyond up (Kp174.tOf length (stOf up l u)) x then (⟨x.halt_, 0, x.halt_⟩ : Part) else x) = stOf up l fun z => u z && !byd (l.map (itm up)) (amt up length l) u z := by
  conv => lhs; arg 2; unfold stOf
  rw [List.map_map]
  conv => rhs; unfold stOf
  refine List.map_congr_left fun x _ => ?_
  simp only [Function.comp]
  rw [beyond_eq]
  by_cases hu : u (itm up x) = true
  · by_cases hb : byd (l.map (itm up)) (amt up length l) u (itm up x) = true
    · have hw : (itm up x).2 ≠ 0 := by
        have hb := hb
        unfold byd at hb
        rw [Bool.and_eq_true] at hb
        simpa using hb.1
      simp [hu, hb, pt_halt hw]
    · simp [hu, hb]
  · simp [hu]
theorem filter_lt {α : Type} {p q : α → Bool} : ∀ {l : List α}, (∀ x, q x = true → p x = true) → (∃ x, x ∈ l ∧ p x = true ∧ q x = false) → (l.filter q).length < (l.filter p).length
  | [], _, ⟨x, hx, _⟩ => nomatch hx
  | y :: l, h, ⟨x, hx, h1, h2⟩ => by
    have le : (l.filter q).length ≤ (l.filter p).length := by
      clear hx
      induction l with
      | nil => exact Nat.le_refl _
      | cons z l ih =>
        cases hq : q z with
        | true => rw [List.filter_cons, List.filter_cons, if_pos hq, if_pos (h z hq)]; simpa using ih
        | false =>
          rw [List.filter_cons, if_neg (by simp [hq]), List.filter_cons]
          split
          · simp; omega
          · exact ih
    rcases List.mem_cons.mp hx with rfl | hx
    · rw [List.filter_cons, List.filter_cons, if_neg (by simp [h2]), if_pos h1]
      simp; omega
    · have ih := filter_lt (l := l) h ⟨x, hx, h1, h2⟩
      cases hq : q y with
      | true => rw [List.filter_cons, List.filter_cons, if_pos hq, if_pos (h y hq)]; simpa using ih
      | false =>
        rw [List.filter_cons, if_neg (by simp [hq]), List.filter_cons]
        split
        · simp; omega
        · exact ih
theorem settle_end {up : Bool} {length : Nat} {l : List One} (hg : goodL l) : ∀ (f : Nat) (u : It → Bool), Rnd (l.map (itm up)) (amt up length l) u → (l.filter fun x => u (itm up x) && (itm up x).2 != 0).length < f →
    ∃ u', Kp174.settle up length f (stOf up l u) = stOf up l u' ∧ Rnd (l.map (itm up)) (amt up length l) u' ∧ (Wt (l.map (itm up)) u' = 0 ∨ ∀ z, z ∈ l.map (itm up) → u' z = true → byd (l.map (itm up)) (amt up length l) u' z = false)
  | 0, u, _, h => by omega
  | f + 1, u, hr, h => by
    unfold Kp174.settle
    dsimp only
    rw [any_eq, map_eq, under_eq]
    by_cases c : Wt (l.map (itm up)) u = 0 ∨ (l.any fun x => u (itm up x) && byd (l.map (itm up)) (amt up length l) u (itm up x)) = false
    · rw [if_pos c]
      refine ⟨u, rfl, hr, ?_⟩
      rcases c with c | c
      · exact .inl c
      · refine .inr fun z hz hu => ?_
        obtain ⟨x, hx, rfl⟩ := List.mem_map.mp hz
        rw [List.any_eq_false] at c
        have := c x hx
        rw [hu] at this
        simpa using this
    · rw [if_neg c]
      have c2 : (l.any fun x => u (itm up x) && byd (l.map (itm up)) (amt up length l) u (itm up x)) = true := by
        cases e : (l.any fun x => u (itm up x) && byd (l.map (itm up)) (amt up length l) u (itm up x)) with
        | true => rfl
        | false => exact absurd (.inr e) c
      refine settle_end hg f _ (hr.step (gd_itm hg) _ fun z hz hu hb => ?_) ?_
      · unfold byd at hb
        rw [Bool.and_eq_true] at hb
        exact Int.le_of_lt (of_decide_eq_true hb.2)
      · obtain ⟨x, hx, hb⟩ := List.any_eq_true.mp c2
        rw [Bool.and_eq_true] at hb
        have hw : ((itm up x).2 != 0) = true := by
          have := hb.2
          unfold byd at this
          rw [Bool.and_eq_true] at this
          exact this.1
        have := filter_lt (l := l) (p := fun x => u (itm up x) && (itm up x).2 != 0) (q := fun x => (u (itm up x) && !byd (l.map (itm up)) (amt up length l) u (itm up x)) && (itm up x).2 != 0) (fun y hy => by
          simp only [Bool.and_eq_true] at hy ⊢
          exact ⟨hy.1.1, hy.2⟩) ⟨x, hx, by simp only [hb.1, hw]; rfl, by simp only [hb.1, hb.2, hw]; rfl⟩
        omega
theorem fairs_eq {length : Nat} {l : List One} (hg : goodL l) : ∃ D g, Lvl (l.map (itm (Kp174.upwards length l))) (amt (Kp174.upwards length l) length l) D g ∧ Kp174.scale (Kp174.shareOf length l) = D ∧
    Kp174.fairs length l = l.map fun x => (x.wish : Int) * D + sg (Kp174.upwards length l) * g (itm (Kp174.upwards length l) x) := by
  generalize hup : Kp174.upwards length l = up
  have hm : 0 ≤ amt up length l := by
    unfold amt
    have hw : Kp174.wishes l = sm (fun x => (x.wish : Int)) l := by
      unfold Kp174.wishes
      rw [sum174]; rfl
    unfold Kp174.upwards at hup
    rw [hw] at hup
    cases up
    · have := of_decide_eq_false hup
      simp only [sg, Bool.false_eq_true, if_false]; omega
    · have := of_decide_eq_true hup
      simp only [sg, if_true]; omega
  have e0 : (l.map fun x => if up = true then (⟨x.wish, x.grow, x.most⟩ : Part) else ⟨x.wish, x.give, x.least⟩) = stOf up l fun _ => true := by
    unfold stOf
    refine List.map_congr_left fun x _ => ?_
    cases up <;> rfl
  obtain ⟨u, h1, h2, h3⟩ := settle_end (up := up) (length := length) hg (l.length + 1) (fun _ => true) (Rnd.start hm) (by
    have := List.length_filter_le (fun x => true && (itm up x).2 != 0) l
    omega)
  have hp : Kp174.parts length l = stOf up l u := by
    unfold Kp174.parts
    dsimp only
    rw [hup, e0, h1]
  have hsh : Kp174.shareOf length l = Kp174.tOf length (stOf up l u) := by unfold Kp174.shareOf; rw [hp]
  have gd := gd_itm (up := up) hg
  have W0 := Wt_nonneg gd u
  by_cases c : Wt (l.map (itm up)) u = 0
  · refine ⟨1, fun z => z.1, h2.full fun z hz hu => (gd z hz).2.2 (Wt_zero gd c z hz hu), ?_, ?_⟩
    · unfold Kp174.scale
      rw [hsh, under_eq, if_pos c]
    · unfold Kp174.fairs
      dsimp only
      rw [hsh, hp]
      unfold Kp174.scale
      rw [under_eq, if_pos c]
      unfold stOf
      rw [List.map_map]
      refine List.map_congr_left fun x hx => ?_
      simp only [Function.comp, c, if_true]
      cases hu : u (itm up x) with
      | false => simp
      | true =>
        have : (itm up x).1 = 0 := (gd _ (List.mem_map.mpr ⟨x, hx, rfl⟩)).2.2 (Wt_zero gd c _ (List.mem_map.mpr ⟨x, hx, rfl⟩) hu)
        simp [this, pt_base]
  · have h3 := h3.resolve_left c
    refine ⟨Wt (l.map (itm up)) u, _, h2.lvl (by omega) fun z hz hu => ?_, ?_, ?_⟩
    · have := h3 z hz hu
      unfold byd at this
      by_cases hw : z.2 = 0
      · have hz1 := (gd z hz).2.2 hw
        rw [hw, hz1]; simp
      · rw [Bool.and_eq_false_iff] at this
        have := this.resolve_left (by simpa using hw)
        have := of_decide_eq_false this
        omega
    · unfold Kp174.scale
      rw [hsh, under_eq, if_neg c]
    · unfold Kp174.fairs
      dsimp only
      rw [hsh, hp]
      unfold Kp174.scale
      rw [under_eq, over_eq, if_neg c]
      conv => lhs; arg 2; unfold stOf
      rw [List.map_map]
      refine List.map_congr_left fun x hx => ?_
      simp only [Function.comp, if_neg c]
      cases hu : u (itm up x) with
      | false => simp [Int.add_mul, Int.mul_assoc]
      | true => simp [pt_base, pt_weight, Int.mul_assoc]
theorem sum_take_map {α : Type} (f : α → Int) (l : List α) (k : Nat) : ((l.map f).take k).sum = sm f (l.take k) := by
  rw [← List.map_take]; rfl
theorem edge_eq {length : Nat} {l : List One} {up : Bool} (hup : Kp174.upwards length l = up) (hg : goodL l) {D : Int} {g : It → Int} (h : Lvl (l.map (itm up)) (amt up length l) D g) (k : Nat) :
    Kp174.edge length l k = sm (fun x => (x.wish : Int) * D + sg up * g (itm up x)) (l.take k) / D := by
  obtain ⟨D', g', h', e1, e2⟩ := fairs_eq (length := length) hg
  rw [hup] at h' e2
  unfold Kp174.edge
  rw [e1, e2, sum174, sum_take_map]
  have p1 := h.pos
  have p2 := h'.pos
  have u := h.uniq (gd_itm hg) h'
  have key : sm (fun x => (x.wish : Int) * D + sg up * g (itm up x)) (l.take k) * D' = sm (fun x => (x.wish : Int) * D' + sg up * g' (itm up x)) (l.take k) * D := by
    rw [← sm_mul, ← sm_mul]
    refine sm_congr fun x hx => ?_
    have := u (itm up x) (List.mem_map.mpr ⟨x, List.mem_of_mem_take hx, rfl⟩)
    rw [Int.add_mul, Int.add_mul, Int.mul_assoc (sg up), this, Int.mul_assoc (sg up)]
    have : (x.wish : Int) * D * D' = x.wish * D' * D := by ac_rfl
    rw [this]
  generalize sm (fun x => (x.wish : Int) * D + sg up * g (itm up x)) (l.take k) = A at key ⊢
  generalize sm (fun x => (x.wish : Int) * D' + sg up * g' (itm up x)) (l.take k) = B at key ⊢
  rw [Int.fdiv_eq_ediv_of_nonneg _ (by omega)]
  have a1 : A / D = (A * D') / (D * D') := (Int.mul_ediv_mul_of_pos_left A D p2).symm
  have a2 : B / D' = (B * D) / (D' * D) := (Int.mul_ediv_mul_of_pos_left B D' p1).symm
  rw [a1, a2, key, Int.mul_comm D D']
end BX
namespace BX
theorem Lf_step (l : List It) (m : Int) (u B : It → Bool) : Lf l m (fun z => u z && !B z) = Lf l m u - sm (fun z => if u z && B z then z.1 else 0) l := by
  unfold Lf
  have : sm (fun z => if (u z && !B z) = true then 0 else z.1) l = sm (fun z => if u z = true then 0 else z.1) l + sm (fun z => if (u z && B z) = true then z.1 else 0) l := by
    rw [← sm_add]
    refine sm_congr fun z _ => ?_
    by_cases hu : u z = true <;> by_cases hb : B z = true <;> simp [hu, hb]
  rw [this]; omega
theorem Wt_step (l : List It) (u B : It → Bool) : Wt l (fun z => u z && !B z) = Wt l u - sm (fun z => if u z && B z then z.2 else 0) l := by
  unfold Wt
  rw [← sm_sub]
  refine sm_congr fun z _ => ?_
  dsimp only
  by_cases hu : u z = true <;> by_cases hb : B z = true <;> simp [hu, hb]
theorem sm_filter {α : Type} (f : α → Int) (p : α → Bool) : ∀ l : List α, sm f (l.filter p) = sm (fun x => if p x then f x else 0) l
  | [] => rfl
  | x :: l => by
    rw [List.filter_cons, sm_cons, ← sm_filter f p l]
    cases p x
    · simp
    · simp [sm_cons]
def zk (S W : List Int) (k : Nat) : It := (S.getD k 0, W.getD k 0)
theorem zip_range {S W : List Int} (hl : S.length = W.length) : S.zip W = (List.range S.length).map (zk S W) := by
  refine List.ext_getElem (by simp [hl]) fun i h1 h2 => ?_
  have hi : i < S.length := by simp at h1; omega
  simp [zk, List.getD_eq_getElem?_getD, List.getElem?_eq_getElem hi, List.getElem?_eq_getElem (show i < W.length by omega)]
def frees (S W : List Int) (u : It → Bool) : List Nat := (List.range S.length).filter fun k => u (zk S W k)
theorem mem_frees {S W : List Int} {u : It → Bool} {k : Nat} : k ∈ frees S W u ↔ k < S.length ∧ u (zk S W k) = true := by simp [frees]
def hit (L W : Int) (z : It) : Bool := decide (z.1 * W ≤ L * z.2)
def fulls (S W : List Int) (u : It → Bool) (L w : Int) : List Nat := (frees S W u).filter fun k => hit L w (zk S W k)
theorem fulls_eq (S W : List Int) (u : It → Bool) (L w : Int) : fulls S W u L w = (List.range S.length).filter fun k => u (zk S W k) && hit L w (zk S W k) := by
  unfold fulls frees
  rw [List.filter_filter]
  congr 1
  funext k
  rw [Bool.and_comm]
theorem frees_step (S W : List Int) (u : It → Bool) (L w : Int) : ((frees S W u).filter fun k => !decide (k ∈ fulls S W u L w)) = frees S W fun z => u z && !hit L w z := by
  unfold frees
  rw [List.filter_filter]
  refine List.filter_congr fun k hk => ?_
  have hk' : k < S.length := by simpa using hk
  rw [fulls_eq]
  by_cases hu : u (zk S W k) = true <;> by_cases hb : hit L w (zk S W k) = true <;> simp [hu, hb, hk']
theorem left_step {S W : List Int} (hl : S.length = W.length) (m : Int) (u : It → Bool) (L w : Int) : Lf (S.zip W) m u - sm (fun k => S.getD k 0) (fulls S W u L w) = Lf (S.zip W) m fun z => u z && !hit L w z := by
  rw [Lf_step, fulls_eq, sm_filter, zip_range hl, sm_map]
  rfl
theorem weight_step {S W : List Int} (hl : S.length = W.length) (u : It → Bool) (L w : Int) : Wt (S.zip W) u - sm (fun k => W.getD k 0) (fulls S W u L w) = Wt (S.zip W) fun z => u z && !hit L w z := by
  rw [Wt_step, fulls_eq, sm_filter, zip_range hl, sm_map]
  rfl
theorem left_start (l : List It) (m : Int) : Lf l m (fun _ => true) = m := by
  unfold Lf
  have e : sm (fun z : It => if true = true then (0 : Int) else z.1) l = 0 := by
    induction l with
    | nil => rfl
    | cons x l ih => rw [sm_cons, ih]; rfl
  rw [e]; omega
theorem weight_start {S W : List Int} (hl : S.length = W.length) : Wt (S.zip W) (fun _ => true) = W.sum := by
  have e : (S.zip W).map Prod.snd = W := List.map_snd_zip (by omega)
  conv => rhs; rw [← e]
  rfl
theorem frees_start (S W : List Int) : frees S W (fun _ => true) = List.range S.length := by
  unfold frees
  rw [List.filter_eq_self.mpr fun _ _ => rfl]
theorem frees_le (S W : List Int) (u : It → Bool) : (frees S W u).length ≤ S.length := by
  have := List.length_filter_le (fun k => u (zk S W k)) (List.range S.length)
  rw [List.length_range] at this
  exact this
theorem frees_less {S W : List Int} {u : It → Bool} {L w : Int} (h : fulls S W u L w ≠ []) : (frees S W fun z => u z && !hit L w z).length < (frees S W u).length := by
  obtain ⟨k, hk⟩ := List.exists_mem_of_ne_nil _ h
  rw [fulls_eq] at hk
  simp only [List.mem_filter, Bool.and_eq_true] at hk
  exact filter_lt (fun x hx => by simp only [Bool.and_eq_true] at hx; exact hx.1) ⟨k, hk.1, hk.2.1, by simp [hk.2.1, hk.2.2]⟩
theorem mem_zk {S W : List Int} (hl : S.length = W.length) {z : It} (h : z ∈ S.zip W) : ∃ k, k < S.length ∧ zk S W k = z := by
  rw [zip_range hl] at h
  obtain ⟨k, hk, e⟩ := List.mem_map.mp h
  exact ⟨k, by simpa using hk, e⟩
theorem zk_mem {S W : List Int} (hl : S.length = W.length) {k : Nat} (h : k < S.length) : zk S W k ∈ S.zip W := by
  rw [zip_range hl]
  exact List.mem_map.mpr ⟨k, by simpa using h, rfl⟩
theorem rnd_end {S W : List Int} (hl : S.length = W.length) {m : Int} {u : It → Bool} (gd : Gd (S.zip W)) (h : Rnd (S.zip W) m u) (he : fulls S W u (Lf (S.zip W) m u) (Wt (S.zip W) u) = []) :
    (frees S W u = [] → Lvl (S.zip W) m 1 fun z => z.1) ∧ (frees S W u ≠ [] → Lvl (S.zip W) m (Wt (S.zip W) u) fun z => if u z then Lf (S.zip W) m u * z.2 else z.1 * Wt (S.zip W) u) := by
  have no : ∀ z, z ∈ S.zip W → u z = true → Lf (S.zip W) m u * z.2 < z.1 * Wt (S.zip W) u := fun z hz hu => by
    obtain ⟨k, hk, rfl⟩ := mem_zk hl hz
    have hm : k ∉ fulls S W u (Lf (S.zip W) m u) (Wt (S.zip W) u) := by rw [he]; simp
    rw [fulls_eq] at hm
    have hm : ¬ hit (Lf (S.zip W) m u) (Wt (S.zip W) u) (zk S W k) = true := fun e => hm (by simp [hk, hu, e])
    unfold hit at hm
    simp only [decide_eq_true_eq] at hm
    omega
  refine ⟨fun e => h.full fun z hz hu => ?_, fun e => h.lvl ?_ fun z hz hu => Int.le_of_lt (no z hz hu)⟩
  · obtain ⟨k, hk, rfl⟩ := mem_zk hl hz
    have : k ∈ frees S W u := mem_frees.mpr ⟨hk, hu⟩
    rw [e] at this
    cases this
  · obtain ⟨k, hk⟩ := List.exists_mem_of_ne_nil _ e
    obtain ⟨hk, hu⟩ := mem_frees.mp hk
    have hz := zk_mem hl hk
    have n := no _ hz hu
    have w0 := Wt_nonneg gd u
    have l0 : 0 ≤ Lf (S.zip W) m u * (zk S W k).2 := Int.mul_nonneg h.lf (gd _ hz).2.1
    rcases Int.lt_or_eq_of_le w0 with c | c
    · exact c
    · rw [← c, Int.mul_zero] at n
      omega
theorem Wt_le {l : List It} (gd : Gd l) (u : It → Bool) : Wt l u ≤ sm Prod.snd l := by
  refine sm_le fun z hz => ?_
  have := (gd z hz).2.1
  cases u z <;> simp <;> omega
def togs (wi ps : List Int) (sgn D : Int) (k : Nat) : Int := sm (fun j => wi.getD j 0 * D + sgn * ps.getD j 0) (List.range k)
theorem togs_succ (wi ps : List Int) (sgn D : Int) (k : Nat) : togs wi ps sgn D (k + 1) = togs wi ps sgn D k + wi.getD k 0 * D + sgn * ps.getD k 0 := by
  unfold togs sm
  rw [List.range_succ, List.map_append, List.sum_append]
  simp
  omega
def lens (wi ps : List Int) (sgn D : Int) (n : Nat) : List Int := (List.range n).map fun k => togs wi ps sgn D (k + 1) / D - togs wi ps sgn D k / D
theorem togs_eq {up : Bool} {l : List Kp174.One} {D : Int} {g : It → Int} {k : Nat} (hk : k ≤ l.length) :
    togs (l.map fun x => (x.wish : Int)) ((l.map (itm up)).map g) (sg up) D k = sm (fun x => (x.wish : Int) * D + sg up * g (itm up x)) (l.take k) := by
  have e : l.take k = (List.range k).map fun j => l.getD j default := by
    refine List.ext_getElem (by simp; omega) fun i h1 h2 => ?_
    have hi : i < l.length := by simp at h1; omega
    simp [List.getD_eq_getElem?_getD, List.getElem?_eq_getElem hi]
  rw [e, sm_map]
  unfold togs
  refine sm_congr fun j hj => ?_
  have hj : j < l.length := by
    have : j < k := by simpa using hj
    omega
  simp [List.getD_eq_getElem?_getD, List.getElem?_eq_getElem hj]
theorem lens_sizes {length : Nat} {l : List Kp174.One} {up : Bool} (hup : Kp174.upwards length l = up) (hg : goodL l) {D : Int} {g : It → Int} (h : Lvl (l.map (itm up)) (amt up length l) D g) :
    lens (l.map fun x => (x.wish : Int)) ((l.map (itm up)).map g) (sg up) D l.length = Kp174.sizes length l := by
  unfold lens Kp174.sizes
  refine List.map_congr_left fun k hk => ?_
  have hk : k < l.length := by simpa using hk
  rw [togs_eq (by omega), togs_eq (by omega), ← edge_eq hup hg h, ← edge_eq hup hg h]
theorem edge_zero (length : Nat) (l : List Kp174.One) : Kp174.edge length l 0 = 0 := by
  unfold Kp174.edge
  rw [List.take_zero]
  show Int.fdiv 0 _ = 0
  simp
theorem sizes_wish {length : Nat} {l : List Kp174.One} (hg : goodL l) (h : (length : Int) = sm (fun x => (x.wish : Int)) l) : Kp174.sizes length l = l.map fun x => (x.wish : Int) := by
  have hw : Kp174.wishes l = sm (fun x => (x.wish : Int)) l := by
    unfold Kp174.wishes
    rw [sum174]; rfl
  have hup : Kp174.upwards length l = true := by
    unfold Kp174.upwards
    rw [hw]
    exact decide_eq_true (by omega)
  have ha : amt true length l = 0 := by
    unfold amt
    simp only [sg, if_true]
    omega
  have z : Lvl (l.map (itm true)) (amt true length l) 1 fun _ => 0 := by
    rw [ha]
    exact Lvl.zero (gd_itm (up := true) hg)
  rw [← lens_sizes hup hg z]
  unfold lens
  refine List.ext_getElem (by simp) fun i h1 h2 => ?_
  have hi : i < l.length := by simpa using h2
  simp only [List.getElem_map, List.getElem_range]
  rw [togs_succ]
  have e0 : sg true * ((l.map (itm true)).map fun _ => (0 : Int)).getD i 0 = 0 := by
    simp [List.getD_eq_getElem?_getD, List.getElem?_eq_getElem hi]
  rw [e0]
  simp [List.getD_eq_getElem?_getD, List.getElem?_eq_getElem hi]
  omega
end BX
namespace BXP
open PySem L2 BX
structure Adr where
  C_Thing : Addr
  C_Box : Addr
  C_Boxes : Addr
  C_Rule : Addr
  f_Thing_init : Addr
  fd_Thing_init : FuncData
  f_shared_lengths : Addr
  fd_shared_lengths : FuncData
  f_fair_parts : Addr
  fd_fair_parts : FuncData
  f_full_ones : Addr
  fd_full_ones : FuncData
  f_changed_lengths : Addr
  fd_changed_lengths : FuncData
  f_natural_size : Addr
  fd_natural_size : FuncData
  f_natural_length : Addr
  fd_natural_length : FuncData
  f_content_length : Addr
  fd_content_length : FuncData
  f_all_gaps : Addr
  fd_all_gaps : FuncData
  f_inner_places : Addr
  fd_inner_places : FuncData
  f_inner_spans : Addr
  fd_inner_spans : FuncData
  f_room_in : Addr
  fd_room_in : FuncData
  f_thing_along : Addr
  fd_thing_along : FuncData
  f_spans_along : Addr
  fd_spans_along : FuncData
  f_rest_before : Addr
  fd_rest_before : FuncData
  f_span_by_side : Addr
  fd_span_by_side : FuncData
  f_Box_init : Addr
  fd_Box_init : FuncData
  f_Box_holds_dot : Addr
  fd_Box_holds_dot : FuncData
  f_Boxes_init : Addr
  fd_Boxes_init : FuncData
  f_Boxes_bx_start : Addr
  fd_Boxes_bx_start : FuncData
  f_Boxes_bx_add : Addr
  fd_Boxes_bx_add : FuncData
  f_Boxes_bx_set : Addr
  fd_Boxes_bx_set : FuncData
  f_Boxes_bx_drop : Addr
  fd_Boxes_bx_drop : FuncData
  f_Boxes_bx_lay : Addr
  fd_Boxes_bx_lay : FuncData
  f_Boxes_bx_place : Addr
  fd_Boxes_bx_place : FuncData
  f_Boxes_bx_at : Addr
  fd_Boxes_bx_at : FuncData
  f_Boxes_place_out : Addr
  fd_Boxes_place_out : FuncData
  f_Boxes_has_space_in : Addr
  fd_Boxes_has_space_in : FuncData
  f_Boxes_least_free_number : Addr
  fd_Boxes_least_free_number : FuncData
  f_Boxes_last_at : Addr
  fd_Boxes_last_at : FuncData
  f_Boxes_places_in_window : Addr
  fd_Boxes_places_in_window : FuncData
  f_Boxes_natural_sizes : Addr
  fd_Boxes_natural_sizes : FuncData
  f_Boxes_outer_before_inner : Addr
  fd_Boxes_outer_before_inner : FuncData
  f_Rule_init : Addr
  fd_Rule_init : FuncData
  f_Rule_is_as_told : Addr
  fd_Rule_is_as_told : FuncData
  f_Rule_sizes_are_as_told : Addr
  fd_Rule_sizes_are_as_told : FuncData
  f_Rule_choices_are_as_told : Addr
  fd_Rule_choices_are_as_told : FuncData
  f_Rule_is_leaf : Addr
  fd_Rule_is_leaf : FuncData
  f_Rule_is_along : Addr
  fd_Rule_is_along : FuncData
  f_answers : Addr
  fd_answers : FuncData
  f_answer_to : Addr
  fd_answer_to : FuncData
  f_number_for : Addr
  fd_number_for : FuncData
  u_ACROSS : Value
  u_DOWN : Value
  u_SIDE_FILLS : Value
  u_SIDE_BEGINNING : Value
  u_SIDE_MIDDLE : Value
  u_REST_BEHIND : Value
  u_REST_HALF : Value
  u_REST_BEFORE : Value
  u_NO_SUCH_BOX : Value
  u_NOT_LAID_OUT : Value
  u_NOT_ALLOWED : Value
  u_NOT_AS_TOLD : Value
  u_NO_MORE_FIT : Value
  u_MOST_BOXES : Value
  u_MOST_IN_ONE : Value
  u_MOST_DEEP : Value
  u_MOST_WINDOW : Value
  u_LEAF : Value
  u_GREATEST_SIDE : Value
  u_GREATEST_REST : Value
  u_BX_START : Value
  u_BX_ADD : Value
  u_BX_SET : Value
  u_BX_DROP : Value
  u_BX_LAY : Value
  u_BX_PLACE : Value
  a_HOW_MANY_NUMBERS : Addr
  u_FORM_NUMBER : Value
  u_FORM_PLACE : Value
structure Txt (K : PySem.W.Frag) (mg : Str → Option Value) (t : Adr) : Prop where
  c_Thing : Cls K t.C_Thing
  g_Thing : mg "Thing" = some (.ref t.C_Thing)
  mk_Thing : Mk K t.C_Thing t.f_Thing_init
  n_Thing_least : NoAttr K t.C_Thing "least"
  n_Thing_wish : NoAttr K t.C_Thing "wish"
  n_Thing_most : NoAttr K t.C_Thing "most"
  n_Thing_grow : NoAttr K t.C_Thing "grow"
  n_Thing_give : NoAttr K t.C_Thing "give"
  c_Box : Cls K t.C_Box
  g_Box : mg "Box" = some (.ref t.C_Box)
  mk_Box : Mk K t.C_Box t.f_Box_init
  n_Box_rule : NoAttr K t.C_Box "rule"
  n_Box_lies_in : NoAttr K t.C_Box "lies_in"
  n_Box_depth : NoAttr K t.C_Box "depth"
  n_Box_inner : NoAttr K t.C_Box "inner"
  n_Box_place : NoAttr K t.C_Box "place"
  c_Boxes : Cls K t.C_Boxes
  g_Boxes : mg "Boxes" = some (.ref t.C_Boxes)
  mk_Boxes : Mk K t.C_Boxes t.f_Boxes_init
  n_Boxes_by_number : NoAttr K t.C_Boxes "by_number"
  c_Rule : Cls K t.C_Rule
  g_Rule : mg "Rule" = some (.ref t.C_Rule)
  mk_Rule : Mk K t.C_Rule t.f_Rule_init
  n_Rule_least : NoAttr K t.C_Rule "least"
  n_Rule_wish : NoAttr K t.C_Rule "wish"
  n_Rule_most : NoAttr K t.C_Rule "most"
  n_Rule_kind : NoAttr K t.C_Rule "kind"
  n_Rule_pad : NoAttr K t.C_Rule "pad"
  n_Rule_gap : NoAttr K t.C_Rule "gap"
  n_Rule_grow : NoAttr K t.C_Rule "grow"
  n_Rule_give : NoAttr K t.C_Rule "give"
  n_Rule_side : NoAttr K t.C_Rule "side"
  n_Rule_rest : NoAttr K t.C_Rule "rest"
  n_Rule_none : NoAttr K t.C_Rule "none"
  F_Thing_init : Fun K "__init__" "Thing.__init__" s_Thing_init t.f_Thing_init t.fd_Thing_init
  b_Thing_init : Binds K t.fd_Thing_init ["self", "least", "wish", "most", "grow", "give"] []
  F_shared_lengths : Fun K "shared_lengths" "shared_lengths" s_shared_lengths t.f_shared_lengths t.fd_shared_lengths
  b_shared_lengths : Binds K t.fd_shared_lengths ["things", "length"] []
  g_shared_lengths : mg "shared_lengths" = some (.ref t.f_shared_lengths)
  k_shared_lengths : PySem.W.keepIn K (.ref t.f_shared_lengths) = true
  F_fair_parts : Fun K "fair_parts" "fair_parts" s_fair_parts t.f_fair_parts t.fd_fair_parts
  b_fair_parts : Binds K t.fd_fair_parts ["spans", "weights", "amount"] []
  g_fair_parts : mg "fair_parts" = some (.ref t.f_fair_parts)
  k_fair_parts : PySem.W.keepIn K (.ref t.f_fair_parts) = true
  F_full_ones : Fun K "full_ones" "full_ones" s_full_ones t.f_full_ones t.fd_full_ones
  b_full_ones : Binds K t.fd_full_ones ["free", "spans", "weights", "left", "weight"] []
  g_full_ones : mg "full_ones" = some (.ref t.f_full_ones)
  k_full_ones : PySem.W.keepIn K (.ref t.f_full_ones) = true
  F_changed_lengths : Fun K "changed_lengths" "changed_lengths" s_changed_lengths t.f_changed_lengths t.fd_changed_lengths
  b_changed_lengths : Binds K t.fd_changed_lengths ["wishes", "sign", "fair"] []
  g_changed_lengths : mg "changed_lengths" = some (.ref t.f_changed_lengths)
  k_changed_lengths : PySem.W.keepIn K (.ref t.f_changed_lengths) = true
  F_natural_size : Fun K "natural_size" "natural_size" s_natural_size t.f_natural_size t.fd_natural_size
  b_natural_size : Binds K t.fd_natural_size ["rule", "inner_sizes"] []
  g_natural_size : mg "natural_size" = some (.ref t.f_natural_size)
  k_natural_size : PySem.W.keepIn K (.ref t.f_natural_size) = true
  F_natural_length : Fun K "natural_length" "natural_length" s_natural_length t.f_natural_length t.fd_natural_length
  b_natural_length : Binds K t.fd_natural_length ["rule", "inner_sizes", "direction"] []
  g_natural_length : mg "natural_length" = some (.ref t.f_natural_length)
  k_natural_length : PySem.W.keepIn K (.ref t.f_natural_length) = true
  F_content_length : Fun K "content_length" "content_length" s_content_length t.f_content_length t.fd_content_length
  b_content_length : Binds K t.fd_content_length ["rule", "naturals", "direction"] []
  g_content_length : mg "content_length" = some (.ref t.f_content_length)
  k_content_length : PySem.W.keepIn K (.ref t.f_content_length) = true
  F_all_gaps : Fun K "all_gaps" "all_gaps" s_all_gaps t.f_all_gaps t.fd_all_gaps
  b_all_gaps : Binds K t.fd_all_gaps ["rule", "many"] []
  g_all_gaps : mg "all_gaps" = some (.ref t.f_all_gaps)
  k_all_gaps : PySem.W.keepIn K (.ref t.f_all_gaps) = true
  F_inner_places : Fun K "inner_places" "inner_places" s_inner_places t.f_inner_places t.fd_inner_places
  b_inner_places : Binds K t.fd_inner_places ["rule", "place", "inner_rules", "inner_sizes"] []
  g_inner_places : mg "inner_places" = some (.ref t.f_inner_places)
  k_inner_places : PySem.W.keepIn K (.ref t.f_inner_places) = true
  F_inner_spans : Fun K "inner_spans" "inner_spans" s_inner_spans t.f_inner_spans t.fd_inner_spans
  b_inner_spans : Binds K t.fd_inner_spans ["rule", "place", "inner_rules", "inner_sizes", "direction"] []
  g_inner_spans : mg "inner_spans" = some (.ref t.f_inner_spans)
  k_inner_spans : PySem.W.keepIn K (.ref t.f_inner_spans) = true
  F_room_in : Fun K "room_in" "room_in" s_room_in t.f_room_in t.fd_room_in
  b_room_in : Binds K t.fd_room_in ["rule", "place", "direction"] []
  g_room_in : mg "room_in" = some (.ref t.f_room_in)
  k_room_in : PySem.W.keepIn K (.ref t.f_room_in) = true
  F_thing_along : Fun K "thing_along" "thing_along" s_thing_along t.f_thing_along t.fd_thing_along
  b_thing_along : Binds K t.fd_thing_along ["rule", "natural", "direction"] []
  g_thing_along : mg "thing_along" = some (.ref t.f_thing_along)
  k_thing_along : PySem.W.keepIn K (.ref t.f_thing_along) = true
  F_spans_along : Fun K "spans_along" "spans_along" s_spans_along t.f_spans_along t.fd_spans_along
  b_spans_along : Binds K t.fd_spans_along ["rule", "room", "things"] []
  g_spans_along : mg "spans_along" = some (.ref t.f_spans_along)
  k_spans_along : PySem.W.keepIn K (.ref t.f_spans_along) = true
  F_rest_before : Fun K "rest_before" "rest_before" s_rest_before t.f_rest_before t.fd_rest_before
  b_rest_before : Binds K t.fd_rest_before ["rest", "over", "k", "many"] []
  g_rest_before : mg "rest_before" = some (.ref t.f_rest_before)
  k_rest_before : PySem.W.keepIn K (.ref t.f_rest_before) = true
  F_span_by_side : Fun K "span_by_side" "span_by_side" s_span_by_side t.f_span_by_side t.fd_span_by_side
  b_span_by_side : Binds K t.fd_span_by_side ["rule", "room", "natural", "direction"] []
  g_span_by_side : mg "span_by_side" = some (.ref t.f_span_by_side)
  k_span_by_side : PySem.W.keepIn K (.ref t.f_span_by_side) = true
  F_Box_init : Fun K "__init__" "Box.__init__" s_Box_init t.f_Box_init t.fd_Box_init
  b_Box_init : Binds K t.fd_Box_init ["self", "rule", "lies_in", "depth"] []
  F_Box_holds_dot : Fun K "holds_dot" "Box.holds_dot" s_Box_holds_dot t.f_Box_holds_dot t.fd_Box_holds_dot
  b_Box_holds_dot : Binds K t.fd_Box_holds_dot ["self", "x", "y"] []
  m_Box_holds_dot : Meth K t.C_Box "holds_dot" t.f_Box_holds_dot
  F_Boxes_init : Fun K "__init__" "Boxes.__init__" s_Boxes_init t.f_Boxes_init t.fd_Boxes_init
  b_Boxes_init : Binds K t.fd_Boxes_init ["self"] []
  F_Boxes_bx_start : Fun K "bx_start" "Boxes.bx_start" s_Boxes_bx_start t.f_Boxes_bx_start t.fd_Boxes_bx_start
  b_Boxes_bx_start : Binds K t.fd_Boxes_bx_start ["self", "rule"] []
  m_Boxes_bx_start : Meth K t.C_Boxes "bx_start" t.f_Boxes_bx_start
  F_Boxes_bx_add : Fun K "bx_add" "Boxes.bx_add" s_Boxes_bx_add t.f_Boxes_bx_add t.fd_Boxes_bx_add
  b_Boxes_bx_add : Binds K t.fd_Boxes_bx_add ["self", "into", "rule"] []
  m_Boxes_bx_add : Meth K t.C_Boxes "bx_add" t.f_Boxes_bx_add
  F_Boxes_bx_set : Fun K "bx_set" "Boxes.bx_set" s_Boxes_bx_set t.f_Boxes_bx_set t.fd_Boxes_bx_set
  b_Boxes_bx_set : Binds K t.fd_Boxes_bx_set ["self", "number", "rule"] []
  m_Boxes_bx_set : Meth K t.C_Boxes "bx_set" t.f_Boxes_bx_set
  F_Boxes_bx_drop : Fun K "bx_drop" "Boxes.bx_drop" s_Boxes_bx_drop t.f_Boxes_bx_drop t.fd_Boxes_bx_drop
  b_Boxes_bx_drop : Binds K t.fd_Boxes_bx_drop ["self", "number"] []
  m_Boxes_bx_drop : Meth K t.C_Boxes "bx_drop" t.f_Boxes_bx_drop
  F_Boxes_bx_lay : Fun K "bx_lay" "Boxes.bx_lay" s_Boxes_bx_lay t.f_Boxes_bx_lay t.fd_Boxes_bx_lay
  b_Boxes_bx_lay : Binds K t.fd_Boxes_bx_lay ["self", "width", "height"] []
  m_Boxes_bx_lay : Meth K t.C_Boxes "bx_lay" t.f_Boxes_bx_lay
  F_Boxes_bx_place : Fun K "bx_place" "Boxes.bx_place" s_Boxes_bx_place t.f_Boxes_bx_place t.fd_Boxes_bx_place
  b_Boxes_bx_place : Binds K t.fd_Boxes_bx_place ["self", "number"] []
  m_Boxes_bx_place : Meth K t.C_Boxes "bx_place" t.f_Boxes_bx_place
  F_Boxes_bx_at : Fun K "bx_at" "Boxes.bx_at" s_Boxes_bx_at t.f_Boxes_bx_at t.fd_Boxes_bx_at
  b_Boxes_bx_at : Binds K t.fd_Boxes_bx_at ["self", "x", "y"] []
  m_Boxes_bx_at : Meth K t.C_Boxes "bx_at" t.f_Boxes_bx_at
  F_Boxes_place_out : Fun K "place_out" "Boxes.place_out" s_Boxes_place_out t.f_Boxes_place_out t.fd_Boxes_place_out
  b_Boxes_place_out : Binds K t.fd_Boxes_place_out ["self", "number"] []
  m_Boxes_place_out : Meth K t.C_Boxes "place_out" t.f_Boxes_place_out
  F_Boxes_has_space_in : Fun K "has_space_in" "Boxes.has_space_in" s_Boxes_has_space_in t.f_Boxes_has_space_in t.fd_Boxes_has_space_in
  b_Boxes_has_space_in : Binds K t.fd_Boxes_has_space_in ["self", "outer"] []
  m_Boxes_has_space_in : Meth K t.C_Boxes "has_space_in" t.f_Boxes_has_space_in
  F_Boxes_least_free_number : Fun K "least_free_number" "Boxes.least_free_number" s_Boxes_least_free_number t.f_Boxes_least_free_number t.fd_Boxes_least_free_number
  b_Boxes_least_free_number : Binds K t.fd_Boxes_least_free_number ["self"] []
  m_Boxes_least_free_number : Meth K t.C_Boxes "least_free_number" t.f_Boxes_least_free_number
  F_Boxes_last_at : Fun K "last_at" "Boxes.last_at" s_Boxes_last_at t.f_Boxes_last_at t.fd_Boxes_last_at
  b_Boxes_last_at : Binds K t.fd_Boxes_last_at ["self", "numbers", "x", "y"] []
  m_Boxes_last_at : Meth K t.C_Boxes "last_at" t.f_Boxes_last_at
  F_Boxes_places_in_window : Fun K "places_in_window" "Boxes.places_in_window" s_Boxes_places_in_window t.f_Boxes_places_in_window t.fd_Boxes_places_in_window
  b_Boxes_places_in_window : Binds K t.fd_Boxes_places_in_window ["self", "width", "height"] []
  m_Boxes_places_in_window : Meth K t.C_Boxes "places_in_window" t.f_Boxes_places_in_window
  F_Boxes_natural_sizes : Fun K "natural_sizes" "Boxes.natural_sizes" s_Boxes_natural_sizes t.f_Boxes_natural_sizes t.fd_Boxes_natural_sizes
  b_Boxes_natural_sizes : Binds K t.fd_Boxes_natural_sizes ["self", "order"] []
  m_Boxes_natural_sizes : Meth K t.C_Boxes "natural_sizes" t.f_Boxes_natural_sizes
  F_Boxes_outer_before_inner : Fun K "outer_before_inner" "Boxes.outer_before_inner" s_Boxes_outer_before_inner t.f_Boxes_outer_before_inner t.fd_Boxes_outer_before_inner
  b_Boxes_outer_before_inner : Binds K t.fd_Boxes_outer_before_inner ["self"] []
  m_Boxes_outer_before_inner : Meth K t.C_Boxes "outer_before_inner" t.f_Boxes_outer_before_inner
  F_Rule_init : Fun K "__init__" "Rule.__init__" s_Rule_init t.f_Rule_init t.fd_Rule_init
  b_Rule_init : Binds K t.fd_Rule_init ["self", "numbers"] []
  F_Rule_is_as_told : Fun K "is_as_told" "Rule.is_as_told" s_Rule_is_as_told t.f_Rule_is_as_told t.fd_Rule_is_as_told
  b_Rule_is_as_told : Binds K t.fd_Rule_is_as_told ["self"] []
  m_Rule_is_as_told : Meth K t.C_Rule "is_as_told" t.f_Rule_is_as_told
  F_Rule_sizes_are_as_told : Fun K "sizes_are_as_told" "Rule.sizes_are_as_told" s_Rule_sizes_are_as_told t.f_Rule_sizes_are_as_told t.fd_Rule_sizes_are_as_told
  b_Rule_sizes_are_as_told : Binds K t.fd_Rule_sizes_are_as_told ["self"] []
  m_Rule_sizes_are_as_told : Meth K t.C_Rule "sizes_are_as_told" t.f_Rule_sizes_are_as_told
  F_Rule_choices_are_as_told : Fun K "choices_are_as_told" "Rule.choices_are_as_told" s_Rule_choices_are_as_told t.f_Rule_choices_are_as_told t.fd_Rule_choices_are_as_told
  b_Rule_choices_are_as_told : Binds K t.fd_Rule_choices_are_as_told ["self"] []
  m_Rule_choices_are_as_told : Meth K t.C_Rule "choices_are_as_told" t.f_Rule_choices_are_as_told
  F_Rule_is_leaf : Fun K "is_leaf" "Rule.is_leaf" s_Rule_is_leaf t.f_Rule_is_leaf t.fd_Rule_is_leaf
  b_Rule_is_leaf : Binds K t.fd_Rule_is_leaf ["self"] []
  m_Rule_is_leaf : Meth K t.C_Rule "is_leaf" t.f_Rule_is_leaf
  F_Rule_is_along : Fun K "is_along" "Rule.is_along" s_Rule_is_along t.f_Rule_is_along t.fd_Rule_is_along
  b_Rule_is_along : Binds K t.fd_Rule_is_along ["self", "direction"] []
  m_Rule_is_along : Meth K t.C_Rule "is_along" t.f_Rule_is_along
  F_answers : Fun K "answers" "answers" s_answers t.f_answers t.fd_answers
  b_answers : Binds K t.fd_answers ["calls"] []
  g_answers : mg "answers" = some (.ref t.f_answers)
  k_answers : PySem.W.keepIn K (.ref t.f_answers) = true
  F_answer_to : Fun K "answer_to" "answer_to" s_answer_to t.f_answer_to t.fd_answer_to
  b_answer_to : Binds K t.fd_answer_to ["boxes", "call", "numbers"] []
  g_answer_to : mg "answer_to" = some (.ref t.f_answer_to)
  k_answer_to : PySem.W.keepIn K (.ref t.f_answer_to) = true
  F_number_for : Fun K "number_for" "number_for" s_number_for t.f_number_for t.fd_number_for
  b_number_for : Binds K t.fd_number_for ["boxes", "call", "numbers"] []
  g_number_for : mg "number_for" = some (.ref t.f_number_for)
  k_number_for : PySem.W.keepIn K (.ref t.f_number_for) = true
  g_ACROSS : mg "ACROSS" = some t.u_ACROSS
  r_ACROSS : RelV (.int (0)) t.u_ACROSS
  g_DOWN : mg "DOWN" = some t.u_DOWN
  r_DOWN : RelV (.int (1)) t.u_DOWN
  g_SIDE_FILLS : mg "SIDE_FILLS" = some t.u_SIDE_FILLS
  r_SIDE_FILLS : RelV (.int (0)) t.u_SIDE_FILLS
  g_SIDE_BEGINNING : mg "SIDE_BEGINNING" = some t.u_SIDE_BEGINNING
  r_SIDE_BEGINNING : RelV (.int (1)) t.u_SIDE_BEGINNING
  g_SIDE_MIDDLE : mg "SIDE_MIDDLE" = some t.u_SIDE_MIDDLE
  r_SIDE_MIDDLE : RelV (.int (2)) t.u_SIDE_MIDDLE
  g_REST_BEHIND : mg "REST_BEHIND" = some t.u_REST_BEHIND
  r_REST_BEHIND : RelV (.int (0)) t.u_REST_BEHIND
  g_REST_HALF : mg "REST_HALF" = some t.u_REST_HALF
  r_REST_HALF : RelV (.int (1)) t.u_REST_HALF
  g_REST_BEFORE : mg "REST_BEFORE" = some t.u_REST_BEFORE
  r_REST_BEFORE : RelV (.int (2)) t.u_REST_BEFORE
  g_NO_SUCH_BOX : mg "NO_SUCH_BOX" = some t.u_NO_SUCH_BOX
  r_NO_SUCH_BOX : RelV (.int (-2)) t.u_NO_SUCH_BOX
  g_NOT_LAID_OUT : mg "NOT_LAID_OUT" = some t.u_NOT_LAID_OUT
  r_NOT_LAID_OUT : RelV (.int (-11)) t.u_NOT_LAID_OUT
  g_NOT_ALLOWED : mg "NOT_ALLOWED" = some t.u_NOT_ALLOWED
  r_NOT_ALLOWED : RelV (.int (-13)) t.u_NOT_ALLOWED
  g_NOT_AS_TOLD : mg "NOT_AS_TOLD" = some t.u_NOT_AS_TOLD
  r_NOT_AS_TOLD : RelV (.int (-22)) t.u_NOT_AS_TOLD
  g_NO_MORE_FIT : mg "NO_MORE_FIT" = some t.u_NO_MORE_FIT
  r_NO_MORE_FIT : RelV (.int (-28)) t.u_NO_MORE_FIT
  g_MOST_BOXES : mg "MOST_BOXES" = some t.u_MOST_BOXES
  r_MOST_BOXES : RelV (.int (256)) t.u_MOST_BOXES
  g_MOST_IN_ONE : mg "MOST_IN_ONE" = some t.u_MOST_IN_ONE
  r_MOST_IN_ONE : RelV (.int (64)) t.u_MOST_IN_ONE
  g_MOST_DEEP : mg "MOST_DEEP" = some t.u_MOST_DEEP
  r_MOST_DEEP : RelV (.int (16)) t.u_MOST_DEEP
  g_MOST_WINDOW : mg "MOST_WINDOW" = some t.u_MOST_WINDOW
  r_MOST_WINDOW : RelV (.int (65535)) t.u_MOST_WINDOW
  g_LEAF : mg "LEAF" = some t.u_LEAF
  r_LEAF : RelV (.int (2)) t.u_LEAF
  g_GREATEST_SIDE : mg "GREATEST_SIDE" = some t.u_GREATEST_SIDE
  r_GREATEST_SIDE : RelV (.int (3)) t.u_GREATEST_SIDE
  g_GREATEST_REST : mg "GREATEST_REST" = some t.u_GREATEST_REST
  r_GREATEST_REST : RelV (.int (3)) t.u_GREATEST_REST
  g_BX_START : mg "BX_START" = some t.u_BX_START
  r_BX_START : RelV (.int (0)) t.u_BX_START
  g_BX_ADD : mg "BX_ADD" = some t.u_BX_ADD
  r_BX_ADD : RelV (.int (1)) t.u_BX_ADD
  g_BX_SET : mg "BX_SET" = some t.u_BX_SET
  r_BX_SET : RelV (.int (2)) t.u_BX_SET
  g_BX_DROP : mg "BX_DROP" = some t.u_BX_DROP
  r_BX_DROP : RelV (.int (3)) t.u_BX_DROP
  g_BX_LAY : mg "BX_LAY" = some t.u_BX_LAY
  r_BX_LAY : RelV (.int (4)) t.u_BX_LAY
  g_BX_PLACE : mg "BX_PLACE" = some t.u_BX_PLACE
  r_BX_PLACE : RelV (.int (5)) t.u_BX_PLACE
  g_HOW_MANY_NUMBERS : mg "HOW_MANY_NUMBERS" = some (.ref t.a_HOW_MANY_NUMBERS)
  q_HOW_MANY_NUMBERS : ∀ H : Hp, SqT K H t.a_HOW_MANY_NUMBERS [.int (14), .int (15), .int (15), .int (1), .int (2), .int (1), .int (2)]
  g_FORM_NUMBER : mg "FORM_NUMBER" = some t.u_FORM_NUMBER
  r_FORM_NUMBER : RelV (.int (0)) t.u_FORM_NUMBER
  g_FORM_PLACE : mg "FORM_PLACE" = some t.u_FORM_PLACE
  r_FORM_PLACE : RelV (.int (1)) t.u_FORM_PLACE
  n_sum : mg "sum" = none
  n_list : mg "list" = none
  n_range : mg "range" = none
  n_len : mg "len" = none
  n_min : mg "min" = none
  n_max : mg "max" = none
  n_reversed : mg "reversed" = none
  n_dict : mg "dict" = none
  n_zip : mg "zip" = none
theorem sc_Thing_init : FnScope ["self", "least", "wish", "most", "grow", "give"] ["self", "least", "wish", "most", "grow", "give"] (defScope s_Thing_init) := ⟨rfl, rfl, rfl, by decide +kernel, rfl, by decide +kernel, by decide +kernel⟩
theorem sc_shared_lengths : FnScope ["things", "length", "wishes", "thing", "left", "weights", "spans"] ["things", "length"] (defScope s_shared_lengths) := ⟨rfl, rfl, rfl, by decide +kernel, rfl, by decide +kernel, by decide +kernel⟩
theorem sc_fair_parts : FnScope ["spans", "weights", "amount", "free", "left", "weight", "full", "k", "below", "parts", "span"] ["spans", "weights", "amount"] (defScope s_fair_parts) := ⟨rfl, rfl, rfl, by decide +kernel, rfl, by decide +kernel, by decide +kernel⟩
theorem sc_full_ones : FnScope ["free", "spans", "weights", "left", "weight", "k"] ["free", "spans", "weights", "left", "weight"] (defScope s_full_ones) := ⟨rfl, rfl, rfl, by decide +kernel, rfl, by decide +kernel, by decide +kernel⟩
theorem sc_changed_lengths : FnScope ["wishes", "sign", "fair", "parts", "below", "lengths", "together", "edge", "k"] ["wishes", "sign", "fair"] (defScope s_changed_lengths) := ⟨rfl, rfl, rfl, by decide +kernel, rfl, by decide +kernel, by decide +kernel⟩
theorem sc_natural_size : FnScope ["rule", "inner_sizes"] ["rule", "inner_sizes"] (defScope s_natural_size) := ⟨rfl, rfl, rfl, by decide +kernel, rfl, by decide +kernel, by decide +kernel⟩
theorem sc_natural_length : FnScope ["rule", "inner_sizes", "direction", "content", "size"] ["rule", "inner_sizes", "direction"] (defScope s_natural_length) := ⟨rfl, rfl, rfl, by decide +kernel, rfl, by decide +kernel, by decide +kernel⟩
theorem sc_content_length : FnScope ["rule", "naturals", "direction"] ["rule", "naturals", "direction"] (defScope s_content_length) := ⟨rfl, rfl, rfl, by decide +kernel, rfl, by decide +kernel, by decide +kernel⟩
theorem sc_all_gaps : FnScope ["rule", "many"] ["rule", "many"] (defScope s_all_gaps) := ⟨rfl, rfl, rfl, by decide +kernel, rfl, by decide +kernel, by decide +kernel⟩
theorem sc_inner_places : FnScope ["rule", "place", "inner_rules", "inner_sizes", "across", "down", "k"] ["rule", "place", "inner_rules", "inner_sizes"] (defScope s_inner_places) := ⟨rfl, rfl, rfl, by decide +kernel, rfl, by decide +kernel, by decide +kernel⟩
theorem sc_inner_spans : FnScope ["rule", "place", "inner_rules", "inner_sizes", "direction", "room", "naturals", "size", "things", "k"] ["rule", "place", "inner_rules", "inner_sizes", "direction"] (defScope s_inner_spans) := ⟨rfl, rfl, rfl, by decide +kernel, rfl, by decide +kernel, by decide +kernel⟩
theorem sc_room_in : FnScope ["rule", "place", "direction", "begin", "size"] ["rule", "place", "direction"] (defScope s_room_in) := ⟨rfl, rfl, rfl, by decide +kernel, rfl, by decide +kernel, by decide +kernel⟩
theorem sc_thing_along : FnScope ["rule", "natural", "direction"] ["rule", "natural", "direction"] (defScope s_thing_along) := ⟨rfl, rfl, rfl, by decide +kernel, rfl, by decide +kernel, by decide +kernel⟩
theorem sc_spans_along : FnScope ["rule", "room", "things", "many", "length", "lengths", "over", "spans", "begin", "k"] ["rule", "room", "things"] (defScope s_spans_along) := ⟨rfl, rfl, rfl, by decide +kernel, rfl, by decide +kernel, by decide +kernel⟩
theorem sc_rest_before : FnScope ["rest", "over", "k", "many"] ["rest", "over", "k", "many"] (defScope s_rest_before) := ⟨rfl, rfl, rfl, by decide +kernel, rfl, by decide +kernel, by decide +kernel⟩
theorem sc_span_by_side : FnScope ["rule", "room", "natural", "direction"] ["rule", "room", "natural", "direction"] (defScope s_span_by_side) := ⟨rfl, rfl, rfl, by decide +kernel, rfl, by decide +kernel, by decide +kernel⟩
theorem sc_Box_init : FnScope ["self", "rule", "lies_in", "depth"] ["self", "rule", "lies_in", "depth"] (defScope s_Box_init) := ⟨rfl, rfl, rfl, by decide +kernel, rfl, by decide +kernel, by decide +kernel⟩
theorem sc_Box_holds_dot : FnScope ["self", "x", "y", "right", "below"] ["self", "x", "y"] (defScope s_Box_holds_dot) := ⟨rfl, rfl, rfl, by decide +kernel, rfl, by decide +kernel, by decide +kernel⟩
theorem sc_Boxes_init : FnScope ["self"] ["self"] (defScope s_Boxes_init) := ⟨rfl, rfl, rfl, by decide +kernel, rfl, by decide +kernel, by decide +kernel⟩
theorem sc_Boxes_bx_start : FnScope ["self", "rule", "first"] ["self", "rule"] (defScope s_Boxes_bx_start) := ⟨rfl, rfl, rfl, by decide +kernel, rfl, by decide +kernel, by decide +kernel⟩
theorem sc_Boxes_bx_add : FnScope ["self", "into", "rule", "outer", "number"] ["self", "into", "rule"] (defScope s_Boxes_bx_add) := ⟨rfl, rfl, rfl, by decide +kernel, rfl, by decide +kernel, by decide +kernel⟩
theorem sc_Boxes_bx_set : FnScope ["self", "number", "rule", "box"] ["self", "number", "rule"] (defScope s_Boxes_bx_set) := ⟨rfl, rfl, rfl, by decide +kernel, rfl, by decide +kernel, by decide +kernel⟩
theorem sc_Boxes_bx_drop : FnScope ["self", "number", "box", "outer"] ["self", "number"] (defScope s_Boxes_bx_drop) := ⟨rfl, rfl, rfl, by decide +kernel, rfl, by decide +kernel, by decide +kernel⟩
theorem sc_Boxes_bx_lay : FnScope ["self", "width", "height", "places", "moved", "number", "box"] ["self", "width", "height"] (defScope s_Boxes_bx_lay) := ⟨rfl, rfl, rfl, by decide +kernel, rfl, by decide +kernel, by decide +kernel⟩
theorem sc_Boxes_bx_place : FnScope ["self", "number"] ["self", "number"] (defScope s_Boxes_bx_place) := ⟨rfl, rfl, rfl, by decide +kernel, rfl, by decide +kernel, by decide +kernel⟩
theorem sc_Boxes_bx_at : FnScope ["self", "x", "y", "found", "deeper"] ["self", "x", "y"] (defScope s_Boxes_bx_at) := ⟨rfl, rfl, rfl, by decide +kernel, rfl, by decide +kernel, by decide +kernel⟩
theorem sc_Boxes_place_out : FnScope ["self", "number"] ["self", "number"] (defScope s_Boxes_place_out) := ⟨rfl, rfl, rfl, by decide +kernel, rfl, by decide +kernel, by decide +kernel⟩
theorem sc_Boxes_has_space_in : FnScope ["self", "outer"] ["self", "outer"] (defScope s_Boxes_has_space_in) := ⟨rfl, rfl, rfl, by decide +kernel, rfl, by decide +kernel, by decide +kernel⟩
theorem sc_Boxes_least_free_number : FnScope ["self", "number"] ["self"] (defScope s_Boxes_least_free_number) := ⟨rfl, rfl, rfl, by decide +kernel, rfl, by decide +kernel, by decide +kernel⟩
theorem sc_Boxes_last_at : FnScope ["self", "numbers", "x", "y", "number"] ["self", "numbers", "x", "y"] (defScope s_Boxes_last_at) := ⟨rfl, rfl, rfl, by decide +kernel, rfl, by decide +kernel, by decide +kernel⟩
theorem sc_Boxes_places_in_window : FnScope ["self", "width", "height", "order", "sizes", "places", "number", "box", "rules", "k", "stand"] ["self", "width", "height"] (defScope s_Boxes_places_in_window) := ⟨rfl, rfl, rfl, by decide +kernel, rfl, by decide +kernel, by decide +kernel⟩
theorem sc_Boxes_natural_sizes : FnScope ["self", "order", "sizes", "number", "box", "k"] ["self", "order"] (defScope s_Boxes_natural_sizes) := ⟨rfl, rfl, rfl, by decide +kernel, rfl, by decide +kernel, by decide +kernel⟩
theorem sc_Boxes_outer_before_inner : FnScope ["self", "order", "walked"] ["self"] (defScope s_Boxes_outer_before_inner) := ⟨rfl, rfl, rfl, by decide +kernel, rfl, by decide +kernel, by decide +kernel⟩
theorem sc_Rule_init : FnScope ["self", "numbers"] ["self", "numbers"] (defScope s_Rule_init) := ⟨rfl, rfl, rfl, by decide +kernel, rfl, by decide +kernel, by decide +kernel⟩
theorem sc_Rule_is_as_told : FnScope ["self"] ["self"] (defScope s_Rule_is_as_told) := ⟨rfl, rfl, rfl, by decide +kernel, rfl, by decide +kernel, by decide +kernel⟩
theorem sc_Rule_sizes_are_as_told : FnScope ["self", "direction"] ["self"] (defScope s_Rule_sizes_are_as_told) := ⟨rfl, rfl, rfl, by decide +kernel, rfl, by decide +kernel, by decide +kernel⟩
theorem sc_Rule_choices_are_as_told : FnScope ["self"] ["self"] (defScope s_Rule_choices_are_as_told) := ⟨rfl, rfl, rfl, by decide +kernel, rfl, by decide +kernel, by decide +kernel⟩
theorem sc_Rule_is_leaf : FnScope ["self"] ["self"] (defScope s_Rule_is_leaf) := ⟨rfl, rfl, rfl, by decide +kernel, rfl, by decide +kernel, by decide +kernel⟩
theorem sc_Rule_is_along : FnScope ["self", "direction"] ["self", "direction"] (defScope s_Rule_is_along) := ⟨rfl, rfl, rfl, by decide +kernel, rfl, by decide +kernel, by decide +kernel⟩
theorem sc_answers : FnScope ["calls", "boxes", "told", "begin", "call", "end", "answer"] ["calls"] (defScope s_answers) := ⟨rfl, rfl, rfl, by decide +kernel, rfl, by decide +kernel, by decide +kernel⟩
theorem sc_answer_to : FnScope ["boxes", "call", "numbers", "number"] ["boxes", "call", "numbers"] (defScope s_answer_to) := ⟨rfl, rfl, rfl, by decide +kernel, rfl, by decide +kernel, by decide +kernel⟩
theorem sc_number_for : FnScope ["boxes", "call", "numbers"] ["boxes", "call", "numbers"] (defScope s_number_for) := ⟨rfl, rfl, rfl, by decide +kernel, rfl, by decide +kernel, by decide +kernel⟩
abbrev Own := Addr → Prop
def rfs (t1 t2 t3 : Addr) (r : Kp175.Rule) : List (Str × V) := [("least", .ref t1), ("wish", .ref t2), ("most", .ref t3), ("kind", .int (r.kind : Nat)), ("pad", .int (r.pad : Nat)), ("gap", .int (r.gap : Nat)), ("grow", .int (r.grow : Nat)), ("give", .int (r.give : Nat)),
  ("side", .int (r.side : Nat)), ("rest", .int (r.rest : Nat)), ("none", .int (r.none_ : Nat))]
def twoV (x : Kp175.Two) : List V := [.int (x.x : Nat), .int (x.y : Nat)]
def RuleAt (R : Addr) (own : Own) (H : Hp) (a : Addr) (r : Kp175.Rule) : Prop := ∃ dx t1 t2 t3 : Addr, own a ∧ own t1 ∧ own t2 ∧ own t3 ∧ H a = some (.ins R dx (rfs t1 t2 t3 r)) ∧ H t1 = some (.tup (twoV r.least)) ∧ H t2 = some (.tup (twoV r.wish)) ∧ H t3 = some (.tup (twoV r.most))
theorem RuleAt.mono {R : Addr} {own own' : Own} {H H' : Hp} {a : Addr} {r : Kp175.Rule} (h : RuleAt R own H a r) (ho : ∀ q, own q → own' q) (hk : ∀ q o, own q → H q = some o → H' q = some o) : RuleAt R own' H' a r := by
  obtain ⟨dx, t1, t2, t3, o1, o2, o3, o4, h1, h2, h3, h4⟩ := h
  exact ⟨dx, t1, t2, t3, ho _ o1, ho _ o2, ho _ o3, ho _ o4, hk _ _ o1 h1, hk _ _ o2 h2, hk _ _ o3 h3, hk _ _ o4 h4⟩
theorem RuleAt.same {R : Addr} {own : Own} {H H' : Hp} {a : Addr} {r : Kp175.Rule} (h : RuleAt R own H a r) (s : Same H H') : RuleAt R own H' a r := h.mono (fun _ q => q) fun q o _ e => s q o e
def sp_Rule_init (K : PySem.W.Frag) (t : Adr) : Sp := fun vs H Q _ => ∃ (p dx l : Addr) (v : List Int), vs = [.ref p, .ref l] ∧ H p = some (.ins t.C_Rule dx []) ∧ SqL K H l (v.map V.int) ∧ l ≠ p ∧ v.length = 14 ∧ (∀ x, x ∈ v → 0 ≤ x) ∧
  ∀ H' : Hp, RuleAt t.C_Rule (fun q => q = p ∨ H q = none) H' p (ruleL v) → (∀ b o, H b = some o → b ≠ p → H' b = some o) → Q .non H'
def sp_Rule_is_leaf (t : Adr) : Sp := fun vs H Q _ => ∃ (a : Addr) (r : Kp175.Rule) (own : Own), vs = [.ref a] ∧ RuleAt t.C_Rule own H a r ∧ Q (.bl (decide (r.kind = 2))) H
def choicesOk (r : Kp175.Rule) : Bool := decide (r.kind ≤ 2) && (decide (r.side ≤ 3) && decide (r.rest ≤ 3)) && decide (r.none_ = 0)
def sizesOk (r : Kp175.Rule) : Bool := decide (r.least.x ≤ r.wish.x) && decide (r.wish.x ≤ r.most.x) && (decide (r.least.y ≤ r.wish.y) && decide (r.wish.y ≤ r.most.y))
theorem good_eq (r : Kp175.Rule) : Kp175.goodRule r = (sizesOk r && choicesOk r) := by
  unfold Kp175.goodRule sizesOk choicesOk
  rw [Bool.eq_iff_iff]
  simp only [Bool.and_eq_true, decide_eq_true_eq, beq_iff_eq]
  omega
def sp_Rule_choices (t : Adr) : Sp := fun vs H Q _ => ∃ (a : Addr) (r : Kp175.Rule) (own : Own), vs = [.ref a] ∧ RuleAt t.C_Rule own H a r ∧ Q (.bl (choicesOk r)) H
def sp_Rule_sizes (t : Adr) : Sp := fun vs H Q _ => ∃ (a : Addr) (r : Kp175.Rule) (own : Own), vs = [.ref a] ∧ RuleAt t.C_Rule own H a r ∧ ∀ H', Same H H' → Q (.bl (sizesOk r)) H'
def sp_Rule_is_as_told (t : Adr) : Sp := fun vs H Q _ => ∃ (a : Addr) (r : Kp175.Rule) (own : Own), vs = [.ref a] ∧ RuleAt t.C_Rule own H a r ∧ ∀ H', Same H H' → Q (.bl (Kp175.goodRule r)) H'
section
variable {P : Program} {w : World} {K : PySem.W.Frag} {mg : Str → Option Value} {base : Heap} {t : Adr}
theorem dec_n (a b : Nat) : decide (V.int (a : Nat) = V.int (b : Nat)) = decide (a = b) := by
  rw [Bool.eq_iff_iff]
  simp only [decide_eq_true_eq]
  exact ⟨fun h => by injection h with h; omega, fun h => by rw [h]⟩
theorem ok_Rule_is_leaf (T : Txt K mg t) : FnOk P w K mg base CX0 1 t.f_Rule_is_leaf t.fd_Rule_is_leaf ["self"] (sp_Rule_is_leaf t) := by
  refine T.F_Rule_is_leaf.ok sc_Rule_is_leaf (fun vs H Q E h => ?_) (fun cdv A outer s H vs Q E hr h => ?_)
  · obtain ⟨a, r, own, rfl, _⟩ := h
    rfl
  · obtain ⟨a, r, own, rfl, ⟨dx, t1, t2, t3, o1, o2, o3, o4, h1, h2, h3, h4⟩, k⟩ := h
    refine ⟨_, (pss_one (ps_ret (pe_cmpR op_eq (pe_fld (pv 0) rfl) (pe_glob rfl T.g_LEAF T.r_LEAF) (nomark _)))), ?_⟩
    refine ⟨_, rfl, a, _, dx, _, _, rfl, h1, T.c_Rule, T.n_Rule_kind, rfl, rfl, ?_⟩
    have e := dec_n r.kind 2
    show Q (.bl (decide (V.int (r.kind : Nat) = V.int (2 : Nat)))) H
    rw [e]
    exact k
theorem ok_Rule_choices_are_as_told (T : Txt K mg t) : FnOk P w K mg base CX0 1 t.f_Rule_choices_are_as_told t.fd_Rule_choices_are_as_told ["self"] (sp_Rule_choices t) := by
  refine T.F_Rule_choices_are_as_told.ok sc_Rule_choices_are_as_told (fun vs H Q E h => ?_) (fun cdv A outer s H vs Q E hr h => ?_)
  · obtain ⟨a, r, own, rfl, _⟩ := h
    rfl
  · obtain ⟨a, r, own, rfl, ⟨dx, t1, t2, t3, o1, o2, o3, o4, h1, h2, h3, h4⟩, k⟩ := h
    refine ⟨_, (pss_cons (ps_if (pt_cmpR op_gt (pe_fld (pv 0) rfl) (pe_glob rfl T.g_LEAF T.r_LEAF) (nomark _))
      (pss_one (ps_ret pe_bl))
      pss_nil)
      (pss_cons (ps_if (PW.pt (pw_or (pt_cmpR op_gt (pe_fld (pv 0) rfl) (pe_glob rfl T.g_GREATEST_SIDE T.r_GREATEST_SIDE) (nomark _)) (pw_or1 (pt_cmpR op_gt (pe_fld (pv 0) rfl) (pe_glob rfl T.g_GREATEST_REST T.r_GREATEST_REST) (nomark _)))))
      (pss_one (ps_ret pe_bl))
      pss_nil)
      (pss_one (ps_ret (pe_cmpR op_eq (pe_fld (pv 0) rfl) pe_int (nomark _)))))), ?_⟩
    refine ⟨_, rfl, a, _, dx, _, _, rfl, h1, T.c_Rule, T.n_Rule_kind, rfl, _, _, rfl, rfl, _, rfl, ite2 (fun c1 => ?_) fun c1 => ?_⟩
    · have e : choicesOk r = false := by
        have c : ¬ r.kind ≤ 2 := by have := of_decide_eq_true c1; omega
        simp [choicesOk, c]
      rw [e] at k
      exact k
    have d1 : r.kind ≤ 2 := by
      have : ¬ ((2 : Int) < (r.kind : Nat)) := fun z => c1 (decide_eq_true z)
      omega
    refine ⟨_, rfl, a, _, dx, _, _, rfl, h1, T.c_Rule, T.n_Rule_side, rfl, _, _, rfl, rfl, _, rfl, ite2 (fun c2 => ?_) fun c2 => ?_⟩
    · refine iteT ?_
      have e : choicesOk r = false := by
        have c : ¬ r.side ≤ 3 := by have := of_decide_eq_true c2; omega
        simp [choicesOk, c]
      rw [e] at k
      exact k
    have d2 : r.side ≤ 3 := by
      have : ¬ ((3 : Int) < (r.side : Nat)) := fun z => c2 (decide_eq_true z)
      omega
    refine ⟨_, rfl, a, _, dx, _, _, rfl, h1, T.c_Rule, T.n_Rule_rest, rfl, _, _, rfl, rfl, _, rfl, ite2 (fun c3 => ?_) fun c3 => ?_⟩
    · have e : choicesOk r = false := by
        have c : ¬ r.rest ≤ 3 := by have := of_decide_eq_true c3; omega
        simp [choicesOk, c]
      rw [e] at k
      exact k
    have d3 : r.rest ≤ 3 := by
      have : ¬ ((3 : Int) < (r.rest : Nat)) := fun z => c3 (decide_eq_true z)
      omega
    refine ⟨_, rfl, a, _, dx, _, _, rfl, h1, T.c_Rule, T.n_Rule_none, rfl, rfl, ?_⟩
    have e := dec_n r.none_ 0
    show Q (.bl (decide (V.int (r.none_ : Nat) = V.int (0 : Nat)))) H
    rw [e]
    have e2 : choicesOk r = decide (r.none_ = 0) := by simp [choicesOk, d1, d2, d3]
    rw [e2] at k
    exact k
theorem twoV_at (x : Kp175.Two) (i : Nat) (hi : i < 2) : atI (twoV x) (i : Int) = some (.int (x.of i : Nat)) := by
  match i, hi with
  | 0, _ => exact atI_nat (j := 0) rfl
  | 1, _ => exact atI_nat (j := 1) rfl
def sizesTo (r : Kp175.Rule) (n : Nat) : Prop := ∀ i, i < n → r.least.of i ≤ r.wish.of i ∧ r.wish.of i ≤ r.most.of i
theorem sizes_false {r : Kp175.Rule} {i : Nat} (hi : i < 2) (h : ¬ (r.least.of i ≤ r.wish.of i ∧ r.wish.of i ≤ r.most.of i)) : sizesOk r = false := by
  unfold sizesOk
  rw [Bool.eq_false_iff]
  intro e
  simp only [Bool.and_eq_true, decide_eq_true_eq] at e
  match i, hi with
  | 0, _ => exact h ⟨e.1.1, e.1.2⟩
  | 1, _ => exact h ⟨e.2.1, e.2.2⟩
theorem sizes_true {r : Kp175.Rule} (h : sizesTo r 2) : sizesOk r = true := by
  have h0 := h 0 (by decide)
  have h1 := h 1 (by decide)
  unfold sizesOk
  simp only [Bool.and_eq_true, decide_eq_true_eq]
  exact ⟨⟨h0.1, h0.2⟩, h1.1, h1.2⟩
theorem ok_Rule_sizes_are_as_told (T : Txt K mg t) : FnOk P w K mg base CX0 1 t.f_Rule_sizes_are_as_told t.fd_Rule_sizes_are_as_told ["self"] (sp_Rule_sizes t) := by
  refine T.F_Rule_sizes_are_as_told.ok sc_Rule_sizes_are_as_told (fun vs H Q E h => ?_) (fun cdv A outer s H vs Q E hr h => ?_)
  · obtain ⟨a, r, own, rfl, _⟩ := h
    rfl
  · obtain ⟨a, r, own, rfl, ⟨dx, t1, t2, t3, o1, o2, o3, o4, h1, h2, h3, h4⟩, k⟩ := h
    refine ⟨_, (pss_cons (ps_for PassesOwn.never rfl (pi_tup (pe_tup (pa_cons pe_int (pa_cons pe_int pa_nil)))) (pg_name (i := 1) sc_Rule_sizes_are_as_told.nd rfl (Or.inl rfl))
      (pss_cons (ps_if (pt_cmpR op_gt (pe_ix ix_tup (pe_fld (pv 0) rfl) (pv 1) (fun _ _ => rfl)) (pe_ix ix_tup (pe_fld (pv 0) rfl) (pv 1) (fun _ _ => rfl)) (nomark _))
      (pss_one (ps_ret pe_bl))
      pss_nil)
      (pss_one (ps_if (pt_cmpR op_gt (pe_ix ix_tup (pe_fld (pv 0) rfl) (pv 1) (fun _ _ => rfl)) (pe_ix ix_tup (pe_fld (pv 0) rfl) (pv 1) (fun _ _ => rfl)) (nomark _))
      (pss_one (ps_ret pe_bl))
      pss_nil))))
      (pss_one (ps_ret pe_bl))), ?_⟩
    refine ⟨by show 2 ≤ sizeLine; decide, fun p hp => ?_⟩
    have sm : Same H (upd H p (.tup [.int 0, .int 1])) := fun b o e => by rw [upd_ne (ne_of_none e hp)]; exact e
    have g1 := sm _ _ h1
    have g2 := sm _ _ h2
    have g3 := sm _ _ h3
    have g4 := sm _ _ h4
    refine ⟨p, rfl, ⟨_, SqT.of upd_same⟩, for_tup (K := K) (a := p) (xs := [.int 0, .int 1]) (fun i σ H' => ∃ v : Option V, σ = [some (.ref a), v] ∧ H' = upd H p (.tup [.int 0, .int 1]) ∧ sizesTo r i)
      ⟨none, rfl, rfl, fun i hi => absurd hi (Nat.not_lt_zero _)⟩ (fun i σ H' _ ⟨_, _, e, _⟩ => by rw [e]; exact SqT.of upd_same) ?_ ?_⟩
    · rintro i y σ H' hi ⟨v, rfl, rfl, hs⟩
      have hi2 : i < 2 := (List.getElem?_eq_some_iff.mp hi).1
      obtain rfl : y = V.int (i : Nat) := by
        match i, hi2, hi with
        | 0, _, hi => exact (Option.some.inj hi).symm
        | 1, _, hi => exact (Option.some.inj hi).symm
      refine ⟨_, rfl, a, _, dx, _, _, rfl, g1, T.c_Rule, T.n_Rule_least, rfl, _, rfl, _, _, _, _, rfl, rfl, SqT.of g2, twoV_at r.least i hi2, _, rfl, a, _, dx, _, _, rfl, g1, T.c_Rule, T.n_Rule_wish, rfl, _, rfl, _, _, _, _, rfl, rfl, SqT.of g3, twoV_at r.wish i hi2,
        _, _, rfl, rfl, _, rfl, ite2 (fun c1 => ?_) fun c1 => ?_⟩
      · have e : sizesOk r = false := sizes_false hi2 fun z => by
          have := of_decide_eq_true c1
          omega
        have q := k _ sm
        rw [e] at q
        exact q
      refine ⟨_, rfl, a, _, dx, _, _, rfl, g1, T.c_Rule, T.n_Rule_wish, rfl, _, rfl, _, _, _, _, rfl, rfl, SqT.of g3, twoV_at r.wish i hi2, _, rfl, a, _, dx, _, _, rfl, g1, T.c_Rule, T.n_Rule_most, rfl, _, rfl, _, _, _, _, rfl, rfl, SqT.of g4, twoV_at r.most i hi2,
        _, _, rfl, rfl, _, rfl, ite2 (fun c2 => ?_) fun c2 => ?_⟩
      · have e : sizesOk r = false := sizes_false hi2 fun z => by
          have := of_decide_eq_true c2
          omega
        have q := k _ sm
        rw [e] at q
        exact q
      refine ⟨_, rfl, rfl, fun j hj => ?_⟩
      by_cases e : j = i
      · subst e
        have d1 : ¬ ((r.wish.of j : Nat) : Int) < (r.least.of j : Nat) := fun z => c1 (decide_eq_true z)
        have d2 : ¬ ((r.most.of j : Nat) : Int) < (r.wish.of j : Nat) := fun z => c2 (decide_eq_true z)
        omega
      · exact hs j (by omega)
    · rintro σ H' ⟨v, rfl, rfl, hs⟩
      have q := k _ sm
      rw [sizes_true hs] at q
      exact q
theorem ok_Rule_is_as_told (T : Txt K mg t) : FnOk P w K mg base CX0 2 t.f_Rule_is_as_told t.fd_Rule_is_as_told ["self"] (sp_Rule_is_as_told t) := by
  refine T.F_Rule_is_as_told.ok sc_Rule_is_as_told (fun vs H Q E h => ?_) (fun cdv A outer s H vs Q E hr h => ?_)
  · obtain ⟨a, r, own, rfl, _⟩ := h
    rfl
  · obtain ⟨a, r, own, rfl, R, k⟩ := h
    obtain ⟨dx, t1, t2, t3, o1, o2, o3, o4, h1, h2, h3, h4⟩ := id R
    refine ⟨_, (pss_one (ps_ret (pe_and (pe_meth0 (pv 0) T.c_Rule T.m_Rule_sizes_are_as_told (ok_Rule_sizes_are_as_told T) (hr.mono (by decide)) T.b_Rule_sizes_are_as_told .nil pass0) (pe_one (pe_meth0 (pv 0) T.c_Rule T.m_Rule_choices_are_as_told (ok_Rule_choices_are_as_told T) (hr.mono (by decide)) T.b_Rule_choices_are_as_told .nil pass0))))), ?_⟩
    refine ⟨_, rfl, a, dx, _, rfl, h1, rfl, a, r, own, rfl, R, fun H' sm => ⟨_, rfl, ite2 (fun c1 => ?_) fun c1 => ?_⟩⟩
    · refine ⟨_, rfl, a, dx, _, rfl, sm _ _ h1, rfl, a, r, own, rfl, R.same sm, ?_⟩
      have q := k _ sm
      rw [good_eq, c1, Bool.true_and] at q
      exact q
    · have q := k _ sm
      have c : sizesOk r = false := by
        cases e : sizesOk r with
        | false => rfl
        | true => exact absurd e c1
      rw [good_eq, c, Bool.false_and] at q
      exact q
end
end BXP
namespace BXP
open PySem L2 BX
def bfs (r : Addr) (li : V) (d : Nat) (l : Addr) (pl : V) : List (Str × V) := [("rule", .ref r), ("lies_in", li), ("depth", .int (d : Nat)), ("inner", .ref l), ("place", pl)]
def liesV (i : Nat) (b : Kp175.Box) : V := if i = 0 then .non else .int (b.in_ : Nat)
def kidsV (b : Kp175.Box) : List V := (b.kids.map fun (k : Nat) => (k : Int)).map V.int
def PlAt (own : Own) (H : Hp) (v : V) : Option Kp175.Place → Prop
  | none => v = .non
  | some p => ∃ q : Addr, v = .ref q ∧ own q ∧ H q = some (.tup [.int p.x, .int p.y, .int p.w, .int p.h])
def NB : HO → Prop
  | .tup _ => True
  | .ins _ _ fs => fs.length = 11
  | _ => False
theorem RuleAt.keep {R : Addr} {own own' : Own} {H H' : Hp} {a : Addr} {r : Kp175.Rule} (h : RuleAt R own H a r) (ho : ∀ q, own q → own' q) (hk : ∀ q o, own q → H q = some o → NB o → H' q = some o) : RuleAt R own' H' a r := by
  obtain ⟨dx, t1, t2, t3, o1, o2, o3, o4, h1, h2, h3, h4⟩ := h
  exact ⟨dx, t1, t2, t3, ho _ o1, ho _ o2, ho _ o3, ho _ o4, hk _ _ o1 h1 rfl, hk _ _ o2 h2 trivial, hk _ _ o3 h3 trivial, hk _ _ o4 h4 trivial⟩
theorem PlAt.keep {own own' : Own} {H H' : Hp} {v : V} {p : Option Kp175.Place} (h : PlAt own H v p) (ho : ∀ q, own q → own' q) (hk : ∀ q o, own q → H q = some o → NB o → H' q = some o) : PlAt own' H' v p := by
  cases p with
  | none => exact h
  | some p =>
    obtain ⟨q, e, o, z⟩ := h
    exact ⟨q, e, ho _ o, hk _ _ o z trivial⟩
def BoxAt (t : Adr) (own : Own) (H : Hp) (q l : Addr) (i d : Nat) (b : Kp175.Box) : Prop :=
  ∃ (dx r : Addr) (pl : V), own q ∧ own l ∧ H q = some (.ins t.C_Box dx (bfs r (liesV i b) d l pl)) ∧ RuleAt t.C_Rule own H r b.rule ∧ H l = some (.lst (kidsV b)) ∧ PlAt own H pl b.place
theorem BoxAt.keep {t : Adr} {own own' : Own} {H H' : Hp} {q l : Addr} {i d : Nat} {b : Kp175.Box} (h : BoxAt t own H q l i d b) (ho : ∀ q, own q → own' q) (hk : ∀ q o, own q → H q = some o → NB o → H' q = some o)
    (hq : ∀ o, H q = some o → H' q = some o) (hl : ∀ o, H l = some o → H' l = some o) : BoxAt t own' H' q l i d b := by
  obtain ⟨dx, r, pl, o1, o2, h1, h2, h3, h4⟩ := h
  exact ⟨dx, r, pl, ho _ o1, ho _ o2, hq _ h1, h2.keep ho hk, hl _ h3, h4.keep ho hk⟩
structure St (t : Adr) (own : Own) (H : Hp) (p d : Addr) (kvs : List (Key × V)) (a : Kp175.Abs) (dp : Nat → Nat) (ad la : Nat → Addr) : Prop where
  wf : Wf a dp
  op : own p
  od : own d
  ob : ∃ dx : Addr, H p = some (.ins t.C_Boxes dx [("by_number", .ref d)])
  dic : H d = some (.dK kvs)
  nd : (kvs.map (·.1)).Nodup
  ks : ∀ kv, kv ∈ kvs → ∃ (i : Nat) (b : Kp175.Box), Kp175.box a i = some b ∧ kv = (Sum.inl (i : Int), V.ref (ad i))
  has : ∀ (i : Nat) (b : Kp175.Box), Kp175.box a i = some b → valV kvs (Sum.inl (i : Int)) = some (V.ref (ad i))
  len : kvs.length = Kp175.many a
  bx : ∀ (i : Nat) (b : Kp175.Box), Kp175.box a i = some b → BoxAt t own H (ad i) (la i) i (dp i) b
  ia : ∀ (i j : Nat) (b c : Kp175.Box), Kp175.box a i = some b → Kp175.box a j = some c → ad i = ad j → i = j
  il : ∀ (i j : Nat) (b c : Kp175.Box), Kp175.box a i = some b → Kp175.box a j = some c → la i = la j → i = j
def StO (t : Adr) (own : Own) (H : Hp) (p : Addr) : Option Kp175.Abs → Prop
  | none => own p ∧ ∃ (dx d : Addr), H p = some (.ins t.C_Boxes dx [("by_number", .ref d)])
  | some a => ∃ (d : Addr) (kvs : List (Key × V)) (dp : Nat → Nat) (ad la : Nat → Addr), St t own H p d kvs a dp ad la
theorem valV_mem {kvs : List (Key × V)} {k : Key} {v : V} (h : valV kvs k = some v) : (k, v) ∈ kvs := by
  unfold valV at h
  cases e : kvs.find? fun kv => decide (kv.1 = k) with
  | none => rw [e] at h; cases h
  | some kv =>
    rw [e] at h
    have h1 := List.mem_of_find?_eq_some e
    have h2 : kv.1 = k := by
      have z := List.find?_some e
      exact of_decide_eq_true z
    have h3 : kv.2 = v := Option.some.inj h
    rw [← h2, ← h3]
    exact h1
theorem St.look {t : Adr} {own : Own} {H : Hp} {p d : Addr} {kvs : List (Key × V)} {a : Kp175.Abs} {dp : Nat → Nat} {ad la : Nat → Addr} (S : St t own H p d kvs a dp ad la) (n : Nat) :
    valV kvs (Sum.inl (n : Int)) = (Kp175.box a n).map fun _ => V.ref (ad n) := by
  cases e : Kp175.box a n with
  | some b => exact S.has n b e
  | none =>
    cases q : valV kvs (Sum.inl (n : Int)) with
    | none => rfl
    | some v =>
      obtain ⟨i, b, hb, ek⟩ := S.ks _ (valV_mem q)
      have e1 : (Sum.inl (n : Int) : Key) = Sum.inl (i : Int) := congrArg Prod.fst ek
      have e2 : n = i := by
        have := Sum.inl.inj e1
        omega
      rw [e2, hb] at e
      cases e
theorem St.keep {t : Adr} {own own' : Own} {H H' : Hp} {p d : Addr} {kvs : List (Key × V)} {a : Kp175.Abs} {dp : Nat → Nat} {ad la : Nat → Addr} (S : St t own H p d kvs a dp ad la) (ho : ∀ q, own q → own' q)
    (hk : ∀ q o, own q → H q = some o → H' q = some o) : St t own' H' p d kvs a dp ad la := by
  obtain ⟨dx, h⟩ := S.ob
  refine ⟨S.wf, ho _ S.op, ho _ S.od, ⟨dx, hk _ _ S.op h⟩, hk _ _ S.od S.dic, S.nd, S.ks, S.has, S.len, fun i b e => ?_, S.ia, S.il⟩
  have B := S.bx i b e
  obtain ⟨_, _, _, o1, o2, _⟩ := id B
  exact B.keep ho (fun q o z1 z2 _ => hk q o z1 z2) (fun o z => hk _ o o1 z) fun o z => hk _ o o2 z
theorem StO.keep {t : Adr} {own own' : Own} {H H' : Hp} {p : Addr} {s : Option Kp175.Abs} (S : StO t own H p s) (ho : ∀ q, own q → own' q) (hk : ∀ q o, own q → H q = some o → H' q = some o) : StO t own' H' p s := by
  cases s with
  | none =>
    obtain ⟨o, dx, d, h⟩ := S
    exact ⟨ho _ o, dx, d, hk _ _ o h⟩
  | some a =>
    obtain ⟨d, kvs, dp, ad, la, h⟩ := S
    exact ⟨d, kvs, dp, ad, la, h.keep ho hk⟩
def After (t : Adr) (own : Own) (H : Hp) (p : Addr) (s : Option Kp175.Abs) (v : Int) (Q : VK) : Prop :=
  ∀ H' : Hp, StO t (fun q => own q ∨ H q = none) H' p s → (∀ q o, H q = some o → ¬ own q → H' q = some o) → Q (.int v) H'
def numOf : Kp175.Ans → Int
  | .num v => v
  | .place _ => 0
def sp_Box_init (t : Adr) : Sp := fun vs H Q _ => ∃ (p dx r : Addr) (li : V) (d : Nat), vs = [.ref p, .ref r, li, .int (d : Nat)] ∧ H p = some (.ins t.C_Box dx []) ∧
  ∀ (l : Addr) (H' : Hp), H l = none → H' p = some (.ins t.C_Box dx (bfs r li d l .non)) → H' l = some (.lst []) → (∀ b o, H b = some o → b ≠ p → H' b = some o) → Q .non H'
def sp_Boxes_init (t : Adr) : Sp := fun vs H Q _ => ∃ (p dx : Addr), vs = [.ref p] ∧ H p = some (.ins t.C_Boxes dx []) ∧
  ∀ (d : Addr) (H' : Hp), H' p = some (.ins t.C_Boxes dx [("by_number", .ref d)]) → (∀ b o, H b = some o → b ≠ p → H' b = some o) → Q .non H'
def sp_bx_start (t : Adr) : Sp := fun vs H Q _ => ∃ (p r : Addr) (rl : Kp175.Rule) (own : Own) (s : Option Kp175.Abs), vs = [.ref p, .ref r] ∧ StO t own H p s ∧ RuleAt t.C_Rule own H r rl ∧ Kp175.isRule rl ∧
  After t own H p (if Kp175.goodRule rl = true then some (Kp175.begun rl) else s) (if Kp175.goodRule rl = true then 0 else -22) Q
def sp_has_space (t : Adr) : Sp := fun vs H Q _ => ∃ (p d : Addr) (kvs : List (Key × V)) (a : Kp175.Abs) (dp : Nat → Nat) (ad la : Nat → Addr) (own : Own) (i : Nat) (b : Kp175.Box), vs = [.ref p, .ref (ad i)] ∧ St t own H p d kvs a dp ad la ∧ Kp175.box a i = some b ∧
  Q (.bl (decide (b.kids.length < 64) && decide (dp i < 16) && decide (Kp175.many a < 256))) H
def sp_least_free (t : Adr) : Sp := fun vs H Q _ => ∃ (p d : Addr) (kvs : List (Key × V)) (a : Kp175.Abs) (dp : Nat → Nat) (ad la : Nat → Addr) (own : Own) (k : Nat), vs = [.ref p] ∧ St t own H p d kvs a dp ad la ∧ free a = some k ∧ Q (.int (k : Nat)) H
def sp_bx_add (t : Adr) : Sp := fun vs H Q _ => ∃ (p r : Addr) (n : Nat) (rl : Kp175.Rule) (own : Own) (a : Kp175.Abs), vs = [.ref p, .int (n : Nat), .ref r] ∧ StO t own H p (some a) ∧ RuleAt t.C_Rule own H r rl ∧ Kp175.isRule rl ∧
  After t own H p (some (Kp175.act a (.add n rl)).1) (numOf (Kp175.act a (.add n rl)).2) Q
def sp_bx_set (t : Adr) : Sp := fun vs H Q _ => ∃ (p r : Addr) (n : Nat) (rl : Kp175.Rule) (own : Own) (a : Kp175.Abs), vs = [.ref p, .int (n : Nat), .ref r] ∧ StO t own H p (some a) ∧ RuleAt t.C_Rule own H r rl ∧ Kp175.isRule rl ∧
  After t own H p (some (Kp175.act a (.set n rl)).1) (numOf (Kp175.act a (.set n rl)).2) Q
def sp_bx_drop (t : Adr) : Sp := fun vs H Q _ => ∃ (p : Addr) (n : Nat) (own : Own) (a : Kp175.Abs), vs = [.ref p, .int (n : Nat)] ∧ StO t own H p (some a) ∧
  After t own H p (some (Kp175.act a (.drop n)).1) (numOf (Kp175.act a (.drop n)).2) Q
section
variable {P : Program} {w : World} {K : PySem.W.Frag} {mg : Str → Option Value} {base : Heap} {t : Adr}
theorem ok_Box_init (T : Txt K mg t) : FnOk P w K mg base CX0 1 t.f_Box_init t.fd_Box_init ["self", "rule", "lies_in", "depth"] (sp_Box_init t) := by
  refine T.F_Box_init.ok sc_Box_init (fun vs H Q E h => ?_) (fun cdv A outer s H vs Q E hr h => ?_)
  · obtain ⟨p, dx, r, li, d, rfl, _⟩ := h
    rfl
  · obtain ⟨p, dx, r, li, d, rfl, h1, k⟩ := h
    refine ⟨_, (pss_cons (ps_fld (pv 0) (pv 1) rfl)
      (pss_cons (ps_fld (pv 0) (pv 2) rfl)
      (pss_cons (ps_fld (pv 0) (pv 3) rfl)
      (pss_cons (ps_fld (pv 0) (pe_lst pa_nil) rfl)
      (pss_one (ps_fld (pv 0) pe_non rfl)))))), ?_⟩
    refine ⟨_, rfl, _, rfl, p, _, dx, _, rfl, h1, T.c_Box, T.n_Box_rule, (by show 0 < 1000; decide), ?_⟩
    refine ⟨_, rfl, _, rfl, p, _, dx, _, rfl, upd_same, T.c_Box, T.n_Box_lies_in, (by show 1 < 1000; decide), ?_⟩
    refine ⟨_, rfl, _, rfl, p, _, dx, _, rfl, upd_same, T.c_Box, T.n_Box_depth, (by show 2 < 1000; decide), ?_⟩
    refine ⟨Nat.zero_le _, fun l hl => ?_⟩
    have npl : p ≠ l := ne_of_none upd_same hl
    have hl0 : H l = none := by
      rw [upd_ne npl.symm, upd_ne npl.symm, upd_ne npl.symm] at hl
      exact hl
    refine ⟨_, rfl, p, _, dx, _, rfl, (by rw [upd_ne npl]; exact upd_same), T.c_Box, T.n_Box_inner, (by show 3 < 1000; decide), ?_⟩
    refine ⟨_, rfl, p, _, dx, _, rfl, upd_same, T.c_Box, T.n_Box_place, (by show 4 < 1000; decide), ?_⟩
    refine k l _ hl0 upd_same ?_ fun b o e hb => ?_
    · rw [upd_ne npl.symm, upd_ne npl.symm]
      exact upd_same
    · have hbl : b ≠ l := ne_of_none e hl0
      rw [upd_ne hb, upd_ne hb, upd_ne hbl, upd_ne hb, upd_ne hb, upd_ne hb]
      exact e
theorem ok_Boxes_init (T : Txt K mg t) : FnOk P w K mg base CX0 1 t.f_Boxes_init t.fd_Boxes_init ["self"] (sp_Boxes_init t) := by
  refine T.F_Boxes_init.ok sc_Boxes_init (fun vs H Q E h => ?_) (fun cdv A outer s H vs Q E hr h => ?_)
  · obtain ⟨p, dx, rfl, _⟩ := h
    rfl
  · obtain ⟨p, dx, rfl, h1, k⟩ := h
    refine ⟨_, (pss_one (ps_fld (pv 0) pe_dnewK rfl)), ?_⟩
    intro d hd
    have npd : p ≠ d := ne_of_none h1 hd
    refine ⟨_, rfl, p, _, dx, _, rfl, (by rw [upd_ne npd]; exact h1), T.c_Boxes, T.n_Boxes_by_number, (by show 0 < 1000; decide), ?_⟩
    exact k d _ upd_same fun b o e hb => by rw [upd_ne hb, upd_ne (ne_of_none e hd)]; exact e
theorem ok_Boxes_has_space_in (T : Txt K mg t) : FnOk P w K mg base CX0 1 t.f_Boxes_has_space_in t.fd_Boxes_has_space_in ["self", "outer"] (sp_has_space t) := by
  refine T.F_Boxes_has_space_in.ok sc_Boxes_has_space_in (fun vs H Q E h => ?_) (fun cdv A outer s H vs Q E hr h => ?_)
  · obtain ⟨p, d, kvs, a, dp, ad, la, own, i, b, rfl, _⟩ := h
    rfl
  · obtain ⟨p, d, kvs, a, dp, ad, la, own, i, b, rfl, S, hb, k⟩ := h
    obtain ⟨dx, hp⟩ := S.ob
    obtain ⟨bx, r, pl, o1, o2, h1, h2, h3, h4⟩ := S.bx i b hb
    have hl : (kidsV b).length = b.kids.length := by simp [kidsV]
    refine ⟨_, (pss_cons (ps_if (PW.pt (pw_or (pt_cmpR op_ge (pe_callB call_len_seq rfl T.n_len PySem.boot_len (pa_cons (pe_fld (pv 1) rfl) pa_nil)) (pe_glob rfl T.g_MOST_IN_ONE T.r_MOST_IN_ONE) (nomark _)) (pw_or1 (pt_cmpR op_ge (pe_fld (pv 1) rfl) (pe_glob rfl T.g_MOST_DEEP T.r_MOST_DEEP) (nomark _)))))
      (pss_one (ps_ret pe_bl))
      pss_nil)
      (pss_one (ps_ret (pe_cmpR op_lt (pe_callB call_lenD rfl T.n_len PySem.boot_len (pa_cons (pe_fld (pv 0) rfl) pa_nil)) (pe_glob rfl T.g_MOST_BOXES T.r_MOST_BOXES) (nomark _))))), ?_⟩
    refine ⟨_, rfl, ad i, _, bx, _, _, rfl, h1, T.c_Box, T.n_Box_inner, rfl, la i, _, rfl, .inl (SqL.of h3), _, _, rfl, rfl, _, rfl, ite2 (fun c1 => ?_) fun c1 => ?_⟩
    · refine iteT ?_
      have c : ¬ b.kids.length < 64 := by
        have := of_decide_eq_true c1
        omega
      rw [decide_eq_false c, Bool.false_and, Bool.false_and] at k
      exact k
    have d1 : b.kids.length < 64 := by
      have : ¬ ((64 : Int) ≤ ((kidsV b).length : Nat)) := fun z => c1 (decide_eq_true z)
      omega
    refine ⟨_, rfl, ad i, _, bx, _, _, rfl, h1, T.c_Box, T.n_Box_depth, rfl, _, _, rfl, rfl, _, rfl, ite2 (fun c2 => ?_) fun c2 => ?_⟩
    · have c : ¬ dp i < 16 := by
        have := of_decide_eq_true c2
        omega
      rw [decide_eq_false c, Bool.and_false, Bool.false_and] at k
      exact k
    have d2 : dp i < 16 := by
      have : ¬ ((16 : Int) ≤ (dp i : Nat)) := fun z => c2 (decide_eq_true z)
      omega
    refine ⟨_, rfl, p, _, dx, _, _, rfl, hp, T.c_Boxes, T.n_Boxes_by_number, rfl, d, kvs, rfl, S.dic, _, _, rfl, rfl, ?_⟩
    rw [decide_eq_true d1, decide_eq_true d2, Bool.true_and, Bool.true_and] at k
    have e : decide ((kvs.length : Int) < 256) = decide (Kp175.many a < 256) := by
      rw [S.len, Bool.eq_iff_iff]
      simp only [decide_eq_true_eq]
      omega
    show Q (.bl (decide ((kvs.length : Int) < 256))) H
    rw [e]
    exact k
theorem ok_Boxes_least_free_number (T : Txt K mg t) : FnOk P w K mg base CX0 1 t.f_Boxes_least_free_number t.fd_Boxes_least_free_number ["self"] (sp_least_free t) := by
  refine T.F_Boxes_least_free_number.ok sc_Boxes_least_free_number (fun vs H Q E h => ?_) (fun cdv A outer s H vs Q E hr h => ?_)
  · obtain ⟨p, d, kvs, a, dp, ad, la, own, k0, rfl, _⟩ := h
    rfl
  · obtain ⟨p, d, kvs, a, dp, ad, la, own, k0, rfl, S, hf, k⟩ := h
    obtain ⟨dx, hp⟩ := S.ob
    obtain ⟨f1, f2, f3⟩ := free_some hf
    have hu := hu_of hr
    refine ⟨_, (pss_cons (ps_set (i := 1) sc_Boxes_least_free_number.nd rfl (Or.inl rfl) pe_int)
      (pss_cons (ps_while PassesOwn.never (pt_cmp (pc_din hu (pv 1) (pe_fld (pv 0) rfl)))
      (pss_one (ps_set (i := 1) sc_Boxes_least_free_number.nd rfl (Or.inl rfl) (pe_op op_add (pv 1) pe_int))))
      (pss_one (ps_ret (pv 1))))), ?_⟩
    refine ⟨fun m σ H' => ∃ n : Nat, σ = [some (.ref p), some (.int (n : Nat))] ∧ H' = H ∧ n ≤ k0 ∧ m = k0 - n, ⟨k0, 0, rfl, rfl, Nat.zero_le _, rfl⟩, ?_⟩
    rintro m σ H' ⟨n, rfl, eH, hn, rfl⟩
    rw [eH]
    clear eH H'
    refine ⟨_, rfl, _, rfl, p, _, dx, _, _, rfl, hp, T.c_Boxes, T.n_Boxes_by_number, rfl, d, _, rfl, DGet.k (k := Sum.inl (n : Int)) S.dic, _, rfl, ?_⟩
    rw [S.look n]
    by_cases e : n = k0
    · subst e
      rw [f2]
      refine iteF ?_
      exact ⟨_, rfl, k⟩
    · obtain ⟨b, hb⟩ := f3 n (by omega)
      rw [hb]
      refine iteT ⟨fun σ' H' => σ' = [some (.ref p), some (.int ((n + 1 : Nat) : Int))] ∧ H' = H, ?_, ?_⟩
      · rintro σ' H' ⟨rfl, rfl⟩
        exact ⟨k0 - (n + 1), by omega, n + 1, rfl, rfl, by omega, rfl⟩
      · exact ⟨_, rfl, _, _, rfl, rfl, rfl, rfl⟩
end
end BXP
namespace BXP
open PySem L2 BX
theorem valV_drop (k j : Key) : ∀ kvs : List (Key × V), valV (dropK kvs k) j = if j = k then none else valV kvs j
  | [] => by simp [dropK, valV]
  | p :: r => by
    have ih := valV_drop k j r
    by_cases h : p.1 = k
    · rw [dropK_pos h, ih]
      by_cases e : j = k
      · rw [if_pos e, if_pos e]
      · rw [if_neg e, if_neg e, valV_neg (fun z => e (z.symm.trans h))]
    · rw [dropK_neg h]
      by_cases e : p.1 = j
      · rw [valV_pos e, if_neg (fun z => h (e.trans z)), valV_pos e]
      · rw [valV_neg e, valV_neg e, ih]
variable {t : Adr} {own : Own} {H H' : Hp} {p d : Addr} {kvs : List (Key × V)} {a : Kp175.Abs} {dp : Nat → Nat} {ad la : Nat → Addr}
theorem kidsV_add (b : Kp175.Box) (k : Nat) : kidsV { b with kids := b.kids ++ [k] } = kidsV b ++ [.int (k : Nat)] := by simp [kidsV]
theorem St.p_ne_d (S : St t own H p d kvs a dp ad la) : p ≠ d := by
  obtain ⟨dx, h⟩ := S.ob
  exact ne_of h S.dic (by intro z; cases z)
theorem St.ad_ne_d (S : St t own H p d kvs a dp ad la) {i : Nat} {b : Kp175.Box} (e : Kp175.box a i = some b) : ad i ≠ d ∧ la i ≠ d := by
  obtain ⟨dx, r, pl, o1, o2, h1, h2, h3, h4⟩ := S.bx i b e
  exact ⟨ne_of h1 S.dic (by intro z; cases z), ne_of h3 S.dic (by intro z; cases z)⟩
theorem St.ad_ne_la (S : St t own H p d kvs a dp ad la) {i j : Nat} {b c : Kp175.Box} (e : Kp175.box a i = some b) (e' : Kp175.box a j = some c) : ad i ≠ la j := by
  obtain ⟨dx, r, pl, o1, o2, h1, h2, h3, h4⟩ := S.bx i b e
  obtain ⟨dx', r', pl', o1', o2', h1', h2', h3', h4'⟩ := S.bx j c e'
  exact ne_of h1 h3' (by intro z; cases z)
theorem St.p_ne (S : St t own H p d kvs a dp ad la) {i : Nat} {b : Kp175.Box} (e : Kp175.box a i = some b) : p ≠ ad i ∧ p ≠ la i := by
  obtain ⟨dx, r, pl, o1, o2, h1, h2, h3, h4⟩ := S.bx i b e
  obtain ⟨dx', h⟩ := S.ob
  refine ⟨ne_of h h1 fun z => ?_, ne_of h h3 (by intro z; cases z)⟩
  injection z with _ _ z
  exact absurd (congrArg List.length z) (by simp [bfs])
theorem nb_ne {q z : Addr} {o : HO} (h : H q = some o) (nb : NB o) (hz : H z = some (.dK kvs) ∨ (∃ xs, H z = some (.lst xs)) ∨ ∃ C dx fs, fs.length ≠ 11 ∧ H z = some (.ins C dx fs)) : q ≠ z := by
  rintro rfl
  rcases hz with hz | ⟨xs, hz⟩ | ⟨C, dx, fs, n, hz⟩
  · rw [h] at hz
    cases hz
    exact nb
  · rw [h] at hz
    cases hz
    exact nb
  · rw [h] at hz
    cases hz
    exact n nb
theorem St.added (S : St t own H p d kvs a dp ad la) {n k : Nat} {b : Kp175.Box} {r x l dx : Addr} {rl : Kp175.Rule} (hb : Kp175.box a n = some b) (hf : free a = some k) (hg : Kp175.goodRule rl = true) (hR : Kp175.isRule rl) (hk : ¬ b.rule.kind = 2)
    (hs : b.kids.length < 64 ∧ dp n < 16) (R : RuleAt t.C_Rule own H r rl) (hx : H x = none) (hl : H l = none)
    (Hx : H' x = some (.ins t.C_Box dx (bfs r (.int (n : Nat)) (dp n + 1) l .non))) (Hl : H' l = some (.lst [])) (Hd : H' d = some (.dK (putK kvs (Sum.inl (k : Int)) (.ref x)))) (Hi : H' (la n) = some (.lst (kidsV b ++ [.int (k : Nat)])))
    (keep : ∀ z o, H z = some o → z ≠ d → z ≠ la n → H' z = some o) :
    St t (fun q => own q ∨ H q = none) H' p d (putK kvs (Sum.inl (k : Int)) (.ref x)) (BX.added a n k rl) (fun j => if j = k then dp n + 1 else dp j) (fun j => if j = k then x else ad j) (fun j => if j = k then l else la j) := by
  obtain ⟨f1, f2, f3⟩ := free_some hf
  have hkl : k < a.length := by rw [S.wf.len]; exact f1
  have eb := box_added (i := n) (r := rl) hkl
  have hnk : n ≠ k := fun z => by rw [z, f2] at hb; cases hb
  have vn : valV kvs (Sum.inl (k : Int)) = none := by rw [S.look k, f2]; rfl
  have look : ∀ j c, Kp175.box (BX.added a n k rl) j = some c → (j = k ∧ c = ⟨rl, n, [], none⟩) ∨ (j ≠ k ∧ j = n ∧ c = { b with kids := b.kids ++ [k] }) ∨ (j ≠ k ∧ j ≠ n ∧ Kp175.box a j = some c) := by
    intro j c q
    rw [eb] at q
    by_cases hj : j = k
    · rw [if_pos hj] at q
      cases q
      exact .inl ⟨hj, rfl⟩
    · rw [if_neg hj] at q
      by_cases hji : j = n
      · rw [if_pos hji, hji, hb] at q
        cases q
        exact .inr (.inl ⟨hj, hji, rfl⟩)
      · rw [if_neg hji] at q
        exact .inr (.inr ⟨hj, hji, q⟩)
  -- an old box stands at its old place
  have old : ∀ j c, Kp175.box (BX.added a n k rl) j = some c → j ≠ k → ∃ c0, Kp175.box a j = some c0 := fun j c q hj => by
    rcases look j c q with ⟨z, _⟩ | ⟨_, z, _⟩ | ⟨_, _, z⟩
    · exact absurd z hj
    · rw [z]
      exact ⟨b, hb⟩
    · exact ⟨c, z⟩
  have there : ∀ j c0, Kp175.box a j = some c0 → H (ad j) ≠ none ∧ H (la j) ≠ none := fun j c0 q => by
    obtain ⟨_, _, _, _, _, h1, _, h3, _⟩ := S.bx j c0 q
    rw [h1, h3]
    exact ⟨by simp, by simp⟩
  obtain ⟨bdx, br, bpl, b1, b2, g1, g2, g3, g4⟩ := S.bx n b hb
  have nb : ∀ q o, own q → H q = some o → NB o → H' q = some o := fun q o _ e z => keep q o e (nb_ne e z (.inl S.dic)) (nb_ne (kvs := kvs) e z (.inr (.inl ⟨_, g3⟩)))
  have ho : ∀ q, own q → own q ∨ H q = none := fun q z => .inl z
  obtain ⟨dxp, hp⟩ := S.ob
  refine { wf := wf_added S.wf hb f1 f2 hg hR hk hs.1 hs.2, op := .inl S.op, od := .inl S.od, ob := ⟨dxp, keep _ _ hp S.p_ne_d (S.p_ne hb).2⟩, dic := Hd, nd := nd_putK _ S.nd vn, ks := ?_, has := ?_, len := ?_, bx := ?_, ia := ?_, il := ?_ }
  · intro kv hkv
    rw [putK_new _ vn] at hkv
    rcases List.mem_append.mp hkv with q | q
    · obtain ⟨i, c, hc, e⟩ := S.ks kv q
      have hik : i ≠ k := fun z => by rw [z, f2] at hc; cases hc
      have hc' : ∃ c', Kp175.box (BX.added a n k rl) i = some c' := by
        rw [eb, if_neg hik]
        by_cases z : i = n
        · rw [if_pos z, hc]
          exact ⟨_, rfl⟩
        · rw [if_neg z, hc]
          exact ⟨_, rfl⟩
      obtain ⟨c', hc'⟩ := hc'
      refine ⟨i, c', hc', ?_⟩
      rw [if_neg hik]
      exact e
    · refine ⟨k, _, by rw [eb, if_pos rfl], ?_⟩
      rw [if_pos rfl]
      exact List.mem_singleton.mp q
  · intro i c q
    rw [valV_put]
    by_cases hik : i = k
    · subst hik
      rw [if_pos rfl, if_pos rfl]
    · rw [if_neg (fun z => hik (by have := Sum.inl.inj z; omega)), if_neg hik]
      obtain ⟨c0, q0⟩ := old i c q hik
      exact S.has i c0 q0
  · rw [putK_new _ vn, List.length_append, S.len, many_added hkl f2]
    rfl
  · intro i c q
    rcases look i c q with ⟨rfl, rfl⟩ | ⟨hik, rfl, rfl⟩ | ⟨hik, hin, q'⟩
    · simp only [if_pos]
      refine ⟨dx, r, .non, .inr hx, .inr hl, ?_, R.keep ho nb, Hl, rfl⟩
      have e0 : ¬ i = 0 := fun z => by
        obtain ⟨b0, hb0, _⟩ := S.wf.root
        rw [z, hb0] at f2
        cases f2
      have : liesV i ⟨rl, n, [], none⟩ = .int (n : Nat) := by
        unfold liesV
        rw [if_neg e0]
      rw [this]
      exact Hx
    · simp only [if_neg hik]
      refine ⟨bdx, br, bpl, .inl b1, .inl b2, ?_, g2.keep ho nb, ?_, g4.keep ho nb⟩
      · exact keep _ _ g1 (S.ad_ne_d hb).1 (S.ad_ne_la hb hb)
      · rw [kidsV_add]
        exact Hi
    · simp only [if_neg hik]
      refine (S.bx i c q').keep ho nb (fun o e => keep _ _ e (S.ad_ne_d q').1 (S.ad_ne_la q' hb)) fun o e => keep _ _ e (S.ad_ne_d q').2 fun z => hin (S.il i n c b q' hb z)
  · intro i j c c' q q' e
    by_cases hi : i = k
    · by_cases hj : j = k
      · rw [hi, hj]
      · simp only [if_pos hi, if_neg hj] at e
        obtain ⟨c0, q0⟩ := old j c' q' hj
        exact absurd (by rw [← e]; exact hx) (there j c0 q0).1
    · obtain ⟨c0, q0⟩ := old i c q hi
      by_cases hj : j = k
      · simp only [if_neg hi, if_pos hj] at e
        exact absurd (by rw [e]; exact hx) (there i c0 q0).1
      · simp only [if_neg hi, if_neg hj] at e
        obtain ⟨c1, q1⟩ := old j c' q' hj
        exact S.ia i j c0 c1 q0 q1 e
  · intro i j c c' q q' e
    by_cases hi : i = k
    · by_cases hj : j = k
      · rw [hi, hj]
      · simp only [if_pos hi, if_neg hj] at e
        obtain ⟨c0, q0⟩ := old j c' q' hj
        exact absurd (by rw [← e]; exact hl) (there j c0 q0).2
    · obtain ⟨c0, q0⟩ := old i c q hi
      by_cases hj : j = k
      · simp only [if_neg hi, if_pos hj] at e
        exact absurd (by rw [e]; exact hl) (there i c0 q0).2
      · simp only [if_neg hi, if_neg hj] at e
        obtain ⟨c1, q1⟩ := old j c' q' hj
        exact S.il i j c0 c1 q0 q1 e
theorem St.setRule (S : St t own H p d kvs a dp ad la) {n : Nat} {b : Kp175.Box} {r dx : Addr} {pl : V} {rl : Kp175.Rule} (hb : Kp175.box a n = some b) (hg : Kp175.goodRule rl = true) (hR : Kp175.isRule rl) (hk : ¬ (rl.kind = 2 ∧ b.kids ≠ []))
    (R : RuleAt t.C_Rule own H r rl) (hpl : PlAt own H pl b.place) (Hq : H' (ad n) = some (.ins t.C_Box dx (bfs r (liesV n b) (dp n) (la n) pl))) (keep : ∀ z o, H z = some o → z ≠ ad n → H' z = some o) :
    St t (fun q => own q ∨ H q = none) H' p d kvs (Kp175.change a n fun q => { q with rule := rl }) dp ad la := by
  have e := box_change (a := a) (i := n) (f := fun q => { q with rule := rl })
  obtain ⟨bdx, br, bpl, b1, b2, g1, g2, g3, g4⟩ := S.bx n b hb
  have look : ∀ j c, Kp175.box (Kp175.change a n fun q => { q with rule := rl }) j = some c → ∃ c0, Kp175.box a j = some c0 ∧ ((j = n ∧ c = { b with rule := rl } ∧ c0 = b) ∨ (j ≠ n ∧ c = c0)) := by
    intro j c q
    rw [e] at q
    by_cases hj : j = n
    · rw [if_pos hj, hj, hb] at q
      cases q
      exact ⟨b, by rw [hj]; exact hb, .inl ⟨hj, rfl, rfl⟩⟩
    · rw [if_neg hj] at q
      exact ⟨c, q, .inr ⟨hj, rfl⟩⟩
  have nb : ∀ q o, own q → H q = some o → NB o → H' q = some o := fun q o _ e z => keep q o e (nb_ne (kvs := kvs) e z (.inr (.inr ⟨_, _, _, by simp [bfs], g1⟩)))
  have ho : ∀ q, own q → own q ∨ H q = none := fun q z => .inl z
  obtain ⟨dxp, hp⟩ := S.ob
  refine { wf := wf_setRule S.wf hb hg hR hk, op := .inl S.op, od := .inl S.od, ob := ⟨dxp, keep _ _ hp (S.p_ne hb).1⟩, dic := keep _ _ S.dic (S.ad_ne_d hb).1.symm, nd := S.nd, ks := ?_, has := ?_, len := by rw [many_change]; exact S.len, bx := ?_, ia := ?_, il := ?_ }
  · intro kv hkv
    obtain ⟨i, c, hc, ek⟩ := S.ks kv hkv
    by_cases hi : i = n
    · exact ⟨i, { c with rule := rl }, by rw [e, if_pos hi, hc]; rfl, ek⟩
    · exact ⟨i, c, by rw [e, if_neg hi, hc], ek⟩
  · intro i c q
    obtain ⟨c0, q0, _⟩ := look i c q
    exact S.has i c0 q0
  · intro i c q
    obtain ⟨c0, q0, ⟨rfl, rfl, rfl⟩ | ⟨hin, rfl⟩⟩ := look i c q
    · exact ⟨dx, r, pl, .inl b1, .inl b2, Hq, R.keep ho nb, keep _ _ g3 (S.ad_ne_la hb hb).symm, hpl.keep ho nb⟩
    · exact (S.bx i c q0).keep ho nb (fun o z => keep _ _ z fun y => hin (S.ia i n c b q0 hb y)) fun o z => keep _ _ z (S.ad_ne_la hb q0).symm
  · intro i j c c' q q' z
    obtain ⟨c0, q0, _⟩ := look i c q
    obtain ⟨c1, q1, _⟩ := look j c' q'
    exact S.ia i j c0 c1 q0 q1 z
  · intro i j c c' q q' z
    obtain ⟨c0, q0, _⟩ := look i c q
    obtain ⟨c1, q1, _⟩ := look j c' q'
    exact S.il i j c0 c1 q0 q1 z
theorem St.dropped (S : St t own H p d kvs a dp ad la) {n : Nat} {b c : Kp175.Box} (hb : Kp175.box a n = some b) (h0 : n ≠ 0) (hk : b.kids = []) (hc : Kp175.box a b.in_ = some c)
    (Hd : H' d = some (.dK (dropK kvs (Sum.inl (n : Int))))) (Hi : H' (la b.in_) = some (.lst (((c.kids.filter (· != n)).map fun (k : Nat) => (k : Int)).map V.int)))
    (keep : ∀ z o, H z = some o → z ≠ d → z ≠ la b.in_ → H' z = some o) :
    St t (fun q => own q ∨ H q = none) H' p d (dropK kvs (Sum.inl (n : Int))) (BX.dropped a n b.in_) dp ad la := by
  have hnl : n < a.length := box_lt hb
  have e := box_dropped (p := b.in_) hnl
  have look : ∀ j x, Kp175.box (BX.dropped a n b.in_) j = some x → j ≠ n ∧ ∃ x0, Kp175.box a j = some x0 ∧ ((j = b.in_ ∧ x0 = c ∧ x = { c with kids := c.kids.filter (· != n) }) ∨ (j ≠ b.in_ ∧ x = x0)) := by
    intro j x q
    rw [e] at q
    by_cases hj : j = n
    · rw [if_pos hj] at q
      cases q
    · rw [if_neg hj] at q
      by_cases hjp : j = b.in_
      · rw [if_pos hjp, hjp, hc] at q
        cases q
        exact ⟨hj, c, by rw [hjp]; exact hc, .inl ⟨hjp, rfl, rfl⟩⟩
      · rw [if_neg hjp] at q
        exact ⟨hj, x, q, .inr ⟨hjp, rfl⟩⟩
  obtain ⟨bdx, br, bpl, b1, b2, g1, g2, g3, g4⟩ := S.bx b.in_ c hc
  have nb : ∀ q o, own q → H q = some o → NB o → H' q = some o := fun q o _ e z => keep q o e (nb_ne e z (.inl S.dic)) (nb_ne (kvs := kvs) e z (.inr (.inl ⟨_, g3⟩)))
  have ho : ∀ q, own q → own q ∨ H q = none := fun q z => .inl z
  obtain ⟨dxp, hp⟩ := S.ob
  have hm : (Sum.inl (n : Int) : Key) ∈ kvs.map (·.1) := valV_in (S.has n b hb)
  refine { wf := wf_dropped S.wf hb h0 hk, op := .inl S.op, od := .inl S.od, ob := ⟨dxp, keep _ _ hp S.p_ne_d (S.p_ne hc).2⟩, dic := Hd, nd := nd_dropK S.nd, ks := ?_, has := ?_, len := ?_, bx := ?_, ia := ?_, il := ?_ }
  · intro kv hkv
    have h1 := dropK_mem hkv
    have h2 : kv.1 ≠ Sum.inl (n : Int) := by
      have := (List.mem_filter.mp hkv).2
      simpa using this
    obtain ⟨i, x, hx, ek⟩ := S.ks kv h1
    have hin : i ≠ n := fun z => h2 (by rw [ek, z])
    by_cases hi : i = b.in_
    · exact ⟨i, _, by rw [e, if_neg hin, if_pos hi, hx]; rfl, ek⟩
    · exact ⟨i, x, by rw [e, if_neg hin, if_neg hi, hx], ek⟩
  · intro i x q
    obtain ⟨hin, x0, q0, _⟩ := look i x q
    rw [valV_drop, if_neg (fun z => hin (by have := Sum.inl.inj z; omega))]
    exact S.has i x0 q0
  · have h1 := dropK_len S.nd hm
    have h2 := many_dropped (p := b.in_) hb
    have h3 := S.len
    omega
  · intro i x q
    obtain ⟨hin, x0, q0, ⟨rfl, rfl, rfl⟩ | ⟨hip, rfl⟩⟩ := look i x q
    · exact ⟨bdx, br, bpl, .inl b1, .inl b2, keep _ _ g1 (S.ad_ne_d hc).1 (S.ad_ne_la hc hc), g2.keep ho nb, Hi, g4.keep ho nb⟩
    · exact (S.bx i x q0).keep ho nb (fun o z => keep _ _ z (S.ad_ne_d q0).1 (S.ad_ne_la q0 hc)) fun o z => keep _ _ z (S.ad_ne_d q0).2 fun y => hip (S.il i _ x c q0 hc y)
  · intro i j x x' q q' z
    obtain ⟨_, c0, q0, _⟩ := look i x q
    obtain ⟨_, c1, q1, _⟩ := look j x' q'
    exact S.ia i j c0 c1 q0 q1 z
  · intro i j x x' q q' z
    obtain ⟨_, c0, q0, _⟩ := look i x q
    obtain ⟨_, c1, q1, _⟩ := look j x' q'
    exact S.il i j c0 c1 q0 q1 z
end BXP
namespace BXP
open PySem L2 BX
theorem putF_place (r : Addr) (li : V) (d : Nat) (l : Addr) (pl v : V) : putF "place" v (bfs r li d l pl) = bfs r li d l v := by rfl
theorem putF_rule (r r' : Addr) (li : V) (d : Nat) (l : Addr) (pl : V) : putF "rule" (.ref r') (bfs r li d l pl) = bfs r' li d l pl := by rfl
theorem putF_by (v v' : V) : putF "by_number" v' ([("by_number", v)] : List (Str × V)) = ([("by_number", v')] : List (Str × V)) := by rfl
section
variable {P : Program} {w : World} {K : PySem.W.Frag} {mg : Str → Option Value} {base : Heap} {t : Adr}
theorem ok_Boxes_bx_start (T : Txt K mg t) : FnOk P w K mg base CX0 3 t.f_Boxes_bx_start t.fd_Boxes_bx_start ["self", "rule"] (sp_bx_start t) := by
  refine T.F_Boxes_bx_start.ok sc_Boxes_bx_start (fun vs H Q E h => ?_) (fun cdv A outer s H vs Q E hr h => ?_)
  · obtain ⟨p, r, rl, own, s, rfl, _⟩ := h
    rfl
  · obtain ⟨p, r, rl, own, st, rfl, S, R, hR, k⟩ := h
    obtain ⟨rdx, t1, t2, t3, o1, o2, o3, o4, h1, h2, h3, h4⟩ := id R
    obtain ⟨op, dxp, d0, hp⟩ : own p ∧ ∃ (dx d : Addr), H p = some (.ins t.C_Boxes dx [("by_number", .ref d)]) := by
      cases st with
      | none => exact S
      | some a =>
        obtain ⟨d, kvs, dp, ad, la, Z⟩ := S
        obtain ⟨dx, z⟩ := Z.ob
        exact ⟨Z.op, dx, d, z⟩
    refine ⟨_, (pss_cons (ps_if (pt_not (pt_val (pe_meth0 (pv 1) T.c_Rule T.m_Rule_is_as_told (ok_Rule_is_as_told T) (hr.mono (by decide)) T.b_Rule_is_as_told .nil pass0)))
      (pss_one (ps_ret (pe_glob rfl T.g_NOT_AS_TOLD T.r_NOT_AS_TOLD)))
      pss_nil)
      (pss_cons (ps_set (i := 2) sc_Boxes_bx_start.nd rfl (Or.inl rfl) (pe_make T.mk_Box (ok_Box_init T) (hr.mono (by decide)) rfl T.g_Box T.b_Box_init .nil pass0 (pa_cons (pv 1) (pa_cons pe_non (pa_cons pe_int pa_nil)))))
      (pss_cons (ps_fld (pv 2) (pe_tup (pa_cons pe_int (pa_cons pe_int (pa_cons pe_int (pa_cons pe_int pa_nil))))) rfl)
      (pss_cons (ps_fld (pv 0) (pe_disp (pps_cons pe_int (pv 2) pps_nil) rfl rfl (by simp) (by decide)) rfl)
      (pss_one (ps_ret pe_int)))))), ?_⟩
    refine ⟨_, rfl, r, rdx, _, rfl, h1, rfl, r, rl, own, rfl, R, fun H1 s1 => ⟨_, rfl, ?_⟩⟩
    cases hg : Kp175.goodRule rl with
    | false =>
      rw [hg, if_neg Bool.false_ne_true, if_neg Bool.false_ne_true] at k
      refine iteT ?_
      exact k H1 (S.keep (fun q z => .inl z) fun q o _ e => s1 q o e) fun q o e _ => s1 q o e
    | true =>
      rw [hg, if_pos rfl, if_pos rfl] at k
      refine iteF ?_
      refine ⟨_, rfl, ?_⟩
      intro x dx nx ndx nex
      refine ⟨x, dx, r, .non, 1, rfl, upd_same, fun l H2 hl hx hlst fr => ⟨rfl, ?_⟩⟩
      have s12 : Same H1 H2 := Same.made nx ndx fr
      have nlx : l ≠ x := fun z => by rw [z, upd_same] at hl; cases hl
      have nld : l ≠ dx := fun z => by rw [z, upd_ne nex, upd_same] at hl; cases hl
      have hl1 : H1 l = none := by rw [upd_ne nlx, upd_ne nld] at hl; exact hl
      refine ⟨by show 4 ≤ sizeLine; decide, fun q hq => ?_⟩
      have nxq : x ≠ q := ne_of_none hx hq
      have nlq : l ≠ q := ne_of_none hlst hq
      have hq1 : H1 q = none := s12.free hq
      refine ⟨_, rfl, x, _, dx, _, rfl, (by rw [upd_ne nxq]; exact hx), T.c_Box, T.n_Box_place, (by show 5 < 1000; decide), ?_⟩
      rw [putF_place]
      intro d hd
      have nxd : d ≠ x := fun z => by rw [z, upd_same] at hd; cases hd
      have nqd : d ≠ q := fun z => by rw [z, upd_ne nxq.symm, upd_same] at hd; cases hd
      rw [upd_ne nxd, upd_ne nqd] at hd
      have nld2 : l ≠ d := ne_of_none hlst hd
      have hp2 : H2 p = some (.ins t.C_Boxes dxp [("by_number", .ref d0)]) := s12 _ _ (s1 _ _ hp)
      have npx : p ≠ x := ne_of_none (s1 _ _ hp) nx
      have npq : p ≠ q := ne_of_none hp2 hq
      have npd : p ≠ d := ne_of_none hp2 hd
      have npl : p ≠ l := ne_of_none (s1 _ _ hp) hl1
      refine ⟨_, rfl, upd_same, [(Sum.inl 0, .ref x)], rfl, (by show 1 ≤ 15; decide), ?_⟩
      refine ⟨_, rfl, p, _, dxp, _, rfl, (by rw [upd_ne npd, upd_ne npd, upd_ne npx, upd_ne npq]; exact hp2), T.c_Boxes, T.n_Boxes_by_number, (by show 1 < 1000; decide), ?_⟩
      rw [putF_by]
      -- what stands where
      have keep : ∀ z o, H z = some o → z ≠ p → (upd (upd (upd (upd (upd H2 q (.tup [.int 0, .int 0, .int 0, .int 0])) x (.ins t.C_Box dx (bfs r .non 1 l (.ref q)))) d (.dK [])) d (.dK (mergeK [] [(Sum.inl 0, .ref x)]))) p (.ins t.C_Boxes dxp [("by_number", .ref d)])) z = some o := by
        intro z o e hz
        have e2 : H2 z = some o := s12 _ _ (s1 _ _ e)
        rw [upd_ne hz, upd_ne (ne_of_none e2 hd), upd_ne (ne_of_none e2 hd), upd_ne (ne_of_none (s1 _ _ e) nx), upd_ne (ne_of_none e2 hq)]
        exact e2
      have nrp : r ≠ p := ne_of h1 hp fun z => by
        injection z with _ _ z
        exact absurd (congrArg List.length z) (by simp [rfs])
      refine k _ ⟨d, [(Sum.inl 0, .ref x)], fun _ => 1, fun _ => x, fun _ => l, ?_⟩ fun z o e no => keep z o e fun ez => no (by rw [ez]; exact op)
      have only : ∀ i b, Kp175.box (Kp175.begun rl) i = some b → i = 0 ∧ b = ⟨rl, 0, [], some ⟨0, 0, 0, 0⟩⟩ := fun i b e => by
        cases i with
        | zero => exact ⟨rfl, (Option.some.inj e).symm⟩
        | succ i =>
          unfold Kp175.begun Kp175.box at e
          rw [List.getElem?_cons_succ, List.getElem?_replicate] at e
          split at e <;> cases e
      have fresh : ∀ z, H1 z = none → H z = none := fun z e => s1.free e
      exact {
        wf := wf_begun hg hR
        op := .inl op
        od := .inr (fresh d (s12.free hd))
        ob := ⟨dxp, upd_same⟩
        dic := by rw [upd_ne npd.symm]; exact upd_same
        nd := by simp
        ks := fun kv hkv => ⟨0, _, rfl, by rw [List.mem_singleton.mp hkv]; rfl⟩
        has := fun i b e => by
          rw [(only i b e).1]
          rfl
        len := by rw [many_begun]; rfl
        bx := fun i b e => by
          obtain ⟨rfl, rfl⟩ := only i b e
          refine ⟨dx, r, .ref q, .inr (fresh x nx), .inr (fresh l hl1), ?_, ⟨rdx, t1, t2, t3, .inl o1, .inl o2, .inl o3, .inl o4, keep _ _ h1 nrp, keep _ _ h2 (ne_of h2 hp (by intro z; cases z)), keep _ _ h3 (ne_of h3 hp (by intro z; cases z)), keep _ _ h4 (ne_of h4 hp (by intro z; cases z))⟩, ?_, q, rfl, .inr (fresh q hq1), ?_⟩
          · rw [upd_ne npx.symm, upd_ne nxd.symm, upd_ne nxd.symm]
            exact upd_same
          · rw [upd_ne npl.symm, upd_ne nld2, upd_ne nld2, upd_ne nlx, upd_ne nlq]
            exact hlst
          · rw [upd_ne npq.symm, upd_ne nqd.symm, upd_ne nqd.symm, upd_ne nxq.symm]
            exact upd_same
        ia := fun i j b c e1 e2 _ => (only i b e1).1.trans (only j c e2).1.symm
        il := fun i j b c e1 e2 _ => (only i b e1).1.trans (only j c e2).1.symm }
end
end BXP
namespace BXP
open PySem L2 BX
section
variable {P : Program} {w : World} {K : PySem.W.Frag} {mg : Str → Option Value} {base : Heap} {t : Adr}
theorem many_line {t : Adr} {own : Own} {H : Hp} {p d : Addr} {kvs : List (Key × V)} {a : Kp175.Abs} {dp : Nat → Nat} {ad la : Nat → Addr} (S : St t own H p d kvs a dp ad la) : kvs.length < sizeLine := by
  have h1 := S.len
  have h2 := many_le a
  have h3 := S.wf.len
  exact small1000 (by omega)
theorem ok_Boxes_bx_add (T : Txt K mg t) : FnOk P w K mg base CX0 3 t.f_Boxes_bx_add t.fd_Boxes_bx_add ["self", "into", "rule"] (sp_bx_add t) := by
  refine T.F_Boxes_bx_add.ok sc_Boxes_bx_add (fun vs H Q E h => ?_) (fun cdv A outer s H vs Q E hr h => ?_)
  · obtain ⟨p, r, n, rl, own, a, rfl, _⟩ := h
    rfl
  · obtain ⟨p, r, n, rl, own, a, rfl, ⟨d, kvs, dp, ad, la, S⟩, R, hR, k⟩ := h
    obtain ⟨dxp, hp⟩ := S.ob
    have hu := hu_of hr
    refine ⟨_, (pss_cons (ps_if (pt_cmp (pc_dnotin hu (pv 1) (pe_fld (pv 0) rfl)))
      (pss_one (ps_ret (pe_glob rfl T.g_NO_SUCH_BOX T.r_NO_SUCH_BOX)))
      pss_nil)
      (pss_cons (ps_if (pt_not (pt_val (pe_meth0 (pv 2) T.c_Rule T.m_Rule_is_as_told (ok_Rule_is_as_told T) (hr.mono (by decide)) T.b_Rule_is_as_told .nil pass0)))
      (pss_one (ps_ret (pe_glob rfl T.g_NOT_AS_TOLD T.r_NOT_AS_TOLD)))
      pss_nil)
      (pss_cons (ps_set (i := 3) sc_Boxes_bx_add.nd rfl (Or.inl rfl) (pe_dget hu (pe_fld (pv 0) rfl) (pv 1) (fun _ _ => rfl)))
      (pss_cons (ps_if (pt_val (pe_meth0 (pe_fld (pv 3) rfl) T.c_Rule T.m_Rule_is_leaf (ok_Rule_is_leaf T) (hr.mono (by decide)) T.b_Rule_is_leaf .nil pass0))
      (pss_one (ps_ret (pe_glob rfl T.g_NOT_ALLOWED T.r_NOT_ALLOWED)))
      pss_nil)
      (pss_cons (ps_if (pt_not (pt_val (pe_meth (pv 0) T.c_Boxes T.m_Boxes_has_space_in (ok_Boxes_has_space_in T) (hr.mono (by decide)) T.b_Boxes_has_space_in .nil pass0 (pa_cons (pv 3) pa_nil))))
      (pss_one (ps_ret (pe_glob rfl T.g_NO_MORE_FIT T.r_NO_MORE_FIT)))
      pss_nil)
      (pss_cons (ps_set (i := 4) sc_Boxes_bx_add.nd rfl (Or.inl rfl) (pe_meth0 (pv 0) T.c_Boxes T.m_Boxes_least_free_number (ok_Boxes_least_free_number T) (hr.mono (by decide)) T.b_Boxes_least_free_number .nil pass0))
      (pss_cons (ps_dput hu (pe_fld (pv 0) rfl) (pv 4) (pe_make T.mk_Box (ok_Box_init T) (hr.mono (by decide)) rfl T.g_Box T.b_Box_init .nil pass0 (pa_cons (pv 2) (pa_cons (pv 1) (pa_cons (pe_op op_add (pe_fld (pv 3) rfl) pe_int) pa_nil)))) rfl)
      (pss_cons (ps_expr (pe_bm PySem.F.plainAttrs_list PySem.F.slot_list_append PySem.F.type_list_append mt_append (pe_fld (pv 3) rfl) (pa_cons (pv 4) pa_nil)))
      (pss_one (ps_ret (pv 4))))))))))), ?_⟩
    refine ⟨_, rfl, _, rfl, p, _, dxp, _, _, rfl, hp, T.c_Boxes, T.n_Boxes_by_number, rfl, d, _, rfl, DGet.k (k := Sum.inl (n : Int)) S.dic, _, rfl, ?_⟩
    rw [S.look n]
    cases hb : Kp175.box a n with
    | none =>
      refine iteT ?_
      rw [act_add_none hb] at k
      exact k H ⟨d, kvs, dp, ad, la, S.keep (fun q z => .inl z) fun q o _ e => e⟩ fun q o e _ => e
    | some b =>
      refine iteF ?_
      obtain ⟨rdx, t1, t2, t3, o1, o2, o3, o4, h1, h2, h3, h4⟩ := id R
      refine ⟨_, rfl, r, rdx, _, rfl, h1, rfl, r, rl, own, rfl, R, fun H1 s1 => ⟨_, rfl, ?_⟩⟩
      have S1 : St t own H1 p d kvs a dp ad la := S.keep (fun q z => z) fun q o _ e => s1 q o e
      have back : StO t (fun q => own q ∨ H q = none) H1 p (some a) := ⟨d, kvs, dp, ad, la, S.keep (fun q z => .inl z) fun q o _ e => s1 q o e⟩
      cases hg : Kp175.goodRule rl with
      | false =>
        refine iteT ?_
        rw [act_add_bad hb hg] at k
        exact k H1 back fun q o e _ => s1 q o e
      | true =>
        refine iteF ?_
        have hp1 := s1 _ _ hp
        have get1 : DGet H1 d (.int (n : Nat)) (some (.ref (ad n))) := by
          have z := DGet.k (k := Sum.inl (n : Int)) S1.dic
          rw [S.has n b hb] at z
          exact z
        refine ⟨_, rfl, p, _, dxp, _, _, rfl, hp1, T.c_Boxes, T.n_Boxes_by_number, rfl, _, rfl, d, _, rfl, get1, ?_⟩
        obtain ⟨bx, br, pl, b1, b2, g1, g2, g3, g4⟩ := S1.bx n b hb
        obtain ⟨bdx, u1, u2, u3, p1, p2, p3, p4, q1, q2, q3, q4⟩ := id g2
        refine ⟨_, rfl, ad n, _, bx, _, _, rfl, g1, T.c_Box, T.n_Box_rule, rfl, br, bdx, _, rfl, q1, rfl, br, b.rule, own, rfl, g2, _, rfl, ?_⟩
        by_cases hk : b.rule.kind = 2
        · rw [decide_eq_true hk]
          refine iteT ?_
          rw [act_add_leaf hb hg hk] at k
          exact k H1 back fun q o e _ => s1 q o e
        rw [decide_eq_false hk]
        refine iteF ?_
        refine ⟨_, rfl, p, dxp, _, rfl, hp1, rfl, _, rfl, p, d, kvs, a, dp, ad, la, own, n, b, rfl, S1, hb, _, rfl, ?_⟩
        by_cases hs : b.kids.length < 64 ∧ dp n < 16
        · rw [decide_eq_true hs.1, decide_eq_true hs.2, Bool.true_and, Bool.true_and]
          cases hf : free a with
          | none =>
            rw [decide_eq_false (by rw [(free_none S.wf.len).mp hf]; decide)]
            refine iteT ?_
            rw [act_add_no S.wf hb hg hk hs hf] at k
            exact k H1 back fun q o e _ => s1 q o e
          | some kk =>
            have hm : Kp175.many a < 256 := by
              have h1 := many_le a
              have h2 := S.wf.len
              have h3 : Kp175.many a ≠ 256 := fun z => by
                rw [(free_none S.wf.len).mpr z] at hf
                cases hf
              omega
            rw [decide_eq_true hm]
            refine iteF ?_
            rw [act_add_ok S.wf hb hg hk hs hf] at k
            refine ⟨_, rfl, p, dxp, _, rfl, hp1, rfl, p, d, kvs, a, dp, ad, la, own, kk, rfl, S1, hf, ?_⟩
            refine ⟨_, rfl, _, rfl, _, rfl, ad n, _, bx, _, _, rfl, g1, T.c_Box, T.n_Box_depth, rfl, _, _, rfl, rfl, ?_⟩
            intro x dx nx ndx nex
            refine ⟨x, dx, r, .int (n : Nat), dp n + 1, rfl, upd_same, fun l H2 hl hx hlst fr => ⟨rfl, ?_⟩⟩
            have s12 : Same H1 H2 := Same.made nx ndx fr
            have nlx : l ≠ x := fun z => by rw [z, upd_same] at hl; cases hl
            have nld : l ≠ dx := fun z => by rw [z, upd_ne nex, upd_same] at hl; cases hl
            have hl1 : H1 l = none := by rw [upd_ne nlx, upd_ne nld] at hl; exact hl
            have hd2 := s12 _ _ S1.dic
            refine ⟨_, rfl, p, _, dxp, _, _, rfl, s12 _ _ hp1, T.c_Boxes, T.n_Boxes_by_number, rfl, _, rfl, d, _, rfl, DPut.k (k := Sum.inl (kk : Int)) hd2 (many_line S), ?_⟩
            have nd1 : ad n ≠ d := (S.ad_ne_d hb).1
            have nd2 : la n ≠ d := (S.ad_ne_d hb).2
            have hla : (upd H2 d (.dK (putK kvs (Sum.inl (kk : Int)) (.ref x)))) (la n) = some (.lst (kidsV b)) := by
              rw [upd_ne nd2]
              exact s12 _ _ g3
            refine ⟨_, rfl, ad n, _, bx, _, _, rfl, (by rw [upd_ne nd1]; exact s12 _ _ g1), T.c_Box, T.n_Box_inner, rfl, tyL hla, _, rfl, la n, _, _, rfl, rfl, hla, small1000 (by simp [kidsV]; omega), ?_⟩
            refine ⟨_, rfl, ?_⟩
            have nxd : x ≠ d := (ne_of_none S1.dic nx).symm
            have nxl : x ≠ la n := (ne_of_none g3 nx).symm
            have nlD : l ≠ d := (ne_of_none S1.dic hl1).symm
            have nll : l ≠ la n := (ne_of_none g3 hl1).symm
            have keep : ∀ z o, H z = some o → z ≠ d → z ≠ la n → (upd (upd H2 d (.dK (putK kvs (Sum.inl (kk : Int)) (.ref x)))) (la n) (.lst (kidsV b ++ [.int (kk : Nat)]))) z = some o := fun z o e z1 z2 => by
              rw [upd_ne z2, upd_ne z1]
              exact s12 _ _ (s1 _ _ e)
            refine k _ ⟨d, _, _, _, _, S.added (x := x) (l := l) (dx := dx) hb hf hg hR hk hs R (s1.free nx) (s1.free hl1) ?_ ?_ ?_ upd_same keep⟩ fun z o e no => keep z o e (fun ez => no (by rw [ez]; exact S.od)) fun ez => no (by rw [ez]; exact b2)
            · rw [upd_ne nxl, upd_ne nxd]
              exact hx
            · rw [upd_ne nll, upd_ne nlD]
              exact hlst
            · rw [upd_ne nd2.symm]
              exact upd_same
        · have hz : (decide (b.kids.length < 64) && decide (dp n < 16) && decide (Kp175.many a < 256)) = false := by
            cases e1 : decide (b.kids.length < 64) with
            | false => rfl
            | true =>
              cases e2 : decide (dp n < 16) with
              | false => rfl
              | true => exact absurd ⟨of_decide_eq_true e1, of_decide_eq_true e2⟩ hs
          rw [hz]
          refine iteT ?_
          rw [act_add_full S.wf hb hg hk hs] at k
          exact k H1 back fun q o e _ => s1 q o e
theorem ok_Boxes_bx_set (T : Txt K mg t) : FnOk P w K mg base CX0 3 t.f_Boxes_bx_set t.fd_Boxes_bx_set ["self", "number", "rule"] (sp_bx_set t) := by
  refine T.F_Boxes_bx_set.ok sc_Boxes_bx_set (fun vs H Q E h => ?_) (fun cdv A outer s H vs Q E hr h => ?_)
  · obtain ⟨p, r, n, rl, own, a, rfl, _⟩ := h
    rfl
  · obtain ⟨p, r, n, rl, own, a, rfl, ⟨d, kvs, dp, ad, la, S⟩, R, hR, k⟩ := h
    obtain ⟨dxp, hp⟩ := S.ob
    have hu := hu_of hr
    refine ⟨_, (pss_cons (ps_if (pt_cmp (pc_dnotin hu (pv 1) (pe_fld (pv 0) rfl)))
      (pss_one (ps_ret (pe_glob rfl T.g_NO_SUCH_BOX T.r_NO_SUCH_BOX)))
      pss_nil)
      (pss_cons (ps_if (pt_not (pt_val (pe_meth0 (pv 2) T.c_Rule T.m_Rule_is_as_told (ok_Rule_is_as_told T) (hr.mono (by decide)) T.b_Rule_is_as_told .nil pass0)))
      (pss_one (ps_ret (pe_glob rfl T.g_NOT_AS_TOLD T.r_NOT_AS_TOLD)))
      pss_nil)
      (pss_cons (ps_set (i := 3) sc_Boxes_bx_set.nd rfl (Or.inl rfl) (pe_dget hu (pe_fld (pv 0) rfl) (pv 1) (fun _ _ => rfl)))
      (pss_cons (ps_if (PW.pt (pw_and (pt_val (pe_meth0 (pv 2) T.c_Rule T.m_Rule_is_leaf (ok_Rule_is_leaf T) (hr.mono (by decide)) T.b_Rule_is_leaf .nil pass0)) (pw_and1 (pt_cmpR op_gt (pe_callB call_len_seq rfl T.n_len PySem.boot_len (pa_cons (pe_fld (pv 3) rfl) pa_nil)) pe_int (nomark _)))))
      (pss_one (ps_ret (pe_glob rfl T.g_NOT_ALLOWED T.r_NOT_ALLOWED)))
      pss_nil)
      (pss_cons (ps_fld (pv 3) (pv 2) rfl)
      (pss_one (ps_ret pe_int))))))), ?_⟩
    refine ⟨_, rfl, _, rfl, p, _, dxp, _, _, rfl, hp, T.c_Boxes, T.n_Boxes_by_number, rfl, d, _, rfl, DGet.k (k := Sum.inl (n : Int)) S.dic, _, rfl, ?_⟩
    rw [S.look n]
    cases hb : Kp175.box a n with
    | none =>
      refine iteT ?_
      rw [act_set_none hb] at k
      exact k H ⟨d, kvs, dp, ad, la, S.keep (fun q z => .inl z) fun q o _ e => e⟩ fun q o e _ => e
    | some b =>
      refine iteF ?_
      obtain ⟨rdx, t1, t2, t3, o1, o2, o3, o4, h1, h2, h3, h4⟩ := id R
      refine ⟨_, rfl, r, rdx, _, rfl, h1, rfl, r, rl, own, rfl, R, fun H1 s1 => ⟨_, rfl, ?_⟩⟩
      have S1 : St t own H1 p d kvs a dp ad la := S.keep (fun q z => z) fun q o _ e => s1 q o e
      have R1 := R.same s1
      have back : StO t (fun q => own q ∨ H q = none) H1 p (some a) := ⟨d, kvs, dp, ad, la, S.keep (fun q z => .inl z) fun q o _ e => s1 q o e⟩
      cases hg : Kp175.goodRule rl with
      | false =>
        refine iteT ?_
        rw [act_set_bad hb hg] at k
        exact k H1 back fun q o e _ => s1 q o e
      | true =>
        refine iteF ?_
        have hp1 := s1 _ _ hp
        have get1 : DGet H1 d (.int (n : Nat)) (some (.ref (ad n))) := by
          have z := DGet.k (k := Sum.inl (n : Int)) S1.dic
          rw [S.has n b hb] at z
          exact z
        refine ⟨_, rfl, p, _, dxp, _, _, rfl, hp1, T.c_Boxes, T.n_Boxes_by_number, rfl, _, rfl, d, _, rfl, get1, ?_⟩
        obtain ⟨bx, br, pl, b1, b2, g1, g2, g3, g4⟩ := S1.bx n b hb
        have hkl : (kidsV b).length = b.kids.length := by simp [kidsV]
        -- what comes behind the test
        have fin : ¬ (rl.kind = 2 ∧ b.kids ≠ []) → Q (.int 0) (upd H1 (ad n) (.ins t.C_Box bx (bfs r (liesV n b) (dp n) (la n) pl))) := fun hk => by
          rw [act_set_ok hb hg hk] at k
          have keep : ∀ z o, H z = some o → z ≠ ad n → (upd H1 (ad n) (.ins t.C_Box bx (bfs r (liesV n b) (dp n) (la n) pl))) z = some o := fun z o e z1 => by
            rw [upd_ne z1]
            exact s1 _ _ e
          obtain ⟨bx0, br0, pl0, b10, b20, g10, g20, g30, g40⟩ := S.bx n b hb
          have eq := (s1 _ _ g10).symm.trans g1
          have epl : pl0 = pl := by
            have z := Option.some.inj eq
            injection z with _ _ z
            simp only [bfs, List.cons.injEq, Prod.mk.injEq, true_and, and_true] at z
            exact z.2
          subst epl
          exact k _ ⟨d, kvs, dp, ad, la, S.setRule hb hg hR hk R g40 upd_same keep⟩ fun z o e no => keep z o e fun ez => no (by rw [ez]; exact b1)
        have fin2 : ¬ (rl.kind = 2 ∧ b.kids ≠ []) → ∃ v, [some (V.ref p), some (.int (n : Nat)), some (.ref r), some (.ref (ad n))][2]? = some (some v) ∧ ∃ v', [some (V.ref p), some (.int (n : Nat)), some (.ref r), some (.ref (ad n))][3]? = some (some v') ∧
            ∃ q C dx fs, v' = .ref q ∧ H1 q = some (.ins C dx fs) ∧ Cls K C ∧ NoAttr K C "rule" ∧ fs.length < 1000 ∧ Q (.int 0) (upd H1 q (.ins C dx (putF "rule" v fs))) := fun hk =>
          ⟨_, rfl, _, rfl, ad n, _, bx, _, rfl, g1, T.c_Box, T.n_Box_rule, (by show 5 < 1000; decide), by rw [putF_rule]; exact fin hk⟩
        refine ⟨_, rfl, r, rdx, _, rfl, s1 _ _ h1, rfl, r, rl, own, rfl, R1, _, rfl, ?_⟩
        by_cases hk2 : rl.kind = 2
        · rw [decide_eq_true hk2]
          refine iteT ?_
          refine ⟨_, rfl, ad n, _, bx, _, _, rfl, g1, T.c_Box, T.n_Box_inner, rfl, la n, _, rfl, .inl (SqL.of g3), _, _, rfl, rfl, _, rfl, ite2 (fun c => ?_) fun c => ?_⟩
          · have hk : rl.kind = 2 ∧ b.kids ≠ [] := ⟨hk2, fun z => by
              have := of_decide_eq_true c
              rw [hkl, z] at this
              simp at this⟩
            rw [act_set_leaf hb hg hk] at k
            exact k H1 back fun q o e _ => s1 q o e
          · exact fin2 fun hk => c (decide_eq_true (by
              have : 0 < b.kids.length := List.length_pos_iff.mpr hk.2
              rw [hkl]
              omega))
        · rw [decide_eq_false hk2]
          refine iteF (iteF ?_)
          exact fin2 fun hk => hk2 hk.1
theorem ok_Boxes_bx_drop (T : Txt K mg t) : FnOk P w K mg base CX0 1 t.f_Boxes_bx_drop t.fd_Boxes_bx_drop ["self", "number"] (sp_bx_drop t) := by
  refine T.F_Boxes_bx_drop.ok sc_Boxes_bx_drop (fun vs H Q E h => ?_) (fun cdv A outer s H vs Q E hr h => ?_)
  · obtain ⟨p, n, own, a, rfl, _⟩ := h
    rfl
  · obtain ⟨p, n, own, a, rfl, ⟨d, kvs, dp, ad, la, S⟩, k⟩ := h
    obtain ⟨dxp, hp⟩ := S.ob
    have hu := hu_of hr
    refine ⟨_, (pss_cons (ps_if (pt_cmp (pc_dnotin hu (pv 1) (pe_fld (pv 0) rfl)))
      (pss_one (ps_ret (pe_glob rfl T.g_NO_SUCH_BOX T.r_NO_SUCH_BOX)))
      pss_nil)
      (pss_cons (ps_set (i := 2) sc_Boxes_bx_drop.nd rfl (Or.inl rfl) (pe_dget hu (pe_fld (pv 0) rfl) (pv 1) (fun _ _ => rfl)))
      (pss_cons (ps_if (PW.pt (pw_or (pt_cmpR op_eq (pv 1) pe_int (nomark _)) (pw_or1 (pt_cmpR op_gt (pe_callB call_len_seq rfl T.n_len PySem.boot_len (pa_cons (pe_fld (pv 2) rfl) pa_nil)) pe_int (nomark _)))))
      (pss_one (ps_ret (pe_glob rfl T.g_NOT_ALLOWED T.r_NOT_ALLOWED)))
      pss_nil)
      (pss_cons (ps_set (i := 3) sc_Boxes_bx_drop.nd rfl (Or.inl rfl) (pe_dget hu (pe_fld (pv 0) rfl) (pe_fld (pv 2) rfl) (fun _ _ => rfl)))
      (pss_cons (ps_expr (pe_bm PySem.F.plainAttrs_list PySem.F.slot_list_remove PySem.F.type_list_remove mt_remove (pe_fld (pv 3) rfl) (pa_cons (pv 1) pa_nil)))
      (pss_cons (ps_expr (pe_dpop1 (pe_fld (pv 0) rfl) (pv 1) ⟨rfl, rfl, rfl, rfl⟩))
      (pss_one (ps_ret (pe_callB call_lenD rfl T.n_len PySem.boot_len (pa_cons (pe_fld (pv 0) rfl) pa_nil)))))))))), ?_⟩
    have back : StO t (fun q => own q ∨ H q = none) H p (some a) := ⟨d, kvs, dp, ad, la, S.keep (fun q z => .inl z) fun q o _ e => e⟩
    refine ⟨_, rfl, _, rfl, p, _, dxp, _, _, rfl, hp, T.c_Boxes, T.n_Boxes_by_number, rfl, d, _, rfl, DGet.k (k := Sum.inl (n : Int)) S.dic, _, rfl, ?_⟩
    rw [S.look n]
    cases hb : Kp175.box a n with
    | none =>
      refine iteT ?_
      rw [act_drop_none hb] at k
      exact k H back fun q o e _ => e
    | some b =>
      refine iteF ?_
      have get1 : DGet H d (.int (n : Nat)) (some (.ref (ad n))) := by
        have z := DGet.k (k := Sum.inl (n : Int)) S.dic
        rw [S.has n b hb] at z
        exact z
      refine ⟨_, rfl, p, _, dxp, _, _, rfl, hp, T.c_Boxes, T.n_Boxes_by_number, rfl, _, rfl, d, _, rfl, get1, ?_⟩
      obtain ⟨bx, br, pl, b1, b2, g1, g2, g3, g4⟩ := S.bx n b hb
      have hkl : (kidsV b).length = b.kids.length := by simp [kidsV]
      refine ⟨_, rfl, rfl, _, rfl, ?_⟩
      have e0 : decide (V.int (n : Nat) = V.int (0 : Nat)) = decide (n = 0) := dec_n n 0
      refine ite2 (fun c => ?_) fun c => ?_
      · refine iteT ?_
        have hn : n = 0 := of_decide_eq_true (e0.symm.trans c)
        rw [act_drop_no hb (.inl hn)] at k
        exact k H back fun q o e _ => e
      have hn : n ≠ 0 := fun z => c (e0.trans (decide_eq_true z))
      refine ⟨_, rfl, ad n, _, bx, _, _, rfl, g1, T.c_Box, T.n_Box_inner, rfl, la n, _, rfl, .inl (SqL.of g3), _, _, rfl, rfl, _, rfl, ite2 (fun c2 => ?_) fun c2 => ?_⟩
      · have hk : b.kids ≠ [] := fun z => by
          have := of_decide_eq_true c2
          rw [hkl, z] at this
          simp at this
        rw [act_drop_no hb (.inr hk)] at k
        exact k H back fun q o e _ => e
      have hk : b.kids = [] := by
        cases hz : b.kids with
        | nil => rfl
        | cons x l =>
          refine absurd (decide_eq_true ?_) c2
          rw [hkl, hz]
          simp
      rw [act_drop_ok hb (fun z => z.elim hn fun y => y hk)] at k
      obtain ⟨c0, hc0, hmem⟩ := S.wf.up n b hb hn
      have get2 : DGet H d (.int (b.in_ : Nat)) (some (.ref (ad b.in_))) := by
        have z := DGet.k (k := Sum.inl (b.in_ : Int)) S.dic
        rw [S.has _ c0 hc0] at z
        exact z
      have eli : liesV n b = .int (b.in_ : Nat) := by
        unfold liesV
        rw [if_neg hn]
      have g1' : H (ad n) = some (.ins t.C_Box bx (bfs br (.int (b.in_ : Nat)) (dp n) (la n) pl)) := by
        rw [← eli]
        exact g1
      refine ⟨_, rfl, p, _, dxp, _, _, rfl, hp, T.c_Boxes, T.n_Boxes_by_number, rfl, _, rfl, ad n, _, bx, _, _, rfl, g1', T.c_Box, T.n_Box_lies_in, rfl, d, _, rfl, get2, ?_⟩
      obtain ⟨cx, cr, cpl, c1, c2', f1, f2, f3, f4⟩ := S.bx b.in_ c0 hc0
      obtain ⟨j, hj⟩ := List.mem_iff_getElem?.mp hmem
      have hj' : (c0.kids.map fun (k : Nat) => (k : Int))[j]? = some (n : Int) := by rw [List.getElem?_map, hj]; rfl
      have nd0 := S.wf.nd _ c0 hc0
      have first : ∀ m : Nat, m < j → (c0.kids.map fun (k : Nat) => (k : Int))[m]? ≠ some (n : Int) := fun m hm e => by
        rw [List.getElem?_map] at e
        obtain ⟨y, hy, ey⟩ := Option.map_eq_some_iff.mp e
        have : y = n := by omega
        rw [this] at hy
        exact absurd (nd_ix nd0 hy hj) (Nat.ne_of_lt hm)
      refine ⟨_, rfl, ad b.in_, _, cx, _, _, rfl, f1, T.c_Box, T.n_Box_inner, rfl, tyL f3, _, rfl, la b.in_, _, _, j, rfl, rfl, f3, hj', first, ?_⟩
      have ek : ((c0.kids.map fun (k : Nat) => (k : Int)).eraseIdx j).map V.int = ((c0.kids.filter (· != n)).map fun (k : Nat) => (k : Int)).map V.int := by
        rw [← erase_filter nd0 hj, map_eraseG]
      rw [ek]
      have nd1 : la b.in_ ≠ d := (S.ad_ne_d hc0).2
      have np1 : p ≠ la b.in_ := (S.p_ne hc0).2
      have hp1 : (upd H (la b.in_) (.lst (((c0.kids.filter (· != n)).map fun (k : Nat) => (k : Int)).map V.int))) p = some (.ins t.C_Boxes dxp [("by_number", .ref d)]) := by
        rw [upd_ne np1]
        exact hp
      have hd1 : (upd H (la b.in_) (.lst (((c0.kids.filter (· != n)).map fun (k : Nat) => (k : Int)).map V.int))) d = some (.dK kvs) := by
        rw [upd_ne nd1.symm]
        exact S.dic
      refine ⟨_, rfl, p, _, dxp, _, _, rfl, hp1, T.c_Boxes, T.n_Boxes_by_number, rfl, d, rfl, .inl ⟨_, .inl hd1⟩, _, rfl, kvs, Sum.inl (n : Int), _, hd1, rfl, S.has n b hb, ?_⟩
      have npd := S.p_ne_d
      refine ⟨_, rfl, p, _, dxp, _, _, rfl, (by rw [upd_ne npd]; exact hp1), T.c_Boxes, T.n_Boxes_by_number, rfl, d, _, rfl, upd_same, ?_⟩
      have keep : ∀ z o, H z = some o → z ≠ d → z ≠ la b.in_ → (upd (upd H (la b.in_) (.lst (((c0.kids.filter (· != n)).map fun (k : Nat) => (k : Int)).map V.int))) d (.dK (dropK kvs (Sum.inl (n : Int))))) z = some o := fun z o e z1 z2 => by
        rw [upd_ne z1, upd_ne z2]
        exact e
      have el : ((dropK kvs (Sum.inl (n : Int))).length : Int) = ((Kp175.many a - 1 : Nat) : Int) := by
        have h1 := dropK_len S.nd (valV_in (S.has n b hb))
        have h2 := S.len
        omega
      show Q (.int ((dropK kvs (Sum.inl (n : Int))).length : Nat)) _
      rw [el]
      refine k _ ⟨d, _, dp, ad, la, S.dropped hb hn hk hc0 upd_same ?_ keep⟩ fun z o e no => keep z o e (fun ez => no (by rw [ez]; exact S.od)) fun ez => no (by rw [ez]; exact c2')
      rw [upd_ne nd1]
      exact upd_same
end
end BXP
namespace L2
open PySem
theorem bt_sum : bootBuiltins "sum" = some (.builtin "sum") := by decide +kernel
theorem bt_max : bootBuiltins "max" = some (.builtin "max") := by decide +kernel
theorem bt_min : bootBuiltins "min" = some (.builtin "min") := by decide +kernel
theorem bt_list : bootBuiltins "list" = some (.type "list") := by decide +kernel
theorem bt_range : bootBuiltins "range" = some (.type "range") := by decide +kernel
section
variable {X : Cx} {K : PySem.W.Frag}
theorem ix_listK (h : X.K = K) : IxR X (rIxL K) := by subst h; exact ix_list
theorem ix_tupK (h : X.K = K) : IxR X (rIxT K) := by subst h; exact ix_tup
theorem op_notIn_seqK (h : X.K = K) : OpR X (compareOp .NotIn) (rIn K true) := by subst h; exact op_notIn_seq
theorem pe_fldK {e : Expr} {ta : TE} {f : Str} {pos : Pos} (h : X.K = K) (he : PE X e ta) (hb : attributeBase e f X.env (eval e X.env) = eval e X.env) : PE X (.Attribute e f pos) (tFld K ta f) := by subst h; exact pe_fld he hb
end
end L2
namespace BXP
open PySem L2 BX
def LcP (H1 : Hp) (D : Addr) (acc : Nat → List V) (i : Nat) (H' : Hp) : Prop := Same H1 H' ∧ H' D = some (.lst (acc i))
theorem LcP.start {H1 : Hp} {D : Addr} {acc : Nat → List V} (hD : H1 D = none) (h0 : acc 0 = []) : LcP H1 D acc 0 (upd H1 D (.lst [])) :=
  ⟨fun b o e => by rw [upd_ne (ne_of_none e hD)]; exact e, by rw [upd_same, h0]⟩
theorem LcP.next {H1 H' H4 : Hp} {D : Addr} {acc : Nat → List V} {i : Nat} {y : V} (P : LcP H1 D acc i H') (hD : H1 D = none) (s : Same H' H4) (hz : (acc i).length < sizeLine) (e : acc (i + 1) = acc i ++ [y]) :
    ∃ ac, H4 D = some (.lst ac) ∧ ac.length < sizeLine ∧ LcP H1 D acc (i + 1) (upd H4 D (.lst (ac ++ [y]))) := by
  refine ⟨acc i, s _ _ P.2, hz, fun b o z => ?_, by rw [upd_same, e]⟩
  rw [upd_ne (ne_of_none z hD)]
  exact s _ _ (P.1 _ _ z)
theorem LcP.skip {H1 H' : Hp} {D : Addr} {acc : Nat → List V} {i : Nat} (P : LcP H1 D acc i H') (e : acc (i + 1) = acc i) : LcP H1 D acc (i + 1) H' := ⟨P.1, by rw [e]; exact P.2⟩
theorem LcP.fin {H1 H' : Hp} {D : Addr} {acc : Nat → List V} {i : Nat} {ys : List V} (P : LcP H1 D acc i H') (e : acc i = ys) : Same H1 H' ∧ H' D = some (.lst ys) := ⟨P.1, by rw [← e]; exact P.2⟩
theorem take_next {α : Type} {ys : List α} {i : Nat} {y : α} (h : ys[i]? = some y) : ys.take (i + 1) = ys.take i ++ [y] := by
  obtain ⟨hi, e⟩ := List.getElem?_eq_some_iff.mp h
  rw [List.take_succ_eq_append_getElem hi, e]
theorem same_upd {H : Hp} {p : Addr} {o : HO} (h : H p = none) : Same H (upd H p o) := fun b u e => by rw [upd_ne (ne_of_none e h)]; exact e
theorem setv {i : Nat} {v v' : V} {σ : L2.St} {H : Hp} {D : L2.St → Hp → Prop} (e : v = v') (h : D (σ.set i (some v')) H) : gName i v σ H D := by subst e; exact h
def nv (l : List Nat) : List V := l.map fun (k : Nat) => V.int (k : Int)
theorem nv_at {l : List Nat} {i : Nat} {x : V} (h : (nv l)[i]? = some x) : ∃ k, l[i]? = some k ∧ x = .int (k : Nat) := by
  unfold nv at h
  rw [List.getElem?_map] at h
  obtain ⟨k, e1, e2⟩ := Option.map_eq_some_iff.mp h
  exact ⟨k, e1, e2.symm⟩
theorem iv_at {l : List Int} {k : Nat} (h : k < l.length) : atI (l.map V.int) (k : Int) = some (.int (l.getD k 0)) :=
  atI_nat (by rw [List.getElem?_map, List.getElem?_eq_getElem h, List.getD_eq_getElem?_getD, List.getElem?_eq_getElem h]; rfl)
theorem small_of {n : Nat} (h : n ≤ 16000) : n < sizeLine := Nat.lt_of_le_of_lt h (by decide)
def tfs (x : Kp174.One) : List (Str × V) := [("least", .int (x.least : Nat)), ("wish", .int (x.wish : Nat)), ("most", .int (x.most : Nat)), ("grow", .int (x.grow : Nat)), ("give", .int (x.give : Nat))]
def ThingAt (t : Adr) (H : Hp) (a : Addr) (x : Kp174.One) : Prop := ∃ dx : Addr, H a = some (.ins t.C_Thing dx (tfs x))
def sp_Thing_init (t : Adr) : Sp := fun vs H Q _ => ∃ (p dx : Addr) (x : Kp174.One), vs = [.ref p, .int (x.least : Nat), .int (x.wish : Nat), .int (x.most : Nat), .int (x.grow : Nat), .int (x.give : Nat)] ∧ H p = some (.ins t.C_Thing dx []) ∧
  ∀ H' : Hp, H' p = some (.ins t.C_Thing dx (tfs x)) → (∀ b o, H b = some o → b ≠ p → H' b = some o) → Q .non H'
def sp_full_ones (K : PySem.W.Frag) (t : Adr) : Sp := fun vs H Q _ => ∃ (lf ls lw : Addr) (fr : List Nat) (S W : List Int) (L w : Int), vs = [.ref lf, .ref ls, .ref lw, .int L, .int w] ∧ SqL K H lf (nv fr) ∧ SqL K H ls (S.map V.int) ∧ SqL K H lw (W.map V.int) ∧
  S.length = W.length ∧ fr.length ≤ 16000 ∧ (∀ k, k ∈ fr → k < S.length) ∧ (∀ k, 0 ≤ W.getD k 0 ∧ W.getD k 0 < 2 ^ 62) ∧ (0 ≤ w ∧ w < 2 ^ 62) ∧
  ∀ (l : Addr) (H' : Hp), Same H H' → H l = none → H' l = some (.lst (nv (fr.filter fun k => hit L w (zk S W k)))) → Q (.ref l) H'
def sp_changed_lengths (K : PySem.W.Frag) (t : Adr) : Sp := fun vs H Q _ => ∃ (lw p l : Addr) (wi ps : List Int) (sgn D : Int), vs = [.ref lw, .int sgn, .ref p] ∧ SqL K H lw (wi.map V.int) ∧ H p = some (.tup [.ref l, .int D]) ∧ H l = some (.lst (ps.map V.int)) ∧
  wi.length = ps.length ∧ wi.length ≤ 16000 ∧ (0 < D ∧ D < 1073741824) ∧ (-2 < sgn ∧ sgn < 2) ∧
  ∀ (l' : Addr) (H' : Hp), Same H H' → H l' = none → H' l' = some (.lst ((lens wi ps sgn D wi.length).map V.int)) → Q (.ref l') H'
section
variable {P : Program} {w : World} {K : PySem.W.Frag} {mg : Str → Option Value} {base : Heap} {t : Adr}
theorem ok_Thing_init (T : Txt K mg t) : FnOk P w K mg base CX0 1 t.f_Thing_init t.fd_Thing_init ["self", "least", "wish", "most", "grow", "give"] (sp_Thing_init t) := by
  refine T.F_Thing_init.ok sc_Thing_init (fun vs H Q E h => ?_) (fun cdv A outer s H vs Q E hr h => ?_)
  · obtain ⟨p, dx, x, rfl, _⟩ := h
    rfl
  · obtain ⟨p, dx, x, rfl, h1, k⟩ := h
    refine ⟨_, (pss_cons (ps_fld (pv 0) (pv 1) rfl)
      (pss_cons (ps_fld (pv 0) (pv 2) rfl)
      (pss_cons (ps_fld (pv 0) (pv 3) rfl)
      (pss_cons (ps_fld (pv 0) (pv 4) rfl)
      (pss_one (ps_fld (pv 0) (pv 5) rfl)))))), ?_⟩
    refine ⟨_, rfl, _, rfl, p, _, dx, _, rfl, h1, T.c_Thing, T.n_Thing_least, (by show 0 < 1000; decide), ?_⟩
    refine ⟨_, rfl, _, rfl, p, _, dx, _, rfl, upd_same, T.c_Thing, T.n_Thing_wish, (by show 1 < 1000; decide), ?_⟩
    refine ⟨_, rfl, _, rfl, p, _, dx, _, rfl, upd_same, T.c_Thing, T.n_Thing_most, (by show 2 < 1000; decide), ?_⟩
    refine ⟨_, rfl, _, rfl, p, _, dx, _, rfl, upd_same, T.c_Thing, T.n_Thing_grow, (by show 3 < 1000; decide), ?_⟩
    refine ⟨_, rfl, _, rfl, p, _, dx, _, rfl, upd_same, T.c_Thing, T.n_Thing_give, (by show 4 < 1000; decide), ?_⟩
    refine k _ upd_same fun b o e hb => ?_
    rw [upd_ne hb, upd_ne hb, upd_ne hb, upd_ne hb, upd_ne hb]
    exact e
theorem ok_full_ones (T : Txt K mg t) : FnOk P w K mg base CX0 1 t.f_full_ones t.fd_full_ones ["free", "spans", "weights", "left", "weight"] (sp_full_ones K t) := by
  refine T.F_full_ones.ok sc_full_ones (fun vs H Q E h => ?_) (fun cdv A outer s H vs Q E hr h => ?_)
  · obtain ⟨lf, ls, lw, fr, S, W, L, wt, rfl, _⟩ := h
    rfl
  · obtain ⟨lf, ls, lw, fr, S, W, L, wt, rfl, hf, hS, hW, hl, hn, hlt, hL, hw, k⟩ := h
    refine ⟨_, (pss_one (ps_ret (pe_lc (own := [("k", 5)]) rfl sc_full_ones.nd (pi_list (pv 0)) (blkOk_by rfl) (fun _ _ _ _ _ => (pg_name (i := 5) sc_full_ones.nd rfl (Or.inl rfl))) (fun _ _ _ _ _ => (pts_one (pt_cmpR op_ge (pe_op op_mul (pv 3) (pe_ix (ix_listK (K := K) rfl) (pv 2) (pv 5) (fun _ _ => rfl))) (pe_op op_mul (pe_ix (ix_listK (K := K) rfl) (pv 1) (pv 5) (fun _ _ => rfl)) (pv 4)) (nomark _)))) (fun _ _ _ _ _ => (pv 5))))), ?_⟩
    have nl : (nv fr).length = fr.length := by simp [nv]
    refine ⟨_, rfl, lf, rfl, ⟨_, hf⟩, fun D hD => lc_list (K := K) (a := lf) (xs := nv fr) (LcP H D fun i => nv ((fr.take i).filter fun k => hit L wt (zk S W k))) (LcP.start hD rfl) (fun i H' _ q => q.1.seq hf) (fun i x H' hx q => ?_) fun H' q => ?_⟩
    · obtain ⟨kk, hk, rfl⟩ := nv_at hx
      have hks : kk < S.length := hlt kk (List.mem_of_getElem? hk)
      refine ⟨rfl, _, rfl, _, rfl, _, rfl, _, _, _, _, rfl, rfl, q.1.seq hW, iv_at (by omega), _, _, rfl, rfl, .inr ⟨by have := hL kk; omega, by have := hL kk; omega⟩, _, rfl, _, rfl, _, _, _, _, rfl, rfl, q.1.seq hS, iv_at hks, _, rfl, _, _, rfl, rfl, .inr ⟨by omega, by omega⟩, _, _, rfl, rfl, _, rfl, ?_⟩
      have et : fr.take (i + 1) = fr.take i ++ [kk] := take_next hk
      refine ite2 (fun c => ?_) fun c => ?_
      · refine ⟨_, rfl, ?_⟩
        refine q.next hD (Same.refl _) (small_of ?_) ?_
        · have h1 := List.length_filter_le (fun k => hit L wt (zk S W k)) (fr.take i)
          have h2 : (fr.take i).length ≤ fr.length := by rw [List.length_take]; omega
          simp only [nv, List.length_map]
          omega
        · have c : hit L wt (zk S W kk) = true := c
          rw [et, List.filter_append]
          simp [nv, c]
      · have c : ¬ hit L wt (zk S W kk) = true := c
        have e : nv ((fr.take (i + 1)).filter fun k => hit L wt (zk S W k)) = nv ((fr.take i).filter fun k => hit L wt (zk S W k)) := by
          rw [et, List.filter_append]
          simp [nv, c]
        exact q.skip e
    · obtain ⟨s', h'⟩ := q.fin (ys := nv (fr.filter fun k => hit L wt (zk S W k))) (by
        show nv ((fr.take (nv fr).length).filter _) = _
        rw [nl, List.take_of_length_le (Nat.le_refl _)])
      exact k D H' s' hD h'
theorem ok_changed_lengths (T : Txt K mg t) : FnOk P w K mg base CX0 1 t.f_changed_lengths t.fd_changed_lengths ["wishes", "sign", "fair"] (sp_changed_lengths K t) := by
  refine T.F_changed_lengths.ok sc_changed_lengths (fun vs H Q E h => ?_) (fun cdv A outer s H vs Q E hr h => ?_)
  · obtain ⟨lw, p, l, wi, ps, sgn, D, rfl, _⟩ := h
    rfl
  · obtain ⟨lw, p, l, wi, ps, sgn, D, rfl, hw, hp, hl, hlen, hn, hD, hs, k⟩ := h
    refine ⟨_, (pss_cons (ps_set (i := 3) sc_changed_lengths.nd rfl (Or.inl rfl) (pe_ix ix_tup (pv 2) pe_int (fun _ _ => rfl)))
      (pss_cons (ps_set (i := 4) sc_changed_lengths.nd rfl (Or.inl rfl) (pe_ix ix_tup (pv 2) pe_int (fun _ _ => rfl)))
      (pss_cons (ps_set (i := 5) sc_changed_lengths.nd rfl (Or.inl rfl) (pe_lst pa_nil))
      (pss_cons (ps_set (i := 6) sc_changed_lengths.nd rfl (Or.inl rfl) pe_int)
      (pss_cons (ps_set (i := 7) sc_changed_lengths.nd rfl (Or.inl rfl) pe_int)
      (pss_cons (ps_for PassesOwn.never rfl (pi_range1 rfl T.n_range (pa_cons (pe_callB call_len_seq rfl T.n_len PySem.boot_len (pa_cons (pv 0) pa_nil)) pa_nil)) (pg_name (i := 8) sc_changed_lengths.nd rfl (Or.inl rfl))
      (pss_cons (ps_set (i := 6) sc_changed_lengths.nd rfl (Or.inl rfl) (pe_op op_add (pe_op op_add (pv 6) (pe_op op_mul (pe_ix ix_list (pv 0) (pv 8) (fun _ _ => rfl)) (pv 4))) (pe_op op_mul (pv 1) (pe_ix ix_list (pv 3) (pv 8) (fun _ _ => rfl)))))
      (pss_cons (ps_expr (pe_bm PySem.F.plainAttrs_list PySem.F.slot_list_append PySem.F.type_list_append mt_append (pv 5) (pa_cons (pe_op op_sub (pe_op op_fdiv (pv 6) (pv 4)) (pv 7)) pa_nil)))
      (pss_one (ps_set (i := 7) sc_changed_lengths.nd rfl (Or.inl rfl) (pe_op op_fdiv (pv 6) (pv 4)))))))
      (pss_one (ps_ret (pv 5))))))))), ?_⟩
    refine ⟨_, rfl, _, _, _, _, rfl, rfl, SqT.of hp, atI_nat (j := 0) rfl, ?_⟩
    refine ⟨_, rfl, _, _, _, _, rfl, rfl, SqT.of hp, atI_nat (j := 1) rfl, ?_⟩
    refine ⟨Nat.zero_le _, fun r hr0 => ?_⟩
    have s1 : Same H (upd H r (.lst [])) := same_upd hr0
    refine ⟨_, rfl, _, _, rfl, .inl (s1.seq hw), (wi.map V.int).length, rfl, by simp only [List.length_map]; omega, by simp only [List.length_map]; omega, ?_⟩
    refine for_range (n := ((wi.map V.int).length : Int).toNat) (fun i σ H' => ∃ v : Option V, σ = [some (.ref lw), some (.int sgn), some (.ref p), some (.ref l), some (.int D), some (.ref r), some (.int (togs wi ps sgn D i)), some (.int (togs wi ps sgn D i / D)), v] ∧ Same H H' ∧ H' r = some (.lst (((lens wi ps sgn D wi.length).map V.int).take i))) ⟨none, ?_, s1, upd_same⟩ ?_ ?_
    · have e : togs wi ps sgn D 0 = 0 := rfl
      rw [e, Int.zero_ediv]
      rfl
    · rintro i σ H' hi ⟨v, rfl, sm', hr'⟩
      have hi : i < wi.length := by simpa using hi
      have e0 : (0 : Int) + (i : Int) = (i : Nat) := by omega
      rw [e0]
      refine ⟨_, rfl, _, rfl, _, rfl, _, _, _, _, rfl, rfl, sm'.seq hw, iv_at hi, _, rfl, _, _, rfl, rfl, .inr ⟨by omega, by omega⟩, _, _, rfl, rfl, _, rfl, _, rfl, _, rfl, _, _, _, _, rfl, rfl, SqL.of (sm' _ _ hl), iv_at (by omega), _, _, rfl, rfl, .inl ⟨by omega, by omega⟩, _, _, rfl, rfl, ?_⟩
      have et := togs_succ wi ps sgn D i
      have ey : (lens wi ps sgn D wi.length)[i]? = some (togs wi ps sgn D (i + 1) / D - togs wi ps sgn D i / D) := by
        unfold lens
        rw [List.getElem?_map, List.getElem?_range hi]
        rfl
      refine setv (congrArg V.int et.symm) ?_
      refine ⟨_, rfl, tyL hr', _, rfl, _, rfl, _, _, rfl, rfl, hD, _, rfl, _, _, rfl, rfl, _, _, _, rfl, rfl, hr', small_of (by have := List.length_take_le i ((lens wi ps sgn D wi.length).map V.int); simp [lens] at this ⊢; omega), ?_⟩
      refine ⟨_, rfl, _, rfl, _, _, rfl, rfl, hD, ?_⟩
      refine ⟨_, rfl, fun b o e => ?_, ?_⟩
      · rw [upd_ne (ne_of_none e hr0)]
        exact sm' _ _ e
      · rw [upd_same, take_next (by rw [List.getElem?_map, ey]; rfl)]
    · rintro σ H' ⟨v, rfl, sm', hr'⟩
      refine ⟨_, rfl, k r H' sm' hr0 ?_⟩
      rw [hr']
      congr 2
      exact List.take_of_length_le (by simp [lens])
end
end BXP
namespace BXP
open PySem L2 BX
def sp_fair_parts (K : PySem.W.Frag) (t : Adr) : Sp := fun vs H Q _ => ∃ (ls lw : Addr) (S W : List Int) (m : Int), vs = [.ref ls, .ref lw, .int m] ∧ SqL K H ls (S.map V.int) ∧ SqL K H lw (W.map V.int) ∧ S.length = W.length ∧ S.length ≤ 16000 ∧ Gd (S.zip W) ∧ 0 ≤ m ∧ (∀ k, 0 ≤ W.getD k 0 ∧ W.getD k 0 < 2 ^ 62) ∧ W.sum < 1073741824 ∧
  ∀ (p l : Addr) (D : Int) (g : BX.It → Int) (H' : Hp), Same H H' → Lvl (S.zip W) m D g → D < 1073741824 → H' p = some (.tup [.ref l, .int D]) → H' l = some (.lst (((S.zip W).map g).map V.int)) → Q (.ref p) H'
theorem nv_len (l : List Nat) : (nv l).length = l.length := by simp [nv]
theorem nv_flat (l : List Nat) : (nv l).all flatV = true := by
  rw [List.all_eq_true]
  intro x hx
  obtain ⟨k, _, rfl⟩ := List.mem_map.mp hx
  rfl
theorem inV_nv (k : Nat) (l : List Nat) : inV (.int (k : Nat)) (nv l) = decide (k ∈ l) := by
  unfold inV nv
  rw [List.any_map, Bool.eq_iff_iff, List.any_eq_true, decide_eq_true_eq]
  constructor
  · rintro ⟨x, hx, e⟩
    have e : eqV (V.int (x : Nat)) (V.int (k : Nat)) = true := e
    have : (x : Int) = (k : Int) := by simpa [eqV] using e
    have : x = k := by omega
    exact this ▸ hx
  · intro h
    exact ⟨k, h, by show eqV (V.int (k : Nat)) (V.int (k : Nat)) = true; simp [eqV]⟩
theorem ixN_in {n k : Nat} (h : k < n) : ixN n (k : Int) = some k := by
  unfold ixN
  rw [if_pos (by omega), if_pos (by omega)]
  simp
theorem set_range {α : Type} (f : Nat → α) (k : Nat) (v : α) (n : Nat) : ((List.range n).map f).set k v = (List.range n).map fun j => if j = k then v else f j := by
  refine List.ext_getElem (by simp) fun i h1 h2 => ?_
  simp only [List.getElem_set, List.getElem_map, List.getElem_range]
  by_cases e : k = i
  · rw [if_pos e, if_pos e.symm]
  · rw [if_neg e, if_neg fun z => e z.symm]
section
variable {P : Program} {w : World} {K : PySem.W.Frag} {mg : Str → Option Value} {base : Heap} {t : Adr}
theorem ok_fair_parts (T : Txt K mg t) : FnOk P w K mg base CX0 2 t.f_fair_parts t.fd_fair_parts ["spans", "weights", "amount"] (sp_fair_parts K t) := by
  refine T.F_fair_parts.ok sc_fair_parts (fun vs H Q E h => ?_) (fun cdv A outer s H vs Q E hr h => ?_)
  · obtain ⟨ls, lw, S, W, m, rfl, _⟩ := h
    rfl
  · obtain ⟨ls, lw, S, W, m, rfl, hS, hW, hl, hn, gd, hm, hwb, hw, k⟩ := h
    refine ⟨_, (pss_cons (ps_set (i := 3) sc_fair_parts.nd rfl (Or.inl rfl) (pe_callTy (call_list_rng rfl) rfl T.n_list bt_list (pa_cons (pe_callTy call_rng1 rfl T.n_range bt_range (pa_cons (pe_callB call_len_seq rfl T.n_len PySem.boot_len (pa_cons (pv 0) pa_nil)) pa_nil)) pa_nil)))
      (pss_cons (ps_set (i := 4) sc_fair_parts.nd rfl (Or.inl rfl) (pv 2))
      (pss_cons (ps_set (i := 5) sc_fair_parts.nd rfl (Or.inl rfl) (pe_callB (cr_sum rfl) rfl T.n_sum bt_sum (pa_cons (pv 1) pa_nil)))
      (pss_cons (ps_set (i := 6) sc_fair_parts.nd rfl (Or.inr rfl) (pe_call (ok_full_ones T) (hr.mono (by decide)) rfl T.g_full_ones T.k_full_ones T.b_full_ones .nil pass0 (pa_cons (pv 3) (pa_cons (pv 0) (pa_cons (pv 1) (pa_cons (pv 4) (pa_cons (pv 5) pa_nil)))))))
      (pss_cons (ps_while PassesOwn.never (pt_cmpR op_gt (pe_callB call_len_seq rfl T.n_len PySem.boot_len (pa_cons (pv 6) pa_nil)) pe_int (nomark _))
      (pss_cons (ps_setLc (i := 3) (own := [("k", 7)]) rfl sc_fair_parts.nd rfl rfl (sw_true rfl rfl rfl rfl) (pi_list (pv 3)) (blkOk_by rfl) (fun _ _ _ _ _ => (pg_name (i := 7) sc_fair_parts.nd rfl (Or.inl rfl))) (fun _ _ _ _ _ => (pts_one (pt_cmpR (op_notIn_seqK (K := K) rfl) (pv 7) (pv 6) rfl))) (fun _ _ _ _ _ => (pv 7)))
      (pss_cons (ps_set (i := 4) sc_fair_parts.nd rfl (Or.inl rfl) (pe_op op_sub (pv 4) (pe_callB (cr_sum rfl) rfl T.n_sum bt_sum (pa_cons (pe_lc (own := [("k", 7)]) rfl sc_fair_parts.nd (pi_list (pv 6)) (blkOk_by rfl) (fun _ _ _ _ _ => (pg_name (i := 7) sc_fair_parts.nd rfl (Or.inl rfl))) (fun _ _ _ _ _ => pts_nil) (fun _ _ _ _ _ => (pe_ix (ix_listK (K := K) rfl) (pv 0) (pv 7) (fun _ _ => rfl)))) pa_nil))))
      (pss_cons (ps_set (i := 5) sc_fair_parts.nd rfl (Or.inl rfl) (pe_op op_sub (pv 5) (pe_callB (cr_sum rfl) rfl T.n_sum bt_sum (pa_cons (pe_lc (own := [("k", 7)]) rfl sc_fair_parts.nd (pi_list (pv 6)) (blkOk_by rfl) (fun _ _ _ _ _ => (pg_name (i := 7) sc_fair_parts.nd rfl (Or.inl rfl))) (fun _ _ _ _ _ => pts_nil) (fun _ _ _ _ _ => (pe_ix (ix_listK (K := K) rfl) (pv 1) (pv 7) (fun _ _ => rfl)))) pa_nil))))
      (pss_one (ps_set (i := 6) sc_fair_parts.nd rfl (Or.inr rfl) (pe_call (ok_full_ones T) (hr.mono (by decide)) rfl T.g_full_ones T.k_full_ones T.b_full_ones .nil pass0 (pa_cons (pv 3) (pa_cons (pv 0) (pa_cons (pv 1) (pa_cons (pv 4) (pa_cons (pv 5) pa_nil))))))))))))
      (pss_cons (ps_set (i := 8) sc_fair_parts.nd rfl (Or.inr rfl) (pe_ifExp (pt_cmpR op_gt (pe_callB call_len_seq rfl T.n_len PySem.boot_len (pa_cons (pv 3) pa_nil)) pe_int (nomark _)) (pv 5) pe_int))
      (pss_cons (ps_setLc (i := 9) (own := [("span", 10)]) rfl sc_fair_parts.nd rfl rfl (sw_true rfl rfl rfl rfl) (pi_list (pv 0)) (blkOk_by rfl) (fun _ _ _ _ _ => (pg_name (i := 10) sc_fair_parts.nd rfl (Or.inl rfl))) (fun _ _ _ _ _ => pts_nil) (fun _ _ _ _ _ => (pe_op op_mul (pv 10) (pv 8))))
      (pss_cons (ps_for PassesOwn.never rfl (pi_list (pv 3)) (pg_name (i := 7) sc_fair_parts.nd rfl (Or.inl rfl))
      (pss_one (ps_asg (pe_op op_mul (pv 4) (pe_ix ix_list (pv 1) (pv 7) (fun _ _ => rfl))) (pg_sub (pv 9) (pv 7) set_list))))
      (pss_one (ps_ret (pe_tup (pa_cons (pv 9) (pa_cons (pv 8) pa_nil))))))))))))), ?_⟩
    have Wl : ∀ u, Wt (S.zip W) u < 1073741824 := fun u => by
      have h1 := Wt_le gd u
      have h2 : sm Prod.snd (S.zip W) = W.sum := weight_start hl
      omega
    have W0 : ∀ u, 0 ≤ Wt (S.zip W) u := fun u => Wt_nonneg gd u
    have fl : ∀ u, (frees S W u).length ≤ 16000 := fun u => by have := frees_le S W u; omega
    have fm : ∀ u k, k ∈ frees S W u → k < S.length := fun u k h => (mem_frees.mp h).1
    have full_le : ∀ u L w, (fulls S W u L w).length ≤ 16000 := fun u L w => by
      have h1 := fl u
      have h2 : (fulls S W u L w).length ≤ (frees S W u).length := List.length_filter_le _ _
      omega
    refine ⟨_, rfl, ls, _, rfl, .inl hS, _, rfl, fun p hp => ⟨p, (S.map V.int).length, rfl, upd_same, by rw [List.length_map]; omega, fun l hl0 => ?_⟩⟩
    have s1 : Same H (upd (upd H p (.rng 0 ((S.map V.int).length : Nat))) l (.lst ((List.range (S.map V.int).length).map fun i => V.int ((i : Nat) : Int)))) := (same_upd hp).trans (same_upd hl0)
    have g1 : (upd (upd H p (.rng 0 ((S.map V.int).length : Nat))) l (.lst ((List.range (S.map V.int).length).map fun i => V.int ((i : Nat) : Int)))) l = some (.lst (nv (frees S W fun _ => true))) := by
      rw [upd_same, frees_start, List.length_map]
      rfl
    generalize (upd (upd H p (.rng 0 ((S.map V.int).length : Nat))) l (.lst ((List.range (S.map V.int).length).map fun i => V.int ((i : Nat) : Int)))) = H1 at s1 g1
    refine ⟨_, rfl, ?_⟩
    refine ⟨_, rfl, lw, W, rfl, s1.seq hW, ?_⟩
    refine ⟨_, rfl, _, rfl, _, rfl, _, rfl, _, rfl, l, ls, lw, frees S W (fun _ => true), S, W, m, W.sum, rfl, SqL.of g1, s1.seq hS, s1.seq hW, hl, fl _, fm _, hwb, by rw [← weight_start hl]; exact ⟨W0 _, by have := Wl fun _ => true; omega⟩, fun lf H2 s2 hlf0 hlf => ?_⟩
    -- the rounds
    refine ⟨fun μ σ H' => ∃ (u : BX.It → Bool) (l lf : Addr), σ = [some (.ref ls), some (.ref lw), some (.int m), some (.ref l), some (.int (Lf (S.zip W) m u)), some (.int (Wt (S.zip W) u)), some (.ref lf), none, none, none, none] ∧ Same H H' ∧ H' l = some (.lst (nv (frees S W u))) ∧
      H' lf = some (.lst (nv (fulls S W u (Lf (S.zip W) m u) (Wt (S.zip W) u)))) ∧ Rnd (S.zip W) m u ∧ μ = (frees S W u).length, ⟨_, fun _ => true, l, lf, ?_, s1.trans s2, s2 _ _ g1, ?_, Rnd.start hm, rfl⟩, ?_⟩
    · rw [left_start, weight_start hl]
      rfl
    · rw [left_start, weight_start hl]
      exact hlf
    rintro μ σ H' ⟨u, l, lf, rfl, sm', hfree, hfull, rd, rfl⟩
    have L0 := rd.lf
    refine ⟨_, rfl, lf, _, rfl, .inl (SqL.of hfull), _, _, rfl, rfl, _, rfl, ite2 (fun c => ?_) fun c => ?_⟩
    · -- a round
      have hne : fulls S W u (Lf (S.zip W) m u) (Wt (S.zip W) u) ≠ [] := fun z => by
        have c := of_decide_eq_true c
        rw [nv_len, z] at c
        simp at c
      refine ⟨fun σ' H'' => ∃ (l lf : Addr), σ' = [some (.ref ls), some (.ref lw), some (.int m), some (.ref l), some (.int (Lf (S.zip W) m fun z => u z && !hit (Lf (S.zip W) m u) (Wt (S.zip W) u) z)), some (.int (Wt (S.zip W) fun z => u z && !hit (Lf (S.zip W) m u) (Wt (S.zip W) u) z)), some (.ref lf), none, none, none, none] ∧
        Same H H'' ∧ H'' l = some (.lst (nv (frees S W fun z => u z && !hit (Lf (S.zip W) m u) (Wt (S.zip W) u) z))) ∧
        H'' lf = some (.lst (nv (fulls S W (fun z => u z && !hit (Lf (S.zip W) m u) (Wt (S.zip W) u) z) (Lf (S.zip W) m fun z => u z && !hit (Lf (S.zip W) m u) (Wt (S.zip W) u) z) (Wt (S.zip W) fun z => u z && !hit (Lf (S.zip W) m u) (Wt (S.zip W) u) z)))), ?_, ?_⟩
      · rintro σ' H'' ⟨l2, lf2, rfl, a1, a2, a3⟩
        exact ⟨_, frees_less hne, _, l2, lf2, rfl, a1, a2, a3, rd.step gd _ fun z hz _ hb => of_decide_eq_true hb, rfl⟩
      have rd' := rd.step gd (hit (Lf (S.zip W) m u) (Wt (S.zip W) u)) fun z hz _ hb => of_decide_eq_true hb
      have L0' := rd'.lf
      have fr_eq := frees_step S W u (Lf (S.zip W) m u) (Wt (S.zip W) u)
      have lf_eq := left_step hl m u (Lf (S.zip W) m u) (Wt (S.zip W) u)
      have wt_eq := weight_step hl u (Lf (S.zip W) m u) (Wt (S.zip W) u)
      have mf : ∀ k, k ∈ fulls S W u (Lf (S.zip W) m u) (Wt (S.zip W) u) → k < S.length := fun k h => fm u k (List.mem_filter.mp h).1
      have fle := full_le u (Lf (S.zip W) m u) (Wt (S.zip W) u)
      generalize hU : (fun z => u z && !hit (Lf (S.zip W) m u) (Wt (S.zip W) u) z) = u' at *
      generalize hF : fulls S W u (Lf (S.zip W) m u) (Wt (S.zip W) u) = F at *
      -- free
      refine ⟨_, rfl, l, rfl, ⟨_, SqL.of hfree⟩, fun D hD => lc_list (K := K) (a := l) (xs := nv (frees S W u)) (LcP H' D fun i => nv (((frees S W u).take i).filter fun k => !decide (k ∈ F))) (LcP.start hD rfl) (fun i H'' _ q => SqL.of (q.1 _ _ hfree)) (fun i x H'' hx q => ?_) fun H'' q => ?_⟩
      · obtain ⟨kk, hk, rfl⟩ := nv_at hx
        have et : (frees S W u).take (i + 1) = (frees S W u).take i ++ [kk] := take_next hk
        refine ⟨rfl, _, rfl, _, rfl, lf, _, rfl, .inl (SqL.of (q.1 _ _ hfull)), rfl, nv_flat _, _, rfl, ?_⟩
        refine ite2 (fun c => ?_) fun c => ?_
        · have c : (!decide (kk ∈ F)) = true := by rw [← inV_nv]; exact c
          refine ⟨_, rfl, q.next hD (Same.refl _) (small_of ?_) ?_⟩
          · have h1 := List.length_filter_le (fun k => !decide (k ∈ F)) ((frees S W u).take i)
            have h2 : ((frees S W u).take i).length ≤ (frees S W u).length := by rw [List.length_take]; omega
            have h3 := fl u
            simp only [nv, List.length_map]
            omega
          · show nv _ = nv _ ++ _
            rw [et, List.filter_append]
            simp only [List.filter_cons, c, if_true, List.filter_nil]
            simp [nv]
        · have c : ¬ (!decide (kk ∈ F)) = true := by rw [← inV_nv]; exact c
          refine q.skip ?_
          show nv _ = nv _
          rw [et, List.filter_append]
          simp only [List.filter_cons, if_neg c, List.filter_nil, List.append_nil]
      obtain ⟨s3, g3⟩ := q.fin (ys := nv (frees S W u')) (by
        show nv (((frees S W u).take (nv (frees S W u)).length).filter _) = _
        rw [nv_len, List.take_of_length_le (Nat.le_refl _), fr_eq])
      -- left
      refine ⟨_, rfl, _, rfl, lf, rfl, ⟨_, SqL.of (s3 _ _ hfull)⟩, fun D2 hD2 => lc_list (K := K) (a := lf) (xs := nv F) (LcP H'' D2 fun i => ((F.map fun k => S.getD k 0).map V.int).take i) (LcP.start hD2 rfl) (fun i H3 _ q => SqL.of (q.1 _ _ (s3 _ _ hfull))) (fun i x H3 hx q => ?_) fun H3 q => ?_⟩
      · obtain ⟨kk, hk, rfl⟩ := nv_at hx
        have hks := mf kk (List.mem_of_getElem? hk)
        refine ⟨rfl, _, rfl, _, rfl, ls, _, _, _, rfl, rfl, q.1.seq (s3.seq (sm'.seq hS)), iv_at hks, q.next hD2 (Same.refl _) (small_of ?_) (take_next ?_)⟩
        · simp only [List.length_take, List.length_map]
          omega
        · rw [List.getElem?_map, List.getElem?_map, hk]
          rfl
      obtain ⟨s4, g4⟩ := q.fin (ys := (F.map fun k => S.getD k 0).map V.int) (List.take_of_length_le (by simp [nv_len]))
      refine ⟨D2, _, rfl, SqL.of g4, _, _, rfl, rfl, setv (congrArg V.int lf_eq) ?_⟩
      -- weight
      refine ⟨_, rfl, _, rfl, lf, rfl, ⟨_, SqL.of (s4 _ _ (s3 _ _ hfull))⟩, fun D3 hD3 => lc_list (K := K) (a := lf) (xs := nv F) (LcP H3 D3 fun i => ((F.map fun k => W.getD k 0).map V.int).take i) (LcP.start hD3 rfl) (fun i H4 _ q => SqL.of (q.1 _ _ (s4 _ _ (s3 _ _ hfull)))) (fun i x H4 hx q => ?_) fun H4 q => ?_⟩
      · obtain ⟨kk, hk, rfl⟩ := nv_at hx
        have hks := mf kk (List.mem_of_getElem? hk)
        refine ⟨rfl, _, rfl, _, rfl, lw, _, _, _, rfl, rfl, q.1.seq (s4.seq (s3.seq (sm'.seq hW))), iv_at (by omega), q.next hD3 (Same.refl _) (small_of ?_) (take_next ?_)⟩
        · simp only [List.length_take, List.length_map]
          omega
        · rw [List.getElem?_map, List.getElem?_map, hk]
          rfl
      obtain ⟨s5, g5⟩ := q.fin (ys := (F.map fun k => W.getD k 0).map V.int) (List.take_of_length_le (by simp [nv_len]))
      refine ⟨D3, _, rfl, SqL.of g5, _, _, rfl, rfl, setv (congrArg V.int wt_eq) ?_⟩
      -- full
      have sA : Same H' H4 := s3.trans (s4.trans s5)
      have g3' := (s4.trans s5) _ _ g3
      refine ⟨_, rfl, _, rfl, _, rfl, _, rfl, _, rfl, D, ls, lw, frees S W u', S, W, Lf (S.zip W) m u', Wt (S.zip W) u', rfl, SqL.of g3', sA.seq (sm'.seq hS), sA.seq (sm'.seq hW), hl, fl _, fm _, hwb, ⟨W0 _, by have := Wl u'; omega⟩, fun lf2 H5 s6 hlf0 hlf2 => ?_⟩
      exact ⟨D, lf2, rfl, sm'.trans (sA.trans s6), s6 _ _ g3', hlf2⟩
    · -- none is full any more
      have hnil : fulls S W u (Lf (S.zip W) m u) (Wt (S.zip W) u) = [] := by
        cases hz : fulls S W u (Lf (S.zip W) m u) (Wt (S.zip W) u) with
        | nil => rfl
        | cons x r =>
          refine absurd (decide_eq_true ?_) c
          rw [nv_len, hz]
          simp
      obtain ⟨e1, e2⟩ := rnd_end hl gd rd hnil
      obtain ⟨B, g, hL, hB, hg, b1, b2⟩ : ∃ (B : Int) (g : BX.It → Int), Lvl (S.zip W) m B g ∧ B < 1073741824 ∧ (∀ k, k < S.length → g (zk S W k) = if k ∈ frees S W u then Lf (S.zip W) m u * W.getD k 0 else S.getD k 0 * B) ∧
          (decide ((0 : Int) < ((nv (frees S W u)).length : Nat)) = true → Wt (S.zip W) u = B) ∧ (¬ decide ((0 : Int) < ((nv (frees S W u)).length : Nat)) = true → 1 = B) := by
        by_cases hz : frees S W u = []
        · refine ⟨1, _, e1 hz, by decide, fun k hk => ?_, fun c => ?_, fun _ => rfl⟩
          · rw [hz]
            simp [zk]
          · have c := of_decide_eq_true c
            rw [nv_len, hz] at c
            simp at c
        · refine ⟨_, _, e2 hz, Wl u, fun k hk => ?_, fun _ => rfl, fun c => absurd (decide_eq_true ?_) c⟩
          · by_cases hu : u (zk S W k) = true
            · rw [if_pos hu, if_pos (mem_frees.mpr ⟨hk, hu⟩)]
              rfl
            · rw [if_neg hu, if_neg fun z => hu (mem_frees.mp z).2]
              rfl
          · rw [nv_len]
            have := List.length_pos_iff.mpr hz
            omega
      have hB0 := hL.pos
      refine ⟨_, rfl, l, _, rfl, .inl (SqL.of hfree), _, _, rfl, rfl, _, rfl, ite2 (fun c => ⟨_, rfl, setv (congrArg V.int (b1 c)) ?_⟩) fun c => setv (congrArg V.int (b2 c)) ?_⟩
      all_goals
        refine ⟨_, rfl, ls, rfl, ⟨_, sm'.seq hS⟩, fun D hD => lc_list (K := K) (a := ls) (xs := S.map V.int) (LcP H' D fun i => ((S.map fun x => x * B).map V.int).take i) (LcP.start hD rfl) (fun i H'' _ q => q.1.seq (sm'.seq hS)) (fun i x H'' hx q => ?_) fun H'' q => ?_⟩
        · rw [List.getElem?_map] at hx
          obtain ⟨x', hx', rfl⟩ := Option.map_eq_some_iff.mp hx
          refine ⟨rfl, _, rfl, _, rfl, _, _, rfl, rfl, .inr ⟨by omega, by omega⟩, q.next hD (Same.refl _) (small_of ?_) (take_next ?_)⟩
          · simp only [List.length_take, List.length_map]
            omega
          · rw [List.getElem?_map, List.getElem?_map, hx']
            rfl
        obtain ⟨s3, g3⟩ := q.fin (ys := (S.map fun x => x * B).map V.int) (List.take_of_length_le (by simp))
        have hDl : l ≠ D := ne_of_none hfree hD
        have hD0 : H D = none := sm'.free hD
        refine ⟨_, rfl, l, rfl, ⟨_, SqL.of (s3 _ _ hfree)⟩, for_list (K := K) (a := l) (xs := nv (frees S W u)) (fun i σ H2 => ∃ v : Option V, σ = [some (.ref ls), some (.ref lw), some (.int m), some (.ref l), some (.int (Lf (S.zip W) m u)), some (.int (Wt (S.zip W) u)), some (.ref lf), v, some (.int B), some (.ref D), none] ∧ Same H H2 ∧ H2 l = some (.lst (nv (frees S W u))) ∧
          H2 D = some (.lst (((List.range S.length).map fun k => if k ∈ (frees S W u).take i then Lf (S.zip W) m u * W.getD k 0 else S.getD k 0 * B).map V.int))) ⟨none, rfl, sm'.trans s3, s3 _ _ hfree, ?_⟩ (fun i σ H2 _ ⟨_, _, _, e, _⟩ => SqL.of e) ?_ ?_⟩
        · rw [g3]
          congr 3
          refine List.ext_getElem (by simp) fun i h1 h2 => ?_
          have hi : i < S.length := by simpa using h1
          simp [List.getD_eq_getElem?_getD, List.getElem?_eq_getElem hi]
        · rintro i x σ H2 hx ⟨v, rfl, sm2, hl2, hD2⟩
          obtain ⟨kk, hk, rfl⟩ := nv_at hx
          have hks := fm u kk (List.mem_of_getElem? hk)
          refine ⟨_, rfl, _, rfl, _, rfl, lw, _, _, _, rfl, rfl, sm2.seq hW, iv_at (by omega), _, _, rfl, rfl, .inr ⟨by have := hwb kk; omega, by have := hwb kk; omega⟩, _, rfl, _, rfl, D, _, _, kk, rfl, rfl, hD2, ixN_in (by simpa using hks), ?_⟩
          refine ⟨_, rfl, fun b o e => ?_, ?_, ?_⟩
          · rw [upd_ne (ne_of_none e hD0)]
            exact sm2 _ _ e
          · rw [upd_ne hDl]
            exact hl2
          · rw [upd_same, ← List.map_set, set_range, take_next hk]
            congr 3
            refine List.map_congr_left fun j _ => ?_
            by_cases ej : j = kk
            · rw [if_pos ej, if_pos (by simp [ej]), ej]
            · rw [if_neg ej]
              simp [ej]
        · rintro σ H2 ⟨v, rfl, sm2, hl2, hD2⟩
          refine ⟨_, rfl, _, rfl, (by show 2 ≤ sizeLine; decide), fun p hp => k p D B g _ (sm2.trans (same_upd hp)) hL hB upd_same ?_⟩
          rw [upd_ne (ne_of_none hD2 hp), hD2]
          congr 3
          have ez : (S.zip W).map g = (List.range S.length).map fun k => g (zk S W k) := by
            rw [zip_range hl, List.map_map]
            rfl
          rw [ez, nv_len, List.take_of_length_le (Nat.le_refl _)]
          refine List.map_congr_left fun j hj => ?_
          exact (hg j (by simpa using hj)).symm
end
end BXP
namespace BXP
open PySem L2 BX
theorem paired_mono {α β : Type} {G G' : α → β → Prop} (f : ∀ a b, G a b → G' a b) : ∀ {l : List α} {l' : List β}, Paired G l l' → Paired G' l l'
  | _, _, .nil => .nil
  | _, _, .cons h t => .cons (f _ _ h) (paired_mono f t)
theorem refs_get {G : Addr → Prop} {β : Type} {ads : List Addr} {i : Nat} {x : V} (h : (ads.map V.ref)[i]? = some x) : ∃ a, ads[i]? = some a ∧ x = .ref a := by
  rw [List.getElem?_map] at h
  obtain ⟨a, e1, e2⟩ := Option.map_eq_some_iff.mp h
  exact ⟨a, e1, e2.symm⟩
def boundsL (l : List Kp174.One) : Prop := ∀ x, x ∈ l → x.grow < 256 ∧ x.give < 256
def sp_shared_lengths (t : Adr) : Sp := fun vs H Q _ => ∃ (l : Addr) (ads : List Addr) (xs : List Kp174.One) (n : Nat), vs = [.ref l, .int (n : Nat)] ∧ H l = some (.lst (ads.map V.ref)) ∧ Paired (ThingAt t H) ads xs ∧ goodL xs ∧ boundsL xs ∧ xs.length ≤ 1000 ∧
  ∀ (l' : Addr) (H' : Hp), Same H H' → H l' = none → H' l' = some (.lst ((Kp174.sizes n xs).map V.int)) → Q (.ref l') H'
theorem sum_small {up : Bool} : ∀ {l : List Kp174.One}, boundsL l → ((l.map (itm up)).map Prod.snd).sum ≤ 255 * l.length
  | [], _ => by simp
  | x :: l, h => by
    have h1 := h x (by simp)
    have h2 := sum_small (up := up) (l := l) fun y hy => h y (by simp [hy])
    rw [List.map_cons, List.map_cons, List.sum_cons, List.length_cons]
    have : (itm up x).2 ≤ 255 := by cases up <;> simp [itm] <;> omega
    omega
theorem getD_small {up : Bool} {l : List Kp174.One} (h : boundsL l) (k : Nat) : 0 ≤ (((l.map (itm up)).map Prod.snd)).getD k 0 ∧ (((l.map (itm up)).map Prod.snd)).getD k 0 < 2 ^ 62 := by
  rw [List.getD_eq_getElem?_getD, List.getElem?_map, List.getElem?_map]
  cases e : l[k]? with
  | none => exact ⟨Int.le_refl 0, by show (0 : Int) < 2 ^ 62; decide⟩
  | some x =>
    have hx := h x (List.mem_of_getElem? e)
    show 0 ≤ (itm up x).2 ∧ (itm up x).2 < 2 ^ 62
    cases up <;> simp [itm] <;> omega
theorem zip_unzip (l : List BX.It) : (l.map Prod.fst).zip (l.map Prod.snd) = l := by
  induction l with
  | nil => rfl
  | cons x l ih => rw [List.map_cons, List.map_cons, List.zip_cons_cons, ih]
section
variable {P : Program} {w : World} {K : PySem.W.Frag} {mg : Str → Option Value} {base : Heap} {t : Adr}
theorem ok_shared_lengths (T : Txt K mg t) : FnOk P w K mg base CX0 3 t.f_shared_lengths t.fd_shared_lengths ["things", "length"] (sp_shared_lengths t) := by
  refine T.F_shared_lengths.ok sc_shared_lengths (fun vs H Q E h => ?_) (fun cdv A outer s H vs Q E hr h => ?_)
  · obtain ⟨l, ads, xs, n, rfl, _⟩ := h
    rfl
  · obtain ⟨l, ads, xs, n, rfl, hl, pr, hg, hb, hn, k⟩ := h
    refine ⟨_, (pss_cons (ps_setLc (i := 2) (own := [("thing", 3)]) rfl sc_shared_lengths.nd rfl rfl (sw_true rfl rfl rfl rfl) (pi_list (pv 0)) (blkOk_by rfl) (fun _ _ _ _ _ => (pg_name (i := 3) sc_shared_lengths.nd rfl (Or.inl rfl))) (fun _ _ _ _ _ => pts_nil) (fun _ _ _ _ _ => (pe_fldK (K := K) rfl (pv 3) rfl)))
      (pss_cons (ps_set (i := 4) sc_shared_lengths.nd rfl (Or.inl rfl) (pe_op op_sub (pv 1) (pe_callB (cr_sum rfl) rfl T.n_sum bt_sum (pa_cons (pv 2) pa_nil))))
      (pss_cons (ps_if (pt_cmpR op_gt (pv 4) pe_int (nomark _))
      (pss_cons (ps_setLc (i := 5) (own := [("thing", 3)]) rfl sc_shared_lengths.nd rfl rfl (sw_true rfl rfl rfl rfl) (pi_list (pv 0)) (blkOk_by rfl) (fun _ _ _ _ _ => (pg_name (i := 3) sc_shared_lengths.nd rfl (Or.inl rfl))) (fun _ _ _ _ _ => pts_nil) (fun _ _ _ _ _ => (pe_fldK (K := K) rfl (pv 3) rfl)))
      (pss_cons (ps_setLc (i := 6) (own := [("thing", 3)]) rfl sc_shared_lengths.nd rfl rfl (sw_true rfl rfl rfl rfl) (pi_list (pv 0)) (blkOk_by rfl) (fun _ _ _ _ _ => (pg_name (i := 3) sc_shared_lengths.nd rfl (Or.inl rfl))) (fun _ _ _ _ _ => pts_nil) (fun _ _ _ _ _ => (pe_ifExp (pt_cmpR op_gt (pe_fldK (K := K) rfl (pv 3) rfl) pe_int (nomark _)) (pe_op op_sub (pe_fldK (K := K) rfl (pv 3) rfl) (pe_fldK (K := K) rfl (pv 3) rfl)) pe_int)))
      (pss_one (ps_ret (pe_call (ok_changed_lengths T) (hr.mono (by decide)) rfl T.g_changed_lengths T.k_changed_lengths T.b_changed_lengths .nil pass0 (pa_cons (pv 2) (pa_cons pe_int (pa_cons (pe_call (ok_fair_parts T) (hr.mono (by decide)) rfl T.g_fair_parts T.k_fair_parts T.b_fair_parts .nil pass0 (pa_cons (pv 6) (pa_cons (pv 5) (pa_cons (pv 4) pa_nil)))) pa_nil))))))))
      pss_nil)
      (pss_cons (ps_if (pt_cmpR op_lt (pv 4) pe_int (nomark _))
      (pss_cons (ps_setLc (i := 5) (own := [("thing", 3)]) rfl sc_shared_lengths.nd rfl rfl (sw_true rfl rfl rfl rfl) (pi_list (pv 0)) (blkOk_by rfl) (fun _ _ _ _ _ => (pg_name (i := 3) sc_shared_lengths.nd rfl (Or.inl rfl))) (fun _ _ _ _ _ => pts_nil) (fun _ _ _ _ _ => (pe_fldK (K := K) rfl (pv 3) rfl)))
      (pss_cons (ps_setLc (i := 6) (own := [("thing", 3)]) rfl sc_shared_lengths.nd rfl rfl (sw_true rfl rfl rfl rfl) (pi_list (pv 0)) (blkOk_by rfl) (fun _ _ _ _ _ => (pg_name (i := 3) sc_shared_lengths.nd rfl (Or.inl rfl))) (fun _ _ _ _ _ => pts_nil) (fun _ _ _ _ _ => (pe_ifExp (pt_cmpR op_gt (pe_fldK (K := K) rfl (pv 3) rfl) pe_int (nomark _)) (pe_op op_sub (pe_fldK (K := K) rfl (pv 3) rfl) (pe_fldK (K := K) rfl (pv 3) rfl)) pe_int)))
      (pss_one (ps_ret (pe_call (ok_changed_lengths T) (hr.mono (by decide)) rfl T.g_changed_lengths T.k_changed_lengths T.b_changed_lengths .nil pass0 (pa_cons (pv 2) (pa_cons (pe_un un_neg pe_int) (pa_cons (pe_call (ok_fair_parts T) (hr.mono (by decide)) rfl T.g_fair_parts T.k_fair_parts T.b_fair_parts .nil pass0 (pa_cons (pv 6) (pa_cons (pv 5) (pa_cons (pe_un un_neg (pv 4)) pa_nil)))) pa_nil))))))))
      pss_nil)
      (pss_one (ps_ret (pv 2))))))), ?_⟩
    have pl : ads.length = xs.length := Paired.length pr
    have hw : Kp174.wishes xs = sm (fun x => (x.wish : Int)) xs := by
      unfold Kp174.wishes
      rw [sum174]
      rfl
    -- wishes
    refine ⟨_, rfl, l, rfl, ⟨_, SqL.of hl⟩, fun D hD => lc_list (K := K) (a := l) (xs := ads.map V.ref) (LcP H D fun i => ((xs.map fun x => (x.wish : Int)).map V.int).take i) (LcP.start hD rfl) (fun i H' _ q => SqL.of (q.1 _ _ hl)) (fun i x H' hx q => ?_) fun H1 q => ?_⟩
    · obtain ⟨a, ha, rfl⟩ := refs_get (G := fun _ => True) (β := Nat) hx
      obtain ⟨y, hy, dx, hT⟩ := paired_get pr ha
      refine ⟨rfl, _, rfl, a, _, dx, _, _, rfl, q.1 _ _ hT, T.c_Thing, T.n_Thing_wish, rfl, q.next hD (Same.refl _) (small_of ?_) (take_next ?_)⟩
      · simp only [List.length_take, List.length_map]
        omega
      · rw [List.getElem?_map, List.getElem?_map, hy]
        rfl
    obtain ⟨s1, g1⟩ := q.fin (ys := (xs.map fun x => (x.wish : Int)).map V.int) (List.take_of_length_le (by simp [pl]))
    have hl1 := s1 _ _ hl
    have pr1 : Paired (ThingAt t H1) ads xs := paired_mono (fun a b ⟨dx, e⟩ => ⟨dx, s1 _ _ e⟩) pr
    refine ⟨_, rfl, _, rfl, D, _, rfl, SqL.of g1, _, _, rfl, rfl, ?_⟩
    have es : (xs.map fun x => (x.wish : Int)).sum = sm (fun x => (x.wish : Int)) xs := rfl
    refine ⟨_, rfl, _, _, rfl, rfl, _, rfl, ite2 (fun c => ?_) fun c => ?_⟩
    · -- more room than wished
      have c : 0 < (n : Int) - sm (fun x => (x.wish : Int)) xs := of_decide_eq_true c
      have hup : Kp174.upwards n xs = true := by
        unfold Kp174.upwards
        rw [hw]
        exact decide_eq_true (by omega)
      have ea : amt true n xs = n - sm (fun x => (x.wish : Int)) xs := by simp [amt, sg]
      refine ⟨_, rfl, l, rfl, ⟨_, SqL.of hl1⟩, fun D2 hD2 => lc_list (K := K) (a := l) (xs := ads.map V.ref) (LcP H1 D2 fun i => (((xs.map (itm true)).map Prod.snd).map V.int).take i) (LcP.start hD2 rfl) (fun i H' _ q => SqL.of (q.1 _ _ hl1)) (fun i x H' hx q => ?_) fun H2 q => ?_⟩
      · obtain ⟨a, ha, rfl⟩ := refs_get (G := fun _ => True) (β := Nat) hx
        obtain ⟨y, hy, dx, hT⟩ := paired_get pr1 ha
        refine ⟨rfl, _, rfl, a, _, dx, _, _, rfl, q.1 _ _ hT, T.c_Thing, T.n_Thing_grow, rfl, q.next hD2 (Same.refl _) (small_of ?_) (take_next ?_)⟩
        · simp only [List.length_take, List.length_map]
          omega
        · rw [List.getElem?_map, List.getElem?_map, List.getElem?_map, hy]
          rfl
      obtain ⟨s2, g2⟩ := q.fin (ys := ((xs.map (itm true)).map Prod.snd).map V.int) (List.take_of_length_le (by simp [pl]))
      have hl2 := s2 _ _ hl1
      have pr2 : Paired (ThingAt t H2) ads xs := paired_mono (fun a b ⟨dx, e⟩ => ⟨dx, s2 _ _ e⟩) pr1
      refine ⟨_, rfl, l, rfl, ⟨_, SqL.of hl2⟩, fun D3 hD3 => lc_list (K := K) (a := l) (xs := ads.map V.ref) (LcP H2 D3 fun i => (((xs.map (itm true)).map Prod.fst).map V.int).take i) (LcP.start hD3 rfl) (fun i H' _ q => SqL.of (q.1 _ _ hl2)) (fun i x H' hx q => ?_) fun H3 q => ?_⟩
      · obtain ⟨a, ha, rfl⟩ := refs_get (G := fun _ => True) (β := Nat) hx
        obtain ⟨y, hy, dx, hT⟩ := paired_get pr2 ha
        have nx : ∀ v : Int, v = (itm true y).1 → ∃ acc, H' D3 = some (.lst acc) ∧ acc.length < sizeLine ∧ LcP H2 D3 (fun i => (((xs.map (itm true)).map Prod.fst).map V.int).take i) (i + 1) (upd H' D3 (.lst (acc ++ [V.int v]))) := fun v ev =>
          q.next hD3 (Same.refl _) (small_of (by simp only [List.length_take, List.length_map]; omega)) (take_next (by
            rw [List.getElem?_map, List.getElem?_map, List.getElem?_map, hy, ev]
            rfl))
        refine ⟨rfl, _, rfl, a, _, dx, _, _, rfl, q.1 _ _ hT, T.c_Thing, T.n_Thing_grow, rfl, _, _, rfl, rfl, _, rfl, ite2 (fun c => ?_) fun c => ?_⟩
        · have c : 0 < (y.grow : Int) := of_decide_eq_true c
          refine ⟨_, rfl, a, _, dx, _, _, rfl, q.1 _ _ hT, T.c_Thing, T.n_Thing_most, rfl, _, rfl, a, _, dx, _, _, rfl, q.1 _ _ hT, T.c_Thing, T.n_Thing_wish, rfl, _, _, rfl, rfl, nx _ ?_⟩
          simp only [itm, if_true, if_pos (show 0 < y.grow by omega)]
        · refine nx _ ?_
          have c : ¬ 0 < (y.grow : Int) := fun z => c (decide_eq_true z)
          simp only [itm, if_true, if_neg (show ¬ 0 < y.grow by omega)]
      obtain ⟨s3, g3⟩ := q.fin (ys := ((xs.map (itm true)).map Prod.fst).map V.int) (List.take_of_length_le (by simp [pl]))
      have sm0 := sum_small (up := true) hb
      refine ⟨_, rfl, _, rfl, _, rfl, _, rfl, D3, D2, (xs.map (itm true)).map Prod.fst, (xs.map (itm true)).map Prod.snd, _, rfl, SqL.of g3, SqL.of (s3 _ _ g2), by simp, by simp; omega, by rw [zip_unzip]; exact gd_itm hg, by omega, getD_small hb, by omega, fun p lp B g H4 s4 lv hB hp hlp => ?_⟩
      rw [zip_unzip] at lv hlp
      have sA : Same H1 H4 := s2.trans (s3.trans s4)
      refine ⟨D, p, lp, xs.map (fun x => (x.wish : Int)), (xs.map (itm true)).map g, 1, B, rfl, SqL.of (sA _ _ g1), hp, hlp, by simp, by simp; omega, ⟨lv.pos, hB⟩, ⟨by decide, by decide⟩, fun l' H5 s5 hl0 hl' => ?_⟩
      refine k l' H5 (s1.trans (sA.trans s5)) ((s1.trans sA).free hl0) ?_
      rw [hl']
      have lv' : Lvl (xs.map (itm true)) (amt true n xs) B g := by rw [ea]; exact lv
      have := lens_sizes hup hg lv'
      rw [← this]
      simp [sg]
    have c0 : ¬ 0 < (n : Int) - sm (fun x => (x.wish : Int)) xs := fun z => c (decide_eq_true z)
    refine ⟨_, rfl, _, _, rfl, rfl, _, rfl, ite2 (fun c => ?_) fun c => ?_⟩
    · -- less
      have c : (n : Int) - sm (fun x => (x.wish : Int)) xs < 0 := of_decide_eq_true c
      have hup : Kp174.upwards n xs = false := by
        unfold Kp174.upwards
        rw [hw]
        exact decide_eq_false (by omega)
      have ea : amt false n xs = -(n - sm (fun x => (x.wish : Int)) xs) := by simp [amt, sg]
      refine ⟨_, rfl, l, rfl, ⟨_, SqL.of hl1⟩, fun D2 hD2 => lc_list (K := K) (a := l) (xs := ads.map V.ref) (LcP H1 D2 fun i => (((xs.map (itm false)).map Prod.snd).map V.int).take i) (LcP.start hD2 rfl) (fun i H' _ q => SqL.of (q.1 _ _ hl1)) (fun i x H' hx q => ?_) fun H2 q => ?_⟩
      · obtain ⟨a, ha, rfl⟩ := refs_get (G := fun _ => True) (β := Nat) hx
        obtain ⟨y, hy, dx, hT⟩ := paired_get pr1 ha
        refine ⟨rfl, _, rfl, a, _, dx, _, _, rfl, q.1 _ _ hT, T.c_Thing, T.n_Thing_give, rfl, q.next hD2 (Same.refl _) (small_of ?_) (take_next ?_)⟩
        · simp only [List.length_take, List.length_map]
          omega
        · rw [List.getElem?_map, List.getElem?_map, List.getElem?_map, hy]
          rfl
      obtain ⟨s2, g2⟩ := q.fin (ys := ((xs.map (itm false)).map Prod.snd).map V.int) (List.take_of_length_le (by simp [pl]))
      have hl2 := s2 _ _ hl1
      have pr2 : Paired (ThingAt t H2) ads xs := paired_mono (fun a b ⟨dx, e⟩ => ⟨dx, s2 _ _ e⟩) pr1
      refine ⟨_, rfl, l, rfl, ⟨_, SqL.of hl2⟩, fun D3 hD3 => lc_list (K := K) (a := l) (xs := ads.map V.ref) (LcP H2 D3 fun i => (((xs.map (itm false)).map Prod.fst).map V.int).take i) (LcP.start hD3 rfl) (fun i H' _ q => SqL.of (q.1 _ _ hl2)) (fun i x H' hx q => ?_) fun H3 q => ?_⟩
      · obtain ⟨a, ha, rfl⟩ := refs_get (G := fun _ => True) (β := Nat) hx
        obtain ⟨y, hy, dx, hT⟩ := paired_get pr2 ha
        have nx : ∀ v : Int, v = (itm false y).1 → ∃ acc, H' D3 = some (.lst acc) ∧ acc.length < sizeLine ∧ LcP H2 D3 (fun i => (((xs.map (itm false)).map Prod.fst).map V.int).take i) (i + 1) (upd H' D3 (.lst (acc ++ [V.int v]))) := fun v ev =>
          q.next hD3 (Same.refl _) (small_of (by simp only [List.length_take, List.length_map]; omega)) (take_next (by
            rw [List.getElem?_map, List.getElem?_map, List.getElem?_map, hy, ev]
            rfl))
        refine ⟨rfl, _, rfl, a, _, dx, _, _, rfl, q.1 _ _ hT, T.c_Thing, T.n_Thing_give, rfl, _, _, rfl, rfl, _, rfl, ite2 (fun c => ?_) fun c => ?_⟩
        · have c : 0 < (y.give : Int) := of_decide_eq_true c
          refine ⟨_, rfl, a, _, dx, _, _, rfl, q.1 _ _ hT, T.c_Thing, T.n_Thing_wish, rfl, _, rfl, a, _, dx, _, _, rfl, q.1 _ _ hT, T.c_Thing, T.n_Thing_least, rfl, _, _, rfl, rfl, nx _ ?_⟩
          simp only [itm, Bool.false_eq_true, if_false, if_pos (show 0 < y.give by omega)]
        · refine nx _ ?_
          have c : ¬ 0 < (y.give : Int) := fun z => c (decide_eq_true z)
          simp only [itm, Bool.false_eq_true, if_false, if_neg (show ¬ 0 < y.give by omega)]
      obtain ⟨s3, g3⟩ := q.fin (ys := ((xs.map (itm false)).map Prod.fst).map V.int) (List.take_of_length_le (by simp [pl]))
      have sm0 := sum_small (up := false) hb
      refine ⟨_, rfl, _, rfl, _, rfl, _, rfl, _, rfl, _, rfl, D3, D2, (xs.map (itm false)).map Prod.fst, (xs.map (itm false)).map Prod.snd, _, rfl, SqL.of g3, SqL.of (s3 _ _ g2), by simp, by simp; omega, by rw [zip_unzip]; exact gd_itm hg, by omega, getD_small hb, by omega, fun p lp B g H4 s4 lv hB hp hlp => ?_⟩
      rw [zip_unzip] at lv hlp
      have sA : Same H1 H4 := s2.trans (s3.trans s4)
      refine ⟨D, p, lp, xs.map (fun x => (x.wish : Int)), (xs.map (itm false)).map g, -1, B, rfl, SqL.of (sA _ _ g1), hp, hlp, by simp, by simp; omega, ⟨lv.pos, hB⟩, ⟨by decide, by decide⟩, fun l' H5 s5 hl0 hl' => ?_⟩
      refine k l' H5 (s1.trans (sA.trans s5)) ((s1.trans sA).free hl0) ?_
      rw [hl']
      have lv' : Lvl (xs.map (itm false)) (amt false n xs) B g := by rw [ea]; exact lv
      have := lens_sizes hup hg lv'
      rw [← this]
      simp [sg]
    · have c : ¬ (n : Int) - sm (fun x => (x.wish : Int)) xs < 0 := fun z => c (decide_eq_true z)
      refine ⟨_, rfl, k D H1 s1 hD ?_⟩
      rw [sizes_wish hg (by omega)]
      exact g1
end
end BXP
namespace BXP
open PySem L2 BX
def content (r : Kp175.Rule) (d : Nat) (l : List Nat) : Nat := if r.kind = d then Kp175.total l + r.gap * (l.length - 1) + 2 * r.pad else Kp175.greatest l + 2 * r.pad
def natLen (r : Kp175.Rule) (d : Nat) (l : List Nat) : Nat := min (max (r.wish.of d) (if r.kind = 2 then 0 else content r d l)) (r.most.of d)
def restOf (rest over k n : Nat) : Nat := if rest = 0 then 0 else if rest = 1 then over / 2 else if rest = 2 then over else if n = 1 then 0 else k * over / (n - 1)
def sideOf (q : Kp175.Rule) (d : Nat) (room : Int) (n : Nat) : Int × Int := if q.side = 0 then (0, min (max room (q.least.of d)) (q.most.of d)) else (if q.side = 1 then 0 else if q.side = 2 then Int.fdiv (room - n) 2 else room - n, n)
def pbeg (p : Kp175.Place) (d : Nat) : Int := if d = 0 then p.x else p.y
def psz (p : Kp175.Place) (d : Nat) : Int := if d = 0 then p.w else p.h
def plV (p : Kp175.Place) : List V := [.int p.x, .int p.y, .int p.w, .int p.h]
theorem plV_beg (p : Kp175.Place) {d : Nat} (h : d < 2) : atI (plV p) (d : Int) = some (.int (pbeg p d)) := by
  match d, h with
  | 0, _ => exact atI_nat (j := 0) rfl
  | 1, _ => exact atI_nat (j := 1) rfl
theorem plV_siz (p : Kp175.Place) {d : Nat} (h : d < 2) : atI (plV p) (2 + (d : Int)) = some (.int (psz p d)) := by
  match d, h with
  | 0, _ => exact atI_nat (j := 2) rfl
  | 1, _ => exact atI_nat (j := 3) rfl
theorem total_sum (l : List Nat) : ((Kp175.total l : Nat) : Int) = (l.map fun (k : Nat) => (k : Int)).sum := by
  unfold Kp175.total
  have : ∀ (l : List Nat) (c : Nat), ((l.foldl (· + ·) c : Nat) : Int) = c + (l.map fun (k : Nat) => (k : Int)).sum := by
    intro l
    induction l with
    | nil => intro c; simp
    | cons x l ih => intro c; rw [List.foldl_cons, ih, List.map_cons, List.sum_cons]; omega
  rw [this]
  simp
theorem greatest_max : ∀ (l : List Nat), (∀ y, y ∈ l → y ≤ Kp175.greatest l) ∧ (Kp175.greatest l = 0 ∨ Kp175.greatest l ∈ l) := by
  unfold Kp175.greatest
  have : ∀ (l : List Nat) (c : Nat), (c ≤ l.foldl max c) ∧ (∀ y, y ∈ l → y ≤ l.foldl max c) ∧ (l.foldl max c = c ∨ l.foldl max c ∈ l) := by
    intro l
    induction l with
    | nil => intro c; simp
    | cons x l ih =>
      intro c
      rw [List.foldl_cons]
      obtain ⟨h1, h2, h3⟩ := ih (max c x)
      refine ⟨by omega, fun y hy => ?_, ?_⟩
      · rcases List.mem_cons.mp hy with rfl | hy
        · omega
        · exact h2 y hy
      · rcases h3 with h3 | h3
        · rcases Nat.le_total c x with c1 | c1
          · rw [Nat.max_eq_right c1] at h3 ⊢
            exact .inr (by rw [h3]; simp)
          · rw [Nat.max_eq_left c1] at h3 ⊢
            exact .inl h3
        · exact .inr (by simp [h3])
  exact fun l => ⟨(this l 0).2.1, (this l 0).2.2⟩
theorem greatest_eq {l : List Nat} {m : Int} (h1 : m ∈ l.map fun (k : Nat) => (k : Int)) (h2 : ∀ y, y ∈ (l.map fun (k : Nat) => (k : Int)) → y ≤ m) : m = (Kp175.greatest l : Nat) := by
  obtain ⟨k, hk, rfl⟩ := List.mem_map.mp h1
  obtain ⟨g1, g2⟩ := greatest_max l
  have a1 := g1 k hk
  rcases g2 with g2 | g2
  · omega
  · have := h2 _ (List.mem_map.mpr ⟨_, g2, rfl⟩)
    omega
theorem nv_ints (l : List Nat) : nv l = (l.map fun (k : Nat) => (k : Int)).map V.int := by simp [nv]
def sp_is_along (t : Adr) : Sp := fun vs H Q _ => ∃ (a : Addr) (r : Kp175.Rule) (own : Own) (d : Nat), vs = [.ref a, .int (d : Nat)] ∧ RuleAt t.C_Rule own H a r ∧ Q (.bl (decide (r.kind = d))) H
def sp_all_gaps (t : Adr) : Sp := fun vs H Q _ => ∃ (a : Addr) (r : Kp175.Rule) (own : Own) (m : Int), vs = [.ref a, .int m] ∧ RuleAt t.C_Rule own H a r ∧ r.gap < 256 ∧ Q (.int (r.gap * (m - 1))) H
def sp_content (K : PySem.W.Frag) (t : Adr) : Sp := fun vs H Q _ => ∃ (a li : Addr) (r : Kp175.Rule) (own : Own) (l : List Nat) (d : Nat), vs = [.ref a, .ref li, .int (d : Nat)] ∧ RuleAt t.C_Rule own H a r ∧ Kp175.isRule r ∧ SqL K H li (nv l) ∧ Q (.int (content r d l : Nat)) H
def sp_nat_len (K : PySem.W.Frag) (t : Adr) : Sp := fun vs H Q _ => ∃ (a li : Addr) (r : Kp175.Rule) (own : Own) (ads : List Addr) (zs : List Kp175.Two) (d : Nat), vs = [.ref a, .ref li, .int (d : Nat)] ∧ RuleAt t.C_Rule own H a r ∧ Kp175.isRule r ∧ d < 2 ∧ H li = some (.lst (ads.map V.ref)) ∧
  Paired (fun a z => H a = some (.tup (twoV z))) ads zs ∧ zs.length ≤ 1000 ∧ ∀ H', Same H H' → Q (.int (natLen r d (zs.map fun z => z.of d) : Nat)) H'
def sp_nat_size (K : PySem.W.Frag) (t : Adr) : Sp := fun vs H Q _ => ∃ (a li : Addr) (r : Kp175.Rule) (own : Own) (ads : List Addr) (zs : List Kp175.Two), vs = [.ref a, .ref li] ∧ RuleAt t.C_Rule own H a r ∧ Kp175.isRule r ∧ H li = some (.lst (ads.map V.ref)) ∧
  Paired (fun a z => H a = some (.tup (twoV z))) ads zs ∧ zs.length ≤ 1000 ∧ ∀ (p : Addr) (H' : Hp), Same H H' → H p = none → H' p = some (.tup (twoV ⟨natLen r 0 (zs.map fun z => z.of 0), natLen r 1 (zs.map fun z => z.of 1)⟩)) → Q (.ref p) H'
def sp_room_in (t : Adr) : Sp := fun vs H Q _ => ∃ (a q : Addr) (r : Kp175.Rule) (own : Own) (p : Kp175.Place) (d : Nat), vs = [.ref a, .ref q, .int (d : Nat)] ∧ RuleAt t.C_Rule own H a r ∧ H q = some (.tup (plV p)) ∧ d < 2 ∧
  ∀ (p' : Addr) (H' : Hp), Same H H' → H p' = none → H' p' = some (.tup [.int (pbeg p d + r.pad), .int (max (psz p d - 2 * r.pad) 0)]) → Q (.ref p') H'
def sp_thing_along (t : Adr) : Sp := fun vs H Q _ => ∃ (a : Addr) (r : Kp175.Rule) (own : Own) (n d : Nat), vs = [.ref a, .int (n : Nat), .int (d : Nat)] ∧ RuleAt t.C_Rule own H a r ∧ d < 2 ∧
  ∀ (x : Addr) (H' : Hp), Same H H' → H x = none → ThingAt t H' x ⟨r.least.of d, n, r.most.of d, r.grow, r.give⟩ → Q (.ref x) H'
def sp_rest (t : Adr) : Sp := fun vs H Q _ => ∃ (rest over k n : Nat), vs = [.int (rest : Nat), .int (over : Nat), .int (k : Nat), .int (n : Nat)] ∧ 1 ≤ n ∧ n ≤ 1000 ∧ k ≤ 1000 ∧ Q (.int (restOf rest over k n : Nat)) H
def sp_side (t : Adr) : Sp := fun vs H Q _ => ∃ (a q : Addr) (r : Kp175.Rule) (own : Own) (b room : Int) (n d : Nat), vs = [.ref a, .ref q, .int (n : Nat), .int (d : Nat)] ∧ RuleAt t.C_Rule own H a r ∧ H q = some (.tup [.int b, .int room]) ∧ d < 2 ∧
  ∀ (p : Addr) (H' : Hp), Same H H' → H p = none → H' p = some (.tup [.int (b + (sideOf r d room n).1), .int (sideOf r d room n).2]) → Q (.ref p) H'
section
variable {P : Program} {w : World} {K : PySem.W.Frag} {mg : Str → Option Value} {base : Heap} {t : Adr}
theorem ok_Rule_is_along (T : Txt K mg t) : FnOk P w K mg base CX0 1 t.f_Rule_is_along t.fd_Rule_is_along ["self", "direction"] (sp_is_along t) := by
  refine T.F_Rule_is_along.ok sc_Rule_is_along (fun vs H Q E h => ?_) (fun cdv A outer s H vs Q E hr h => ?_)
  · obtain ⟨a, r, own, d, rfl, _⟩ := h
    rfl
  · obtain ⟨a, r, own, d, rfl, ⟨dx, t1, t2, t3, o1, o2, o3, o4, h1, h2, h3, h4⟩, k⟩ := h
    refine ⟨_, (pss_one (ps_ret (pe_cmpR op_eq (pe_fld (pv 0) rfl) (pv 1) (nomark _)))), ?_⟩
    refine ⟨_, rfl, a, _, dx, _, _, rfl, h1, T.c_Rule, T.n_Rule_kind, rfl, _, rfl, rfl, ?_⟩
    have e := dec_n r.kind d
    show Q (.bl (decide (V.int (r.kind : Nat) = V.int (d : Nat)))) H
    rw [e]
    exact k
theorem ok_all_gaps (T : Txt K mg t) : FnOk P w K mg base CX0 1 t.f_all_gaps t.fd_all_gaps ["rule", "many"] (sp_all_gaps t) := by
  refine T.F_all_gaps.ok sc_all_gaps (fun vs H Q E h => ?_) (fun cdv A outer s H vs Q E hr h => ?_)
  · obtain ⟨a, r, own, m, rfl, _⟩ := h
    rfl
  · obtain ⟨a, r, own, m, rfl, ⟨dx, t1, t2, t3, o1, o2, o3, o4, h1, h2, h3, h4⟩, hg, k⟩ := h
    refine ⟨_, (pss_one (ps_ret (pe_op op_mul (pe_fld (pv 0) rfl) (pe_op op_sub (pv 1) pe_int)))), ?_⟩
    exact ⟨_, rfl, a, _, dx, _, _, rfl, h1, T.c_Rule, T.n_Rule_gap, rfl, _, rfl, _, _, rfl, rfl, _, _, rfl, rfl, .inl ⟨by omega, by omega⟩, k⟩
theorem ok_content_length (T : Txt K mg t) : FnOk P w K mg base CX0 2 t.f_content_length t.fd_content_length ["rule", "naturals", "direction"] (sp_content K t) := by
  refine T.F_content_length.ok sc_content_length (fun vs H Q E h => ?_) (fun cdv A outer s H vs Q E hr h => ?_)
  · obtain ⟨a, li, r, own, l, d, rfl, _⟩ := h
    rfl
  · obtain ⟨a, li, r, own, l, d, rfl, R, ir, hl, k⟩ := h
    obtain ⟨dx, t1, t2, t3, o1, o2, o3, o4, h1, h2, h3, h4⟩ := id R
    refine ⟨_, (pss_cons (ps_if (pt_cmpR op_eq (pe_callB call_len_seq rfl T.n_len PySem.boot_len (pa_cons (pv 1) pa_nil)) pe_int (nomark _))
      (pss_one (ps_ret (pe_op op_mul pe_int (pe_fld (pv 0) rfl))))
      pss_nil)
      (pss_cons (ps_if (pt_val (pe_meth (pv 0) T.c_Rule T.m_Rule_is_along (ok_Rule_is_along T) (hr.mono (by decide)) T.b_Rule_is_along .nil pass0 (pa_cons (pv 2) pa_nil)))
      (pss_one (ps_ret (pe_op op_add (pe_op op_add (pe_callB (cr_sum rfl) rfl T.n_sum bt_sum (pa_cons (pv 1) pa_nil)) (pe_call (ok_all_gaps T) (hr.mono (by decide)) rfl T.g_all_gaps T.k_all_gaps T.b_all_gaps .nil pass0 (pa_cons (pv 0) (pa_cons (pe_callB call_len_seq rfl T.n_len PySem.boot_len (pa_cons (pv 1) pa_nil)) pa_nil)))) (pe_op op_mul pe_int (pe_fld (pv 0) rfl)))))
      pss_nil)
      (pss_one (ps_ret (pe_op op_add (pe_callB (cr_max rfl) rfl T.n_max bt_max (pa_cons (pv 1) pa_nil)) (pe_op op_mul pe_int (pe_fld (pv 0) rfl))))))), ?_⟩
    have hp : r.pad < 256 := ir.2.2.2.2.2.2.1
    have hg : r.gap < 256 := ir.2.2.2.2.2.2.2.1
    have e0 : decide (V.int ((nv l).length : Nat) = V.int (0 : Nat)) = decide (l.length = 0) := by rw [nv_len]; exact dec_n _ 0
    refine ⟨_, rfl, li, _, rfl, .inl hl, rfl, _, rfl, ite2 (fun c => ?_) fun c => ?_⟩
    · have c : l.length = 0 := of_decide_eq_true (e0.symm.trans c)
      refine ⟨_, rfl, a, _, dx, _, _, rfl, h1, T.c_Rule, T.n_Rule_pad, rfl, _, _, rfl, rfl, .inl ⟨by decide, by decide⟩, ?_⟩
      have e : content r d l = 2 * r.pad := by
        have : l = [] := List.length_eq_zero_iff.mp c
        subst this
        unfold content
        split <;> simp [Kp175.total, Kp175.greatest]
      rw [e] at k
      show Q (.int (2 * (r.pad : Nat))) H
      have e2 : (2 * (r.pad : Nat) : Int) = ((2 * r.pad : Nat) : Int) := by omega
      rw [e2]
      exact k
    have c : l.length ≠ 0 := fun z => c (e0.trans (decide_eq_true z))
    refine ⟨_, rfl, a, dx, _, rfl, h1, rfl, _, rfl, a, r, own, d, rfl, R, _, rfl, ?_⟩
    rw [nv_ints] at hl
    by_cases hk : r.kind = d
    · rw [decide_eq_true hk]
      refine iteT ?_
      refine ⟨_, rfl, li, _, rfl, hl, _, rfl, _, rfl, li, _, rfl, .inl hl, a, r, own, _, rfl, R, hg, _, _, rfl, rfl, _, rfl, a, _, dx, _, _, rfl, h1, T.c_Rule, T.n_Rule_pad, rfl, _, _, rfl, rfl, .inl ⟨by decide, by decide⟩, _, _, rfl, rfl, ?_⟩
      have e : (content r d l : Int) = (l.map fun (k : Nat) => (k : Int)).sum + r.gap * ((((l.map fun (k : Nat) => (k : Int)).map V.int).length : Int) - 1) + 2 * r.pad := by
        unfold content
        rw [if_pos hk, ← total_sum]
        simp only [List.length_map]
        have : ((l.length - 1 : Nat) : Int) = (l.length : Int) - 1 := by omega
        rw [← this]
        push_cast
        rfl
      rw [e] at k
      exact k
    · rw [decide_eq_false hk]
      refine iteF ?_
      refine ⟨_, rfl, li, _, rfl, hl, by rw [List.length_map]; omega, fun m m1 m2 => ?_⟩
      refine ⟨_, rfl, a, _, dx, _, _, rfl, h1, T.c_Rule, T.n_Rule_pad, rfl, _, _, rfl, rfl, .inl ⟨by decide, by decide⟩, _, _, rfl, rfl, ?_⟩
      have e : (content r d l : Int) = m + 2 * r.pad := by
        unfold content
        rw [if_neg hk, greatest_eq m1 m2]
        push_cast
        rfl
      rw [e] at k
      exact k
theorem ok_natural_length (T : Txt K mg t) : FnOk P w K mg base CX0 3 t.f_natural_length t.fd_natural_length ["rule", "inner_sizes", "direction"] (sp_nat_len K t) := by
  refine T.F_natural_length.ok sc_natural_length (fun vs H Q E h => ?_) (fun cdv A outer s H vs Q E hr h => ?_)
  · obtain ⟨a, li, r, own, ads, zs, d, rfl, _⟩ := h
    rfl
  · obtain ⟨a, li, r, own, ads, zs, d, rfl, R, ir, hd, hli, pr, hn, k⟩ := h
    obtain ⟨dx, t1, t2, t3, o1, o2, o3, o4, h1, h2, h3, h4⟩ := id R
    have pl : ads.length = zs.length := Paired.length pr
    refine ⟨_, (pss_cons (ps_if (pt_val (pe_meth0 (pv 0) T.c_Rule T.m_Rule_is_leaf (ok_Rule_is_leaf T) (hr.mono (by decide)) T.b_Rule_is_leaf .nil pass0))
      (pss_one (ps_set (i := 3) sc_natural_length.nd rfl (Or.inl rfl) pe_int))
      (pss_one (ps_set (i := 3) sc_natural_length.nd rfl (Or.inl rfl) (pe_call (ok_content_length T) (hr.mono (by decide)) rfl T.g_content_length T.k_content_length T.b_content_length .nil pass0 (pa_cons (pv 0) (pa_cons (pe_lc (own := [("size", 4)]) rfl sc_natural_length.nd (pi_list (pv 1)) (blkOk_by rfl) (fun _ _ _ _ _ => (pg_name (i := 4) sc_natural_length.nd rfl (Or.inl rfl))) (fun _ _ _ _ _ => pts_nil) (fun _ _ _ _ _ => (pe_ix (ix_tupK (K := K) rfl) (pv 4) (pv 2) (fun _ _ => rfl)))) (pa_cons (pv 2) pa_nil)))))))
      (pss_one (ps_ret (pe_callB (call_min2 rfl) rfl T.n_min bt_min (pa_cons (pe_callB (call_max2 rfl) rfl T.n_max bt_max (pa_cons (pe_ix ix_tup (pe_fld (pv 0) rfl) (pv 2) (fun _ _ => rfl)) (pa_cons (pv 3) pa_nil))) (pa_cons (pe_ix ix_tup (pe_fld (pv 0) rfl) (pv 2) (fun _ _ => rfl)) pa_nil)))))), ?_⟩
    refine ⟨_, rfl, a, dx, _, rfl, h1, rfl, a, r, own, rfl, R, _, rfl, ?_⟩
    by_cases hk : r.kind = 2
    · rw [decide_eq_true hk]
      refine iteT ?_
      refine ⟨_, rfl, a, _, dx, _, _, rfl, h1, T.c_Rule, T.n_Rule_wish, rfl, _, rfl, _, _, _, _, rfl, rfl, SqT.of h3, twoV_at r.wish d hd, _, rfl, _, _, rfl, _, rfl, a, _, dx, _, _, rfl, h1, T.c_Rule, T.n_Rule_most, rfl, _, rfl, _, _, _, _, rfl, rfl, SqT.of h4, twoV_at r.most d hd, _, _, rfl, ?_⟩
      have q := k H (Same.refl _)
      have e : ((natLen r d (zs.map fun z => z.of d) : Nat) : Int) = (if ((r.most.of d : Nat) : Int) < (if (0 : Int) > ((r.wish.of d : Nat) : Int) then 0 else ((r.wish.of d : Nat) : Int)) then ((r.most.of d : Nat) : Int) else (if (0 : Int) > ((r.wish.of d : Nat) : Int) then 0 else ((r.wish.of d : Nat) : Int))) := by
        unfold natLen
        rw [if_pos hk]
        split <;> split <;> omega
      rw [e] at q
      exact q
    · rw [decide_eq_false hk]
      refine iteF ?_
      refine ⟨_, rfl, _, rfl, li, rfl, ⟨_, SqL.of hli⟩, fun D hD => lc_list (K := K) (a := li) (xs := ads.map V.ref) (LcP H D fun i => (nv (zs.map fun z => z.of d)).take i) (LcP.start hD rfl) (fun i H' _ q => SqL.of (q.1 _ _ hli)) (fun i x H' hx q => ?_) fun H1 q => ?_⟩
      · obtain ⟨b, hb, rfl⟩ := refs_get (G := fun _ => True) (β := Nat) hx
        obtain ⟨z, hz, hT⟩ := paired_get pr hb
        refine ⟨rfl, _, rfl, _, rfl, b, _, _, _, rfl, rfl, SqT.of (q.1 _ _ hT), twoV_at z d hd, q.next hD (Same.refl _) (small_of ?_) (take_next ?_)⟩
        · simp only [List.length_take, nv_len, List.length_map]
          omega
        · unfold nv
          rw [List.getElem?_map, List.getElem?_map, hz]
          rfl
      obtain ⟨s1, g1⟩ := q.fin (ys := nv (zs.map fun z => z.of d)) (List.take_of_length_le (by simp [nv_len, pl]))
      have R1 := R.same s1
      have q1 := s1 _ _ h1
      refine ⟨_, rfl, a, D, r, own, zs.map (fun z => z.of d), d, rfl, R1, ir, SqL.of g1, ?_⟩
      refine ⟨_, rfl, a, _, dx, _, _, rfl, q1, T.c_Rule, T.n_Rule_wish, rfl, _, rfl, _, _, _, _, rfl, rfl, SqT.of (s1 _ _ h3), twoV_at r.wish d hd, _, rfl, _, _, rfl, _, rfl, a, _, dx, _, _, rfl, q1, T.c_Rule, T.n_Rule_most, rfl, _, rfl, _, _, _, _, rfl, rfl, SqT.of (s1 _ _ h4), twoV_at r.most d hd, _, _, rfl, ?_⟩
      have q := k H1 s1
      generalize hc : content r d (zs.map fun z => z.of d) = c at *
      have e : ((natLen r d (zs.map fun z => z.of d) : Nat) : Int) = (if ((r.most.of d : Nat) : Int) < (if ((c : Nat) : Int) > ((r.wish.of d : Nat) : Int) then ((c : Nat) : Int) else ((r.wish.of d : Nat) : Int)) then ((r.most.of d : Nat) : Int) else (if ((c : Nat) : Int) > ((r.wish.of d : Nat) : Int) then ((c : Nat) : Int) else ((r.wish.of d : Nat) : Int))) := by
        unfold natLen
        rw [if_neg hk, hc]
        split <;> split <;> omega
      rw [e] at q
      exact q
theorem ok_natural_size (T : Txt K mg t) : FnOk P w K mg base CX0 4 t.f_natural_size t.fd_natural_size ["rule", "inner_sizes"] (sp_nat_size K t) := by
  refine T.F_natural_size.ok sc_natural_size (fun vs H Q E h => ?_) (fun cdv A outer s H vs Q E hr h => ?_)
  · obtain ⟨a, li, r, own, ads, zs, rfl, _⟩ := h
    rfl
  · obtain ⟨a, li, r, own, ads, zs, rfl, R, ir, hli, pr, hn, k⟩ := h
    refine ⟨_, (pss_one (ps_ret (pe_tup (pa_cons (pe_call (ok_natural_length T) (hr.mono (by decide)) rfl T.g_natural_length T.k_natural_length T.b_natural_length .nil pass0 (pa_cons (pv 0) (pa_cons (pv 1) (pa_cons (pe_glob rfl T.g_ACROSS T.r_ACROSS) pa_nil)))) (pa_cons (pe_call (ok_natural_length T) (hr.mono (by decide)) rfl T.g_natural_length T.k_natural_length T.b_natural_length .nil pass0 (pa_cons (pv 0) (pa_cons (pv 1) (pa_cons (pe_glob rfl T.g_DOWN T.r_DOWN) pa_nil)))) pa_nil))))), ?_⟩
    refine ⟨_, rfl, _, rfl, a, li, r, own, ads, zs, 0, rfl, R, ir, by decide, hli, pr, hn, fun H1 s1 => ?_⟩
    refine ⟨_, rfl, _, rfl, a, li, r, own, ads, zs, 1, rfl, R.same s1, ir, by decide, s1 _ _ hli, paired_mono (fun a b e => s1 _ _ e) pr, hn, fun H2 s2 => ?_⟩
    exact ⟨by show 2 ≤ sizeLine; decide, fun p hp => k p _ (s1.trans (s2.trans (same_upd hp))) ((s1.trans s2).free hp) upd_same⟩
end
end BXP
namespace BXP
open PySem L2 BX
theorem max_int (i j : Int) : (if j > i then j else i) = max i j := by split <;> omega
theorem min_int (i j : Int) : (if j < i then j else i) = min i j := by split <;> omega
def pairV (z : Int × Int) : List V := [.int z.1, .int z.2]
def alongAt (r : Kp175.Rule) (xs : List Kp174.One) (room b : Int) (k : Nat) : Int × Int :=
  let L := (room - r.gap * ((xs.length : Int) - 1)).toNat
  (b + (Kp174.edge L xs k + r.gap * (k : Int) + (restOf r.rest (Kp174.left L xs).toNat k xs.length : Nat)), Kp174.edge L xs (k + 1) - Kp174.edge L xs k)
def sp_spans_along (t : Adr) : Sp := fun vs H Q _ => ∃ (a q l : Addr) (r : Kp175.Rule) (own : Own) (b room : Int) (ads : List Addr) (xs : List Kp174.One), vs = [.ref a, .ref q, .ref l] ∧ RuleAt t.C_Rule own H a r ∧ Kp175.isRule r ∧ H q = some (.tup [.int b, .int room]) ∧
  H l = some (.lst (ads.map V.ref)) ∧ Paired (ThingAt t H) ads xs ∧ goodL xs ∧ boundsL xs ∧ 1 ≤ xs.length ∧ xs.length ≤ 1000 ∧
  ∀ (l' : Addr) (ads' : List Addr) (H' : Hp), Same H H' → H l' = none → H' l' = some (.lst (ads'.map V.ref)) → Paired (fun a z => H' a = some (.tup (pairV z))) ads' ((List.range xs.length).map (alongAt r xs room b)) → Q (.ref l') H'
theorem paired_snoc {α β : Type} {G : α → β → Prop} {a : α} {b : β} : ∀ {l : List α} {l' : List β}, Paired G l l' → G a b → Paired G (l ++ [a]) (l' ++ [b])
  | _, _, .nil, h => .cons h .nil
  | _, _, .cons g t, h => .cons g (paired_snoc t h)
section
variable {P : Program} {w : World} {K : PySem.W.Frag} {mg : Str → Option Value} {base : Heap} {t : Adr}
theorem ok_room_in (T : Txt K mg t) : FnOk P w K mg base CX0 1 t.f_room_in t.fd_room_in ["rule", "place", "direction"] (sp_room_in t) := by
  refine T.F_room_in.ok sc_room_in (fun vs H Q E h => ?_) (fun cdv A outer s H vs Q E hr h => ?_)
  · obtain ⟨a, q, r, own, p, d, rfl, _⟩ := h
    rfl
  · obtain ⟨a, q, r, own, p, d, rfl, ⟨dx, t1, t2, t3, o1, o2, o3, o4, h1, h2, h3, h4⟩, hq, hd, k⟩ := h
    refine ⟨_, (pss_cons (ps_set (i := 3) sc_room_in.nd rfl (Or.inl rfl) (pe_ix ix_tup (pv 1) (pv 2) (fun _ _ => rfl)))
      (pss_cons (ps_set (i := 4) sc_room_in.nd rfl (Or.inl rfl) (pe_ix ix_tup (pv 1) (pe_op op_add pe_int (pv 2)) (fun _ _ => rfl)))
      (pss_one (ps_ret (pe_tup (pa_cons (pe_op op_add (pv 3) (pe_fld (pv 0) rfl)) (pa_cons (pe_callB (call_max2 rfl) rfl T.n_max bt_max (pa_cons (pe_op op_sub (pv 4) (pe_op op_mul pe_int (pe_fld (pv 0) rfl))) (pa_cons pe_int pa_nil))) pa_nil))))))), ?_⟩
    refine ⟨_, rfl, _, rfl, q, _, _, _, rfl, rfl, SqT.of hq, plV_beg p hd, ?_⟩
    refine ⟨_, rfl, _, rfl, _, _, rfl, rfl, q, _, _, _, rfl, rfl, SqT.of hq, plV_siz p hd, ?_⟩
    refine ⟨_, rfl, _, rfl, a, _, dx, _, _, rfl, h1, T.c_Rule, T.n_Rule_pad, rfl, _, _, rfl, rfl, _, rfl, _, rfl, a, _, dx, _, _, rfl, h1, T.c_Rule, T.n_Rule_pad, rfl, _, _, rfl, rfl, .inl ⟨by decide, by decide⟩, _, _, rfl, rfl, _, _, rfl, (by show 2 ≤ sizeLine; decide), fun p' hp' => ?_⟩
    refine k p' _ (same_upd hp') hp' ?_
    rw [upd_same, max_int]
theorem ok_thing_along (T : Txt K mg t) : FnOk P w K mg base CX0 3 t.f_thing_along t.fd_thing_along ["rule", "natural", "direction"] (sp_thing_along t) := by
  refine T.F_thing_along.ok sc_thing_along (fun vs H Q E h => ?_) (fun cdv A outer s H vs Q E hr h => ?_)
  · obtain ⟨a, r, own, n, d, rfl, _⟩ := h
    rfl
  · obtain ⟨a, r, own, n, d, rfl, ⟨dx, t1, t2, t3, o1, o2, o3, o4, h1, h2, h3, h4⟩, hd, k⟩ := h
    refine ⟨_, (pss_one (ps_ret (pe_make T.mk_Thing (ok_Thing_init T) (hr.mono (by decide)) rfl T.g_Thing T.b_Thing_init .nil pass0 (pa_cons (pe_ix ix_tup (pe_fld (pv 0) rfl) (pv 2) (fun _ _ => rfl)) (pa_cons (pv 1) (pa_cons (pe_ix ix_tup (pe_fld (pv 0) rfl) (pv 2) (fun _ _ => rfl)) (pa_cons (pe_fld (pv 0) rfl) (pa_cons (pe_fld (pv 0) rfl) pa_nil)))))))), ?_⟩
    refine ⟨_, rfl, a, _, dx, _, _, rfl, h1, T.c_Rule, T.n_Rule_least, rfl, _, rfl, _, _, _, _, rfl, rfl, SqT.of h2, twoV_at r.least d hd, _, rfl, _, rfl, a, _, dx, _, _, rfl, h1, T.c_Rule, T.n_Rule_most, rfl, _, rfl, _, _, _, _, rfl, rfl, SqT.of h4, twoV_at r.most d hd,
      _, rfl, a, _, dx, _, _, rfl, h1, T.c_Rule, T.n_Rule_grow, rfl, _, rfl, a, _, dx, _, _, rfl, h1, T.c_Rule, T.n_Rule_give, rfl, ?_⟩
    intro x dx' nx ndx nex
    refine ⟨x, dx', ⟨r.least.of d, n, r.most.of d, r.grow, r.give⟩, rfl, upd_same, fun H' hx fr => ⟨rfl, k x H' (Same.made nx ndx fr) nx ⟨dx', hx⟩⟩⟩
theorem ok_rest_before (T : Txt K mg t) : FnOk P w K mg base CX0 1 t.f_rest_before t.fd_rest_before ["rest", "over", "k", "many"] (sp_rest t) := by
  refine T.F_rest_before.ok sc_rest_before (fun vs H Q E h => ?_) (fun cdv A outer s H vs Q E hr h => ?_)
  · obtain ⟨rest, over, k, n, rfl, _⟩ := h
    rfl
  · obtain ⟨rest, over, kk, n, rfl, h1, h2, h3, k⟩ := h
    refine ⟨_, (pss_cons (ps_if (pt_cmpR op_eq (pv 0) (pe_glob rfl T.g_REST_HALF T.r_REST_HALF) (nomark _))
      (pss_one (ps_ret (pe_op op_fdiv (pv 1) pe_int)))
      pss_nil)
      (pss_cons (ps_if (pt_cmpR op_eq (pv 0) (pe_glob rfl T.g_REST_BEFORE T.r_REST_BEFORE) (nomark _))
      (pss_one (ps_ret (pv 1)))
      pss_nil)
      (pss_cons (ps_if (PW.pt (pw_or (pt_cmpR op_eq (pv 0) (pe_glob rfl T.g_REST_BEHIND T.r_REST_BEHIND) (nomark _)) (pw_or1 (pt_cmpR op_eq (pv 3) pe_int (nomark _)))))
      (pss_one (ps_ret pe_int))
      pss_nil)
      (pss_one (ps_ret (pe_op op_fdiv (pe_op op_mul (pv 2) (pv 1)) (pe_op op_sub (pv 3) pe_int))))))), ?_⟩
    refine ⟨_, rfl, rfl, _, rfl, ?_⟩
    have d1 : decide (V.int (rest : Nat) = V.int (1 : Nat)) = decide (rest = 1) := dec_n rest 1
    have d2 : decide (V.int (rest : Nat) = V.int (2 : Nat)) = decide (rest = 2) := dec_n rest 2
    have d0 : decide (V.int (rest : Nat) = V.int (0 : Nat)) = decide (rest = 0) := dec_n rest 0
    have dn : decide (V.int (n : Nat) = V.int (1 : Nat)) = decide (n = 1) := dec_n n 1
    refine ite2 (fun c => ?_) fun c => ?_
    · have c : rest = 1 := of_decide_eq_true (d1.symm.trans c)
      refine ⟨_, rfl, _, _, rfl, rfl, ⟨by decide, by decide⟩, ?_⟩
      have e : restOf rest over kk n = over / 2 := by simp [restOf, c]
      rw [e] at k
      have e2 : ((over / 2 : Nat) : Int) = (over : Int) / 2 := by omega
      rw [e2] at k
      exact k
    have c1 : rest ≠ 1 := fun z => c (d1.trans (decide_eq_true z))
    refine ⟨_, rfl, rfl, _, rfl, ite2 (fun c => ?_) fun c => ?_⟩
    · have c : rest = 2 := of_decide_eq_true (d2.symm.trans c)
      have e : restOf rest over kk n = over := by simp [restOf, c]
      rw [e] at k
      exact ⟨_, rfl, k⟩
    have c2 : rest ≠ 2 := fun z => c (d2.trans (decide_eq_true z))
    refine ⟨_, rfl, rfl, _, rfl, ite2 (fun c => ?_) fun c => ?_⟩
    · have c : rest = 0 := of_decide_eq_true (d0.symm.trans c)
      refine iteT ?_
      have e : restOf rest over kk n = 0 := by simp [restOf, c]
      rw [e] at k
      exact k
    have c0 : rest ≠ 0 := fun z => c (d0.trans (decide_eq_true z))
    refine ⟨_, rfl, rfl, _, rfl, ite2 (fun c => ?_) fun c => ?_⟩
    · have c : n = 1 := of_decide_eq_true (dn.symm.trans c)
      have e : restOf rest over kk n = 0 := by simp [restOf, c0, c1, c2, c]
      rw [e] at k
      exact k
    have cn : n ≠ 1 := fun z => c (dn.trans (decide_eq_true z))
    refine ⟨_, rfl, _, rfl, _, _, rfl, rfl, .inl ⟨by omega, by omega⟩, _, rfl, _, _, rfl, rfl, _, _, rfl, rfl, ⟨by omega, by omega⟩, ?_⟩
    have e : restOf rest over kk n = kk * over / (n - 1) := by simp [restOf, c0, c1, c2, cn]
    rw [e] at k
    have e2 : ((kk * over / (n - 1) : Nat) : Int) = (kk : Int) * over / ((n : Int) - 1) := by
      rw [Int.natCast_ediv, Int.natCast_mul]
      have : ((n - 1 : Nat) : Int) = (n : Int) - 1 := by omega
      rw [this]
    rw [e2] at k
    exact k
theorem ok_span_by_side (T : Txt K mg t) : FnOk P w K mg base CX0 1 t.f_span_by_side t.fd_span_by_side ["rule", "room", "natural", "direction"] (sp_side t) := by
  refine T.F_span_by_side.ok sc_span_by_side (fun vs H Q E h => ?_) (fun cdv A outer s H vs Q E hr h => ?_)
  · obtain ⟨a, q, r, own, b, room, n, d, rfl, _⟩ := h
    rfl
  · obtain ⟨a, q, r, own, b, room, n, d, rfl, ⟨dx, t1, t2, t3, o1, o2, o3, o4, h1, h2, h3, h4⟩, hq, hd, k⟩ := h
    refine ⟨_, (pss_cons (ps_if (pt_cmpR op_eq (pe_fld (pv 0) rfl) (pe_glob rfl T.g_SIDE_FILLS T.r_SIDE_FILLS) (nomark _))
      (pss_one (ps_ret (pe_tup (pa_cons (pe_ix ix_tup (pv 1) pe_int (fun _ _ => rfl)) (pa_cons (pe_callB (call_min2 rfl) rfl T.n_min bt_min (pa_cons (pe_callB (call_max2 rfl) rfl T.n_max bt_max (pa_cons (pe_ix ix_tup (pv 1) pe_int (fun _ _ => rfl)) (pa_cons (pe_ix ix_tup (pe_fld (pv 0) rfl) (pv 3) (fun _ _ => rfl)) pa_nil))) (pa_cons (pe_ix ix_tup (pe_fld (pv 0) rfl) (pv 3) (fun _ _ => rfl)) pa_nil))) pa_nil)))))
      pss_nil)
      (pss_cons (ps_if (pt_cmpR op_eq (pe_fld (pv 0) rfl) (pe_glob rfl T.g_SIDE_BEGINNING T.r_SIDE_BEGINNING) (nomark _))
      (pss_one (ps_ret (pe_tup (pa_cons (pe_ix ix_tup (pv 1) pe_int (fun _ _ => rfl)) (pa_cons (pv 2) pa_nil)))))
      pss_nil)
      (pss_cons (ps_if (pt_cmpR op_eq (pe_fld (pv 0) rfl) (pe_glob rfl T.g_SIDE_MIDDLE T.r_SIDE_MIDDLE) (nomark _))
      (pss_one (ps_ret (pe_tup (pa_cons (pe_op op_add (pe_ix ix_tup (pv 1) pe_int (fun _ _ => rfl)) (pe_op op_fdiv (pe_op op_sub (pe_ix ix_tup (pv 1) pe_int (fun _ _ => rfl)) (pv 2)) pe_int)) (pa_cons (pv 2) pa_nil)))))
      pss_nil)
      (pss_one (ps_ret (pe_tup (pa_cons (pe_op op_sub (pe_op op_add (pe_ix ix_tup (pv 1) pe_int (fun _ _ => rfl)) (pe_ix ix_tup (pv 1) pe_int (fun _ _ => rfl))) (pv 2)) (pa_cons (pv 2) pa_nil)))))))), ?_⟩
    have d0 : decide (V.int (r.side : Nat) = V.int (0 : Nat)) = decide (r.side = 0) := dec_n r.side 0
    have d1 : decide (V.int (r.side : Nat) = V.int (1 : Nat)) = decide (r.side = 1) := dec_n r.side 1
    have d2 : decide (V.int (r.side : Nat) = V.int (2 : Nat)) = decide (r.side = 2) := dec_n r.side 2
    refine ⟨_, rfl, a, _, dx, _, _, rfl, h1, T.c_Rule, T.n_Rule_side, rfl, rfl, _, rfl, ite2 (fun c => ?_) fun c => ?_⟩
    · have c : r.side = 0 := of_decide_eq_true (d0.symm.trans c)
      refine ⟨_, rfl, q, _, _, _, rfl, rfl, SqT.of hq, atI_nat (j := 0) rfl, _, rfl, q, _, _, _, rfl, rfl, SqT.of hq, atI_nat (j := 1) rfl, _, rfl, a, _, dx, _, _, rfl, h1, T.c_Rule, T.n_Rule_least, rfl, _, rfl, _, _, _, _, rfl, rfl, SqT.of h2, twoV_at r.least d hd, _, _, rfl,
        _, rfl, a, _, dx, _, _, rfl, h1, T.c_Rule, T.n_Rule_most, rfl, _, rfl, _, _, _, _, rfl, rfl, SqT.of h4, twoV_at r.most d hd, _, _, rfl, (by show 2 ≤ sizeLine; decide), fun p hp => k p _ (same_upd hp) hp ?_⟩
      rw [upd_same, max_int, min_int]
      simp [sideOf, c]
    have c0 : r.side ≠ 0 := fun z => c (d0.trans (decide_eq_true z))
    refine ⟨_, rfl, a, _, dx, _, _, rfl, h1, T.c_Rule, T.n_Rule_side, rfl, rfl, _, rfl, ite2 (fun c => ?_) fun c => ?_⟩
    · have c : r.side = 1 := of_decide_eq_true (d1.symm.trans c)
      refine ⟨_, rfl, q, _, _, _, rfl, rfl, SqT.of hq, atI_nat (j := 0) rfl, _, rfl, (by show 2 ≤ sizeLine; decide), fun p hp => k p _ (same_upd hp) hp ?_⟩
      rw [upd_same]
      simp [sideOf, c]
    have c1 : r.side ≠ 1 := fun z => c (d1.trans (decide_eq_true z))
    refine ⟨_, rfl, a, _, dx, _, _, rfl, h1, T.c_Rule, T.n_Rule_side, rfl, rfl, _, rfl, ite2 (fun c => ?_) fun c => ?_⟩
    · have c : r.side = 2 := of_decide_eq_true (d2.symm.trans c)
      refine ⟨_, rfl, q, _, _, _, rfl, rfl, SqT.of hq, atI_nat (j := 0) rfl, _, rfl, q, _, _, _, rfl, rfl, SqT.of hq, atI_nat (j := 1) rfl, _, rfl, _, _, rfl, rfl, _, _, rfl, rfl, ⟨by decide, by decide⟩, _, _, rfl, rfl, _, rfl, (by show 2 ≤ sizeLine; decide), fun p hp => k p _ (same_upd hp) hp ?_⟩
      rw [upd_same]
      simp only [sideOf, c]
      rw [Int.fdiv_eq_ediv_of_nonneg _ (by decide)]
      rfl
    have c2 : r.side ≠ 2 := fun z => c (d2.trans (decide_eq_true z))
    refine ⟨_, rfl, q, _, _, _, rfl, rfl, SqT.of hq, atI_nat (j := 0) rfl, _, rfl, q, _, _, _, rfl, rfl, SqT.of hq, atI_nat (j := 1) rfl, _, _, rfl, rfl, _, rfl, _, _, rfl, rfl, _, rfl, (by show 2 ≤ sizeLine; decide), fun p hp => k p _ (same_upd hp) hp ?_⟩
    rw [upd_same]
    have e : b + room - (n : Int) = b + (room - n) := by omega
    simp [sideOf, c0, c1, c2, e]
theorem sizes_getD {L : Nat} {xs : List Kp174.One} {k : Nat} (h : k < xs.length) : (Kp174.sizes L xs).getD k 0 = Kp174.edge L xs (k + 1) - Kp174.edge L xs k := by
  unfold Kp174.sizes
  rw [List.getD_eq_getElem?_getD, List.getElem?_map, List.getElem?_range h]
  rfl
theorem sizes_len (L : Nat) (xs : List Kp174.One) : (Kp174.sizes L xs).length = xs.length := by simp [Kp174.sizes]
theorem ok_spans_along (T : Txt K mg t) : FnOk P w K mg base CX0 4 t.f_spans_along t.fd_spans_along ["rule", "room", "things"] (sp_spans_along t) := by
  refine T.F_spans_along.ok sc_spans_along (fun vs H Q E h => ?_) (fun cdv A outer s H vs Q E hr h => ?_)
  · obtain ⟨a, q, l, r, own, b, room, ads, xs, rfl, _⟩ := h
    rfl
  · obtain ⟨a, q, l, r, own, b, room, ads, xs, rfl, R, ir, hq, hl, pr, hg, hb, hn1, hn, k⟩ := h
    obtain ⟨dx, t1, t2, t3, o1, o2, o3, o4, h1, h2, h3, h4⟩ := id R
    have pl : ads.length = xs.length := Paired.length pr
    have hgap : r.gap < 256 := ir.2.2.2.2.2.2.2.1
    refine ⟨_, (pss_cons (ps_set (i := 3) sc_spans_along.nd rfl (Or.inl rfl) (pe_callB call_len_seq rfl T.n_len PySem.boot_len (pa_cons (pv 2) pa_nil)))
      (pss_cons (ps_set (i := 4) sc_spans_along.nd rfl (Or.inl rfl) (pe_callB (call_max2 rfl) rfl T.n_max bt_max (pa_cons (pe_op op_sub (pe_ix ix_tup (pv 1) pe_int (fun _ _ => rfl)) (pe_call (ok_all_gaps T) (hr.mono (by decide)) rfl T.g_all_gaps T.k_all_gaps T.b_all_gaps .nil pass0 (pa_cons (pv 0) (pa_cons (pv 3) pa_nil)))) (pa_cons pe_int pa_nil))))
      (pss_cons (ps_set (i := 5) sc_spans_along.nd rfl (Or.inl rfl) (pe_call (ok_shared_lengths T) (hr.mono (by decide)) rfl T.g_shared_lengths T.k_shared_lengths T.b_shared_lengths .nil pass0 (pa_cons (pv 2) (pa_cons (pv 4) pa_nil))))
      (pss_cons (ps_set (i := 6) sc_spans_along.nd rfl (Or.inl rfl) (pe_callB (call_max2 rfl) rfl T.n_max bt_max (pa_cons (pe_op op_sub (pv 4) (pe_callB (cr_sum rfl) rfl T.n_sum bt_sum (pa_cons (pv 5) pa_nil))) (pa_cons pe_int pa_nil))))
      (pss_cons (ps_set (i := 7) sc_spans_along.nd rfl (Or.inl rfl) (pe_lst pa_nil))
      (pss_cons (ps_set (i := 8) sc_spans_along.nd rfl (Or.inl rfl) (pe_ix ix_tup (pv 1) pe_int (fun _ _ => rfl)))
      (pss_cons (ps_for PassesOwn.never rfl (pi_range1 rfl T.n_range (pa_cons (pv 3) pa_nil)) (pg_name (i := 9) sc_spans_along.nd rfl (Or.inl rfl))
      (pss_cons (ps_expr (pe_bm PySem.F.plainAttrs_list PySem.F.slot_list_append PySem.F.type_list_append mt_append (pv 7) (pa_cons (pe_tup (pa_cons (pe_op op_add (pv 8) (pe_call (ok_rest_before T) (hr.mono (by decide)) rfl T.g_rest_before T.k_rest_before T.b_rest_before .nil pass0 (pa_cons (pe_fld (pv 0) rfl) (pa_cons (pv 6) (pa_cons (pv 9) (pa_cons (pv 3) pa_nil)))))) (pa_cons (pe_ix ix_list (pv 5) (pv 9) (fun _ _ => rfl)) pa_nil))) pa_nil)))
      (pss_one (ps_set (i := 8) sc_spans_along.nd rfl (Or.inl rfl) (pe_op op_add (pe_op op_add (pv 8) (pe_ix ix_list (pv 5) (pv 9) (fun _ _ => rfl))) (pe_fld (pv 0) rfl))))))
      (pss_one (ps_ret (pv 7)))))))))), ?_⟩
    refine ⟨_, rfl, l, _, rfl, .inl (SqL.of hl), ?_⟩
    have em : ((ads.map V.ref).length : Int) = (xs.length : Nat) := by rw [List.length_map, pl]
    refine setv (congrArg V.int em) ?_
    refine ⟨_, rfl, q, _, _, _, rfl, rfl, SqT.of hq, atI_nat (j := 1) rfl, _, rfl, _, rfl, a, r, own, _, rfl, R, hgap, _, _, rfl, rfl, _, _, rfl, ?_⟩
    have eL : (if (0 : Int) > room - r.gap * ((xs.length : Int) - 1) then 0 else room - r.gap * ((xs.length : Int) - 1)) = ((room - r.gap * ((xs.length : Int) - 1)).toNat : Nat) := by split <;> omega
    refine setv (congrArg V.int eL) ?_
    generalize hL : (room - r.gap * ((xs.length : Int) - 1)).toNat = L at *
    refine ⟨_, rfl, _, rfl, l, ads, xs, L, rfl, hl, pr, hg, hb, hn, fun ll H1 s1 hll0 hll => ?_⟩
    refine ⟨_, rfl, _, rfl, ll, _, rfl, SqL.of hll, _, _, rfl, rfl, _, _, rfl, ?_⟩
    have eO : (if (0 : Int) > L - (Kp174.sizes L xs).sum then 0 else L - (Kp174.sizes L xs).sum) = ((Kp174.left L xs).toNat : Nat) := by
      unfold Kp174.left
      rw [sum174]
      split <;> omega
    refine setv (congrArg V.int eO) ?_
    generalize hO : (Kp174.left L xs).toNat = O at *
    refine ⟨Nat.zero_le _, fun ls hls => ?_⟩
    have s2 : Same H1 (upd H1 ls (.lst [])) := same_upd hls
    have hls0 : H ls = none := s1.free hls
    refine ⟨_, rfl, q, _, _, _, rfl, rfl, SqT.of (s2 _ _ (s1 _ _ hq)), atI_nat (j := 0) rfl, ?_⟩
    refine ⟨_, rfl, _, rfl, by omega, by omega, ?_⟩
    have et : (((xs.length : Nat) : Int)).toNat = xs.length := by omega
    rw [et]
    refine for_range (n := xs.length) (fun i σ H' => ∃ (v : Option V) (ads' : List Addr), σ = [some (.ref a), some (.ref q), some (.ref l), some (.int (xs.length : Nat)), some (.int (L : Nat)), some (.ref ll), some (.int (O : Nat)), some (.ref ls), some (.int (b + Kp174.edge L xs i + r.gap * (i : Int))), v] ∧ Same H H' ∧
      H' ll = some (.lst ((Kp174.sizes L xs).map V.int)) ∧ H' ls = some (.lst (ads'.map V.ref)) ∧ Paired (fun a z => H' a = some (.tup (pairV z))) ads' ((List.range i).map (alongAt r xs room b))) ⟨none, [], ?_, s1.trans s2, s2 _ _ hll, upd_same, .nil⟩ ?_ ?_
    · have e : b + Kp174.edge L xs 0 + r.gap * ((0 : Nat) : Int) = b := by rw [edge_zero]; omega
      rw [e]
      rfl
    · rintro i σ H' hi ⟨v, ads', rfl, sm', hll', hls', pr'⟩
      have e0 : (0 : Int) + (i : Int) = (i : Nat) := by omega
      rw [e0]
      have hla := Paired.length pr'
      have hg' := sm' _ _ h1
      refine ⟨_, rfl, tyL hls', _, rfl, _, rfl, a, _, dx, _, _, rfl, hg', T.c_Rule, T.n_Rule_rest, rfl, _, rfl, _, rfl, _, rfl, r.rest, O, i, xs.length, rfl, hn1, hn, by omega, _, _, rfl, rfl, _, rfl, _, rfl, ll, _, _, _, rfl, rfl, SqL.of hll', iv_at (by rw [sizes_len]; exact hi), (by show 2 ≤ sizeLine; decide), fun p hp => ?_⟩
      have s3 : Same H' (upd H' p (.tup [.int (b + Kp174.edge L xs i + r.gap * (i : Int) + (restOf r.rest O i xs.length : Nat)), .int ((Kp174.sizes L xs).getD i 0)])) := same_upd hp
      refine ⟨ls, _, _, rfl, rfl, s3 _ _ hls', small_of (by simp at hla ⊢; omega), ?_⟩
      have nls : ls ≠ p := ne_of_none hls' hp
      have nll : ll ≠ ls := ne_of_none hll hls
      have hp3 : (upd H' p (.tup [.int (b + Kp174.edge L xs i + r.gap * (i : Int) + (restOf r.rest O i xs.length : Nat)), .int ((Kp174.sizes L xs).getD i 0)])) p = some (.tup (pairV (alongAt r xs room b i))) := by
        rw [upd_same, sizes_getD hi]
        unfold alongAt pairV
        dsimp only
        rw [hL, hO]
        congr 4
        omega
      generalize (upd H' p (.tup [.int (b + Kp174.edge L xs i + r.gap * (i : Int) + (restOf r.rest O i xs.length : Nat)), .int ((Kp174.sizes L xs).getD i 0)])) = H3 at s3 hp3
      have s4 : Same H (upd H3 ls (.lst (ads'.map V.ref ++ [V.ref p]))) := fun c o e => by
        rw [upd_ne (ne_of_none e hls0)]
        exact s3 _ _ (sm' _ _ e)
      have hll4 : (upd H3 ls (.lst (ads'.map V.ref ++ [V.ref p]))) ll = some (.lst ((Kp174.sizes L xs).map V.int)) := by
        rw [upd_ne nll]
        exact s3 _ _ hll'
      refine ⟨_, rfl, _, rfl, _, rfl, ll, _, _, _, rfl, rfl, SqL.of hll4, iv_at (by rw [sizes_len]; exact hi), _, _, rfl, rfl, _, rfl, a, _, dx, _, _, rfl, s4 _ _ h1, T.c_Rule, T.n_Rule_gap, rfl, _, _, rfl, rfl, setv (v' := V.int (b + Kp174.edge L xs (i + 1) + r.gap * ((i + 1 : Nat) : Int))) (congrArg V.int ?_) ?_⟩
      · rw [sizes_getD hi]
        have : (r.gap : Int) * ((i + 1 : Nat) : Int) = r.gap * (i : Int) + r.gap := by
          push_cast
          rw [Int.mul_add, Int.mul_one]
        omega
      refine ⟨_, ads' ++ [p], rfl, s4, hll4, ?_, ?_⟩
      · rw [upd_same]
        simp
      · rw [List.range_succ, List.map_append]
        refine paired_snoc (paired_mono (fun c z e => ?_) pr') ?_
        · have : c ≠ ls := ne_of e hls' (by intro z; cases z)
          rw [upd_ne this]
          exact s3 _ _ e
        · rw [upd_ne nls.symm]
          exact hp3
    · rintro σ H' ⟨v, ads', rfl, sm', hll', hls', pr'⟩
      exact ⟨_, rfl, k ls ads' H' sm' hls0 hls' pr'⟩
end
end BXP
namespace BXP
open PySem L2 BX
def LcR {β : Type} (H1 : Hp) (D : Addr) (G : HO → β → Prop) (zs : Nat → β) (i : Nat) (H' : Hp) : Prop := Same H1 H' ∧ ∃ ads' : List Addr, H' D = some (.lst (ads'.map V.ref)) ∧ Paired (fun a z => ∃ o, H' a = some o ∧ G o z) ads' ((List.range i).map zs) ∧ ∀ a, a ∈ ads' → H1 a = none
theorem LcR.start {β : Type} {H1 : Hp} {D : Addr} {G : HO → β → Prop} {zs : Nat → β} (hD : H1 D = none) : LcR H1 D G zs 0 (upd H1 D (.lst [])) := ⟨same_upd hD, [], upd_same, .nil, fun a h => nomatch h⟩
theorem LcR.next {β : Type} {H1 H' H4 : Hp} {D x : Addr} {G : HO → β → Prop} {zs : Nat → β} {i : Nat} {o : HO} (P : LcR H1 D G zs i H') (hG : ∀ xs z, ¬ G (.lst xs) z) (hD : H1 D = none) (s : Same H' H4) (hi : i ≤ 1000) (hx0 : H' x = none) (hx : H4 x = some o) (g : G o (zs i)) :
    ∃ ac, H4 D = some (.lst ac) ∧ ac.length < sizeLine ∧ LcR H1 D G zs (i + 1) (upd H4 D (.lst (ac ++ [V.ref x]))) := by
  obtain ⟨s1, ads', h1, pr, fr⟩ := P
  have hl := Paired.length pr
  have ne : ∀ a, (∃ o z, H4 a = some o ∧ G o z) → a ≠ D := fun a ⟨o, z, e, go⟩ ea => by
    rw [ea, s _ _ h1] at e
    cases e
    exact hG _ _ go
  refine ⟨_, s _ _ h1, small_of (by simp at hl ⊢; omega), fun b u z => ?_, ads' ++ [x], ?_, ?_, fun a ha => ?_⟩
  · rw [upd_ne (ne_of_none z hD)]
    exact s _ _ (s1 _ _ z)
  · rw [upd_same]
    simp
  · rw [List.range_succ, List.map_append]
    refine paired_snoc (paired_mono (fun a z ⟨u, e, gu⟩ => ⟨u, ?_, gu⟩) pr) ⟨o, ?_, g⟩
    · rw [upd_ne (ne x ⟨o, _, hx, g⟩)]
      exact hx
    · rw [upd_ne (ne a ⟨u, z, s _ _ e, gu⟩)]
      exact s _ _ e
  · rcases List.mem_append.mp ha with ha | ha
    · exact fr a ha
    · have : a = x := by simpa using ha
      rw [this]
      exact s1.free hx0
theorem ref_at {ads : List Addr} {i : Nat} {a : Addr} (h : ads[i]? = some a) : atI (ads.map V.ref) (i : Int) = some (.ref a) := atI_nat (by rw [List.getElem?_map, h]; rfl)
theorem getD_at {α : Type} {l : List α} {i : Nat} {x d : α} (h : l[i]? = some x) : l.getD i d = x := by rw [List.getD_eq_getElem?_getD, h]; rfl
theorem paired_at {α β : Type} {G : α → β → Prop} {l : List α} {l' : List β} (h : Paired G l l') {i : Nat} (hi : i < l'.length) (d : β) : ∃ a, l[i]? = some a ∧ G a (l'.getD i d) := by
  have hl := Paired.length h
  have ha : l[i]? = some (l[i]'(by omega)) := List.getElem?_eq_getElem (by omega)
  obtain ⟨b, hb, g⟩ := paired_get h ha
  exact ⟨_, ha, by rw [getD_at hb]; exact g⟩
def roomOf (r : Kp175.Rule) (p : Kp175.Place) (d : Nat) : Int := max (psz p d - 2 * r.pad) 0
def begOf (r : Kp175.Rule) (p : Kp175.Place) (d : Nat) : Int := pbeg p d + r.pad
def oneOf (qs : List Kp175.Rule) (zs : List Kp175.Two) (d k : Nat) : Kp174.One := ⟨(qs.getD k default).least.of d, (zs.getD k default).of d, (qs.getD k default).most.of d, (qs.getD k default).grow, (qs.getD k default).give⟩
def xsOf (qs : List Kp175.Rule) (zs : List Kp175.Two) (d : Nat) : List Kp174.One := (List.range zs.length).map (oneOf qs zs d)
def spanOf (r : Kp175.Rule) (p : Kp175.Place) (qs : List Kp175.Rule) (zs : List Kp175.Two) (d k : Nat) : Int × Int :=
  if r.kind = d then alongAt r (xsOf qs zs d) (roomOf r p d) (begOf r p d) k
  else (begOf r p d + (sideOf (qs.getD k default) d (roomOf r p d) ((zs.getD k default).of d)).1, (sideOf (qs.getD k default) d (roomOf r p d) ((zs.getD k default).of d)).2)
def placeOfK (r : Kp175.Rule) (p : Kp175.Place) (qs : List Kp175.Rule) (zs : List Kp175.Two) (k : Nat) : Kp175.Place := ⟨(spanOf r p qs zs 0 k).1, (spanOf r p qs zs 1 k).1, (spanOf r p qs zs 0 k).2, (spanOf r p qs zs 1 k).2⟩
structure Fits (qs : List Kp175.Rule) (zs : List Kp175.Two) : Prop where
  len : qs.length = zs.length
  pos : 1 ≤ zs.length
  few : zs.length ≤ 1000
  ok : ∀ q, q ∈ qs → Kp175.isRule q
  bnd : ∀ k d, k < zs.length → d < 2 → (qs.getD k default).least.of d ≤ (zs.getD k default).of d ∧ (zs.getD k default).of d ≤ (qs.getD k default).most.of d
theorem Fits.good {qs : List Kp175.Rule} {zs : List Kp175.Two} (h : Fits qs zs) {d : Nat} (hd : d < 2) : goodL (xsOf qs zs d) := by
  intro x hx
  obtain ⟨k, hk, rfl⟩ := List.mem_map.mp hx
  exact h.bnd k d (by simpa using hk) hd
theorem Fits.bounds {qs : List Kp175.Rule} {zs : List Kp175.Two} (h : Fits qs zs) (d : Nat) : boundsL (xsOf qs zs d) := by
  intro x hx
  obtain ⟨k, hk, rfl⟩ := List.mem_map.mp hx
  have hk : k < qs.length := by rw [h.len]; simpa using hk
  have hm : qs.getD k default ∈ qs := by
    rw [List.getD_eq_getElem?_getD, List.getElem?_eq_getElem hk]
    exact List.getElem_mem hk
  have := h.ok _ hm
  exact ⟨this.2.2.2.2.2.2.2.2.1, this.2.2.2.2.2.2.2.2.2⟩
theorem xs_len (qs : List Kp175.Rule) (zs : List Kp175.Two) (d : Nat) : (xsOf qs zs d).length = zs.length := by simp [xsOf]
def sp_inner_spans (t : Adr) : Sp := fun vs H Q _ => ∃ (a q lr lz : Addr) (r : Kp175.Rule) (own : Own) (p : Kp175.Place) (ra za : List Addr) (qs : List Kp175.Rule) (zs : List Kp175.Two) (d : Nat), vs = [.ref a, .ref q, .ref lr, .ref lz, .int (d : Nat)] ∧ RuleAt t.C_Rule own H a r ∧ Kp175.isRule r ∧
  H q = some (.tup (plV p)) ∧ H lr = some (.lst (ra.map V.ref)) ∧ Paired (fun a q => RuleAt t.C_Rule own H a q) ra qs ∧ H lz = some (.lst (za.map V.ref)) ∧ Paired (fun a z => H a = some (.tup (twoV z))) za zs ∧ Fits qs zs ∧ d < 2 ∧
  ∀ (l' : Addr) (ads' : List Addr) (H' : Hp), Same H H' → H l' = none → H' l' = some (.lst (ads'.map V.ref)) → Paired (fun a z => H' a = some (.tup (pairV z))) ads' ((List.range zs.length).map (spanOf r p qs zs d)) → Q (.ref l') H'
def sp_inner_places (t : Adr) : Sp := fun vs H Q _ => ∃ (a q lr lz : Addr) (r : Kp175.Rule) (own : Own) (p : Kp175.Place) (ra za : List Addr) (qs : List Kp175.Rule) (zs : List Kp175.Two), vs = [.ref a, .ref q, .ref lr, .ref lz] ∧ RuleAt t.C_Rule own H a r ∧ Kp175.isRule r ∧
  H q = some (.tup (plV p)) ∧ H lr = some (.lst (ra.map V.ref)) ∧ Paired (fun a q => RuleAt t.C_Rule own H a q) ra qs ∧ H lz = some (.lst (za.map V.ref)) ∧ Paired (fun a z => H a = some (.tup (twoV z))) za zs ∧ Fits qs zs ∧
  ∀ (l' : Addr) (ads' : List Addr) (H' : Hp), Same H H' → H l' = none → H' l' = some (.lst (ads'.map V.ref)) → Paired (fun a z => H' a = some (.tup (plV z))) ads' ((List.range zs.length).map (placeOfK r p qs zs)) → (∀ a, a ∈ ads' → H a = none) → Q (.ref l') H'
section
variable {P : Program} {w : World} {K : PySem.W.Frag} {mg : Str → Option Value} {base : Heap} {t : Adr}
theorem ok_inner_spans (T : Txt K mg t) : FnOk P w K mg base CX0 5 t.f_inner_spans t.fd_inner_spans ["rule", "place", "inner_rules", "inner_sizes", "direction"] (sp_inner_spans t) := by
  refine T.F_inner_spans.ok sc_inner_spans (fun vs H Q E h => ?_) (fun cdv A outer s H vs Q E hr h => ?_)
  · obtain ⟨a, q, lr, lz, r, own, p, ra, za, qs, zs, d, rfl, _⟩ := h
    rfl
  · obtain ⟨a, q, lr, lz, r, own, p, ra, za, qs, zs, d, rfl, R, ir, hq, hlr, prr, hlz, prz, F, hd, k⟩ := h
    have zl : za.length = zs.length := Paired.length prz
    have rl : ra.length = qs.length := Paired.length prr
    have few := F.few
    have lenE := F.len
    refine ⟨_, (pss_cons (ps_set (i := 5) sc_inner_spans.nd rfl (Or.inr rfl) (pe_call (ok_room_in T) (hr.mono (by decide)) rfl T.g_room_in T.k_room_in T.b_room_in .nil pass0 (pa_cons (pv 0) (pa_cons (pv 1) (pa_cons (pv 4) pa_nil)))))
      (pss_cons (ps_set (i := 6) sc_inner_spans.nd rfl (Or.inr rfl) (pe_lc (own := [("size", 7)]) rfl sc_inner_spans.nd (pi_list (pv 3)) (blkOk_by rfl) (fun _ _ _ _ _ => (pg_name (i := 7) sc_inner_spans.nd rfl (Or.inl rfl))) (fun _ _ _ _ _ => pts_nil) (fun _ _ _ _ _ => (pe_ix (ix_tupK (K := K) rfl) (pv 7) (pv 4) (fun _ _ => rfl)))))
      (pss_cons (ps_if (pt_val (pe_meth (pv 0) T.c_Rule T.m_Rule_is_along (ok_Rule_is_along T) (hr.mono (by decide)) T.b_Rule_is_along .nil pass0 (pa_cons (pv 4) pa_nil)))
      (pss_cons (ps_setLc (i := 8) (own := [("k", 9)]) rfl sc_inner_spans.nd rfl rfl (sw_true rfl rfl rfl rfl) (pi_range1 rfl T.n_range (pa_cons (pe_callB call_len_seq rfl T.n_len PySem.boot_len (pa_cons (pv 6) pa_nil)) pa_nil)) (blkOk_by rfl) (fun _ _ _ _ _ => (pg_name (i := 9) sc_inner_spans.nd rfl (Or.inl rfl))) (fun _ _ _ _ _ => pts_nil) (fun _ _ _ _ _ => (pe_call (ok_thing_along T) (hr.mono (by decide)) rfl T.g_thing_along T.k_thing_along T.b_thing_along .nil pass0 (pa_cons (pe_ix (ix_listK (K := K) rfl) (pv 2) (pv 9) (fun _ _ => rfl)) (pa_cons (pe_ix (ix_listK (K := K) rfl) (pv 6) (pv 9) (fun _ _ => rfl)) (pa_cons (pv 4) pa_nil))))))
      (pss_one (ps_ret (pe_call (ok_spans_along T) (hr.mono (by decide)) rfl T.g_spans_along T.k_spans_along T.b_spans_along .nil pass0 (pa_cons (pv 0) (pa_cons (pv 5) (pa_cons (pv 8) pa_nil)))))))
      pss_nil)
      (pss_one (ps_ret (pe_lc (own := [("k", 9)]) rfl sc_inner_spans.nd (pi_range1 rfl T.n_range (pa_cons (pe_callB call_len_seq rfl T.n_len PySem.boot_len (pa_cons (pv 6) pa_nil)) pa_nil)) (blkOk_by rfl) (fun _ _ _ _ _ => (pg_name (i := 9) sc_inner_spans.nd rfl (Or.inl rfl))) (fun _ _ _ _ _ => pts_nil) (fun _ _ _ _ _ => (pe_call (ok_span_by_side T) (hr.mono (by decide)) rfl T.g_span_by_side T.k_span_by_side T.b_span_by_side .nil pass0 (pa_cons (pe_ix (ix_listK (K := K) rfl) (pv 2) (pv 9) (fun _ _ => rfl)) (pa_cons (pv 5) (pa_cons (pe_ix (ix_listK (K := K) rfl) (pv 6) (pv 9) (fun _ _ => rfl)) (pa_cons (pv 4) pa_nil)))))))))))), ?_⟩
    refine ⟨_, rfl, _, rfl, _, rfl, a, q, r, own, p, d, rfl, R, hq, hd, fun pr H1 s1 hp0 hp => ?_⟩
    have hlz1 := s1 _ _ hlz
    -- naturals
    refine ⟨_, rfl, lz, rfl, ⟨_, SqL.of hlz1⟩, fun D hD => lc_list (K := K) (a := lz) (xs := za.map V.ref) (LcP H1 D fun i => (nv (zs.map fun z => z.of d)).take i) (LcP.start hD rfl) (fun i H' _ q => SqL.of (q.1 _ _ hlz1)) (fun i x H' hx q => ?_) fun H2 q2 => ?_⟩
    · obtain ⟨b, hb, rfl⟩ := refs_get (G := fun _ => True) (β := Nat) hx
      obtain ⟨z, hz, hT⟩ := paired_get prz hb
      refine ⟨rfl, _, rfl, _, rfl, b, _, _, _, rfl, rfl, SqT.of (q.1 _ _ (s1 _ _ hT)), twoV_at z d hd, q.next hD (Same.refl _) (small_of ?_) (take_next ?_)⟩
      · simp only [List.length_take, nv_len, List.length_map]
        omega
      · unfold nv
        rw [List.getElem?_map, List.getElem?_map, hz]
        rfl
    obtain ⟨s2, g2⟩ := q2.fin (ys := nv (zs.map fun z => z.of d)) (List.take_of_length_le (by simp [nv_len, zl]))
    have sA : Same H H2 := s1.trans s2
    have R2 := R.same sA
    obtain ⟨dx, t1, t2, t3, o1, o2, o3, o4, h1, h2, h3, h4⟩ := id R2
    have hlr2 := sA _ _ hlr
    have nlen : ((nv (zs.map fun z => z.of d)).length : Int).toNat = zs.length := by rw [nv_len, List.length_map]; omega
    have nat_at : ∀ i, i < zs.length → atI (nv (zs.map fun z => z.of d)) (i : Int) = some (.int ((zs.getD i default).of d : Nat)) := fun i hi => atI_nat (by
      unfold nv
      rw [List.getElem?_map, List.getElem?_map, List.getElem?_eq_getElem hi, List.getD_eq_getElem?_getD, List.getElem?_eq_getElem hi]
      rfl)
    refine ⟨_, rfl, a, dx, _, rfl, h1, rfl, _, rfl, a, r, own, d, rfl, R2, _, rfl, ?_⟩
    by_cases hk : r.kind = d
    · rw [decide_eq_true hk]
      refine iteT ?_
      refine ⟨_, rfl, D, _, rfl, .inl (SqL.of g2), _, rfl, by omega, by rw [nv_len, List.length_map]; omega, fun D2 hD2 => lc_range (LcR H2 D2 (fun o (x : Kp174.One) => ∃ dx, o = .ins t.C_Thing dx (tfs x)) (oneOf qs zs d)) (LcR.start hD2) (fun i H' hi q => ?_) fun H3 q3 => ?_⟩
      · rw [nlen] at hi
        have e0 : (0 : Int) + (i : Int) = (i : Nat) := by omega
        rw [e0]
        obtain ⟨ai, hai, Ri⟩ := paired_at prr (i := i) (by omega) default
        refine ⟨rfl, _, rfl, _, rfl, lr, _, _, _, rfl, rfl, SqL.of (q.1 _ _ hlr2), ref_at hai, _, rfl, _, rfl, D, _, _, _, rfl, rfl, SqL.of (q.1 _ _ g2), nat_at i hi, _, rfl, ai, qs.getD i default, own, (zs.getD i default).of d, d, rfl, (Ri.same sA).same q.1, hd, fun x H4 s4 hx0 ⟨dx, hx⟩ => ?_⟩
        exact q.next (fun xs z ⟨_, e⟩ => by cases e) hD2 s4 (by omega) hx0 hx ⟨dx, rfl⟩
      · rw [nlen] at q3
        obtain ⟨s3, ads, hads, pr3, fr3⟩ := q3
        have sB : Same H H3 := sA.trans s3
        refine ⟨_, rfl, _, rfl, _, rfl, a, pr, D2, r, own, begOf r p d, roomOf r p d, ads, xsOf qs zs d, rfl, R.same sB, ir, s3 _ _ (s2 _ _ hp), hads, paired_mono (fun a x ⟨o, e, dx, eo⟩ => ⟨dx, by rw [e, eo]⟩) pr3, F.good hd, F.bounds d, by rw [xs_len]; exact F.pos, by rw [xs_len]; exact few, fun l' ads' H' s4 hl0 hl' pr' => ?_⟩
        refine k l' ads' H' (sB.trans s4) (sB.free hl0) hl' ?_
        rw [xs_len] at pr'
        have e : spanOf r p qs zs d = alongAt r (xsOf qs zs d) (roomOf r p d) (begOf r p d) := by
          funext kk
          unfold spanOf
          rw [if_pos hk]
        rw [e]
        exact pr'
    · rw [decide_eq_false hk]
      refine iteF ?_
      refine ⟨_, rfl, D, _, rfl, .inl (SqL.of g2), _, rfl, by omega, by rw [nv_len, List.length_map]; omega, fun D2 hD2 => lc_range (LcR H2 D2 (fun o (z : Int × Int) => o = .tup (pairV z)) (spanOf r p qs zs d)) (LcR.start hD2) (fun i H' hi q => ?_) fun H3 q3 => ?_⟩
      · rw [nlen] at hi
        have e0 : (0 : Int) + (i : Int) = (i : Nat) := by omega
        rw [e0]
        obtain ⟨ai, hai, Ri⟩ := paired_at prr (i := i) (by omega) default
        refine ⟨rfl, _, rfl, _, rfl, lr, _, _, _, rfl, rfl, SqL.of (q.1 _ _ hlr2), ref_at hai, _, rfl, _, rfl, _, rfl, D, _, _, _, rfl, rfl, SqL.of (q.1 _ _ g2), nat_at i hi, _, rfl, ai, pr, qs.getD i default, own, begOf r p d, roomOf r p d, (zs.getD i default).of d, d, rfl, (Ri.same sA).same q.1, q.1 _ _ (s2 _ _ hp), hd, fun x H4 s4 hx0 hx => ?_⟩
        refine q.next (fun xs z e => by cases e) hD2 s4 (by omega) hx0 hx ?_
        unfold spanOf
        rw [if_neg hk]
        rfl
      · rw [nlen] at q3
        obtain ⟨s3, ads, hads, pr3, fr3⟩ := q3
        exact k D2 ads H3 (sA.trans s3) (sA.free hD2) hads (paired_mono (fun a x ⟨o, e, eo⟩ => by rw [e, eo]) pr3)
theorem ok_inner_places (T : Txt K mg t) : FnOk P w K mg base CX0 6 t.f_inner_places t.fd_inner_places ["rule", "place", "inner_rules", "inner_sizes"] (sp_inner_places t) := by
  refine T.F_inner_places.ok sc_inner_places (fun vs H Q E h => ?_) (fun cdv A outer s H vs Q E hr h => ?_)
  · obtain ⟨a, q, lr, lz, r, own, p, ra, za, qs, zs, rfl, _⟩ := h
    rfl
  · obtain ⟨a, q, lr, lz, r, own, p, ra, za, qs, zs, rfl, R, ir, hq, hlr, prr, hlz, prz, F, k⟩ := h
    have zl : za.length = zs.length := Paired.length prz
    have rl : ra.length = qs.length := Paired.length prr
    have few := F.few
    have lenE := F.len
    refine ⟨_, (pss_cons (ps_set (i := 4) sc_inner_places.nd rfl (Or.inr rfl) (pe_call (ok_inner_spans T) (hr.mono (by decide)) rfl T.g_inner_spans T.k_inner_spans T.b_inner_spans .nil pass0 (pa_cons (pv 0) (pa_cons (pv 1) (pa_cons (pv 2) (pa_cons (pv 3) (pa_cons (pe_glob rfl T.g_ACROSS T.r_ACROSS) pa_nil)))))))
      (pss_cons (ps_set (i := 5) sc_inner_places.nd rfl (Or.inr rfl) (pe_call (ok_inner_spans T) (hr.mono (by decide)) rfl T.g_inner_spans T.k_inner_spans T.b_inner_spans .nil pass0 (pa_cons (pv 0) (pa_cons (pv 1) (pa_cons (pv 2) (pa_cons (pv 3) (pa_cons (pe_glob rfl T.g_DOWN T.r_DOWN) pa_nil)))))))
      (pss_one (ps_ret (pe_lc (own := [("k", 6)]) rfl sc_inner_places.nd (pi_range1 rfl T.n_range (pa_cons (pe_callB call_len_seq rfl T.n_len PySem.boot_len (pa_cons (pv 2) pa_nil)) pa_nil)) (blkOk_by rfl) (fun _ _ _ _ _ => (pg_name (i := 6) sc_inner_places.nd rfl (Or.inl rfl))) (fun _ _ _ _ _ => pts_nil) (fun _ _ _ _ _ => (pe_tup (pa_cons (pe_ix (ix_tupK (K := K) rfl) (pe_ix (ix_listK (K := K) rfl) (pv 4) (pv 6) (fun _ _ => rfl)) pe_int (fun _ _ => rfl)) (pa_cons (pe_ix (ix_tupK (K := K) rfl) (pe_ix (ix_listK (K := K) rfl) (pv 5) (pv 6) (fun _ _ => rfl)) pe_int (fun _ _ => rfl)) (pa_cons (pe_ix (ix_tupK (K := K) rfl) (pe_ix (ix_listK (K := K) rfl) (pv 4) (pv 6) (fun _ _ => rfl)) pe_int (fun _ _ => rfl)) (pa_cons (pe_ix (ix_tupK (K := K) rfl) (pe_ix (ix_listK (K := K) rfl) (pv 5) (pv 6) (fun _ _ => rfl)) pe_int (fun _ _ => rfl)) pa_nil))))))))))), ?_⟩
    refine ⟨_, rfl, _, rfl, _, rfl, _, rfl, a, q, lr, lz, r, own, p, ra, za, qs, zs, 0, rfl, R, ir, hq, hlr, prr, hlz, prz, F, by decide, fun l1 as1 H1 s1 hl10 hl1 pr1 => ?_⟩
    refine ⟨_, rfl, _, rfl, _, rfl, _, rfl, a, q, lr, lz, r, own, p, ra, za, qs, zs, 1, rfl, R.same s1, ir, s1 _ _ hq, s1 _ _ hlr, paired_mono (fun a b e => e.same s1) prr, s1 _ _ hlz, paired_mono (fun a b e => s1 _ _ e) prz, F, by decide, fun l2 as2 H2 s2 hl20 hl2 pr2 => ?_⟩
    have sA : Same H H2 := s1.trans s2
    have nlen : ((ra.map V.ref).length : Int).toNat = zs.length := by rw [List.length_map]; omega
    refine ⟨_, rfl, lr, _, rfl, .inl (SqL.of (sA _ _ hlr)), _, rfl, by omega, by rw [List.length_map]; omega, fun D hD => lc_range (LcR H2 D (fun o (z : Kp175.Place) => o = .tup (plV z)) (placeOfK r p qs zs)) (LcR.start hD) (fun i H' hi q => ?_) fun H3 q3 => ?_⟩
    · rw [nlen] at hi
      have e0 : (0 : Int) + (i : Int) = (i : Nat) := by omega
      rw [e0]
      obtain ⟨a1, ha1, g1⟩ := paired_at pr1 (i := i) (by simpa using hi) (0, 0)
      obtain ⟨a2, ha2, g2⟩ := paired_at pr2 (i := i) (by simpa using hi) (0, 0)
      have e1 : ((List.range zs.length).map (spanOf r p qs zs 0)).getD i (0, 0) = spanOf r p qs zs 0 i := getD_at (by rw [List.getElem?_map, List.getElem?_range hi]; rfl)
      have e2 : ((List.range zs.length).map (spanOf r p qs zs 1)).getD i (0, 0) = spanOf r p qs zs 1 i := getD_at (by rw [List.getElem?_map, List.getElem?_range hi]; rfl)
      rw [e1] at g1
      rw [e2] at g2
      have f1 := q.1 _ _ (s2 _ _ g1)
      have f2 := q.1 _ _ g2
      refine ⟨rfl, _, rfl, _, rfl, l1, _, _, _, rfl, rfl, SqL.of (q.1 _ _ (s2 _ _ hl1)), ref_at ha1, a1, _, _, _, rfl, rfl, SqT.of f1, atI_nat (j := 0) rfl,
        _, rfl, _, rfl, l2, _, _, _, rfl, rfl, SqL.of (q.1 _ _ hl2), ref_at ha2, a2, _, _, _, rfl, rfl, SqT.of f2, atI_nat (j := 0) rfl,
        _, rfl, _, rfl, l1, _, _, _, rfl, rfl, SqL.of (q.1 _ _ (s2 _ _ hl1)), ref_at ha1, a1, _, _, _, rfl, rfl, SqT.of f1, atI_nat (j := 1) rfl,
        _, rfl, _, rfl, l2, _, _, _, rfl, rfl, SqL.of (q.1 _ _ hl2), ref_at ha2, a2, _, _, _, rfl, rfl, SqT.of f2, atI_nat (j := 1) rfl, (by show 4 ≤ sizeLine; decide), fun x hx => ?_⟩
      exact q.next (fun xs z e => by cases e) hD (same_upd hx) (by omega) hx upd_same rfl
    · rw [nlen] at q3
      obtain ⟨s3, ads, hads, pr3, fr3⟩ := q3
      exact k D ads H3 (sA.trans s3) (sA.free hD) hads (paired_mono (fun a x ⟨o, e, eo⟩ => by rw [e, eo]) pr3) fun a ha => sA.free (fr3 a ha)
end
end BXP
namespace BXP
open Kp175 BX
theorem ruleOf_eq {a : Abs} {i : Nat} {b : Box} (h : box a i = some b) : ruleOf a i = b.rule := by unfold ruleOf; rw [h]
theorem kidsOf_eq {a : Abs} {i : Nat} {b : Box} (h : box a i = some b) : kidsOf a i = b.kids := by unfold kidsOf; rw [h]
theorem nat_stable {a : Abs} {dp : Nat → Nat} (w : Wf a dp) (d : Nat) : ∀ (f g i : Nat) (b : Box), box a i = some b → 17 - dp i ≤ f → 17 - dp i ≤ g → natural a d f i = natural a d g i
  | 0, g, i, b, hb, h1, h2 => by
    have := (w.dpl i b hb).2
    omega
  | f + 1, 0, i, b, hb, h1, h2 => by
    have := (w.dpl i b hb).2
    omega
  | f + 1, g + 1, i, b, hb, h1, h2 => by
    have e : (kidsOf a i).map (natural a d f) = (kidsOf a i).map (natural a d g) := by
      refine List.map_congr_left fun k hk => ?_
      rw [kidsOf_eq hb] at hk
      obtain ⟨k0, c, hc, hin⟩ := w.down i b k hb hk
      have hd := w.dps k c hc k0
      rw [hin] at hd
      exact nat_stable w d f g k c hc (by omega) (by omega)
    unfold natural
    rw [e]
def Nt (a : Abs) (d i : Nat) : Nat := natural a d DEEP i
def Nz (a : Abs) (i : Nat) : Two := ⟨Nt a 0 i, Nt a 1 i⟩
theorem Nz_of {a : Abs} {i d : Nat} (h : d < 2) : (Nz a i).of d = Nt a d i := by
  match d, h with
  | 0, _ => rfl
  | 1, _ => rfl
theorem Nt_eq {a : Abs} {dp : Nat → Nat} (w : Wf a dp) {i : Nat} {b : Box} (hb : box a i = some b) (d : Nat) : Nt a d i = natLen b.rule d (b.kids.map (Nt a d)) := by
  have e : (kidsOf a i).map (natural a d 15) = b.kids.map (Nt a d) := by
    rw [kidsOf_eq hb]
    refine List.map_congr_left fun k hk => ?_
    obtain ⟨k0, c, hc, hin⟩ := w.down i b k hb hk
    have hd := w.dps k c hc k0
    rw [hin] at hd
    have := (w.dpl i b hb).1
    exact nat_stable w d 15 16 k c hc (by omega) (by omega)
  unfold Nt DEEP
  rw [show (16 : Nat) = 15 + 1 from rfl]
  unfold natural
  rw [e, ruleOf_eq hb]
  rfl
theorem good_dirs {r : Rule} (h : goodRule r = true) {d : Nat} (hd : d < 2) : r.least.of d ≤ r.wish.of d ∧ r.wish.of d ≤ r.most.of d := by
  unfold goodRule at h
  simp only [Bool.and_eq_true, decide_eq_true_eq] at h
  match d, hd with
  | 0, _ => exact ⟨h.1.1.1.1.1.1.1, h.1.1.1.1.1.1.2⟩
  | 1, _ => exact ⟨h.1.1.1.1.1.2, h.1.1.1.1.2⟩
theorem Nt_bnd {a : Abs} {dp : Nat → Nat} (w : Wf a dp) {i : Nat} {b : Box} (hb : box a i = some b) {d : Nat} (hd : d < 2) : b.rule.least.of d ≤ Nt a d i ∧ Nt a d i ≤ b.rule.most.of d := by
  have g := good_dirs (w.good i b hb).1 hd
  rw [Nt_eq w hb]
  unfold natLen
  omega
def kqs (a : Abs) (b : Box) : List Rule := b.kids.map (ruleOf a)
def kzs (a : Abs) (b : Box) : List Two := b.kids.map (Nz a)
theorem getD_map {α β : Type} (f : α → β) {l : List α} {k : Nat} {d : α} {e : β} (h : k < l.length) : (l.map f).getD k e = f (l.getD k d) := by
  rw [List.getD_eq_getElem?_getD, List.getElem?_map, List.getD_eq_getElem?_getD, List.getElem?_eq_getElem h]
  rfl
theorem getD_mem {α : Type} {l : List α} {k : Nat} {d : α} (h : k < l.length) : l.getD k d ∈ l := by
  rw [List.getD_eq_getElem?_getD, List.getElem?_eq_getElem h]
  exact List.getElem_mem h
theorem fits {a : Abs} {dp : Nat → Nat} (w : Wf a dp) {i : Nat} {b : Box} (hb : box a i = some b) (hk : b.kids ≠ []) : Fits (kqs a b) (kzs a b) := by
  have hl := w.few i b hb
  refine ⟨by simp [kqs, kzs], by simp [kzs]; exact List.length_pos_iff.mpr hk, by simp [kzs]; omega, fun q hq => ?_, fun k d h1 hd => ?_⟩
  · obtain ⟨j, hj, rfl⟩ := List.mem_map.mp hq
    obtain ⟨_, c, hc, _⟩ := w.down i b j hb hj
    rw [ruleOf_eq hc]
    exact (w.good j c hc).2
  · have h1 : k < b.kids.length := by simpa [kzs] using h1
    obtain ⟨_, c, hc, _⟩ := w.down i b _ hb (getD_mem (d := 0) h1)
    have e1 : (kqs a b).getD k default = c.rule := by unfold kqs; rw [getD_map (d := 0) _ h1, ruleOf_eq hc]
    have e2 : ((kzs a b).getD k default).of d = Nt a d (b.kids.getD k 0) := by unfold kzs; rw [getD_map (d := 0) _ h1, Nz_of hd]
    rw [e1, e2]
    exact Nt_bnd w hc hd
theorem ones_eq {a : Abs} {dp : Nat → Nat} (w : Wf a dp) {i : Nat} {b : Box} (hb : box a i = some b) {d : Nat} (hd : d < 2) : ones a d b.kids = xsOf (kqs a b) (kzs a b) d := by
  unfold ones xsOf
  have hl : (kzs a b).length = b.kids.length := by simp [kzs]
  refine List.ext_getElem (by simp [hl]) fun k h1 h2 => ?_
  have hk : k < b.kids.length := by simpa using h1
  simp only [List.getElem_map, List.getElem_range]
  obtain ⟨_, c, hc, _⟩ := w.down i b _ hb (List.getElem_mem hk)
  have g : b.kids.getD k 0 = b.kids[k] := by rw [List.getD_eq_getElem?_getD, List.getElem?_eq_getElem hk]; rfl
  have e1 : (kqs a b).getD k default = c.rule := by unfold kqs; rw [getD_map (d := 0) _ hk, g, ruleOf_eq hc]
  have e2 : ((kzs a b).getD k default).of d = Nt a d b.kids[k] := by unfold kzs; rw [getD_map (d := 0) _ hk, g, Nz_of hd]
  unfold oneOf
  rw [e1, e2, ruleOf_eq hc]
  have := (Nt_bnd w hc hd).1
  have e3 : max (c.rule.least.of d) (natural a d DEEP b.kids[k]) = Nt a d b.kids[k] := Nat.max_eq_right this
  rw [e3]
theorem along_at {a : Abs} {dp : Nat → Nat} (w : Wf a dp) {i : Nat} {b : Box} (hb : box a i = some b) {d : Nat} (hd : d < 2) (room bg : Int) {k : Nat} (hk : k < b.kids.length) :
    ∃ z, (along a d b.rule b.kids room)[k]? = some z ∧ alongAt b.rule (xsOf (kqs a b) (kzs a b) d) room bg k = (bg + z.1, z.2) := by
  have hx : (xsOf (kqs a b) (kzs a b) d).length = b.kids.length := by rw [xs_len]; simp [kzs]
  unfold along
  rw [ones_eq w hb hd]
  dsimp only
  rw [List.getElem?_map, List.getElem?_range hk]
  refine ⟨_, rfl, ?_⟩
  unfold alongAt lengthIn restOf
  dsimp only
  rw [hx]
theorem across_at {a : Abs} {dp : Nat → Nat} (w : Wf a dp) {i : Nat} {b : Box} (hb : box a i = some b) {d : Nat} (hd : d < 2) (room : Int) {k : Nat} (hk : k < b.kids.length) :
    across a d room (b.kids.getD k 0) = sideOf ((kqs a b).getD k default) d room (((kzs a b).getD k default).of d) := by
  obtain ⟨_, c, hc, _⟩ := w.down i b _ hb (getD_mem (d := 0) hk)
  have e1 : (kqs a b).getD k default = c.rule := by unfold kqs; rw [getD_map (d := 0) _ hk, ruleOf_eq hc]
  have e2 : ((kzs a b).getD k default).of d = Nt a d (b.kids.getD k 0) := by unfold kzs; rw [getD_map (d := 0) _ hk, Nz_of hd]
  unfold across sideOf
  rw [e1, e2, ruleOf_eq hc]
  dsimp only
  have := (Nt_bnd w hc hd).1
  have e3 : (max ((c.rule.least.of d : Nat) : Int) ((natural a d DEEP (b.kids.getD k 0) : Nat) : Int)) = (Nt a d (b.kids.getD k 0) : Nat) := by
    unfold Nt at this ⊢
    omega
  rw [e3]
theorem inside_eq {a : Abs} {dp : Nat → Nat} (w : Wf a dp) {i : Nat} {b : Box} (hb : box a i = some b) (p : Place) :
    inside a i p = (List.range b.kids.length).map fun k => (b.kids.getD k 0, placeOfK b.rule p (kqs a b) (kzs a b) k) := by
  have hlen : ∀ d room, (along a d b.rule b.kids room).length = b.kids.length := fun d room => by simp [along]
  have kg : ∀ k (h : k < b.kids.length), b.kids[k] = b.kids.getD k 0 := fun k h => by rw [List.getD_eq_getElem?_getD, List.getElem?_eq_getElem h]; rfl
  unfold inside
  rw [ruleOf_eq hb, kidsOf_eq hb]
  dsimp only
  by_cases h0 : b.rule.kind = 0
  · rw [if_pos h0]
    refine List.ext_getElem (by simp [hlen]) fun k h1 h2 => ?_
    have hk : k < b.kids.length := by simpa using h2
    obtain ⟨z, hz, ez⟩ := along_at w hb (d := 0) (by decide) (max (p.w - 2 * b.rule.pad) 0) (begOf b.rule p 0) hk
    obtain ⟨hz1, hz2⟩ := List.getElem?_eq_some_iff.mp hz
    simp only [List.getElem_map, List.getElem_range, List.getElem_zip, hz2, kg k hk]
    rw [across_at w hb (d := 1) (by decide) _ hk]
    unfold placeOfK spanOf
    rw [if_pos h0, if_neg (by omega)]
    have er : roomOf b.rule p 0 = max (p.w - 2 * b.rule.pad) 0 := rfl
    rw [er, ez]
    simp only [begOf, pbeg, roomOf, psz]
    simp
  · rw [if_neg h0]
    by_cases h2 : b.rule.kind = 2
    · rw [w.leaf i b hb h2]
      rfl
    have hkind : b.rule.kind = 1 := by
      have := (w.good i b hb).1
      unfold goodRule at this
      simp only [Bool.and_eq_true, decide_eq_true_eq] at this
      omega
    refine List.ext_getElem (by simp [hlen]) fun k h1 h2 => ?_
    have hk : k < b.kids.length := by simpa using h2
    obtain ⟨z, hz, ez⟩ := along_at w hb (d := 1) (by decide) (max (p.h - 2 * b.rule.pad) 0) (begOf b.rule p 1) hk
    obtain ⟨hz1, hz2⟩ := List.getElem?_eq_some_iff.mp hz
    simp only [List.getElem_map, List.getElem_range, List.getElem_zip, hz2, kg k hk]
    rw [across_at w hb (d := 0) (by decide) _ hk]
    unfold placeOfK spanOf
    rw [if_neg h0, if_pos hkind]
    have er : roomOf b.rule p 1 = max (p.h - 2 * b.rule.pad) 0 := rfl
    rw [er, ez]
    simp only [begOf, pbeg, roomOf, psz]
    simp
structure Laid (a : Abs) (W H : Nat) (Pl : Nat → Place) : Prop where
  root : Pl 0 = ⟨0, 0, W, H⟩
  kid : ∀ i b k, box a i = some b → k < b.kids.length → Pl (b.kids.getD k 0) = placeOfK b.rule (Pl i) (kqs a b) (kzs a b) k
theorem places_sound {a : Abs} {dp : Nat → Nat} (w : Wf a dp) {W H : Nat} {Pl : Nat → Place} (L : Laid a W H Pl) : ∀ (f i : Nat) (b : Box), box a i = some b → ∀ z, z ∈ places a f i (Pl i) → z.2 = Pl z.1
  | 0, i, b, hb, z, hz => by simp [places] at hz
  | f + 1, i, b, hb, z, hz => by
    unfold places at hz
    rcases List.mem_cons.mp hz with rfl | hz
    · rfl
    · obtain ⟨y, hy, hz⟩ := List.mem_flatMap.mp hz
      rw [inside_eq w hb] at hy
      obtain ⟨k, hk, rfl⟩ := List.mem_map.mp hy
      have hk : k < b.kids.length := by simpa using hk
      obtain ⟨_, c, hc, _⟩ := w.down i b _ hb (getD_mem (d := 0) hk)
      dsimp only at hz
      rw [← L.kid i b k hb hk] at hz
      exact places_sound w L f _ c hc z hz
theorem places_more {a : Abs} : ∀ (f i : Nat) (p : Place) (q : Nat) (pq : Place) (z : Nat × Place), (q, pq) ∈ places a f i p → z ∈ inside a q pq → z ∈ places a (f + 1) i p
  | 0, i, p, q, pq, z, h, hz => by simp [places] at h
  | f + 1, i, p, q, pq, z, h, hz => by
    unfold places at h
    rcases List.mem_cons.mp h with e | h
    · cases e
      unfold places
      refine List.mem_cons_of_mem _ (List.mem_flatMap.mpr ⟨z, hz, ?_⟩)
      unfold places
      exact List.mem_cons_self
    · obtain ⟨y, hy, h⟩ := List.mem_flatMap.mp h
      unfold places
      exact List.mem_cons_of_mem _ (List.mem_flatMap.mpr ⟨y, hy, places_more f y.1 y.2 q pq z h hz⟩)
theorem places_all {a : Abs} {dp : Nat → Nat} (w : Wf a dp) {W H : Nat} {Pl : Nat → Place} (L : Laid a W H Pl) : ∀ (f i : Nat) (b : Box), box a i = some b → dp i ≤ f → (i, Pl i) ∈ places a f 0 (Pl 0)
  | 0, i, b, hb, h => by
    have := (w.dpl i b hb).1
    omega
  | f + 1, i, b, hb, h => by
    by_cases hi : i = 0
    · subst hi
      unfold places
      exact List.mem_cons_self
    · obtain ⟨c, hc, hm⟩ := w.up i b hb hi
      have hd := w.dps i b hb hi
      have ih := places_all w L f b.in_ c hc (by omega)
      refine places_more f 0 (Pl 0) b.in_ (Pl b.in_) _ ih ?_
      rw [inside_eq w hc]
      obtain ⟨k, hk⟩ := List.mem_iff_getElem?.mp hm
      obtain ⟨hk1, hk2⟩ := List.getElem?_eq_some_iff.mp hk
      have e : c.kids.getD k 0 = i := by rw [List.getD_eq_getElem?_getD, hk]; rfl
      refine List.mem_map.mpr ⟨k, by simpa using hk1, ?_⟩
      rw [← L.kid _ c k hc hk1, e]
theorem placeOf_eq {a : Abs} {dp : Nat → Nat} (w : Wf a dp) {W H : Nat} {Pl : Nat → Place} (L : Laid a W H Pl) {i : Nat} {b : Box} (hb : box a i = some b) : placeOf (layout a W H) i = some (Pl i) := by
  obtain ⟨b0, hb0, _⟩ := w.root
  have hm : (i, Pl i) ∈ layout a W H := by
    unfold layout
    rw [← L.root]
    exact places_all w L DEEP i b hb (w.dpl i b hb).2
  unfold placeOf
  cases e : (layout a W H).find? fun z => z.1 == i with
  | none =>
    have := List.find?_eq_none.mp e _ hm
    simp at this
  | some z =>
    have h1 := List.find?_some e
    have h2 := List.mem_of_find?_eq_some e
    have h1 : z.1 = i := by simpa using h1
    unfold layout at h2
    rw [← L.root] at h2
    have := places_sound w L DEEP 0 b0 hb0 z h2
    rw [h1] at this
    show some z.2 = some (Pl i)
    rw [this]
end BXP
namespace BXP
open Kp175 BX
theorem nodup_lt : ∀ (n : Nat) (l : List Nat), l.Nodup → (∀ x, x ∈ l → x < n) → l.length ≤ n
  | 0, [], _, _ => Nat.le_refl _
  | 0, x :: l, _, h => absurd (h x (by simp)) (Nat.not_lt_zero _)
  | n + 1, l, nd, h => by
    by_cases hm : n ∈ l
    · have e := List.length_erase_of_mem hm
      have ih := nodup_lt n (l.erase n) (nd.erase n) fun x hx => by
        have h1 := h x (List.mem_of_mem_erase hx)
        have h2 : x ≠ n := fun z => by
          rw [z] at hx
          exact (List.Nodup.not_mem_erase nd) hx
        omega
      omega
    · have ih := nodup_lt n l nd fun x hx => by
        have h1 := h x hx
        have h2 : x ≠ n := fun z => hm (z ▸ hx)
        omega
      omega
structure Walk (a : Abs) (o : List Nat) (w : Nat) : Prop where
  le : w ≤ o.length
  eq : o = 0 :: (o.take w).flatMap (kidsOf a)
  nd : o.Nodup
  bx : ∀ i, i ∈ o → ∃ b, box a i = some b
  ks : ∀ (k i j : Nat), k < w → o[k]? = some i → j ∈ kidsOf a i → ∃ m, k < m ∧ o[m]? = some j
theorem Walk.start {a : Abs} {dp : Nat → Nat} (w : Wf a dp) : Walk a [0] 0 := by
  obtain ⟨b, hb, _⟩ := w.root
  exact ⟨by decide, rfl, by simp, fun i hi => by
    have : i = 0 := by simpa using hi
    exact ⟨b, this ▸ hb⟩, fun k i j hk => absurd hk (Nat.not_lt_zero _)⟩
theorem Walk.step {a : Abs} {dp : Nat → Nat} (wf : Wf a dp) {o : List Nat} {w i : Nat} (h : Walk a o w) (hw : o[w]? = some i) : Walk a (o ++ kidsOf a i) (w + 1) := by
  obtain ⟨hlt, ei⟩ := List.getElem?_eq_some_iff.mp hw
  obtain ⟨b, hb⟩ := h.bx i (List.mem_of_getElem? hw)
  have et : o.take (w + 1) = o.take w ++ [i] := by rw [List.take_succ_eq_append_getElem hlt, ei]
  refine ⟨by simp; omega, ?_, ?_, fun j hj => ?_, fun k i' j hk hi' hj => ?_⟩
  · rw [List.take_append_of_le_length (by omega), et, List.flatMap_append]
    conv => lhs; rw [h.eq]
    simp
  · rw [List.nodup_append]
    refine ⟨h.nd, by rw [kidsOf_eq hb]; exact wf.nd i b hb, fun x hx y hy e => ?_⟩
    subst e
    rw [kidsOf_eq hb] at hy
    obtain ⟨x0, c, hc, hin⟩ := wf.down i b x hb hy
    rw [h.eq] at hx
    rcases List.mem_cons.mp hx with z | hx
    · exact x0 z
    · obtain ⟨j, hj, hx⟩ := List.mem_flatMap.mp hx
      obtain ⟨b', hb'⟩ := h.bx j (List.mem_of_mem_take hj)
      rw [kidsOf_eq hb'] at hx
      obtain ⟨_, c', hc', hin'⟩ := wf.down j b' x hb' hx
      rw [hc] at hc'
      cases hc'
      have ej : j = i := by rw [← hin', ← hin]
      subst ej
      obtain ⟨m, hm, em⟩ := List.mem_take_iff_getElem.mp hj
      have hm' : m < w := by omega
      have hmo : m < o.length := by omega
      have := L2.nd_ix h.nd (show o[m]? = some j by rw [List.getElem?_eq_getElem hmo, em]) hw
      omega
  · rcases List.mem_append.mp hj with hj | hj
    · exact h.bx j hj
    · rw [kidsOf_eq hb] at hj
      obtain ⟨_, c, hc, _⟩ := wf.down i b j hb hj
      exact ⟨c, hc⟩
  · by_cases ek : k = w
    · subst ek
      rw [List.getElem?_append_left hlt, hw] at hi'
      cases hi'
      obtain ⟨n, hn⟩ := List.mem_iff_getElem?.mp hj
      refine ⟨o.length + n, by omega, ?_⟩
      rw [List.getElem?_append_right (by omega)]
      simpa using hn
    · rw [List.getElem?_append_left (by omega)] at hi'
      obtain ⟨m, hm, e⟩ := h.ks k i' j (by omega) hi' hj
      exact ⟨m, hm, by rw [List.getElem?_append_left (List.getElem?_eq_some_iff.mp e).1]; exact e⟩
theorem Walk.few {a : Abs} {dp : Nat → Nat} (wf : Wf a dp) {o : List Nat} {w : Nat} (h : Walk a o w) : o.length ≤ 256 :=
  nodup_lt 256 o h.nd fun x hx => by
    obtain ⟨b, hb⟩ := h.bx x hx
    have := box_lt hb
    rw [wf.len] at this
    exact this
structure Order (a : Abs) (o : List Nat) : Prop where
  nd : o.Nodup
  mem : ∀ i, i ∈ o ↔ ∃ b, box a i = some b
  few : o.length ≤ 256
  head : o[0]? = some 0
  eq : o = 0 :: o.flatMap (kidsOf a)
  kids : ∀ (k i : Nat) (b : Box) (j : Nat), o[k]? = some i → box a i = some b → j ∈ b.kids → ∃ m, k < m ∧ o[m]? = some j
theorem Walk.order {a : Abs} {dp : Nat → Nat} (wf : Wf a dp) {o : List Nat} (h : Walk a o o.length) : Order a o := by
  have e : o = 0 :: o.flatMap (kidsOf a) := by
    have := h.eq
    rw [List.take_of_length_le (Nat.le_refl _)] at this
    exact this
  have all : ∀ (n i : Nat) (b : Box), box a i = some b → dp i ≤ n → i ∈ o := by
    intro n
    induction n with
    | zero =>
      intro i b hb hn
      have := (wf.dpl i b hb).1
      omega
    | succ n ih =>
      intro i b hb hn
      by_cases hi : i = 0
      · rw [e, hi]
        simp
      · obtain ⟨c, hc, hm⟩ := wf.up i b hb hi
        have hd := wf.dps i b hb hi
        have := ih b.in_ c hc (by omega)
        rw [e]
        exact List.mem_cons_of_mem _ (List.mem_flatMap.mpr ⟨_, this, by rw [kidsOf_eq hc]; exact hm⟩)
  refine ⟨h.nd, fun i => ⟨h.bx i, fun ⟨b, hb⟩ => all 16 i b hb (wf.dpl i b hb).2⟩, h.few wf, by rw [e]; rfl, e, fun k i b j hk hb hj => ?_⟩
  exact h.ks k i j (List.getElem?_eq_some_iff.mp hk).1 hk (by rw [kidsOf_eq hb]; exact hj)
theorem len_eq_of_mem {l l' : List Nat} (h1 : l.Nodup) (h2 : l'.Nodup) (h : ∀ x, x ∈ l ↔ x ∈ l') : l.length = l'.length := by
  have le : ∀ {l l' : List Nat}, l.Nodup → (∀ x, x ∈ l → x ∈ l') → l.length ≤ l'.length := by
    intro l
    induction l with
    | nil => intro l' _ _; simp
    | cons x l ih =>
      intro l' nd hs
      obtain ⟨n1, n2⟩ := List.nodup_cons.mp nd
      have hx := hs x (by simp)
      have e := List.length_erase_of_mem hx
      have pos : 0 < l'.length := List.length_pos_of_mem hx
      have := ih (l' := l'.erase x) n2 fun y hy => (List.mem_erase_of_ne (show y ≠ x from fun z => n1 (by rw [← z]; exact hy))).mpr (hs y (by simp [hy]))
      rw [List.length_cons]
      omega
  exact Nat.le_antisymm (le h1 fun x hx => (h x).mp hx) (le h2 fun x hx => (h x).mpr hx)
def differs (a : Abs) (Pl : Nat → Place) (i : Nat) : Bool := match box a i with
  | some b => b.place != some (Pl i)
  | none => false
theorem zipIdx_nodup {α : Type} (a : List α) (p : α × Nat → Bool) : (((a.zipIdx).filter p).map Prod.snd).Nodup := by
  have h : (a.zipIdx.map Prod.snd).Nodup := by
    rw [List.zipIdx_map_snd]
    exact List.nodup_range'
  exact List.Nodup.sublist (List.Sublist.map _ List.filter_sublist) h
theorem moved_eq {a : Abs} {dp : Nat → Nat} (w : Wf a dp) {W H : Nat} {Pl : Nat → Place} (L : Laid a W H Pl) {o : List Nat} (O : Order a o) : moved a (layout a W H) = (o.filter (differs a Pl)).length := by
  unfold moved
  rw [← List.length_map (f := Prod.snd)]
  refine len_eq_of_mem (zipIdx_nodup a _) (O.nd.filter _) fun i => ?_
  have hbx : ∀ b, box a i = some b ↔ (some b, i) ∈ a.zipIdx := fun b => by
    rw [List.mem_zipIdx_iff_getElem?]
    unfold box
    cases e : a[i]? with
    | none => simp
    | some x => cases x <;> simp
  constructor
  · intro h
    obtain ⟨z, hz, rfl⟩ := List.mem_map.mp h
    obtain ⟨hz1, hz2⟩ := List.mem_filter.mp hz
    obtain ⟨y, j⟩ := z
    cases y with
    | none => cases hz2
    | some b =>
      have hb : box a j = some b := (hbx b).mpr hz1
      refine List.mem_filter.mpr ⟨(O.mem j).mpr ⟨b, hb⟩, ?_⟩
      unfold differs
      rw [hb]
      dsimp only at hz2 ⊢
      rw [placeOf_eq w L hb] at hz2
      exact hz2
  · intro h
    obtain ⟨h1, h2⟩ := List.mem_filter.mp h
    obtain ⟨b, hb⟩ := (O.mem i).mp h1
    unfold differs at h2
    rw [hb] at h2
    refine List.mem_map.mpr ⟨(some b, i), List.mem_filter.mpr ⟨(hbx b).mp hb, ?_⟩, rfl⟩
    dsimp only at h2 ⊢
    rw [placeOf_eq w L hb]
    exact h2
def lastIn (a : Abs) (x y : Int) (l : List Nat) : Option Nat := (l.filter (liesIn a x y)).getLast?
theorem at_stable {a : Abs} {dp : Nat → Nat} (w : Wf a dp) (x y : Int) : ∀ (f g i : Nat) (b : Box), box a i = some b → 16 - dp i ≤ f → 16 - dp i ≤ g → at_ a x y f i = at_ a x y g i
  | 0, 0, i, b, hb, h1, h2 => rfl
  | 0, g + 1, i, b, hb, h1, h2 => by
    have hk : kidsOf a i = [] := by
      rw [kidsOf_eq hb]
      cases e : b.kids with
      | nil => rfl
      | cons j r =>
        obtain ⟨j0, c, hc, hin⟩ := w.down i b j hb (by rw [e]; simp)
        have h3 := w.dps j c hc j0
        have h4 := (w.dpl j c hc).2
        rw [hin] at h3
        omega
    unfold at_
    rw [hk]
    rfl
  | f + 1, 0, i, b, hb, h1, h2 => by
    have hk : kidsOf a i = [] := by
      rw [kidsOf_eq hb]
      cases e : b.kids with
      | nil => rfl
      | cons j r =>
        obtain ⟨j0, c, hc, hin⟩ := w.down i b j hb (by rw [e]; simp)
        have h3 := w.dps j c hc j0
        have h4 := (w.dpl j c hc).2
        rw [hin] at h3
        omega
    unfold at_
    rw [hk]
    rfl
  | f + 1, g + 1, i, b, hb, h1, h2 => by
    unfold at_
    cases e : ((kidsOf a i).filter (liesIn a x y)).getLast? with
    | none => rfl
    | some k =>
      have hk : k ∈ kidsOf a i := (List.mem_filter.mp (List.mem_of_getLast? e)).1
      rw [kidsOf_eq hb] at hk
      obtain ⟨k0, c, hc, hin⟩ := w.down i b k hb hk
      have h3 := w.dps k c hc k0
      rw [hin] at h3
      exact at_stable w x y f g k c hc (by omega) (by omega)
theorem at_eq {a : Abs} {dp : Nat → Nat} (w : Wf a dp) (x y : Int) {i : Nat} {b : Box} (hb : box a i = some b) : at_ a x y DEEP i = match lastIn a x y b.kids with
    | some k => at_ a x y DEEP k
    | none => i := by
  unfold lastIn
  conv => lhs; unfold DEEP; rw [show (16 : Nat) = 15 + 1 from rfl]; unfold at_
  rw [kidsOf_eq hb]
  cases e : (b.kids.filter (liesIn a x y)).getLast? with
  | none => rfl
  | some k =>
    have hk : k ∈ b.kids := (List.mem_filter.mp (List.mem_of_getLast? e)).1
    obtain ⟨k0, c, hc, hin⟩ := w.down i b k hb hk
    have h3 := w.dps k c hc k0
    have h4 := (w.dpl i b hb).1
    rw [hin] at h3
    exact at_stable w x y 15 16 k c hc (by omega) (by omega)
end BXP
namespace L2
open PySem
theorem for_rev {K : PySem.W.Frag} {a : Addr} {xs : List V} {g : TG} {tb : TS} {D : Ends} {σ : St} {H : Hp} (Pv : Nat → St → Hp → Prop) (h0 : Pv 0 σ H) (hl : ∀ i σ H, i ≤ xs.length → Pv i σ H → SqL K H a xs)
    (hs : ∀ i x σ H, i < xs.length → xs[xs.length - 1 - i]? = some x → Pv i σ H → g x σ H fun σ2 H2 => tb { D with nx := Pv (i + 1), ct := Pv (i + 1), bk := D.nx } σ2 H2) (hd : ∀ σ H, Pv xs.length σ H → D.nx σ H) :
    ∃ W : Nat → Nat → St → Hp → Prop, (∃ m, W 0 m σ H) ∧ ∀ i m σ H, W i m σ H →
      ((Itv K a xs.length).stop i H ∧ D.nx σ H) ∨ ((Itv K a xs.length).go i H ∧ ∃ N : St → Hp → Prop, (∀ σ' H', N σ' H' → ∃ m', m' < m ∧ W (i + 1) m' σ' H') ∧ ∀ x H', (Itv K a xs.length).yld i H x H' → g x σ H' fun σ2 H2 => tb { D with nx := N, ct := N, bk := D.nx } σ2 H2) := by
  refine ⟨fun i m σ H => m = xs.length - i ∧ i ≤ xs.length ∧ Pv i σ H, ⟨xs.length, by simp, Nat.zero_le _, h0⟩, ?_⟩
  rintro i m σ H ⟨rfl, hi, p⟩
  have q := hl i σ H hi p
  by_cases hlt : i < xs.length
  · refine .inr ⟨⟨hlt, xs, xs[xs.length - 1 - i], q, List.getElem?_eq_getElem (by omega)⟩, Pv (i + 1), fun σ' H' p' => ⟨xs.length - (i + 1), by omega, rfl, hlt, p'⟩, fun x H' y => ?_⟩
    obtain ⟨e, y⟩ := y
    subst e
    exact hs i x σ _ hlt (y xs q) p
  · have e : i = xs.length := by omega
    subst e
    exact .inl ⟨Nat.le_refl _, hd σ H p⟩
theorem for_keys {d : Addr} {o : Obj} {kvs : List (Key × V)} {g : TG} {tb : TS} {D : Ends} {σ : St} {H : Hp} (Pv : Nat → St → Hp → Prop) (h0 : Pv 0 σ H) (hl : ∀ i σ H, i ≤ kvs.length → Pv i σ H → H d = some (.frz o (.dK kvs)))
    (hs : ∀ i k v σ H, kvs[i]? = some (k, v) → Pv i σ H → g (kV k) σ H fun σ2 H2 => tb { D with nx := Pv (i + 1), ct := Pv (i + 1), bk := D.nx } σ2 H2) (hd : ∀ σ H, Pv kvs.length σ H → D.nx σ H) :
    ∃ W : Nat → Nat → St → Hp → Prop, (∃ m, W 0 m σ H) ∧ ∀ i m σ H, W i m σ H →
      ((Itk d o kvs).stop i H ∧ D.nx σ H) ∨ ((Itk d o kvs).go i H ∧ ∃ N : St → Hp → Prop, (∀ σ' H', N σ' H' → ∃ m', m' < m ∧ W (i + 1) m' σ' H') ∧ ∀ x H', (Itk d o kvs).yld i H x H' → g x σ H' fun σ2 H2 => tb { D with nx := N, ct := N, bk := D.nx } σ2 H2) := by
  refine ⟨fun i m σ H => m = kvs.length - i ∧ i ≤ kvs.length ∧ Pv i σ H, ⟨kvs.length, by simp, Nat.zero_le _, h0⟩, ?_⟩
  rintro i m σ H ⟨rfl, hi, p⟩
  have q := hl i σ H hi p
  by_cases hlt : i < kvs.length
  · refine .inr ⟨⟨q, hlt⟩, Pv (i + 1), fun σ' H' p' => ⟨kvs.length - (i + 1), by omega, rfl, hlt, p'⟩, fun x H' y => ?_⟩
    obtain ⟨e, k, v, hk, ex⟩ := y
    subst e ex
    exact hs i k v σ _ hk p
  · have e : i = kvs.length := by omega
    subst e
    exact .inl ⟨⟨q, Nat.le_refl _⟩, hd σ H p⟩
end L2
namespace BXP
open PySem L2 BX
def inPl (x y : Int) : Option Kp175.Place → Bool
  | some p => Kp175.lies p x y
  | none => false
def sp_holds_dot (t : Adr) : Sp := fun vs H Q _ => ∃ (q dx r l : Addr) (li : V) (d : Nat) (pl : V) (own : Own) (x y : Int) (p : Option Kp175.Place), vs = [.ref q, .int x, .int y] ∧ H q = some (.ins t.C_Box dx (bfs r li d l pl)) ∧ PlAt own H pl p ∧ Q (.bl (inPl x y p)) H
def sp_bx_place (t : Adr) : Sp := fun vs H Q _ => ∃ (p : Addr) (n : Nat) (own : Own) (a : Kp175.Abs), vs = [.ref p, .int (n : Nat)] ∧ StO t own H p (some a) ∧ Q (.int (numOf (Kp175.act a (.place n)).2)) H
def sp_place_out (t : Adr) : Sp := fun vs H Q _ => ∃ (p : Addr) (n : Nat) (own : Own) (a : Kp175.Abs) (b : Kp175.Box) (pl : Kp175.Place), vs = [.ref p, .int (n : Nat)] ∧ StO t own H p (some a) ∧ Kp175.box a n = some b ∧ b.place = some pl ∧
  ∀ q : Addr, H q = some (.tup (plV pl)) → Q (.ref q) H
def lastV (a : Kp175.Abs) (x y : Int) (l : List Nat) : Int := match lastIn a x y l with
  | some k => (k : Nat)
  | none => -2
def sp_last_at (K : PySem.W.Frag) (t : Adr) : Sp := fun vs H Q _ => ∃ (p l : Addr) (own : Own) (a : Kp175.Abs) (ns : List Nat) (x y : Int), vs = [.ref p, .ref l, .int x, .int y] ∧ StO t own H p (some a) ∧ SqL K H l (nv ns) ∧ (∀ n, n ∈ ns → ∃ b, Kp175.box a n = some b) ∧ Q (.int (lastV a x y ns)) H
def sp_bx_at (t : Adr) : Sp := fun vs H Q _ => ∃ (p : Addr) (own : Own) (a : Kp175.Abs) (x y : Int), vs = [.ref p, .int x, .int y] ∧ StO t own H p (some a) ∧ ∀ H', Same H H' → Q (.int (numOf (Kp175.act a (.at_ x y)).2)) H'
theorem kidsV_nv (b : Kp175.Box) : kidsV b = nv b.kids := by simp [kidsV, nv]
theorem last_hit {a : Kp175.Abs} {x y : Int} {l : List Nat} {m k : Nat} (h : l[m]? = some k) (hk : Kp175.liesIn a x y k = true) (hn : ∀ m' j, m < m' → l[m']? = some j → Kp175.liesIn a x y j = false) : lastIn a x y l = some k := by
  obtain ⟨hm, ek⟩ := List.getElem?_eq_some_iff.mp h
  have e : l = l.take m ++ k :: l.drop (m + 1) := by
    rw [← ek]
    conv => lhs; rw [← List.take_append_drop m l, List.drop_eq_getElem_cons hm]
  have e2 : (l.drop (m + 1)).filter (Kp175.liesIn a x y) = [] := by
    rw [List.filter_eq_nil_iff]
    intro j hj
    obtain ⟨n, hn'⟩ := List.mem_iff_getElem?.mp hj
    rw [List.getElem?_drop] at hn'
    rw [hn (m + 1 + n) j (by omega) hn']
    simp
  unfold lastIn
  rw [e, List.filter_append, List.filter_cons, if_pos hk, e2]
  simp
theorem last_none {a : Kp175.Abs} {x y : Int} {l : List Nat} (hn : ∀ m j : Nat, l[m]? = some j → Kp175.liesIn a x y j = false) : lastIn a x y l = none := by
  have e2 : l.filter (Kp175.liesIn a x y) = [] := by
    rw [List.filter_eq_nil_iff]
    intro j hj
    obtain ⟨n, hn'⟩ := List.mem_iff_getElem?.mp hj
    rw [hn n j hn']
    simp
  unfold lastIn
  rw [e2]
  rfl
section
variable {P : Program} {w : World} {K : PySem.W.Frag} {mg : Str → Option Value} {base : Heap} {t : Adr}
theorem ok_Box_holds_dot (T : Txt K mg t) : FnOk P w K mg base CX0 1 t.f_Box_holds_dot t.fd_Box_holds_dot ["self", "x", "y"] (sp_holds_dot t) := by
  refine T.F_Box_holds_dot.ok sc_Box_holds_dot (fun vs H Q E h => ?_) (fun cdv A outer s H vs Q E hr h => ?_)
  · obtain ⟨q, dx, r, l, li, d, pl, own, x, y, p, rfl, _⟩ := h
    rfl
  · obtain ⟨q, dx, r, l, li, d, pl, own, x, y, p, rfl, hq, hp, k⟩ := h
    refine ⟨_, (pss_cons (ps_if (pt_cmp (pc_isN (pe_fld (pv 0) rfl)))
      (pss_one (ps_ret pe_bl))
      pss_nil)
      (pss_cons (ps_set (i := 3) sc_Box_holds_dot.nd rfl (Or.inl rfl) (pe_op op_add (pe_ix ix_tup (pe_fld (pv 0) rfl) pe_int (fun _ _ => rfl)) (pe_ix ix_tup (pe_fld (pv 0) rfl) pe_int (fun _ _ => rfl))))
      (pss_cons (ps_set (i := 4) sc_Box_holds_dot.nd rfl (Or.inl rfl) (pe_op op_add (pe_ix ix_tup (pe_fld (pv 0) rfl) pe_int (fun _ _ => rfl)) (pe_ix ix_tup (pe_fld (pv 0) rfl) pe_int (fun _ _ => rfl))))
      (pss_one (ps_ret (pe_and (pe_chain op_le op_lt (pe_ix ix_tup (pe_fld (pv 0) rfl) pe_int (fun _ _ => rfl)) (pv 1) (pv 3)) (pe_one (pe_chain op_le op_lt (pe_ix ix_tup (pe_fld (pv 0) rfl) pe_int (fun _ _ => rfl)) (pv 2) (pv 4))))))))), ?_⟩
    refine ⟨_, rfl, q, _, dx, _, _, rfl, hq, T.c_Box, T.n_Box_place, rfl, _, rfl, ?_⟩
    cases p with
    | none =>
      have e : pl = .non := hp
      subst e
      refine iteT ?_
      exact k
    | some p =>
      obtain ⟨pa, e, _, hpa⟩ := hp
      subst e
      refine iteF ?_
      refine ⟨_, rfl, q, _, dx, _, _, rfl, hq, T.c_Box, T.n_Box_place, rfl, pa, _, _, _, rfl, rfl, SqT.of hpa, atI_nat (j := 0) rfl, _, rfl, q, _, dx, _, _, rfl, hq, T.c_Box, T.n_Box_place, rfl, pa, _, _, _, rfl, rfl, SqT.of hpa, atI_nat (j := 2) rfl, _, _, rfl, rfl, ?_⟩
      refine ⟨_, rfl, q, _, dx, _, _, rfl, hq, T.c_Box, T.n_Box_place, rfl, pa, _, _, _, rfl, rfl, SqT.of hpa, atI_nat (j := 1) rfl, _, rfl, q, _, dx, _, _, rfl, hq, T.c_Box, T.n_Box_place, rfl, pa, _, _, _, rfl, rfl, SqT.of hpa, atI_nat (j := 3) rfl, _, _, rfl, rfl, ?_⟩
      have ek : inPl x y (some p) = (decide (p.x ≤ x) && decide (x < p.x + p.w) && (decide (p.y ≤ y) && decide (y < p.y + p.h))) := by
        show Kp175.lies p x y = _
        unfold Kp175.lies
        simp only [Bool.and_assoc]
      rw [ek] at k
      refine ⟨_, rfl, q, _, dx, _, _, rfl, hq, T.c_Box, T.n_Box_place, rfl, pa, _, _, _, rfl, rfl, SqT.of hpa, atI_nat (j := 0) rfl, _, rfl, _, _, rfl, rfl, _, rfl, ite2 (fun c1 => ?_) fun c1 => ?_⟩
      · rw [c1, Bool.true_and] at k
        refine ⟨_, rfl, _, _, rfl, rfl, _, rfl, ite2 (fun c2 => ?_) fun c2 => ?_⟩
        · rw [c2, Bool.true_and] at k
          refine ⟨_, rfl, q, _, dx, _, _, rfl, hq, T.c_Box, T.n_Box_place, rfl, pa, _, _, _, rfl, rfl, SqT.of hpa, atI_nat (j := 1) rfl, _, rfl, _, _, rfl, rfl, _, rfl, ite2 (fun c3 => ?_) fun c3 => ?_⟩
          · rw [c3, Bool.true_and] at k
            exact ⟨_, rfl, _, _, rfl, rfl, k⟩
          · rw [Bool.eq_false_iff.mpr c3, Bool.false_and] at k
            exact k
        · rw [Bool.eq_false_iff.mpr c2, Bool.false_and] at k
          exact k
      · rw [Bool.eq_false_iff.mpr c1, Bool.false_and, Bool.false_and] at k
        exact ⟨_, rfl, iteF k⟩
theorem ok_Boxes_bx_place (T : Txt K mg t) : FnOk P w K mg base CX0 1 t.f_Boxes_bx_place t.fd_Boxes_bx_place ["self", "number"] (sp_bx_place t) := by
  refine T.F_Boxes_bx_place.ok sc_Boxes_bx_place (fun vs H Q E h => ?_) (fun cdv A outer s H vs Q E hr h => ?_)
  · obtain ⟨p, n, own, a, rfl, _⟩ := h
    rfl
  · obtain ⟨p, n, own, a, rfl, ⟨d, kvs, dp, ad, la, S⟩, k⟩ := h
    obtain ⟨dxp, hp⟩ := S.ob
    have hu := hu_of hr
    refine ⟨_, (pss_cons (ps_if (pt_cmp (pc_dnotin hu (pv 1) (pe_fld (pv 0) rfl)))
      (pss_one (ps_ret (pe_glob rfl T.g_NO_SUCH_BOX T.r_NO_SUCH_BOX)))
      pss_nil)
      (pss_cons (ps_if (pt_cmp (pc_isN (pe_fld (pe_dget hu (pe_fld (pv 0) rfl) (pv 1) (fun _ _ => rfl)) rfl)))
      (pss_one (ps_ret (pe_glob rfl T.g_NOT_LAID_OUT T.r_NOT_LAID_OUT)))
      pss_nil)
      (pss_one (ps_ret pe_int)))), ?_⟩
    refine ⟨_, rfl, _, rfl, p, _, dxp, _, _, rfl, hp, T.c_Boxes, T.n_Boxes_by_number, rfl, d, _, rfl, DGet.k (k := Sum.inl (n : Int)) S.dic, _, rfl, ?_⟩
    rw [S.look n]
    cases hb : Kp175.box a n with
    | none =>
      refine iteT ?_
      have e : Kp175.act a (.place n) = (a, .num (-2)) := by simp only [Kp175.act, hb]
      rw [e] at k
      exact k
    | some b =>
      refine iteF ?_
      have get1 : DGet H d (.int (n : Nat)) (some (.ref (ad n))) := by
        have z := DGet.k (k := Sum.inl (n : Int)) S.dic
        rw [S.has n b hb] at z
        exact z
      obtain ⟨bx, br, pl, b1, b2, g1, g2, g3, g4⟩ := S.bx n b hb
      refine ⟨_, rfl, p, _, dxp, _, _, rfl, hp, T.c_Boxes, T.n_Boxes_by_number, rfl, _, rfl, d, _, rfl, get1, ad n, _, bx, _, _, rfl, g1, T.c_Box, T.n_Box_place, rfl, _, rfl, ?_⟩
      cases hpl : b.place with
      | none =>
        rw [hpl] at g4
        have e : pl = .non := g4
        subst e
        refine iteT ?_
        have e : Kp175.act a (.place n) = (a, .num (-11)) := by simp only [Kp175.act, hb, hpl]
        rw [e] at k
        exact k
      | some q =>
        rw [hpl] at g4
        obtain ⟨pa, e, _, hpa⟩ := g4
        subst e
        refine iteF ?_
        have e : Kp175.act a (.place n) = (a, .place q) := by simp only [Kp175.act, hb, hpl]
        rw [e] at k
        exact k
theorem ok_Boxes_place_out (T : Txt K mg t) : FnOk P w K mg base CX0 1 t.f_Boxes_place_out t.fd_Boxes_place_out ["self", "number"] (sp_place_out t) := by
  refine T.F_Boxes_place_out.ok sc_Boxes_place_out (fun vs H Q E h => ?_) (fun cdv A outer s H vs Q E hr h => ?_)
  · obtain ⟨p, n, own, a, b, pl, rfl, _⟩ := h
    rfl
  · obtain ⟨p, n, own, a, b, pl, rfl, ⟨d, kvs, dp, ad, la, S⟩, hb, hpl, k⟩ := h
    obtain ⟨dxp, hp⟩ := S.ob
    have hu := hu_of hr
    refine ⟨_, (pss_one (ps_ret (pe_fld (pe_dget hu (pe_fld (pv 0) rfl) (pv 1) (fun _ _ => rfl)) rfl))), ?_⟩
    have get1 : DGet H d (.int (n : Nat)) (some (.ref (ad n))) := by
      have z := DGet.k (k := Sum.inl (n : Int)) S.dic
      rw [S.has n b hb] at z
      exact z
    obtain ⟨bx, br, pv', b1, b2, g1, g2, g3, g4⟩ := S.bx n b hb
    rw [hpl] at g4
    obtain ⟨pa, e, _, hpa⟩ := g4
    subst e
    exact ⟨_, rfl, p, _, dxp, _, _, rfl, hp, T.c_Boxes, T.n_Boxes_by_number, rfl, _, rfl, d, _, rfl, get1, ad n, _, bx, _, _, rfl, g1, T.c_Box, T.n_Box_place, rfl, k pa hpa⟩
theorem ok_Boxes_last_at (T : Txt K mg t) : FnOk P w K mg base CX0 2 t.f_Boxes_last_at t.fd_Boxes_last_at ["self", "numbers", "x", "y"] (sp_last_at K t) := by
  refine T.F_Boxes_last_at.ok sc_Boxes_last_at (fun vs H Q E h => ?_) (fun cdv A outer s H vs Q E hr h => ?_)
  · obtain ⟨p, l, own, a, ns, x, y, rfl, _⟩ := h
    rfl
  · obtain ⟨p, l, own, a, ns, x, y, rfl, ⟨d, kvs, dp, ad, la, S⟩, hl, hbx, k⟩ := h
    obtain ⟨dxp, hp⟩ := S.ob
    have hu := hu_of hr
    refine ⟨_, (pss_cons (ps_for PassesOwn.never rfl (pi_reversed rfl T.n_reversed (pa_cons (pv 1) pa_nil)) (pg_name (i := 4) sc_Boxes_last_at.nd rfl (Or.inl rfl))
      (pss_one (ps_if (pt_val (pe_meth (pe_dget hu (pe_fld (pv 0) rfl) (pv 4) (fun _ _ => rfl)) T.c_Box T.m_Box_holds_dot (ok_Box_holds_dot T) (hr.mono (by decide)) T.b_Box_holds_dot .nil pass0 (pa_cons (pv 2) (pa_cons (pv 3) pa_nil))))
      (pss_one (ps_ret (pv 4)))
      pss_nil)))
      (pss_one (ps_ret (pe_glob rfl T.g_NO_SUCH_BOX T.r_NO_SUCH_BOX)))), ?_⟩
    refine ⟨_, rfl, l, _, rfl, hl, for_rev (K := K) (a := l) (xs := nv ns) (fun i σ H' => ∃ v : Option V, σ = [some (.ref p), some (.ref l), some (.int x), some (.int y), v] ∧ H' = H ∧ ∀ m j, ns.length - i ≤ m → ns[m]? = some j → Kp175.liesIn a x y j = false)
      ⟨none, rfl, rfl, fun m j hm e => ?_⟩ (fun i σ H' _ ⟨_, _, e, _⟩ => by rw [e]; exact hl) ?_ ?_⟩
    · have := (List.getElem?_eq_some_iff.mp e).1
      omega
    · rintro i v σ H' hi hv ⟨_, rfl, eH, hno⟩
      rw [eH]
      clear eH H'
      rw [nv_len] at hi hv
      obtain ⟨n, hn, rfl⟩ := nv_at hv
      obtain ⟨b, hb⟩ := hbx n (List.mem_of_getElem? hn)
      have get1 : DGet H d (.int (n : Nat)) (some (.ref (ad n))) := by
        have z := DGet.k (k := Sum.inl (n : Int)) S.dic
        rw [S.has n b hb] at z
        exact z
      obtain ⟨bx, br, pl, b1, b2, g1, g2, g3, g4⟩ := S.bx n b hb
      refine ⟨_, rfl, p, _, dxp, _, _, rfl, hp, T.c_Boxes, T.n_Boxes_by_number, rfl, _, rfl, d, _, rfl, get1, ad n, bx, _, rfl, g1, rfl, _, rfl, _, rfl, ad n, bx, br, la n, _, _, pl, own, x, y, b.place, rfl, g1, g4, _, rfl, ?_⟩
      have el : Kp175.liesIn a x y n = inPl x y b.place := by
        unfold Kp175.liesIn inPl
        rw [hb]
        dsimp only
        cases b.place <;> rfl
      refine ite2 (fun c => ?_) fun c => ?_
      · refine ⟨_, rfl, ?_⟩
        have e : lastIn a x y ns = some n := last_hit hn (el.trans c) fun m' j hm hj => hno m' j (by omega) hj
        unfold lastV at k
        rw [e] at k
        exact k
      · refine ⟨_, rfl, rfl, fun m j hm hj => ?_⟩
        by_cases em : m = ns.length - 1 - i
        · rw [em, hn] at hj
          cases hj
          rw [el]
          exact Bool.eq_false_iff.mpr c
        · exact hno m j (by omega) hj
    · rintro σ H' ⟨v, rfl, eH, hno⟩
      rw [eH]
      have e : lastIn a x y ns = none := last_none fun m j hj => hno m j (by rw [nv_len]; omega) hj
      unfold lastV at k
      rw [e] at k
      exact k
theorem ok_Boxes_bx_at (T : Txt K mg t) : FnOk P w K mg base CX0 3 t.f_Boxes_bx_at t.fd_Boxes_bx_at ["self", "x", "y"] (sp_bx_at t) := by
  refine T.F_Boxes_bx_at.ok sc_Boxes_bx_at (fun vs H Q E h => ?_) (fun cdv A outer s H vs Q E hr h => ?_)
  · obtain ⟨p, own, a, x, y, rfl, _⟩ := h
    rfl
  · obtain ⟨p, own, a, x, y, rfl, ⟨d, kvs, dp, ad, la, S⟩, k⟩ := h
    obtain ⟨dxp, hp⟩ := S.ob
    obtain ⟨b0, hb0, _⟩ := S.wf.root
    have hu := hu_of hr
    refine ⟨_, (pss_cons (ps_set (i := 3) sc_Boxes_bx_at.nd rfl (Or.inl rfl) (pe_glob rfl T.g_NO_SUCH_BOX T.r_NO_SUCH_BOX))
      (pss_cons (ps_set (i := 4) sc_Boxes_bx_at.nd rfl (Or.inl rfl) (pe_meth (pv 0) T.c_Boxes T.m_Boxes_last_at (ok_Boxes_last_at T) (hr.mono (by decide)) T.b_Boxes_last_at .nil pass0 (pa_cons (pe_lst (pa_cons pe_int pa_nil)) (pa_cons (pv 1) (pa_cons (pv 2) pa_nil)))))
      (pss_cons (ps_while PassesOwn.never (pt_cmpR op_ne (pv 4) (pe_glob rfl T.g_NO_SUCH_BOX T.r_NO_SUCH_BOX) (nomark _))
      (pss_cons (ps_set (i := 3) sc_Boxes_bx_at.nd rfl (Or.inl rfl) (pv 4))
      (pss_one (ps_set (i := 4) sc_Boxes_bx_at.nd rfl (Or.inl rfl) (pe_meth (pv 0) T.c_Boxes T.m_Boxes_last_at (ok_Boxes_last_at T) (hr.mono (by decide)) T.b_Boxes_last_at .nil pass0 (pa_cons (pe_fld (pe_dget hu (pe_fld (pv 0) rfl) (pv 3) (fun _ _ => rfl)) rfl) (pa_cons (pv 1) (pa_cons (pv 2) pa_nil))))))))
      (pss_one (ps_ret (pv 3)))))), ?_⟩
    refine ⟨_, rfl, p, dxp, _, rfl, hp, rfl, by show 1 ≤ sizeLine; decide, fun l hl => ?_⟩
    have s1 : Same H (upd H l (.lst [.int 0])) := same_upd hl
    refine ⟨_, rfl, _, rfl, p, l, own, a, [0], x, y, rfl, ⟨d, kvs, dp, ad, la, S.keep (fun q z => z) fun q o _ e => s1 q o e⟩, SqL.of upd_same, fun n hn => ⟨b0, by
      have : n = 0 := by simpa using hn
      rw [this]
      exact hb0⟩, ?_⟩
    generalize hR : numOf (Kp175.act a (.at_ x y)).2 = R at *
    have hR0 : R = if Kp175.liesIn a x y 0 then ((Kp175.at_ a x y Kp175.DEEP 0 : Nat) : Int) else -2 := by
      rw [← hR]
      unfold Kp175.act
      dsimp only
      split <;> rfl
    have h0 : lastIn a x y [0] = if Kp175.liesIn a x y 0 then some 0 else none := by
      unfold lastIn
      rw [List.filter_cons]
      split <;> rfl
    refine ⟨fun μ σ H' => ∃ (f : Int) (dd : Option Nat), σ = [some (.ref p), some (.int x), some (.int y), some (.int f), some (.int (match dd with | some k => (k : Nat) | none => -2))] ∧ Same H H' ∧
      (match dd with | some k => μ = 17 - dp k ∧ R = (Kp175.at_ a x y Kp175.DEEP k : Nat) ∧ ∃ b, Kp175.box a k = some b | none => μ = 0 ∧ R = f), ?_, ?_⟩
    · by_cases c : Kp175.liesIn a x y 0 = true
      · refine ⟨17 - dp 0, -2, some 0, ?_, s1, rfl, ?_, b0, hb0⟩
        · unfold lastV
          rw [h0, if_pos c]
          rfl
        · rw [hR0, if_pos c]
      · refine ⟨0, -2, none, ?_, s1, rfl, ?_⟩
        · unfold lastV
          rw [h0, if_neg c]
          rfl
        · rw [hR0, if_neg c]
    · rintro μ σ H' ⟨f, dd, rfl, sm', hI⟩
      cases dd with
      | none =>
        obtain ⟨_, rfl⟩ := hI
        refine ⟨_, rfl, rfl, _, rfl, ite2 (fun c => ?_) fun c => ?_⟩
        · simp at c
        · exact ⟨_, rfl, k H' sm'⟩
      | some kk =>
        obtain ⟨rfl, hRk, b, hb⟩ := hI
        refine ⟨_, rfl, rfl, _, rfl, ite2 (fun c => ?_) fun c => ?_⟩
        · refine ⟨fun σ' H'' => σ' = [some (.ref p), some (.int x), some (.int y), some (.int (kk : Nat)), some (.int (lastV a x y b.kids))] ∧ Same H H'', ?_, ?_⟩
          · rintro σ' H'' ⟨rfl, s2⟩
            have he := at_eq S.wf x y hb
            cases hz : lastIn a x y b.kids with
            | none =>
              rw [hz] at he
              have hd := S.wf.dpl kk b hb
              refine ⟨0, by omega, kk, none, ?_, s2, rfl, ?_⟩
              · unfold lastV
                rw [hz]
              · rw [hRk, he]
            | some k2 =>
              rw [hz] at he
              have hm : k2 ∈ b.kids := (List.mem_filter.mp (List.mem_of_getLast? hz)).1
              obtain ⟨z0, c2, hc2, hin⟩ := S.wf.down kk b k2 hb hm
              have h3 := S.wf.dps k2 c2 hc2 z0
              have h4 := S.wf.dpl k2 c2 hc2
              rw [hin] at h3
              refine ⟨17 - dp k2, by omega, kk, some k2, ?_, s2, rfl, ?_, c2, hc2⟩
              · unfold lastV
                rw [hz]
              · rw [hRk, he]
          · have S1 : St t own H' p d kvs a dp ad la := S.keep (fun q z => z) fun q o _ e => sm' q o e
            obtain ⟨bx, br, pl, b1, b2, g1, g2, g3, g4⟩ := S1.bx kk b hb
            have get1 : DGet H' d (.int (kk : Nat)) (some (.ref (ad kk))) := by
              have z := DGet.k (k := Sum.inl (kk : Int)) S1.dic
              rw [S.has kk b hb] at z
              exact z
            rw [kidsV_nv] at g3
            refine ⟨_, rfl, _, rfl, p, dxp, _, rfl, sm' _ _ hp, rfl, _, rfl, p, _, dxp, _, _, rfl, sm' _ _ hp, T.c_Boxes, T.n_Boxes_by_number, rfl, _, rfl, d, _, rfl, get1, ad kk, _, bx, _, _, rfl, g1, T.c_Box, T.n_Box_inner, rfl, _, rfl, _, rfl, p, la kk, own, a, b.kids, x, y, rfl, ⟨d, kvs, dp, ad, la, S1⟩, SqL.of g3, fun n hn => ?_, ?_⟩
            · obtain ⟨_, c2, hc2, _⟩ := S.wf.down kk b n hb hn
              exact ⟨c2, hc2⟩
            · exact ⟨rfl, sm'⟩
        · exfalso
          apply c
          have : ¬ (V.int (kk : Nat) = V.int (-2)) := fun z => by
            injection z with z
            omega
          show (!decide (V.int (kk : Nat) = V.int (-2))) = true
          rw [decide_eq_false this]
          rfl
end
end BXP
namespace BXP
open Kp175 BX
def PlF (a : Abs) (W H : Nat) : Nat → Nat → Place
  | 0, _ => default
  | f + 1, i => if i = 0 then ⟨0, 0, W, H⟩ else match box a i with
    | none => default
    | some b => match box a b.in_ with
      | none => default
      | some c => placeOfK c.rule (PlF a W H f b.in_) (kqs a c) (kzs a c) (c.kids.idxOf i)
theorem PlF_stable {a : Abs} {dp : Nat → Nat} (w : Wf a dp) (W H : Nat) : ∀ (f g i : Nat) (b : Box), box a i = some b → dp i ≤ f → dp i ≤ g → PlF a W H f i = PlF a W H g i
  | 0, g, i, b, hb, h1, h2 => by
    have := (w.dpl i b hb).1
    omega
  | f + 1, 0, i, b, hb, h1, h2 => by
    have := (w.dpl i b hb).1
    omega
  | f + 1, g + 1, i, b, hb, h1, h2 => by
    unfold PlF
    by_cases hi : i = 0
    · rw [if_pos hi, if_pos hi]
    · rw [if_neg hi, if_neg hi, hb]
      obtain ⟨c, hc, hm⟩ := w.up i b hb hi
      have hd := w.dps i b hb hi
      dsimp only
      rw [hc]
      dsimp only
      rw [PlF_stable w W H f g b.in_ c hc (by omega) (by omega)]
theorem exists_laid {a : Abs} {dp : Nat → Nat} (w : Wf a dp) (W H : Nat) : ∃ Pl, Laid a W H Pl := by
  refine ⟨fun i => PlF a W H 16 i, by show PlF a W H 16 0 = _; unfold PlF; rw [if_pos rfl], fun i b k hb hk => ?_⟩
  have hm := getD_mem (d := 0) hk
  obtain ⟨j0, c, hc, hin⟩ := w.down i b _ hb hm
  have hd := w.dps _ c hc j0
  have hl := (w.dpl _ c hc).2
  rw [hin] at hd
  have e15 : PlF a W H 15 i = PlF a W H 16 i := PlF_stable w W H 15 16 i b hb (by omega) (by omega)
  have ei : b.kids.idxOf (b.kids.getD k 0) = k := by
    have hk' : b.kids.idxOf (b.kids.getD k 0) < b.kids.length := List.idxOf_lt_length_of_mem hm
    refine L2.nd_ix (w.nd i b hb) (x := b.kids.getD k 0) ?_ ?_
    · rw [List.getElem?_eq_getElem hk', List.getElem_idxOf]
    · rw [List.getD_eq_getElem?_getD, List.getElem?_eq_getElem hk]
      rfl
  show PlF a W H (15 + 1) (b.kids.getD k 0) = placeOfK b.rule (PlF a W H 16 i) (kqs a b) (kzs a b) k
  generalize PlF a W H 16 i = X at e15
  unfold PlF
  rw [if_neg j0, hc]
  dsimp only
  rw [hin, hb]
  dsimp only
  rw [e15, ei]
end BXP
namespace L2
theorem valV_none_of {kvs : List (Key × V)} {k : Key} (h : k ∉ kvs.map (·.1)) : valV kvs k = none := by
  cases e : valV kvs k with
  | none => rfl
  | some v =>
    have := BXP.valV_mem e
    exact absurd (List.mem_map.mpr ⟨_, this, rfl⟩) h
theorem mergeK_fresh : ∀ (more kvs : List (Key × V)), (more.map (·.1)).Nodup → (∀ k, k ∈ more.map (·.1) → k ∉ kvs.map (·.1)) → mergeK kvs more = kvs ++ more
  | [], kvs, _, _ => by simp [mergeK]
  | (k, v) :: more, kvs, nd, h => by
    obtain ⟨n1, n2⟩ := List.nodup_cons.mp (show (k :: more.map (·.1)).Nodup from nd)
    have hk : k ∉ kvs.map (·.1) := h k (by simp)
    have e : putK kvs k v = kvs ++ [(k, v)] := by
      unfold putK
      rw [valV_any, valV_none_of hk]
      rfl
    have ih := mergeK_fresh more (kvs ++ [(k, v)]) n2 fun k' hk' hm => by
      rw [List.map_append] at hm
      rcases List.mem_append.mp hm with hm | hm
      · exact h k' (by simp at hk' ⊢; exact .inr hk') hm
      · have : k' = k := by simpa using hm
        exact n1 (this ▸ hk')
    unfold mergeK at ih ⊢
    rw [List.foldl_cons]
    dsimp only
    rw [e, ih]
    simp
theorem valV_of_mem {kvs : List (Key × V)} {k : Key} {v : V} (nd : (kvs.map (·.1)).Nodup) (h : (k, v) ∈ kvs) : valV kvs k = some v := by
  induction kvs with
  | nil => cases h
  | cons p r ih =>
    obtain ⟨n1, n2⟩ := List.nodup_cons.mp (show (p.1 :: r.map (·.1)).Nodup from nd)
    rcases List.mem_cons.mp h with e | h
    · exact (valV_pos (by rw [← e])).trans (by rw [← e])
    · rw [valV_neg fun e => n1 (List.mem_map.mpr ⟨_, h, e.symm⟩)]
      exact ih n2 h
end L2
namespace BXP
open PySem L2 BX
def sp_order (t : Adr) : Sp := fun vs H Q _ => ∃ (p : Addr) (own : Own) (a : Kp175.Abs), vs = [.ref p] ∧ StO t own H p (some a) ∧ ∀ (l : Addr) (o : List Nat) (H' : Hp), Same H H' → H l = none → Order a o → H' l = some (.lst (nv o)) → Q (.ref l) H'
def SizesAt (H : Hp) (a : Kp175.Abs) (kvz : List (Key × V)) (za : Nat → Addr) : Prop := ∀ (i : Nat) (b : Kp175.Box), Kp175.box a i = some b → valV kvz (Sum.inl (i : Int)) = some (.ref (za i)) ∧ H (za i) = some (.tup (twoV (Nz a i)))
def sp_nat_sizes (K : PySem.W.Frag) (t : Adr) : Sp := fun vs H Q _ => ∃ (p l : Addr) (own : Own) (a : Kp175.Abs) (o : List Nat), vs = [.ref p, .ref l] ∧ StO t own H p (some a) ∧ SqL K H l (nv o) ∧ Order a o ∧
  ∀ (dz : Addr) (kvz : List (Key × V)) (za : Nat → Addr) (H' : Hp), Same H H' → H dz = none → H' dz = some (.dK kvz) → SizesAt H' a kvz za → Q (.ref dz) H'
def plKv (pa : Nat → Addr) (l : List Nat) : List (Key × V) := l.map fun (j : Nat) => (Sum.inl (j : Int), V.ref (pa j))
def sp_places (K : PySem.W.Frag) (t : Adr) : Sp := fun vs H Q _ => ∃ (p : Addr) (own : Own) (a : Kp175.Abs) (W Hh : Nat), vs = [.ref p, .int (W : Nat), .int (Hh : Nat)] ∧ StO t own H p (some a) ∧
  ∀ (dq : Addr) (o : List Nat) (pa : Nat → Addr) (Pl : Nat → Kp175.Place) (H' : Hp), Same H H' → H dq = none → Order a o → Laid a W Hh Pl → H' dq = some (.dK (plKv pa o)) → (∀ j, j ∈ o → H (pa j) = none ∧ H' (pa j) = some (.tup (plV (Pl j)))) → Q (.ref dq) H'
section
variable {P : Program} {w : World} {K : PySem.W.Frag} {mg : Str → Option Value} {base : Heap} {t : Adr}
theorem St.get {own : Own} {H : Hp} {p d : Addr} {kvs : List (Key × V)} {a : Kp175.Abs} {dp : Nat → Nat} {ad la : Nat → Addr} (S : St t own H p d kvs a dp ad la) {n : Nat} {b : Kp175.Box} (hb : Kp175.box a n = some b) : DGet H d (.int (n : Nat)) (some (.ref (ad n))) := by
  have z := DGet.k (k := Sum.inl (n : Int)) S.dic
  rw [S.has n b hb] at z
  exact z
theorem ok_Boxes_outer_before_inner (T : Txt K mg t) : FnOk P w K mg base CX0 1 t.f_Boxes_outer_before_inner t.fd_Boxes_outer_before_inner ["self"] (sp_order t) := by
  refine T.F_Boxes_outer_before_inner.ok sc_Boxes_outer_before_inner (fun vs H Q E h => ?_) (fun cdv A outer s H vs Q E hr h => ?_)
  · obtain ⟨p, own, a, rfl, _⟩ := h
    rfl
  · obtain ⟨p, own, a, rfl, ⟨d, kvs, dp, ad, la, S⟩, k⟩ := h
    obtain ⟨dxp, hp⟩ := S.ob
    have hu := hu_of hr
    refine ⟨_, (pss_cons (ps_set (i := 1) sc_Boxes_outer_before_inner.nd rfl (Or.inl rfl) (pe_lst (pa_cons pe_int pa_nil)))
      (pss_cons (ps_set (i := 2) sc_Boxes_outer_before_inner.nd rfl (Or.inl rfl) pe_int)
      (pss_cons (ps_while PassesOwn.never (pt_cmpR op_lt (pv 2) (pe_callB call_len_seq rfl T.n_len PySem.boot_len (pa_cons (pv 1) pa_nil)) (nomark _))
      (pss_cons (ps_expr (pe_bm PySem.F.plainAttrs_list PySem.F.slot_list_extend PySem.F.type_list_extend mt_extend (pv 1) (pa_cons (pe_fld (pe_dget hu (pe_fld (pv 0) rfl) (pe_ix ix_list (pv 1) (pv 2) (fun _ _ => rfl)) (fun _ _ => rfl)) rfl) pa_nil)))
      (pss_one (ps_set (i := 2) sc_Boxes_outer_before_inner.nd rfl (Or.inl rfl) (pe_op op_add (pv 2) pe_int)))))
      (pss_one (ps_ret (pv 1)))))), ?_⟩
    refine ⟨by show 1 ≤ sizeLine; decide, fun l hl => ?_⟩
    refine ⟨fun μ σ H' => ∃ (o : List Nat) (wk : Nat), σ = [some (.ref p), some (.ref l), some (.int (wk : Nat))] ∧ Same H H' ∧ H' l = some (.lst (nv o)) ∧ Walk a o wk ∧ μ = 257 - wk, ⟨_, [0], 0, rfl, same_upd hl, upd_same, Walk.start S.wf, rfl⟩, ?_⟩
    rintro μ σ H' ⟨o, wk, rfl, sm', hl', wk', rfl⟩
    have few := wk'.few S.wf
    have le := wk'.le
    refine ⟨_, rfl, _, rfl, l, _, rfl, .inl (SqL.of hl'), _, _, rfl, rfl, _, rfl, ite2 (fun c => ?_) fun c => ?_⟩
    · have c : wk < o.length := by
        have := of_decide_eq_true c
        rw [nv_len] at this
        omega
      have hi : o[wk]? = some o[wk] := List.getElem?_eq_getElem c
      generalize o[wk] = i at hi
      obtain ⟨b, hb⟩ := wk'.bx i (List.mem_of_getElem? hi)
      have S1 : St t own H' p d kvs a dp ad la := S.keep (fun q z => z) fun q o _ e => sm' q o e
      obtain ⟨bx, br, pl, b1, b2, g1, g2, g3, g4⟩ := S1.bx i b hb
      have st := wk'.step S.wf hi
      rw [kidsOf_eq hb] at st
      have few2 := st.few S.wf
      refine ⟨fun σ' H'' => σ' = [some (.ref p), some (.ref l), some (.int ((wk + 1 : Nat) : Int))] ∧ Same H H'' ∧ H'' l = some (.lst (nv (o ++ b.kids))), ?_, ?_⟩
      · rintro σ' H'' ⟨rfl, s2, h2⟩
        exact ⟨257 - (wk + 1), by omega, _, _, rfl, s2, h2, st, rfl⟩
      · refine ⟨_, rfl, tyL hl', _, rfl, p, _, dxp, _, _, rfl, sm' _ _ hp, T.c_Boxes, T.n_Boxes_by_number, rfl, _, rfl, _, rfl, l, _, _, _, rfl, rfl, SqL.of hl', atI_nat (v := .int (i : Nat)) (by unfold nv; rw [List.getElem?_map, hi]; rfl), d, _, rfl, S1.get hb, ad i, _, bx, _, _, rfl, g1, T.c_Box, T.n_Box_inner, rfl, l, la i, _, _, rfl, rfl, hl', g3, ?_, ?_⟩
        · rw [nv_len, kidsV_nv, nv_len]
          have := few2
          rw [List.length_append] at this
          exact Nat.le_of_lt (small_of (by omega))
        · refine ⟨_, rfl, _, _, rfl, rfl, rfl, fun b' o' e => ?_, ?_⟩
          · rw [upd_ne (ne_of_none e hl)]
            exact sm' _ _ e
          · rw [upd_same, kidsV_nv]
            simp [nv]
    · have c : ¬ (wk < o.length) := fun z => c (decide_eq_true (by rw [nv_len]; omega))
      have e : wk = o.length := by omega
      subst e
      exact ⟨_, rfl, k l o H' sm' hl (wk'.order S.wf) hl'⟩
theorem ok_Boxes_natural_sizes (T : Txt K mg t) : FnOk P w K mg base CX0 5 t.f_Boxes_natural_sizes t.fd_Boxes_natural_sizes ["self", "order"] (sp_nat_sizes K t) := by
  refine T.F_Boxes_natural_sizes.ok sc_Boxes_natural_sizes (fun vs H Q E h => ?_) (fun cdv A outer s H vs Q E hr h => ?_)
  · obtain ⟨p, l, own, a, o, rfl, _⟩ := h
    rfl
  · obtain ⟨p, l, own, a, o, rfl, ⟨d, kvs, dp, ad, la, S⟩, hl, O, k⟩ := h
    obtain ⟨dxp, hp⟩ := S.ob
    have hu := hu_of hr
    have few := O.few
    refine ⟨_, (pss_cons (ps_set (i := 2) sc_Boxes_natural_sizes.nd rfl (Or.inr rfl) pe_dnewK)
      (pss_cons (ps_for PassesOwn.never rfl (pi_reversed rfl T.n_reversed (pa_cons (pv 1) pa_nil)) (pg_name (i := 3) sc_Boxes_natural_sizes.nd rfl (Or.inl rfl))
      (pss_cons (ps_set (i := 4) sc_Boxes_natural_sizes.nd rfl (Or.inl rfl) (pe_dget hu (pe_fld (pv 0) rfl) (pv 3) (fun _ _ => rfl)))
      (pss_one (ps_dput hu (pv 2) (pv 3) (pe_call (ok_natural_size T) (hr.mono (by decide)) rfl T.g_natural_size T.k_natural_size T.b_natural_size .nil pass0 (pa_cons (pe_fld (pv 4) rfl) (pa_cons (pe_lc (own := [("k", 5)]) rfl sc_Boxes_natural_sizes.nd (pi_list (pe_fld (pv 4) rfl)) (blkOk_by rfl) (fun _ _ _ _ _ => (pg_name (i := 5) sc_Boxes_natural_sizes.nd rfl (Or.inl rfl))) (fun _ _ _ _ _ => pts_nil) (fun _ _ _ _ _ => (pe_dget hu (pv 2) (pv 5) (fun _ _ => rfl)))) pa_nil))) rfl))))
      (pss_one (ps_ret (pv 2))))), ?_⟩
    intro dz hdz
    have s0 : Same H (upd H dz (.dK [])) := same_upd hdz
    refine ⟨_, rfl, l, _, rfl, s0.seq hl, for_rev (K := K) (a := l) (xs := nv o) (fun i σ H' => ∃ (v3 v4 : Option V) (kvz : List (Key × V)) (za : Nat → Addr), σ = [some (.ref p), some (.ref l), some (.ref dz), v3, v4, none] ∧ Same H H' ∧ H' dz = some (.dK kvz) ∧ kvz.length ≤ i ∧
      ∀ m j : Nat, o.length - i ≤ m → o[m]? = some j → valV kvz (Sum.inl (j : Int)) = some (.ref (za j)) ∧ H' (za j) = some (.tup (twoV (Nz a j))))
      ⟨none, none, [], fun _ => dz, rfl, s0, upd_same, Nat.le_refl _, fun m j hm e => ?_⟩ (fun i σ H' _ ⟨_, _, _, _, _, e, _⟩ => e.seq hl) ?_ ?_⟩
    · have := (List.getElem?_eq_some_iff.mp e).1
      omega
    · rintro i v σ H' hi hv ⟨v3, v4, kvz, za, rfl, sm', hz', hlen, hinv⟩
      rw [nv_len] at hi hv
      obtain ⟨j, hj, rfl⟩ := nv_at hv
      obtain ⟨b, hb⟩ := (O.mem j).mp (List.mem_of_getElem? hj)
      have S1 : St t own H' p d kvs a dp ad la := S.keep (fun q z => z) fun q o _ e => sm' q o e
      obtain ⟨bx, br, pl, b1, b2, g1, g2, g3, g4⟩ := S1.bx j b hb
      rw [kidsV_nv] at g3
      have kf := S.wf.few j b hb
      refine ⟨_, rfl, p, _, dxp, _, _, rfl, sm' _ _ hp, T.c_Boxes, T.n_Boxes_by_number, rfl, _, rfl, d, _, rfl, S1.get hb, ?_⟩
      refine ⟨_, rfl, ad j, _, bx, _, _, rfl, g1, T.c_Box, T.n_Box_rule, rfl, _, rfl, ad j, _, bx, _, _, rfl, g1, T.c_Box, T.n_Box_inner, rfl, la j, rfl, ⟨_, SqL.of g3⟩, fun D hD => lc_list (K := K) (a := la j) (xs := nv b.kids) (LcP H' D fun i => ((b.kids.map za).map V.ref).take i) (LcP.start hD rfl) (fun i H'' _ q => SqL.of (q.1 _ _ g3)) (fun i' x H'' hx q => ?_) fun H2 q => ?_⟩
      · obtain ⟨kk, hk, rfl⟩ := nv_at hx
        obtain ⟨m', hm', e'⟩ := O.kids _ j b kk hj hb (List.mem_of_getElem? hk)
        obtain ⟨y1, y2⟩ := hinv m' kk (by omega) e'
        have gz : DGet H'' dz (.int (kk : Nat)) (some (.ref (za kk))) := by
          have z := DGet.k (k := Sum.inl (kk : Int)) (q.1 _ _ hz')
          rw [y1] at z
          exact z
        refine ⟨rfl, _, rfl, _, rfl, dz, _, rfl, gz, q.next hD (Same.refl _) (small_of ?_) (take_next ?_)⟩
        · simp only [List.length_take, List.length_map]
          omega
        · rw [List.getElem?_map, List.getElem?_map, hk]
          rfl
      obtain ⟨s2, gD⟩ := q.fin (ys := (b.kids.map za).map V.ref) (List.take_of_length_le (by simp [nv_len]))
      have pr : Paired (fun a z => H2 a = some (.tup (twoV z))) (b.kids.map za) (b.kids.map (Nz a)) := by
        have : ∀ ks : List Nat, (∀ kk, kk ∈ ks → kk ∈ b.kids) → Paired (fun a z => H2 a = some (.tup (twoV z))) (ks.map za) (ks.map (Nz a)) := by
          intro ks
          induction ks with
          | nil => intro _; exact .nil
          | cons kk r ih =>
            intro h
            obtain ⟨m', hm', e'⟩ := O.kids _ j b kk hj hb (h kk (by simp))
            exact .cons (s2 _ _ (hinv m' kk (by omega) e').2) (ih fun x hx => h x (by simp [hx]))
        exact this _ fun _ h => h
      refine ⟨br, D, b.rule, own, _, _, rfl, g2.same s2, (S.wf.good j b hb).2, gD, pr, by simp; omega, fun pz H3 s3 hp0 hpz => ?_⟩
      have hz3 := s3 _ _ (s2 _ _ hz')
      refine ⟨_, rfl, _, rfl, dz, _, rfl, DPut.k (k := Sum.inl (j : Int)) hz3 (small_of (by omega)), ?_⟩
      have ez : (⟨natLen b.rule 0 ((b.kids.map (Nz a)).map fun z => z.of 0), natLen b.rule 1 ((b.kids.map (Nz a)).map fun z => z.of 1)⟩ : Kp175.Two) = Nz a j := by
        unfold Nz
        rw [Nt_eq S.wf hb, Nt_eq S.wf hb, List.map_map, List.map_map]
        rfl
      rw [ez] at hpz
      refine ⟨_, _, putK kvz (Sum.inl (j : Int)) (.ref pz), fun x => if x = j then pz else za x, rfl, fun b' o' e => ?_, upd_same, ?_, fun m x hm hx => ?_⟩
      · rw [upd_ne (ne_of_none e hdz)]
        exact s3 _ _ (s2 _ _ (sm' _ _ e))
      · have := length_putK kvz (Sum.inl (j : Int)) (.ref pz)
        omega
      · rw [valV_put]
        by_cases ex : x = j
        · subst ex
          simp only [if_true]
          refine ⟨trivial, ?_⟩
          rw [upd_ne (ne_of hpz hz3 (by intro z; cases z))]
          exact hpz
        · have : ¬ ((Sum.inl (x : Int) : Key) = Sum.inl (j : Int)) := fun z => ex (by have := Sum.inl.inj z; omega)
          rw [if_neg this]
          simp only [if_neg ex]
          have hne : m ≠ o.length - 1 - i := fun z => ex (by
            rw [z, hj] at hx
            exact (Option.some.inj hx).symm)
          obtain ⟨y1, y2⟩ := hinv m x (by omega) hx
          refine ⟨y1, ?_⟩
          rw [upd_ne (ne_of y2 hz' (by intro z; cases z))]
          exact s3 _ _ (s2 _ _ y2)
    · rintro σ H' ⟨v3, v4, kvz, za, rfl, sm', hz', hlen, hinv⟩
      refine ⟨_, rfl, k dz kvz za H' sm' hdz hz' fun i b hb => ?_⟩
      obtain ⟨m, hm⟩ := List.mem_iff_getElem?.mp ((O.mem i).mpr ⟨b, hb⟩)
      exact hinv m i (by rw [nv_len]; omega) hm
end
end BXP
namespace BXP
open PySem L2 BX
theorem plKv_keys (pa : Nat → Addr) (l : List Nat) : (plKv pa l).map (·.1) = l.map fun (j : Nat) => (Sum.inl (j : Int) : Key) := by simp [plKv]
theorem inl_nodup {l : List Nat} (h : l.Nodup) : (l.map fun (j : Nat) => (Sum.inl (j : Int) : Key)).Nodup := by
  induction l with
  | nil => exact List.nodup_nil
  | cons x l ih =>
    obtain ⟨h1, h2⟩ := List.nodup_cons.mp h
    rw [List.map_cons]
    refine List.nodup_cons.mpr ⟨fun hm => ?_, ih h2⟩
    obtain ⟨y, hy, e⟩ := List.mem_map.mp hm
    have : y = x := by have := Sum.inl.inj e; omega
    exact h1 (this ▸ hy)
theorem kv_nv (l : List Nat) : (l.map fun (j : Nat) => (Sum.inl (j : Int) : Key)).map kV = nv l := by
  rw [List.map_map]
  rfl
theorem plKv_get {pa : Nat → Addr} {l : List Nat} (nd : l.Nodup) {j : Nat} (h : j ∈ l) : valV (plKv pa l) (Sum.inl (j : Int)) = some (.ref (pa j)) := by
  refine valV_of_mem ?_ (List.mem_map.mpr ⟨j, h, rfl⟩)
  rw [plKv_keys]
  exact inl_nodup nd
def pre (a : Kp175.Abs) (o : List Nat) (i : Nat) : List Nat := 0 :: (o.take i).flatMap (Kp175.kidsOf a)
theorem pre_app {a : Kp175.Abs} {o : List Nat} (O : Order a o) (i : Nat) : ∃ r, o = pre a o i ++ r := by
  refine ⟨(o.drop i).flatMap (Kp175.kidsOf a), ?_⟩
  conv => lhs; rw [O.eq, ← List.take_append_drop i (List.flatMap _ o)]
  unfold pre
  rw [List.cons_append, ← List.flatMap_append, List.take_append_drop]
  simp
theorem pre_nd {a : Kp175.Abs} {o : List Nat} (O : Order a o) (i : Nat) : (pre a o i).Nodup := by
  obtain ⟨r, e⟩ := pre_app O i
  have := O.nd
  rw [e, List.nodup_append] at this
  exact this.1
theorem pre_succ {a : Kp175.Abs} {o : List Nat} {i j : Nat} {b : Kp175.Box} (h : o[i]? = some j) (hb : Kp175.box a j = some b) : pre a o (i + 1) = pre a o i ++ b.kids := by
  unfold pre
  rw [take_next h, List.flatMap_append]
  simp [kidsOf_eq hb]
theorem pre_mem {a : Kp175.Abs} {dp : Nat → Nat} (w : Wf a dp) {o : List Nat} (O : Order a o) {i j : Nat} (h : o[i]? = some j) : j ∈ pre a o i := by
  by_cases hj : j = 0
  · rw [hj]
    simp [pre]
  · obtain ⟨b, hb⟩ := (O.mem j).mp (List.mem_of_getElem? h)
    obtain ⟨c, hc, hm⟩ := w.up j b hb hj
    obtain ⟨k, hk⟩ := List.mem_iff_getElem?.mp ((O.mem b.in_).mpr ⟨c, hc⟩)
    obtain ⟨m, hm1, hm2⟩ := O.kids k b.in_ c j hk hc hm
    have : m = i := nd_ix O.nd hm2 h
    unfold pre
    refine List.mem_cons_of_mem _ (List.mem_flatMap.mpr ⟨b.in_, ?_, by rw [kidsOf_eq hc]; exact hm⟩)
    rw [List.mem_take_iff_getElem]
    obtain ⟨hk1, hk2⟩ := List.getElem?_eq_some_iff.mp hk
    exact ⟨k, by omega, hk2⟩
theorem pre_all {a : Kp175.Abs} {o : List Nat} (O : Order a o) : pre a o o.length = o := by
  unfold pre
  rw [List.take_of_length_le (Nat.le_refl _)]
  exact O.eq.symm
theorem paired_zip {α β : Type} {G : α → β → Prop} (f : Nat → α) (g : Nat → β) : ∀ (ks : List Nat), (∀ k, k ∈ ks → G (f k) (g k)) → Paired G (ks.map f) (ks.map g)
  | [], _ => .nil
  | k :: ks, h => .cons (h k (by simp)) (paired_zip f g ks fun x hx => h x (by simp [hx]))
section
variable {P : Program} {w : World} {K : PySem.W.Frag} {mg : Str → Option Value} {base : Heap} {t : Adr}
theorem ok_Boxes_places_in_window (T : Txt K mg t) : FnOk P w K mg base CX0 7 t.f_Boxes_places_in_window t.fd_Boxes_places_in_window ["self", "width", "height"] (sp_places K t) := by
  refine T.F_Boxes_places_in_window.ok sc_Boxes_places_in_window (fun vs H Q E h => ?_) (fun cdv A outer s H vs Q E hr h => ?_)
  · obtain ⟨p, own, a, W, Hh, rfl, _⟩ := h
    rfl
  · obtain ⟨p, own, a, W, Hh, rfl, ⟨d, kvs, dp, ad, la, S⟩, k⟩ := h
    obtain ⟨dxp, hp⟩ := S.ob
    have hu := hu_of hr
    obtain ⟨Pl, L⟩ := exists_laid S.wf W Hh
    refine ⟨_, (pss_cons (ps_set (i := 3) sc_Boxes_places_in_window.nd rfl (Or.inl rfl) (pe_meth0 (pv 0) T.c_Boxes T.m_Boxes_outer_before_inner (ok_Boxes_outer_before_inner T) (hr.mono (by decide)) T.b_Boxes_outer_before_inner .nil pass0))
      (pss_cons (ps_set (i := 4) sc_Boxes_places_in_window.nd rfl (Or.inr rfl) (pe_meth (pv 0) T.c_Boxes T.m_Boxes_natural_sizes (ok_Boxes_natural_sizes T) (hr.mono (by decide)) T.b_Boxes_natural_sizes .nil pass0 (pa_cons (pv 3) pa_nil)))
      (pss_cons (ps_set (i := 5) sc_Boxes_places_in_window.nd rfl (Or.inl rfl) (pe_disp (pps_cons pe_int (pe_tup (pa_cons pe_int (pa_cons pe_int (pa_cons (pv 1) (pa_cons (pv 2) pa_nil))))) pps_nil) rfl rfl (by simp) (by decide)))
      (pss_cons (ps_for PassesOwn.never rfl (pi_list (pv 3)) (pg_name (i := 6) sc_Boxes_places_in_window.nd rfl (Or.inl rfl))
      (pss_cons (ps_set (i := 7) sc_Boxes_places_in_window.nd rfl (Or.inl rfl) (pe_dget hu (pe_fld (pv 0) rfl) (pv 6) (fun _ _ => rfl)))
      (pss_one (ps_if (pt_cmpR op_gt (pe_callB call_len_seq rfl T.n_len PySem.boot_len (pa_cons (pe_fld (pv 7) rfl) pa_nil)) pe_int (nomark _))
      (pss_cons (ps_setLc (i := 8) (own := [("k", 9)]) rfl sc_Boxes_places_in_window.nd rfl rfl (sw_true rfl rfl rfl rfl) (pi_list (pe_fld (pv 7) rfl)) (blkOk_by rfl) (fun _ _ _ _ _ => (pg_name (i := 9) sc_Boxes_places_in_window.nd rfl (Or.inl rfl))) (fun _ _ _ _ _ => pts_nil) (fun _ _ _ _ _ => (pe_fldK (K := K) rfl (pe_dget hu (pe_fldK (K := K) rfl (pv 0) rfl) (pv 9) (fun _ _ => rfl)) rfl)))
      (pss_cons (ps_set (i := 10) sc_Boxes_places_in_window.nd rfl (Or.inl rfl) (pe_call (ok_inner_places T) (hr.mono (by decide)) rfl T.g_inner_places T.k_inner_places T.b_inner_places .nil pass0 (pa_cons (pe_fld (pv 7) rfl) (pa_cons (pe_dget hu (pv 5) (pv 6) (fun _ _ => rfl)) (pa_cons (pv 8) (pa_cons (pe_lc (own := [("k", 9)]) rfl sc_Boxes_places_in_window.nd (pi_list (pe_fld (pv 7) rfl)) (blkOk_by rfl) (fun _ _ _ _ _ => (pg_name (i := 9) sc_Boxes_places_in_window.nd rfl (Or.inl rfl))) (fun _ _ _ _ _ => pts_nil) (fun _ _ _ _ _ => (pe_dget hu (pv 4) (pv 9) (fun _ _ => rfl)))) pa_nil))))))
      (pss_one (ps_expr (pe_bm PySem.F.plainAttrs_dict PySem.F.slot_dict_update PySem.F.type_dict_update mt_update (pv 5) (pa_cons (pe_dict_zip rfl rfl T.n_dict rfl T.n_zip (pa_cons (pe_fld (pv 7) rfl) (pa_cons (pv 10) pa_nil))) pa_nil))))))
      pss_nil))))
      (pss_one (ps_ret (pv 5))))))), ?_⟩
    refine ⟨_, rfl, p, dxp, _, rfl, hp, rfl, p, own, a, rfl, ⟨d, kvs, dp, ad, la, S⟩, fun lo o H1 s1 hlo0 O hlo => ?_⟩
    refine ⟨_, rfl, p, dxp, _, rfl, s1 _ _ hp, rfl, _, rfl, p, lo, own, a, o, rfl, ⟨d, kvs, dp, ad, la, S.keep (fun q z => z) fun q o _ e => s1 q o e⟩, SqL.of hlo, O, fun dz kvz za H2 s2 hdz0 hdz SZ => ?_⟩
    have sA : Same H H2 := s1.trans s2
    have S2 : St t own H2 p d kvs a dp ad la := S.keep (fun q z => z) fun q o _ e => sA q o e
    have hlo2 := s2 _ _ hlo
    -- where each box's rule stands
    obtain ⟨ra, hra⟩ : ∃ ra : Nat → Addr, ∀ i, ∀ b, Kp175.box a i = some b → ∃ (dx : Addr) (pl : V), H2 (ad i) = some (.ins t.C_Box dx (bfs (ra i) (liesV i b) (dp i) (la i) pl)) ∧ RuleAt t.C_Rule own H2 (ra i) b.rule :=
      Classical.axiomOfChoice (r := fun i r => ∀ b, Kp175.box a i = some b → ∃ (dx : Addr) (pl : V), H2 (ad i) = some (.ins t.C_Box dx (bfs r (liesV i b) (dp i) (la i) pl)) ∧ RuleAt t.C_Rule own H2 r b.rule) fun i => by
        cases hb : Kp175.box a i with
        | none => exact ⟨p, fun b z => by cases z⟩
        | some b =>
          obtain ⟨bx, br, pl, b1, b2, g1, g2, g3, g4⟩ := S2.bx i b hb
          exact ⟨br, fun b' z => by cases z; exact ⟨bx, pl, g1, g2⟩⟩
    intro dq hdq
    refine ⟨_, rfl, _, rfl, (by show 4 ≤ sizeLine; decide), fun q0 hq0 => ?_⟩
    have nq : dq ≠ q0 := fun e => by rw [← e, upd_same] at hq0; cases hq0
    have hq2 : H2 q0 = none := by rw [upd_ne nq.symm] at hq0; exact hq0
    refine ⟨by rw [upd_ne nq]; exact upd_same, [(Sum.inl 0, .ref q0)], rfl, (by show 1 ≤ 15; decide), ?_⟩
    have s3 : Same H2 (upd (upd (upd H2 dq (.dK [])) q0 (.tup [.int 0, .int 0, .int (W : Nat), .int (Hh : Nat)])) dq (.dK (mergeK [] [(Sum.inl 0, .ref q0)]))) := fun b u e => by
      rw [upd_ne (ne_of_none e hdq), upd_ne (ne_of_none e hq2), upd_ne (ne_of_none e hdq)]
      exact e
    have hr0 : (upd (upd (upd H2 dq (.dK [])) q0 (.tup [.int 0, .int 0, .int (W : Nat), .int (Hh : Nat)])) dq (.dK (mergeK [] [(Sum.inl 0, .ref q0)]))) q0 = some (.tup (plV (Pl 0))) := by
      rw [upd_ne nq.symm, upd_same, L.root]
      rfl
    have hd0 : (upd (upd (upd H2 dq (.dK [])) q0 (.tup [.int 0, .int 0, .int (W : Nat), .int (Hh : Nat)])) dq (.dK (mergeK [] [(Sum.inl 0, .ref q0)]))) dq = some (.dK (plKv (fun _ => q0) (pre a o 0))) := by
      rw [upd_same]
      rfl
    generalize (upd (upd (upd H2 dq (.dK [])) q0 (.tup [.int 0, .int 0, .int (W : Nat), .int (Hh : Nat)])) dq (.dK (mergeK [] [(Sum.inl 0, .ref q0)]))) = H3 at s3 hr0 hd0
    refine ⟨_, rfl, lo, rfl, ⟨_, SqL.of (s3 _ _ hlo2)⟩, for_list (K := K) (a := lo) (xs := nv o) (fun i σ H' => ∃ (v6 v7 v8 v10 : Option V) (pa : Nat → Addr), σ = [some (.ref p), some (.int (W : Nat)), some (.int (Hh : Nat)), some (.ref lo), some (.ref dz), some (.ref dq), v6, v7, v8, none, v10] ∧ Same H2 H' ∧
      H' dq = some (.dK (plKv pa (pre a o i))) ∧ ∀ j, j ∈ pre a o i → H2 (pa j) = none ∧ H' (pa j) = some (.tup (plV (Pl j)))) ⟨none, none, none, none, fun _ => q0, rfl, s3, hd0, fun j hj => ?_⟩ (fun i σ H' _ ⟨_, _, _, _, _, _, e, _⟩ => SqL.of (e _ _ hlo2)) ?_ ?_⟩
    · have : j = 0 := by simpa [pre] using hj
      subst this
      exact ⟨hq2, hr0⟩
    · rintro i v σ H' hv ⟨v6, v7, v8, v10, pa, rfl, sm', hdq', hpl⟩
      obtain ⟨j, hj, rfl⟩ := nv_at hv
      obtain ⟨b, hb⟩ := (O.mem j).mp (List.mem_of_getElem? hj)
      have S3 : St t own H' p d kvs a dp ad la := S2.keep (fun q z => z) fun q o _ e => sm' q o e
      obtain ⟨dxp', hp'⟩ := S3.ob
      obtain ⟨bx, pl, g1, g2⟩ := hra j b hb
      have g1' := sm' _ _ g1
      obtain ⟨_, _, _, _, _, _, _, g3, _⟩ := S3.bx j b hb
      rw [kidsV_nv] at g3
      have kf := S.wf.few j b hb
      have nd := pre_nd O (i + 1)
      rw [pre_succ hj hb] at nd
      have hps := pre_succ hj hb
      refine ⟨_, rfl, p, _, dxp', _, _, rfl, hp', T.c_Boxes, T.n_Boxes_by_number, rfl, _, rfl, d, _, rfl, S3.get hb, ?_⟩
      refine ⟨_, rfl, ad j, _, bx, _, _, rfl, g1', T.c_Box, T.n_Box_inner, rfl, la j, _, rfl, .inl (SqL.of g3), _, _, rfl, rfl, _, rfl, ite2 (fun c => ?_) fun c => ?_⟩
      · have hk : b.kids ≠ [] := fun z => by
          have := of_decide_eq_true c
          rw [nv_len, z] at this
          simp at this
        -- rules
        refine ⟨_, rfl, ad j, _, bx, _, _, rfl, g1', T.c_Box, T.n_Box_inner, rfl, la j, rfl, ⟨_, SqL.of g3⟩, fun D hD => lc_list (K := K) (a := la j) (xs := nv b.kids) (LcP H' D fun i => ((b.kids.map ra).map V.ref).take i) (LcP.start hD rfl) (fun i H'' _ q => SqL.of (q.1 _ _ g3)) (fun i' x H'' hx q => ?_) fun H4 q4 => ?_⟩
        · obtain ⟨kk, hkk, rfl⟩ := nv_at hx
          obtain ⟨_, c', hc', _⟩ := S.wf.down j b kk hb (List.mem_of_getElem? hkk)
          have S4 : St t own H'' p d kvs a dp ad la := S3.keep (fun q z => z) fun q' o _ e => q.1 q' o e
          obtain ⟨bx', pl', g1k, _⟩ := hra kk c' hc'
          refine ⟨rfl, _, rfl, p, _, dxp', _, _, rfl, q.1 _ _ hp', T.c_Boxes, T.n_Boxes_by_number, rfl, _, rfl, d, _, rfl, S4.get hc', ad kk, _, bx', _, _, rfl, q.1 _ _ (sm' _ _ g1k), T.c_Box, T.n_Box_rule, rfl, q.next hD (Same.refl _) (small_of ?_) (take_next ?_)⟩
          · simp only [List.length_take, List.length_map]
            omega
          · rw [List.getElem?_map, List.getElem?_map, hkk]
            rfl
        obtain ⟨s4, gD⟩ := q4.fin (ys := (b.kids.map ra).map V.ref) (List.take_of_length_le (by simp [nv_len]))
        have g1'' := s4 _ _ g1'
        have g3' := s4 _ _ g3
        have hjm : j ∈ pre a o i := pre_mem S.wf O hj
        obtain ⟨hpj0, hpj⟩ := hpl j hjm
        have gq : DGet H4 dq (.int (j : Nat)) (some (.ref (pa j))) := by
          have z := DGet.k (k := Sum.inl (j : Int)) (s4 _ _ hdq')
          rw [plKv_get (pre_nd O i) hjm] at z
          exact z
        refine ⟨_, rfl, ad j, _, bx, _, _, rfl, g1'', T.c_Box, T.n_Box_rule, rfl, _, rfl, _, rfl, dq, _, rfl, gq, _, rfl, _, rfl, ad j, _, bx, _, _, rfl, g1'', T.c_Box, T.n_Box_inner, rfl, la j, rfl, ⟨_, SqL.of g3'⟩, fun D2 hD2 => lc_list (K := K) (a := la j) (xs := nv b.kids) (LcP H4 D2 fun i => ((b.kids.map za).map V.ref).take i) (LcP.start hD2 rfl) (fun i H'' _ q => SqL.of (q.1 _ _ g3')) (fun i' x H'' hx q => ?_) fun H5 q5 => ?_⟩
        · obtain ⟨kk, hkk, rfl⟩ := nv_at hx
          obtain ⟨_, c', hc', _⟩ := S.wf.down j b kk hb (List.mem_of_getElem? hkk)
          have gz : DGet H'' dz (.int (kk : Nat)) (some (.ref (za kk))) := by
            have z := DGet.k (k := Sum.inl (kk : Int)) (q.1 _ _ (s4 _ _ (sm' _ _ hdz)))
            rw [(SZ kk c' hc').1] at z
            exact z
          refine ⟨rfl, _, rfl, _, rfl, dz, _, rfl, gz, q.next hD2 (Same.refl _) (small_of ?_) (take_next ?_)⟩
          · simp only [List.length_take, List.length_map]
            omega
          · rw [List.getElem?_map, List.getElem?_map, hkk]
            rfl
        obtain ⟨s5, gD2⟩ := q5.fin (ys := (b.kids.map za).map V.ref) (List.take_of_length_le (by simp [nv_len]))
        have sB : Same H2 H5 := sm'.trans (s4.trans s5)
        have prR : Paired (fun a' q => RuleAt t.C_Rule own H5 a' q) (b.kids.map ra) (kqs a b) := by
          unfold kqs
          refine paired_zip ra (Kp175.ruleOf a) b.kids fun kk hkk => ?_
          obtain ⟨_, c', hc', _⟩ := S.wf.down j b kk hb hkk
          obtain ⟨_, _, _, R⟩ := hra kk c' hc'
          rw [ruleOf_eq hc']
          exact R.same sB
        have prZ : Paired (fun a' z => H5 a' = some (.tup (twoV z))) (b.kids.map za) (kzs a b) := by
          unfold kzs
          refine paired_zip za (Nz a) b.kids fun kk hkk => ?_
          obtain ⟨_, c', hc', _⟩ := S.wf.down j b kk hb hkk
          exact sB _ _ (SZ kk c' hc').2
        refine ⟨ra j, pa j, D, D2, b.rule, own, Pl j, _, _, kqs a b, kzs a b, rfl, g2.same sB, (S.wf.good j b hb).2, s5 _ _ (s4 _ _ hpj), s5 _ _ gD, prR, gD2, prZ, fits S.wf hb hk, fun ls ads H6 s6 hls0 hls prs fr => ?_⟩
        have sC : Same H2 H6 := sB.trans s6
        have sD : Same H' H6 := s4.trans (s5.trans s6)
        have zl : (kzs a b).length = b.kids.length := by simp [kzs]
        have al : ads.length = b.kids.length := by
          have := Paired.length prs
          simpa [zl] using this
        have hdq6 := sD _ _ hdq'
        -- the dict of the places
        refine ⟨_, rfl, .inr (.inr (.inl ⟨rfl, .inl ⟨_, hdq6⟩⟩)), _, rfl, ad j, _, bx, _, _, rfl, sD _ _ g1', T.c_Box, T.n_Box_inner, rfl, _, rfl, la j, ls, b.kids.map (fun (j : Nat) => (Sum.inl (j : Int) : Key)), ads.map V.ref, rfl, by rw [kv_nv]; exact SqL.of (sD _ _ g3), SqL.of hls, by simp [al], fun e he => ?_⟩
        have ndk : b.kids.Nodup := S.wf.nd j b hb
        have ez : mergeK [] ((b.kids.map fun (j : Nat) => (Sum.inl (j : Int) : Key)).zip (ads.map V.ref)) = (b.kids.map fun (j : Nat) => (Sum.inl (j : Int) : Key)).zip (ads.map V.ref) := by
          rw [mergeK_fresh _ _ ?_ (fun k _ => by simp), List.nil_append]
          rw [List.map_fst_zip (by simp [al])]
          exact inl_nodup ndk
        have ezp : (b.kids.map fun (j : Nat) => (Sum.inl (j : Int) : Key)).zip (ads.map V.ref) = plKv (fun x => ads.getD (b.kids.idxOf x) 0) b.kids := by
          refine List.ext_getElem (by simp [plKv, al]) fun n h1 h2 => ?_
          have hn : n < b.kids.length := by simpa [plKv] using h2
          have ei : b.kids.idxOf b.kids[n] = n := by
            have hm : b.kids[n] ∈ b.kids := List.getElem_mem hn
            refine nd_ix ndk (x := b.kids[n]) ?_ (List.getElem?_eq_getElem hn)
            rw [List.getElem?_eq_getElem (List.idxOf_lt_length_of_mem hm), List.getElem_idxOf]
          simp only [plKv, List.getElem_zip, List.getElem_map, ei]
          rw [List.getD_eq_getElem?_getD, List.getElem?_eq_getElem (by omega)]
          rfl
        rw [ez, ezp]
        have ned : dq ≠ e := ne_of_none hdq6 he
        obtain ⟨nd1, nd2, nd3⟩ := List.nodup_append.mp nd
        refine ⟨dq, e, _, _, rfl, rfl, ned, by rw [upd_ne ned]; exact hdq6, upd_same, ?_, ?_⟩
        · have h1 : (pre a o i).length ≤ 256 := by
            obtain ⟨r, er⟩ := pre_app O i
            have := O.few
            rw [er, List.length_append] at this
            omega
          simp only [plKv, List.length_map]
          exact Nat.le_of_lt (small_of (by omega))
        · have em : mergeK (plKv pa (pre a o i)) (plKv (fun x => ads.getD (b.kids.idxOf x) 0) b.kids) = plKv (fun x => if x ∈ b.kids then ads.getD (b.kids.idxOf x) 0 else pa x) (pre a o (i + 1)) := by
            rw [mergeK_fresh, hps]
            · unfold plKv
              rw [List.map_append]
              congr 1
              · refine List.map_congr_left fun x hx => ?_
                dsimp only
                rw [if_neg fun hm => nd3 x hx x hm rfl]
              · refine List.map_congr_left fun x hx => ?_
                dsimp only
                rw [if_pos hx]
            · rw [plKv_keys]
              exact inl_nodup nd2
            · intro kk h1 h2
              rw [plKv_keys] at h1 h2
              obtain ⟨x, hx, e1⟩ := List.mem_map.mp h1
              obtain ⟨y, hy, e2⟩ := List.mem_map.mp h2
              have : x = y := by
                have := Sum.inl.inj (e1.trans e2.symm)
                omega
              subst this
              exact nd3 x hy x hx rfl
          rw [em]
          refine ⟨_, _, _, _, _, rfl, fun b' u z => ?_, upd_same, fun x hx => ?_⟩
          · have z6 := sC _ _ z
            rw [upd_ne (ne_of_none z hdq), upd_ne (ne_of_none z6 he)]
            exact z6
          · rw [hps] at hx
            by_cases hxk : x ∈ b.kids
            · simp only [if_pos hxk]
              have hi := List.idxOf_lt_length_of_mem hxk
              obtain ⟨ax, hax, gx⟩ := paired_at prs (i := b.kids.idxOf x) (by simpa [zl] using hi) (Pl 0)
              have eax : ads.getD (b.kids.idxOf x) 0 = ax := getD_at hax
              rw [eax]
              have ek : ((List.range (kzs a b).length).map (placeOfK b.rule (Pl j) (kqs a b) (kzs a b))).getD (b.kids.idxOf x) (Pl 0) = Pl x := by
                rw [zl, getD_at (x := placeOfK b.rule (Pl j) (kqs a b) (kzs a b) (b.kids.idxOf x)) (by rw [List.getElem?_map, List.getElem?_range hi]; rfl)]
                rw [← L.kid j b _ hb hi]
                congr 1
                rw [List.getD_eq_getElem?_getD, List.getElem?_eq_getElem hi, List.getElem_idxOf]
                rfl
              rw [ek] at gx
              refine ⟨sB.free (fr ax (List.mem_of_getElem? hax)), ?_⟩
              rw [upd_ne (ne_of gx hdq6 (by intro z; cases z)), upd_ne (ne_of_none gx he)]
              exact gx
            · simp only [if_neg hxk]
              have hx' : x ∈ pre a o i := (List.mem_append.mp hx).resolve_right hxk
              obtain ⟨y1, y2⟩ := hpl x hx'
              have y6 := sD _ _ y2
              refine ⟨y1, ?_⟩
              rw [upd_ne (ne_of y2 hdq' (by intro z; cases z)), upd_ne (ne_of_none y6 he)]
              exact y6
      · have hk : b.kids = [] := by
          cases hz : b.kids with
          | nil => rfl
          | cons x r =>
            refine absurd (decide_eq_true ?_) c
            rw [nv_len, hz]
            simp
        have e : pre a o (i + 1) = pre a o i := by rw [hps, hk, List.append_nil]
        refine ⟨_, _, _, _, pa, rfl, sm', ?_, ?_⟩
        · rw [e]
          exact hdq'
        · rw [e]
          exact hpl
    · rintro σ H' ⟨v6, v7, v8, v10, pa, rfl, sm', hdq', hpl⟩
      rw [nv_len, pre_all O] at hdq' hpl
      exact ⟨_, rfl, k dq o pa Pl H' (sA.trans sm') (sA.free hdq) O L hdq' fun j hj => ⟨sA.free (hpl j hj).1, (hpl j hj).2⟩⟩
end
end BXP
namespace BX
open Kp175
theorem wf_like {a a' : Abs} {dp : Nat → Nat} (h : Wf a dp) (hl : a'.length = a.length) (look : ∀ j c, box a' j = some c → ∃ c0, box a j = some c0 ∧ c.in_ = c0.in_ ∧ c.kids = c0.kids ∧ c.rule = c0.rule)
    (old : ∀ j c, box a j = some c → ∃ c', box a' j = some c' ∧ c'.in_ = c.in_ ∧ c'.kids = c.kids) : Wf a' dp := by
  refine { len := by rw [hl, h.len], root := ?_, up := ?_, down := ?_, nd := ?_, few := ?_, leaf := ?_, good := ?_, dp0 := h.dp0, dps := ?_, dpl := ?_ }
  · obtain ⟨b0, hb0, hb00⟩ := h.root
    obtain ⟨c', q1, q2, _⟩ := old 0 b0 hb0
    exact ⟨c', q1, q2.trans hb00⟩
  · intro j c q hj
    obtain ⟨c0, q0, e1, e2, _⟩ := look j c q
    obtain ⟨p, hp, hm⟩ := h.up j c0 q0 hj
    obtain ⟨p', q1, _, q3⟩ := old _ p hp
    exact ⟨p', by rw [e1]; exact q1, by rw [q3]; exact hm⟩
  · intro j c m q hm
    obtain ⟨c0, q0, e1, e2, _⟩ := look j c q
    rw [e2] at hm
    obtain ⟨z, c', q1, q2⟩ := h.down j c0 m q0 hm
    obtain ⟨c2, q3, q4, _⟩ := old m c' q1
    exact ⟨z, c2, q3, q4.trans q2⟩
  · intro j c q
    obtain ⟨c0, q0, e1, e2, _⟩ := look j c q
    rw [e2]
    exact h.nd j c0 q0
  · intro j c q
    obtain ⟨c0, q0, e1, e2, _⟩ := look j c q
    rw [e2]
    exact h.few j c0 q0
  · intro j c q hc
    obtain ⟨c0, q0, e1, e2, e3⟩ := look j c q
    rw [e2]
    exact h.leaf j c0 q0 (by rw [← e3]; exact hc)
  · intro j c q
    obtain ⟨c0, q0, e1, e2, e3⟩ := look j c q
    rw [e3]
    exact h.good j c0 q0
  · intro j c q hj
    obtain ⟨c0, q0, e1, _⟩ := look j c q
    rw [e1]
    exact h.dps j c0 q0 hj
  · intro j c q
    obtain ⟨c0, q0, _⟩ := look j c q
    exact h.dpl j c0 q0
end BX
namespace BXP
open PySem L2 BX
def setPl (a : Kp175.Abs) (Pl : Nat → Kp175.Place) (done : List Nat) : Kp175.Abs := a.zipIdx.map fun z => z.1.map fun b => if z.2 ∈ done then { b with place := some (Pl z.2) } else b
theorem box_setPl {a : Kp175.Abs} {Pl : Nat → Kp175.Place} {done : List Nat} (j : Nat) : Kp175.box (setPl a Pl done) j = (Kp175.box a j).map fun b => if j ∈ done then { b with place := some (Pl j) } else b := by
  unfold setPl
  rw [box_zipIdx]
  unfold Kp175.box
  cases e : a[j]? with
  | none => rfl
  | some o => cases o <;> rfl
theorem len_setPl {a : Kp175.Abs} {Pl : Nat → Kp175.Place} {done : List Nat} : (setPl a Pl done).length = a.length := by simp [setPl]
theorem abs_ext {a a' : Kp175.Abs} (hl : a.length = a'.length) (h : ∀ j, Kp175.box a j = Kp175.box a' j) : a = a' := by
  refine List.ext_getElem hl fun i h1 h2 => ?_
  have := h i
  unfold Kp175.box at this
  rw [List.getElem?_eq_getElem h1, List.getElem?_eq_getElem h2] at this
  exact this
theorem setPl_nil {a : Kp175.Abs} {Pl : Nat → Kp175.Place} : setPl a Pl [] = a := abs_ext len_setPl fun j => by
  rw [box_setPl]
  cases Kp175.box a j <;> simp
theorem setPl_next {a : Kp175.Abs} {Pl : Nat → Kp175.Place} {done : List Nat} {j : Nat} (hj : j ∉ done) : setPl a Pl (done ++ [j]) = Kp175.change (setPl a Pl done) j fun q => { q with place := some (Pl j) } := by
  refine abs_ext (by rw [len_change, len_setPl, len_setPl]) fun i => ?_
  rw [box_change, box_setPl, box_setPl]
  by_cases e : i = j
  · subst e
    rw [if_pos rfl]
    cases Kp175.box a i with
    | none => rfl
    | some b => simp [hj]
  · rw [if_neg e]
    cases Kp175.box a i with
    | none => rfl
    | some b => simp [e]
theorem setPl_same {a : Kp175.Abs} {Pl : Nat → Kp175.Place} {done : List Nat} {j : Nat} {b : Kp175.Box} (hb : Kp175.box a j = some b) (hp : b.place = some (Pl j)) : setPl a Pl (done ++ [j]) = setPl a Pl done := by
  refine abs_ext (by rw [len_setPl, len_setPl]) fun i => ?_
  rw [box_setPl, box_setPl]
  by_cases e : i = j
  · subst e
    rw [hb]
    have : { b with place := some (Pl i) } = b := by rw [← hp]
    simp [this]
  · cases Kp175.box a i with
    | none => rfl
    | some b => simp [e]
theorem setPl_all {a : Kp175.Abs} {dp : Nat → Nat} (w : Wf a dp) {W H : Nat} {Pl : Nat → Kp175.Place} (L : Laid a W H Pl) {o : List Nat} (O : Order a o) : setPl a Pl o = Kp175.laid a (Kp175.layout a W H) := by
  refine abs_ext (by rw [len_setPl, len_laid]) fun i => ?_
  rw [box_setPl, box_laid]
  cases hb : Kp175.box a i with
  | none => rfl
  | some b =>
    have : i ∈ o := (O.mem i).mpr ⟨b, hb⟩
    simp only [Option.map_some, if_pos this, placeOf_eq w L hb]
def plD (p : Kp175.Place) : PyData := .tuple [.int p.x, .int p.y, .int p.w, .int p.h]
theorem plD_dp {K : PySem.W.Frag} {H : Hp} {q : Addr} {p : Kp175.Place} (h : H q = some (.tup (plV p))) : Dp K H (.ref q) (plD p) :=
  Dp.tup (SqT.of h) (.cons (.int _) (.cons (.int _) (.cons (.int _) (.cons (.int _) .nil))))
theorem plD_eqv (p q : Kp175.Place) : PyData.eqv (plD p) (plD q) = decide (p = q) := by
  rw [Bool.eq_iff_iff, decide_eq_true_eq]
  cases p
  cases q
  simp [plD, PyData.eqv, PyData.eqvAll, Kp175.Place.mk.injEq]
section
variable {t : Adr} {own own' : Own} {H H' : Hp} {p d : Addr} {kvs : List (Key × V)} {a : Kp175.Abs} {dp : Nat → Nat} {ad la : Nat → Addr}
def NF (o : HO) : Prop := ∀ od u, o ≠ .frz od u
theorem St.keepN (S : St t own H p d kvs a dp ad la) (hk : ∀ q o, own q → H q = some o → NF o → H' q = some o) : St t own H' p d kvs a dp ad la := by
  obtain ⟨dx, h⟩ := S.ob
  have nf : ∀ o, NB o → NF o := fun o z od u e => by subst e; exact z
  refine ⟨S.wf, S.op, S.od, ⟨dx, hk _ _ S.op h (by intro od u e; cases e)⟩, hk _ _ S.od S.dic (by intro od u e; cases e), S.nd, S.ks, S.has, S.len, fun i b e => ?_, S.ia, S.il⟩
  obtain ⟨bx, br, pl, o1, o2, g1, g2, g3, g4⟩ := S.bx i b e
  exact ⟨bx, br, pl, o1, o2, hk _ _ o1 g1 (by intro od u e; cases e), g2.keep (fun q z => z) (fun q o z1 z2 z3 => hk q o z1 z2 (nf o z3)), hk _ _ o2 g3 (by intro od u e; cases e), g4.keep (fun q z => z) (fun q o z1 z2 z3 => hk q o z1 z2 (nf o z3))⟩
theorem St.setPlace (S : St t own H p d kvs a dp ad la) {n : Nat} {b : Kp175.Box} {r dx : Addr} {pl : V} {P : Kp175.Place} (hb : Kp175.box a n = some b) (R : RuleAt t.C_Rule own H r b.rule) (hpl : PlAt own H pl (some P))
    (Hq : H' (ad n) = some (.ins t.C_Box dx (bfs r (liesV n b) (dp n) (la n) pl))) (keep : ∀ z o, H z = some o → z ≠ ad n → H' z = some o) :
    St t own H' p d kvs (Kp175.change a n fun q => { q with place := some P }) dp ad la := by
  have e := box_change (a := a) (i := n) (f := fun q => { q with place := some P })
  obtain ⟨bdx, br, bpl, b1, b2, g1, g2, g3, g4⟩ := S.bx n b hb
  have look : ∀ j c, Kp175.box (Kp175.change a n fun q => { q with place := some P }) j = some c → ∃ c0, Kp175.box a j = some c0 ∧ ((j = n ∧ c = { b with place := some P } ∧ c0 = b) ∨ (j ≠ n ∧ c = c0)) := by
    intro j c q
    rw [e] at q
    by_cases hj : j = n
    · rw [if_pos hj, hj, hb] at q
      cases q
      exact ⟨b, by rw [hj]; exact hb, .inl ⟨hj, rfl, rfl⟩⟩
    · rw [if_neg hj] at q
      exact ⟨c, q, .inr ⟨hj, rfl⟩⟩
  have old : ∀ j c, Kp175.box a j = some c → ∃ c', Kp175.box (Kp175.change a n fun q => { q with place := some P }) j = some c' ∧ c'.in_ = c.in_ ∧ c'.kids = c.kids := fun j c q => by
    by_cases hj : j = n
    · exact ⟨{ c with place := some P }, by rw [e, if_pos hj, q]; rfl, rfl, rfl⟩
    · exact ⟨c, by rw [e, if_neg hj, q], rfl, rfl⟩
  have nb : ∀ q o, own q → H q = some o → NB o → H' q = some o := fun q o _ e z => keep q o e (nb_ne (kvs := kvs) e z (.inr (.inr ⟨_, _, _, by simp [bfs], g1⟩)))
  obtain ⟨dxp, hp⟩ := S.ob
  refine { wf := wf_like S.wf len_change (fun j c q => ?_) old, op := S.op, od := S.od, ob := ⟨dxp, keep _ _ hp (S.p_ne hb).1⟩, dic := keep _ _ S.dic (S.ad_ne_d hb).1.symm, nd := S.nd, ks := ?_, has := ?_, len := by rw [many_change]; exact S.len, bx := ?_, ia := ?_, il := ?_ }
  · obtain ⟨c0, q0, ⟨_, rfl, rfl⟩ | ⟨_, rfl⟩⟩ := look j c q
    · exact ⟨c0, q0, rfl, rfl, rfl⟩
    · exact ⟨c, q0, rfl, rfl, rfl⟩
  · intro kv hkv
    obtain ⟨i, c, hc, ek⟩ := S.ks kv hkv
    obtain ⟨c', hc', _⟩ := old i c hc
    exact ⟨i, c', hc', ek⟩
  · intro i c q
    obtain ⟨c0, q0, _⟩ := look i c q
    exact S.has i c0 q0
  · intro i c q
    obtain ⟨c0, q0, ⟨rfl, rfl, rfl⟩ | ⟨hin, rfl⟩⟩ := look i c q
    · exact ⟨dx, r, pl, b1, b2, Hq, R.keep (fun q z => z) nb, keep _ _ g3 (S.ad_ne_la hb hb).symm, hpl.keep (fun q z => z) nb⟩
    · exact (S.bx i c q0).keep (fun q z => z) nb (fun o z => keep _ _ z fun y => hin (S.ia i n c b q0 hb y)) fun o z => keep _ _ z (S.ad_ne_la hb q0).symm
  · intro i j c c' q q' z
    obtain ⟨c0, q0, _⟩ := look i c q
    obtain ⟨c1, q1, _⟩ := look j c' q'
    exact S.ia i j c0 c1 q0 q1 z
  · intro i j c c' q q' z
    obtain ⟨c0, q0, _⟩ := look i c q
    obtain ⟨c1, q1, _⟩ := look j c' q'
    exact S.il i j c0 c1 q0 q1 z
end
def sp_bx_lay (t : Adr) : Sp := fun vs H Q _ => ∃ (p : Addr) (W Hh : Nat) (own : Own) (a : Kp175.Abs), vs = [.ref p, .int (W : Nat), .int (Hh : Nat)] ∧ StO t own H p (some a) ∧
  After t own H p (some (Kp175.act a (.lay W Hh)).1) (numOf (Kp175.act a (.lay W Hh)).2) Q
section
variable {P : Program} {w : World} {K : PySem.W.Frag} {mg : Str → Option Value} {base : Heap} {t : Adr}
theorem ok_Boxes_bx_lay (T : Txt K mg t) : FnOk P w K mg base CX0 8 t.f_Boxes_bx_lay t.fd_Boxes_bx_lay ["self", "width", "height"] (sp_bx_lay t) := by
  refine T.F_Boxes_bx_lay.ok sc_Boxes_bx_lay (fun vs H Q E h => ?_) (fun cdv A outer s H vs Q E hr h => ?_)
  · obtain ⟨p, W, Hh, own, a, rfl, _⟩ := h
    rfl
  · obtain ⟨p, W, Hh, own, a, rfl, ⟨d, kvs, dp, ad, la, S⟩, k⟩ := h
    obtain ⟨dxp, hp⟩ := S.ob
    have hu := hu_of hr
    refine ⟨_, (pss_cons (ps_if (PW.pt (pw_or (pt_cmpR op_gt (pv 1) (pe_glob rfl T.g_MOST_WINDOW T.r_MOST_WINDOW) (nomark _)) (pw_or1 (pt_cmpR op_gt (pv 2) (pe_glob rfl T.g_MOST_WINDOW T.r_MOST_WINDOW) (nomark _)))))
      (pss_one (ps_ret (pe_glob rfl T.g_NOT_AS_TOLD T.r_NOT_AS_TOLD)))
      pss_nil)
      (pss_cons (ps_set (i := 3) sc_Boxes_bx_lay.nd rfl (Or.inl rfl) (pe_meth (pv 0) T.c_Boxes T.m_Boxes_places_in_window (ok_Boxes_places_in_window T) (hr.mono (by decide)) T.b_Boxes_places_in_window .nil pass0 (pa_cons (pv 1) (pa_cons (pv 2) pa_nil))))
      (pss_cons (ps_set (i := 4) sc_Boxes_bx_lay.nd rfl (Or.inl rfl) pe_int)
      (pss_cons (ps_lock (ps_for PassesOwn.never rfl (pi_keys (pv 3)) (pg_name (i := 5) sc_Boxes_bx_lay.nd rfl (Or.inl rfl))
      (pss_cons (ps_set (i := 6) sc_Boxes_bx_lay.nd rfl (Or.inl rfl) (pe_dget hu (pe_fld (pv 0) rfl) (pv 5) (fun _ _ => rfl)))
      (pss_one (ps_if (pt_cmpR (op_neD hr.units) (pe_fld (pv 6) rfl) (pe_dget hu (pv 3) (pv 5) (fun _ _ => rfl)) (nomark _))
      (pss_cons (ps_fld (pv 6) (pe_dget hu (pv 3) (pv 5) (fun _ _ => rfl)) rfl)
      (pss_one (ps_set (i := 4) sc_Boxes_bx_lay.nd rfl (Or.inl rfl) (pe_op op_add (pv 4) pe_int))))
      pss_nil)))))
      (pss_one (ps_ret (pv 4))))))), ?_⟩
    have back : StO t (fun q => own q ∨ H q = none) H p (some a) := ⟨d, kvs, dp, ad, la, S.keep (fun q z => .inl z) fun q o _ e => e⟩
    refine ⟨_, rfl, _, _, rfl, rfl, _, rfl, ite2 (fun c1 => ?_) fun c1 => ?_⟩
    · refine iteT ?_
      have c : 65535 < W := by have := of_decide_eq_true c1; omega
      have e : Kp175.act a (.lay W Hh) = (a, .num (-22)) := by simp only [Kp175.act, if_pos (Or.inl c : 65535 < W ∨ 65535 < Hh)]
      rw [e] at k
      exact k H back fun q o e _ => e
    have c1 : ¬ 65535 < W := fun z => c1 (decide_eq_true (by omega))
    refine ⟨_, rfl, _, _, rfl, rfl, _, rfl, ite2 (fun c2 => ?_) fun c2 => ?_⟩
    · have c : 65535 < Hh := by have := of_decide_eq_true c2; omega
      have e : Kp175.act a (.lay W Hh) = (a, .num (-22)) := by simp only [Kp175.act, if_pos (Or.inr c : 65535 < W ∨ 65535 < Hh)]
      rw [e] at k
      exact k H back fun q o e _ => e
    have c2 : ¬ 65535 < Hh := fun z => c2 (decide_eq_true (by omega))
    have ea : Kp175.act a (.lay W Hh) = (Kp175.laid a (Kp175.layout a W Hh), .num (Kp175.moved a (Kp175.layout a W Hh) : Nat)) := by simp only [Kp175.act, if_neg (not_or.mpr ⟨c1, c2⟩)]
    rw [ea] at k
    refine ⟨_, rfl, p, dxp, _, rfl, hp, rfl, _, rfl, _, rfl, p, own, a, W, Hh, rfl, ⟨d, kvs, dp, ad, la, S⟩, fun dq o pa Pl H1 s1 hdq0 O L hdq hpa => ?_⟩
    refine ⟨dq, .dK (plKv pa o), hdq, trivial, fun od => ?_⟩
    have S0 : St t (fun q => own q ∨ H q = none) (upd H1 dq (.frz od (.dK (plKv pa o)))) p d kvs a dp ad la := S.keep (fun q z => .inl z) fun q u _ e => by
      rw [upd_ne (ne_of_none e hdq0)]
      exact s1 _ _ e
    refine ⟨_, rfl, dq, od, rfl, .inl ⟨_, upd_same, for_keys (fun i σ H' => ∃ (v5 v6 : Option V), σ = [some (.ref p), some (.int (W : Nat)), some (.int (Hh : Nat)), some (.ref dq), some (.int (((o.take i).filter (differs a Pl)).length : Nat)), v5, v6] ∧
      St t (fun q => own q ∨ H q = none) H' p d kvs (setPl a Pl (o.take i)) dp ad la ∧ H' dq = some (.frz od (.dK (plKv pa o))) ∧ (∀ j, j ∈ o → H' (pa j) = some (.tup (plV (Pl j)))) ∧ ∀ q u, H q = some u → ¬ own q → H' q = some u)
      ⟨none, none, rfl, by rw [List.take_zero, setPl_nil]; exact S0, upd_same, fun j hj => ?_, fun q u e _ => ?_⟩ (fun i σ H' _ ⟨_, _, _, _, e, _⟩ => e) ?_ ?_⟩⟩
    · rw [upd_ne (ne_of (hpa j hj).2 hdq (by intro z; cases z))]
      exact (hpa j hj).2
    · rw [upd_ne (ne_of_none e hdq0)]
      exact s1 _ _ e
    · rintro i kk v σ H' hi ⟨v5, v6, rfl, S', hfrz, hpa', hrest⟩
      unfold plKv at hi
      rw [List.getElem?_map] at hi
      obtain ⟨j, hj, ej⟩ := Option.map_eq_some_iff.mp hi
      cases ej
      obtain ⟨b, hb⟩ := (O.mem j).mp (List.mem_of_getElem? hj)
      have hjo : j ∈ o := List.mem_of_getElem? hj
      have hnot : j ∉ o.take i := fun hm => by
        obtain ⟨m, hm1, hm2⟩ := List.mem_take_iff_getElem.mp hm
        have hmo : m < o.length := by omega
        have := nd_ix O.nd (show o[m]? = some j by rw [List.getElem?_eq_getElem hmo, hm2]) hj
        omega
      have hb' : Kp175.box (setPl a Pl (o.take i)) j = some b := by
        rw [box_setPl, hb]
        simp [hnot]
      obtain ⟨dxp', hp'⟩ := S'.ob
      obtain ⟨bx, br, pl, b1, b2, g1, g2, g3, g4⟩ := S'.bx j b hb'
      obtain ⟨_, _, _, b1o, _⟩ := S.bx j b hb
      have gq : DGet H' dq (.int (j : Nat)) (some (.ref (pa j))) := .inl ⟨_, Sum.inl (j : Int), .inr ⟨_, hfrz⟩, rfl, (plKv_get O.nd hjo).symm⟩
      have et := take_next hj
      have ed : differs a Pl j = (b.place != some (Pl j)) := by
        unfold differs
        rw [hb]
      -- where it stands otherwise
      have go : b.place ≠ some (Pl j) → ∃ v5' v6' : Option V, [some (V.ref p), some (.int (W : Nat)), some (.int (Hh : Nat)), some (.ref dq), some (.int ((((o.take i).filter (differs a Pl)).length : Nat) + 1)), some (.int (j : Nat)), some (.ref (ad j))] = [some (V.ref p), some (.int (W : Nat)), some (.int (Hh : Nat)), some (.ref dq), some (.int (((o.take (i + 1)).filter (differs a Pl)).length : Nat)), v5', v6'] ∧
          St t (fun q => own q ∨ H q = none) (upd H' (ad j) (.ins t.C_Box bx (bfs br (liesV j b) (dp j) (la j) (.ref (pa j))))) p d kvs (setPl a Pl (o.take (i + 1))) dp ad la ∧ (upd H' (ad j) (.ins t.C_Box bx (bfs br (liesV j b) (dp j) (la j) (.ref (pa j))))) dq = some (.frz od (.dK (plKv pa o))) ∧
          (∀ x, x ∈ o → (upd H' (ad j) (.ins t.C_Box bx (bfs br (liesV j b) (dp j) (la j) (.ref (pa j))))) (pa x) = some (.tup (plV (Pl x)))) ∧ ∀ q u, H q = some u → ¬ own q → (upd H' (ad j) (.ins t.C_Box bx (bfs br (liesV j b) (dp j) (la j) (.ref (pa j))))) q = some u := fun hne => by
        refine ⟨some (.int (j : Nat)), some (.ref (ad j)), ?_, ?_, ?_, fun x hx => ?_, fun q u e no => ?_⟩
        · have e2 : (o.take (i + 1)).filter (differs a Pl) = (o.take i).filter (differs a Pl) ++ [j] := by
            rw [et, List.filter_append, List.filter_cons, if_pos (by rw [ed]; simpa using hne), List.filter_nil]
          rw [e2, List.length_append]
          rfl
        · rw [et, setPl_next hnot]
          exact S'.setPlace hb' g2 ⟨pa j, rfl, .inr (hpa j hjo).1, hpa' j hjo⟩ upd_same fun z u e hz => by rw [upd_ne hz]; exact e
        · rw [upd_ne (ne_of hfrz g1 (by intro z; cases z))]
          exact hfrz
        · rw [upd_ne (ne_of (hpa' x hx) g1 (by intro z; cases z))]
          exact hpa' x hx
        · rw [upd_ne fun z => no (by rw [z]; exact b1o)]
          exact hrest q u e no
      have stay : b.place = some (Pl j) → ∃ v5' v6' : Option V, [some (V.ref p), some (.int (W : Nat)), some (.int (Hh : Nat)), some (.ref dq), some (.int (((o.take i).filter (differs a Pl)).length : Nat)), some (.int (j : Nat)), some (.ref (ad j))] = [some (V.ref p), some (.int (W : Nat)), some (.int (Hh : Nat)), some (.ref dq), some (.int (((o.take (i + 1)).filter (differs a Pl)).length : Nat)), v5', v6'] ∧
          St t (fun q => own q ∨ H q = none) H' p d kvs (setPl a Pl (o.take (i + 1))) dp ad la ∧ H' dq = some (.frz od (.dK (plKv pa o))) ∧ (∀ x, x ∈ o → H' (pa x) = some (.tup (plV (Pl x)))) ∧ ∀ q u, H q = some u → ¬ own q → H' q = some u := fun hs => by
        refine ⟨some (.int (j : Nat)), some (.ref (ad j)), ?_, ?_, hfrz, hpa', hrest⟩
        · have e2 : (o.take (i + 1)).filter (differs a Pl) = (o.take i).filter (differs a Pl) := by
            rw [et, List.filter_append, List.filter_cons, if_neg (by rw [ed, hs]; simp), List.filter_nil, List.append_nil]
          rw [e2]
        · rw [et, setPl_same hb hs]
          exact S'
      refine ⟨_, rfl, p, _, dxp', _, _, rfl, hp', T.c_Boxes, T.n_Boxes_by_number, rfl, _, rfl, d, _, rfl, S'.get hb', ?_⟩
      obtain ⟨pd, h1, h2, h3⟩ : ∃ pd : PyData, Dp K H' pl pd ∧ SeqAt.shaped pd = true ∧ PyData.eqv pd (plD (Pl j)) = decide (b.place = some (Pl j)) := by
        cases hpl : b.place with
        | none =>
          rw [hpl] at g4
          have e : pl = .non := g4
          subst e
          exact ⟨.none, .non, rfl, by rw [decide_eq_false (by simp)]; rfl⟩
        | some P' =>
          rw [hpl] at g4
          obtain ⟨q, e, _, hq⟩ := g4
          subst e
          refine ⟨plD P', plD_dp hq, rfl, ?_⟩
          rw [plD_eqv, Bool.eq_iff_iff, decide_eq_true_eq, decide_eq_true_eq]
          exact ⟨fun z => by rw [z], fun z => Option.some.inj z⟩
      refine ⟨_, rfl, ad j, _, bx, _, _, rfl, g1, T.c_Box, T.n_Box_place, rfl, _, rfl, _, rfl, dq, _, rfl, gq, pd, plD (Pl j), h1, plD_dp (hpa' j hjo), h2, rfl, _, rfl, ?_⟩
      rw [h3]
      refine ite2 (fun c => ?_) fun c => ?_
      · have hne : b.place ≠ some (Pl j) := fun z => by
          rw [decide_eq_true z] at c
          cases c
        refine ⟨_, rfl, _, rfl, dq, _, rfl, gq, _, rfl, ad j, _, bx, _, rfl, g1, T.c_Box, T.n_Box_place, (by show 5 < 1000; decide), ?_⟩
        rw [putF_place]
        exact ⟨_, rfl, _, _, rfl, rfl, go hne⟩
      · have hs : b.place = some (Pl j) := by
          cases e : decide (b.place = some (Pl j)) with
          | true => exact of_decide_eq_true e
          | false =>
            rw [e] at c
            exact absurd rfl c
        exact stay hs
    · rintro σ H' ⟨v5, v6, rfl, S', hfrz, hpa', hrest⟩
      have el : (plKv pa o).length = o.length := by simp [plKv]
      rw [el, List.take_of_length_le (Nat.le_refl _)] at S' ⊢
      rw [setPl_all S.wf L O] at S'
      refine ⟨hfrz, _, rfl, ?_⟩
      rw [← moved_eq S.wf L O]
      refine k _ ⟨d, kvs, dp, ad, la, S'.keepN fun q u z e nf => ?_⟩ fun q u e no => ?_
      · rw [upd_ne fun z => by rw [z, hfrz] at e; cases e; exact nf _ _ rfl]
        exact e
      · rw [upd_ne (ne_of_none e hdq0)]
        exact hrest q u e no
end
end BXP
namespace BXP
open PySem L2 BX
theorem sq_upd {K : PySem.W.Frag} {H : Hp} {l q : Addr} {o : HO} {xs : List V} (h : SqL K H l xs) (n : l ≠ q) : SqL K (upd H q o) l xs := by
  rcases h with (h | ⟨o', h⟩) | h
  · exact .inl (.inl (by rw [upd_ne n]; exact h))
  · exact .inl (.inr ⟨o', by rw [upd_ne n]; exact h⟩)
  · exact .inr h
theorem nat_list : ∀ (v : List Int), (∀ x, x ∈ v → 0 ≤ x) → ∃ n : List Nat, v = n.map fun (k : Nat) => (k : Int)
  | [], _ => ⟨[], rfl⟩
  | x :: v, h => by
    obtain ⟨n, e⟩ := nat_list v fun y hy => h y (by simp [hy])
    obtain ⟨k, ek⟩ := Int.eq_ofNat_of_zero_le (h x (by simp))
    exact ⟨k :: n, by rw [e, ek]; rfl⟩
section
variable {P : Program} {w : World} {K : PySem.W.Frag} {mg : Str → Option Value} {base : Heap} {t : Adr}
theorem ok_Rule_init (T : Txt K mg t) : FnOk P w K mg base CX0 1 t.f_Rule_init t.fd_Rule_init ["self", "numbers"] (sp_Rule_init K t) := by
  refine T.F_Rule_init.ok sc_Rule_init (fun vs H Q E h => ?_) (fun cdv A outer s H vs Q E hr h => ?_)
  · obtain ⟨p, dx, l, v, rfl, _⟩ := h
    rfl
  · obtain ⟨p, dx, l, v, rfl, hp, hl, hlp, hv, hnn, k⟩ := h
    obtain ⟨n, rfl⟩ := nat_list v hnn
    have hv : n.length = 14 := by simpa using hv
    match n, hv with
    | [n0, n1, n2, n3, n4, n5, n6, n7, n8, n9, n10, n11, n12, n13], _ =>
    refine ⟨_, (pss_cons (ps_fld (pv 0) (pe_tup (pa_cons (pe_ix ix_list (pv 1) pe_int (fun _ _ => rfl)) (pa_cons (pe_ix ix_list (pv 1) pe_int (fun _ _ => rfl)) pa_nil))) rfl)
      (pss_cons (ps_fld (pv 0) (pe_tup (pa_cons (pe_ix ix_list (pv 1) pe_int (fun _ _ => rfl)) (pa_cons (pe_ix ix_list (pv 1) pe_int (fun _ _ => rfl)) pa_nil))) rfl)
      (pss_cons (ps_fld (pv 0) (pe_tup (pa_cons (pe_ix ix_list (pv 1) pe_int (fun _ _ => rfl)) (pa_cons (pe_ix ix_list (pv 1) pe_int (fun _ _ => rfl)) pa_nil))) rfl)
      (pss_cons (ps_fld (pv 0) (pe_ix ix_list (pv 1) pe_int (fun _ _ => rfl)) rfl)
      (pss_cons (ps_fld (pv 0) (pe_ix ix_list (pv 1) pe_int (fun _ _ => rfl)) rfl)
      (pss_cons (ps_fld (pv 0) (pe_ix ix_list (pv 1) pe_int (fun _ _ => rfl)) rfl)
      (pss_cons (ps_fld (pv 0) (pe_ix ix_list (pv 1) pe_int (fun _ _ => rfl)) rfl)
      (pss_cons (ps_fld (pv 0) (pe_ix ix_list (pv 1) pe_int (fun _ _ => rfl)) rfl)
      (pss_cons (ps_fld (pv 0) (pe_ix ix_list (pv 1) pe_int (fun _ _ => rfl)) rfl)
      (pss_cons (ps_fld (pv 0) (pe_ix ix_list (pv 1) pe_int (fun _ _ => rfl)) rfl)
      (pss_one (ps_fld (pv 0) (pe_ix ix_list (pv 1) pe_int (fun _ _ => rfl)) rfl)))))))))))), ?_⟩
    -- least
    refine ⟨_, rfl, l, _, _, _, rfl, rfl, hl, atI_nat (j := 0) rfl, _, rfl, l, _, _, _, rfl, rfl, hl, atI_nat (j := 1) rfl, (by show 2 ≤ sizeLine; decide), fun t1 ht1 => ?_⟩
    have np1 : p ≠ t1 := ne_of_none hp ht1
    have sq1 := (same_upd (o := .tup [.int (n0 : Nat), .int (n1 : Nat)]) ht1).seq hl
    refine ⟨_, rfl, p, _, dx, _, rfl, (by rw [upd_ne np1]; exact hp), T.c_Rule, T.n_Rule_least, (by show 0 < 1000; decide), ?_⟩
    have sq2 := sq_upd (o := .ins t.C_Rule dx (putF "least" (.ref t1) [])) sq1 hlp
    have a1 : (upd (upd H t1 (.tup [.int (n0 : Nat), .int (n1 : Nat)])) p (.ins t.C_Rule dx (putF "least" (.ref t1) []))) t1 = some (.tup [.int (n0 : Nat), .int (n1 : Nat)]) := by rw [upd_ne np1.symm]; exact upd_same
    have k1 : ∀ b o, H b = some o → b ≠ p → (upd (upd H t1 (.tup [.int (n0 : Nat), .int (n1 : Nat)])) p (.ins t.C_Rule dx (putF "least" (.ref t1) []))) b = some o := fun b o e hb => by rw [upd_ne hb, upd_ne (ne_of_none e ht1)]; exact e
    have p1 : (upd (upd H t1 (.tup [.int (n0 : Nat), .int (n1 : Nat)])) p (.ins t.C_Rule dx (putF "least" (.ref t1) []))) p = some (.ins t.C_Rule dx (putF "least" (.ref t1) [])) := upd_same
    have f1 : ∀ q, (upd (upd H t1 (.tup [.int (n0 : Nat), .int (n1 : Nat)])) p (.ins t.C_Rule dx (putF "least" (.ref t1) []))) q = none → H q = none := fun q e => by
      by_cases e1 : q = p
      · rw [e1, p1] at e; cases e
      · by_cases e2 : q = t1
        · rw [e2, a1] at e; cases e
        · rw [upd_ne e1, upd_ne e2] at e; exact e
    generalize (upd (upd H t1 (.tup [.int (n0 : Nat), .int (n1 : Nat)])) p (.ins t.C_Rule dx (putF "least" (.ref t1) []))) = H1 at sq2 a1 k1 p1 f1
    -- wish
    refine ⟨_, rfl, l, _, _, _, rfl, rfl, sq2, atI_nat (j := 2) rfl, _, rfl, l, _, _, _, rfl, rfl, sq2, atI_nat (j := 3) rfl, (by show 2 ≤ sizeLine; decide), fun t2 ht2 => ?_⟩
    have np2 : p ≠ t2 := ne_of_none p1 ht2
    have sq3 := (same_upd (o := .tup [.int (n2 : Nat), .int (n3 : Nat)]) ht2).seq sq2
    refine ⟨_, rfl, p, _, dx, _, rfl, (by rw [upd_ne np2]; exact p1), T.c_Rule, T.n_Rule_wish, (by show 1 < 1000; decide), ?_⟩
    have sq4 := sq_upd (o := .ins t.C_Rule dx (putF "wish" (.ref t2) (putF "least" (.ref t1) []))) sq3 hlp
    have a2 : (upd (upd H1 t2 (.tup [.int (n2 : Nat), .int (n3 : Nat)])) p (.ins t.C_Rule dx (putF "wish" (.ref t2) (putF "least" (.ref t1) [])))) t2 = some (.tup [.int (n2 : Nat), .int (n3 : Nat)]) := by rw [upd_ne np2.symm]; exact upd_same
    have a1' : (upd (upd H1 t2 (.tup [.int (n2 : Nat), .int (n3 : Nat)])) p (.ins t.C_Rule dx (putF "wish" (.ref t2) (putF "least" (.ref t1) [])))) t1 = some (.tup [.int (n0 : Nat), .int (n1 : Nat)]) := by rw [upd_ne np1.symm, upd_ne (ne_of_none a1 ht2)]; exact a1
    have k2 : ∀ b o, H b = some o → b ≠ p → (upd (upd H1 t2 (.tup [.int (n2 : Nat), .int (n3 : Nat)])) p (.ins t.C_Rule dx (putF "wish" (.ref t2) (putF "least" (.ref t1) [])))) b = some o := fun b o e hb => by rw [upd_ne hb, upd_ne (ne_of_none (k1 b o e hb) ht2)]; exact k1 b o e hb
    have p2 : (upd (upd H1 t2 (.tup [.int (n2 : Nat), .int (n3 : Nat)])) p (.ins t.C_Rule dx (putF "wish" (.ref t2) (putF "least" (.ref t1) [])))) p = some (.ins t.C_Rule dx (putF "wish" (.ref t2) (putF "least" (.ref t1) []))) := upd_same
    have f2 : ∀ q, (upd (upd H1 t2 (.tup [.int (n2 : Nat), .int (n3 : Nat)])) p (.ins t.C_Rule dx (putF "wish" (.ref t2) (putF "least" (.ref t1) [])))) q = none → H q = none := fun q e => by
      by_cases e1 : q = p
      · rw [e1, p2] at e; cases e
      · by_cases e2 : q = t2
        · rw [e2, a2] at e; cases e
        · rw [upd_ne e1, upd_ne e2] at e; exact f1 q e
    have f02 := f1 t2 ht2
    generalize (upd (upd H1 t2 (.tup [.int (n2 : Nat), .int (n3 : Nat)])) p (.ins t.C_Rule dx (putF "wish" (.ref t2) (putF "least" (.ref t1) [])))) = H2 at sq4 a2 a1' k2 p2 f2
    -- most
    refine ⟨_, rfl, l, _, _, _, rfl, rfl, sq4, atI_nat (j := 4) rfl, _, rfl, l, _, _, _, rfl, rfl, sq4, atI_nat (j := 5) rfl, (by show 2 ≤ sizeLine; decide), fun t3 ht3 => ?_⟩
    have np3 : p ≠ t3 := ne_of_none p2 ht3
    have sq5 := (same_upd (o := .tup [.int (n4 : Nat), .int (n5 : Nat)]) ht3).seq sq4
    have a3 : (upd H2 t3 (.tup [.int (n4 : Nat), .int (n5 : Nat)])) t3 = some (.tup [.int (n4 : Nat), .int (n5 : Nat)]) := upd_same
    have a1'' : (upd H2 t3 (.tup [.int (n4 : Nat), .int (n5 : Nat)])) t1 = some (.tup [.int (n0 : Nat), .int (n1 : Nat)]) := by rw [upd_ne (ne_of_none a1' ht3)]; exact a1'
    have a2' : (upd H2 t3 (.tup [.int (n4 : Nat), .int (n5 : Nat)])) t2 = some (.tup [.int (n2 : Nat), .int (n3 : Nat)]) := by rw [upd_ne (ne_of_none a2 ht3)]; exact a2
    have p3 : (upd H2 t3 (.tup [.int (n4 : Nat), .int (n5 : Nat)])) p = some (.ins t.C_Rule dx (putF "wish" (.ref t2) (putF "least" (.ref t1) []))) := by rw [upd_ne np3]; exact p2
    have k3 : ∀ b o, H b = some o → b ≠ p → (upd H2 t3 (.tup [.int (n4 : Nat), .int (n5 : Nat)])) b = some o := fun b o e hb => by rw [upd_ne (ne_of_none (k2 b o e hb) ht3)]; exact k2 b o e hb
    have f03 := f2 t3 ht3
    generalize (upd H2 t3 (.tup [.int (n4 : Nat), .int (n5 : Nat)])) = H3 at sq5 a3 a1'' a2' p3 k3
    refine ⟨_, rfl, p, _, dx, _, rfl, p3, T.c_Rule, T.n_Rule_most, (by show 2 < 1000; decide), ?_⟩
    have sqn : ∀ {H : Hp} {o : HO}, SqL K H l ([n0, n1, n2, n3, n4, n5, n6, n7, n8, n9, n10, n11, n12, n13].map (fun (k : Nat) => (k : Int)) |>.map V.int) → SqL K (upd H p o) l ([n0, n1, n2, n3, n4, n5, n6, n7, n8, n9, n10, n11, n12, n13].map (fun (k : Nat) => (k : Int)) |>.map V.int) := fun h => sq_upd h hlp
    have q1 := sqn (o := .ins t.C_Rule dx (putF "most" (.ref t3) (putF "wish" (.ref t2) (putF "least" (.ref t1) [])))) sq5
    refine ⟨_, rfl, l, _, _, _, rfl, rfl, q1, atI_nat (j := 6) rfl, _, rfl, p, _, dx, _, rfl, upd_same, T.c_Rule, T.n_Rule_kind, (by show 3 < 1000; decide), ?_⟩
    refine ⟨_, rfl, l, _, _, _, rfl, rfl, sqn q1, atI_nat (j := 7) rfl, _, rfl, p, _, dx, _, rfl, upd_same, T.c_Rule, T.n_Rule_pad, (by show 4 < 1000; decide), ?_⟩
    refine ⟨_, rfl, l, _, _, _, rfl, rfl, sqn (sqn q1), atI_nat (j := 8) rfl, _, rfl, p, _, dx, _, rfl, upd_same, T.c_Rule, T.n_Rule_gap, (by show 5 < 1000; decide), ?_⟩
    refine ⟨_, rfl, l, _, _, _, rfl, rfl, sqn (sqn (sqn q1)), atI_nat (j := 9) rfl, _, rfl, p, _, dx, _, rfl, upd_same, T.c_Rule, T.n_Rule_grow, (by show 6 < 1000; decide), ?_⟩
    refine ⟨_, rfl, l, _, _, _, rfl, rfl, sqn (sqn (sqn (sqn q1))), atI_nat (j := 10) rfl, _, rfl, p, _, dx, _, rfl, upd_same, T.c_Rule, T.n_Rule_give, (by show 7 < 1000; decide), ?_⟩
    refine ⟨_, rfl, l, _, _, _, rfl, rfl, sqn (sqn (sqn (sqn (sqn q1)))), atI_nat (j := 11) rfl, _, rfl, p, _, dx, _, rfl, upd_same, T.c_Rule, T.n_Rule_side, (by show 8 < 1000; decide), ?_⟩
    refine ⟨_, rfl, l, _, _, _, rfl, rfl, sqn (sqn (sqn (sqn (sqn (sqn q1))))), atI_nat (j := 12) rfl, _, rfl, p, _, dx, _, rfl, upd_same, T.c_Rule, T.n_Rule_rest, (by show 9 < 1000; decide), ?_⟩
    refine ⟨_, rfl, l, _, _, _, rfl, rfl, sqn (sqn (sqn (sqn (sqn (sqn (sqn q1)))))), atI_nat (j := 13) rfl, _, rfl, p, _, dx, _, rfl, upd_same, T.c_Rule, T.n_Rule_none, (by show 10 < 1000; decide), ?_⟩
    have un : ∀ {b : Addr} {o1 o2 o3 o4 o5 o6 o7 o8 o9 : HO}, b ≠ p → (upd (upd (upd (upd (upd (upd (upd (upd (upd H3 p o1) p o2) p o3) p o4) p o5) p o6) p o7) p o8) p o9) b = H3 b := fun hb => by rw [upd_ne hb, upd_ne hb, upd_ne hb, upd_ne hb, upd_ne hb, upd_ne hb, upd_ne hb, upd_ne hb, upd_ne hb]
    refine k _ ⟨dx, t1, t2, t3, .inl rfl, .inr ht1, .inr f02, .inr f03, upd_same, ?_, ?_, ?_⟩ fun b o e hb => ?_
    · rw [un np1.symm]; exact a1''
    · rw [un np2.symm]; exact a2'
    · rw [un np3.symm]; exact a3
    · rw [un hb]; exact k3 b o e hb
end
end BXP
namespace BXP
open PySem L2 BX
open Kp175Neutral (does)
def NumK (t : Adr) (own : Own) (H : Hp) (p : Addr) (s : BX.S) (c : Int) (cl : Kp175.Call) (Q : VK) : Prop :=
  ∀ H' : Hp, StO t (fun q => own q ∨ H q = none) H' p (does s cl).1 → (∀ q o, H q = some o → ¬ own q → H' q = some o) → (c = 5 → H' = H) → Q (.int (numOf (does s cl).2)) H'
def sp_number_for (t : Adr) : Sp := fun vs H Q _ => ∃ (p l : Addr) (own : Own) (s : BX.S) (c : Int) (v : List Int) (cl : Kp175.Call), vs = [.ref p, .int c, .ref l] ∧ StO t own H p s ∧ H l = some (.lst (v.map V.int)) ∧ Asked s c v cl ∧ NumK t own H p s c cl Q
theorem iteE {i j : Int} {A B : Prop} (h : i = j) (a : A) : if decide (V.int i = V.int j) = true then A else B := by
  rw [decide_eq_true (by rw [h]), if_pos rfl]
  exact a
theorem iteN {i j : Int} {A B : Prop} (h : i ≠ j) (b : B) : if decide (V.int i = V.int j) = true then A else B := by
  rw [decide_eq_false (fun z => h (by injection z)), if_neg Bool.false_ne_true]
  exact b
theorem lift {t : Adr} {own : Own} {H H1 : Hp} {p : Addr} {s : BX.S} {v : Int} {Q : VK} (s1 : Same H H1) (k : ∀ H' : Hp, StO t (fun q => own q ∨ H q = none) H' p s → (∀ q o, H q = some o → ¬ own q → H' q = some o) → Q (.int v) H') :
    After t (fun q => own q ∨ H q = none) H1 p s v Q := fun H' S' r => k H' (S'.keep (fun q z => z.elim (fun z => z) fun z => .inr (s1.free z)) fun q o _ e => e) fun q o e no => r q o (s1 _ _ e) fun z => z.elim no fun z => by rw [e] at z; cases z
theorem does_start (s : BX.S) (r : Kp175.Rule) : (does s (.start r)).1 = (if Kp175.goodRule r = true then some (Kp175.begun r) else s) ∧ numOf (does s (.start r)).2 = if Kp175.goodRule r = true then 0 else -22 := by
  unfold does
  cases s with
  | none =>
    cases h : Kp175.goodRule r <;> simp [Kp175Neutral.starts, Kp175.act, h, Kp175Neutral.began, numOf]
  | some a =>
    cases h : Kp175.goodRule r <;> simp [Kp175.act, h, numOf]
theorem cut1 (i : Int) (v : List Int) : cutV ((i :: v).map V.int) (some 1) none = v.map V.int := by
  unfold cutV
  have e : HT.sIx ((i :: v).map V.int).length 0 (some 1) = 1 := by
    have := HT.sIx_nat ((i :: v).map V.int).length 0 1
    rw [show ((1 : Nat) : Int) = 1 from rfl] at this
    rw [this, List.length_map, List.length_cons]
    omega
  rw [e, HT.sIx_none]
  simp
  exact List.take_of_length_le (by simp)
section
variable {P : Program} {w : World} {K : PySem.W.Frag} {mg : Str → Option Value} {base : Heap} {t : Adr}
theorem ok_number_for (T : Txt K mg t) : FnOk P w K mg base CX0 9 t.f_number_for t.fd_number_for ["boxes", "call", "numbers"] (sp_number_for t) := by
  refine T.F_number_for.ok sc_number_for (fun vs H Q E h => ?_) (fun cdv A outer s H vs Q E hr h => ?_)
  · obtain ⟨p, l, own, st, c, v, cl, rfl, _⟩ := h
    rfl
  · obtain ⟨p, l, own, st, c, v, cl, rfl, S, hl, hA, k⟩ := h
    obtain ⟨dxp, d0, hp⟩ : ∃ (dx d : Addr), H p = some (.ins t.C_Boxes dx [("by_number", .ref d)]) := by
      cases st with
      | none => exact S.2
      | some a =>
        obtain ⟨d, kvs, dp, ad, la, Z⟩ := S
        obtain ⟨dx, z⟩ := Z.ob
        exact ⟨dx, d, z⟩
    refine ⟨_, (pss_cons (ps_if (pt_cmpR op_eq (pv 1) (pe_glob rfl T.g_BX_START T.r_BX_START) (nomark _))
      (pss_one (ps_ret (pe_meth (pv 0) T.c_Boxes T.m_Boxes_bx_start (ok_Boxes_bx_start T) (hr.mono (by decide)) T.b_Boxes_bx_start .nil pass0 (pa_cons (pe_make T.mk_Rule (ok_Rule_init T) (hr.mono (by decide)) rfl T.g_Rule T.b_Rule_init .nil pass0 (pa_cons (pv 2) pa_nil)) pa_nil))))
      pss_nil)
      (pss_cons (ps_if (pt_cmpR op_eq (pv 1) (pe_glob rfl T.g_BX_ADD T.r_BX_ADD) (nomark _))
      (pss_one (ps_ret (pe_meth (pv 0) T.c_Boxes T.m_Boxes_bx_add (ok_Boxes_bx_add T) (hr.mono (by decide)) T.b_Boxes_bx_add .nil pass0 (pa_cons (pe_ix ix_list (pv 2) pe_int (fun _ _ => rfl)) (pa_cons (pe_make T.mk_Rule (ok_Rule_init T) (hr.mono (by decide)) rfl T.g_Rule T.b_Rule_init .nil pass0 (pa_cons (pe_slice sl_list (pv 2) (po_some pe_int) po_none) pa_nil)) pa_nil)))))
      pss_nil)
      (pss_cons (ps_if (pt_cmpR op_eq (pv 1) (pe_glob rfl T.g_BX_SET T.r_BX_SET) (nomark _))
      (pss_one (ps_ret (pe_meth (pv 0) T.c_Boxes T.m_Boxes_bx_set (ok_Boxes_bx_set T) (hr.mono (by decide)) T.b_Boxes_bx_set .nil pass0 (pa_cons (pe_ix ix_list (pv 2) pe_int (fun _ _ => rfl)) (pa_cons (pe_make T.mk_Rule (ok_Rule_init T) (hr.mono (by decide)) rfl T.g_Rule T.b_Rule_init .nil pass0 (pa_cons (pe_slice sl_list (pv 2) (po_some pe_int) po_none) pa_nil)) pa_nil)))))
      pss_nil)
      (pss_cons (ps_if (pt_cmpR op_eq (pv 1) (pe_glob rfl T.g_BX_DROP T.r_BX_DROP) (nomark _))
      (pss_one (ps_ret (pe_meth (pv 0) T.c_Boxes T.m_Boxes_bx_drop (ok_Boxes_bx_drop T) (hr.mono (by decide)) T.b_Boxes_bx_drop .nil pass0 (pa_cons (pe_ix ix_list (pv 2) pe_int (fun _ _ => rfl)) pa_nil))))
      pss_nil)
      (pss_cons (ps_if (pt_cmpR op_eq (pv 1) (pe_glob rfl T.g_BX_LAY T.r_BX_LAY) (nomark _))
      (pss_one (ps_ret (pe_meth (pv 0) T.c_Boxes T.m_Boxes_bx_lay (ok_Boxes_bx_lay T) (hr.mono (by decide)) T.b_Boxes_bx_lay .nil pass0 (pa_cons (pe_ix ix_list (pv 2) pe_int (fun _ _ => rfl)) (pa_cons (pe_ix ix_list (pv 2) pe_int (fun _ _ => rfl)) pa_nil)))))
      pss_nil)
      (pss_cons (ps_if (pt_cmpR op_eq (pv 1) (pe_glob rfl T.g_BX_PLACE T.r_BX_PLACE) (nomark _))
      (pss_one (ps_ret (pe_meth (pv 0) T.c_Boxes T.m_Boxes_bx_place (ok_Boxes_bx_place T) (hr.mono (by decide)) T.b_Boxes_bx_place .nil pass0 (pa_cons (pe_ix ix_list (pv 2) pe_int (fun _ _ => rfl)) pa_nil))))
      pss_nil)
      (pss_one (ps_ret (pe_meth (pv 0) T.c_Boxes T.m_Boxes_bx_at (ok_Boxes_bx_at T) (hr.mono (by decide)) T.b_Boxes_bx_at .nil pass0 (pa_cons (pe_ix ix_list (pv 2) pe_int (fun _ _ => rfl)) (pa_cons (pe_ix ix_list (pv 2) pe_int (fun _ _ => rfl)) pa_nil))))))))))), ?_⟩
    -- a rule made of numbers, at a heap that holds what H holds
    have mk : ∀ {H0 : Hp} {l0 : Addr} {v : List Int} {x dx : Addr} {H1 : Hp}, Same H H0 → H0 x = none → H0 dx = none → RuleAt t.C_Rule (fun q => q = x ∨ (upd (upd H0 dx (.own x)) x (.ins t.C_Rule dx [])) q = none) H1 x (ruleL v) → RuleAt t.C_Rule (fun q => own q ∨ H q = none) H1 x (ruleL v) := fun {H0 l0 v x dx H1} s0 nx ndx R => by
      refine R.mono (fun q z => ?_) fun q o _ e => e
      rcases z with rfl | z
      · exact .inr (s0.free nx)
      · by_cases e1 : q = x
        · exact .inr (by rw [e1]; exact s0.free nx)
        · by_cases e2 : q = dx
          · exact .inr (by rw [e2]; exact s0.free ndx)
          · rw [upd_ne e1, upd_ne e2] at z
            exact .inr (s0.free z)
    cases hA with
    | start v h14 h63 hR =>
      refine ⟨_, rfl, rfl, _, rfl, iteE rfl ?_⟩
      refine ⟨_, rfl, p, dxp, _, rfl, hp, rfl, _, rfl, ?_⟩
      intro x dx nx ndx nex
      have nlx : l ≠ x := ne_of_none hl nx
      have nld : l ≠ dx := ne_of_none hl ndx
      refine ⟨x, dx, l, v, rfl, upd_same, SqL.of (by rw [upd_ne nlx, upd_ne nld]; exact hl), nlx, h14, fun y hy => (h63 y hy).1, fun H1 R fr => ⟨rfl, ?_⟩⟩
      have s1 : Same H H1 := Same.made nx ndx fr
      obtain ⟨e1, e2⟩ := does_start st (ruleL v)
      refine ⟨p, x, ruleL v, fun q => own q ∨ H q = none, st, rfl, S.keep (fun q z => .inl z) fun q o _ e => s1 q o e, mk (l0 := l) (Same.refl _) nx ndx R, hR, ?_⟩
      rw [← e1, ← e2]
      exact lift s1 fun H' a1 a2 => k H' a1 a2 fun z => absurd z (by decide)
    | add i v hs h14 hi h63 hR =>
      cases st with
      | none => cases hs
      | some a =>
      obtain ⟨n, rfl⟩ := Int.eq_ofNat_of_zero_le hi.1
      refine ⟨_, rfl, rfl, _, rfl, iteN (by decide) ?_⟩
      refine ⟨_, rfl, rfl, _, rfl, iteE rfl ?_⟩
      refine ⟨_, rfl, p, dxp, _, rfl, hp, rfl, _, rfl, l, _, _, _, rfl, rfl, SqL.of hl, atI_nat (j := 0) rfl, _, rfl, _, rfl, l, _, rfl, SqL.of hl, fun l2 hl2 => ?_⟩
      rw [cut1]
      have s0 : Same H (upd H l2 (.lst (v.map V.int))) := same_upd hl2
      intro x dx nx ndx nex
      have nlx : l2 ≠ x := ne_of_none upd_same nx
      have nld : l2 ≠ dx := ne_of_none upd_same ndx
      refine ⟨x, dx, l2, v, rfl, upd_same, SqL.of (by rw [upd_ne nlx, upd_ne nld]; exact upd_same), nlx, h14, fun y hy => (h63 y hy).1, fun H1 R fr => ⟨rfl, ?_⟩⟩
      have s1 : Same H H1 := s0.trans (Same.made nx ndx fr)
      refine ⟨p, x, n, ruleL v, fun q => own q ∨ H q = none, a, rfl, S.keep (fun q z => .inl z) fun q o _ e => s1 q o e, mk (l0 := l) s0 nx ndx R, hR, ?_⟩
      exact lift s1 fun H' a1 a2 => k H' a1 a2 fun z => absurd z (by decide)
    | set i v hs h14 hi h63 hR =>
      cases st with
      | none => cases hs
      | some a =>
      obtain ⟨n, rfl⟩ := Int.eq_ofNat_of_zero_le hi.1
      refine ⟨_, rfl, rfl, _, rfl, iteN (by decide) ?_⟩
      refine ⟨_, rfl, rfl, _, rfl, iteN (by decide) ?_⟩
      refine ⟨_, rfl, rfl, _, rfl, iteE rfl ?_⟩
      refine ⟨_, rfl, p, dxp, _, rfl, hp, rfl, _, rfl, l, _, _, _, rfl, rfl, SqL.of hl, atI_nat (j := 0) rfl, _, rfl, _, rfl, l, _, rfl, SqL.of hl, fun l2 hl2 => ?_⟩
      rw [cut1]
      have s0 : Same H (upd H l2 (.lst (v.map V.int))) := same_upd hl2
      intro x dx nx ndx nex
      have nlx : l2 ≠ x := ne_of_none upd_same nx
      have nld : l2 ≠ dx := ne_of_none upd_same ndx
      refine ⟨x, dx, l2, v, rfl, upd_same, SqL.of (by rw [upd_ne nlx, upd_ne nld]; exact upd_same), nlx, h14, fun y hy => (h63 y hy).1, fun H1 R fr => ⟨rfl, ?_⟩⟩
      have s1 : Same H H1 := s0.trans (Same.made nx ndx fr)
      refine ⟨p, x, n, ruleL v, fun q => own q ∨ H q = none, a, rfl, S.keep (fun q z => .inl z) fun q o _ e => s1 q o e, mk (l0 := l) s0 nx ndx R, hR, ?_⟩
      exact lift s1 fun H' a1 a2 => k H' a1 a2 fun z => absurd z (by decide)
    | drop i hs hi =>
      cases st with
      | none => cases hs
      | some a =>
      obtain ⟨n, rfl⟩ := Int.eq_ofNat_of_zero_le hi.1
      refine ⟨_, rfl, rfl, _, rfl, iteN (by decide) ?_⟩
      refine ⟨_, rfl, rfl, _, rfl, iteN (by decide) ?_⟩
      refine ⟨_, rfl, rfl, _, rfl, iteN (by decide) ?_⟩
      refine ⟨_, rfl, rfl, _, rfl, iteE rfl ?_⟩
      refine ⟨_, rfl, p, dxp, _, rfl, hp, rfl, _, rfl, l, _, _, _, rfl, rfl, SqL.of hl, atI_nat (j := 0) rfl, p, n, own, a, rfl, S, ?_⟩
      exact fun H' a1 a2 => k H' a1 a2 fun z => absurd z (by decide)
    | lay wd ht hs h1 h2 =>
      cases st with
      | none => cases hs
      | some a =>
      obtain ⟨n, rfl⟩ := Int.eq_ofNat_of_zero_le h1.1
      obtain ⟨m, rfl⟩ := Int.eq_ofNat_of_zero_le h2.1
      refine ⟨_, rfl, rfl, _, rfl, iteN (by decide) ?_⟩
      refine ⟨_, rfl, rfl, _, rfl, iteN (by decide) ?_⟩
      refine ⟨_, rfl, rfl, _, rfl, iteN (by decide) ?_⟩
      refine ⟨_, rfl, rfl, _, rfl, iteN (by decide) ?_⟩
      refine ⟨_, rfl, rfl, _, rfl, iteE rfl ?_⟩
      refine ⟨_, rfl, p, dxp, _, rfl, hp, rfl, _, rfl, l, _, _, _, rfl, rfl, SqL.of hl, atI_nat (j := 0) rfl, _, rfl, l, _, _, _, rfl, rfl, SqL.of hl, atI_nat (j := 1) rfl, p, n, m, own, a, rfl, S, ?_⟩
      exact fun H' a1 a2 => k H' a1 a2 fun z => absurd z (by decide)
    | place i hs hi =>
      cases st with
      | none => cases hs
      | some a =>
      obtain ⟨n, rfl⟩ := Int.eq_ofNat_of_zero_le hi.1
      refine ⟨_, rfl, rfl, _, rfl, iteN (by decide) ?_⟩
      refine ⟨_, rfl, rfl, _, rfl, iteN (by decide) ?_⟩
      refine ⟨_, rfl, rfl, _, rfl, iteN (by decide) ?_⟩
      refine ⟨_, rfl, rfl, _, rfl, iteN (by decide) ?_⟩
      refine ⟨_, rfl, rfl, _, rfl, iteN (by decide) ?_⟩
      refine ⟨_, rfl, rfl, _, rfl, iteE rfl ?_⟩
      refine ⟨_, rfl, p, dxp, _, rfl, hp, rfl, _, rfl, l, _, _, _, rfl, rfl, SqL.of hl, atI_nat (j := 0) rfl, p, n, own, a, rfl, S, ?_⟩
      exact k H (S.keep (fun q z => .inl z) fun q o _ e => e) (fun q o e _ => e) fun _ => rfl
    | at_ x y hs =>
      cases st with
      | none => cases hs
      | some a =>
      refine ⟨_, rfl, rfl, _, rfl, iteN (by decide) ?_⟩
      refine ⟨_, rfl, rfl, _, rfl, iteN (by decide) ?_⟩
      refine ⟨_, rfl, rfl, _, rfl, iteN (by decide) ?_⟩
      refine ⟨_, rfl, rfl, _, rfl, iteN (by decide) ?_⟩
      refine ⟨_, rfl, rfl, _, rfl, iteN (by decide) ?_⟩
      refine ⟨_, rfl, rfl, _, rfl, iteN (by decide) ?_⟩
      refine ⟨_, rfl, p, dxp, _, rfl, hp, rfl, _, rfl, l, _, _, _, rfl, rfl, SqL.of hl, atI_nat (j := 0) rfl, _, rfl, l, _, _, _, rfl, rfl, SqL.of hl, atI_nat (j := 1) rfl, p, own, a, x, y, rfl, S, fun H' s1 => ?_⟩
      exact k H' (S.keep (fun q z => .inl z) fun q o _ e => s1 q o e) (fun q o e _ => s1 _ _ e) fun z => absurd z (by decide)
end
end BXP
namespace BXP
open PySem L2 BX
open Kp175Neutral (does)
def ansV (x : Kp175.Ans) : List V := (Kp175Neutral.wrKp175_Ans x).map V.int
def sp_answer_to (t : Adr) : Sp := fun vs H Q _ => ∃ (p l : Addr) (own : Own) (s : BX.S) (c : Int) (v : List Int) (cl : Kp175.Call), vs = [.ref p, .int c, .ref l] ∧ StO t own H p s ∧ H l = some (.lst (v.map V.int)) ∧ Asked s c v cl ∧
  ∀ (l' : Addr) (H' : Hp), StO t (fun q => own q ∨ H q = none) H' p (does s cl).1 → (∀ q o, H q = some o → ¬ own q → H' q = some o) → H l' = none ∨ own l' → H' l' = some (.lst (ansV (does s cl).2)) → Q (.ref l') H'
theorem act_num (a : Kp175.Abs) (c : Kp175.Call) (h : ∀ i, c ≠ .place i) : (Kp175.act a c).2 = .num (numOf (Kp175.act a c).2) := by
  cases c with
  | start r => simp only [Kp175.act]; split <;> rfl
  | add i r =>
    simp only [Kp175.act]
    split
    · rfl
    · split
      · rfl
      · split
        · rfl
        · split
          · rfl
          · split <;> rfl
  | set i r =>
    simp only [Kp175.act]
    split
    · rfl
    · split
      · rfl
      · split <;> rfl
  | drop i =>
    simp only [Kp175.act]
    split
    · rfl
    · split <;> rfl
  | lay w h => simp only [Kp175.act]; split <;> rfl
  | place i => exact absurd rfl (h i)
  | at_ x y => simp only [Kp175.act]; split <;> rfl
theorem does_num (s : BX.S) (c : Kp175.Call) (h : ∀ i, c ≠ .place i) : (does s c).2 = .num (numOf (does s c).2) := by
  unfold does
  cases s with
  | none =>
    dsimp only
    split
    · exact act_num _ c h
    · rfl
  | some a => exact act_num a c h
section
variable {P : Program} {w : World} {K : PySem.W.Frag} {mg : Str → Option Value} {base : Heap} {t : Adr}
theorem ok_answer_to (T : Txt K mg t) : FnOk P w K mg base CX0 10 t.f_answer_to t.fd_answer_to ["boxes", "call", "numbers"] (sp_answer_to t) := by
  refine T.F_answer_to.ok sc_answer_to (fun vs H Q E h => ?_) (fun cdv A outer s H vs Q E hr h => ?_)
  · obtain ⟨p, l, own, st, c, v, cl, rfl, _⟩ := h
    rfl
  · obtain ⟨p, l, own, st, c, v, cl, rfl, S, hl, hA, k⟩ := h
    refine ⟨_, (pss_cons (ps_set (i := 3) sc_answer_to.nd rfl (Or.inl rfl) (pe_call (ok_number_for T) (hr.mono (by decide)) rfl T.g_number_for T.k_number_for T.b_number_for .nil pass0 (pa_cons (pv 0) (pa_cons (pv 1) (pa_cons (pv 2) pa_nil)))))
      (pss_cons (ps_if (PW.pt (pw_and (pt_cmpR op_eq (pv 1) (pe_glob rfl T.g_BX_PLACE T.r_BX_PLACE) (nomark _)) (pw_and1 (pt_cmpR op_eq (pv 3) pe_int (nomark _)))))
      (pss_one (ps_ret (pe_op op_cat (pe_lst (pa_cons (pe_glob rfl T.g_FORM_PLACE T.r_FORM_PLACE) pa_nil)) (pe_callTy call_list_of rfl T.n_list bt_list (pa_cons (pe_meth (pv 0) T.c_Boxes T.m_Boxes_place_out (ok_Boxes_place_out T) (hr.mono (by decide)) T.b_Boxes_place_out .nil pass0 (pa_cons (pe_ix ix_list (pv 2) pe_int (fun _ _ => rfl)) pa_nil)) pa_nil)))))
      pss_nil)
      (pss_one (ps_ret (pe_lst (pa_cons (pe_glob rfl T.g_FORM_NUMBER T.r_FORM_NUMBER) (pa_cons (pv 3) pa_nil))))))), ?_⟩
    refine ⟨_, rfl, _, rfl, _, rfl, p, l, own, st, c, v, cl, rfl, S, hl, hA, fun H1 S1 r1 e5 => ?_⟩
    -- a number alone
    have num : (does st cl).2 = .num (numOf (does st cl).2) → ∀ n : Int, n = numOf (does st cl).2 → (2 ≤ sizeLine ∧ ∀ q, H1 q = none → Q (.ref q) (upd H1 q (.lst [.int 0, .int n]))) := fun en n hn => by
      refine ⟨by decide, fun q hq => ?_⟩
      have hH : H q = none ∨ own q := by
        cases e : H q with
        | none => exact .inl rfl
        | some o =>
          refine .inr (Classical.byContradiction fun no => ?_)
          rw [r1 q o e no] at hq
          cases hq
      refine k q _ (S1.keep (fun _ z => z) fun b o _ e => same_upd hq b o e) (fun b o e no => same_upd hq b o (r1 b o e no)) hH ?_
      rw [upd_same, en, hn]
      rfl
    by_cases h5 : c = 5
    · have eH := e5 h5
      subst eH
      refine ⟨_, rfl, rfl, _, rfl, iteE h5 ?_⟩
      cases hA with
      | place i hs hi =>
        cases st with
        | none => cases hs
        | some a =>
        obtain ⟨n, rfl⟩ := Int.eq_ofNat_of_zero_le hi.1
        rw [Int.toNat_natCast] at k num S1
        refine ⟨_, rfl, rfl, _, rfl, ?_⟩
        cases hb : Kp175.box a n with
        | none =>
          have ed : (does (some a) (.place n)).2 = .num (-2) := by
            show (Kp175.act a (.place n)).2 = _
            simp only [Kp175.act, hb]
          have hn : numOf (does (some a) (.place n)).2 = -2 := by rw [ed]; rfl
          have ne : numOf (does (some a) (.place n)).2 ≠ 0 := by rw [hn]; decide
          refine iteN ne ?_
          exact ⟨_, rfl, num (by rw [hn, ed]) _ rfl⟩
        | some b =>
          cases hpl : b.place with
          | none =>
            have ed : (does (some a) (.place n)).2 = .num (-11) := by
              show (Kp175.act a (.place n)).2 = _
              simp only [Kp175.act, hb, hpl]
            have hn : numOf (does (some a) (.place n)).2 = -11 := by rw [ed]; rfl
            have ne : numOf (does (some a) (.place n)).2 ≠ 0 := by rw [hn]; decide
            refine iteN ne ?_
            exact ⟨_, rfl, num (by rw [hn, ed]) _ rfl⟩
          | some q =>
            have ed : (does (some a) (.place n)).2 = .place q := by
              show (Kp175.act a (.place n)).2 = _
              simp only [Kp175.act, hb, hpl]
            have hn : numOf (does (some a) (.place n)).2 = 0 := by rw [ed]; rfl
            refine iteE hn ?_
            obtain ⟨d, kvs, dp, ad, la, Z⟩ := id S
            obtain ⟨dxp, hp⟩ := Z.ob
            refine ⟨by show 1 ≤ sizeLine; decide, fun l1 hl1 => ?_⟩
            have s1 : Same H1 (upd H1 l1 (.lst [.int 1])) := same_upd hl1
            refine ⟨_, rfl, p, dxp, _, rfl, s1 _ _ hp, rfl, _, rfl, l, _, _, _, rfl, rfl, SqL.of (s1 _ _ hl), atI_nat (j := 0) rfl, p, n, own, a, b, q, rfl, S.keep (fun _ z => z) fun b o _ e => s1 b o e, hb, hpl, fun pq hpq => ?_⟩
            refine ⟨pq, _, rfl, .inr (SqT.of hpq), fun l2 hl2 => ?_⟩
            have s2 : Same (upd H1 l1 (.lst [.int 1])) (upd (upd H1 l1 (.lst [.int 1])) l2 (.lst (plV q))) := same_upd hl2
            refine ⟨l1, l2, _, _, rfl, rfl, s2 _ _ upd_same, upd_same, by show 5 ≤ sizeLine; decide, fun l3 hl3 => ?_⟩
            have s3 : Same H1 (upd (upd (upd H1 l1 (.lst [.int 1])) l2 (.lst (plV q))) l3 (.lst ([.int 1] ++ plV q))) := s1.trans (s2.trans (same_upd hl3))
            refine k l3 _ (S1.keep (fun _ z => z) fun b o _ e => s3 b o e) (fun b o e _ => s3 _ _ e) (.inl ((s1.trans s2).free hl3)) ?_
            rw [upd_same, ed]
            rfl
      | start => exact absurd h5 (by decide)
      | add => exact absurd h5 (by decide)
      | set => exact absurd h5 (by decide)
      | drop => exact absurd h5 (by decide)
      | lay => exact absurd h5 (by decide)
      | at_ => exact absurd h5 (by decide)
    · refine ⟨_, rfl, rfl, _, rfl, iteN h5 (iteF ?_)⟩
      refine ⟨_, rfl, num (does_num st cl fun i e => ?_) _ rfl⟩
      subst e
      cases hA
      exact h5 rfl
end
end BXP
namespace BXP
open PySem L2 BX
open Kp175Neutral (does)
def OutL (K : PySem.W.Frag) (own : Own) (H : Hp) (a tl : Addr) (xs : List V) : Prop := ((∃ o, H a = some o ∧ ∀ H' : Hp, H' a = some o → SqL K H' a xs) ∧ ¬ own a ∧ a ≠ tl) ∨ ∀ H' : Hp, SqL K H' a xs
theorem OutL.sq {K : PySem.W.Frag} {own : Own} {H : Hp} {a tl : Addr} {xs : List V} (h : OutL K own H a tl xs) : SqL K H a xs := by
  rcases h with ⟨⟨o, e, f⟩, _⟩ | h
  · exact f H e
  · exact h H
theorem OutL.keep {K : PySem.W.Frag} {own own' : Own} {H H' : Hp} {a tl : Addr} {xs : List V} (h : OutL K own H a tl xs) (hk : ∀ o, H a = some o → ¬ own a → a ≠ tl → H' a = some o ∧ ¬ own' a) : OutL K own' H' a tl xs := by
  rcases h with ⟨⟨o, e, f⟩, no, ne⟩ | h
  · obtain ⟨h1, h2⟩ := hk o e no ne
    exact .inl ⟨⟨o, h1, f⟩, h2, ne⟩
  · exact .inr h
def sp_answers (K : PySem.W.Frag) : Sp := fun vs H Q _ => ∃ (a : Addr) (ns : List Int), vs = [.ref a] ∧ ns.length ≤ 16000 ∧ PyKp175.answers_asked ns = true ∧ SqL K H a (ns.map V.int) ∧ ∀ (p : Addr) (H' : Hp), H' p = some (.lst ((PyKp175.answers ns).map V.int)) → Q (.ref p) H'
theorem how_many {s : BX.S} {c : Int} {v : List Int} {cl : Kp175.Call} (h : Asked s c v cl) : atI [V.int 14, .int 15, .int 15, .int 1, .int 2, .int 1, .int 2] c = some (.int (v.length : Nat)) := by
  cases h with
  | start v h14 _ _ => rw [h14]; exact atI_nat (j := 0) rfl
  | add i v _ h14 _ _ _ => rw [List.length_cons, h14]; exact atI_nat (j := 1) rfl
  | set i v _ h14 _ _ _ => rw [List.length_cons, h14]; exact atI_nat (j := 2) rfl
  | drop i _ _ => exact atI_nat (j := 3) rfl
  | lay w h _ _ _ => exact atI_nat (j := 4) rfl
  | place i _ _ => exact atI_nat (j := 5) rfl
  | at_ x y _ => exact atI_nat (j := 6) rfl
theorem cut_calls {ns v : List Int} {b : Nat} (h1 : (ns.drop (b + 1)).take v.length = v) (h2 : b + 1 + v.length ≤ ns.length) : cutV (ns.map V.int) (some (((b : Nat) : Int) + 1)) (some (((b : Nat) : Int) + 1 + (v.length : Nat))) = v.map V.int := by
  have e1 : ((b : Nat) : Int) + 1 = ((b + 1 : Nat) : Int) := by omega
  have e2 : ((b + 1 : Nat) : Int) + (v.length : Nat) = ((b + 1 + v.length : Nat) : Int) := by omega
  unfold cutV
  rw [e1, e2, HT.sIx_nat, HT.sIx_nat, List.length_map, Nat.min_eq_left (show b + 1 ≤ ns.length by omega), Nat.min_eq_left h2]
  rw [show b + 1 + v.length - (b + 1) = v.length by omega, ← List.map_drop, ← List.map_take, h1]
section
variable {P : Program} {w : World} {K : PySem.W.Frag} {mg : Str → Option Value} {base : Heap} {t : Adr}
theorem ok_answers (T : Txt K mg t) : FnOk P w K mg base CX0 11 t.f_answers t.fd_answers ["calls"] (sp_answers K) := by
  refine T.F_answers.ok sc_answers (fun vs H Q E h => ?_) (fun cdv A outer s H vs Q E hr h => ?_)
  · obtain ⟨a, ns, rfl, _⟩ := h
    rfl
  · obtain ⟨a, ns, rfl, hn, hask, hsq, k⟩ := h
    refine ⟨_, (pss_cons (ps_set (i := 1) sc_answers.nd rfl (Or.inl rfl) (pe_make0 T.mk_Boxes (ok_Boxes_init T) (hr.mono (by decide)) rfl T.g_Boxes T.b_Boxes_init .nil pass0))
      (pss_cons (ps_set (i := 2) sc_answers.nd rfl (Or.inl rfl) (pe_lst pa_nil))
      (pss_cons (ps_set (i := 3) sc_answers.nd rfl (Or.inl rfl) pe_int)
      (pss_cons (ps_while PassesOwn.never (pt_cmpR op_lt (pv 3) (pe_callB call_len_seq rfl T.n_len PySem.boot_len (pa_cons (pv 0) pa_nil)) (nomark _))
      (pss_cons (ps_set (i := 4) sc_answers.nd rfl (Or.inl rfl) (pe_ix ix_list (pv 0) (pv 3) (fun _ _ => rfl)))
      (pss_cons (ps_set (i := 5) sc_answers.nd rfl (Or.inl rfl) (pe_op op_add (pe_op op_add (pv 3) pe_int) (pe_ix ix_tup (pe_glob (v := V.ref t.a_HOW_MANY_NUMBERS) rfl T.g_HOW_MANY_NUMBERS rfl) (pv 4) (fun _ _ => rfl))))
      (pss_cons (ps_set (i := 6) sc_answers.nd rfl (Or.inl rfl) (pe_call (ok_answer_to T) (hr.mono (by decide)) rfl T.g_answer_to T.k_answer_to T.b_answer_to .nil pass0 (pa_cons (pv 1) (pa_cons (pv 4) (pa_cons (pe_slice sl_list (pv 0) (po_some (pe_op op_add (pv 3) pe_int)) (po_some (pv 5))) pa_nil)))))
      (pss_cons (ps_expr (pe_bm PySem.F.plainAttrs_list PySem.F.slot_list_append PySem.F.type_list_append mt_append (pv 2) (pa_cons (pe_callB call_len_seq rfl T.n_len PySem.boot_len (pa_cons (pv 6) pa_nil)) pa_nil)))
      (pss_cons (ps_expr (pe_bm PySem.F.plainAttrs_list PySem.F.slot_list_extend PySem.F.type_list_extend mt_extend (pv 2) (pa_cons (pv 6) pa_nil)))
      (pss_one (ps_set (i := 3) sc_answers.nd rfl (Or.inl rfl) (pv 5)))))))))
      (pss_one (ps_ret (pv 2))))))), ?_⟩
    intro p dxp np ndp nep
    refine ⟨p, dxp, rfl, upd_same, fun d H1 hp fr => ⟨rfl, ?_⟩⟩
    have s1 : Same H H1 := Same.made np ndp fr
    refine ⟨Nat.zero_le _, fun tl htl => ?_⟩
    have s2 : Same H1 (upd H1 tl (.lst [])) := same_upd htl
    have npt : p ≠ tl := ne_of_none hp htl
    have out0 : OutL K (fun q => q = p) (upd H1 tl (.lst [])) a tl (ns.map V.int) := by
      rcases hsq with (h | ⟨o, h⟩) | h
      · exact .inl ⟨⟨_, s2 _ _ (s1 _ _ h), fun H' e => .inl (.inl e)⟩, ne_of_none h np, ne_of_none (s1 _ _ h) htl⟩
      · exact .inl ⟨⟨_, s2 _ _ (s1 _ _ h), fun H' e => .inl (.inr ⟨o, e⟩)⟩, ne_of_none h np, ne_of_none (s1 _ _ h) htl⟩
      · exact .inr fun H' => .inr h
    refine ⟨fun μ σ H' => ∃ (own : Own) (st : BX.S) (out : List Int) (b : Nat) (v4 v5 v6 : Option V), σ = [some (.ref a), some (.ref p), some (.ref tl), some (.int (b : Nat)), v4, v5, v6] ∧ At ns b st out ∧ StO t own H' p st ∧ OutL K own H' a tl (ns.map V.int) ∧ H' tl = some (.lst (out.map V.int)) ∧ ¬ own tl ∧ μ = ns.length - b,
      ⟨_, fun q => q = p, _, [], 0, none, none, none, rfl, At.start hask, ⟨rfl, dxp, d, s2 _ _ hp⟩, out0, upd_same, npt.symm, rfl⟩, ?_⟩
    rintro μ σ H' ⟨own, st, out, b, v4, v5, v6, rfl, hAt, S, hout, htl', hno, rfl⟩
    refine ⟨_, rfl, _, rfl, a, _, rfl, .inl hout.sq, _, _, rfl, rfl, _, rfl, ite2 (fun c => ?_) fun c => ?_⟩
    · have hb : b < ns.length := by
        have := of_decide_eq_true c
        rw [List.length_map] at this
        omega
      obtain ⟨cc, v, cl, hc, hv, hle, _, hA, hAt'⟩ := hAt.step hb
      have small := hAt'.small
      refine ⟨fun σ' H'' => ∃ (own' : Own) (v4 v5 v6 : Option V), σ' = [some (.ref a), some (.ref p), some (.ref tl), some (.int ((b + 1 + v.length : Nat) : Int)), v4, v5, v6] ∧ StO t own' H'' p (does st cl).1 ∧ OutL K own' H'' a tl (ns.map V.int) ∧
        H'' tl = some (.lst ((out ++ ((Kp175Neutral.wrKp175_Ans (does st cl).2).length : Int) :: Kp175Neutral.wrKp175_Ans (does st cl).2).map V.int)) ∧ ¬ own' tl, ?_, ?_⟩
      · rintro σ' H'' ⟨own', v4, v5, v6, rfl, S', o', h', no'⟩
        exact ⟨ns.length - (b + 1 + v.length), by omega, own', _, _, b + 1 + v.length, v4, v5, v6, rfl, hAt', S', o', h', no', rfl⟩
      refine ⟨_, rfl, _, rfl, a, _, _, _, rfl, rfl, hout.sq, atI_nat (v := .int cc) (by rw [List.getElem?_map, hc]; rfl), ?_⟩
      refine ⟨_, rfl, _, _, rfl, rfl, _, rfl, t.a_HOW_MANY_NUMBERS, _, _, _, rfl, rfl, T.q_HOW_MANY_NUMBERS H', how_many hA, _, _, rfl, rfl, ?_⟩
      refine ⟨_, rfl, _, rfl, _, rfl, _, rfl, _, _, rfl, rfl, _, rfl, _, rfl, _, rfl, a, _, rfl, hout.sq, fun l hl => ?_⟩
      rw [cut_calls hv hle]
      have s3 : Same H' (upd H' l (.lst (v.map V.int))) := same_upd hl
      have hl' : (upd H' l (.lst (v.map V.int))) l = some (.lst (v.map V.int)) := upd_same
      have out3 : OutL K own (upd H' l (.lst (v.map V.int))) a tl (ns.map V.int) := hout.keep fun o e no _ => ⟨s3 _ _ e, no⟩
      generalize (upd H' l (.lst (v.map V.int))) = H3 at s3 hl' out3
      refine ⟨p, l, own, st, cc, v, cl, rfl, S.keep (fun _ z => z) fun q o _ e => s3 q o e, hl', hA, fun l' H4 S4 r4 hl4 hans => ?_⟩
      have htl4 : H4 tl = some (.lst (out.map V.int)) := r4 _ _ (s3 _ _ htl') hno
      have hH3tl : H3 tl ≠ none := by rw [s3 _ _ htl']; simp
      have nlt : l' ≠ tl := fun z => by
        rw [z] at hl4
        exact hl4.elim hH3tl hno
      have al : (ansV (does st cl).2).length = (Kp175Neutral.wrKp175_Ans (does st cl).2).length := by simp [ansV]
      have a5 := ans_len (does st cl).2
      have ol : out.length ≤ 96000 := by
        have := hAt.small
        have := hAt.le
        omega
      refine ⟨_, rfl, tyL htl4, _, rfl, l', _, rfl, .inl (SqL.of hans), tl, _, _, rfl, rfl, htl4, ?_, ?_⟩
      · rw [List.length_map]
        exact Nat.lt_of_le_of_lt ol (by decide)
      have g5 : (upd H4 tl (.lst (out.map V.int ++ [.int ((ansV (does st cl).2).length : Nat)]))) tl = some (.lst (out.map V.int ++ [.int ((ansV (does st cl).2).length : Nat)])) := upd_same
      have g6 : (upd H4 tl (.lst (out.map V.int ++ [.int ((ansV (does st cl).2).length : Nat)]))) l' = some (.lst (ansV (does st cl).2)) := by rw [upd_ne nlt]; exact hans
      refine ⟨_, rfl, tyL g5, _, rfl, tl, l', _, _, rfl, rfl, g5, g6, ?_, ?_⟩
      · rw [List.length_append, List.length_map, al]
        exact Nat.le_trans (show out.length + [V.int ((ansV (does st cl).2).length : Nat)].length + (Kp175Neutral.wrKp175_Ans (does st cl).2).length ≤ 96006 by simp only [List.length_cons, List.length_nil]; omega) (by decide)
      refine ⟨_, rfl, fun q => own q ∨ H3 q = none, some (.int cc), some (.int (((b : Nat) : Int) + 1 + (v.length : Nat))), some (.ref l'), ?_, ?_, ?_, ?_, fun z => z.elim hno hH3tl⟩
      · have e : ((b : Nat) : Int) + 1 + (v.length : Nat) = ((b + 1 + v.length : Nat) : Int) := by omega
        rw [← e]
        rfl
      · refine S4.keep (fun _ z => z) fun q o hq e => ?_
        have nq : q ≠ tl := fun z => by
          rw [z] at hq
          exact hq.elim hno hH3tl
        rw [upd_ne nq, upd_ne nq]
        exact e
      · refine out3.keep fun o e no ne => ⟨?_, fun z => z.elim no fun z => by rw [e] at z; cases z⟩
        rw [upd_ne ne, upd_ne ne]
        exact r4 _ _ e no
      · rw [upd_same, al]
        simp [ansV]
    · have hb : ns.length ≤ b := by
        have : ¬ ((b : Nat) : Int) < ((ns.map V.int).length : Nat) := fun z => c (decide_eq_true z)
        rw [List.length_map] at this
        omega
      refine ⟨_, rfl, k tl H' ?_⟩
      rw [hAt.end_ hb]
      exact htl'
end
end BXP
namespace BXP
open PySem L2 BX
theorem txt_mk {K : PySem.W.Frag} {h : Heap} {mg : Str → Option Value} (X : K.In h) (G : h.Ns mainGlobals mg)
    {C_Thing : Addr}
    {C_Box : Addr}
    {C_Boxes : Addr}
    {C_Rule : Addr}
    {f_Thing_init : Addr} {od_Thing_init an_Thing_init : Option Addr} {sl_Thing_init : Array (Option Value)} {oc_Thing_init kV_Thing_init dc_Thing_init pm_Thing_init cd_Thing_init ct_Thing_init : Value}
    {f_shared_lengths : Addr} {od_shared_lengths an_shared_lengths : Option Addr} {sl_shared_lengths : Array (Option Value)} {oc_shared_lengths kV_shared_lengths dc_shared_lengths pm_shared_lengths cd_shared_lengths ct_shared_lengths : Value}
    {f_fair_parts : Addr} {od_fair_parts an_fair_parts : Option Addr} {sl_fair_parts : Array (Option Value)} {oc_fair_parts kV_fair_parts dc_fair_parts pm_fair_parts cd_fair_parts ct_fair_parts : Value}
    {f_full_ones : Addr} {od_full_ones an_full_ones : Option Addr} {sl_full_ones : Array (Option Value)} {oc_full_ones kV_full_ones dc_full_ones pm_full_ones cd_full_ones ct_full_ones : Value}
    {f_changed_lengths : Addr} {od_changed_lengths an_changed_lengths : Option Addr} {sl_changed_lengths : Array (Option Value)} {oc_changed_lengths kV_changed_lengths dc_changed_lengths pm_changed_lengths cd_changed_lengths ct_changed_lengths : Value}
    {f_natural_size : Addr} {od_natural_size an_natural_size : Option Addr} {sl_natural_size : Array (Option Value)} {oc_natural_size kV_natural_size dc_natural_size pm_natural_size cd_natural_size ct_natural_size : Value}
    {f_natural_length : Addr} {od_natural_length an_natural_length : Option Addr} {sl_natural_length : Array (Option Value)} {oc_natural_length kV_natural_length dc_natural_length pm_natural_length cd_natural_length ct_natural_length : Value}
    {f_content_length : Addr} {od_content_length an_content_length : Option Addr} {sl_content_length : Array (Option Value)} {oc_content_length kV_content_length dc_content_length pm_content_length cd_content_length ct_content_length : Value}
    {f_all_gaps : Addr} {od_all_gaps an_all_gaps : Option Addr} {sl_all_gaps : Array (Option Value)} {oc_all_gaps kV_all_gaps dc_all_gaps pm_all_gaps cd_all_gaps ct_all_gaps : Value}
    {f_inner_places : Addr} {od_inner_places an_inner_places : Option Addr} {sl_inner_places : Array (Option Value)} {oc_inner_places kV_inner_places dc_inner_places pm_inner_places cd_inner_places ct_inner_places : Value}
    {f_inner_spans : Addr} {od_inner_spans an_inner_spans : Option Addr} {sl_inner_spans : Array (Option Value)} {oc_inner_spans kV_inner_spans dc_inner_spans pm_inner_spans cd_inner_spans ct_inner_spans : Value}
    {f_room_in : Addr} {od_room_in an_room_in : Option Addr} {sl_room_in : Array (Option Value)} {oc_room_in kV_room_in dc_room_in pm_room_in cd_room_in ct_room_in : Value}
    {f_thing_along : Addr} {od_thing_along an_thing_along : Option Addr} {sl_thing_along : Array (Option Value)} {oc_thing_along kV_thing_along dc_thing_along pm_thing_along cd_thing_along ct_thing_along : Value}
    {f_spans_along : Addr} {od_spans_along an_spans_along : Option Addr} {sl_spans_along : Array (Option Value)} {oc_spans_along kV_spans_along dc_spans_along pm_spans_along cd_spans_along ct_spans_along : Value}
    {f_rest_before : Addr} {od_rest_before an_rest_before : Option Addr} {sl_rest_before : Array (Option Value)} {oc_rest_before kV_rest_before dc_rest_before pm_rest_before cd_rest_before ct_rest_before : Value}
    {f_span_by_side : Addr} {od_span_by_side an_span_by_side : Option Addr} {sl_span_by_side : Array (Option Value)} {oc_span_by_side kV_span_by_side dc_span_by_side pm_span_by_side cd_span_by_side ct_span_by_side : Value}
    {f_Box_init : Addr} {od_Box_init an_Box_init : Option Addr} {sl_Box_init : Array (Option Value)} {oc_Box_init kV_Box_init dc_Box_init pm_Box_init cd_Box_init ct_Box_init : Value}
    {f_Box_holds_dot : Addr} {od_Box_holds_dot an_Box_holds_dot : Option Addr} {sl_Box_holds_dot : Array (Option Value)} {oc_Box_holds_dot kV_Box_holds_dot dc_Box_holds_dot pm_Box_holds_dot cd_Box_holds_dot ct_Box_holds_dot : Value}
    {f_Boxes_init : Addr} {od_Boxes_init an_Boxes_init : Option Addr} {sl_Boxes_init : Array (Option Value)} {oc_Boxes_init kV_Boxes_init dc_Boxes_init pm_Boxes_init cd_Boxes_init ct_Boxes_init : Value}
    {f_Boxes_bx_start : Addr} {od_Boxes_bx_start an_Boxes_bx_start : Option Addr} {sl_Boxes_bx_start : Array (Option Value)} {oc_Boxes_bx_start kV_Boxes_bx_start dc_Boxes_bx_start pm_Boxes_bx_start cd_Boxes_bx_start ct_Boxes_bx_start : Value}
    {f_Boxes_bx_add : Addr} {od_Boxes_bx_add an_Boxes_bx_add : Option Addr} {sl_Boxes_bx_add : Array (Option Value)} {oc_Boxes_bx_add kV_Boxes_bx_add dc_Boxes_bx_add pm_Boxes_bx_add cd_Boxes_bx_add ct_Boxes_bx_add : Value}
    {f_Boxes_bx_set : Addr} {od_Boxes_bx_set an_Boxes_bx_set : Option Addr} {sl_Boxes_bx_set : Array (Option Value)} {oc_Boxes_bx_set kV_Boxes_bx_set dc_Boxes_bx_set pm_Boxes_bx_set cd_Boxes_bx_set ct_Boxes_bx_set : Value}
    {f_Boxes_bx_drop : Addr} {od_Boxes_bx_drop an_Boxes_bx_drop : Option Addr} {sl_Boxes_bx_drop : Array (Option Value)} {oc_Boxes_bx_drop kV_Boxes_bx_drop dc_Boxes_bx_drop pm_Boxes_bx_drop cd_Boxes_bx_drop ct_Boxes_bx_drop : Value}
    {f_Boxes_bx_lay : Addr} {od_Boxes_bx_lay an_Boxes_bx_lay : Option Addr} {sl_Boxes_bx_lay : Array (Option Value)} {oc_Boxes_bx_lay kV_Boxes_bx_lay dc_Boxes_bx_lay pm_Boxes_bx_lay cd_Boxes_bx_lay ct_Boxes_bx_lay : Value}
    {f_Boxes_bx_place : Addr} {od_Boxes_bx_place an_Boxes_bx_place : Option Addr} {sl_Boxes_bx_place : Array (Option Value)} {oc_Boxes_bx_place kV_Boxes_bx_place dc_Boxes_bx_place pm_Boxes_bx_place cd_Boxes_bx_place ct_Boxes_bx_place : Value}
    {f_Boxes_bx_at : Addr} {od_Boxes_bx_at an_Boxes_bx_at : Option Addr} {sl_Boxes_bx_at : Array (Option Value)} {oc_Boxes_bx_at kV_Boxes_bx_at dc_Boxes_bx_at pm_Boxes_bx_at cd_Boxes_bx_at ct_Boxes_bx_at : Value}
    {f_Boxes_place_out : Addr} {od_Boxes_place_out an_Boxes_place_out : Option Addr} {sl_Boxes_place_out : Array (Option Value)} {oc_Boxes_place_out kV_Boxes_place_out dc_Boxes_place_out pm_Boxes_place_out cd_Boxes_place_out ct_Boxes_place_out : Value}
    {f_Boxes_has_space_in : Addr} {od_Boxes_has_space_in an_Boxes_has_space_in : Option Addr} {sl_Boxes_has_space_in : Array (Option Value)} {oc_Boxes_has_space_in kV_Boxes_has_space_in dc_Boxes_has_space_in pm_Boxes_has_space_in cd_Boxes_has_space_in ct_Boxes_has_space_in : Value}
    {f_Boxes_least_free_number : Addr} {od_Boxes_least_free_number an_Boxes_least_free_number : Option Addr} {sl_Boxes_least_free_number : Array (Option Value)} {oc_Boxes_least_free_number kV_Boxes_least_free_number dc_Boxes_least_free_number pm_Boxes_least_free_number cd_Boxes_least_free_number ct_Boxes_least_free_number : Value}
    {f_Boxes_last_at : Addr} {od_Boxes_last_at an_Boxes_last_at : Option Addr} {sl_Boxes_last_at : Array (Option Value)} {oc_Boxes_last_at kV_Boxes_last_at dc_Boxes_last_at pm_Boxes_last_at cd_Boxes_last_at ct_Boxes_last_at : Value}
    {f_Boxes_places_in_window : Addr} {od_Boxes_places_in_window an_Boxes_places_in_window : Option Addr} {sl_Boxes_places_in_window : Array (Option Value)} {oc_Boxes_places_in_window kV_Boxes_places_in_window dc_Boxes_places_in_window pm_Boxes_places_in_window cd_Boxes_places_in_window ct_Boxes_places_in_window : Value}
    {f_Boxes_natural_sizes : Addr} {od_Boxes_natural_sizes an_Boxes_natural_sizes : Option Addr} {sl_Boxes_natural_sizes : Array (Option Value)} {oc_Boxes_natural_sizes kV_Boxes_natural_sizes dc_Boxes_natural_sizes pm_Boxes_natural_sizes cd_Boxes_natural_sizes ct_Boxes_natural_sizes : Value}
    {f_Boxes_outer_before_inner : Addr} {od_Boxes_outer_before_inner an_Boxes_outer_before_inner : Option Addr} {sl_Boxes_outer_before_inner : Array (Option Value)} {oc_Boxes_outer_before_inner kV_Boxes_outer_before_inner dc_Boxes_outer_before_inner pm_Boxes_outer_before_inner cd_Boxes_outer_before_inner ct_Boxes_outer_before_inner : Value}
    {f_Rule_init : Addr} {od_Rule_init an_Rule_init : Option Addr} {sl_Rule_init : Array (Option Value)} {oc_Rule_init kV_Rule_init dc_Rule_init pm_Rule_init cd_Rule_init ct_Rule_init : Value}
    {f_Rule_is_as_told : Addr} {od_Rule_is_as_told an_Rule_is_as_told : Option Addr} {sl_Rule_is_as_told : Array (Option Value)} {oc_Rule_is_as_told kV_Rule_is_as_told dc_Rule_is_as_told pm_Rule_is_as_told cd_Rule_is_as_told ct_Rule_is_as_told : Value}
    {f_Rule_sizes_are_as_told : Addr} {od_Rule_sizes_are_as_told an_Rule_sizes_are_as_told : Option Addr} {sl_Rule_sizes_are_as_told : Array (Option Value)} {oc_Rule_sizes_are_as_told kV_Rule_sizes_are_as_told dc_Rule_sizes_are_as_told pm_Rule_sizes_are_as_told cd_Rule_sizes_are_as_told ct_Rule_sizes_are_as_told : Value}
    {f_Rule_choices_are_as_told : Addr} {od_Rule_choices_are_as_told an_Rule_choices_are_as_told : Option Addr} {sl_Rule_choices_are_as_told : Array (Option Value)} {oc_Rule_choices_are_as_told kV_Rule_choices_are_as_told dc_Rule_choices_are_as_told pm_Rule_choices_are_as_told cd_Rule_choices_are_as_told ct_Rule_choices_are_as_told : Value}
    {f_Rule_is_leaf : Addr} {od_Rule_is_leaf an_Rule_is_leaf : Option Addr} {sl_Rule_is_leaf : Array (Option Value)} {oc_Rule_is_leaf kV_Rule_is_leaf dc_Rule_is_leaf pm_Rule_is_leaf cd_Rule_is_leaf ct_Rule_is_leaf : Value}
    {f_Rule_is_along : Addr} {od_Rule_is_along an_Rule_is_along : Option Addr} {sl_Rule_is_along : Array (Option Value)} {oc_Rule_is_along kV_Rule_is_along dc_Rule_is_along pm_Rule_is_along cd_Rule_is_along ct_Rule_is_along : Value}
    {f_answers : Addr} {od_answers an_answers : Option Addr} {sl_answers : Array (Option Value)} {oc_answers kV_answers dc_answers pm_answers cd_answers ct_answers : Value}
    {f_answer_to : Addr} {od_answer_to an_answer_to : Option Addr} {sl_answer_to : Array (Option Value)} {oc_answer_to kV_answer_to dc_answer_to pm_answer_to cd_answer_to ct_answer_to : Value}
    {f_number_for : Addr} {od_number_for an_number_for : Option Addr} {sl_number_for : Array (Option Value)} {oc_number_for kV_number_for dc_number_for pm_number_for cd_number_for ct_number_for : Value}
    {t_ACROSS : Tok}
    {t_DOWN : Tok}
    {t_SIDE_FILLS : Tok}
    {t_SIDE_BEGINNING : Tok}
    {t_SIDE_MIDDLE : Tok}
    {t_REST_BEHIND : Tok}
    {t_REST_HALF : Tok}
    {t_REST_BEFORE : Tok}
    {t_NO_SUCH_BOX : Tok}
    {t_NOT_LAID_OUT : Tok}
    {t_NOT_ALLOWED : Tok}
    {t_NOT_AS_TOLD : Tok}
    {t_NO_MORE_FIT : Tok}
    {t_MOST_BOXES : Tok}
    {t_MOST_IN_ONE : Tok}
    {t_MOST_DEEP : Tok}
    {t_MOST_WINDOW : Tok}
    {t_LEAF : Tok}
    {t_GREATEST_SIDE : Tok}
    {t_GREATEST_REST : Tok}
    {t_BX_START : Tok}
    {t_BX_ADD : Tok}
    {t_BX_SET : Tok}
    {t_BX_DROP : Tok}
    {t_BX_LAY : Tok}
    {t_BX_PLACE : Tok}
    {a_HOW_MANY_NUMBERS : Addr} {od_HOW_MANY_NUMBERS : Option Addr} {sn_HOW_MANY_NUMBERS : Nat} {sl_HOW_MANY_NUMBERS : Array (Option Value)} {t_HOW_MANY_NUMBERS_0 t_HOW_MANY_NUMBERS_1 t_HOW_MANY_NUMBERS_2 t_HOW_MANY_NUMBERS_3 t_HOW_MANY_NUMBERS_4 t_HOW_MANY_NUMBERS_5 t_HOW_MANY_NUMBERS_6 : Tok}
    {t_FORM_NUMBER : Tok}
    {t_FORM_PLACE : Tok}
    (hg_Thing : PySem.W.nsIn K mainGlobals "Thing" = some (some (.ref C_Thing)))
    (hpg_Thing : PySem.W.plainGet K C_Thing Str.empty = true)
    (hhd_Thing : PySem.W.hasDictIn K C_Thing = true)
    (hpo_Thing : PySem.W.plainOver K C_Thing = true)
    (hsa_Thing : PySem.W.findIn K (.ref C_Thing) "__setattr__" = some (some (.builtin "object.__setattr__")))
    (hmk_Thing : PySem.W.makesIn K C_Thing = true)
    (hkc_Thing : PySem.W.keepIn K (.ref C_Thing) = true)
    (hn_Thing_least : PySem.W.findIn K (.ref C_Thing) "least" = some none)
    (hn_Thing_wish : PySem.W.findIn K (.ref C_Thing) "wish" = some none)
    (hn_Thing_most : PySem.W.findIn K (.ref C_Thing) "most" = some none)
    (hn_Thing_grow : PySem.W.findIn K (.ref C_Thing) "grow" = some none)
    (hn_Thing_give : PySem.W.findIn K (.ref C_Thing) "give" = some none)
    (hg_Box : PySem.W.nsIn K mainGlobals "Box" = some (some (.ref C_Box)))
    (hpg_Box : PySem.W.plainGet K C_Box Str.empty = true)
    (hhd_Box : PySem.W.hasDictIn K C_Box = true)
    (hpo_Box : PySem.W.plainOver K C_Box = true)
    (hsa_Box : PySem.W.findIn K (.ref C_Box) "__setattr__" = some (some (.builtin "object.__setattr__")))
    (hmk_Box : PySem.W.makesIn K C_Box = true)
    (hkc_Box : PySem.W.keepIn K (.ref C_Box) = true)
    (hn_Box_rule : PySem.W.findIn K (.ref C_Box) "rule" = some none)
    (hn_Box_lies_in : PySem.W.findIn K (.ref C_Box) "lies_in" = some none)
    (hn_Box_depth : PySem.W.findIn K (.ref C_Box) "depth" = some none)
    (hn_Box_inner : PySem.W.findIn K (.ref C_Box) "inner" = some none)
    (hn_Box_place : PySem.W.findIn K (.ref C_Box) "place" = some none)
    (hg_Boxes : PySem.W.nsIn K mainGlobals "Boxes" = some (some (.ref C_Boxes)))
    (hpg_Boxes : PySem.W.plainGet K C_Boxes Str.empty = true)
    (hhd_Boxes : PySem.W.hasDictIn K C_Boxes = true)
    (hpo_Boxes : PySem.W.plainOver K C_Boxes = true)
    (hsa_Boxes : PySem.W.findIn K (.ref C_Boxes) "__setattr__" = some (some (.builtin "object.__setattr__")))
    (hmk_Boxes : PySem.W.makesIn K C_Boxes = true)
    (hkc_Boxes : PySem.W.keepIn K (.ref C_Boxes) = true)
    (hn_Boxes_by_number : PySem.W.findIn K (.ref C_Boxes) "by_number" = some none)
    (hg_Rule : PySem.W.nsIn K mainGlobals "Rule" = some (some (.ref C_Rule)))
    (hpg_Rule : PySem.W.plainGet K C_Rule Str.empty = true)
    (hhd_Rule : PySem.W.hasDictIn K C_Rule = true)
    (hpo_Rule : PySem.W.plainOver K C_Rule = true)
    (hsa_Rule : PySem.W.findIn K (.ref C_Rule) "__setattr__" = some (some (.builtin "object.__setattr__")))
    (hmk_Rule : PySem.W.makesIn K C_Rule = true)
    (hkc_Rule : PySem.W.keepIn K (.ref C_Rule) = true)
    (hn_Rule_least : PySem.W.findIn K (.ref C_Rule) "least" = some none)
    (hn_Rule_wish : PySem.W.findIn K (.ref C_Rule) "wish" = some none)
    (hn_Rule_most : PySem.W.findIn K (.ref C_Rule) "most" = some none)
    (hn_Rule_kind : PySem.W.findIn K (.ref C_Rule) "kind" = some none)
    (hn_Rule_pad : PySem.W.findIn K (.ref C_Rule) "pad" = some none)
    (hn_Rule_gap : PySem.W.findIn K (.ref C_Rule) "gap" = some none)
    (hn_Rule_grow : PySem.W.findIn K (.ref C_Rule) "grow" = some none)
    (hn_Rule_give : PySem.W.findIn K (.ref C_Rule) "give" = some none)
    (hn_Rule_side : PySem.W.findIn K (.ref C_Rule) "side" = some none)
    (hn_Rule_rest : PySem.W.findIn K (.ref C_Rule) "rest" = some none)
    (hn_Rule_none : PySem.W.findIn K (.ref C_Rule) "none" = some none)
    (ha_Thing_init : PySem.W.findIn K (.ref C_Thing) "__init__" = some (some (.ref f_Thing_init)))
    (hi_Thing_init : PySem.W.isFn K (.ref f_Thing_init) = true)
    (hl_Thing_init : K.lookup f_Thing_init = some ⟨oc_Thing_init, od_Thing_init, .func (PySem.W.fnOf "__init__" "Thing.__init__" (defArgs s_Thing_init) (defBody s_Thing_init) (defScope s_Thing_init) .none kV_Thing_init dc_Thing_init pm_Thing_init an_Thing_init cd_Thing_init ct_Thing_init), sl_Thing_init⟩)
    (hc_Thing_init : PySem.W.codeIn K cd_Thing_init "Thing.__init__" = true)
    (hk_Thing_init : PySem.W.keepIn K (.ref f_Thing_init) = true)
    (ha_shared_lengths : PySem.W.nsIn K mainGlobals "shared_lengths" = some (some (.ref f_shared_lengths)))
    (hl_shared_lengths : K.lookup f_shared_lengths = some ⟨oc_shared_lengths, od_shared_lengths, .func (PySem.W.fnOf "shared_lengths" "shared_lengths" (defArgs s_shared_lengths) (defBody s_shared_lengths) (defScope s_shared_lengths) .none kV_shared_lengths dc_shared_lengths pm_shared_lengths an_shared_lengths cd_shared_lengths ct_shared_lengths), sl_shared_lengths⟩)
    (hc_shared_lengths : PySem.W.codeIn K cd_shared_lengths "shared_lengths" = true)
    (hk_shared_lengths : PySem.W.keepIn K (.ref f_shared_lengths) = true)
    (ha_fair_parts : PySem.W.nsIn K mainGlobals "fair_parts" = some (some (.ref f_fair_parts)))
    (hl_fair_parts : K.lookup f_fair_parts = some ⟨oc_fair_parts, od_fair_parts, .func (PySem.W.fnOf "fair_parts" "fair_parts" (defArgs s_fair_parts) (defBody s_fair_parts) (defScope s_fair_parts) .none kV_fair_parts dc_fair_parts pm_fair_parts an_fair_parts cd_fair_parts ct_fair_parts), sl_fair_parts⟩)
    (hc_fair_parts : PySem.W.codeIn K cd_fair_parts "fair_parts" = true)
    (hk_fair_parts : PySem.W.keepIn K (.ref f_fair_parts) = true)
    (ha_full_ones : PySem.W.nsIn K mainGlobals "full_ones" = some (some (.ref f_full_ones)))
    (hl_full_ones : K.lookup f_full_ones = some ⟨oc_full_ones, od_full_ones, .func (PySem.W.fnOf "full_ones" "full_ones" (defArgs s_full_ones) (defBody s_full_ones) (defScope s_full_ones) .none kV_full_ones dc_full_ones pm_full_ones an_full_ones cd_full_ones ct_full_ones), sl_full_ones⟩)
    (hc_full_ones : PySem.W.codeIn K cd_full_ones "full_ones" = true)
    (hk_full_ones : PySem.W.keepIn K (.ref f_full_ones) = true)
    (ha_changed_lengths : PySem.W.nsIn K mainGlobals "changed_lengths" = some (some (.ref f_changed_lengths)))
    (hl_changed_lengths : K.lookup f_changed_lengths = some ⟨oc_changed_lengths, od_changed_lengths, .func (PySem.W.fnOf "changed_lengths" "changed_lengths" (defArgs s_changed_lengths) (defBody s_changed_lengths) (defScope s_changed_lengths) .none kV_changed_lengths dc_changed_lengths pm_changed_lengths an_changed_lengths cd_changed_lengths ct_changed_lengths), sl_changed_lengths⟩)
    (hc_changed_lengths : PySem.W.codeIn K cd_changed_lengths "changed_lengths" = true)
    (hk_changed_lengths : PySem.W.keepIn K (.ref f_changed_lengths) = true)
    (ha_natural_size : PySem.W.nsIn K mainGlobals "natural_size" = some (some (.ref f_natural_size)))
    (hl_natural_size : K.lookup f_natural_size = some ⟨oc_natural_size, od_natural_size, .func (PySem.W.fnOf "natural_size" "natural_size" (defArgs s_natural_size) (defBody s_natural_size) (defScope s_natural_size) .none kV_natural_size dc_natural_size pm_natural_size an_natural_size cd_natural_size ct_natural_size), sl_natural_size⟩)
    (hc_natural_size : PySem.W.codeIn K cd_natural_size "natural_size" = true)
    (hk_natural_size : PySem.W.keepIn K (.ref f_natural_size) = true)
    (ha_natural_length : PySem.W.nsIn K mainGlobals "natural_length" = some (some (.ref f_natural_length)))
    (hl_natural_length : K.lookup f_natural_length = some ⟨oc_natural_length, od_natural_length, .func (PySem.W.fnOf "natural_length" "natural_length" (defArgs s_natural_length) (defBody s_natural_length) (defScope s_natural_length) .none kV_natural_length dc_natural_length pm_natural_length an_natural_length cd_natural_length ct_natural_length), sl_natural_length⟩)
    (hc_natural_length : PySem.W.codeIn K cd_natural_length "natural_length" = true)
    (hk_natural_length : PySem.W.keepIn K (.ref f_natural_length) = true)
    (ha_content_length : PySem.W.nsIn K mainGlobals "content_length" = some (some (.ref f_content_length)))
    (hl_content_length : K.lookup f_content_length = some ⟨oc_content_length, od_content_length, .func (PySem.W.fnOf "content_length" "content_length" (defArgs s_content_length) (defBody s_content_length) (defScope s_content_length) .none kV_content_length dc_content_length pm_content_length an_content_length cd_content_length ct_content_length), sl_content_length⟩)
    (hc_content_length : PySem.W.codeIn K cd_content_length "content_length" = true)
    (hk_content_length : PySem.W.keepIn K (.ref f_content_length) = true)
    (ha_all_gaps : PySem.W.nsIn K mainGlobals "all_gaps" = some (some (.ref f_all_gaps)))
    (hl_all_gaps : K.lookup f_all_gaps = some ⟨oc_all_gaps, od_all_gaps, .func (PySem.W.fnOf "all_gaps" "all_gaps" (defArgs s_all_gaps) (defBody s_all_gaps) (defScope s_all_gaps) .none kV_all_gaps dc_all_gaps pm_all_gaps an_all_gaps cd_all_gaps ct_all_gaps), sl_all_gaps⟩)
    (hc_all_gaps : PySem.W.codeIn K cd_all_gaps "all_gaps" = true)
    (hk_all_gaps : PySem.W.keepIn K (.ref f_all_gaps) = true)
    (ha_inner_places : PySem.W.nsIn K mainGlobals "inner_places" = some (some (.ref f_inner_places)))
    (hl_inner_places : K.lookup f_inner_places = some ⟨oc_inner_places, od_inner_places, .func (PySem.W.fnOf "inner_places" "inner_places" (defArgs s_inner_places) (defBody s_inner_places) (defScope s_inner_places) .none kV_inner_places dc_inner_places pm_inner_places an_inner_places cd_inner_places ct_inner_places), sl_inner_places⟩)
    (hc_inner_places : PySem.W.codeIn K cd_inner_places "inner_places" = true)
    (hk_inner_places : PySem.W.keepIn K (.ref f_inner_places) = true)
    (ha_inner_spans : PySem.W.nsIn K mainGlobals "inner_spans" = some (some (.ref f_inner_spans)))
    (hl_inner_spans : K.lookup f_inner_spans = some ⟨oc_inner_spans, od_inner_spans, .func (PySem.W.fnOf "inner_spans" "inner_spans" (defArgs s_inner_spans) (defBody s_inner_spans) (defScope s_inner_spans) .none kV_inner_spans dc_inner_spans pm_inner_spans an_inner_spans cd_inner_spans ct_inner_spans), sl_inner_spans⟩)
    (hc_inner_spans : PySem.W.codeIn K cd_inner_spans "inner_spans" = true)
    (hk_inner_spans : PySem.W.keepIn K (.ref f_inner_spans) = true)
    (ha_room_in : PySem.W.nsIn K mainGlobals "room_in" = some (some (.ref f_room_in)))
    (hl_room_in : K.lookup f_room_in = some ⟨oc_room_in, od_room_in, .func (PySem.W.fnOf "room_in" "room_in" (defArgs s_room_in) (defBody s_room_in) (defScope s_room_in) .none kV_room_in dc_room_in pm_room_in an_room_in cd_room_in ct_room_in), sl_room_in⟩)
    (hc_room_in : PySem.W.codeIn K cd_room_in "room_in" = true)
    (hk_room_in : PySem.W.keepIn K (.ref f_room_in) = true)
    (ha_thing_along : PySem.W.nsIn K mainGlobals "thing_along" = some (some (.ref f_thing_along)))
    (hl_thing_along : K.lookup f_thing_along = some ⟨oc_thing_along, od_thing_along, .func (PySem.W.fnOf "thing_along" "thing_along" (defArgs s_thing_along) (defBody s_thing_along) (defScope s_thing_along) .none kV_thing_along dc_thing_along pm_thing_along an_thing_along cd_thing_along ct_thing_along), sl_thing_along⟩)
    (hc_thing_along : PySem.W.codeIn K cd_thing_along "thing_along" = true)
    (hk_thing_along : PySem.W.keepIn K (.ref f_thing_along) = true)
    (ha_spans_along : PySem.W.nsIn K mainGlobals "spans_along" = some (some (.ref f_spans_along)))
    (hl_spans_along : K.lookup f_spans_along = some ⟨oc_spans_along, od_spans_along, .func (PySem.W.fnOf "spans_along" "spans_along" (defArgs s_spans_along) (defBody s_spans_along) (defScope s_spans_along) .none kV_spans_along dc_spans_along pm_spans_along an_spans_along cd_spans_along ct_spans_along), sl_spans_along⟩)
    (hc_spans_along : PySem.W.codeIn K cd_spans_along "spans_along" = true)
    (hk_spans_along : PySem.W.keepIn K (.ref f_spans_along) = true)
    (ha_rest_before : PySem.W.nsIn K mainGlobals "rest_before" = some (some (.ref f_rest_before)))
    (hl_rest_before : K.lookup f_rest_before = some ⟨oc_rest_before, od_rest_before, .func (PySem.W.fnOf "rest_before" "rest_before" (defArgs s_rest_before) (defBody s_rest_before) (defScope s_rest_before) .none kV_rest_before dc_rest_before pm_rest_before an_rest_before cd_rest_before ct_rest_before), sl_rest_before⟩)
    (hc_rest_before : PySem.W.codeIn K cd_rest_before "rest_before" = true)
    (hk_rest_before : PySem.W.keepIn K (.ref f_rest_before) = true)
    (ha_span_by_side : PySem.W.nsIn K mainGlobals "span_by_side" = some (some (.ref f_span_by_side)))
    (hl_span_by_side : K.lookup f_span_by_side = some ⟨oc_span_by_side, od_span_by_side, .func (PySem.W.fnOf "span_by_side" "span_by_side" (defArgs s_span_by_side) (defBody s_span_by_side) (defScope s_span_by_side) .none kV_span_by_side dc_span_by_side pm_span_by_side an_span_by_side cd_span_by_side ct_span_by_side), sl_span_by_side⟩)
    (hc_span_by_side : PySem.W.codeIn K cd_span_by_side "span_by_side" = true)
    (hk_span_by_side : PySem.W.keepIn K (.ref f_span_by_side) = true)
    (ha_Box_init : PySem.W.findIn K (.ref C_Box) "__init__" = some (some (.ref f_Box_init)))
    (hi_Box_init : PySem.W.isFn K (.ref f_Box_init) = true)
    (hl_Box_init : K.lookup f_Box_init = some ⟨oc_Box_init, od_Box_init, .func (PySem.W.fnOf "__init__" "Box.__init__" (defArgs s_Box_init) (defBody s_Box_init) (defScope s_Box_init) .none kV_Box_init dc_Box_init pm_Box_init an_Box_init cd_Box_init ct_Box_init), sl_Box_init⟩)
    (hc_Box_init : PySem.W.codeIn K cd_Box_init "Box.__init__" = true)
    (hk_Box_init : PySem.W.keepIn K (.ref f_Box_init) = true)
    (ha_Box_holds_dot : PySem.W.findIn K (.ref C_Box) "holds_dot" = some (some (.ref f_Box_holds_dot)))
    (hi_Box_holds_dot : PySem.W.isFn K (.ref f_Box_holds_dot) = true)
    (hl_Box_holds_dot : K.lookup f_Box_holds_dot = some ⟨oc_Box_holds_dot, od_Box_holds_dot, .func (PySem.W.fnOf "holds_dot" "Box.holds_dot" (defArgs s_Box_holds_dot) (defBody s_Box_holds_dot) (defScope s_Box_holds_dot) .none kV_Box_holds_dot dc_Box_holds_dot pm_Box_holds_dot an_Box_holds_dot cd_Box_holds_dot ct_Box_holds_dot), sl_Box_holds_dot⟩)
    (hc_Box_holds_dot : PySem.W.codeIn K cd_Box_holds_dot "Box.holds_dot" = true)
    (hk_Box_holds_dot : PySem.W.keepIn K (.ref f_Box_holds_dot) = true)
    (ha_Boxes_init : PySem.W.findIn K (.ref C_Boxes) "__init__" = some (some (.ref f_Boxes_init)))
    (hi_Boxes_init : PySem.W.isFn K (.ref f_Boxes_init) = true)
    (hl_Boxes_init : K.lookup f_Boxes_init = some ⟨oc_Boxes_init, od_Boxes_init, .func (PySem.W.fnOf "__init__" "Boxes.__init__" (defArgs s_Boxes_init) (defBody s_Boxes_init) (defScope s_Boxes_init) .none kV_Boxes_init dc_Boxes_init pm_Boxes_init an_Boxes_init cd_Boxes_init ct_Boxes_init), sl_Boxes_init⟩)
    (hc_Boxes_init : PySem.W.codeIn K cd_Boxes_init "Boxes.__init__" = true)
    (hk_Boxes_init : PySem.W.keepIn K (.ref f_Boxes_init) = true)
    (ha_Boxes_bx_start : PySem.W.findIn K (.ref C_Boxes) "bx_start" = some (some (.ref f_Boxes_bx_start)))
    (hi_Boxes_bx_start : PySem.W.isFn K (.ref f_Boxes_bx_start) = true)
    (hl_Boxes_bx_start : K.lookup f_Boxes_bx_start = some ⟨oc_Boxes_bx_start, od_Boxes_bx_start, .func (PySem.W.fnOf "bx_start" "Boxes.bx_start" (defArgs s_Boxes_bx_start) (defBody s_Boxes_bx_start) (defScope s_Boxes_bx_start) .none kV_Boxes_bx_start dc_Boxes_bx_start pm_Boxes_bx_start an_Boxes_bx_start cd_Boxes_bx_start ct_Boxes_bx_start), sl_Boxes_bx_start⟩)
    (hc_Boxes_bx_start : PySem.W.codeIn K cd_Boxes_bx_start "Boxes.bx_start" = true)
    (hk_Boxes_bx_start : PySem.W.keepIn K (.ref f_Boxes_bx_start) = true)
    (ha_Boxes_bx_add : PySem.W.findIn K (.ref C_Boxes) "bx_add" = some (some (.ref f_Boxes_bx_add)))
    (hi_Boxes_bx_add : PySem.W.isFn K (.ref f_Boxes_bx_add) = true)
    (hl_Boxes_bx_add : K.lookup f_Boxes_bx_add = some ⟨oc_Boxes_bx_add, od_Boxes_bx_add, .func (PySem.W.fnOf "bx_add" "Boxes.bx_add" (defArgs s_Boxes_bx_add) (defBody s_Boxes_bx_add) (defScope s_Boxes_bx_add) .none kV_Boxes_bx_add dc_Boxes_bx_add pm_Boxes_bx_add an_Boxes_bx_add cd_Boxes_bx_add ct_Boxes_bx_add), sl_Boxes_bx_add⟩)
    (hc_Boxes_bx_add : PySem.W.codeIn K cd_Boxes_bx_add "Boxes.bx_add" = true)
    (hk_Boxes_bx_add : PySem.W.keepIn K (.ref f_Boxes_bx_add) = true)
    (ha_Boxes_bx_set : PySem.W.findIn K (.ref C_Boxes) "bx_set" = some (some (.ref f_Boxes_bx_set)))
    (hi_Boxes_bx_set : PySem.W.isFn K (.ref f_Boxes_bx_set) = true)
    (hl_Boxes_bx_set : K.lookup f_Boxes_bx_set = some ⟨oc_Boxes_bx_set, od_Boxes_bx_set, .func (PySem.W.fnOf "bx_set" "Boxes.bx_set" (defArgs s_Boxes_bx_set) (defBody s_Boxes_bx_set) (defScope s_Boxes_bx_set) .none kV_Boxes_bx_set dc_Boxes_bx_set pm_Boxes_bx_set an_Boxes_bx_set cd_Boxes_bx_set ct_Boxes_bx_set), sl_Boxes_bx_set⟩)
    (hc_Boxes_bx_set : PySem.W.codeIn K cd_Boxes_bx_set "Boxes.bx_set" = true)
    (hk_Boxes_bx_set : PySem.W.keepIn K (.ref f_Boxes_bx_set) = true)
    (ha_Boxes_bx_drop : PySem.W.findIn K (.ref C_Boxes) "bx_drop" = some (some (.ref f_Boxes_bx_drop)))
    (hi_Boxes_bx_drop : PySem.W.isFn K (.ref f_Boxes_bx_drop) = true)
    (hl_Boxes_bx_drop : K.lookup f_Boxes_bx_drop = some ⟨oc_Boxes_bx_drop, od_Boxes_bx_drop, .func (PySem.W.fnOf "bx_drop" "Boxes.bx_drop" (defArgs s_Boxes_bx_drop) (defBody s_Boxes_bx_drop) (defScope s_Boxes_bx_drop) .none kV_Boxes_bx_drop dc_Boxes_bx_drop pm_Boxes_bx_drop an_Boxes_bx_drop cd_Boxes_bx_drop ct_Boxes_bx_drop), sl_Boxes_bx_drop⟩)
    (hc_Boxes_bx_drop : PySem.W.codeIn K cd_Boxes_bx_drop "Boxes.bx_drop" = true)
    (hk_Boxes_bx_drop : PySem.W.keepIn K (.ref f_Boxes_bx_drop) = true)
    (ha_Boxes_bx_lay : PySem.W.findIn K (.ref C_Boxes) "bx_lay" = some (some (.ref f_Boxes_bx_lay)))
    (hi_Boxes_bx_lay : PySem.W.isFn K (.ref f_Boxes_bx_lay) = true)
    (hl_Boxes_bx_lay : K.lookup f_Boxes_bx_lay = some ⟨oc_Boxes_bx_lay, od_Boxes_bx_lay, .func (PySem.W.fnOf "bx_lay" "Boxes.bx_lay" (defArgs s_Boxes_bx_lay) (defBody s_Boxes_bx_lay) (defScope s_Boxes_bx_lay) .none kV_Boxes_bx_lay dc_Boxes_bx_lay pm_Boxes_bx_lay an_Boxes_bx_lay cd_Boxes_bx_lay ct_Boxes_bx_lay), sl_Boxes_bx_lay⟩)
    (hc_Boxes_bx_lay : PySem.W.codeIn K cd_Boxes_bx_lay "Boxes.bx_lay" = true)
    (hk_Boxes_bx_lay : PySem.W.keepIn K (.ref f_Boxes_bx_lay) = true)
    (ha_Boxes_bx_place : PySem.W.findIn K (.ref C_Boxes) "bx_place" = some (some (.ref f_Boxes_bx_place)))
    (hi_Boxes_bx_place : PySem.W.isFn K (.ref f_Boxes_bx_place) = true)
    (hl_Boxes_bx_place : K.lookup f_Boxes_bx_place = some ⟨oc_Boxes_bx_place, od_Boxes_bx_place, .func (PySem.W.fnOf "bx_place" "Boxes.bx_place" (defArgs s_Boxes_bx_place) (defBody s_Boxes_bx_place) (defScope s_Boxes_bx_place) .none kV_Boxes_bx_place dc_Boxes_bx_place pm_Boxes_bx_place an_Boxes_bx_place cd_Boxes_bx_place ct_Boxes_bx_place), sl_Boxes_bx_place⟩)
    (hc_Boxes_bx_place : PySem.W.codeIn K cd_Boxes_bx_place "Boxes.bx_place" = true)
    (hk_Boxes_bx_place : PySem.W.keepIn K (.ref f_Boxes_bx_place) = true)
    (ha_Boxes_bx_at : PySem.W.findIn K (.ref C_Boxes) "bx_at" = some (some (.ref f_Boxes_bx_at)))
    (hi_Boxes_bx_at : PySem.W.isFn K (.ref f_Boxes_bx_at) = true)
    (hl_Boxes_bx_at : K.lookup f_Boxes_bx_at = some ⟨oc_Boxes_bx_at, od_Boxes_bx_at, .func (PySem.W.fnOf "bx_at" "Boxes.bx_at" (defArgs s_Boxes_bx_at) (defBody s_Boxes_bx_at) (defScope s_Boxes_bx_at) .none kV_Boxes_bx_at dc_Boxes_bx_at pm_Boxes_bx_at an_Boxes_bx_at cd_Boxes_bx_at ct_Boxes_bx_at), sl_Boxes_bx_at⟩)
    (hc_Boxes_bx_at : PySem.W.codeIn K cd_Boxes_bx_at "Boxes.bx_at" = true)
    (hk_Boxes_bx_at : PySem.W.keepIn K (.ref f_Boxes_bx_at) = true)
    (ha_Boxes_place_out : PySem.W.findIn K (.ref C_Boxes) "place_out" = some (some (.ref f_Boxes_place_out)))
    (hi_Boxes_place_out : PySem.W.isFn K (.ref f_Boxes_place_out) = true)
    (hl_Boxes_place_out : K.lookup f_Boxes_place_out = some ⟨oc_Boxes_place_out, od_Boxes_place_out, .func (PySem.W.fnOf "place_out" "Boxes.place_out" (defArgs s_Boxes_place_out) (defBody s_Boxes_place_out) (defScope s_Boxes_place_out) .none kV_Boxes_place_out dc_Boxes_place_out pm_Boxes_place_out an_Boxes_place_out cd_Boxes_place_out ct_Boxes_place_out), sl_Boxes_place_out⟩)
    (hc_Boxes_place_out : PySem.W.codeIn K cd_Boxes_place_out "Boxes.place_out" = true)
    (hk_Boxes_place_out : PySem.W.keepIn K (.ref f_Boxes_place_out) = true)
    (ha_Boxes_has_space_in : PySem.W.findIn K (.ref C_Boxes) "has_space_in" = some (some (.ref f_Boxes_has_space_in)))
    (hi_Boxes_has_space_in : PySem.W.isFn K (.ref f_Boxes_has_space_in) = true)
    (hl_Boxes_has_space_in : K.lookup f_Boxes_has_space_in = some ⟨oc_Boxes_has_space_in, od_Boxes_has_space_in, .func (PySem.W.fnOf "has_space_in" "Boxes.has_space_in" (defArgs s_Boxes_has_space_in) (defBody s_Boxes_has_space_in) (defScope s_Boxes_has_space_in) .none kV_Boxes_has_space_in dc_Boxes_has_space_in pm_Boxes_has_space_in an_Boxes_has_space_in cd_Boxes_has_space_in ct_Boxes_has_space_in), sl_Boxes_has_space_in⟩)
    (hc_Boxes_has_space_in : PySem.W.codeIn K cd_Boxes_has_space_in "Boxes.has_space_in" = true)
    (hk_Boxes_has_space_in : PySem.W.keepIn K (.ref f_Boxes_has_space_in) = true)
    (ha_Boxes_least_free_number : PySem.W.findIn K (.ref C_Boxes) "least_free_number" = some (some (.ref f_Boxes_least_free_number)))
    (hi_Boxes_least_free_number : PySem.W.isFn K (.ref f_Boxes_least_free_number) = true)
    (hl_Boxes_least_free_number : K.lookup f_Boxes_least_free_number = some ⟨oc_Boxes_least_free_number, od_Boxes_least_free_number, .func (PySem.W.fnOf "least_free_number" "Boxes.least_free_number" (defArgs s_Boxes_least_free_number) (defBody s_Boxes_least_free_number) (defScope s_Boxes_least_free_number) .none kV_Boxes_least_free_number dc_Boxes_least_free_number pm_Boxes_least_free_number an_Boxes_least_free_number cd_Boxes_least_free_number ct_Boxes_least_free_number), sl_Boxes_least_free_number⟩)
    (hc_Boxes_least_free_number : PySem.W.codeIn K cd_Boxes_least_free_number "Boxes.least_free_number" = true)
    (hk_Boxes_least_free_number : PySem.W.keepIn K (.ref f_Boxes_least_free_number) = true)
    (ha_Boxes_last_at : PySem.W.findIn K (.ref C_Boxes) "last_at" = some (some (.ref f_Boxes_last_at)))
    (hi_Boxes_last_at : PySem.W.isFn K (.ref f_Boxes_last_at) = true)
    (hl_Boxes_last_at : K.lookup f_Boxes_last_at = some ⟨oc_Boxes_last_at, od_Boxes_last_at, .func (PySem.W.fnOf "last_at" "Boxes.last_at" (defArgs s_Boxes_last_at) (defBody s_Boxes_last_at) (defScope s_Boxes_last_at) .none kV_Boxes_last_at dc_Boxes_last_at pm_Boxes_last_at an_Boxes_last_at cd_Boxes_last_at ct_Boxes_last_at), sl_Boxes_last_at⟩)
    (hc_Boxes_last_at : PySem.W.codeIn K cd_Boxes_last_at "Boxes.last_at" = true)
    (hk_Boxes_last_at : PySem.W.keepIn K (.ref f_Boxes_last_at) = true)
    (ha_Boxes_places_in_window : PySem.W.findIn K (.ref C_Boxes) "places_in_window" = some (some (.ref f_Boxes_places_in_window)))
    (hi_Boxes_places_in_window : PySem.W.isFn K (.ref f_Boxes_places_in_window) = true)
    (hl_Boxes_places_in_window : K.lookup f_Boxes_places_in_window = some ⟨oc_Boxes_places_in_window, od_Boxes_places_in_window, .func (PySem.W.fnOf "places_in_window" "Boxes.places_in_window" (defArgs s_Boxes_places_in_window) (defBody s_Boxes_places_in_window) (defScope s_Boxes_places_in_window) .none kV_Boxes_places_in_window dc_Boxes_places_in_window pm_Boxes_places_in_window an_Boxes_places_in_window cd_Boxes_places_in_window ct_Boxes_places_in_window), sl_Boxes_places_in_window⟩)
    (hc_Boxes_places_in_window : PySem.W.codeIn K cd_Boxes_places_in_window "Boxes.places_in_window" = true)
    (hk_Boxes_places_in_window : PySem.W.keepIn K (.ref f_Boxes_places_in_window) = true)
    (ha_Boxes_natural_sizes : PySem.W.findIn K (.ref C_Boxes) "natural_sizes" = some (some (.ref f_Boxes_natural_sizes)))
    (hi_Boxes_natural_sizes : PySem.W.isFn K (.ref f_Boxes_natural_sizes) = true)
    (hl_Boxes_natural_sizes : K.lookup f_Boxes_natural_sizes = some ⟨oc_Boxes_natural_sizes, od_Boxes_natural_sizes, .func (PySem.W.fnOf "natural_sizes" "Boxes.natural_sizes" (defArgs s_Boxes_natural_sizes) (defBody s_Boxes_natural_sizes) (defScope s_Boxes_natural_sizes) .none kV_Boxes_natural_sizes dc_Boxes_natural_sizes pm_Boxes_natural_sizes an_Boxes_natural_sizes cd_Boxes_natural_sizes ct_Boxes_natural_sizes), sl_Boxes_natural_sizes⟩)
    (hc_Boxes_natural_sizes : PySem.W.codeIn K cd_Boxes_natural_sizes "Boxes.natural_sizes" = true)
    (hk_Boxes_natural_sizes : PySem.W.keepIn K (.ref f_Boxes_natural_sizes) = true)
    (ha_Boxes_outer_before_inner : PySem.W.findIn K (.ref C_Boxes) "outer_before_inner" = some (some (.ref f_Boxes_outer_before_inner)))
    (hi_Boxes_outer_before_inner : PySem.W.isFn K (.ref f_Boxes_outer_before_inner) = true)
    (hl_Boxes_outer_before_inner : K.lookup f_Boxes_outer_before_inner = some ⟨oc_Boxes_outer_before_inner, od_Boxes_outer_before_inner, .func (PySem.W.fnOf "outer_before_inner" "Boxes.outer_before_inner" (defArgs s_Boxes_outer_before_inner) (defBody s_Boxes_outer_before_inner) (defScope s_Boxes_outer_before_inner) .none kV_Boxes_outer_before_inner dc_Boxes_outer_before_inner pm_Boxes_outer_before_inner an_Boxes_outer_before_inner cd_Boxes_outer_before_inner ct_Boxes_outer_before_inner), sl_Boxes_outer_before_inner⟩)
    (hc_Boxes_outer_before_inner : PySem.W.codeIn K cd_Boxes_outer_before_inner "Boxes.outer_before_inner" = true)
    (hk_Boxes_outer_before_inner : PySem.W.keepIn K (.ref f_Boxes_outer_before_inner) = true)
    (ha_Rule_init : PySem.W.findIn K (.ref C_Rule) "__init__" = some (some (.ref f_Rule_init)))
    (hi_Rule_init : PySem.W.isFn K (.ref f_Rule_init) = true)
    (hl_Rule_init : K.lookup f_Rule_init = some ⟨oc_Rule_init, od_Rule_init, .func (PySem.W.fnOf "__init__" "Rule.__init__" (defArgs s_Rule_init) (defBody s_Rule_init) (defScope s_Rule_init) .none kV_Rule_init dc_Rule_init pm_Rule_init an_Rule_init cd_Rule_init ct_Rule_init), sl_Rule_init⟩)
    (hc_Rule_init : PySem.W.codeIn K cd_Rule_init "Rule.__init__" = true)
    (hk_Rule_init : PySem.W.keepIn K (.ref f_Rule_init) = true)
    (ha_Rule_is_as_told : PySem.W.findIn K (.ref C_Rule) "is_as_told" = some (some (.ref f_Rule_is_as_told)))
    (hi_Rule_is_as_told : PySem.W.isFn K (.ref f_Rule_is_as_told) = true)
    (hl_Rule_is_as_told : K.lookup f_Rule_is_as_told = some ⟨oc_Rule_is_as_told, od_Rule_is_as_told, .func (PySem.W.fnOf "is_as_told" "Rule.is_as_told" (defArgs s_Rule_is_as_told) (defBody s_Rule_is_as_told) (defScope s_Rule_is_as_told) .none kV_Rule_is_as_told dc_Rule_is_as_told pm_Rule_is_as_told an_Rule_is_as_told cd_Rule_is_as_told ct_Rule_is_as_told), sl_Rule_is_as_told⟩)
    (hc_Rule_is_as_told : PySem.W.codeIn K cd_Rule_is_as_told "Rule.is_as_told" = true)
    (hk_Rule_is_as_told : PySem.W.keepIn K (.ref f_Rule_is_as_told) = true)
    (ha_Rule_sizes_are_as_told : PySem.W.findIn K (.ref C_Rule) "sizes_are_as_told" = some (some (.ref f_Rule_sizes_are_as_told)))
    (hi_Rule_sizes_are_as_told : PySem.W.isFn K (.ref f_Rule_sizes_are_as_told) = true)
    (hl_Rule_sizes_are_as_told : K.lookup f_Rule_sizes_are_as_told = some ⟨oc_Rule_sizes_are_as_told, od_Rule_sizes_are_as_told, .func (PySem.W.fnOf "sizes_are_as_told" "Rule.sizes_are_as_told" (defArgs s_Rule_sizes_are_as_told) (defBody s_Rule_sizes_are_as_told) (defScope s_Rule_sizes_are_as_told) .none kV_Rule_sizes_are_as_told dc_Rule_sizes_are_as_told pm_Rule_sizes_are_as_told an_Rule_sizes_are_as_told cd_Rule_sizes_are_as_told ct_Rule_sizes_are_as_told), sl_Rule_sizes_are_as_told⟩)
    (hc_Rule_sizes_are_as_told : PySem.W.codeIn K cd_Rule_sizes_are_as_told "Rule.sizes_are_as_told" = true)
    (hk_Rule_sizes_are_as_told : PySem.W.keepIn K (.ref f_Rule_sizes_are_as_told) = true)
    (ha_Rule_choices_are_as_told : PySem.W.findIn K (.ref C_Rule) "choices_are_as_told" = some (some (.ref f_Rule_choices_are_as_told)))
    (hi_Rule_choices_are_as_told : PySem.W.isFn K (.ref f_Rule_choices_are_as_told) = true)
    (hl_Rule_choices_are_as_told : K.lookup f_Rule_choices_are_as_told = some ⟨oc_Rule_choices_are_as_told, od_Rule_choices_are_as_told, .func (PySem.W.fnOf "choices_are_as_told" "Rule.choices_are_as_told" (defArgs s_Rule_choices_are_as_told) (defBody s_Rule_choices_are_as_told) (defScope s_Rule_choices_are_as_told) .none kV_Rule_choices_are_as_told dc_Rule_choices_are_as_told pm_Rule_choices_are_as_told an_Rule_choices_are_as_told cd_Rule_choices_are_as_told ct_Rule_choices_are_as_told), sl_Rule_choices_are_as_told⟩)
    (hc_Rule_choices_are_as_told : PySem.W.codeIn K cd_Rule_choices_are_as_told "Rule.choices_are_as_told" = true)
    (hk_Rule_choices_are_as_told : PySem.W.keepIn K (.ref f_Rule_choices_are_as_told) = true)
    (ha_Rule_is_leaf : PySem.W.findIn K (.ref C_Rule) "is_leaf" = some (some (.ref f_Rule_is_leaf)))
    (hi_Rule_is_leaf : PySem.W.isFn K (.ref f_Rule_is_leaf) = true)
    (hl_Rule_is_leaf : K.lookup f_Rule_is_leaf = some ⟨oc_Rule_is_leaf, od_Rule_is_leaf, .func (PySem.W.fnOf "is_leaf" "Rule.is_leaf" (defArgs s_Rule_is_leaf) (defBody s_Rule_is_leaf) (defScope s_Rule_is_leaf) .none kV_Rule_is_leaf dc_Rule_is_leaf pm_Rule_is_leaf an_Rule_is_leaf cd_Rule_is_leaf ct_Rule_is_leaf), sl_Rule_is_leaf⟩)
    (hc_Rule_is_leaf : PySem.W.codeIn K cd_Rule_is_leaf "Rule.is_leaf" = true)
    (hk_Rule_is_leaf : PySem.W.keepIn K (.ref f_Rule_is_leaf) = true)
    (ha_Rule_is_along : PySem.W.findIn K (.ref C_Rule) "is_along" = some (some (.ref f_Rule_is_along)))
    (hi_Rule_is_along : PySem.W.isFn K (.ref f_Rule_is_along) = true)
    (hl_Rule_is_along : K.lookup f_Rule_is_along = some ⟨oc_Rule_is_along, od_Rule_is_along, .func (PySem.W.fnOf "is_along" "Rule.is_along" (defArgs s_Rule_is_along) (defBody s_Rule_is_along) (defScope s_Rule_is_along) .none kV_Rule_is_along dc_Rule_is_along pm_Rule_is_along an_Rule_is_along cd_Rule_is_along ct_Rule_is_along), sl_Rule_is_along⟩)
    (hc_Rule_is_along : PySem.W.codeIn K cd_Rule_is_along "Rule.is_along" = true)
    (hk_Rule_is_along : PySem.W.keepIn K (.ref f_Rule_is_along) = true)
    (ha_answers : PySem.W.nsIn K mainGlobals "answers" = some (some (.ref f_answers)))
    (hl_answers : K.lookup f_answers = some ⟨oc_answers, od_answers, .func (PySem.W.fnOf "answers" "answers" (defArgs s_answers) (defBody s_answers) (defScope s_answers) .none kV_answers dc_answers pm_answers an_answers cd_answers ct_answers), sl_answers⟩)
    (hc_answers : PySem.W.codeIn K cd_answers "answers" = true)
    (hk_answers : PySem.W.keepIn K (.ref f_answers) = true)
    (ha_answer_to : PySem.W.nsIn K mainGlobals "answer_to" = some (some (.ref f_answer_to)))
    (hl_answer_to : K.lookup f_answer_to = some ⟨oc_answer_to, od_answer_to, .func (PySem.W.fnOf "answer_to" "answer_to" (defArgs s_answer_to) (defBody s_answer_to) (defScope s_answer_to) .none kV_answer_to dc_answer_to pm_answer_to an_answer_to cd_answer_to ct_answer_to), sl_answer_to⟩)
    (hc_answer_to : PySem.W.codeIn K cd_answer_to "answer_to" = true)
    (hk_answer_to : PySem.W.keepIn K (.ref f_answer_to) = true)
    (ha_number_for : PySem.W.nsIn K mainGlobals "number_for" = some (some (.ref f_number_for)))
    (hl_number_for : K.lookup f_number_for = some ⟨oc_number_for, od_number_for, .func (PySem.W.fnOf "number_for" "number_for" (defArgs s_number_for) (defBody s_number_for) (defScope s_number_for) .none kV_number_for dc_number_for pm_number_for an_number_for cd_number_for ct_number_for), sl_number_for⟩)
    (hc_number_for : PySem.W.codeIn K cd_number_for "number_for" = true)
    (hk_number_for : PySem.W.keepIn K (.ref f_number_for) = true)
    (hg_ACROSS : PySem.W.nsIn K mainGlobals "ACROSS" = some (some (.int (0) t_ACROSS)))
    (hg_DOWN : PySem.W.nsIn K mainGlobals "DOWN" = some (some (.int (1) t_DOWN)))
    (hg_SIDE_FILLS : PySem.W.nsIn K mainGlobals "SIDE_FILLS" = some (some (.int (0) t_SIDE_FILLS)))
    (hg_SIDE_BEGINNING : PySem.W.nsIn K mainGlobals "SIDE_BEGINNING" = some (some (.int (1) t_SIDE_BEGINNING)))
    (hg_SIDE_MIDDLE : PySem.W.nsIn K mainGlobals "SIDE_MIDDLE" = some (some (.int (2) t_SIDE_MIDDLE)))
    (hg_REST_BEHIND : PySem.W.nsIn K mainGlobals "REST_BEHIND" = some (some (.int (0) t_REST_BEHIND)))
    (hg_REST_HALF : PySem.W.nsIn K mainGlobals "REST_HALF" = some (some (.int (1) t_REST_HALF)))
    (hg_REST_BEFORE : PySem.W.nsIn K mainGlobals "REST_BEFORE" = some (some (.int (2) t_REST_BEFORE)))
    (hg_NO_SUCH_BOX : PySem.W.nsIn K mainGlobals "NO_SUCH_BOX" = some (some (.int (-2) t_NO_SUCH_BOX)))
    (hg_NOT_LAID_OUT : PySem.W.nsIn K mainGlobals "NOT_LAID_OUT" = some (some (.int (-11) t_NOT_LAID_OUT)))
    (hg_NOT_ALLOWED : PySem.W.nsIn K mainGlobals "NOT_ALLOWED" = some (some (.int (-13) t_NOT_ALLOWED)))
    (hg_NOT_AS_TOLD : PySem.W.nsIn K mainGlobals "NOT_AS_TOLD" = some (some (.int (-22) t_NOT_AS_TOLD)))
    (hg_NO_MORE_FIT : PySem.W.nsIn K mainGlobals "NO_MORE_FIT" = some (some (.int (-28) t_NO_MORE_FIT)))
    (hg_MOST_BOXES : PySem.W.nsIn K mainGlobals "MOST_BOXES" = some (some (.int (256) t_MOST_BOXES)))
    (hg_MOST_IN_ONE : PySem.W.nsIn K mainGlobals "MOST_IN_ONE" = some (some (.int (64) t_MOST_IN_ONE)))
    (hg_MOST_DEEP : PySem.W.nsIn K mainGlobals "MOST_DEEP" = some (some (.int (16) t_MOST_DEEP)))
    (hg_MOST_WINDOW : PySem.W.nsIn K mainGlobals "MOST_WINDOW" = some (some (.int (65535) t_MOST_WINDOW)))
    (hg_LEAF : PySem.W.nsIn K mainGlobals "LEAF" = some (some (.int (2) t_LEAF)))
    (hg_GREATEST_SIDE : PySem.W.nsIn K mainGlobals "GREATEST_SIDE" = some (some (.int (3) t_GREATEST_SIDE)))
    (hg_GREATEST_REST : PySem.W.nsIn K mainGlobals "GREATEST_REST" = some (some (.int (3) t_GREATEST_REST)))
    (hg_BX_START : PySem.W.nsIn K mainGlobals "BX_START" = some (some (.int (0) t_BX_START)))
    (hg_BX_ADD : PySem.W.nsIn K mainGlobals "BX_ADD" = some (some (.int (1) t_BX_ADD)))
    (hg_BX_SET : PySem.W.nsIn K mainGlobals "BX_SET" = some (some (.int (2) t_BX_SET)))
    (hg_BX_DROP : PySem.W.nsIn K mainGlobals "BX_DROP" = some (some (.int (3) t_BX_DROP)))
    (hg_BX_LAY : PySem.W.nsIn K mainGlobals "BX_LAY" = some (some (.int (4) t_BX_LAY)))
    (hg_BX_PLACE : PySem.W.nsIn K mainGlobals "BX_PLACE" = some (some (.int (5) t_BX_PLACE)))
    (hg_HOW_MANY_NUMBERS : PySem.W.nsIn K mainGlobals "HOW_MANY_NUMBERS" = some (some (.ref a_HOW_MANY_NUMBERS)))
    (hl_HOW_MANY_NUMBERS : K.lookup a_HOW_MANY_NUMBERS = some ⟨.type "tuple", od_HOW_MANY_NUMBERS, .seq #[.int (14) t_HOW_MANY_NUMBERS_0, .int (15) t_HOW_MANY_NUMBERS_1, .int (15) t_HOW_MANY_NUMBERS_2, .int (1) t_HOW_MANY_NUMBERS_3, .int (2) t_HOW_MANY_NUMBERS_4, .int (1) t_HOW_MANY_NUMBERS_5, .int (2) t_HOW_MANY_NUMBERS_6] sn_HOW_MANY_NUMBERS, sl_HOW_MANY_NUMBERS⟩)
    (hg_FORM_NUMBER : PySem.W.nsIn K mainGlobals "FORM_NUMBER" = some (some (.int (0) t_FORM_NUMBER)))
    (hg_FORM_PLACE : PySem.W.nsIn K mainGlobals "FORM_PLACE" = some (some (.int (1) t_FORM_PLACE)))
    (hb_sum : PySem.W.nsIn K mainGlobals "sum" = some none)
    (hb_list : PySem.W.nsIn K mainGlobals "list" = some none)
    (hb_range : PySem.W.nsIn K mainGlobals "range" = some none)
    (hb_len : PySem.W.nsIn K mainGlobals "len" = some none)
    (hb_min : PySem.W.nsIn K mainGlobals "min" = some none)
    (hb_max : PySem.W.nsIn K mainGlobals "max" = some none)
    (hb_reversed : PySem.W.nsIn K mainGlobals "reversed" = some none)
    (hb_dict : PySem.W.nsIn K mainGlobals "dict" = some none)
    (hb_zip : PySem.W.nsIn K mainGlobals "zip" = some none) : ∃ t : Adr, Txt K mg t ∧ mg "answers" = some (.ref t.f_answers) ∧ (∀ (s : Shared) (v : Value), BindsTo s t.fd_answers ⟨[v], []⟩ [("calls", v)]) := by
  have F_Thing_init := fun_mk (st := s_Thing_init) hl_Thing_init hc_Thing_init hk_Thing_init
  have b_Thing_init := F_Thing_init.binds (ps := ["self", "least", "wish", "most", "grow", "give"]) fun _ _ _ _ _ _ us hl => match us, hl with | [_, _, _, _, _, _], _ => rfl
  have F_shared_lengths := fun_mk (st := s_shared_lengths) hl_shared_lengths hc_shared_lengths hk_shared_lengths
  have b_shared_lengths := F_shared_lengths.binds (ps := ["things", "length"]) fun _ _ _ _ _ _ us hl => match us, hl with | [_, _], _ => rfl
  have F_fair_parts := fun_mk (st := s_fair_parts) hl_fair_parts hc_fair_parts hk_fair_parts
  have b_fair_parts := F_fair_parts.binds (ps := ["spans", "weights", "amount"]) fun _ _ _ _ _ _ us hl => match us, hl with | [_, _, _], _ => rfl
  have F_full_ones := fun_mk (st := s_full_ones) hl_full_ones hc_full_ones hk_full_ones
  have b_full_ones := F_full_ones.binds (ps := ["free", "spans", "weights", "left", "weight"]) fun _ _ _ _ _ _ us hl => match us, hl with | [_, _, _, _, _], _ => rfl
  have F_changed_lengths := fun_mk (st := s_changed_lengths) hl_changed_lengths hc_changed_lengths hk_changed_lengths
  have b_changed_lengths := F_changed_lengths.binds (ps := ["wishes", "sign", "fair"]) fun _ _ _ _ _ _ us hl => match us, hl with | [_, _, _], _ => rfl
  have F_natural_size := fun_mk (st := s_natural_size) hl_natural_size hc_natural_size hk_natural_size
  have b_natural_size := F_natural_size.binds (ps := ["rule", "inner_sizes"]) fun _ _ _ _ _ _ us hl => match us, hl with | [_, _], _ => rfl
  have F_natural_length := fun_mk (st := s_natural_length) hl_natural_length hc_natural_length hk_natural_length
  have b_natural_length := F_natural_length.binds (ps := ["rule", "inner_sizes", "direction"]) fun _ _ _ _ _ _ us hl => match us, hl with | [_, _, _], _ => rfl
  have F_content_length := fun_mk (st := s_content_length) hl_content_length hc_content_length hk_content_length
  have b_content_length := F_content_length.binds (ps := ["rule", "naturals", "direction"]) fun _ _ _ _ _ _ us hl => match us, hl with | [_, _, _], _ => rfl
  have F_all_gaps := fun_mk (st := s_all_gaps) hl_all_gaps hc_all_gaps hk_all_gaps
  have b_all_gaps := F_all_gaps.binds (ps := ["rule", "many"]) fun _ _ _ _ _ _ us hl => match us, hl with | [_, _], _ => rfl
  have F_inner_places := fun_mk (st := s_inner_places) hl_inner_places hc_inner_places hk_inner_places
  have b_inner_places := F_inner_places.binds (ps := ["rule", "place", "inner_rules", "inner_sizes"]) fun _ _ _ _ _ _ us hl => match us, hl with | [_, _, _, _], _ => rfl
  have F_inner_spans := fun_mk (st := s_inner_spans) hl_inner_spans hc_inner_spans hk_inner_spans
  have b_inner_spans := F_inner_spans.binds (ps := ["rule", "place", "inner_rules", "inner_sizes", "direction"]) fun _ _ _ _ _ _ us hl => match us, hl with | [_, _, _, _, _], _ => rfl
  have F_room_in := fun_mk (st := s_room_in) hl_room_in hc_room_in hk_room_in
  have b_room_in := F_room_in.binds (ps := ["rule", "place", "direction"]) fun _ _ _ _ _ _ us hl => match us, hl with | [_, _, _], _ => rfl
  have F_thing_along := fun_mk (st := s_thing_along) hl_thing_along hc_thing_along hk_thing_along
  have b_thing_along := F_thing_along.binds (ps := ["rule", "natural", "direction"]) fun _ _ _ _ _ _ us hl => match us, hl with | [_, _, _], _ => rfl
  have F_spans_along := fun_mk (st := s_spans_along) hl_spans_along hc_spans_along hk_spans_along
  have b_spans_along := F_spans_along.binds (ps := ["rule", "room", "things"]) fun _ _ _ _ _ _ us hl => match us, hl with | [_, _, _], _ => rfl
  have F_rest_before := fun_mk (st := s_rest_before) hl_rest_before hc_rest_before hk_rest_before
  have b_rest_before := F_rest_before.binds (ps := ["rest", "over", "k", "many"]) fun _ _ _ _ _ _ us hl => match us, hl with | [_, _, _, _], _ => rfl
  have F_span_by_side := fun_mk (st := s_span_by_side) hl_span_by_side hc_span_by_side hk_span_by_side
  have b_span_by_side := F_span_by_side.binds (ps := ["rule", "room", "natural", "direction"]) fun _ _ _ _ _ _ us hl => match us, hl with | [_, _, _, _], _ => rfl
  have F_Box_init := fun_mk (st := s_Box_init) hl_Box_init hc_Box_init hk_Box_init
  have b_Box_init := F_Box_init.binds (ps := ["self", "rule", "lies_in", "depth"]) fun _ _ _ _ _ _ us hl => match us, hl with | [_, _, _, _], _ => rfl
  have F_Box_holds_dot := fun_mk (st := s_Box_holds_dot) hl_Box_holds_dot hc_Box_holds_dot hk_Box_holds_dot
  have b_Box_holds_dot := F_Box_holds_dot.binds (ps := ["self", "x", "y"]) fun _ _ _ _ _ _ us hl => match us, hl with | [_, _, _], _ => rfl
  have F_Boxes_init := fun_mk (st := s_Boxes_init) hl_Boxes_init hc_Boxes_init hk_Boxes_init
  have b_Boxes_init := F_Boxes_init.binds (ps := ["self"]) fun _ _ _ _ _ _ us hl => match us, hl with | [_], _ => rfl
  have F_Boxes_bx_start := fun_mk (st := s_Boxes_bx_start) hl_Boxes_bx_start hc_Boxes_bx_start hk_Boxes_bx_start
  have b_Boxes_bx_start := F_Boxes_bx_start.binds (ps := ["self", "rule"]) fun _ _ _ _ _ _ us hl => match us, hl with | [_, _], _ => rfl
  have F_Boxes_bx_add := fun_mk (st := s_Boxes_bx_add) hl_Boxes_bx_add hc_Boxes_bx_add hk_Boxes_bx_add
  have b_Boxes_bx_add := F_Boxes_bx_add.binds (ps := ["self", "into", "rule"]) fun _ _ _ _ _ _ us hl => match us, hl with | [_, _, _], _ => rfl
  have F_Boxes_bx_set := fun_mk (st := s_Boxes_bx_set) hl_Boxes_bx_set hc_Boxes_bx_set hk_Boxes_bx_set
  have b_Boxes_bx_set := F_Boxes_bx_set.binds (ps := ["self", "number", "rule"]) fun _ _ _ _ _ _ us hl => match us, hl with | [_, _, _], _ => rfl
  have F_Boxes_bx_drop := fun_mk (st := s_Boxes_bx_drop) hl_Boxes_bx_drop hc_Boxes_bx_drop hk_Boxes_bx_drop
  have b_Boxes_bx_drop := F_Boxes_bx_drop.binds (ps := ["self", "number"]) fun _ _ _ _ _ _ us hl => match us, hl with | [_, _], _ => rfl
  have F_Boxes_bx_lay := fun_mk (st := s_Boxes_bx_lay) hl_Boxes_bx_lay hc_Boxes_bx_lay hk_Boxes_bx_lay
  have b_Boxes_bx_lay := F_Boxes_bx_lay.binds (ps := ["self", "width", "height"]) fun _ _ _ _ _ _ us hl => match us, hl with | [_, _, _], _ => rfl
  have F_Boxes_bx_place := fun_mk (st := s_Boxes_bx_place) hl_Boxes_bx_place hc_Boxes_bx_place hk_Boxes_bx_place
  have b_Boxes_bx_place := F_Boxes_bx_place.binds (ps := ["self", "number"]) fun _ _ _ _ _ _ us hl => match us, hl with | [_, _], _ => rfl
  have F_Boxes_bx_at := fun_mk (st := s_Boxes_bx_at) hl_Boxes_bx_at hc_Boxes_bx_at hk_Boxes_bx_at
  have b_Boxes_bx_at := F_Boxes_bx_at.binds (ps := ["self", "x", "y"]) fun _ _ _ _ _ _ us hl => match us, hl with | [_, _, _], _ => rfl
  have F_Boxes_place_out := fun_mk (st := s_Boxes_place_out) hl_Boxes_place_out hc_Boxes_place_out hk_Boxes_place_out
  have b_Boxes_place_out := F_Boxes_place_out.binds (ps := ["self", "number"]) fun _ _ _ _ _ _ us hl => match us, hl with | [_, _], _ => rfl
  have F_Boxes_has_space_in := fun_mk (st := s_Boxes_has_space_in) hl_Boxes_has_space_in hc_Boxes_has_space_in hk_Boxes_has_space_in
  have b_Boxes_has_space_in := F_Boxes_has_space_in.binds (ps := ["self", "outer"]) fun _ _ _ _ _ _ us hl => match us, hl with | [_, _], _ => rfl
  have F_Boxes_least_free_number := fun_mk (st := s_Boxes_least_free_number) hl_Boxes_least_free_number hc_Boxes_least_free_number hk_Boxes_least_free_number
  have b_Boxes_least_free_number := F_Boxes_least_free_number.binds (ps := ["self"]) fun _ _ _ _ _ _ us hl => match us, hl with | [_], _ => rfl
  have F_Boxes_last_at := fun_mk (st := s_Boxes_last_at) hl_Boxes_last_at hc_Boxes_last_at hk_Boxes_last_at
  have b_Boxes_last_at := F_Boxes_last_at.binds (ps := ["self", "numbers", "x", "y"]) fun _ _ _ _ _ _ us hl => match us, hl with | [_, _, _, _], _ => rfl
  have F_Boxes_places_in_window := fun_mk (st := s_Boxes_places_in_window) hl_Boxes_places_in_window hc_Boxes_places_in_window hk_Boxes_places_in_window
  have b_Boxes_places_in_window := F_Boxes_places_in_window.binds (ps := ["self", "width", "height"]) fun _ _ _ _ _ _ us hl => match us, hl with | [_, _, _], _ => rfl
  have F_Boxes_natural_sizes := fun_mk (st := s_Boxes_natural_sizes) hl_Boxes_natural_sizes hc_Boxes_natural_sizes hk_Boxes_natural_sizes
  have b_Boxes_natural_sizes := F_Boxes_natural_sizes.binds (ps := ["self", "order"]) fun _ _ _ _ _ _ us hl => match us, hl with | [_, _], _ => rfl
  have F_Boxes_outer_before_inner := fun_mk (st := s_Boxes_outer_before_inner) hl_Boxes_outer_before_inner hc_Boxes_outer_before_inner hk_Boxes_outer_before_inner
  have b_Boxes_outer_before_inner := F_Boxes_outer_before_inner.binds (ps := ["self"]) fun _ _ _ _ _ _ us hl => match us, hl with | [_], _ => rfl
  have F_Rule_init := fun_mk (st := s_Rule_init) hl_Rule_init hc_Rule_init hk_Rule_init
  have b_Rule_init := F_Rule_init.binds (ps := ["self", "numbers"]) fun _ _ _ _ _ _ us hl => match us, hl with | [_, _], _ => rfl
  have F_Rule_is_as_told := fun_mk (st := s_Rule_is_as_told) hl_Rule_is_as_told hc_Rule_is_as_told hk_Rule_is_as_told
  have b_Rule_is_as_told := F_Rule_is_as_told.binds (ps := ["self"]) fun _ _ _ _ _ _ us hl => match us, hl with | [_], _ => rfl
  have F_Rule_sizes_are_as_told := fun_mk (st := s_Rule_sizes_are_as_told) hl_Rule_sizes_are_as_told hc_Rule_sizes_are_as_told hk_Rule_sizes_are_as_told
  have b_Rule_sizes_are_as_told := F_Rule_sizes_are_as_told.binds (ps := ["self"]) fun _ _ _ _ _ _ us hl => match us, hl with | [_], _ => rfl
  have F_Rule_choices_are_as_told := fun_mk (st := s_Rule_choices_are_as_told) hl_Rule_choices_are_as_told hc_Rule_choices_are_as_told hk_Rule_choices_are_as_told
  have b_Rule_choices_are_as_told := F_Rule_choices_are_as_told.binds (ps := ["self"]) fun _ _ _ _ _ _ us hl => match us, hl with | [_], _ => rfl
  have F_Rule_is_leaf := fun_mk (st := s_Rule_is_leaf) hl_Rule_is_leaf hc_Rule_is_leaf hk_Rule_is_leaf
  have b_Rule_is_leaf := F_Rule_is_leaf.binds (ps := ["self"]) fun _ _ _ _ _ _ us hl => match us, hl with | [_], _ => rfl
  have F_Rule_is_along := fun_mk (st := s_Rule_is_along) hl_Rule_is_along hc_Rule_is_along hk_Rule_is_along
  have b_Rule_is_along := F_Rule_is_along.binds (ps := ["self", "direction"]) fun _ _ _ _ _ _ us hl => match us, hl with | [_, _], _ => rfl
  have F_answers := fun_mk (st := s_answers) hl_answers hc_answers hk_answers
  have b_answers := F_answers.binds (ps := ["calls"]) fun _ _ _ _ _ _ us hl => match us, hl with | [_], _ => rfl
  have F_answer_to := fun_mk (st := s_answer_to) hl_answer_to hc_answer_to hk_answer_to
  have b_answer_to := F_answer_to.binds (ps := ["boxes", "call", "numbers"]) fun _ _ _ _ _ _ us hl => match us, hl with | [_, _, _], _ => rfl
  have F_number_for := fun_mk (st := s_number_for) hl_number_for hc_number_for hk_number_for
  have b_number_for := F_number_for.binds (ps := ["boxes", "call", "numbers"]) fun _ _ _ _ _ _ us hl => match us, hl with | [_, _, _], _ => rfl
  refine ⟨{ C_Thing := C_Thing, C_Box := C_Box, C_Boxes := C_Boxes, C_Rule := C_Rule, f_Thing_init := f_Thing_init, fd_Thing_init := _, f_shared_lengths := f_shared_lengths, fd_shared_lengths := _, f_fair_parts := f_fair_parts, fd_fair_parts := _, f_full_ones := f_full_ones, fd_full_ones := _, f_changed_lengths := f_changed_lengths, fd_changed_lengths := _, f_natural_size := f_natural_size, fd_natural_size := _, f_natural_length := f_natural_length, fd_natural_length := _, f_content_length := f_content_length, fd_content_length := _, f_all_gaps := f_all_gaps, fd_all_gaps := _, f_inner_places := f_inner_places, fd_inner_places := _, f_inner_spans := f_inner_spans, fd_inner_spans := _, f_room_in := f_room_in, fd_room_in := _, f_thing_along := f_thing_along, fd_thing_along := _, f_spans_along := f_spans_along, fd_spans_along := _, f_rest_before := f_rest_before, fd_rest_before := _, f_span_by_side := f_span_by_side, fd_span_by_side := _, f_Box_init := f_Box_init, fd_Box_init := _, f_Box_holds_dot := f_Box_holds_dot, fd_Box_holds_dot := _, f_Boxes_init := f_Boxes_init, fd_Boxes_init := _, f_Boxes_bx_start := f_Boxes_bx_start, fd_Boxes_bx_start := _, f_Boxes_bx_add := f_Boxes_bx_add, fd_Boxes_bx_add := _, f_Boxes_bx_set := f_Boxes_bx_set, fd_Boxes_bx_set := _, f_Boxes_bx_drop := f_Boxes_bx_drop, fd_Boxes_bx_drop := _, f_Boxes_bx_lay := f_Boxes_bx_lay, fd_Boxes_bx_lay := _, f_Boxes_bx_place := f_Boxes_bx_place, fd_Boxes_bx_place := _, f_Boxes_bx_at := f_Boxes_bx_at, fd_Boxes_bx_at := _, f_Boxes_place_out := f_Boxes_place_out, fd_Boxes_place_out := _, f_Boxes_has_space_in := f_Boxes_has_space_in, fd_Boxes_has_space_in := _, f_Boxes_least_free_number := f_Boxes_least_free_number, fd_Boxes_least_free_number := _, f_Boxes_last_at := f_Boxes_last_at, fd_Boxes_last_at := _, f_Boxes_places_in_window := f_Boxes_places_in_window, fd_Boxes_places_in_window := _, f_Boxes_natural_sizes := f_Boxes_natural_sizes, fd_Boxes_natural_sizes := _, f_Boxes_outer_before_inner := f_Boxes_outer_before_inner, fd_Boxes_outer_before_inner := _, f_Rule_init := f_Rule_init, fd_Rule_init := _, f_Rule_is_as_told := f_Rule_is_as_told, fd_Rule_is_as_told := _, f_Rule_sizes_are_as_told := f_Rule_sizes_are_as_told, fd_Rule_sizes_are_as_told := _, f_Rule_choices_are_as_told := f_Rule_choices_are_as_told, fd_Rule_choices_are_as_told := _, f_Rule_is_leaf := f_Rule_is_leaf, fd_Rule_is_leaf := _, f_Rule_is_along := f_Rule_is_along, fd_Rule_is_along := _, f_answers := f_answers, fd_answers := _, f_answer_to := f_answer_to, fd_answer_to := _, f_number_for := f_number_for, fd_number_for := _, u_ACROSS := .int (0) t_ACROSS, u_DOWN := .int (1) t_DOWN, u_SIDE_FILLS := .int (0) t_SIDE_FILLS, u_SIDE_BEGINNING := .int (1) t_SIDE_BEGINNING, u_SIDE_MIDDLE := .int (2) t_SIDE_MIDDLE, u_REST_BEHIND := .int (0) t_REST_BEHIND, u_REST_HALF := .int (1) t_REST_HALF, u_REST_BEFORE := .int (2) t_REST_BEFORE, u_NO_SUCH_BOX := .int (-2) t_NO_SUCH_BOX, u_NOT_LAID_OUT := .int (-11) t_NOT_LAID_OUT, u_NOT_ALLOWED := .int (-13) t_NOT_ALLOWED, u_NOT_AS_TOLD := .int (-22) t_NOT_AS_TOLD, u_NO_MORE_FIT := .int (-28) t_NO_MORE_FIT, u_MOST_BOXES := .int (256) t_MOST_BOXES, u_MOST_IN_ONE := .int (64) t_MOST_IN_ONE, u_MOST_DEEP := .int (16) t_MOST_DEEP, u_MOST_WINDOW := .int (65535) t_MOST_WINDOW, u_LEAF := .int (2) t_LEAF, u_GREATEST_SIDE := .int (3) t_GREATEST_SIDE, u_GREATEST_REST := .int (3) t_GREATEST_REST, u_BX_START := .int (0) t_BX_START, u_BX_ADD := .int (1) t_BX_ADD, u_BX_SET := .int (2) t_BX_SET, u_BX_DROP := .int (3) t_BX_DROP, u_BX_LAY := .int (4) t_BX_LAY, u_BX_PLACE := .int (5) t_BX_PLACE, a_HOW_MANY_NUMBERS := a_HOW_MANY_NUMBERS, u_FORM_NUMBER := .int (0) t_FORM_NUMBER, u_FORM_PLACE := .int (1) t_FORM_PLACE }, {
    c_Thing := ⟨hpg_Thing, hhd_Thing, hpo_Thing, hsa_Thing⟩,
    g_Thing := PySem.W.mg_of X G hg_Thing,
    mk_Thing := ⟨hmk_Thing, ha_Thing_init, hi_Thing_init, hkc_Thing⟩,
    n_Thing_least := hn_Thing_least,
    n_Thing_wish := hn_Thing_wish,
    n_Thing_most := hn_Thing_most,
    n_Thing_grow := hn_Thing_grow,
    n_Thing_give := hn_Thing_give,
    c_Box := ⟨hpg_Box, hhd_Box, hpo_Box, hsa_Box⟩,
    g_Box := PySem.W.mg_of X G hg_Box,
    mk_Box := ⟨hmk_Box, ha_Box_init, hi_Box_init, hkc_Box⟩,
    n_Box_rule := hn_Box_rule,
    n_Box_lies_in := hn_Box_lies_in,
    n_Box_depth := hn_Box_depth,
    n_Box_inner := hn_Box_inner,
    n_Box_place := hn_Box_place,
    c_Boxes := ⟨hpg_Boxes, hhd_Boxes, hpo_Boxes, hsa_Boxes⟩,
    g_Boxes := PySem.W.mg_of X G hg_Boxes,
    mk_Boxes := ⟨hmk_Boxes, ha_Boxes_init, hi_Boxes_init, hkc_Boxes⟩,
    n_Boxes_by_number := hn_Boxes_by_number,
    c_Rule := ⟨hpg_Rule, hhd_Rule, hpo_Rule, hsa_Rule⟩,
    g_Rule := PySem.W.mg_of X G hg_Rule,
    mk_Rule := ⟨hmk_Rule, ha_Rule_init, hi_Rule_init, hkc_Rule⟩,
    n_Rule_least := hn_Rule_least,
    n_Rule_wish := hn_Rule_wish,
    n_Rule_most := hn_Rule_most,
    n_Rule_kind := hn_Rule_kind,
    n_Rule_pad := hn_Rule_pad,
    n_Rule_gap := hn_Rule_gap,
    n_Rule_grow := hn_Rule_grow,
    n_Rule_give := hn_Rule_give,
    n_Rule_side := hn_Rule_side,
    n_Rule_rest := hn_Rule_rest,
    n_Rule_none := hn_Rule_none,
    F_Thing_init := F_Thing_init,
    b_Thing_init := b_Thing_init,
    F_shared_lengths := F_shared_lengths,
    b_shared_lengths := b_shared_lengths,
    g_shared_lengths := PySem.W.mg_of X G ha_shared_lengths,
    k_shared_lengths := hk_shared_lengths,
    F_fair_parts := F_fair_parts,
    b_fair_parts := b_fair_parts,
    g_fair_parts := PySem.W.mg_of X G ha_fair_parts,
    k_fair_parts := hk_fair_parts,
    F_full_ones := F_full_ones,
    b_full_ones := b_full_ones,
    g_full_ones := PySem.W.mg_of X G ha_full_ones,
    k_full_ones := hk_full_ones,
    F_changed_lengths := F_changed_lengths,
    b_changed_lengths := b_changed_lengths,
    g_changed_lengths := PySem.W.mg_of X G ha_changed_lengths,
    k_changed_lengths := hk_changed_lengths,
    F_natural_size := F_natural_size,
    b_natural_size := b_natural_size,
    g_natural_size := PySem.W.mg_of X G ha_natural_size,
    k_natural_size := hk_natural_size,
    F_natural_length := F_natural_length,
    b_natural_length := b_natural_length,
    g_natural_length := PySem.W.mg_of X G ha_natural_length,
    k_natural_length := hk_natural_length,
    F_content_length := F_content_length,
    b_content_length := b_content_length,
    g_content_length := PySem.W.mg_of X G ha_content_length,
    k_content_length := hk_content_length,
    F_all_gaps := F_all_gaps,
    b_all_gaps := b_all_gaps,
    g_all_gaps := PySem.W.mg_of X G ha_all_gaps,
    k_all_gaps := hk_all_gaps,
    F_inner_places := F_inner_places,
    b_inner_places := b_inner_places,
    g_inner_places := PySem.W.mg_of X G ha_inner_places,
    k_inner_places := hk_inner_places,
    F_inner_spans := F_inner_spans,
    b_inner_spans := b_inner_spans,
    g_inner_spans := PySem.W.mg_of X G ha_inner_spans,
    k_inner_spans := hk_inner_spans,
    F_room_in := F_room_in,
    b_room_in := b_room_in,
    g_room_in := PySem.W.mg_of X G ha_room_in,
    k_room_in := hk_room_in,
    F_thing_along := F_thing_along,
    b_thing_along := b_thing_along,
    g_thing_along := PySem.W.mg_of X G ha_thing_along,
    k_thing_along := hk_thing_along,
    F_spans_along := F_spans_along,
    b_spans_along := b_spans_along,
    g_spans_along := PySem.W.mg_of X G ha_spans_along,
    k_spans_along := hk_spans_along,
    F_rest_before := F_rest_before,
    b_rest_before := b_rest_before,
    g_rest_before := PySem.W.mg_of X G ha_rest_before,
    k_rest_before := hk_rest_before,
    F_span_by_side := F_span_by_side,
    b_span_by_side := b_span_by_side,
    g_span_by_side := PySem.W.mg_of X G ha_span_by_side,
    k_span_by_side := hk_span_by_side,
    F_Box_init := F_Box_init,
    b_Box_init := b_Box_init,
    F_Box_holds_dot := F_Box_holds_dot,
    b_Box_holds_dot := b_Box_holds_dot,
    m_Box_holds_dot := ⟨ha_Box_holds_dot, hi_Box_holds_dot, hk_Box_holds_dot⟩,
    F_Boxes_init := F_Boxes_init,
    b_Boxes_init := b_Boxes_init,
    F_Boxes_bx_start := F_Boxes_bx_start,
    b_Boxes_bx_start := b_Boxes_bx_start,
    m_Boxes_bx_start := ⟨ha_Boxes_bx_start, hi_Boxes_bx_start, hk_Boxes_bx_start⟩,
    F_Boxes_bx_add := F_Boxes_bx_add,
    b_Boxes_bx_add := b_Boxes_bx_add,
    m_Boxes_bx_add := ⟨ha_Boxes_bx_add, hi_Boxes_bx_add, hk_Boxes_bx_add⟩,
    F_Boxes_bx_set := F_Boxes_bx_set,
    b_Boxes_bx_set := b_Boxes_bx_set,
    m_Boxes_bx_set := ⟨ha_Boxes_bx_set, hi_Boxes_bx_set, hk_Boxes_bx_set⟩,
    F_Boxes_bx_drop := F_Boxes_bx_drop,
    b_Boxes_bx_drop := b_Boxes_bx_drop,
    m_Boxes_bx_drop := ⟨ha_Boxes_bx_drop, hi_Boxes_bx_drop, hk_Boxes_bx_drop⟩,
    F_Boxes_bx_lay := F_Boxes_bx_lay,
    b_Boxes_bx_lay := b_Boxes_bx_lay,
    m_Boxes_bx_lay := ⟨ha_Boxes_bx_lay, hi_Boxes_bx_lay, hk_Boxes_bx_lay⟩,
    F_Boxes_bx_place := F_Boxes_bx_place,
    b_Boxes_bx_place := b_Boxes_bx_place,
    m_Boxes_bx_place := ⟨ha_Boxes_bx_place, hi_Boxes_bx_place, hk_Boxes_bx_place⟩,
    F_Boxes_bx_at := F_Boxes_bx_at,
    b_Boxes_bx_at := b_Boxes_bx_at,
    m_Boxes_bx_at := ⟨ha_Boxes_bx_at, hi_Boxes_bx_at, hk_Boxes_bx_at⟩,
    F_Boxes_place_out := F_Boxes_place_out,
    b_Boxes_place_out := b_Boxes_place_out,
    m_Boxes_place_out := ⟨ha_Boxes_place_out, hi_Boxes_place_out, hk_Boxes_place_out⟩,
    F_Boxes_has_space_in := F_Boxes_has_space_in,
    b_Boxes_has_space_in := b_Boxes_has_space_in,
    m_Boxes_has_space_in := ⟨ha_Boxes_has_space_in, hi_Boxes_has_space_in, hk_Boxes_has_space_in⟩,
    F_Boxes_least_free_number := F_Boxes_least_free_number,
    b_Boxes_least_free_number := b_Boxes_least_free_number,
    m_Boxes_least_free_number := ⟨ha_Boxes_least_free_number, hi_Boxes_least_free_number, hk_Boxes_least_free_number⟩,
    F_Boxes_last_at := F_Boxes_last_at,
    b_Boxes_last_at := b_Boxes_last_at,
    m_Boxes_last_at := ⟨ha_Boxes_last_at, hi_Boxes_last_at, hk_Boxes_last_at⟩,
    F_Boxes_places_in_window := F_Boxes_places_in_window,
    b_Boxes_places_in_window := b_Boxes_places_in_window,
    m_Boxes_places_in_window := ⟨ha_Boxes_places_in_window, hi_Boxes_places_in_window, hk_Boxes_places_in_window⟩,
    F_Boxes_natural_sizes := F_Boxes_natural_sizes,
    b_Boxes_natural_sizes := b_Boxes_natural_sizes,
    m_Boxes_natural_sizes := ⟨ha_Boxes_natural_sizes, hi_Boxes_natural_sizes, hk_Boxes_natural_sizes⟩,
    F_Boxes_outer_before_inner := F_Boxes_outer_before_inner,
    b_Boxes_outer_before_inner := b_Boxes_outer_before_inner,
    m_Boxes_outer_before_inner := ⟨ha_Boxes_outer_before_inner, hi_Boxes_outer_before_inner, hk_Boxes_outer_before_inner⟩,
    F_Rule_init := F_Rule_init,
    b_Rule_init := b_Rule_init,
    F_Rule_is_as_told := F_Rule_is_as_told,
    b_Rule_is_as_told := b_Rule_is_as_told,
    m_Rule_is_as_told := ⟨ha_Rule_is_as_told, hi_Rule_is_as_told, hk_Rule_is_as_told⟩,
    F_Rule_sizes_are_as_told := F_Rule_sizes_are_as_told,
    b_Rule_sizes_are_as_told := b_Rule_sizes_are_as_told,
    m_Rule_sizes_are_as_told := ⟨ha_Rule_sizes_are_as_told, hi_Rule_sizes_are_as_told, hk_Rule_sizes_are_as_told⟩,
    F_Rule_choices_are_as_told := F_Rule_choices_are_as_told,
    b_Rule_choices_are_as_told := b_Rule_choices_are_as_told,
    m_Rule_choices_are_as_told := ⟨ha_Rule_choices_are_as_told, hi_Rule_choices_are_as_told, hk_Rule_choices_are_as_told⟩,
    F_Rule_is_leaf := F_Rule_is_leaf,
    b_Rule_is_leaf := b_Rule_is_leaf,
    m_Rule_is_leaf := ⟨ha_Rule_is_leaf, hi_Rule_is_leaf, hk_Rule_is_leaf⟩,
    F_Rule_is_along := F_Rule_is_along,
    b_Rule_is_along := b_Rule_is_along,
    m_Rule_is_along := ⟨ha_Rule_is_along, hi_Rule_is_along, hk_Rule_is_along⟩,
    F_answers := F_answers,
    b_answers := b_answers,
    g_answers := PySem.W.mg_of X G ha_answers,
    k_answers := hk_answers,
    F_answer_to := F_answer_to,
    b_answer_to := b_answer_to,
    g_answer_to := PySem.W.mg_of X G ha_answer_to,
    k_answer_to := hk_answer_to,
    F_number_for := F_number_for,
    b_number_for := b_number_for,
    g_number_for := PySem.W.mg_of X G ha_number_for,
    k_number_for := hk_number_for,
    g_ACROSS := PySem.W.mg_of X G hg_ACROSS,
    r_ACROSS := ⟨_, rfl⟩,
    g_DOWN := PySem.W.mg_of X G hg_DOWN,
    r_DOWN := ⟨_, rfl⟩,
    g_SIDE_FILLS := PySem.W.mg_of X G hg_SIDE_FILLS,
    r_SIDE_FILLS := ⟨_, rfl⟩,
    g_SIDE_BEGINNING := PySem.W.mg_of X G hg_SIDE_BEGINNING,
    r_SIDE_BEGINNING := ⟨_, rfl⟩,
    g_SIDE_MIDDLE := PySem.W.mg_of X G hg_SIDE_MIDDLE,
    r_SIDE_MIDDLE := ⟨_, rfl⟩,
    g_REST_BEHIND := PySem.W.mg_of X G hg_REST_BEHIND,
    r_REST_BEHIND := ⟨_, rfl⟩,
    g_REST_HALF := PySem.W.mg_of X G hg_REST_HALF,
    r_REST_HALF := ⟨_, rfl⟩,
    g_REST_BEFORE := PySem.W.mg_of X G hg_REST_BEFORE,
    r_REST_BEFORE := ⟨_, rfl⟩,
    g_NO_SUCH_BOX := PySem.W.mg_of X G hg_NO_SUCH_BOX,
    r_NO_SUCH_BOX := ⟨_, rfl⟩,
    g_NOT_LAID_OUT := PySem.W.mg_of X G hg_NOT_LAID_OUT,
    r_NOT_LAID_OUT := ⟨_, rfl⟩,
    g_NOT_ALLOWED := PySem.W.mg_of X G hg_NOT_ALLOWED,
    r_NOT_ALLOWED := ⟨_, rfl⟩,
    g_NOT_AS_TOLD := PySem.W.mg_of X G hg_NOT_AS_TOLD,
    r_NOT_AS_TOLD := ⟨_, rfl⟩,
    g_NO_MORE_FIT := PySem.W.mg_of X G hg_NO_MORE_FIT,
    r_NO_MORE_FIT := ⟨_, rfl⟩,
    g_MOST_BOXES := PySem.W.mg_of X G hg_MOST_BOXES,
    r_MOST_BOXES := ⟨_, rfl⟩,
    g_MOST_IN_ONE := PySem.W.mg_of X G hg_MOST_IN_ONE,
    r_MOST_IN_ONE := ⟨_, rfl⟩,
    g_MOST_DEEP := PySem.W.mg_of X G hg_MOST_DEEP,
    r_MOST_DEEP := ⟨_, rfl⟩,
    g_MOST_WINDOW := PySem.W.mg_of X G hg_MOST_WINDOW,
    r_MOST_WINDOW := ⟨_, rfl⟩,
    g_LEAF := PySem.W.mg_of X G hg_LEAF,
    r_LEAF := ⟨_, rfl⟩,
    g_GREATEST_SIDE := PySem.W.mg_of X G hg_GREATEST_SIDE,
    r_GREATEST_SIDE := ⟨_, rfl⟩,
    g_GREATEST_REST := PySem.W.mg_of X G hg_GREATEST_REST,
    r_GREATEST_REST := ⟨_, rfl⟩,
    g_BX_START := PySem.W.mg_of X G hg_BX_START,
    r_BX_START := ⟨_, rfl⟩,
    g_BX_ADD := PySem.W.mg_of X G hg_BX_ADD,
    r_BX_ADD := ⟨_, rfl⟩,
    g_BX_SET := PySem.W.mg_of X G hg_BX_SET,
    r_BX_SET := ⟨_, rfl⟩,
    g_BX_DROP := PySem.W.mg_of X G hg_BX_DROP,
    r_BX_DROP := ⟨_, rfl⟩,
    g_BX_LAY := PySem.W.mg_of X G hg_BX_LAY,
    r_BX_LAY := ⟨_, rfl⟩,
    g_BX_PLACE := PySem.W.mg_of X G hg_BX_PLACE,
    r_BX_PLACE := ⟨_, rfl⟩,
    g_HOW_MANY_NUMBERS := PySem.W.mg_of X G hg_HOW_MANY_NUMBERS,
    q_HOW_MANY_NUMBERS := fun _ => .inr ⟨_, _, _, hl_HOW_MANY_NUMBERS, rfl, rfl, by show 7 ≤ sizeLine; decide, .cons ⟨_, rfl⟩ (.cons ⟨_, rfl⟩ (.cons ⟨_, rfl⟩ (.cons ⟨_, rfl⟩ (.cons ⟨_, rfl⟩ (.cons ⟨_, rfl⟩ (.cons ⟨_, rfl⟩ (.nil)))))))⟩,
    g_FORM_NUMBER := PySem.W.mg_of X G hg_FORM_NUMBER,
    r_FORM_NUMBER := ⟨_, rfl⟩,
    g_FORM_PLACE := PySem.W.mg_of X G hg_FORM_PLACE,
    r_FORM_PLACE := ⟨_, rfl⟩,
    n_sum := PySem.W.mg_none_of X G hb_sum,
    n_list := PySem.W.mg_none_of X G hb_list,
    n_range := PySem.W.mg_none_of X G hb_range,
    n_len := PySem.W.mg_none_of X G hb_len,
    n_min := PySem.W.mg_none_of X G hb_min,
    n_max := PySem.W.mg_none_of X G hb_max,
    n_reversed := PySem.W.mg_none_of X G hb_reversed,
    n_dict := PySem.W.mg_none_of X G hb_dict,
    n_zip := PySem.W.mg_none_of X G hb_zip }, PySem.W.mg_of X G ha_answers, fun s v => .of_eq rfl⟩
theorem fin_mk {P : Program} {w : World} {K : PySem.W.Frag} {mg : Str → Option Value} {fa : Addr} (X : ∃ t : Adr, Txt K mg t ∧ mg "answers" = some (.ref t.f_answers) ∧ (∀ (s : Shared) (v : Value), BindsTo s t.fd_answers ⟨[v], []⟩ [("calls", v)])) (hmg : mg "answers" = some (.ref fa)) :
    ∃ fd : FuncData, (∀ (s : Shared) (u : Value), BindsTo s fd ⟨[u], []⟩ [("calls", u)]) ∧ ∀ base : Heap, K.In base → base.Ns mainGlobals mg → FnOk P w K mg base CX0 11 fa fd ["calls"] (sp_answers K) := by
  obtain ⟨t, T, hf, hb⟩ := X
  have e := hmg.symm.trans hf
  cases e
  exact ⟨t.fd_answers, hb, fun base _ _ => ok_answers T⟩
end BXP
namespace BXP
def posOf (s : PySem.Stmt) : PySem.Pos := match s with
  | .FunctionDef _ _ _ _ _ _ _ _ _ p => p
  | _ => ⟨0, 0, 0, 0⟩
def dAns : PySem.DefRec := ⟨"answers", L2.defArgs s_answers, L2.defBody s_answers, L2.defScope s_answers, posOf s_answers⟩
end BXP
open PySem PySem.W PyProof.Rows
set_option maxRecDepth 100000 in
set_option maxHeartbeats 0 in
theorem PySem.Challenge.cw_dotboxes_s01_answers_holds : PySem.Challenge.rw_dotboxes_s01_answers.Holds := by
  w_on
  refine PySem.W.holds_os (q := BXT.vw) (loose := []) (Xt := fun s => PySem.W.xlAt BXT.vw [] s && PySem.W.recOk [] s) (XP := PySem.W.XL BXT.vw []) (Yf := BXT.hk.obs) (Ya := BXT.hk.val) (YP := (PySem.W.kHook BXT.KK BXT.ads (fun _ => by kernel_rfl)).says) (N := 5026) (d := BXP.dAns) (kwd := []) BXT.left_ok BXT.hk.of BXT.hk.keeps (fun s e => PySem.W.xl_of s (Bool.and_eq_true_iff.mp e).1) PySem.W.XL.keeps (by kernel_rfl) (by kernel_rfl) (by kernel_rfl) (fun s e => PySem.W.recFacts_of (Bool.and_eq_true_iff.mp e).2) PySem.W.os_shapes (by decide +kernel) (by decide +kernel) ⟨rfl, rfl, rfl, rfl, rfl, by decide +kernel⟩ ?hw ?hc
  case hw => exact ⟨[.list [.int 0, .int 0, .int 0, .int 0, .int 0, .int 0, .int 0, .int 3, .int 0, .int 0, .int 0, .int 0, .int 0, .int 0, .int 0]], by decide +kernel, by decide +kernel⟩
  k_fillS
  refine BXH.walk_spec (k := 11) (x := "calls") (sp := BXP.sp_answers) (by decide) rfl ⟨rfl, by decide, by decide⟩ (fun w h Y => PySem.W.kIn_of Y) ?F (fun K H a ns hl ha _ _ hS => ⟨a, ns, rfl, hl, ha, hS, fun p H' e => ⟨p, rfl, e⟩⟩)
  case F =>
    intro w mg fa h KX G hmg
    refine' BXP.fin_mk (BXP.txt_mk KX G ?hg_Thing ?hpg_Thing ?hhd_Thing ?hpo_Thing ?hsa_Thing ?hmk_Thing ?hkc_Thing ?hn_Thing_least ?hn_Thing_wish ?hn_Thing_most ?hn_Thing_grow ?hn_Thing_give ?hg_Box ?hpg_Box ?hhd_Box ?hpo_Box ?hsa_Box ?hmk_Box ?hkc_Box ?hn_Box_rule ?hn_Box_lies_in ?hn_Box_depth ?hn_Box_inner ?hn_Box_place ?hg_Boxes ?hpg_Boxes ?hhd_Boxes ?hpo_Boxes ?hsa_Boxes ?hmk_Boxes ?hkc_Boxes ?hn_Boxes_by_number ?hg_Rule ?hpg_Rule ?hhd_Rule ?hpo_Rule ?hsa_Rule ?hmk_Rule ?hkc_Rule ?hn_Rule_least ?hn_Rule_wish ?hn_Rule_most ?hn_Rule_kind ?hn_Rule_pad ?hn_Rule_gap ?hn_Rule_grow ?hn_Rule_give ?hn_Rule_side ?hn_Rule_rest ?hn_Rule_none ?ha_Thing_init ?hi_Thing_init ?hl_Thing_init ?hc_Thing_init ?hk_Thing_init ?ha_shared_lengths ?hl_shared_lengths ?hc_shared_lengths ?hk_shared_lengths ?ha_fair_parts ?hl_fair_parts ?hc_fair_parts ?hk_fair_parts ?ha_full_ones ?hl_full_ones ?hc_full_ones ?hk_full_ones ?ha_changed_lengths ?hl_changed_lengths ?hc_changed_lengths ?hk_changed_lengths ?ha_natural_size ?hl_natural_size ?hc_natural_size ?hk_natural_size ?ha_natural_length ?hl_natural_length ?hc_natural_length ?hk_natural_length ?ha_content_length ?hl_content_length ?hc_content_length ?hk_content_length ?ha_all_gaps ?hl_all_gaps ?hc_all_gaps ?hk_all_gaps ?ha_inner_places ?hl_inner_places ?hc_inner_places ?hk_inner_places ?ha_inner_spans ?hl_inner_spans ?hc_inner_spans ?hk_inner_spans ?ha_room_in ?hl_room_in ?hc_room_in ?hk_room_in ?ha_thing_along ?hl_thing_along ?hc_thing_along ?hk_thing_along ?ha_spans_along ?hl_spans_along ?hc_spans_along ?hk_spans_along ?ha_rest_before ?hl_rest_before ?hc_rest_before ?hk_rest_before ?ha_span_by_side ?hl_span_by_side ?hc_span_by_side ?hk_span_by_side ?ha_Box_init ?hi_Box_init ?hl_Box_init ?hc_Box_init ?hk_Box_init ?ha_Box_holds_dot ?hi_Box_holds_dot ?hl_Box_holds_dot ?hc_Box_holds_dot ?hk_Box_holds_dot ?ha_Boxes_init ?hi_Boxes_init ?hl_Boxes_init ?hc_Boxes_init ?hk_Boxes_init ?ha_Boxes_bx_start ?hi_Boxes_bx_start ?hl_Boxes_bx_start ?hc_Boxes_bx_start ?hk_Boxes_bx_start ?ha_Boxes_bx_add ?hi_Boxes_bx_add ?hl_Boxes_bx_add ?hc_Boxes_bx_add ?hk_Boxes_bx_add ?ha_Boxes_bx_set ?hi_Boxes_bx_set ?hl_Boxes_bx_set ?hc_Boxes_bx_set ?hk_Boxes_bx_set ?ha_Boxes_bx_drop ?hi_Boxes_bx_drop ?hl_Boxes_bx_drop ?hc_Boxes_bx_drop ?hk_Boxes_bx_drop ?ha_Boxes_bx_lay ?hi_Boxes_bx_lay ?hl_Boxes_bx_lay ?hc_Boxes_bx_lay ?hk_Boxes_bx_lay ?ha_Boxes_bx_place ?hi_Boxes_bx_place ?hl_Boxes_bx_place ?hc_Boxes_bx_place ?hk_Boxes_bx_place ?ha_Boxes_bx_at ?hi_Boxes_bx_at ?hl_Boxes_bx_at ?hc_Boxes_bx_at ?hk_Boxes_bx_at ?ha_Boxes_place_out ?hi_Boxes_place_out ?hl_Boxes_place_out ?hc_Boxes_place_out ?hk_Boxes_place_out ?ha_Boxes_has_space_in ?hi_Boxes_has_space_in ?hl_Boxes_has_space_in ?hc_Boxes_has_space_in ?hk_Boxes_has_space_in ?ha_Boxes_least_free_number ?hi_Boxes_least_free_number ?hl_Boxes_least_free_number ?hc_Boxes_least_free_number ?hk_Boxes_least_free_number ?ha_Boxes_last_at ?hi_Boxes_last_at ?hl_Boxes_last_at ?hc_Boxes_last_at ?hk_Boxes_last_at ?ha_Boxes_places_in_window ?hi_Boxes_places_in_window ?hl_Boxes_places_in_window ?hc_Boxes_places_in_window ?hk_Boxes_places_in_window ?ha_Boxes_natural_sizes ?hi_Boxes_natural_sizes ?hl_Boxes_natural_sizes ?hc_Boxes_natural_sizes ?hk_Boxes_natural_sizes ?ha_Boxes_outer_before_inner ?hi_Boxes_outer_before_inner ?hl_Boxes_outer_before_inner ?hc_Boxes_outer_before_inner ?hk_Boxes_outer_before_inner ?ha_Rule_init ?hi_Rule_init ?hl_Rule_init ?hc_Rule_init ?hk_Rule_init ?ha_Rule_is_as_told ?hi_Rule_is_as_told ?hl_Rule_is_as_told ?hc_Rule_is_as_told ?hk_Rule_is_as_told ?ha_Rule_sizes_are_as_told ?hi_Rule_sizes_are_as_told ?hl_Rule_sizes_are_as_told ?hc_Rule_sizes_are_as_told ?hk_Rule_sizes_are_as_told ?ha_Rule_choices_are_as_told ?hi_Rule_choices_are_as_told ?hl_Rule_choices_are_as_told ?hc_Rule_choices_are_as_told ?hk_Rule_choices_are_as_told ?ha_Rule_is_leaf ?hi_Rule_is_leaf ?hl_Rule_is_leaf ?hc_Rule_is_leaf ?hk_Rule_is_leaf ?ha_Rule_is_along ?hi_Rule_is_along ?hl_Rule_is_along ?hc_Rule_is_along ?hk_Rule_is_along ?ha_answers ?hl_answers ?hc_answers ?hk_answers ?ha_answer_to ?hl_answer_to ?hc_answer_to ?hk_answer_to ?ha_number_for ?hl_number_for ?hc_number_for ?hk_number_for ?hg_ACROSS ?hg_DOWN ?hg_SIDE_FILLS ?hg_SIDE_BEGINNING ?hg_SIDE_MIDDLE ?hg_REST_BEHIND ?hg_REST_HALF ?hg_REST_BEFORE ?hg_NO_SUCH_BOX ?hg_NOT_LAID_OUT ?hg_NOT_ALLOWED ?hg_NOT_AS_TOLD ?hg_NO_MORE_FIT ?hg_MOST_BOXES ?hg_MOST_IN_ONE ?hg_MOST_DEEP ?hg_MOST_WINDOW ?hg_LEAF ?hg_GREATEST_SIDE ?hg_GREATEST_REST ?hg_BX_START ?hg_BX_ADD ?hg_BX_SET ?hg_BX_DROP ?hg_BX_LAY ?hg_BX_PLACE ?hg_HOW_MANY_NUMBERS ?hl_HOW_MANY_NUMBERS ?hg_FORM_NUMBER ?hg_FORM_PLACE ?hb_sum ?hb_list ?hb_range ?hb_len ?hb_min ?hb_max ?hb_reversed ?hb_dict ?hb_zip) hmg
    (case hg_Thing => k_is)
    (case hpg_Thing => k_is)
    (case hhd_Thing => k_is)
    (case hpo_Thing => k_is)
    (case hsa_Thing => k_is)
    (case hmk_Thing => k_is)
    (case hkc_Thing => k_is)
    (case hn_Thing_least => k_is)
    (case hn_Thing_wish => k_is)
    (case hn_Thing_most => k_is)
    (case hn_Thing_grow => k_is)
    (case hn_Thing_give => k_is)
    (case hg_Box => k_is)
    (case hpg_Box => k_is)
    (case hhd_Box => k_is)
    (case hpo_Box => k_is)
    (case hsa_Box => k_is)
    (case hmk_Box => k_is)
    (case hkc_Box => k_is)
    (case hn_Box_rule => k_is)
    (case hn_Box_lies_in => k_is)
    (case hn_Box_depth => k_is)
    (case hn_Box_inner => k_is)
    (case hn_Box_place => k_is)
    (case hg_Boxes => k_is)
    (case hpg_Boxes => k_is)
    (case hhd_Boxes => k_is)
    (case hpo_Boxes => k_is)
    (case hsa_Boxes => k_is)
    (case hmk_Boxes => k_is)
    (case hkc_Boxes => k_is)
    (case hn_Boxes_by_number => k_is)
    (case hg_Rule => k_is)
    (case hpg_Rule => k_is)
    (case hhd_Rule => k_is)
    (case hpo_Rule => k_is)
    (case hsa_Rule => k_is)
    (case hmk_Rule => k_is)
    (case hkc_Rule => k_is)
    (case hn_Rule_least => k_is)
    (case hn_Rule_wish => k_is)
    (case hn_Rule_most => k_is)
    (case hn_Rule_kind => k_is)
    (case hn_Rule_pad => k_is)
    (case hn_Rule_gap => k_is)
    (case hn_Rule_grow => k_is)
    (case hn_Rule_give => k_is)
    (case hn_Rule_side => k_is)
    (case hn_Rule_rest => k_is)
    (case hn_Rule_none => k_is)
    (case ha_Thing_init => k_is)
    (case hi_Thing_init => k_is)
    (case hl_Thing_init => k_is)
    (case hc_Thing_init => k_is)
    (case hk_Thing_init => k_is)
    (case ha_shared_lengths => k_is)
    (case hl_shared_lengths => k_is)
    (case hc_shared_lengths => k_is)
    (case hk_shared_lengths => k_is)
    (case ha_fair_parts => k_is)
    (case hl_fair_parts => k_is)
    (case hc_fair_parts => k_is)
    (case hk_fair_parts => k_is)
    (case ha_full_ones => k_is)
    (case hl_full_ones => k_is)
    (case hc_full_ones => k_is)
    (case hk_full_ones => k_is)
    (case ha_changed_lengths => k_is)
    (case hl_changed_lengths => k_is)
    (case hc_changed_lengths => k_is)
    (case hk_changed_lengths => k_is)
    (case ha_natural_size => k_is)
    (case hl_natural_size => k_is)
    (case hc_natural_size => k_is)
    (case hk_natural_size => k_is)
    (case ha_natural_length => k_is)
    (case hl_natural_length => k_is)
    (case hc_natural_length => k_is)
    (case hk_natural_length => k_is)
    (case ha_content_length => k_is)
    (case hl_content_length => k_is)
    (case hc_content_length => k_is)
    (case hk_content_length => k_is)
    (case ha_all_gaps => k_is)
    (case hl_all_gaps => k_is)
    (case hc_all_gaps => k_is)
    (case hk_all_gaps => k_is)
    (case ha_inner_places => k_is)
    (case hl_inner_places => k_is)
    (case hc_inner_places => k_is)
    (case hk_inner_places => k_is)
    (case ha_inner_spans => k_is)
    (case hl_inner_spans => k_is)
    (case hc_inner_spans => k_is)
    (case hk_inner_spans => k_is)
    (case ha_room_in => k_is)
    (case hl_room_in => k_is)
    (case hc_room_in => k_is)
    (case hk_room_in => k_is)
    (case ha_thing_along => k_is)
    (case hl_thing_along => k_is)
    (case hc_thing_along => k_is)
    (case hk_thing_along => k_is)
    (case ha_spans_along => k_is)
    (case hl_spans_along => k_is)
    (case hc_spans_along => k_is)
    (case hk_spans_along => k_is)
    (case ha_rest_before => k_is)
    (case hl_rest_before => k_is)
    (case hc_rest_before => k_is)
    (case hk_rest_before => k_is)
    (case ha_span_by_side => k_is)
    (case hl_span_by_side => k_is)
    (case hc_span_by_side => k_is)
    (case hk_span_by_side => k_is)
    (case ha_Box_init => k_is)
    (case hi_Box_init => k_is)
    (case hl_Box_init => k_is)
    (case hc_Box_init => k_is)
    (case hk_Box_init => k_is)
    (case ha_Box_holds_dot => k_is)
    (case hi_Box_holds_dot => k_is)
    (case hl_Box_holds_dot => k_is)
    (case hc_Box_holds_dot => k_is)
    (case hk_Box_holds_dot => k_is)
    (case ha_Boxes_init => k_is)
    (case hi_Boxes_init => k_is)
    (case hl_Boxes_init => k_is)
    (case hc_Boxes_init => k_is)
    (case hk_Boxes_init => k_is)
    (case ha_Boxes_bx_start => k_is)
    (case hi_Boxes_bx_start => k_is)
    (case hl_Boxes_bx_start => k_is)
    (case hc_Boxes_bx_start => k_is)
    (case hk_Boxes_bx_start => k_is)
    (case ha_Boxes_bx_add => k_is)
    (case hi_Boxes_bx_add => k_is)
    (case hl_Boxes_bx_add => k_is)
    (case hc_Boxes_bx_add => k_is)
    (case hk_Boxes_bx_add => k_is)
    (case ha_Boxes_bx_set => k_is)
    (case hi_Boxes_bx_set => k_is)
    (case hl_Boxes_bx_set => k_is)
    (case hc_Boxes_bx_set => k_is)
    (case hk_Boxes_bx_set => k_is)
    (case ha_Boxes_bx_drop => k_is)
    (case hi_Boxes_bx_drop => k_is)
    (case hl_Boxes_bx_drop => k_is)
    (case hc_Boxes_bx_drop => k_is)
    (case hk_Boxes_bx_drop => k_is)
    (case ha_Boxes_bx_lay => k_is)
    (case hi_Boxes_bx_lay => k_is)
    (case hl_Boxes_bx_lay => k_is)
    (case hc_Boxes_bx_lay => k_is)
    (case hk_Boxes_bx_lay => k_is)
    (case ha_Boxes_bx_place => k_is)
    (case hi_Boxes_bx_place => k_is)
    (case hl_Boxes_bx_place => k_is)
    (case hc_Boxes_bx_place => k_is)
    (case hk_Boxes_bx_place => k_is)
    (case ha_Boxes_bx_at => k_is)
    (case hi_Boxes_bx_at => k_is)
    (case hl_Boxes_bx_at => k_is)
    (case hc_Boxes_bx_at => k_is)
    (case hk_Boxes_bx_at => k_is)
    (case ha_Boxes_place_out => k_is)
    (case hi_Boxes_place_out => k_is)
    (case hl_Boxes_place_out => k_is)
    (case hc_Boxes_place_out => k_is)
    (case hk_Boxes_place_out => k_is)
    (case ha_Boxes_has_space_in => k_is)
    (case hi_Boxes_has_space_in => k_is)
    (case hl_Boxes_has_space_in => k_is)
    (case hc_Boxes_has_space_in => k_is)
    (case hk_Boxes_has_space_in => k_is)
    (case ha_Boxes_least_free_number => k_is)
    (case hi_Boxes_least_free_number => k_is)
    (case hl_Boxes_least_free_number => k_is)
    (case hc_Boxes_least_free_number => k_is)
    (case hk_Boxes_least_free_number => k_is)
    (case ha_Boxes_last_at => k_is)
    (case hi_Boxes_last_at => k_is)
    (case hl_Boxes_last_at => k_is)
    (case hc_Boxes_last_at => k_is)
    (case hk_Boxes_last_at => k_is)
    (case ha_Boxes_places_in_window => k_is)
    (case hi_Boxes_places_in_window => k_is)
    (case hl_Boxes_places_in_window => k_is)
    (case hc_Boxes_places_in_window => k_is)
    (case hk_Boxes_places_in_window => k_is)
    (case ha_Boxes_natural_sizes => k_is)
    (case hi_Boxes_natural_sizes => k_is)
    (case hl_Boxes_natural_sizes => k_is)
    (case hc_Boxes_natural_sizes => k_is)
    (case hk_Boxes_natural_sizes => k_is)
    (case ha_Boxes_outer_before_inner => k_is)
    (case hi_Boxes_outer_before_inner => k_is)
    (case hl_Boxes_outer_before_inner => k_is)
    (case hc_Boxes_outer_before_inner => k_is)
    (case hk_Boxes_outer_before_inner => k_is)
    (case ha_Rule_init => k_is)
    (case hi_Rule_init => k_is)
    (case hl_Rule_init => k_is)
    (case hc_Rule_init => k_is)
    (case hk_Rule_init => k_is)
    (case ha_Rule_is_as_told => k_is)
    (case hi_Rule_is_as_told => k_is)
    (case hl_Rule_is_as_told => k_is)
    (case hc_Rule_is_as_told => k_is)
    (case hk_Rule_is_as_told => k_is)
    (case ha_Rule_sizes_are_as_told => k_is)
    (case hi_Rule_sizes_are_as_told => k_is)
    (case hl_Rule_sizes_are_as_told => k_is)
    (case hc_Rule_sizes_are_as_told => k_is)
    (case hk_Rule_sizes_are_as_told => k_is)
    (case ha_Rule_choices_are_as_told => k_is)
    (case hi_Rule_choices_are_as_told => k_is)
    (case hl_Rule_choices_are_as_told => k_is)
    (case hc_Rule_choices_are_as_told => k_is)
    (case hk_Rule_choices_are_as_told => k_is)
    (case ha_Rule_is_leaf => k_is)
    (case hi_Rule_is_leaf => k_is)
    (case hl_Rule_is_leaf => k_is)
    (case hc_Rule_is_leaf => k_is)
    (case hk_Rule_is_leaf => k_is)
    (case ha_Rule_is_along => k_is)
    (case hi_Rule_is_along => k_is)
    (case hl_Rule_is_along => k_is)
    (case hc_Rule_is_along => k_is)
    (case hk_Rule_is_along => k_is)
    (case ha_answers => k_is)
    (case hl_answers => k_is)
    (case hc_answers => k_is)
    (case hk_answers => k_is)
    (case ha_answer_to => k_is)
    (case hl_answer_to => k_is)
    (case hc_answer_to => k_is)
    (case hk_answer_to => k_is)
    (case ha_number_for => k_is)
    (case hl_number_for => k_is)
    (case hc_number_for => k_is)
    (case hk_number_for => k_is)
    (case hg_ACROSS => k_is)
    (case hg_DOWN => k_is)
    (case hg_SIDE_FILLS => k_is)
    (case hg_SIDE_BEGINNING => k_is)
    (case hg_SIDE_MIDDLE => k_is)
    (case hg_REST_BEHIND => k_is)
    (case hg_REST_HALF => k_is)
    (case hg_REST_BEFORE => k_is)
    (case hg_NO_SUCH_BOX => k_is)
    (case hg_NOT_LAID_OUT => k_is)
    (case hg_NOT_ALLOWED => k_is)
    (case hg_NOT_AS_TOLD => k_is)
    (case hg_NO_MORE_FIT => k_is)
    (case hg_MOST_BOXES => k_is)
    (case hg_MOST_IN_ONE => k_is)
    (case hg_MOST_DEEP => k_is)
    (case hg_MOST_WINDOW => k_is)
    (case hg_LEAF => k_is)
    (case hg_GREATEST_SIDE => k_is)
    (case hg_GREATEST_REST => k_is)
    (case hg_BX_START => k_is)
    (case hg_BX_ADD => k_is)
    (case hg_BX_SET => k_is)
    (case hg_BX_DROP => k_is)
    (case hg_BX_LAY => k_is)
    (case hg_BX_PLACE => k_is)
    (case hg_HOW_MANY_NUMBERS => k_is)
    (case hl_HOW_MANY_NUMBERS => k_is)
    (case hg_FORM_NUMBER => k_is)
    (case hg_FORM_PLACE => k_is)
    (case hb_sum => k_is)
    (case hb_list => k_is)
    (case hb_range => k_is)
    (case hb_len => k_is)
    (case hb_min => k_is)
    (case hb_max => k_is)
    (case hb_reversed => k_is)
    (case hb_dict => k_is)
    (case hb_zip => k_is)
#print axioms PySem.Challenge.cw_dotboxes_s01_answers_holds
