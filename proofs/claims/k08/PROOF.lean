import PyProof.Rows.All
import Wide.All
import OpenK.AllK
import Wide.FinOn
import Lean
import PyProof.EqAt
import PyProof.EqKinds
import PyProof.TupleCall
import PyProof.Rows.SortStr
import OpenK.KMore
import PyProof.Rows.SetFrom
import PyProof.CollectWalk
import KE.KDictList
import PyProof.SumAny
import KE.KItemsList
import KE.KRevIter
import KE.KDictLaws
import PySem.Challenge.RW_tallyhall_k08_whole_ring_told
set_option Elab.async false
set_option linter.all false
set_option Elab.async false
set_option linter.all false
set_option maxRecDepth 100000
namespace L2
open PySem PySem.Spec PyProof.Rows
def inClass(s:Stmt)(j:Nat):Stmt:=match s with
 | .ClassDef _ _ _ body _ _ _ _ _ _ _=>body.getD j (.Pass ⟨0,0,0,0⟩)
 | _=>.Pass ⟨0,0,0,0⟩
def Y5(s:Stmt):Arguments:=match s with
 | .FunctionDef _ a _ _ _ _ _ _ _ _=>a
 | _=>{ posonlyargs:=[],args:=[],vararg:=none,kwonlyargs:=[],kw_defaults:=[],kwarg:=none,defaults:=[] }
def U2(s:Stmt):List Stmt:=match s with
 | .FunctionDef _ _ b _ _ _ _ _ _ _=>b
 | _=>[]
def i4(s:Stmt):Scope:=match s with
 | .FunctionDef _ _ _ _ _ _ sc _ _ _=>sc
 | _=>{ kind:=.function,names:=[],isGenerator:=false,isCoroutine:=false }
end L2
namespace My
open PySem PySem.Spec PyProof.Rows L2
set_option maxRecDepth 100000
def top(i:Nat):Stmt:=PySem.Challenge.pw_tallyhall_k08_whole_ring_told.main.body.getD i (.Pass ⟨0,0,0,0⟩)
abbrev a1i:Stmt:=top 6
abbrev a4c:Stmt:=top 7
abbrev R9:Stmt:=top 8
abbrev Z4:Stmt:=top 9
abbrev a0e:Stmt:=top 13
abbrev W6:Stmt:=top 14
abbrev X3:Stmt:=top 15
abbrev X0:Stmt:=top 16
abbrev a9j:Stmt:=top 18
abbrev a0f:Stmt:=top 19
abbrev a9v:Stmt:=top 20
abbrev a8p:Stmt:=top 22
abbrev N8:Stmt:=inClass (top 23) 0
abbrev Q6:Stmt:=inClass (top 23) 1
abbrev Q2:Stmt:=inClass (top 24) 0
abbrev U4:Stmt:=inClass (top 24) 1
abbrev W3:Stmt:=inClass (top 24) 2
abbrev Z1:Stmt:=inClass (top 24) 3
abbrev a8b:Stmt:=inClass (top 24) 4
abbrev W7:Stmt:=inClass (top 24) 5
abbrev a7b:Stmt:=inClass (top 24) 6
abbrev P2:Stmt:=inClass (top 24) 7
abbrev W8:Stmt:=inClass (top 24) 8
abbrev a3b:Stmt:=inClass (top 24) 9
abbrev T6:Stmt:=top 26
abbrev N6:Stmt:=top 27
abbrev a3c:Stmt:=top 28
abbrev Z8:Stmt:=top 29
abbrev a5i:Stmt:=top 30
abbrev a8a:Stmt:=top 32
abbrev U8:Stmt:=top 33
abbrev Q7:Stmt:=top 34
abbrev X5:Stmt:=top 35
abbrev a6c:Stmt:=top 36
abbrev Z5:Stmt:=top 37
abbrev a7a:Stmt:=top 38
abbrev W2:Stmt:=top 39
abbrev a9b:Stmt:=top 40
abbrev a1c:Stmt:=top 41
abbrev Q0:Stmt:=top 42
abbrev Z6:Stmt:=top 43
abbrev X1:Stmt:=top 44
abbrev V9:Stmt:=top 45
abbrev P3:Stmt:=top 46
abbrev P9:Stmt:=top 47
structure A5 where
 f_in_both:Addr
 d_in_both:FuncData
 f_links_for:Addr
 d_links_for:FuncData
 f_links_between:Addr
 d_links_between:FuncData
 f_links_with:Addr
 d_links_with:FuncData
 f_links_by:Addr
 d_links_by:FuncData
 f_longest_row:Addr
 d_longest_row:FuncData
 f_ring_behind:Addr
 d_ring_behind:FuncData
 f_row_or_ring:Addr
 d_row_or_ring:FuncData
 f_reached:Addr
 d_reached:FuncData
 f_value_at:Addr
 d_value_at:FuncData
 f_swept:Addr
 d_swept:FuncData
 f_turned:Addr
 d_turned:FuncData
 f_Dealing___init__:Addr
 d_Dealing___init__:FuncData
 f_Dealing_record:Addr
 d_Dealing_record:FuncData
 f_Tally___init__:Addr
 d_Tally___init__:FuncData
 f_Tally_moment:Addr
 d_Tally_moment:FuncData
 f_Tally_begin:Addr
 d_Tally_begin:FuncData
 f_Tally_look:Addr
 d_Tally_look:FuncData
 f_Tally_put:Addr
 d_Tally_put:FuncData
 f_Tally_leave:Addr
 d_Tally_leave:FuncData
 f_Tally_end:Addr
 d_Tally_end:FuncData
 f_Tally_take_over:Addr
 d_Tally_take_over:FuncData
 f_Tally_sweep:Addr
 d_Tally_sweep:FuncData
 f_Tally_amounts:Addr
 d_Tally_amounts:FuncData
 f_answer_to_end:Addr
 d_answer_to_end:FuncData
 f_answer_under_way:Addr
 d_answer_under_way:FuncData
 f_answer_to:Addr
 d_answer_to:FuncData
 f_answers_at:Addr
 d_answers_at:FuncData
 f_answers:Addr
 d_answers:FuncData
 f__law_whole:Addr
 d__law_whole:FuncData
 f__law_is_link:Addr
 d__law_is_link:FuncData
 f__law_are_links:Addr
 d__law_are_links:FuncData
 f__law_closes:Addr
 d__law_closes:FuncData
 f__law_ware:Addr
 d__law_ware:FuncData
 f__law_deeds:Addr
 d__law_deeds:FuncData
 f__law_ended:Addr
 d__law_ended:FuncData
 f__law_walked:Addr
 d__law_walked:FuncData
 f__law_true:Addr
 d__law_true:FuncData
 f__law_same:Addr
 d__law_same:FuncData
 f__law_in_a_ring:Addr
 d__law_in_a_ring:FuncData
 f__law_mixed:Addr
 d__law_mixed:FuncData
 f__law_linked:Addr
 d__law_linked:FuncData
 f__law_ringed:Addr
 d__law_ringed:FuncData
 f__law_ends_right:Addr
 d__law_ends_right:FuncData
 f_law:Addr
 d_law:FuncData
 v_NUMBER:Value
 v_BEGAN:Value
 v_ENDED:Value
 v_LOOKED:Value
 v_PUT:Value
 v_ONE:Value
 v_OTHER:Value
 C_Dealing:Addr
 C_Tally:Addr
noncomputable section
def a4V(s:Stmt):Pos:=match s with
 | .FunctionDef _ _ _ _ _ _ _ _ _ p=>p
 | _=>⟨0,0,0,0⟩
abbrev hF(n q:Str)(s:Stmt)(m:Str)(t c:Nat):FuncData:=PySem.W.fnOf n q (Y5 s) (U2 s) (i4 s) .none .none .none (.str m t) none (.ref c) .none
def hO(d:FuncData):Obj:=⟨.type "function",none,.func d,#[]⟩
def hC(n q:Str)(t l a f r k r2:Nat)(x y:Value)(r3 i j:Nat):Obj:=⟨.type "code",none,.fields ⟨[.str n t,.str q (t+1),.str "/claim/cut.py" (t+2),.int l 0,.int a 0,.int 0 0,.int 0 0,.int f 0,.ref r,.bool true,.int k 0,.ref r2,.none,x,y,.ref r3,.int i 0,.int l 0,.str "/claim/cut.py" j]⟩,#[]⟩
def hI(n:Str)(t:Nat)(v:Value):Str×Nat×Value:=(n,t,v)
def hD(P:Params)(e:Nat)(l:List (Str×Nat×Value)):Obj:=⟨.type "dict",none,.dict ⟨l.map fun x=>⟨PyData.keyHash P x.1,.str x.1 x.2.1,x.2.2⟩⟩ e,#[]⟩
def hK(n:Str)(a s t u:Nat):Obj:=⟨.type "type",none,.cls { name:=n,bases:=[.type "object"],mro:=[.ref a,.type "object"],ns:=s,qualname:=n },⟨[none,none,some (.str n t),some (.str n u),some (.builtin "object.__new__"),some (.bool true)]⟩⟩
def hT:A5:=⟨21,hF "in_both" "in_both" a1i "tallyhall.links" 187 20,
 26,hF "links_for" "links_for" a4c "tallyhall.links" 187 25,
 33,hF "links_between" "links_between" R9 "tallyhall.links" 187 32,
 40,hF "links_with" "links_with" Z4 "tallyhall.links" 187 39,
 47,hF "links_by" "links_by" a0e "tallyhall.rows" 232 46,
 52,hF "longest_row" "longest_row" W6 "tallyhall.rows" 232 51,
 59,hF "ring_behind" "ring_behind" X3 "tallyhall.rows" 232 58,
 64,hF "row_or_ring" "row_or_ring" X0 "tallyhall.rows" 232 63,
 69,hF "reached" "reached" a9j "tallyhall.versions" 274 68,
 76,hF "value_at" "value_at" a0f "tallyhall.versions" 274 75,
 83,hF "swept" "swept" a9v "tallyhall.versions" 274 82,
 88,hF "turned" "turned" a8p "tallyhall.tally" 300 87,
 102,hF "__init__" "Dealing.__init__" N8 "tallyhall.tally" 300 101,
 109,hF "record" "Dealing.record" Q6 "tallyhall.tally" 300 108,
 130,hF "__init__" "Tally.__init__" Q2 "tallyhall.tally" 300 129,
 137,hF "moment" "Tally.moment" U4 "tallyhall.tally" 300 136,
 144,hF "begin" "Tally.begin" W3 "tallyhall.tally" 300 143,
 151,hF "look" "Tally.look" Z1 "tallyhall.tally" 300 150,
 158,hF "put" "Tally.put" a8b "tallyhall.tally" 300 157,
 165,hF "leave" "Tally.leave" W7 "tallyhall.tally" 300 164,
 170,hF "end" "Tally.end" a7b "tallyhall.tally" 300 169,
 177,hF "take_over" "Tally.take_over" P2 "tallyhall.tally" 300 176,
 182,hF "sweep" "Tally.sweep" W8 "tallyhall.tally" 300 181,
 187,hF "amounts" "Tally.amounts" a3b "tallyhall.tally" 300 186,
 201,hF "answer_to_end" "answer_to_end" T6 "tallyhall.day" 454 200,
 208,hF "answer_under_way" "answer_under_way" N6 "tallyhall.day" 454 207,
 215,hF "answer_to" "answer_to" a3c "tallyhall.day" 454 214,
 222,hF "answers_at" "answers_at" Z8 "tallyhall.day" 454 221,
 229,hF "answers" "answers" a5i "tallyhall.day" 454 228,
 236,hF "_law_whole" "_law_whole" a8a "law_tallyhall_k08_whole_ring_told" 499 235,
 243,hF "_law_is_link" "_law_is_link" U8 "law_tallyhall_k08_whole_ring_told" 499 242,
 250,hF "_law_are_links" "_law_are_links" Q7 "law_tallyhall_k08_whole_ring_told" 499 249,
 257,hF "_law_closes" "_law_closes" X5 "law_tallyhall_k08_whole_ring_told" 499 256,
 264,hF "_law_ware" "_law_ware" a6c "law_tallyhall_k08_whole_ring_told" 499 263,
 271,hF "_law_deeds" "_law_deeds" Z5 "law_tallyhall_k08_whole_ring_told" 499 270,
 278,hF "_law_ended" "_law_ended" a7a "law_tallyhall_k08_whole_ring_told" 499 277,
 285,hF "_law_walked" "_law_walked" W2 "law_tallyhall_k08_whole_ring_told" 499 284,
 292,hF "_law_true" "_law_true" a9b "law_tallyhall_k08_whole_ring_told" 499 291,
 299,hF "_law_same" "_law_same" a1c "law_tallyhall_k08_whole_ring_told" 499 298,
 306,hF "_law_in_a_ring" "_law_in_a_ring" Q0 "law_tallyhall_k08_whole_ring_told" 499 305,
 313,hF "_law_mixed" "_law_mixed" Z6 "law_tallyhall_k08_whole_ring_told" 499 312,
 318,hF "_law_linked" "_law_linked" X1 "law_tallyhall_k08_whole_ring_told" 499 317,
 325,hF "_law_ringed" "_law_ringed" V9 "law_tallyhall_k08_whole_ring_told" 499 324,
 332,hF "_law_ends_right" "_law_ends_right" P3 "law_tallyhall_k08_whole_ring_told" 499 331,
 339,hF "law" "law" P9 "law_tallyhall_k08_whole_ring_told" 499 338,
 (.int 0 189),
 (.int 1 191),
 (.int 2 193),
 (.int 3 195),
 (.int 4 197),
 (.int 0 234),
 (.int 1 236),
 112,
 190⟩
def hAS:List Nat:=[3,20,21,25,26,32,33,39,40,46,47,51,52,58,59,63,64,68,69,75,76,82,83,87,88,101,102,108,109,111,112,129,130,136,137,143,144,150,151,157,158,164,165,169,170,176,177,181,182,186,187,189,190,200,201,207,208,214,215,221,222,228,229,235,236,242,243,249,250,256,257,263,264,270,271,277,278,284,285,291,292,298,299,305,306,312,313,317,318,324,325,331,332,338,339]
def KK(P:Params):PySem.W.Frag:=[(3,hD P 51 [hI "__name__" 165 (.str "law_tallyhall_k08_whole_ring_told" 499),hI "__doc__" 166 .none,hI "__package__" 167 .none,hI "__loader__" 168 (.builtin "__main__.__loader__#opaque"),hI "__spec__" 169 .none,hI "__annotations__" 170 (.ref 6),hI "__builtins__" 171 (.ref 4),hI "__file__" 173 (.str "/claim/cut.py" 172),hI "__cached__" 174 .none,hI "NUMBER" 190 (.int 0 189),hI "BEGAN" 192 (.int 1 191),hI "ENDED" 194 (.int 2 193),hI "LOOKED" 196 (.int 3 195),hI "PUT" 198 (.int 4 197),hI "in_both" 206 (.ref 21),hI "links_for" 212 (.ref 26),hI "links_between" 221 (.ref 33),hI "links_with" 231 (.ref 40),hI "ONE" 235 (.int 0 234),hI "OTHER" 237 (.int 1 236),hI "links_by" 249 (.ref 47),hI "longest_row" 255 (.ref 52),hI "ring_behind" 267 (.ref 59),hI "row_or_ring" 273 (.ref 64),hI "reached" 281 (.ref 69),hI "value_at" 290 (.ref 76),hI "swept" 299 (.ref 83),hI "turned" 307 (.ref 88),hI "Dealing" 348 (.ref 112),hI "Tally" 453 (.ref 190),hI "answer_to_end" 464 (.ref 201),hI "answer_under_way" 473 (.ref 208),hI "answer_to" 481 (.ref 215),hI "answers_at" 491 (.ref 222),hI "answers" 498 (.ref 229),hI "_law_whole" 507 (.ref 236),hI "_law_is_link" 514 (.ref 243),hI "_law_are_links" 522 (.ref 250),hI "_law_closes" 531 (.ref 257),hI "_law_ware" 540 (.ref 264),hI "_law_deeds" 564 (.ref 271),hI "_law_ended" 571 (.ref 278),hI "_law_walked" 589 (.ref 285),hI "_law_true" 599 (.ref 292),hI "_law_same" 610 (.ref 299),hI "_law_in_a_ring" 621 (.ref 306),hI "_law_mixed" 630 (.ref 313),hI "_law_linked" 636 (.ref 318),hI "_law_ringed" 647 (.ref 325),hI "_law_ends_right" 658 (.ref 332),hI "law" 675 (.ref 339)]),
 (20,hC "in_both" "in_both" 199 7 2 3 15 181 16 (.ref 17) (.ref 18) 19 204 205),
 (21,hO hT.d_in_both),
 (25,hC "links_for" "links_for" 207 9 4 3 22 181 23 .none .none 24 210 211),
 (26,hO hT.d_links_for),
 (32,hC "links_between" "links_between" 213 11 2 3 27 181 28 (.ref 29) (.ref 30) 31 219 220),
 (33,hO hT.d_links_between),
 (39,hC "links_with" "links_with" 222 20 2 3 34 181 35 (.ref 36) (.ref 37) 38 229 230),
 (40,hO hT.d_links_with),
 (46,hC "links_by" "links_by" 238 29 3 3 41 181 42 (.ref 43) (.ref 44) 45 247 248),
 (47,hO hT.d_links_by),
 (51,hC "longest_row" "longest_row" 250 36 2 3 48 181 49 .none .none 50 253 254),
 (52,hO hT.d_longest_row),
 (58,hC "ring_behind" "ring_behind" 256 53 1 3 53 181 54 (.ref 55) (.ref 56) 57 265 266),
 (59,hO hT.d_ring_behind),
 (63,hC "row_or_ring" "row_or_ring" 268 65 2 3 60 181 61 .none .none 62 271 272),
 (64,hO hT.d_row_or_ring),
 (68,hC "reached" "reached" 276 74 2 3 65 181 66 .none .none 67 279 280),
 (69,hO hT.d_reached),
 (75,hC "value_at" "value_at" 282 76 2 3 70 181 71 (.ref 72) (.ref 73) 74 288 289),
 (76,hO hT.d_value_at),
 (82,hC "swept" "swept" 291 81 2 3 77 181 78 (.ref 79) (.ref 80) 81 297 298),
 (83,hO hT.d_swept),
 (87,hC "turned" "turned" 302 85 2 3 84 181 85 .none .none 86 305 306),
 (88,hO hT.d_turned),
 (101,hC "__init__" "Dealing.__init__" 320 90 3 3 96 181 97 (.ref 98) (.ref 99) 100 326 327),
 (102,hO hT.d_Dealing___init__),
 (108,hC "record" "Dealing.record" 329 96 2 3 103 181 104 (.ref 105) (.ref 106) 107 334 335),
 (109,hO hT.d_Dealing_record),
 (111,hD P 4 [hI "__module__" 315 (.str "tallyhall.tally" 300),hI "__firstlineno__" 319 (.int 88 318),hI "__init__" 328 (.ref 102),hI "record" 336 (.ref 109),hI "__static_attributes__" 341 (.ref 110),hI "__dict__" 343 (.ref 113),hI "__weakref__" 345 (.ref 114),hI "__doc__" 346 .none]),
 (112,hK "Dealing" 112 111 308 316),
 (129,hC "__init__" "Tally.__init__" 361 100 1 3 124 181 125 (.ref 126) (.ref 127) 128 365 366),
 (130,hO hT.d_Tally___init__),
 (136,hC "moment" "Tally.moment" 368 108 1 3 131 181 132 (.ref 133) (.ref 134) 135 372 373),
 (137,hO hT.d_Tally_moment),
 (143,hC "begin" "Tally.begin" 375 111 1 3 138 181 139 (.ref 140) (.ref 141) 142 380 381),
 (144,hO hT.d_Tally_begin),
 (150,hC "look" "Tally.look" 383 117 3 3 145 181 146 (.ref 147) (.ref 148) 149 390 391),
 (151,hO hT.d_Tally_look),
 (157,hC "put" "Tally.put" 393 124 4 3 152 181 153 (.ref 154) (.ref 155) 156 401 402),
 (158,hO hT.d_Tally_put),
 (164,hC "leave" "Tally.leave" 404 128 2 3 159 181 160 (.ref 161) (.ref 162) 163 409 410),
 (165,hO hT.d_Tally_leave),
 (169,hC "end" "Tally.end" 412 131 2 3 166 181 167 .none .none 168 415 416),
 (170,hO hT.d_Tally_end),
 (176,hC "take_over" "Tally.take_over" 418 144 2 3 171 181 172 (.ref 173) (.ref 174) 175 425 426),
 (177,hO hT.d_Tally_take_over),
 (181,hC "sweep" "Tally.sweep" 428 148 1 3 178 181 179 .none .none 180 431 432),
 (182,hO hT.d_Tally_sweep),
 (186,hC "amounts" "Tally.amounts" 434 158 1 3 183 181 184 .none .none 185 437 438),
 (187,hO hT.d_Tally_amounts),
 (189,hD P 4 [hI "__module__" 356 (.str "tallyhall.tally" 300),hI "__firstlineno__" 360 (.int 98 359),hI "__init__" 367 (.ref 130),hI "moment" 374 (.ref 137),hI "begin" 382 (.ref 144),hI "look" 392 (.ref 151),hI "put" 403 (.ref 158),hI "leave" 411 (.ref 165),hI "end" 417 (.ref 170),hI "take_over" 427 (.ref 177),hI "sweep" 433 (.ref 182),hI "amounts" 439 (.ref 187),hI "__static_attributes__" 446 (.ref 188),hI "__dict__" 448 (.ref 191),hI "__weakref__" 450 (.ref 192),hI "__doc__" 451 .none]),
 (190,hK "Tally" 190 189 349 357),
 (200,hC "answer_to_end" "answer_to_end" 456 161 2 3 195 181 196 (.ref 197) (.ref 198) 199 462 463),
 (201,hO hT.d_answer_to_end),
 (207,hC "answer_under_way" "answer_under_way" 465 166 2 3 202 181 203 (.ref 204) (.ref 205) 206 471 472),
 (208,hO hT.d_answer_under_way),
 (214,hC "answer_to" "answer_to" 474 177 2 3 209 181 210 (.ref 211) (.ref 212) 213 479 480),
 (215,hO hT.d_answer_to),
 (221,hC "answers_at" "answers_at" 482 185 2 3 216 181 217 (.ref 218) (.ref 219) 220 489 490),
 (222,hO hT.d_answers_at),
 (228,hC "answers" "answers" 492 190 1 3 223 181 224 (.ref 225) (.ref 226) 227 496 497),
 (229,hO hT.d_answers),
 (235,hC "_law_whole" "_law_whole" 501 193 1 3 230 181 231 (.ref 232) (.ref 233) 234 505 506),
 (236,hO hT.d__law_whole),
 (242,hC "_law_is_link" "_law_is_link" 508 195 1 3 237 181 238 (.ref 239) (.ref 240) 241 512 513),
 (243,hO hT.d__law_is_link),
 (249,hC "_law_are_links" "_law_are_links" 515 201 1 3 244 181 245 (.ref 246) (.ref 247) 248 520 521),
 (250,hO hT.d__law_are_links),
 (256,hC "_law_closes" "_law_closes" 523 208 1 3 251 181 252 (.ref 253) (.ref 254) 255 529 530),
 (257,hO hT.d__law_closes),
 (263,hC "_law_ware" "_law_ware" 532 215 2 3 258 181 259 (.ref 260) (.ref 261) 262 538 539),
 (264,hO hT.d__law_ware),
 (270,hC "_law_deeds" "_law_deeds" 541 218 1 3 265 181 266 (.ref 267) (.ref 268) 269 562 563),
 (271,hO hT.d__law_deeds),
 (277,hC "_law_ended" "_law_ended" 565 256 1 3 272 181 273 (.ref 274) (.ref 275) 276 569 570),
 (278,hO hT.d__law_ended),
 (284,hC "_law_walked" "_law_walked" 572 258 2 3 279 181 280 (.ref 281) (.ref 282) 283 587 588),
 (285,hO hT.d__law_walked),
 (291,hC "_law_true" "_law_true" 590 285 3 3 286 181 287 (.ref 288) (.ref 289) 290 597 598),
 (292,hO hT.d__law_true),
 (298,hC "_law_same" "_law_same" 600 294 2 3 293 181 294 (.ref 295) (.ref 296) 297 608 609),
 (299,hO hT.d__law_same),
 (305,hC "_law_in_a_ring" "_law_in_a_ring" 611 309 1 3 300 181 301 (.ref 302) (.ref 303) 304 619 620),
 (306,hO hT.d__law_in_a_ring),
 (312,hC "_law_mixed" "_law_mixed" 622 319 1 3 307 181 308 (.ref 309) (.ref 310) 311 628 629),
 (313,hO hT.d__law_mixed),
 (317,hC "_law_linked" "_law_linked" 631 328 2 3 314 181 315 .none .none 316 634 635),
 (318,hO hT.d__law_linked),
 (324,hC "_law_ringed" "_law_ringed" 637 334 2 3 319 181 320 (.ref 321) (.ref 322) 323 645 646),
 (325,hO hT.d__law_ringed),
 (331,hC "_law_ends_right" "_law_ends_right" 648 346 2 3 326 181 327 (.ref 328) (.ref 329) 330 656 657),
 (332,hO hT.d__law_ends_right),
 (338,hC "law" "law" 659 351 1 3 333 181 334 (.ref 335) (.ref 336) 337 673 674),
 (339,hO hT.d_law)]
def hQ:Program:={ PySem.Challenge.pw_tallyhall_k08_whole_ring_told with main:={ PySem.Challenge.pw_tallyhall_k08_whole_ring_told.main with body:=[P9] } }
def hL:List Str:=(["__name__","NUMBER","BEGAN","ENDED","LOOKED","PUT","in_both","links_for","links_between","links_with","ONE","OTHER","links_by","longest_row","ring_behind","row_or_ring","reached","value_at","swept","turned","Dealing","Tally","answer_to_end","answer_under_way","answer_to","answers_at","answers","_law_whole","_law_is_link","_law_are_links","_law_closes","_law_ware","_law_deeds","_law_ended","_law_walked","_law_true","_law_same","_law_in_a_ring","_law_mixed","_law_linked","_law_ringed","_law_ends_right"]:List String).map Str.ofString
theorem hE:∀P,hAS=(KK P).map (·.1):=fun _=>rfl
def hH:PySem.W.Hook:=PySem.W.kHook KK hAS hE
def hX(s:Shared):Bool:=PySem.W.xlAt hQ [] s&&PySem.W.recOk (PySem.W.RowW.records (PySem.W.OpenRow.toRowW (PySem.W.OpenLaw.row PySem.Challenge.rw_tallyhall_k08_whole_ring_told))) s
set_option maxHeartbeats 0 in
theorem b5u:PySem.W.LeftO PySem.Challenge.pw_tallyhall_k08_whole_ring_told hQ hL hX (PySem.W.Hook.obs hH) (PySem.W.Hook.val hH) 3954:=fun w=>by kernel_rfl
end
end My
namespace L2
open PySem PySem.Spec PyProof.Rows
abbrev Key:=Sum Int Str
def a7f:Key→Value→Bool
 | .inl k,v=>Value.isInt k v
 | .inr x,v=>Value.isStrOf x v
def b1v(w:World):Key→Int
 | .inl k=>hashInt k
 | .inr x=>hashStr w x
theorem A3:∀{k:Key} {v:Value},a7f k v=true→(∃i t,k=Sum.inl i∧v=Value.int i t)∨(∃x t,k=Sum.inr x∧v=Value.str x t)
 | .inl i,v,h=>by
  obtain⟨t,e⟩:=Value.isInt_shape (k:=i) (v:=v) h
  exact .inl ⟨i,t,rfl,e⟩
 | .inr x,v,h=>by
  obtain⟨t,e⟩:=Value.isStrOf_shape (x:=x) (v:=v) h
  exact .inr ⟨x,t,rfl,e⟩
theorem a5Z(i:Int)(t:Tok):a7f (.inl i) (.int i t)=true:=by simp[a7f,Value.isInt]
theorem a6U(x:Str)(t:Tok):a7f (.inr x) (.str x t)=true:=by simp[a7f,Value.isStrOf]
theorem b2m(a b:Int):decide ((Sum.inl a:Key)=Sum.inl b)=(a==b):=by
 by_cases e:a=b
 ·subst e;simp
 ·have h:¬(Sum.inl a:Key)=Sum.inl b:=fun q=>e (Sum.inl.inj q)
  rw[decide_eq_false h]
  exact(beq_eq_false_iff_ne.mpr e).symm
theorem b5m(a b:Str):decide ((Sum.inr a:Key)=Sum.inr b)=decide (a=b):=by
 by_cases e:a=b
 ·subst e;simp
 ·have h:¬(Sum.inr a:Key)=Sum.inr b:=fun q=>e (Sum.inr.inj q)
  rw[decide_eq_false h,decide_eq_false e]
theorem b0n(a:Int)(b:Str):decide ((Sum.inl a:Key)=Sum.inr b)=false:=decide_eq_false (fun q=>nomatch q)
theorem b4m(a:Str)(b:Int):decide ((Sum.inr a:Key)=Sum.inl b)=false:=decide_eq_false (fun q=>nomatch q)
def q5(prog:Program)(w:World):PySem.KeyKind prog w Key where
 is:=a7f
 hash:=b1v w
 inj:=fun v a b ha hb=>by
  rcases A3 ha with ⟨i,t,rfl,rfl⟩ | ⟨x,t,rfl,rfl⟩
  ·rcases A3 hb with ⟨j,u,rfl,e⟩ | ⟨y,u,rfl,e⟩
   ·injection e with e1 _;rw[e1]
   ·exact nomatch e
  ·rcases A3 hb with ⟨j,u,rfl,e⟩ | ⟨y,u,rfl,e⟩
   ·exact nomatch e
   ·injection e with e1 _;rw[e1]
 byValue:=fun k v h=>by
  rcases A3 h with ⟨i,t,rfl,rfl⟩ | ⟨x,t,rfl,rfl⟩<;>rfl
 pyHash:=fun hv h=>by
  rcases A3 hv with ⟨i,t,rfl,rfl⟩ | ⟨x,t,rfl,rfl⟩
  ·exact wpAny_pyHash_int h
  ·exact wpAny_pyHash_str h
 eqBool:=fun hu hv h=>by
  rcases A3 hu with ⟨i,t,rfl,rfl⟩ | ⟨x,t,rfl,rfl⟩
  ·rcases A3 hv with ⟨j,u,rfl,rfl⟩ | ⟨y,u,rfl,rfl⟩
   ·rw[b2m]at h;exact wpAny_eqBool_int h
   ·rw[b0n]at h;exact SeqAt.EqAt.int_str i t y u _ _ _ _ h
  ·rcases A3 hv with ⟨j,u,rfl,rfl⟩ | ⟨y,u,rfl,rfl⟩
   ·rw[b4m]at h;exact SeqAt.EqAt.str_int x t j u _ _ _ _ h
   ·rw[b5m]at h;exact wpAny_eqBool_str h
 «strs»:=fun k x t v h=>by
  rcases A3 h with ⟨i,u,rfl,e⟩ | ⟨y,u,rfl,e⟩
  ·exact nomatch e
  ·injection e with e1 _
   subst e1
   cases v<;>rfl
theorem a9M(prog:Program)(w:World)(i:Int)(t:Tok):(q5 prog w).is (.inl i) (.int i t)=true:=a5Z i t
theorem a0M(prog:Program)(w:World)(x:Str)(t:Tok):(q5 prog w).is (.inr x) (.str x t)=true:=a6U x t
end L2
namespace L2
open PySem PySem.Spec PyProof.Rows
inductive V where
 | non | bl (b:Bool) | int (i:Int) | str (x:Str) | byt (b:Array UInt8) | flt (b:UInt64) | ref (a:Addr) | ty (n:String)
 deriving DecidableEq
def RelV:V→Value→Prop
 | .non,u=>u=Value.none
 | .bl b,u=>u=Value.bool b
 | .int i,u=>∃t,u=Value.int i t
 | .str x,u=>∃t,u=Value.str x t
 | .byt b,u=>∃t,u=Value.bytes b t
 | .flt b,u=>∃t,u=Value.float b t
 | .ref a,u=>u=Value.ref a
 | .ty n,u=>u=Value.type n
abbrev i8:List V→List Value→Prop:=Paired RelV
theorem i8.length{xs:List V}{us:List Value}(r:i8 xs us):xs.length=us.length:=Paired.length r
theorem i8.get:∀{xs:List V} {us:List Value} {i:Nat} {x:V},i8 xs us→xs[i]?=some x→∃u,us[i]?=some u∧RelV x u
 | _,_,_,_,.nil,e=>by simp at e
 | _,_,0,_,.cons r _,e=>by simp at e;subst e;exact⟨_,rfl,r⟩
 | _,_,i+1,x,.cons _ t,e=>by
  obtain⟨u,h1,h2⟩:=i8.get (i:=i) (x:=x) t (by simpa using e)
  exact⟨u,by simpa using h1,h2⟩
theorem i8.set{x:V}{u:Value}(r:RelV x u):∀{xs:List V} {us:List Value} (i:Nat),i8 xs us→i8 (xs.set i x) (us.set i u)
 | _,_,_,.nil=>.nil
 | _,_,0,.cons _ t=>.cons r t
 | _,_,i+1,.cons q t=>.cons q (i8.set r i t)
theorem i8.append:∀{xs ys:List V} {us ws:List Value},i8 xs us→i8 ys ws→i8 (xs++ys) (us++ws)
 | _,_,_,_,.nil,s=>s
 | _,_,_,_,.cons r t,s=>.cons r (i8.append t s)
theorem i8.take:∀{xs:List V} {us:List Value} (n:Nat),i8 xs us→i8 (xs.take n) (us.take n)
 | _,_,0,_=>.nil
 | _,_,_+1,.nil=>.nil
 | _,_,n+1,.cons r t=>.cons r (i8.take n t)
theorem i8.drop:∀{xs:List V} {us:List Value} (n:Nat),i8 xs us→i8 (xs.drop n) (us.drop n)
 | _,_,0,r=>r
 | _,_,_+1,.nil=>.nil
 | _,_,n+1,.cons _ t=>i8.drop n t
def L7:Option V→Option Value→Prop
 | some v,some u=>RelV v u
 | none,none=>True
 | _,_=>False
def KV{κ:Type}:List (κ×V)→List (κ×Value)→Prop:=Paired fun(p:κ×V) (q:κ×Value)=>p.1=q.1∧RelV p.2 q.2
def kV:Key→V
 | .inl i=>.int i
 | .inr x=>.str x
inductive HO where
 | lst (xs:List V)
 | tup (xs:List V)
 | dK (kvs:List (Key×V)) | dT (kvs:List (List Key×V))
 | set (S:Int→Bool) (n:Nat)
 | ins (C dx:Addr) (fs:List (Str×V))
 | own (x:Addr)
 | xd (fs:List (Str×V))
 | met (f x:Addr)
 | rng (lo hi:Int)
 | frz (o:Obj) (u:HO)
 | tbl (ps:Array Value)
 | ext (φ:Heap→Prop)
abbrev Hp:=Addr→Option HO
def upd(H:Hp)(a:Addr)(o:HO):Hp:=fun b=>if b=a then some o else H b
theorem b6{H:Hp}{a:Addr}{o:HO}:upd H a o a=some o:=by unfold upd;rw[if_pos rfl]
theorem b8{H:Hp}{a b:Addr}{o:HO}(h:b≠a):upd H a o b=H b:=by unfold upd;rw[if_neg h]
theorem a6O{H:Hp}{a:Addr}{o u:HO}:upd (upd H a o) a u=upd H a u:=by
 funext b;unfold upd;split<;>rfl
theorem a3u{H:Hp}{a b:Addr}{o u:HO}(h:H a=some o)(h':H b=some u)(d:o≠u):a≠b:=by
 intro e;subst e;rw[h]at h';exact d (Option.some.inj h')
theorem e9{H:Hp}{a b:Addr}{o:HO}(h:H a=some o)(h':H b=none):a≠b:=by
 intro e;subst e;rw[h]at h';cases h'
section
variable(P:Program)(w:World)
def y0(H:Hp)(h:Heap)(a:Addr):HO→Prop
 | .lst xs=>xs.length≤sizeLine∧∃(its:List Value) (n:Nat),i8 xs its∧h.get? a=some { cls:=.type "list",data:=.seq its.toArray n }
 | .tup xs=>xs.length≤sizeLine∧∃its:List Value,i8 xs its∧IsTup h a its.toArray
 | .dK kvs=>kvs.length≤sizeLine∧(a==sysModules)=false∧∃vs,KV kvs vs∧h.DictOf (q5 P w) a vs
 | .dT kvs=>kvs.length≤sizeLine∧(a==sysModules)=false∧∃xs:List (List Key×Addr×Value),
   Paired (fun(p:List Key×V) (q:List Key×Addr×Value)=>p.1=q.1∧H q.2.1=some (.tup (p.1.map kV))∧RelV p.2 q.2.2) kvs xs ∧
   ∃o es ep,h.get? a=some o∧o.ExactDict∧o.data=.dict es ep∧es.toList=xs.map (entryOfKey (tupleKind (q5 P w)))∧(xs.map (·.1)).Nodup
 | .set S n=>h.SetOf (intKind P w) a S n
 | .ins C dx fs=>H dx=some (.own a)∧fs.length≤1000∧dx≠a∧h.get? a=some (PySem.W.instObj C dx) ∧
   ∃mA,h.Ns1 dx mA∧(∀f,L7 (fs.lookup f) (mA f))∧PySem.Within mA (fs.map (·.1))
 | .own _=>∃o,h.get? a=some o
 | .xd fs=>∃mA,h.Ns1 a mA∧∀f,L7 (fs.lookup f) (mA f)
 | .rng lo hi=>∃t u v,h.get? a=some { cls:=.type "range",data:=.fields #[.int lo t,.int hi u,.int 1 v] }
 | .frz o u=>h.get? a=some o∧y0 H h a u
 | .tbl ps=>h.get? a=some { cls:=.none,data:=.fields ps }
 | .met f x=>h.get? a=some (PySem.W.methodObj (.ref f) (.ref x))
 | .ext φ=>φ h∧(∃o,h.get? a=some o)∧∀h1 h2:Heap,φ h1→(∀o,h1.get? a=some o→h2.get? a=some o)→φ h2
def F8(H:Hp)(h:Heap):Prop:=∀a o,H a=some o→y0 P w H h a o
end
section
variable{P:Program}{w:World}{H H':Hp}{h h':Heap}{a:Addr}{o:HO}
theorem y0.lt(x:y0 P w H h a o):a<h.objs.size:=by
 cases o with
 | lst xs=>obtain⟨_,_,_,_,e⟩:=x;exact Heap.lt_size e
 | tup xs=>obtain⟨_,_,_,p⟩:=x;exact p.lt
 | dK kvs=>obtain⟨_,_,_,_,o,_,_,e,_⟩:=x;exact Heap.lt_size e
 | dT kvs=>obtain⟨_,_,_,_,o,_,_,e,_⟩:=x;exact Heap.lt_size e
 | set S n=>obtain⟨o,_,_,_,e,_⟩:=x;exact Heap.lt_size e
 | ins C dx fs=>obtain⟨_,_,_,e,_⟩:=x;exact Heap.lt_size e
 | own y=>obtain⟨_,e⟩:=x;exact Heap.lt_size e
 | xd fs=>obtain⟨_,⟨_,_,_,e,_⟩,_⟩:=x;exact Heap.lt_size e
 | rng lo hi=>obtain⟨_,_,_,e⟩:=x;exact Heap.lt_size e
 | frz ob u=>obtain⟨e,_⟩:=x;exact Heap.lt_size e
 | tbl ps=>exact Heap.lt_size (show h.get? a=some _ from x)
 | met f y=>exact Heap.lt_size (show h.get? a=some _ from x)
 | ext φ=>obtain⟨_,⟨_,e⟩,_⟩:=x;exact Heap.lt_size e
theorem Paired.mapP{α β:Type}{F G:α→β→Prop}:∀{l₁:List α} {l₂:List β},Paired F l₁ l₂→(∀a b,F a b→G a b)→Paired G l₁ l₂
 | _,_,.nil,_=>.nil
 | _,_,.cons r t,f=>.cons (f _ _ r) (Paired.mapP t f)
theorem y0.stay(x:y0 P w H h a o)(k:∀b u,(b=a∨H b=some (.own a))→h.get? b=some u→h'.get? b=some u)
  (ho:∀b,H b=some (.own a)→H' b=some (.own a)) (ht:∀b xs,H b=some (.tup xs)→H' b=some (.tup xs)):y0 P w H' h' a o:=by
 induction o with
 | lst xs=>obtain⟨z,its,n,r,e⟩:=x;exact⟨z,its,n,r,k _ _ (.inl rfl) e⟩
 | tup xs=>obtain⟨z,its,r,ob,e,c⟩:=x;exact⟨z,its,r,ob,k _ _ (.inl rfl) e,c⟩
 | dK kvs=>obtain⟨z,y,vs,r,ob,es,ep,e,c⟩:=x;exact⟨z,y,vs,r,ob,es,ep,k _ _ (.inl rfl) e,c⟩
 | dT kvs=>
  obtain⟨z,y,xs,r,ob,es,ep,e,c⟩:=x
  exact⟨z,y,xs,Paired.mapP r fun p q z=>⟨z.1,ht _ _ z.2.1,z.2.2⟩,ob,es,ep,k _ _ (.inl rfl) e,c⟩
 | set S n=>obtain⟨ob,es,ep,t,e,c⟩:=x;exact⟨ob,es,ep,t,k _ _ (.inl rfl) e,c⟩
 | ins C dx fs=>
  obtain⟨d,z,ne,e,mA,⟨od,es,ep,e2,c⟩,r⟩:=x
  exact⟨ho _ d,z,ne,k _ _ (.inl rfl) e,mA,⟨od,es,ep,k _ _ (.inr d) e2,c⟩,r⟩
 | own y=>obtain⟨ob,e⟩:=x;exact⟨ob,k _ _ (.inl rfl) e⟩
 | xd fs=>obtain⟨mA,⟨od,es,ep,e,c⟩,r⟩:=x;exact⟨mA,⟨od,es,ep,k _ _ (.inl rfl) e,c⟩,r⟩
 | rng lo hi=>obtain⟨t,u,v,e⟩:=x;exact⟨t,u,v,k _ _ (.inl rfl) e⟩
 | frz ob u ih=>obtain⟨e,q⟩:=x;exact⟨k _ _ (.inl rfl) e,ih q⟩
 | tbl ps=>
  have e:h.get? a=some { cls:=.none,data:=.fields ps }:=x
  show h'.get? a=some { cls:=.none,data:=.fields ps }
  exact k a _ (.inl rfl) e
 | met f y=>
  have e:h.get? a=some (PySem.W.methodObj (.ref f) (.ref y)):=x
  show h'.get? a=some (PySem.W.methodObj (.ref f) (.ref y))
  exact k a _ (.inl rfl) e
 | ext φ=>obtain⟨p,⟨o,e⟩,st⟩:=x;exact⟨st _ _ p fun o q=>k _ _ (.inl rfl) q,⟨o,k _ _ (.inl rfl) e⟩,st⟩
theorem F8.lt(x:F8 P w H h)(e:H a=some o):a<h.objs.size:=(x a o e).lt
theorem F8.fresh(x:F8 P w H h)(e:h.objs.size≤a):H a=none:=by
 cases q:H a with
 | none=>rfl
 | some u=>exact absurd (Nat.lt_of_lt_of_le (x.lt q) e) (Nat.lt_irrefl _)
theorem F8.kept(x:F8 P w H h)(k:∀b u,h.get? b=some u→h'.get? b=some u):F8 P w H h':=fun a o e=>
 (x a o e).stay (fun b u _ q=>k b u q) (fun _ q=>q) fun _ _ q=>q
theorem F8.laid(x:F8 P w H h)(k:∀b u,h.get? b=some u→h'.get? b=some u)(hp:h.objs.size≤a)(new:y0 P w (upd H a o) h' a o):F8 P w (upd H a o) h':=fun b u e=>by
 have hn:=x.fresh hp
 by_cases hb:b=a
 ·subst hb;rw[b6]at e;cases e;exact new
 ·rw[b8 hb]at e
  exact(x b u e).stay (fun c v _ q=>k c v q) (fun c q=>by rw[b8 (e9 q hn)];exact q) fun c xs q=>by rw[b8 (e9 q hn)];exact q
end
def Rd(H:Hp)(a:Addr)(u:HO):Prop:=H a=some u∨∃o,H a=some (.frz o u)
theorem Rd.of{H:Hp}{a:Addr}{u:HO}(h:H a=some u):Rd H a u:=.inl h
theorem Rd.ok{P:Program}{w:World}{H:Hp}{h:Heap}{a:Addr}{u:HO}(r:Rd H a u)(x:F8 P w H h):y0 P w H h a u:=by
 rcases r with r | ⟨o,r⟩
 ·exact x a u r
 ·obtain⟨_,q⟩:=x a _ r
  exact q
def Mut:Option HO→Prop
 | some (.lst _)=>True
 | some (.dK _)=>True
 | some (.dT _)=>True
 | some (.set _ _)=>True
 | some (.ins _ _ _)=>True
 | some (.ext _)=>True
 | _=>False
section
variable{P:Program}{w:World}{H:Hp}{h h':Heap}{x e:Addr}{o':HO}
theorem F8.write(ok:F8 P w H h)(mu:Mut (H x))(he:e=x∨H e=some (.own x))(k:∀b u,b≠e→h.get? b=some u→h'.get? b=some u)(heo:∃u,h'.get? e=some u)
  (new:y0 P w (upd H x o') h' x o'):F8 P w (upd H x o') h':=fun b u q=>by
 have nown:∀c y,H c=some (.own y)→c≠x:=fun c y r z=>by subst z;rw[r]at mu;exact mu
 have ntup:∀c xs,H c=some (.tup xs)→c≠x:=fun c xs r z=>by subst z;rw[r]at mu;exact mu
 by_cases hb:b=x
 ·subst hb;rw[b6]at q;cases q;exact new
 ·rw[b8 hb]at q
  by_cases hbe:b=e
  ·have q':H b=some (.own x):=by
    rcases he with z | z
    ·exact absurd (hbe.trans z) hb
    ·rw[hbe];exact z
   rw[q]at q';cases q'
   obtain⟨v,hv⟩:=heo
   exact⟨v,by rw[hbe];exact hv⟩
  ·refine(ok b u q).stay (fun c v hc r=>k c v ?_ r) (fun c r=>by rw[b8 (nown c b r)];exact r) fun c xs r=>by rw[b8 (ntup c xs r)];exact r
   rcases hc with rfl | hc
   ·exact hbe
   ·rintro rfl
    rcases he with z | z
    ·exact nown c b hc z
    ·rw[hc]at z;cases z;exact hb rfl
end
structure Un(fs ex:List Addr)(H H':Hp)(h h':Heap):Prop where
 keep:∀b o,h.get? b=some o→H b=none→b∉fs→b∉ex→h'.get? b=some o
 slot:∀b o,h.get? b=some o→H b=none→b∈fs→b∉ex→∃sl,h'.get? b=some { o with slots:=sl }
 free:∀b o,h.get? b=some o→H b=none→b∉ex→H' b=none
 there:∀b o,h.get? b=some o→b∉ex→∃o',h'.get? b=some o'
 tups:∀b xs,H b=some (.tup xs)→H' b=some (.tup xs)
 frzs:∀b o u,H b=some (.frz o u)→H' b=some (.frz o u)
 tbls:∀b ps,H b=some (.tbl ps)→∃more,H' b=some (.tbl (ps++more))
section
variable{fs fs' ex ex':List Addr}{H H1 H2:Hp}{h h1 h2 h':Heap}{a x e:Addr}{o:HO}
theorem Un.any(u:Un fs ex H H1 h h1){b:Addr}{ob:Obj}(q:h.get? b=some ob)(n:H b=none)(hx:b∉ex):∃sl,h1.get? b=some { ob with slots:=sl }:=by
 by_cases hb:b∈fs
 ·exact u.slot b ob q n hb hx
 ·exact⟨ob.slots,u.keep b ob q n hb hx⟩
theorem Un.trans(a:Un fs ex H H1 h h1)(b:Un fs ex H1 H2 h1 h2):Un fs ex H H2 h h2 where
 keep:=fun c ob q n hc hx=>b.keep c ob (a.keep c ob q n hc hx) (a.free c ob q n hx) hc hx
 slot:=fun c ob q n hc hx=>by
  obtain⟨sl,e1⟩:=a.slot c ob q n hc hx
  obtain⟨sl',e2⟩:=b.slot c _ e1 (a.free c ob q n hx) hc hx
  exact⟨sl',e2⟩
 free:=fun c ob q n hx=>by
  obtain⟨o',e1⟩:=a.there c ob q hx
  exact b.free c o' e1 (a.free c ob q n hx) hx
 there:=fun c ob q hx=>by
  obtain⟨o',e1⟩:=a.there c ob q hx
  exact b.there c o' e1 hx
 tups:=fun c xs q=>b.tups c xs (a.tups c xs q)
 frzs:=fun c ob xs q=>b.frzs c ob xs (a.frzs c ob xs q)
 tbls:=fun c ps q=>by
  obtain⟨m1,e1⟩:=a.tbls c ps q
  obtain⟨m2,e2⟩:=b.tbls c _ e1
  exact⟨m1++m2,by rw[e2,Array.append_assoc]⟩
theorem Un.kept(k:∀b u,h.get? b=some u→h'.get? b=some u):Un fs ex H H h h':=
 ⟨fun b ob q _ _ _=>k b ob q,fun b ob q _ _ _=>⟨ob.slots,k b ob q⟩,fun _ _ _ n _=>n,fun b ob q _=>⟨ob,k b ob q⟩,fun _ _ q=>q,fun _ _ _ q=>q,fun _ ps q=>⟨#[],by rw[q];simp⟩⟩
theorem Un.refl:Un fs ex H H h h:=Un.kept fun _ _ q=>q
theorem Un.laid(k:∀b u,h.get? b=some u→h'.get? b=some u)(hp:h.objs.size≤a)(hn:H a=none):Un fs ex H (upd H a o) h h' where
 keep:=fun b u q _ _ _=>k b u q
 slot:=fun b u q _ _ _=>⟨u.slots,k b u q⟩
 free:=fun b u q n _=>by rw[b8 (Nat.ne_of_lt (Nat.lt_of_lt_of_le (Heap.lt_size q) hp))];exact n
 there:=fun b u q _=>⟨u,k b u q⟩
 tups:=fun b xs q=>by rw[b8 (e9 q hn)];exact q
 frzs:=fun b u xs q=>by rw[b8 (e9 q hn)];exact q
 tbls:=fun b ps q=>⟨#[],by rw[b8 (e9 q hn),q];simp⟩
theorem Un.write(mu:Mut (H x))(he:e=x∨H e=some (.own x))(k:∀b u,b≠e→h.get? b=some u→h'.get? b=some u)(heo:∃u,h'.get? e=some u):Un fs ex H (upd H x o) h h':=by
 have hx:∀b,H b=none→b≠x:=fun b n z=>by subst z;rw[n]at mu;exact mu
 have hb:∀b,H b=none→b≠e:=fun b n z=>by
  subst z
  rcases he with r | r
  ·exact hx b n r
  ·rw[n]at r;cases r
 have hm:∀b u,H b=some u→¬Mut (some u)→b≠x:=fun b u q nm z=>by subst z;rw[q]at mu;exact nm mu
 refine⟨fun b u q n _ _=>k b u (hb b n) q,fun b u q n _ _=>⟨u.slots,k b u (hb b n) q⟩,fun b u q n _=>by rw[b8 (hx b n)];exact n,fun b u q _=>?_,
  fun b xs q=>by rw[b8 (hm b _ q fun z=>z)];exact q,fun b u xs q=>by rw[b8 (hm b _ q fun z=>z)];exact q,fun b ps q=>⟨#[],by rw[b8 (hm b _ q fun z=>z),q];simp⟩⟩
 by_cases hbe:b=e
 ·subst hbe;exact heo
 ·exact⟨u,k b u hbe q⟩
end
def trk(h:Heap)(H:Hp):List Addr:=(List.range h.objs.size).filter fun a=>(H a).isSome
def a4e(h:Heap)(H:Hp):Heap:=PySem.W.hideAll h (trk h H)
theorem a8V(h:Heap)(H:Hp):(a4e h H).objs.size=h.objs.size:=PySem.W.hideAll_size _ _
theorem b8d{h:Heap}{H:Hp}{b:Addr}{o:Obj}(e:h.get? b=some o)(n:H b=none):(a4e h H).get? b=some o:=
 PySem.W.hideAll_get _ e fun hm=>by
  have q:(H b).isSome=true:=(List.mem_filter.mp hm).2
  rw[n]at q;simp at q
theorem b7j{h:Heap}{H:Hp}{b:Addr}{o:Obj}(e:(a4e h H).get? b=some o):h.get? b=some o∧H b=none:=by
 have e':h.get? b=some o:=PySem.W.of_hideAll (trk h H) e
 refine⟨e',?_⟩
 cases q:H b with
 | none=>rfl
 | some x=>
  have hm:b∈trk h H:=List.mem_filter.mpr ⟨List.mem_range.mpr (Heap.lt_size e'),by simp[q]⟩
  have z:(a4e h H).get? b=none:=PySem.W.hideAll_none (trk h H) hm
  rw[z]at e;cases e
def b8j(g h:Heap)(L:Addr):List (Addr×Obj):=(List.range h.objs.size).filterMap fun a=>if a=L∨(g.get? a).isSome=true then none else(h.get? a).map fun o=>(a,o)
def rest(g h:Heap)(L d:Addr):List (Addr×Obj):=(b8j g h L).filter fun p=>decide (p.1≠d)
end L2
namespace L2
open PySem PySem.Spec PyProof.Rows
structure Mod(K:PySem.W.Frag)(mg:Str→Option Value)(base:Heap):Prop where
 kin:K.In base
 glob:base.Ns mainGlobals mg
 blt:∃mb,base.Ns builtinsNs mb∧∀x:Str,x≠"__name__"→mb x=bootBuiltins x
 nolimit:base.NoLimit
structure Cx where
 prog:Program
 w:World
 K:PySem.W.Frag
 mg:Str→Option Value
 base:Heap
 A:Around
 N:List Str
 s₀:Shared
 H₀:Hp
 env:Env
 outer:List Env
 stack:List Env
 ex:List Addr
 fn:Str→Bool
 calm:Bool
 pn:List (Addr×Obj)
 xe:Value→Shared→Prop
def frs(l:List Env):List Addr:=l.filterMap (·.frame)
abbrev Cx.fs(X:Cx):List Addr:=frs X.outer
def Vis(sc:Scope)(x:Str):Prop:=sc.names.lookup x=some .local∨sc.names.lookup x=some .cell∨sc.names.lookup x=some .free
def Loc(sc:Scope)(x:Str):Prop:=sc.names.lookup x=some .local∨sc.names.lookup x=some .cell
def Look(env:Env)(h:Heap)(m:Str→Option Value)(x:Str)(u:Value):Prop:=
 (env.kindOf x=some .local∧m x=some u)∨((env.kindOf x=some .cell∨env.kindOf x=some .free)∧∃c,env.cells.lookup x=some c∧h.IsCell c (some u))
structure Cx.Ok(X:Cx):Prop where
 mod:Mod X.K X.mg X.base
 kind:X.env.scope.kind=.function
 glob:X.env.globals=mainGlobals
 blt:X.env.builtins=builtinsNs
 above:X.s₀.heap.objs.size≤X.env.locals
 inj:∀x y c,X.env.cells.lookup x=some c→X.env.cells.lookup y=some c→x=y
 has:∀x,(X.env.kindOf x=some .cell∨X.env.kindOf x=some .free)→∃c,X.env.cells.lookup x=some c
 cab:∀x c,X.fn x=true→X.env.cells.lookup x=some c→X.s₀.heap.objs.size≤c
 hd:X.calm=true→X.A.handled=none
 frames:X.A.frames=some X.stack
 stk:X.stack=X.outer∨(X.stack=X.env::X.outer∧X.env.frame=some X.env.locals)
 exf:∀b∈X.ex,b≠X.env.locals∧∀x c,X.env.cells.lookup x=some c→c≠b
 bs:∀b o,X.base.get? b=some o→X.s₀.heap.get? b=some o∧X.H₀ b=none
 bsz:X.base.objs.size≤X.s₀.heap.objs.size
 noex:∀b o,X.base.get? b=some o→b∉X.ex
 exfs:∀b∈X.ex,b∉X.fs
 funs:X.s₀.heap.FunFrames X.base X.outer
 frf:∀b∈X.fs,X.H₀ b=none
structure Inv(X:Cx)(pins:List (Addr×Obj))(σ:List (Option V))(H:Hp)(s:Shared):Prop where
 ok:X.Ok
 os:s.os=X.s₀.os
 bare:AllBare s.gens
 base:Un X.fs X.ex X.H₀ H X.s₀.heap s.heap
 loc:∃m,s.heap.Ns X.env.locals m∧∀(i:Nat) (x:Str) (v:V),X.N[i]?=some x→σ[i]?=some (some v)→Vis X.env.scope x→∃u,RelV v u∧Look X.env s.heap m x u
 cell:∀x c,X.env.cells.lookup x=some c→∃v,s.heap.IsCell c v
 free:H X.env.locals=none
 freeC:∀x c,X.env.cells.lookup x=some c→H c=none
 pin:∀p∈X.pn++pins,s.heap.get? p.1=some p.2∧H p.1=none∧p.1≠X.env.locals∧p.1∉X.fs∧∀v,p.2.data≠.cell v
 hok:F8 X.prog X.w H s.heap
 len:σ.length=X.N.length
section
variable{X:Cx}{pins:List (Addr×Obj)}{σ:List (Option V)}{H H':Hp}{s:Shared}{h':Heap}
theorem Cx.Ok.nofr(ok:X.Ok){b:Addr}{o:Obj}(e:X.base.get? b=some o):b∉X.fs:=fun hb=>by
 have:=(ok.funs.mem hb).1
 rw[e]at this;cases this
theorem Inv.bs(I:Inv X pins σ H s):∀b o,X.base.get? b=some o→s.heap.get? b=some o∧H b=none:=fun b o e=>
 ⟨I.base.keep b o (I.ok.bs b o e).1 (I.ok.bs b o e).2 (I.ok.nofr e) (I.ok.noex b o e),I.base.free b o (I.ok.bs b o e).1 (I.ok.bs b o e).2 (I.ok.noex b o e)⟩
theorem Inv.bk(I:Inv X pins σ H s):∀b o,X.base.get? b=some o→s.heap.get? b=some o:=fun b o e=>(I.bs b o e).1
theorem Inv.mod(I:Inv X pins σ H s):Mod X.K X.mg X.base:=I.ok.mod
theorem Inv.kIn(I:Inv X pins σ H s):X.K.In s.heap:=I.ok.mod.kin.keeps I.bk
theorem Inv.lt(I:Inv X pins σ H s):X.env.locals<s.heap.objs.size:=let ⟨_,hn,_⟩:=I.loc;hn.lt
theorem Inv.sz(I:Inv X pins σ H s):X.s₀.heap.objs.size≤s.heap.objs.size:=Nat.le_trans I.ok.above (Nat.le_of_lt I.lt)
theorem Inv.nofs(I:Inv X pins σ H s){a:Addr}(h:s.heap.objs.size≤a):a∉X.fs:=fun hb=>by
 obtain⟨_,o,ho,_⟩:=I.ok.funs.mem hb
 exact absurd (Nat.lt_of_lt_of_le (Heap.lt_size ho) (Nat.le_trans I.sz h)) (Nat.lt_irrefl _)
theorem Inv.cne(I:Inv X pins σ H s):∀x c,X.env.cells.lookup x=some c→c≠X.env.locals:=fun x c e z=>by
 obtain⟨v,o,ho,hd⟩:=I.cell x c e
 obtain⟨m,⟨o',es,ep,ho',hd',_⟩,_⟩:=I.loc
 rw[z,ho']at ho;cases ho;rw[hd']at hd;cases hd
theorem Inv.funs(I:Inv X pins σ H s):s.heap.FunFrames X.base X.outer:=by
 have all:∀(l:List Env),(∀b∈frs l,b∈X.fs)→X.s₀.heap.FunFrames X.base l→s.heap.FunFrames X.base l:=by
  intro l
  induction l with
  | nil=>intro _ _;trivial
  | cons env r ih=>
   intro hs hl
   obtain⟨hk,⟨L,o,hf,hn,ho,hd⟩,hr⟩:=hl
   have hL:L∈X.fs:=hs L (by unfold frs;rw[List.filterMap_cons,hf];exact List.mem_cons_self)
   obtain⟨sl,e⟩:=I.base.slot L o ho (I.ok.frf L hL) hL fun z=>I.ok.exfs L z hL
   exact⟨hk,⟨L,_,hf,hn,e,hd⟩,ih (fun b hb=>hs b (by unfold frs;rw[List.filterMap_cons,hf];exact List.mem_cons_of_mem _ hb)) hr⟩
 exact all X.outer (fun _ hb=>hb) I.ok.funs
theorem Inv.stack(I:Inv X pins σ H s):s.heap.FunFrames X.base X.stack:=by
 rcases I.ok.stk with e | ⟨e,hf⟩
 ·rw[e];exact I.funs
 ·rw[e]
  obtain⟨m,hn,_⟩:=I.loc
  refine .cons (by rw[I.ok.kind];decide) hf hn ?_ I.funs
  exact Heap.get?_none_of_le (Nat.le_trans I.ok.bsz I.ok.above)
theorem Inv.stkSub(I:Inv X pins σ H s):∀b∈frs X.stack,b∈X.env.locals::X.fs:=fun b hb=>by
 rcases I.ok.stk with e | ⟨e,hf⟩
 ·rw[e]at hb;exact List.mem_cons_of_mem _ hb
 ·rw[e]at hb
  unfold frs at hb
  rw[List.filterMap_cons,hf]at hb
  exact hb
theorem Inv.stkFree(I:Inv X pins σ H s):∀b∈frs X.stack,H b=none:=fun b hb=>by
 rcases List.mem_cons.mp (I.stkSub b hb) with e | hb
 ·rw[e];exact I.free
 ·obtain⟨_,o,ho,_⟩:=I.ok.funs.mem hb
  exact I.base.free b o ho (I.ok.frf b hb) fun z=>I.ok.exfs b z hb
theorem Inv.step{g':Array GenState}{t':Nat}{d':Drawn}{ch:List Addr}(I:Inv X pins σ H s)
  (hch:∀b∈ch,(b∈X.ex∨X.s₀.heap.objs.size≤b)∧b≠X.env.locals∧(∀x c,X.env.cells.lookup x=some c→c≠b)∧∀p∈X.pn++pins,p.1≠b)
  (keep:∀b o,b≠X.env.locals→b∉X.fs→b∉ch→s.heap.get? b=some o→H b=none→h'.get? b=some o)
  (slot:∀b o,b≠X.env.locals→b∈X.fs→b∉ch→s.heap.get? b=some o→H b=none→∃sl,h'.get? b=some { o with slots:=sl }) (free:∀b o,b∉ch→s.heap.get? b=some o→H b=none→H' b=none)
  (there:∀b o,b∉ch→s.heap.get? b=some o→∃o',h'.get? b=some o')
  (tups:∀b xs,H b=some (.tup xs)→H' b=some (.tup xs)) (frzs:∀b o u,H b=some (.frz o u)→H' b=some (.frz o u)) (tbls:∀b ps,H b=some (.tbl ps)→∃more,H' b=some (.tbl (ps++more)))
  (ns:∀m,s.heap.Ns X.env.locals m→h'.Ns X.env.locals m) (hok:F8 X.prog X.w H' h') (hg:AllBare g') :
  Inv X pins σ H' { s with heap:=h',gens:=g',drawn:=d',toks:=t' }:=by
 have neL:∀b o,X.s₀.heap.get? b=some o→b≠X.env.locals:=fun b o e=>Nat.ne_of_lt (Nat.lt_of_lt_of_le (Heap.lt_size e) I.ok.above)
 have neC:∀b o,X.s₀.heap.get? b=some o→b∉X.ex→b∉ch:=fun b o e hx hb=>by
  rcases(hch b hb).1 with z | z
  ·exact hx z
  ·exact absurd (Nat.lt_of_lt_of_le (Heap.lt_size e) z) (Nat.lt_irrefl _)
 have cellK:∀x c,X.env.cells.lookup x=some c→∀v,s.heap.IsCell c v→h'.IsCell c v:=fun x c e v ⟨o,ho,hd⟩=>by
  have nch:c∉ch:=fun z=>(hch c z).2.2.1 x c e rfl
  by_cases hc:c∈X.fs
  ·obtain⟨sl,q⟩:=slot c o (I.cne x c e) hc nch ho (I.freeC x c e)
   exact⟨_,q,hd⟩
  ·exact⟨o,keep c o (I.cne x c e) hc nch ho (I.freeC x c e),hd⟩
 refine⟨I.ok,I.os,hg,⟨fun b o e n hb hx=>?_,fun b o e n hb hx=>?_,fun b o e n hx=>?_,fun b o e hx=>?_,fun b xs e=>tups b xs (I.base.tups b xs e),fun b o xs e=>frzs b o xs (I.base.frzs b o xs e),fun b ps e=>?_⟩,?_,fun x c e=>?_,?_,fun x c e=>?_,fun p hp=>?_,hok,I.len⟩
 ·exact keep b o (neL b o e) hb (neC b o e hx) (I.base.keep b o e n hb hx) (I.base.free b o e n hx)
 ·obtain⟨sl,e1⟩:=I.base.slot b o e n hb hx
  obtain⟨sl',e2⟩:=slot b _ (neL b o e) hb (neC b o e hx) e1 (I.base.free b o e n hx)
  exact⟨sl',e2⟩
 ·obtain⟨o',e1⟩:=I.base.there b o e hx
  exact free b o' (neC b o e hx) e1 (I.base.free b o e n hx)
 ·obtain⟨o',e1⟩:=I.base.there b o e hx
  exact there b o' (neC b o e hx) e1
 ·obtain⟨m1,e1⟩:=I.base.tbls b ps e
  obtain⟨m2,e2⟩:=tbls b _ e1
  exact⟨m1++m2,by rw[e2,Array.append_assoc]⟩
 ·obtain⟨m,hn,hl⟩:=I.loc
  refine⟨m,ns m hn,fun i x v e1 e2 e3=>?_⟩
  obtain⟨u,r,l⟩:=hl i x v e1 e2 e3
  refine⟨u,r,?_⟩
  rcases l with l | ⟨k,c,e,z⟩
  ·exact .inl l
  ·exact .inr ⟨k,c,e,cellK x c e _ z⟩
 ·obtain⟨v,z⟩:=I.cell x c e
  exact⟨v,cellK x c e v z⟩
 ·obtain⟨m,⟨o,_,_,ho,_⟩,_⟩:=I.loc
  exact free _ o (fun z=>(hch _ z).2.1 rfl) ho I.free
 ·obtain⟨v,o,ho,hd⟩:=I.cell x c e
  exact free c o (fun z=>(hch c z).2.2.1 x c e rfl) ho (I.freeC x c e)
 ·obtain⟨e,n,ne,nf,d⟩:=I.pin p hp
  have nch:p.1∉ch:=fun z=>(hch p.1 z).2.2.2 p hp rfl
  exact⟨keep p.1 p.2 ne nf nch e n,free p.1 p.2 nch e n,ne,nf,d⟩
theorem Inv.un{t':Nat}(I:Inv X pins σ H s)(u:Un X.fs [] H H' s.heap h')(hok:F8 X.prog X.w H' h'):Inv X pins σ H' { s with heap:=h',toks:=t' }:=by
 obtain⟨m,⟨o,es,ep,ho,r⟩,_⟩:=id I.loc
 obtain⟨sl,hL⟩:=u.any ho I.free (by simp)
 exact I.step (g':=s.gens) (d':=s.drawn) (ch:=[]) (fun _ z=>nomatch z) (fun b o _ hb _ e n=>u.keep b o e n hb (by simp)) (fun b o _ hb _ e n=>u.slot b o e n hb (by simp)) (fun b o _ e n=>u.free b o e n (by simp)) (fun b o _ e=>u.there b o e (by simp)) u.tups u.frzs u.tbls (fun m' hm=>by
  obtain⟨o',es',ep',ho',r'⟩:=hm
  rw[ho]at ho';cases ho'
  exact⟨_,es',ep',hL,r'⟩) hok I.bare
theorem Inv.call{g':Array GenState}{t':Nat}{d':Drawn}{ch:List Addr}(I:Inv X pins σ H s)(u:Un (frs X.stack) ch H H' s.heap h')(hok:F8 X.prog X.w H' h')(hg:AllBare g')
  (hch:∀b∈ch,(b∈X.ex∨X.s₀.heap.objs.size≤b)∧b≠X.env.locals∧(∀x c,X.env.cells.lookup x=some c→c≠b)∧∀p∈X.pn++pins,p.1≠b) :
  Inv X pins σ H' { s with heap:=h',gens:=g',drawn:=d',toks:=t' }:=by
 obtain⟨m,⟨o,es,ep,ho,r⟩,_⟩:=id I.loc
 obtain⟨sl,hL⟩:=u.any ho I.free fun z=>(hch _ z).2.1 rfl
 exact I.step (ch:=ch) hch (fun b o hL hb hc e n=>u.keep b o e n (fun z=>(List.mem_cons.mp (I.stkSub b z)).elim hL hb) hc) (fun b o _ _ hc e n=>u.any e n hc) (fun b o hc e n=>u.free b o e n hc) (fun b o hc e=>u.there b o e hc) u.tups u.frzs u.tbls (fun m' hm=>by
  obtain⟨o',es',ep',ho',r'⟩:=hm
  rw[ho]at ho';cases ho'
  exact⟨_,es',ep',hL,r'⟩) hok hg
theorem Inv.turned{t':Nat}{it:Addr}(I:Inv X pins σ H s)(k:∀b o,b≠it→s.heap.get? b=some o→h'.get? b=some o)(hn:H it=none)(hL:it≠X.env.locals)
  (h1:it∈X.ex∨X.s₀.heap.objs.size≤it) (h2:∀x c,X.env.cells.lookup x=some c→c≠it) (h3:∀p∈X.pn++pins,p.1≠it):Inv X pins σ H { s with heap:=h',toks:=t' }:=by
 have nit:∀b u,H b=some u→b≠it:=fun b u e z=>by rw[z,hn]at e;cases e
 refine I.step (g':=s.gens) (d':=s.drawn) (ch:=[it]) (fun b hb=>?_) (fun b o _ _ hc e _=>k b o (fun z=>hc (by simp[z])) e) (fun b o _ _ hc e _=>⟨o.slots,k b o (fun z=>hc (by simp[z])) e⟩) (fun _ _ _ _ n=>n)
  (fun b o hc e=>⟨o,k b o (fun z=>hc (by simp[z])) e⟩) (fun _ _ e=>e) (fun _ _ _ e=>e) (fun b ps e=>⟨#[],by rw[e];simp⟩) (fun m hm=>?_) (fun b u e=>?_) I.bare
 ·have e:b=it:=by simpa using hb
  subst e
  exact⟨h1,hL,h2,h3⟩
 ·obtain⟨o,es,ep,ho,r⟩:=hm
  exact⟨o,es,ep,k _ o (Ne.symm hL) ho,r⟩
 ·refine(I.hok b u e).stay (fun c v hc q=>k c v ?_ q) (fun _ q=>q) fun _ _ q=>q
  rcases hc with z | z
  ·rw[z];exact nit b u e
  ·exact nit c _ z
theorem Inv.tok(I:Inv X pins σ H s)(t:Nat):Inv X pins σ H { s with toks:=t }:=I.un (h':=s.heap) (t':=t) Un.refl I.hok
theorem Inv.kept{t':Nat}(I:Inv X pins σ H s)(k:∀b u,s.heap.get? b=some u→h'.get? b=some u):Inv X pins σ H { s with heap:=h',toks:=t' }:=I.un (Un.kept k) (I.hok.kept k)
theorem Inv.laid{a:Addr}{o:HO}{t':Nat}(I:Inv X pins σ H s)(k:∀b u,s.heap.get? b=some u→h'.get? b=some u)(hp:s.heap.objs.size≤a)(new:y0 X.prog X.w (upd H a o) h' a o) :
  Inv X pins σ (upd H a o) { s with heap:=h',toks:=t' }:=I.un (Un.laid k hp (I.hok.fresh hp)) (I.hok.laid k hp new)
theorem Inv.write{x e:Addr}{o:HO}{t':Nat}(I:Inv X pins σ H s)(mu:Mut (H x))(he:e=x∨H e=some (.own x))(k:∀b u,b≠e→s.heap.get? b=some u→h'.get? b=some u)(heo:∃u,h'.get? e=some u)
  (new:y0 X.prog X.w (upd H x o) h' x o):Inv X pins σ (upd H x o) { s with heap:=h',toks:=t' }:=I.un (Un.write mu he k heo) (I.hok.write mu he k heo new)
theorem Inv.pins_of{pins':List (Addr×Obj)}(I:Inv X pins σ H s)(h:∀p∈pins',s.heap.get? p.1=some p.2∧H p.1=none∧p.1≠X.env.locals∧p.1∉X.fs∧∀v,p.2.data≠.cell v):Inv X pins' σ H s:=
 ⟨I.ok,I.os,I.bare,I.base,I.loc,I.cell,I.free,I.freeC,fun p hp=>(List.mem_append.mp hp).elim (fun z=>I.pin p (List.mem_append_left _ z)) (h p),I.hok,I.len⟩
theorem a0G{N:List Str}(hN:N.Nodup){i j:Nat}{x:Str}(a:N[i]?=some x)(b:N[j]?=some x):i=j:=by
 obtain⟨h1,e1⟩:=List.getElem?_eq_some_iff.mp a
 obtain⟨h2,e2⟩:=List.getElem?_eq_some_iff.mp b
 exact(List.getElem_inj hN).mp (e1.trans e2.symm)
theorem a0B{M:Model}{A:Around}{E:Value→Shared→Prop}{i:Nat}{x:Str}{v:V}{u:Value}{Q:Unit→Shared→Prop}(I:Inv X pins σ H s)(hN:X.N.Nodup)(hi:X.N[i]?=some x)(hx:Loc X.env.scope x)(r:RelV v u)
  (h:∀s',Inv X pins (σ.set i (some v)) H s'→(∃a,Heap.SameBut a s.heap s'.heap∧(a=X.env.locals∨X.env.cells.lookup x=some a))→Q () s') (hf:X.fn x=true∨X.env.scope.names.lookup x=some .local:=by first | exact .inl rfl | exact .inr rfl | assumption):wpAny M A (storeName X.env x u) Q E s:=by
 obtain⟨m,hn,hl⟩:=id I.loc
 have hcls:(X.env.scope.kind==.class||(X.env.scope.kind==.module&&X.env.locals != X.env.globals))=false:=by rw[I.ok.kind];rfl
 have hiσ:i<σ.length:=by rw[I.len];exact(List.getElem?_eq_some_iff.mp hi).1
 have cne:=I.cne
 have tracked:∀{a:Addr} {h':Heap},(∃o,s.heap.get? a=some o∧H a=none)→Heap.SameBut a s.heap h'→F8 X.prog X.w H h':=fun {a h'} ha hs b ob e=>by
  obtain⟨_,_,hfree⟩:=ha
  refine(I.hok b ob e).stay (fun c w' hc q=>(hs.2 c ?_).trans q) (fun _ q=>q) fun _ _ q=>q
  rintro rfl
  rcases hc with rfl | hc
  ·rw[hfree]at e;cases e
  ·rw[hfree]at hc;cases hc
 rcases hx with hk | hk
 ·refine wpAny_storeName_local hk hn (fun h' hn' hs=>?_) hcls
  obtain⟨oL,_,_,hoL,_⟩:=id hn
  refine h _ ⟨I.ok,I.os,I.bare,⟨fun b o e n hb hx=>?_,fun b o e n hb hx=>?_,I.base.free,fun b o e hx=>?_,I.base.tups,I.base.frzs,I.base.tbls⟩,⟨_,hn',fun j y v' e1 e2 e3=>?_⟩,fun y c e=>?_,I.free,I.freeC,fun p hp=>?_,tracked ⟨oL,hoL,I.free⟩ hs,by simpa using I.len⟩ ⟨_,hs,.inl rfl⟩
  ·exact(hs.2 b (Nat.ne_of_lt (Nat.lt_of_lt_of_le (Heap.lt_size e) I.ok.above))).trans (I.base.keep b o e n hb hx)
  ·obtain⟨sl,e1⟩:=I.base.slot b o e n hb hx
   exact⟨sl,(hs.2 b (Nat.ne_of_lt (Nat.lt_of_lt_of_le (Heap.lt_size e) I.ok.above))).trans e1⟩
  ·obtain⟨o',e1⟩:=I.base.there b o e hx
   exact⟨o',(hs.2 b (Nat.ne_of_lt (Nat.lt_of_lt_of_le (Heap.lt_size e) I.ok.above))).trans e1⟩
  ·by_cases hj:j=i
   ·subst hj
    rw[hi]at e1;cases e1
    rw[List.getElem?_set_self hiσ]at e2
    cases e2
    exact⟨u,r,.inl ⟨hk,by simp⟩⟩
   ·rw[List.getElem?_set_ne (Ne.symm hj)]at e2
    obtain⟨u',r',q⟩:=hl j y v' e1 e2 e3
    refine⟨u',r',?_⟩
    rcases q with ⟨k,e⟩ | ⟨k,c,e,z⟩
    ·refine .inl ⟨k,?_⟩
     have:y≠x:=fun e=>hj (a0G hN e1 (e▸hi))
     simp[this,e]
    ·exact .inr ⟨k,c,e,z.sameBut hs (cne y c e)⟩
  ·obtain⟨w',z⟩:=I.cell y c e
   exact⟨w',z.sameBut hs (cne y c e)⟩
  ·obtain⟨e,n,ne,nf,d⟩:=I.pin p hp
   exact⟨(hs.2 p.1 ne).trans e,n,ne,nf,d⟩
 ·have hfn:X.fn x=true:=by
   rcases hf with z | z
   ·exact z
   ·rw[z]at hk;cases hk
  obtain⟨c,hc⟩:=I.ok.has x (.inl hk)
  obtain⟨w',z⟩:=I.cell x c hc
  refine wpAny_storeName_cell I.ok.kind hk hc z (fun h' hc' hs=>?_)
  obtain⟨oc,hoc,hocd⟩:=id z
  refine h { s with heap:=h' } ⟨I.ok,I.os,I.bare,⟨fun b o e n hb hx=>?_,fun b o e n hb hx=>?_,I.base.free,fun b o e hx=>?_,I.base.tups,I.base.frzs,I.base.tbls⟩,⟨m,hn.sameBut hs (Ne.symm (cne x c hc)),fun j y v' e1 e2 e3=>?_⟩,fun y c' e=>?_,I.free,I.freeC,fun p hp=>?_,tracked ⟨oc,hoc,I.freeC x c hc⟩ hs,by simpa using I.len⟩ ⟨c,hs,.inr hc⟩
  ·exact(hs.2 b (Nat.ne_of_lt (Nat.lt_of_lt_of_le (Heap.lt_size e) (I.ok.cab x c hfn hc)))).trans (I.base.keep b o e n hb hx)
  ·obtain⟨sl,e1⟩:=I.base.slot b o e n hb hx
   exact⟨sl,(hs.2 b (Nat.ne_of_lt (Nat.lt_of_lt_of_le (Heap.lt_size e) (I.ok.cab x c hfn hc)))).trans e1⟩
  ·obtain⟨o',e1⟩:=I.base.there b o e hx
   exact⟨o',(hs.2 b (Nat.ne_of_lt (Nat.lt_of_lt_of_le (Heap.lt_size e) (I.ok.cab x c hfn hc)))).trans e1⟩
  ·by_cases hj:j=i
   ·subst hj
    rw[hi]at e1;cases e1
    rw[List.getElem?_set_self hiσ]at e2
    cases e2
    exact⟨u,r,.inr ⟨.inl hk,c,hc,hc'⟩⟩
   ·rw[List.getElem?_set_ne (Ne.symm hj)]at e2
    obtain⟨u',r',q⟩:=hl j y v' e1 e2 e3
    refine⟨u',r',?_⟩
    rcases q with q | ⟨k,c',e,z'⟩
    ·exact .inl q
    ·refine .inr ⟨k,c',e,z'.sameBut hs ?_⟩
     rintro rfl
     exact hj (a0G hN e1 (I.ok.inj _ _ _ e hc▸hi))
  ·by_cases hcc:c'=c
   ·subst hcc;exact⟨_,hc'⟩
   ·obtain⟨w2,z2⟩:=I.cell y c' e
    exact⟨w2,z2.sameBut hs hcc⟩
  ·obtain⟨e,n,ne,nf,d⟩:=I.pin p hp
   refine⟨(hs.2 p.1 ?_).trans e,n,ne,nf,d⟩
   intro q
   rw[q,hoc]at e
   have q':oc=p.2:=Option.some.inj e
   exact d w' (by rw[←q'];exact hocd)
theorem a8H{M:Model}{A:Around}{E:Value→Shared→Prop}{i:Nat}{x:Str}{v:V}{u:Value}{Q:Unit→Shared→Prop}(I:Inv X pins σ H s)(hN:X.N.Nodup)(hi:X.N[i]?=some x)(hx:Loc X.env.scope x)(r:RelV v u)
  (h:∀s',Inv X pins (σ.set i (some v)) H s'→Q () s') (hf:X.fn x=true∨X.env.scope.names.lookup x=some .local:=by first | exact .inl rfl | exact .inr rfl | assumption):wpAny M A (storeName X.env x u) Q E s:=
 a0B I hN hi hx r (fun s' I' _=>h s' I') hf
theorem Inv.call'{s':Shared}{ch:List Addr}(I:Inv X pins σ H s)(ho:s'.os=s.os)(u:Un (frs X.stack) ch H H' s.heap s'.heap)(hok:F8 X.prog X.w H' s'.heap)(hg:AllBare s'.gens)
  (hch:∀b∈ch,(b∈X.ex∨X.s₀.heap.objs.size≤b)∧b≠X.env.locals∧(∀x c,X.env.cells.lookup x=some c→c≠b)∧∀p∈X.pn++pins,p.1≠b):Inv X pins σ H' s':=by
 obtain⟨h',g',d',t',o'⟩:=s'
 have e:o'=s.os:=ho
 subst e
 exact I.call (g':=g') (t':=t') (d':=d') u hok hg hch
end
abbrev XK:=Value→Option Addr→Hp→Prop
abbrev St:=List (Option V)
abbrev VK:=V→Hp→Prop
abbrev TE:=St→Hp→VK→Prop
abbrev TT:=St→Hp→(Bool→Hp→Prop)→Prop
abbrev TA:=St→Hp→(List V→Hp→Prop)→Prop
structure Ends where
 nx:St→Hp→Prop
 rt:VK
 bk:St→Hp→Prop:=fun _ _=>False
 ct:St→Hp→Prop:=fun _ _=>False
abbrev TS:=Ends→St→Hp→Prop
def EP(X:Cx)(pins:List (Addr×Obj))(σ:St)(Q:VK)(u:Value)(s':Shared):Prop:=∃v H',Inv X pins σ H' s'∧RelV v u∧Q v H'
def TP(X:Cx)(pins:List (Addr×Obj))(σ:St)(Q:Bool→Hp→Prop)(b:Bool)(s':Shared):Prop:=∃H',Inv X pins σ H' s'∧Q b H'
def AP(X:Cx)(pins:List (Addr×Obj))(σ:St)(Q:List V→Hp→Prop)(us:List Value)(s':Shared):Prop:=∃vs H',Inv X pins σ H' s'∧i8 vs us∧Q vs H'
def SP(X:Cx)(pins:List (Addr×Obj))(D:Ends)(f:Flow)(s':Shared):Prop:=
 match f with
 | .next=>∃σ' H',Inv X pins σ' H' s'∧D.nx σ' H'
 | .brk=>∃σ' H',Inv X pins σ' H' s'∧D.bk σ' H'
 | .cont=>∃σ' H',Inv X pins σ' H' s'∧D.ct σ' H'
 | .ret u=>∃v σ' H',Inv X pins σ' H' s'∧RelV v u∧D.rt v H'
def PE(X:Cx)(e:Expr)(t:TE):Prop:=
 ∀(pins:List (Addr×Obj)) (s:Shared) (σ:St) (H:Hp) (Q:VK),Inv X pins σ H s→t σ H Q→wpAny (model X.prog X.w) X.A (eval e X.env) (EP X pins σ Q) X.xe s
def PT(X:Cx)(e:Expr)(t:TT):Prop:=
 ∀(pins:List (Addr×Obj)) (s:Shared) (σ:St) (H:Hp) (Q:Bool→Hp→Prop),Inv X pins σ H s→t σ H Q→wpAny (model X.prog X.w) X.A (isTrue e X.env (eval e X.env)) (TP X pins σ Q) X.xe s
def PW(X:Cx)(e:Expr)(t:TT):Prop:=
 ∀(whole:Sem Value) (pins:List (Addr×Obj)) (s:Shared) (σ:St) (H:Hp) (Q:Bool→Hp→Prop),Inv X pins σ H s→t σ H Q→wpAny (model X.prog X.w) X.A (isTrue e X.env whole) (TP X pins σ Q) X.xe s
theorem PW.pt{X:Cx}{e:Expr}{t:TT}(h:PW X e t):PT X e t:=h _
def PA(X:Cx)(es:List Expr)(t:TA):Prop:=
 ∀(pos:Pos) (pins:List (Addr×Obj)) (s:Shared) (σ:St) (H:Hp) (Q:List V→Hp→Prop),Inv X pins σ H s→t σ H Q→wpAny (model X.prog X.w) X.A (spliced (backTo pos (starEach es X.env))) (AP X pins σ Q) X.xe s
def PS(X:Cx)(st:Stmt)(t:TS):Prop:=
 ∀(pins:List (Addr×Obj)) (s:Shared) (σ:St) (H:Hp) (D:Ends),Inv X pins σ H s→t D σ H→wpAny (model X.prog X.w) X.A (exec st X.env) (SP X pins D) X.xe s
def PSs(X:Cx)(st:List Stmt)(t:TS):Prop:=
 ∀(pins:List (Addr×Obj)) (s:Shared) (σ:St) (H:Hp) (D:Ends),Inv X pins σ H s→t D σ H→wpAny (model X.prog X.w) X.A (execs st X.env) (SP X pins D) X.xe s
theorem k7{α:Type}{t:Sem α}{Q Q':α→Shared→Prop}{M:Model}{A:Around}{E:Value→Shared→Prop}{s:Shared}(h:wpAny M A t Q E s)(hQ:∀a s,Q a s→Q' a s):wpAny M A t Q' E s:=wpAny_mono h hQ fun _ _ x=>x
end L2
namespace L2
open PySem PySem.Spec PyProof.Rows
section
variable{X:Cx}
theorem bin{a b:Expr}{ta tb:TE}(ha:PE X a ta)(hb:PE X b tb){pins:List (Addr×Obj)}{s:Shared}{σ:St}{H:Hp}{R:V→V→Hp→Prop}(I:Inv X pins σ H s)(h:ta σ H fun x H1=>tb σ H1 fun y H2=>R x y H2)
  {α:Type} {Q:α→Shared→Prop} {f:Value→Value→Sem α}
  (hf:∀v u s2 x y H2,Inv X pins σ H2 s2→RelV x v→RelV y u→R x y H2→wpAny (model X.prog X.w) X.A (f v u) Q X.xe s2) :
  wpAny (model X.prog X.w) X.A (eval a X.env) (fun v s₁=>wpAny (model X.prog X.w) X.A (eval b X.env) (fun u s₂=>wpAny (model X.prog X.w) X.A (f v u) Q X.xe s₂) X.xe s₁) X.xe s:=by
 refine k7 (ha pins s σ H _ I h) fun v s1 ⟨x,H1,I1,r1,q1⟩=>?_
 refine k7 (hb pins s1 σ H1 _ I1 q1) fun u s2 ⟨y,H2,I2,r2,q2⟩=>?_
 exact hf v u s2 x y H2 I2 r1 r2 q2
inductive b9t(σ:St)(i:Nat)(H:Hp)(Q:VK):Prop
 | mk (v:V) (e:σ[i]?=some (some v)) (q:Q v H)
def b1n(i:Nat):TE:=fun σ H Q=>b9t σ i H Q
inductive IBl(x:V)(Q:Bool→Prop):Prop
 | mk (c:Bool) (e:x=.bl c) (q:Q c)
def tC(v:V):TE:=fun _ H Q=>Q v H
theorem b9l{i:Nat}{x:Str}{pos:Pos}(hN:X.N[i]?=some x)(hv:Vis X.env.scope x)(hd:(x==("__debug__":Str))=false:=by decide)(hcd:(x==("__classdict__":Str))=false:=by decide):PE X (.Name x pos) (b1n i):=by
 intro pins s σ H Q I h
 obtain⟨v,e,h⟩:=h
 obtain⟨m,hn,hl⟩:=I.loc
 obtain⟨u,r,l⟩:=hl i x v hN e hv
 have fin:EP X pins σ Q u s:=⟨v,H,I,r,h⟩
 rcases l with ⟨hk,hm⟩ | ⟨hk,c,hc,hcell⟩
 ·exact wpAny_Name (wpAny_loadName_local I.ok.kind hk hn hm fin) hd
 ·rcases hk with hk | hk
  ·exact wpAny_Name (wpAny_loadName_cell I.ok.kind hk hc hcell fin) hd
  ·exact wpAny_Name (wpAny_loadName_free I.ok.kind hk hc hcell fin hcd) hd
theorem d5{i j pos}:PE X (.Constant (.int i) j pos) (tC (.int i)):=fun _ _ _ H _ I h=>wpAny_Constant_int ⟨.int i,H,I.tok _,⟨_,rfl⟩,h⟩
theorem y6{b j pos}:PE X (.Constant (.bool b) j pos) (tC (.bl b)):=fun _ _ _ H _ I h=>Constant_bool ⟨.bl b,H,I,rfl,h⟩
theorem b3o{j pos}:PE X (.Constant .none j pos) (tC .non):=fun _ _ _ H _ I h=>Constant_none ⟨.non,H,I,rfl,h⟩
theorem i7{x j pos}:PE X (.Constant (.str x) j pos) (tC (.str x)):=fun _ _ _ H _ I h=>Calls.Constant_str ⟨.str x,H,I.tok _,⟨_,rfl⟩,h⟩
def Gl(X:Cx)(x:Str):Prop:=X.env.kindOf x=some .globalImplicit
theorem a1l{E:Value→Shared→Prop}{pins:List (Addr×Obj)}{s:Shared}{σ:St}{H:Hp}{x:Str}{u:Value}{pos:Pos}{Q:Value→Shared→Prop}(I:Inv X pins σ H s)(hg:Gl X x)(hm:X.mg x=some u)(h:Q u s)
  (hd:(x==("__debug__":Str))=false:=by decide):wpAny (model X.prog X.w) X.A (eval (.Name x pos) X.env) Q E s:=
 Calls.Name_function_global I.ok.kind hg (Calls.loadGlobal_global (by rw[I.ok.glob];exact I.mod.glob.keeps I.bk) hm h) hd
theorem Z3{E:Value→Shared→Prop}{pins:List (Addr×Obj)}{s:Shared}{σ:St}{H:Hp}{x:Str}{u:Value}{pos:Pos}{Q:Value→Shared→Prop}(I:Inv X pins σ H s)(hg:Gl X x)(hm:X.mg x=none)(hv:bootBuiltins x=some u)(h:Q u s)
  (hn:x≠"__name__":=by decide) (hd:(x==("__debug__":Str))=false:=by decide):wpAny (model X.prog X.w) X.A (eval (.Name x pos) X.env) Q E s:=by
 obtain⟨mb,h1,h2⟩:=I.mod.blt
 exact Calls.Name_function_global I.ok.kind hg (Calls.loadGlobal_builtin (by rw[I.ok.glob];exact I.mod.glob.keeps I.bk) hm (by rw[I.ok.blt];exact h1.keeps I.bk) ((h2 x hn).trans hv) h) hd
theorem u9{x:Str}{v:V}{u:Value}{pos:Pos}(hg:Gl X x)(hm:X.mg x=some u)(r:RelV v u)(hd:(x==("__debug__":Str))=false:=by decide):PE X (.Name x pos) (tC v):=
 fun _ _ _ H _ I h=>a1l I hg hm ⟨v,H,I,r,h⟩ hd
theorem J0{x:Str}{v:V}{u:Value}{pos:Pos}(hg:Gl X x)(hm:X.mg x=none)(hv:bootBuiltins x=some u)(r:RelV v u)(hn:x≠"__name__":=by decide)(hd:(x==("__debug__":Str))=false:=by decide):PE X (.Name x pos) (tC v):=
 fun _ _ _ H _ I h=>Z3 I hg hm hv ⟨v,H,I,r,h⟩ hn hd
variable{a b:Expr}{ta tb:TE}{pos:Pos}
def PC(X:Cx)(op:CmpOp)(a b:Expr)(t:TE):Prop:=
 ∀(pins:List (Addr×Obj)) (s:Shared) (σ:St) (H:Hp) (Q:VK),Inv X pins σ H s→t σ H Q →
  wpAny (model X.prog X.w) X.A (eval a X.env) (fun v s₁=>wpAny (model X.prog X.w) X.A (eval b X.env) (fun u s₂=>wpAny (model X.prog X.w) X.A (compareOp op v u) (EP X pins σ Q) X.xe s₂) X.xe s₁) X.xe s
theorem b7a(b:Expr){op:CmpOp}(h:op≠.In)(h2:op≠.NotIn):behindInMarks op b=false:=by
 have e1:(op==CmpOp.In)=false:=by cases op<;>first | rfl | exact absurd rfl h
 have e2:(op==CmpOp.NotIn)=false:=by cases op<;>first | rfl | exact absurd rfl h2
 cases b<;>simp[behindInMarks,e1,e2]
def tB(t:TE):TT:=fun σ H Q=>t σ H fun x H1=>IBl x fun c=>Q c H1
theorem b3v{op:CmpOp}{t:TE}(h:PC X op a b t)(h1:behindInMarks op b=false:=by first | exact b7a _ (by decide) (by decide) | rfl):PT X (.Compare a [op] [b] pos) (tB t):=by
 intro pins s σ H Q I hw
 refine wpAny_isTrue_Compare1 (k7 (h pins s σ H _ I hw) fun v s1 h1=>k7 h1 fun u s2 h2=>k7 h2 fun c s3 ⟨x,H1,I1,r1,q1⟩=>?_) h1
 obtain⟨d,rfl,q⟩:=q1
 cases r1
 exact wpAny_truthy_bool ⟨H1,I1,q⟩
theorem C0{e:Expr}{t:TE}(h:PE X e t)(he:∀whole,isTrue e X.env whole=(do let v ←whole;standAt e.pos;holding [v] (truthy v)):=by intro _;rfl):PT X e (tB t):=by
 intro pins s σ H Q I hw
 refine isTrue_plain (k7 (h pins s σ H _ I hw) fun v s1 ⟨x,H1,I1,r1,q1⟩=>?_) (he _)
 obtain⟨d,rfl,q⟩:=q1
 cases r1
 exact wpAny_truthy_bool ⟨H1,I1,q⟩
variable{tA tB':TT}{rest:List Expr}
def b2u(t u:TT):TT:=fun σ H Q=>t σ H fun c H1=>if c=true then u σ H1 Q else Q false H1
def tOr(t u:TT):TT:=fun σ H Q=>t σ H fun c H1=>if c=true then Q true H1 else u σ H1 Q
def b4u(t:TT):TT:=fun σ H Q=>t σ H fun c H1=>Q (!c) H1
theorem M8(ha:PT X a tA):PW X (.BoolOp .And [a] pos) tA:=by
 intro wh pins s σ H Q I h
 refine isTrue_and (k7 (ha pins s σ H Q I h) fun c s1 e=>?_)
 cases c with
 | true=>exact isTrue_and_nil e
 | false=>exact e
theorem P5(ha:PT X a tA):PW X (.BoolOp .Or [a] pos) tA:=by
 intro wh pins s σ H Q I h
 refine isTrue_or (k7 (ha pins s σ H Q I h) fun c s1 e=>?_)
 cases c with
 | false=>exact isTrue_or_nil e
 | true=>exact e
theorem P4(ha:PT X a tA)(hb:PW X (.BoolOp .And (b::rest) pos) tB'):PW X (.BoolOp .And (a::b::rest) pos) (b2u tA tB'):=by
 intro wh pins s σ H Q I h
 refine isTrue_and (k7 (ha pins s σ H _ I h) fun c s1 ⟨H1,I1,q1⟩=>?_)
 cases c with
 | true=>exact hb wh pins s1 σ H1 Q I1 q1
 | false=>exact⟨H1,I1,q1⟩
theorem P8(ha:PT X a tA)(hb:PW X (.BoolOp .Or (b::rest) pos) tB'):PW X (.BoolOp .Or (a::b::rest) pos) (tOr tA tB'):=by
 intro wh pins s σ H Q I h
 refine isTrue_or (k7 (ha pins s σ H _ I h) fun c s1 ⟨H1,I1,q1⟩=>?_)
 cases c with
 | true=>exact⟨H1,I1,q1⟩
 | false=>exact hb wh pins s1 σ H1 Q I1 q1
theorem G0(ha:PT X a tA):PT X (.UnaryOp .Not a pos) (b4u tA):=by
 intro pins s σ H Q I h
 exact isTrue_not (ha pins s σ H (fun c H1=>Q (!c) H1) I h)
def b2q(ta tb:TE):TE:=fun σ H Q=>ta σ H fun x H1=>IBl x fun c=>if c=true then tb σ H1 Q else Q (.bl false) H1
def b0r(ta:TE):TE:=fun σ H Q=>ta σ H fun x H1=>IBl x fun c=>Q (.bl (!c)) H1
theorem a0a{op}{t:TE}(h:PE X a t):PE X (.BoolOp op [a] pos) t:=fun pins s σ H Q I hw=>BoolOp_one (h pins s σ H Q I hw)
theorem T1(ha:PE X a ta)(hb:PE X (.BoolOp .And (b::rest) pos) tb):PE X (.BoolOp .And (a::b::rest) pos) (b2q ta tb):=by
 intro pins s σ H Q I h
 refine BoolOp_and (k7 (ha pins s σ H _ I h) fun v s1 ⟨x,H1,I1,r1,q1⟩=>?_)
 obtain⟨c,rfl,q1⟩:=q1
 cases r1
 refine wpAny_truthy_bool ?_
 cases c with
 | true=>exact hb pins s1 σ H1 Q I1 q1
 | false=>exact⟨.bl false,H1,I1,rfl,q1⟩
theorem b4l(ha:PE X a ta):PE X (.UnaryOp .Not a pos) (b0r ta):=by
 intro pins s σ H Q I h
 refine UnaryOp_ (k7 (ha pins s σ H _ I h) fun v s1 ⟨x,H1,I1,r1,q1⟩=>?_)
 obtain⟨c,rfl,q1⟩:=q1
 cases r1
 exact not_of (wpAny_truthy_bool ⟨.bl (!c),H1,I1,rfl,q1⟩)
end
end L2
namespace L2
open PySem PySem.Spec PyProof.Rows
def d9(K:PySem.W.Frag)(H:Hp)(a:Addr)(xs:List V):Prop:=
 Rd H a (.lst xs) ∨
  ∃(o:Obj) (its:Array Value) (n:Nat),K.lookup a=some o∧o.cls=.type "list"∧o.dict=none∧o.data=.seq its n∧its.size≤sizeLine∧i8 xs its.toList
def f7(K:PySem.W.Frag)(H:Hp)(a:Addr)(xs:List V):Prop:=
 Rd H a (.tup xs) ∨
  ∃(o:Obj) (its:Array Value) (n:Nat),K.lookup a=some o∧o.cls=.type "tuple"∧o.data=.seq its n∧its.size≤sizeLine∧i8 xs its.toList
def b0s:Value→Option V
 | .none=>some .non
 | .bool b=>some (.bl b)
 | .int i _=>some (.int i)
 | .str x _=>some (.str x)
 | .bytes b _=>some (.byt b)
 | .float b _=>some (.flt b)
 | .ref a=>some (.ref a)
 | .type n=>some (.ty n)
 | _=>none
theorem RelV.abs{x:V}{u:Value}(r:RelV x u):b0s u=some x:=by
 cases x with
 | non=>cases r;rfl
 | bl _=>cases r;rfl
 | int _=>obtain⟨t,rfl⟩:=r;rfl
 | str _=>obtain⟨t,rfl⟩:=r;rfl
 | byt _=>obtain⟨t,rfl⟩:=r;rfl
 | flt _=>obtain⟨t,rfl⟩:=r;rfl
 | ref _=>cases r;rfl
 | ty _=>cases r;rfl
theorem RelV.inj{x y:V}{u:Value}(r:RelV x u)(q:RelV y u):x=y:=Option.some.inj (r.abs.symm.trans q.abs)
theorem i8.inj:∀{xs ys:List V} {us:List Value},i8 xs us→i8 ys us→xs=ys
 | _,_,_,.nil,.nil=>rfl
 | _,_,_,.cons r t,.cons r' t'=>by rw[r.inj r',i8.inj t t']
section
variable{X:Cx}{pins:List (Addr×Obj)}{σ:St}{H:Hp}{s:Shared}{a:Addr}{xs ys:List V}
theorem d9.of{K:PySem.W.Frag}(h:H a=some (.lst xs)):d9 K H a xs:=.inl (.inl h)
theorem f7.of{K:PySem.W.Frag}(h:H a=some (.tup xs)):f7 K H a xs:=.inl (.inl h)
theorem Inv.list(I:Inv X pins σ H s)(h:d9 X.K H a xs):∃its:List Value,i8 xs its∧PlainL s.heap a its.toArray∧xs.length≤sizeLine:=by
 rcases h with h | ⟨o,its,n,hk,hc,hd,hs,hz,r⟩
 ·obtain⟨z,its,n,r,e⟩:=h.ok I.hok
  exact⟨its,r,⟨_,n,e,rfl,rfl,rfl⟩,z⟩
 ·refine⟨its.toList,r,⟨o,n,I.kIn a o hk,hc,hd,by simpa using hs⟩,?_⟩
  have e:=r.length
  simp only[Array.length_toList]at e
  omega
theorem Inv.tuple(I:Inv X pins σ H s)(h:f7 X.K H a xs):∃its:List Value,i8 xs its∧IsTup s.heap a its.toArray∧xs.length≤sizeLine:=by
 rcases h with h | ⟨o,its,n,hk,hc,hs,hz,r⟩
 ·obtain⟨z,its,r,p⟩:=h.ok I.hok
  exact⟨its,r,p,z⟩
 ·refine⟨its.toList,r,⟨o,I.kIn a o hk,hc,n,by simpa using hs⟩,?_⟩
  have e:=r.length
  simp only[Array.length_toList]at e
  omega
theorem Inv.list_inj(I:Inv X pins σ H s)(h:d9 X.K H a xs)(h':d9 X.K H a ys):xs=ys:=by
 obtain⟨its,r,⟨o,n,e,_,_,d⟩,_⟩:=I.list h
 obtain⟨its',r',⟨o',n',e',_,_,d'⟩,_⟩:=I.list h'
 rw[e]at e';cases e'
 rw[d]at d'
 injection d' with d1 _
 have:its=its':=by simpa using congrArg Array.toList d1
 subst this
 exact r.inj r'
end
abbrev Cx.wish(X:Cx)(E:Value→Shared→Prop):Cx:={ X with xe:=E }
abbrev Cx.nox(X:Cx):Cx:=X.wish fun _ _=>False
theorem Cx.Ok.wish{X:Cx}(ok:X.Ok)(E:Value→Shared→Prop):(X.wish E).Ok:=
 ⟨ok.mod,ok.kind,ok.glob,ok.blt,ok.above,ok.inj,ok.has,ok.cab,ok.hd,ok.frames,ok.stk,ok.exf,ok.bs,ok.bsz,ok.noex,ok.exfs,ok.funs,ok.frf⟩
theorem Cx.Ok.unwish{X:Cx}{E:Value→Shared→Prop}(ok:(X.wish E).Ok):X.Ok:=
 ⟨ok.mod,ok.kind,ok.glob,ok.blt,ok.above,ok.inj,ok.has,ok.cab,ok.hd,ok.frames,ok.stk,ok.exf,ok.bs,ok.bsz,ok.noex,ok.exfs,ok.funs,ok.frf⟩
section
variable{X:Cx}{pins:List (Addr×Obj)}{σ:St}{H:Hp}{s:Shared}{E:Value→Shared→Prop}
theorem Inv.wish(I:Inv X pins σ H s)(E:Value→Shared→Prop):Inv (X.wish E) pins σ H s:=⟨I.ok.wish E,I.os,I.bare,I.base,I.loc,I.cell,I.free,I.freeC,I.pin,I.hok,I.len⟩
theorem Inv.unwish(I:Inv (X.wish E) pins σ H s):Inv X pins σ H s:=⟨I.ok.unwish,I.os,I.bare,I.base,I.loc,I.cell,I.free,I.freeC,I.pin,I.hok,I.len⟩
theorem SP.unwish{D:Ends}{f:Flow}{s':Shared}(h:SP (X.wish E) pins D f s'):SP X pins D f s':=by
 cases f with
 | next=>obtain⟨σ',H',I,q⟩:=h;exact⟨σ',H',I.unwish,q⟩
 | brk=>obtain⟨σ',H',I,q⟩:=h;exact⟨σ',H',I.unwish,q⟩
 | cont=>obtain⟨σ',H',I,q⟩:=h;exact⟨σ',H',I.unwish,q⟩
 | ret u=>obtain⟨v,σ',H',I,r,q⟩:=h;exact⟨v,σ',H',I.unwish,r,q⟩
theorem PSs.nox{st:List Stmt}{t:TS}(h:PSs X.nox st t):PSs X st t:=fun pins s σ H D I hw=>
 wpAny_mono (h pins s σ H D (I.wish _) hw) (fun _ _ q=>q.unwish) fun _ _ z=>False.elim z
end
section
variable{X:Cx}{st:Stmt}{rest:List Stmt}{t u:TS}{e:Expr}{te:TE}{pos:Pos}
def b6q:TS:=fun D σ H=>D.nx σ H
def b1s(t u:TS):TS:=fun D σ H=>t { D with nx:=u D } σ H
theorem j1:PSs X [] b6q:=fun _ _ σ H _ I h=>wpAny_execs_nil ⟨σ,H,I,h⟩
theorem b9(h1:PS X st t)(h2:PSs X rest u):PSs X (st::rest) (b1s t u):=by
 intro pins s σ H D I h
 refine wpAny_execs_cons (k7 (h1 pins s σ H { D with nx:=u D } I h) fun f s1 q=>?_)
 cases f with
 | next=>
  obtain⟨σ',H',I',q⟩:=q
  exact h2 pins s1 σ' H' D I' q
 | ret v=>exact q
 | brk=>exact q
 | cont=>exact q
theorem d6(h1:PS X st t):PSs X [st] t:=by
 intro pins s σ H D I h
 refine wpAny_execs_cons (k7 (h1 pins s σ H D I h) fun f s1 q=>?_)
 cases f with
 | next=>exact wpAny_execs_nil q
 | ret v=>exact q
 | brk=>exact q
 | cont=>exact q
theorem Inv.quiet{pins:List (Addr×Obj)}{σ:St}{H:Hp}{s:Shared}(I:Inv X pins σ H s):interactive X.env=false:=by simp[interactive,I.ok.kind]
def b3q(te:TE):TS:=fun D σ H=>te σ H fun _ H1=>D.nx σ H1
theorem l6(he:PE X e te)(hs:swapsWith e none pos.line X.env=pure false:=by rfl):PS X (.Expr e pos) (b3q te):=by
 intro pins s σ H D I h
 exact wpAny_Expr_any (k7 (he pins s σ H _ I h) fun v s1 ⟨x,H1,I1,r1,q1⟩=>⟨σ,H1,I1,q1⟩) I.quiet hs
def b8s(te:TE):TS:=fun D σ H=>te σ H D.rt
theorem i3(he:PE X e te):PS X (.Return (some e) pos) (b8s te):=by
 intro pins s σ H D I h
 exact wpAny_Return_some (k7 (he pins s σ H _ I h) fun v s1 ⟨x,H1,I1,r1,q1⟩=>⟨x,σ,H1,I1,r1,q1⟩)
def b4t(c:TT)(t u:TS):TS:=fun D σ H=>c σ H fun b H1=>if b=true then t D σ H1 else u D σ H1
theorem j9{c:Expr}{a b:List Stmt}{tc:TT}(hc:PT X c tc)(ha:PSs X a t)(hb:PSs X b u):PS X (.If c a b pos) (b4t tc t u):=by
 intro pins s σ H D I h
 refine wpAny_If (k7 (hc pins s σ H _ I h) fun d s1 ⟨H1,I1,q1⟩=>?_)
 cases d with
 | true=>exact ha pins s1 σ H1 D I1 q1
 | false=>exact hb pins s1 σ H1 D I1 q1
end
abbrev TG:=V→St→Hp→(St→Hp→Prop)→Prop
abbrev TGs:=List V→St→Hp→(St→Hp→Prop)→Prop
def PG(X:Cx)(target:Expr)(t:TG):Prop:=
 ∀(pins:List (Addr×Obj)) (s:Shared) (σ:St) (H:Hp) (v:V) (u:Value) (Q:St→Hp→Prop),Inv X pins σ H s→RelV v u→t v σ H Q →
  wpAny (model X.prog X.w) X.A (assign target X.env u) (fun _ s'=>∃σ' H',Inv X pins σ' H' s'∧Q σ' H') X.xe s
def PGs(X:Cx)(ts:List Expr)(t:TGs):Prop:=
 ∀(pins:List (Addr×Obj)) (s:Shared) (σ:St) (H:Hp) (vs:List V) (us:List Value) (Q:St→Hp→Prop),Inv X pins σ H s→i8 vs us→t vs σ H Q →
  wpAny (model X.prog X.w) X.A (assignInOrder ((assignEach ts X.env).map (·.2)) us) (fun _ s'=>∃σ' H',Inv X pins σ' H' s'∧Q σ' H') X.xe s
section
variable{X:Cx}{pos:Pos}
def a0t(i:Nat):TG:=fun v σ H Q=>Q (σ.set i (some v)) H
theorem l4{i:Nat}{x:Str}(hN:X.N.Nodup)(hi:X.N[i]?=some x)(hx:Loc X.env.scope x)(hf:X.fn x=true∨X.env.scope.names.lookup x=some .local:=by first | exact .inl rfl | exact .inr rfl | assumption):PG X (.Name x pos) (a0t i):=by
 intro pins s σ H v u Q I r h
 exact wpAny_assign_Name (a8H I hN hi hx r (fun s' I'=>⟨_,H,I',h⟩) hf)
def b7s:TGs:=fun vs σ H Q=>vs=[]∧Q σ H
def b6p(t:TG)(u:TGs):TGs:=fun vs σ H Q=>∃v r,vs=v::r∧t v σ H fun σ' H'=>u r σ' H' Q
theorem a7z:PGs X [] b7s:=by
 intro pins s σ H vs us Q I r h
 obtain⟨e,h⟩:=h
 subst e
 cases r
 exact assignInOrder_nil ⟨σ,H,I,h⟩
theorem N7{e:Expr}{es:List Expr}{t:TG}{u:TGs}(h1:PG X e t)(h2:PGs X es u)
  (hs:(assignEach (e::es) X.env).map (·.2)=assign e X.env::(assignEach es X.env).map (·.2):=by rfl):PGs X (e::es) (b6p t u):=by
 intro pins s σ H vs us Q I r h
 obtain⟨v,vr,e1,h⟩:=h
 subst e1
 cases r with
 | cons r rr=>
  rw[hs]
  refine assignInOrder_cons (k7 (h1 pins s σ H _ _ _ I r h) fun _ s1 ⟨σ1,H1,I1,q1⟩=>?_)
  exact h2 pins s1 σ1 H1 _ _ Q I1 rr q1
def b1t(K:PySem.W.Frag)(n:Nat)(t:TGs):TG:=fun v σ H Q=>∃a xs,v=.ref a∧f7 K H a xs∧xs.length=n∧t xs σ H Q
theorem a3H{es:List Expr}{k:Nat}{t:TGs}{n:Nat}(hc:X.calm=true)(h:PGs X es t)
  (hn:(assignEach es X.env).length=n:=by rfl) (hst:(assignEach es X.env).findIdx? (·.1)=none:=by rfl):PG X (.Tuple es k pos) (b1t X.K n t):=by
 intro pins s σ H v u Q I r hw
 obtain⟨a,xs,e1,hq,hl,hw⟩:=hw
 subst e1
 cases r
 obtain⟨its,rv,ht,hz⟩:=I.tuple hq
 refine assign_Tuple_tuple (I.ok.hd hc) ht (by simp[hn,←hl,rv.length]) hst fun h' hx=>?_
 have I1:Inv X pins σ H { s with heap:=h' }:=I.kept (t':=s.toks) fun b o e=>hx b o (Nat.ne_of_lt (Heap.lt_size e)) e
 exact h pins _ σ H xs _ Q I1 (by simpa using rv) hw
def b6n(te:TE)(g:TG):TS:=fun D σ H=>te σ H fun x H1=>g x σ H1 D.nx
theorem g6{i:Nat}{x:Str}{e:Expr}{te:TE}{pos':Pos}(hN:X.N.Nodup)(hi:X.N[i]?=some x)(hx:Loc X.env.scope x)(he:PE X e te)(hs:swapsWith e (some (.Name x pos')) pos.line X.env=pure false:=by rfl)(hf:X.fn x=true∨X.env.scope.names.lookup x=some .local:=by first | exact .inl rfl | exact .inr rfl | assumption) :
  PS X (.Assign [.Name x pos'] e pos) (b6n te (a0t i)):=by
 intro pins s σ H D I h
 refine wpAny_Assign_Name (k7 (he pins s σ H _ I h) fun v s1 ⟨y,H1,I1,r1,q1⟩=>?_) hs
 exact a8H I1 hN hi hx r1 (fun s2 I2=>⟨_,H1,I2,q1⟩) hf
end
section
variable{X:Cx}{pos:Pos}
def b4n(c:TT)(tb:TS):TS:=fun D σ H=>∃W:Nat→St→Hp→Prop,(∃m,W m σ H)∧∀m σ H,W m σ H →
 c σ H fun b H1=>if b=true then ∃N:St→Hp→Prop,(∀σ' H',N σ' H'→∃m',m'<m∧W m' σ' H')∧tb { D with nx:=N,ct:=N,bk:=D.nx } σ H1 else D.nx σ H1
theorem a1q{c:Expr}{body:List Stmt}{tc:TT}{tb:TS}(hp:PassesOwn (model X.prog X.w) X.A X.env X.xe)(hc:PT X c tc)(hb:PSs X body tb):PS X (.While c body [] pos) (b4n tc tb):=by
 intro pins s σ H D I h
 obtain⟨W,⟨m0,w0⟩,turn⟩:=h
 refine wpAny_While (codeAny_whileLoop (fun n s'=>∃σ' H',Inv X pins σ' H' s'∧W n σ' H') ?_ m0 ⟨σ,H,I,w0⟩)
 rintro n s1 ⟨σ1,H1,I1,w1⟩
 refine wpAny_passesOwn hp (k7 (hc pins s1 σ1 H1 _ I1 (turn n σ1 H1 w1)) fun b s2 ⟨H2,I2,q2⟩=>?_)
 cases b with
 | true=>
  obtain⟨N,hN,q2⟩:=q2
  rw[if_pos rfl]
  refine wpAny_passesOwn hp (k7 (hb pins s2 σ1 H2 _ I2 q2) fun f s3 q3=>?_)
  cases f with
  | next=>
   obtain⟨σ3,H3,I3,n3⟩:=q3
   obtain⟨m',hm,w3⟩:=hN σ3 H3 n3
   exact⟨m',hm,σ3,H3,I3,w3⟩
  | cont=>
   obtain⟨σ3,H3,I3,n3⟩:=q3
   obtain⟨m',hm,w3⟩:=hN σ3 H3 n3
   exact⟨m',hm,σ3,H3,I3,w3⟩
  | brk=>exact q3
  | ret v=>exact q3
 | false=>
  rw[if_neg Bool.false_ne_true]
  exact wpAny_execs_nil ⟨σ1,H2,I2,q2⟩
end
structure It where
 go:Nat→Hp→Prop
 yld:Nat→Hp→V→Hp→Prop
 stop:Nat→Hp→Prop
def X2(X:Cx)(pins:List (Addr×Obj))(H:Hp)(b:Addr):Prop:=
 H b=none∧b≠X.env.locals∧b∉X.fs∧(b∈X.ex∨X.s₀.heap.objs.size≤b)∧(∀x c,X.env.cells.lookup x=some c→c≠b)∧∀p∈X.pn++pins,p.1≠b
theorem Inv.fpOk{X:Cx}{pins:List (Addr×Obj)}{σ:St}{H H':Hp}{s:Shared}{b:Addr}(I:Inv X pins σ H s)(hb:s.heap.objs.size≤b)(hn:H' b=none):X2 X pins H' b:=by
 refine⟨hn,Nat.ne_of_gt (Nat.lt_of_lt_of_le I.lt hb),I.nofs hb,.inr (Nat.le_trans I.sz hb),fun x c e z=>?_,fun p hp z=>?_⟩
 ·obtain⟨v,q⟩:=I.cell x c e
  exact absurd (Nat.lt_of_lt_of_le q.lt (by rw[z];exact hb)) (Nat.lt_irrefl _)
 ·exact absurd (Nat.lt_of_lt_of_le (Heap.lt_size (I.pin p hp).1) (by rw[z];exact hb)) (Nat.lt_irrefl _)
structure Turn(P:Program)(w:World)(K:PySem.W.Frag)(tg:Expr)(J:It)(fp:List Addr)(it:Addr)(tn:Nat→Heap→Prop):Prop where
 mem:it∈fp
 obj:∀i h,tn i h→∀b∈fp,∃o,h.get? b=some o∧∀v,o.data≠.cell v
 keep:∀i h h',tn i h→(∀b∈fp,∀o,h.get? b=some o→h'.get? b=some o)→tn i h'
 item:∀(X:Cx),X.prog=P→X.w=w→X.K=K→X.calm=true→∀(i:Nat) (pins:List (Addr×Obj)) (s:Shared) (σ:St) (H:Hp) (E:Value→Shared→Prop),Inv X pins σ H s→(∀b∈fp,X2 X pins H b)→tn i s.heap→J.go i H →
  wpAny (model P w) X.A (pyNext (.ref it)) (fun r s1=>∃u,r=some u ∧
   wpAny (model P w) X.A (letOwnedTupleGo tg (.ref it) u) (fun _ s2=>∃x H',Inv X pins σ H' s2∧RelV x u∧J.yld i H x H'∧tn (i+1) s2.heap∧∀b∈fp,H' b=none) E s1) E s
 done:∀(X:Cx),X.prog=P→X.w=w→X.K=K→X.calm=true→∀(i:Nat) (pins:List (Addr×Obj)) (s:Shared) (σ:St) (H:Hp) (E:Value→Shared→Prop),Inv X pins σ H s→(∀b∈fp,X2 X pins H b)→tn i s.heap→J.stop i H →
  wpAny (model P w) X.A (pyNext (.ref it)) (fun r s1=>r=none∧Inv X pins σ H s1) E s
 self:∀(A:Around) (i:Nat) (s:Shared) (Q:Value→Shared→Prop) (E:Value→Shared→Prop),tn i s.heap→Q (.ref it) s→wpAny (model P w) A (pyIter (.ref it)) Q E s
abbrev TI:=St→Hp→(It→Hp→Prop)→Prop
def PIE(X:Cx)(pins:List (Addr×Obj))(σ:St)(tg:Expr)(R:It→Hp→Prop)(itv:Value)(s2:Shared):Prop:=
 ∃(it:Addr) (fp:List Addr) (tn:Nat→Heap→Prop) (J:It) (H':Hp),itv=.ref it∧Inv X pins σ H' s2∧Turn X.prog X.w X.K tg J fp it tn∧tn 0 s2.heap∧(∀b∈fp,X2 X pins H' b)∧R J H'
def PI(X:Cx)(tg iter:Expr)(wi:TI):Prop:=
 ∀(pins:List (Addr×Obj)) (s:Shared) (σ:St) (H:Hp) (R:It→Hp→Prop),Inv X pins σ H s→wi σ H R →
  wpAny (model X.prog X.w) X.A (eval iter X.env) (fun v s1=>wpAny (model X.prog X.w) X.A (pyIter v) (PIE X pins σ tg R) X.xe s1) X.xe s
theorem a6Q{M:Model}{A:Around}{E:Value→Shared→Prop}{s:Shared}{tg:Expr}{it:Addr}{u:Value}{o:Obj}{n:String}{vs:Array Value}{Q:Unit→Shared→Prop}(ho:s.heap.get? it=some o)(hc:o.cls=.type n)(hd:o.data=.fields vs)
  (hn:["enumerate","zip","dict_itemiterator","dict_reverseitemiterator","odict_iterator","itertools.zip_longest","itertools.pairwise"].contains n=false) (hQ:Q () s):wpAny M A (letOwnedTupleGo tg (.ref it) u) Q E s:=by
 unfold letOwnedTupleGo
 cases tg<;>first
  | exact wpAny_pure hQ
  | (cases u<;>first
    | exact wpAny_pure hQ
    | (refine wpAny_bind (wpAny_load ho ?_);rw[hc,hd];show wpAny M A (if (["enumerate","zip","dict_itemiterator","dict_reverseitemiterator","odict_iterator","itertools.zip_longest","itertools.pairwise"].contains n&&vs[0]?==some (rawInt _))=true then _ else _) Q E s;rw[if_neg (by intro h;rw[hn,Bool.false_and]at h;cases h)];exact wpAny_pure hQ))
def Itl(K:PySem.W.Frag)(a:Addr):It:=
 ⟨fun i H=>∃xs x,d9 K H a xs∧xs[i]?=some x,fun i H x H'=>H'=H∧∀xs,d9 K H a xs→xs[i]?=some x,fun i H=>∃xs,d9 K H a xs∧xs.length≤i⟩
def Itr(lo:Int)(n:Nat):It:=⟨fun i _=>i<n,fun i H x H'=>H'=H∧x=.int (lo+i),fun i _=>n≤i⟩
theorem a6Z{P:Program}{w:World}{K:PySem.W.Frag}{tg:Expr}(a it:Addr):Turn P w K tg (Itl K a) [it] it (fun i h=>h.IsListIter it a i) where
 mem:=by simp
 obj:=fun i h st b hb=>by
  have e:b=it:=by simpa using hb
  subst e
  obtain⟨o,e,c,d⟩:=st
  exact⟨o,e,fun v z=>by rw[d]at z;cases z⟩
 keep:=fun i h h' st k=>st.at fun o e=>k it (by simp) o e
 item:=by
  intro X hP hw hK hc i pins s σ H E I hf st hg
  subst hP hw hK
  obtain⟨xs,x,hq,hx⟩:=hg
  obtain⟨its,rv,p,hz⟩:=I.list hq
  obtain⟨u,hu,ru⟩:=rv.get hx
  obtain⟨f0,f1,f2,f3,f4,f5⟩:=hf it (by simp)
  refine wpAny_pyNext_list_item st p.isList (x:=u) (by simpa using hu) fun h' st' sb=>?_
  have I1:Inv X pins σ H { s with heap:=h' }:=I.turned (t':=s.toks) (fun b o hb e=>(sb.2 b hb).trans e) f0 f1 f3 f4 f5
  obtain⟨o,e,c,d⟩:=id st'
  exact⟨u,rfl,a6Q (s:={ s with heap:=h' }) e c d (by decide) ⟨x,H,I1,ru,⟨rfl,fun ys hy=>by rw[I.list_inj hy hq];exact hx⟩,st',fun b hb=>(hf b hb).1⟩⟩
 done:=by
  intro X hP hw hK hc i pins s σ H E I hf st hg
  subst hP hw hK
  obtain⟨xs,hq,hx⟩:=hg
  obtain⟨its,rv,p,hz⟩:=I.list hq
  obtain⟨f0,f1,f2,f3,f4,f5⟩:=hf it (by simp)
  have hl:=rv.length
  exact wpAny_pyNext_list_end (I.ok.hd hc) st p.isList (by simp;omega) fun h' eb=>⟨rfl,I.turned (t':=s.toks) (fun b o hb e=>eb b o hb e) f0 f1 f3 f4 f5⟩
 self:=fun _ _ _ _ _ st h=>wpAny_pyIter_listiter st h
theorem a8T{P:Program}{w:World}{K:PySem.W.Frag}{tg:Expr}(it:Addr)(lo:Int)(n:Nat):Turn P w K tg (Itr lo n) [it] it (fun i h=>IsRangeIter h it (lo+(i:Nat)*1) ((n:Int)-(i:Nat)) 1) where
 mem:=by simp
 obj:=fun i h st b hb=>by
  have e:b=it:=by simpa using hb
  subst e
  exact⟨_,st,fun v z=>by
   have z':Data.fields _=Data.cell v:=z
   cases z'⟩
 keep:=fun i h h' st k=>k it (by simp) _ st
 item:=by
  intro X hP hw hK hc i pins s σ H E I hf st hg
  subst hP hw hK
  obtain⟨f0,f1,f2,f3,f4,f5⟩:=hf it (by simp)
  have W:=Walks.range (prog:=X.prog) (w:=X.w) (I.ok.hd hc) it lo 1 n
  refine W.item i s _ _ hg st fun v h' tk hv st' kk=>?_
  obtain⟨t,rfl⟩:=hv
  have I1:Inv X pins σ H { s with heap:=h',toks:=tk }:=I.turned (fun b o hb e=>kk b o (by simpa using hb) e) f0 f1 f3 f4 f5
  refine⟨_,rfl,a6Q (s:={ s with heap:=h',toks:=tk }) (n:="range_iterator") st' rfl rfl (by decide) ⟨.int (lo+i),H,I1,⟨t,?_⟩,⟨rfl,rfl⟩,st',fun b hb=>(hf b hb).1⟩⟩
  rw[Int.mul_one]
 done:=by
  intro X hP hw hK hc i pins s σ H E I hf st hg
  subst hP hw hK
  obtain⟨f0,f1,f2,f3,f4,f5⟩:=hf it (by simp)
  exact wpAny_pyNext_range_end (I.ok.hd hc) st (by have:n≤i:=hg;omega) fun h' eb=>⟨rfl,I.turned (t':=s.toks) (fun b o hb e=>eb b o hb e) f0 f1 f3 f4 f5⟩
 self:=fun _ _ _ _ _ st h=>wpAny_pyIter_rangeiter st h
end L2
namespace L2
open PySem PySem.Spec PyProof.Rows
section
variable{X:Cx}{tg:Expr}
def b2r(K:PySem.W.Frag)(tl:TE):TI:=fun σ H R=>tl σ H fun x H1=>∃a,x=.ref a∧(∃xs,d9 K H1 a xs)∧R (Itl K a) H1
theorem u4{l:Expr}{tl:TE}(hl:PE X l tl):PI X tg l (b2r X.K tl):=by
 intro pins s σ H R I h
 refine k7 (hl pins s σ H _ I h) fun v s1 ⟨x,H1,I1,r1,q1⟩=>?_
 obtain⟨a,e,⟨xs,hq⟩,q⟩:=q1
 subst e
 cases r1
 obtain⟨its,rv,p,hz⟩:=I1.list hq
 refine wpAny_pyIter_list p.isList ?_
 refine⟨s1.heap.objs.size,[s1.heap.objs.size],_,_,H1,rfl,I1.kept (t':=s1.toks) fun b o e=>Heap.get?_push_of_some _ e,a6Z a _,⟨_,Heap.get?_push_size _ rfl,rfl,rfl⟩,fun b hb=>?_,q⟩
 have e:b=s1.heap.objs.size:=by simpa using hb
 subst e
 exact I1.fpOk (Nat.le_refl _) (I1.hok.fresh (Nat.le_refl _))
theorem b8f{pins:List (Addr×Obj)}{σ:St}{H:Hp}{s:Shared}{R:It→Hp→Prop}{E:Value→Shared→Prop}{lo hi:Int}{t u v:Tok}{tk:Nat}(I:Inv X pins σ H s)(h1:-(2 ^ 62)≤lo)(h2:lo<2 ^ 62)(h3:-(2 ^ 62)≤hi)(h4:hi<2 ^ 62)
  (q:R (Itr lo (hi-lo).toNat) H):wpAny (model X.prog X.w) X.A (pyIter (.ref s.heap.objs.size)) (PIE X pins σ tg R) E { s with heap:=s.heap.push { cls:=.type "range",data:=.fields #[.int lo t,.int hi u,.int 1 v] },toks:=tk }:=by
 refine wpAny_pyIter_range (IsRange.new ..) (small_one h1 h2 h3 h4) ?_
 have I1:Inv X pins σ H { s with heap:=s.heap.push { cls:=.type "range",data:=.fields #[.int lo t,.int hi u,.int 1 v] },toks:=tk }:=I.kept fun b o e=>Heap.get?_push_of_some _ e
 refine⟨(s.heap.push { cls:=.type "range",data:=.fields #[.int lo t,.int hi u,.int 1 v] }).objs.size,[(s.heap.push { cls:=.type "range",data:=.fields #[.int lo t,.int hi u,.int 1 v] }).objs.size],_,_,H,rfl,
  I1.kept (t':=tk) fun b o e=>Heap.get?_push_of_some _ e,a8T _ lo (hi-lo).toNat,?_,fun b hb=>?_,q⟩
 ·have e1:lo+((0:Nat):Int)*1=lo:=by simp
  have e2:(((hi-lo).toNat:Nat):Int)-((0:Nat):Int)=Builtin.Range.rangeSize lo hi 1:=by rw[rangeSize_one];split<;>omega
  show IsRangeIter _ _ (lo+((0:Nat):Int)*1) ((((hi-lo).toNat:Nat):Int)-((0:Nat):Int)) 1
  rw[e1,e2]
  exact Heap.get?_push_size _ rfl
 ·have e:b=(s.heap.push { cls:=.type "range",data:=.fields #[.int lo t,.int hi u,.int 1 v] }).objs.size:=by simpa using hb
  subst e
  exact I1.fpOk (Nat.le_refl _) (I1.hok.fresh (Nat.le_refl _))
def b0q(ta:TA):TI:=fun σ H R=>ta σ H fun vs H1=>∃j:Int,vs=[.int j]∧-(2 ^ 62)≤j∧j<2 ^ 62∧R (Itr 0 j.toNat) H1
theorem V3{a:Expr}{ta:TA}{p pos:Pos}(hg:Gl X "range")(hm:X.mg "range"=none)(ha:PA X [a] ta)(hs:starEach [a] X.env=[(false,eval a X.env)]:=by rfl):PI X tg (.Call (.Name "range" p) [a] [] pos) (b0q ta):=by
 intro pins s σ H R I h
 refine Call_ (Z3 I hg hm boot_range (PyProof.Rows.callWith_type1 (k7 (ha pos pins s σ H _ I h) fun us s1 ⟨vs,H1,I1,r1,q1⟩=>?_) hs rfl))
 obtain⟨j,e,q1,q2,q⟩:=q1
 subst e
 cases r1 with
 | cons r rr=>
  cases rr
  obtain⟨t,rfl⟩:=r
  exact call_range_1 (b8f I1 (by omega) (by omega) q1 q2 (by simpa using q))
def b9s(wi:TI)(g:TG)(tb:TS):TS:=fun D σ H=>wi σ H fun J H1=>∃W:Nat→Nat→St→Hp→Prop,(∃m,W 0 m σ H1)∧∀i m σ H,W i m σ H →
 (J.stop i H∧D.nx σ H)∨(J.go i H∧∃N:St→Hp→Prop,(∀σ' H',N σ' H'→∃m',m'<m∧W (i+1) m' σ' H')∧∀x H',J.yld i H x H'→g x σ H' fun σ2 H2=>tb { D with nx:=N,ct:=N,bk:=D.nx } σ2 H2)
def a1k(fp:List Addr)(h:Heap):List (Addr×Obj):=fp.filterMap fun b=>(h.get? b).map fun o=>(b,o)
theorem Y3{fp:List Addr}{h:Heap}{b:Addr}{o:Obj}(hb:b∈fp)(e:h.get? b=some o):(b,o)∈a1k fp h:=List.mem_filterMap.mpr ⟨b,hb,by rw[e];rfl⟩
theorem a8Y{fp:List Addr}{h:Heap}{p:Addr×Obj}(hp:p∈a1k fp h):p.1∈fp∧h.get? p.1=some p.2:=by
 obtain⟨b,hb,e⟩:=List.mem_filterMap.mp hp
 cases q:h.get? b with
 | none=>rw[q]at e;cases e
 | some o=>
  rw[q]at e
  have e':(b,o)=p:=Option.some.inj e
  subst e'
  exact⟨hb,q⟩
theorem Inv.pinned{pins:List (Addr×Obj)}{σ:St}{H:Hp}{s:Shared}{fp:List Addr}(I:Inv X pins σ H s)(hf:∀b∈fp,X2 X pins H b)(ho:∀b∈fp,∃o,s.heap.get? b=some o∧∀v,o.data≠.cell v):Inv X (pins++a1k fp s.heap) σ H s:=
 I.pins_of fun p hp=>(List.mem_append.mp hp).elim (fun z=>I.pin p (List.mem_append_right _ z)) fun z=>by
  obtain⟨hb,e⟩:=a8Y z
  obtain⟨f0,f1,f2,_⟩:=hf p.1 hb
  obtain⟨o,e',d⟩:=ho p.1 hb
  rw[e]at e';cases e'
  exact⟨e,f0,f1,f2,d⟩
theorem Inv.unpinned{pins pl:List (Addr×Obj)}{σ:St}{H:Hp}{s:Shared}(I:Inv X (pins++pl) σ H s):Inv X pins σ H s:=I.pins_of fun p hp=>I.pin p (List.mem_append_right _ (List.mem_append_left _ hp))
theorem z6{iter:Expr}{body:List Stmt}{wi:TI}{g:TG}{tb:TS}{pos:Pos}(hp:PassesOwn (model X.prog X.w) X.A X.env X.xe)(hc:X.calm=true)(hi:PI X tg iter wi)(hg:PG X tg g)(hb:PSs X body tb)
  (hs:∀x,foldedSetIterable iter X.env x=pure x:=by intro _;rfl):PS X (.For tg iter body [] pos) (b9s wi g tb):=by
 intro pins s σ H D I h
 refine wpAny_For (k7 (hi pins s σ H _ I h) fun v s1 h1=>k7 h1 fun itv s2 h2=>?_) hs
 obtain⟨it,fp,tn,J,H2,e,I2,T,st2,f2,W,⟨m0,w0⟩,turn⟩:=h2
 subst e
 have stat:∀{H':Hp},(∀b∈fp,H' b=none)→∀b∈fp,X2 X pins H' b:=fun hn b hb=>⟨hn b hb,(f2 b hb).2⟩
 refine codeAny_forLoop_any (fun n s'=>∃i σ' H',Inv X pins σ' H' s'∧tn i s'.heap∧(∀b∈fp,H' b=none)∧W i n σ' H') ?_ m0 ⟨0,σ,H2,I2,st2,fun b hb=>(f2 b hb).1,w0⟩
 rintro n s3 ⟨i,σ3,H3,I3,st3,fr3,w3⟩
 rcases turn i n σ3 H3 w3 with ⟨stop,qn⟩ | ⟨go,N,hN,step⟩
 ·refine wpAny_passesOwn hp (k7 (T.done X rfl rfl rfl hc i pins s3 σ3 H3 X.xe I3 (stat fr3) st3 stop) fun r s4 ⟨hr,I4⟩=>?_)
  subst hr
  exact wpAny_execs_nil ⟨σ3,H3,I4,qn⟩
 ·refine wpAny_passesOwn hp (k7 (T.item X rfl rfl rfl hc i pins s3 σ3 H3 X.xe I3 (stat fr3) st3 go) fun r s4 ⟨u,hr,h4⟩=>?_)
  subst hr
  refine wpAny_passesOwn hp (k7 h4 fun _ s5 ⟨x,H5,I5,r5,y5,st5,fr5⟩=>?_)
  have I5':=I5.pinned (stat fr5) (T.obj _ _ st5)
  refine wpAny_passesOwn hp (k7 (hg _ s5 σ3 H5 x u _ I5' r5 (step x H5 y5)) fun _ s6 ⟨σ6,H6,I6,q6⟩=>?_)
  refine wpAny_passesOwn hp (k7 (hb _ s6 σ6 H6 _ I6 q6) fun f s7 q7=>?_)
  have again:∀{σ7:St} {H7:Hp},Inv X (pins++a1k fp s5.heap) σ7 H7 s7→N σ7 H7→∃m,m<n∧∃i σ' H',Inv X pins σ' H' s7∧tn i s7.heap∧(∀b∈fp,H' b=none)∧W i m σ' H':=fun {σ7 H7} I7 n7=>by
   obtain⟨m',hm,w7⟩:=hN σ7 H7 n7
   refine⟨m',hm,i+1,σ7,H7,I7.unpinned,T.keep _ _ _ st5 fun b hb o e=>(I7.pin (b,o) (List.mem_append_right _ (List.mem_append_right _ (Y3 hb e)))).1,fun b hb=>?_,w7⟩
   obtain⟨o,e,d⟩:=T.obj _ _ st5 b hb
   exact(I7.pin (b,o) (List.mem_append_right _ (List.mem_append_right _ (Y3 hb e)))).2.1
  cases f with
  | next=>obtain⟨σ7,H7,I7,n7⟩:=q7;exact again I7 n7
  | cont=>obtain⟨σ7,H7,I7,n7⟩:=q7;exact again I7 n7
  | brk=>obtain⟨σ7,H7,I7,q7⟩:=q7;exact⟨σ7,H7,I7.unpinned,q7⟩
  | ret v=>obtain⟨x7,σ7,H7,I7,r7,q7⟩:=q7;exact⟨x7,σ7,H7,I7.unpinned,r7,q7⟩
end
theorem A0{K:PySem.W.Frag}{a:Addr}{xs:List V}{g:TG}{tb:TS}{D:Ends}{σ:St}{H:Hp}(Pv:Nat→St→Hp→Prop)(h0:Pv 0 σ H)(hl:∀i σ H,i≤xs.length→Pv i σ H→d9 K H a xs)
  (hs:∀i x σ H,xs[i]?=some x→Pv i σ H→g x σ H fun σ2 H2=>tb { D with nx:=Pv (i+1),ct:=Pv (i+1),bk:=D.nx } σ2 H2) (hd:∀σ H,Pv xs.length σ H→D.nx σ H) :
  ∃W:Nat→Nat→St→Hp→Prop,(∃m,W 0 m σ H)∧∀i m σ H,W i m σ H →
   ((Itl K a).stop i H∧D.nx σ H)∨((Itl K a).go i H∧∃N:St→Hp→Prop,(∀σ' H',N σ' H'→∃m',m'<m∧W (i+1) m' σ' H')∧∀x H',(Itl K a).yld i H x H'→g x σ H' fun σ2 H2=>tb { D with nx:=N,ct:=N,bk:=D.nx } σ2 H2):=by
 refine⟨fun i m σ H=>m=xs.length-i∧i≤xs.length∧Pv i σ H,⟨xs.length,by simp,Nat.zero_le _,h0⟩,?_⟩
 rintro i m σ H ⟨rfl,hi,p⟩
 have q:=hl i σ H hi p
 by_cases hlt:i<xs.length
 ·refine .inr ⟨⟨xs,xs[i],q,by simp[hlt]⟩,Pv (i+1),fun σ' H' p'=>⟨xs.length-(i+1),by omega,rfl,hlt,p'⟩,fun x H' y=>?_⟩
  obtain⟨e,y⟩:=y
  subst e
  exact hs i x σ _ (y xs q) p
 ·have e:i=xs.length:=by omega
  subst e
  exact .inl ⟨⟨xs,q,Nat.le_refl _⟩,hd σ H p⟩
theorem V6{lo:Int}{n:Nat}{g:TG}{tb:TS}{D:Ends}{σ:St}{H:Hp}(Pv:Nat→St→Hp→Prop)(h0:Pv 0 σ H)
  (hs:∀i σ H,i<n→Pv i σ H→g (.int (lo+i)) σ H fun σ2 H2=>tb { D with nx:=Pv (i+1),ct:=Pv (i+1),bk:=D.nx } σ2 H2) (hd:∀σ H,Pv n σ H→D.nx σ H) :
  ∃W:Nat→Nat→St→Hp→Prop,(∃m,W 0 m σ H)∧∀i m σ H,W i m σ H →
   ((Itr lo n).stop i H∧D.nx σ H)∨((Itr lo n).go i H∧∃N:St→Hp→Prop,(∀σ' H',N σ' H'→∃m',m'<m∧W (i+1) m' σ' H')∧∀x H',(Itr lo n).yld i H x H'→g x σ H' fun σ2 H2=>tb { D with nx:=N,ct:=N,bk:=D.nx } σ2 H2):=by
 refine⟨fun i m σ H=>m=n-i∧i≤n∧Pv i σ H,⟨n,by simp,Nat.zero_le _,h0⟩,?_⟩
 rintro i m σ H ⟨rfl,hi,p⟩
 by_cases hlt:i<n
 ·refine .inr ⟨hlt,Pv (i+1),fun σ' H' p'=>⟨n-(i+1),by omega,rfl,hlt,p'⟩,fun x H' y=>?_⟩
  obtain⟨e,y⟩:=y
  subst e y
  exact hs i σ _ hlt p
 ·have e:i=n:=by omega
  subst e
  exact .inl ⟨Nat.le_refl _,hd σ H p⟩
end L2
namespace L2
open PySem PySem.Spec PyProof.Rows
abbrev R2:=V→V→Hp→VK→Prop
def B8(X:Cx)(f:Value→Value→Sem Value)(r:R2):Prop:=
 ∀(pins:List (Addr×Obj)) (s:Shared) (σ:St) (H:Hp) (x y:V) (v u:Value) (Q:VK),Inv X pins σ H s→RelV x v→RelV y u→r x y H Q →
  wpAny (model X.prog X.w) X.A (f v u) (EP X pins σ Q) X.xe s
def UnR(X:Cx)(f:Value→Sem Value)(r:V→Hp→VK→Prop):Prop:=
 ∀(pins:List (Addr×Obj)) (s:Shared) (σ:St) (H:Hp) (x:V) (v:Value) (Q:VK),Inv X pins σ H s→RelV x v→r x H Q →
  wpAny (model X.prog X.w) X.A (f v) (EP X pins σ Q) X.xe s
def L6(X:Cx)(f:Value)(r:List V→Hp→VK→Prop):Prop:=
 ∀(pins:List (Addr×Obj)) (s:Shared) (σ:St) (H:Hp) (xs:List V) (us:List Value) (Q:VK),Inv X pins σ H s→i8 xs us→r xs H Q →
  wpAny (model X.prog X.w) X.A (call f us) (EP X pins σ Q) X.xe s
def tOp(r:R2)(ta tb:TE):TE:=fun σ H Q=>ta σ H fun x H1=>tb σ H1 fun y H2=>r x y H2 Q
def tUn(r:V→Hp→VK→Prop)(ta:TE):TE:=fun σ H Q=>ta σ H fun x H1=>r x H1 Q
inductive b3t(C:Int→Int→Prop)(g:Int→Int→V)(x y:V)(H:Hp)(Q:VK):Prop
 | mk (i j:Int) (e1:x=.int i) (e2:y=.int j) (c:C i j) (q:Q (g i j) H)
inductive IIn(g:Int→Int→V)(x y:V)(H:Hp)(Q:VK):Prop
 | mk (i j:Int) (e1:x=.int i) (e2:y=.int j) (q:Q (g i j) H)
def rI(C:Int→Int→Prop)(g:Int→Int→V):R2:=b3t C g
def rI0(g:Int→Int→V):R2:=IIn g
def rU(g:Int→V):V→Hp→VK→Prop:=fun x H Q=>∃i,x=.int i∧Q (g i) H
section
variable{X:Cx}{a b c:Expr}{ta tb tc:TE}{pos:Pos}
theorem b3f(ha:PE X a ta)(hb:PE X b tb){pins:List (Addr×Obj)}{s:Shared}{σ:St}{H:Hp}{R:V→V→Hp→Prop}(I:Inv X pins σ H s)
  (h:ta σ H fun x H1=>tb σ H1 fun y H2=>R x y H2) {Q:Value→Shared→Prop} {f:Value→Value→Sem Value}
  (hf:∀v u s2 x y H2,Inv X pins σ H2 s2→RelV x v→RelV y u→R x y H2→wpAny (model X.prog X.w) X.A (f v u) Q X.xe s2) :
  wpAny (model X.prog X.w) X.A (eval a X.env) (fun v s₁=>wpAny (model X.prog X.w) X.A (eval b X.env) (fun u s₂=>wpAny (model X.prog X.w) X.A (f v u) Q X.xe s₂) X.xe s₁) X.xe s:=by
 refine k7 (ha pins s σ H _ I h) fun v s1 ⟨x,H1,I1,r1,q1⟩=>?_
 refine k7 (hb pins s1 σ H1 _ I1 q1) fun u s2 ⟨y,H2,I2,r2,q2⟩=>?_
 exact hf v u s2 x y H2 I2 r1 r2 q2
theorem i6{op:Operator}{r:R2}(ho:B8 X (binaryOp op) r)(ha:PE X a ta)(hb:PE X b tb):PE X (.BinOp a op b pos) (tOp r ta tb):=by
 intro pins s σ H Q I h
 exact wpAny_BinOp (b3f ha hb I h fun v u s2 x y H2 I2 rx ry q=>ho pins s2 σ H2 x y v u Q I2 rx ry q)
theorem a2T{op:UnaryOp}{r:V→Hp→VK→Prop}(ho:UnR X (unaryOp op) r)(ha:PE X a ta):PE X (.UnaryOp op a pos) (tUn r ta):=by
 intro pins s σ H Q I h
 exact UnaryOp_ (k7 (ha pins s σ H _ I h) fun v s1 ⟨x,H1,I1,r1,q1⟩=>ho pins s1 σ H1 x v Q I1 r1 q1)
theorem opI{f:Value→Value→Sem Value}{C:Int→Int→Prop}{g:Int→Int→Int}
  (rule:∀(i j:Int) (t u:Tok) (s:Shared) (Q:Value→Shared→Prop) (E:Value→Shared→Prop),C i j→Q (.int (g i j) s.toks) { s with toks:=s.toks+1 }→wpAny (model X.prog X.w) X.A (f (.int i t) (.int j u)) Q E s) :
  B8 X f (rI C fun i j=>.int (g i j)):=by
 intro pins s σ H x y v u Q I rx ry h
 obtain⟨i,j,rfl,rfl,hc,q⟩:=h
 obtain⟨t,rfl⟩:=rx
 obtain⟨t',rfl⟩:=ry
 exact rule i j t t' s _ _ hc ⟨.int (g i j),H,I.tok _,⟨_,rfl⟩,q⟩
theorem b7o{f:Value→Value→Sem Value}{g:Int→Int→Int}
  (rule:∀(i j:Int) (t u:Tok) (s:Shared) (Q:Value→Shared→Prop) (E:Value→Shared→Prop),Q (.int (g i j) s.toks) { s with toks:=s.toks+1 }→wpAny (model X.prog X.w) X.A (f (.int i t) (.int j u)) Q E s) :
  B8 X f (rI0 fun i j=>.int (g i j)):=by
 intro pins s σ H x y v u Q I rx ry h
 obtain⟨i,j,rfl,rfl,q⟩:=h
 obtain⟨t,rfl⟩:=rx
 obtain⟨t',rfl⟩:=ry
 exact rule i j t t' s _ _ ⟨.int (g i j),H,I.tok _,⟨_,rfl⟩,q⟩
theorem a5R{f:Value→Value→Sem Value}{g:Int→Int→Bool}
  (rule:∀(i j:Int) (t u:Tok) (s:Shared) (Q:Value→Shared→Prop) (E:Value→Shared→Prop),Q (.bool (g i j)) s→wpAny (model X.prog X.w) X.A (f (.int i t) (.int j u)) Q E s) :
  B8 X f (rI0 fun i j=>.bl (g i j)):=by
 intro pins s σ H x y v u Q I rx ry h
 obtain⟨i,j,rfl,rfl,q⟩:=h
 obtain⟨t,rfl⟩:=rx
 obtain⟨t',rfl⟩:=ry
 exact rule i j t t' s _ _ ⟨.bl (g i j),H,I,rfl,q⟩
def b0u(i j:Int):Prop:=0<j∧j<1073741824
def b7r(i j:Int):Prop:=0≤j∧j≤1000000∧i.natAbs<2 ^ 64
def b1a(i j:Int):Prop:=(-(2 ^ 64)<i∧i<2 ^ 64)∨(-(2 ^ 64)<j∧j<2 ^ 64)
theorem b1a.ok{i j:Int}(h:b1a i j):IntMulOk i j:=by
 rcases h with ⟨h1,h2⟩ | ⟨h1,h2⟩
 ·exact .of_left (intBits_le_64 h1 h2)
 ·exact .of_right (intBits_le_64 h1 h2)
theorem C9:B8 X (binaryOp .Add) (rI0 fun i j=>.int (i+j)):=b7o fun _ _ _ _ _ _ _ q=>add_int q
theorem M4:B8 X (binaryOp .Sub) (rI0 fun i j=>.int (i-j)):=b7o fun _ _ _ _ _ _ _ q=>sub_int q
theorem a3V:B8 X (binaryOp .Mult) (rI b1a fun i j=>.int (i*j)):=opI fun _ _ _ _ _ _ _ hc q=>mul_int q hc.ok
theorem Y7:B8 X (binaryOp .FloorDiv) (rI b0u fun i j=>.int (i/j)):=opI fun i j _ _ _ _ _ hc q=>by
 have h1:(0:Int)<j:=hc.1
 have h2:j<1073741824:=hc.2
 exact floordiv_int (by omega) (by rw[Int.fdiv_eq_ediv_of_nonneg i (by omega)];exact q) (.inl (PyProof.noPylong_small (by omega)))
theorem A7:B8 X (binaryOp .Mod) (rI (fun _ j=>0<j) fun i j=>.int (i % j)):=opI fun i j _ _ _ _ _ hc q=>by
 have h1:(0:Int)<j:=hc
 exact mod_int' (by omega) (by rw[Int.fmod_eq_emod_of_nonneg i (by omega)];exact q)
theorem a9c:B8 X (binaryOp .Pow) (rI b7r fun i j=>.int (i ^ j.toNat)):=opI fun _ _ _ _ _ _ _ hc q=>pow_int_small hc.1 hc.2.1 hc.2.2 q
theorem unI{f:Value→Sem Value}{g:Int→Int}
  (rule:∀(i:Int) (t:Tok) (s:Shared) (Q:Value→Shared→Prop) (E:Value→Shared→Prop),Q (.int (g i) s.toks) { s with toks:=s.toks+1 }→wpAny (model X.prog X.w) X.A (f (.int i t)) Q E s) :
  UnR X f (rU fun i=>.int (g i)):=by
 intro pins s σ H x v Q I rx h
 obtain⟨i,rfl,q⟩:=h
 obtain⟨t,rfl⟩:=rx
 exact rule i t s _ _ ⟨.int (g i),H,I.tok _,⟨_,rfl⟩,q⟩
theorem a9I:UnR X (unaryOp .USub) (rU fun i=>.int (-i)):=unI fun _ _ _ _ _ q=>neg_int q
end
def b9o:V→V→Bool
 | .non,.non=>true | .non,.int _=>true | .int _,.non=>true | .non,.bl _=>true | .bl _,.non=>true | .non,.str _=>true | .str _,.non=>true
 | .int _,.int _=>true | .bl _,.bl _=>true | .str _,.str _=>true | .byt _,.byt _=>true
 | .int _,.str _=>true | .str _,.int _=>true | .bl _,.str _=>true | .str _,.bl _=>true
 | _,_=>false
def rEq:R2:=fun x y H Q=>b9o x y=true∧Q (.bl (decide (x=y))) H
def rNe:R2:=fun x y H Q=>b9o x y=true∧Q (.bl (!decide (x=y))) H
theorem a0O{i j:Int}:decide (V.int i=V.int j)=(i==j):=by
 rw[Bool.eq_iff_iff]
 simp
theorem a3U{i j:Bool}:decide (V.bl i=V.bl j)=(i==j):=by
 rw[Bool.eq_iff_iff]
 simp
theorem a7N{i j:Str}:decide (V.str i=V.str j)=(i==j):=by
 rw[Bool.eq_iff_iff]
 simp
theorem a2N{i j:Array UInt8}:decide (V.byt i=V.byt j)=(i.toList==j.toList):=by
 rw[Bool.eq_iff_iff]
 cases i
 cases j
 simp
section
variable{X:Cx}{a b c:Expr}{ta tb tc:TE}{pos:Pos}
theorem n4{pins:List (Addr×Obj)}{σ:St}{H:Hp}{s:Shared}{Q:VK}{k k':Bool}(I:Inv X pins σ H s)(q:Q (.bl k) H)(e:k=k'):EP X pins σ Q (.bool k') s:=by
 subst e
 exact⟨.bl k,H,I,rfl,q⟩
theorem y9:B8 X (compareOp .Eq) rEq:=by
 intro pins s σ H x y v u Q I rx ry h
 obtain⟨hs,q⟩:=h
 cases x with
 | non=>
  cases rx
  cases y with
  | non=>cases ry;exact PySem.EqNone.eq_none_none (n4 I q (by simp))
  | bl j=>cases ry;exact PySem.EqNone.eq_none_bool (n4 I q (by simp))
  | int j=>obtain⟨t',rfl⟩:=ry;exact PySem.EqNone.eq_none_int (n4 I q (by simp))
  | str j=>obtain⟨t',rfl⟩:=ry;exact PySem.EqNone.eq_none_str (n4 I q (by simp))
  | _=>exact absurd (show false=true from hs) Bool.false_ne_true
 | bl i=>
  cases rx
  cases y with
  | non=>cases ry;exact PySem.EqNone.eq_bool_none (n4 I q (by simp))
  | bl j=>cases ry;exact eq_bool (n4 I q a3U)
  | str j=>obtain⟨t',rfl⟩:=ry;exact PySem.EqMixed.eq_bool_str (n4 I q (by simp))
  | _=>exact absurd (show false=true from hs) Bool.false_ne_true
 | int i=>
  obtain⟨t,rfl⟩:=rx
  cases y with
  | non=>cases ry;exact PySem.EqNone.eq_int_none (n4 I q (by simp))
  | int j=>obtain⟨t',rfl⟩:=ry;exact eq_int (n4 I q a0O)
  | str j=>obtain⟨t',rfl⟩:=ry;exact PySem.EqMixed.eq_int_str (n4 I q (by simp))
  | _=>exact absurd (show false=true from hs) Bool.false_ne_true
 | str i=>
  obtain⟨t,rfl⟩:=rx
  cases y with
  | non=>cases ry;exact PySem.EqNone.eq_str_none (n4 I q (by simp))
  | bl j=>cases ry;exact PySem.EqMixed.eq_str_bool (n4 I q (by simp))
  | int j=>obtain⟨t',rfl⟩:=ry;exact PySem.EqMixed.eq_str_int (n4 I q (by simp))
  | str j=>obtain⟨t',rfl⟩:=ry;exact eq_str (n4 I q a7N)
  | _=>exact absurd (show false=true from hs) Bool.false_ne_true
 | byt i=>
  obtain⟨t,rfl⟩:=rx
  cases y with
  | byt j=>obtain⟨t',rfl⟩:=ry;exact PySem.W.eq_bytes (n4 I q a2N)
  | _=>exact absurd (show false=true from hs) Bool.false_ne_true
 | _=>cases y<;>exact absurd (show false=true from hs) Bool.false_ne_true
theorem P7:B8 X (compareOp .NotEq) rNe:=by
 intro pins s σ H x y v u Q I rx ry h
 obtain⟨hs,q⟩:=h
 cases x with
 | non=>
  cases rx
  cases y with
  | non=>cases ry;exact PySem.EqNone.ne_none_none (n4 I q (by simp))
  | bl j=>cases ry;exact PySem.EqNone.ne_none_bool (n4 I q (by simp))
  | int j=>obtain⟨t',rfl⟩:=ry;exact PySem.EqNone.ne_none_int (n4 I q (by simp))
  | str j=>obtain⟨t',rfl⟩:=ry;exact PySem.EqNone.ne_none_str (n4 I q (by simp))
  | _=>exact absurd (show false=true from hs) Bool.false_ne_true
 | bl i=>
  cases rx
  cases y with
  | non=>cases ry;exact PySem.EqNone.ne_bool_none (n4 I q (by simp))
  | bl j=>cases ry;exact ne_bool (n4 I q (congrArg not a3U))
  | str j=>obtain⟨t',rfl⟩:=ry;exact PySem.EqMixed.ne_bool_str (n4 I q (by simp))
  | _=>exact absurd (show false=true from hs) Bool.false_ne_true
 | int i=>
  obtain⟨t,rfl⟩:=rx
  cases y with
  | non=>cases ry;exact PySem.EqNone.ne_int_none (n4 I q (by simp))
  | int j=>obtain⟨t',rfl⟩:=ry;exact ne_int (n4 I q (congrArg not a0O))
  | str j=>obtain⟨t',rfl⟩:=ry;exact PySem.EqMixed.ne_int_str (n4 I q (by simp))
  | _=>exact absurd (show false=true from hs) Bool.false_ne_true
 | str i=>
  obtain⟨t,rfl⟩:=rx
  cases y with
  | non=>cases ry;exact PySem.EqNone.ne_str_none (n4 I q (by simp))
  | bl j=>cases ry;exact PySem.EqMixed.ne_str_bool (n4 I q (by simp))
  | int j=>obtain⟨t',rfl⟩:=ry;exact PySem.EqMixed.ne_str_int (n4 I q (by simp))
  | str j=>obtain⟨t',rfl⟩:=ry;exact ne_str (n4 I q (congrArg not a7N))
  | _=>exact absurd (show false=true from hs) Bool.false_ne_true
 | byt i=>
  obtain⟨t,rfl⟩:=rx
  cases y with
  | byt j=>obtain⟨t',rfl⟩:=ry;exact PySem.W.ne_bytes (n4 I q (congrArg not a2N))
  | _=>exact absurd (show false=true from hs) Bool.false_ne_true
 | _=>cases y<;>exact absurd (show false=true from hs) Bool.false_ne_true
theorem Y0:B8 X (compareOp .Lt) (rI0 fun i j=>.bl (decide (i<j))):=a5R fun _ _ _ _ _ _ _ q=>lt_int q
theorem a7E:B8 X (compareOp .LtE) (rI0 fun i j=>.bl (decide (i≤j))):=a5R fun _ _ _ _ _ _ _ q=>le_int q
theorem a8r:B8 X (compareOp .Gt) (rI0 fun i j=>.bl (decide (j<i))):=a5R fun _ _ _ _ _ _ _ q=>gt_int q
theorem b1h:B8 X (compareOp .GtE) (rI0 fun i j=>.bl (decide (j≤i))):=a5R fun _ _ _ _ _ _ _ q=>ge_int q
theorem i9(b:Expr){op:CmpOp}(h:op≠.In:=by decide)(h2:op≠.NotIn:=by decide):behindInMarks op b=false:=by
 have e1:(op==CmpOp.In)=false:=by cases op<;>first | rfl | exact absurd rfl h
 have e2:(op==CmpOp.NotIn)=false:=by cases op<;>first | rfl | exact absurd rfl h2
 cases b<;>simp[behindInMarks,e1,e2]
theorem C5{op:CmpOp}{r:R2}(ho:B8 X (compareOp op) r)(ha:PE X a ta)(hb:PE X b tb)(hm:behindInMarks op b=false):PE X (.Compare a [op] [b] pos) (tOp r ta tb):=by
 intro pins s σ H Q I h
 exact wpAny_Compare1 (b3f ha hb I h fun v u s2 x y H2 I2 rx ry q=>ho pins s2 σ H2 x y v u Q I2 rx ry q) hm
def b4q(t:TE):TT:=fun σ H Q=>t σ H fun x H'=>IBl x fun k=>Q k H'
theorem f6{op:CmpOp}{r:R2}(ho:B8 X (compareOp op) r)(ha:PE X a ta)(hb:PE X b tb)(hm:behindInMarks op b=false):PT X (.Compare a [op] [b] pos) (b4q (tOp r ta tb)):=by
 intro pins s σ H Q I h
 refine wpAny_isTrue_Compare1 (k7 (ha pins s σ H _ I h) fun v s1 ⟨x,H1,I1,r1,q1⟩=>k7 (hb pins s1 σ H1 _ I1 q1) fun u s2 ⟨y,H2,I2,r2,q2⟩=>
  k7 (ho pins s2 σ H2 x y v u _ I2 r1 r2 q2) fun c s3 ⟨z,H3,I3,r3,k,e,q3⟩=>?_) hm
 subst e
 cases r3
 exact wpAny_truthy_bool ⟨H3,I3,q3⟩
theorem a6J:(sizeLine:Nat)<2 ^ 63:=by rw[sizeLine_eq];decide
theorem a1f:B8 X (binaryOp .Add) (fun x y H Q=>∃i j,x=.str i∧y=.str j∧i.length+j.length≤sizeLine∧Q (.str (i++j)) H):=by
 intro pins s σ H x y v u Q I rx ry h
 obtain⟨i,j,rfl,rfl,hz,q⟩:=h
 obtain⟨t,rfl⟩:=rx
 obtain⟨t',rfl⟩:=ry
 exact add_str (fun t' tk=>⟨.str (i++j),H,I.tok _,⟨_,rfl⟩,q⟩) hz
theorem vals1{x:V}{us:List Value}(r:i8 [x] us):∃u,us=[u]∧RelV x u:=by
 cases r with
 | cons r1 r2=>cases r2;exact⟨_,rfl,r1⟩
theorem vals2{x y:V}{us:List Value}(r:i8 [x,y] us):∃u w',us=[u,w']∧RelV x u∧RelV y w':=by
 cases r with
 | cons r1 r2=>
  cases r2 with
  | cons r3 r4=>cases r4;exact⟨_,_,rfl,r1,r3⟩
theorem a0Z(hc:X.calm=true):L6 X (.builtin "max") (fun xs H Q=>∃i j,xs=[.int i,.int j]∧Q (.int (if j>i then j else i)) H):=by
 intro pins s σ H xs us Q I r h
 obtain⟨i,j,rfl,q⟩:=h
 obtain⟨u,w',rfl,⟨t,rfl⟩,⟨t',rfl⟩⟩:=vals2 r
 refine max_two_ints (I.ok.hd hc) fun h' tk k=>⟨_,H,I.kept k,?_,q⟩
 by_cases hj:j>i
 ·rw[if_pos hj,if_pos hj];exact⟨_,rfl⟩
 ·rw[if_neg hj,if_neg hj];exact⟨_,rfl⟩
theorem a4A:L6 X (.type "int") (fun xs H Q=>(∃i,xs=[.int i]∧Q (.int i) H)∨∃k,xs=[.bl k]∧Q (.int (if k then 1 else 0)) H):=by
 intro pins s σ H xs us Q I r h
 rcases h with ⟨i,rfl,q⟩ | ⟨k,rfl,q⟩
 ·obtain⟨u,rfl,t,rfl⟩:=vals1 r
  exact call_int_int ⟨.int i,H,I,⟨_,rfl⟩,q⟩
 ·obtain⟨u,rfl,r1⟩:=vals1 r
  cases r1
  exact call_int_bool ⟨.int (if k then 1 else 0),H,I.tok _,⟨_,rfl⟩,q⟩
theorem a2K:L6 X (.type "str") (fun xs H Q=>∃i,xs=[.int i]∧i.natAbs.log2<1920∧Q (.str (toString i)) H):=by
 intro pins s σ H xs us Q I r h
 obtain⟨i,rfl,hz,q⟩:=h
 obtain⟨u,rfl,t,rfl⟩:=vals1 r
 exact PySem.P.str_of_int hz ⟨.str _,H,I.tok _,⟨_,rfl⟩,q⟩
end
end L2
namespace L2
open PySem PySem.Spec PyProof.Rows
structure a7q(h:Heap)(x dx C:Addr)(mA:Str→Option Value):Prop where
 obj:h.get? x=some (PySem.W.instObj C dx)
 ns:h.Ns1 dx mA
 ne:dx≠x
theorem a5X{h:Heap}{dx:Addr}{mA:Str→Option Value}(n:h.Ns1 dx mA):∃od,h.get? dx=some od∧∀name,PySem.W.lookIn name od=some (mA name):=by
 obtain⟨o,es,ep,ho,hd,hk,_,hm⟩:=n
 refine⟨o,ho,fun name=>?_⟩
 have e:=hm name
 unfold nsFind findBy at e
 rw[←Array.find?_toList]at e
 unfold PySem.W.lookIn
 rw[hd]
 dsimp only
 split
 ·rename_i y q
  rw[q]at e
  exact congrArg some e
 ·rename_i q
  rw[q]at e
  have a:es.toList.any (·.refKey)=false:=by
   rw[List.any_eq_false]
   intro y hy
   obtain⟨z,t,hkey⟩:=hk y (Array.mem_toList_iff.mp hy)
   simp[DictEntry.refKey,hkey]
  have a':¬es.toList.any (·.refKey)=true:=by rw[a];exact Bool.false_ne_true
  rw[if_neg a']
  exact congrArg some e
theorem a7q.look{h:Heap}{x dx C:Addr}{mA:Str→Option Value}(I:a7q h x dx C mA):∃od,PySem.W.InstAt h x (PySem.W.instObj C dx) C (some od)∧∀name,PySem.W.lookIn name od=some (mA name):=
 let ⟨od,ho,hl⟩:=a5X I.ns
 ⟨od,⟨I.obj,rfl,rfl,ho⟩,hl⟩
section
variable{prog:Program}{w:World}{A:Around}{E:Value→Shared→Prop}{s:Shared}{K:PySem.W.Frag}{x dx C f:Addr}{mA:Str→Option Value}{name:Str}{v:Value}
theorem get_map{expr:Bool}{Q:Value→Shared→Prop}(X:K.In s.heap)(I:a7q s.heap x dx C mA)(hg:PySem.W.plainGet K C name=true)(hh:PySem.W.hasDictIn K C=true)
  (ha:PySem.W.findIn K (.ref C) name=some none) (hv:mA name=some v) (hv':PySem.W.handedIn v=true) (h:Q v { s with toks:=s.toks+1 }) :
  wpAny (model prog w) A (getAttr (.ref x) name expr) Q E s:=by
 obtain⟨od,J,hl⟩:=I.look
 exact PySem.W.get_value X J (PySem.W.plainGet_of hg).1 (PySem.W.findObj_own hh ha rfl (by rw[hl,hv])) hv' h
theorem b9a{pl:Sem Bool}{Q:Value×List Value→Shared→Prop}(X:K.In s.heap)(I:a7q s.heap x dx C mA)(hg:PySem.W.plainGet K C name=true)
  (hf:PySem.W.findIn K (.ref C) name=some (some (.ref f))) (ht:PySem.W.isFn K (.ref f)=true) (hv:mA name=none) (h:Q (.ref f,[.ref x]) s) :
  wpAny (model prog w) A (getMethod (.ref x) name pl) Q E s:=by
 obtain⟨od,J,hl⟩:=I.look
 exact PySem.W.method_fn X J (PySem.W.plainGet_of hg).1 (PySem.W.plainGet_of hg).2 hf (beq_iff_eq.mp ht) (by show(PySem.W.lookIn name od).map (·.isSome)=some false;rw[hl,hv];rfl) h
theorem b2k{ns:List Str}{Q:Unit→Shared→Prop}(X:K.In s.heap)(I:a7q s.heap x dx C mA)
  (hs:PySem.W.findIn K (.ref C) "__setattr__"=some (some (.builtin "object.__setattr__"))) (hp:PySem.W.plainOver K C=true) (ht:PySem.W.takerIn K C name=some none) (hh:PySem.W.hasDictIn K C=true)
  (hw:PySem.Within mA ns) (hsz:ns.length≤sizeLine)
  (h:∀h',a7q h' x dx C (fun y=>if y=name then some v else mA y)→Heap.SameBut dx s.heap h'→Q () { s with heap:=h',toks:=s.toks+2 }) :
  wpAny (model prog w) A (setAttr (.ref x) name v) Q E s:=by
 obtain⟨od,J,hl⟩:=I.look
 refine PySem.W.set_plain X J hs (PySem.W.osa_open (s:={ s with toks:=s.toks+1 }) (r:=none) X J hp ht fun b=>?_)
 obtain⟨cd,hc,hd'⟩:=PySem.W.any_some hh
 have hx:s.heap.get? x=some ⟨.ref C,some dx,.plain,#[]⟩:=I.obj
 refine wpAny_bind (wpAny_pure (wpAny_bind (wpAny_bind (wpAny_loadPart hx (wpAny_bind (PySem.W.Looks.here (s:={ s with toks:=s.toks+1 }) (PySem.W.looks_clsIn X hc) ?_))))))
 rw[hd']
 refine wpAny_pure (a:=some dx) (wpAny_bind (wpAny_pure (wpAny_bind ?_)))
 refine wpAny_nsSet1 (s:={ s with toks:=s.toks+1 }) I.ns fun h' hn2 hs2=>?_
 obtain⟨oD,esD,epD,hoD,hdD,hcD⟩:=hn2.count (PySem.Within.cons name v hw)
 refine wpAny_bind (wpAny_lookBehind hoD (by rw[hdD];exact pastItsLine_dict (Nat.le_trans hcD (by rw[List.length_cons];omega))) ?_)
 exact wpAny_pure (h _ ⟨(hs2.2 _ (Ne.symm I.ne)).trans I.obj,hn2,I.ne⟩ hs2)
theorem b9f{R:Result→Shared→Prop}{vs:List Value}{kw:List (Str×Value)}(X:K.In s.heap)(hm:PySem.W.makesIn K C=true)
  (hi:PySem.W.findIn K (.ref C) "__init__"=some (some (.ref f))) (hf:PySem.W.typeIn K (.ref f)=some (.type "function"))
  (h:codeAny (model prog w) (A.under (.builtin "type.__call__" ⟨.ref C::vs,kw⟩)) (.call (.ref f) ⟨.ref (s.heap.objs.size+1)::vs,kw⟩) (PySem.W.InitBack (s.heap.objs.size+1) R)
   { s with heap:=(s.heap.push PySem.W.emptyDict).push (PySem.W.instObj C s.heap.objs.size) }) :
  codeAny (model prog w) A (.call (.ref C) ⟨vs,kw⟩) R s:=by
 obtain⟨hh,g,d,t,os⟩:=s
 exact PySem.W.make_core (PySem.W.makes_of X hm) (PySem.W.looks_findIn X hi) (fun self=>PySem.W.bind_fn X self hf) (.inl rfl) h
end
def K2(f:Str)(v:V):List (Str×V)→List (Str×V)
 | []=>[(f,v)]
 | (g,x)::r=>if g=f then(g,v)::r else(g,x)::K2 f v r
theorem a4n(f g:Str)(v:V):∀fs:List (Str×V),(K2 f v fs).lookup g=if g=f then some v else fs.lookup g
 | []=>by
  show List.lookup g [(f,v)]=_
  by_cases h:g=f
  ·have hb:(g==f)=true:=beq_iff_eq.mpr h
   simp only[List.lookup,hb,if_pos h]
  ·have hb:(g==f)=false:=beq_eq_false_iff_ne.mpr h
   simp only[List.lookup,hb,if_neg h]
 | (k,x)::r=>by
  have ih:=a4n f g v r
  rw[show K2 f v ((k,x)::r)=(if k=f then(k,v)::r else(k,x)::K2 f v r) from rfl]
  by_cases hk:k=f
  ·rw[if_pos hk]
   by_cases h:g=k
   ·have hb:(g==k)=true:=beq_iff_eq.mpr h
    simp only[List.lookup,hb,if_pos (h.trans hk)]
   ·have hb:(g==k)=false:=beq_eq_false_iff_ne.mpr h
    simp only[List.lookup,hb,if_neg (fun e:g=f=>h (e.trans hk.symm))]
  ·rw[if_neg hk]
   by_cases h:g=k
   ·have hb:(g==k)=true:=beq_iff_eq.mpr h
    simp only[List.lookup,hb,if_neg (fun e:g=f=>hk (h.symm.trans e))]
   ·have hb:(g==k)=false:=beq_eq_false_iff_ne.mpr h
    simp only[List.lookup,hb]
    exact ih
theorem a5h(f:Str)(v:V):∀fs:List (Str×V),f∈(K2 f v fs).map (·.1)∧∀g,g∈fs.map (·.1)→g∈(K2 f v fs).map (·.1)
 | []=>⟨by simp[K2],fun g h=>by simp at h⟩
 | (k,x)::r=>by
  obtain⟨i1,i2⟩:=a5h f v r
  rw[show K2 f v ((k,x)::r)=(if k=f then(k,v)::r else(k,x)::K2 f v r) from rfl]
  by_cases hk:k=f
  ·rw[if_pos hk]
   subst hk
   exact⟨by simp,fun g h=>by simpa using h⟩
  ·rw[if_neg hk]
   refine⟨?_,fun g h=>?_⟩
   ·rw[List.map_cons]
    exact List.mem_cons_of_mem _ i1
   ·rw[List.map_cons]at h ⊢
    rcases List.mem_cons.mp h with e | e
    ·exact List.mem_cons.mpr (.inl e)
    ·exact List.mem_cons_of_mem _ (i2 g e)
theorem a1o(f:Str)(v:V):∀fs:List (Str×V),(K2 f v fs).length≤fs.length+1
 | []=>by simp[K2]
 | (k,x)::r=>by
  have ih:=a1o f v r
  rw[show K2 f v ((k,x)::r)=(if k=f then(k,v)::r else(k,x)::K2 f v r) from rfl]
  by_cases hk:k=f
  ·rw[if_pos hk,List.length_cons,List.length_cons];omega
  ·rw[if_neg hk,List.length_cons,List.length_cons];omega
theorem L7.some_of{v:V}{o:Option Value}(r:L7 (some v) o):∃u,o=some u∧RelV v u:=by
 cases o with
 | none=>exact(show False from r).elim
 | some u=>exact⟨u,rfl,r⟩
theorem L7.none_of{o:Option Value}(r:L7 none o):o=none:=by
 cases o with
 | none=>rfl
 | some u=>exact(show False from r).elim
theorem a4Y{v:V}{u:Value}(r:RelV v u):PySem.W.handedIn u=true:=by
 cases v with
 | non=>cases (show u=Value.none from r);rfl
 | bl b=>cases (show u=Value.bool b from r);rfl
 | int i=>obtain⟨t,e⟩:=(show ∃t,u=Value.int i t from r);cases e;rfl
 | str x=>obtain⟨t,e⟩:=(show ∃t,u=Value.str x t from r);cases e;rfl
 | byt b=>obtain⟨t,e⟩:=(show ∃t,u=Value.bytes b t from r);cases e;rfl
 | flt b=>obtain⟨t,e⟩:=(show ∃t,u=Value.float b t from r);cases e;rfl
 | ref a=>cases (show u=Value.ref a from r);rfl
 | ty n=>cases (show u=Value.type n from r);rfl
section
variable{P:Program}{w:World}{H H':Hp}{h h':Heap}{a C dx:Addr}{fs fs':List (Str×V)}
theorem a6v(hok:F8 P w H h)(e:H a=some (.ins C dx fs)):∃mA,a7q h a dx C mA∧(∀f,L7 (fs.lookup f) (mA f))∧PySem.Within mA (fs.map (·.1))∧fs.length≤1000∧H dx=some (.own a):=by
 obtain⟨d,z,ne,ob,mA,n,r,q⟩:=(show y0 P w H h a (.ins C dx fs) from hok a _ e)
 exact⟨mA,⟨ob,n,ne⟩,r,q,z,d⟩
end
structure Cls(K:PySem.W.Frag)(C:Addr):Prop where
 pg:PySem.W.plainGet K C Str.empty=true
 hd:PySem.W.hasDictIn K C=true
 po:PySem.W.plainOver K C=true
 sa:PySem.W.findIn K (.ref C) "__setattr__"=some (some (.builtin "object.__setattr__"))
theorem Cls.get{K:PySem.W.Frag}{C:Addr}(c:Cls K C)(f:Str):PySem.W.plainGet K C f=true:=c.pg
def v5(K:PySem.W.Frag)(C:Addr)(f:Str):Prop:=PySem.W.findIn K (.ref C) f=some none
theorem v5.taker{K:PySem.W.Frag}{C:Addr}{f:Str}(n:v5 K C f):PySem.W.takerIn K C f=some none:=by
 unfold PySem.W.takerIn
 rw[show PySem.W.findIn K (.ref C) f=some none from n]
 rfl
structure R7(K:PySem.W.Frag)(C:Addr)(m:Str)(f:Addr):Prop where
 at_:PySem.W.findIn K (.ref C) m=some (some (.ref f))
 fn:PySem.W.isFn K (.ref f)=true
 kp:PySem.W.keepIn K (.ref f)=true
section
variable{X:Cx}{pins:List (Addr×Obj)}{σ:St}{H:Hp}{s:Shared}{a C dx:Addr}{fs:List (Str×V)}{f:Str}{v:V}{A:Around}{E:Value→Shared→Prop}
theorem a0S{b:Bool}{Q:Value→Shared→Prop}(I:Inv X pins σ H s)(e:H a=some (.ins C dx fs))(c:Cls X.K C)(n:v5 X.K C f)(l:fs.lookup f=some v)
  (h:∀u s',Inv X pins σ H s'→RelV v u→Q u s'):wpAny (model X.prog X.w) A (getAttr (.ref a) f b) Q E s:=by
 obtain⟨mA,O,r,_,_,_⟩:=a6v I.hok e
 obtain⟨u,hu,ru⟩:=L7.some_of (v:=v) (o:=mA f) (by rw[←l];exact r f)
 exact get_map I.kIn O (c.get f) c.hd n hu (a4Y ru) (h u _ (I.tok _) ru)
theorem a9d{m:Str}{g:Addr}{pl:Sem Bool}{Q:Value×List Value→Shared→Prop}(I:Inv X pins σ H s)(e:H a=some (.ins C dx fs))(c:Cls X.K C)(k:R7 X.K C m g)(l:fs.lookup m=none)
  (h:Q (.ref g,[.ref a]) s):wpAny (model X.prog X.w) A (getMethod (.ref a) m pl) Q E s:=by
 obtain⟨mA,O,r,_,_,_⟩:=a6v I.hok e
 have hn:mA m=none:=L7.none_of (by rw[←l];exact r m)
 exact b9a I.kIn O (c.get m) k.at_ k.fn hn h
theorem a1P{y:V}{u:Value}{Q:Unit→Shared→Prop}(I:Inv X pins σ H s)(e:H a=some (.ins C dx fs))(c:Cls X.K C)(n:v5 X.K C f)(hl:fs.length<1000)(ry:RelV y u)
  (h:∀s',Inv X pins σ (upd H a (.ins C dx (K2 f y fs))) s'→Q () s'):wpAny (model X.prog X.w) A (setAttr (.ref a) f u) Q E s:=by
 obtain⟨mA,O,r,wi,_,ho⟩:=a6v I.hok e
 have hz:(fs.map (·.1)).length≤sizeLine:=by rw[List.length_map,sizeLine_eq];omega
 refine b2k I.kIn O c.sa c.po n.taker c.hd wi hz fun h' O' sb=>h _ ?_
 have hd:∃o,h'.get? dx=some o:=let ⟨o,_,_,e',_⟩:=O'.ns;⟨o,e'⟩
 refine I.write (x:=a) (e:=dx) (by rw[e];exact True.intro) (.inr ho) (fun b q hb z=>(sb.2 b hb).trans z) hd ?_
 refine⟨by rw[b8 O.ne];exact ho,?_,O.ne,O'.obj,_,O'.ns,fun g=>?_,fun g hg=>?_⟩
 ·have:=a1o f y fs;omega
 ·show L7 ((K2 f y fs).lookup g) (if g=f then some u else mA g)
  rw[a4n]
  by_cases q:g=f
  ·rw[if_pos q,if_pos q];exact ry
  ·rw[if_neg q,if_neg q];exact r g
 ·by_cases q:g=f
  ·rw[q];exact(a5h f y fs).1
  ·refine(a5h f y fs).2 g (wi g fun z=>hg ?_)
   show(if g=f then some u else mA g)=none
   rw[if_neg q];exact z
theorem Inv.made(I:Inv X pins σ H s):Inv X pins σ (upd (upd H s.heap.objs.size (.own (s.heap.objs.size+1))) (s.heap.objs.size+1) (.ins C s.heap.objs.size []))
  { s with heap:=(s.heap.push PySem.W.emptyDict).push (PySem.W.instObj C s.heap.objs.size) }:=by
 have e1:(s.heap.push PySem.W.emptyDict).get? s.heap.objs.size=some PySem.W.emptyDict:=Heap.get?_push_size s.heap rfl
 have e2:((s.heap.push PySem.W.emptyDict).push (PySem.W.instObj C s.heap.objs.size)).get? (s.heap.objs.size+1)=some (PySem.W.instObj C s.heap.objs.size):=by
  have:=Heap.get?_push_size (s.heap.push PySem.W.emptyDict) (o:=PySem.W.instObj C s.heap.objs.size) rfl
  rwa [Heap.size_push] at this
 have e3:(s.heap.push PySem.W.emptyDict).Ns s.heap.objs.size (fun _=>none):=⟨PySem.W.emptyDict,#[],_,e1,rfl,(fun e he=>absurd he (by simp)),fun _=>rfl⟩
 have I1:=I.laid (a:=s.heap.objs.size) (o:=.own (s.heap.objs.size+1)) (h':=s.heap.push PySem.W.emptyDict) (t':=s.toks) (fun b u q=>Heap.get?_push_of_some _ q) (Nat.le_refl _) ⟨_,e1⟩
 refine I1.laid (a:=s.heap.objs.size+1) (o:=.ins C s.heap.objs.size []) (t':=s.toks) (fun b u q=>Heap.get?_push_of_some _ q) (Nat.le_of_eq (Heap.size_push _ _)) ?_
 have ne:s.heap.objs.size≠s.heap.objs.size+1:=Nat.ne_of_lt (Nat.lt_succ_self _)
 refine⟨by rw[b8 ne,b6],Nat.zero_le _,ne,e2,fun _=>none,(Heap.Ns1.of_empty e3).at fun o q=>Heap.get?_push_of_some _ q,fun _=>True.intro,fun y hy=>absurd rfl hy⟩
theorem b3h{prog:Program}{w:World}{env:Env}{e:Expr}{f:Str}{pos:Pos}{s:Shared}{Q:Value→Shared→Prop}(hb:attributeBase e f env (eval e env)=eval e env)
  (h:wpAny (model prog w) A (eval e env) (fun o s₁=>wpAny (model prog w) A (getAttr o f true) Q E s₁) E s):wpAny (model prog w) A (eval (.Attribute e f pos) env) Q E s:=
 Attribute_any_ h (by rw[arm_eval_Attribute,hb])
end
inductive b7t(K:PySem.W.Frag)(f:Str)(x:V)(H:Hp)(Q:VK):Prop
 | mk (a C dx:Addr) (fs:List (Str×V)) (v:V) (e:x=.ref a) (h:H a=some (.ins C dx fs)) (c:Cls K C) (n:v5 K C f) (l:fs.lookup f=some v) (q:Q v H)
def b0o(K:PySem.W.Frag)(ta:TE)(f:Str):TE:=fun σ H Q=>ta σ H fun x H1=>b7t K f x H1 Q
def b8r(K:PySem.W.Frag)(ta tv:TE)(f:Str):TS:=fun D σ H=>tv σ H fun y H1=>ta σ H1 fun x H2=>∃a C dx fs,x=.ref a∧H2 a=some (.ins C dx fs)∧Cls K C∧v5 K C f∧fs.length<1000 ∧
 D.nx σ (upd H2 a (.ins C dx (K2 f y fs)))
section
variable{X:Cx}{o e value:Expr}{f:Str}{pos pos' tpos:Pos}{ta tv:TE}
theorem u0(he:PE X e ta)(hb:attributeBase e f X.env (eval e X.env)=eval e X.env):PE X (.Attribute e f pos) (b0o X.K ta f):=by
 intro pins s σ H Q I h
 refine b3h hb (k7 (he pins s σ H _ I h) fun u s1 ⟨x,H1,I1,rx,a,C,dx,fs,v,ex,ea,c,n,l,q⟩=>?_)
 subst ex
 obtain rfl:u=Value.ref a:=rx
 exact a0S I1 ea c n l fun u' s2 I2 ru=>⟨v,H1,I2,ru,q⟩
theorem K5(ha:PE X o ta)(hv:PE X value tv)(hs:swapsWith value (some (.Attribute o f pos')) pos.line X.env=pure false):PS X (.Assign [.Attribute o f pos'] value pos) (b8r X.K ta tv f):=by
 intro pins s σ H D I h
 refine plainObj_wpAny_Assign_Attribute (k7 (hv pins s σ H _ I h) fun u s1 ⟨y,H1,I1,ry,q⟩=>k7 (ha pins s1 σ H1 _ I1 q) fun ov s2 ⟨x,H2,I2,rx,a,C,dx,fs,ex,ea,c,n,l,q2⟩=>?_) hs
 subst ex
 obtain rfl:ov=Value.ref a:=rx
 exact a1P I2 ea c n l ry fun s3 I3=>⟨σ,_,I3,q2⟩
theorem b4p{pl:Sem Bool}{m:Str}{apos:Pos}{args:List Expr}{pins:List (Addr×Obj)}{s:Shared}{σ:St}{H:Hp}{Q:Value→Shared→Prop}{te:TE}(he:PE X e te)(I:Inv X pins σ H s)
  (h:te σ H fun x H1=>∃a C dx fs g,x=.ref a∧H1 a=some (.ins C dx fs)∧Cls X.K C∧R7 X.K C m g∧fs.lookup m=none ∧
   ∀s1,Inv X pins σ H1 s1→wpAny (model X.prog X.w) X.A (callWith pos (.ref g) [.ref a] (backTo pos (starEach args X.env)) (backToKw pos (keywordEach [] X.env))) Q X.xe s1)
  (ht:eval (.Call (.Attribute e m apos) args [] pos) X.env=(do
   let ov ←eval e X.env
   standAt apos.atName
   let (f,first) ←holding [ov] (getMethod ov m pl)
   callWith pos f first (backTo pos (starEach args X.env)) (backToKw pos (keywordEach [] X.env)))) :
  wpAny (model X.prog X.w) X.A (eval (.Call (.Attribute e m apos) args [] pos) X.env) Q X.xe s:=by
 refine PySem.W.methodCall_KW (pl:=pl) (k7 (he pins s σ H _ I h) fun u s1 ⟨x,H1,I1,rx,a,C,dx,fs,g,ex,ea,c,k,l,q⟩=>?_) ht
 subst ex
 obtain rfl:u=Value.ref a:=rx
 exact a9d I1 ea c k l (q s1 I1)
end
section
variable{X:Cx}{pins:List (Addr×Obj)}{σ:St}{H:Hp}{s:Shared}{A:Around}{E:Value→Shared→Prop}{Q:Value→Shared→Prop}{c:Value}{b:Bool}
end
end L2
namespace L2
open PySem PySem.Spec PyProof.Rows
structure B7(k:Nat)(A:Around):Prop where
 hd:A.handled=none
 dp:A.depth+3*k+5<recursionLimit
 un:A.units+16*k+200<cLine
theorem B7.mono{j k:Nat}{A:Around}(r:B7 k A)(h:j≤k):B7 j A:=⟨r.hd,by have:=r.dp;omega,by have:=r.un;omega⟩
theorem B7.deeper{k:Nat}{A:Around}(r:B7 (k+1) A)(env:Env):B7 k (A.deeper env):=
 ⟨r.hd,by have:=r.dp;show A.depth+1+3*k+5<_;omega,by have:=r.un;show A.units+3+16*k+200<_;omega⟩
theorem a5S{A:Around}{C:Addr}{us:List Value}{kw:List (Str×Value)}:(A.under (.builtin "type.__call__" ⟨.ref C::us,kw⟩)).depth=A.depth+1:=by
 first | rfl | simp[Around.under,Code.weight,Code.isCreation,Code.isGuard,Code.isCaller,Code.frames,Code.isFrame,guardIds]
theorem a3R{A:Around}{C:Addr}{us:List Value}{kw:List (Str×Value)}:(A.under (.builtin "type.__call__" ⟨.ref C::us,kw⟩)).units=A.units+1:=by
 first | rfl | simp[Around.under,Code.cUnits,Code.frames,Code.isFrame]
theorem B7.make{k:Nat}{A:Around}(r:B7 (k+1) A)(C:Addr)(us:List Value)(kw:List (Str×Value)):B7 k (A.under (.builtin "type.__call__" ⟨.ref C::us,kw⟩)):=
 ⟨r.hd,by have:=r.dp;rw[a5S];omega,by have:=r.un;rw[a3R];omega⟩
theorem B7.depth{k:Nat}{A:Around}(r:B7 k A):A.depth<recursionLimit:=by have:=r.dp;omega
theorem B7.units{k:Nat}{A:Around}(r:B7 k A):A.units+64<cLine:=by have:=r.un;omega
def a1R:TA:=fun _ H Q=>Q [] H
def b4g(ta:TE)(tr:TA):TA:=fun σ H Q=>ta σ H fun x H1=>tr σ H1 fun xs H2=>Q (x::xs) H2
section
variable{X:Cx}{e:Expr}{es:List Expr}{te:TE}{t:TA}{pos:Pos}
theorem b7:PA X [] a1R:=fun _ _ _ _ H Q I h=>Calls.spliced_nil ⟨[],H,I,.nil,h⟩
theorem a6(ha:PE X e te)(hr:PA X es t)(hs:starEach (e::es) X.env=(false,eval e X.env)::starEach es X.env:=by rfl):PA X (e::es) (b4g te t):=by
 intro pos pins s σ H Q I h
 rw[hs]
 show wpAny _ _ (spliced ((false,eval e X.env)::backTo pos (starEach es X.env))) _ _ s
 refine Calls.spliced_cons (k7 (ha pins s σ H _ I h) fun u s1 ⟨x,H1,I1,r1,q1⟩=>?_)
 exact k7 (hr pos pins s1 σ H1 _ I1 q1) fun us s2 ⟨xs,H2,I2,r2,q2⟩=>⟨x::xs,H2,I2,.cons r1 r2,q2⟩
def b1u(t:TA):TE:=fun σ H Q=>t σ H fun xs H1=>xs.length≤sizeLine∧∀p,H1 p=none→Q (.ref p) (upd H1 p (.tup xs))
def b0v(t:TA):TE:=fun σ H Q=>t σ H fun xs H1=>xs.length≤sizeLine∧∀p,H1 p=none→Q (.ref p) (upd H1 p (.lst xs))
theorem p6{x1}(h:PA X es t):PE X (.Tuple es x1 pos) (b1u t):=by
 intro pins s σ H Q I hq
 refine wpAny_Tuple_spliced (k7 (h pos pins s σ H _ I hq) fun us s1 ⟨xs,H1,I1,r,z,q⟩=>⟨by rw[←r.length];exact z,?_⟩)
 have hf:H1 s1.heap.objs.size=none:=I1.hok.fresh (Nat.le_refl _)
 refine⟨.ref s1.heap.objs.size,upd H1 s1.heap.objs.size (.tup xs),I1.laid (t':=s1.toks) (fun b u e=>Heap.get?_push_of_some _ e) (Nat.le_refl _) ?_,rfl,q _ hf⟩
 exact⟨z,us,r,⟨_,Heap.get?_push_size _ rfl,rfl,_,rfl⟩⟩
theorem j8(h:PA X es t):PE X (.List es pos) (b0v t):=by
 intro pins s σ H Q I hq
 refine wpAny_List_spliced (k7 (h pos pins s σ H _ I hq) fun us s1 ⟨xs,H1,I1,r,z,q⟩=>⟨by rw[←r.length];exact z,?_⟩)
 have hf:H1 s1.heap.objs.size=none:=I1.hok.fresh (Nat.le_refl _)
 refine⟨.ref s1.heap.objs.size,upd H1 s1.heap.objs.size (.lst xs),I1.laid (t':=s1.toks) (fun b u e=>Heap.get?_push_of_some _ e) (Nat.le_refl _) ?_,rfl,q _ hf⟩
 exact⟨z,us,0,r,Heap.get?_push_size _ rfl⟩
end
abbrev Sp:=List V→Hp→VK→XK→Prop
abbrev CXT:=List Env→Hp→Shared→XK→Value→Shared→Prop
structure a1p(P:Program)(w:World)(K:PySem.W.Frag)(mg:Str→Option Value)(base:Heap)(A:Around)(outer:List Env)(s:Shared)(H:Hp):Prop where
 frames:A.frames=some outer
 mod:Mod K mg base
 bs:∀b o,base.get? b=some o→s.heap.get? b=some o∧H b=none
 bsz:base.objs.size≤s.heap.objs.size
 funs:s.heap.FunFrames base outer
 frf:∀b∈frs outer,H b=none
 hok:F8 P w H s.heap
 bare:AllBare s.gens
def CE(outer:List Env)(P:Program)(w:World)(H:Hp)(s:Shared)(Q:VK)(u:Value)(s':Shared):Prop:=
 ∃v H',s'.os=s.os∧AllBare s'.gens∧Un (frs outer) [] H H' s.heap s'.heap∧F8 P w H' s'.heap∧RelV v u∧Q v H'
def CR(CX:CXT)(outer:List Env)(P:Program)(w:World)(H:Hp)(s:Shared)(Q:VK)(E:XK)(r:Result)(s':Shared):Prop:=
 match r with
 | .ok (.ret u)=>CE outer P w H s Q u s'
 | .ok _=>False
 | .error e=>CX outer H s E e s'
structure g7(P:Program)(w:World)(K:PySem.W.Frag)(mg:Str→Option Value)(base:Heap)(CX:CXT)(k:Nat)(f:Addr)(fd:FuncData)(ps:List Str)(sp:Sp):Prop where
 len:∀vs H Q E,sp vs H Q E→vs.length=ps.length
 run:∀(A:Around) (outer:List Env) (s:Shared) (H:Hp) (args:Args) (us:List Value) (vs:List V) (Q:VK) (E:XK),B7 k A→a1p P w K mg base A outer s H→BindsTo s fd args (ps.zip us)→i8 vs us→sp vs H Q E →
  codeAny (model P w) A (.call (.ref f) args) (CR CX outer P w H s Q E) s
theorem g7.mono{P:Program}{w:World}{K:PySem.W.Frag}{mg:Str→Option Value}{base:Heap}{CX:CXT}{j k:Nat}{f:Addr}{fd:FuncData}{ps:List Str}{sp:Sp}(F:g7 P w K mg base CX j f fd ps sp)(h:j≤k) :
  g7 P w K mg base CX k f fd ps sp:=⟨F.len,fun A outer s H args us vs Q E hr=>F.run A outer s H args us vs Q E (hr.mono h)⟩
theorem a1p.make{P:Program}{w:World}{K:PySem.W.Frag}{mg:Str→Option Value}{base:Heap}{A:Around}{outer:List Env}{s:Shared}{H:Hp}(e:a1p P w K mg base A outer s H)(C:Addr)(us:List Value)(kw:List (Str×Value)) :
  a1p P w K mg base (A.under (.builtin "type.__call__" ⟨.ref C::us,kw⟩)) outer s H:=⟨by first | exact e.frames | (simpa [Around.under,Code.envs,Code.isFrame,pushEnvs] using e.frames),e.mod,e.bs,e.bsz,e.funs,e.frf,e.hok,e.bare⟩
section
variable{X:Cx}{pins:List (Addr×Obj)}{σ:St}{H:Hp}{s s':Shared}
theorem Inv.env0(I:Inv X pins σ H s):a1p X.prog X.w X.K X.mg X.base X.A X.stack s H:=
 ⟨I.ok.frames,I.ok.mod,I.bs,Nat.le_trans I.ok.bsz I.sz,I.stack,I.stkFree,I.hok,I.bare⟩
theorem Inv.after{Q:VK}{u:Value}(I:Inv X pins σ H s)(h:CE X.stack X.prog X.w H s Q u s'):EP X pins σ Q u s':=by
 obtain⟨v,H',os,bare,un,hok,r,q⟩:=h
 obtain⟨hh,g,d,t,os'⟩:=s'
 obtain rfl:os'=s.os:=os
 exact⟨v,H',I.call (h':=hh) (g':=g) (d':=d) (t':=t) (ch:=[]) un hok bare (fun b z=>absurd z (by simp)),r,q⟩
end
def b3r(sp:Sp)(dvs:List V)(E:XK)(t:TA):TE:=fun σ H Q=>t σ H fun vs H1=>sp (vs++dvs) H1 Q E
def b7g(C:Addr)(m:Str)(sp:Sp)(dvs:List V)(E:XK)(ta:TE)(t:TA):TE:=fun σ H Q=>ta σ H fun x H1=>∃a dx fs,x=.ref a∧H1 a=some (.ins C dx fs)∧fs.lookup m=none ∧
 t σ H1 fun vs H2=>sp (x::(vs++dvs)) H2 Q E
def b5g(C:Addr)(sp:Sp)(dvs:List V)(E:XK)(t:TA):TE:=fun σ H Q=>t σ H fun vs H1=>∀x dx,H1 x=none→H1 dx=none→dx≠x →
 sp (.ref x::(vs++dvs)) (upd (upd H1 dx (.own x)) x (.ins C dx [])) (fun v H2=>v=.non∧Q (.ref x) H2) E
def Binds(K:PySem.W.Frag)(fd:FuncData)(ps:List Str)(ds:List Value):Prop:=
 ∀(s:Shared) (us:List Value),K.In s.heap→(us++ds).length=ps.length→BindsTo s fd ⟨us,[]⟩ (ps.zip (us++ds))
theorem Binds.all{K:PySem.W.Frag}{fd:FuncData}{ps:List Str}(h:∀us:List Value,us.length=ps.length→bindArgs fd ⟨us,[]⟩=pure (ps.zip us)):Binds K fd ps []:=fun s us _ hl=>by
 rw[List.append_nil]at hl ⊢
 exact .of_eq (h us hl)
def V4(CX:CXT)(X:Cx)(E:XK):Prop:=∀(pins:List (Addr×Obj)) (σ:St) (H:Hp) (s:Shared) (e:Value) (s':Shared),Inv X pins σ H s→CX X.stack H s E e s'→X.xe e s'
section
variable{X:Cx}{CX:CXT}{k:Nat}{f C:Addr}{fd:FuncData}{ps:List Str}{sp:Sp}{dvs:List V}{ds:List Value}{E:XK}{x m:Str}{p pos apos:Pos}{e o:Expr}{es:List Expr}{ta:TE}{t:TA}
theorem a7G{pins:List (Addr×Obj)}{σ:St}{H:Hp}{s:Shared}{Q:VK}{us:List Value}{vs:List V}(F:g7 X.prog X.w X.K X.mg X.base CX k f fd ps sp)(hr:B7 k X.A)(hb:Binds X.K fd ps ds)(hd:i8 dvs ds)(hx:V4 CX X E)
  (I:Inv X pins σ H s) (r:i8 vs us) (h:sp (vs++dvs) H Q E):wpAny (model X.prog X.w) X.A (call (.ref f) us) (EP X pins σ Q) X.xe s:=by
 have r2:i8 (vs++dvs) (us++ds):=r.append hd
 have hl:(us++ds).length=ps.length:=by rw[←r2.length];exact F.len _ _ _ _ h
 refine wpAny_call (codeAny_mono (F.run X.A X.stack s H ⟨us,[]⟩ (us++ds) (vs++dvs) Q E hr I.env0 (hb s us I.kIn hl) r2 h) fun r s' hq=>?_)
 cases r with
 | error e=>exact hx pins σ H s e s' I hq
 | ok fl=>
  cases fl with
  | ret u=>exact I.after hq
  | next=>exact False.elim hq
  | brk=>exact False.elim hq
  | cont=>exact False.elim hq
theorem j4(F:g7 X.prog X.w X.K X.mg X.base CX k f fd ps sp)(hr:B7 k X.A)(hg:Gl X x)(hm:X.mg x=some (.ref f))(hk:PySem.W.keepIn X.K (.ref f)=true)(hb:Binds X.K fd ps ds)(hd:i8 dvs ds)(hx:V4 CX X E)
  (ha:PA X (e::es) t) (hdb:(x==("__debug__":Str))=false:=by decide) (he:starEach (e::es) X.env=(false,eval e X.env)::starEach es X.env:=by rfl) (hpl:(backTo pos (starEach es X.env)).any (·.1)=false:=by rfl) :
  PE X (.Call (.Name x p) (e::es) [] pos) (b3r sp dvs E t):=by
 intro pins s σ H Q I h
 refine wpAny_Call_Name_kw (a1l I hg hm ?_ hdb)
 refine PySem.W.callWith_K (h₀:=X.base) I.ok.mod.kin hk (k7 (ha pos pins s σ H _ I h) fun us s1 ⟨vs,H1,I1,r,q⟩=>⟨I1.kIn,?_⟩) he hpl
 exact a7G F hr hb hd hx I1 r q
theorem Y9{pl:Sem Bool}(he:PE X o ta)(c:Cls X.K C)(hm:R7 X.K C m f)(F:g7 X.prog X.w X.K X.mg X.base CX k f fd ps sp)(hr:B7 k X.A)(hb:Binds X.K fd ps ds)(hd:i8 dvs ds)(hx:V4 CX X E)(ha:PA X (e::es) t)
  (hst:starEach (e::es) X.env=(false,eval e X.env)::starEach es X.env:=by rfl) (hpl:(backTo pos (starEach es X.env)).any (·.1)=false:=by rfl)
  (ht:eval (.Call (.Attribute o m apos) (e::es) [] pos) X.env=(do
   let ov ←eval o X.env
   standAt apos.atName
   let (f,first) ←holding [ov] (getMethod ov m pl)
   callWith pos f first (backTo pos (starEach (e::es) X.env)) (backToKw pos (keywordEach [] X.env))):=by rfl) :
  PE X (.Call (.Attribute o m apos) (e::es) [] pos) (b7g C m sp dvs E ta t):=by
 intro pins s σ H Q I h
 refine PySem.W.methodCall_KW (pl:=pl) (k7 (he pins s σ H _ I h) fun u s1 ⟨x,H1,I1,rx,a,dx,fs,ex,ea,l,q⟩=>?_) ht
 subst ex
 obtain rfl:u=Value.ref a:=rx
 refine a9d I1 ea c hm l ?_
 refine PySem.W.callWith_K (first:=[.ref a]) (h₀:=X.base) I.ok.mod.kin hm.kp (k7 (ha pos pins s1 σ H1 _ I1 q) fun us s2 ⟨vs,H2,I2,r,q2⟩=>⟨I2.kIn,?_⟩) hst hpl
 exact a7G (us:=.ref a::us) (vs:=.ref a::vs) F hr hb hd hx I2 (.cons rfl r) q2
theorem U7{pl:Sem Bool}(he:PE X o ta)(c:Cls X.K C)(hm:R7 X.K C m f)(F:g7 X.prog X.w X.K X.mg X.base CX k f fd ps sp)(hr:B7 k X.A)(hb:Binds X.K fd ps ds)(hd:i8 dvs ds)(hx:V4 CX X E)
  (ht:eval (.Call (.Attribute o m apos) [] [] pos) X.env=(do
   let ov ←eval o X.env
   standAt apos.atName
   let (f,first) ←holding [ov] (getMethod ov m pl)
   callWith pos f first (backTo pos (starEach [] X.env)) (backToKw pos (keywordEach [] X.env))):=by rfl) :
  PE X (.Call (.Attribute o m apos) [] [] pos) (b7g C m sp dvs E ta a1R):=by
 intro pins s σ H Q I h
 refine PySem.W.methodCall_KW (pl:=pl) (k7 (he pins s σ H _ I h) fun u s1 ⟨x,H1,I1,rx,a,dx,fs,ex,ea,l,q⟩=>?_) ht
 subst ex
 obtain rfl:u=Value.ref a:=rx
 refine a9d I1 ea c hm l ?_
 exact PySem.W.callWith_K0 (first:=[.ref a]) I1.kIn hm.kp (a7G (us:=[.ref a]) (vs:=[.ref a]) F hr hb hd hx I1 (.cons rfl .nil) q)
structure Mk(K:PySem.W.Frag)(C f:Addr):Prop where
 makes:PySem.W.makesIn K C=true
 init:PySem.W.findIn K (.ref C) "__init__"=some (some (.ref f))
 fn:PySem.W.isFn K (.ref f)=true
 kp:PySem.W.keepIn K (.ref C)=true
theorem a4K{pins:List (Addr×Obj)}{σ:St}{H:Hp}{s:Shared}{Q:VK}{us:List Value}{vs:List V}(M:Mk X.K C f)(F:g7 X.prog X.w X.K X.mg X.base CX k f fd ps sp)(hr:B7 (k+1) X.A)(hb:Binds X.K fd ps ds)(hd:i8 dvs ds)
  (hx:V4 CX X E) (I:Inv X pins σ H s) (r:i8 vs us)
  (h:∀x dx,H x=none→H dx=none→dx≠x→sp (.ref x::(vs++dvs)) (upd (upd H dx (.own x)) x (.ins C dx [])) (fun v H2=>v=.non∧Q (.ref x) H2) E) :
  wpAny (model X.prog X.w) X.A (call (.ref C) us) (EP X pins σ Q) X.xe s:=by
 have hq:=h (s.heap.objs.size+1) s.heap.objs.size (I.hok.fresh (Nat.le_succ _)) (I.hok.fresh (Nat.le_refl _)) (Nat.ne_of_lt (Nat.lt_succ_self _))
 have I2:=Inv.made (C:=C) I
 have r2:i8 (V.ref (s.heap.objs.size+1)::(vs++dvs)) (Value.ref (s.heap.objs.size+1)::(us++ds)):=.cons rfl (r.append hd)
 have hl:(Value.ref (s.heap.objs.size+1)::us++ds).length=ps.length:=by
  have e:=r2.length
  rw[F.len _ _ _ _ hq]at e
  exact e.symm
 refine wpAny_call (b9f (f:=f) I.kIn M.makes M.init (beq_iff_eq.mp M.fn) (codeAny_mono (F.run _ X.stack _ _ ⟨Value.ref (s.heap.objs.size+1)::us,[]⟩ (Value.ref (s.heap.objs.size+1)::(us++ds)) _ _ E (hr.make C us [])
  (I2.env0.make C us []) (hb _ (Value.ref (s.heap.objs.size+1)::us) I2.kIn hl) r2 hq) fun r s' hq'=>?_))
 cases r with
 | error e=>exact hx pins σ _ _ e s' I2 hq'
 | ok fl=>
  cases fl with
  | ret u=>
   obtain⟨v,H',I3,rv,ev,q3⟩:=I2.after hq'
   subst ev
   exact⟨rv,⟨V.ref (s.heap.objs.size+1),H',I3,rfl,q3⟩⟩
  | next=>exact False.elim hq'
  | brk=>exact False.elim hq'
  | cont=>exact False.elim hq'
theorem b9j(M:Mk X.K C f)(F:g7 X.prog X.w X.K X.mg X.base CX k f fd ps sp)(hr:B7 (k+1) X.A)(hg:Gl X x)(hm:X.mg x=some (.ref C))(hb:Binds X.K fd ps ds)(hd:i8 dvs ds)(hx:V4 CX X E)
  (ha:PA X (e::es) t) (hdb:(x==("__debug__":Str))=false:=by decide) (he:starEach (e::es) X.env=(false,eval e X.env)::starEach es X.env:=by rfl) (hpl:(backTo pos (starEach es X.env)).any (·.1)=false:=by rfl) :
  PE X (.Call (.Name x p) (e::es) [] pos) (b5g C sp dvs E t):=by
 intro pins s σ H Q I h
 refine wpAny_Call_Name_kw (a1l I hg hm ?_ hdb)
 refine PySem.W.callWith_K (h₀:=X.base) I.ok.mod.kin M.kp (k7 (ha pos pins s σ H _ I h) fun us s1 ⟨vs,H1,I1,r,q⟩=>⟨I1.kIn,?_⟩) he hpl
 exact a4K M F hr hb hd hx I1 r q
theorem b4a(M:Mk X.K C f)(F:g7 X.prog X.w X.K X.mg X.base CX k f fd ps sp)(hr:B7 (k+1) X.A)(hg:Gl X x)(hm:X.mg x=some (.ref C))(hb:Binds X.K fd ps ds)(hd:i8 dvs ds)(hx:V4 CX X E)
  (hdb:(x==("__debug__":Str))=false:=by decide):PE X (.Call (.Name x p) [] [] pos) (b5g C sp dvs E a1R):=by
 intro pins s σ H Q I h
 refine wpAny_Call_Name_kw (a1l I hg hm ?_ hdb)
 exact PySem.W.callWith_K0 I.kIn M.kp (a4K (us:=[]) M F hr hb hd hx I .nil h)
end
def PK(X:Cx)(kws:List Keyword)(t:TA):Prop:=
 ∀(pos:Pos) (pins:List (Addr×Obj)) (s:Shared) (σ:St) (H:Hp) (Q:List V→Hp→Prop),Inv X pins σ H s→t σ H Q→wpAny (model X.prog X.w) X.A (evalAll ((backToKw pos (keywordEach kws X.env)).map (·.2))) (AP X pins σ Q) X.xe s
section
variable{X:Cx}{CX:CXT}{k:Nat}{f C:Addr}{fd:FuncData}{ps ks:List Str}{sp:Sp}{E:XK}{x m:Str}{p pos apos kpos:Pos}{e o:Expr}{es:List Expr}{kws:List Keyword}{te ta:TE}{t tk:TA}{nm:Option Str}
theorem b2p:PK X [] a1R:=fun _ _ _ _ H Q I h=>wpAny_evalAll_nil ⟨[],H,I,.nil,h⟩
theorem b3i(ha:PE X e te)(hr:PK X kws t):PK X (⟨nm,e,kpos⟩::kws) (b4g te t):=by
 intro pos pins s σ H Q I h
 show wpAny _ _ (evalAll ((do let v ←eval e X.env;standAt pos;pure v)::(backToKw pos (keywordEach kws X.env)).map (·.2))) _ _ s
 refine wpAny_evalAll_cons (wpAny_bind (k7 (ha pins s σ H _ I h) fun u s1 ⟨x,H1,I1,r1,q1⟩=>wpAny_bind (wpAny_standAt (wpAny_pure ?_))))
 exact k7 (hr pos pins s1 σ H1 _ I1 q1) fun us s2 ⟨xs,H2,I2,r2,q2⟩=>⟨x::xs,H2,I2,.cons r1 r2,q2⟩
variable{g:List Value→List Value→List Value}{gV:List V→List V→List V}
end
structure j3(N P:List Str)(sc:Scope):Prop where
 kind:sc.kind=.function
 co:sc.isCoroutine=false
 gen:sc.isGenerator=false
 nd:N.Nodup
 pre:N.take P.length=P
 par:∀x∈P,sc.names.lookup x=some .local∨sc.names.lookup x=some .cell
 nofree:∀y∈sc.names,y.2≠.free
theorem a3A{kindOf:Str→Option NameKind}{x:Str}:∀{binds:List (Str×Value)} {m:Str→Option Value},(∀v,(x,v)∉binds)→bindL kindOf binds m x=m x
 | [],_,_=>rfl
 | (n,v)::r,m,h=>by
  unfold bindL
  rw[a3A fun w hw=>h w (List.mem_cons_of_mem _ hw)]
  split
  ·have:x≠n:=by rintro rfl;exact h v List.mem_cons_self
   simp[this]
  ·rfl
theorem a2B{kindOf:Str→Option NameKind}{x:Str}:∀{binds:List (Str×Value)} {m:Str→Option Value},(∀v,(x,v)∉binds)→bindC kindOf binds m x=m x
 | [],_,_=>rfl
 | (n,v)::r,m,h=>by
  unfold bindC
  rw[a2B fun w hw=>h w (List.mem_cons_of_mem _ hw)]
  split
  ·rfl
  ·have:x≠n:=by rintro rfl;exact h v List.mem_cons_self
   simp[this]
theorem a9A{kindOf:Str→Option NameKind}{x:Str}{v:Value}:∀{P:List Str} {vs:List Value} {i:Nat} {m:Str→Option Value},P.Nodup→P[i]?=some x→vs[i]?=some v→kindOf x=some .local →
  bindL kindOf (P.zip vs) m x=some v
 | [],_,_,_,_,h,_,_=>by simp at h
 | _::_,[],_,_,_,_,h,_=>by simp at h
 | p::P,w::vs,0,m,nd,h1,h2,hk=>by
  simp at h1 h2;subst h1;subst h2
  show bindL kindOf ((p,w)::P.zip vs) m p=_
  unfold bindL
  rw[a3A fun v hv=>(List.nodup_cons.mp nd).1 (List.of_mem_zip hv).1,if_pos hk]
  simp
 | p::P,w::vs,i+1,m,nd,h1,h2,hk=>by
  show bindL kindOf ((p,w)::P.zip vs) m x=_
  unfold bindL
  exact a9A (i:=i) (List.nodup_cons.mp nd).2 (by simpa using h1) (by simpa using h2) hk
theorem a6A{kindOf:Str→Option NameKind}{x:Str}{v:Value}:∀{P:List Str} {vs:List Value} {i:Nat} {m:Str→Option Value},P.Nodup→P[i]?=some x→vs[i]?=some v→kindOf x≠some .local →
  bindC kindOf (P.zip vs) m x=some v
 | [],_,_,_,_,h,_,_=>by simp at h
 | _::_,[],_,_,_,_,h,_=>by simp at h
 | p::P,w::vs,0,m,nd,h1,h2,hk=>by
  simp at h1 h2;subst h1;subst h2
  show bindC kindOf ((p,w)::P.zip vs) m p=_
  unfold bindC
  rw[a2B fun v hv=>(List.nodup_cons.mp nd).1 (List.of_mem_zip hv).1,if_neg hk]
  simp
 | p::P,w::vs,i+1,m,nd,h1,h2,hk=>by
  show bindC kindOf ((p,w)::P.zip vs) m x=_
  unfold bindC
  exact a6A (i:=i) (List.nodup_cons.mp nd).2 (by simpa using h1) (by simpa using h2) hk
def start(N:List Str)(vs:List V):St:=vs.map some++List.replicate (N.length-vs.length) none
def a9z(CX:CXT)(P:Program)(w:World)(K:PySem.W.Frag)(mg:Str→Option Value)(base:Heap)(N:List Str)(qual:Str)(scope:Scope)(f:Addr)(cd:Value)(A:Around)(outer:List Env)(s:Shared)(H:Hp)(E:XK):Cx where
 prog:=P
 w:=w
 K:=K
 mg:=mg
 base:=base
 A:=A.deeper (envOfC qual scope s.heap.objs.size f cd)
 N:=N
 s₀:=s
 H₀:=H
 env:=envOfC qual scope s.heap.objs.size f cd
 outer:=outer
 stack:=envOfC qual scope s.heap.objs.size f cd::outer
 ex:=[]
 calm:=true
 fn:=fun _=>true
 pn:=[]
 xe:=fun e s'=>wpAny (model P w) (A.deeper (envOfC qual scope s.heap.objs.size f cd)) (leaving (envOfC qual scope s.heap.objs.size f cd) e) (fun _ s''=>CX outer H s E e s'') (fun e' s''=>CX outer H s E e' s'') s'
theorem a8I{sc:Scope}{n:Nat}{x:Str}(h:sc.names.lookup x=some .cell):∃c,(cellsFrom n sc.names []).lookup x=some c:=by
 have q:=PySem.W.cellsFrom_some sc.names n [] (.inl h)
 exact Option.isSome_iff_exists.mp q
theorem a4X{CX:CXT}{P:Program}{w:World}{K:PySem.W.Frag}{mg:Str→Option Value}{base:Heap}{N ps:List Str}{qual:Str}{scope:Scope}{f:Addr}{cd:Value}{A:Around}{outer:List Env}{s s1:Shared}{H:Hp}{E:XK}{us:List Value}{vs:List V}
  (S:j3 N ps scope) (hd:A.handled=none) (e0:a1p P w K mg base A outer s H) (hl:vs.length=ps.length) (r:i8 vs us)
  (x:InCallC s s.heap.objs.size (bindL (envOfC qual scope s.heap.objs.size f cd).kindOf (ps.zip us) fun _=>none) (cellsFrom (s.heap.objs.size+1) scope.names []) (bindC (envOfC qual scope s.heap.objs.size f cd).kindOf (ps.zip us) fun _=>none) s1) :
  Inv (a9z CX P w K mg base N qual scope f cd A outer s H E) [] (start N vs) H s1:=by
 have hpl:ps.length≤N.length:=by have:=congrArg List.length S.pre;rw[List.length_take]at this;omega
 obtain⟨h1,tk,rfl,hk⟩:=x.done
 have noA:∀b:Addr,b∉(a9z CX P w K mg base N qual scope f cd A outer s H E).ex:=fun b z=>absurd (show b∈([]:List Addr) from z) (by simp)
 refine⟨⟨e0.mod,S.kind,rfl,rfl,Nat.le_refl _,fun y z c h1 h2=>?_,fun y hy=>?_,fun y c _ h=>?_,fun _=>hd,Around.frames_deeper e0.frames,.inr ⟨rfl,rfl⟩,fun b z=>absurd z (noA b),e0.bs,e0.bsz,fun b _ _=>noA b,fun b z=>absurd z (noA b),e0.funs,e0.frf⟩,
  rfl,e0.bare,Un.kept hk,⟨_,x.toInCall.ns,fun i y v h1 h2 h3=>?_⟩,fun y c h=>⟨_,x.cell y c h⟩,e0.hok.fresh (Nat.le_refl _),fun y c h=>?_,fun p hp=>absurd (show p∈([]:List (Addr×Obj)) from hp) (by simp),e0.hok.kept hk,?_⟩
 ·exact name_of_addr x.apart (PySem.mem_of_lookup h1) (PySem.mem_of_lookup h2)
 ·have hy:scope.names.lookup y=some .cell∨scope.names.lookup y=some .free:=hy
  rcases hy with hy | hy
  ·exact a8I hy
  ·exact absurd rfl (S.nofree _ (PySem.mem_of_lookup hy))
 ·exact Nat.le_of_lt (x.above y c (PySem.mem_of_lookup h))
 ·have hi:i<vs.length:=by
   unfold start at h2
   by_cases hi:i<vs.length
   ·exact hi
   ·rw[List.getElem?_append_right (by simpa using hi)]at h2
    rw[List.getElem?_replicate]at h2
    split at h2<;>cases h2
  have ha:vs[i]?=some v:=by
   unfold start at h2
   rw[List.getElem?_append_left (by simpa using hi),List.getElem?_map]at h2
   cases e:vs[i]? with
   | none=>rw[e]at h2;cases h2
   | some a=>rw[e]at h2;cases h2;rfl
  obtain⟨u,hu,rv⟩:=r.get ha
  have hp:ps[i]?=some y:=by
   rw[←S.pre,List.getElem?_take_of_lt (by omega)];exact h1
  have ndP:ps.Nodup:=by rw[←S.pre];exact S.nd.sublist (List.take_sublist _ _)
  refine⟨u,rv,?_⟩
  rcases S.par y (List.mem_of_getElem? hp) with k | k
  ·exact .inl ⟨k,a9A ndP hp hu k⟩
  ·obtain⟨c,e⟩:=a8I (n:=s.heap.objs.size+1) k
   refine .inr ⟨.inl k,c,e,?_⟩
   have q:=x.cell y c e
   rw[a6A ndP hp hu (by show scope.names.lookup y≠_;rw[k];decide)] at q
   exact q
 ·exact e0.hok.fresh (Nat.le_of_lt (x.above y c (PySem.mem_of_lookup h)))
 ·unfold start
  show _=N.length
  rw[List.length_append,List.length_map,List.length_replicate]
  omega
theorem b9p{CX:CXT}{P:Program}{w:World}{K:PySem.W.Frag}{mg:Str→Option Value}{base:Heap}{k:Nat}{f:Addr}{name qual:Str}{params:Arguments}{body:List Stmt}{scope:Scope}{dV kV doc pm cdv ct oc:Value}{an od:Option Addr}
  {osl:Array (Option Value)} {N ps:List Str} {sp:Sp} (lk:K.lookup f=some ⟨oc,od,.func (PySem.W.fnOf name qual params body scope dV kV doc pm an cdv ct),osl⟩) (hcd:PySem.W.codeIn K cdv qual=true) (S:j3 N ps scope)
  (len:∀vs H Q E,sp vs H Q E→vs.length=ps.length)
  (hbody:∀(A:Around) (outer:List Env) (s:Shared) (H:Hp) (vs:List V) (Q:VK) (E:XK),B7 k (A.deeper (envOfC qual scope s.heap.objs.size f cdv))→sp vs H Q E →
   ∃t,PSs (a9z CX P w K mg base N qual scope f cdv A outer s H E) body t∧t { nx:=fun _ H'=>Q .non H',rt:=Q } (start N vs) H) :
  g7 P w K mg base CX (k+1) f (PySem.W.fnOf name qual params body scope dV kV doc pm an cdv ct) ps sp:=by
 refine⟨len,fun A outer s H args us vs Q E hr e0 hb r hsp=>?_⟩
 have hl:=len _ _ _ _ hsp
 have KX:K.In s.heap:=e0.mod.kin.keeps fun b o e=>(e0.bs b o e).1
 have lim:s.heap.NoLimit:=e0.mod.nolimit.keeps fun b o e=>(e0.bs b o e).1
 have hkind:∀y∈ps.zip us,scope.names.lookup y.1=some .local∨(scope.names.lookup y.1=some .cell∧((cellsFrom (s.heap.objs.size+1) scope.names []).lookup y.1).isSome=true):=fun⟨n,v⟩ hy=>by
  rcases S.par n (List.of_mem_zip hy).1 with q | q
  ·exact .inl q
  ·exact .inr ⟨q,PySem.W.cellsFrom_some _ _ _ (.inl q)⟩
 refine codeAny_call_function hr.depth (KX _ _ lk) rfl S.co S.gen rfl (PySem.W.codeRec_of KX hcd) (hb _ _ _ _ ?_)
 refine wpAny_newFunctionEnv_cells S.kind hkind fun env he s1 x=>?_
 subst he
 refine⟨lim.keeps x.toInCall.keep,codeAny_func ?_⟩
 obtain⟨t,ht,hq⟩:=hbody A outer s H vs Q E (hr.deeper _) hsp
 have I:Inv (a9z CX P w K mg base N qual scope f cdv A outer s H E) [] (start N vs) H s1:=a4X S hr.hd e0 hl r x
 refine wpAny_mono (ht [] s1 (start N vs) H _ I hq) (fun fl s' hs=>?_) fun e s' hs=>hs
 have fin:∀{σ':St} {H':Hp} {v:V} {u:Value},Inv (a9z CX P w K mg base N qual scope f cdv A outer s H E) [] σ' H' s'→RelV v u→Q v H'→CE outer P w H s Q u s':=
  fun {σ' H' v u} J rv q=>⟨v,H',J.os,J.bare,J.base,J.hok,rv,q⟩
 cases fl with
 | ret u=>
  obtain⟨v,σ',H',J,rv,q⟩:=hs
  exact fin J rv q
 | next=>
  obtain⟨σ',H',J,q⟩:=hs
  exact fin (v:=V.non) (u:=Value.none) J rfl q
 | brk=>
  obtain⟨_,_,_,q⟩:=hs
  exact False.elim q
 | cont=>
  obtain⟨_,_,_,q⟩:=hs
  exact False.elim q
end L2
namespace L2
open PySem PySem.Spec PyProof.Rows
section
variable{X:Cx}{x:Str}{p pos:Pos}{e:Expr}{es:List Expr}{t:TA}{id T:String}{r:List V→Hp→VK→Prop}
def tCB(r:List V→Hp→VK→Prop)(t:TA):TE:=fun σ H Q=>t σ H fun vs H1=>r vs H1 Q
theorem g9(hc:L6 X (.builtin id) r)(hg:Gl X x)(hm:X.mg x=none)(hv:bootBuiltins x=some (.builtin id))(ha:PA X (e::es) t)(hn:x≠"__name__":=by decide)(hdb:(x==("__debug__":Str))=false:=by decide)
  (he:starEach (e::es) X.env=(false,eval e X.env)::starEach es X.env:=by rfl) (hpl:(backTo pos (starEach es X.env)).any (·.1)=false:=by rfl):PE X (.Call (.Name x p) (e::es) [] pos) (tCB r t):=by
 intro pins s σ H Q I h
 refine wpAny_Call_Name_kw (Z3 I hg hm hv ?_ hn hdb)
 exact PyProof.Rows.callWith_builtin1 (k7 (ha pos pins s σ H _ I h) fun us s1 ⟨vs,H1,I1,r1,q1⟩=>hc pins s1 σ H1 vs us Q I1 r1 q1) he hpl
theorem L5(hc:L6 X (.type T) r)(hg:Gl X x)(hm:X.mg x=none)(hv:bootBuiltins x=some (.type T))(ha:PA X (e::es) t)(hn:x≠"__name__":=by decide)(hdb:(x==("__debug__":Str))=false:=by decide)
  (he:starEach (e::es) X.env=(false,eval e X.env)::starEach es X.env:=by rfl) (hpl:(backTo pos (starEach es X.env)).any (·.1)=false:=by rfl):PE X (.Call (.Name x p) (e::es) [] pos) (tCB r t):=by
 intro pins s σ H Q I h
 refine wpAny_Call_Name_kw (Z3 I hg hm hv ?_ hn hdb)
 exact PyProof.Rows.callWith_type1 (k7 (ha pos pins s σ H _ I h) fun us s1 ⟨vs,H1,I1,r1,q1⟩=>hc pins s1 σ H1 vs us Q I1 r1 q1) he hpl
end
end L2
namespace HT
open PySem PyProof.Rows
section
open PySem.SeqAt
open PySem.AutoSeq1 (wpAny_loadPart')
open PySem.MeetsSeq PySem.MeetsSeq2 PySem.MeetsSeq3
end
section
variable{prog:Program}{w:World}{A:Around}{E:Value→Shared→Prop}{s:Shared}
theorem b0i{t b:Addr}{vs ws:List Value}{Q:Value→Shared→Prop}(ht:IsTup s.heap t vs.toArray)(hb:IsTup s.heap b ws.toArray)(hv:vs≠[])
  (h1:ws=[]→Q (.ref t) s) (h2:ws≠[]→Q (.ref s.heap.objs.size) { s with heap:=s.heap.push { cls:=.type "tuple",data:=.seq (vs++ws).toArray } })
  (hsz:vs.length+ws.length≤sizeLine):wpAny (model prog w) A (binaryOp .Add (.ref t) (.ref b)) Q E s:=by
 obtain⟨⟨cls,dd,data,sl⟩,ho,hc,n,hd⟩:=id ht
 obtain⟨⟨cls2,dd2,data2,sl2⟩,ho2,hc2,n2,hd2⟩:=id hb
 simp only at hc hd hc2 hd2
 subst hc hd hc2 hd2
 have e:vs.toArray++ws.toArray=(vs++ws).toArray:=by simp
 by_cases hw:ws=[]
 ·exact concat_meets ⟨_,ho,rfl⟩ ⟨_,ho2,rfl⟩ noFill_tuple_add seq_tuple_add PySem.F.slot_tuple_add PySem.F.entry_tuple_add (PySem.F.args_tuple_add_2 _ _)
   (tuple_addW1 t b vs.toArray ws.toArray n n2 dd dd2 sl sl2 (by simpa using hv) (by simp[hw])) ⟨ho,ho2,h1 hw⟩
 ·refine concat_meets ⟨_,ho,rfl⟩ ⟨_,ho2,rfl⟩ noFill_tuple_add seq_tuple_add PySem.F.slot_tuple_add PySem.F.entry_tuple_add (PySem.F.args_tuple_add_2 _ _)
   (tuple_addW2 t b vs.toArray ws.toArray n n2 dd dd2 sl sl2 (by simpa using hv) (by simpa using hw) (by rw[List.size_toArray,List.size_toArray];exact hsz)) ⟨ho,ho2,?_⟩
  rw[e]
  exact h2 hw
def u6(n d:Nat):Option Int→Nat
 | none=>d
 | some v=>if v<0 then(v+(n:Int)).toNat else min v.toNat n
theorem a5G(n d:Nat):u6 n d none=d:=rfl
theorem a5x(n d k:Nat):u6 n d (some (k:Int))=min k n:=by
 show(if (k:Int)<0 then((k:Int)+(n:Int)).toNat else min (k:Int).toNat n)=min k n
 rw[if_neg (by omega),Int.toNat_natCast]
theorem b1o(n d:Nat)(hd:d≤n)(o:Option Int):u6 n d o≤n:=by
 cases o with
 | none=>exact hd
 | some v=>
  show(if v<0 then(v+(n:Int)).toNat else min v.toNat n)≤n
  by_cases hv:v<0
  ·rw[if_pos hv];omega
  ·rw[if_neg hv];exact Nat.min_le_right _ _
theorem a9N(v:Int)(n d:Nat):(if v<0 then max (v+(n:Int)) 0 else min v (n:Int))=((u6 n d (some v):Nat):Int):=by
 show(if v<0 then max (v+(n:Int)) 0 else min v (n:Int))=(((if v<0 then(v+(n:Int)).toNat else min v.toNat n):Nat):Int)
 by_cases hv:v<0
 ·simp only[if_pos hv];omega
 ·simp only[if_neg hv];omega
theorem a7R(lo hi:Option Int)(n:Nat):Builtin.Slice.sliceAdjust lo hi 1 (n:Int)=(((u6 n 0 lo:Nat):Int),((u6 n n hi:Nat):Int)):=by
 have h1:¬((1:Int)<0):=by omega
 unfold Builtin.Slice.sliceAdjust
 simp only[h1,if_false]
 refine Prod.ext ?_ ?_
 ·cases lo with
  | none=>rfl
  | some v=>exact a9N v n 0
 ·cases hi with
  | none=>rfl
  | some v=>exact a9N v n n
theorem a1T(i j:Nat):Builtin.Slice.slicePlaces (i:Int) (j:Int) 1=j-i:=by
 unfold Builtin.Slice.slicePlaces
 have h1:(1:Int)>0:=by omega
 simp only[h1,if_true,Int.ediv_one]
 split<;>omega
theorem a7s{v:Value}{o:Option Int}{Q:Option Int→Shared→Prop}(p:IsPart v o)(h:Q o s):wpAny (model prog w) A (Builtin.Slice.slicePartIndex v) Q E s:=by
 cases p with
 | none=>exact slicePart_none h
 | int i t=>exact slicePart_int h
theorem a8o{sl:Addr}{vl vu:Value}{lo hi:Option Int}{n:Nat}{Q:Int×Int×Nat→Shared→Prop}(hs:s.heap.IsSliceOf sl vl vu .none)(pl:IsPart vl lo)(pu:IsPart vu hi)
  (h:Q (((u6 n 0 lo:Nat):Int),1,u6 n n hi-u6 n 0 lo) s):wpAny (model prog w) A (Builtin.Slice.sliceApplied (.ref sl) (pure (n:Int))) Q E s:=by
 obtain⟨os,hos,hcs,hds⟩:=id hs
 unfold Builtin.Slice.sliceApplied Builtin.Slice.sliceFields
 refine wpAny_bind (wpAny_bind (wpAny_field hos hds (x:=vl) rfl (wpAny_bind (wpAny_field hos hds (x:=vu) rfl (wpAny_bind (wpAny_field hos hds (x:=.none) rfl (wpAny_pure ?_)))))))
 refine wpAny_bind (slicePart_none ?_)
 show wpAny _ _ (if ((1:Int)==0)=true then _ else _) _ _ s
 rw[if_neg (by decide)]
 refine wpAny_bind (a7s pl (wpAny_bind (a7s pu (wpAny_bind (wpAny_pure ?_)))))
 show wpAny _ _ (match Builtin.Slice.sliceAdjust lo hi 1 (n:Int) with | (lo,hi)=>pure (lo,(1:Int),Builtin.Slice.slicePlaces lo hi 1)) _ _ s
 rw[a7R lo hi n]
 show wpAny _ _ (pure (((u6 n 0 lo:Nat):Int),(1:Int),Builtin.Slice.slicePlaces ((u6 n 0 lo:Nat):Int) ((u6 n n hi:Nat):Int) 1)) _ _ s
 rw[a1T]
 exact wpAny_pure h
theorem b8e(xs:Array Value)(i k:Nat):((List.range k).filterMap fun(m:Nat)=>xs[((i:Int)+(m:Int)*1).toNat]?).toArray=((xs.toList.drop i).take k).toArray:=by
 have e:(fun(m:Nat)=>xs[((i:Int)+(m:Int)*1).toNat]?)=fun m=>xs[i+m]?:=by
  funext m
  have:((i:Int)+(m:Int)*1).toNat=i+m:=by omega
  rw[this]
 rw[e]
 have:=pick_run xs i k
 rw[List.filterMap_map]at this
 have e2:((fun x=>xs[x]?)∘fun x=>i+x)=fun m=>xs[i+m]?:=rfl
 rw[e2]at this
 rw[this]
theorem a6m{t sl:Addr}{items:Array Value}{vl vu:Value}{lo hi:Option Int}{Q:Value→Shared→Prop}(ht:IsTup s.heap t items)(hs:s.heap.IsSliceOf sl vl vu .none)(pl:IsPart vl lo)(pu:IsPart vu hi)
  (hw:¬(u6 items.size 0 lo=0∧u6 items.size items.size hi=items.size))
  (h:Q (.ref s.heap.objs.size) { s with heap:=s.heap.push { cls:=.type "tuple",data:=.seq ((items.toList.drop (u6 items.size 0 lo)).take (u6 items.size items.size hi-u6 items.size 0 lo)).toArray } })
  (hsz:items.size≤sizeLine):wpAny (model prog w) A (getItem (.ref t) (.ref sl)) Q E s:=by
 have htake:sizeOk (.seq ((items.toList.drop (u6 items.size 0 lo)).take (u6 items.size items.size hi-u6 items.size 0 lo)).toArray):=by
  show((items.toList.drop (u6 items.size 0 lo)).take (u6 items.size items.size hi-u6 items.size 0 lo)).toArray.size≤sizeLine
  rw[List.size_toArray,List.length_take,List.length_drop,Array.length_toList]
  omega
 have hj:u6 items.size items.size hi≤items.size:=b1o _ _ (Nat.le_refl _) hi
 obtain⟨os,hos,hcs,hds⟩:=id hs
 have hTs:s.TypeIs (.ref sl) "slice":=⟨os,hos,hcs⟩
 unfold getItem
 try with_reducible refine wpAny_holding ?_
 first | refine wpAny_bind (wpAny_pure ?_) | skip
 refine wpAny_bind (wpAny_sequenceKey ht.typeIs (by decide) ?_)
 refine wpAny_bind (wpAny_callSpecial?_slot (name:=Str.ofString "__getitem__") ht.typeIs PyProof.Rows.slot_tuple_getitem
  (wpAny_call_entry PyProof.Rows.slot_tuple_getitem ht.typeIs entry_tuple_getitem ?_ (args_tuple_getitem _ _)))
 show wpAny _ _ (Builtin.Tuple.tupleItemsOf (.ref t) >>= _) _ _ s
 refine wpAny_bind (tupleItemsOf_ ht ?_)
 refine wpAny_bind (wpAny_typeOf hTs ?_)
 rw[if_pos (by decide)]
 refine wpAny_bind (a8o hs pl pu ?_)
 have hno:¬((((u6 items.size 0 lo:Nat):Int)==0&&(1:Int)==1&&(u6 items.size items.size hi-u6 items.size 0 lo)==items.size)=true):=by
  intro q
  rw[Bool.and_eq_true,Bool.and_eq_true]at q
  have q1:((u6 items.size 0 lo:Nat):Int)=0:=eq_of_beq q.1.1
  have q2:u6 items.size items.size hi-u6 items.size 0 lo=items.size:=eq_of_beq q.2
  exact hw ⟨by omega,by omega⟩
 show wpAny _ _ (if (((u6 items.size 0 lo:Nat):Int)==0&&(1:Int)==1&&(u6 items.size items.size hi-u6 items.size 0 lo)==items.size)=true then _ else _) _ _ s
 rw[if_neg hno,b8e]
 first
  | exact wpAny_bind (m:=Builtin.Tuple.tupleExact _) (wpAny_newObj_type (wpAny_pure ⟨_,rfl,wpAny_pure h⟩) htake)
  | exact wpAny_bind (m:=Builtin.Tuple.tupleExact _) (wpAny_newObj_type (wpAny_bind (wpAny_pure (wpAny_pure ⟨_,rfl,wpAny_pure h⟩))) htake)
  | exact wpAny_bind (wpAny_bind (m:=Builtin.Tuple.tupleExact _) (wpAny_newObj_type (wpAny_pure (wpAny_pure ⟨_,rfl,wpAny_pure h⟩)) htake))
  | exact wpAny_bind (wpAny_bind (m:=Builtin.Tuple.tupleExact _) (wpAny_newObj_type (wpAny_pure ⟨_,rfl,wpAny_pure h⟩) htake))
end
end HT
namespace L2
open PySem PySem.Spec PyProof.Rows
abbrev TO:=St→Hp→(Option Int→Hp→Prop)→Prop
def PO(X:Cx)(e:Option Expr)(t:TO):Prop:=
 ∀(pins:List (Addr×Obj)) (s:Shared) (σ:St) (H:Hp) (Q:Option Int→Hp→Prop),Inv X pins σ H s→t σ H Q →
  wpAny (model X.prog X.w) X.A (evalPart e X.env) (fun u s'=>∃o H',Inv X pins σ H' s'∧IsPart u o∧Q o H') X.xe s
def b4j:TO:=fun _ H Q=>Q none H
def b8q(t:TE):TO:=fun σ H Q=>t σ H fun x H1=>∃i,x=.int i∧Q (some i) H1
section
variable{X:Cx}{e:Expr}{te:TE}{lo hi:Option Expr}{tl th:TO}{pos p2:Pos}
theorem N9:PO X none b4j:=by
 intro pins s σ H Q I h
 rw[evalPart_none]
 exact wpAny_pure ⟨none,H,I,.none,h⟩
theorem O4(h:PE X e te):PO X (some e) (b8q te):=by
 intro pins s σ H Q I hw
 rw[evalPart_some]
 refine k7 (h pins s σ H _ I hw) fun u s1 ⟨x,H1,I1,r1,q1⟩=>?_
 obtain⟨i,rfl,q⟩:=q1
 obtain⟨t,rfl⟩:=r1
 exact⟨some i,H1,I1,.int i t,q⟩
def SlR(X:Cx)(r:V→Option Int→Option Int→Hp→VK→Prop):Prop:=
 ∀(pins:List (Addr×Obj)) (s:Shared) (σ:St) (H:Hp) (x:V) (v vl vu:Value) (lo hi:Option Int) (sl:Addr) (Q:VK),Inv X pins σ H s→RelV x v→s.heap.IsSliceOf sl vl vu .none→IsPart vl lo→IsPart vu hi→r x lo hi H Q →
  ∃T id,typeLookup (.type T) "__getitem__"=pure (some (.builtin id))∧s.TypeIs v T∧wpAny (model X.prog X.w) X.A (getItem v (.ref sl)) (EP X pins σ Q) X.xe s
def tSl(r:V→Option Int→Option Int→Hp→VK→Prop)(te:TE)(tl th:TO):TE:=fun σ H Q=>te σ H fun x H1=>tl σ H1 fun l H2=>th σ H2 fun u H3=>r x l u H3 Q
theorem L8{r:V→Option Int→Option Int→Hp→VK→Prop}(hr:SlR X r)(he:PE X e te)(hl:PO X lo tl)(hu:PO X hi th):PE X (.Subscript e (.Slice lo hi none p2) pos) (tSl r te tl th):=by
 intro pins s σ H Q I h
 refine Subscript_ (k7 (he pins s σ H _ I h) fun v s1 ⟨x,H1,I1,r1,q1⟩=>?_)
 refine wpAny_Slice (k7 (hl pins s1 σ H1 _ I1 q1) fun vl s2 ⟨l,H2,I2,pl,q2⟩=>k7 (hu pins s2 σ H2 _ I2 q2) fun vu s3 ⟨u,H3,I3,pu,q3⟩=>?_)
 rw[evalPart_none]
 refine wpAny_pure ?_
 have I4:Inv X pins σ H3 { s3 with heap:=s3.heap.push { cls:=.type "slice",data:=.fields #[vl,vu,.none] } }:=I3.kept (t':=s3.toks) fun b ob q=>Heap.get?_push_of_some _ q
 obtain⟨T,id,hT,ht,hg⟩:=hr pins { s3 with heap:=s3.heap.push { cls:=.type "slice",data:=.fields #[vl,vu,.none] } } σ H3 x v vl vu l u s3.heap.objs.size Q I4 r1 (Heap.IsSliceOf.new ..) pl pu q3
 show wpAny (model X.prog X.w) X.A (subscriptTail e (.Slice lo hi none p2) v (.ref s3.heap.objs.size)) (EP X pins σ Q) X.xe { s3 with heap:=s3.heap.push { cls:=.type "slice",data:=.fields #[vl,vu,.none] } }
 exact tail_any (ops:=[.ref s3.heap.objs.size,v]) ht hT hg (by with_unfolding_all rfl)
def R5(xs:List V)(lo hi:Option Int):List V:=(xs.drop (HT.u6 xs.length 0 lo)).take (HT.u6 xs.length xs.length hi-HT.u6 xs.length 0 lo)
theorem a5n(xs:List V)(lo hi:Option Int):(R5 xs lo hi).length≤xs.length:=by
 unfold R5
 rw[List.length_take,List.length_drop]
 omega
def b9u(K:PySem.W.Frag):V→Option Int→Option Int→Hp→VK→Prop:=fun x lo hi H Q=>∃a xs,x=.ref a∧f7 K H a xs ∧
 ¬(HT.u6 xs.length 0 lo=0∧HT.u6 xs.length xs.length hi=xs.length)∧∀p,H p=none→Q (.ref p) (upd H p (.tup (R5 xs lo hi)))
theorem b2n:SlR X (b9u X.K):=by
 intro pins s σ H x v vl vu lo hi sl Q I rx hs pl pu h
 obtain⟨a,xs,rfl,hx,hw,q⟩:=h
 cases rx
 obtain⟨its,r,ht,hz⟩:=I.tuple hx
 have hlen:its.toArray.size=xs.length:=by rw[List.size_toArray];exact r.length.symm
 refine⟨"tuple",_,PyProof.Rows.slot_tuple_getitem.lookup,ht.typeIs,?_⟩
 refine HT.a6m ht hs pl pu (by rw[hlen];exact hw) ?_ (by rw[hlen];exact hz)
 rw[hlen]
 refine⟨.ref s.heap.objs.size,_,I.laid (t':=s.toks) (o:=.tup (R5 xs lo hi)) (fun b ob q=>Heap.get?_push_of_some _ q) (Nat.le_refl _) ?_,rfl,q _ (I.hok.fresh (Nat.le_refl _))⟩
 exact⟨Nat.le_trans (a5n xs lo hi) hz,_,(r.drop (HT.u6 xs.length 0 lo)).take (HT.u6 xs.length xs.length hi-HT.u6 xs.length 0 lo),IsTup.new _ _⟩
def b1q(K:PySem.W.Frag):R2:=fun x y H Q=>∃a b xs ys,x=.ref a∧y=.ref b∧f7 K H a xs∧f7 K H b ys∧xs≠[]∧xs.length+ys.length≤sizeLine ∧
 (ys=[]→Q (.ref a) H)∧(ys≠[]→∀p,H p=none→Q (.ref p) (upd H p (.tup (xs++ys))))
theorem i8.nil_iff{xs:List V}{us:List Value}(r:i8 xs us):us=[]↔xs=[]:=by
 cases r with
 | nil=>simp
 | cons _ _=>simp
theorem a8N:B8 X (binaryOp .Add) (b1q X.K):=by
 intro pins s σ H x y v u Q I rx ry h
 obtain⟨a,b,xs,ys,rfl,rfl,ha,hb,hx,hz,q1,q2⟩:=h
 cases rx
 cases ry
 obtain⟨its,r1,p1,_⟩:=I.tuple ha
 obtain⟨its2,r2,p2,_⟩:=I.tuple hb
 refine HT.b0i p1 p2 (fun z=>hx (r1.nil_iff.mp z)) (fun z=>⟨.ref a,H,I,rfl,q1 (r2.nil_iff.mp z)⟩) (fun z=>?_) (by rw[←r1.length,←r2.length];exact hz)
 refine⟨.ref s.heap.objs.size,_,I.laid (t':=s.toks) (o:=.tup (xs++ys)) (fun b ob q=>Heap.get?_push_of_some _ q) (Nat.le_refl _) ?_,rfl,q2 (fun w=>z (r2.nil_iff.mpr w)) _ (I.hok.fresh (Nat.le_refl _))⟩
 exact⟨by rw[List.length_append];exact hz,_,r1.append r2,IsTup.new _ _⟩
end
end L2
namespace L2
open PySem PySem.Spec PyProof.Rows
def ixN(n:Nat)(i:Int):Option Nat:=if 0≤i then(if i<n then some i.toNat else none) else if -(n:Int)≤i then some (i+n).toNat else none
def C6{α:Type}(xs:List α)(i:Int):Option α:=(ixN xs.length i).bind fun j=>xs[j]?
theorem b2l{n:Nat}{i:Int}{j:Nat}(h:ixN n i=some j):seqIndex? i n=some j∧j<n∧-(n:Int)≤i∧i<n:=by
 unfold ixN at h
 by_cases h0:0≤i
 ·rw[if_pos h0]at h
  by_cases h1:i<n
  ·rw[if_pos h1]at h
   have e:i.toNat=j:=Option.some.inj h
   exact⟨by rw[seqIndex_of h0 h1,e],by omega,by omega,h1⟩
  ·rw[if_neg h1]at h;cases h
 ·rw[if_neg h0]at h
  by_cases h1:-(n:Int)≤i
  ·rw[if_pos h1]at h
   have e:(i+n).toNat=j:=Option.some.inj h
   exact⟨by rw[seqIndex_neg (by omega) h1,e],by omega,h1,by omega⟩
  ·rw[if_neg h1]at h;cases h
theorem a0N{α:Type}{xs:List α}{i:Int}{v:α}(h:C6 xs i=some v):∃j,seqIndex? i xs.length=some j∧xs[j]?=some v∧j<xs.length∧-(xs.length:Int)≤i∧i<xs.length:=by
 unfold C6 at h
 cases e:ixN xs.length i with
 | none=>rw[e]at h;cases h
 | some j=>
  rw[e]at h
  obtain⟨h1,h2,h3,h4⟩:=b2l e
  exact⟨j,h1,h,h2,h3,h4⟩
theorem j0{α:Type}{xs:List α}{j:Nat}{v:α}(h:xs[j]?=some v):C6 xs (j:Int)=some v:=by
 have hj:j<xs.length:=(List.getElem?_eq_some_iff.mp h).1
 have e:ixN xs.length (j:Int)=some j:=by
  unfold ixN
  rw[if_pos (by omega),if_pos (by omega)];simp
 unfold C6;rw[e];exact h
def b5k(b:Expr):Prop:=∀o i,subscripted b false o i=operate [o,i] (getItem o i)
def IxR(X:Cx)(r:R2):Prop:=
 ∀(value slice:Expr) (pins:List (Addr×Obj)) (s:Shared) (σ:St) (H:Hp) (x y:V) (v u:Value) (Q:VK),Inv X pins σ H s→RelV x v→RelV y u→r x y H Q →
  subscripted slice false v u=operate [v,u] (getItem v u)→wpAny (model X.prog X.w) X.A (subscriptTail value slice v u) (EP X pins σ Q) X.xe s
def MtR(X:Cx)(id:String)(r:V→List V→Hp→VK→Prop):Prop:=
 ∀(pins:List (Addr×Obj)) (s:Shared) (σ:St) (H:Hp) (x:V) (xs:List V) (v:Value) (us:List Value) (Q:VK),Inv X pins σ H s→RelV x v→i8 xs us→r x xs H Q →
  wpAny (model X.prog X.w) X.A (call (.builtin id) (v::us)) (EP X pins σ Q) X.xe s
section
variable{X:Cx}{a b:Expr}{ta tb:TE}{pos:Pos}
theorem d7{r:R2}(hr:IxR X r)(ha:PE X a ta)(hb:PE X b tb)(hs:b5k b):PE X (.Subscript a b pos) (tOp r ta tb):=by
 intro pins s σ H Q I h
 exact Subscript_ (b3f ha hb I h fun v u s2 x y H2 I2 rx ry q=>hr a b pins s2 σ H2 x y v u Q I2 rx ry q (hs _ _))
inductive b8u(K:PySem.W.Frag)(x y:V)(H:Hp)(Q:VK):Prop
 | mk (p:Addr) (xs:List V) (i:Int) (v:V) (e1:x=.ref p) (e2:y=.int i) (s:d9 K H p xs) (a:C6 xs i=some v) (q:Q v H)
inductive b7u(K:PySem.W.Frag)(x y:V)(H:Hp)(Q:VK):Prop
 | mk (p:Addr) (xs:List V) (i:Int) (v:V) (e1:x=.ref p) (e2:y=.int i) (s:f7 K H p xs) (a:C6 xs i=some v) (q:Q v H)
def b5t(K:PySem.W.Frag):R2:=b8u K
def b9m(K:PySem.W.Frag):R2:=b7u K
theorem j6:IxR X (b5t X.K):=by
 intro value slice pins s σ H x y v u Q I rx ry h hs
 obtain⟨p,xs,i,z,rfl,rfl,hq,he,q⟩:=h
 cases rx
 obtain⟨t,rfl⟩:=ry
 obtain⟨its,r,pl,hz⟩:=I.list hq
 obtain⟨j,h1,h2,h3,h4,h5⟩:=a0N he
 obtain⟨w,ew,rw'⟩:=r.get h2
 have hl:=r.length
 have hn:=a6J
 have fin:EP X pins σ Q w s:=⟨z,H,I,rw',q⟩
 by_cases h0:0≤i
 ·have hj:i.toNat=j:=by
   rw[seqIndex_of h0 h5]at h1
   exact Option.some.inj h1
  exact item_listR pl.isList h0 (by omega) (by rw[hj];simpa using ew) fin hs
 ·have hj:(i+(its.toArray.size:Int)).toNat=j:=by
   rw[seqIndex_neg (by omega) h4]at h1
   rw[List.size_toArray,←hl]
   exact Option.some.inj h1
  exact subscriptTail_builtinR (x:=w) pl.isList.typeIs slot_list_getitem.lookup
   (wpAny_getItem_list_neg (Q:=fun r s'=>r=w∧EP X pins σ Q r s') pl.isList (by omega) (by rw[List.size_toArray]<;>omega) (by omega) (by rw[hj];simpa using ew) ⟨rfl,fin⟩) hs
theorem e7:IxR X (b9m X.K):=by
 intro value slice pins s σ H x y v u Q I rx ry h hs
 obtain⟨p,xs,i,z,rfl,rfl,hq,he,q⟩:=h
 cases rx
 obtain⟨t,rfl⟩:=ry
 obtain⟨its,r,pl,hz⟩:=I.tuple hq
 obtain⟨j,h1,h2,h3,h4,h5⟩:=a0N he
 obtain⟨w,ew,rw'⟩:=r.get h2
 have hl:=r.length
 have hn:=a6J
 have fin:EP X pins σ Q w s:=⟨z,H,I,rw',q⟩
 exact subscriptTail_builtinR (x:=w) pl.typeIs slot_tuple_getitem.lookup
  (getItem_tuple (j:=j) (Q:=fun r s'=>r=w∧EP X pins σ Q r s') pl (by omega) (by omega) (by rw[List.size_toArray,←hl];exact h1) (by simpa using ew) ⟨rfl,fin⟩) hs
theorem a5I(lo hi:Option Int)(n:Nat):(sliceBounds lo hi none n).1=((HT.u6 n 0 lo:Nat):Int)∧(sliceBounds lo hi none n).2.1=((HT.u6 n n hi:Nat):Int)∧(sliceBounds lo hi none n).2.2=1:=by
 refine⟨?_,?_,rfl⟩
 ·cases lo with
  | none=>simp[sliceBounds,HT.u6]
  | some i=>
   simp only[sliceBounds,HT.u6,Option.getD_none,show(1:Int)>0 by decide,if_true]
   by_cases h:i<0
   ·simp only[h,if_true]<;>omega
   ·simp only[h,if_false]<;>omega
 ·cases hi with
  | none=>simp[sliceBounds,HT.u6]
  | some i=>
   simp only[sliceBounds,HT.u6,Option.getD_none,show(1:Int)>0 by decide,if_true]
   by_cases h:i<0
   ·simp only[h,if_true]<;>omega
   ·simp only[h,if_false]<;>omega
theorem a2C(its:List Value)(lo hi:Option Int):slicePick its.toArray lo hi none=((its.drop (HT.u6 its.length 0 lo)).take (HT.u6 its.length its.length hi-HT.u6 its.length 0 lo)).toArray:=by
 obtain⟨h1,h2,h3⟩:=a5I lo hi its.toArray.size
 unfold slicePick
 rw[h1,h2,h3]
 simp only[sliceRange_one,pick_run,List.size_toArray]<;>rfl
def b5s(K:PySem.W.Frag):V→Option Int→Option Int→Hp→VK→Prop:=fun x lo hi H Q=>∃a xs,x=.ref a∧d9 K H a xs∧∀p,H p=none→Q (.ref p) (upd H p (.lst (R5 xs lo hi)))
theorem R0:SlR X (b5s X.K):=by
 intro pins s σ H x v vl vu lo hi sl Q I rx hs pl pu h
 obtain⟨a,xs,rfl,hx,q⟩:=h
 cases rx
 obtain⟨its,r,ht,hz⟩:=I.list hx
 have hlen:=r.length
 refine⟨"list",_,slot_list_getitem.lookup,ht.isList.typeIs,?_⟩
 refine wpAny_getItem_list_slice ht.isList hs pl pu .none (by simp) ?_ (by rw[List.size_toArray]<;>omega)
 rw[a2C,←hlen]
 refine⟨.ref s.heap.objs.size,_,I.laid (t':=s.toks) (o:=.lst (R5 xs lo hi)) (fun b ob q=>Heap.get?_push_of_some _ q) (Nat.le_refl _) ?_,rfl,q _ (I.hok.fresh (Nat.le_refl _))⟩
 exact⟨Nat.le_trans (a5n xs lo hi) hz,_,0,(r.drop (HT.u6 xs.length 0 lo)).take (HT.u6 xs.length xs.length hi-HT.u6 xs.length 0 lo),Heap.get?_push_size _ rfl⟩
def V2:V→Bool
 | .non=>true
 | .bl _=>true
 | .int _=>true
 | .str _=>true
 | _=>false
def eqV:V→V→Bool
 | .non,.non=>true
 | .bl a,.bl b=>a==b
 | .bl a,.int b=>(if a then 1 else 0)==b
 | .int a,.bl b=>a==(if b then 1 else 0)
 | .int a,.int b=>a==b
 | .str a,.str b=>a==b
 | _,_=>false
theorem b3p{A:Around}{s:Shared}{y x:V}{u v:Value}(ry:RelV y u)(rx:RelV x v)(fy:V2 y=true)(fx:V2 x=true):SeqAt.EqAt A s u v (eqV y x):=by
 cases y with
 | non=>
  cases ry
  cases x with
  | non=>cases rx;exact SeqAt.EqAt.same _
  | bl b=>cases rx;exact SeqAt.EqAt.none_bool b
  | int b=>obtain⟨t,rfl⟩:=rx;exact SeqAt.EqAt.none_int b t
  | str b=>obtain⟨t,rfl⟩:=rx;exact SeqAt.EqAt.none_str b t
  | _=>exact absurd (show false=true from fx) Bool.false_ne_true
 | bl a=>
  cases ry
  cases x with
  | non=>cases rx;exact SeqAt.EqAt.bool_none a
  | bl b=>cases rx;exact SeqAt.EqAt.bool_bool a b
  | int b=>obtain⟨t,rfl⟩:=rx;exact SeqAt.EqAt.bool_int a b t
  | str b=>obtain⟨t,rfl⟩:=rx;exact SeqAt.EqAt.bool_str a b t
  | _=>exact absurd (show false=true from fx) Bool.false_ne_true
 | int a=>
  obtain⟨t',rfl⟩:=ry
  cases x with
  | non=>cases rx;exact SeqAt.EqAt.int_none a t'
  | bl b=>cases rx;exact SeqAt.EqAt.int_bool a t' b
  | int b=>obtain⟨t,rfl⟩:=rx;exact SeqAt.EqAt.int_int a t' b t
  | str b=>obtain⟨t,rfl⟩:=rx;exact SeqAt.EqAt.int_str a t' b t
  | _=>exact absurd (show false=true from fx) Bool.false_ne_true
 | str a=>
  obtain⟨t',rfl⟩:=ry
  cases x with
  | non=>cases rx;exact SeqAt.EqAt.str_none a t'
  | bl b=>cases rx;exact SeqAt.EqAt.str_bool a t' b
  | int b=>obtain⟨t,rfl⟩:=rx;exact SeqAt.EqAt.str_int a t' b t
  | str b=>obtain⟨t,rfl⟩:=rx;exact SeqAt.EqAt.str_str a t' b t
  | _=>exact absurd (show false=true from fx) Bool.false_ne_true
 | _=>exact absurd (show false=true from fy) Bool.false_ne_true
def Z9(x:V)(u:Value):Bool:=match u with
 | .none=>eqV .non x
 | .bool b=>eqV (.bl b) x
 | .int i _=>eqV (.int i) x
 | .str z _=>eqV (.str z) x
 | _=>false
theorem a8W{x y:V}{u:Value}(r:RelV y u)(f:V2 y=true):Z9 x u=eqV y x:=by
 cases y with
 | non=>cases r;rfl
 | bl b=>cases r;rfl
 | int i=>obtain⟨t,rfl⟩:=r;rfl
 | str z=>obtain⟨t,rfl⟩:=r;rfl
 | _=>exact absurd (show false=true from f) Bool.false_ne_true
theorem a0d{x:V}:∀{xs:List V} {us:List Value},i8 xs us→xs.all V2=true→us.any (Z9 x)=xs.any fun y=>eqV y x
 | _,_,.nil,_=>rfl
 | y::xs,u::us,.cons r t,f=>by
  rw[List.all_cons,Bool.and_eq_true]at f
  rw[List.any_cons,List.any_cons,a8W r f.1,a0d t f.2]
theorem a1a{A:Around}{s:Shared}{x:V}{v:Value}(rx:RelV x v)(fx:V2 x=true):∀{xs:List V} {us:List Value},i8 xs us→xs.all V2=true→∀u∈us,SeqAt.EqAt A s u v (Z9 x u)
 | _,_,.nil,_=>fun u hu=>by cases hu
 | y::xs,u::us,.cons r t,f=>fun u' hu=>by
  rw[List.all_cons,Bool.and_eq_true]at f
  rcases List.mem_cons.mp hu with rfl | hu
  ·rw[a8W r f.1];exact b3p r rx f.1 fx
  ·exact a1a rx fx t f.2 u' hu
def inV(x:V)(xs:List V):Bool:=xs.any fun y=>eqV y x
inductive b4s(K:PySem.W.Frag)(xs:List V)(H:Hp)(Q:VK):Prop
 | mk (p:Addr) (ys:List V) (e:xs=[.ref p]) (s:d9 K H p ys∨f7 K H p ys) (q:Q (.int ys.length) H)
inductive IIs(K:PySem.W.Frag)(neg:Bool)(x y:V)(H:Hp)(Q:VK):Prop
 | mk (p:Addr) (xs:List V) (e:y=.ref p) (s:d9 K H p xs∨f7 K H p xs) (f:V2 x=true) (g:xs.all V2=true) (q:Q (.bl (if neg then !inV x xs else inV x xs)) H)
def rIn(K:PySem.W.Frag)(neg:Bool):R2:=IIs K neg
theorem L1:B8 X (compareOp .In) (rIn X.K false):=by
 intro pins s σ H x y v u Q I rx ry h
 obtain⟨p,xs,rfl,hq,fx,fs,q⟩:=h
 cases ry
 rcases hq with hq | hq
 ·obtain⟨its,r,pl,hz⟩:=I.list hq
  refine SeqAt.in_listAt (Z9 x) pl.isList (fun w hw=>a1a rx fx r fs w (by simpa using hw)) ⟨.bl _,H,I,rfl,?_⟩
  rw[show its.toArray.any (Z9 x)=its.any (Z9 x) by simp,a0d r fs]
  exact q
 ·obtain⟨its,r,pl,hz⟩:=I.tuple hq
  refine SeqAt.in_tupleAt (Z9 x) pl (fun w hw=>a1a rx fx r fs w (by simpa using hw)) ⟨.bl _,H,I,rfl,?_⟩
  rw[show its.toArray.any (Z9 x)=its.any (Z9 x) by simp,a0d r fs]
  exact q
theorem a8h:B8 X (compareOp .NotIn) (rIn X.K true):=by
 intro pins s σ H x y v u Q I rx ry h
 obtain⟨p,xs,rfl,hq,fx,fs,q⟩:=h
 cases ry
 rcases hq with hq | hq
 ·obtain⟨its,r,pl,hz⟩:=I.list hq
  refine SeqAt.notIn_listAt (Z9 x) pl.isList (fun w hw=>a1a rx fx r fs w (by simpa using hw)) ⟨.bl _,H,I,rfl,?_⟩
  rw[show its.toArray.any (Z9 x)=its.any (Z9 x) by simp,a0d r fs]
  exact q
 ·obtain⟨its,r,pl,hz⟩:=I.tuple hq
  refine SeqAt.notIn_tupleAt (Z9 x) pl (fun w hw=>a1a rx fx r fs w (by simpa using hw)) ⟨.bl _,H,I,rfl,?_⟩
  rw[show its.toArray.any (Z9 x)=its.any (Z9 x) by simp,a0d r fs]
  exact q
theorem i5:L6 X (.builtin "len") (b4s X.K):=by
 intro pins s σ H xs us Q I r h
 obtain⟨p,ys,rfl,hq,q⟩:=h
 obtain⟨u,rfl,rx⟩:=vals1 r
 cases rx
 have hn:=a6J
 rcases hq with hq | hq
 ·obtain⟨its,r',pl,hz⟩:=I.list hq
  have hlen:=r'.length
  exact Calls.call_len_list pl.isList (by simp only[List.size_toArray]<;>omega) ⟨.int ys.length,H,I.tok _,⟨s.toks+1,by rw[List.size_toArray,hlen]⟩,q⟩
 ·obtain⟨its,r',pl,hz⟩:=I.tuple hq
  have hlen:=r'.length
  exact len_tuple pl (by simp only[List.size_toArray]<;>omega) ⟨.int ys.length,H,I.tok _,⟨s.toks+1,by rw[List.size_toArray,hlen]⟩,q⟩
theorem a5j:L6 X (.type "list") (fun xs H Q=>∃p ys,xs=[.ref p]∧(d9 X.K H p ys∨f7 X.K H p ys)∧∀l,H l=none→Q (.ref l) (upd H l (.lst ys))):=by
 intro pins s σ H xs us Q I r h
 obtain⟨p,ys,rfl,hq,q⟩:=h
 obtain⟨u,rfl,rx⟩:=vals1 r
 cases rx
 have fin:∀(its:List Value),i8 ys its→ys.length≤sizeLine→∀(h':Heap) (c':Nat),(∀b o',s.heap.get? b=some o'→h'.get? b=some o') →
   h'.get? s.heap.objs.size=some { cls:=.type "list",dict:=none,data:=.seq its.toArray c',slots:=#[] }→EP X pins σ Q (.ref s.heap.objs.size) { s with heap:=h' }:=fun its r' hz h' c' kp e=>
  ⟨.ref s.heap.objs.size,_,I.laid (t':=s.toks) kp (Nat.le_refl _) (show y0 X.prog X.w _ h' _ (.lst ys) from⟨hz,its,c',r',e⟩),rfl,q _ (I.hok.fresh (Nat.le_refl _))⟩
 rcases hq with hq | hq
 ·obtain⟨its,r',pl,hz⟩:=I.list hq
  have hlen:=r'.length
  obtain⟨o,ho,hc,n,hd⟩:=pl.isList
  exact call_list_seq p (.inl rfl) ho hc hd (fun h' c' kp e=>fin its r' hz h' c' kp e) (by simp only[List.size_toArray]<;>omega)
 ·obtain⟨its,r',pl,hz⟩:=I.tuple hq
  have hlen:=r'.length
  obtain⟨o,ho,hc,n,hd⟩:=pl
  exact call_list_seq p (.inr rfl) ho hc hd (fun h' c' kp e=>fin its r' hz h' c' kp e) (by simp only[List.size_toArray]<;>omega)
def tyV(K:PySem.W.Frag)(T:String)(x:V)(H:Hp):Prop:=match x with
 | .str _=>T="str"
 | .int _=>T="int"
 | .ref p=>(T="list"∧∃xs,d9 K H p xs)∨(T="tuple"∧∃o,K.lookup p=some o∧o.cls=.type "tuple"∧o.dict=none) ∨
   (T="dict"∧((∃kvs,H p=some (.dK kvs))∨∃kvs,H p=some (.dT kvs)))∨(T="set"∧∃S n,H p=some (.set S n))
 | _=>False
theorem a3W{pins:List (Addr×Obj)}{σ:St}{H:Hp}{s:Shared}{T:String}{x:V}{v:Value}(I:Inv X pins σ H s)(r:RelV x v)(ty:tyV X.K T x H) :
  s.TypeIs v T∧∀a,v=.ref a→∃ob,s.heap.get? a=some ob∧ob.dict=none:=by
 cases x with
 | str z=>
  obtain⟨t,rfl⟩:=r
  cases (show T="str" from ty)
  exact⟨typeIs_str s z t,fun _ e=>nomatch e⟩
 | int i=>
  obtain⟨t,rfl⟩:=r
  cases (show T="int" from ty)
  exact⟨typeIs_int s i t,fun _ e=>nomatch e⟩
 | ref p=>
  cases r
  rcases ty with ⟨rfl,xs,hq⟩ | ⟨rfl,o,hk,hc,hd⟩ | ⟨rfl,hk⟩ | ⟨rfl,S,n,hk⟩
  ·obtain⟨its,_,pl,_⟩:=I.list hq
   refine⟨pl.isList.typeIs,fun a e=>?_⟩
   cases e
   obtain⟨o,n,e,c,hd,_⟩:=pl
   exact⟨o,e,hd⟩
  ·refine⟨⟨o,I.kIn p o hk,hc⟩,fun a e=>?_⟩
   cases e
   exact⟨o,I.kIn _ o hk,hd⟩
  ·have z:∃o,s.heap.get? p=some o∧o.ExactDict:=by
    rcases hk with ⟨kvs,hk⟩ | ⟨kvs,hk⟩
    ·obtain⟨_,_,_,_,o,_,_,e,ex,_⟩:=I.hok p _ hk
     exact⟨o,e,ex⟩
    ·obtain⟨_,_,_,_,o,_,_,e,ex,_⟩:=I.hok p _ hk
     exact⟨o,e,ex⟩
   obtain⟨o,e,ex⟩:=z
   refine⟨⟨o,e,ex.1⟩,fun a e2=>?_⟩
   cases e2
   exact⟨o,e,ex.2.1⟩
  ·obtain⟨o,_,_,_,e,ex,_⟩:=I.hok p _ hk
   refine⟨⟨o,e,ex.1⟩,fun a e2=>?_⟩
   cases e2
   exact⟨o,e,ex.2.1⟩
 | _=>exact False.elim ty
def b9r(K:PySem.W.Frag)(T:String)(r:V→List V→Hp→VK→Prop)(to:TE):TE:=fun σ H Q=>to σ H fun x H1=>tyV K T x H1∧r x [] H1 Q
def tBM(K:PySem.W.Frag)(T:String)(r:V→List V→Hp→VK→Prop)(to:TE)(t:TA):TE:=fun σ H Q=>to σ H fun x H1=>tyV K T x H1∧t σ H1 fun xs H2=>r x xs H2 Q
variable{o e:Expr}{es:List Expr}{to:TE}{t:TA}{name:Str}{apos cpos:Pos}{T id:String}{r:V→List V→Hp→VK→Prop}
theorem b7n(pa:PlainAttrs T)(slot:Slot T name id)(hty:typeOf (.builtin id)=pure (.type "method_descriptor"))(hm:MtR X id r)(ho:PE X o to)
  (hbase:attributeBase o name X.env (eval o X.env)=eval o X.env:=by rfl) (hline:(apos.endLine==cpos.line)=true:=by rfl):PE X (.Call (.Attribute o name apos) [] [] cpos) (b9r X.K T r to):=by
 intro pins s σ H Q I h
 refine wpAny_Call_method0_late hbase hline (k7 (ho pins s σ H _ I h) fun v s1 ⟨x,H1,I1,r1,ty,q1⟩=>?_)
 obtain⟨h1,h2⟩:=a3W I1 r1 ty
 exact⟨T,id,pa,slot,hty,h1,h2,Calls.callWith_builtin rfl (PySem.evalArgs_none (hm pins s1 σ H1 x [] v [] Q I1 r1 .nil q1))⟩
theorem v3(pa:PlainAttrs T)(slot:Slot T name id)(hty:typeOf (.builtin id)=pure (.type "method_descriptor"))(hm:MtR X id r)(ho:PE X o to)(ha:PA X (e::es) t)
  (hbase:attributeBase o name X.env (eval o X.env)=eval o X.env:=by rfl)
  (hfew:((backTo cpos (starEach (e::es) X.env)).all (fun x=>!x.1)&&(backToKw cpos (keywordEach [] X.env)).all (fun x=>x.1.isSome)
   && decide ((e::es).length+([]:List Keyword).length+(if ([]:List Keyword).isEmpty then 0 else 1)<30))=true:=by rfl)
  (hline:(apos.endLine==cpos.line)=true:=by rfl) (hs:starEach (e::es) X.env=(false,eval e X.env)::starEach es X.env:=by rfl) (hplain:(backTo cpos (starEach es X.env)).any (·.1)=false:=by rfl) :
  PE X (.Call (.Attribute o name apos) (e::es) [] cpos) (tBM X.K T r to t):=by
 intro pins s σ H Q I h
 refine wpAny_Call_method_late hbase hfew hline rfl (k7 (ho pins s σ H _ I h) fun v s1 ⟨x,H1,I1,r1,ty,q1⟩=>?_)
 obtain⟨h1,h2⟩:=a3W I1 r1 ty
 refine⟨T,id,pa,slot,hty,h1,h2,?_⟩
 have hA:=ha cpos pins s1 σ H1 _ I1 q1
 rw[hs]at hA ⊢
 refine Calls.callWith_builtin (by show(false||(backTo cpos (starEach es X.env)).any (·.1))=false;rw[hplain]<;>rfl) (Calls.evalArgs_plain ?_)
 exact k7 hA fun us s2 ⟨vs,H2,I2,r2,q2⟩=>hm pins s2 σ H2 x vs v us Q I2 r1 r2 q2
end
end L2
namespace L2
open PySem PySem.Spec PyProof.Rows
def MtM(X:Cx)(id:String)(r:V→List V→Hp→VK→Prop):Prop:=
 ∀(pins:List (Addr×Obj)) (s:Shared) (σ:St) (H:Hp) (x:V) (xs:List V) (v:Value) (us:List Value) (Q:VK),Inv X pins σ H s→RelV x v→i8 xs us→r x xs H Q →
  wpAny (model X.prog X.w) X.A (call (.builtin id) (v::us)) (EP X pins σ Q) X.xe s
theorem i8.one:∀{x:V} {us:List Value},i8 [x] us→∃u,us=[u]∧RelV x u
 | _,_,.cons r .nil=>⟨_,rfl,r⟩
theorem i8.zero:∀{us:List Value},i8 [] us→us=[]
 | _,.nil=>rfl
theorem i8.dropLast{xs:List V}{us:List Value}(h:i8 xs us):i8 xs.dropLast us.dropLast:=by
 induction h with
 | nil=>exact .nil
 | cons r t ih=>
  cases t with
  | nil=>exact .nil
  | cons q t'=>exact .cons r ih
theorem i8.eraseIdx:∀{xs:List V} {us:List Value} (i:Nat),i8 xs us→i8 (xs.eraseIdx i) (us.eraseIdx i)
 | _,_,_,.nil=>.nil
 | _,_,0,.cons _ t=>t
 | _,_,i+1,.cons r t=>.cons r (i8.eraseIdx i t)
theorem i8.rep{xs:List V}{us:List Value}(h:i8 xs us):∀k:Nat,i8 (List.replicate k xs).flatten (List.replicate k us).flatten
 | 0=>.nil
 | k+1=>by
  rw[List.replicate_succ,List.replicate_succ,List.flatten_cons,List.flatten_cons]
  exact i8.append h (i8.rep h k)
theorem a3S{α:Type}(l:List α):l.eraseIdx (l.length-1)=l.dropLast:=by
 induction l with
 | nil=>rfl
 | cons a r ih=>
  cases r with
  | nil=>rfl
  | cons b r=>
   have e:(a::b::r).length-1=((b::r).length-1)+1:=by
    have h1:(a::b::r).length=r.length+2:=rfl
    have h2:(b::r).length=r.length+1:=rfl
    omega
   rw[e,List.eraseIdx_cons_succ,ih]
   all_goals rfl
theorem foldl_rep(its:List Value):∀(k:Nat) (acc:List Value),
  List.foldl (fun x1 x2=>x1++x2) acc.toArray (List.replicate k its.toArray)=(acc++(List.replicate k its).flatten).toArray
 | 0,acc=>by simp
 | k+1,acc=>by
  have e:acc.toArray++its.toArray=(acc++its).toArray:=by simp
  have e2:(acc++its)++(List.replicate k its).flatten=acc++(List.replicate (k+1) its).flatten:=by
   rw[List.replicate_succ,List.flatten_cons,List.append_assoc]
  rw[←e2,←foldl_rep its k (acc++its),←e,List.replicate_succ,List.foldl_cons]
section
variable{X:Cx}{pins:List (Addr×Obj)}{σ:St}{H:Hp}{s:Shared}{l b:Addr}{xs ys zs:List V}
theorem Inv.lset{its its':List Value}{n:Nat}{f:Array Value→Array Value}{t':Nat}(I:Inv X pins σ H s)(hH:H l=some (.lst xs))
  (e:s.heap.get? l=some { cls:=.type "list",data:=.seq its.toArray n }) (hf:f its.toArray=its'.toArray) (hv:i8 ys its') (hz:ys.length≤sizeLine) :
  Inv X pins σ (upd H l (.lst ys)) { s with heap:=s.heap.update l (Obj.mapSeq f),toks:=t' }:=by
 have q:=PySem.IsL.update e f
 rw[hf]at q
 refine I.write (x:=l) (e:=l) (by rw[hH];exact trivial) (.inl rfl) (fun b' u hb hu=>(Heap.get?_update_other s.heap (Obj.mapSeq f) (Ne.symm hb)).trans hu) ⟨_,q⟩ ?_
 exact⟨hz,its',_,hv,q⟩
theorem Inv.lnew{its:List Value}{t':Nat}(I:Inv X pins σ H s)(hv:i8 ys its)(hz:ys.length≤sizeLine) :
  Inv X pins σ (upd H s.heap.objs.size (.lst ys)) { s with heap:=s.heap.push { cls:=.type "list",data:=.seq its.toArray },toks:=t' }:=
 I.laid (fun _ _ q=>Heap.get?_push_of_some _ q) (Nat.le_refl _) ⟨hz,its,0,hv,Heap.get?_push_size _ rfl⟩
theorem Inv.fresh(I:Inv X pins σ H s):H s.heap.objs.size=none:=I.hok.fresh (Nat.le_refl _)
theorem Inv.lstM(I:Inv X pins σ H s)(hH:H l=some (.lst xs)):xs.length≤sizeLine∧∃(its:List Value) (n:Nat),i8 xs its∧xs.length=its.length∧s.heap.get? l=some { cls:=.type "list",data:=.seq its.toArray n }:=by
 obtain⟨z,its,n,r,e⟩:=I.hok l _ hH
 exact⟨z,its,n,r,r.length,e⟩
theorem a7J{n:Nat}(h:n≤sizeLine):Builtin.List.listTooLong n=false:=by
 unfold Builtin.List.listTooLong
 exact decide_eq_false (by omega)
end
section
variable{X:Cx}
inductive b5n(x:V)(vs:List V)(H:Hp)(Q:VK):Prop
 | mk (l:Addr) (xs:List V) (y:V) (e1:x=.ref l) (e2:vs=[y]) (h:H l=some (.lst xs)) (z:xs.length<sizeLine) (q:Q .non (upd H l (.lst (xs++[y]))))
def b1i:V→List V→Hp→VK→Prop:=b5n
theorem m8:MtM X "list.append" b1i:=by
 intro pins s σ H x vs v us Q I rx rv h
 obtain⟨l,xs,y,rfl,rfl,hH,hz,q⟩:=h
 cases rx
 obtain⟨u,rfl,ru⟩:=rv.one
 obtain⟨z,its,n,r,hl,e⟩:=I.lstM hH
 refine call_meets F.slot_list_append ⟨_,e,rfl⟩ F.entry_list_append (F.args_list_append_2 _ _) (PySem.list_append l its.toArray n u (by rw[List.size_toArray];omega)) ⟨e,?_⟩
 refine⟨.non,_,I.lset (its':=its++[u]) hH e (by simp) (r.append (.cons ru .nil)) ?_,rfl,q⟩
 rw[List.length_append,List.length_singleton]
 omega
def b2j:V→List V→Hp→VK→Prop:=fun x vs H Q=>∃l b xs zs,x=.ref l∧vs=[.ref b]∧H l=some (.lst xs)∧H b=some (.lst zs)∧xs.length+zs.length≤sizeLine∧Q .non (upd H l (.lst (xs++zs)))
theorem V8:MtM X "list.extend" b2j:=by
 intro pins s σ H x vs v us Q I rx rv h
 obtain⟨l,b,xs,zs,rfl,rfl,hH,hB,hz,q⟩:=h
 cases rx
 obtain⟨u,rfl,ru⟩:=rv.one
 cases ru
 obtain⟨z,its,n,r,hl,e⟩:=I.lstM hH
 obtain⟨z2,its2,n2,r2,hl2,e2⟩:=I.lstM hB
 have hsz:its.toArray.size+its2.toArray.size≤sizeLine:=by rw[List.size_toArray,List.size_toArray];omega
 have hlong:¬(!its.toArray.isEmpty&&Builtin.List.listTooLong (its.toArray.size+its2.toArray.size))=true:=by
  rw[a7J hsz,Bool.and_false]
  exact Bool.false_ne_true
 refine call_meets F.slot_list_extend ⟨_,e,rfl⟩ F.entry_list_extend (F.args_list_extend_2 _ _)
  (AutoSeq1.list_extend_list_list_0 l its.toArray n b its2.toArray n2 hlong (by rw[List.size_toArray];omega) (by omega)) ⟨e,e2,?_⟩
 refine⟨.non,_,I.lset (its':=its++its2) hH e (by simp) (r.append r2) ?_,rfl,q⟩
 rw[List.length_append]
 omega
def b6u:V→List V→Hp→VK→Prop:=fun x vs H Q=>∃l xs y,x=.ref l∧vs=[]∧H l=some (.lst xs)∧xs[xs.length-1]?=some y∧Q y (upd H l (.lst xs.dropLast))
theorem b6l:MtM X "list.pop" b6u:=by
 intro pins s σ H x vs v us Q I rx rv h
 obtain⟨l,xs,y,rfl,rfl,hH,hy,q⟩:=h
 cases rx
 have hus:=rv.zero
 subst hus
 obtain⟨z,its,n,r,hl,e⟩:=I.lstM hH
 obtain⟨u,hu,ru⟩:=r.get hy
 have hy':its.toArray[its.toArray.size-1]?=some u:=by
  show its.toArray[its.length-1]?=some u
  rw[←Array.getElem?_toList,←hl]
  exact hu
 refine call_meets F.slot_list_pop ⟨_,e,rfl⟩ F.entry_list_pop (F.args_list_pop_1 _) (MeetsSeq.list_pop_last l its.toArray n u hy' (by rw[List.size_toArray];omega)) ⟨e,?_⟩
 refine⟨y,_,I.lset (its':=its.dropLast) hH e ?_ r.dropLast ?_,ru,q⟩
 ·show its.toArray.eraseIdxIfInBounds (its.toArray.size-1)=its.dropLast.toArray
  rw[List.size_toArray,List.eraseIdxIfInBounds_toArray,a3S]
 ·rw[List.length_dropLast]
  omega
def b3s:R2:=fun x y H Q=>∃l b xs zs,x=.ref l∧y=.ref b∧H l=some (.lst xs)∧H b=some (.lst zs)∧xs.length+zs.length≤sizeLine∧∀p,H p=none→Q (.ref p) (upd H p (.lst (xs++zs)))
theorem N3:B8 X (binaryOp .Add) b3s:=by
 intro pins s σ H x y v u Q I rx ry h
 obtain⟨l,b,xs,zs,rfl,rfl,hH,hB,hz,q⟩:=h
 cases rx
 cases ry
 obtain⟨z,its,n,r,hl,e⟩:=I.lstM hH
 obtain⟨z2,its2,n2,r2,hl2,e2⟩:=I.lstM hB
 refine PySem.P.add_list e e2 ?_ (by rw[List.size_toArray,List.size_toArray];omega)
 have ea:its.toArray++its2.toArray=(its++its2).toArray:=by simp
 rw[ea]
 exact⟨.ref _,_,I.lnew (t':=s.toks) (r.append r2) (by rw[List.length_append];omega),rfl,q _ I.fresh⟩
def b6t:R2:=fun x y H Q=>∃l k xs,x=.ref l∧y=.int k∧H l=some (.lst xs)∧-(2 ^ 63)≤k∧k<2 ^ 63∧xs.length*k.toNat≤sizeLine ∧
 ∀p,H p=none→Q (.ref p) (upd H p (.lst (List.replicate k.toNat xs).flatten))
theorem len_rep{α:Type}(xs:List α)(k:Nat):(List.replicate k xs).flatten.length=k*xs.length:=by
 induction k with
 | zero=>simp
 | succ k ih=>rw[List.replicate_succ,List.flatten_cons,List.length_append,ih,Nat.succ_mul,Nat.add_comm]
theorem b6m:B8 X (binaryOp .Mult) b6t:=by
 intro pins s σ H x y v u Q I rx ry h
 obtain⟨l,k,xs,rfl,rfl,hH,h1,h2,hz,q⟩:=h
 cases rx
 obtain⟨t,rfl⟩:=ry
 obtain⟨z,its,n,r,hl,e⟩:=I.lstM hH
 have hlen:its.toArray.size*k.toNat≤sizeLine:=by rw[List.size_toArray,←hl];exact hz
 have hcap:¬its.toArray.size*k.toNat>(2 ^ 63-1)/8:=by
  have:(sizeLine:Nat)≤(2 ^ 63-1)/8:=by decide
  omega
 have hfit:¬(!Builtin.List.listFitsIndex k)=true:=by
  rw[fitsIndex_both h1 h2]
  exact Bool.false_ne_true
 have hlong:¬Builtin.List.listTooLong (its.toArray.size*k.toNat)=true:=by
  rw[a7J hlen]
  exact Bool.false_ne_true
 have hnew:List.foldl (fun x1 x2=>x1++x2) #[] (List.replicate (if its.toArray.isEmpty=true then 0 else k.toNat) its.toArray)=(List.replicate k.toNat its).flatten.toArray:=by
  have f0:∀m:Nat,List.foldl (fun x1 x2=>x1++x2) #[] (List.replicate m its.toArray)=(List.replicate m its).flatten.toArray:=fun m=>by
   have:=foldl_rep its m []
   rw[List.nil_append]at this
   exact this
  rw[f0]
  cases its with
  | nil=>simp
  | cons a r'=>rw[if_neg (by simp)]
 refine wpAny_binaryOp_repeat_ref (T:="list") (U:="int") (by decide) ⟨_,e,rfl⟩ (fun s'=>typeIs_int s' k t) noFill_list_mul F.fills_int_mul F.slot_int_rmul repeat_list F.slot_int_index.lookup
  (call_meets F.slot_int_rmul (typeIs_int s k t) F.entry_int_rmul (F.args_int_rmul_2 _ _) (int___rmul___int_list k t l its.toArray n)
   ⟨e,rfl,⟨_,e,rfl⟩,call_meets F.slot_list_mul ⟨_,e,rfl⟩ F.entry_list_mul (F.args_list_mul_2 _ _) (AutoListH.list___mul___list_int_3 l its.toArray n k t hfit hcap hlong) ⟨e,?_⟩⟩)
 rw[hnew]
 exact⟨.ref _,_,I.lnew (t':=s.toks) (r.rep k.toNat) (by rw[len_rep,Nat.mul_comm];exact hz),rfl,q _ I.fresh⟩
end
section
variable{prog:Program}{w:World}{A:Around}{E:Value→Shared→Prop}{s:Shared}
end
section
variable{X:Cx}
end
end L2
namespace L2
open PySem PySem.Spec PyProof.Rows
section
variable{κ:Type}[DecidableEq κ]
def B6(kvs:List (κ×V))(k:κ):Option V:=(kvs.find? fun kv=>decide (kv.1=k)).map (·.2)
def putK(kvs:List (κ×V))(k:κ)(v:V):List (κ×V):=
 if (kvs.any fun kv=>decide (kv.1=k))=true then kvs.map (fun kv=>if kv.1=k then(kv.1,v) else kv) else kvs++[(k,v)]
def C4(kvs:List (κ×V))(k:κ):List (κ×V):=kvs.filter fun kv=>decide (kv.1≠k)
theorem a3p{p:κ×V}{r:List (κ×V)}{k:κ}(e:p.1=k):B6 (p::r) k=some p.2:=by simp[B6,List.find?_cons,e]
theorem a2q{p:κ×V}{r:List (κ×V)}{k:κ}(e:¬p.1=k):B6 (p::r) k=B6 r k:=by simp[B6,List.find?_cons,e]
theorem a5K(k:κ):∀kvs:List (κ×V),(kvs.any fun kv=>decide (kv.1=k))=(B6 kvs k).isSome
 | []=>rfl
 | p::r=>by
  rw[List.any_cons]
  by_cases e:p.1=k
  ·simp only[a3p e,decide_eq_true e,Bool.true_or,Option.isSome_some]
  ·rw[a2q e,decide_eq_false e,Bool.false_or];exact a5K k r
theorem a2c(kvs:List (κ×V))(k:κ)(v:V):(putK kvs k v).length≤kvs.length+1:=by
 unfold putK
 split
 ·rw[List.length_map];omega
 ·rw[List.length_append,List.length_cons,List.length_nil];omega
theorem L7.isSome_eq{o:Option V}{u:Option Value}(r:L7 o u):o.isSome=u.isSome:=by
 cases o with
 | none=>cases u with
  | none=>rfl
  | some _=>exact(show False from r).elim
 | some _=>cases u with
  | none=>exact(show False from r).elim
  | some _=>rfl
theorem L7.getD{o:Option V}{u:Option Value}{d:V}{d':Value}(r:L7 o u)(rd:RelV d d'):RelV (o.getD d) (u.getD d'):=by
 cases o with
 | none=>cases u with
  | none=>exact rd
  | some _=>exact(show False from r).elim
 | some _=>cases u with
  | none=>exact(show False from r).elim
  | some _=>exact r
theorem KV.val{kvs:List (κ×V)}{vs:List (κ×Value)}(r:KV kvs vs)(k:κ):L7 (B6 kvs k) (valueAt vs k):=by
 unfold KV at r
 induction r with
 | nil=>exact True.intro
 | @cons p q ps qs h t ih=>
  obtain⟨h1,h2⟩:=h
  by_cases e:p.1=k
  ·have e':q.1=k:=h1.symm.trans e
   have b:valueAt (q::qs) k=some q.2:=by simp[valueAt,List.find?_cons,e']
   rw[a3p e,b];exact h2
  ·have e':¬q.1=k:=fun z=>e (h1.trans z)
   have b:valueAt (q::qs) k=valueAt qs k:=by simp[valueAt,List.find?_cons,e']
   rw[a2q e,b];exact ih
theorem KV.any{kvs:List (κ×V)}{vs:List (κ×Value)}(r:KV kvs vs)(k:κ):(kvs.any fun kv=>decide (kv.1=k))=vs.any fun kv=>decide (kv.1=k):=by
 unfold KV at r
 induction r with
 | nil=>rfl
 | cons h t ih=>rw[List.any_cons,List.any_cons,ih,h.1]
theorem KV.repl{kvs:List (κ×V)}{vs:List (κ×Value)}(r:KV kvs vs)(k:κ){y:V}{u:Value}(ry:RelV y u) :
  KV (kvs.map fun kv=>if kv.1=k then(kv.1,y) else kv) (vs.map fun kv=>if kv.1=k then(kv.1,u) else kv):=by
 unfold KV at r ⊢
 induction r with
 | nil=>exact .nil
 | @cons p q ps qs h t ih=>
  rw[List.map_cons,List.map_cons]
  refine .cons ?_ ih
  obtain⟨h1,h2⟩:=h
  by_cases e:p.1=k
  ·rw[if_pos e,if_pos (h1.symm.trans e)];exact⟨h1,ry⟩
  ·rw[if_neg e,if_neg (fun z=>e (h1.trans z))];exact⟨h1,h2⟩
theorem KV.put{kvs:List (κ×V)}{vs:List (κ×Value)}(r:KV kvs vs)(k:κ){y:V}{u:Value}(ry:RelV y u):KV (putK kvs k y) (stored vs k u):=by
 unfold putK stored
 rw[r.any k]
 by_cases e:(vs.any fun kv=>decide (kv.1=k))=true
 ·rw[if_pos e,if_pos e];exact r.repl k ry
 ·rw[if_neg e,if_neg e];exact Paired.snoc r ⟨rfl,ry⟩
theorem KV.drop{kvs:List (κ×V)}{vs:List (κ×Value)}(r:KV kvs vs)(k:κ):KV (C4 kvs k) (without vs k):=by
 unfold KV at r ⊢
 unfold C4 without
 induction r with
 | nil=>exact .nil
 | @cons p q ps qs h t ih=>
  obtain⟨h1,h2⟩:=h
  rw[List.filter_cons,List.filter_cons]
  by_cases e:p.1=k
  ·have a:¬decide (p.1≠k)=true:=by simp[e]
   have b:¬decide (q.1≠k)=true:=by simp[h1.symm.trans e]
   rw[if_neg a,if_neg b];exact ih
  ·have e':¬q.1=k:=fun z=>e (h1.trans z)
   have a:decide (p.1≠k)=true:=by simp[e]
   have b:decide (q.1≠k)=true:=by simp[e']
   rw[if_pos a,if_pos b];exact .cons ⟨h1,h2⟩ ih
theorem KV.keys{kvs:List (κ×V)}{vs:List (κ×Value)}(r:KV kvs vs):kvs.map (·.1)=vs.map (·.1):=by
 unfold KV at r
 induction r with
 | nil=>rfl
 | cons h t ih=>rw[List.map_cons,List.map_cons,ih,h.1]
theorem KV.length{kvs:List (κ×V)}{vs:List (κ×Value)}(r:KV kvs vs):kvs.length=vs.length:=Paired.length r
theorem a7K(kvs:List (κ×V))(k:κ):(C4 kvs k).length≤kvs.length:=List.length_filter_le _ _
end
theorem Y4{P:Program}{w:World}{k:Key}{u:Value}(r:RelV (kV k) u):(q5 P w).is k u=true:=by
 cases k with
 | inl i=>obtain⟨t,e⟩:=(show ∃t,u=Value.int i t from r);subst e;exact a9M P w i t
 | inr x=>obtain⟨t,e⟩:=(show ∃t,u=Value.str x t from r);subst e;exact a0M P w x t
theorem a5B{P:Program}{w:World}:∀{ks:List Key} {us:List Value},i8 (ks.map kV) us→ItemsAre (q5 P w) ks us
 | [],_,r=>by rw[List.map_nil]at r;cases r;exact .nil
 | k::ks,_,r=>by
  rw[List.map_cons]at r
  cases r with
  | cons h t=>exact .cons (Y4 h) (a5B t)
abbrev KT(H:Hp):List (List Key×V)→List (List Key×Addr×Value)→Prop:=Paired fun p q=>p.1=q.1∧H q.2.1=some (.tup (p.1.map kV))∧RelV p.2 q.2.2
theorem KT.val{H:Hp}{kvs:List (List Key×V)}{xs:List (List Key×Addr×Value)}(r:KT H kvs xs)(k:List Key):L7 (B6 kvs k) ((atKey xs k).map (·.2)):=by
 induction r with
 | nil=>exact True.intro
 | @cons p q ps qs h t ih=>
  obtain⟨h1,_,h2⟩:=h
  by_cases e:p.1=k
  ·have e':q.1=k:=h1.symm.trans e
   have b:atKey (q::qs) k=some q.2:=by simp[atKey,List.find?_cons,e']
   rw[a3p e,b];exact h2
  ·have e':¬q.1=k:=fun z=>e (h1.trans z)
   have b:atKey (q::qs) k=atKey qs k:=by simp[atKey,List.find?_cons,e']
   rw[a2q e,b];exact ih
theorem KT.repl{H:Hp}{kvs:List (List Key×V)}{xs:List (List Key×Addr×Value)}(r:KT H kvs xs)(k:List Key){y:V}{u:Value}(ry:RelV y u) :
  KT H (kvs.map fun kv=>if kv.1=k then(kv.1,y) else kv) (xs.map (putAt k u)):=by
 induction r with
 | nil=>exact .nil
 | @cons p q ps qs h t ih=>
  rw[List.map_cons,List.map_cons]
  refine .cons ?_ ih
  obtain⟨h1,h2,h3⟩:=h
  unfold putAt
  by_cases e:p.1=k
  ·rw[if_pos e,if_pos (h1.symm.trans e)];exact⟨h1,h2,ry⟩
  ·rw[if_neg e,if_neg (fun z=>e (h1.trans z))];exact⟨h1,h2,h3⟩
theorem KT.put{H:Hp}{kvs:List (List Key×V)}{xs:List (List Key×Addr×Value)}(r:KT H kvs xs)(k:List Key){b:Addr}{y:V}{u:Value}(hb:H b=some (.tup (k.map kV)))(ry:RelV y u) :
  KT H (putK kvs k y) (storedH xs k b u):=by
 have e:(kvs.any fun kv=>decide (kv.1=k))=(atKey xs k).isSome:=by
  rw[a5K,(r.val k).isSome_eq,Option.isSome_map]
 unfold putK storedH
 rw[e]
 by_cases q:(atKey xs k).isSome=true
 ·rw[if_pos q,if_pos q];exact r.repl k ry
 ·rw[if_neg q,if_neg q];exact Paired.snoc r ⟨rfl,hb,ry⟩
theorem KT.keeps{H H':Hp}{kvs:List (List Key×V)}{xs:List (List Key×Addr×Value)}(r:KT H kvs xs)(ht:∀b ys,H b=some (.tup ys)→H' b=some (.tup ys)):KT H' kvs xs:=
 Paired.mapP r fun _ _ z=>⟨z.1,ht _ _ z.2.1,z.2.2⟩
section
variable{P:Program}{w:World}{H:Hp}{h:Heap}{a:Addr}
theorem b9g{u:HO}(ok:F8 P w H h)(e:Rd H a u):y0 P w H h a u:=e.ok ok
theorem V0{kvs:List (Key×V)}(ok:F8 P w H h)(e:Rd H a (.dK kvs)):kvs.length≤sizeLine∧(a==sysModules)=false∧∃vs,KV kvs vs∧h.DictOf (q5 P w) a vs:=
 show y0 P w H h a (.dK kvs) from b9g ok e
theorem a8k{kvs:List (Key×V)}(ok:F8 P w H h)(e:H a=some (.dK kvs)):kvs.length≤sizeLine∧(a==sysModules)=false∧∃vs,KV kvs vs∧h.DictOf (q5 P w) a vs:=V0 ok (.inl e)
theorem a8d{ks:List Key}(ok:F8 P w H h)(e:H a=some (.tup (ks.map kV))):(tupleKind (q5 P w)).is h ks a:=by
 obtain⟨_,its,r,o,h1,h2,n,h3⟩:=(show y0 P w H h a (.tup (ks.map kV)) from ok a _ e)
 exact⟨o,its.toArray,n,h1,h2,h3,by simpa using a5B r⟩
theorem a2e{kvs:List (List Key×V)}(ok:F8 P w H h)(e:Rd H a (.dT kvs)):kvs.length≤sizeLine∧(a==sysModules)=false ∧
  ∃xs,KT H kvs xs∧h.DictOfH (tupleKind (q5 P w)) a xs:=by
 obtain⟨z,y,xs,r,o,es,ep,h1,h2,h3,h4,h5⟩:=(show y0 P w H h a (.dT kvs) from b9g ok e)
 refine⟨z,y,xs,r,o,es,ep,h1,h2,h3,h4,fun x hx=>?_,h5⟩
 have all:∀{l:List (List Key×V)} {m:List (List Key×Addr×Value)},KT H l m→∀x∈m,(tupleKind (q5 P w)).is h x.1 x.2.1:=by
  intro l m q
  induction q with
  | nil=>intro x hx;exact nomatch hx
  | @cons p q ps qs hq t ih=>
   intro x hx
   rcases List.mem_cons.mp hx with e | hx
   ·subst e
    exact a8d ok (by rw[←hq.1];exact hq.2.1)
   ·exact ih x hx
 exact all r x hx
theorem b9q{kvs:List (List Key×V)}(ok:F8 P w H h)(e:H a=some (.dT kvs)):kvs.length≤sizeLine∧(a==sysModules)=false ∧
  ∃xs,KT H kvs xs∧h.DictOfH (tupleKind (q5 P w)) a xs:=a2e ok (.inl e)
end
def v7(H:Hp)(a:Addr)(y:V)(r:Option V):Prop:=
 (∃kvs k,Rd H a (.dK kvs)∧y=kV k∧r=B6 kvs k)∨∃kvs k b,Rd H a (.dT kvs)∧y=.ref b∧H b=some (.tup (k.map kV))∧r=B6 kvs k
def K6(H:Hp)(a:Addr)(y v:V)(H':Hp):Prop:=
 (∃kvs k,H a=some (.dK kvs)∧y=kV k∧kvs.length<sizeLine∧H'=upd H a (.dK (putK kvs k v))) ∨
 ∃kvs k b,H a=some (.dT kvs)∧y=.ref b∧H b=some (.tup (k.map kV))∧kvs.length<sizeLine∧H'=upd H a (.dT (putK kvs k v))
theorem v7.k{H:Hp}{a:Addr}{kvs:List (Key×V)}{k:Key}(e:H a=some (.dK kvs)):v7 H a (kV k) (B6 kvs k):=.inl ⟨kvs,k,.inl e,rfl,rfl⟩
theorem v7.t{H:Hp}{a b:Addr}{kvs:List (List Key×V)}{k:List Key}(e:H a=some (.dT kvs))(eb:H b=some (.tup (k.map kV))):v7 H a (.ref b) (B6 kvs k):=.inr ⟨kvs,k,b,.inl e,rfl,eb,rfl⟩
theorem K6.k{H:Hp}{a:Addr}{kvs:List (Key×V)}{k:Key}{v:V}(e:H a=some (.dK kvs))(hl:kvs.length<sizeLine):K6 H a (kV k) v (upd H a (.dK (putK kvs k v))):=.inl ⟨kvs,k,e,rfl,hl,rfl⟩
theorem K6.t{H:Hp}{a b:Addr}{kvs:List (List Key×V)}{k:List Key}{v:V}(e:H a=some (.dT kvs))(eb:H b=some (.tup (k.map kV)))(hl:kvs.length<sizeLine) :
  K6 H a (.ref b) v (upd H a (.dT (putK kvs k v))):=.inr ⟨kvs,k,b,e,rfl,eb,hl,rfl⟩
section
variable{X:Cx}{pins:List (Addr×Obj)}{σ:St}{H:Hp}{s:Shared}{a:Addr}{y v:V}{u r:Value}{o:Option V}{A:Around}{E:Value→Shared→Prop}
theorem Inv.big(I:Inv X pins σ H s):sysModules<s.heap.objs.size:=by
 have h:mainGlobals<s.heap.objs.size:=(I.mod.glob.keeps I.bk).lt
 exact Nat.lt_trans (by decide) h
theorem a3X{Q:Value→Shared→Prop}(hu:A.units+1<cLine)(I:Inv X pins σ H s)(g:v7 H a y (some v))(ry:RelV y u)(h:∀w' s',Inv X pins σ H s'→RelV v w'→Q w' s') :
  wpAny (model X.prog X.w) A (getItem (.ref a) u) Q E s:=by
 rcases g with ⟨kvs,k,e,ey,l⟩ | ⟨kvs,k,b,e,ey,eb,l⟩
 ·subst ey
  obtain⟨z,hd,vs,rel,dd⟩:=V0 I.hok e
  obtain⟨w',hw,rw'⟩:=L7.some_of (v:=v) (o:=valueAt vs k) (by rw[l];exact rel.val k)
  exact wpAny_getItem_of (Y4 ry) dd.mapOf hw (h w' _ (I.tok _) rw')
 ·subst ey
  cases (show u=Value.ref b from ry)
  obtain⟨z,hd,xs,rel,dd⟩:=a2e I.hok e
  obtain⟨w',hw,rw'⟩:=L7.some_of (v:=v) (o:=(atKey xs k).map (·.2)) (by rw[l];exact rel.val k)
  obtain⟨p,hp,hp2⟩:=Option.map_eq_some_iff.mp hw
  refine wpAny_getItem_heap (tupleKind_room_in1 hu) (a8d I.hok eb) dd hp ?_
  rw[hp2]
  exact h w' _ (I.tok _) rw'
theorem b8t{Q:Value→Shared→Prop}(hu:A.units+1<cLine)(I:Inv X pins σ H s)(g:v7 H a y o)(ry:RelV y u)(h:∀s',Inv X pins σ H s'→Q (.bool o.isSome) s') :
  wpAny (model X.prog X.w) A (compareOp .In u (.ref a)) Q E s:=by
 rcases g with ⟨kvs,k,e,ey,l⟩ | ⟨kvs,k,b,e,ey,eb,l⟩
 ·subst ey
  obtain⟨z,hd,vs,rel,dd⟩:=V0 I.hok e
  refine wpAny_in_of (Y4 ry) hd dd.mapOf ?_
  rw[←(rel.val k).isSome_eq,←l]
  exact h _ (I.tok _)
 ·subst ey
  cases (show u=Value.ref b from ry)
  obtain⟨z,hd,xs,rel,dd⟩:=a2e I.hok e
  refine wpAny_in_heap (tupleKind_room_in1 hu) (a8d I.hok eb) hd dd ?_
  have q:=(rel.val k).isSome_eq
  rw[Option.isSome_map]at q
  rw[←q,←l]
  exact h _ (I.tok _)
theorem b4h{Q:Value→Shared→Prop}(hu:A.units+1<cLine)(I:Inv X pins σ H s)(g:v7 H a y o)(ry:RelV y u)(h:∀s',Inv X pins σ H s'→Q (.bool (!o.isSome)) s') :
  wpAny (model X.prog X.w) A (compareOp .NotIn u (.ref a)) Q E s:=by
 rcases g with ⟨kvs,k,e,ey,l⟩ | ⟨kvs,k,b,e,ey,eb,l⟩
 ·subst ey
  obtain⟨z,hd,vs,rel,dd⟩:=V0 I.hok e
  refine wpAny_notIn_of (Y4 ry) hd dd.mapOf ?_
  rw[←(rel.val k).isSome_eq,←l]
  exact h _ (I.tok _)
 ·subst ey
  cases (show u=Value.ref b from ry)
  obtain⟨z,hd,xs,rel,dd⟩:=a2e I.hok e
  refine wpAny_notIn_heap (tupleKind_room_in1 hu) (a8d I.hok eb) hd dd ?_
  have q:=(rel.val k).isSome_eq
  rw[Option.isSome_map]at q
  rw[←q,←l]
  exact h _ (I.tok _)
theorem a7c{h':Heap}{t':Nat}{ob:HO}(I:Inv X pins σ H s)(mu:Mut (H a))(hs:Heap.SameBut a s.heap h')(he:∃q,h'.get? a=some q)(new:y0 X.prog X.w (upd H a ob) h' a ob) :
  Inv X pins σ (upd H a ob) { s with heap:=h',toks:=t' }:=
 I.write (x:=a) (e:=a) mu (.inl rfl) (fun b q hb z=>(hs.2 b hb).trans z) he new
theorem a4t{P:Program}{w:World}{H':Hp}{h':Heap}{kvs:List (Key×V)}{vs:List (Key×Value)}(z:kvs.length≤sizeLine)(hd:(a==sysModules)=false)(rel:KV kvs vs)(dd:h'.DictOf (q5 P w) a vs) :
  y0 P w H' h' a (.dK kvs):=⟨z,hd,vs,rel,dd⟩
theorem a9T{H':Hp}{Q:Unit→Shared→Prop}(hu:A.units+1<cLine)(I:Inv X pins σ H s)(g:K6 H a y v H')(ry:RelV y u)(rv:RelV v r)(h:∀s',Inv X pins σ H' s'→Q () s') :
  wpAny (model X.prog X.w) A (setItem (.ref a) u r) Q E s:=by
 rcases g with ⟨kvs,k,e,ey,l,eH⟩ | ⟨kvs,k,b,e,ey,eb,l,eH⟩
 ·subst ey eH
  obtain⟨z,hd,vs,rel,dd⟩:=a8k I.hok e
  have hz:vs.length≤sizeLine:=by rw[←rel.length];exact z
  have hl:(putK kvs k v).length≤sizeLine:=by have:=a2c kvs k v;omega
  refine wpAny_setItem_pairs (hsz:=hz) (Y4 ry) dd fun h' dd' hs=>h _ ?_
  have he:∃q,h'.get? a=some q:=let ⟨q,_,_,hq,_⟩:=dd';⟨q,hq⟩
  exact a7c I (by rw[e];exact True.intro) hs he (a4t hl hd (rel.put k rv) dd')
 ·subst ey eH
  cases (show u=Value.ref b from ry)
  obtain⟨z,hd,xs,rel,dd⟩:=b9q I.hok e
  have hz:xs.length≤sizeLine:=by rw[←Paired.length rel];exact z
  have hl:(putK kvs k v).length≤sizeLine:=by have:=a2c kvs k v;omega
  refine wpAny_setItem_heap (hsz:=hz) (tupleKind_room_in1 hu) (a8d I.hok eb) dd fun h' dd' hs=>h _ ?_
  obtain⟨q,es,ep,hq,h2,h3,h4,_,h5⟩:=dd'
  refine a7c I (by rw[e];exact True.intro) hs ⟨q,hq⟩ ⟨hl,hd,_,(rel.put k eb rv).keeps fun c ys ec=>?_,q,es,ep,hq,h2,h3,h4,h5⟩
  rw[b8 (a3u ec e (fun z=>nomatch z))]
  exact ec
end
section
variable{X:Cx}{pins:List (Addr×Obj)}{σ:St}{H:Hp}{s:Shared}{a:Addr}{kvs:List (Key×V)}{k:Key}{u:Value}{A:Around}{E:Value→Shared→Prop}
theorem b6r{Q:Unit→Shared→Prop}(I:Inv X pins σ H s)(e:H a=some (.dK kvs))(ry:RelV (kV k) u)(l:(B6 kvs k).isSome=true)(h:∀s',Inv X pins σ (upd H a (.dK (C4 kvs k))) s'→Q () s') :
  wpAny (model X.prog X.w) A (delItem (.ref a) u) Q E s:=by
 obtain⟨z,hd,vs,rel,dd⟩:=a8k I.hok e
 refine wpAny_delItem_slot dd.typeIs (by decide) PySem.F.slot_dict_delitem
  (call_meetsIn PySem.F.slot_dict_delitem dd.typeIs PySem.F.entry_dict_delitem (PySem.F.args_dict_delitem_2 _ _) (meets_dict_delitem_pairs (q5 X.prog X.w) a (Y4 ry)) ⟨vs,dd,by rw[←rel.length];exact z,by rw[←(rel.val k).isSome_eq];exact l,fun h' dd' hs=>h _ ?_⟩)
 have he:∃q,h'.get? a=some q:=let ⟨q,_,_,hq,_⟩:=dd';⟨q,hq⟩
 exact a7c I (by rw[e];exact True.intro) hs he (a4t (Nat.le_trans (a7K kvs k) z) hd (rel.drop k) dd')
theorem b5p{v:V}{more:List Value}{Q:Value→Shared→Prop}(I:Inv X pins σ H s)(e:H a=some (.dK kvs))(ry:RelV (kV k) u)(l:B6 kvs k=some v)(hm:more=[]∨∃x,more=[x])
  (h:∀w' s',Inv X pins σ (upd H a (.dK (C4 kvs k))) s'→RelV v w'→Q w' s'):wpAny (model X.prog X.w) A (call (.builtin "dict.pop") (.ref a::u::more)) Q E s:=by
 obtain⟨z,hd,vs,rel,dd⟩:=a8k I.hok e
 obtain⟨w',hw,rw'⟩:=L7.some_of (v:=v) (o:=valueAt vs k) (by rw[←l];exact rel.val k)
 have hp:(keyPart u).isSome=true:=by
  cases k with
  | inl i=>obtain⟨t,q⟩:=(show ∃t,u=Value.int i t from ry);subst q;rfl
  | inr x=>obtain⟨t,q⟩:=(show ∃t,u=Value.str x t from ry);subst q;rfl
 have ha:argsOk "dict.pop" ⟨.ref a::u::more,[]⟩:=by
  rcases hm with q | ⟨x,q⟩
  ·subst q;exact PySem.F.args_dict_pop_2 _ _
  ·subst q;exact PySem.F.args_dict_pop_3 _ _ _
 refine call_meetsIn PySem.F.slot_dict_pop dd.typeIs PySem.F.entry_dict_pop ha (meets_dict_pop_there (q5 X.prog X.w) a (Y4 ry) more hm hp)
  ⟨vs,w',dd,by rw[←rel.length];exact z,hw,fun h' dd' hs=>h w' _ ?_ rw'⟩
 have he:∃q,h'.get? a=some q:=let ⟨q,_,_,hq,_⟩:=dd';⟨q,hq⟩
 exact a7c I (by rw[e];exact True.intro) hs he (a4t (Nat.le_trans (a7K kvs k) z) hd (rel.drop k) dd')
theorem b5q{Q:Value→Shared→Prop}(I:Inv X pins σ H s)(e:Rd H a (.dK kvs))(h:∀t s',Inv X pins σ H s'→Q (.int kvs.length t) s'):wpAny (model X.prog X.w) A (call (.builtin "len") [.ref a]) Q E s:=by
 obtain⟨z,hd,vs,rel,dd⟩:=V0 I.hok e
 refine call_len_dict hd dd (by rw[←rel.length];rw[sizeLine_eq]at z;omega) ?_
 rw[←rel.length]
 exact h _ _ (I.tok _)
end
def b3m(i:Expr):Prop:=∀ov iv,subscripted i false ov iv=operate [ov,iv] (getItem ov iv)
theorem b0k{prog:Program}{w:World}{A:Around}{E:Value→Shared→Prop}{s:Shared}{env:Env}{value slice:Expr}{pos:Pos}{T id:String}{Q:Value→Shared→Prop}
  (hl:typeLookup (.type T) "__getitem__"=pure (some (.builtin id))) (hs:b3m slice)
  (h:wpAny (model prog w) A (eval value env) (fun o s₁=>wpAny (model prog w) A (eval slice env) (fun i s₂=>s₂.TypeIs o T∧wpAny (model prog w) A (getItem o i) Q E s₂) E s₁) E s) :
  wpAny (model prog w) A (eval (.Subscript value slice pos) env) Q E s:=by
 refine Subscript_ (wpAny_mono h (fun o s₁ h₁=>wpAny_mono h₁ (fun i s₂ h₂=>?_) fun _ _ x=>x) fun _ _ x=>x)
 obtain⟨hT,h₂⟩:=h₂
 unfold subscriptTail
 refine wpAny_bind ?_
 rw[getitemInPython_of_ne hT.not_modules]
 refine wpAny_bind (wpAny_specialOf hT hl ?_)
 have fin:wpAny (model prog w) A (subscripted slice false o i) (fun r s₃=>wpAny (model prog w) A (letTemporaryGo value o r >>= fun _=>pure r) Q E s₃) E s₂:=by
  rw[hs o i]
  exact wpAny_operating (wpAny_mono h₂ (fun r s₃ h₃=>wpAny_bind (wpAny_letTemporaryGo (wpAny_pure h₃))) fun _ _ x=>x)
 first
  | exact wpAny_pure (wpAny_bind fin)
  | exact wpAny_bind (wpAny_pure (wpAny_bind fin))
  | exact wpAny_bind fin
theorem a6L{X:Cx}{pins:List (Addr×Obj)}{σ:St}{H:Hp}{s:Shared}{a:Addr}{y:V}{o:Option V}(I:Inv X pins σ H s)(g:v7 H a y o):s.TypeIs (.ref a) "dict":=by
 rcases g with ⟨kvs,k,e,_,_⟩ | ⟨kvs,k,b,e,_,_,_⟩
 ·obtain⟨_,_,vs,_,dd⟩:=V0 I.hok e
  exact dd.typeIs
 ·obtain⟨_,_,xs,_,dd⟩:=a2e I.hok e
  exact dd.typeIs
inductive IDg(x y:V)(H:Hp)(Q:VK):Prop
 | mk (a:Addr) (v:V) (e:x=.ref a) (g:v7 H a y (some v)) (q:Q v H)
def b8p(td ty:TE):TE:=fun σ H Q=>td σ H fun x H1=>ty σ H1 fun y H2=>IDg x y H2 Q
def b7q(td ty tv:TE):TS:=fun D σ H=>tv σ H fun v H1=>td σ H1 fun x H2=>ty σ H2 fun y H3=>∃a H4,x=.ref a∧K6 H3 a y v H4∧D.nx σ H4
section
variable{X:Cx}{o i e value:Expr}{pos pos' tpos:Pos}{td ty tv:TE}
theorem u5(hu:X.A.units+1<cLine)(ho:PE X o td)(hi:PE X i ty)(hs:b3m i):PE X (.Subscript o i pos) (b8p td ty):=by
 intro pins s σ H Q I h
 refine b0k PySem.F.slot_dict_getitem.lookup hs (k7 (ho pins s σ H _ I h) fun u s1 ⟨x,H1,I1,rx,q1⟩=>k7 (hi pins s1 σ H1 _ I1 q1) fun iv s2 ⟨y,H2,I2,ry,a,v,ex,g,q2⟩=>?_)
 subst ex
 obtain rfl:u=Value.ref a:=rx
 exact⟨a6L I2 g,a3X hu I2 g ry fun w' s3 I3 rw'=>⟨v,H2,I3,rw',q2⟩⟩
theorem C1(hu:X.A.units+1<cLine)(ho:PE X o td)(hi:PE X i ty)(hv:PE X value tv)(hs:swapsWith value (some (.Subscript o i pos')) pos.line X.env=pure false) :
  PS X (.Assign [.Subscript o i pos'] value pos) (b7q td ty tv):=by
 intro pins s σ H D I h
 refine wpAny_Assign_Subscript (k7 (hv pins s σ H _ I h) fun r s1 ⟨v,H1,I1,rv,q1⟩=>k7 (ho pins s1 σ H1 _ I1 q1) fun u s2 ⟨x,H2,I2,rx,q2⟩=>k7 (hi pins s2 σ H2 _ I2 q2) fun iv s3 ⟨y,H3,I3,ry,a,H4,ex,g,q3⟩=>?_) hs
 subst ex
 obtain rfl:u=Value.ref a:=rx
 exact a9T hu I3 g ry rv fun s4 I4=>⟨σ,H4,I4,q3⟩
end
theorem b7e{P:Program}{w:World}{H:Hp}(h:Heap)(hb:sysModules<h.objs.size):y0 P w H (h.push { cls:=.type "dict",data:=.dict #[] }) h.objs.size (.dK []):=
 ⟨Nat.zero_le _,beq_eq_false_iff_ne.mpr (Ne.symm (Nat.ne_of_lt hb)),[],.nil,Heap.DictOf.new h⟩
def b8o:TE:=fun _ H Q=>∀p,H p=none→Q (.ref p) (upd H p (.dK []))
section
variable{X:Cx}{pos:Pos}
theorem A9:PE X (.Dict [] [] pos) b8o:=fun pins s σ H Q I h=>
 wpAny_Dict_empty ⟨.ref s.heap.objs.size,_,I.laid (a:=s.heap.objs.size) (o:=.dK []) (t':=s.toks) (fun _ _ q=>Heap.get?_push_of_some _ q) (Nat.le_refl _) (b7e s.heap I.big),rfl,h _ (I.hok.fresh (Nat.le_refl _))⟩
end
structure M1(X:Cx)(o:Expr)(m:Str)(apos:Pos)(e:Expr)(cpos:Pos):Prop where
 base:attributeBase o m X.env (eval o X.env)=eval o X.env
 few:((backTo cpos (starEach [e] X.env)).all (fun x=>!x.1)&&(backToKw cpos (keywordEach [] X.env)).all (fun x=>x.1.isSome)
  && decide (([e]:List Expr).length+([]:List Keyword).length+(if ([]:List Keyword).isEmpty then 0 else 1)<30))=true
 line:(apos.endLine==cpos.line)=true
 trees:backTo cpos (starEach [e] X.env)=[(false,eval e X.env)]
structure M2(X:Cx)(o:Expr)(m:Str)(apos:Pos)(e f:Expr)(cpos:Pos):Prop where
 base:attributeBase o m X.env (eval o X.env)=eval o X.env
 few:((backTo cpos (starEach [e,f] X.env)).all (fun x=>!x.1)&&(backToKw cpos (keywordEach [] X.env)).all (fun x=>x.1.isSome)
  && decide (([e,f]:List Expr).length+([]:List Keyword).length+(if ([]:List Keyword).isEmpty then 0 else 1)<30))=true
 line:(apos.endLine==cpos.line)=true
 trees:backTo cpos (starEach [e,f] X.env)=[(false,eval e X.env),(false,eval f X.env)]
def IsD(H:Hp)(a:Addr):Prop:=(∃kvs,Rd H a (.dK kvs))∨∃kvs,Rd H a (.dT kvs)
theorem a2i{X:Cx}{pins:List (Addr×Obj)}{σ:St}{H:Hp}{s:Shared}{a:Addr}(I:Inv X pins σ H s)(d:IsD H a) :
  s.TypeIs (.ref a) "dict"∧(∀b,Value.ref a=.ref b→∃ob,s.heap.get? b=some ob∧ob.dict=none)∧(a==sysModules)=false:=by
 rcases d with ⟨kvs,e⟩ | ⟨kvs,e⟩
 ·obtain⟨_,hd,vs,_,dd⟩:=V0 I.hok e
  refine⟨dd.typeIs,fun b q=>?_,hd⟩
  cases q
  obtain⟨ob,_,_,h1,h2,_⟩:=dd
  exact⟨ob,h1,h2.2.1⟩
 ·obtain⟨_,hd,xs,_,dd⟩:=a2e I.hok e
  refine⟨dd.typeIs,fun b q=>?_,hd⟩
  cases q
  obtain⟨ob,_,_,h1,h2,_⟩:=dd
  exact⟨ob,h1,h2.2.1⟩
section
variable{X:Cx}{pins:List (Addr×Obj)}{σ:St}{H:Hp}{s:Shared}{a:Addr}{y d:V}{u r:Value}{o:Option V}{A:Around}{E:Value→Shared→Prop}
theorem b6o{Q:Value→Shared→Prop}(hu:A.units+1<cLine)(I:Inv X pins σ H s)(g:v7 H a y o)(ry:RelV y u)(rd:RelV d r)(h:∀w' s',Inv X pins σ H s'→RelV (o.getD d) w'→Q w' s') :
  wpAny (model X.prog X.w) A (call (.builtin "dict.get") [.ref a,u,r]) Q E s:=by
 rcases g with ⟨kvs,k,e,ey,l⟩ | ⟨kvs,k,b,e,ey,eb,l⟩
 ·subst ey
  obtain⟨z,hd,vs,rel,dd⟩:=V0 I.hok e
  refine call_meetsIn PySem.F.slot_dict_get dd.typeIs PySem.F.entry_dict_get (PySem.F.args_dict_get_3 _ _ _) (meets_dict_get_default (q5 X.prog X.w) a (Y4 ry) hd r) ⟨_,dd.mapOf,h _ _ (I.tok _) ?_⟩
  rw[l]
  exact(rel.val k).getD rd
 ·subst ey
  cases (show u=Value.ref b from ry)
  obtain⟨z,hd,xs,rel,dd⟩:=a2e I.hok e
  refine call_meetsIn PySem.F.slot_dict_get dd.typeIs PySem.F.entry_dict_get (PySem.F.args_dict_get_3 _ _ _) (meetsH_dict_get_default (tupleKind (q5 X.prog X.w)) a b hd r) ⟨tupleKind_room_in1 hu,k,xs,a8d I.hok eb,dd,h _ _ (I.tok _) ?_⟩
  rw[l]
  exact(rel.val k).getD rd
end
def b7l(td ty tx:TE):TE:=fun σ H Q=>td σ H fun x H1=>∃a,x=.ref a∧IsD H1 a∧ty σ H1 fun y H2=>tx σ H2 fun z H3=>∃o,v7 H3 a y o∧Q (o.getD z) H3
def b8n(td ty:TE):TE:=fun σ H Q=>td σ H fun x H1=>∃a,x=.ref a∧IsD H1 a∧ty σ H1 fun y H2=>∃kvs k v,H2 a=some (.dK kvs)∧y=kV k∧B6 kvs k=some v∧Q v (upd H2 a (.dK (C4 kvs k)))
section
variable{X:Cx}{o e f:Expr}{apos cpos:Pos}{td ty tx:TE}
theorem b1c(hu:X.A.units+1<cLine)(ho:PE X o td)(he:PE X e ty)(hf:PE X f tx)(m:M2 X o "get" apos e f cpos):PE X (.Call (.Attribute o "get" apos) [e,f] [] cpos) (b7l td ty tx):=by
 intro pins s σ H Q I h
 refine wpAny_Call_method m.base m.few m.line PySem.F.plainAttrs_dict PySem.F.slot_dict_get PySem.F.type_dict_get (k7 (ho pins s σ H _ I h) fun u s1 ⟨x,H1,I1,rx,a,ex,d,q1⟩=>?_)
 subst ex
 obtain rfl:u=Value.ref a:=rx
 obtain⟨t1,t2,_⟩:=a2i I1 d
 refine⟨t1,t2,?_⟩
 rw[m.trees]
 refine Calls.callWith_builtin rfl (Calls.evalArgs_plain (Calls.spliced_cons (k7 (he pins s1 σ H1 _ I1 q1) fun iv s2 ⟨y,H2,I2,ry,q2⟩=>
  Calls.spliced_cons (k7 (hf pins s2 σ H2 _ I2 q2) fun fv s3 ⟨z,H3,I3,rz,ov,g,q3⟩=>Calls.spliced_nil ?_))))
 exact b6o hu I3 g ry rz fun w' s4 I4 rw'=>⟨_,H3,I4,rw',q3⟩
theorem a9f(ho:PE X o td)(he:PE X e ty)(m:M1 X o "pop" apos e cpos):PE X (.Call (.Attribute o "pop" apos) [e] [] cpos) (b8n td ty):=by
 intro pins s σ H Q I h
 refine wpAny_Call_method m.base m.few m.line PySem.F.plainAttrs_dict PySem.F.slot_dict_pop PySem.F.type_dict_pop (k7 (ho pins s σ H _ I h) fun u s1 ⟨x,H1,I1,rx,a,ex,d,q1⟩=>?_)
 subst ex
 obtain rfl:u=Value.ref a:=rx
 obtain⟨t1,t2,_⟩:=a2i I1 d
 refine⟨t1,t2,?_⟩
 rw[m.trees]
 refine Calls.callWith_builtin rfl (Calls.evalArgs_plain (Calls.spliced_cons (k7 (he pins s1 σ H1 _ I1 q1) fun iv s2 ⟨y,H2,I2,ry,kvs,k,v,ea,ey,l,q2⟩=>Calls.spliced_nil ?_)))
 subst ey
 exact b5p I2 ea ry l (.inl rfl) fun w' s3 I3 rw'=>⟨v,_,I3,rw',q2⟩
end
section
variable{X:Cx}{pins:List (Addr×Obj)}{σ:St}{H:Hp}{s:Shared}{a:Addr}{kvs:List (Key×V)}{A:Around}{E:Value→Shared→Prop}
end
section
variable{X:Cx}{pins:List (Addr×Obj)}{σ:St}{H:Hp}{s:Shared}{a:Addr}{y:V}{u:Value}{A:Around}{E:Value→Shared→Prop}
end
end L2
namespace Att
open PySem PySem.W PySem.Calls PyProof.Rows
theorem a7r{P:Params}{h:Heap}:∀(ns:List Int) (vs:List Value),WellAll P h vs (ns.map WData.int)→IntsAre vs ns:=by
 intro ns
 induction ns with
 | nil=>
  intro vs w
  rw[List.map_nil]at w
  cases w
  exact .nil
 | cons n ns ih=>
  intro vs w
  rw[List.map_cons]at w
  cases w with
  | cons a b=>
   cases a
   exact .cons _ _ (ih _ b)
theorem a4W{l:OpenLaw}{n:Nat}(hn:l.most=some n){P:Params}{h:Heap}{args:List WData}{vals:List Value}
  (hpre:l.row.toRowW.claim.pre args=true) (hwl:WellAll P h vals args) :
  ∃a vs ns,vals=[Value.ref a]∧args=[WData.list (ns.map WData.int)]∧h.get? a=some { cls:=.type "list",data:=.seq vs.toArray }∧IntsAre vs ns∧ns.length≤n:=by
 have hsh:WShape.hasAll [] args [.list .int]=true:=(pre_splitW hpre).1
 have hc:l.pre.holds [] { args:=args }=true:=(pre_splitW hpre).2
 obtain⟨d,r,rfl,h1,h2⟩:=hasAllW_cons hsh
 obtain rfl:=hasAllW_nil h2
 obtain⟨xs,rfl,h3⟩:=hasW_list h1
 obtain⟨ns,rfl⟩:=items_int h3
 have hlen:ns.length≤n:=by
  unfold OpenLaw.pre at hc
  have h4:(WTm.not (.lt (.lit (.int (n:Int))) (.len (.arg 0)))).holds [] { args:=[.list (ns.map .int)] }=true:=by
   have h4:=(holds_andW hc).1
   rw[hn]at h4
   exact h4
  have h5:=condW_of h4 (w_not (w_lt w_lit (w_len_list (w_arg rfl))))
  rw[List.length_map]at h5
  refine Nat.le_of_not_lt fun q=>?_
  have q':(n:Int)<((ns.length:Nat):Int):=by omega
  first
   | (rw[decide_eq_true q']at h5;exact absurd h5 (by decide))
   | (simp at h5;omega)
 cases hwl with
 | cons w1 w2=>
  cases w2
  cases w1 with
  | list ho hall=>exact⟨_,_,ns,rfl,rfl,ho,a7r ns _ hall,hlen⟩
theorem a6Y(l:OpenLaw)(args:List WData):l.row.toRowW.claim.post args (.bool true) args=true:=
 postW_of (r:=l.row.toRowW) (X:=(true==true))
  (show WShape.has [] (.bool true) .bool=true by first | rfl | decide | simp[WShape.has,WShape.arms,WShape.armsAll])
  (show(WTm.eq .res (.lit (.bool true))).value [] { args:=args,res:=some (.bool true),after:=args }=some (.bool (true==true)) from w_eq_bool (w_res rfl) w_lit) rfl
theorem a1M{l:OpenLaw}{n:Nat}{q:Program}{loose:List Str}{XP:(Str→Option Value)→Heap→Prop}{YP:World→Heap→Prop}{d:DefRec}
  (hn:l.most=some n) (hdf:d.params.defaults=[])
  (call:∀(w:World) (s₀ s₁:Shared) (mg mb:Str→Option Value) (fa:Addr) (o:Obj) (pm cd doc:Value) (a:Addr) (vs:List Value) (ns:List Int),
   Ground q loose [] XP w s₀ mg mb s₁.heap→YP w s₁.heap →
   s₁.heap.get? fa=some o→o.data=.func (docDef d.name d.params d.body d.scope pm cd doc)→s₁.heap.CodeRec cd d.name→mg d.name=some (.ref fa) →
   s₁.heap.get? a=some { cls:=.type "list",data:=.seq vs.toArray }→IntsAre vs ns→ns.length≤n→s₁.gens=#[] →
   codeAny (model l.prog w) callerA (.call (.ref fa) ⟨[.ref a],[]⟩) (fun r s'=>r=.ok (.ret (.bool true))∧OldK s₁.heap s'.heap∧s'.os=s₁.os∧AllBare s'.gens) s₁) :
  WalkO q loose XP YP l.row.toRowW d [] (fun f vs=>PySem.call f vs):=by
 intro w s₀ s₁ mg mb G Y fa o pm cd doc dV kV ho hd hcd hD hmg hg args vals as hpre hlay hrd hwl hlo
 obtain rfl:dV=.none:=Dflts.none hD hdf
 obtain rfl:kV=.none:=Dflts.noKw hD
 obtain⟨a,vs,ns,rfl,rfl,hobj,hints,hlen⟩:=a4W hn hpre hwl
 refine enter_call (codeAny_mono (call w s₀ s₁ mg mb fa o pm cd doc a vs ns G Y ho (fd_plain hd) hcd hmg hobj hints hlen hg) fun r s' hq=>?_)
 obtain⟨rfl,h2,h3,h4⟩:=hq
 exact⟨.inl ⟨.bool true,.bool true,[],rfl,fun _=>rfl,.bool true,a6Y l _,fun _=>⟨List.Pairwise.nil,fun _ hm=>(nomatch hm)⟩⟩,h2,h3,h4⟩
section
variable{prog:Program}{w:World}{A:Around}{E:Value→Shared→Prop}{s:Shared}{K:Frag}
end
end Att
namespace L2
open PySem PySem.Spec PyProof.Rows
theorem a7A:∀{vs:List Value} {ns:List Int},IntsAre vs ns→i8 (ns.map V.int) vs
 | _,_,.nil=>.nil
 | _,_,.cons n t h=>.cons ⟨t,rfl⟩ (a7A h)
def b3c(H:Hp):Prop:=∀b,H b=none∨∃o xs,H b=some (.frz o (.lst xs))
theorem b0d{P:Program}{w:World}{K:PySem.W.Frag}{mg mb:Str→Option Value}{CX:CXT}{k:Nat}{fa a:Addr}{fd:FuncData}{x:Str}{sp:Sp}{s₁:Shared}{vs:List Value}{ns:List Int}
  (KX:K.In s₁.heap) (hns:s₁.heap.Ns mainGlobals mg) (hb:s₁.heap.Ns builtinsNs mb) (hbb:∀x:Str,x≠"__name__"→mb x=bootBuiltins x) (hlim:s₁.heap.NoLimit) (hg:s₁.gens=#[])
  (ha:s₁.heap.get? a=some { cls:=.type "list",data:=.seq vs.toArray }) (hi:IntsAre vs ns) (hl:ns.length≤sizeLine) (hr:B7 k callerA)
  (F:∀base:Heap,K.In base→base.Ns mainGlobals mg→g7 P w K mg base CX k fa fd [x] sp) (hbind:∀(s:Shared) (u:Value),BindsTo s fd ⟨[u],[]⟩ [(x,u)])
  (hsp:∀H:Hp,b3c H→d9 K H a (ns.map V.int)→sp [.ref a] H (fun v _=>v=.bl true) fun _ _ _=>False)
  (hCX:∀H e s',CX [] H s₁ (fun _ _ _=>False) e s'→False) :
  codeAny (model P w) callerA (.call (.ref fa) ⟨[.ref a],[]⟩) (fun r s'=>r=.ok (.ret (.bool true))∧OldK s₁.heap s'.heap∧s'.os=s₁.os∧AllBare s'.gens) s₁:=by
 have rv:=a7A hi
 have lenV:=hi.length
 have core:∀H:Hp,b3c H→d9 K H a (ns.map V.int)→F8 P w H s₁.heap→(∀b,H b≠none→b=a)→(H a≠none→K.lookup a=none) →
   codeAny (model P w) callerA (.call (.ref fa) ⟨[.ref a],[]⟩) (fun r s'=>r=.ok (.ret (.bool true))∧OldK s₁.heap s'.heap∧s'.os=s₁.os∧AllBare s'.gens) s₁:=by
  intro H hO hS hok hA hK
  have base_of:∀{b:Addr} {o:Obj},s₁.heap.get? b=some o→H b=none→(a4e s₁.heap H).get? b=some o:=fun e n=>b8d e n
  have noA:∀{b:Addr} {o:Obj} {es:Array DictEntry} {ep:Nat},s₁.heap.get? b=some o→o.data=.dict es ep→H b=none:=fun {b o es ep} e d=>by
   cases q:H b with
   | none=>rfl
   | some u=>
    have e':b=a:=hA b (by rw[q];simp)
    subst e'
    rw[ha]at e;cases e
    have d':Data.seq vs.toArray _=Data.dict es ep:=d
    cases d'
  have nsK:∀{b:Addr} {m:Str→Option Value},s₁.heap.Ns b m→(a4e s₁.heap H).Ns b m:=fun {b m} ⟨o,es,ep,e,d,r⟩=>⟨o,es,ep,base_of e (noA e d),d,r⟩
  have hKb:K.In (a4e s₁.heap H):=fun b o e=>base_of (KX b o e) (by
   cases q:H b with
   | none=>rfl
   | some u=>
    have e':b=a:=hA b (by rw[q];simp)
    subst e'
    rw[hK (by rw[q];simp)] at e;cases e)
  have hM:Mod K mg (a4e s₁.heap H):=⟨hKb,nsK hns,⟨mb,nsK hb,hbb⟩,let ⟨mc,h1,h2⟩:=hlim;⟨mc,nsK h1,h2⟩⟩
  have e0:a1p P w K mg (a4e s₁.heap H) callerA [] s₁ H:=⟨rfl,hM,fun b o e=>b7j e,Nat.le_of_eq (a8V _ _),trivial,fun b hb=>absurd (show b∈([]:List Addr) from hb) (by simp),hok,.of_eq hg⟩
  refine codeAny_mono ((F _ hKb (nsK hns)).run callerA [] s₁ H ⟨[.ref a],[]⟩ [.ref a] [.ref a] _ _ hr e0 (hbind s₁ (.ref a)) (.cons rfl .nil) (hsp H hO hS)) fun r s' h=>?_
  cases r with
  | error e=>exact(hCX H e s' h).elim
  | ok fl=>
   cases fl with
   | next=>exact False.elim h
   | brk=>exact False.elim h
   | cont=>exact False.elim h
   | ret u=>
    obtain⟨v,H',os,bare,un,hok',r',q⟩:=h
    have q':v=.bl true:=q
    subst q'
    obtain rfl:u=Value.bool true:=r'
    refine⟨rfl,OldK.of_keep fun b o e=>?_,os,bare⟩
    cases q:H b with
    | none=>exact un.keep b o e q (by intro z;exact absurd (show b∈([]:List Addr) from z) (by simp)) (by simp)
    | some u=>
     rcases hO b with z | ⟨ob,xs,z⟩
     ·rw[q]at z;cases z
     ·have z2:=un.frzs b ob _ z
      obtain⟨e1,_⟩:=hok b _ z
      obtain⟨e2,_⟩:=hok' b _ z2
      rw[e]at e1;cases e1
      exact e2
 cases hk:K.lookup a with
 | some o=>
  have e:=KX a o hk
  rw[ha]at e
  cases e
  refine core (fun _=>none) (fun _=>.inl rfl) (.inr ⟨_,vs.toArray,_,hk,rfl,rfl,rfl,by rw[List.size_toArray,lenV];exact hl,by simpa using rv⟩) (fun b u z=>by have z':(none:Option HO)=some u:=z;cases z') (fun b z=>absurd rfl z) fun z=>absurd rfl z
 | none=>
  refine core (fun b=>if b=a then some (.frz { cls:=.type "list",data:=.seq vs.toArray } (.lst (ns.map V.int))) else none) (fun b=>?_) (.inl (.inr ⟨{ cls:=.type "list",data:=.seq vs.toArray },if_pos rfl⟩)) (fun b u z=>?_) (fun b z=>?_) fun _=>hk
  ·by_cases hb:b=a
   ·exact .inr ⟨_,_,if_pos hb⟩
   ·exact .inl (if_neg hb)
  ·by_cases hb:b=a
   ·have z':=(if_pos hb).symm.trans z
    cases z'
    subst hb
    exact⟨ha,by rw[List.length_map];exact hl,vs,_,rv,ha⟩
   ·have z':=(if_neg hb).symm.trans z
    cases z'
  ·by_cases hb:b=a
   ·exact hb
   ·exact absurd (if_neg hb) z
end L2
namespace L2
open PySem PySem.Spec PyProof.Rows
theorem b8h{l:PySem.W.OpenLaw}{n k:Nat}{q:Program}{loose:List Str}{XP:(Str→Option Value)→Heap→Prop}{YP:World→Heap→Prop}{d:DefRec}{K:Params→PySem.W.Frag}{CX:World→CXT}{sp:World→Sp}{x:Str}
  (hn:l.most=some n) (hn2:n≤sizeLine) (hdf:d.params.defaults=[]) (hr:B7 k callerA)
  (hY:∀(w:World) (h:Heap),YP w h→(K w.params).In h)
  (F:∀(w:World) (mg:Str→Option Value) (fa:Addr) (h:Heap),(K w.params).In h→h.Ns mainGlobals mg→mg d.name=some (.ref fa) →
   ∃fd:FuncData,(∀(s:Shared) (u:Value),BindsTo s fd ⟨[u],[]⟩ [(x,u)]) ∧
    ∀base:Heap,(K w.params).In base→base.Ns mainGlobals mg→g7 l.prog w (K w.params) mg base (CX w) k fa fd [x] (sp w))
  (hsp:∀(w:World) (H:Hp) (a:Addr) (ns:List Int),ns.length≤n→b3c H→d9 (K w.params) H a (ns.map V.int)→sp w [.ref a] H (fun v _=>v=.bl true) fun _ _ _=>False)
  (hCX:∀(w:World) (H:Hp) (s:Shared) (e:Value) (s':Shared),CX w [] H s (fun _ _ _=>False) e s'→False) :
  PySem.W.WalkO q loose XP YP l.row.toRowW d [] (fun f vs=>PySem.call f vs):=by
 refine Att.a1M hn hdf fun w s₀ s₁ mg mb fa o pm cd doc a vs ns G Y ho hd hcd hmg hobj hints hlen hg=>?_
 have KX:=hY w _ Y
 obtain⟨fd,hb,hF⟩:=F w mg fa _ KX G.T.g hmg
 exact b0d KX G.T.g G.T.b G.T.builtins G.T.nolimit hg hobj hints (Nat.le_trans hlen hn2) hr hF hb (fun H hO hS=>hsp w H a ns hlen hO hS) fun H e s'=>hCX w H s₁ e s'
end L2
namespace L2
open PySem PySem.Spec PyProof.Rows
abbrev x9:CXT:=fun _ _ _ _ _ _=>False
abbrev E0:XK:=fun _ _ _=>False
theorem j7{X:Cx}:V4 x9 X E0:=fun _ _ _ _ _ _ _ h=>h.elim
structure Fun(K:PySem.W.Frag)(x qual:Str)(st:Stmt)(f:Addr)(fd:FuncData):Prop where
 ex:∃(oc:Value) (od:Option Addr) (kV doc pm:Value) (an:Option Addr) (cdv ct:Value) (osl:Array (Option Value)),
  fd=PySem.W.fnOf x qual (Y5 st) (U2 st) (i4 st) .none kV doc pm an cdv ct∧K.lookup f=some ⟨oc,od,.func fd,osl⟩∧PySem.W.codeIn K cdv qual=true
 kp:PySem.W.keepIn K (.ref f)=true
section
variable{P:Program}{w:World}{K:PySem.W.Frag}{mg:Str→Option Value}{base:Heap}
theorem Fun.ok{x qual:Str}{st:Stmt}{f:Addr}{fd:FuncData}{N ps:List Str}{k:Nat}{sp:Sp}(F:Fun K x qual st f fd)(S:j3 N ps (i4 st))(len:∀vs H Q E,sp vs H Q E→vs.length=ps.length)
  (hbody:∀(cdv:Value) (A:Around) (outer:List Env) (s:Shared) (H:Hp) (vs:List V) (Q:VK) (E:XK),B7 k (A.deeper (envOfC qual (i4 st) s.heap.objs.size f cdv))→sp vs H Q E →
   ∃t,PSs (a9z x9 P w K mg base N qual (i4 st) f cdv A outer s H E).nox (U2 st) t∧t { nx:=fun _ H'=>Q .non H',rt:=Q } (start N vs) H):g7 P w K mg base x9 (k+1) f fd ps sp:=by
 obtain⟨oc,od,kV,doc,pm,an,cdv,ct,osl,rfl,lk,hcd⟩:=F.ex
 refine b9p lk hcd S len fun A outer s H vs Q E hr hsp=>?_
 obtain⟨t,h,q⟩:=hbody cdv A outer s H vs Q E hr hsp
 exact⟨t,h.nox,q⟩
theorem b5l{x qual:Str}{st:Stmt}{f:Addr}{oc:Value}{od an:Option Addr}{osl:Array (Option Value)}{kV doc pm cdv ct:Value}(l:K.lookup f=some ⟨oc,od,.func (PySem.W.fnOf x qual (Y5 st) (U2 st) (i4 st) .none kV doc pm an cdv ct),osl⟩)
  (c:PySem.W.codeIn K cdv qual=true) (k:PySem.W.keepIn K (.ref f)=true):Fun K x qual st f (PySem.W.fnOf x qual (Y5 st) (U2 st) (i4 st) .none kV doc pm an cdv ct):=⟨⟨oc,od,kV,doc,pm,an,cdv,ct,osl,rfl,l,c⟩,k⟩
end
theorem O7{A:Around}{k:Nat}(hr:B7 k A):A.units+1<cLine:=Nat.lt_of_le_of_lt (Nat.add_le_add_left (by decide:1≤64) _) hr.units
theorem L0{n:Nat}(h:n≤1000):n<sizeLine:=Nat.lt_of_le_of_lt h (by decide)
section
variable{X:Cx}
theorem pv(i:Nat){x:Str}{pos:Pos}(hN:X.N[i]?=some x:=by rfl)(hv:Vis X.env.scope x:=by first | exact Or.inl rfl | exact Or.inr (Or.inl rfl) | exact Or.inr (Or.inr rfl))(hd:(x==("__debug__":Str))=false:=by decide)
  (hcd:(x==("__classdict__":Str))=false:=by decide):PE X (.Name x pos) (b1n i):=b9l hN hv hd hcd
theorem a4h:L6 X (.builtin "len") (fun xs H Q=>∃a kvs,xs=[V.ref a]∧H a=some (.dK kvs)∧Q (.int kvs.length) H):=by
 intro pins s σ H xs us Q I r h
 obtain⟨a,kvs,rfl,ha,q⟩:=h
 obtain⟨u,rfl,ru⟩:=vals1 r
 cases ru
 exact b5q I (.inl ha) fun t s' I'=>⟨.int kvs.length,H,I',⟨t,rfl⟩,q⟩
end
theorem g8{A B:Prop}(h:B):if false=true then A else B:=by
 rw[if_neg Bool.false_ne_true]
 exact h
theorem l7{A B:Prop}(h:A):if true=true then A else B:=by
 rw[if_pos rfl]
 exact h
theorem G8{c A B:Prop}[Decidable c](h1:c→A)(h2:¬c→B):if c then A else B:=by
 by_cases h:c
 ·rw[if_pos h]
  exact h1 h
 ·rw[if_neg h]
  exact h2 h
theorem V1{c A B:Prop}[Decidable c](hc:c)(h:B):if (!decide c)=true then A else B:=by
 rw[decide_eq_true hc]
 exact g8 h
def h7(H H':Hp):Prop:=∀b o,H b=some o→H' b=some o
theorem h7.refl(H:Hp):h7 H H:=fun _ _ h=>h
theorem h7.trans{H H1 H2:Hp}(a:h7 H H1)(b:h7 H1 H2):h7 H H2:=fun c o h=>b c o (a c o h)
section
variable{κ:Type}[DecidableEq κ]
end
end L2
namespace L2
open PySem PySem.Spec PyProof.Rows
def T8(X:Cx)(own tl:List Str)(scope:Scope)(cl:List (Str×Addr))(C:Addr)(s₀:Shared)(H₀:Hp)(ex:List Addr):Cx where
 prog:=X.prog
 w:=X.w
 K:=X.K
 mg:=X.mg
 base:=X.base
 A:=X.A
 N:=own++tl
 s₀:=s₀
 H₀:=H₀
 env:=compEnvC scope cl C X.env
 outer:=X.stack
 stack:=X.stack
 ex:=ex
 fn:=fun _=>false
 calm:=X.calm
 pn:=[]
 xe:=fun _ _=>False
def a5b(names:List (Str×NameKind)):List Str→List Str→Bool
 | [],[]=>true
 | n::r,m::q=>(match names.lookup n with
  | some .local=>false
  | some .cell=>false
  | some .free=>decide (n=m)
  | _=>true)&&a5b names r q
 | _,_=>false
theorem a4H{names:List (Str×NameKind)}:∀{a b:List Str},a5b names a b=true→a.length=b.length
 | [],[],_=>rfl
 | [],_::_,h=>by simp[a5b]at h
 | _::_,[],h=>by simp[a5b]at h
 | n::r,m::q,h=>by
  unfold a5b at h
  rw[Bool.and_eq_true]at h
  simp[a4H h.2]
theorem a7O{names:List (Str×NameKind)}:∀{a b:List Str} {i:Nat} {x:Str},a5b names a b=true→a[i]?=some x →
  names.lookup x≠some .local∧names.lookup x≠some .cell∧(names.lookup x=some .free→b[i]?=some x)
 | [],_,_,_,_,e=>by simp at e
 | _::_,[],_,_,h,_=>by simp[a5b]at h
 | n::r,m::q,0,x,h,e=>by
  unfold a5b at h
  rw[Bool.and_eq_true]at h
  have e':n=x:=by simpa using e
  subst e'
  have h1:=h.1
  refine⟨fun z=>by rw[z]at h1;simp at h1,fun z=>by rw[z]at h1;simp at h1,fun z=>?_⟩
  rw[z]at h1
  have h2:n=m:=by simpa using h1
  simp[h2]
 | n::r,m::q,i+1,x,h,e=>by
  unfold a5b at h
  rw[Bool.and_eq_true]at h
  have r:=a7O (i:=i) h.2 (by simpa using e)
  simpa using r
def U5(X:Cx)(scope:Scope):Bool:=
 (scope.names.all fun y=>y.2 != .cell)&&(scope.names.all fun y=>y.2 != .local||scope.names.lookup y.1==some .local) &&
 (scope.names.all fun y=>y.2 != .free||(X.env.scope.names.lookup y.1==some .cell||X.env.scope.names.lookup y.1==some .free)) &&
 (scope.names.all fun y=>y.2 != .free||scope.names.lookup y.1==some .free)
theorem a3h{X:Cx}{scope:Scope}(h:U5 X scope=true):∀y∈scope.names,y.2≠.cell:=by
 unfold U5 at h
 simp only[Bool.and_eq_true,List.all_eq_true]at h
 intro y hy z
 have:=h.1.1.1 y hy
 rw[z]at this
 simp at this
theorem a3g{X:Cx}{scope:Scope}(h:U5 X scope=true):∀y∈scope.names,y.2=.local→scope.names.lookup y.1=some .local:=by
 unfold U5 at h
 simp only[Bool.and_eq_true,List.all_eq_true]at h
 intro y hy z
 have:=h.1.1.2 y hy
 rw[z]at this
 simpa using this
theorem a5a{X:Cx}{scope:Scope}(h:U5 X scope=true):∀y∈scope.names,y.2=.free→X.env.scope.names.lookup y.1=some .cell∨X.env.scope.names.lookup y.1=some .free:=by
 unfold U5 at h
 simp only[Bool.and_eq_true,List.all_eq_true]at h
 intro y hy z
 have:=h.1.2 y hy
 rw[z]at this
 simpa using this
theorem Z7{env:Env}:∀(names:List (Str×NameKind)) (cs:List (Str×Addr)),(∀y∈names,y.2=.free→∃c,env.cells.lookup y.1=some c) →
  ∃cl,(forIn names cs (fun(x:Str×NameKind) (r:List (Str×Addr))=>match x with
   | (name,kind)=>if (kind==NameKind.free)=true then(do let a ←cellOf env name;pure (ForInStep.yield ((name,a)::r))) else pure (ForInStep.yield r)):Sem (List (Str×Addr)))=pure cl ∧
   (∀n c,cl.lookup n=some c→env.cells.lookup n=some c∨cs.lookup n=some c)∧(∀y∈names,y.2=.free→∃c,cl.lookup y.1=some c)∧(∀n c,cs.lookup n=some c→∃c',cl.lookup n=some c')
 | [],cs,_=>⟨cs,by rw[List.forIn_nil],fun n c h=>.inr h,fun y hy=>by simp at hy,fun n c h=>⟨c,h⟩⟩
 | (n,k)::r,cs,h=>by
  have hr:∀y∈r,y.2=.free→∃c,env.cells.lookup y.1=some c:=fun y hy=>h y (List.mem_cons_of_mem _ hy)
  rw[List.forIn_cons]
  by_cases hk:k=.free
  ·subst hk
   obtain⟨c,hc⟩:=h (n,.free) List.mem_cons_self rfl
   have ec:cellOf env n=pure c:=by unfold cellOf;rw[show env.cells.lookup n=some c from hc]
   obtain⟨cl,e,a1,a2,a3⟩:=Z7 (env:=env) r ((n,c)::cs) hr
   have up:∃c',cl.lookup n=some c':=a3 n c (by simp[List.lookup_cons])
   refine⟨cl,?_,fun m c' q=>?_,fun y hy z=>?_,fun m c' q=>?_⟩
   ·simp only[beq_self_eq_true,if_true,ec,pure_bind]
    exact e
   ·rcases a1 m c' q with z | z
    ·exact .inl z
    ·rw[List.lookup_cons]at z
     cases hm:m==n with
     | true=>
      have:m=n:=by simpa using hm
      subst this
      simp only[beq_self_eq_true]at z
      cases z
      exact .inl hc
     | false=>
      rw[hm]at z
      exact .inr z
   ·rcases List.mem_cons.mp hy with rfl | hy
    ·exact up
    ·exact a2 y hy z
   ·by_cases hm:m=n
    ·subst hm;exact up
    ·refine a3 m c' ?_
     rw[List.lookup_cons]
     have:(m==n)=false:=by simpa using hm
     rw[this];exact q
  ·have hb:(k==NameKind.free)=false:=by simpa using hk
   obtain⟨cl,e,a1,a2,a3⟩:=Z7 (env:=env) r cs hr
   refine⟨cl,?_,a1,fun y hy z=>?_,a3⟩
   ·simp only[hb,Bool.false_eq_true,if_false,pure_bind]
    exact e
   ·rcases List.mem_cons.mp hy with rfl | hy
    ·exact absurd z hk
    ·exact a2 y hy z
theorem a7n{scope:Scope}{env:Env}(h:∀y∈scope.names,y.2=.free→∃c,env.cells.lookup y.1=some c) :
  ∃cl,closureFor scope env=pure cl∧(∀n c,cl.lookup n=some c→env.cells.lookup n=some c)∧∀y∈scope.names,y.2=.free→∃c,cl.lookup y.1=some c:=by
 obtain⟨cl,e,a1,a2,_⟩:=Z7 scope.names [] h
 refine⟨cl,?_,fun n c q=>(a1 n c q).resolve_right fun z=>by simp at z,a2⟩
 simp only[closureFor]
 rw[e]
 rfl
theorem K8{env:Env}:∀{names:List (Str×NameKind)} {x:Str} {k:NameKind},
  (names.map fun(n,k)=>if (k==NameKind.free&&env.scope.kind==.function&&env.kindOf n==some .cell) then(n,NameKind.cell) else(n,k)).lookup x=some k →
  names.lookup x=some k∨(k=.cell∧names.lookup x=some .free)
 | [],_,_,h=>by simp at h
 | (n,k')::r,x,k,h=>by
  have ih:=@K8 env r x k
  rw[List.map_cons]at h
  by_cases hc:(k'==NameKind.free&&env.scope.kind==.function&&env.kindOf n==some .cell)=true
  ·simp only[hc,if_true]at h
   rw[List.lookup_cons]at h ⊢
   cases hx:x==n with
   | true=>
    rw[hx]at h
    have hk:k'=.free:=by
     simp only[Bool.and_eq_true]at hc
     simpa using hc.1.1
    injection h with h
    subst h hk
    exact .inr ⟨rfl,rfl⟩
   | false=>
    rw[hx]at h
    exact ih h
  ·simp only[Bool.not_eq_true]at hc
   simp only[hc,Bool.false_eq_true,if_false]at h
   rw[List.lookup_cons]at h ⊢
   cases hx:x==n with
   | true=>rw[hx]at h;exact .inl h
   | false=>rw[hx]at h;exact ih h
def PIf(X:Cx)(ifs:List Expr)(t:TT):Prop:=
 ∀(pins:List (Addr×Obj)) (s:Shared) (σ:St) (H:Hp) (Q:Bool→Hp→Prop),Inv X pins σ H s→t σ H Q →
  wpAny (model X.prog X.w) X.A (forIn ifs true fun c r=>if r=true then do let ok ←isTrue c X.env (eval c X.env);pure (ForInStep.yield ok) else pure (ForInStep.yield r)) (TP X pins σ Q) X.xe s
def b1r:TT:=fun _ H Q=>Q true H
theorem a7l{X:Cx}:PIf X [] b1r:=fun _ _ _ H _ I h=>wpAny_tests_nil ⟨H,I,h⟩
theorem Y6{X:Cx}{c:Expr}{t:TT}(h:PT X c t):PIf X [c] t:=fun pins s σ H Q I q=>wpAny_tests_one (h pins s σ H Q I q)
structure J8(X:Cx)(own tl:List Str)(scope:Scope)(target elt:Expr)(ifs:List Expr)(g:TG)(tc:TT)(te:TE):Prop where
 kind:scope.kind=.function
 ok:U5 X scope=true
 nm:a5b scope.names tl X.N=true
 tg:∀cl C s₀ H₀ ex,PG (T8 X own tl scope cl C s₀ H₀ ex) target g
 ti:∀cl C s₀ H₀ ex,PIf (T8 X own tl scope cl C s₀ H₀ ex) ifs tc
 te:∀cl C s₀ H₀ ex,PE (T8 X own tl scope cl C s₀ H₀ ex) elt te
def a6E(k:Nat)(g:TG)(tc:TT)(te:TE)(J:It)(acc:Addr)(σ:St)(H1:Hp)(Q:Hp→Prop):Prop:=
 ∃W:Nat→Nat→Hp→Prop,(∃m,W 0 m (upd H1 acc (.lst [])))∧∀i m H,W i m H →
  (J.stop i H∧Q H)∨(J.go i H∧∃N:Hp→Prop,(∀H',N H'→∃m',m'<m∧W (i+1) m' H') ∧
   ∀(os:St) x H',os.length=k→J.yld i H x H'→g x (os++σ) H' fun σ2 H2=>(∃os2:St,os2.length=k∧σ2=os2++σ) ∧
    tc σ2 H2 fun b H3=>if b=true then te σ2 H3 fun y H4=>∃ys,H4 acc=some (.lst ys)∧ys.length<sizeLine∧N (upd H4 acc (.lst (ys++[y]))) else N H3)
def b6g(k:Nat)(wi:TI)(g:TG)(tc:TT)(te:TE):TE:=fun σ H Q=>wi σ H fun J H1=>∀acc,H1 acc=none→a6E k g tc te J acc σ H1 fun H'=>Q (.ref acc) H'
theorem Un.off{fs ex:List Addr}{H H1:Hp}{h h1 h':Heap}{C:Addr}(u:Un fs ex H H1 h h1)(hs:Heap.SameBut C h1 h')(hC:h.objs.size≤C):Un fs ex H H1 h h':=by
 have ne:∀b o,h.get? b=some o→b≠C:=fun b o e z=>absurd (Heap.lt_size e) (by rw[z];exact Nat.not_lt.mpr hC)
 exact⟨fun b o e n hb hx=>(hs.2 b (ne b o e)).trans (u.keep b o e n hb hx),fun b o e n hb hx=>let ⟨sl,q⟩:=u.slot b o e n hb hx;⟨sl,(hs.2 b (ne b o e)).trans q⟩,u.free,
  fun b o e hx=>let ⟨o',q⟩:=u.there b o e hx;⟨o',(hs.2 b (ne b o e)).trans q⟩,u.tups,u.frzs,u.tbls⟩
section
variable{prog:Program}{w:World}{A:Around}{R:Result→Shared→Prop}{s:Shared}
theorem a5W{elt target iter:Expr}{ifs:List Expr}{scope:Scope}{pos:Pos}{it acc:Value}{env:Env}(Iv:Nat→Shared→Prop)
  (each:∀n s,Iv n s→wpAny (model prog w) A (pyNext it) (fun r t1=>match r with
   | none=>R (.ok .next) t1
   | some v=>wpAny (model prog w) A (letOwnedTupleGo target it v) (fun _ t1=>wpAny (model prog w) A (assign target env v) (fun _ t2=>
     wpAny (model prog w) A (forIn ifs true fun c r=>if r=true then do let okay ←isTrue c env (eval c env);pure (ForInStep.yield okay) else pure (ForInStep.yield r)) (fun okay t3=>
      if okay=true then wpAny (model prog w) A (eval elt env) (fun x t4=>
       wpAny (model prog w) A (call (.builtin "list.append") [acc,x]) (fun _ t5=>∃m,m<n∧Iv m t5) (fun _ _=>False) t4) (fun _ _=>False) t3
      else ∃m,m<n∧Iv m t3) (fun _ _=>False) t2) (fun _ _=>False) t1) (fun _ _=>False) t1) (fun _ _=>False) s)
  (n:Nat) (h:Iv n s) :
  codeAny (model prog w) A (.compLoop (.ListComp elt [⟨target,iter,ifs,0⟩] scope pos) 0 it acc env) R s:=by
 refine codeAny_loop rfl Iv (fun n s hIv=>?_) n h
 show wpAny (model prog w) A ((compTurn (.ListComp elt [⟨target,iter,ifs,0⟩] scope pos) 0 it acc env).onRaise (fun x=>do noteFrame x env;theTreesLotGoes x)) _ _ s
 refine wpAny_noted ?_
 rw[compTurn_list]
 refine wpAny_bind (wpAny_standAt (wpAny_bind (wpAny_mono (each n s hIv) (fun r t1 g1=>?_) fun _ _ h'=>h'.elim)))
 cases r with
 | none=>exact wpAny_pure g1
 | some v=>
  refine wpAny_bind (wpAny_mono g1 (fun _ t1' g1=>?_) fun _ _ h'=>h'.elim)
  refine wpAny_bind (wpAny_mono g1 (fun _ t2 g2=>wpAny_bind (wpAny_mono g2 (fun okay t3 g3=>?_) fun _ _ h'=>h'.elim)) fun _ _ h'=>h'.elim)
  cases okay with
  | false=>exact wpAny_pure ⟨rfl,g3⟩
  | true=>
   exact wpAny_bind (wpAny_bind (wpAny_mono g3 (fun x t4 g4=>wpAny_bind (wpAny_mono g4 (fun _ t5 g5=>wpAny_pure (wpAny_pure ⟨rfl,g5⟩)) fun _ _ h'=>h'.elim)) fun _ _ h'=>h'.elim))
end
section
variable{X:Cx}{own tl:List Str}{scope:Scope}{target elt:Expr}{ifs:List Expr}{g:TG}{tc:TT}{te:TE}
theorem b4b{pins:List (Addr×Obj)}{σ:St}{H:Hp}{s:Shared}{cl:List (Str×Addr)}{fp:List Addr}{h₁:Heap}{m:Str→Option Value}{os:St}{t':Nat}(ci:J8 X own tl scope target elt ifs g tc te)(I:Inv X pins σ H s)
  (c1:∀n c,cl.lookup n=some c→X.env.cells.lookup n=some c) (c2:∀y∈scope.names,y.2=.free→∃c,cl.lookup y.1=some c)
  (hf:∀b∈fp,X2 X pins H b) (hfo:∀b∈fp,∃o,s.heap.get? b=some o) (hk:∀b o,s.heap.get? b=some o→h₁.get? b=some o) (hns:h₁.Ns s.heap.objs.size m) (hos:os=List.replicate own.length none) :
  Inv (T8 X own tl scope cl s.heap.objs.size s H fp) [] (os++σ) H { s with heap:=h₁,toks:=t' }:=by
 have lt:∀b∈fp,b<s.heap.objs.size:=fun b hb=>let ⟨o,e⟩:=hfo b hb;Heap.lt_size e
 have clt:∀n c,cl.lookup n=some c→c<s.heap.objs.size:=fun n c e=>by
  obtain⟨v,o,ho,_⟩:=I.cell n c (c1 n c e)
  exact Heap.lt_size ho
 have seen:∀x,(T8 X own tl scope cl s.heap.objs.size s H fp).env.kindOf x=some .cell∨(T8 X own tl scope cl s.heap.objs.size s H fp).env.kindOf x=some .free→scope.names.lookup x=some .free:=fun x hx=>by
  have nc:scope.names.lookup x≠some .cell:=fun z=>a3h ci.ok _ (PySem.mem_of_lookup z) rfl
  rcases hx with hx | hx
  ·rcases K8 (names:=scope.names) (x:=x) hx with z | ⟨_,z⟩
   ·exact absurd z nc
   ·exact z
  ·rcases K8 (names:=scope.names) (x:=x) hx with z | ⟨z,_⟩
   ·exact z
   ·cases z
 refine⟨⟨I.ok.mod,ci.kind,I.ok.glob,I.ok.blt,Nat.le_refl _,fun x y c e1 e2=>I.ok.inj x y c (c1 x c e1) (c1 y c e2),fun x hx=>?_,fun x c z=>(nomatch z),I.ok.hd,I.ok.frames,.inl rfl,fun b hb=>⟨Nat.ne_of_lt (lt b hb),fun x c e=>(hf b hb).2.2.2.2.1 x c (c1 x c e)⟩,I.bs,
   Nat.le_trans I.ok.bsz I.sz,fun b o e hb=>?_,fun b hb hb'=>?_,I.stack,I.stkFree⟩,
  rfl,I.bare,Un.kept hk,⟨m,hns,fun i x v e1 e2 e3=>?_⟩,fun x c e=>?_,I.hok.fresh (Nat.le_refl _),fun x c e=>I.freeC x c (c1 x c e),fun p hp=>absurd (show p∈([]:List (Addr×Obj)) from hp) (by simp),I.hok.kept hk,?_⟩
 ·exact c2 _ (PySem.mem_of_lookup (seen x hx)) rfl
 ·rcases(hf b hb).2.2.2.1 with z | z
  ·exact I.ok.noex b o e z
  ·exact absurd (Nat.lt_of_lt_of_le (Heap.lt_size (I.ok.bs b o e).1) z) (Nat.lt_irrefl _)
 ·rcases List.mem_cons.mp (I.stkSub b hb') with z | z
  ·exact(hf b hb).2.1 z
  ·exact(hf b hb).2.2.1 z
 ·have hge:own.length≤i:=by
   rcases Nat.lt_or_ge i own.length with z | z
   ·rw[hos,List.getElem?_append_left (by simpa using z),List.getElem?_replicate]at e2
    simp[z]at e2
   ·exact z
  have e1':tl[i-own.length]?=some x:=by
   have e1:(own++tl)[i]?=some x:=e1
   rwa [List.getElem?_append_right hge] at e1
  have e2':σ[i-own.length]?=some (some v):=by
   rw[hos,List.getElem?_append_right (by simpa using hge)]at e2
   simpa using e2
  obtain⟨n1,n2,n3⟩:=a7O ci.nm e1'
  have hfree:scope.names.lookup x=some .free:=by
   rcases e3 with z | z | z
   ·rcases K8 (names:=scope.names) (x:=x) z with z' | ⟨z',_⟩
    ·exact absurd z' n1
    ·cases z'
   ·exact seen x (.inl z)
   ·exact seen x (.inr z)
  have hXN:=n3 hfree
  have hout:=a5a ci.ok _ (PySem.mem_of_lookup hfree) rfl
  obtain⟨mX,hmX,hl⟩:=I.loc
  obtain⟨u,ru,lk⟩:=hl _ x v hXN e2' (hout.elim (fun z=>.inr (.inl z)) fun z=>.inr (.inr z))
  refine⟨u,ru,?_⟩
  obtain⟨c,hc⟩:=c2 _ (PySem.mem_of_lookup hfree) rfl
  have hin:(T8 X own tl scope cl s.heap.objs.size s H fp).env.kindOf x=some .cell∨(T8 X own tl scope cl s.heap.objs.size s H fp).env.kindOf x=some .free:=by
   rcases e3 with z | z | z
   ·rcases K8 (names:=scope.names) (x:=x) z with z' | ⟨z',_⟩
    ·exact absurd z' n1
    ·cases z'
   ·exact .inl z
   ·exact .inr z
  rcases lk with ⟨k,_⟩ | ⟨k,c',e,z⟩
  ·have k:X.env.scope.names.lookup x=some .local:=k
   rcases hout with q | q<;>(rw[k]at q;cases q)
  ·have hcc:c'=c:=by
    have:=c1 x c hc
    rw[e]at this
    exact Option.some.inj this
   subst hcc
   exact .inr ⟨hin,c',hc,let ⟨o,ho,hd⟩:=z;⟨o,hk _ _ ho,hd⟩⟩
 ·obtain⟨v,o,ho,hd⟩:=I.cell x c (c1 x c e)
  exact⟨v,o,hk _ _ ho,hd⟩
 ·show(os++σ).length=(own++tl).length
  rw[hos,List.length_append,List.length_append,List.length_replicate,I.len,a4H ci.nm]
theorem a1F{pins:List (Addr×Obj)}{σ σ':St}{H H':Hp}{s s':Shared}{cl:List (Str×Addr)}{fp:List Addr}{h':Heap}(I:Inv X pins σ H s)(hf:∀b∈fp,X2 X pins H b)
  (J:Inv (T8 X own tl scope cl s.heap.objs.size s H fp) [] σ' H' s') (hs:Heap.SameBut s.heap.objs.size s'.heap h'):Inv X pins σ H' { s' with heap:=h' }:=by
 refine I.call' (s':={ s' with heap:=h' }) (ch:=fp) J.os (J.base.off hs (Nat.le_refl _)) (fun b ob e=>?_) J.bare fun b hb=>⟨(hf b hb).2.2.2.1,(hf b hb).2.1,(hf b hb).2.2.2.2.1,(hf b hb).2.2.2.2.2⟩
 refine(J.hok b ob e).stay (fun c w' hc q=>(hs.2 c ?_).trans q) (fun _ q=>q) fun _ _ q=>q
 have hfree:H' s.heap.objs.size=none:=J.free
 rintro rfl
 rcases hc with rfl | hc
 ·rw[hfree]at e;cases e
 ·rw[hfree]at hc;cases hc
theorem a6u{pins:List (Addr×Obj)}{σ:St}{H2:Hp}{s2:Shared}{cl:List (Str×Addr)}{iter:Expr}{pos:Pos}{it:Addr}{fp:List Addr}{tn:Nat→Heap→Prop}{Jt:It}{Q:Addr→Hp→Prop}{RR:Value→Addr→Result→Shared→Prop}{E:Value→Shared→Prop}
  (ci:J8 X own tl scope target elt ifs g tc te) (hc:X.calm=true) (I2:Inv X pins σ H2 s2) (T:Turn X.prog X.w X.K target Jt fp it tn) (st2:tn 0 s2.heap) (f2:∀b∈fp,X2 X pins H2 b)
  (c1:∀n c,cl.lookup n=some c→X.env.cells.lookup n=some c) (c2:∀y∈scope.names,y.2=.free→∃c,cl.lookup y.1=some c)
  (q:∀acc,H2 acc=none→a6E own.length g tc te Jt acc σ H2 (Q acc))
  (hRR:∀(acc C:Addr) (s3 s':Shared) (σ':St) (H':Hp) (m:Str→Option Value),C=s3.heap.objs.size→Inv X pins σ (upd H2 acc (.lst [])) s3→(∀b∈fp,X2 X pins (upd H2 acc (.lst [])) b) →
   Inv (T8 X own tl scope cl s3.heap.objs.size s3 (upd H2 acc (.lst [])) fp) [] σ' H' s'→s'.heap.Ns C m→Q acc H'→RR (.ref acc) C (.ok .next) s') :
  wpAny (model X.prog X.w) X.A (newList []) (fun acc s₃=>wpAny (model X.prog X.w) X.A (newFunctionEnv scope X.env.globals cl [] X.env.qual none .none (some X.env)) (fun cenv s₄=>
   codeAny (model X.prog X.w) X.A (.compStart (.ListComp elt [⟨target,iter,ifs,0⟩] scope pos) 0 (.ref it) acc { cenv with scope:=relabel scope X.env }) (RR acc cenv.locals) s₄) E s₃) E s2:=by
 have I3:=I2.lnew (t':=s2.toks) (ys:=[]) (its:=[]) .nil (Nat.zero_le _)
 have hacc:H2 s2.heap.objs.size=none:=I2.fresh
 refine wpAny_newObj_type (wpAny_newFunctionEnv (a3h ci.ok) (by intro y hy;simp at hy) (fun h₁ hns₁ hsb₁=>?_) ci.kind)
 dsimp only at hns₁ hsb₁ ⊢
 generalize hs3:({ s2 with heap:=s2.heap.push { cls:=.type "list",dict:=none,data:=.seq ([]:List Value).toArray } }:Shared)=s3 at *
 have es3:s2.heap.push { cls:=.type "list",dict:=none,data:=.seq ([]:List Value).toArray }=s3.heap:=by rw[←hs3]
 rw[es3]at hns₁ hsb₁ ⊢
 have hk:∀b o,s3.heap.get? b=some o→h₁.get? b=some o:=fun b o e=>hsb₁.extBut b o (Nat.ne_of_lt (Heap.lt_size e)) (Heap.get?_push_of_some _ e)
 have fpO:∀b∈fp,∃o,s2.heap.get? b=some o:=fun b hb=>let ⟨o,e,_⟩:=T.obj 0 _ st2 b hb;⟨o,e⟩
 have k23:∀b o,s2.heap.get? b=some o→s3.heap.get? b=some o:=fun b o e=>by rw[←es3];exact Heap.get?_push_of_some _ e
 have fpne:∀b∈fp,b≠s2.heap.objs.size:=fun b hb=>let ⟨o,e⟩:=fpO b hb;Nat.ne_of_lt (Heap.lt_size e)
 have f3:∀b∈fp,X2 X pins (upd H2 s2.heap.objs.size (.lst [])) b:=fun b hb=>⟨by rw[b8 (fpne b hb)];exact(f2 b hb).1,(f2 b hb).2⟩
 have st3:tn 0 h₁:=T.keep 0 s2.heap h₁ st2 fun b hb o e=>hk b o (k23 b o e)
 have f3o:∀b∈fp,∃o,s3.heap.get? b=some o:=fun b hb=>let ⟨o,e⟩:=fpO b hb;⟨o,k23 b o e⟩
 have I4:=b4b (t':=s3.toks) (os:=List.replicate own.length none) ci I3 c1 c2 f3 f3o hk hns₁ rfl
 generalize hX:T8 X own tl scope cl s3.heap.objs.size s3 (upd H2 s2.heap.objs.size (.lst [])) fp=XC at I4
 have env0:XC.env=compEnvC scope cl s3.heap.objs.size X.env:=by rw[←hX];rfl
 obtain⟨W,⟨m0,w0⟩,turn⟩:=q _ hacc
 have ltf:∀b∈fp,b≠s3.heap.objs.size:=fun b hb=>let ⟨o,e⟩:=f3o b hb;Nat.ne_of_lt (Heap.lt_size e)
 have stat:∀{H':Hp},(∀b∈fp,H' b=none)→∀b∈fp,X2 XC [] H' b:=fun hn b hb=>by
  subst hX
  refine⟨hn b hb,ltf b hb,fun z=>?_,.inl hb,fun x c e=>(f2 b hb).2.2.2.2.1 x c (c1 x c e),fun p hp=>absurd (show p∈([]:List (Addr×Obj)) from hp) (by simp)⟩
  rcases List.mem_cons.mp (I2.stkSub b z) with z | z
  ·exact(f2 b hb).2.1 z
  ·exact(f2 b hb).2.2.1 z
 have loop:∀s4:Shared,s4={ s3 with heap:=h₁,toks:=s3.toks } →
   codeAny (model X.prog X.w) X.A (.compLoop (.ListComp elt [⟨target,iter,ifs,0⟩] scope pos) 0 (.ref it) (.ref s2.heap.objs.size) (compEnvC scope cl s3.heap.objs.size X.env)) (RR (.ref s2.heap.objs.size) s3.heap.objs.size) s4:=by
  rintro s4 rfl
  have fr0:∀b∈fp,(upd H2 s2.heap.objs.size (.lst [])) b=none:=fun b hb=>(f3 b hb).1
  refine a5W (fun n s'=>∃(i:Nat) (os:St) (H':Hp),os.length=own.length∧Inv XC [] (os++σ) H' s'∧tn i s'.heap∧(∀b∈fp,H' b=none)∧W i n H') ?_ m0 ⟨0,_,_,List.length_replicate,I4,st3,fr0,w0⟩
  rintro n s5 ⟨i,os,H5,hos,I5,st5,fr5,w5⟩
  have eP:XC.prog=X.prog:=by rw[←hX];rfl
  have eW:XC.w=X.w:=by rw[←hX];rfl
  have eK:XC.K=X.K:=by rw[←hX];rfl
  have eA:XC.A=X.A:=by rw[←hX];rfl
  have eC:XC.calm=true:=by rw[←hX];exact hc
  rcases turn i n H5 w5 with ⟨stop,qn⟩ | ⟨go,N,hN,step⟩
  ·have done:=T.done XC eP eW eK eC i [] s5 (os++σ) H5 (fun _ _=>False) I5 (stat fr5) st5 stop
   rw[eA]at done
   refine k7 done fun r s6 ⟨hr,I6⟩=>?_
   subst hr
   obtain⟨mm,hmm,_⟩:=id I6.loc
   have hmm:s6.heap.Ns s3.heap.objs.size mm:=by rw[env0]at hmm;exact hmm
   subst hX
   exact hRR _ _ s3 s6 _ H5 mm rfl I3 f3 I6 hmm qn
  ·have item:=T.item XC eP eW eK eC i [] s5 (os++σ) H5 (fun _ _=>False) I5 (stat fr5) st5 go
   rw[eA]at item
   refine k7 item fun r s6 ⟨u,hr,h6⟩=>?_
   subst hr
   refine k7 h6 fun _ s7 ⟨x,H7,I7,r7,y7,st7,fr7⟩=>?_
   have I7':=I7.pinned (stat fr7) (T.obj _ _ st7)
   have tg:=ci.tg cl s3.heap.objs.size s3 (upd H2 s2.heap.objs.size (.lst [])) fp
   have ti:=ci.ti cl s3.heap.objs.size s3 (upd H2 s2.heap.objs.size (.lst [])) fp
   have te':=ci.te cl s3.heap.objs.size s3 (upd H2 s2.heap.objs.size (.lst [])) fp
   rw[hX]at tg ti te'
   have a7:=tg _ s7 (os++σ) H7 x u _ I7' r7 (step os x H7 hos y7)
   have again:∀{os8:St} {H8:Hp} {s8:Shared},os8.length=own.length→Inv XC ([]++a1k fp s7.heap) (os8++σ) H8 s8→N H8→∃m,m<n∧∃(i:Nat) (os:St) (H':Hp),os.length=own.length∧Inv XC [] (os++σ) H' s8∧tn i s8.heap∧(∀b∈fp,H' b=none)∧W i m H':=fun {os8 H8 s8} ho8 I8 n8=>by
    obtain⟨m',hm,w8⟩:=hN H8 n8
    refine⟨m',hm,i+1,os8,H8,ho8,I8.unpinned,T.keep _ _ _ st7 fun b hb o e=>(I8.pin (b,o) (List.mem_append_right _ (List.mem_append_right _ (Y3 hb e)))).1,fun b hb=>?_,w8⟩
    obtain⟨o,e,d⟩:=T.obj _ _ st7 b hb
    exact(I8.pin (b,o) (List.mem_append_right _ (List.mem_append_right _ (Y3 hb e)))).2.1
   have exc:XC.xe=fun _ _=>False:=by rw[←hX];rfl
   rw[eP,eW,eA,env0,exc]at a7
   refine k7 a7 fun _ s8 ⟨σ8,H8,I8,⟨os8,ho8,e8⟩,q8⟩=>?_
   subst e8
   have a8:=ti _ s8 (os8++σ) H8 _ I8 q8
   rw[eP,eW,eA,env0,exc]at a8
   refine k7 a8 fun b s9 ⟨H9,I9,q9⟩=>?_
   cases b with
   | false=>
    simp only[Bool.false_eq_true,if_false]at q9 ⊢
    exact again ho8 I9 q9
   | true=>
    simp only[if_true]at q9 ⊢
    have a9:=te' _ s9 (os8++σ) H9 _ I9 q9
    rw[eP,eW,eA,env0,exc]at a9
    refine k7 a9 fun y s10 ⟨yv,H10,I10,ry,ys,hys,hlen,qN⟩=>?_
    have a10:=m8 (X:=XC) _ s10 (os8++σ) H10 (.ref s2.heap.objs.size) [yv] (.ref s2.heap.objs.size) [y] (fun _ H'=>N H') I10 rfl (.cons ry .nil) ⟨_,ys,yv,rfl,rfl,hys,hlen,qN⟩
    rw[eP,eW,eA,exc]at a10
    exact k7 a10 fun _ s11 ⟨_,H11,I11,_,q11⟩=>again ho8 I11 q11
 have e34:({ s2 with heap:=h₁,toks:=s2.toks+([]:List (Str×Value)).length }:Shared)={ s3 with heap:=h₁,toks:=s3.toks }:=by rw[←hs3];rfl
 exact codeAny_compStart_list (loop _ e34) (T.self _ 0 _ _ _ st3 (loop _ e34))
end
end L2
namespace L2
open PySem PySem.Spec PyProof.Rows
section
variable{X:Cx}{own tl:List Str}{scope:Scope}{target elt iter:Expr}{ifs:List Expr}{g:TG}{tc:TT}{te:TE}{wi:TI}
theorem Q9{pos:Pos}(hc:X.calm=true)(hi:PI X target iter wi)(ci:J8 X own tl scope target elt ifs g tc te)(hs:∀x,foldedSetIterable iter X.env x=pure x:=by intro _;rfl) :
  PE X (.ListComp elt [⟨target,iter,ifs,0⟩] scope pos) (b6g own.length wi g tc te):=by
 intro pins s σ H Q I h
 obtain⟨cl,hcl,c1,c2⟩:=a7n (scope:=scope) (env:=X.env) fun y hy z=>I.ok.has y.1 (a5a ci.ok y hy z)
 rw[eval_ListComp]
 refine wpAny_comprehension_free (use:=none) rfl hs hcl ci.kind (a3g ci.ok) (k7 (hi pins s σ H _ I h) fun xv s1 h1=>k7 h1 fun itv s2 h2=>?_)
 obtain⟨it,fp,tn,J,H2,rfl,I2,T,st2,f2,q⟩:=h2
 refine a6u (RR:=fun acc C=>compPost (model X.prog X.w) X.A X.xe none (EP X pins σ Q) acc C) (Q:=fun acc H'=>Q (.ref acc) H') ci hc I2 T st2 f2 c1 c2 q ?_
 intro acc C s3 s' σ' H' m hC I3 f3 IC hns hq
 subst hC
 exact⟨m,hns,fun h' hs'=>⟨.ref acc,H',a1F I3 f3 IC hs',rfl,hq⟩⟩
theorem a3N{i:Nat}{x:Str}{pos cpos pos':Pos}(hN:X.N.Nodup)(hi':X.N[i]?=some x)(hx:X.env.scope.names.lookup x=some .local)(hc:X.calm=true)(hi:PI X target iter wi)(ci:J8 X own tl scope target elt ifs g tc te)
  (hsw:swapsWith (.ListComp elt [⟨target,iter,ifs,0⟩] scope cpos) (some (.Name x pos')) pos.line X.env=pure true:=by rfl) (hs:∀x,foldedSetIterable iter X.env x=pure x:=by intro _;rfl) :
  PS X (.Assign [.Name x pos'] (.ListComp elt [⟨target,iter,ifs,0⟩] scope cpos) pos) (b6n (b6g own.length wi g tc te) (a0t i)):=by
 intro pins s σ H D I h
 obtain⟨cl,hcl,c1,c2⟩:=a7n (scope:=scope) (env:=X.env) fun y hy z=>I.ok.has y.1 (a5a ci.ok y hy z)
 rw[exec_Assign_Name_used _ _ _ _ hsw]
 refine wpAny_bind (wpAny_standAt (wpAny_bind ?_))
 show wpAny _ _ (do let _ ←comprehension (.ListComp elt [⟨target,iter,ifs,0⟩] scope cpos) scope X.env _ (newList []) false (eval iter X.env) (some (assign (.Name x pos') X.env))) _ _ s
 refine wpAny_bind (wpAny_mono (wpAny_comprehension_free (use:=some (assign (.Name x pos') X.env)) (Q:=fun _ s'=>SP X pins D .next s') rfl hs hcl ci.kind (a3g ci.ok)
  (k7 (hi pins s σ H _ I h) fun xv s1 h1=>k7 h1 fun itv s2 h2=>?_)) (fun _ s' hq=>wpAny_pure (wpAny_pure hq)) fun _ _ e=>e)
 obtain⟨it,fp,tn,J,H2,rfl,I2,T,st2,f2,q⟩:=h2
 refine a6u (RR:=fun acc C=>compPost (model X.prog X.w) X.A X.xe (some (assign (.Name x pos') X.env)) (fun _ s'=>SP X pins D .next s') acc C) (Q:=fun acc H'=>D.nx (σ.set i (some (.ref acc))) H') ci hc I2 T st2 f2 c1 c2 q ?_
 intro acc C s3 s' σ' H' m hC I3 f3 IC hns hq
 subst hC
 have I':Inv X pins σ H' s':=a1F I3 f3 IC ⟨rfl,fun _ _=>rfl⟩
 have hL:s3.heap.objs.size≠X.env.locals:=Nat.ne_of_gt I3.lt
 have hCe:∀y c,X.env.cells.lookup y=some c→c≠s3.heap.objs.size:=fun y c e=>by
  obtain⟨v,o,ho,_⟩:=I3.cell y c e
  exact Nat.ne_of_lt (Heap.lt_size ho)
 show wpAny _ _ (assign (.Name x pos') X.env (.ref acc)) _ _ s'
 refine wpAny_assign_Name (a0B I' hN hi' (.inl hx) (v:=.ref acc) rfl (fun s'' I'' ⟨a,hsb,ha⟩=>?_) (.inr hx))
 have hne:s3.heap.objs.size≠a:=by
  rcases ha with e | e
  ·rw[e];exact hL
  ·exact Ne.symm (hCe x a e)
 refine⟨m,hns.sameBut hsb hne,fun h' hs'=>?_⟩
 refine⟨σ.set i (some (.ref acc)),H',I''.turned (t':=s''.toks) (it:=s3.heap.objs.size) (fun b o hb e=>(hs'.2 b hb).trans e) IC.free hL (.inr I3.sz) hCe (fun p hp z=>?_),hq⟩
 exact absurd (Heap.lt_size (I3.pin p hp).1) (by rw[z];exact Nat.lt_irrefl _)
end
theorem J7{K:PySem.W.Frag}{a acc:Addr}{xs:List V}{tc:TT}{te:TE}{σ:St}{H1:Hp}{Q:Hp→Prop}(Pv:Nat→Hp→Prop)(h0:Pv 0 (upd H1 acc (.lst [])))(hl:∀i H,i≤xs.length→Pv i H→d9 K H a xs)
  (hs:∀i x H,xs[i]?=some x→Pv i H→tc (some x::σ) H fun b H3=>if b=true then te (some x::σ) H3 fun y H4=>∃ys,H4 acc=some (.lst ys)∧ys.length<sizeLine∧Pv (i+1) (upd H4 acc (.lst (ys++[y]))) else Pv (i+1) H3)
  (hd:∀H,Pv xs.length H→Q H):a6E 1 (a0t 0) tc te (Itl K a) acc σ H1 Q:=by
 refine⟨fun i m H=>i≤xs.length∧m=xs.length-i∧Pv i H,⟨_,Nat.zero_le _,rfl,h0⟩,fun i m H ⟨hi,hm,hp⟩=>?_⟩
 rcases Nat.lt_or_ge i xs.length with lt | ge
 ·refine .inr ⟨⟨xs,xs[i],hl i H hi hp,List.getElem?_eq_getElem lt⟩,Pv (i+1),fun H' h'=>⟨xs.length-(i+1),by omega,by omega,rfl,h'⟩,fun os x H' ho hy=>?_⟩
  obtain⟨rfl,hy⟩:=hy
  have hx:=hy xs (hl i _ hi hp)
  obtain⟨o,rfl⟩:∃o,os=[o]:=by
   match os,ho with
   | [o],_=>exact⟨o,rfl⟩
  exact⟨⟨[some x],rfl,rfl⟩,hs i x H' hx hp⟩
 ·have e:i=xs.length:=by omega
  subst e
  exact .inl ⟨⟨xs,hl _ H (Nat.le_refl _) hp,Nat.le_refl _⟩,hd H hp⟩
end L2
namespace L2
open PySem PySem.Spec PyProof.Rows
def b6s(t:TS):TS:=fun D σ H=>∃M:St→Hp→Prop,t { D with nx:=M } σ H∧∀σ' H',M σ' H'→D.nx σ' H'
theorem N5{X:Cx}{st:Stmt}{t:TS}(h:PS X st t):PS X st (b6s t):=by
 intro pins s σ H D I ⟨M,ht,hM⟩
 refine k7 (h pins s σ H { D with nx:=M } I ht) fun f s' q=>?_
 cases f with
 | next=>obtain⟨σ',H',I',q⟩:=q;exact⟨σ',H',I',hM σ' H' q⟩
 | brk=>exact q
 | cont=>exact q
 | ret u=>exact q
end L2
namespace L2
open PySem PySem.Spec PyProof.Rows
mutual
def Rep(K:PySem.W.Frag)(H:Hp):PyData→V→Prop
 | .none,v=>v=.non
 | .bool b,v=>v=.bl b
 | .int i,v=>v=.int i
 | .str x,v=>v=.str x
 | .list ds,v=>∃a xs,v=.ref a∧d9 K H a xs∧m7 K H ds xs
 | .tuple ds,v=>∃a xs,v=.ref a∧f7 K H a xs∧m7 K H ds xs
 | .dict _,_=>False
def m7(K:PySem.W.Frag)(H:Hp):List PyData→List V→Prop
 | [],xs=>xs=[]
 | d::ds,xs=>∃y ys,xs=y::ys∧Rep K H d y∧m7 K H ds ys
end
mutual
theorem G3{X:Cx}{pins:List (Addr×Obj)}{σ:St}{H:Hp}{s:Shared}(I:Inv X pins σ H s):∀(d:PyData) {v:V} {u:Value},Rep X.K H d v→RelV v u→∃as,Reads s.heap u d as
 | .none,v,u,r,e=>by unfold Rep at r;subst r;cases e;exact⟨_,.none⟩
 | .bool b,v,u,r,e=>by unfold Rep at r;subst r;cases e;exact⟨_,.bool b⟩
 | .int i,v,u,r,e=>by unfold Rep at r;subst r;obtain⟨t,rfl⟩:=(show ∃t,u=Value.int i t from e);exact⟨_,.int i t⟩
 | .str x,v,u,r,e=>by unfold Rep at r;subst r;obtain⟨t,rfl⟩:=(show ∃t,u=Value.str x t from e);exact⟨_,.str x t⟩
 | .list ds,v,u,r,e=>by
  unfold Rep at r
  obtain⟨a,xs,rfl,hq,rs⟩:=r
  cases (show u=Value.ref a from e)
  obtain⟨its,rv,p,hz⟩:=I.list hq
  obtain⟨as,ra⟩:=a6b I ds rs rv
  obtain⟨o,h1,h2,n,h3⟩:=p.isList
  exact⟨_,.list h1 h2 h3 (by simpa using ra)⟩
 | .tuple ds,v,u,r,e=>by
  unfold Rep at r
  obtain⟨a,xs,rfl,hq,rs⟩:=r
  cases (show u=Value.ref a from e)
  obtain⟨its,rv,p,hz⟩:=I.tuple hq
  obtain⟨as,ra⟩:=a6b I ds rs rv
  obtain⟨o,h1,h2,n,h3⟩:=(show s.heap.IsTuple a its.toArray from p)
  exact⟨_,.tuple h1 h2 h3 (by simpa using ra)⟩
 | .dict _,v,u,r,e=>by unfold Rep at r;exact r.elim
theorem a6b{X:Cx}{pins:List (Addr×Obj)}{σ:St}{H:Hp}{s:Shared}(I:Inv X pins σ H s):∀(ds:List PyData) {xs:List V} {us:List Value},m7 X.K H ds xs→i8 xs us→∃as,ReadsAll s.heap us ds as
 | [],xs,us,r,e=>by unfold m7 at r;subst r;cases e;exact⟨_,.nil⟩
 | d::ds,xs,us,r,e=>by
  unfold m7 at r
  obtain⟨y,ys,rfl,r1,r2⟩:=r
  cases e with
  | cons e1 e2=>
   obtain⟨as,h1⟩:=G3 I d r1 e1
   obtain⟨bs,h2⟩:=a6b I ds r2 e2
   exact⟨_,.cons h1 h2⟩
end
theorem Rd.same{H H':Hp}{a:Addr}{u:HO}(e:h7 H H')(h:Rd H a u):Rd H' a u:=h.elim (fun z=>.inl (e _ _ z)) fun⟨o,z⟩=>.inr ⟨o,e _ _ z⟩
theorem d9.same{K:PySem.W.Frag}{H H':Hp}{a:Addr}{xs:List V}(e:h7 H H')(h:d9 K H a xs):d9 K H' a xs:=h.elim (fun z=>.inl (z.same e)) .inr
theorem f7.same{K:PySem.W.Frag}{H H':Hp}{a:Addr}{xs:List V}(e:h7 H H')(h:f7 K H a xs):f7 K H' a xs:=h.elim (fun z=>.inl (z.same e)) .inr
mutual
theorem Rep.same{K:PySem.W.Frag}{H H':Hp}(e:h7 H H'):∀{d:PyData} {v:V},Rep K H d v→Rep K H' d v
 | .none,v,r=>by unfold Rep at r ⊢;exact r
 | .bool b,v,r=>by unfold Rep at r ⊢;exact r
 | .int i,v,r=>by unfold Rep at r ⊢;exact r
 | .str x,v,r=>by unfold Rep at r ⊢;exact r
 | .list ds,v,r=>by unfold Rep at r ⊢;obtain⟨a,xs,e1,hq,rs⟩:=r;exact⟨a,xs,e1,hq.same e,m7.same e rs⟩
 | .tuple ds,v,r=>by unfold Rep at r ⊢;obtain⟨a,xs,e1,hq,rs⟩:=r;exact⟨a,xs,e1,hq.same e,m7.same e rs⟩
 | .dict _,v,r=>by unfold Rep at r;exact r.elim
theorem m7.same{K:PySem.W.Frag}{H H':Hp}(e:h7 H H'):∀{ds:List PyData} {xs:List V},m7 K H ds xs→m7 K H' ds xs
 | [],xs,r=>by unfold m7 at r ⊢;exact r
 | d::ds,xs,r=>by unfold m7 at r ⊢;obtain⟨y,ys,e1,r1,r2⟩:=r;exact⟨y,ys,e1,Rep.same e r1,m7.same e r2⟩
end
def r9(H H':Hp):Prop:=(∀b xs,H b=some (.tup xs)→H' b=some (.tup xs))∧∀b o xs,H b=some (.frz o (.tup xs))→H' b=some (.frz o (.tup xs))
theorem h7.tupK{H H':Hp}(e:h7 H H'):r9 H H':=⟨fun b xs h=>e b _ h,fun b o xs h=>e b _ h⟩
theorem r9.refl(H:Hp):r9 H H:=⟨fun _ _ h=>h,fun _ _ _ h=>h⟩
theorem r9.trans{H H1 H2:Hp}(a:r9 H H1)(b:r9 H1 H2):r9 H H2:=⟨fun c xs h=>b.1 c xs (a.1 c xs h),fun c o xs h=>b.2 c o xs (a.2 c o xs h)⟩
theorem a1K{H:Hp}{a:Addr}{o:HO}(h:H a=none∨∃xs,H a=some (.lst xs)):r9 H (upd H a o):=by
 have ne:∀b u,H b=some u→(∀xs,u≠.lst xs)→b≠a:=fun b u e hn z=>by
  subst z
  rcases h with q | ⟨xs,q⟩
  ·rw[q]at e;cases e
  ·rw[q]at e;exact hn xs (Option.some.inj e).symm
 exact⟨fun b xs e=>by rw[b8 (ne b _ e fun _ z=>nomatch z)];exact e,fun b o' xs e=>by rw[b8 (ne b _ e fun _ z=>nomatch z)];exact e⟩
theorem G5{H:Hp}{a:Addr}{o:HO}(h:H a=none):r9 H (upd H a o):=a1K (.inl h)
theorem n5{H:Hp}{a:Addr}{o:HO}{xs:List V}(h:H a=some (.lst xs)):r9 H (upd H a o):=a1K (.inr ⟨xs,h⟩)
theorem c9{H:Hp}{p:Addr}{o:HO}(h:H p=none):h7 H (upd H p o):=fun b u q=>by rw[b8 (e9 q h)];exact q
mutual
def fixed:PyData→Bool
 | .none | .bool _ | .int _ | .str _=>true
 | .list _=>false
 | .tuple ds=>a9W ds
 | .dict _=>false
def a9W:List PyData→Bool
 | []=>true
 | d::ds=>fixed d&&a9W ds
end
theorem m7.len{K:PySem.W.Frag}{H:Hp}:∀{ds:List PyData} {xs:List V},m7 K H ds xs→ds.length=xs.length
 | [],xs,r=>by unfold m7 at r;subst r;rfl
 | d::ds,xs,r=>by unfold m7 at r;obtain⟨y,ys,rfl,r1,r2⟩:=r;simp[m7.len r2]
theorem m7.at{K:PySem.W.Frag}{H:Hp}:∀{ds:List PyData} {xs:List V} {i:Nat} {d:PyData},m7 K H ds xs→ds[i]?=some d→∃x,xs[i]?=some x∧Rep K H d x
 | [],xs,i,d,r,e=>by simp at e
 | d::ds,xs,0,e,r,q=>by unfold m7 at r;obtain⟨y,ys,rfl,r1,r2⟩:=r;simp at q;subst q;exact⟨y,rfl,r1⟩
 | d::ds,xs,i+1,e,r,q=>by unfold m7 at r;obtain⟨y,ys,rfl,r1,r2⟩:=r;obtain⟨x,h1,h2⟩:=m7.at (i:=i) r2 (by simpa using q);exact⟨x,by simpa using h1,h2⟩
theorem m7.at'{K:PySem.W.Frag}{H:Hp}:∀{ds:List PyData} {xs:List V} {i:Nat} {x:V},m7 K H ds xs→xs[i]?=some x→∃d,ds[i]?=some d∧Rep K H d x
 | [],xs,i,x,r,e=>by unfold m7 at r;subst r;simp at e
 | d::ds,xs,0,e,r,q=>by unfold m7 at r;obtain⟨y,ys,rfl,r1,r2⟩:=r;simp at q;subst q;exact⟨d,rfl,r1⟩
 | d::ds,xs,i+1,e,r,q=>by unfold m7 at r;obtain⟨y,ys,rfl,r1,r2⟩:=r;obtain⟨x,h1,h2⟩:=m7.at' (i:=i) r2 (by simpa using q);exact⟨x,by simpa using h1,h2⟩
mutual
def B9:PyData→Bool
 | .none | .int _ | .str _=>true
 | .bool _=>false
 | .list ds=>J4 ds
 | .tuple ds=>J4 ds
 | .dict _=>false
def J4:List PyData→Bool
 | []=>true
 | d::ds=>B9 d&&J4 ds
end
mutual
theorem a4Z:∀(d e:PyData),B9 d=true→B9 e=true→PyData.eqv d e=true→d=e
 | .none,e,_,he,h=>by cases e<;>simp_all [PyData.eqv]
 | .int i,e,_,he,h=>by cases e<;>simp_all [PyData.eqv,B9]
 | .str i,e,_,he,h=>by cases e<;>simp_all [PyData.eqv,B9]
 | .bool b,e,hd,_,_=>by simp[B9]at hd
 | .dict _,e,hd,_,_=>by simp[B9]at hd
 | .list ds,e,hd,he,h=>by
  cases e with
  | list es=>
   unfold B9 at hd he
   unfold PyData.eqv at h
   rw[a0w ds es hd he h]
  | _=>simp[PyData.eqv]at h
 | .tuple ds,e,hd,he,h=>by
  cases e with
  | tuple es=>
   unfold B9 at hd he
   unfold PyData.eqv at h
   rw[a0w ds es hd he h]
  | _=>simp[PyData.eqv]at h
theorem a0w:∀(ds es:List PyData),J4 ds=true→J4 es=true→PyData.eqvAll ds es=true→ds=es
 | [],[],_,_,_=>rfl
 | [],_::_,_,_,h=>by simp[PyData.eqvAll]at h
 | _::_,[],_,_,h=>by simp[PyData.eqvAll]at h
 | d::ds,e::es,hd,he,h=>by
  unfold J4 at hd he
  unfold PyData.eqvAll at h
  rw[Bool.and_eq_true]at hd he h
  rw[a4Z d e hd.1 he.1 h.1,a0w ds es hd.2 he.2 h.2]
end
mutual
theorem a3I:∀(d:PyData),B9 d=true→PyData.eqv d d=true
 | .none,_=>by simp[PyData.eqv]
 | .int i,_=>by simp[PyData.eqv]
 | .str i,_=>by simp[PyData.eqv]
 | .bool b,hd=>by simp[B9]at hd
 | .dict _,hd=>by simp[B9]at hd
 | .list ds,hd=>by unfold B9 at hd;unfold PyData.eqv;exact a8j ds hd
 | .tuple ds,hd=>by unfold B9 at hd;unfold PyData.eqv;exact a8j ds hd
theorem a8j:∀(ds:List PyData),J4 ds=true→PyData.eqvAll ds ds=true
 | [],_=>by simp[PyData.eqvAll]
 | d::ds,hd=>by
  unfold J4 at hd
  rw[Bool.and_eq_true]at hd
  unfold PyData.eqvAll
  rw[Bool.and_eq_true]
  exact⟨a3I d hd.1,a8j ds hd.2⟩
end
def b0m(K:PySem.W.Frag)(neg:Bool):R2:=fun x y H Q=>∃d e,Rep K H d x∧Rep K H e y∧d.canLay0=true∧e.canLay0=true∧d.depth≤60∧Q (.bl (if neg then !PyData.eqv d e else PyData.eqv d e)) H
def b4o(K:PySem.W.Frag)(neg:Bool):R2:=fun x y H Q=>∃d p xs ds,Rep K H d x∧y=.ref p∧(d9 K H p xs∨f7 K H p xs)∧m7 K H ds xs∧d.canLay0=true∧PyData.canLayAll0 ds=true∧d.depth≤60 ∧
 Q (.bl (if neg then !(ds.any fun e=>PyData.eqv e d) else ds.any fun e=>PyData.eqv e d)) H
section
variable{X:Cx}
theorem b0p(hu:X.A.units+64<cLine):B8 X (compareOp .Eq) (b0m X.K false):=by
 intro pins s σ H x y v u Q I rx ry h
 obtain⟨d,e,rd,re,hd,he,hz,q⟩:=h
 obtain⟨as,r1⟩:=G3 I d rd rx
 obtain⟨bs,r2⟩:=G3 I e re ry
 exact PySem.SeqAt.compareEq_reads r1 r2 hd he (by omega) (n4 I q rfl)
theorem a7t(hu:X.A.units+64<cLine):B8 X (compareOp .NotEq) (b0m X.K true):=by
 intro pins s σ H x y v u Q I rx ry h
 obtain⟨d,e,rd,re,hd,he,hz,q⟩:=h
 obtain⟨as,r1⟩:=G3 I d rd rx
 obtain⟨bs,r2⟩:=G3 I e re ry
 exact PySem.SeqAt.compareNe_reads r1 r2 hd he (by omega) (n4 I q rfl)
theorem b2v(hu:X.A.units+64<cLine):B8 X (compareOp .In) (b4o X.K false):=by
 intro pins s σ H x y v u Q I rx ry h
 obtain⟨d,p,xs,ds,rd,rfl,hq,rs,hd,hds,hz,q⟩:=h
 obtain⟨as,r1⟩:=G3 I d rd rx
 rcases hq with hq | hq
 ·obtain⟨bs,r2⟩:=G3 I (.list ds) (show Rep X.K H (.list ds) (.ref p) from by unfold Rep;exact⟨p,xs,rfl,hq,rs⟩) ry
  exact PySem.SeqAt.in_list_reads r2 r1 hds hd (by omega) (n4 I q rfl)
 ·obtain⟨bs,r2⟩:=G3 I (.tuple ds) (show Rep X.K H (.tuple ds) (.ref p) from by unfold Rep;exact⟨p,xs,rfl,hq,rs⟩) ry
  exact PySem.SeqAt.in_tuple_reads r2 r1 hds hd (by omega) (n4 I q rfl)
theorem a0Y(hu:X.A.units+64<cLine):B8 X (compareOp .NotIn) (b4o X.K true):=by
 intro pins s σ H x y v u Q I rx ry h
 obtain⟨d,p,xs,ds,rd,rfl,hq,rs,hd,hds,hz,q⟩:=h
 obtain⟨as,r1⟩:=G3 I d rd rx
 rcases hq with hq | hq
 ·obtain⟨bs,r2⟩:=G3 I (.list ds) (show Rep X.K H (.list ds) (.ref p) from by unfold Rep;exact⟨p,xs,rfl,hq,rs⟩) ry
  exact PySem.SeqAt.notIn_list_reads r2 r1 hds hd (by omega) (n4 I q rfl)
 ·obtain⟨bs,r2⟩:=G3 I (.tuple ds) (show Rep X.K H (.tuple ds) (.ref p) from by unfold Rep;exact⟨p,xs,rfl,hq,rs⟩) ry
  exact PySem.SeqAt.notIn_tuple_reads r2 r1 hds hd (by omega) (n4 I q rfl)
end
def TyV(K:PySem.W.Frag)(H:Hp)(x:V)(T:String):Prop:=match x with
 | .non=>T="NoneType"
 | .bl _=>T="bool"
 | .int _=>T="int"
 | .str _=>T="str"
 | .ref a=>(T="list"∧∃xs,d9 K H a xs)∨(T="tuple"∧∃xs,f7 K H a xs)∨(T="dict"∧∃kvs,H a=some (.dK kvs))
 | _=>False
def a3T(T c:String):Bool:=T==c||(T=="bool"&&c=="int")
def tys:List String:=["NoneType","bool","int","str","list","tuple","dict"]
def b5a:List String:=["int","bool","str","list","tuple"]
theorem b8i(K:PySem.W.Frag):∀T∈tys,∀c∈b5a,PySem.W.kitOne K (.type T) (.type c)=some (a3T T c):=by
 intro T hT c hc
 simp only[tys,List.mem_cons,List.not_mem_nil,or_false]at hT
 simp only[b5a,List.mem_cons,List.not_mem_nil,or_false]at hc
 rcases hT with rfl | rfl | rfl | rfl | rfl | rfl | rfl<;>rcases hc with rfl | rfl | rfl | rfl | rfl<;>first | rfl | with_unfolding_all rfl
inductive b2t(K:PySem.W.Frag)(xs:List V)(H:Hp)(Q:VK):Prop
 | mk (x:V) (T c:String) (e:xs=[x,.ty c]) (t:TyV K H x T) (m:c∈b5a) (q:Q (.bl (a3T T c)) H)
section
variable{X:Cx}{pins:List (Addr×Obj)}{σ:St}{H:Hp}{s:Shared}
theorem TyV.mem{K:PySem.W.Frag}{x:V}{T:String}(t:TyV K H x T):T∈tys:=by
 cases x<;>simp only[TyV]at t
 case ref a=>rcases t with ⟨rfl,_⟩ | ⟨rfl,_⟩ | ⟨rfl,_⟩<;>decide
 all_goals first | (subst t;decide) | exact t.elim
theorem b9i(I:Inv X pins σ H s){x:V}{u:Value}{T:String}(rx:RelV x u)(t:TyV X.K H x T):∃φ:Heap→Prop,PySem.W.KitX X.K u (.type T) φ∧φ s.heap∧u≠.builtin "__main__.__loader__#opaque":=by
 cases x<;>simp only[TyV]at t
 case non=>subst t;cases (show u=Value.none from rx);exact⟨_,PySem.W.kitx_none,True.intro,fun z=>nomatch z⟩
 case bl b=>subst t;cases (show u=Value.bool b from rx);exact⟨_,PySem.W.kitx_bool,True.intro,fun z=>nomatch z⟩
 case int i=>subst t;obtain⟨k,rfl⟩:=(show ∃k,u=Value.int i k from rx);exact⟨_,PySem.W.kitx_int,True.intro,fun z=>nomatch z⟩
 case str i=>subst t;obtain⟨k,rfl⟩:=(show ∃k,u=Value.str i k from rx);exact⟨_,PySem.W.kitx_str,True.intro,fun z=>nomatch z⟩
 case ref a=>
  cases (show u=Value.ref a from rx)
  rcases t with ⟨rfl,xs,hq⟩ | ⟨rfl,xs,hq⟩ | ⟨rfl,kvs,hq⟩
  ·obtain⟨its,rv,p,hz⟩:=I.list hq
   obtain⟨o,h1,h2,_⟩:=p.isList
   exact⟨_,PySem.W.kitx_list,⟨o,h1,h2⟩,fun z=>nomatch z⟩
  ·obtain⟨its,rv,p,hz⟩:=I.tuple hq
   obtain⟨o,h1,h2,_⟩:=p
   exact⟨_,PySem.W.kitx_tuple,⟨o,h1,h2⟩,fun z=>nomatch z⟩
  ·obtain⟨_,_,vs,_,p⟩:=(show y0 X.prog X.w H s.heap a (.dK kvs) from I.hok a _ hq)
   obtain⟨o,es,ep,h1,h2,_⟩:=p
   exact⟨_,PySem.W.kitx_dict,⟨o,h1,h2.1⟩,fun z=>nomatch z⟩
 all_goals exact t.elim
theorem C7:L6 X (.builtin "isinstance") (b2t X.K):=by
 intro pins s σ H xs us Q I r h
 obtain⟨x,T,c,rfl,ty,hc,q⟩:=h
 obtain⟨u,v,rfl,ru,rv⟩:=vals2 r
 cases (show v=Value.type c from rv)
 obtain⟨φ,Z,p,ne⟩:=b9i I ru ty
 exact PySem.W.kia_one Z I.kIn p (b8i X.K T ty.mem c hc) ne fun tk=>n4 (I.tok tk) q rfl
end
end L2
namespace L2
open PySem PySem.Spec PyProof.Rows
section
variable{X:Cx}{own tl:List Str}{scope:Scope}{cl:List (Str×Addr)}{C:Addr}{s₀:Shared}{H₀:Hp}{ex:List Addr}
theorem O6:IxR (T8 X own tl scope cl C s₀ H₀ ex) (b9m X.K):=e7
theorem a3e:B8 (T8 X own tl scope cl C s₀ H₀ ex) (compareOp .In) (rIn X.K false):=L1
end
end L2
namespace Srt
open PySem PyProof.Rows
structure Sortable(prog:Program)(w:World)(h:Heap)(vs:List Value)(O:KeyOrd)(key:Keyed→O.α):Prop where
 tx:∀v∈vs,∃x t,v=.str x t
 short:vs.length<64
 ord:∀(x y:Str) (t u:Tok),decide (y.cps.toList<x.cps.toList)=false→O.kle (key (.str x t,.str x t)) (key (.str y u,.str y u))
theorem outs{prog:Program}{w:World}{h:Heap}{vs:List Value}{O:KeyOrd}{key:Keyed→O.α}(S:Sortable prog w h vs O key){xs:Array Keyed}(hp:xs.Perm (pairsOf vs))(hs:SortedToK strKind xs (pairsOf vs).size) :
  (xs.toList.map (·.2)).Perm vs∧(xs.toList.map (·.2)).Pairwise (fun x y=>O.kle (key (x,x)) (key (y,y))):=by
 have hl:xs.toList.Perm (vs.zip vs):=by rw[←pairsOf_toList];exact Array.perm_iff_toList_perm.mp hp
 have hm:∀p∈xs.toList,p.1=p.2∧p.1∈vs:=fun p h'=>mem_zip_self (hl.mem_iff.mp h')
 refine⟨?_,?_⟩
 ·have:=hl.map (·.2)
  rwa [show(vs.zip vs).map (·.2)=vs from List.map_snd_zip (Nat.le_refl _)] at this
 ·rw[List.pairwise_map,List.pairwise_iff_getElem]
  intro i j hi hj hij
  have hi':i<xs.size:=by simpa using hi
  have hj':j<xs.size:=by simpa using hj
  have h1:=hs i j (Nat.le_of_lt hij) (by rw[←hp.size_eq];exact hj')
  obtain⟨a1,a2⟩:=hm xs[i] (by simp)
  obtain⟨b1,b2⟩:=hm xs[j] (by simp)
  obtain⟨x,t,ex⟩:=S.tx _ a2
  obtain⟨y,u,ey⟩:=S.tx _ b2
  rw[KK_str hi' (x:=x) (t:=t) (q:=xs[i].2) (Prod.ext ex rfl),KK_str hj' (x:=y) (t:=u) (q:=xs[j].2) (Prod.ext ey rfl)] at h1
  rw[Array.getElem_toList,Array.getElem_toList,←a1,←b1,ex,ey]
  exact S.ord x y t u h1
theorem arr2(xs:Array Keyed):xs.map (·.2)=(xs.toList.map (·.2)).toArray:=by apply Array.toList_inj.mp;simp
section
variable{prog:Program}{w:World}{A:Around}{E:Value→Shared→Prop}{s:Shared}
theorem sort_any{O:KeyOrd}{key:Keyed→O.α}(d:O.α){a:Addr}{vs:List Value}{n:Nat}{P:Fin→Shared→Prop}{h₀:Heap}(oa:s.heap.get? a=some (seqObj "list" vs.toArray n))(hz:vs.length≤sizeLine)(S:Sortable prog w h₀ vs O key)
  (hk:∀b o,h₀.get? b=some o→b≠a∧s.heap.get? b=some o)
  (h:∀out:List Value,out.Perm vs→out.Pairwise (fun x y=>O.kle (key (x,x)) (key (y,y)))→P (.done (.ret .none)) { s with heap:=sortedHeap s.heap a vs out.toArray }) :
  wpAny (model prog w) A (Builtin.«list.sort» ⟨[.ref a],[]⟩) P E s:=by
 have hS:=strsAre_map vs S.tx
 refine list_sort_treeK strKind_oneLt oa hS.keysOf (fun v₁ v₂ rest e=>keyKind_strs (by rw[←e];exact hS)) S.short fun st' hp hs=>?_
 rw[arr2]
 exact h _ (outs S hp hs).1 (outs S hp hs).2
theorem sorted_list{O:KeyOrd}{key:Keyed→O.α}(d:O.α){lst:Addr}{vs:List Value}{Qr:Value→Shared→Prop}(isl:s.heap.IsList lst vs.toArray)(hz:vs.length≤sizeLine)(S:Sortable prog w s.heap vs O key)
  (h:∀out:List Value,out.Perm vs→out.Pairwise (fun x y=>O.kle (key (x,x)) (key (y,y)))→Qr (.ref (s.heap.objs.size+1)) { s with heap:=sortedAll s.heap vs out.toArray }) :
  wpAny (model prog w) A (call (.builtin "sorted") [.ref lst]) Qr E s:=by
 have hS:=strsAre_map vs S.tx
 refine sortedK strKind_oneLt isl hS.keysOf (fun v₁ v₂ rest e=>keyKind_strs (by rw[←e];exact hS)) S.short fun st' hp hs=>?_
 rw[arr2]
 exact h _ (outs S hp hs).1 (outs S hp hs).2
end
end Srt
namespace L2
open PySem PySem.Spec PyProof.Rows Srt
abbrev Atom:=Sum Int (List Nat)
def a7i:Atom→Atom→Bool
 | .inl a,.inl b=>decide (a<b)
 | .inl _,.inr _=>true
 | .inr _,.inl _=>false
 | .inr a,.inr b=>decide (a<b)
theorem a2o:∀a:Atom,a7i a a=false
 | .inl a=>decide_eq_false (Int.lt_irrefl a)
 | .inr a=>decide_eq_false (List.lt_irrefl a)
theorem a2t:∀{a b c:Atom},a7i a b=true→a7i b c=true→a7i a c=true
 | .inl a,.inl b,.inl c,h1,h2=>decide_eq_true (Int.lt_trans (of_decide_eq_true h1) (of_decide_eq_true h2))
 | .inl _,.inl _,.inr _,_,_=>rfl
 | .inl _,.inr _,.inl _,_,h2=>by cases h2
 | .inl _,.inr _,.inr _,_,_=>rfl
 | .inr _,.inl _,_,h1,_=>by cases h1
 | .inr _,.inr _,.inl _,_,h2=>by cases h2
 | .inr a,.inr b,.inr c,h1,h2=>decide_eq_true (List.lt_trans (of_decide_eq_true h1) (of_decide_eq_true h2))
theorem a7S:∀{a b:Atom},a7i a b=false→a7i b a=false→a=b
 | .inl a,.inl b,h1,h2=>by
  have q1:=of_decide_eq_false h1
  have q2:=of_decide_eq_false h2
  rw[show a=b by omega]
 | .inl _,.inr _,h1,_=>by cases h1
 | .inr _,.inl _,_,h2=>by cases h2
 | .inr a,.inr b,h1,h2=>by
  have q1:=of_decide_eq_false h1
  have q2:=of_decide_eq_false h2
  rw[List.le_antisymm (List.not_lt.mp q2) (List.not_lt.mp q1)]
def P0:List Atom→List Atom→Bool
 | [],[]=>false
 | [],_::_=>true
 | _::_,[]=>false
 | x::xs,y::ys=>if x=y then P0 xs ys else a7i x y
theorem a8n:∀a:List Atom,P0 a a=false
 | []=>rfl
 | x::xs=>by rw[P0,if_pos rfl];exact a8n xs
theorem Y1:∀{a b:List Atom},P0 a b=false→P0 b a=false→a=b
 | [],[],_,_=>rfl
 | [],_::_,h,_=>by cases h
 | _::_,[],_,h=>by cases h
 | x::xs,y::ys,h1,h2=>by
  rw[P0]at h1 h2
  by_cases e:x=y
  ·subst e
   rw[if_pos rfl]at h1 h2
   rw[Y1 h1 h2]
  ·rw[if_neg e]at h1
   rw[if_neg (Ne.symm e)]at h2
   exact absurd (a7S h1 h2) e
theorem a6e:∀{a b c:List Atom},P0 a b=true→P0 b c=true→P0 a c=true
 | [],[],_,h,_=>by cases h
 | [],_::_,[],_,h=>by cases h
 | [],_::_,_::_,_,_=>rfl
 | _::_,[],_,h,_=>by cases h
 | _::_,_::_,[],_,h=>by cases h
 | x::xs,y::ys,z::zs,h1,h2=>by
  rw[P0]at h1 h2 ⊢
  by_cases e1:x=y
  ·subst e1
   rw[if_pos rfl]at h1
   by_cases e2:x=z
   ·subst e2
    rw[if_pos rfl]at h2 ⊢
    exact a6e h1 h2
   ·rw[if_neg e2]at h2 ⊢
    exact h2
  ·rw[if_neg e1]at h1
   by_cases e2:y=z
   ·subst e2
    rw[if_neg e1]
    exact h1
   ·rw[if_neg e2]at h2
    by_cases e3:x=z
    ·subst e3
     have:=a2t h1 h2
     rw[a2o]at this
     cases this
    ·rw[if_neg e3]
     exact a2t h1 h2
@[reducible] def a3r:KeyOrd where
 α:=List Atom
 blt:=P0
 irrefl:=a8n
 trans:=fun _ _ _=>a6e
 negTrans:=fun a b c h=>by
  cases h1:P0 a b with
  | true=>exact .inl rfl
  | false=>
   refine .inr ?_
   cases h2:P0 b a with
   | true=>exact a6e h2 h
   | false=>rw[←Y1 h1 h2];exact h
 total:=fun _ _=>Y1
theorem b4e(x y:Atom):P0 [x] [y]=a7i x y:=by
 rw[P0]
 by_cases e:x=y
 ·subst e;rw[if_pos rfl,a2o];rfl
 ·rw[if_neg e]
def aU:Value→Atom
 | .int i _=>.inl i
 | .str x _=>.inr x.cps.toList
 | _=>.inl 0
def aV:V→Atom
 | .int i=>.inl i
 | .str x=>.inr x.cps.toList
 | _=>.inl 0
def a2I(_:Heap)(v:Value):List Atom:=[aU v]
def b9e(_:Hp)(v:V):List Atom:=[aV v]
def a4w(_:Hp)(xs:List V):Prop:=xs.length<64∧∀x∈xs,∃z,x=.str z
section
variable{X:Cx}{pins:List (Addr×Obj)}{σ:St}{H:Hp}{s:Shared}
theorem b1b{xs:List V}(S:a4w H xs){x:V}(hx:x∈xs){u:Value}(r:RelV x u):a2I s.heap u=b9e H x:=by
 obtain⟨z,rfl⟩:=S.2 x hx;obtain⟨t,rfl⟩:=r;rfl
theorem a0c(_:Inv X pins σ H s){xs:List V}{us:List Value}(S:a4w H xs)(r:i8 xs us):Sortable X.prog X.w s.heap us a3r (fun p=>a2I s.heap p.1):=by
 refine⟨fun u hu=>?_,by rw[←r.length];exact S.1,fun x y t u h=>?_⟩
 ·have back:∃x∈xs,RelV x u:=by
   clear S
   induction r with
   | nil=>simp at hu
   | cons q t ih=>
    rcases List.mem_cons.mp hu with rfl | hu
    ·exact⟨_,List.mem_cons_self,q⟩
    ·obtain⟨x,h1,h2⟩:=ih hu;exact⟨x,List.mem_cons_of_mem _ h1,h2⟩
  obtain⟨x,hx,rx⟩:=back
  obtain⟨z,rfl⟩:=S.2 x hx
  obtain⟨t,rfl⟩:=rx
  exact⟨z,t,rfl⟩
 ·show P0 [Sum.inr y.cps.toList] [Sum.inr x.cps.toList]=false
  rw[b4e];exact h
theorem i8.perm{us ws:List Value}(p:ws.Perm us):∀{xs:List V},i8 xs us→∃ys,ys.Perm xs∧i8 ys ws:=by
 induction p with
 | nil=>exact fun h=>⟨_,List.Perm.refl _,h⟩
 | cons u _ ih=>
  intro xs h
  cases h with
  | cons r t=>obtain⟨ys,h1,h2⟩:=ih t;exact⟨_,List.Perm.cons _ h1,.cons r h2⟩
 | swap u w l=>
  intro xs h
  cases h with
  | cons r t=>cases t with
   | cons r' t'=>exact⟨_,List.Perm.swap _ _ _,.cons r' (.cons r t')⟩
 | trans _ _ ih1 ih2=>
  intro xs h
  obtain⟨ys,h1,h2⟩:=ih2 h
  obtain⟨zs,h3,h4⟩:=ih1 h2
  exact⟨zs,h3.trans h1,h4⟩
theorem a4b(I:Inv X pins σ H s){xs:List V}(S:a4w H xs):∀{ys:List V} {us:List Value},i8 ys us→(∀y∈ys,y∈xs)→us.map (a2I s.heap)=ys.map (b9e H)
 | _,_,.nil,_=>rfl
 | _,_,.cons r t,h=>by
  rw[List.map_cons,List.map_cons,b1b S (h _ List.mem_cons_self) r,a4b I S t fun y hy=>h y (List.mem_cons_of_mem _ hy)]
def Q8(H:Hp)(ys:List V):Prop:=(ys.map (b9e H)).Pairwise a3r.kle
theorem a9n:L6 X (.builtin "sorted") (fun as H Q=>∃p xs,as=[.ref p]∧d9 X.K H p xs∧a4w H xs∧∀l ys,H l=none→ys.Perm xs→Q8 H ys→Q (.ref l) (upd H l (.lst ys))):=by
 intro pins s σ H as us Q I r h
 obtain⟨p,xs,rfl,hq,S,q⟩:=h
 obtain⟨u,rfl,ru⟩:=vals1 r
 cases (show u=Value.ref p from ru)
 obtain⟨its,rv,pl,hz⟩:=I.list hq
 refine sorted_list ([]:List Atom) (vs:=its) pl.isList (by rw[←rv.length];exact hz) (a0c I S rv) fun out op os=>?_
 obtain⟨ys,y1,y2⟩:=i8.perm op rv
 obtain⟨e,he⟩:=sortedAll_at s.heap its out.toArray
 have hn:H (s.heap.objs.size+1)=none:=I.hok.fresh (Nat.le_succ _)
 refine⟨.ref (s.heap.objs.size+1),_,I.laid (t':=s.toks) (o:=.lst ys) (fun b o e=>sortedAll_old e) (Nat.le_succ _) ⟨?_,out,e,y2,he⟩,rfl,q _ ys hn y1 ?_⟩
 ·rw[y1.length_eq];exact hz
 ·unfold Q8
  rw[←a4b I S y2 fun y hy=>y1.mem_iff.mp hy,List.pairwise_map]
  exact os
end
end L2
namespace TS
open PySem PySem.Spec PyProof.Rows
set_option maxRecDepth 100000
def T9(w:World):Bool:=w.params.followText "set-order"
def X8(e:Int×Value):Str:=match e.2 with
 | .str x _=>x
 | _=>Str.ofString ""
def Q3(w:World)(es:List (Int×Value)):Prop:=∀e∈es,∃k t,e=(hashStr w k,Value.str k t)
def IsT(w:World)(h:Heap)(a:Addr)(ks:List Str):Prop:=
 ∃(o:Obj) (es:Array (Int×Value)) (ep:Nat) (t:SetTable),h.get? a=some o∧o.ExactSet∧o.data=.set es ep t∧Q3 w es.toList∧(es.toList.map X8).Perm ks∧ks.Nodup∧es.size<scanBound∧t.fits es.size=true∧t.led=!T9 w∧(es.size=0∨t.plain=false)
section
variable{prog:Program}{w:World}{A:Around}{E:Value→Shared→Prop}{s:Shared}
theorem IsT.at{h h':Heap}{a:Addr}{ks:List Str}(x:IsT w h a ks)(k:∀o,h.get? a=some o→h'.get? a=some o):IsT w h' a ks:=by
 obtain⟨o,es,ep,t,q,r⟩:=x
 exact⟨o,es,ep,t,k o q,r⟩
theorem IsT.ty{a:Addr}{ks:List Str}(x:IsT w s.heap a ks):s.TypeIs (.ref a) "set":=by
 obtain⟨o,es,ep,t,q,r,_⟩:=x
 exact⟨o,q,r.1⟩
theorem IsT.nodup{h:Heap}{a:Addr}{ks:List Str}(x:IsT w h a ks):ks.Nodup:=by
 obtain⟨o,es,ep,t,q,r,_,_,_,n,_⟩:=x;exact n
theorem IsT.len{h:Heap}{a:Addr}{ks:List Str}(x:IsT w h a ks):ks.length<scanBound:=by
 obtain⟨o,es,ep,t,q,r,_,_,p,n,b,_⟩:=x
 rw[←p.length_eq,List.length_map,Array.length_toList];exact b
theorem Q3.elems{es:List (Int×Value)}(x:Q3 w es):ElemsOf (PySem.strKind prog w) es:=fun e he=>by
 obtain⟨k,t,rfl⟩:=x e he
 exact⟨⟨k,strKind_is prog w k t,rfl⟩,rfl⟩
theorem Q3.of_perm{es ds:List (Int×Value)}(x:Q3 w es)(p:ds.Perm es):Q3 w ds:=fun e he=>x e (p.mem_iff.mp he)
theorem a5U{k:Str}{e:Int×Value}{t:Tok}{j:Str}(he:e=(hashStr w j,Value.str j t)):(PySem.strKind prog w).is k e.2=true↔X8 e=k:=by
 subst he
 show Value.isStrOf k (Value.str j t)=true↔j=k
 constructor
 ·intro q
  obtain⟨u,z⟩:=Value.isStrOf_shape q
  injection z
 ·rintro rfl;simp[Value.isStrOf]
theorem a0F{es:Array (Int×Value)}(x:Q3 w es.toList){ks:List Str}(p:(es.toList.map X8).Perm ks)(k:Str) :
  (es.toList.findIdx? (fun e=>(PySem.strKind prog w).is k e.2)).isSome=decide (k∈ks):=by
 have key:(∃e∈es.toList,(PySem.strKind prog w).is k e.2=true)↔k∈ks:=by
  rw[←p.mem_iff,List.mem_map]
  constructor
  ·rintro⟨e,he,q⟩
   obtain⟨j,t,z⟩:=x e he
   exact⟨e,he,(a5U z).mp q⟩
  ·rintro⟨e,he,q⟩
   obtain⟨j,t,z⟩:=x e he
   exact⟨e,he,(a5U z).mpr q⟩
 cases hr:es.toList.findIdx? (fun e=>(PySem.strKind prog w).is k e.2) with
 | none=>
  symm
  rw[Option.isSome_none,decide_eq_false_iff_not,←key]
  rintro⟨e,he,q⟩
  have:=List.findIdx?_eq_none_iff.mp hr e he
  rw[q]at this;cases this
 | some j=>
  symm
  rw[Option.isSome_some,decide_eq_true_eq,←key]
  obtain⟨hj,q,_⟩:=List.findIdx?_eq_some_iff_getElem.mp hr
  exact⟨es.toList[j],List.getElem_mem hj,q⟩
theorem E2{Q:Bool→Shared→Prop}(h:Q (T9 w) s):wpAny (model prog w) A setsByText Q E s:=wpAny_bind (wpAny_askSetting (wpAny_pure h))
theorem a9R{m f v:Nat}{l p:Bool}{hs:Array Int}{t:SetTable}{r:Array Nat}(e:SetTable.laid m f v l p hs=some (t,r)):t.plain=p:=by
 unfold SetTable.laid at e
 cases hc:SetTable.layClean m hs with
 | none=>rw[hc]at e;cases e
 | some z=>rw[hc]at e;injection e with e;injection e with e _;rw[←e]
theorem a2M(t:SetTable)(es:Array (Int×Value))(n:Nat)(z:t.plain=false):(relayAll t es n).2.1.plain=false:=by
 unfold relayAll
 split
 ·rename_i t' r e
  dsimp only
  split
  ·exact(a9R e).trans z
  ·rfl
 ·rfl
theorem a0U(t:SetTable)(es:Array (Int×Value))(h:Int)(x:Value)(z:t.plain=false):(layNew t es h x).2.1.plain=false:=by
 unfold layNew
 split
 ·dsimp only
  unfold SetTable.orStandIn
  split
  ·exact z
  ·rfl
 ·rfl
theorem b3b{m f v:Nat}{l p:Bool}{hs:Array Int}{t:SetTable}{r:Array Nat}(e:SetTable.laid m f v l p hs=some (t,r)):t.led=l:=by
 unfold SetTable.laid at e
 cases hc:SetTable.layClean m hs with
 | none=>rw[hc]at e;cases e
 | some z=>rw[hc]at e;injection e with e;injection e with e _;rw[←e]
theorem a7Y(t:SetTable)(es:Array (Int×Value))(n:Nat):(relayAll t es n).2.1.led=t.led:=by
 unfold relayAll
 split
 ·rename_i t' r e
  dsimp only
  split
  ·exact b3b e
  ·rfl
 ·rfl
theorem b3k(t:SetTable)(es:Array (Int×Value))(h:Int)(x:Value):(layNew t es h x).2.1.led=t.led:=by
 unfold layNew
 split
 ·dsimp only
  unfold SetTable.orStandIn
  split<;>rfl
 ·rfl
theorem a5F{b:Bool}{s₁:Shared}{Q:Unit→Shared→Prop}(q:Q () s₁):wpAny (model prog w) A (match b with | true=>rule "set.scan.the-table-gave-way" | false=>pure ()) Q E s₁:=by
 cases b
 ·exact wpAny_pure q
 ·exact wpAny_rule q
theorem IsT.put{h:Heap}{a:Addr}{o:Obj}{es:Array (Int×Value)}{ep:Nat}{t:SetTable}(ho:h.get? a=some o)(hx:o.ExactSet)(hd:o.data=.set es ep t)
  {ds:Array (Int×Value)} {u:SetTable} {ks:List Str} (e:Q3 w ds.toList) (p:(ds.toList.map X8).Perm ks) (n:ks.Nodup) (b:ds.size<scanBound) (f:u.fits ds.size=true) (l:u.led=!T9 w) (c:ds.size=0∨u.plain=false) :
  ∃o',(h.update a (Obj.putSet ds u)).get? a=some o'∧o'.ExactSet∧o'.data=.set ds (ep+1) u∧IsT w (h.update a (Obj.putSet ds u)) a ks:=by
 have g:(h.update a (Obj.putSet ds u)).get? a=some (Obj.putSet ds u o):=Heap.get?_update_self _ ho (by rw[putSet_of ds u hd];rfl)
 rw[putSet_of ds u hd]at g
 exact⟨_,g,hx,rfl,_,ds,ep+1,u,g,hx,rfl,e,p,n,b,f,l,c⟩
end
end TS
namespace TS
open PySem PySem.Spec PyProof.Rows
set_option maxRecDepth 100000
section
variable{prog:Program}{w:World}{A:Around}{E:Value→Shared→Prop}{s:Shared}
theorem b4d{a:Addr}{ks:List Str}{k:Str}{tk:Tok}{Q:Option Nat→Shared→Prop}(I:IsT w s.heap a ks)
  (h:∀r:Option Nat,r.isSome=decide (k∈ks)→Q r s):wpAny (model prog w) A (setFind a (.str k tk) (hashStr w k)) Q E s:=by
 obtain⟨o,es,ep,t,ho,hx,hd,he,hp,hn,hb,hf,hl,hc⟩:=I
 unfold setFind setFindIn
 refine wpAny_bind (wpAny_setState_of ho hd hf ?_)
 dsimp only
 rw[byScan_of (knd:=PySem.strKind prog w) (x:=.str k tk) rfl hb he.elems,if_pos rfl]
 refine wpAny_bind (wpAny_rule (wpAny_bind (wpAny_setScan_of (knd:=PySem.strKind prog w) (strKind_is prog w k tk) ho hd hf he.elems ?_)))
 have m:=a0F (prog:=prog) he hp k
 cases hr:es.toList.findIdx? (fun e=>(PySem.strKind prog w).is k e.2) with
 | none=>rw[hr]at m;exact wpAny_pure (h none m)
 | some j=>rw[hr]at m;exact wpAny_pure (h (some (0+j)) m)
def J9(ks:List Str)(k:Str):List Str:=if k∈ks then ks else ks++[k]
theorem a2R{ks:List Str}(n:ks.Nodup)(k:Str):(J9 ks k).Nodup:=by
 unfold J9
 split
 ·exact n
 ·rename_i z
  refine List.nodup_append.mpr ⟨n,by simp,fun x hx y hy e=>?_⟩
  rw[List.mem_singleton]at hy
  exact z (by rw[←hy,←e];exact hx)
theorem a3G{ks:List Str}{k x:Str}:x∈J9 ks k↔x∈ks∨x=k:=by
 unfold J9
 split
 ·rename_i z;exact⟨.inl,fun q=>q.elim id fun e=>e▸z⟩
 ·rw[List.mem_append,List.mem_singleton]
theorem a0H(ks:List Str)(k:Str):(J9 ks k).length≤ks.length+1:=by
 unfold J9;split<;>simp
theorem a8O{a:Addr}{ks:List Str}{k:Str}{tk:Tok}{Q:Bool→Shared→Prop}(I:IsT w s.heap a ks)(room:ks.length+1<scanBound)
  (h:∀h',Heap.SameBut a s.heap h'→IsT w h' a (J9 ks k)→Q (!decide (k∈ks)) { s with heap:=h' }) :
  wpAny (model prog w) A (setAddHashed a (.str k tk) (hashStr w k)) Q E s:=by
 obtain⟨o,es,ep,t,ho,hx,hd,he,hp,hn,hb,hf,hl,hc⟩:=id I
 have sz:es.size=ks.length:=by rw[←hp.length_eq,List.length_map,Array.length_toList]
 unfold setAddHashed setAddHashedIn
 refine wpAny_holding (wpAny_bind (wpAny_setState_of ho hd hf ?_))
 dsimp only
 rw[byScan_of (knd:=PySem.strKind prog w) (x:=.str k tk) rfl hb he.elems,if_pos rfl]
 unfold setAddByScan
 refine wpAny_bind (wpAny_bind (wpAny_rule (wpAny_bind (wpAny_setScan_of (knd:=PySem.strKind prog w) (strKind_is prog w k tk) ho hd hf he.elems ?_))))
 have m:=a0F (prog:=prog) he hp k
 cases hr:es.toList.findIdx? (fun e=>(PySem.strKind prog w).is k e.2) with
 | some j=>
  rw[hr]at m
  have mk:k∈ks:=of_decide_eq_true m.symm
  refine wpAny_pure (wpAny_pure ?_)
  have q:=h s.heap (Heap.SameBut.refl a s.heap)
  unfold J9 at q
  rw[if_pos mk,decide_eq_true mk]at q
  exact q I
 | none=>
  rw[hr]at m
  have mk:k∉ks:=of_decide_eq_false m.symm
  have hadd:J9 ks k=ks++[k]:=if_neg mk
  have nd:=a2R hn k
  rw[hadd]at h nd
  rw[decide_eq_false mk]at h
  dsimp only
  have lp:=layNew_perm t es (hashStr w k) (.str k tk)
  have lf:=layNew_fits t es (hashStr w k) (.str k tk)
  have ll:=b3k t es (hashStr w k) (.str k tk)
  have lq:=a0U t es (hashStr w k) (.str k tk)
  generalize layNew t es (hashStr w k) (.str k tk)=L at lp lf ll lq ⊢
  obtain⟨ds,u,dum,gv⟩:=L
  dsimp only at lp lf ll lq ⊢
  rw[Array.toList_push]at lp
  have e1:Q3 w ds.toList:=fun e q=>by
   rcases List.mem_append.mp (lp.mem_iff.mp q) with q | q
   ·exact he e q
   ·rw[List.mem_singleton]at q;exact⟨k,tk,q⟩
  have p1:(ds.toList.map X8).Perm (ks++[k]):=(lp.map X8).trans (by rw[List.map_append];exact hp.append_right _)
  have b1:ds.size<scanBound:=by
   rw[←Array.length_toList,←List.length_map (f:=X8),p1.length_eq,List.length_append];exact room
  have hz:ds.size≤sizeLine:=fits_of_scanBound b1
  refine wpAny_bind (a5F ?_)
  have tail:∀u':SetTable,u'.fits ds.size=true→u'.led=!T9 w→u'.plain=false→wpAny (model prog w) A (do
    storeSet a ds u'
    if (!dum&&u'.tooFull)=true then do
      (match (relayAll u' ds (SetTable.grown ds.size)).2.2 with | true=>rule "set.scan.the-table-gave-way" | false=>pure ())
      storeSet a (relayAll u' ds (SetTable.grown ds.size)).1 (relayAll u' ds (SetTable.grown ds.size)).2.1
      pure (some true)
     else pure (some true)) (fun r s'=>r=some true∧Q true s') E s:=by
   intro u' f' l' c'
   refine wpAny_bind (wpAny_storeSet_of ho hd ?_ hz)
   obtain⟨o',g1,g2,g3,g4⟩:=IsT.put ho hx hd e1 p1 nd b1 f' l' (.inr c')
   have sb:=Heap.SameBut.update s.heap a (Obj.putSet ds u')
   split
   ·have rp:=relayAll_perm u' ds (SetTable.grown ds.size)
    have rf:=relayAll_fits u' ds (SetTable.grown ds.size)
    have rq:=a2M u' ds (SetTable.grown ds.size) c'
    have rl:=a7Y u' ds (SetTable.grown ds.size)
    generalize relayAll u' ds (SetTable.grown ds.size)=R at rp rf rl rq ⊢
    obtain⟨cs,v,gv'⟩:=R
    dsimp only at rp rf rl rq ⊢
    have zc:cs.size=ds.size:=by rw[←Array.length_toList,rp.length_eq,Array.length_toList]
    refine wpAny_bind (a5F ?_)
    refine wpAny_bind (wpAny_storeSet_of g1 g3 ?_ (by rw[zc];exact hz))
    obtain⟨o'',_,_,_,y⟩:=IsT.put g1 g2 g3 (e1.of_perm rp) ((rp.map X8).trans p1) nd (by rw[zc];exact b1) rf (rl.trans l') (.inr rq)
    exact wpAny_pure ⟨rfl,h _ (sb.trans (Heap.SameBut.update _ a _)) y⟩
   ·exact wpAny_pure ⟨rfl,h _ sb g4⟩
  have fin:∀(r:Option Bool) (s':Shared),(r=some true∧Q true s')→wpAny (model prog w) A (match r with
    | some added=>pure added
    | none=>setAddHashedIn a (.str k tk) (hashStr w k) 99999) Q E s':=fun r s' q=>by
   obtain⟨rfl,q⟩:=q;exact wpAny_pure q
  split
  ·refine wpAny_bind ?_
   rw[hashByValue_scannable 8 (x:=.str k tk) rfl]
   refine wpAny_pure ?_
   show wpAny _ _ (do
    storeSet a ds { u with plain:=false }
    _) _ _ _
   refine wpAny_mono (tail { u with plain:=false } (SetTable.fits_plain_off lf) (ll.trans hl) rfl) (fun r s' q=>?_) fun _ _ x=>x
   obtain⟨rfl,q⟩:=q;exact wpAny_pure q
  ·refine wpAny_bind (wpAny_pure ?_)
   simp only[↓reduceIte]
   refine wpAny_mono (tail u lf (ll.trans hl) (by rename_i z;exact Bool.eq_false_iff.mpr z)) (fun r s' q=>?_) fun _ _ x=>x
   obtain⟨rfl,q⟩:=q;exact wpAny_pure q
theorem b4k{Q:Value→Shared→Prop} (h:IsT w (s.heap.push { cls:=.type "set",dict:=none,data:=.set #[] 0 (.fresh 0 0 (!T9 w)) }) s.heap.objs.size [] →
   Q (.ref s.heap.objs.size) { s with heap:=s.heap.push { cls:=.type "set",dict:=none,data:=.set #[] 0 (.fresh 0 0 (!T9 w)) } }) :
  wpAny (model prog w) A (newSet (.type "set")) Q E s:=by
 unfold newSet
 refine wpAny_bind (E2 ?_)
 simp only[newObj]
 refine wpAny_bind (wpAny_alloc (wpAny_pure (h ?_)))
 exact⟨_,#[],0,.fresh 0 0 (!T9 w),Heap.get?_push_size _ rfl,⟨rfl,rfl,rfl⟩,rfl,fun e q=>by simp at q,by simp,by simp,by decide,rfl,rfl,.inl rfl⟩
end
end TS
namespace TS
open PySem PySem.Spec PyProof.Rows
set_option maxRecDepth 100000
def T2(vs:List Value)(ks:List Str):Prop:=Paired (fun v k=>∃t,v=Value.str k t) vs ks
theorem T2.at:∀{vs:List Value} {ks:List Str},T2 vs ks→∀(i:Nat) (v:Value),vs[i]?=some v→∃k t,ks[i]?=some k∧v=.str k t
 | _,_,.nil,i,v,h=>by simp at h
 | _,_,.cons ⟨t,q⟩ r,0,v,h=>by
  simp at h
  exact⟨_,t,by simp,h▸q⟩
 | _,_,.cons _ r,i+1,v,h=>by
  simp only[List.getElem?_cons_succ]at h
  obtain⟨k,t,a,b⟩:=T2.at r i v h
  exact⟨k,t,by simpa using a,b⟩
theorem T2.len{vs:List Value}{ks:List Str}(h:T2 vs ks):vs.length=ks.length:=by
 induction h with
 | nil=>rfl
 | cons _ _ ih=>simp[ih]
def once(ks:List Str):List Str:=ks.foldl J9 []
theorem a1U(ks:List Str)(k:Str):once (ks++[k])=J9 (once ks) k:=by unfold once;rw[List.foldl_append];rfl
theorem a8A:∀(ks acc:List Str) (x:Str),x∈ks.foldl J9 acc↔x∈acc∨x∈ks
 | [],acc,x=>by simp
 | k::ks,acc,x=>by
  rw[List.foldl_cons,a8A ks,a3G,List.mem_cons]
  constructor
  ·rintro((h | h) | h)
   ·exact .inl h
   ·exact .inr (.inl h)
   ·exact .inr (.inr h)
  ·rintro(h | h | h)
   ·exact .inl (.inl h)
   ·exact .inl (.inr h)
   ·exact .inr h
theorem a2p{ks:List Str}{x:Str}:x∈once ks↔x∈ks:=by unfold once;rw[a8A];simp
theorem a2A:∀(ks acc:List Str),(ks.foldl J9 acc).length≤acc.length+ks.length
 | [],acc=>Nat.le_refl _
 | k::ks,acc=>by
  have a:=a2A ks (J9 acc k)
  have b:=a0H acc k
  rw[List.foldl_cons,List.length_cons];omega
theorem a6q(ks:List Str):(once ks).length≤ks.length:=by have:=a2A ks [];simpa [once] using this
section
variable{prog:Program}{w:World}{A:Around}{E:Value→Shared→Prop}{s:Shared}{R:Result→Shared→Prop}
theorem b6b(hh:A.handled=none){S I l:Addr}{vs:List Value}{ks:List Str}(tx:T2 vs ks)(hb:ks.length+1<scanBound)(n1:S≠I)(n2:S≠l)(n3:l≠I) :
  ∀(d i:Nat) (s:Shared),vs.length-i=d→i≤vs.length→s.heap.IsListIter I l i→s.heap.IsList l vs.toArray→IsT w s.heap S (once (ks.take i)) →
   (∀h' tk,(∀b o,b≠S→b≠I→s.heap.get? b=some o→h'.get? b=some o)→IsT w h' S (once ks)→R (.ok (.ret .none)) { s with heap:=h',toks:=tk }) →
   codeAny (model prog w) A (.builtin "set.update.loop" ⟨[.ref S,.ref I],[]⟩) R s:=by
 intro d
 induction d with
 | zero=>
  intro i s e1 e2 hit hl hS hR
  have en:i=vs.length:=by omega
  refine codeAny_builtin F.entry_set_update_loop ?_
  rw[Around.under_plainId F.plain_set_update_loop _]
  show wpAny _ A.in1 (pyNext (.ref I) >>= _) _ _ s
  refine wpAny_bind (wpAny_pyNext_list_end (A:=A.in1) (by simpa using hh) hit hl (by simp;omega) fun h' eb=>?_)
  refine wpAny_pure (hR h' s.toks (fun b o _ hb q=>eb b o hb q) (IsT.at ?_ fun o q=>eb S o n1 q))
  rw[List.take_of_length_le (by rw[←tx.len];omega)] at hS
  exact hS
 | succ d ih=>
  intro i s e1 e2 hit hl hS hR
  have lt:i<vs.length:=by omega
  refine codeAny_builtin F.entry_set_update_loop ?_
  rw[Around.under_plainId F.plain_set_update_loop _]
  show wpAny _ A.in1 (pyNext (.ref I) >>= _) _ _ s
  have gx:vs.toArray[i]?=some vs[i]:=by simp[lt]
  obtain⟨k,t,q1,q2⟩:=tx.at i vs[i] (by simp[lt])
  refine wpAny_bind (wpAny_pyNext_list_item (A:=A.in1) hit hl gx fun h1 hit1 sb1=>?_)
  rw[q2]
  show wpAny _ A.in1 (holding [Value.str k t] (setAdd S (.str k t)) >>= _) _ _ _
  refine wpAny_bind (wpAny_holding ?_)
  unfold setAdd
  refine wpAny_holding (wpAny_bind ((PySem.strKind prog w).pyHash (strKind_is prog w k t) ?_))
  have hS1:IsT w h1 S (once (ks.take i)):=hS.at fun o q=>(sb1.2 S n1).trans q
  have rm:(once (ks.take i)).length+1<scanBound:=by
   have a:=a6q (ks.take i)
   have b:(ks.take i).length≤ks.length:=by simp;omega
   omega
  refine a8O (s:={ s with heap:=h1,toks:=s.toks+1 }) hS1 rm fun h2 sb2 hS2=>?_
  have tk1:ks.take (i+1)=ks.take i++[k]:=by
   rw[List.take_add_one,q1];rfl
  refine wpAny_pure ⟨plainId_quiet F.plain_set_update_loop _,ih (i+1) _ (by omega) lt ?_ ?_ ?_ fun h' tk kp hS'=>?_⟩
  ·exact hit1.at fun o q=>(sb2.2 I (Ne.symm n1)).trans q
  ·exact hl.at fun o q=>(sb2.2 l (Ne.symm n2)).trans ((sb1.2 l n3).trans q)
  ·rw[tk1,a1U];exact hS2
  ·exact hR h' tk (fun b o a1 a2 q=>kp b o a1 a2 ((sb2.2 b a1).trans ((sb1.2 b a2).trans q))) hS'
def freshT(w:World):Obj:={ cls:=.type "set",dict:=none,data:=.set #[] 0 (.fresh 0 0 (!T9 w)) }
theorem a7W{h:Heap}{a:Addr}(e:h.get? a=some (freshT w)):IsT w h a []:=
 ⟨_,#[],0,.fresh 0 0 (!T9 w),e,⟨rfl,rfl,rfl⟩,rfl,fun e q=>by simp at q,by simp,by simp,by decide,rfl,rfl,.inl rfl⟩
theorem b1k{x:Value}{Q:Value→Shared→Prop}(h:Q (.ref s.heap.objs.size) { s with heap:=s.heap.push (freshT w) }) :
  codeAny (model prog w) A (.call (.builtin "set.__new__") ⟨[.type "set",x],[]⟩) (wants Q E) s:=by
 refine codeAny_of_tree ?_
 show wpAny _ A.in1 (do checkBuiltinCall "set.__new__" ⟨[.type "set",x],[]⟩;again (.builtin "set.__new__" ⟨[.type "set",x],[]⟩)) _ _ s
 refine wpAny_bind (wpAny_of_eq (F.newCall_set_1 x) (wpAny_pure ⟨plainId_quiet F.plain_set_new _,codeAny_builtin F.entry_set_new ?_⟩))
 rw[Around.under_plainId F.plain_set_new _]
 unfold Builtin.«set.__new__» Builtin.Frozenset.newClass
 have sb:=sub_set_self
 obtain⟨hp,g,d,tk,os⟩:=s
 dsimp only
 wp_walk
 refine wpAny_askSetting (wpAny_pure ?_)
 dsimp only
 simp only[newObj]
 exact wpAny_bind (wpAny_alloc (wpAny_pure (wpAny_pure h)))
end
end TS
namespace TS
open PySem PySem.Spec PyProof.Rows
set_option maxRecDepth 100000
section
variable{prog:Program}{w:World}{A:Around}{E:Value→Shared→Prop}{s:Shared}
set_option maxHeartbeats 3200000 in
theorem a3M{l:Addr}{vs:List Value}{ks:List Str}{Q:Value→Shared→Prop}(hh:A.handled=none)(isL:s.heap.IsList l vs.toArray)(tx:T2 vs ks)(hb:ks.length+1<scanBound)
  (h:∀(h':Heap) (tk:Nat),IsT w h' s.heap.objs.size (once ks)→(∀b o,s.heap.get? b=some o→h'.get? b=some o)→Q (.ref s.heap.objs.size) { s with heap:=h',toks:=tk }) :
  wpAny (model prog w) A (call (.type "set") [.ref l]) Q E s:=by
 obtain⟨c,tl,mroS⟩:=F.called_set.mro
 have madeS:=F.called_set.made
 have subS:=F.called_set.sub
 refine wpAny_call (codeAny_of_tree ?_)
 show wpAny _ _ (callAny (.type "set") _) _ _ _
 refine wpAny_pure ⟨Code.quiet_builtin _ (by decide +kernel),codeAny_builtin F.entry_type_call ?_⟩
 rw[Around.under_plain (weight_type_call_type "set" [.ref l] []) rfl]
 have notT:=F.called_set.notType
 have canC:=F.called_set.canCreate
 have callOk:=F.typeCall_set_1 (.ref l)
 repeat (any_goals (first | assumption | wp_step))
 refine codeAny_mono (b1k (x:=.ref l) (E:=E) (Q:=fun obj sa=>obj=.ref s.heap.objs.size∧sa={ s with heap:=s.heap.push (freshT w) }) ⟨rfl,rfl⟩) fun r sa ra=>?_
 cases r with
 | error e=>exact ra
 | ok flo=>
  cases flo with
  | ret obj=>
   obtain⟨rfl,rfl⟩:=ra
   have atS:(s.heap.push (freshT w)).get? s.heap.objs.size=some (freshT w):=Heap.get?_push_size _ rfl
   have tyS:Shared.TypeIs { s with heap:=s.heap.push (freshT w) } (.ref s.heap.objs.size) "set":=⟨_,atS,rfl⟩
   have lookI:=F.called_set.init.lookup
   have bindI:=F.called_set.init.bind (.ref s.heap.objs.size)
   repeat (any_goals (first | assumption | wp_step))
   refine codeAny_mono (codeAny_call_builtin (R:=wants (fun r st=>r=.none∧∃h' tk,st={ s with heap:=h',toks:=tk }∧IsT w h' s.heap.objs.size (once ks) ∧
     (∀b o,s.heap.get? b=some o→h'.get? b=some o)) E) F.called_set.init.plain F.entry_set_init (check_set_init_1 tyS ?_)) fun res st rb=>?_
   ·obtain⟨lo,getL,clsL,epL,datL⟩:=isL
    obtain⟨c0,d0,x0,s0⟩:=lo
    simp only at clsL datL
    subst clsL;subst datL
    have getL':(s.heap.push (freshT w)).get? l=some { cls:=.type "list",dict:=d0,data:=.seq vs.toArray epL,slots:=s0 }:=Heap.get?_push_of_some _ getL
    have noS:=F.sub_list_set
    have noF:=F.sub_list_frozenset
    have noD:(Value.type "list"==Value.type "dict")=false:=by decide
    have isL1:(s.heap.push (freshT w)).IsList l vs.toArray:=⟨_,getL',rfl,epL,rfl⟩
    unfold Builtin.«set.__init__» noKeywords Builtin.Frozenset.updateFrom
    generalize keepPI:pyIter=PI
    wp_walk
    subst keepPI
    refine wpAny_pyIter_list isL1 ?_
    refine wpAny_bind (wpAny_runValue ?_)
    have lS:l<s.heap.objs.size:=Heap.lt_size getL
    have h3:A.in1.in1.in1.handled=none:=by simp[hh]
    have zI:(s.heap.push (freshT w)).objs.size=s.heap.objs.size+1:=Heap.size_push ..
    refine b6b (S:=s.heap.objs.size) (by simp[hh]) tx hb (by rw[zI];exact Nat.ne_of_lt (Nat.lt_succ_self _)) (Nat.ne_of_gt lS) (by rw[zI];exact Nat.ne_of_lt (Nat.lt_succ_of_lt lS))
     (vs.length-0) 0 _ rfl (Nat.zero_le _) ⟨_,Heap.get?_push_size _ rfl,rfl,rfl⟩ (isL1.push _) ?hS0 ?hR
    case hS0=>exact a7W (Heap.get?_push_of_some _ atS)
    case hR=>
     intro h' tk' kp isS
     show wpAny _ _ _ _ _ _
     refine wpAny_pure ?_
     show wpAny _ _ (ret Value.none) _ _ _
     refine wpAny_pure ⟨rfl,h',tk',rfl,isS,fun b o e=>?_⟩
     have bl:=Heap.lt_size e
     exact kp b o (Nat.ne_of_lt bl) (by rw[zI];exact Nat.ne_of_lt (Nat.lt_succ_of_lt bl)) (Heap.get?_push_of_some _ (Heap.get?_push_of_some _ e))
   ·cases res with
    | error e=>exact rb
    | ok flow=>
     cases flow with
     | ret r=>
      obtain⟨rfl,h',tk,rfl,isS,old⟩:=rb
      repeat (any_goals (first | assumption | wp_step))
      exact h _ _ isS old
     | _=>exact rb.elim
  | _=>exact ra.elim
end
end TS
namespace TS
open PySem PySem.Spec PyProof.Rows
set_option maxRecDepth 100000
theorem a5e{α:Type}:∀(l:List α) (i:Nat) (h:i<l.length),(l[i]::l.eraseIdx i).Perm l
 | x::l,0,_=>List.Perm.refl _
 | x::l,i+1,h=>by
  have ih:=a5e l i (by simpa using h)
  rw[List.getElem_cons_succ,List.eraseIdx_cons_succ]
  exact(List.Perm.swap _ _ _).trans (ih.cons x)
theorem a0P{α:Type}(nx:Nat→Nat):∀(n k:Nat) (l:List α) (out:Array α),n=l.length→(pickOrder.go nx n k l out).toList.Perm (out.toList++l)
 | 0,k,l,out,e=>by
  have:l=[]:=List.eq_nil_of_length_eq_zero e.symm
  subst this;rw[pickOrder.go,List.append_nil]
 | n+1,k,l,out,e=>by
  rw[pickOrder.go]
  have lt:nx k % l.length<l.length:=Nat.mod_lt _ (by omega)
  rw[List.getElem?_eq_getElem lt]
  dsimp only
  refine(a0P nx n (k+1) _ _ (by rw[List.length_eraseIdx_of_lt lt];omega)).trans ?_
  rw[Array.toList_push,List.append_assoc]
  refine List.Perm.append_left _ ?_
  exact a5e l _ lt
theorem a0b{α:Type}(nx:Nat→Nat)(xs:Array α):(pickOrder nx xs).toList.Perm xs.toList:=by
 have:=a0P nx xs.size 0 xs.toList #[] (by simp)
 simpa [pickOrder] using this
section
variable{prog:Program}{w:World}{A:Around}{E:Value→Shared→Prop}{s:Shared}
theorem b1d{es:Array (Int×Value)}(e:Q3 w es.toList){β:Type}{f:Int×Value→β→Sem (ForInStep β)}{b:β}(hf:∀x∈es.toList,f x b=pure (.yield b)) :
  (forIn es b f:Sem β)=pure b:=by
 rw[←Array.forIn_toList]
 generalize es.toList=l at hf
 clear e
 induction l with
 | nil=>rfl
 | cons x l ih=>
  rw[List.forIn_cons,hf x List.mem_cons_self]
  exact ih fun y hy=>hf y (List.mem_cons_of_mem _ hy)
theorem M7{a:Addr}{ks:List Str}{Q:Array (Int×Value)→Shared→Prop}(I:IsT w s.heap a ks)(h:∀es:Array (Int×Value),Q3 w es.toList→es.size=ks.length→Q es s) :
  wpAny (model prog w) A (setEntries a) Q E s:=by
 obtain⟨o,es,ep,t,ho,hx,hd,he,hp,hn,hb,hf,hl,hc⟩:=I
 unfold setEntries
 exact wpAny_bind (wpAny_setState_of ho hd hf (wpAny_pure (h es he (by rw[←hp.length_eq,List.length_map,Array.length_toList]))))
theorem a8X:∀{l:List Addr} {Q:Bool→Shared→Prop},(∀a∈l,∃ks,IsT w s.heap a ks)→Q true s→wpAny (model prog w) A (setsQuiet l) Q E s:=by
 intro l Q hl h
 unfold setsQuiet
 induction l with
 | nil=>exact wpAny_pure h
 | cons a l ih=>
  obtain⟨ks,I⟩:=hl a List.mem_cons_self
  have ih':=ih fun b hb=>hl b (List.mem_cons_of_mem _ hb)
  dsimp only at ih' ⊢
  rw[List.forIn_cons,bind_assoc]
  refine wpAny_bind (wpAny_bind (M7 I fun es he _=>?_))
  rw[b1d he (fun x hx=>by obtain⟨k,t,rfl⟩:=he x hx;rfl)]
  refine wpAny_bind (wpAny_pure ?_)
  exact wpAny_pure ih'
end
end TS
namespace TS
open PySem PySem.Spec PyProof.Rows
set_option maxRecDepth 100000
section
variable{prog:Program}{w:World}{A:Around}{E:Value→Shared→Prop}{s:Shared}
theorem a6W{ds es:Array (Int×Value)}{ks:List Str}(p:ds.toList.Perm es.toList)(q:(es.toList.map X8).Perm ks):(ds.toList.map X8).Perm ks:=(p.map X8).trans q
theorem a6T{a b r:Addr}{ks js rs:List Str}{Q:Array (Int×Value)→Shared→Prop}(Ia:IsT w s.heap a ks)(Ib:IsT w s.heap b js)(Ir:IsT w s.heap r rs)
  (h:∀(ds:Array (Int×Value)) h',Q3 w ds.toList→(ds.toList.map X8).Perm ks→Heap.SameBut r s.heap h'→IsT w h' r rs→Q ds { s with heap:=h' }) :
  wpAny (model prog w) A (setWalkUnseen a [b,r] (some r)) Q E s:=by
 obtain⟨o,es,ep,t,ho,hx,hd,he,hp,hn,hb,hf,hl,hc⟩:=id Ia
 have same:∀ds:Array (Int×Value),Q3 w ds.toList→(ds.toList.map X8).Perm ks→Q ds s:=fun ds e1 p1=>h ds s.heap e1 p1 (Heap.SameBut.refl _ _) Ir
 unfold setWalkUnseen
 refine wpAny_bind (wpAny_setState_of ho hd hf ?_)
 dsimp only
 refine wpAny_bind (E2 ?_)
 by_cases c:(T9 w||(t.led&&t.plain)||decide (es.size≤1))=true
 ·rw[if_pos c]
  unfold setWalk
  refine wpAny_bind (wpAny_setState_of ho hd hf ?_)
  dsimp only
  refine wpAny_bind (E2 ?_)
  cases hbt:T9 w with
  | true=>
   rw[if_pos rfl]
   refine wpAny_bind (wpAny_askSetting (wpAny_pure ?_))
   exact same _ (he.of_perm (a0b _ _)) (a6W (a0b _ _) hp)
  | false=>
   rw[if_neg Bool.false_ne_true]
   rw[hbt]at hl c
   have hl':t.led=true:=hl
   have nd:(!t.plain&&decide (es.size>1))=false:=by
    rw[hl']at c
    cases hpl:t.plain with
    | true=>rfl
    | false=>rw[hpl]at c;simp at c ⊢;exact c
   show wpAny _ _ (if (!t.plain&&decide (es.size>1))=true then _ else _) _ _ _
   rw[if_neg (by rw[nd];exact Bool.false_ne_true)]
   show wpAny _ _ ((if (!t.led&&decide (es.size>1))=true then unsupported "set:maker-not-led" else pure ()) >>= _) _ _ _
   rw[if_neg (by rw[hl'];simp)]
   exact wpAny_bind (wpAny_pure (wpAny_pure (same es he hp)))
 ·rw[if_neg c]
  refine wpAny_bind (a8X (fun x hx=>?_) ?_)
  ·simp only[List.mem_cons,List.not_mem_nil,or_false]at hx
   rcases hx with rfl | rfl | rfl
   ·exact⟨_,Ia⟩
   ·exact⟨_,Ib⟩
   ·exact⟨_,Ir⟩
  ·simp only[Bool.not_true,Bool.false_eq_true,if_false]
   refine wpAny_bind (wpAny_rule ?_)
   obtain⟨o',es',ep',t',ho',hx',hd',he',hp',hn',hb',hf',hl',hc'⟩:=id Ir
   refine wpAny_bind (wpAny_setState_of ho' hd' hf' ?_)
   dsimp only
   split
   ·refine wpAny_bind (wpAny_storeSet_of ho' hd' ?_ (fits_of_scanBound hb'))
    have f2:({ t' with led:=t'.led&&t.led,plain:=t'.plain&&t.plain }:SetTable).fits es'.size=true:=by cases t';exact hf'
    have l2:({ t' with led:=t'.led&&t.led,plain:=t'.plain&&t.plain }:SetTable).led=!T9 w:=by
     show(t'.led&&t.led)=_
     rw[hl',hl,Bool.and_self]
    obtain⟨_,_,_,_,y⟩:=IsT.put ho' hx' hd' he' hp' hn' hb' f2 l2 (hc'.imp id fun z=>by show(t'.plain&&t.plain)=false;rw[z];rfl)
    exact wpAny_pure (h es _ he hp (Heap.SameBut.update ..) y)
   ·exact wpAny_pure (same es he hp)
def a4E(js:List Str)(ds:List Str)(rs:List Str):List Str:=ds.foldl (fun r k=>if k∈js then J9 r k else r) rs
theorem a1A{id:String}{wk b r:Addr}{js:List Str}(n1:b≠r)(n2:wk≠r)(nn:wk≠r):∀(ds:List (Int×Value)) (rs ks:List Str) (ep:Nat) (s:Shared) {Q:PUnit→Shared→Prop},
  Q3 w ds→IsT w s.heap b js→IsT w s.heap wk ks→(∃o es t,s.heap.get? wk=some o∧o.data=.set es ep t∧t.fits es.size=true)→IsT w s.heap r rs→rs.length+ds.length+1<scanBound →
  (∀h',Heap.SameBut r s.heap h'→IsT w h' r (a4E js (ds.map X8) rs)→Q ⟨⟩ { s with heap:=h' }) →
  wpAny (model prog w) A (forIn ds PUnit.unit fun(e:Int×Value) (_:PUnit)=>do
    holding [e.2] do
     let f ←setFind b e.2 e.1
     if f.isSome=true then do
       let _ ←setAddHashed r e.2 e.1
       pure ()
      else pure ()
    Builtin.Frozenset.unchanged id wk ep
    pure (ForInStep.yield PUnit.unit)) Q E s
 | [],rs,ks,ep,s,Q,_,_,_,_,Ir,_,h=>wpAny_pure (h s.heap (Heap.SameBut.refl _ _) Ir)
 | e::ds,rs,ks,ep,s,Q,he,Ib,Iw,⟨ow,ew,tw,g1,g2,g3⟩,Ir,room,h=>by
  rw[List.forIn_cons]
  obtain⟨k,tk,rfl⟩:=he e List.mem_cons_self
  have go:∀h1,Heap.SameBut r s.heap h1→IsT w h1 r (if k∈js then J9 rs k else rs) →
    wpAny (model prog w) A (Builtin.Frozenset.unchanged id wk ep >>= fun _=>pure (ForInStep.yield PUnit.unit)) (fun st s'=>st=ForInStep.yield PUnit.unit∧s'={ s with heap:=h1 }) E { s with heap:=h1 }:=fun h1 sb1 _=>by
   unfold Builtin.Frozenset.unchanged
   refine wpAny_bind (wpAny_bind (wpAny_setEpoch_of ((sb1.2 wk n2).trans g1) g2 g3 ?_))
   rw[if_neg (by simp)]
   exact wpAny_pure (wpAny_pure ⟨rfl,rfl⟩)
  have rest:∀h1,Heap.SameBut r s.heap h1→IsT w h1 r (if k∈js then J9 rs k else rs)→wpAny (model prog w) A (forIn ds PUnit.unit fun(e:Int×Value) (_:PUnit)=>do
    holding [e.2] do
     let f ←setFind b e.2 e.1
     if f.isSome=true then do
       let _ ←setAddHashed r e.2 e.1
       pure ()
      else pure ()
    Builtin.Frozenset.unchanged id wk ep
    pure (ForInStep.yield PUnit.unit)) Q E { s with heap:=h1 }:=fun h1 sb1 I1=>by
   refine a1A n1 n2 nn ds _ ks ep _ (fun x hx=>he x (List.mem_cons_of_mem _ hx)) (Ib.at fun o q=>(sb1.2 b n1).trans q) (Iw.at fun o q=>(sb1.2 wk n2).trans q) ⟨ow,ew,tw,(sb1.2 wk n2).trans g1,g2,g3⟩ I1 ?_ fun h' sb' I'=>?_
   ·have a:=a0H rs k
    rw[List.length_cons]at room
    split<;>omega
   ·exact h h' (sb1.trans sb') I'
  refine wpAny_bind (wpAny_bind (wpAny_holding (wpAny_bind (b4d Ib fun f hf=>?_))))
  by_cases hk:k∈js
  ·rw[hf,decide_eq_true hk,if_pos rfl]
   rw[List.length_cons]at room
   refine wpAny_bind (a8O Ir (by omega) fun h1 sb1 I1=>wpAny_pure ?_)
   have I1':IsT w h1 r (if k∈js then J9 rs k else rs):=by rw[if_pos hk];exact I1
   refine wpAny_mono (go h1 sb1 I1') (fun st s' q=>?_) fun _ _ x=>x
   obtain⟨rfl,rfl⟩:=q
   exact rest h1 sb1 I1'
  ·rw[hf,decide_eq_false hk,if_neg Bool.false_ne_true]
   have I1':IsT w s.heap r (if k∈js then J9 rs k else rs):=by rw[if_neg hk];exact Ir
   refine wpAny_pure (wpAny_mono (go s.heap (Heap.SameBut.refl _ _) I1') (fun st s' q=>?_) fun _ _ x=>x)
   obtain⟨rfl,rfl⟩:=q
   exact rest s.heap (Heap.SameBut.refl _ _) I1'
end
end TS
namespace TS
open PySem PySem.Spec PyProof.Rows
set_option maxRecDepth 100000
theorem a7Z:entryFor table "set.__and__"=some Builtin.«frozenset.__and__»:=
 entryFor_alias (id':="frozenset.__and__") (by kernel_rfl) rfl (by decide +kernel) (by kernel_rfl)
theorem a9B:∀(js ds rs:List Str) (x:Str),x∈a4E js ds rs↔x∈rs∨(x∈ds∧x∈js)
 | js,[],rs,x=>by simp[a4E]
 | js,d::ds,rs,x=>by
  have ih:=a9B js ds (if d∈js then J9 rs d else rs) x
  show x∈a4E js ds (if d∈js then J9 rs d else rs)↔_
  rw[ih,List.mem_cons]
  by_cases hd:d∈js
  ·rw[if_pos hd,a3G]
   constructor
   ·rintro((h | rfl) | ⟨h,k⟩)
    ·exact .inl h
    ·exact .inr ⟨.inl rfl,hd⟩
    ·exact .inr ⟨.inr h,k⟩
   ·rintro(h | ⟨rfl | h,k⟩)
    ·exact .inl (.inl h)
    ·exact .inl (.inr rfl)
    ·exact .inr ⟨h,k⟩
  ·rw[if_neg hd]
   constructor
   ·rintro(h | ⟨h,k⟩)
    ·exact .inl h
    ·exact .inr ⟨.inr h,k⟩
   ·rintro(h | ⟨rfl | h,k⟩)
    ·exact .inl h
    ·exact absurd k hd
    ·exact .inr ⟨h,k⟩
section
variable{prog:Program}{w:World}{A:Around}{E:Value→Shared→Prop}{s:Shared}
theorem a6z{v:Value}{Q:Bool→Shared→Prop}(hT:s.TypeIs v "set")(h:Q true s):wpAny (model prog w) A (Builtin.Frozenset.isAnySet v) Q E s:=by
 unfold Builtin.Frozenset.isAnySet
 refine wpAny_bind (wpAny_isInstance hT sub_set_self ?_)
 exact wpAny_pure h
theorem a9p{a:Addr}{ks:List Str}{Q:Nat→Shared→Prop}(I:IsT w s.heap a ks)(h:Q ks.length s):wpAny (model prog w) A (Builtin.Frozenset.sizeOf a) Q E s:=by
 unfold Builtin.Frozenset.sizeOf
 exact wpAny_bind (M7 I fun es _ e=>wpAny_pure (by rw[e];exact h))
theorem b5c{id:String}{a b:Addr}{ks js:List Str}{Q:Value→Shared→Prop}(ne:b≠a)(Ia:IsT w s.heap a ks)(Ib:IsT w s.heap b js)(ra:ks.length+1<scanBound)(rb:js.length+1<scanBound)
  (h:∀h' rs,(∀x o,s.heap.get? x=some o→h'.get? x=some o)→IsT w h' s.heap.objs.size rs→(∀x,x∈rs↔x∈ks∧x∈js)→Q (.ref s.heap.objs.size) { s with heap:=h' }) :
  wpAny (model prog w) A (Builtin.Frozenset.intersection id a (.ref b)) Q E s:=by
 have nb:(Value.ref b==Value.ref a)=false:=by
  rw[beq_eq_false_iff_ne];intro z;injection z with z;exact ne z
 unfold Builtin.Frozenset.intersection
 rw[if_neg (by rw[nb];exact Bool.false_ne_true)]
 unfold Builtin.Frozenset.baseOf
 refine wpAny_bind (wpAny_bind (wpAny_isInstance Ia.ty sub_set_self (wpAny_pure ?_)))
 rw[if_pos rfl]
 refine wpAny_bind (b4k fun I0=>?_)
 refine wpAny_bind (wpAny_pure (wpAny_bind (wpAny_holding ?_)))
 generalize hh0:s.heap.push { cls:=.type "set",dict:=none,data:=.set #[] 0 (.fresh 0 0 (!T9 w)) }=h0 at I0 ⊢
 have k0:∀x o,s.heap.get? x=some o→h0.get? x=some o:=fun x o q=>by rw[←hh0];exact Heap.get?_push_of_some _ q
 have Ia0:IsT w h0 a ks:=Ia.at fun o q=>k0 a o q
 have Ib0:IsT w h0 b js:=Ib.at fun o q=>k0 b o q
 have la:a<s.heap.objs.size:=let ⟨_,_,_,_,q,_⟩:=Ia;Heap.lt_size q
 have lb:b<s.heap.objs.size:=let ⟨_,_,_,_,q,_⟩:=Ib;Heap.lt_size q
 have na:a≠s.heap.objs.size:=Nat.ne_of_lt la
 have nb':b≠s.heap.objs.size:=Nat.ne_of_lt lb
 refine wpAny_bind (a6z (s:={ s with heap:=h0 }) Ib0.ty ?_)
 rw[if_pos rfl]
 refine wpAny_bind (wpAny_pure ?_)
 refine wpAny_bind (a9p (s:={ s with heap:=h0 }) Ib0 ?_)
 refine wpAny_bind (a9p (s:={ s with heap:=h0 }) Ia0 ?_)
 have both:∀(asked walked:Addr) (as ws:List Str),asked≠s.heap.objs.size→walked≠s.heap.objs.size→IsT w h0 asked as→IsT w h0 walked ws→ws.length+1<scanBound→(∀x,x∈as∧x∈ws↔x∈ks∧x∈js) →
   wpAny (model prog w) A (do
    let was ←setEpoch walked
    let es ←setWalkUnseen walked [asked,s.heap.objs.size] (some s.heap.objs.size)
    forIn es PUnit.unit fun(e:Int×Value) (_:PUnit)=>do
     holding [e.2] do
      let f ←setFind asked e.2 e.1
      if f.isSome=true then do
        let _ ←setAddHashed s.heap.objs.size e.2 e.1
        pure ()
       else pure ()
     Builtin.Frozenset.unchanged id walked was
     pure (ForInStep.yield PUnit.unit)
    pure ()) (fun _ s'=>Q (.ref s.heap.objs.size) s') E { s with heap:=h0 }:=by
  intro asked walked as ws n1 n2 Is Iw rw' hm
  obtain⟨o,es,ep,t,ho,hx,hd,he,hp,hn,hb,hf,hl,hc⟩:=(show IsT w h0 walked ws from Iw)
  refine wpAny_bind (wpAny_setEpoch_of (s:={ s with heap:=h0 }) ho hd hf ?_)
  refine wpAny_bind (a6T (s:={ s with heap:=h0 }) Iw Is I0 fun ds h1 e1 p1 sb1 I1=>?_)
  rw[←Array.forIn_toList]
  have dl:ds.toList.length=ws.length:=by rw[←p1.length_eq,List.length_map]
  refine wpAny_bind (a1A (js:=as) n1 n2 n2 ds.toList [] ws ep { s with heap:=h1 } e1 (Is.at fun o q=>(sb1.2 _ n1).trans q) (Iw.at fun o q=>(sb1.2 _ n2).trans q)
   ⟨o,es,t,(sb1.2 _ n2).trans ho,hd,hf⟩ I1 (by rw[dl];simpa using rw') fun h2 sb2 I2=>wpAny_pure ?_)
  refine h h2 _ (fun x o q=>?_) I2 fun x=>?_
  ·have nx:x≠s.heap.objs.size:=Nat.ne_of_lt (Heap.lt_size q)
   exact(sb2.2 x nx).trans ((sb1.2 x nx).trans (k0 x o q))
  ·rw[a9B,p1.mem_iff,←hm x]
   constructor
   ·rintro(z | ⟨z1,z2⟩)
    ·cases z
    ·exact⟨z2,z1⟩
   ·rintro⟨z1,z2⟩;exact .inr ⟨z2,z1⟩
 by_cases c:js.length>ks.length
 ·rw[if_pos c]
  refine wpAny_mono (both b a js ks nb' na Ib0 Ia0 ra fun x=>And.comm) (fun _ s' q=>?_) fun _ _ x=>x
  exact wpAny_pure q
 ·rw[if_neg c]
  refine wpAny_mono (both a b ks js na nb' Ia0 Ib0 rb fun x=>Iff.rfl) (fun _ s' q=>?_) fun _ _ x=>x
  exact wpAny_pure q
theorem b3l{a b:Addr}{ks js:List Str}{Q:Value→Shared→Prop}(ne:b≠a)(Ia:IsT w s.heap a ks)(Ib:IsT w s.heap b js)(ra:ks.length+1<scanBound)(rb:js.length+1<scanBound)
  (h:∀h' rs,(∀x o,s.heap.get? x=some o→h'.get? x=some o)→IsT w h' s.heap.objs.size rs→(∀x,x∈rs↔x∈ks∧x∈js)→Q (.ref s.heap.objs.size) { s with heap:=h' }) :
  wpAny (model prog w) A (binaryOp .BitAnd (.ref a) (.ref b)) Q E s:=by
 refine wpAny_binaryOp_same Ia.ty Ib.ty F.fills_set_and F.slot_set_and (wpAny_call_entry F.slot_set_and Ia.ty a7Z ?_ (F.args_set_and_2 _ _))
 show wpAny _ _ (do
  let (self,other) ←Builtin.Frozenset.slot1 "__and__" ⟨[.ref a,.ref b],[]⟩
  let (l,r):=if false then(other,self) else(self,other)
  if !(←Builtin.Frozenset.isAnySet l <&&> Builtin.Frozenset.isAnySet r) then rule s!"frozenset.{"__and__"}.declined";return ←ret .notImplemented
  ret (←Builtin.Frozenset.intersection s!"frozenset.{"__and__"}" (←Builtin.Frozenset.addrOf l) r)) _ _ _
 refine wpAny_bind (wpAny_pure ?_)
 dsimp only
 rw[if_neg Bool.false_ne_true]
 refine wpAny_bind (wpAny_bind (a6z Ia.ty ?_))
 refine a6z Ib.ty ?_
 rw[if_neg (by decide)]
 refine wpAny_bind (wpAny_pure (wpAny_bind (b5c ne Ia Ib ra rb fun h' rs k I m=>?_)))
 exact wpAny_pure ⟨_,rfl,(fun z=>nomatch z),h h' rs k I m⟩
end
end TS
namespace TS
open PySem PySem.Spec PyProof.Rows
set_option maxRecDepth 100000
theorem a8Z:Manifest.owners.lookup (String.ofList ['r','o','t','a','r','e','t','i','_','t','e','s'].reverse)=some Manifest.sig_set_iterator:=by kernel_rfl
theorem M6:Slot "set_iterator" "__next__" "set_iterator.__next__":=
 .of (owner:="set_iterator") (n:="__next__") (by rw[typeLookup_type,builtinLookup_eq_fast];kernel_rfl) (by decide +kernel)
  (by decide +kernel) (by decide +kernel) (.inl (by decide +kernel)) (by rw[isSubtype_type];kernel_rfl)
theorem a7e:entryFor table "set_iterator.__next__"=some Builtin.«set_iterator.__next__»:=entryFor_of_tree (by kernel_rfl)
theorem a4k(a:Value):argsOk "set_iterator.__next__" ⟨[a],[]⟩:=by
 unfold argsOk
 rw[signature?_of (id:="set_iterator.__next__") (n:=['_','_','t','x','e','n','_','_']) (o:=['r','o','t','a','r','e','t','i','_','t','e','s']) (by kernel_rfl) a8Z]
 kernel_rfl
theorem a8M:entryFor table "set.__iter__"=some Builtin.«frozenset.__iter__»:=
 entryFor_alias (id':="frozenset.__iter__") (by kernel_rfl) rfl (by decide +kernel) (by kernel_rfl)
def itO(first:Value)(i:Nat)(a:Addr)(n ep:Nat):Obj:={ cls:=.type "set_iterator",data:=.fields #[first,rawInt i,.ref a,rawInt n,rawInt ep] }
section
variable{prog:Program}{w:World}{A:Around}{E:Value→Shared→Prop}{s:Shared}
theorem a5H{Q:Option Value→Shared→Prop}{s₁:Shared}(hh:A.handled=none)(q:∀h',(∀b o,s₁.heap.get? b=some o→h'.get? b=some o)→Q none { s₁ with heap:=h' }) :
  wpAny (model prog w) A.in1 (do raiseNew (←newExc (.type "StopIteration") []):Sem Fin)
   (fun fin s'=>∃r,fin=Fin.done (.ret r)∧wpAny (model prog w) A (pure (some r)) Q E s')
   (fun e s'=>wpAny (model prog w) A (do if ←isInstance e (.type "StopIteration") then pure none else throw e) Q E s') s₁:=by
 refine wpAny_bind ?_
 simp only[newExc,newTuple]
 refine wpAny_bind (wpAny_newObj_type ?_ (by size_fits))
 refine wpAny_bind (m:=firstArgMember _ _) (wpAny_of_eq (a:=Value.none) (by first | rfl | (simp only[firstArgMember];rfl)) ?_)
 refine wpAny_newObj_type ?_ (by size_fits)
 simp only[raiseNew]
 refine wpAny_bind (wpAny_handled ?_)
 rw[show A.in1.handled=none from hh]
 refine wpAny_bind (wpAny_pure (wpAny_throw ?_))
 refine wpAny_bind (wpAny_isInstance (T:="StopIteration") (b:=true) ⟨_,Heap.get?_push_size _ rfl,rfl⟩ isSubtype_stop ?_)
 exact wpAny_pure (q _ fun b o e=>Heap.get?_push_of_some _ (Heap.get?_push_of_some _ e))
theorem a2V{h:Heap}{I:Addr}{first x:Value}{i a n ep:Nat}(e:h.get? I=some (itO first i a n ep))(j:Nat) :
  (h.update I (Obj.mapFields (·.setIfInBounds j x))).get? I=some { cls:=.type "set_iterator",data:=.fields (#[first,rawInt i,.ref a,rawInt n,rawInt ep].setIfInBounds j x) }:=
 Heap.get?_update_self _ e rfl
theorem a0C{I a:Addr}{sl i n ep nx:Nat}{x:Value}{Q:Option Value→Shared→Prop}(hi:s.heap.get? I=some (itO (rawInt sl) i a n ep)){ks:List Str}(Ia:IsT w s.heap a ks)(hn:ks.length=n)
  (hnx:∀(A:Around) (Q:Option (Value×Nat)→Shared→Prop) (E:Value→Shared→Prop),Q (some (x,nx)) s→wpAny (model prog w) A (setNext a sl i ep) Q E s)
  (h:∀h',Heap.SameBut I s.heap h'→h'.get? I=some (itO (rawInt nx) (i+1) a n ep)→Q (some x) { s with heap:=h' }):wpAny (model prog w) A (pyNext (.ref I)) Q E s:=by
 have ty:s.TypeIs (.ref I) "set_iterator":=⟨_,hi,rfl⟩
 unfold pyNext
 refine wpAny_bind (wpAny_attempt (wpAny_callSpecial?_slot (name:=Str.ofString "__next__") ty M6 (wpAny_call_entry M6 ty a7e ?_ (a4k _))))
 unfold Builtin.«set_iterator.__next__»
 refine wpAny_bind (m:=slotArgs "__next__" 0 _) (wpAny_pure ?_)
 refine wpAny_bind (wpAny_fieldsOf hi rfl ?_)
 dsimp only[rawInt]
 refine wpAny_bind (M7 Ia fun es _ sz=>?_)
 rw[if_neg (by rw[sz,hn];simp)]
 refine wpAny_bind ?_
 simp only[Int.toNat_natCast]
 refine hnx _ _ _ ?_
 dsimp only
 refine wpAny_bind (wpAny_setField hi rfl (by simp) ?_)
 have g1:=a2V (x:=rawInt nx) hi 0
 refine wpAny_bind (wpAny_setField (s:={ s with heap:=s.heap.update I (Obj.mapFields (·.setIfInBounds 0 (rawInt nx))) }) g1 rfl (by simp) ?_)
 refine wpAny_pure ⟨x,rfl,wpAny_pure (h _ ((Heap.SameBut.update ..).trans (Heap.SameBut.update ..)) ?_)⟩
 exact Heap.get?_update_self _ g1 rfl
theorem a2g{I a:Addr}{sl i n ep:Nat}{Q:Option Value→Shared→Prop}(hh:A.handled=none)(hi:s.heap.get? I=some (itO (rawInt sl) i a n ep)){ks:List Str}(Ia:IsT w s.heap a ks)(hn:ks.length=n)
  (hnx:∀(A:Around) (Q:Option (Value×Nat)→Shared→Prop) (E:Value→Shared→Prop),Q none s→wpAny (model prog w) A (setNext a sl i ep) Q E s)
  (h:∀h',Heap.ExtBut I s.heap h'→Q none { s with heap:=h' }):wpAny (model prog w) A (pyNext (.ref I)) Q E s:=by
 have ty:s.TypeIs (.ref I) "set_iterator":=⟨_,hi,rfl⟩
 unfold pyNext
 refine wpAny_bind (wpAny_attempt (wpAny_callSpecial?_slot (name:=Str.ofString "__next__") ty M6 (wpAny_call_entry M6 ty a7e ?_ (a4k _))))
 unfold Builtin.«set_iterator.__next__»
 refine wpAny_bind (m:=slotArgs "__next__" 0 _) (wpAny_pure ?_)
 refine wpAny_bind (wpAny_fieldsOf hi rfl ?_)
 dsimp only[rawInt]
 refine wpAny_bind (M7 Ia fun es _ sz=>?_)
 rw[if_neg (by rw[sz,hn];simp)]
 refine wpAny_bind ?_
 simp only[Int.toNat_natCast]
 refine hnx _ _ _ ?_
 dsimp only
 refine wpAny_bind (wpAny_setField hi rfl (by simp) ?_)
 refine a5H (s₁:={ s with heap:=s.heap.update I _ }) hh fun h' k=>?_
 exact h h' fun b o hb e=>k b o ((Heap.SameBut.update ..).extBut b o hb e)
theorem a4S{I a P:Addr}{i n ep p:Nat}{x:Value}{hs:Int}{ps:List Nat}{Q:Option Value→Shared→Prop}(hi:s.heap.get? I=some (itO (.ref P) i a n ep)){ks:List Str}(Ia:IsT w s.heap a ks)(hn:ks.length=n)
  {oP:Obj} {nP:Nat} (hP:s.heap.get? P=some oP) (hd:oP.data=.seq (ps.map fun(j:Nat)=>rawInt j).toArray nP) (hp:ps[i]?=some p)
  {o:Obj} {es:Array (Int×Value)} {t:SetTable} (ho:s.heap.get? a=some o) (hod:o.data=.set es ep t) (hf:t.fits es.size=true) (hx:es[p]?=some (hs,x))
  (h:∀h',Heap.SameBut I s.heap h'→h'.get? I=some (itO (.ref P) (i+1) a n ep)→Q (some x) { s with heap:=h' }):wpAny (model prog w) A (pyNext (.ref I)) Q E s:=by
 have ty:s.TypeIs (.ref I) "set_iterator":=⟨_,hi,rfl⟩
 unfold pyNext
 refine wpAny_bind (wpAny_attempt (wpAny_callSpecial?_slot (name:=Str.ofString "__next__") ty M6 (wpAny_call_entry M6 ty a7e ?_ (a4k _))))
 unfold Builtin.«set_iterator.__next__»
 refine wpAny_bind (m:=slotArgs "__next__" 0 _) (wpAny_pure ?_)
 refine wpAny_bind (wpAny_fieldsOf hi rfl ?_)
 dsimp only[rawInt]
 refine wpAny_bind (M7 Ia fun es _ sz=>?_)
 rw[if_neg (by rw[sz,hn];simp)]
 refine wpAny_bind (wpAny_seqItems hP hd ?_)
 simp only[Int.toNat_natCast]
 have e1:(ps.map fun(j:Nat)=>rawInt j).toArray[i]?=some (Value.int (p:Int) 0):=by simp[hp,rawInt]
 rw[e1]
 dsimp only
 unfold setNextDrawn
 refine wpAny_bind (wpAny_bind (wpAny_setState_of ho hod hf ?_))
 dsimp only
 rw[if_neg (by simp)]
 simp only[Int.toNat_natCast,hx]
 refine wpAny_pure ?_
 refine wpAny_bind (wpAny_setField hi rfl (by simp) ?_)
 refine wpAny_pure ⟨x,rfl,wpAny_pure (h _ (Heap.SameBut.update ..) ?_)⟩
 exact Heap.get?_update_self _ hi rfl
theorem a3w{I a P:Addr}{i n ep:Nat}{ps:List Nat}{Q:Option Value→Shared→Prop}(hh:A.handled=none)(hi:s.heap.get? I=some (itO (.ref P) i a n ep)){ks:List Str}(Ia:IsT w s.heap a ks)(hn:ks.length=n)
  {oP:Obj} {nP:Nat} (hP:s.heap.get? P=some oP) (hd:oP.data=.seq (ps.map fun(j:Nat)=>rawInt j).toArray nP) (hp:ps.length≤i)
  (h:∀h',Heap.ExtBut I s.heap h'→Q none { s with heap:=h' }):wpAny (model prog w) A (pyNext (.ref I)) Q E s:=by
 have ty:s.TypeIs (.ref I) "set_iterator":=⟨_,hi,rfl⟩
 unfold pyNext
 refine wpAny_bind (wpAny_attempt (wpAny_callSpecial?_slot (name:=Str.ofString "__next__") ty M6 (wpAny_call_entry M6 ty a7e ?_ (a4k _))))
 unfold Builtin.«set_iterator.__next__»
 refine wpAny_bind (m:=slotArgs "__next__" 0 _) (wpAny_pure ?_)
 refine wpAny_bind (wpAny_fieldsOf hi rfl ?_)
 dsimp only[rawInt]
 refine wpAny_bind (M7 Ia fun es _ sz=>?_)
 rw[if_neg (by rw[sz,hn];simp)]
 refine wpAny_bind (wpAny_seqItems hP hd ?_)
 simp only[Int.toNat_natCast]
 have e1:(ps.map fun(j:Nat)=>rawInt j).toArray[i]?=none:=by simp[hp]
 rw[e1]
 dsimp only
 refine wpAny_bind (wpAny_setField hi rfl (by simp) ?_)
 have g1:=a2V (x:=rawInt 0) hi 0
 refine wpAny_bind (wpAny_setField (s:={ s with heap:=s.heap.update I (Obj.mapFields (·.setIfInBounds 0 (rawInt 0))) }) g1 rfl (by simp) ?_)
 refine a5H (s₁:={ s with heap:=(s.heap.update I _).update I _ }) hh fun h' k=>?_
 exact h h' fun b o hb e=>k b o (((Heap.SameBut.update ..).trans (Heap.SameBut.update ..)).extBut b o hb e)
end
end TS
namespace TS
open PySem PySem.Spec PyProof.Rows
set_option maxRecDepth 100000
structure Nx(prog:Program)(w:World)(I:Addr)(fp:List Addr)(vs:List Value)(St:Nat→Heap→Prop):Prop where
 frame:∀i h h',St i h→(∀b∈I::fp,∀o,h.get? b=some o→h'.get? b=some o)→St i h'
 item:∀(A:Around) (i:Nat) (s:Shared) (Q:Option Value→Shared→Prop) (E:Value→Shared→Prop) (lt:i<vs.length),St i s.heap →
  (∀h',Heap.SameBut I s.heap h'→St (i+1) h'→Q (some vs[i]) { s with heap:=h' })→wpAny (model prog w) A (pyNext (.ref I)) Q E s
 done:∀(A:Around) (s:Shared) (Q:Option Value→Shared→Prop) (E:Value→Shared→Prop),A.handled=none→St vs.length s.heap →
  (∀h',Heap.ExtBut I s.heap h'→Q none { s with heap:=h' })→wpAny (model prog w) A (pyNext (.ref I)) Q E s
section
variable{prog:Program}{w:World}{A:Around}{E:Value→Shared→Prop}{s:Shared}
theorem a5T{src:Source}{n:Nat}{Q:Nat→Shared→Prop}(hn:n≠0)(h:∀k d',k<n→Q k { s with drawn:=d' }):wpAny (model prog w) A (choose src n) Q E s:=
 fun _ _ _=>⟨hn,h _ _ (Nat.mod_lt _ (Nat.pos_of_ne_zero hn))⟩
theorem a3K{α:Type}:∀(n:Nat) (xs:List α) (s:Shared) {Q:List α→Shared→Prop},n=xs.length→(∀ys d',ys.Perm xs→Q ys { s with drawn:=d' })→wpAny (model prog w) A (drawOrder n xs) Q E s
 | 0,xs,s,Q,e,h=>by
  have:xs=[]:=List.eq_nil_of_length_eq_zero e.symm
  subst this
  exact wpAny_pure (h [] s.drawn (List.Perm.refl _))
 | n+1,[],s,Q,e,h=>by simp at e
 | n+1,x::xs,s,Q,e,h=>by
  unfold drawOrder
  refine wpAny_bind (a5T (by simp) fun k d hk=>?_)
  rw[List.getElem?_eq_getElem hk]
  dsimp only
  refine wpAny_bind (a3K n _ _ (by rw[List.length_eraseIdx_of_lt hk];omega) fun ys d' p=>?_)
  exact wpAny_pure (h _ d' ((p.cons _).trans (a5e (x::xs) k hk)))
theorem b7h{I a:Addr}{o:Obj}{es:Array (Int×Value)}{ep:Nat}{t:SetTable}{ks:List Str}(hb:T9 w=true)(hd:o.data=.set es ep t)(hf:t.fits es.size=true)(mk:∀h:Heap,h.get? a=some o→IsT w h a ks)(hn:ks.length=es.size)(ne:a≠I) :
  Nx prog w I [a] ((pickOrder (w.params.setOrder a ep) es).toList.map (·.2)) (fun i h=>h.get? I=some (itO (rawInt (0:Nat)) i a es.size ep)∧h.get? a=some o) where
 frame:=fun i h h' st k=>⟨k I (by simp) _ st.1,k a (by simp) _ st.2⟩
 item:=fun A i s Q E lt st q=>by
  rw[List.length_map]at lt
  refine a0C (nx:=0) (x:=((pickOrder (w.params.setOrder a ep) es).toList[i]).2) st.1 (mk _ st.2) hn (fun A' Q' E' q'=>?_) fun h' sb g=>?_
  ·unfold setNext
   refine wpAny_bind (wpAny_setState_of st.2 hd hf ?_)
   dsimp only
   refine wpAny_bind (E2 ?_)
   rw[hb,if_pos rfl,if_neg (by simp)]
   unfold setWalk
   refine wpAny_bind (wpAny_bind (wpAny_setState_of st.2 hd hf ?_))
   dsimp only
   refine wpAny_bind (E2 ?_)
   rw[hb,if_pos rfl]
   refine wpAny_bind (wpAny_askSetting (wpAny_pure (wpAny_pure ?_)))
   have e:(pickOrder (w.params.setOrder a ep) es)[i]?=some ((pickOrder (w.params.setOrder a ep) es).toList[i]):=by
    rw[←Array.getElem?_toList];exact List.getElem?_eq_getElem lt
   show Q' (((pickOrder (w.params.setOrder a ep) es)[i]?).map fun e=>(e.2,0)) s
   rw[e];exact q'
  ·have:=q h' sb ⟨g,(sb.2 a ne).trans st.2⟩
   rw[List.getElem_map]at this
   exact this
 done:=fun A s Q E hh st q=>by
  rw[List.length_map]at st
  refine a2g hh st.1 (mk _ st.2) hn (fun A' Q' E' q'=>?_) fun h' eb=>q h' eb
  unfold setNext
  refine wpAny_bind (wpAny_setState_of st.2 hd hf ?_)
  dsimp only
  refine wpAny_bind (E2 ?_)
  rw[hb,if_pos rfl,if_neg (by simp)]
  unfold setWalk
  refine wpAny_bind (wpAny_bind (wpAny_setState_of st.2 hd hf ?_))
  dsimp only
  refine wpAny_bind (E2 ?_)
  rw[hb,if_pos rfl]
  refine wpAny_bind (wpAny_askSetting (wpAny_pure (wpAny_pure ?_)))
  show Q' (((pickOrder (w.params.setOrder a ep) es)[(pickOrder (w.params.setOrder a ep) es).toList.length]?).map fun e=>(e.2,0)) s
  rw[show(pickOrder (w.params.setOrder a ep) es)[(pickOrder (w.params.setOrder a ep) es).toList.length]?=none by simp]
  exact q'
theorem b3e{I a P:Addr}{o oP:Obj}{es:Array (Int×Value)}{ep nP:Nat}{t:SetTable}{ks:List Str}{ps:List Nat}(hd:o.data=.set es ep t)(hf:t.fits es.size=true)(mk:∀h:Heap,h.get? a=some o→IsT w h a ks)(hn:ks.length=es.size)(ne:a≠I)(np:P≠I)
  (hP:oP.data=.seq (ps.map fun(j:Nat)=>rawInt j).toArray nP) (hps:∀p∈ps,p<es.size) :
  Nx prog w I [a,P] (ps.map fun p=>(es.getD p (0,.none)).2) (fun i h=>h.get? I=some (itO (.ref P) i a es.size ep)∧h.get? a=some o∧h.get? P=some oP) where
 frame:=fun i h h' st k=>⟨k I (by simp) _ st.1,k a (by simp) _ st.2.1,k P (by simp) _ st.2.2⟩
 item:=fun A i s Q E lt st q=>by
  rw[List.length_map]at lt
  have lp:=hps ps[i] (List.getElem_mem lt)
  refine a4S (x:=(es.getD ps[i] (0,.none)).2) (hs:=(es.getD ps[i] (0,.none)).1) (p:=ps[i]) st.1 (mk _ st.2.1) hn st.2.2 hP (List.getElem?_eq_getElem lt) st.2.1 hd hf (by simp[Array.getD,lp]) fun h' sb g=>?_
  have:=q h' sb ⟨g,(sb.2 a ne).trans st.2.1,(sb.2 P np).trans st.2.2⟩
  rw[List.getElem_map]at this
  exact this
 done:=fun A s Q E hh st q=>by
  rw[List.length_map]at st
  exact a3w hh st.1 (mk _ st.2.1) hn st.2.2 hP (Nat.le_refl _) fun h' eb=>q h' eb
theorem a4B(j sl:Nat):SetTable.below #[j] sl=if j<sl then 1 else 0:=by
 unfold SetTable.below
 show SetTable.below.go #[j] sl 1 0 1=_
 unfold SetTable.below.go
 simp only[Nat.zero_lt_one,if_true]
 show(if j<sl then SetTable.below.go #[j] sl 0 1 1 else SetTable.below.go #[j] sl 0 0 0)=_
 split<;>rfl
theorem b2g{I a:Addr}{o:Obj}{es:Array (Int×Value)}{ep:Nat}{t:SetTable}{ks:List Str}(hb:T9 w=false)(hd:o.data=.set es ep t)(hf:t.fits es.size=true)(hl:t.led=true)(sm:es.size≤1)(mk:∀h:Heap,h.get? a=some o→IsT w h a ks)(hn:ks.length=es.size)(ne:a≠I) :
  Nx prog w I [a] (es.toList.map (·.2)) (fun i h=>h.get? I=some (itO (rawInt (if i=0 then 0 else t.place.getD 0 0+1:Nat)) i a es.size ep)∧h.get? a=some o):=by
 have pz:t.place.size=es.size:=by simp only[SetTable.fits,Bool.and_eq_true,beq_iff_eq]at hf;exact hf.1
 have pre:∀(sl i:Nat) (s:Shared) (r:Option (Value×Nat)) (A':Around) (Q':Option (Value×Nat)→Shared→Prop) (E':Value→Shared→Prop),s.heap.get? a=some o →
   (match es[SetTable.below t.place sl]?,t.place[SetTable.below t.place sl]? with | some (_,x),some j=>some (x,j+1) | _,_=>none)=r→Q' r s→wpAny (model prog w) A' (setNext a sl i ep) Q' E' s:=by
  intro sl i s r A' Q' E' ho e q'
  unfold setNext
  refine wpAny_bind (wpAny_setState_of ho hd hf ?_)
  dsimp only
  refine wpAny_bind (E2 ?_)
  rw[hb,if_neg Bool.false_ne_true]
  show wpAny _ _ (if (!t.plain&&decide (es.size>1))=true then _ else _) _ _ _
  rw[if_neg (by simp;intro _;exact sm)]
  show wpAny _ _ ((if (!t.led&&!es.isEmpty)=true then unsupported "set:maker-not-led" else pure ()) >>= _) _ _ _
  rw[if_neg (by rw[hl];simp)]
  refine wpAny_bind (wpAny_pure (wpAny_pure ?_))
  rw[←e]at q'
  exact q'
 refine⟨fun i h h' st k=>⟨k I (by simp) _ st.1,k a (by simp) _ st.2⟩,fun A i s Q E lt st q=>?_,fun A s Q E hh st q=>?_⟩
 ·rw[List.length_map,Array.length_toList]at lt
  have i0:i=0:=by omega
  have z1:es.size=1:=by omega
  subst i0
  obtain⟨e0,he0⟩:∃e0,es=#[e0]:=Array.size_eq_one_iff.mp z1
  obtain⟨j,hj⟩:∃j,t.place=#[j]:=Array.size_eq_one_iff.mp (pz.trans z1)
  subst he0
  refine a0C (nx:=j+1) (x:=e0.2) st.1 (mk _ st.2) hn (fun A' Q' E' q'=>?_) fun h' sb g=>?_
  ·refine pre _ _ s _ A' Q' E' st.2 ?_ q'
   rw[hj,if_pos rfl,a4B,if_neg (Nat.not_lt_zero _)]
   rfl
  ·refine q h' sb ⟨?_,(sb.2 a ne).trans st.2⟩
   rw[hj,if_neg (by omega)]
   exact g
 ·rw[List.length_map,Array.length_toList]at st
  refine a2g hh st.1 (mk _ st.2) hn (fun A' Q' E' q'=>?_) fun h' eb=>q h' eb
  refine pre _ _ s _ A' Q' E' st.2 ?_ q'
  by_cases z:es.size=0
  ·rw[if_pos z]
   have e0:es=#[]:=Array.size_eq_zero_iff.mp z
   have p0:t.place=#[]:=Array.size_eq_zero_iff.mp (pz.trans z)
   rw[e0,p0];rfl
  ·rw[if_neg z]
   have z1:es.size=1:=by omega
   obtain⟨e0,he0⟩:∃e0,es=#[e0]:=Array.size_eq_one_iff.mp z1
   obtain⟨j,hj⟩:∃j,t.place=#[j]:=Array.size_eq_one_iff.mp (pz.trans z1)
   rw[hj,he0]
   show(match #[e0][SetTable.below #[j] (j+1)]?,#[j][SetTable.below #[j] (j+1)]? with | some (_,x),some j=>some (x,j+1) | _,_=>none)=none
   rw[a4B,if_pos (Nat.lt_succ_self _)]
   rfl
end
end TS
namespace TS
open PySem PySem.Spec PyProof.Rows
set_option maxRecDepth 100000
def Tells(vs:List Value)(ks:List Str):Prop:=∃us,T2 vs us∧us.Perm ks
theorem tells_of{w:World}:∀{es:List (Int×Value)},Q3 w es→T2 (es.map (·.2)) (es.map X8)
 | [],_=>.nil
 | e::es,h=>by
  obtain⟨k,t,q⟩:=h e List.mem_cons_self
  exact .cons ⟨t,by subst q;rfl⟩ (tells_of fun x hx=>h x (List.mem_cons_of_mem _ hx))
theorem a4x{es:Array (Int×Value)}:(List.range es.size).map (fun p=>es.getD p (0,.none))=es.toList:=by
 apply List.ext_getElem
 ·simp
 ·intro i h1 h2
  simp at h1
  simp[Array.getD,h1]
section
variable{prog:Program}{w:World}{A:Around}{E:Value→Shared→Prop}{s:Shared}
theorem b2c{a:Addr}{ks:List Str}{Q:Value→Shared→Prop}(Ia:IsT w s.heap a ks)
  (h:∀(I:Addr) (fp:List Addr) (vs:List Value) (St:Nat→Heap→Prop) (h':Heap) (d':Drawn),Nx prog w I fp vs St→St 0 h'→(∀b o,s.heap.get? b=some o→h'.get? b=some o)→s.heap.objs.size≤I→(∀b∈fp,b=a∨s.heap.objs.size≤b)→Tells vs ks →
   Q (.ref I) { s with heap:=h',drawn:=d' }):wpAny (model prog w) A (pyIter (.ref a)) Q E s:=by
 obtain⟨o,es,ep,t,ho,hx,hd,he,hp,hn,hb,hf,hl,hc⟩:=id Ia
 have mk:∀h1:Heap,h1.get? a=some o→IsT w h1 a ks:=fun h1 e=>⟨o,es,ep,t,e,hx,hd,he,hp,hn,hb,hf,hl,hc⟩
 have sz:ks.length=es.size:=by rw[←hp.length_eq,List.length_map,Array.length_toList]
 have la:a<s.heap.objs.size:=Heap.lt_size ho
 refine wpAny_pyIter_slot Ia.ty F.slot_set_iter (wpAny_call_entry F.slot_set_iter Ia.ty a8M ?_ (F.args_set_iter_1 _))
 unfold Builtin.«frozenset.__iter__» Builtin.Frozenset.slot0
 refine wpAny_bind (wpAny_bind (m:=slotArgs "__iter__" 0 _) (wpAny_pure (wpAny_pure ?_)))
 refine wpAny_bind (a9p Ia ?_)
 unfold setDrawn
 refine wpAny_bind (wpAny_bind (wpAny_setState_of ho hd hf ?_))
 dsimp only
 refine wpAny_bind (E2 (wpAny_pure ?_))
 show wpAny _ _ (if (!T9 w&&(!t.plain&&decide (es.size>1)))=true then _ else _) _ _ _
 by_cases c:(!T9 w&&(!t.plain&&decide (es.size>1)))=true
 ·rw[if_pos c]
  refine wpAny_bind (a3K _ _ _ (by simp) fun ps d' pp=>?_)
  have psz:ps.length=es.size:=by rw[pp.length_eq,List.length_range,sz]
  have zl:(ps.map fun(i:Nat)=>rawInt i).length≤sizeLine:=by rw[List.length_map,psz];exact fits_of_scanBound hb
  refine wpAny_bind (wpAny_newTuple ?_ zl)
  generalize hh1:s.heap.push { cls:=.type "tuple",data:=.seq (ps.map fun(i:Nat)=>rawInt i).toArray }=h1
  have k1:∀b o,s.heap.get? b=some o→h1.get? b=some o:=fun b o e=>by rw[←hh1];exact Heap.get?_push_of_some _ e
  have g1:h1.get? s.heap.objs.size=some { cls:=.type "tuple",data:=.seq (ps.map fun(i:Nat)=>rawInt i).toArray }:=by rw[←hh1];exact Heap.get?_push_size _ rfl
  have z1:h1.objs.size=s.heap.objs.size+1:=by rw[←hh1];exact Heap.size_push ..
  refine wpAny_bind (wpAny_setEpoch_of (s:={ s with heap:=h1,drawn:=d' }) (k1 a o ho) hd hf ?_)
  refine wpAny_bind (wpAny_newObj_type (wpAny_pure ⟨_,rfl,"set_iterator",_,⟨_,Heap.get?_push_size _ rfl,rfl⟩,M6.lookup,?_⟩))
  refine h h1.objs.size _ _ _ _ d' (b3e (P:=s.heap.objs.size) (ps:=ps) (oP:={ cls:=.type "tuple",data:=.seq (ps.map fun(i:Nat)=>rawInt i).toArray }) (nP:=0) hd hf mk sz (by rw[z1];exact Nat.ne_of_lt (Nat.lt_succ_of_lt la)) (by rw[z1];exact Nat.ne_of_lt (Nat.lt_succ_self _)) rfl fun p hp'=>?_) ⟨?_,?_,?_⟩ (fun b o e=>Heap.get?_push_of_some _ (k1 b o e)) (by rw[z1];exact Nat.le_succ _) (fun b hb'=>?_) ?_
  ·have:=pp.mem_iff.mp hp'
   rw[List.mem_range,sz]at this
   exact this
  ·rw[←sz];exact Heap.get?_push_size _ rfl
  ·exact Heap.get?_push_of_some _ (k1 a o ho)
  ·exact Heap.get?_push_of_some _ g1
  ·simp only[List.mem_cons,List.not_mem_nil,or_false]at hb'
   exact hb'.imp id fun e=>by rw[e];exact Nat.le_refl _
  ·have q:(ps.map fun p=>es.getD p (0,.none)).Perm es.toList:=by
    have:=pp.map (fun p=>es.getD p (0,Value.none))
    rw[sz,a4x]at this
    exact this
   have q2:(ps.map fun p=>(es.getD p (0,.none)).2)=(ps.map fun p=>es.getD p (0,.none)).map (·.2):=by rw[List.map_map];rfl
   rw[q2]
   exact⟨_,tells_of (he.of_perm q),(q.map X8).trans hp⟩
 ·rw[if_neg c]
  refine wpAny_bind (wpAny_pure ?_)
  refine wpAny_bind (wpAny_setEpoch_of ho hd hf ?_)
  refine wpAny_bind (wpAny_newObj_type (wpAny_pure ⟨_,rfl,"set_iterator",_,⟨_,Heap.get?_push_size _ rfl,rfl⟩,M6.lookup,?_⟩))
  cases hbt:T9 w with
  | true=>
   refine h s.heap.objs.size _ _ _ _ s.drawn (b7h hbt hd hf mk sz (Nat.ne_of_lt la)) ⟨?_,Heap.get?_push_of_some _ ho⟩ (fun b o e=>Heap.get?_push_of_some _ e) (Nat.le_refl _) (fun b hb'=>.inl (by simpa using hb')) ?_
   ·rw[←sz];exact Heap.get?_push_size _ rfl
   ·exact⟨_,tells_of (he.of_perm (a0b _ _)),a6W (a0b _ _) hp⟩
  | false=>
   rw[hbt]at c hl
   have sm:es.size≤1:=by
    rcases hc with z | z
    ·omega
    ·rw[z]at c;simp at c;exact c
   refine h s.heap.objs.size _ _ _ _ s.drawn (b2g hbt hd hf hl sm mk sz (Nat.ne_of_lt la)) ⟨?_,Heap.get?_push_of_some _ ho⟩ (fun b o e=>Heap.get?_push_of_some _ e) (Nat.le_refl _) (fun b hb'=>.inl (by simpa using hb')) ?_
   ·rw[←sz];exact Heap.get?_push_size _ rfl
   ·exact⟨_,tells_of he,hp⟩
theorem b2e{R:Result→Shared→Prop}(hh:A.handled=none){S I:Addr}{fp:List Addr}{vs:List Value}{St:Nat→Heap→Prop}(W:Nx prog w I fp vs St)(hz:vs.length≤sizeLine)(n1:S≠I)(n2:S∉fp)(res:Value) :
  ∀(d i:Nat) (s:Shared) (c:Nat),vs.length-i=d→i≤vs.length→St i s.heap→s.heap.get? S=some { cls:=.type "list",data:=.seq (vs.take i).toArray c } →
   (∀h' c',(∀b o,b≠S→b≠I→s.heap.get? b=some o→h'.get? b=some o)→h'.get? S=some { cls:=.type "list",data:=.seq vs.toArray c' }→R (.ok (.ret res)) { s with heap:=h' }) →
   codeAny (model prog w) A (.builtin "list.extend.loop" ⟨[.ref S,.ref I,res],[]⟩) R s:=by
 intro d
 induction d with
 | zero=>
  intro i s c e1 e2 st hS hR
  have en:i=vs.length:=by omega
  subst en
  refine codeAny_builtin F.entry_extend_loop ?_
  rw[Around.under_plainId F.plain_extend_loop _]
  show wpAny _ A.in1 (pyNext (.ref I) >>= _) _ _ s
  refine wpAny_bind (W.done A.in1 s _ _ (by simpa using hh) st fun h' eb=>?_)
  refine wpAny_pure (hR h' c (fun b o _ hb q=>eb b o hb q) ?_)
  rw[List.take_length]at hS
  exact eb S _ n1 hS
 | succ d ih=>
  intro i s c e1 e2 st hS hR
  have lt:i<vs.length:=by omega
  refine codeAny_builtin F.entry_extend_loop ?_
  rw[Around.under_plainId F.plain_extend_loop _]
  show wpAny _ A.in1 (pyNext (.ref I) >>= _) _ _ s
  refine wpAny_bind (W.item A.in1 i s _ _ lt st fun h1 sb st1=>?_)
  have hS1:h1.get? S=some { cls:=.type "list",data:=.seq (vs.take i).toArray c }:=(sb.2 S n1).trans hS
  show wpAny _ A.in1 (updateSeq S (·.push vs[i]) >>= _) _ _ _
  refine wpAny_bind (wpAny_updateSeq hS1 rfl (wpAny_pure ⟨plainId_quiet F.plain_extend_loop _,ih (i+1) _ (if ((vs.take i).toArray.push vs[i]).size==(vs.take i).toArray.size then c else c+1) (by omega) lt (W.frame _ _ _ st1 fun b hb o q=>?_) (Heap.get?_update_self _ hS1 rfl |>.trans ?_) fun h' c' kp g=>?_⟩) ?_ ?_)
  ·have nb:b≠S:=fun e=>by
    rw[e]at hb
    rcases List.mem_cons.mp hb with hb | hb
    ·exact n1 hb
    ·exact n2 hb
   exact(Heap.get?_update_other _ _ (Ne.symm nb)).trans q
  ·have:(vs.take i).toArray.push vs[i]=(vs.take (i+1)).toArray:=by
    rw[List.take_add_one,List.getElem?_eq_getElem lt];simp
   rw[←this];rfl
  ·exact hR h' c' (fun b o a1 a2 q=>kp b o a1 a2 ((Heap.get?_update_other _ _ (Ne.symm a1)).trans ((sb.2 b a2).trans q))) g
  ·simp;omega
  ·show((vs.take i).toArray.push vs[i]).size≤sizeLine+1
   simp;omega
end
end TS
namespace TS
open PySem PySem.Spec PyProof.Rows Srt
set_option maxRecDepth 100000
theorem a7Q:typeLookup (.type "set") "__len__"=pure (some (.builtin "set.__len__")):=F.slot_set_len.lookup
section
variable{prog:Program}{w:World}{A:Around}{E:Value→Shared→Prop}{s:Shared}
theorem a5M{a:Addr}{ks:List Str}{Q:List Value→Shared→Prop}(hh:A.handled=none)(Ia:IsT w s.heap a ks)
  (h:∀(vs:List Value) (h':Heap) (d':Drawn),Tells vs ks→s.heap.objs.size<h'.objs.size→(∀b o,s.heap.get? b=some o→h'.get? b=some o)→Q vs { s with heap:=h',drawn:=d' }) :
  wpAny (model prog w) A (collect (.ref a)) Q E s:=by
 have la:a<s.heap.objs.size:=let ⟨_,_,_,_,q,_⟩:=Ia;Heap.lt_size q
 have zk:ks.length≤sizeLine:=fits_of_scanBound Ia.len
 unfold collect
 refine wpAny_bind (wpAny_runValue (codeAny_builtin F.entry_proto_collect ?_))
 rw[Around.under_plainId F.plain_proto_collect _]
 show wpAny _ A.in1 (newList [] >>= fun l=>again (.builtin "list.__iadd__" ⟨[l,.ref a],[]⟩)) _ _ s
 refine wpAny_bind (wpAny_newObj_type ?_)
 refine wpAny_pure ⟨plainId_quiet F.plain_list_iadd _,codeAny_builtin F.entry_list_iadd ?_⟩
 rw[Around.under_plainId F.plain_list_iadd _]
 generalize hh1:s.heap.push { cls:=.type "list",data:=.seq ([]:List Value).toArray }=h1
 have k1:∀b o,s.heap.get? b=some o→h1.get? b=some o:=fun b o e=>by rw[←hh1];exact Heap.get?_push_of_some _ e
 have g1:h1.get? s.heap.objs.size=some { cls:=.type "list",data:=.seq #[] 0 }:=by rw[←hh1];exact Heap.get?_push_size _ rfl
 have z1:h1.objs.size=s.heap.objs.size+1:=by rw[←hh1];exact Heap.size_push ..
 have I1:IsT w h1 a ks:=Ia.at fun o e=>k1 a o e
 show wpAny _ A.in1 (Builtin.List.listExtendWith (.ref s.heap.objs.size) (.ref a) (.ref s.heap.objs.size)) _ _ { s with heap:=h1 }
 unfold Builtin.List.listExtendWith
 refine wpAny_bind (wpAny_typeOf (s:={ s with heap:=h1 }) I1.ty ?_)
 have nsr:Builtin.List.listSameRef (.ref s.heap.objs.size) (.ref a)=false:=by
  simp only[Builtin.List.listSameRef,beq_eq_false_iff_ne];exact Nat.ne_of_gt la
 rw[if_neg (by rw[nsr];decide)]
 refine wpAny_bind (b2c (s:={ s with heap:=h1 }) I1 fun I fp vs St h2 d' W st k2 hI hfp T=>?_)
 have I2:IsT w h2 a ks:=I1.at fun o e=>k2 a o e
 have g2:=k2 _ _ g1
 refine wpAny_bind (wpAny_holding ?_)
 unfold Builtin.List.listLengthHint
 refine wpAny_bind (wpAny_specialOf (s:={ s with heap:=h2,drawn:=d' }) I2.ty a7Q ?_)
 generalize hid:("set.__len__":String)=id0
 dsimp only
 rw[show splitId id0=some ("set","__len__") from by subst hid;decide +kernel]
 subst hid
 dsimp only
 refine wpAny_bind (wpAny_isInstance (b:=true) (s:={ s with heap:=h2,drawn:=d' }) I2.ty sub_set_self ?_)
 rw[if_neg (by decide),if_pos (by decide +kernel)]
 refine wpAny_bind (wpAny_typeOf (s:={ s with heap:=h2,drawn:=d' }) I2.ty ?_)
 refine wpAny_pure ?_
 rw[if_pos (by decide +kernel)]
 refine wpAny_bind (wpAny_rule ?_)
 unfold Builtin.List.listTouch
 obtain⟨us,tx,pu⟩:=id T
 have zv:vs.length≤sizeLine:=by rw[tx.len,pu.length_eq];exact zk
 refine wpAny_bind (wpAny_bind (listUpdate_at (s:={ s with heap:=h2,drawn:=d' }) g2 rfl ?_ (Nat.zero_le _) (by show(#[].push Value.none).size≤_;rw[sizeLine_eq];decide)))
 have g3:(h2.update s.heap.objs.size (Obj.mapSeq (·.push .none))).get? s.heap.objs.size=some { cls:=.type "list",data:=.seq #[Value.none] 1 }:=Heap.get?_update_self _ g2 rfl
 refine listUpdate_at (s:={ s with heap:=h2.update s.heap.objs.size (Obj.mapSeq (·.push .none)),drawn:=d' }) g3 rfl ?_ (by show(1:Nat)≤_;rw[sizeLine_eq];decide) (Nat.zero_le _)
 generalize hh4:(h2.update s.heap.objs.size (Obj.mapSeq (·.push .none))).update s.heap.objs.size (Obj.mapSeq (·.pop))=h4
 have g4:h4.get? s.heap.objs.size=some { cls:=.type "list",data:=.seq #[] 2 }:=by rw[←hh4];exact Heap.get?_update_self _ g3 rfl
 have k4:∀b o,b≠s.heap.objs.size→h2.get? b=some o→h4.get? b=some o:=fun b o hb e=>by
  rw[←hh4,Heap.get?_update_other _ _ (Ne.symm hb),Heap.get?_update_other _ _ (Ne.symm hb)];exact e
 have nI:s.heap.objs.size≠I:=by
  have q:h1.objs.size≤I:=hI
  rw[z1]at q;exact Nat.ne_of_lt q
 have nf:s.heap.objs.size∉fp:=fun hm=>by
  rcases hfp _ hm with e | e
  ·exact Nat.ne_of_gt la e
  ·have e:h1.objs.size≤s.heap.objs.size:=e
   rw[z1]at e;exact Nat.lt_irrefl _ e
 refine wpAny_pure ⟨plainId_quiet F.plain_extend_loop _,b2e (by simpa using hh) W zv nI nf _ (vs.length-0) 0 { s with heap:=h4,drawn:=d' } 2 rfl (Nat.zero_le _) ?_ g4 fun h5 c5 k5 g5=>?_⟩
 ·refine W.frame 0 h2 h4 st fun b hb o e=>k4 b o (fun z=>?_) e
  rw[z]at hb
  rcases List.mem_cons.mp hb with hb | hb
  ·exact nI hb
  ·exact nf hb
 ·show wpAny _ A (load s.heap.objs.size >>= _) _ _ _
  refine wpAny_bind (wpAny_load g5 ?_)
  refine wpAny_pure (h vs h5 d' T (Heap.lt_size g5) fun b o e=>?_)
  have lb:=Heap.lt_size e
  refine k5 b o (Nat.ne_of_lt lb) (fun z=>?_) (k4 b o (Nat.ne_of_lt lb) (k2 b o (k1 b o e)))
  have q:h1.objs.size≤I:=hI
  rw[z1,←z]at q
  exact Nat.lt_irrefl _ (Nat.lt_trans lb q)
theorem a2S{O:KeyOrd}{key:Keyed→O.α}(d:O.α){a:Addr}{ks:List Str}{Q:Value→Shared→Prop}(hh:A.handled=none)(Ia:IsT w s.heap a ks)
  (S:∀vs,Tells vs ks→Sortable prog w s.heap vs O key)
  (h:∀(vs out:List Value) (l:Addr) (h':Heap) (d':Drawn) (e:Nat),Tells vs ks→out.Perm vs→out.Pairwise (fun x y=>O.kle (key (x,x)) (key (y,y)))→s.heap.objs.size≤l→(∀b o,s.heap.get? b=some o→h'.get? b=some o) →
   h'.get? l=some (seqObj "list" out.toArray e)→Q (.ref l) { s with heap:=h',drawn:=d' }) :
  wpAny (model prog w) A (call (.builtin "sorted") [.ref a]) Q E s:=by
 refine Calls.call_function_entry kind_sorted plain_sorted entry_sorted (args_sorted1 _) ?_
 unfold Builtin.«sorted»
 refine wpAny_bind (m:=checkCount "sorted" 1 1 _) (wpAny_pure ?_)
 refine wpAny_bind (a5M (by simpa using hh) Ia fun vs h1 d' T l1 k1=>?_)
 obtain⟨us,tx,pu⟩:=id T
 have zv:vs.length≤sizeLine:=by rw[tx.len,pu.length_eq];exact fits_of_scanBound Ia.len
 refine wpAny_bind (wpAny_newList ?_ zv)
 have lo:∀b o,s.heap.get? b=some o→b<h1.objs.size:=fun b o e=>Heap.lt_size (k1 b o e)
 have sl:s.heap.objs.size≤h1.objs.size:=Nat.le_of_lt l1
 have oL:(h1.push (seqObj "list" vs.toArray 0)).get? h1.objs.size=some (seqObj "list" vs.toArray 0):=Heap.get?_push_size _ rfl
 have keep:∀b o,s.heap.get? b=some o→b≠h1.objs.size∧(h1.push (seqObj "list" vs.toArray 0)).get? b=some o:=fun b o e=>
  ⟨Nat.ne_of_lt (lo b o e),Heap.get?_push_of_some _ (k1 b o e)⟩
 refine wpAny_bind (wpAny_holding (wpAny_call_entry slot_list_sort (s:={ s with heap:=h1.push (seqObj "list" vs.toArray 0),drawn:=d' }) ⟨_,oL,rfl⟩ entry_list_sort (sort_any d oL zv (S vs T) keep fun out a1 a2=>⟨_,rfl,?_⟩) (args_list_sort _)))
 obtain⟨e,he⟩:=sortedHeap_at (out:=out.toArray) oL
 refine wpAny_pure ⟨_,rfl,h vs out _ _ d' e T a1 a2 sl (fun b o q=>?_) he⟩
 rw[sortedHeap_old (keep b o q).1 (Heap.lt_size (keep b o q).2)]
 exact(keep b o q).2
end
end TS
namespace L2
open PySem PySem.Spec PyProof.Rows Srt TS
def tso(w:World)(a:Addr)(ks:List Str):HO:=.ext fun h=>IsT w h a ks
section
variable{X:Cx}{pins:List (Addr×Obj)}{σ:St}{H:Hp}{s:Shared}
theorem a5V{h:Heap}{a:Addr}{ks:List Str}(x:IsT X.w h a ks):y0 X.prog X.w H h a (tso X.w a ks):=
 ⟨x,let ⟨o,_,_,_,q,_⟩:=x;⟨o,q⟩,fun _ _ y k=>y.at k⟩
theorem Inv.isT(I:Inv X pins σ H s){a:Addr}{ks:List Str}(e:H a=some (tso X.w a ks)):IsT X.w s.heap a ks:=(I.hok a _ e).1
theorem Inv.draw(I:Inv X pins σ H s)(d:Drawn):Inv X pins σ H { s with drawn:=d }:=⟨I.ok,I.os,I.bare,I.base,I.loc,I.cell,I.free,I.freeC,I.pin,I.hok,I.len⟩
theorem b8g:∀{ks:List Str} {us:List Value},i8 (ks.map V.str) us→T2 us ks
 | [],_,.nil=>.nil
 | _::_,_,.cons r t=>.cons r (b8g t)
theorem a2x:∀{ks:List Str} {us:List Value},T2 us ks→i8 (ks.map V.str) us
 | _,_,.nil=>.nil
 | _,_,.cons r t=>.cons r (a2x t)
theorem a7F(hc:X.calm=true):L6 X (.type "set") (fun as H Q=>∃p ks,as=[.ref p]∧d9 X.K H p (ks.map V.str)∧ks.length+1<scanBound∧∀l,H l=none→Q (.ref l) (upd H l (tso X.w l (once ks)))):=by
 intro pins s σ H as us Q I r h
 obtain⟨p,ks,rfl,hq,hb,q⟩:=h
 obtain⟨u,rfl,ru⟩:=vals1 r
 cases (show u=Value.ref p from ru)
 obtain⟨its,rv,pl,hz⟩:=I.list hq
 refine a3M (vs:=its) (I.ok.hd hc) pl.isList (b8g rv) hb fun h' tk I' k=>?_
 exact⟨.ref s.heap.objs.size,_,I.laid (t':=tk) k (Nat.le_refl _) (a5V I'),rfl,q _ (I.hok.fresh (Nat.le_refl _))⟩
def b2s(w:World):R2:=fun x y H Q=>∃a b ks js,x=.ref a∧y=.ref b∧b≠a∧H a=some (tso w a ks)∧H b=some (tso w b js)∧ks.length+1<scanBound∧js.length+1<scanBound ∧
 ∀l rs,H l=none→rs.Nodup→(∀x,x∈rs↔x∈ks∧x∈js)→Q (.ref l) (upd H l (tso w l rs))
theorem a7P:B8 X (binaryOp .BitAnd) (b2s X.w):=by
 intro pins s σ H x y u v Q I rx ry h
 obtain⟨a,b,ks,js,rfl,rfl,ne,ha,hb,la,lb,q⟩:=h
 cases (show u=Value.ref a from rx)
 cases (show v=Value.ref b from ry)
 refine b3l ne (I.isT ha) (I.isT hb) la lb fun h' rs k I' m=>?_
 exact⟨.ref s.heap.objs.size,_,I.laid (t':=s.toks) k (Nat.le_refl _) (a5V I'),rfl,q _ rs (I.hok.fresh (Nat.le_refl _)) I'.nodup m⟩
theorem a5s(hc:X.calm=true):L6 X (.builtin "sorted") (fun as H Q=>∃p ks,as=[.ref p]∧H p=some (tso X.w p ks)∧ks.length<64∧∀l ys,H l=none→ys.Perm (ks.map V.str)→Q8 H ys→Q (.ref l) (upd H l (.lst ys))):=by
 intro pins s σ H as us Q I r h
 obtain⟨p,ks,rfl,hp,h64,q⟩:=h
 obtain⟨u,rfl,ru⟩:=vals1 r
 cases (show u=Value.ref p from ru)
 have J:=I.isT hp
 have srt:∀us:List Str,us.length<64→a4w H (us.map V.str):=fun us l=>⟨by rw[List.length_map];exact l,fun x hx=>by obtain⟨z,_,rfl⟩:=List.mem_map.mp hx;exact⟨z,rfl⟩⟩
 refine a2S (O:=a3r) (key:=fun p=>a2I s.heap p.1) ([]:List Atom) (I.ok.hd hc) J (fun vs T=>?_) fun vs out l h' d' e T op os hl k hg=>?_
 ·obtain⟨us,tx,pu⟩:=T
  exact a0c I (srt us (by rw[pu.length_eq];exact h64)) (a2x tx)
 ·obtain⟨us,tx,pu⟩:=T
  obtain⟨ys,y1,y2⟩:=i8.perm op (a2x tx)
  have hn:H l=none:=I.hok.fresh hl
  have py:ys.Perm (ks.map V.str):=y1.trans (pu.map _)
  refine⟨.ref l,_,(I.laid (t':=s.toks) (o:=.lst ys) k hl ⟨?_,out,e,y2,hg⟩).draw d',rfl,q _ ys hn py ?_⟩
  ·rw[py.length_eq,List.length_map];exact fits_of_scanBound J.len
  ·unfold Q8
   rw[←a4b I (srt us (by rw[pu.length_eq];exact h64)) y2 fun y hy=>y1.mem_iff.mp hy,List.pairwise_map]
   exact os
end
end L2
namespace L2
open PySem PySem.Spec PyProof.Rows Srt
def K4(x:Str)(n:Nat):Str:=⟨(List.replicate n x.cps).foldl (·++·) #[]⟩
section
variable{X:Cx}
theorem a8u:B8 X (binaryOp .Mult) (fun x y H Q=>∃z n,x=.str z∧y=.int n∧2≤n∧n≤1000∧1≤z.length∧z.length≤1000∧(K4 z n.toNat).length≤sizeLine∧Q (.str (K4 z n.toNat)) H):=by
 intro pins s σ H x y v u Q I rx ry h
 obtain⟨z,n,rfl,rfl,h1,h2,h3,h4,h5,q⟩:=h
 obtain⟨t,rfl⟩:=rx
 obtain⟨t',rfl⟩:=ry
 have e2:(n==1||z.length==0)=false:=by
  rw[Bool.or_eq_false_iff,beq_eq_false_iff_ne,beq_eq_false_iff_ne];omega
 refine PySem.P.mul_str ?_ (fun _ _=>?_) (fun _ _=>?_) ?_
 ·rw[Bool.or_eq_false_iff,decide_eq_false_iff_not,decide_eq_false_iff_not];omega
 ·have a1:(1000:Int)≤(2 ^ 63-1)/n:=by
   rw[Int.le_ediv_iff_mul_le (by omega)];omega
  omega
 ·have b1:z.length*n.toNat≤1000*1000:=Nat.mul_le_mul h4 (by omega)
  have:=sizeLine_eq
  exact decide_eq_false (by omega)
 ·rw[if_neg (by omega),if_neg (by rw[e2];exact Bool.false_ne_true)]
  exact⟨h5,⟨.str (K4 z n.toNat),H,I.tok _,⟨_,rfl⟩,q⟩⟩
end
section
variable{X:Cx}{own tl:List Str}{scope:Scope}{cl:List (Str×Addr)}{C:Addr}{s₀:Shared}{H₀:Hp}{ex:List Addr}
end
theorem v9{α:Type}[DecidableEq α]:∀{l m:List α},l.Nodup→(∀x∈l,x∈m)→l.length≤m.length
 | [],m,_,_=>Nat.zero_le _
 | x::l,m,n,h=>by
  have hx:=h x List.mem_cons_self
  have p:=List.perm_cons_erase hx
  rw[p.length_eq,List.length_cons,List.length_cons]
  have n':=List.nodup_cons.mp n
  refine Nat.succ_le_succ (v9 n'.2 fun y hy=>?_)
  have hm:=p.mem_iff.mp (h y (List.mem_cons_of_mem _ hy))
  rcases List.mem_cons.mp hm with e | e
  ·subst e;exact absurd hy n'.1
  ·exact e
theorem a0u{α:Type}[DecidableEq α]:∀{l m:List α},l.Nodup→m.Nodup→(∀x,x∈l↔x∈m)→l.Perm m
 | [],m,_,_,h=>by
  have:m=[]:=List.eq_nil_iff_forall_not_mem.mpr fun x hx=>by have:=(h x).mpr hx;simp at this
  subst this;exact List.Perm.nil
 | x::l,m,n,k,h=>by
  have hx:=(h x).mp List.mem_cons_self
  have p:=List.perm_cons_erase hx
  have n':=List.nodup_cons.mp n
  have k':=List.nodup_cons.mp (p.nodup_iff.mp k)
  refine((a0u n'.2 k'.2 fun y=>?_).cons x).trans p.symm
  constructor
  ·intro hy
   rcases List.mem_cons.mp (p.mem_iff.mp ((h y).mp (List.mem_cons_of_mem _ hy))) with e | e
   ·subst e;exact absurd hy n'.1
   ·exact e
  ·intro hy
   rcases List.mem_cons.mp ((h y).mpr (p.mem_iff.mpr (List.mem_cons_of_mem _ hy))) with e | e
   ·subst e;exact absurd hy k'.1
   ·exact e
theorem a2n:∀{l m:List (List Atom)},l.Pairwise a3r.kle→m.Pairwise a3r.kle→l.Perm m→l=m
 | [],m,_,_,p=>(List.nil_perm.mp p).symm▸rfl
 | x::l,[],_,_,p=>by have:=p.length_eq;simp at this
 | x::l,y::m,hl,hm,p=>by
  have a:=List.pairwise_cons.mp hl
  have b:=List.pairwise_cons.mp hm
  have e:x=y:=by
   rcases List.mem_cons.mp (p.mem_iff.mp (List.mem_cons_self:x∈x::l)) with e | hx
   ·exact e
   ·rcases List.mem_cons.mp (p.mem_iff.mpr (List.mem_cons_self:y∈y::m)) with e | hy
    ·exact e.symm
    ·exact Y1 (b.1 x hx) (a.1 y hy)
  subst e
  rw[a2n a.2 b.2 (List.Perm.cons_inv p)]
theorem l8{H H':Hp}{a:Addr}{o:HO}(e:h7 H H')(h:H a=none):h7 H (upd H' a o):=fun b u q=>by
 rw[b8 (e9 q h)];exact e b u q
theorem N0{ys:List V}{ks:List Str}(p:ys.Perm (ks.map V.str)):∃js:List Str,ys=js.map V.str∧js.Perm ks:=by
 let f:V→Str:=fun v=>match v with | .str x=>x | _=>Str.ofString ""
 have e:ks=(ks.map V.str).map f:=by rw[List.map_map];exact(List.map_id _).symm
 refine⟨ys.map f,?_,?_⟩
 ·rw[List.map_map]
  have:∀y∈ys,(V.str∘f) y=y:=fun y hy=>by
   obtain⟨k,_,rfl⟩:=List.mem_map.mp (p.mem_iff.mp hy);rfl
  exact(List.map_id ys).symm.trans (List.map_congr_left fun y hy=>(this y hy).symm)
 ·have q:=p.map f
  rw[←e]at q
  exact q
end L2
namespace L2
open PySem PySem.Spec PyProof.Rows Srt TS
theorem a9O{k:Key}{v:Value}(h:a7f k v=true):RelV (kV k) v:=by
 rcases A3 h with ⟨i,t,rfl,rfl⟩ | ⟨x,t,rfl,rfl⟩
 ·exact⟨t,rfl⟩
 ·exact⟨t,rfl⟩
theorem a6i{P:Program}{w:World}:∀{kvs:List (Key×V)} {vs:List (Key×Value)} {us:List Value},KV kvs vs→us.length=vs.length →
  (∀(j:Nat) (v:Value),us[j]?=some v→∃k x,vs[j]?=some (k,x)∧(q5 P w).is k v=true)→i8 (kvs.map fun q=>kV q.1) us
 | _,_,us,.nil,hl,_=>by
  have:us=[]:=List.eq_nil_of_length_eq_zero hl
  subst this;exact .nil
 | _,_,us,.cons (a:=p) (b:=q) r t,hl,h=>by
  match us,hl,h with
  | u::us,hl,h=>
   obtain⟨k,x,e,hk⟩:=h 0 u rfl
   have e:q=(k,x):=by simpa using e
   have r1:p.1=q.1:=r.1
   refine .cons ?_ (a6i t (by simpa using hl) fun j v hv=>by simpa using h (j+1) v (by simpa using hv))
   show RelV (kV p.1) u
   rw[r1,e]
   exact a9O hk
section
variable{X:Cx}{pins:List (Addr×Obj)}{σ:St}{H:Hp}{s:Shared}
theorem a9u(hu:X.A.units+1<cLine):B8 X (compareOp .In) (fun x y H Q=>∃a o,y=.ref a∧v7 H a x o∧Q (.bl o.isSome) H):=by
 intro pins s σ H x y u v Q I rx ry h
 obtain⟨a,o,rfl,g,q⟩:=h
 cases (show v=Value.ref a from ry)
 exact b8t hu I g rx fun s' I'=>⟨.bl o.isSome,H,I',rfl,q⟩
theorem M0(hu:X.A.units+1<cLine):B8 X (compareOp .NotIn) (fun x y H Q=>∃a o,y=.ref a∧v7 H a x o∧Q (.bl (!o.isSome)) H):=by
 intro pins s σ H x y u v Q I rx ry h
 obtain⟨a,o,rfl,g,q⟩:=h
 cases (show v=Value.ref a from ry)
 exact b4h hu I g rx fun s' I'=>⟨.bl (!o.isSome),H,I',rfl,q⟩
theorem a1d{h:Heap}{P:Program}{w:World}{a:Addr}{vs:List (Key×Value)}(d:h.DictOf (q5 P w) a vs):∃ep,h.DictAt (q5 P w) a vs ep:=by
 obtain⟨o,es,ep,r⟩:=d
 obtain⟨h1,h2,h3,h4⟩:=r
 exact⟨ep,o,es,h1,h2,h3,h4⟩
theorem a0z(hc:X.calm=true):L6 X (.type "list") (fun as H Q=>∃p kvs,as=[.ref p]∧Rd H p (.dK kvs)∧∀l,H l=none→Q (.ref l) (upd H l (.lst (kvs.map fun q=>kV q.1)))):=by
 intro pins s σ H as us Q I r h
 obtain⟨p,kvs,rfl,hq,q⟩:=h
 obtain⟨u,rfl,ru⟩:=vals1 r
 cases (show u=Value.ref p from ru)
 obtain⟨z,hd,vs,rel,dd⟩:=V0 I.hok hq
 obtain⟨ep,da⟩:=a1d dd
 have lv:vs.length=kvs.length:=by have:=congrArg List.length rel.keys;simpa using this.symm
 refine PySem.W.kdl_call (PySem.W.kdl_dict (knd:=q5 X.prog X.w) (kvs:=vs) (ep:=ep) hd) (I.ok.hd hc) da (by rw[lv];exact z) fun h' tk acc c k hg hi=>?_
 have va:i8 (kvs.map fun q=>kV q.1) acc.toList:=a6i (P:=X.prog) (w:=X.w) rel (by rw[Array.length_toList];exact hi.1) fun j v e=>hi.2 j v (by rw[←Array.getElem?_toList];exact e)
 refine⟨.ref s.heap.objs.size,_,I.laid (t':=tk) (o:=.lst (kvs.map fun q=>kV q.1)) k (Nat.le_refl _) ⟨by rw[List.length_map];exact z,acc.toList,c,va,by simpa using hg⟩,rfl,q _ (I.hok.fresh (Nat.le_refl _))⟩
end
end L2
namespace TS
open PySem PySem.Spec PyProof.Rows Srt
section
variable{prog:Program}{w:World}{A:Around}{E:Value→Shared→Prop}{s:Shared}{T:String}{r d:Addr}{n:Nat}{P:Nat→Value→Prop}{OK:Heap→Prop}
theorem a3L{Q:List Value→Shared→Prop}(K:PySem.W.KdlSrc prog w T r d n P OK)(hh:A.handled=none)(hok:OK s.heap)(hn:n≤sizeLine)
  (h:∀(vs:List Value) (h':Heap) (tk:Nat),s.heap.objs.size<h'.objs.size→(∀b o,s.heap.get? b=some o→h'.get? b=some o)→vs.length=n→(∀(j:Nat) (v:Value),vs[j]?=some v→P j v)→Q vs { s with heap:=h',toks:=tk }) :
  wpAny (model prog w) A (collect (.ref r)) Q E s:=by
 have lt:=K.there _ hok
 unfold collect
 refine wpAny_bind (wpAny_runValue (codeAny_builtin PySem.F.entry_proto_collect ?_))
 rw[Around.under_plainId PySem.F.plain_proto_collect _]
 show wpAny _ A.in1 (newList [] >>= fun l=>again (.builtin "list.__iadd__" ⟨[l,.ref r],[]⟩)) _ _ s
 refine wpAny_bind (wpAny_newObj_type ?_)
 refine wpAny_pure ⟨plainId_quiet PySem.F.plain_list_iadd _,codeAny_builtin PySem.F.entry_list_iadd ?_⟩
 rw[Around.under_plainId PySem.F.plain_list_iadd _]
 show wpAny _ A.in1 (Builtin.List.listExtendWith (.ref s.heap.objs.size) (.ref r) (.ref s.heap.objs.size)) _ _ _
 refine PySem.W.kdl_extend (A:=A) (R:=fun r s'=>match r with
  | .ok (.ret v)=>wpAny (model prog w) A (match v with
   | .ref a=>do
    match (←load a).data with
    | .seq xs _=>pure xs.toList
    | _=>unsupported "internal:collect"
   | _=>unsupported "internal:collect") Q E s'
  | .ok _=>False
  | .error e=>E e s') (s:={ s with heap:=s.heap.push { cls:=.type "list",data:=.seq ([]:List Value).toArray } }) K (by simpa using hh) (K.keep _ _ hok fun b _ o e=>Heap.get?_push_of_some _ e) s.heap.objs.size (Nat.ne_of_gt lt.1) (Nat.ne_of_gt lt.2) (.ref s.heap.objs.size) 0 (Heap.get?_push_size _ rfl) (fun h' tk acc c k hg hi=>?_) hn
 show wpAny _ A (load s.heap.objs.size >>= _) _ _ _
 refine wpAny_bind (wpAny_load hg ?_)
 refine wpAny_pure (h acc.toList h' tk (Heap.lt_size hg) (fun b o e=>k b o (Nat.ne_of_lt (Heap.lt_size e)) (Heap.get?_push_of_some _ e)) (by rw[Array.length_toList];exact hi.1) fun j v e=>hi.2 j v (by rw[←Array.getElem?_toList];exact e))
theorem a8P{O:KeyOrd}{key:Keyed→O.α}(dd:O.α){Q:Value→Shared→Prop}(K:PySem.W.KdlSrc prog w T r d n P OK)(hh:A.handled=none)(hok:OK s.heap)(hn:n≤sizeLine)
  (S:∀vs:List Value,vs.length=n→(∀(j:Nat) (v:Value),vs[j]?=some v→P j v)→Sortable prog w s.heap vs O key)
  (h:∀(vs out:List Value) (l:Addr) (h':Heap) (tk e:Nat),vs.length=n→(∀(j:Nat) (v:Value),vs[j]?=some v→P j v)→out.Perm vs→out.Pairwise (fun x y=>O.kle (key (x,x)) (key (y,y)))→s.heap.objs.size≤l→(∀b o,s.heap.get? b=some o→h'.get? b=some o) →
   h'.get? l=some (seqObj "list" out.toArray e)→Q (.ref l) { s with heap:=h',toks:=tk }) :
  wpAny (model prog w) A (call (.builtin "sorted") [.ref r]) Q E s:=by
 refine Calls.call_function_entry kind_sorted plain_sorted entry_sorted (args_sorted1 _) ?_
 unfold Builtin.«sorted»
 refine wpAny_bind (m:=checkCount "sorted" 1 1 _) (wpAny_pure ?_)
 refine wpAny_bind (a3L K (by simpa using hh) hok hn fun vs h1 tk l1 k1 lv pv=>?_)
 have zv:vs.length≤sizeLine:=by rw[lv];exact hn
 refine wpAny_bind (wpAny_newList ?_ zv)
 have oL:(h1.push (seqObj "list" vs.toArray 0)).get? h1.objs.size=some (seqObj "list" vs.toArray 0):=Heap.get?_push_size _ rfl
 have keep:∀b o,s.heap.get? b=some o→b≠h1.objs.size∧(h1.push (seqObj "list" vs.toArray 0)).get? b=some o:=fun b o e=>
  ⟨Nat.ne_of_lt (Heap.lt_size (k1 b o e)),Heap.get?_push_of_some _ (k1 b o e)⟩
 refine wpAny_bind (wpAny_holding (wpAny_call_entry slot_list_sort (s:={ s with heap:=h1.push (seqObj "list" vs.toArray 0),toks:=tk }) ⟨_,oL,rfl⟩ entry_list_sort (sort_any dd oL zv (S vs lv pv) keep fun out a1 a2=>⟨_,rfl,?_⟩) (args_list_sort _)))
 obtain⟨e,he⟩:=sortedHeap_at (out:=out.toArray) oL
 refine wpAny_pure ⟨_,rfl,h vs out _ _ tk e lv pv a1 a2 (Nat.le_of_lt l1) (fun b o q=>?_) he⟩
 rw[sortedHeap_old (keep b o q).1 (Heap.lt_size (keep b o q).2)]
 exact(keep b o q).2
end
end TS
namespace L2
open PySem PySem.Spec PyProof.Rows Srt TS
section
variable{X:Cx}
theorem Z2(hc:X.calm=true):L6 X (.builtin "sorted") (fun as H Q=>∃p kvs,as=[.ref p]∧Rd H p (.dK kvs)∧a4w H (kvs.map fun q=>kV q.1) ∧
  ∀l ys,H l=none→ys.Perm (kvs.map fun q=>kV q.1)→Q8 H ys→Q (.ref l) (upd H l (.lst ys))):=by
 intro pins s σ H as us Q I r h
 obtain⟨p,kvs,rfl,hq,sb,q⟩:=h
 obtain⟨u,rfl,ru⟩:=vals1 r
 cases (show u=Value.ref p from ru)
 obtain⟨z,hd,vs,rel,dd⟩:=V0 I.hok hq
 obtain⟨ep,da⟩:=a1d dd
 have lv:vs.length=kvs.length:=by have:=congrArg List.length rel.keys;simpa using this.symm
 have vls:∀us:List Value,us.length=vs.length→(∀(j:Nat) (v:Value),us[j]?=some v→∃k x,vs[j]?=some (k,x)∧(q5 X.prog X.w).is k v=true)→i8 (kvs.map fun q=>kV q.1) us:=fun us a b=>a6i rel a b
 refine a8P (O:=a3r) (key:=fun p=>a2I s.heap p.1) ([]:List Atom) (PySem.W.kdl_dict (knd:=q5 X.prog X.w) (kvs:=vs) (ep:=ep) hd) (I.ok.hd hc) da (by rw[lv];exact z)
  (fun us a b=>a0c I sb (vls us a b)) fun us out l h' tk e a b op os hl k hg=>?_
 obtain⟨ys,y1,y2⟩:=i8.perm op (vls us a b)
 have hn:H l=none:=I.hok.fresh hl
 refine⟨.ref l,_,I.laid (t':=tk) (o:=.lst ys) k hl ⟨?_,out,e,y2,hg⟩,rfl,q _ ys hn y1 ?_⟩
 ·rw[y1.length_eq,List.length_map];exact z
 ·unfold Q8
  rw[←a4b I sb y2 fun y hy=>y1.mem_iff.mp hy,List.pairwise_map]
  exact os
end
end L2
namespace L2
open PySem PySem.Spec PyProof.Rows Srt TS
theorem b6e(z:Str):K4 z 1=z:=by unfold K4;simp
theorem Y8:∀{ns:List Int} {us:List Value},i8 (ns.map V.int) us→∀(i:Nat) (v:Value),us[i]?=some v→∃t,v=.int (ns.getD i 0) t
 | [],_,.nil,i,v,h=>by simp at h
 | n::ns,_,.cons ⟨t,e⟩ r,0,v,h=>by simp at h;exact⟨t,by rw[←h];exact e⟩
 | n::ns,_,.cons _ r,i+1,v,h=>by
  obtain⟨t,e⟩:=Y8 r i v (by simpa using h)
  exact⟨t,by rw[e];rfl⟩
def a1y(ns:List Int):Int:=preSum (fun j=>ns.getD j 0) ns.length
section
variable{X:Cx}
theorem a9H(hc:X.calm=true):L6 X (.builtin "sum") (fun as H Q=>∃p ns,as=[.ref p]∧d9 X.K H p (ns.map V.int)∧Q (.int (a1y ns)) H):=by
 intro pins s σ H as us Q I r h
 obtain⟨p,ns,rfl,hq,q⟩:=h
 obtain⟨u,rfl,ru⟩:=vals1 r
 cases (show u=Value.ref p from ru)
 obtain⟨its,rv,pl,hz⟩:=I.list hq
 have ln:its.length=ns.length:=by rw[←rv.length,List.length_map]
 have lt:p<s.heap.objs.size:=let ⟨_,e,_⟩:=pl.isList;Heap.lt_size e
 refine call_sum_walkAnyS (wpAny_pyIter_list pl.isList ?_)
 refine⟨s.heap.objs.size,_,_,_,_,_,_,fun j=>ns.getD j 0,rfl,(Walks.list (A:=X.A.in1) (by simpa using I.ok.hd hc) s.heap.objs.size p (Nat.ne_of_lt lt) its.toArray).toS,⟨⟨_,Heap.get?_push_size _ rfl,rfl,rfl⟩,pl.isList.push _⟩,fun b hb=>?_,fun i v hv=>Y8 rv i v (by simpa using hv),fun s' t' m=>?_⟩
 ·have z:(s.heap.push { cls:=.type "list_iterator",data:=.fields #[.ref p,.int 0 0] }).objs.size=s.heap.objs.size+1:=Heap.size_push ..
  simp only[List.mem_cons,List.not_mem_nil,or_false]at hb
  show b<(s.heap.push { cls:=.type "list_iterator",data:=.fields #[.ref p,.int 0 0] }).objs.size
  rw[z]
  rcases hb with rfl | rfl
  ·exact Nat.lt_succ_self _
  ·exact Nat.lt_succ_of_lt lt
 ·have k:∀b o,s.heap.get? b=some o→s'.heap.get? b=some o:=fun b o e=>m.heap b o (fun z=>by
   have:=Heap.lt_size e
   rw[List.mem_singleton.mp z]at this
   exact Nat.lt_irrefl _ this) (Heap.get?_push_of_some _ e)
  obtain⟨h',g',d',tk',os'⟩:=s'
  have e1:g'=s.gens:=m.gens
  have e2:d'=s.drawn:=m.drawn
  have e3:os'=s.os:=m.os
  subst e1;subst e2;subst e3
  refine⟨.int (a1y ns),H,I.kept (t':=tk') k,⟨t',?_⟩,q⟩
  unfold a1y
  rw[←ln,List.size_toArray]
theorem a3n:B8 X (binaryOp .Mult) (fun x y H Q=>∃z n,x=.str z∧y=.int n∧-1000≤n∧n≤1000∧1≤z.length∧z.length≤1000∧(K4 z n.toNat).length≤sizeLine∧Q (.str (K4 z n.toNat)) H):=by
 intro pins s σ H x y v u Q I rx ry h
 obtain⟨z,n,rfl,rfl,h1,h2,h3,h4,h5,q⟩:=h
 by_cases c:2≤n
 ·exact a8u pins s σ H _ _ v u Q I rx ry ⟨z,n,rfl,rfl,c,h2,h3,h4,h5,q⟩
 obtain⟨t,rfl⟩:=rx
 obtain⟨t',rfl⟩:=ry
 by_cases c0:n<1
 ·refine PySem.P.mul_str_none c0 (by omega) ⟨.str (K4 z n.toNat),H,I.tok _,?_,q⟩
  rw[show n.toNat=0 by omega]
  exact⟨_,rfl⟩
 ·have e1:n=1:=by omega
  subst e1
  refine PySem.P.mul_str (by decide) (fun _ w=>by simp at w) (fun _ w=>by simp at w) ?_
  rw[if_neg (by decide),if_pos (by simp)]
  refine⟨.str z,H,I,⟨t,rfl⟩,?_⟩
  have e:K4 z (1:Int).toNat=z:=b6e z
  rw[e]at q
  exact q
end
end L2
namespace L2
open PySem PySem.Spec PyProof.Rows Srt TS
theorem a5A{α β:Type}(f:α→β):∀(l:List α) (j:Nat),(l.map f).eraseIdx j=(l.eraseIdx j).map f
 | [],_=>rfl
 | a::l,0=>rfl
 | a::l,j+1=>by
  rw[List.map_cons,List.eraseIdx_cons_succ,List.eraseIdx_cons_succ,List.map_cons,a5A f l j]
section
variable{X:Cx}
theorem b7i:B8 X (binaryOp .Mult) (rI IntMulOk fun i j=>.int (i*j)):=opI fun _ _ _ _ _ _ _ hc q=>mul_int q hc
def b6h:V→List V→Hp→VK→Prop:=fun x vs H Q=>∃(l:Addr) (ns:List Int) (n:Int) (j:Nat),x=.ref l∧vs=[.int n]∧H l=some (.lst (ns.map V.int))∧ns[j]?=some n∧(∀i,i<j→ns[i]?≠some n)∧Q .non (upd H l (.lst ((ns.eraseIdx j).map V.int)))
theorem a9X:MtM X "list.remove" b6h:=by
 intro pins s σ H x vs v us Q I rx rv h
 obtain⟨l,ns,n,j,rfl,rfl,hH,hj,hf,q⟩:=h
 cases rx
 obtain⟨u,rfl,⟨t,rfl⟩⟩:=vals1 rv
 obtain⟨z,its,c,r,hl,e⟩:=I.lstM hH
 have lj:j<ns.length:=(List.getElem?_eq_some_iff.mp hj).1
 have li:its.length=ns.length:=by rw[←hl,List.length_map]
 have at':∀i,i<its.length→∃t,its[i]?=some (.int (ns.getD i 0) t):=fun i hi=>by
  obtain⟨t,e⟩:=Y8 r i its[i] (List.getElem?_eq_getElem hi)
  exact⟨t,by rw[List.getElem?_eq_getElem hi,e]⟩
 let ev:Value→Bool:=fun y=>match y with | .int i _=>i==n | _=>false
 have ej:∀i,(hi:i<its.toArray.size)→ev its.toArray[i]=(ns.getD i 0==n):=fun i hi=>by
  have hi':i<its.length:=by simpa using hi
  obtain⟨t,e⟩:=at' i hi'
  rw[List.getElem?_eq_getElem hi']at e
  have e:its[i]=Value.int (ns.getD i 0) t:=Option.some.inj e
  show ev its.toArray[i]=_
  rw[List.getElem_toArray,e]
 have lj':j<its.toArray.size:=by rw[List.size_toArray,li];exact lj
 refine call_meets F.slot_list_remove ⟨_,e,rfl⟩ F.entry_list_remove (F.args_list_remove_2 _ _) (MeetsSeq.list_remove l its.toArray c (.int n t) ev (fun y hy=>?_) j lj' ?_ (fun m hm lt=>?_) (by rw[List.size_toArray,li];rw[List.length_map]at z;exact z)) ⟨e,?_⟩
 ·obtain⟨i,hi,rfl⟩:=Array.mem_iff_getElem.mp hy
  have hi':i<its.length:=by simpa using hi
  obtain⟨t',e'⟩:=at' i hi'
  rw[List.getElem?_eq_getElem hi']at e'
  have e':its[i]=Value.int (ns.getD i 0) t':=Option.some.inj e'
  rw[ej i hi,List.getElem_toArray,e']
  exact MeetsSeq.EqGives.int _ _ _ _
 ·rw[ej j lj',List.getD_eq_getElem?_getD,hj];simp
 ·have hm':m<ns.length:=by rw[←li];simpa using hm
  rw[ej m hm,List.getD_eq_getElem?_getD,List.getElem?_eq_getElem hm',Option.getD_some,beq_eq_false_iff_ne]
  intro w
  exact hf m lt (by rw[List.getElem?_eq_getElem hm',w])
 ·have re:i8 ((ns.eraseIdx j).map V.int) (its.eraseIdx j):=by
   have:=r.eraseIdx j
   rwa [a5A] at this
  refine⟨.non,_,I.lset (its':=its.eraseIdx j) hH e ?_ re ?_,rfl,q⟩
  ·show its.toArray.eraseIdxIfInBounds j=(its.eraseIdx j).toArray
   rw[List.eraseIdxIfInBounds_toArray]
  ·have:=List.length_eraseIdx_le ns j
   rw[List.length_map]at z ⊢
   omega
end
end L2
namespace L2
open PySem PySem.Spec PyProof.Rows Srt TS
section
variable{X:Cx}{pins:List (Addr×Obj)}{σ:St}{H:Hp}{s:Shared}{h':Heap}
end
theorem a5P:∀{kvs:List (Key×V)} {vs:List (Key×Value)} {j:Nat} {k:Key} {u:Value},KV kvs vs→vs[j]?=some (k,u)→∃x,kvs[j]?=some (k,x)∧RelV x u
 | _,_,j,k,u,.nil,e=>by simp at e
 | _,_,0,k,u,.cons (a:=p) r t,e=>by
  have e:_=(k,u):=Option.some.inj e
  refine⟨p.2,?_,?_⟩
  ·have:p.1=k:=r.1.trans (congrArg Prod.fst e)
   rw[←this];rfl
  ·have:=r.2
   rw[e]at this
   exact this
 | _,_,j+1,k,u,.cons r t,e=>by
  obtain⟨x,e1,r1⟩:=a5P t (by simpa using e)
  exact⟨x,by simpa using e1,r1⟩
theorem a8c{kvs:List (Key×V)}{vs:List (Key×Value)}(r:KV kvs vs):vs.length=kvs.length:=(Paired.length r).symm
section
variable{X:Cx}
end
end L2
namespace TS
open PySem PySem.Spec PyProof.Rows Srt
theorem a2Y:typeLookup (.type "list_reverseiterator") "__len__"=pure none:=by rw[typeLookup_type,builtinLookup_eq_fast];kernel_rfl
theorem a0X:typeLookup (.type "list_reverseiterator") "__length_hint__"=pure (some (.builtin "list_reverseiterator.__length_hint__")):=by rw[typeLookup_type,builtinLookup_eq_fast];kernel_rfl
section
variable{prog:Program}{w:World}{A:Around}{E:Value→Shared→Prop}{s:Shared}{it l:Addr}{items:Array Value}
theorem b4c{Q:Bool→Shared→Prop}(hT:s.TypeIs (.ref it) "list_reverseiterator")(h:Q false s):wpAny (model prog w) A (Builtin.List.listLengthHint (.ref it)) Q E s:=by
 unfold Builtin.List.listLengthHint
 refine wpAny_bind (wpAny_specialOf hT a2Y ?_)
 show wpAny _ A (specialOf (Value.ref it) (Str.ofString "__length_hint__") >>= _) _ _ _
 refine wpAny_bind (wpAny_specialOf hT a0X ?_)
 generalize hid:("list_reverseiterator.__length_hint__":String)=id0
 wp_delta
 rw[show splitId id0=some ("list_reverseiterator","__length_hint__") from by subst hid;decide +kernel]
 subst hid
 refine wpAny_bind (wpAny_isInstance (T:="list_reverseiterator") (b:=true) hT (by rw[isSubtype_type];kernel_rfl) ?_)
 exact wpAny_pure h
abbrev Rvs(items:Array Value)(i:Nat)(v:Value):Prop:=items[items.size-1-i]?=some v
theorem a1S{R:Result→Shared→Prop}(hh:A.handled=none)(hit:s.heap.IsRevIter it l ((items.size:Int)-1))(hl:s.heap.IsList l items)(hne:l≠it)(S:Addr)(nSi:S≠it)(nSl:S≠l)(res:Value)(c₀:Nat)(hS:s.heap.get? S=some { cls:=.type "list",data:=.seq #[] c₀ })
  (hR:∀h' tk acc' c',(∀b o,b≠S→b≠it→s.heap.get? b=some o→h'.get? b=some o)→h'.get? S=some { cls:=.type "list",dict:=none,data:=.seq acc' c',slots:=#[] }→ItemsOf (Rvs items) acc' items.size→R (.ok (.ret res)) { s with heap:=h',toks:=tk }) (hn:items.size≤sizeLine) :
  wpAny (model prog w) A.in1 (Builtin.List.listExtendWith (.ref S) (.ref it) res)
   (fun fin s'=>match fin with | .done f=>R (.ok f) s' | .again c'=>c'.quiet=true∧codeAny (model prog w) A c' R s') (fun e s'=>R (.error e) s') s:=by
 have hSf:S∉[it,l]:=by simp only[List.mem_cons,List.not_mem_nil,or_false,not_or];exact⟨nSi,nSl⟩
 have W:=Walks.listRev (prog:=prog) (w:=w) (A:=A.in1) hh it l hne items
 have hit0:s.heap.IsRevIter it l ((items.size:Int)-1-((0:Nat):Int)):=by simpa using hit
 unfold Builtin.List.listExtendWith
 refine wpAny_bind (wpAny_typeOf (T:="list_reverseiterator") hit.typeIs ?_)
 have h1:Builtin.List.listSameRef (.ref S) (.ref it)=false:=by simp[Builtin.List.listSameRef,nSi]
 have h2:(Value.type "list_reverseiterator"==Value.type "list")=false:=by decide
 have h3:(Value.type "list_reverseiterator"==Value.type "tuple")=false:=by decide
 simp only[h1,h2,h3,Bool.or_false,Bool.false_eq_true,if_false]
 refine wpAny_bind (wpAny_pyIter_revIter hit ?_)
 refine wpAny_bind (wpAny_holding (b4c hit.typeIs ?_))
 refine wpAny_ite_split (fun hab=>absurd hab (by decide)) (fun _=>?_)
 refine wpAny_pure ⟨plainId_quiet PySem.F.plain_extend_loop _,codeAny_extend_loopS W.toS hn S hSf res items.size 0 _ #[] c₀ rfl (Nat.zero_le _) ⟨Nat.zero_le _,hit0,hl⟩ hS (ItemsOf.nil _) fun s' acc' c' hm hS' hacc=>?_⟩
 rw[Moved.eq_with hm]
 refine hR s'.heap s'.toks acc' c' (fun b o hb hb2 e=>hm.heap b o (fun hmem=>?_) e) hS' hacc
 rcases List.mem_cons.mp hmem with e' | hmem
 ·exact hb e'
 ·exact hb2 (List.mem_singleton.mp hmem)
theorem b2f{R:Result→Shared→Prop}(hh:A.handled=none)(hit:s.heap.IsRevIter it l ((items.size:Int)-1))(hl:s.heap.IsList l items)(hne:l≠it)(S:Addr)(nSi:S≠it)(nSl:S≠l)(hS:s.heap.get? S=some { cls:=.type "list",data:=.seq #[] })
  (hR:∀h' tk acc' c',(∀b o,b≠S→b≠it→s.heap.get? b=some o→h'.get? b=some o)→h'.get? S=some { cls:=.type "list",dict:=none,data:=.seq acc' c',slots:=#[] }→ItemsOf (Rvs items) acc' items.size→R (.ok (.ret .none)) { s with heap:=h',toks:=tk }) (hn:items.size≤sizeLine) :
  wpAny (model prog w) A.in1 (Builtin.«list.__init__» ⟨[.ref S,.ref it],[]⟩)
   (fun fin s'=>match fin with | .done f=>R (.ok f) s' | .again c'=>c'.quiet=true∧codeAny (model prog w) A c' R s') (fun e s'=>R (.error e) s') s:=by
 show wpAny _ _ (do let old ←Builtin.List.listItems (.ref S);Builtin.List.listUpdate (.ref S) (fun _=>#[]);letGo old.toList.reverse;Builtin.List.listExtendWith (.ref S) (.ref it) .none) _ _ s
 refine wpAny_bind ?_
 unfold Builtin.List.listItems
 refine wpAny_bind (wpAny_seqItems hS rfl (wpAny_pure ?_))
 show wpAny _ _ (updateSeq S (fun _=>#[]) >>= fun _=>letGo (#[]:Array Value).toList.reverse >>= fun _=>Builtin.List.listExtendWith (.ref S) (.ref it) .none) _ _ s
 refine wpAny_bind (wpAny_updateSeq hS rfl ?_)
 have S2:=Heap.get?_update_self (Obj.mapSeq (fun _=>(#[]:Array Value))) hS rfl
 have keeps:∀b o,b≠S→s.heap.get? b=some o→(s.heap.update S (Obj.mapSeq (fun _=>(#[]:Array Value)))).get? b=some o:=
  fun b o hb e=>(Heap.get?_update_other _ _ (Ne.symm hb)).trans e
 refine wpAny_bind (wpAny_letGo ?_)
 refine a1S hh (hit.at fun o e=>keeps _ o (Ne.symm nSi) e) (hl.at fun o e=>keeps _ o (Ne.symm nSl) e) hne S nSi nSl .none _ S2 (fun h' tk acc' c' hk hS' hacc=>?_) hn
 exact hR h' tk acc' c' (fun b o hb hb2 e=>hk b o hb hb2 (keeps b o hb e)) hS' hacc
theorem b3g{Q:Value→Shared→Prop}(hh:A.handled=none)(hit:s.heap.IsRevIter it l ((items.size:Int)-1))(hl:s.heap.IsList l items)(hne:l≠it)(hn:items.size≤sizeLine)
  (hQ:∀h' tk acc' c',(∀b o,b≠it→s.heap.get? b=some o→h'.get? b=some o)→h'.get? s.heap.objs.size=some { cls:=.type "list",dict:=none,data:=.seq acc' c',slots:=#[] }→ItemsOf (Rvs items) acc' items.size→Q (.ref s.heap.objs.size) { s with heap:=h',toks:=tk }) :
  wpAny (model prog w) A (call (.type "list") [.ref it]) Q E s:=by
 have l1:it<s.heap.objs.size:=let ⟨o,ho,_⟩:=hit;Heap.lt_size ho
 have l2:l<s.heap.objs.size:=let ⟨o,ho,_⟩:=hl;Heap.lt_size ho
 refine callType_codes (Q₁:=fun obj s₁=>obj=.ref s.heap.objs.size∧s₁={ s with heap:=s.heap.push { cls:=.type "list",data:=.seq #[] } }) PySem.F.called_list (PySem.F.typeCall_list_1 _) PySem.F.entry_list_init
  (code_list_new _ ⟨rfl,rfl⟩) fun obj s₁ h₁=>?_
 obtain⟨rfl,rfl⟩:=h₁
 have hS:(s.heap.push { cls:=.type "list",data:=.seq #[] }).get? s.heap.objs.size=some { cls:=.type "list",data:=.seq #[] }:=Heap.get?_push_size _ rfl
 refine⟨⟨_,hS,rfl⟩,PySem.F.args_list_init_2 _ _,b2f (A:=A.in1) hh (hit.at fun o e=>Heap.get?_push_of_some _ e) (hl.at fun o e=>Heap.get?_push_of_some _ e) hne _ (Nat.ne_of_gt l1) (Nat.ne_of_gt l2) hS (fun h' tk acc' c' hk hS' hacc=>?_) hn⟩
 exact⟨rfl,hQ h' tk acc' c' (fun b o hb e=>hk b o (Nat.ne_of_lt (Heap.lt_size e)) hb (Heap.get?_push_of_some _ e)) hS' hacc⟩
end
end TS
namespace L2
open PySem PySem.Spec PyProof.Rows Srt TS
theorem b7c{xs:List V}{us:List Value}(r:i8 xs us):i8 xs.reverse us.reverse:=by
 induction r with
 | nil=>exact .nil
 | cons h _ ih=>rw[List.reverse_cons,List.reverse_cons];exact i8.append ih (.cons h .nil)
theorem a9U{us:List Value}{acc:Array Value}(h:ItemsOf (Rvs us.toArray) acc us.toArray.size):acc.toList=us.reverse:=by
 refine List.ext_getElem? fun i=>?_
 have lz:acc.size=us.length:=by have:=h.1;simpa using this
 by_cases hi:i<us.length
 ·have hi':i<acc.size:=by omega
  have e:=h.2 i acc[i] (Array.getElem?_eq_getElem hi')
  unfold Rvs at e
  rw[List.getElem?_toArray,List.size_toArray]at e
  rw[Array.getElem?_toList,Array.getElem?_eq_getElem hi',List.getElem?_reverse hi,e]
 ·rw[List.getElem?_eq_none (by rw[Array.length_toList];omega),List.getElem?_eq_none (by rw[List.length_reverse];omega)]
def tLR(K:PySem.W.Frag)(te:TE):TE:=fun σ H Q=>te σ H fun x H1=>∃p xs,x=.ref p∧d9 K H1 p xs∧∀l,H1 l=none→Q (.ref l) (upd H1 l (.lst xs.reverse))
section
variable{X:Cx}{e:Expr}{te:TE}{p p2 pos pos2:Pos}
theorem a3P(hc:X.calm=true)(hg:Gl X "list")(hm:X.mg "list"=none)(hg2:Gl X "reversed")(hm2:X.mg "reversed"=none)(ha:PE X e te)
  (s1:starEach [Expr.Call (.Name "reversed" p2) [e] [] pos2] X.env=[(false,eval (Expr.Call (.Name "reversed" p2) [e] [] pos2) X.env)]:=by rfl) (s2:starEach [e] X.env=[(false,eval e X.env)]:=by rfl) :
  PE X (.Call (.Name "list" p) [.Call (.Name "reversed" p2) [e] [] pos2] [] pos) (tLR X.K te):=by
 intro pins s σ H Q I h
 refine wpAny_Call_Name_kw (Z3 I hg hm boot_list ?_ (by decide) (by decide))
 refine PyProof.Rows.callWith_type1 ?_ s1 rfl
 rw[s1]
 show wpAny _ _ (spliced ((false,eval _ X.env)::backTo pos [])) _ _ s
 refine Calls.spliced_cons ?_
 refine wpAny_Call_Name_kw (Z3 I hg2 hm2 boot_reversed ?_ (by decide) (by decide))
 refine PyProof.Rows.callWith_type1 ?_ s2 rfl
 rw[s2]
 show wpAny _ _ (spliced ((false,eval _ X.env)::backTo pos2 [])) _ _ s
 refine Calls.spliced_cons (k7 (ha pins s σ H _ I h) fun u s1 ⟨x,H1,I1,r1,q1⟩=>Calls.spliced_nil ?_)
 obtain⟨p,xs,rfl,hq,q⟩:=q1
 cases (show u=Value.ref p from r1)
 obtain⟨its,rv,pl,hz⟩:=I1.list hq
 have lt:p<s1.heap.objs.size:=let ⟨_,e,_⟩:=pl.isList;Heap.lt_size e
 refine call_reversed_list pl.isList ?_
 refine Calls.spliced_nil ?_
 have pl2:(s1.heap.push (revObj p ((its.toArray.size:Int)-1))).IsList p its.toArray:=pl.isList.push _
 refine b3g (s:={ s1 with heap:=s1.heap.push (revObj p ((its.toArray.size:Int)-1)) }) (I.ok.hd hc) ⟨_,Heap.get?_push_size _ rfl,rfl,rfl⟩ pl2 (Nat.ne_of_lt lt) (by rw[List.size_toArray,←rv.length];exact hz) fun h' tk acc c k hg hi=>?_
 have sz:(s1.heap.push (revObj p ((its.toArray.size:Int)-1))).objs.size=s1.heap.objs.size+1:=Heap.size_push ..
 refine⟨.ref (s1.heap.push (revObj p ((its.toArray.size:Int)-1))).objs.size,_,I1.laid (t':=tk) (o:=.lst xs.reverse) (fun b o e=>k b o (Nat.ne_of_lt (Heap.lt_size e)) (Heap.get?_push_of_some _ e)) (by rw[sz];omega) ⟨by rw[List.length_reverse];exact hz,its.reverse,c,b7c rv,?_⟩,rfl,q _ (I1.hok.fresh (by rw[sz];omega))⟩
 rw[←a9U hi]
 simpa using hg
end
end L2
namespace L2
open PySem PySem.Spec PyProof.Rows Srt TS
def b2o(td ty tx:TE):TE:=fun σ H Q=>td σ H fun x H1=>∃a,x=.ref a∧IsD H1 a∧ty σ H1 fun y H2=>tx σ H2 fun z H3=>∃kvs k,H3 a=some (.dK kvs)∧y=kV k∧kvs.length<sizeLine ∧
 (∀v,B6 kvs k=some v→Q v H3)∧(B6 kvs k=none→Q z (upd H3 a (.dK (putK kvs k z))))
section
variable{X:Cx}{o e f:Expr}{apos cpos:Pos}{td ty tx:TE}
theorem b0b(hu:X.A.units+1<cLine)(ho:PE X o td)(he:PE X e ty)(hf:PE X f tx)(m:M2 X o "setdefault" apos e f cpos):PE X (.Call (.Attribute o "setdefault" apos) [e,f] [] cpos) (b2o td ty tx):=by
 intro pins s σ H Q I h
 refine wpAny_Call_method m.base m.few m.line PySem.F.plainAttrs_dict PySem.F.slot_dict_setdefault PySem.F.type_dict_setdefault (k7 (ho pins s σ H _ I h) fun u s1 ⟨x,H1,I1,rx,a,ex,d,q1⟩=>?_)
 subst ex
 obtain rfl:u=Value.ref a:=rx
 obtain⟨t1,t2,_⟩:=a2i I1 d
 refine⟨t1,t2,?_⟩
 rw[m.trees]
 refine Calls.callWith_builtin rfl (Calls.evalArgs_plain (Calls.spliced_cons (k7 (he pins s1 σ H1 _ I1 q1) fun iv s2 ⟨y,H2,I2,ry,q2⟩=>
  Calls.spliced_cons (k7 (hf pins s2 σ H2 _ I2 q2) fun fv s3 ⟨z,H3,I3,rz,kvs,k,ea,ey,lz,q3,q4⟩=>Calls.spliced_nil ?_))))
 subst ey
 obtain⟨zz,hd,vs,rel,dd⟩:=a8k I3.hok ea
 refine call_meetsIn PySem.F.slot_dict_setdefault dd.typeIs PySem.F.entry_dict_setdefault (PySem.F.args_dict_setdefault_3 _ _ _) (kt_meets_setdefault (q5 X.prog X.w) a (Y4 ry) hd fv) ⟨vs,dd,by rw[←rel.length];exact zz,fun v hv=>?_,fun hn h' dd' hs=>?_⟩
 ·have rv:=rel.val k
  rw[hv]at rv
  cases hk:B6 kvs k with
  | none=>rw[hk]at rv;exact rv.elim
  | some w=>
   rw[hk]at rv
   exact⟨w,H3,I3.tok _,rv,q3 w hk⟩
 ·have rv:=rel.val k
  rw[hn]at rv
  have hk:B6 kvs k=none:=by
   cases hk:B6 kvs k with
   | none=>rfl
   | some w=>rw[hk]at rv;exact rv.elim
  have hl:(putK kvs k z).length≤sizeLine:=by have:=a2c kvs k z;omega
  have he':∃q,h'.get? a=some q:=let ⟨q,_,_,hq,_⟩:=dd';⟨q,hq⟩
  exact⟨z,_,a7c I3 (by rw[ea];exact True.intro) hs he' (a4t hl hd (rel.put k rz) dd'),rz,q4 hk⟩
end
section
variable{X:Cx}
def b8m(K:PySem.W.Frag):V→List V→Hp→VK→Prop:=fun x vs H Q=>∃(l:Addr) (ns:List Int) (n:Int) (j:Nat),x=.ref l∧vs=[.int n]∧H l=some (.lst (ns.map V.int))∧ns[j]?=some n∧(∀i,i<j→ns[i]?≠some n)∧Q (.int (j:Int)) H
theorem b1f:MtM X "list.index" (b8m X.K):=by
 intro pins s σ H x vs v us Q I rx rv h
 obtain⟨l,ns,n,j,rfl,rfl,hH,hj,hf,q⟩:=h
 cases rx
 obtain⟨u,rfl,⟨t,rfl⟩⟩:=vals1 rv
 obtain⟨z,its,c,r,hl,e⟩:=I.lstM hH
 have lj:j<ns.length:=(List.getElem?_eq_some_iff.mp hj).1
 have li:its.length=ns.length:=by rw[←hl,List.length_map]
 have at':∀i,i<its.length→∃t,its[i]?=some (.int (ns.getD i 0) t):=fun i hi=>by
  obtain⟨t,e⟩:=Y8 r i its[i] (List.getElem?_eq_getElem hi)
  exact⟨t,by rw[List.getElem?_eq_getElem hi,e]⟩
 let ev:Value→Bool:=fun y=>match y with | .int i _=>i==n | _=>false
 have ej:∀i,(hi:i<its.toArray.size)→ev its.toArray[i]=(ns.getD i 0==n):=fun i hi=>by
  have hi':i<its.length:=by simpa using hi
  obtain⟨t,e⟩:=at' i hi'
  rw[List.getElem?_eq_getElem hi']at e
  have e:its[i]=Value.int (ns.getD i 0) t:=Option.some.inj e
  show ev its.toArray[i]=_
  rw[List.getElem_toArray,e]
 have lj':j<its.toArray.size:=by rw[List.size_toArray,li];exact lj
 have small:(j:Int)<2 ^ 63-1:=by
  rw[List.length_map]at z
  rw[sizeLine_eq]at z
  omega
 refine call_meets F.slot_list_index ⟨_,e,rfl⟩ F.entry_list_index (F.args_list_index_2 _ _) (MeetsSeq.list_index l its.toArray c (.int n t) ev (fun y hy=>?_) j lj' small ?_ (fun m hm lt=>?_)) ⟨e,?_⟩
 ·obtain⟨i,hi,rfl⟩:=Array.mem_iff_getElem.mp hy
  have hi':i<its.length:=by simpa using hi
  obtain⟨t',e'⟩:=at' i hi'
  rw[List.getElem?_eq_getElem hi']at e'
  have e':its[i]=Value.int (ns.getD i 0) t':=Option.some.inj e'
  rw[ej i hi,List.getElem_toArray,e']
  exact MeetsSeq.EqGives.int _ _ _ _
 ·rw[ej j lj',List.getD_eq_getElem?_getD,hj];simp
 ·have hm':m<ns.length:=by rw[←li];simpa using hm
  rw[ej m hm,List.getD_eq_getElem?_getD,List.getElem?_eq_getElem hm',Option.getD_some,beq_eq_false_iff_ne]
  intro w
  exact hf m lt (by rw[List.getElem?_eq_getElem hm',w])
 ·exact⟨.int (j:Int),H,I.tok _,⟨_,rfl⟩,q⟩
end
end L2
namespace L2
open PySem PySem.Spec PyProof.Rows Srt TS
section
variable{X:Cx}{pins:List (Addr×Obj)}{σ:St}{H:Hp}{s:Shared}
theorem Inv.freeze{d:Addr}{o:Obj}{kvs:List (Key×V)}(I:Inv X pins σ H s)(hd:H d=some (.dK kvs))(ho:s.heap.get? d=some o):Inv X pins σ (upd H d (.frz o (.dK kvs))) s:=by
 have dk:y0 X.prog X.w H s.heap d (.dK kvs):=I.hok d _ hd
 have:=I.write (t':=s.toks) (h':=s.heap) (x:=d) (e:=d) (o:=.frz o (.dK kvs)) (by rw[hd];exact True.intro) (.inl rfl) (fun b u _ q=>q) ⟨o,ho⟩ ⟨ho,dk⟩
 exact this
theorem Inv.thaw{d:Addr}{o:Obj}{kvs:List (Key×V)}(I:Inv X pins σ H s)(h0:∀o u,X.H₀ d≠some (.frz o u))(hd:H d=some (.frz o (.dK kvs))):Inv X pins σ (upd H d (.dK kvs)) s:=by
 have dk:y0 X.prog X.w H s.heap d (.dK kvs):=(show y0 X.prog X.w H s.heap d (.frz o (.dK kvs)) from I.hok d _ hd).2
 have ne:∀{b:Addr} {u:HO},H b=some u→u≠.frz o (.dK kvs)→b≠d:=fun h k z=>by rw[z,hd]at h;cases h;exact k rfl
 refine⟨I.ok,I.os,I.bare,⟨I.base.keep,I.base.slot,fun b u q n hx=>?_,I.base.there,fun b xs q=>?_,fun b u xs q=>?_,fun b ps q=>?_⟩,I.loc,I.cell,?_,fun x c e=>?_,fun p hp=>?_,fun b u q=>?_,I.len⟩
 ·have:=I.base.free b u q n hx
  rw[b8 fun z=>by rw[z,hd]at this;cases this]
  exact this
 ·have:=I.base.tups b xs q
  rw[b8 (ne this (by intro z;cases z))];exact this
 ·have:=I.base.frzs b u xs q
  rw[b8 fun z=>h0 u xs (by rw[←z];exact q)];exact this
 ·obtain⟨more,e⟩:=I.base.tbls b ps q
  exact⟨more,by rw[b8 (ne e (by intro z;cases z))];exact e⟩
 ·rw[b8 fun z=>by have:=I.free;rw[z,hd]at this;cases this];exact I.free
 ·rw[b8 fun z=>by have:=I.freeC x c e;rw[z,hd]at this;cases this];exact I.freeC x c e
 ·obtain⟨e,n,r⟩:=I.pin p hp
  exact⟨e,by rw[b8 fun z=>by rw[z,hd]at n;cases n];exact n,r⟩
 ·have own:∀c y,H c=some (.own y)→upd H d (.dK kvs) c=some (.own y):=fun c y e=>by rw[b8 (ne e (by intro z;cases z))];exact e
  have tup:∀c xs,H c=some (.tup xs)→upd H d (.dK kvs) c=some (.tup xs):=fun c y e=>by rw[b8 (ne e (by intro z;cases z))];exact e
  by_cases hb:b=d
  ·subst hb
   rw[b6]at q;cases q
   exact dk.stay (fun _ _ _ e=>e) (fun c e=>own c _ e) fun c xs e=>tup c xs e
  ·rw[b8 hb]at q
   exact(I.hok b u q).stay (fun _ _ _ e=>e) (fun c e=>own c _ e) fun c xs e=>tup c xs e
theorem Inv.nofrz{d:Addr}{kvs:List (Key×V)}(I:Inv X pins σ H s)(hd:H d=some (.dK kvs)):∀o u,X.H₀ d≠some (.frz o u):=fun o u e=>by
 have:=I.base.frzs d o u e
 rw[hd]at this;cases this
end
theorem Inv.track{X:Cx}{pins:List (Addr×Obj)}{σ:St}{H:Hp}{s s':Shared}{a:Addr}{o:HO}(I:Inv X pins σ H s)(J:Inv X pins σ H s')(ha:s.heap.objs.size≤a)(new:y0 X.prog X.w (upd H a o) s'.heap a o):Inv X pins σ (upd H a o) s':=by
 have hn:H a=none:=I.hok.fresh ha
 have lt:∀{b:Addr} {u:Obj},s.heap.get? b=some u→b≠a:=fun e=>Nat.ne_of_lt (Nat.lt_of_lt_of_le (Heap.lt_size e) ha)
 refine⟨J.ok,J.os,J.bare,⟨J.base.keep,J.base.slot,fun b u q n hx=>?_,J.base.there,fun b xs q=>?_,fun b u xs q=>?_,fun b ps q=>?_⟩,J.loc,J.cell,?_,fun x c e=>?_,fun p hp=>?_,fun b u q=>?_,J.len⟩
 ·rw[b8 (Nat.ne_of_lt (Nat.lt_of_lt_of_le (Heap.lt_size q) (Nat.le_trans I.sz ha)))]
  exact J.base.free b u q n hx
 ·have:=J.base.tups b xs q
  rw[b8 (e9 this hn)];exact this
 ·have:=J.base.frzs b u xs q
  rw[b8 (e9 this hn)];exact this
 ·obtain⟨more,e⟩:=J.base.tbls b ps q
  exact⟨more,by rw[b8 (e9 e hn)];exact e⟩
 ·rw[b8 (Nat.ne_of_lt (Nat.lt_of_lt_of_le I.lt ha))];exact J.free
 ·obtain⟨v,q⟩:=I.cell x c e
  rw[b8 (Nat.ne_of_lt (Nat.lt_of_lt_of_le q.lt ha))];exact J.freeC x c e
 ·obtain⟨e,n,r⟩:=J.pin p hp
  exact⟨e,by rw[b8 (lt (I.pin p hp).1)];exact n,r⟩
 ·have own:∀c y,H c=some (.own y)→upd H a o c=some (.own y):=fun c y e=>by rw[b8 (e9 e hn)];exact e
  have tup:∀c xs,H c=some (.tup xs)→upd H a o c=some (.tup xs):=fun c y e=>by rw[b8 (e9 e hn)];exact e
  by_cases hb:b=a
  ·subst hb
   rw[b6]at q;cases q
   exact new
  ·rw[b8 hb]at q
   exact(J.hok b u q).stay (fun _ _ _ e=>e) (fun c e=>own c _ e) fun c xs e=>tup c xs e
def Thw(H H':Hp)(Q:Hp→Prop):Prop:=∃d o kvs,H d=some (.dK kvs)∧H' d=some (.frz o (.dK kvs))∧Q (upd H' d (.dK kvs))
def b4r(t:TS):TS:=fun D σ H=>t { D with nx:=fun σ' H'=>Thw H H' (D.nx σ') } σ H
theorem a4N{X:Cx}{st:Stmt}{t:TS}(h:PS X st t):PS X st (b4r t):=by
 intro pins s σ H D I ht
 refine k7 (h pins s σ H _ I ht) fun f s' q=>?_
 cases f with
 | next=>
  obtain⟨σ',H',I',d,o,kvs,h1,h2,q⟩:=q
  exact⟨σ',_,I'.thaw (I.nofrz h1) h2,q⟩
 | brk=>exact q
 | cont=>exact q
 | ret u=>exact q
def Itv(d:Addr)(o:Obj)(kvs:List (Key×V)):It:=
 ⟨fun i H=>H d=some (.frz o (.dK kvs))∧i<kvs.length,fun i H x H'=>H'=H∧∃k,kvs[i]?=some (k,x),fun i H=>H d=some (.frz o (.dK kvs))∧kvs.length≤i⟩
def Itm(d:Addr)(o:Obj)(kvs:List (Key×V)):It:=
 ⟨fun i H=>H d=some (.frz o (.dK kvs))∧i<kvs.length,fun i H x H'=>∃t k v,kvs[i]?=some (k,v)∧x=.ref t∧H t=none∧H'=upd H t (.tup [kV k,v]),fun i H=>H d=some (.frz o (.dK kvs))∧kvs.length≤i⟩
theorem a6f{P:Program}{w:World}{H:Hp}{h:Heap}{d:Addr}{o:Obj}{kvs:List (Key×V)}{es:Array DictEntry}{ep:Nat}(x:F8 P w H h)(e:H d=some (.frz o (.dK kvs)))(hd:o.data=.dict es ep) :
  ∃vs,KV kvs vs∧h.DictAt (q5 P w) d vs ep∧h.get? d=some o:=by
 obtain⟨h1,h2⟩:=(show y0 P w H h d (.frz o (.dK kvs)) from x d _ e)
 obtain⟨_,_,vs,r,dd⟩:=h2
 obtain⟨ep',da⟩:=a1d dd
 obtain⟨o',es',q1,q2,q3,q4⟩:=id da
 rw[h1]at q1;cases q1
 rw[hd]at q3;cases q3
 exact⟨vs,r,da,h1⟩
theorem a5L{P:Program}{w:World}{K:PySem.W.Frag}{tg:Expr}(d it:Addr)(o:Obj)(kvs:List (Key×V))(es:Array DictEntry)(ep:Nat)(hd:o.data=.dict es ep)(hne:d≠it) :
  Turn P w K tg (Itv d o kvs) [it] it (fun i h=>h.IsValIter it d i kvs.length ep) where
 mem:=by simp
 obj:=fun i h st b hb=>by
  have e:b=it:=by simpa using hb
  subst e
  obtain⟨o,e,c,d⟩:=st
  exact⟨o,e,fun v z=>by rw[d]at z;cases z⟩
 keep:=fun i h h' st k=>st.at fun o e=>k it (by simp) o e
 item:=by
  intro X hP hw hK hc i pins s σ H E I hf st hg
  subst hP hw hK
  obtain⟨hz,hi⟩:=hg
  obtain⟨vs,r,da,_⟩:=a6f I.hok hz hd
  have lv:=a8c r
  obtain⟨f0,f1,f2,f3,f4,f5⟩:=hf it (by simp)
  have hv:=List.getElem?_eq_getElem (l:=vs) (i:=i) (by omega)
  obtain⟨x,hx,rx⟩:=a5P r (k:=vs[i].1) (u:=vs[i].2) hv
  rw[←lv]at st
  refine wpAny_pyNext_values_item st da hv fun h' st' sb=>?_
  have I1:Inv X pins σ H { s with heap:=h' }:=I.turned (t':=s.toks) (fun b o hb e=>(sb.2 b hb).trans e) f0 f1 f3 f4 f5
  obtain⟨oi,e,c,dd⟩:=id st'
  refine⟨_,rfl,a6Q (s:={ s with heap:=h' }) e c dd (by decide) ⟨x,H,I1,rx,⟨rfl,_,hx⟩,?_,fun b hb=>(hf b hb).1⟩⟩
  rw[←lv];exact st'
 done:=by
  intro X hP hw hK hc i pins s σ H E I hf st hg
  subst hP hw hK
  obtain⟨hz,hi⟩:=hg
  obtain⟨vs,r,da,_⟩:=a6f I.hok hz hd
  have lv:=a8c r
  obtain⟨f0,f1,f2,f3,f4,f5⟩:=hf it (by simp)
  rw[←lv]at st
  exact wpAny_pyNext_values_end (I.ok.hd hc) st da (List.getElem?_eq_none (by omega)) fun h' eb=>⟨rfl,I.turned (t':=s.toks) (fun b o hb e=>eb b o hb e) f0 f1 f3 f4 f5⟩
 self:=fun _ _ _ _ _ st h=>wpAny_pyIter_valiter st h
theorem a2X:entryFor table "dict_itemiterator.__iter__"=some Builtin.«dict_keyiterator.__iter__»:=by
 refine entryFor_alias (id':="dict_keyiterator.__iter__") ?_ rfl ?_ ?_
 ·kernel_rfl
 ·decide +kernel
 ·kernel_rfl
theorem a8R{P:Program}{w:World}{K:PySem.W.Frag}{elts:List Expr}{x1:Nat}{ps:Pos}(d it:Addr)(o:Obj)(kvs:List (Key×V))(es:Array DictEntry)(ep:Nat)(hd:o.data=.dict es ep)(hne:d≠it) :
  Turn P w K (.Tuple elts x1 ps) (Itm d o kvs) [it] it (fun i h=>∃ok ov,IsItemIter h it d i kvs.length ep ok ov) where
 mem:=by simp
 obj:=fun i h st b hb=>by
  have e:b=it:=by simpa using hb
  subst e
  obtain⟨ok,ov,st⟩:=st
  exact⟨_,st,fun v z=>by
   have z':Data.fields _=Data.cell v:=z
   cases z'⟩
 keep:=fun i h h' st k=>let ⟨ok,ov,st⟩:=st;⟨ok,ov,k it (by simp) _ st⟩
 item:=by
  intro X hP hw hK hc i pins s σ H E I hf st hg
  subst hP hw hK
  obtain⟨hz,hi⟩:=hg
  obtain⟨ok,ov,st⟩:=st
  obtain⟨vs,r,da,_⟩:=a6f I.hok hz hd
  have lv:=a8c r
  obtain⟨f0,f1,f2,f3,f4,f5⟩:=hf it (by simp)
  have hv:=List.getElem?_eq_getElem (l:=vs) (i:=i) (by omega)
  obtain⟨x,hx,rx⟩:=a5P r (k:=vs[i].1) (u:=vs[i].2) hv
  have itl:it<s.heap.objs.size:=Heap.lt_size st
  rw[←lv]at st
  refine wpAny_pyNext_items_item st da hv fun key h' hkey st' tp hz' k'=>⟨_,rfl,?_⟩
  refine wpAny_letOwnedTupleGo_items (s:={ s with heap:=h' }) st' fun h'' st'' sb=>?_
  have I1:Inv X pins σ H { s with heap:=h'' }:=I.turned (t':=s.toks) (fun b o hb e=>(sb.2 b hb).trans (k' b o hb e)) f0 f1 f3 f4 f5
  have tp':h''.get? s.heap.objs.size=some { cls:=.type "tuple",data:=.seq #[key,vs[i].2] }:=(sb.2 _ (Nat.ne_of_gt itl)).trans tp
  have hn:H s.heap.objs.size=none:=I.hok.fresh (Nat.le_refl _)
  have I2:=I.track I1 (o:=.tup [kV vs[i].1,x]) (Nat.le_refl _) ⟨by show 2≤sizeLine;rw[sizeLine_eq];decide,[key,vs[i].2],.cons (a9O hkey) (.cons rx .nil),_,tp',rfl,0,rfl⟩
  refine⟨.ref s.heap.objs.size,_,I2,rfl,⟨_,_,_,hx,rfl,hn,rfl⟩,?_,fun b hb=>?_⟩
  ·rw[←lv];exact⟨_,_,st''⟩
  ·have e:b=it:=by simpa using hb
   rw[e,b8 (Nat.ne_of_lt itl)];exact f0
 done:=by
  intro X hP hw hK hc i pins s σ H E I hf st hg
  subst hP hw hK
  obtain⟨hz,hi⟩:=hg
  obtain⟨ok,ov,st⟩:=st
  obtain⟨vs,r,da,_⟩:=a6f I.hok hz hd
  have lv:=a8c r
  obtain⟨f0,f1,f2,f3,f4,f5⟩:=hf it (by simp)
  rw[←lv]at st
  exact wpAny_pyNext_items_end (I.ok.hd hc) st da (List.getElem?_eq_none (by omega)) fun h' eb=>⟨rfl,I.turned (t':=s.toks) (fun b o hb e=>eb b o hb e) f0 f1 f3 f4 f5⟩
 self:=fun A i s Q E st h=>by
  obtain⟨ok,ov,st⟩:=st
  have hT:s.TypeIs (.ref it) "dict_itemiterator":=⟨_,st,rfl⟩
  refine wpAny_pyIter_slot hT PySem.F.slot_dict_itemiterator_iter (wpAny_call_entry PySem.F.slot_dict_itemiterator_iter hT a2X ?_ (PySem.F.args_dict_itemiterator_iter_1 _))
  show wpAny _ _ (ret (.ref it)) _ _ s
  exact wpAny_pure ⟨_,rfl,"dict_itemiterator",_,hT,PySem.F.slot_dict_itemiterator_next.lookup,h⟩
def b0t(td:TE):TI:=fun σ H R=>td σ H fun x H1=>∃d kvs,x=.ref d∧H1 d=some (.dK kvs)∧∀o,R (Itv d o kvs) (upd H1 d (.frz o (.dK kvs)))
def b3u(td:TE):TI:=fun σ H R=>td σ H fun x H1=>∃d kvs,x=.ref d∧H1 d=some (.dK kvs)∧∀o,R (Itm d o kvs) (upd H1 d (.frz o (.dK kvs)))
section
variable{X:Cx}{tg e:Expr}{elts:List Expr}{x1:Nat}{td:TE}{ps apos cpos:Pos}
theorem a5Y(he:PE X e td)(hbase:attributeBase e "values" X.env (eval e X.env)=eval e X.env:=by rfl)(hline:(apos.endLine==cpos.line)=true:=by rfl):PI X tg (.Call (.Attribute e "values" apos) [] [] cpos) (b0t td):=by
 intro pins s σ H R I h
 refine wpAny_Call_method0_late hbase hline (k7 (he pins s σ H _ I h) fun v s1 ⟨x,H1,I1,r1,d,kvs,ex,hd,q⟩=>?_)
 subst ex
 cases (show v=Value.ref d from r1)
 obtain⟨z,hs,vs,rel,dd⟩:=a8k I1.hok hd
 obtain⟨t1,t2,_⟩:=a2i I1 (.inl ⟨kvs,.inl hd⟩)
 refine⟨"dict",_,PySem.F.plainAttrs_dict,PySem.F.slot_dict_values,PySem.F.type_dict_values,t1,t2,Calls.callWith_builtin rfl (PySem.evalArgs_none ?_)⟩
 refine call_meetsIn PySem.F.slot_dict_values dd.typeIs PySem.F.entry_dict_values (PySem.F.args_dict_values_1 _) (meets_dict_values (q5 X.prog X.w) d hs) ⟨⟨vs,dd⟩,?_⟩
 obtain⟨ep,da⟩:=a1d dd
 have k1:∀b u,s1.heap.get? b=some u→(s1.heap.push { cls:=.type "dict_values",data:=.fields #[.ref d] }).get? b=some u:=fun b u e=>Heap.get?_push_of_some _ e
 have I2:=I1.kept (t':=s1.toks) k1
 obtain⟨o,es,ho,hc,hdat,_⟩:=id da
 have I3:=I2.freeze hd (k1 _ _ ho)
 refine wpAny_pyIter_values (s:={ s1 with heap:=s1.heap.push { cls:=.type "dict_values",data:=.fields #[.ref d] } }) ⟨_,Heap.get?_push_size _ rfl,rfl,rfl⟩ (da.push _) ?_
 have lt:d<s1.heap.objs.size:=Heap.lt_size ho
 have lv:=a8c rel
 refine⟨(s1.heap.push { cls:=.type "dict_values",data:=.fields #[.ref d] }).objs.size,[(s1.heap.push { cls:=.type "dict_values",data:=.fields #[.ref d] }).objs.size],_,_,_,rfl,I3.kept (t':=s1.toks) fun b u e=>Heap.get?_push_of_some _ e,a5L d _ o kvs es ep hdat ?_,?_,fun b hb=>?_,q o⟩
 ·have sz:(s1.heap.push { cls:=.type "dict_values",data:=.fields #[.ref d] }).objs.size=s1.heap.objs.size+1:=Heap.size_push ..
  exact Nat.ne_of_lt (Nat.lt_of_lt_of_le lt (by rw[sz];exact Nat.le_succ _))
 ·rw[←lv];exact⟨_,Heap.get?_push_size _ rfl,rfl,rfl⟩
 ·have e:b=(s1.heap.push { cls:=.type "dict_values",data:=.fields #[.ref d] }).objs.size:=List.mem_singleton.mp hb
  subst e
  exact I3.fpOk (Nat.le_refl _) (I3.hok.fresh (Nat.le_refl _))
theorem b6a(he:PE X e td)(hbase:attributeBase e "items" X.env (eval e X.env)=eval e X.env:=by rfl)(hline:(apos.endLine==cpos.line)=true:=by rfl):PI X (.Tuple elts x1 ps) (.Call (.Attribute e "items" apos) [] [] cpos) (b3u td):=by
 intro pins s σ H R I h
 refine wpAny_Call_method0_late hbase hline (k7 (he pins s σ H _ I h) fun v s1 ⟨x,H1,I1,r1,d,kvs,ex,hd,q⟩=>?_)
 subst ex
 cases (show v=Value.ref d from r1)
 obtain⟨z,hs,vs,rel,dd⟩:=a8k I1.hok hd
 obtain⟨t1,t2,_⟩:=a2i I1 (.inl ⟨kvs,.inl hd⟩)
 refine⟨"dict",_,PySem.F.plainAttrs_dict,PySem.F.slot_dict_items,PySem.F.type_dict_items,t1,t2,Calls.callWith_builtin rfl (PySem.evalArgs_none ?_)⟩
 refine call_meetsIn PySem.F.slot_dict_items dd.typeIs PySem.F.entry_dict_items (PySem.F.args_dict_items_1 _) (meets_dict_items (q5 X.prog X.w) d hs) ⟨⟨vs,dd⟩,?_⟩
 obtain⟨ep,da⟩:=a1d dd
 have k1:∀b u,s1.heap.get? b=some u→(s1.heap.push { cls:=.type "dict_items",data:=.fields #[.ref d] }).get? b=some u:=fun b u e=>Heap.get?_push_of_some _ e
 have I2:=I1.kept (t':=s1.toks) k1
 obtain⟨o,es,ho,hc,hdat,_⟩:=id da
 have I3:=I2.freeze hd (k1 _ _ ho)
 refine wpAny_pyIter_items (s:={ s1 with heap:=s1.heap.push { cls:=.type "dict_items",data:=.fields #[.ref d] } }) ⟨_,Heap.get?_push_size _ rfl,rfl,rfl⟩ (da.push _) ?_
 have lt:d<s1.heap.objs.size:=Heap.lt_size ho
 have lv:=a8c rel
 refine⟨(s1.heap.push { cls:=.type "dict_items",data:=.fields #[.ref d] }).objs.size,[(s1.heap.push { cls:=.type "dict_items",data:=.fields #[.ref d] }).objs.size],_,_,_,rfl,I3.kept (t':=s1.toks) fun b u e=>Heap.get?_push_of_some _ e,a8R d _ o kvs es ep hdat ?_,?_,fun b hb=>?_,q o⟩
 ·have sz:(s1.heap.push { cls:=.type "dict_items",data:=.fields #[.ref d] }).objs.size=s1.heap.objs.size+1:=Heap.size_push ..
  exact Nat.ne_of_lt (Nat.lt_of_lt_of_le lt (by rw[sz];exact Nat.le_succ _))
 ·rw[←lv];exact⟨_,_,Heap.get?_push_size _ rfl⟩
 ·have e:b=(s1.heap.push { cls:=.type "dict_items",data:=.fields #[.ref d] }).objs.size:=List.mem_singleton.mp hb
  subst e
  exact I3.fpOk (Nat.le_refl _) (I3.hok.fresh (Nat.le_refl _))
end
end L2
namespace TS
open PySem PySem.Spec PyProof.Rows Srt
section
variable{prog:Program}{w:World}{A:Around}{R:Result→Shared→Prop}{J:Addr}{fq wq:List Addr}{n:Nat}{Pn:Nat→Value→Prop}{Sn:Nat→Heap→Prop}{kw:List (Str×Value)}
theorem a1V(W:Walks prog w A.in1 J fq wq n Pn Sn)(lss:Nat→Nat→Bool)(cmp:CmpOf prog w A.in1 .Lt Pn lss)(B:Addr)(bq:B∉fq) :
  ∀(k j:Nat) (s:Shared) (best:Value) (c:Nat),n-(j+1)=k→j+1≤n→Sn (j+1) s.heap→Pn (argBest lss j) best →
  s.heap.get? B=some { cls:=.type "list",dict:=none,data:=.seq #[best,best] c,slots:=#[] } →
  (∀v h' tk,Pn (argBest lss (n-1)) v→(∀b o,b∉wq→b≠B→s.heap.get? b=some o→h'.get? b=some o)→R (.ok (.ret v)) { s with heap:=h',toks:=tk }) →
  codeAny (model prog w) A (.builtin "min.loop" ⟨[.ref J,.none,.ref B],kw⟩) R s:=by
 have bw:B∉wq:=fun h=>bq (W.sub _ h)
 have nam:(toString "min"++toString ".loop":String)="min.loop":=by decide
 intro k
 induction k with
 | zero=>
  intro j s best c hk hj st pb hB hR
  have jn:j+1=n:=by omega
  refine codeAny_builtin F.entry_min_loop (Eq.mpr (by rw[Around.under_plainId F.plain_min_loop _]) ?_)
  show wpAny (model prog w) A.in1 (seqItems? (.ref B) >>= _) _ _ s
  refine wpAny_bind (wpAny_seqItems hB rfl ?_)
  show wpAny (model prog w) A.in1 (tryCatch (pyNext (.ref J)) _ >>= _) _ _ s
  refine wpAny_bind (wpAny_tryCatch (W.done s _ _ (jn▸st) fun h' tk kp=>?_))
  have hB':=kp B _ bw hB
  show wpAny (model prog w) A.in1 (updateSeq B (fun _=>#[]) >>= _) _ _ _
  refine wpAny_bind (wpAny_updateSeq hB' rfl (wpAny_bind (wpAny_letGo (wpAny_pure ?_))))
  exact hR best _ tk (by rw[←jn];exact pb) fun b o hb hb2 e=>(Heap.get?_update_other _ _ (Ne.symm hb2)).trans (kp b o hb e)
 | succ k ih=>
  intro j s best c hk hj st pb hB hR
  have jlt:j+1<n:=by omega
  refine codeAny_builtin F.entry_min_loop (Eq.mpr (by rw[Around.under_plainId F.plain_min_loop _]) ?_)
  show wpAny (model prog w) A.in1 (seqItems? (.ref B) >>= _) _ _ s
  refine wpAny_bind (wpAny_seqItems hB rfl ?_)
  show wpAny (model prog w) A.in1 (tryCatch (pyNext (.ref J)) _ >>= _) _ _ s
  refine wpAny_bind (wpAny_tryCatch (W.item (j+1) s _ _ jlt st fun v h' tk pv st' kp=>?_))
  have hB':=kp B _ bw hB
  show wpAny (model prog w) A.in1 (tryCatch (holding [v,v] (richCompare .Lt v best >>= _)) _ >>= _) _ _ _
  refine wpAny_bind (wpAny_tryCatch (wpAny_holding (wpAny_bind (cmp (j+1) (argBest lss j) v best _ _ _ pv pb ?_))))
  refine wpAny_bind (wpAny_holding (wpAny_truthy_bool (wpAny_bind (wpAny_letGo (wpAny_pure ?_)))))
  cases hb:lss (j+1) (argBest lss j) with
  | true=>
   simp only[if_true]
   refine wpAny_bind (wpAny_updateSeq hB' rfl (wpAny_bind (wpAny_letGo ?_)))
   rw[nam]
   refine wpAny_pure ⟨plainId_quiet F.plain_min_loop _,ih (j+1) _ v _ (by omega) jlt (W.frame _ _ _ st' fun b hbf o e=>(Heap.get?_update_other _ _ (fun h:B=b=>bq (by rw[h];exact hbf))).trans e) (by simp only[argBest,hb,if_true];exact pv) (Heap.get?_update_self _ hB' rfl)
    fun v' h2 tk2 pv' kp2=>hR v' h2 tk2 pv' fun b o hb1 hb2 e=>kp2 b o hb1 hb2 ((Heap.get?_update_other _ _ (Ne.symm hb2)).trans (kp b o hb1 e))⟩
  | false=>
   simp only[Bool.false_eq_true,if_false]
   refine wpAny_bind (wpAny_letGo ?_)
   rw[nam]
   exact wpAny_pure ⟨plainId_quiet F.plain_min_loop _,ih (j+1) _ best c (by omega) jlt st' (by simp only[argBest,hb,Bool.false_eq_true,if_false];exact pb) hB' fun v' h2 tk2 pv' kp2=>hR v' h2 tk2 pv' fun b o hb1 hb2 e=>kp2 b o hb1 hb2 (kp b o hb1 e)⟩
theorem a0R(W:Walks prog w A.in1 J fq wq n Pn Sn)(lss:Nat→Nat→Bool)(cmp:CmpOf prog w A.in1 .Lt Pn lss)(B:Addr)(bq:B∉fq){s:Shared}{c:Nat}(st:Sn 0 s.heap){d:Value}{kn:Str}
  (hB:s.heap.get? B=some { cls:=.type "list",dict:=none,data:=.seq #[] c,slots:=#[] })
  (h0:n=0→∀h' tk,(∀b o,b∉wq→b≠B→s.heap.get? b=some o→h'.get? b=some o)→R (.ok (.ret d)) { s with heap:=h',toks:=tk })
  (hR:0<n→∀v h' tk,Pn (argBest lss (n-1)) v→(∀b o,b∉wq→b≠B→s.heap.get? b=some o→h'.get? b=some o)→R (.ok (.ret v)) { s with heap:=h',toks:=tk }) :
  codeAny (model prog w) A (.builtin "min.loop" ⟨[.ref J,.none,.ref B],[(kn,d)]⟩) R s:=by
 have bw:B∉wq:=fun h=>bq (W.sub _ h)
 have nam:(toString "min"++toString ".loop":String)="min.loop":=by decide
 refine codeAny_builtin F.entry_min_loop (Eq.mpr (by rw[Around.under_plainId F.plain_min_loop _]) ?_)
 show wpAny (model prog w) A.in1 (seqItems? (.ref B) >>= _) _ _ s
 refine wpAny_bind (wpAny_seqItems hB rfl ?_)
 show wpAny (model prog w) A.in1 (tryCatch (pyNext (.ref J)) _ >>= _) _ _ s
 by_cases c0:n=0
 ·subst c0
  refine wpAny_bind (wpAny_tryCatch (W.done s _ _ st fun h' tk kp=>?_))
  refine wpAny_bind (wpAny_rule (wpAny_pure ?_))
  exact h0 rfl h' tk fun b o hb _ e=>kp b o hb e
 ·have np:0<n:=by omega
  refine wpAny_bind (wpAny_tryCatch (W.item 0 s _ _ np st fun v h' tk pv st' kp=>?_))
  have hB':=kp B _ bw hB
  show wpAny (model prog w) A.in1 (updateSeq B (fun _=>#[v,v]) >>= _) _ _ _
  refine wpAny_bind (wpAny_updateSeq hB' rfl ?_)
  rw[nam]
  refine wpAny_pure ⟨plainId_quiet F.plain_min_loop _,a1V W lss cmp B bq _ 0 _ v _ rfl np (W.frame _ _ _ st' fun b hbf o e=>(Heap.get?_update_other _ _ (fun h:B=b=>bq (by rw[h];exact hbf))).trans e) pv (Heap.get?_update_self _ hB' rfl) fun v' h2 tk2 pv' kp2=>?_⟩
  exact hR np v' h2 tk2 pv' fun b o hb1 hb2 e=>kp2 b o hb1 hb2 ((Heap.get?_update_other _ _ (Ne.symm hb2)).trans (kp b o hb1 e))
end
theorem a2Z(a v:Value):argsOk "min" ⟨[a],[(Str.ofString "default",v)]⟩:=by unfold argsOk;kernel_rfl
end TS
namespace L2
open PySem PySem.Spec PyProof.Rows Srt TS
def ltI(ns:List Int)(i j:Nat):Bool:=decide (ns.getD i 0<ns.getD j 0)
theorem a3Z(ns:List Int):∀k,k<ns.length→argBest (ltI ns) k≤k∧∀j,j≤k→ns.getD (argBest (ltI ns) k) 0≤ns.getD j 0
 | 0,_=>by
  refine⟨Nat.le_refl _,fun j hj=>?_⟩
  have e:j=0:=by omega
  subst e
  exact Int.le_refl _
 | k+1,hk=>by
  obtain⟨a,b⟩:=a3Z ns k (by omega)
  show(if ltI ns (k+1) (argBest (ltI ns) k)=true then k+1 else argBest (ltI ns) k)≤k+1∧∀j,j≤k+1→ns.getD (if ltI ns (k+1) (argBest (ltI ns) k)=true then k+1 else argBest (ltI ns) k) 0≤ns.getD j 0
  by_cases c:ltI ns (k+1) (argBest (ltI ns) k)=true
  ·rw[if_pos c]
   have c':ns.getD (k+1) 0<ns.getD (argBest (ltI ns) k) 0:=of_decide_eq_true c
   refine⟨Nat.le_refl _,fun j hj=>?_⟩
   by_cases e:j=k+1
   ·subst e;exact Int.le_refl _
   ·have:=b j (by omega);omega
  ·rw[if_neg c]
   have c':¬ns.getD (k+1) 0<ns.getD (argBest (ltI ns) k) 0:=fun z=>c (decide_eq_true z)
   refine⟨by omega,fun j hj=>?_⟩
   by_cases e:j=k+1
   ·subst e;omega
   ·exact b j (by omega)
theorem a0W{X:Cx}{pins:List (Addr×Obj)}{σ:St}{H:Hp}{s:Shared}{Q:VK}{p:Addr}{ns:List Int}{y:V}{d:Value}(hc:X.calm=true)(I:Inv X pins σ H s)(hq:d9 X.K H p (ns.map V.int))(rd:RelV y d)(q3:ns=[]→Q y H)(q4:∀m,m∈ns→(∀n∈ns,m≤n)→Q (.int m) H) :
  wpAny (model X.prog X.w) X.A (call (.builtin "min") [.ref p] [(Str.ofString "default",d)]) (EP X pins σ Q) X.xe s:=by
 obtain⟨its,rv,pl,hz⟩:=I.list hq
 have ln:its.length=ns.length:=by rw[←rv.length,List.length_map]
 have lt:p<s.heap.objs.size:=let ⟨_,e,_⟩:=pl.isList;Heap.lt_size e
 have nam:(toString "min"++toString ".loop":String)="min.loop":=by decide
 refine wpAny_call (codeAny_call_builtin F.plain_min F.entry_min ?_)
 have body:wpAny (model X.prog X.w) X.A.in1 (Builtin.«min» ⟨[.ref p],[(Str.ofString "default",d)]⟩) (fun fin s'=>match fin with
   | .done f=>(match (Except.ok f:Result) with | .ok (.ret v)=>EP X pins σ Q v s' | .ok _=>False | .error e=>X.xe e s')
   | .again c'=>c'.quiet=true∧codeAny (model X.prog X.w) X.A c' (fun r s'=>match r with | .ok (.ret v)=>EP X pins σ Q v s' | .ok _=>False | .error e=>X.xe e s') s') X.xe s:=by
  show wpAny _ X.A.in1 (Builtin.Builtins.bindParams "min" ["key","default"] 0 ⟨[],[(Str.ofString "default",d)]⟩ >>= _) _ _ s
  refine wpAny_bind (wpAny_of_eq (show Builtin.Builtins.bindParams "min" ["key","default"] 0 ⟨[],[(Str.ofString "default",d)]⟩=pure [none,some d] from rfl) ?_)
  refine wpAny_bind (wpAny_pure ?_)
  refine wpAny_bind (wpAny_pyIter_list pl.isList ?_)
  refine wpAny_bind (wpAny_newObj_type ?_)
  rw[nam]
  have W:=Walks.list (prog:=X.prog) (w:=X.w) (A:=X.A.in1) (by simpa using I.ok.hd hc) s.heap.objs.size p (Nat.ne_of_lt lt) its.toArray
  have z1:(s.heap.push { cls:=.type "list_iterator",data:=.fields #[.ref p,.int 0 0] }).objs.size=s.heap.objs.size+1:=Heap.size_push ..
  have bq:(s.heap.push { cls:=.type "list_iterator",data:=.fields #[.ref p,.int 0 0] }).objs.size∉[s.heap.objs.size,p]:=by
   rw[z1]
   simp only[List.mem_cons,List.not_mem_nil,or_false,not_or]
   exact⟨Nat.succ_ne_self _,Nat.ne_of_gt (Nat.lt_succ_of_lt lt)⟩
  have old:∀(h':Heap) (b:Addr) (o:Obj),(∀b o,b∉[s.heap.objs.size]→b≠(s.heap.push { cls:=.type "list_iterator",data:=.fields #[.ref p,.int 0 0] }).objs.size→((s.heap.push { cls:=.type "list_iterator",data:=.fields #[.ref p,.int 0 0] }).push { cls:=.type "list",data:=.seq ([]:List Value).toArray }).get? b=some o→h'.get? b=some o) →
    s.heap.get? b=some o→h'.get? b=some o:=fun h' b o k e=>by
   have lb:=Heap.lt_size e
   exact k b o (fun z=>by rw[List.mem_singleton.mp z]at lb;exact Nat.lt_irrefl _ lb) (by rw[z1];exact Nat.ne_of_lt (Nat.lt_succ_of_lt lb)) (Heap.get?_push_of_some _ (Heap.get?_push_of_some _ e))
  have sz:its.toArray.size=ns.length:=by rw[List.size_toArray,ln]
  refine wpAny_pure ⟨plainId_quiet F.plain_min_loop _,a0R W (ltI ns) (CmpOf.ints_lt (fun j=>ns.getD j 0) fun i v hv=>Y8 rv i v (by simpa using hv)) _ bq (W.frame 0 _ _ ⟨⟨_,Heap.get?_push_size _ rfl,rfl,rfl⟩,pl.isList.push _⟩ fun b _ o e=>Heap.get?_push_of_some _ e) (Heap.get?_push_size _ rfl) (fun n0 h' tk k=>?_) fun n0 v h' tk pv k=>?_⟩
  ·have e0:ns=[]:=List.eq_nil_of_length_eq_zero (by omega)
   exact⟨y,H,I.kept (t':=tk) fun b o e=>old h' b o k e,rd,q3 e0⟩
  ·obtain⟨t,rfl⟩:=Y8 rv _ v (by simpa using pv)
   rw[sz]at n0
   have en:its.length-1=ns.length-1:=by rw[ln]
   rw[en]
   obtain⟨a1,a2⟩:=a3Z ns (ns.length-1) (by omega)
   have at':argBest (ltI ns) (ns.length-1)<ns.length:=by omega
   refine⟨.int (ns.getD (argBest (ltI ns) (ns.length-1)) 0),H,I.kept (t':=tk) fun b o e=>old h' b o k e,⟨t,rfl⟩,q4 _ ?_ fun m hm=>?_⟩
   ·rw[List.getD_eq_getElem?_getD,List.getElem?_eq_getElem at']
    exact List.getElem_mem at'
   ·obtain⟨j,hj⟩:=List.mem_iff_getElem?.mp hm
    have lj:=(List.getElem?_eq_some_iff.mp hj).1
    have:=a2 j (by omega)
    rw[List.getD_eq_getElem?_getD (l:=ns) (i:=j),hj]at this
    exact this
 simp only[checkBuiltinCall,F.kind_min]
 cases hsig:Manifest.signature? "min" with
 | none=>exact wpAny_pure body
 | some sig=>
  have ok:Bind.checkArgs "min" sig ⟨[.ref p],[(Str.ofString "default",d)]⟩=pure ():=by have:=a2Z (.ref p) d;simpa only [argsOk,hsig] using this
  simp only[ok]
  exact wpAny_pure body
def b5r(K:PySem.W.Frag)(te td:TE):TE:=fun σ H Q=>te σ H fun x H1=>td σ H1 fun y H2=>∃p ns,x=.ref p∧d9 K H2 p (ns.map V.int)∧(ns=[]→Q y H2)∧(∀m,m∈ns→(∀n∈ns,m≤n)→Q (.int m) H2)
section
variable{X:Cx}{e f:Expr}{te td:TE}{p kp pos:Pos}
theorem a5Q(hc:X.calm=true)(hg:Gl X "min")(hm:X.mg "min"=none)(ha:PE X e te)(hf:PE X f td)
  (h1:starEach [e] X.env=[(false,eval e X.env)]:=by rfl) (h2:keywordEach [⟨some "default",f,kp⟩] X.env=[(some (Str.ofString "default"),eval f X.env)]:=by rfl) :
  PE X (.Call (.Name "min" p) [e] [⟨some "default",f,kp⟩] pos) (b5r X.K te td):=by
 intro pins s σ H Q I h
 refine wpAny_Call_Name_kw (Z3 I hg hm boot_min ?_ (by decide) (by decide))
 refine PyProof.Rows.callWith_kw ?_ (by rw[h1];rfl) (by rw[h1];rfl) (by rw[h2];rfl) (by rw[h2];rfl)
 rw[h1]
 show wpAny _ _ (spliced ((false,eval e X.env)::backTo pos [])) _ _ s
 refine Calls.spliced_cons (k7 (ha pins s σ H _ I h) fun u s1 ⟨x,H1,I1,r1,q1⟩=>Calls.spliced_nil ?_)
 refine k7 (b3i hf b2p pos pins s1 σ H1 (fun zs H2=>match zs with
  | [y]=>∃p ns,x=.ref p∧d9 X.K H2 p (ns.map V.int)∧(ns=[]→Q y H2)∧(∀m,m∈ns→(∀n∈ns,m≤n)→Q (.int m) H2)
  | _=>False) I1 q1) fun ws s2 ⟨zs,H2,I2,rz,q2⟩=>?_
 match zs,ws,rz,q2 with
 | [y],_,.cons (b:=d) rd .nil,q2=>
  obtain⟨p,ns,rfl,hq,q3,q4⟩:=q2
  cases (show u=Value.ref p from r1)
  rw[h2]
  exact a0W hc I2 hq rd q3 q4
end
end L2
namespace L2
open PySem PySem.Spec PyProof.Rows Srt TS
section
variable{X:Cx}{own tl:List Str}{scope:Scope}{cl:List (Str×Addr)}{C:Addr}{s₀:Shared}{H₀:Hp}{ex:List Addr}{e:Expr}{ta:TE}{f:Str}{pos:Pos}
theorem b6i(he:PE (T8 X own tl scope cl C s₀ H₀ ex) e ta)(hb:attributeBase e f (T8 X own tl scope cl C s₀ H₀ ex).env (eval e (T8 X own tl scope cl C s₀ H₀ ex).env)=eval e (T8 X own tl scope cl C s₀ H₀ ex).env):PE (T8 X own tl scope cl C s₀ H₀ ex) (.Attribute e f pos) (b0o X.K ta f):=u0 he hb
end
theorem b6k{d:Addr}{o:Obj}{kvs:List (Key×V)}{g:TG}{tb:TS}{D:Ends}{σ:St}{H:Hp}(Pv:Nat→St→Hp→Prop)(h0:Pv 0 σ H)(hl:∀i σ H,i≤kvs.length→Pv i σ H→H d=some (.frz o (.dK kvs)))
  (hs:∀i k v σ H t,kvs[i]?=some (k,v)→Pv i σ H→H t=none→g (.ref t) σ (upd H t (.tup [kV k,v])) fun σ2 H2=>tb { D with nx:=Pv (i+1),ct:=Pv (i+1),bk:=D.nx } σ2 H2) (hd:∀σ H,Pv kvs.length σ H→D.nx σ H) :
  ∃W:Nat→Nat→St→Hp→Prop,(∃m,W 0 m σ H)∧∀i m σ H,W i m σ H →
   ((Itm d o kvs).stop i H∧D.nx σ H)∨((Itm d o kvs).go i H∧∃N:St→Hp→Prop,(∀σ' H',N σ' H'→∃m',m'<m∧W (i+1) m' σ' H')∧∀x H',(Itm d o kvs).yld i H x H'→g x σ H' fun σ2 H2=>tb { D with nx:=N,ct:=N,bk:=D.nx } σ2 H2):=by
 refine⟨fun i m σ H=>m=kvs.length-i∧i≤kvs.length∧Pv i σ H,⟨kvs.length,by simp,Nat.zero_le _,h0⟩,?_⟩
 rintro i m σ H ⟨rfl,hi,p⟩
 have q:=hl i σ H hi p
 by_cases lt:i<kvs.length
 ·refine .inr ⟨⟨q,lt⟩,Pv (i+1),fun σ' H' p'=>⟨kvs.length-(i+1),by omega,rfl,lt,p'⟩,fun x H' y=>?_⟩
  obtain⟨t,k,v,e,ex,ht,eH⟩:=y
  subst ex eH
  exact hs i k v σ H t e p ht
 ·have e:i=kvs.length:=by omega
  subst e
  exact .inl ⟨⟨q,Nat.le_refl _⟩,hd σ H p⟩
theorem b0c{d:Addr}{o:Obj}{kvs:List (Key×V)}{acc:Addr}{tc:TT}{te:TE}{σ:St}{H1:Hp}{Q:Hp→Prop}(Pv:Nat→Hp→Prop)(h0:Pv 0 (upd H1 acc (.lst [])))(hl:∀i H,i≤kvs.length→Pv i H→H d=some (.frz o (.dK kvs)))
  (hs:∀i k x H,kvs[i]?=some (k,x)→Pv i H→tc (some x::σ) H fun b H3=>if b=true then te (some x::σ) H3 fun y H4=>∃ys,H4 acc=some (.lst ys)∧ys.length<sizeLine∧Pv (i+1) (upd H4 acc (.lst (ys++[y]))) else Pv (i+1) H3)
  (hd:∀H,Pv kvs.length H→Q H):a6E 1 (a0t 0) tc te (Itv d o kvs) acc σ H1 Q:=by
 refine⟨fun i m H=>i≤kvs.length∧m=kvs.length-i∧Pv i H,⟨_,Nat.zero_le _,rfl,h0⟩,fun i m H ⟨hi,hm,hp⟩=>?_⟩
 have q:=hl i H hi hp
 rcases Nat.lt_or_ge i kvs.length with lt | ge
 ·refine .inr ⟨⟨q,lt⟩,Pv (i+1),fun H' h'=>⟨kvs.length-(i+1),by omega,by omega,rfl,h'⟩,fun os x H' ho hy=>?_⟩
  obtain⟨rfl,k,hx⟩:=hy
  obtain⟨z,rfl⟩:∃z,os=[z]:=by
   match os,ho with
   | [z],_=>exact⟨z,rfl⟩
  exact⟨⟨[some x],rfl,rfl⟩,hs i k x H' hx hp⟩
 ·have e:i=kvs.length:=by omega
  subst e
  exact .inl ⟨⟨q,Nat.le_refl _⟩,hd H hp⟩
end L2
namespace My
open PySem PySem.Spec PyProof.Rows L2
set_option maxRecDepth 100000
theorem a9Q:j3 ["goods","others"] ["goods","others"] (i4 a1i):=⟨rfl,rfl,rfl,by decide +kernel,rfl,by decide +kernel,by decide +kernel⟩
theorem a6K:j3 ["one","other","goods","why"] ["one","other","goods","why"] (i4 a4c):=⟨rfl,rfl,rfl,by decide +kernel,rfl,by decide +kernel,by decide +kernel⟩
theorem a6a:j3 ["one","other","links"] ["one","other"] (i4 R9):=⟨rfl,rfl,rfl,by decide +kernel,rfl,by decide +kernel,by decide +kernel⟩
theorem X4:j3 ["record","others","links","other"] ["record","others"] (i4 Z4):=⟨rfl,rfl,rfl,by decide +kernel,rfl,by decide +kernel,by decide +kernel⟩
theorem U9:j3 ["place","numbers","links","found","number","link"] ["place","numbers","links"] (i4 a0e):=⟨rfl,rfl,rfl,by decide +kernel,rfl,by decide +kernel,by decide +kernel⟩
theorem v8:j3 ["numbers","links","links_from","links_to","unkept","number","ready","row","link","other"] ["numbers","links"] (i4 W6):=⟨rfl,rfl,rfl,by decide +kernel,rfl,by decide +kernel,by decide +kernel⟩
theorem A8:j3 ["links","link_to","link","number","met","walked"] ["links"] (i4 X3):=⟨rfl,rfl,rfl,by decide +kernel,rfl,by decide +kernel,by decide +kernel⟩
theorem O0:j3 ["numbers","links","row","placed","number"] ["numbers","links"] (i4 X0):=⟨rfl,rfl,rfl,by decide +kernel,rfl,by decide +kernel,by decide +kernel⟩
theorem a9P:j3 ["versions","moment"] ["versions","moment"] (i4 a9j):=⟨rfl,rfl,rfl,by decide +kernel,rfl,by decide +kernel,by decide +kernel⟩
theorem a6n:j3 ["versions","moment","count"] ["versions","moment"] (i4 a0f):=⟨rfl,rfl,rfl,by decide +kernel,rfl,by decide +kernel,by decide +kernel⟩
theorem a1L:j3 ["versions","moment","gone"] ["versions","moment"] (i4 a9v):=⟨rfl,rfl,rfl,by decide +kernel,rfl,by decide +kernel,by decide +kernel⟩
theorem a6B:j3 ["ring","number","place"] ["ring","number"] (i4 a8p):=⟨rfl,rfl,rfl,by decide +kernel,rfl,by decide +kernel,by decide +kernel⟩
theorem a5g:j3 ["self","number","began"] ["self","number","began"] (i4 N8):=⟨rfl,rfl,rfl,by decide +kernel,rfl,by decide +kernel,by decide +kernel⟩
theorem a3m:j3 ["self","ended"] ["self","ended"] (i4 Q6):=⟨rfl,rfl,rfl,by decide +kernel,rfl,by decide +kernel,by decide +kernel⟩
theorem a0n:j3 ["self"] ["self"] (i4 Q2):=⟨rfl,rfl,rfl,by decide +kernel,rfl,by decide +kernel,by decide +kernel⟩
theorem a1t:j3 ["self"] ["self"] (i4 U4):=⟨rfl,rfl,rfl,by decide +kernel,rfl,by decide +kernel,by decide +kernel⟩
theorem a7d:j3 ["self","number"] ["self"] (i4 W3):=⟨rfl,rfl,rfl,by decide +kernel,rfl,by decide +kernel,by decide +kernel⟩
theorem a0g:j3 ["self","number","good","dealing"] ["self","number","good"] (i4 Z1):=⟨rfl,rfl,rfl,by decide +kernel,rfl,by decide +kernel,by decide +kernel⟩
theorem a7h:j3 ["self","number","good","amount","dealing"] ["self","number","good","amount"] (i4 a8b):=⟨rfl,rfl,rfl,by decide +kernel,rfl,by decide +kernel,by decide +kernel⟩
theorem a5y:j3 ["self","number"] ["self","number"] (i4 W7):=⟨rfl,rfl,rfl,by decide +kernel,rfl,by decide +kernel,by decide +kernel⟩
theorem N2:j3 ["self","number","dealing","record","links","found"] ["self","number"] (i4 a7b):=⟨rfl,rfl,rfl,by decide +kernel,rfl,by decide +kernel,by decide +kernel⟩
theorem N4:j3 ["self","aside","good","amount"] ["self","aside"] (i4 P2):=⟨rfl,rfl,rfl,by decide +kernel,rfl,by decide +kernel,by decide +kernel⟩
theorem B4:j3 ["self","beginnings","moment","gone","good","left"] ["self"] (i4 W8):=⟨rfl,rfl,rfl,by decide +kernel,rfl,by decide +kernel,by decide +kernel⟩
theorem a3a:j3 ["tally","number","ring"] ["tally","number"] (i4 T6):=⟨rfl,rfl,rfl,by decide +kernel,rfl,by decide +kernel,by decide +kernel⟩
theorem U0:j3 ["tally","deed","number"] ["tally","deed"] (i4 N6):=⟨rfl,rfl,rfl,by decide +kernel,rfl,by decide +kernel,by decide +kernel⟩
theorem a8F:j3 ["tally","deed"] ["tally","deed"] (i4 a3c):=⟨rfl,rfl,rfl,by decide +kernel,rfl,by decide +kernel,by decide +kernel⟩
theorem W1:j3 ["tally","deeds","told","deed"] ["tally","deeds"] (i4 Z8):=⟨rfl,rfl,rfl,by decide +kernel,rfl,by decide +kernel,by decide +kernel⟩
theorem a2Q:j3 ["deeds"] ["deeds"] (i4 a5i):=⟨rfl,rfl,rfl,by decide +kernel,rfl,by decide +kernel,by decide +kernel⟩
theorem a0D:j3 ["_law_found"] ["_law_found"] (i4 a8a):=⟨rfl,rfl,rfl,by decide +kernel,rfl,by decide +kernel,by decide +kernel⟩
theorem a2u:j3 ["_law_found"] ["_law_found"] (i4 U8):=⟨rfl,rfl,rfl,by decide +kernel,rfl,by decide +kernel,by decide +kernel⟩
theorem X9:j3 ["_law_found","_law_link"] ["_law_found"] (i4 Q7):=⟨rfl,rfl,rfl,by decide +kernel,rfl,by decide +kernel,by decide +kernel⟩
theorem U6:j3 ["_law_found","_law_seen","_law_k"] ["_law_found"] (i4 X5):=⟨rfl,rfl,rfl,by decide +kernel,rfl,by decide +kernel,by decide +kernel⟩
theorem a2k:j3 ["_law_spot","_law_place","_law_goods"] ["_law_spot","_law_place"] (i4 a6c):=⟨rfl,rfl,rfl,by decide +kernel,rfl,by decide +kernel,by decide +kernel⟩
theorem l5:j3 ["_law_cells","_law_made","_law_under","_law_over","_law_begun","_law_most","_law_size","_law_k","_law_pick","_law_rest","_law_near","_law_good","_law_odd","_law_bad","_law_menu","_law_who","_law_amounts","_law_amount"] ["_law_cells"] (i4 Z5):=⟨rfl,rfl,rfl,by decide +kernel,rfl,by decide +kernel,by decide +kernel⟩
theorem a6D:j3 ["_law_found"] ["_law_found"] (i4 a7a):=⟨rfl,rfl,rfl,by decide +kernel,rfl,by decide +kernel,by decide +kernel⟩
theorem u7:j3 ["_law_asked","_law_told","_law_since","_law_looked","_law_laid","_law_records","_law_tries","_law_k","_law_deed","_law_who","_law_ends","_law_record"] ["_law_asked","_law_told"] (i4 W2):=⟨rfl,rfl,rfl,by decide +kernel,rfl,by decide +kernel,by decide +kernel⟩
theorem a9h:j3 ["_law_link","_law_one","_law_other","_law_good"] ["_law_link","_law_one","_law_other"] (i4 a9b):=⟨rfl,rfl,rfl,by decide +kernel,rfl,by decide +kernel,by decide +kernel⟩
theorem T4:j3 ["_law_handed","_law_asked","_law_k","_law_j","_law_part"] ["_law_handed","_law_asked"] (i4 a1c):=⟨rfl,rfl,rfl,by decide +kernel,rfl,by decide +kernel,by decide +kernel⟩
theorem A1:j3 ["_law_seed","_law_goods","_law_one","_law_other","_law_made"] ["_law_seed"] (i4 Q0):=⟨rfl,rfl,rfl,by decide +kernel,rfl,by decide +kernel,by decide +kernel⟩
theorem P6:j3 ["_law_script","_law_made","_law_deed"] ["_law_script"] (i4 Z6):=⟨rfl,rfl,rfl,by decide +kernel,rfl,by decide +kernel,by decide +kernel⟩
theorem a3z:j3 ["_law_one","_law_other"] ["_law_one","_law_other"] (i4 X1):=⟨rfl,rfl,rfl,by decide +kernel,rfl,by decide +kernel,by decide +kernel⟩
theorem K9:j3 ["_law_records","_law_record","_law_seen","_law_spot","_law_other"] ["_law_records","_law_record"] (i4 V9):=⟨rfl,rfl,rfl,by decide +kernel,rfl,by decide +kernel,by decide +kernel⟩
theorem J5:j3 ["_law_asked","_law_told","_law_k","_law_record","_law_records"] ["_law_asked","_law_told"] (i4 P3):=⟨rfl,rfl,rfl,by decide +kernel,rfl,by decide +kernel,by decide +kernel⟩
theorem N1:j3 ["_law_script","_law_asked","_law_handed","_law_told","_law_tries","_law_k","_law_record","_law_records","_law_known","_law_old","_law_link"] ["_law_script"] (i4 P9):=⟨rfl,rfl,rfl,by decide +kernel,rfl,by decide +kernel,by decide +kernel⟩
theorem a0A:(["good","one","other","goods","why"]:List Str).Nodup:=by decide +kernel
theorem a0r:(["number","numbers","links","links_from","links_to","unkept",".","ready","row","link","other"]:List Str).Nodup:=by decide +kernel
theorem a0q:(["link","numbers","links","row","placed","number"]:List Str).Nodup:=by decide +kernel
theorem a8J:(["version","versions","moment"]:List Str).Nodup:=by decide +kernel
theorem a4L:(["link","ring","number","place"]:List Str).Nodup:=by decide +kernel
theorem a9w:(["ended","self","number","dealing","record","links","found"]:List Str).Nodup:=by decide +kernel
theorem a4p:(["dealing","self","beginnings","moment","gone","good","left"]:List Str).Nodup:=by decide +kernel
theorem Q4:(["_law_good","_law_one","_law_other"]:List Str).Nodup:=by decide +kernel
structure FB(K:PySem.W.Frag)(n q:Str)(s:Stmt)(f:Addr)(d:FuncData)(ps:List Str):Prop extends Fun K n q s f d where
 b:Binds K d ps []
structure z8(K:PySem.W.Frag)(mg:Str→Option Value)(t:A5):Prop where
 F_in_both:FB K "in_both" "in_both" a1i t.f_in_both t.d_in_both ["goods","others"]
 m_in_both:mg "in_both"=some (.ref t.f_in_both)
 F_links_for:FB K "links_for" "links_for" a4c t.f_links_for t.d_links_for ["one","other","goods","why"]
 m_links_for:mg "links_for"=some (.ref t.f_links_for)
 F_links_between:FB K "links_between" "links_between" R9 t.f_links_between t.d_links_between ["one","other"]
 m_links_between:mg "links_between"=some (.ref t.f_links_between)
 F_links_with:FB K "links_with" "links_with" Z4 t.f_links_with t.d_links_with ["record","others"]
 m_links_with:mg "links_with"=some (.ref t.f_links_with)
 F_links_by:FB K "links_by" "links_by" a0e t.f_links_by t.d_links_by ["place","numbers","links"]
 m_links_by:mg "links_by"=some (.ref t.f_links_by)
 F_longest_row:FB K "longest_row" "longest_row" W6 t.f_longest_row t.d_longest_row ["numbers","links"]
 m_longest_row:mg "longest_row"=some (.ref t.f_longest_row)
 F_ring_behind:FB K "ring_behind" "ring_behind" X3 t.f_ring_behind t.d_ring_behind ["links"]
 m_ring_behind:mg "ring_behind"=some (.ref t.f_ring_behind)
 F_row_or_ring:FB K "row_or_ring" "row_or_ring" X0 t.f_row_or_ring t.d_row_or_ring ["numbers","links"]
 m_row_or_ring:mg "row_or_ring"=some (.ref t.f_row_or_ring)
 F_reached:FB K "reached" "reached" a9j t.f_reached t.d_reached ["versions","moment"]
 m_reached:mg "reached"=some (.ref t.f_reached)
 F_value_at:FB K "value_at" "value_at" a0f t.f_value_at t.d_value_at ["versions","moment"]
 m_value_at:mg "value_at"=some (.ref t.f_value_at)
 F_swept:FB K "swept" "swept" a9v t.f_swept t.d_swept ["versions","moment"]
 m_swept:mg "swept"=some (.ref t.f_swept)
 F_turned:FB K "turned" "turned" a8p t.f_turned t.d_turned ["ring","number"]
 m_turned:mg "turned"=some (.ref t.f_turned)
 F_Dealing___init__:FB K "__init__" "Dealing.__init__" N8 t.f_Dealing___init__ t.d_Dealing___init__ ["self","number","began"]
 K_Dealing:Mk K t.C_Dealing t.f_Dealing___init__
 F_Dealing_record:FB K "record" "Dealing.record" Q6 t.f_Dealing_record t.d_Dealing_record ["self","ended"]
 M_Dealing_record:R7 K t.C_Dealing "record" t.f_Dealing_record
 F_Tally___init__:FB K "__init__" "Tally.__init__" Q2 t.f_Tally___init__ t.d_Tally___init__ ["self"]
 K_Tally:Mk K t.C_Tally t.f_Tally___init__
 F_Tally_moment:FB K "moment" "Tally.moment" U4 t.f_Tally_moment t.d_Tally_moment ["self"]
 M_Tally_moment:R7 K t.C_Tally "moment" t.f_Tally_moment
 F_Tally_begin:FB K "begin" "Tally.begin" W3 t.f_Tally_begin t.d_Tally_begin ["self"]
 M_Tally_begin:R7 K t.C_Tally "begin" t.f_Tally_begin
 F_Tally_look:FB K "look" "Tally.look" Z1 t.f_Tally_look t.d_Tally_look ["self","number","good"]
 M_Tally_look:R7 K t.C_Tally "look" t.f_Tally_look
 F_Tally_put:FB K "put" "Tally.put" a8b t.f_Tally_put t.d_Tally_put ["self","number","good","amount"]
 M_Tally_put:R7 K t.C_Tally "put" t.f_Tally_put
 F_Tally_leave:FB K "leave" "Tally.leave" W7 t.f_Tally_leave t.d_Tally_leave ["self","number"]
 M_Tally_leave:R7 K t.C_Tally "leave" t.f_Tally_leave
 F_Tally_end:FB K "end" "Tally.end" a7b t.f_Tally_end t.d_Tally_end ["self","number"]
 M_Tally_end:R7 K t.C_Tally "end" t.f_Tally_end
 F_Tally_take_over:FB K "take_over" "Tally.take_over" P2 t.f_Tally_take_over t.d_Tally_take_over ["self","aside"]
 M_Tally_take_over:R7 K t.C_Tally "take_over" t.f_Tally_take_over
 F_Tally_sweep:FB K "sweep" "Tally.sweep" W8 t.f_Tally_sweep t.d_Tally_sweep ["self"]
 M_Tally_sweep:R7 K t.C_Tally "sweep" t.f_Tally_sweep
 F_Tally_amounts:FB K "amounts" "Tally.amounts" a3b t.f_Tally_amounts t.d_Tally_amounts ["self"]
 M_Tally_amounts:R7 K t.C_Tally "amounts" t.f_Tally_amounts
 F_answer_to_end:FB K "answer_to_end" "answer_to_end" T6 t.f_answer_to_end t.d_answer_to_end ["tally","number"]
 m_answer_to_end:mg "answer_to_end"=some (.ref t.f_answer_to_end)
 F_answer_under_way:FB K "answer_under_way" "answer_under_way" N6 t.f_answer_under_way t.d_answer_under_way ["tally","deed"]
 m_answer_under_way:mg "answer_under_way"=some (.ref t.f_answer_under_way)
 F_answer_to:FB K "answer_to" "answer_to" a3c t.f_answer_to t.d_answer_to ["tally","deed"]
 m_answer_to:mg "answer_to"=some (.ref t.f_answer_to)
 F_answers_at:FB K "answers_at" "answers_at" Z8 t.f_answers_at t.d_answers_at ["tally","deeds"]
 m_answers_at:mg "answers_at"=some (.ref t.f_answers_at)
 F_answers:FB K "answers" "answers" a5i t.f_answers t.d_answers ["deeds"]
 m_answers:mg "answers"=some (.ref t.f_answers)
 F__law_whole:FB K "_law_whole" "_law_whole" a8a t.f__law_whole t.d__law_whole ["_law_found"]
 m__law_whole:mg "_law_whole"=some (.ref t.f__law_whole)
 F__law_is_link:FB K "_law_is_link" "_law_is_link" U8 t.f__law_is_link t.d__law_is_link ["_law_found"]
 m__law_is_link:mg "_law_is_link"=some (.ref t.f__law_is_link)
 F__law_are_links:FB K "_law_are_links" "_law_are_links" Q7 t.f__law_are_links t.d__law_are_links ["_law_found"]
 m__law_are_links:mg "_law_are_links"=some (.ref t.f__law_are_links)
 F__law_closes:FB K "_law_closes" "_law_closes" X5 t.f__law_closes t.d__law_closes ["_law_found"]
 m__law_closes:mg "_law_closes"=some (.ref t.f__law_closes)
 F__law_ware:FB K "_law_ware" "_law_ware" a6c t.f__law_ware t.d__law_ware ["_law_spot","_law_place"]
 m__law_ware:mg "_law_ware"=some (.ref t.f__law_ware)
 F__law_deeds:FB K "_law_deeds" "_law_deeds" Z5 t.f__law_deeds t.d__law_deeds ["_law_cells"]
 m__law_deeds:mg "_law_deeds"=some (.ref t.f__law_deeds)
 F__law_ended:FB K "_law_ended" "_law_ended" a7a t.f__law_ended t.d__law_ended ["_law_found"]
 m__law_ended:mg "_law_ended"=some (.ref t.f__law_ended)
 F__law_walked:FB K "_law_walked" "_law_walked" W2 t.f__law_walked t.d__law_walked ["_law_asked","_law_told"]
 m__law_walked:mg "_law_walked"=some (.ref t.f__law_walked)
 F__law_true:FB K "_law_true" "_law_true" a9b t.f__law_true t.d__law_true ["_law_link","_law_one","_law_other"]
 m__law_true:mg "_law_true"=some (.ref t.f__law_true)
 F__law_same:FB K "_law_same" "_law_same" a1c t.f__law_same t.d__law_same ["_law_handed","_law_asked"]
 m__law_same:mg "_law_same"=some (.ref t.f__law_same)
 F__law_in_a_ring:FB K "_law_in_a_ring" "_law_in_a_ring" Q0 t.f__law_in_a_ring t.d__law_in_a_ring ["_law_seed"]
 m__law_in_a_ring:mg "_law_in_a_ring"=some (.ref t.f__law_in_a_ring)
 F__law_mixed:FB K "_law_mixed" "_law_mixed" Z6 t.f__law_mixed t.d__law_mixed ["_law_script"]
 m__law_mixed:mg "_law_mixed"=some (.ref t.f__law_mixed)
 F__law_linked:FB K "_law_linked" "_law_linked" X1 t.f__law_linked t.d__law_linked ["_law_one","_law_other"]
 m__law_linked:mg "_law_linked"=some (.ref t.f__law_linked)
 F__law_ringed:FB K "_law_ringed" "_law_ringed" V9 t.f__law_ringed t.d__law_ringed ["_law_records","_law_record"]
 m__law_ringed:mg "_law_ringed"=some (.ref t.f__law_ringed)
 F__law_ends_right:FB K "_law_ends_right" "_law_ends_right" P3 t.f__law_ends_right t.d__law_ends_right ["_law_asked","_law_told"]
 m__law_ends_right:mg "_law_ends_right"=some (.ref t.f__law_ends_right)
 F_law:FB K "law" "law" P9 t.f_law t.d_law ["_law_script"]
 m_law:mg "law"=some (.ref t.f_law)
 cl_Dealing:Cls K t.C_Dealing
 mg_Dealing:mg "Dealing"=some (.ref t.C_Dealing)
 n_Dealing_number:v5 K t.C_Dealing "number"
 n_Dealing_began:v5 K t.C_Dealing "began"
 n_Dealing_looked:v5 K t.C_Dealing "looked"
 n_Dealing_aside:v5 K t.C_Dealing "aside"
 cl_Tally:Cls K t.C_Tally
 mg_Tally:mg "Tally"=some (.ref t.C_Tally)
 n_Tally_begun:v5 K t.C_Tally "begun"
 n_Tally_under_way:v5 K t.C_Tally "under_way"
 n_Tally_versions:v5 K t.C_Tally "versions"
 n_Tally_records:v5 K t.C_Tally "records"
 n_Tally_links:v5 K t.C_Tally "links"
 n_Tally_row:v5 K t.C_Tally "row"
 m_bool:mg "bool"=none
 m_int:mg "int"=none
 m_isinstance:mg "isinstance"=none
 m_len:mg "len"=none
 m_list:mg "list"=none
 m_max:mg "max"=none
 m_min:mg "min"=none
 m_range:mg "range"=none
 m_reversed:mg "reversed"=none
 m_set:mg "set"=none
 m_sorted:mg "sorted"=none
 m_str:mg "str"=none
 m_sum:mg "sum"=none
 m_tuple:mg "tuple"=none
 m_NUMBER:mg "NUMBER"=some t.v_NUMBER
 r_NUMBER:RelV (.int 0) t.v_NUMBER
 m_BEGAN:mg "BEGAN"=some t.v_BEGAN
 r_BEGAN:RelV (.int 1) t.v_BEGAN
 m_ENDED:mg "ENDED"=some t.v_ENDED
 r_ENDED:RelV (.int 2) t.v_ENDED
 m_LOOKED:mg "LOOKED"=some t.v_LOOKED
 r_LOOKED:RelV (.int 3) t.v_LOOKED
 m_PUT:mg "PUT"=some t.v_PUT
 r_PUT:RelV (.int 4) t.v_PUT
 m_ONE:mg "ONE"=some t.v_ONE
 r_ONE:RelV (.int 0) t.v_ONE
 m_OTHER:mg "OTHER"=some t.v_OTHER
 r_OTHER:RelV (.int 1) t.v_OTHER
section
variable{P:Program}{w:World}{K:PySem.W.Frag}{mg:Str→Option Value}{base:Heap}{t:A5}
theorem a2f(xs:List V)(k:Nat):R5 xs (some (k:Int)) none=xs.drop k:=by
 unfold R5
 rw[HT.a5G,HT.a5x]
 rcases Nat.le_total k xs.length with h | h
 ·rw[Nat.min_eq_left h,List.take_of_length_le (by rw[List.length_drop];omega)]
 ·rw[Nat.min_eq_right h,Nat.sub_self,List.take_zero,List.drop_eq_nil_of_le h]
theorem a9s(xs:List V)(k:Nat):R5 xs none (some (k:Int))=xs.take k:=by
 unfold R5
 rw[HT.a5G,HT.a5x,List.drop_zero,Nat.sub_zero]
 rcases Nat.le_total k xs.length with h | h
 ·rw[Nat.min_eq_left h]
 ·rw[Nat.min_eq_right h,List.take_of_length_le (Nat.le_refl _),List.take_of_length_le h]
theorem b1g{α:Type}{xs:List α}{v:α}(h:xs[xs.length-1]?=some v):C6 xs (-1)=some v:=by
 have hl:xs.length-1<xs.length:=(List.getElem?_eq_some_iff.mp h).1
 unfold C6 ixN
 rw[if_neg (by decide),if_pos (by omega)]
 show xs[((-1:Int)+(xs.length:Int)).toNat]?=some v
 rw[show((-1:Int)+(xs.length:Int)).toNat=xs.length-1 by omega]
 exact h
theorem a2h{n:Nat}(h:0<n)(c:Int):∃j:Nat,j<n∧c % (n:Int)=(j:Int):=by
 have h0:=Int.emod_nonneg c (show(n:Int)≠0 by omega)
 have h1:=Int.emod_lt_of_pos c (show(0:Int)<n by omega)
 exact⟨(c % n).toNat,by omega,by omega⟩
theorem b7p:IntMulOk (10 ^ (50:Int).toNat) (10 ^ (50:Int).toNat):=by unfold IntMulOk;decide +kernel
theorem a8q:∀{ns:List Int} {n:Int},n∈ns→∃j:Nat,ns[j]?=some n∧∀i,i<j→ns[i]?≠some n
 | m::ns,n,h=>by
  by_cases e:m=n
  ·exact⟨0,by simp[e],fun i hi=>by omega⟩
  ·rcases List.mem_cons.mp h with h | h
   ·exact absurd h.symm e
   ·obtain⟨j,h1,h2⟩:=a8q h
    refine⟨j+1,by simpa using h1,fun i hi=>?_⟩
    cases i with
    | zero=>simp[e]
    | succ i=>simpa using h2 i (by omega)
def pd(p:Int×Int):PyData:=.tuple [.int p.1,.int p.2]
def Ver(K:PySem.W.Frag)(H:Hp)(a:Addr)(ps:List (Int×Int)):Prop:=∃xs,d9 K H a xs∧m7 K H (ps.map pd) xs
theorem a6X{K:PySem.W.Frag}{H:Hp}{ps:List (Int×Int)}{xs:List V}{i:Nat}{x:V}(r:m7 K H (ps.map pd) xs)(e:xs[i]?=some x):∃p b,ps[i]?=some p∧x=.ref b∧f7 K H b [.int p.1,.int p.2]:=by
 obtain⟨d,h1,h2⟩:=r.at' e
 rw[List.getElem?_map]at h1
 cases hp:ps[i]? with
 | none=>rw[hp]at h1;cases h1
 | some p=>
  rw[hp]at h1
  cases h1
  unfold pd Rep at h2
  obtain⟨b,ys,rfl,hq,rs⟩:=h2
  simp only[m7,Rep]at rs
  obtain⟨y1,z1,rfl,rfl,y2,z2,rfl,rfl,rfl⟩:=rs
  exact⟨p,b,rfl,rfl,hq⟩
theorem b0j{K:PySem.W.Frag}{H:Hp}{ps:List (Int×Int)}{xs:List V}{i:Nat}{p:Int×Int}(r:m7 K H (ps.map pd) xs)(e:ps[i]?=some p):∃b,xs[i]?=some (.ref b)∧f7 K H b [.int p.1,.int p.2]:=by
 obtain⟨x,h1,h2⟩:=r.at (i:=i) (d:=pd p) (by rw[List.getElem?_map,e];rfl)
 obtain⟨p',b,h3,h4,h5⟩:=a6X r h1
 rw[e]at h3
 cases h3
 subst h4
 exact⟨b,h1,h5⟩
theorem b4i{K:PySem.W.Frag}{H:Hp}{ps:List (Int×Int)}{xs:List V}(r:m7 K H (ps.map pd) xs):xs.length=ps.length:=by
 have:=r.len;rw[List.length_map]at this;exact this.symm
theorem b5o{K:PySem.W.Frag}{H:Hp}{b:Addr}{p:Int×Int}(h:f7 K H b [.int p.1,.int p.2]):Rep K H (pd p) (.ref b):=by
 unfold pd;simp only[Rep,m7]
 exact⟨b,_,rfl,h,_,_,rfl,rfl,_,_,rfl,rfl,rfl⟩
theorem b6c:∀ps:List (Int×Int),PyData.depthAll (ps.map pd)≤1
 | []=>by rw[List.map_nil,PyData.depthAll];omega
 | p::r=>by rw[List.map_cons,PyData.depthAll];have:=b6c r;simp[pd,PyData.depth,PyData.depthAll];omega
def cnt(ps:List (Int×Int))(m:Int):Nat:=(ps.filter fun p=>decide (p.1≤m)).length
theorem a1H{ps:List (Int×Int)}{i:Nat}{p:Int×Int}{m:Int}(h:ps[i]?=some p):cnt (ps.take (i+1)) m=cnt (ps.take i) m+if p.1≤m then 1 else 0:=by
 unfold cnt
 rw[PySem.take_succ_filter _ _ i p h,List.length_append]
 by_cases c:p.1≤m<;>simp[c]
theorem a2W(ps:List (Int×Int))(m:Int):cnt ps m≤ps.length:=List.length_filter_le _ _
theorem small{n:Nat}(h:n≤1000):n≤sizeLine:=Nat.le_of_lt (L0 h)
structure Rec where
 num:Int
 beg:Int
 fin:Int
 looked:List Str
 put:List Str
def rd(r:Rec):PyData:=.tuple [.int r.num,.int r.beg,.int r.fin,.list (r.looked.map PyData.str),.list (r.put.map PyData.str)]
theorem R3{K:PySem.W.Frag}{H:Hp}:∀{ks:List Str} {xs:List V},m7 K H (ks.map PyData.str) xs↔xs=ks.map V.str
 | [],xs=>by simp[m7]
 | k::ks,xs=>by
  simp only[List.map_cons,m7,Rep]
  constructor
  ·rintro⟨y,ys,rfl,rfl,h⟩;rw[R3.mp h]
  ·rintro rfl;exact⟨_,_,rfl,rfl,R3.mpr rfl⟩
def RecAt(K:PySem.W.Frag)(H:Hp)(r:Rec)(x:V):Prop:=∃b la pa,x=.ref b∧f7 K H b [.int r.num,.int r.beg,.int r.fin,.ref la,.ref pa]∧d9 K H la (r.looked.map V.str)∧d9 K H pa (r.put.map V.str)
theorem a3d{K:PySem.W.Frag}{H:Hp}{r:Rec}{x:V}:Rep K H (rd r) x↔RecAt K H r x:=by
 unfold rd RecAt
 simp only[Rep,m7]
 constructor
 ·rintro⟨b,xs,rfl,hq,y1,z1,rfl,rfl,y2,z2,rfl,rfl,y3,z3,rfl,rfl,y4,z4,rfl,⟨la,us,rfl,hl,rl⟩,y5,z5,rfl,⟨pa,ws,rfl,hp,rp⟩,rfl⟩
  rw[R3.mp rl]at hl
  rw[R3.mp rp]at hp
  exact⟨b,la,pa,rfl,hq,hl,hp⟩
 ·rintro⟨b,la,pa,rfl,hq,hl,hp⟩
  exact⟨b,_,rfl,hq,_,_,rfl,rfl,_,_,rfl,rfl,_,_,rfl,rfl,_,_,rfl,⟨la,_,rfl,hl,R3.mpr rfl⟩,_,_,rfl,⟨pa,_,rfl,hp,R3.mpr rfl⟩,rfl⟩
theorem b5i{K:PySem.W.Frag}{H:Hp}{rs:List Rec}{xs:List V}{i:Nat}{x:V}(h:m7 K H (rs.map rd) xs)(e:xs[i]?=some x):∃r,rs[i]?=some r∧RecAt K H r x:=by
 obtain⟨d,h1,h2⟩:=h.at' e
 rw[List.getElem?_map]at h1
 cases hr:rs[i]? with
 | none=>rw[hr]at h1;cases h1
 | some r=>rw[hr]at h1;cases h1;exact⟨r,rfl,a3d.mp h2⟩
theorem RecAt.same{K:PySem.W.Frag}{H H':Hp}{r:Rec}{x:V}(s:h7 H H')(h:RecAt K H r x):RecAt K H' r x:=a3d.mp ((a3d.mpr h).same s)
abbrev Lk:=Int×Int×Str×Str
def ld(l:Lk):PyData:=.tuple [.int l.1,.int l.2.1,.str l.2.2.1,.str l.2.2.2]
def a3i(H:Hp)(l:Lk)(x:V):Prop:=∃a,x=.ref a∧H a=some (.tup [.int l.1,.int l.2.1,.str l.2.2.1,.str l.2.2.2])
def u3(H:Hp)(ls:List Lk)(xs:List V):Prop:=Paired (a3i H) ls xs
theorem u3.tupK{H H':Hp}(k:r9 H H'):∀{ls:List Lk} {xs:List V},u3 H ls xs→u3 H' ls xs
 | _,_,.nil=>.nil
 | _,_,.cons ⟨a,e,h⟩ t=>.cons ⟨a,e,k.1 _ _ h⟩ (u3.tupK k t)
theorem u3.append{H:Hp}{ms:List Lk}{ys:List V}(h:u3 H ms ys):∀{ls:List Lk} {xs:List V},u3 H ls xs→u3 H (ls++ms) (xs++ys)
 | _,_,.nil=>h
 | _,_,.cons r t=>.cons r (u3.append h t)
theorem u3.snoc{H:Hp}{l:Lk}{x:V}{ls:List Lk}{xs:List V}(t:u3 H ls xs)(h:a3i H l x):u3 H (ls++[l]) (xs++[x]):=u3.append (.cons h .nil) t
theorem u3.len{H:Hp}{ls:List Lk}{xs:List V}(h:u3 H ls xs):xs.length=ls.length:=by
 induction h with
 | nil=>rfl
 | cons _ _ ih=>simp[ih]
theorem u3.reps{K:PySem.W.Frag}{H:Hp}:∀{ls:List Lk} {xs:List V},u3 H ls xs→m7 K H (ls.map ld) xs
 | _,_,.nil=>rfl
 | _,_,.cons ⟨a,e,h⟩ t=>by
  rw[List.map_cons]
  unfold m7
  refine⟨_,_,rfl,?_,u3.reps t⟩
  unfold ld
  simp only[Rep,m7]
  exact⟨a,_,e,f7.of h,_,_,rfl,rfl,_,_,rfl,rfl,_,_,rfl,rfl,_,_,rfl,rfl,rfl⟩
def part(n m:Int)(why:Str)(gs:List Str):List Lk:=gs.map fun x=>(n,m,x,why)
theorem a3q{n m:Int}{why:Str}{gs:List Str}{l:Lk}:l∈part n m why gs↔l.1=n∧l.2.1=m∧l.2.2.2=why∧l.2.2.1∈gs:=by
 unfold part
 rw[List.mem_map]
 constructor
 ·rintro⟨x,hx,rfl⟩;exact⟨rfl,rfl,rfl,hx⟩
 ·rintro⟨rfl,rfl,rfl,h⟩;exact⟨_,h,rfl⟩
def V5(c:Prop)(as bs gs:List Str):Prop:=gs.Nodup∧∀x,x∈gs↔c∧x∈as∧x∈bs
structure LB(one other:Rec)(ls:List Lk):Prop where
 parts:∃g1 g2 g3,ls=part one.num other.num "over" g1++part one.num other.num "saw" g2++part one.num other.num "missed" g3 ∧
  V5 (one.fin<other.fin) one.put other.put g1∧V5 (one.fin≤other.beg) one.put other.looked g2∧V5 (one.beg<other.fin) one.looked other.put g3
def a4f(one other:Rec)(l:Lk):Prop:=l.1=one.num∧l.2.1=other.num ∧
 ((l.2.2.2="over"∧one.fin<other.fin∧l.2.2.1∈one.put∧l.2.2.1∈other.put)∨(l.2.2.2="saw"∧one.fin≤other.beg∧l.2.2.1∈one.put∧l.2.2.1∈other.looked)∨(l.2.2.2="missed"∧one.beg<other.fin∧l.2.2.1∈one.looked∧l.2.2.1∈other.put))
theorem LB.mem{one other:Rec}{ls:List Lk}(h:LB one other ls)(l:Lk):l∈ls↔a4f one other l:=by
 obtain⟨g1,g2,g3,rfl,⟨_,m1⟩,⟨_,m2⟩,⟨_,m3⟩⟩:=h.parts
 rw[List.mem_append,List.mem_append,a3q,a3q,a3q,m1,m2,m3]
 unfold a4f
 constructor
 ·rintro((⟨a,b,c,d⟩ | ⟨a,b,c,d⟩) | ⟨a,b,c,d⟩)
  ·exact⟨a,b,.inl ⟨c,d⟩⟩
  ·exact⟨a,b,.inr (.inl ⟨c,d⟩)⟩
  ·exact⟨a,b,.inr (.inr ⟨c,d⟩)⟩
 ·rintro⟨a,b,⟨c,d⟩ | ⟨c,d⟩ | ⟨c,d⟩⟩
  ·exact .inl (.inl ⟨a,b,c,d⟩)
  ·exact .inl (.inr ⟨a,b,c,d⟩)
  ·exact .inr ⟨a,b,c,d⟩
theorem LB.len{one other:Rec}{ls:List Lk}(h:LB one other ls):ls.length≤one.put.length+one.put.length+one.looked.length:=by
 obtain⟨g1,g2,g3,rfl,⟨n1,m1⟩,⟨n2,m2⟩,⟨n3,m3⟩⟩:=h.parts
 have l1:=v9 n1 fun x hx=>((m1 x).mp hx).2.1
 have l2:=v9 n2 fun x hx=>((m2 x).mp hx).2.1
 have l3:=v9 n3 fun x hx=>((m3 x).mp hx).2.1
 simp only[List.length_append,part,List.length_map]
 omega
theorem a4d{α β:Type}{F:α→β→Prop}:∀{l:List α} {m:List β} {i:Nat} {a:α},Paired F l m→l[i]?=some a→∃b,m[i]?=some b∧F a b
 | _,_,i,a,.nil,e=>by simp at e
 | _,_,0,a,.cons r t,e=>by simp at e;subst e;exact⟨_,rfl,r⟩
 | _,_,i+1,a,.cons r t,e=>by
  obtain⟨b,h1,h2⟩:=a4d t (by simpa using e)
  exact⟨b,by simpa using h1,h2⟩
theorem A4{α β:Type}{F:α→β→Prop}:∀{l:List α} {m:List β} {i:Nat} {b:β},Paired F l m→m[i]?=some b→∃a,l[i]?=some a∧F a b
 | _,_,i,a,.nil,e=>by simp at e
 | _,_,0,a,.cons r t,e=>by simp at e;subst e;exact⟨_,rfl,r⟩
 | _,_,i+1,a,.cons r t,e=>by
  obtain⟨b,h1,h2⟩:=A4 t (by simpa using e)
  exact⟨b,by simpa using h1,h2⟩
theorem r6{α β:Type}{F:α→β→Prop}{l:List α}{m:List β}(h:Paired F l m):m.length=l.length:=(Paired.length h).symm
abbrev Am:=List (Str×Int)
def M5(m:Am):List (Key×V):=m.map fun p=>(Sum.inr p.1,V.int p.2)
def a9a(m:Am)(g:Str):Option Int:=(m.find? fun p=>decide (p.1=g)).map (·.2)
def P1(m:Am)(g:Str)(a:Int):Am:=if (m.any fun p=>decide (p.1=g))=true then m.map (fun p=>if p.1=g then(p.1,a) else p) else m++[(g,a)]
theorem a3l(g k:Str):decide ((Sum.inr g:Key)=Sum.inr k)=decide (g=k):=by
 by_cases e:g=k
 ·subst e;simp
 ·rw[decide_eq_false e,decide_eq_false fun z=>e (Sum.inr.inj z)]
theorem b1j(m:Am)(g:Str):B6 (M5 m) (Sum.inr g)=(a9a m g).map V.int:=by
 unfold B6 M5 a9a
 induction m with
 | nil=>rfl
 | cons p m ih=>
  rw[List.map_cons,List.find?_cons,List.find?_cons,a3l]
  by_cases e:p.1=g
  ·rw[decide_eq_true e];rfl
  ·rw[decide_eq_false e];exact ih
theorem b5j(m:Am)(g:Str)(a:Int):putK (M5 m) (Sum.inr g) (V.int a)=M5 (P1 m g a):=by
 unfold putK P1
 have e:(M5 m).any (fun kv=>decide (kv.1=(Sum.inr g:Key)))=m.any fun p=>decide (p.1=g):=by
  unfold M5
  rw[List.any_map]
  congr 1;funext p;exact a3l p.1 g
 rw[e]
 split
 ·unfold M5
  rw[List.map_map,List.map_map]
  refine List.map_congr_left fun p _=>?_
  show(if (Sum.inr p.1:Key)=Sum.inr g then _ else _)=_
  by_cases z:p.1=g
  ·rw[if_pos (by rw[z])];simp only[Function.comp,if_pos z]
  ·rw[if_neg fun w=>z (Sum.inr.inj w)];simp only[Function.comp,if_neg z]
 ·unfold M5
  rw[List.map_append];rfl
theorem b3d(m:Am)(g:Str)(a:Int):(P1 m g a).length≤m.length+1:=by
 unfold P1;split<;>simp
theorem a2U(m:Am)(g:Str)(a:Int):(P1 m g a).map (·.1)=if (m.any fun p=>decide (p.1=g))=true then m.map (·.1) else m.map (·.1)++[g]:=by
 unfold P1;split
 ·rw[List.map_map]
  refine List.map_congr_left fun p _=>?_
  by_cases z:p.1=g
  ·simp only[Function.comp,if_pos z]
  ·simp only[Function.comp,if_neg z]
 ·rw[List.map_append];rfl
def V7(m:Addr)(H H':Hp):Prop:=∀b o,b≠m→H b=some o→H' b=some o
theorem V7.refl(m:Addr)(H:Hp):V7 m H H:=fun _ _ _ h=>h
theorem V7.trans{m:Addr}{H H1 H2:Hp}(a:V7 m H H1)(b:V7 m H1 H2):V7 m H H2:=fun c o n h=>b c o n (a c o n h)
theorem V7.same{m:Addr}{H H1 H2:Hp}(a:V7 m H H1)(b:h7 H1 H2):V7 m H H2:=fun c o n h=>b c o (a c o n h)
theorem V7.upd{m:Addr}{H H1:Hp}{o:HO}(a:V7 m H H1):V7 m H (upd H1 m o):=fun c u n h=>by rw[b8 n];exact a c u n h
def j5(ks:List Int)(g:Int→V):List (Key×V):=ks.map fun n=>(Sum.inl n,g n)
theorem a1G(n m:Int):decide ((Sum.inl n:Key)=Sum.inl m)=decide (n=m):=by
 by_cases e:n=m
 ·subst e;simp
 ·rw[decide_eq_false e,decide_eq_false fun z=>e (Sum.inl.inj z)]
theorem m9{ks:List Int}{g:Int→V}{n:Int}:B6 (j5 ks g) (Sum.inl n)=if n∈ks then some (g n) else none:=by
 unfold B6 j5
 induction ks with
 | nil=>rfl
 | cons k ks ih=>
  rw[List.map_cons,List.find?_cons,a1G]
  by_cases e:k=n
  ·subst e;simp
  ·rw[decide_eq_false e]
   have:(n∈k::ks)↔n∈ks:=by
    rw[List.mem_cons];exact⟨fun z=>z.elim (fun w=>absurd w.symm e) id,.inr⟩
   simp only[this];exact ih
theorem Q5{ks:List Int}{g g':Int→V}(h:∀n∈ks,g n=g' n):j5 ks g=j5 ks g':=by
 unfold j5;exact List.map_congr_left fun n hn=>by rw[h n hn]
def W4(g:Int→V)(n:Int)(v:V):Int→V:=fun m=>if m=n then v else g m
theorem a2b{g:Int→V}{n:Int}{v:V}:W4 g n v n=v:=if_pos rfl
theorem a6l{g:Int→V}{n m:Int}{v:V}(h:m≠n):W4 g n v m=g m:=if_neg h
theorem J3{ks:List Int}{g:Int→V}{n:Int}{v:V}:putK (j5 ks g) (Sum.inl n) v=j5 (if n∈ks then ks else ks++[n]) (W4 g n v):=by
 unfold putK
 have e:(j5 ks g).any (fun kv=>decide (kv.1=(Sum.inl n:Key)))=decide (n∈ks):=by
  unfold j5
  rw[List.any_map]
  induction ks with
  | nil=>rfl
  | cons k ks ih=>
   rw[List.any_cons,ih]
   show(decide ((Sum.inl k:Key)=Sum.inl n)||_)=_
   rw[a1G]
   by_cases z:k=n
   ·subst z;simp
   ·have z':¬n=k:=fun w=>z w.symm
    simp[z,z']
 rw[e]
 by_cases hn:n∈ks
 ·rw[if_pos (by simpa using hn),if_pos hn]
  unfold j5
  rw[List.map_map]
  refine List.map_congr_left fun m _=>?_
  show(if (Sum.inl m:Key)=Sum.inl n then _ else _)=_
  by_cases z:m=n
  ·rw[if_pos (by rw[z]),z,a2b]
  ·rw[if_neg fun w=>z (Sum.inl.inj w),a6l z]
 ·rw[if_neg (by simpa using hn),if_neg hn]
  unfold j5
  rw[List.map_append]
  congr 1
  ·exact List.map_congr_left fun m hm=>by rw[a6l fun z:m=n=>hn (by rw[←z];exact hm)]
  ·show [(Sum.inl n,v)]=[(Sum.inl n,W4 g n v n)]
   rw[a2b]
theorem F7(ks:List Int)(g:Int→V):(j5 ks g).length=ks.length:=List.length_map _
def W9(ls:List Lk)(row:List Int)(n:Int):Nat:=ls.countP fun l=>decide (l.2.1=n)&&decide (l.1∉row)
def E1(fs:List Lk)(n:Int):Nat:=fs.countP fun l=>decide (l.2.1=n)
theorem a5f{row:List Int}{m:Int}(hm:m∉row)(n:Int):∀ls:List Lk,W9 ls row n=W9 ls (row++[m]) n+E1 (ls.filter fun l=>decide (l.1=m)) n
 | []=>rfl
 | l::ls=>by
  have ih:=a5f hm n ls
  unfold W9 E1 at ih ⊢
  rw[List.countP_cons,List.countP_cons,ih]
  by_cases e:l.1=m
  ·rw[List.filter_cons_of_pos (by simpa using e),List.countP_cons]
   have h1:decide (l.1∉row)=true:=decide_eq_true (by rw[e];exact hm)
   have h2:decide (l.1∉row++[m])=false:=decide_eq_false fun z=>z (by rw[e];simp)
   rw[h1,h2,Bool.and_true,Bool.and_false]
   have h3:(if (false:Bool)=true then 1 else 0)=0:=rfl
   rw[h3]
   omega
  ·rw[List.filter_cons_of_neg (by simpa using e)]
   have h1:decide (l.1∉row++[m])=decide (l.1∉row):=by
    by_cases z:l.1∈row
    ·rw[decide_eq_false fun w=>w (List.mem_append_left _ z),decide_eq_false fun w=>w z]
    ·rw[decide_eq_true z,decide_eq_true]
     intro w
     rcases List.mem_append.mp w with w | w
     ·exact z w
     ·exact e (List.mem_singleton.mp w)
   rw[h1]
   omega
theorem a3s{fs:List Lk}{j:Nat}{l:Lk}(h:fs[j]?=some l)(n:Int):E1 (fs.take (j+1)) n=E1 (fs.take j) n+if l.2.1=n then 1 else 0:=by
 unfold E1
 rw[List.take_add_one,h,Option.toList_some,List.countP_append,List.countP_singleton]
 by_cases e:l.2.1=n
 ·simp[e]
 ·simp[e]
theorem b7f(fs:List Lk)(j:Nat)(n:Int):E1 (fs.take j) n≤E1 fs n:=(List.take_sublist j fs).countP_le
theorem a1X{ls:List Lk}{row:List Int}{n:Int}(h:W9 ls row n=0){l:Lk}(hl:l∈ls)(e:l.2.1=n):l.1∈row:=by
 unfold W9 at h
 rw[List.countP_eq_zero]at h
 have:=h l hl
 simp[e]at this
 exact this
theorem b2d{ls:List Lk}{row:List Int}{n:Int}(h:W9 ls row n≠0):∃l∈ls,l.2.1=n∧l.1∉row:=by
 unfold W9 at h
 obtain⟨l,hl,e⟩:=List.countP_pos_iff.mp (Nat.pos_of_ne_zero h)
 simp at e
 exact⟨l,hl,e.1,e.2⟩
def ahead(row:List Int)(x y:Int):Prop:=∃i j:Nat,i<j∧row[i]?=some x∧row[j]?=some y
theorem a1Q{row:List Int}{x y:Int}(h:ahead row x y)(r:List Int):ahead (row++r) x y:=by
 obtain⟨i,j,a,b,c⟩:=h
 have hi:=(List.getElem?_eq_some_iff.mp b).1
 have hj:=(List.getElem?_eq_some_iff.mp c).1
 exact⟨i,j,a,by rw[List.getElem?_append_left hi];exact b,by rw[List.getElem?_append_left hj];exact c⟩
theorem a4Q{row:List Int}{x y:Int}(h:x∈row):ahead (row++[y]) x y:=by
 obtain⟨i,hi⟩:=List.mem_iff_getElem?.mp h
 have lt:=(List.getElem?_eq_some_iff.mp hi).1
 exact⟨i,row.length,lt,by rw[List.getElem?_append_left lt];exact hi,by simp⟩
structure RI(ns:List Int)(ls:List Lk)(row ready:List Int)(f:Int→Int):Prop where
 nd:(row++ready).Nodup
 sub:∀n∈row++ready,n∈ns
 cl:∀l∈ls,l.2.1∈row→ahead row l.1 l.2.1
 fv:∀n∈ns,f n=(W9 ls row n:Int)
 z:∀n∈ns,n∈row++ready↔f n=0
structure RJ(ns:List Int)(ls:List Lk)(row:List Int)(m:Int)(ready:List Int)(f:Int→Int)(j:Nat):Prop where
 nm:m∉row
 nd:(row++[m]++ready).Nodup
 sub:∀n∈row++[m]++ready,n∈ns
 cl:∀l∈ls,l.2.1∈row++[m]→ahead (row++[m]) l.1 l.2.1
 fv:∀n∈ns,f n+(E1 ((ls.filter fun l=>decide (l.1=m)).take j) n:Int)=(W9 ls row n:Int)
 z:∀n∈ns,n∈row++[m]++ready↔f n=0
theorem RI.start{ns:List Int}{ls:List Lk}{f:Int→Int}(hn:ns.Nodup)(hf:∀n∈ns,f n=(E1 ls n:Int)):RI ns ls [] (ns.filter fun n=>decide (f n=0)) f:=by
 refine⟨by rw[List.nil_append];exact hn.filter _,fun n h=>by rw[List.nil_append]at h;exact(List.mem_filter.mp h).1,fun l _ h=>by simp at h,fun n h=>?_,fun n h=>?_⟩
 ·rw[hf n h];unfold W9 E1;simp
 ·rw[List.nil_append,List.mem_filter];simp[h]
theorem RI.pop{ns:List Int}{ls:List Lk}{row ready:List Int}{f:Int→Int}{m:Int}(h:RI ns ls row (ready++[m]) f):RJ ns ls row m ready f 0:=by
 have p:(row++(ready++[m])).Perm (row++[m]++ready):=by
  rw[List.append_assoc]
  exact(List.perm_append_comm).append_left row
 have nd:=p.nodup_iff.mp h.nd
 have nm:m∉row:=fun z=>by
  have:=(List.nodup_append.mp (List.nodup_append.mp nd).1).2.2 m z m (by simp)
  exact this rfl
 have zm:f m=0:=(h.z m (h.sub m (by simp))).mp (by simp)
 have cm:W9 ls row m=0:=by have:=h.fv m (h.sub m (by simp));omega
 refine⟨nm,nd,fun n hn=>h.sub n (p.mem_iff.mpr hn),fun l hl e=>?_,fun n hn=>by rw[h.fv n hn];simp[E1],fun n hn=>by rw[←h.z n hn];exact p.mem_iff.symm⟩
 rcases List.mem_append.mp e with e | e
 ·exact a1Q (h.cl l hl e) _
 ·have e:=List.mem_singleton.mp e
  rw[e]
  exact a4Q (a1X cm hl e)
theorem RJ.done{ns:List Int}{ls:List Lk}{row ready:List Int}{f:Int→Int}{m:Int}{j:Nat}(h:RJ ns ls row m ready f j)(hj:(ls.filter fun l=>decide (l.1=m)).length≤j):RI ns ls (row++[m]) ready f:=by
 refine⟨h.nd,h.sub,h.cl,fun n hn=>?_,h.z⟩
 have a:=h.fv n hn
 rw[List.take_of_length_le hj]at a
 have b:=a5f h.nm n ls
 omega
def a1h(f:Int→Int)(n:Int)(v:Int):Int→Int:=fun m=>if m=n then v else f m
theorem RJ.step{ns:List Int}{ls:List Lk}{row ready:List Int}{f:Int→Int}{m:Int}{j:Nat}{l:Lk}(h:RJ ns ls row m ready f j)(hl:(ls.filter fun l=>decide (l.1=m))[j]?=some l)(hin:l.2.1∈ns) :
  RJ ns ls row m (if f l.2.1-1=0 then ready++[l.2.1] else ready) (a1h f l.2.1 (f l.2.1-1)) (j+1):=by
 have a:=h.fv _ hin
 have b:=a5f h.nm l.2.1 ls
 have c:=a3s hl l.2.1
 rw[if_pos rfl]at c
 have d:=b7f (ls.filter fun l=>decide (l.1=m)) (j+1) l.2.1
 have fp:f l.2.1≠0:=by omega
 have nin:l.2.1∉row++[m]++ready:=fun z=>fp ((h.z _ hin).mp z)
 have ff:∀n∈ns,a1h f l.2.1 (f l.2.1-1) n+(E1 ((ls.filter fun l=>decide (l.1=m)).take (j+1)) n:Int)=(W9 ls row n:Int):=fun n hn=>by
  have a:=h.fv n hn
  have c:=a3s hl n
  unfold a1h
  by_cases e:n=l.2.1
  ·subst e;rw[if_pos rfl];rw[if_pos rfl]at c;omega
  ·rw[if_neg e];rw[if_neg fun z=>e z.symm]at c;omega
 by_cases e:f l.2.1-1=0
 ·rw[if_pos e]
  refine⟨h.nm,?_,fun n hn=>?_,h.cl,ff,fun n hn=>?_⟩
  ·rw[←List.append_assoc,List.nodup_append]
   refine⟨h.nd,by simp,fun x hx y hy=>?_⟩
   rw[List.mem_singleton.mp hy]
   rintro rfl
   exact nin hx
  ·rw[←List.append_assoc]at hn
   rcases List.mem_append.mp hn with hn | hn
   ·exact h.sub n hn
   ·rw[List.mem_singleton.mp hn];exact hin
  ·rw[←List.append_assoc,List.mem_append,List.mem_singleton]
   unfold a1h
   by_cases en:n=l.2.1
   ·subst en;rw[if_pos rfl];exact⟨fun _=>e,fun _=>.inr rfl⟩
   ·rw[if_neg en,←h.z n hn];exact⟨fun w=>w.elim id fun w=>absurd w en,.inl⟩
 ·rw[if_neg e]
  refine⟨h.nm,h.nd,h.sub,h.cl,ff,fun n hn=>?_⟩
  unfold a1h
  by_cases en:n=l.2.1
  ·subst en;rw[if_pos rfl];exact⟨fun w=>absurd w nin,fun w=>absurd w e⟩
  ·rw[if_neg en];exact h.z n hn
structure a7T(ns:List Int)(ls:List Lk)(row:List Int):Prop where
 nd:row.Nodup
 sub:∀n∈row,n∈ns
 cl:∀l∈ls,l.2.1∈row→ahead row l.1 l.2.1
 out:∀n∈ns,n∉row→∃l∈ls,l.2.1=n∧l.1∉row
theorem RI.row{ns:List Int}{ls:List Lk}{row:List Int}{f:Int→Int}(h:RI ns ls row [] f):a7T ns ls row:=by
 refine⟨by simpa using h.nd,fun n hn=>h.sub n (by simpa using hn),h.cl,fun n hn ho=>?_⟩
 refine b2d fun z=>ho ?_
 have:=(h.z n hn).mpr (by rw[h.fv n hn,z];rfl)
 simpa using this
theorem RJ.len{ns:List Int}{ls:List Lk}{row ready:List Int}{f:Int→Int}{m:Int}{j:Nat}(h:RJ ns ls row m ready f j):row.length+1+ready.length≤ns.length:=by
 have:=v9 h.nd h.sub
 simp only[List.length_append,List.length_singleton]at this;omega
structure a2j(ns:List Int)(ls:List Lk)(row:List Int):Prop where
 perm:row.Perm ns
 nd:row.Nodup
 keeps:∀l∈ls,ahead row l.1 l.2.1
theorem a7T.all{ns:List Int}{ls:List Lk}{row:List Int}(h:a7T ns ls row)(hn:ns.Nodup)(hl:row.length=ns.length)(hin:∀l∈ls,l.2.1∈ns):a2j ns ls row:=by
 have all:∀n∈ns,n∈row:=fun n hns=>Classical.byContradiction fun z=>by
  have:=v9 (l:=n::row) (m:=ns) (List.nodup_cons.mpr ⟨z,h.nd⟩) fun x hx=>by
   rcases List.mem_cons.mp hx with e | e
   ·rw[e];exact hns
   ·exact h.sub x e
  rw[List.length_cons]at this;omega
 exact⟨a0u h.nd hn fun x=>⟨h.sub x,all x⟩,h.nd,fun l hl=>h.cl l hl (all _ (hin l hl))⟩
structure Ring(rg:List Lk):Prop where
 ne:rg≠[]
 nd:(rg.map (·.1)).Nodup
 next:∀(i:Nat) l,rg[i]?=some l→∃m,rg[if i=0 then rg.length-1 else i-1]?=some m∧l.1=m.2.1
structure Wk(L:List Lk)(W:List Lk)(n:Int):Prop where
 sub:∀l∈W,l∈L
 nd:(W.map fun l=>l.2.1).Nodup
 chain:∀(i:Nat) l m,W[i]?=some l→W[i+1]?=some m→m.2.1=l.1
 last:∀l,W[W.length-1]?=some l→n=l.1
 on:∃l∈L,l.2.1=n
theorem Wk.len{L W:List Lk}{n:Int}(h:Wk L W n):W.length≤L.length:=by
 have:=v9 (l:=W.map fun l=>l.2.1) (m:=L.map fun l=>l.2.1) h.nd fun x hx=>by
  obtain⟨l,hl,e⟩:=List.mem_map.mp hx
  exact List.mem_map.mpr ⟨l,h.sub l hl,e⟩
 simpa using this
theorem Wk.step{L W:List Lk}{n:Int}{l:Lk}(h:Wk L W n)(hn:n∉W.map fun l=>l.2.1)(hl:l∈L)(e:l.2.1=n)(ho:∃m∈L,m.2.1=l.1):Wk L (W++[l]) l.1:=by
 refine⟨fun m hm=>?_,?_,fun i a b ha hb=>?_,fun m hm=>?_,ho⟩
 ·rcases List.mem_append.mp hm with hm | hm
  ·exact h.sub m hm
  ·rw[List.mem_singleton.mp hm];exact hl
 ·rw[List.map_append,List.nodup_append]
  refine⟨h.nd,by simp,fun x hx y hy=>?_⟩
  have hy:y=l.2.1:=by simpa using hy
  rw[hy,e]
  rintro rfl
  exact hn hx
 ·have lt:=(List.getElem?_eq_some_iff.mp hb).1
  rw[List.length_append,List.length_singleton]at lt
  by_cases c:i+1<W.length
  ·rw[List.getElem?_append_left (by omega)]at ha
   rw[List.getElem?_append_left c]at hb
   exact h.chain i a b ha hb
  ·have ei:i+1=W.length:=by omega
   rw[List.getElem?_append_left (by omega)]at ha
   rw[List.getElem?_append_right (by omega),show i+1-W.length=0 by omega]at hb
   have hb:l=b:=by simpa using hb
   rw[←hb,e]
   exact h.last a (by rw[←ei];simpa using ha)
 ·rw[List.length_append,List.length_singleton,show W.length+1-1=W.length by omega,List.getElem?_append_right (Nat.le_refl _),Nat.sub_self]at hm
  have hm:l=m:=by simpa using hm
  rw[hm]
theorem b5d{l:List Int}(h:∀a b:Nat,a<b→b<l.length→l[a]?≠l[b]?):l.Nodup:=
 List.pairwise_iff_getElem.mpr fun i j hi hj hij e=>h i j hij hj (by rw[List.getElem?_eq_getElem hi,List.getElem?_eq_getElem hj,e])
theorem Wk.ring{L W:List Lk}{n:Int}{i:Nat}{l:Lk}(h:Wk L W n)(hi:W[i]?=some l)(e:l.2.1=n):Ring (W.drop i).reverse∧∀m∈(W.drop i).reverse,m∈L:=by
 have li:=(List.getElem?_eq_some_iff.mp hi).1
 have ld:(W.drop i).length=W.length-i:=List.length_drop
 have rat:∀j,j<W.length-i→(W.drop i).reverse[j]?=W[W.length-1-j]?:=fun j hj=>by
  rw[List.getElem?_reverse (by rw[ld];exact hj),List.getElem?_drop,ld]
  congr 1;omega
 refine⟨⟨fun z=>?_,?_,fun j m hm=>?_⟩,fun m hm=>h.sub m (List.mem_of_mem_drop (List.mem_reverse.mp hm))⟩
 ·have:=congrArg List.length z
  rw[List.length_reverse,ld]at this
  simp at this;omega
 ·
  rw[List.map_reverse,(List.reverse_perm _).nodup_iff]
  refine b5d fun a b hab hb=>?_
  rw[List.length_map,ld]at hb
  rw[List.getElem?_map,List.getElem?_map,List.getElem?_drop,List.getElem?_drop]
  have nx:∀k,i≤k→k<W.length→∃x y,W[k]?=some x∧W[if k+1=W.length then i else k+1]?=some y∧x.1=y.2.1:=fun k _ hk=>by
   refine⟨W[k],?_⟩
   by_cases c:k+1=W.length
   ·rw[if_pos c]
    refine⟨l,List.getElem?_eq_getElem hk,hi,?_⟩
    rw[e]
    exact(h.last _ (by rw[←c];simpa using List.getElem?_eq_getElem hk)).symm
   ·rw[if_neg c]
    have hk1:k+1<W.length:=by omega
    exact⟨W[k+1],List.getElem?_eq_getElem hk,List.getElem?_eq_getElem hk1,(h.chain k _ _ (List.getElem?_eq_getElem hk) (List.getElem?_eq_getElem hk1)).symm⟩
  obtain⟨x,y,h1,h2,h3⟩:=nx (i+a) (by omega) (by omega)
  obtain⟨x',y',h1',h2',h3'⟩:=nx (i+b) (by omega) (by omega)
  rw[h1,h1']
  intro z
  have z:x.1=x'.1:=by simpa using z
  rw[h3,h3']at z
  have inj:∀(p q:Nat) (u v:Lk),W[p]?=some u→W[q]?=some v→u.2.1=v.2.1→p=q:=fun p q u v hu hv huv=>by
   refine(List.getElem?_inj (l:=W.map fun l=>l.2.1) (by rw[List.length_map];exact(List.getElem?_eq_some_iff.mp hu).1) h.nd).mp ?_
   rw[List.getElem?_map,List.getElem?_map,hu,hv];simpa using huv
  have:=inj _ _ _ _ h2 h2' z
  split at this<;>split at this<;>omega
 ·have lj:=(List.getElem?_eq_some_iff.mp hm).1
  rw[List.length_reverse,ld]at lj
  rw[List.length_reverse,ld]
  rw[rat j lj]at hm
  by_cases c:j=0
  ·subst c
   rw[if_pos rfl,rat _ (by omega)]
   refine⟨l,?_,?_⟩
   ·rw[show W.length-1-(W.length-i-1)=i by omega];exact hi
   ·rw[e];exact(h.last m (by simpa using hm)).symm
  ·rw[if_neg c,rat _ (by omega)]
   have hk:W.length-1-(j-1)<W.length:=by omega
   refine⟨W[W.length-1-(j-1)],List.getElem?_eq_getElem hk,?_⟩
   have e1:W.length-1-(j-1)=(W.length-1-j)+1:=by omega
   exact(h.chain (W.length-1-j) m _ hm (by rw[←e1];exact List.getElem?_eq_getElem hk)).symm
theorem n6{n:Nat}(h:n≤10000000):n<sizeLine:=by rw[sizeLine_eq];omega
def lat(pl:Nat)(l:Lk):Int:=if pl=0 then l.1 else l.2.1
def lkV(l:Lk):List V:=[.int l.1,.int l.2.1,.str l.2.2.1,.str l.2.2.2]
theorem b3n{pl:Nat}(h:pl≤1)(l:Lk):C6 (lkV l) (pl:Int)=some (.int (lat pl l)):=by
 rcases(show pl=0∨pl=1 by omega) with rfl | rfl
 ·exact j0 rfl
 ·exact j0 rfl
theorem u3.get{H:Hp}{ls:List Lk}{xs:List V}{i:Nat}{x:V}(h:u3 H ls xs)(e:xs[i]?=some x):∃l,ls[i]?=some l∧a3i H l x:=A4 h e
structure By(H:Hp)(d:Addr)(pl:Nat)(ns:List Int)(ls:List Lk)(ps:Int→Addr)(H':Hp):Prop where
 sm:h7 H H'
 no:H d=none
 fr:∀n∈ns,H (ps n)=none∧ps n≠d
 inj:∀n∈ns,∀m∈ns,ps n=ps m→n=m
 at':H' d=some (.dK (j5 ns fun n=>.ref (ps n)))
 ls:∀n∈ns,∃ys,H' (ps n)=some (.lst ys)∧u3 H' (ls.filter fun l=>decide (lat pl l=n)) ys
theorem By.new{H H1 H2:Hp}{d:Addr}{pl:Nat}{ns:List Int}{ls:List Lk}{ps:Int→Addr}(b:By H d pl ns ls ps H1)(s:h7 H1 H2):By H d pl ns ls ps H2:=
 ⟨b.sm.trans s,b.no,b.fr,b.inj,s _ _ b.at',fun n hn=>let ⟨ys,h1,h2⟩:=b.ls n hn;⟨ys,s _ _ h1,h2.tupK s.tupK⟩⟩
theorem K3{H:Hp}{a:Addr}{o:HO}{kvs:List (Key×V)}(h:H a=some (.dK kvs)):r9 H (upd H a o):=
 ⟨fun b xs e=>by rw[b8 (a3u e h (by intro z;cases z))];exact e,fun b o xs e=>by rw[b8 (a3u e h (by intro z;cases z))];exact e⟩
theorem By.add{H H1:Hp}{d p:Addr}{pl:Nat}{ns:List Int}{ps:Int→Addr}{n:Int}(b:By H d pl ns [] ps H1)(hn:n∉ns)(hp:H1 p=none) :
  By H d pl (ns++[n]) [] (fun m=>if m=n then p else ps m) (upd (upd H1 p (.lst [])) d (.dK (putK (j5 ns fun n=>.ref (ps n)) (Sum.inl n) (.ref p)))):=by
 have pd:p≠d:=fun z=>by rw[z,b.at']at hp;cases hp
 have hpH:H p=none:=by
  cases z:H p with
  | none=>rfl
  | some o=>rw[b.sm _ _ z]at hp;cases hp
 have off:∀m∈ns,m≠n:=fun m hm z=>hn (z▸hm)
 have npm:∀m∈ns,ps m≠p:=fun m hm z=>by obtain⟨ys,h1,_⟩:=b.ls m hm;rw[z,hp]at h1;cases h1
 refine⟨l8 (b.sm.trans (c9 hp)) b.no,b.no,fun m hm=>?_,fun m hm k hk e=>?_,?_,fun m hm=>?_⟩
 ·rcases List.mem_append.mp hm with hm | hm
  ·rw[if_neg (off m hm)];exact b.fr m hm
  ·rw[if_pos (List.mem_singleton.mp hm)];exact⟨hpH,pd⟩
 ·rcases List.mem_append.mp hm with hm | hm<;>rcases List.mem_append.mp hk with hk | hk
  ·rw[if_neg (off m hm),if_neg (off k hk)]at e;exact b.inj m hm k hk e
  ·rw[if_neg (off m hm),if_pos (List.mem_singleton.mp hk)]at e;exact absurd e (npm m hm)
  ·rw[if_pos (List.mem_singleton.mp hm),if_neg (off k hk)]at e;exact absurd e.symm (npm k hk)
  ·rw[List.mem_singleton.mp hm,List.mem_singleton.mp hk]
 ·rw[b6,J3,if_neg hn]
  congr 2
  refine Q5 fun m _=>?_
  unfold W4
  by_cases e:m=n
  ·rw[if_pos e,if_pos e]
  ·rw[if_neg e,if_neg e]
 ·rcases List.mem_append.mp hm with hm | hm
  ·obtain⟨ys,h1,h2⟩:=b.ls m hm
   refine⟨ys,?_,(h2.tupK (G5 hp)).tupK (K3 (c9 hp _ _ b.at'))⟩
   rw[if_neg (off m hm),b8 (b.fr m hm).2]
   exact c9 hp _ _ h1
  ·rw[if_pos (List.mem_singleton.mp hm)]
   exact⟨[],by rw[b8 pd];exact b6,.nil⟩
theorem By.push{H H1:Hp}{d:Addr}{pl:Nat}{ns:List Int}{ls:List Lk}{ps:Int→Addr}{l:Lk}{x:V}{ys:List V}(b:By H d pl ns ls ps H1)(hl:lat pl l∈ns)(hx:a3i H1 l x)(hy:H1 (ps (lat pl l))=some (.lst ys)) :
  By H d pl ns (ls++[l]) ps (upd H1 (ps (lat pl l)) (.lst (ys++[x]))):=by
 have f:=b.fr _ hl
 have k:=n5 (o:=.lst (ys++[x])) hy
 refine⟨l8 b.sm f.1,b.no,b.fr,b.inj,by rw[b8 (Ne.symm f.2)];exact b.at',fun n hn=>?_⟩
 obtain⟨zs,h1,h2⟩:=b.ls n hn
 rw[List.filter_append]
 by_cases e:lat pl l=n
 ·subst e
  rw[hy]at h1;cases h1
  refine⟨_,b6,?_⟩
  rw[List.filter_cons,if_pos (decide_eq_true rfl),List.filter_nil]
  obtain⟨a,e1,e2⟩:=hx
  exact(h2.tupK k).snoc ⟨a,e1,k.1 _ _ e2⟩
 ·refine⟨zs,by rw[b8 fun z=>e (b.inj _ hl _ hn z.symm)];exact h1,?_⟩
  rw[List.filter_cons,if_neg (by simpa using e),List.filter_nil,List.append_nil]
  exact h2.tupK k
inductive a3F(K:PySem.W.Frag)(vs:List V)(H:Hp)(Q:VK):Prop
 | mk (pl:Nat) (a b:Addr) (ns:List Int) (ls:List Lk) (xs:List V) (x0:vs=[.int (pl:Int),.ref a,.ref b]) (x1:pl≤1) (x2:d9 K H a (ns.map V.int)) (x3:ns.Nodup) (x4:d9 K H b xs) (x5:u3 H ls xs) (x6:(∀l∈ls,lat pl l∈ns)) (x7:ns.length≤10000) (x8:ls.length≤10000000) (xq:∀(d:Addr) (ps:Int→Addr) (H':Hp),By H d pl ns ls ps H'→Q (.ref d) H')
def a9L(K:PySem.W.Frag):Sp:=fun vs H Q _=>a3F K vs H Q
set_option maxHeartbeats 0 in
theorem a0o(T:z8 K mg t):g7 P w K mg base x9 1 t.f_links_by t.d_links_by ["place","numbers","links"] (a9L K):=by
 refine T.F_links_by.ok U9 (fun vs H Q E h=>?_) (fun cdv A outer s H vs Q E hr h=>?_)
 ·obtain⟨pl,a,b,ns,ls,xs,rfl,_⟩:=h
  rfl
 obtain⟨pl,a,b,ns,ls,xs,rfl,hpl,hA,nd,hB,hL,hin,z1,z2,q⟩:=h
 have hu:=O7 hr
 refine⟨_,(b9 (g6 (i:=3) U9.nd rfl (Or.inl rfl) A9)
 (b9 (z6 PassesOwn.never rfl (u4 (pv 1)) (l4 (i:=4) U9.nd rfl (Or.inl rfl))
 (d6 (C1 hu (pv 3) (pv 4) (j8 b7) rfl)))
 (b9 (z6 PassesOwn.never rfl (u4 (pv 2)) (l4 (i:=5) U9.nd rfl (Or.inl rfl))
 (d6 (l6 (v3 PySem.F.plainAttrs_list PySem.F.slot_list_append PySem.F.type_list_append m8 (u5 hu (pv 3) (d7 e7 (pv 5) (pv 0) (fun _ _=>rfl)) (fun _ _=>rfl)) (a6 (pv 5) b7)))))
 (d6 (i3 (pv 3)))))),?_⟩
 refine fun d hd=>?_
 refine⟨_,rfl,a,rfl,⟨_,hA.same (c9 hd)⟩,?_⟩
 have ln:(ns.map V.int).length=ns.length:=List.length_map _
 refine A0 (xs:=ns.map V.int) (fun i σ' H'=>∃o4 ps,σ'=[some (.int (pl:Int)),some (.ref a),some (.ref b),some (.ref d),o4,none]∧By H d pl (ns.take i) [] ps H')
  ⟨none,fun _=>d,rfl,c9 hd,hd,(fun n h=>by simp at h),(fun n h=>by simp at h),b6,fun n h=>by simp at h⟩ (fun i σ' H' _ h=>?_) (fun i x σ' H' hx h=>?_) (fun σ' H' h=>?_)
 ·obtain⟨o4,ps,rfl,B⟩:=h
  exact hA.same B.sm
 ·obtain⟨o4,ps,rfl,B⟩:=h
  rw[List.getElem?_map]at hx
  obtain⟨n,hn,rfl⟩:=Option.map_eq_some_iff.mp hx
  have li:=(List.getElem?_eq_some_iff.mp hn).1
  have tk:ns.take (i+1)=ns.take i++[n]:=by rw[List.take_add_one,hn];rfl
  have nn:n∉ns.take i:=fun z=>by
   have nd':(ns.take (i+1)).Nodup:=nd.sublist (List.take_sublist _ _)
   rw[tk,List.nodup_append]at nd'
   exact nd'.2.2 n z n (by simp) rfl
  refine⟨(by show 0≤sizeLine;decide),fun p hp=>?_⟩
  refine⟨_,rfl,_,rfl,d,_,rfl,K6.k (k:=Sum.inl n) (c9 hp _ _ B.at') (n6 (by rw[F7,List.length_take];omega)),?_⟩
  refine⟨_,(fun m=>if m=n then p else ps m),rfl,?_⟩
  rw[tk]
  exact B.add nn hp
 ·obtain⟨o4,ps,rfl,B⟩:=h
  rw[ln,List.take_length]at B
  refine⟨_,rfl,b,rfl,⟨_,hB.same B.sm⟩,?_⟩
  have lx:=hL.len
  refine A0 (xs:=xs) (fun i σ2 H2=>∃o5,σ2=[some (.int (pl:Int)),some (.ref a),some (.ref b),some (.ref d),o4,o5]∧By H d pl ns (ls.take i) ps H2)
   ⟨none,rfl,B⟩ (fun i σ2 H2 _ h=>?_) (fun i x σ2 H2 hx h=>?_) (fun σ2 H2 h=>?_)
  ·obtain⟨o5,rfl,B2⟩:=h
   exact hB.same B2.sm
  ·obtain⟨o5,rfl,B2⟩:=h
   obtain⟨l,hl,hlx⟩:=hL.get hx
   have hm:=List.mem_of_getElem? hl
   have hi:=hin l hm
   have li:=(List.getElem?_eq_some_iff.mp hl).1
   have tk:ls.take (i+1)=ls.take i++[l]:=by rw[List.take_add_one,hl];rfl
   obtain⟨ys,hy,Ly⟩:=B2.ls _ hi
   obtain⟨c,rfl,hc⟩:=hlx
   have hc2:=B2.sm _ _ hc
   have dg:=v7.k (k:=Sum.inl (lat pl l)) B2.at'
   rw[m9,if_pos hi]at dg
   have ly:ys.length≤i:=by
    rw[Ly.len]
    refine Nat.le_trans (List.length_filter_le _ _) ?_
    rw[List.length_take];omega
   refine⟨_,rfl,_,rfl,_,rfl,c,_,_,_,rfl,rfl,f7.of hc2,b3n hpl l,d,_,rfl,dg,.inl ⟨rfl,_,d9.of hy⟩,_,rfl,ps (lat pl l),ys,_,rfl,rfl,hy,n6 (by omega),?_⟩
   refine⟨_,rfl,?_⟩
   rw[tk]
   exact B2.push hi ⟨c,rfl,hc2⟩ hy
  ·obtain⟨o5,rfl,B2⟩:=h
   rw[lx,List.take_length]at B2
   exact⟨_,rfl,q d ps H2 B2⟩
inductive a4u(K:PySem.W.Frag)(vs:List V)(H:Hp)(Q:VK):Prop
 | mk (a b:Addr) (ns:List Int) (ls:List Lk) (xs:List V) (x0:vs=[.ref a,.ref b]) (x1:d9 K H a (ns.map V.int)) (x2:ns.Nodup) (x3:d9 K H b xs) (x4:u3 H ls xs) (x5:(∀l∈ls,l.1∈ns∧l.2.1∈ns)) (x6:ns.length≤10000) (x7:ls.length≤10000000) (xq:∀(r:Addr) (row:List Int) (H':Hp),h7 H H'→H r=none→H' r=some (.lst (row.map V.int))→a7T ns ls row→Q (.ref r) H')
def a8x(K:PySem.W.Frag):Sp:=fun vs H Q _=>a4u K vs H Q
theorem a3o{α:Type}{p:α→Bool}{l:List α}{i:Nat}{x:α}(h:l[i]?=some x):(l.take (i+1)).filter p=(l.take i).filter p++if p x=true then [x] else []:=by
 rw[List.take_add_one,h,Option.toList_some,List.filter_append,List.filter_cons,List.filter_nil]
theorem y8{H H':Hp}{b:Addr}(s:h7 H H')(h:H' b=none):H b=none:=by
 cases z:H b with
 | none=>rfl
 | some o=>rw[s _ _ z]at h;cases h
theorem b0e{ms:List Int}(h:0<ms.length):∃ini m,ms=ini++[m]:=by
 rcases List.eq_nil_or_concat ms with rfl | ⟨ini,m,rfl⟩
 ·simp at h
 ·exact⟨ini,m,by simp⟩
set_option maxHeartbeats 0 in
theorem a5v(T:z8 K mg t):g7 P w K mg base x9 2 t.f_longest_row t.d_longest_row ["numbers","links"] (a8x K):=by
 refine T.F_longest_row.ok v8 (fun vs H Q E h=>?_) (fun cdv A outer s H vs Q E hr h=>?_)
 ·obtain⟨a,b,ns,ls,xs,rfl,_⟩:=h
  rfl
 obtain⟨a,b,ns,ls,xs,rfl,hA,nd,hB,hL,hin,z1,z2,q⟩:=h
 have hu:=O7 hr
 refine⟨_,(b9 (g6 (i:=2) v8.nd rfl (Or.inl rfl) (j4 (g7.mono (k:=1) (a0o T) (by decide)) hr rfl T.m_links_by T.F_links_by.kp T.F_links_by.b .nil j7 (a6 (u9 rfl T.m_ONE T.r_ONE) (a6 (pv 0) (a6 (pv 1) b7)))))
 (b9 (g6 (i:=3) v8.nd rfl (Or.inl rfl) (j4 (g7.mono (k:=1) (a0o T) (by decide)) hr rfl T.m_links_by T.F_links_by.kp T.F_links_by.b .nil j7 (a6 (u9 rfl T.m_OTHER T.r_OTHER) (a6 (pv 0) (a6 (pv 1) b7)))))
 (b9 (g6 (i:=4) v8.nd rfl (Or.inr rfl) A9)
 (b9 (z6 PassesOwn.never rfl (u4 (pv 0)) (l4 (i:=5) v8.nd rfl (Or.inl rfl))
 (d6 (C1 hu (pv 4) (pv 5) (g9 i5 rfl T.m_len PySem.boot_len (a6 (u5 hu (pv 3) (pv 5) (fun _ _=>rfl)) b7)) rfl)))
 (b9 (a3N (i:=6) v8.nd rfl rfl rfl (u4 (pv 0)) (J8.mk (own:=["number"]) (tl:=["numbers","links","links_from","links_to","unkept",".","ready","row","link","other"]) rfl rfl rfl (fun _ _ _ _ _=>(l4 (i:=0) (a0r) rfl (Or.inl rfl))) (fun _ _ _ _ _=>(Y6 (f6 y9 (u5 hu (pv 5) (pv 0) (fun _ _=>rfl)) d5 (i9 _)))) (fun _ _ _ _ _=>(pv 0))))
 (b9 (g6 (i:=7) v8.nd rfl (Or.inl rfl) (j8 b7))
 (b9 (a1q PassesOwn.never (f6 a8r (g9 i5 rfl T.m_len PySem.boot_len (a6 (pv 6) b7)) d5 (i9 _))
 (b9 (g6 (i:=5) v8.nd rfl (Or.inl rfl) (b7n PySem.F.plainAttrs_list PySem.F.slot_list_pop PySem.F.type_list_pop b6l (pv 6)))
 (b9 (l6 (v3 PySem.F.plainAttrs_list PySem.F.slot_list_append PySem.F.type_list_append m8 (pv 7) (a6 (pv 5) b7)))
 (d6 (z6 PassesOwn.never rfl (u4 (u5 hu (pv 2) (pv 5) (fun _ _=>rfl))) (l4 (i:=8) v8.nd rfl (Or.inl rfl))
 (b9 (g6 (i:=9) v8.nd rfl (Or.inl rfl) (d7 e7 (pv 8) (u9 rfl T.m_OTHER T.r_OTHER) (fun _ _=>rfl)))
 (b9 (C1 hu (pv 4) (pv 9) (i6 M4 (u5 hu (pv 4) (pv 9) (fun _ _=>rfl)) d5) rfl)
 (d6 (j9 (f6 y9 (u5 hu (pv 4) (pv 9) (fun _ _=>rfl)) d5 (i9 _))
 (d6 (l6 (v3 PySem.F.plainAttrs_list PySem.F.slot_list_append PySem.F.type_list_append m8 (pv 6) (a6 (pv 9) b7))))
 j1)))))))))
 (d6 (i3 (pv 7)))))))))),?_⟩
 have ln:(ns.map V.int).length=ns.length:=List.length_map _
 refine⟨_,rfl,_,rfl,0,a,b,ns,ls,xs,rfl,by omega,hA,nd,hB,hL,fun l hl=>(hin l hl).1,z1,z2,fun df pf H1 B1=>?_⟩
 refine⟨_,rfl,_,rfl,1,a,b,ns,ls,xs,rfl,by omega,hA.same B1.sm,nd,hB.same B1.sm,hL.tupK B1.sm.tupK,fun l hl=>(hin l hl).2,z1,z2,fun dt pt H2 B2=>?_⟩
 have F:=B1.new B2.sm
 have hA2:=hA.same F.sm
 refine fun u hu0=>?_
 refine⟨_,rfl,a,rfl,⟨_,hA2.same (c9 hu0)⟩,?_⟩
 refine A0 (xs:=ns.map V.int) (fun i σ' H'=>∃o5,σ'=[some (.ref a),some (.ref b),some (.ref df),some (.ref dt),some (.ref u),o5,none,none,none,none]∧h7 H2 H'∧H' u=some (.dK (j5 (ns.take i) fun n=>.int (E1 ls n:Int))))
  ⟨none,rfl,c9 hu0,b6⟩ (fun i σ' H' _ h=>?_) (fun i x σ' H' hx h=>?_) (fun σ' H3 h=>?_)
 ·obtain⟨o5,rfl,sm,_⟩:=h
  exact hA2.same sm
 ·obtain⟨o5,rfl,sm,hu1⟩:=h
  rw[List.getElem?_map]at hx
  obtain⟨n,hn,rfl⟩:=Option.map_eq_some_iff.mp hx
  have li:=(List.getElem?_eq_some_iff.mp hn).1
  have hm:=List.mem_of_getElem? hn
  have tk:ns.take (i+1)=ns.take i++[n]:=by rw[List.take_add_one,hn];rfl
  have nn:n∉ns.take i:=fun z=>by
   have nd':(ns.take (i+1)).Nodup:=nd.sublist (List.take_sublist _ _)
   rw[tk,List.nodup_append]at nd'
   exact nd'.2.2 n z n (by simp) rfl
  have dg:=v7.k (k:=Sum.inl n) (sm _ _ B2.at')
  rw[m9,if_pos hm]at dg
  obtain⟨ys,hy,Ly⟩:=B2.ls n hm
  have ey:ys.length=E1 ls n:=by
   rw[Ly.len];unfold E1;rw[List.countP_eq_length_filter];rfl
  refine⟨_,rfl,_,rfl,dt,_,rfl,dg,pt n,ys,rfl,.inl (d9.of (sm _ _ hy)),_,rfl,_,rfl,u,_,rfl,K6.k (k:=Sum.inl n) hu1 (n6 (by rw[F7,List.length_take];omega)),?_⟩
  refine⟨_,rfl,l8 sm hu0,?_⟩
  rw[b6,J3,if_neg nn,tk,ey]
  congr 2
  refine Q5 fun m _=>?_
  unfold W4
  by_cases e:m=n
  ·rw[if_pos e,e]
  ·rw[if_neg e]
 obtain⟨o5,rfl,sm3,hu3⟩:=h
 rw[ln,List.take_length]at hu3
 refine⟨_,rfl,a,rfl,⟨_,hA2.same sm3⟩,fun rd hrd=>?_⟩
 refine J7 (xs:=ns.map V.int) (fun i Hc=>h7 H3 Hc∧Hc rd=some (.lst (((ns.take i).filter fun n=>decide ((E1 ls n:Int)=0)).map V.int))) ⟨c9 hrd,b6⟩ (fun i Hc _ h=>(hA2.same sm3).same h.1) (fun i x Hc hx h=>?_) (fun H4 h=>?_)
 ·obtain⟨sm,h1⟩:=h
  rw[List.getElem?_map]at hx
  obtain⟨n,hn,rfl⟩:=Option.map_eq_some_iff.mp hx
  have li:=(List.getElem?_eq_some_iff.mp hn).1
  have hm:=List.mem_of_getElem? hn
  have dg:=v7.k (k:=Sum.inl n) (sm _ _ hu3)
  rw[m9,if_pos hm]at dg
  rw[a3o hn]
  refine⟨_,rfl,_,rfl,u,_,rfl,dg,rfl,_,rfl,G8 (fun c=>?_) (fun c=>?_)⟩
  ·have c':(E1 ls n:Int)=0:=by simpa using c
   refine⟨_,rfl,_,h1,n6 ?_,l8 sm hrd,?_⟩
   ·rw[List.length_map]
    refine Nat.le_trans (List.length_filter_le _ _) ?_
    rw[List.length_take];omega
   ·rw[b6,if_pos (decide_eq_true c'),List.map_append];rfl
  ·have c':¬(E1 ls n:Int)=0:=by simpa using c
   refine⟨sm,?_⟩
   rw[if_neg (by simpa using c'),List.append_nil];exact h1
 obtain⟨sm4,hrd4⟩:=h
 rw[ln,List.take_length]at hrd4
 refine⟨(by show 0≤sizeLine;decide),fun r hr0=>?_⟩
 have ur:u≠rd:=e9 hu3 hrd
 have rr:rd≠r:=e9 hrd4 hr0
 have ur':u≠r:=e9 (sm4 _ _ hu3) hr0
 have nrd:H2 rd=none:=y8 sm3 hrd
 have nr:H2 r=none:=y8 (sm3.trans sm4) hr0
 have s5:=(sm3.trans sm4).trans (c9 (o:=.lst []) hr0)
 refine⟨fun m σ' H'=>∃(row ready:List Int) (f:Int→Int) (o5 o8 o9:Option V),σ'=[some (.ref a),some (.ref b),some (.ref df),some (.ref dt),some (.ref u),o5,some (.ref rd),some (.ref r),o8,o9] ∧
   m=ns.length-row.length∧RI ns ls row ready f∧h7 H2 H'∧H' rd=some (.lst (ready.map V.int))∧H' r=some (.lst (row.map V.int))∧H' u=some (.dK (j5 ns fun n=>.int (f n))),
  ⟨_,[],_,fun n=>(E1 ls n:Int),o5,none,none,rfl,rfl,RI.start nd fun n _=>rfl,s5,c9 hr0 _ _ hrd4,b6,c9 hr0 _ _ (sm4 _ _ hu3)⟩,fun mm σ' H' h=>?_⟩
 obtain⟨row,ready,f,o5,o8,o9,rfl,rfl,R,sm,h1,h2,h3⟩:=h
 refine⟨_,rfl,rd,_,rfl,.inl (d9.of h1),_,_,rfl,rfl,_,rfl,G8 (fun c=>?_) (fun c=>?_)⟩
 ·have c':(0:Int)<(((ready.map V.int).length:Nat):Int):=of_decide_eq_true c
  rw[List.length_map]at c'
  obtain⟨ini,m,rfl⟩:=b0e (ms:=ready) (by omega)
  have J:=R.pop
  have ml:=J.len
  have hmn:m∈ns:=J.sub m (by simp)
  refine⟨fun σ'' H''=>∃(ready:List Int) (f:Int→Int) (o8 o9:Option V),σ''=[some (.ref a),some (.ref b),some (.ref df),some (.ref dt),some (.ref u),some (.int m),some (.ref rd),some (.ref r),o8,o9] ∧
   RI ns ls (row++[m]) ready f∧h7 H2 H''∧H'' rd=some (.lst (ready.map V.int))∧H'' r=some (.lst ((row++[m]).map V.int))∧H'' u=some (.dK (j5 ns fun n=>.int (f n))),fun σ'' H'' h=>?_,?_⟩
  ·obtain⟨ready,f,o8,o9,e,R',w⟩:=h
   exact⟨ns.length-(row++[m]).length,by rw[List.length_append,List.length_singleton];omega,row++[m],ready,f,_,o8,o9,e,rfl,R',w⟩
  refine⟨_,rfl,.inl ⟨rfl,_,d9.of h1⟩,rd,_,.int m,rfl,rfl,h1,by simp,?_⟩
  have ed:((ini++[m]).map V.int).dropLast=ini.map V.int:=by rw[List.map_append];simp
  rw[ed]
  refine⟨_,rfl,.inl ⟨rfl,_,d9.of (by rw[b8 (Ne.symm rr)];exact h2)⟩,_,rfl,r,_,_,rfl,rfl,by rw[b8 (Ne.symm rr)];exact h2,n6 (by rw[List.length_map];omega),?_⟩
  have sm6:h7 H2 (upd (upd H' rd (.lst (ini.map V.int))) r (.lst (row.map V.int++[.int m]))):=l8 (l8 sm nrd) nr
  have g1:(upd (upd H' rd (.lst (ini.map V.int))) r (.lst (row.map V.int++[.int m]))) rd=some (.lst (ini.map V.int)):=by rw[b8 rr];exact b6
  have g2:(upd (upd H' rd (.lst (ini.map V.int))) r (.lst (row.map V.int++[.int m]))) r=some (.lst ((row++[m]).map V.int)):=by rw[b6,List.map_append];rfl
  have g3:(upd (upd H' rd (.lst (ini.map V.int))) r (.lst (row.map V.int++[.int m]))) u=some (.dK (j5 ns fun n=>.int (f n))):=by rw[b8 ur',b8 ur];exact h3
  generalize upd (upd H' rd (.lst (ini.map V.int))) r (.lst (row.map V.int++[.int m]))=H6 at sm6 g1 g2 g3 ⊢
  obtain⟨ys,hy,Ly⟩:=F.ls m hmn
  have dg:=v7.k (k:=Sum.inl m) (sm6 _ _ F.at')
  rw[m9,if_pos hmn]at dg
  have lf:ls.filter (fun l=>decide (lat 0 l=m))=ls.filter fun l=>decide (l.1=m):=rfl
  rw[lf]at Ly
  refine⟨_,rfl,_,rfl,df,_,rfl,dg,pf m,rfl,⟨_,d9.of (sm6 _ _ hy)⟩,?_⟩
  refine A0 (xs:=ys) (fun j σ'' H''=>∃(ready:List Int) (f:Int→Int) (o8 o9:Option V),σ''=[some (.ref a),some (.ref b),some (.ref df),some (.ref dt),some (.ref u),some (.int m),some (.ref rd),some (.ref r),o8,o9] ∧
   RJ ns ls row m ready f j∧h7 H2 H''∧H'' rd=some (.lst (ready.map V.int))∧H'' r=some (.lst ((row++[m]).map V.int))∧H'' u=some (.dK (j5 ns fun n=>.int (f n))))
   ⟨ini,f,o8,o9,rfl,J,sm6,g1,g2,g3⟩ (fun j σ'' H'' _ h=>?_) (fun j x σ'' H'' hx h=>?_) (fun σ'' H'' h=>?_)
  ·obtain⟨_,_,_,_,rfl,_,sm,_⟩:=h
   exact d9.of (sm _ _ hy)
  ·obtain⟨ready,f,o8,o9,rfl,J,sm,k1,k2,k3⟩:=h
   obtain⟨l,hl,c,rfl,hc⟩:=Ly.get hx
   have hc:=sm _ _ hc
   have hlm:=(hin l (List.mem_filter.mp (List.mem_of_getElem? hl)).1).2
   have S:=J.step hl hlm
   have lr:=J.len
   refine⟨_,rfl,c,_,1,_,rfl,rfl,f7.of hc,rfl,?_⟩
   have dg:=v7.k (k:=Sum.inl l.2.1) k3
   rw[m9,if_pos hlm]at dg
   refine⟨_,rfl,_,rfl,u,_,rfl,dg,_,_,rfl,rfl,_,rfl,_,rfl,u,_,rfl,K6.k (k:=Sum.inl l.2.1) k3 (n6 (by rw[F7];omega)),?_⟩
   have k4:(upd H'' u (.dK (putK (j5 ns fun n=>.int (f n)) (Sum.inl l.2.1) (.int (f l.2.1-1))))) u=some (.dK (j5 ns fun n=>.int (a1h f l.2.1 (f l.2.1-1) n))):=by
    rw[b6,J3,if_pos hlm]
    congr 2
    refine Q5 fun n _=>?_
    unfold W4 a1h
    split<;>rfl
   have sm7:h7 H2 (upd H'' u (.dK (putK (j5 ns fun n=>.int (f n)) (Sum.inl l.2.1) (.int (f l.2.1-1))))):=l8 sm hu0
   have k5:(upd H'' u (.dK (putK (j5 ns fun n=>.int (f n)) (Sum.inl l.2.1) (.int (f l.2.1-1))))) rd=some (.lst (ready.map V.int)):=by rw[b8 (Ne.symm ur)];exact k1
   have k6:(upd H'' u (.dK (putK (j5 ns fun n=>.int (f n)) (Sum.inl l.2.1) (.int (f l.2.1-1))))) r=some (.lst ((row++[m]).map V.int)):=by rw[b8 (Ne.symm ur')];exact k2
   generalize upd H'' u (.dK (putK (j5 ns fun n=>.int (f n)) (Sum.inl l.2.1) (.int (f l.2.1-1))))=H7 at k4 sm7 k5 k6 ⊢
   have dg2:=v7.k (k:=Sum.inl l.2.1) k4
   have e0:a1h f l.2.1 (f l.2.1-1) l.2.1=f l.2.1-1:=if_pos rfl
   rw[m9,if_pos hlm,e0]at dg2
   refine⟨_,rfl,_,rfl,u,_,rfl,dg2,rfl,_,rfl,G8 (fun c=>?_) (fun c=>?_)⟩
   ·have c':f l.2.1-1=0:=by simpa using c
    rw[if_pos c']at S
    refine⟨_,rfl,.inl ⟨rfl,_,d9.of k5⟩,_,rfl,rd,_,_,rfl,rfl,k5,n6 (by rw[List.length_map];omega),?_⟩
    refine⟨_,_,_,_,rfl,S,l8 sm7 nrd,?_,?_,?_⟩
    ·rw[b6,List.map_append];rfl
    ·rw[b8 (Ne.symm rr)];exact k6
    ·rw[b8 ur];exact k4
   ·have c':¬f l.2.1-1=0:=by simpa using c
    rw[if_neg c']at S
    exact⟨_,_,_,_,rfl,S,sm7,k5,k6,k4⟩
  ·obtain⟨ready,f,o8,o9,rfl,J,w⟩:=h
   exact⟨ready,f,o8,o9,rfl,J.done (Nat.le_of_eq Ly.len.symm),w⟩
 ·have c':¬(0:Int)<(((ready.map V.int).length:Nat):Int):=of_decide_eq_false (Bool.eq_false_iff.mpr c)
  rw[List.length_map]at c'
  have e:ready=[]:=List.eq_nil_of_length_eq_zero (by omega)
  subst e
  exact⟨_,rfl,q r row H' (F.sm.trans sm) (y8 F.sm nr) h2 R.row⟩
inductive a1u(K:PySem.W.Frag)(vs:List V)(H:Hp)(Q:VK):Prop
 | mk (a:Addr) (L:List Lk) (xs:List V) (x0:vs=[.ref a]) (x1:d9 K H a xs) (x2:u3 H L xs) (x3:L≠[]) (x4:(∀l∈L,∃m∈L,m.2.1=l.1)) (x5:L.length≤10000000) (xq:∀(r:Addr) (zs:List V) (rg:List Lk) (H':Hp),h7 H H'→H r=none→H' r=some (.lst zs)→u3 H' rg zs→Ring rg→(∀l∈rg,l∈L)→Q (.ref r) H')
def a4z(K:PySem.W.Frag):Sp:=fun vs H Q _=>a1u K vs H Q
theorem u3.reverse{H:Hp}{ls:List Lk}{xs:List V}(h:u3 H ls xs):u3 H ls.reverse xs.reverse:=by
 induction h with
 | nil=>exact .nil
 | cons r _ ih=>rw[List.reverse_cons,List.reverse_cons];exact ih.snoc r
theorem u3.drop{H:Hp}:∀(n:Nat) {ls:List Lk} {xs:List V},u3 H ls xs→u3 H (ls.drop n) (xs.drop n)
 | 0,_,_,h=>h
 | n+1,_,_,.nil=>.nil
 | n+1,_,_,.cons _ t=>u3.drop n t
set_option maxHeartbeats 0 in
theorem a0x(T:z8 K mg t):g7 P w K mg base x9 1 t.f_ring_behind t.d_ring_behind ["links"] (a4z K):=by
 refine T.F_ring_behind.ok A8 (fun vs H Q E h=>?_) (fun cdv A outer s H vs Q E hr h=>?_)
 ·obtain⟨a,L,xs,rfl,_⟩:=h
  rfl
 obtain⟨a,L,xs,rfl,hA,hL,ne,hin,z1,q⟩:=h
 have hu:=O7 hr
 refine⟨_,(b9 (g6 (i:=1) A8.nd rfl (Or.inl rfl) A9)
 (b9 (z6 PassesOwn.never rfl (u4 (pv 0)) (l4 (i:=2) A8.nd rfl (Or.inl rfl))
 (d6 (C1 hu (pv 1) (d7 e7 (pv 2) (u9 rfl T.m_OTHER T.r_OTHER) (fun _ _=>rfl)) (pv 2) rfl)))
 (b9 (g6 (i:=3) A8.nd rfl (Or.inl rfl) (d7 e7 (d7 j6 (pv 0) d5 (fun _ _=>rfl)) (u9 rfl T.m_OTHER T.r_OTHER) (fun _ _=>rfl)))
 (b9 (g6 (i:=4) A8.nd rfl (Or.inl rfl) A9)
 (b9 (g6 (i:=5) A8.nd rfl (Or.inl rfl) (j8 b7))
 (b9 (a1q PassesOwn.never (f6 (M0 hu) (pv 3) (pv 4) (by with_unfolding_all rfl))
 (b9 (C1 hu (pv 4) (pv 3) (g9 i5 rfl T.m_len PySem.boot_len (a6 (pv 5) b7)) rfl)
 (b9 (l6 (v3 PySem.F.plainAttrs_list PySem.F.slot_list_append PySem.F.type_list_append m8 (pv 5) (a6 (u5 hu (pv 1) (pv 3) (fun _ _=>rfl)) b7)))
 (d6 (g6 (i:=3) A8.nd rfl (Or.inl rfl) (d7 e7 (u5 hu (pv 1) (pv 3) (fun _ _=>rfl)) (u9 rfl T.m_ONE T.r_ONE) (fun _ _=>rfl)))))))
 (d6 (i3 (a3P rfl rfl T.m_list rfl T.m_reversed (L8 R0 (pv 5) (O4 (u5 hu (pv 4) (pv 3) (fun _ _=>rfl))) N9)))))))))),?_⟩
 have lx:=hL.len
 refine fun d hd=>?_
 refine⟨_,rfl,a,rfl,⟨_,hA.same (c9 hd)⟩,?_⟩
 refine A0 (xs:=xs) (fun i σ' H'=>∃(o2:Option V) (ks:List Int) (g:Int→V),σ'=[some (.ref a),some (.ref d),o2,none,none,none]∧h7 H H'∧H' d=some (.dK (j5 ks g))∧ks.length≤i∧(∀n,n∈ks↔∃l∈L.take i,l.2.1=n)∧∀n∈ks,∃l∈L,l.2.1=n∧a3i H l (g n))
  ⟨none,[],fun _=>.non,rfl,c9 hd,b6,Nat.le_refl _,by simp,by simp⟩ (fun i σ' H' _ h=>?_) (fun i x σ' H' hx h=>?_) (fun σ' H1 h=>?_)
 ·obtain⟨o2,ks,g,rfl,sm,_⟩:=h
  exact hA.same sm
 ·obtain⟨o2,ks,g,rfl,sm,h1,lk,hk,hg⟩:=h
  obtain⟨l,hl,c,rfl,hc⟩:=hL.get hx
  have li:=(List.getElem?_eq_some_iff.mp hl).1
  refine⟨_,rfl,_,rfl,_,rfl,c,_,1,_,rfl,rfl,f7.of (sm _ _ hc),rfl,d,_,rfl,K6.k (k:=Sum.inl l.2.1) h1 (n6 (by rw[F7];omega)),?_⟩
  refine⟨_,_,_,rfl,l8 sm hd,by rw[b6,J3],?_,fun n=>?_,fun n hn=>?_⟩
  ·split
   ·omega
   ·rw[List.length_append,List.length_singleton];omega
  ·rw[List.take_add_one,hl,Option.toList_some]
   have e1:(∃m∈L.take i++[l],m.2.1=n)↔(∃m∈L.take i,m.2.1=n)∨l.2.1=n:=by
    constructor
    ·rintro⟨m,hm,e⟩
     rcases List.mem_append.mp hm with hm | hm
     ·exact .inl ⟨m,hm,e⟩
     ·rw[List.mem_singleton.mp hm]at e;exact .inr e
    ·rintro(⟨m,hm,e⟩ | e)
     ·exact⟨m,List.mem_append_left _ hm,e⟩
     ·exact⟨l,by simp,e⟩
   rw[e1,←hk]
   split
   ·rename_i c
    exact⟨.inl,fun w=>w.elim id fun w=>w▸c⟩
   ·rw[List.mem_append,List.mem_singleton]
    exact⟨fun w=>w.imp id fun w=>w.symm,fun w=>w.imp id fun w=>w.symm⟩
  ·by_cases e:n=l.2.1
   ·subst e
    exact⟨l,List.mem_of_getElem? hl,rfl,by rw[a2b];exact⟨c,rfl,hc⟩⟩
   ·rw[a6l e]
    refine hg n ?_
    split at hn
    ·exact hn
    ·rcases List.mem_append.mp hn with hn | hn
     ·exact hn
     ·exact absurd (List.mem_singleton.mp hn) e
 obtain⟨o2,ks,g,rfl,sm1,hd1,lk,hk,hg⟩:=h
 rw[lx,List.take_length]at hk
 obtain⟨l0,hl0⟩:∃l0,L[0]?=some l0:=by
  cases L with
  | nil=>exact absurd rfl ne
  | cons l L=>exact⟨l,rfl⟩
 obtain⟨x0,hx0,c0,rfl,hc0⟩:=a4d hL hl0
 refine⟨_,rfl,a,_,0,_,rfl,rfl,hA.same sm1,j0 (j:=0) hx0,c0,_,1,_,rfl,rfl,f7.of (sm1 _ _ hc0),rfl,?_⟩
 refine fun mt hmt=>⟨(by show 0≤sizeLine;decide),fun wk hwk=>?_⟩
 have mw:mt≠wk:=e9 b6 hwk
 have nmt:H mt=none:=y8 sm1 hmt
 have nwk:H wk=none:=y8 (sm1.trans (c9 hmt)) hwk
 have md:d≠mt:=e9 hd1 hmt
 have wd:d≠wk:=e9 (c9 hmt _ _ hd1) hwk
 refine⟨fun m σ' H'=>∃(W:List Lk) (ys:List V) (n:Int) (g':Int→V),σ'=[some (.ref a),some (.ref d),o2,some (.int n),some (.ref mt),some (.ref wk)]∧m=L.length-W.length∧Wk L W n∧h7 H H'∧H' d=some (.dK (j5 ks g))∧H' wk=some (.lst ys)∧u3 H W ys ∧
   H' mt=some (.dK (j5 (W.map fun l=>l.2.1) g'))∧∀(i:Nat) l,W[i]?=some l→g' l.2.1=.int (i:Int),
  ⟨_,[],[],l0.2.1,fun _=>.non,rfl,rfl,⟨by simp,by simp,by simp,by simp,l0,List.mem_of_getElem? hl0,rfl⟩,(sm1.trans (c9 hmt)).trans (c9 hwk),c9 hwk _ _ (c9 hmt _ _ hd1),b6,.nil,by rw[b8 mw];exact b6,by simp⟩,fun m σ' H' h=>?_⟩
 obtain⟨W,ys,n,g',rfl,rfl,wk',sm,k1,k2,Ly,k3,hg'⟩:=h
 refine⟨_,rfl,_,rfl,mt,_,rfl,v7.k (k:=Sum.inl n) k3,_,rfl,?_⟩
 rw[m9]
 by_cases hn:n∈W.map fun l=>l.2.1
 ·rw[if_pos hn]
  refine g8 ?_
  obtain⟨i,hi⟩:=List.mem_iff_getElem?.mp hn
  rw[List.getElem?_map]at hi
  obtain⟨l,hi,e⟩:=Option.map_eq_some_iff.mp hi
  have dg:=v7.k (k:=Sum.inl n) k3
  rw[m9,if_pos hn,←e,hg' i l hi,e]at dg
  have li:=(List.getElem?_eq_some_iff.mp hi).1
  refine⟨_,rfl,_,rfl,_,rfl,mt,_,rfl,dg,_,rfl,wk,_,rfl,d9.of k2,fun sl hsl=>?_⟩
  rw[a2f]
  refine⟨sl,_,rfl,d9.of b6,fun r hr0=>?_⟩
  have s8:=(sm.trans (c9 (o:=.lst (ys.drop i)) hsl)).trans (c9 (o:=.lst (ys.drop i).reverse) hr0)
  obtain⟨rg,sub⟩:=wk'.ring hi e
  exact q r _ _ _ s8 (y8 (sm.trans (c9 (o:=.lst (ys.drop i)) hsl)) hr0) b6 (((Ly.drop i).reverse).tupK s8.tupK) rg sub
 ·rw[if_neg hn]
  refine l7 ?_
  have hnk:n∈ks:=(hk n).mpr wk'.on
  obtain⟨l,hl,e,c,eg,hc⟩:=hg n hnk
  have dg:=fun(Hx:Hp) (hx:Hx d=some (.dK (j5 ks g)))=>v7.k (k:=Sum.inl n) hx
  have dg':∀(Hx:Hp),Hx d=some (.dK (j5 ks g))→v7 Hx d (.int n) (some (.ref c)):=fun Hx hx=>by
   have:=dg Hx hx
   rw[m9,if_pos hnk,eg]at this
   exact this
  have S:=wk'.step hn hl e (hin l hl)
  have sl:=S.len
  rw[List.length_append,List.length_singleton]at sl
  refine⟨fun σ'' H''=>∃(ys:List V) (g':Int→V),σ''=[some (.ref a),some (.ref d),o2,some (.int l.1),some (.ref mt),some (.ref wk)]∧h7 H H''∧H'' d=some (.dK (j5 ks g))∧H'' wk=some (.lst ys)∧u3 H (W++[l]) ys ∧
   H'' mt=some (.dK (j5 ((W++[l]).map fun l=>l.2.1) g'))∧∀(i:Nat) l',(W++[l])[i]?=some l'→g' l'.2.1=.int (i:Int),fun σ'' H'' h=>?_,?_⟩
  ·obtain⟨ys,g',e1,w1,w2,w3,w4,w5,w6⟩:=h
   exact⟨L.length-(W++[l]).length,by rw[List.length_append,List.length_singleton];omega,W++[l],ys,l.1,g',e1,rfl,S,w1,w2,w3,w4,w5,w6⟩
  refine⟨_,rfl,wk,_,rfl,.inl (d9.of k2),_,rfl,_,rfl,mt,_,rfl,K6.k (k:=Sum.inl n) k3 (n6 (by rw[F7,List.length_map];omega)),?_⟩
  rw[J3,if_neg hn]
  have p1:∀o,upd H' mt o d=some (.dK (j5 ks g)):=fun o=>by rw[b8 md];exact k1
  have p2:∀o,upd H' mt o wk=some (.lst ys):=fun o=>by rw[b8 (Ne.symm mw)];exact k2
  refine⟨_,rfl,.inl ⟨rfl,_,d9.of (p2 _)⟩,_,rfl,_,rfl,d,_,rfl,dg' _ (p1 _),wk,_,_,rfl,rfl,p2 _,n6 (by rw[Ly.len];omega),?_⟩
  have sm9:∀o o',h7 H (upd (upd H' mt o) wk o'):=fun o o'=>l8 (l8 sm nmt) nwk
  have p3:∀o o',upd (upd H' mt o) wk o' d=some (.dK (j5 ks g)):=fun o o'=>by rw[b8 wd];exact p1 o
  refine⟨_,rfl,_,rfl,d,_,rfl,dg' _ (p3 _ _),c,_,0,_,rfl,rfl,f7.of (sm9 _ _ _ _ hc),rfl,?_⟩
  refine⟨_,W4 g' n (.int (ys.length:Int)),rfl,sm9 _ _,p3 _ _,b6,Ly.snoc ⟨c,rfl,hc⟩,?_,fun i l' hi=>?_⟩
  ·rw[b8 mw,b6,List.map_append,List.map_singleton,e]
  ·by_cases ci:i<W.length
   ·rw[List.getElem?_append_left ci]at hi
    rw[a6l fun z=>hn (by rw[←z];exact List.mem_map.mpr ⟨l',List.mem_of_getElem? hi,rfl⟩)]
    exact hg' i l' hi
   ·have li:=(List.getElem?_eq_some_iff.mp hi).1
    rw[List.length_append,List.length_singleton]at li
    have ei:i=W.length:=by omega
    subst ei
    rw[List.getElem?_append_right (Nat.le_refl _),Nat.sub_self]at hi
    have hi:l=l':=by simpa using hi
    subst hi
    rw[e,a2b,Ly.len]
inductive a1s(K:PySem.W.Frag)(vs:List V)(H:Hp)(Q:VK):Prop
 | mk (a b:Addr) (ns:List Int) (ls:List Lk) (xs:List V) (x0:vs=[.ref a,.ref b]) (x1:d9 K H a (ns.map V.int)) (x2:ns.Nodup) (x3:d9 K H b xs) (x4:u3 H ls xs) (x5:(∀l∈ls,l.1∈ns∧l.2.1∈ns)) (x6:ns.length≤10000) (x7:ls.length≤10000000) (x8:(∀(p r:Addr) (row:List Int) (H':Hp),h7 H H'→H r=none→H' p=some (.tup [.str "row",.ref r])→H' r=some (.lst (row.map V.int))→a2j ns ls row→Q (.ref p) H')) (xq:∀(p r:Addr) (zs:List V) (rg:List Lk) (H':Hp),h7 H H'→H r=none→H' p=some (.tup [.str "ring",.ref r])→H' r=some (.lst zs)→u3 H' rg zs→Ring rg→(∀l∈rg,l∈ls)→Q (.ref p) H')
def a1z(K:PySem.W.Frag):Sp:=fun vs H Q _=>a1s K vs H Q
set_option maxHeartbeats 0 in
theorem a1x(T:z8 K mg t):g7 P w K mg base x9 3 t.f_row_or_ring t.d_row_or_ring ["numbers","links"] (a1z K):=by
 refine T.F_row_or_ring.ok O0 (fun vs H Q E h=>?_) (fun cdv A outer s H vs Q E hr h=>?_)
 ·obtain⟨a,b,ns,ls,xs,rfl,_⟩:=h
  rfl
 obtain⟨a,b,ns,ls,xs,rfl,hA,nd,hB,hL,hin,z1,z2,q1,q2⟩:=h
 have hu:=O7 hr
 refine⟨_,(b9 (g6 (i:=2) O0.nd rfl (Or.inl rfl) (j4 (g7.mono (k:=2) (a5v T) (by decide)) hr rfl T.m_longest_row T.F_longest_row.kp T.F_longest_row.b .nil j7 (a6 (pv 0) (a6 (pv 1) b7))))
 (b9 (j9 (f6 y9 (g9 i5 rfl T.m_len PySem.boot_len (a6 (pv 2) b7)) (g9 i5 rfl T.m_len PySem.boot_len (a6 (pv 0) b7)) (i9 _))
 (d6 (i3 (p6 (a6 i7 (a6 (pv 2) b7)))))
 j1)
 (b9 (g6 (i:=3) O0.nd rfl (Or.inr rfl) A9)
 (b9 (z6 PassesOwn.never rfl (u4 (pv 2)) (l4 (i:=4) O0.nd rfl (Or.inl rfl))
 (d6 (C1 hu (pv 3) (pv 4) y6 rfl)))
 (d6 (i3 (p6 (a6 i7 (a6 (j4 (g7.mono (k:=2) (a0x T) (by decide)) hr rfl T.m_ring_behind T.F_ring_behind.kp T.F_ring_behind.b .nil j7 (a6 (Q9 rfl (u4 (pv 1)) (J8.mk (own:=["link"]) (tl:=["numbers","links","row","placed","number"]) rfl rfl rfl (fun _ _ _ _ _=>(l4 (i:=0) (a0q) rfl (Or.inl rfl))) (fun _ _ _ _ _=>(Y6 (f6 (M0 hu) (d7 O6 (pv 0) (u9 rfl T.m_ONE T.r_ONE) (fun _ _=>rfl)) (pv 4) (by with_unfolding_all rfl)))) (fun _ _ _ _ _=>(pv 0)))) b7)) b7))))))))),?_⟩
 have ln:(ns.map V.int).length=ns.length:=List.length_map _
 have lx:=hL.len
 refine⟨_,rfl,_,rfl,a,b,ns,ls,xs,rfl,hA,nd,hB,hL,hin,z1,z2,fun r row H1 s1 nr1 hr1 R=>?_⟩
 have lr:(row.map V.int).length=row.length:=List.length_map _
 have ll:=v9 R.nd R.sub
 refine⟨_,rfl,r,_,rfl,.inl (d9.of hr1),_,rfl,a,_,rfl,.inl (hA.same s1),rfl,_,rfl,G8 (fun c=>?_) (fun c=>?_)⟩
 ·have c':row.length=ns.length:=by have c':=c;simp at c';omega
  refine⟨_,rfl,(by show 2≤sizeLine;decide),fun p hp=>?_⟩
  have s2:=c9 (o:=.tup [.str "row",.ref r]) hp
  exact q1 p r row _ (s1.trans s2) nr1 b6 (s2 _ _ hr1) (R.all nd c' fun l hl=>(hin l hl).2)
 ·have c':¬row.length=ns.length:=by have c':=c;simp at c';omega
  refine fun d hd=>?_
  refine⟨_,rfl,r,rfl,⟨_,d9.of (c9 hd _ _ hr1)⟩,?_⟩
  refine A0 (xs:=row.map V.int) (fun i σ' H'=>∃o4,σ'=[some (.ref a),some (.ref b),some (.ref r),some (.ref d),o4]∧h7 H1 H'∧H' d=some (.dK (j5 (row.take i) fun _=>.bl true)))
   ⟨none,rfl,c9 hd,b6⟩ (fun i σ' H' _ h=>?_) (fun i x σ' H' hx h=>?_) (fun σ' H2 h=>?_)
  ·obtain⟨o4,rfl,sm,_⟩:=h
   exact d9.of (sm _ _ hr1)
  ·obtain⟨o4,rfl,sm,h1⟩:=h
   rw[List.getElem?_map]at hx
   obtain⟨n,hn,rfl⟩:=Option.map_eq_some_iff.mp hx
   have li:=(List.getElem?_eq_some_iff.mp hn).1
   have tk:row.take (i+1)=row.take i++[n]:=by rw[List.take_add_one,hn];rfl
   have nn:n∉row.take i:=fun z=>by
    have nd':(row.take (i+1)).Nodup:=R.nd.sublist (List.take_sublist _ _)
    rw[tk,List.nodup_append]at nd'
    exact nd'.2.2 n z n (by simp) rfl
   refine⟨_,rfl,_,rfl,d,_,rfl,K6.k (k:=Sum.inl n) h1 (n6 (by rw[F7,List.length_take];omega)),?_⟩
   refine⟨_,rfl,l8 sm hd,?_⟩
   rw[b6,J3,if_neg nn,tk]
   congr 2
   refine Q5 fun m _=>?_
   unfold W4
   split<;>rfl
  obtain⟨o4,rfl,sm2,hd2⟩:=h
  rw[lr,List.take_length]at hd2
  have s12:=s1.trans sm2
  refine⟨_,rfl,b,rfl,⟨_,hB.same s12⟩,fun acc hacc=>?_⟩
  refine J7 (xs:=xs) (fun i Hc=>h7 H2 Hc∧∃ys,Hc acc=some (.lst ys)∧u3 H2 ((ls.take i).filter fun l=>decide (l.1∉row)) ys) ⟨c9 hacc,[],b6,.nil⟩ (fun i Hc _ h=>(hB.same s12).same h.1) (fun i x Hc hx h=>?_) (fun H3 h=>?_)
  ·obtain⟨sc,ys,h1,Ly⟩:=h
   obtain⟨l,hl,e,rfl,he⟩:=hL.get hx
   have he2:=s12 _ _ he
   have li:=(List.getElem?_eq_some_iff.mp hl).1
   rw[a3o hl]
   refine⟨_,rfl,e,_,0,_,rfl,rfl,f7.of (sc _ _ he2),rfl,_,rfl,d,_,rfl,v7.k (k:=Sum.inl l.1) (sc _ _ hd2),_,rfl,?_⟩
   rw[m9]
   by_cases hr2:l.1∈row
   ·rw[if_pos hr2,if_neg (by simpa using hr2),List.append_nil]
    refine g8 ?_
    exact⟨sc,ys,h1,Ly⟩
   ·rw[if_neg hr2,if_pos (by simpa using hr2)]
    refine l7 ?_
    have ly:ys.length≤i:=by
     rw[Ly.len]
     refine Nat.le_trans (List.length_filter_le _ _) ?_
     rw[List.length_take];omega
    exact⟨_,rfl,ys,h1,n6 (by omega),l8 sc hacc,_,b6,Ly.snoc ⟨e,rfl,he2⟩⟩
  obtain⟨s3,ys,h3,Ly⟩:=h
  rw[lx,List.take_length]at Ly
  have outs:∀n∈ns,n∉row→∃l∈ls.filter (fun l=>decide (l.1∉row)),l.2.1=n:=fun n hn ho=>by
   obtain⟨l,hl,e1,e2⟩:=R.out n hn ho
   exact⟨l,List.mem_filter.mpr ⟨hl,by simpa using e2⟩,e1⟩
  have some1:∃n∈ns,n∉row:=Classical.byContradiction fun z=>c' (by
   have all:∀n∈ns,n∈row:=fun n hn=>Classical.byContradiction fun w=>z ⟨n,hn,w⟩
   exact Nat.le_antisymm ll (v9 nd all))
  refine⟨acc,_,ys,rfl,d9.of h3,Ly.tupK s3.tupK,fun z=>?_,fun l hl=>?_,Nat.le_trans (List.length_filter_le _ _) z2,fun rr zs rg H4 s4 nr4 hr4 L4 RG sub=>?_⟩
  ·obtain⟨n,hn,ho⟩:=some1
   obtain⟨l,hl,_⟩:=outs n hn ho
   rw[z]at hl;simp at hl
  ·obtain⟨hl1,hl2⟩:=List.mem_filter.mp hl
   exact outs l.1 (hin l hl1).1 (by simpa using hl2)
  ·refine⟨(by show 2≤sizeLine;decide),fun p hp=>?_⟩
   have s5:=c9 (o:=.tup [.str "ring",.ref rr]) hp
   exact q2 p rr zs rg _ (((s12.trans s3).trans s4).trans s5) (y8 (s12.trans s3) nr4) b6 (s5 _ _ hr4) (L4.tupK s5.tupK) RG fun l hl=>(List.mem_filter.mp (sub l hl)).1
inductive a8L(K:PySem.W.Frag)(vs:List V)(H:Hp)(Q:VK):Prop
 | mk (a:Addr) (ps:List (Int×Int)) (m:Int) (x0:vs=[.ref a,.int m]) (x1:Ver K H a ps) (x2:ps.length≤100000) (xq:∀H',h7 H H'→Q (.int (cnt ps m:Nat)) H')
def a9S(K:PySem.W.Frag):Sp:=fun vs H Q _=>a8L K vs H Q
theorem a5u(T:z8 K mg t):g7 P w K mg base x9 1 t.f_reached t.d_reached ["versions","moment"] (a9S K):=by
 refine T.F_reached.ok a9P (fun vs H Q E h=>?_) (fun cdv A outer s H vs Q E hr h=>?_)
 ·obtain⟨a,ps,m,rfl,_⟩:=h
  rfl
 obtain⟨a,ps,m,rfl,⟨xs,hS,hR⟩,hl,q⟩:=h
 refine⟨_,(d6 (i3 (g9 i5 rfl T.m_len PySem.boot_len (a6 (Q9 rfl (u4 (pv 0)) (J8.mk (own:=["version"]) (tl:=["versions","moment"]) rfl rfl rfl (fun _ _ _ _ _=>(l4 (i:=0) (a8J) rfl (Or.inl rfl))) (fun _ _ _ _ _=>(Y6 (f6 a7E (d7 O6 (pv 0) d5 (fun _ _=>rfl)) (pv 2) (i9 _)))) (fun _ _ _ _ _=>(pv 0)))) b7)))),?_⟩
 refine⟨_,rfl,a,rfl,⟨xs,hS⟩,fun acc hacc=>?_⟩
 have sm:∀ys,h7 H (upd H acc (.lst ys)):=fun ys=>c9 hacc
 refine J7 (xs:=xs) (fun i H'=>∃ys,H'=upd H acc (.lst ys)∧ys.length=cnt (ps.take i) m) ⟨[],rfl,rfl⟩ (fun i H' _ h=>?_) (fun i x H' hx h=>?_) (fun H' h=>?_)
 ·obtain⟨ys,rfl,_⟩:=h
  exact hS.same (sm ys)
 ·obtain⟨ys,rfl,hy⟩:=h
  obtain⟨p,b,hp,rfl,hT⟩:=a6X hR hx
  have hi:i<ps.length:=(List.getElem?_eq_some_iff.mp hp).1
  have hc:=a2W (ps.take i) m
  rw[List.length_take]at hc
  refine⟨_,rfl,b,_,0,.int p.1,rfl,rfl,hT.same (sm ys),rfl,_,rfl,_,_,rfl,rfl,_,rfl,?_⟩
  refine G8 (fun c=>?_) (fun c=>?_)
  ·have c':p.1≤m:=of_decide_eq_true c
   refine⟨_,rfl,ys,b6,n6 (by omega),_,a6O,?_⟩
   rw[a1H hp,if_pos c',List.length_append,hy]
   rfl
  ·have c':¬p.1≤m:=of_decide_eq_false (Bool.eq_false_iff.mpr c)
   refine⟨ys,rfl,?_⟩
   rw[a1H hp,if_neg c',hy]
   rfl
 ·obtain⟨ys,rfl,hy⟩:=h
  rw[b4i hR,List.take_length]at hy
  refine⟨acc,ys,rfl,.inl (d9.of b6),?_⟩
  rw[hy]
  exact q _ (sm ys)
def valueAt(ps:List (Int×Int))(m:Int):Int:=if cnt ps m=0 then 0 else(ps.getD (cnt ps m-1) (0,0)).2
inductive a9K(K:PySem.W.Frag)(vs:List V)(H:Hp)(Q:VK):Prop
 | mk (a:Addr) (ps:List (Int×Int)) (m:Int) (x0:vs=[.ref a,.int m]) (x1:Ver K H a ps) (x2:ps.length≤100000) (xq:∀H',h7 H H'→Q (.int (valueAt ps m)) H')
def a6M(K:PySem.W.Frag):Sp:=fun vs H Q _=>a9K K vs H Q
theorem a7L(T:z8 K mg t):g7 P w K mg base x9 2 t.f_value_at t.d_value_at ["versions","moment"] (a6M K):=by
 refine T.F_value_at.ok a6n (fun vs H Q E h=>?_) (fun cdv A outer s H vs Q E hr h=>?_)
 ·obtain⟨a,ps,m,rfl,_⟩:=h
  rfl
 obtain⟨a,ps,m,rfl,hV,hl,q⟩:=h
 refine⟨_,(b9 (g6 (i:=2) a6n.nd rfl (Or.inl rfl) (j4 (g7.mono (k:=1) (a5u T) (by decide)) hr rfl T.m_reached T.F_reached.kp T.F_reached.b .nil j7 (a6 (pv 0) (a6 (pv 1) b7))))
 (b9 (j9 (f6 y9 (pv 2) d5 (i9 _))
 (d6 (i3 d5))
 j1)
 (d6 (i3 (d7 e7 (d7 j6 (pv 0) (i6 M4 (pv 2) d5) (fun _ _=>rfl)) d5 (fun _ _=>rfl)))))),?_⟩
 refine⟨_,rfl,_,rfl,a,ps,m,rfl,hV,hl,fun H1 g1=>?_⟩
 refine⟨_,rfl,rfl,_,rfl,?_⟩
 refine G8 (fun c=>?_) (fun c=>?_)
 ·have c':cnt ps m=0:=by have:=of_decide_eq_true c;injection this with z;exact Int.ofNat.inj z
  have e:valueAt ps m=0:=by unfold valueAt;rw[if_pos c']
  have:=q H1 g1
  rw[e]at this
  exact this
 ·have c':¬cnt ps m=0:=fun z=>c (decide_eq_true (by rw[z];rfl))
  have hc:=a2W ps m
  have hlt:cnt ps m-1<ps.length:=by omega
  have hp:ps[cnt ps m-1]?=some ps[cnt ps m-1]:=List.getElem?_eq_getElem hlt
  obtain⟨xs,hS,hR⟩:=hV
  obtain⟨b,hb,hT⟩:=b0j hR hp
  have ei:((cnt ps m:Nat):Int)-1=((cnt ps m-1:Nat):Int):=by omega
  have e:valueAt ps m=(ps[cnt ps m-1]).2:=by
   unfold valueAt;rw[if_neg c',List.getD_eq_getElem?_getD,hp];rfl
  refine⟨_,rfl,_,rfl,_,_,rfl,rfl,a,xs,_,.ref b,rfl,rfl,hS.same g1,?_,b,_,1,.int (ps[cnt ps m-1]).2,rfl,rfl,hT.same g1,rfl,?_⟩
  ·rw[ei];exact j0 hb
  ·rw[←e];exact q H1 g1
inductive a6V(K:PySem.W.Frag)(vs:List V)(H:Hp)(Q:VK):Prop
 | mk (a:Addr) (xs:List V) (ps:List (Int×Int)) (m:Int) (x0:vs=[.ref a,.int m]) (x1:d9 K H a xs) (x2:m7 K H (ps.map pd) xs) (x3:ps.length≤100000) (xq:∀(r:Addr) (H':Hp),h7 H H'→H r=none→H' r=some (.lst (xs.drop (cnt ps m-1)))→Q (.ref r) H')
def b6d(K:PySem.W.Frag):Sp:=fun vs H Q _=>a6V K vs H Q
theorem b9b(T:z8 K mg t):g7 P w K mg base x9 2 t.f_swept t.d_swept ["versions","moment"] (b6d K):=by
 refine T.F_swept.ok a1L (fun vs H Q E h=>?_) (fun cdv A outer s H vs Q E hr h=>?_)
 ·obtain⟨a,xs,ps,m,rfl,_⟩:=h
  rfl
 obtain⟨a,xs,ps,m,rfl,hS,hR,hl,q⟩:=h
 refine⟨_,(b9 (g6 (i:=2) a1L.nd rfl (Or.inl rfl) (g9 (a0Z rfl) rfl T.m_max boot_max (a6 (i6 M4 (j4 (g7.mono (k:=1) (a5u T) (by decide)) hr rfl T.m_reached T.F_reached.kp T.F_reached.b .nil j7 (a6 (pv 0) (a6 (pv 1) b7))) d5) (a6 d5 b7))))
 (d6 (i3 (L8 R0 (pv 0) (O4 (pv 2)) N9)))),?_⟩
 refine⟨_,rfl,_,rfl,a,ps,m,rfl,⟨xs,hS,hR⟩,hl,fun H1 g1=>?_⟩
 refine⟨_,_,rfl,rfl,_,_,rfl,?_⟩
 have e:(if (0:Int)>((cnt ps m:Nat):Int)-1 then(0:Int) else((cnt ps m:Nat):Int)-1)=((cnt ps m-1:Nat):Int):=by split<;>omega
 rw[e]
 refine⟨_,rfl,_,rfl,_,rfl,a,xs,rfl,hS.same g1,fun r hr0=>?_⟩
 rw[a2f]
 exact q r _ (g1.trans (c9 hr0)) (y8 g1 hr0) b6
inductive a7M(K:PySem.W.Frag)(vs:List V)(H:Hp)(Q:VK):Prop
 | mk (a b:Addr) (ks js:List Str) (x0:vs=[.ref a,.ref b]) (x1:d9 K H a (ks.map V.str)) (x2:d9 K H b (js.map V.str)) (x3:ks.length≤63) (x4:js.length≤63) (xq:∀(r:Addr) (rs:List Str) (H':Hp),h7 H H'→H' r=some (.lst (rs.map V.str))→rs.Nodup→(∀x,x∈rs↔x∈ks∧x∈js)→Q (.ref r) H')
def a8S(K:PySem.W.Frag):Sp:=fun vs H Q _=>a7M K vs H Q
theorem a8l{ks:List Str}(h:ks.length≤63):ks.length+1<scanBound:=by unfold scanBound;omega
theorem a8f(T:z8 K mg t):g7 P w K mg base x9 1 t.f_in_both t.d_in_both ["goods","others"] (a8S K):=by
 refine T.F_in_both.ok a9Q (fun vs H Q E h=>?_) (fun cdv A outer s H vs Q E hr h=>?_)
 ·obtain⟨a,b,ks,js,rfl,_⟩:=h
  rfl
 obtain⟨a,b,ks,js,rfl,hA,hB,la,lb,q⟩:=h
 refine⟨_,(d6 (i3 (g9 (a5s rfl) rfl T.m_sorted boot_sorted (a6 (i6 a7P (L5 (a7F rfl) rfl T.m_set boot_set (a6 (pv 0) b7)) (L5 (a7F rfl) rfl T.m_set boot_set (a6 (pv 1) b7))) b7)))),?_⟩
 refine⟨_,rfl,a,ks,rfl,hA,a8l la,fun l hl=>?_⟩
 have s1:=c9 (o:=tso w l (TS.once ks)) hl
 refine⟨_,rfl,b,js,rfl,hB.same s1,a8l lb,fun m hm=>?_⟩
 have s2:=c9 (o:=tso w m (TS.once js)) hm
 have hne:m≠l:=fun e=>by rw[e,b6]at hm;cases hm
 refine⟨l,m,TS.once ks,TS.once js,rfl,rfl,hne,s2 _ _ b6,b6,a8l (Nat.le_trans (TS.a6q ks) la),a8l (Nat.le_trans (TS.a6q js) lb),fun n rs hn nd mem=>?_⟩
 have s3:=c9 (o:=tso w n rs) hn
 refine⟨n,rs,rfl,b6,?_,fun r ys hr0 py _=>?_⟩
 ·have:=v9 nd fun x hx=>(TS.a2p.mp ((mem x).mp hx).1:x∈ks)
  omega
 obtain⟨zs,rfl,pz⟩:=N0 py
 refine q r zs _ (((s1.trans s2).trans s3).trans (c9 hr0)) b6 (pz.nodup_iff.mpr nd) fun x=>?_
 rw[pz.mem_iff,mem,TS.a2p,TS.a2p]
inductive a5D(K:PySem.W.Frag)(vs:List V)(H:Hp)(Q:VK):Prop
 | mk (one other:Rec) (x y:V) (g:Addr) (gs:List Str) (why:Str) (x0:vs=[x,y,.ref g,.str why]) (x1:RecAt K H one x) (x2:RecAt K H other y) (x3:d9 K H g (gs.map V.str)) (x4:gs.length≤900) (xq:∀(r:Addr) (ys:List V) (H':Hp),h7 H H'→H' r=some (.lst ys)→u3 H' (part one.num other.num why gs) ys→Q (.ref r) H')
def a0K(K:PySem.W.Frag):Sp:=fun vs H Q _=>a5D K vs H Q
theorem a2a(T:z8 K mg t):g7 P w K mg base x9 1 t.f_links_for t.d_links_for ["one","other","goods","why"] (a0K K):=by
 refine T.F_links_for.ok a6K (fun vs H Q E h=>?_) (fun cdv A outer s H vs Q E hr h=>?_)
 ·obtain⟨one,other,x,y,g,gs,why,rfl,_⟩:=h
  rfl
 obtain⟨one,other,x,y,g,gs,why,rfl,⟨b1,la1,pa1,rfl,t1,_,_⟩,⟨b2,la2,pa2,rfl,t2,_,_⟩,hG,lg,q⟩:=h
 refine⟨_,(d6 (i3 (Q9 rfl (u4 (pv 2)) (J8.mk (own:=["good"]) (tl:=["one","other","goods","why"]) rfl rfl rfl (fun _ _ _ _ _=>(l4 (i:=0) (a0A) rfl (Or.inl rfl))) (fun _ _ _ _ _=>a7l) (fun _ _ _ _ _=>(p6 (a6 (d7 O6 (pv 1) (u9 rfl T.m_NUMBER T.r_NUMBER) (fun _ _=>rfl)) (a6 (d7 O6 (pv 2) (u9 rfl T.m_NUMBER T.r_NUMBER) (fun _ _=>rfl)) (a6 (pv 0) (a6 (pv 4) b7)))))))))),?_⟩
 refine⟨_,rfl,g,rfl,⟨_,hG⟩,fun acc hacc=>?_⟩
 refine J7 (xs:=gs.map V.str) (fun i H'=>h7 H H'∧∃ys,H' acc=some (.lst ys)∧u3 H' (part one.num other.num why (gs.take i)) ys) ⟨c9 hacc,[],b6,.nil⟩ (fun i H' _ h=>?_) (fun i x H' hx h=>?_) (fun H' h=>?_)
 ·exact hG.same h.1
 ·obtain⟨sm,ys,ha,hL⟩:=h
  rw[List.getElem?_map]at hx
  obtain⟨gd,hgd,rfl⟩:=Option.map_eq_some_iff.mp hx
  have hi:i<gs.length:=(List.getElem?_eq_some_iff.mp hgd).1
  refine⟨_,rfl,b1,_,0,.int one.num,rfl,rfl,t1.same sm,rfl,_,rfl,b2,_,0,.int other.num,rfl,rfl,t2.same sm,rfl,_,rfl,_,rfl,(by show 4≤sizeLine;decide),fun p hp=>?_⟩
  have ly:ys.length≤i:=by rw[hL.len];simp only[part,List.length_map,List.length_take];omega
  have npa:p≠acc:=fun e=>by rw[e,ha]at hp;cases hp
  have ha2:upd H' p (.tup [.int one.num,.int other.num,.str gd,.str why]) acc=some (.lst ys):=c9 hp _ _ ha
  refine⟨ys,ha2,L0 (by omega),l8 (sm.trans (c9 hp)) hacc,_,b6,?_⟩
  have e:part one.num other.num why (gs.take (i+1))=part one.num other.num why (gs.take i)++[(one.num,other.num,gd,why)]:=by
   rw[List.take_add_one,hgd]
   simp only[part,Option.toList_some,List.map_append,List.map_cons,List.map_nil]
  rw[e]
  have k1:r9 H' (upd (upd H' p (.tup [.int one.num,.int other.num,.str gd,.str why])) acc (.lst (ys++[.ref p]))):=(G5 hp).trans (n5 ha2)
  exact(hL.tupK k1).snoc ⟨p,rfl,by rw[b8 npa];exact b6⟩
 ·obtain⟨sm,ys,ha,hL⟩:=h
  rw[List.length_map,List.take_length]at hL
  exact q acc ys H' sm ha hL
inductive a7m(K:PySem.W.Frag)(vs:List V)(H:Hp)(Q:VK):Prop
 | mk (one other:Rec) (x y:V) (x0:vs=[x,y]) (x1:RecAt K H one x) (x2:RecAt K H other y) (x3:one.put.length≤63) (x4:one.looked.length≤63) (x5:other.put.length≤63) (x6:other.looked.length≤63) (xq:∀(r:Addr) (ys:List V) (ls:List Lk) (H':Hp),h7 H H'→H' r=some (.lst ys)→u3 H' ls ys→LB one other ls→Q (.ref r) H')
def a5r(K:PySem.W.Frag):Sp:=fun vs H Q _=>a7m K vs H Q
def Btw(H:Hp)(l:Addr)(ls:List Lk)(H':Hp):Prop:=h7 H H'∧∃ys,H' l=some (.lst ys)∧u3 H' ls ys
theorem Btw.grow{H H1 H2:Hp}{l r:Addr}{ls ms:List Lk}{ys:List V}(hl:H l=none)(b:Btw H l ls H1)(s:h7 H1 H2)(hr:H2 r=some (.lst ys))(hm:u3 H2 ms ys)(hz:ls.length+ms.length≤100000)(Q:Hp→Prop)(q:∀H3,Btw H l (ls++ms) H3→Q H3) :
  ∃l' b' xs zs,V.ref l=V.ref l'∧[V.ref r]=[V.ref b']∧H2 l'=some (.lst xs)∧H2 b'=some (.lst zs)∧xs.length+zs.length≤sizeLine∧Q (upd H2 l' (.lst (xs++zs))):=by
 obtain⟨s1,xs,h1,h2⟩:=b
 have e1:H2 l=some (.lst xs):=s _ _ h1
 refine⟨l,r,xs,ys,rfl,rfl,e1,hr,?_,q _ ⟨l8 (s1.trans s) hl,_,b6,?_⟩⟩
 ·rw[h2.len,hm.len,sizeLine_eq];omega
 ·exact u3.append (hm.tupK (n5 e1)) ((h2.tupK s.tupK).tupK (n5 e1))
theorem a5c{c:Prop}(h:¬c)(as bs:List Str):V5 c as bs []:=⟨by simp,fun x=>⟨fun z=>by simp at z,fun z=>absurd z.1 h⟩⟩
theorem a3f{c:Prop}(h:c){as bs gs:List Str}(n:gs.Nodup)(m:∀x,x∈gs↔x∈as∧x∈bs):V5 c as bs gs:=⟨n,fun x=>⟨fun z=>⟨h,(m x).mp z⟩,fun z=>(m x).mpr z.2⟩⟩
theorem a6G(n m:Int)(why:Str):part n m why []=[]:=rfl
theorem a4a(T:z8 K mg t):g7 P w K mg base x9 2 t.f_links_between t.d_links_between ["one","other"] (a5r K):=by
 refine T.F_links_between.ok a6a (fun vs H Q E h=>?_) (fun cdv A outer s H vs Q E hr h=>?_)
 ·obtain⟨one,other,x,y,rfl,_⟩:=h
  rfl
 obtain⟨one,other,x,y,rfl,R1,R2,p1,k1,p2,k2,q⟩:=h
 obtain⟨b1,la1,pa1,rfl,t1,l1,u1⟩:=id R1
 obtain⟨b2,la2,pa2,rfl,t2,l2,u2⟩:=id R2
 refine⟨_,(b9 (g6 (i:=2) a6a.nd rfl (Or.inl rfl) (j8 b7))
 (b9 (N5 (j9 (f6 Y0 (d7 e7 (pv 0) (u9 rfl T.m_ENDED T.r_ENDED) (fun _ _=>rfl)) (d7 e7 (pv 1) (u9 rfl T.m_ENDED T.r_ENDED) (fun _ _=>rfl)) (i9 _))
 (d6 (l6 (v3 PySem.F.plainAttrs_list PySem.F.slot_list_extend PySem.F.type_list_extend V8 (pv 2) (a6 (j4 (g7.mono (k:=1) (a2a T) (by decide)) hr rfl T.m_links_for T.F_links_for.kp T.F_links_for.b .nil j7 (a6 (pv 0) (a6 (pv 1) (a6 (j4 (g7.mono (k:=1) (a8f T) (by decide)) hr rfl T.m_in_both T.F_in_both.kp T.F_in_both.b .nil j7 (a6 (d7 e7 (pv 0) (u9 rfl T.m_PUT T.r_PUT) (fun _ _=>rfl)) (a6 (d7 e7 (pv 1) (u9 rfl T.m_PUT T.r_PUT) (fun _ _=>rfl)) b7))) (a6 i7 b7))))) b7))))
 j1))
 (b9 (N5 (j9 (f6 a7E (d7 e7 (pv 0) (u9 rfl T.m_ENDED T.r_ENDED) (fun _ _=>rfl)) (d7 e7 (pv 1) (u9 rfl T.m_BEGAN T.r_BEGAN) (fun _ _=>rfl)) (i9 _))
 (d6 (l6 (v3 PySem.F.plainAttrs_list PySem.F.slot_list_extend PySem.F.type_list_extend V8 (pv 2) (a6 (j4 (g7.mono (k:=1) (a2a T) (by decide)) hr rfl T.m_links_for T.F_links_for.kp T.F_links_for.b .nil j7 (a6 (pv 0) (a6 (pv 1) (a6 (j4 (g7.mono (k:=1) (a8f T) (by decide)) hr rfl T.m_in_both T.F_in_both.kp T.F_in_both.b .nil j7 (a6 (d7 e7 (pv 0) (u9 rfl T.m_PUT T.r_PUT) (fun _ _=>rfl)) (a6 (d7 e7 (pv 1) (u9 rfl T.m_LOOKED T.r_LOOKED) (fun _ _=>rfl)) b7))) (a6 i7 b7))))) b7))))
 j1))
 (b9 (N5 (j9 (f6 a8r (d7 e7 (pv 1) (u9 rfl T.m_ENDED T.r_ENDED) (fun _ _=>rfl)) (d7 e7 (pv 0) (u9 rfl T.m_BEGAN T.r_BEGAN) (fun _ _=>rfl)) (i9 _))
 (d6 (l6 (v3 PySem.F.plainAttrs_list PySem.F.slot_list_extend PySem.F.type_list_extend V8 (pv 2) (a6 (j4 (g7.mono (k:=1) (a2a T) (by decide)) hr rfl T.m_links_for T.F_links_for.kp T.F_links_for.b .nil j7 (a6 (pv 0) (a6 (pv 1) (a6 (j4 (g7.mono (k:=1) (a8f T) (by decide)) hr rfl T.m_in_both T.F_in_both.kp T.F_in_both.b .nil j7 (a6 (d7 e7 (pv 0) (u9 rfl T.m_LOOKED T.r_LOOKED) (fun _ _=>rfl)) (a6 (d7 e7 (pv 1) (u9 rfl T.m_PUT T.r_PUT) (fun _ _=>rfl)) b7))) (a6 i7 b7))))) b7))))
 j1))
 (d6 (i3 (pv 2))))))),?_⟩
 refine⟨(by show 0≤sizeLine;decide),fun l hl=>?_⟩
 have B0:Btw H l [] (upd H l (.lst [])):=⟨c9 hl,[],b6,.nil⟩
 refine⟨fun σ' H'=>∃g1,σ'=[some (.ref b1),some (.ref b2),some (.ref l)]∧Btw H l (part one.num other.num "over" g1) H'∧V5 (one.fin<other.fin) one.put other.put g1∧g1.length≤63,?_,?_⟩
 ·refine⟨_,rfl,b1,_,2,_,rfl,rfl,t1.same B0.1,rfl,_,rfl,b2,_,2,_,rfl,rfl,t2.same B0.1,rfl,_,_,rfl,rfl,_,rfl,?_⟩
  refine G8 (fun c=>?_) (fun c=>?_)
  ·have c':one.fin<other.fin:=of_decide_eq_true c
   refine⟨_,rfl,.inl ⟨rfl,_,d9.of B0.2.choose_spec.1⟩,_,rfl,_,rfl,_,rfl,b1,_,4,_,rfl,rfl,t1.same B0.1,rfl,_,rfl,b2,_,4,_,rfl,rfl,t2.same B0.1,rfl,pa1,pa2,one.put,other.put,rfl,u1.same B0.1,u2.same B0.1,by omega,by omega,fun r rs Ha sa ha na ma=>?_⟩
   have lr:rs.length≤one.put.length:=v9 na fun x hx=>((ma x).mp hx).1
   refine⟨one,other,.ref b1,.ref b2,r,rs,_,rfl,(R1.same B0.1).same sa,(R2.same B0.1).same sa,d9.of ha,by omega,fun r2 ys Hb sb hb Lb=>?_⟩
   exact B0.grow hl (sa.trans sb) hb Lb (by simp[part];omega) _ fun H3 B3=>⟨rs,rfl,B3,a3f c' na ma,by omega⟩
  ·have c':¬one.fin<other.fin:=of_decide_eq_false (Bool.eq_false_iff.mpr c)
   exact⟨[],rfl,B0,a5c c' _ _,Nat.zero_le _⟩
 rintro σ1 H1 ⟨g1,rfl,B1,M1,z1⟩
 refine⟨fun σ' H'=>∃g2,σ'=[some (.ref b1),some (.ref b2),some (.ref l)]∧Btw H l (part one.num other.num "over" g1++part one.num other.num "saw" g2) H'∧V5 (one.fin≤other.beg) one.put other.looked g2∧g2.length≤63,?_,?_⟩
 ·refine⟨_,rfl,b1,_,2,_,rfl,rfl,t1.same B1.1,rfl,_,rfl,b2,_,1,_,rfl,rfl,t2.same B1.1,rfl,_,_,rfl,rfl,_,rfl,?_⟩
  refine G8 (fun c=>?_) (fun c=>?_)
  ·have c':one.fin≤other.beg:=of_decide_eq_true c
   refine⟨_,rfl,.inl ⟨rfl,_,d9.of B1.2.choose_spec.1⟩,_,rfl,_,rfl,_,rfl,b1,_,4,_,rfl,rfl,t1.same B1.1,rfl,_,rfl,b2,_,3,_,rfl,rfl,t2.same B1.1,rfl,pa1,la2,one.put,other.looked,rfl,u1.same B1.1,l2.same B1.1,by omega,by omega,fun r rs Ha sa ha na ma=>?_⟩
   have lr:rs.length≤one.put.length:=v9 na fun x hx=>((ma x).mp hx).1
   refine⟨one,other,.ref b1,.ref b2,r,rs,_,rfl,(R1.same B1.1).same sa,(R2.same B1.1).same sa,d9.of ha,by omega,fun r2 ys Hb sb hb Lb=>?_⟩
   exact B1.grow hl (sa.trans sb) hb Lb (by simp[part];omega) _ fun H3 B3=>⟨rs,rfl,B3,a3f c' na ma,by omega⟩
  ·have c':¬one.fin≤other.beg:=of_decide_eq_false (Bool.eq_false_iff.mpr c)
   exact⟨[],rfl,by rw[a6G,List.append_nil];exact B1,a5c c' _ _,Nat.zero_le _⟩
 rintro σ2 H2 ⟨g2,rfl,B2,M2,z2⟩
 refine⟨fun σ' H'=>∃g3,σ'=[some (.ref b1),some (.ref b2),some (.ref l)]∧Btw H l (part one.num other.num "over" g1++part one.num other.num "saw" g2++part one.num other.num "missed" g3) H'∧V5 (one.beg<other.fin) one.looked other.put g3,?_,?_⟩
 ·refine⟨_,rfl,b2,_,2,_,rfl,rfl,t2.same B2.1,rfl,_,rfl,b1,_,1,_,rfl,rfl,t1.same B2.1,rfl,_,_,rfl,rfl,_,rfl,?_⟩
  refine G8 (fun c=>?_) (fun c=>?_)
  ·have c':one.beg<other.fin:=of_decide_eq_true c
   refine⟨_,rfl,.inl ⟨rfl,_,d9.of B2.2.choose_spec.1⟩,_,rfl,_,rfl,_,rfl,b1,_,3,_,rfl,rfl,t1.same B2.1,rfl,_,rfl,b2,_,4,_,rfl,rfl,t2.same B2.1,rfl,la1,pa2,one.looked,other.put,rfl,l1.same B2.1,u2.same B2.1,by omega,by omega,fun r rs Ha sa ha na ma=>?_⟩
   have lr:rs.length≤one.looked.length:=v9 na fun x hx=>((ma x).mp hx).1
   refine⟨one,other,.ref b1,.ref b2,r,rs,_,rfl,(R1.same B2.1).same sa,(R2.same B2.1).same sa,d9.of ha,by omega,fun r2 ys Hb sb hb Lb=>?_⟩
   exact B2.grow hl (sa.trans sb) hb Lb (by simp[part];omega) _ fun H3 B3=>⟨rs,rfl,B3,a3f c' na ma⟩
  ·have c':¬one.beg<other.fin:=of_decide_eq_false (Bool.eq_false_iff.mpr c)
   exact⟨[],rfl,by rw[a6G,List.append_nil];exact B2,a5c c' _ _⟩
 rintro σ3 H3 ⟨g3,rfl,⟨s3,ys,h3,L3⟩,M3⟩
 exact⟨_,rfl,q l ys _ H3 s3 h3 L3 ⟨g1,g2,g3,rfl,M1,M2,M3⟩⟩
structure Dl where
 num:Int
 beg:Int
 looked:List Str
 aside:Am
abbrev K1:=List (Str×List (Int×Int))
structure k8 where
 begun:Nat
 under:List Dl
 vers:K1
 recs:List Rec
 links:List Lk
 row:List Int
def R8(ks:List Str):List (Key×V):=ks.map fun k=>(Sum.inr k,V.bl true)
def K7(ks:List Str)(g:Str):List Str:=if g∈ks then ks else ks++[g]
theorem b9h(ks:List Str)(g:Str):putK (R8 ks) (Sum.inr g) (V.bl true)=R8 (K7 ks g):=by
 unfold putK K7
 have e:(R8 ks).any (fun kv=>decide (kv.1=(Sum.inr g:Key)))=decide (g∈ks):=by
  unfold R8
  rw[List.any_map]
  induction ks with
  | nil=>rfl
  | cons k ks ih=>
   rw[List.any_cons,ih]
   show(decide ((Sum.inr k:Key)=Sum.inr g)||_)=_
   rw[a3l]
   by_cases z:k=g
   ·subst z;simp
   ·have z':¬g=k:=fun w=>z w.symm
    simp[z,z']
 rw[e]
 by_cases c:g∈ks
 ·rw[if_pos (by simpa using c),if_pos c]
  unfold R8
  rw[List.map_map]
  refine List.map_congr_left fun k _=>?_
  show(if (Sum.inr k:Key)=Sum.inr g then _ else _)=_
  split<;>rfl
 ·rw[if_neg (by simpa using c),if_neg c]
  unfold R8
  rw[List.map_append];rfl
theorem b1l(ks:List Str):(R8 ks).length=ks.length:=List.length_map _
theorem a1J(ks:List Str):((R8 ks).map fun q=>kV q.1)=ks.map V.str:=by unfold R8;rw[List.map_map];rfl
theorem a1O(m:Am):(M5 m).length=m.length:=List.length_map _
theorem a4G(m:Am):((M5 m).map fun q=>kV q.1)=(m.map (·.1)).map V.str:=by unfold M5;rw[List.map_map,List.map_map];rfl
inductive Role where
 | free | tally | under | vers | recs | fz
 | deal (n:Int)
 | look (n:Int)
 | side (n:Int)
 | vl (g:Str)
 deriving DecidableEq
structure Gh where
 rl:Addr→Role
 dx:Addr
 U:Addr
 Vd:Addr
 R:Addr
 L:Addr
 W:Addr
 dp:Int→Addr
 dd:Int→Addr
 lk:Int→Addr
 as:Int→Addr
 vl:Str→Addr
def C2(b:Int)(U Vd R L W:Addr):List (Str×V):=[("begun",.int b),("under_way",.ref U),("versions",.ref Vd),("records",.ref R),("links",.ref L),("row",.ref W)]
def Y2(n b:Int)(lk as:Addr):List (Str×V):=[("number",.int n),("began",.int b),("looked",.ref lk),("aside",.ref as)]
structure a0Q(CD:Addr)(G:Gh)(H:Hp)(d:Dl):Prop where
 ob:H (G.dp d.num)=some (.ins CD (G.dd d.num) (Y2 d.num d.beg (G.lk d.num) (G.as d.num)))
 lk:H (G.lk d.num)=some (.dK (R8 d.looked))
 as:H (G.as d.num)=some (.dK (M5 d.aside))
 r1:G.rl (G.dp d.num)=.deal d.num
 r2:G.rl (G.lk d.num)=.look d.num
 r3:G.rl (G.as d.num)=.side d.num
def VAt(H:Hp)(p:Int×Int)(x:V):Prop:=∃b,x=.ref b∧H b=some (.tup [.int p.1,.int p.2])
def RcAt(rl:Addr→Role)(H:Hp)(r:Rec)(x:V):Prop:=∃b la pa,x=.ref b∧H b=some (.tup [.int r.num,.int r.beg,.int r.fin,.ref la,.ref pa])∧H la=some (.lst (r.looked.map V.str))∧H pa=some (.lst (r.put.map V.str))∧rl la=.fz∧rl pa=.fz
theorem RcAt.rec{K:PySem.W.Frag}{rl:Addr→Role}{H:Hp}{r:Rec}{x:V}(h:RcAt rl H r x):RecAt K H r x:=
 let ⟨b,la,pa,e,h1,h2,h3,_⟩:=h;⟨b,la,pa,e,f7.of h1,d9.of h2,d9.of h3⟩
theorem a4r{K:PySem.W.Frag}{rl:Addr→Role}{H:Hp}:∀{rs:List Rec} {xs:List V},Paired (RcAt rl H) rs xs→m7 K H (rs.map rd) xs
 | _,_,.nil=>rfl
 | _,_,.cons h t=>⟨_,_,rfl,a3d.mpr h.rec,a4r t⟩
theorem a9o{K:PySem.W.Frag}{H:Hp}:∀{ps:List (Int×Int)} {xs:List V},Paired (VAt H) ps xs→m7 K H (ps.map pd) xs
 | _,_,.nil=>rfl
 | _,_,.cons ⟨b,e,h⟩ t=>⟨_,_,rfl,by subst e;exact b5o (f7.of h),a9o t⟩
theorem z9{H H':Hp}(k:r9 H H'){ps:List (Int×Int)}{xs:List V}(h:Paired (VAt H) ps xs):Paired (VAt H') ps xs:=Paired.mapP h fun _ _ ⟨b,e,h⟩=>⟨b,e,k.1 _ _ h⟩
structure TA(CT CD:Addr)(G:Gh)(H:Hp)(p:Addr)(st:k8):Prop where
 ob:H p=some (.ins CT G.dx (C2 (st.begun:Int) G.U G.Vd G.R G.L G.W))
 un:H G.U=some (.dK (j5 (st.under.map (·.num)) fun n=>.ref (G.dp n)))
 ve:H G.Vd=some (.dK (st.vers.map fun q=>((Sum.inr q.1:Key),V.ref (G.vl q.1))))
 rc:∃xs,H G.R=some (.lst xs)∧Paired (RcAt G.rl H) st.recs xs
 ln:∃xs,H G.L=some (.lst xs)∧u3 H st.links xs
 rw:H G.W=some (.lst (st.row.map V.int))
 dl:∀d∈st.under,a0Q CD G H d
 vl:∀q∈st.vers,∃xs,H (G.vl q.1)=some (.lst xs)∧Paired (VAt H) q.2 xs∧G.rl (G.vl q.1)=.vl q.1
 r0:G.rl p=.tally
 r1:G.rl G.U=.under
 r2:G.rl G.Vd=.vers
 r3:G.rl G.R=.recs
 r4:G.rl G.L=.fz
 r5:G.rl G.W=.fz
 nd:(st.under.map (·.num)).Nodup
 vd:(st.vers.map (·.1)).Nodup
 cl:∀b,H b=none→G.rl b=.free
theorem j2{H H':Hp}{b:Addr}(s:h7 H H')(h:H' b=none):H b=none:=by
 cases z:H b with
 | none=>rfl
 | some o=>rw[s _ _ z]at h;cases h
theorem r8{H:Hp}{a b:Addr}{o:HO}(h:upd H a o b=none):H b=none:=by
 by_cases c:b=a
 ·rw[c,b6]at h;cases h
 ·rw[b8 c]at h;exact h
structure Kp(G:Gh)(H:Hp)(G':Gh)(H':Hp):Prop where
 keep:∀b o,G.rl b=.free→H b=some o→H' b=some o
 tup:r9 H H'
 out:∀b o,G.rl b=.free→H b=some o→G'.rl b=.free
 dom:∀b,H' b=none→H b=none
theorem Kp.refl(G:Gh)(H:Hp):Kp G H G H:=⟨fun _ _ _ h=>h,r9.refl H,fun _ _ h _=>h,fun _ h=>h⟩
theorem Kp.trans{G G1 G2:Gh}{H H1 H2:Hp}(a:Kp G H G1 H1)(b:Kp G1 H1 G2 H2):Kp G H G2 H2:=
 ⟨fun c o f h=>b.keep c o (a.out c o f h) (a.keep c o f h),a.tup.trans b.tup,fun c o f h=>b.out c o (a.out c o f h) (a.keep c o f h),fun c h=>a.dom c (b.dom c h)⟩
theorem Kp.same{G:Gh}{H H':Hp}(s:h7 H H'):Kp G H G H':=⟨fun b o _ h=>s b o h,s.tupK,fun _ _ f _=>f,fun _ h=>j2 s h⟩
theorem RcAt.same{rl:Addr→Role}{H H':Hp}{r:Rec}{x:V}(s:h7 H H')(h:RcAt rl H r x):RcAt rl H' r x:=
 let ⟨b,la,pa,e,h1,h2,h3,h4,h5⟩:=h;⟨b,la,pa,e,s _ _ h1,s _ _ h2,s _ _ h3,h4,h5⟩
section
variable{CT CD p:Addr}{G:Gh}{H H':Hp}{st:k8}
theorem a0Q.same{d:Dl}(h:a0Q CD G H d)(s:h7 H H'):a0Q CD G H' d:=⟨s _ _ h.ob,s _ _ h.lk,s _ _ h.as,h.r1,h.r2,h.r3⟩
theorem TA.same(h:TA CT CD G H p st)(s:h7 H H'):TA CT CD G H' p st where
 ob:=s _ _ h.ob
 un:=s _ _ h.un
 ve:=s _ _ h.ve
 rc:=let ⟨xs,h1,h2⟩:=h.rc;⟨xs,s _ _ h1,Paired.mapP h2 fun _ _ z=>z.same s⟩
 ln:=let ⟨xs,h1,h2⟩:=h.ln;⟨xs,s _ _ h1,h2.tupK s.tupK⟩
 rw:=s _ _ h.rw
 dl:=fun d hd=>(h.dl d hd).same s
 vl:=fun q hq=>let ⟨xs,h1,h2,h3⟩:=h.vl q hq;⟨xs,s _ _ h1,z9 s.tupK h2,h3⟩
 r0:=h.r0
 r1:=h.r1
 r2:=h.r2
 r3:=h.r3
 r4:=h.r4
 r5:=h.r5
 nd:=h.nd
 vd:=h.vd
 cl:=fun b e=>h.cl b (j2 s e)
theorem a9e{a b:Addr}{ρ σ:Role}(h:G.rl b=σ)(k:G.rl a=ρ)(n:σ≠ρ):b≠a:=fun z=>n (by rw[←h,←k,z])
theorem d8{a b:Addr}{o u:HO}{ρ σ:Role}(e:H b=some u)(h:G.rl b=σ)(k:G.rl a=ρ)(n:σ≠ρ):upd H a o b=some u:=by rw[b8 (a9e h k n)];exact e
theorem RcAt.upd{a:Addr}{o:HO}{ρ:Role}{r:Rec}{x:V}(h:RcAt G.rl H r x)(k:G.rl a=ρ)(n:Role.fz≠ρ)(t:r9 H (L2.upd H a o)):RcAt G.rl (L2.upd H a o) r x:=
 let ⟨b,la,pa,e,h1,h2,h3,h4,h5⟩:=h;⟨b,la,pa,e,t.1 _ _ h1,d8 h2 h4 k n,d8 h3 h5 k n,h4,h5⟩
theorem Kp.upd{a:Addr}{o:HO}(k:G.rl a≠.free)(t:r9 H (L2.upd H a o)):Kp G H G (L2.upd H a o):=
 ⟨fun b u f h=>by rw[b8 fun z=>k (by rw[←z];exact f)];exact h,t,fun _ _ f _=>f,fun _ h=>r8 h⟩
def C8(ds:List Dl)(n:Int)(f:Dl→Dl):List Dl:=ds.map fun d=>if d.num=n then f d else d
def T3(g:Str)(e:Dl):Dl:={ e with looked:=K7 e.looked g }
def T5(g:Str)(a:Int)(e:Dl):Dl:={ e with aside:=P1 e.aside g a }
theorem Q1{ds:List Dl}{n:Int}{f:Dl→Dl}(hf:∀d,(f d).num=d.num):(C8 ds n f).map (·.num)=ds.map (·.num):=by
 unfold C8;rw[List.map_map]
 refine List.map_congr_left fun d _=>?_
 show(if d.num=n then f d else d).num=d.num
 split
 ·exact hf d
 ·rfl
theorem O2{ds:List Dl}(nd:(ds.map (·.num)).Nodup){d e:Dl}(hd:d∈ds)(he:e∈ds)(h:d.num=e.num):d=e:=by
 obtain⟨i,hi⟩:=List.mem_iff_getElem?.mp hd
 obtain⟨j,hj⟩:=List.mem_iff_getElem?.mp he
 have li:=(List.getElem?_eq_some_iff.mp hi).1
 have:i=j:=(List.getElem?_inj (l:=ds.map (·.num)) (by rw[List.length_map];exact li) nd).mp (by rw[List.getElem?_map,List.getElem?_map,hi,hj];simp[h])
 subst this
 rw[hi]at hj;exact Option.some.inj hj
theorem TA.setLook(h:TA CT CD G H p st){d:Dl}(hd:d∈st.under)(g:Str) :
  TA CT CD G (upd H (G.lk d.num) (.dK (R8 (K7 d.looked g)))) p { st with under:=C8 st.under d.num (T3 g) }∧Kp G H G (upd H (G.lk d.num) (.dK (R8 (K7 d.looked g)))):=by
 have D:=h.dl d hd
 have t:r9 H (upd H (G.lk d.num) (.dK (R8 (K7 d.looked g)))):=K3 D.lk
 refine⟨⟨d8 h.ob h.r0 D.r2 (by simp),?_,d8 h.ve h.r2 D.r2 (by simp),?_,?_,d8 h.rw h.r5 D.r2 (by simp),fun e he=>?_,fun q hq=>?_,h.r0,h.r1,h.r2,h.r3,h.r4,h.r5,?_,h.vd,fun b e=>h.cl b (r8 e)⟩,Kp.upd (by rw[D.r2];simp) t⟩
 ·show upd H _ _ _=some (.dK (j5 ((C8 st.under d.num _).map (·.num)) _))
  rw[Q1 (f:=T3 g) fun _=>rfl]
  exact d8 h.un h.r1 D.r2 (by simp)
 ·obtain⟨xs,h1,h2⟩:=h.rc
  exact⟨xs,d8 h1 h.r3 D.r2 (by simp),Paired.mapP h2 fun _ _ z=>z.upd D.r2 (by simp) t⟩
 ·obtain⟨xs,h1,h2⟩:=h.ln
  exact⟨xs,d8 h1 h.r4 D.r2 (by simp),h2.tupK t⟩
 ·obtain⟨e',he',rfl⟩:=List.mem_map.mp he
  have E:=h.dl e' he'
  by_cases c:e'.num=d.num
  ·have:e'=d:=O2 h.nd he' hd c
   subst this
   rw[if_pos rfl]
   exact⟨d8 E.ob E.r1 E.r2 (by simp),b6,d8 E.as E.r3 E.r2 (by simp),E.r1,E.r2,E.r3⟩
  ·rw[if_neg c]
   exact⟨d8 E.ob E.r1 D.r2 (by simp),d8 E.lk E.r2 D.r2 (by simpa using c),d8 E.as E.r3 D.r2 (by simp),E.r1,E.r2,E.r3⟩
 ·obtain⟨xs,h1,h2,h3⟩:=h.vl q hq
  exact⟨xs,d8 h1 h3 D.r2 (by simp),z9 t h2,h3⟩
 ·show((C8 st.under d.num _).map (·.num)).Nodup
  rw[Q1 (f:=T3 g) fun _=>rfl];exact h.nd
theorem TA.setSide(h:TA CT CD G H p st){d:Dl}(hd:d∈st.under)(g:Str)(a:Int) :
  TA CT CD G (upd H (G.as d.num) (.dK (M5 (P1 d.aside g a)))) p { st with under:=C8 st.under d.num (T5 g a) }∧Kp G H G (upd H (G.as d.num) (.dK (M5 (P1 d.aside g a)))):=by
 have D:=h.dl d hd
 have t:r9 H (upd H (G.as d.num) (.dK (M5 (P1 d.aside g a)))):=K3 D.as
 refine⟨⟨d8 h.ob h.r0 D.r3 (by simp),?_,d8 h.ve h.r2 D.r3 (by simp),?_,?_,d8 h.rw h.r5 D.r3 (by simp),fun e he=>?_,fun q hq=>?_,h.r0,h.r1,h.r2,h.r3,h.r4,h.r5,?_,h.vd,fun b e=>h.cl b (r8 e)⟩,Kp.upd (by rw[D.r3];simp) t⟩
 ·show upd H _ _ _=some (.dK (j5 ((C8 st.under d.num _).map (·.num)) _))
  rw[Q1 (f:=T5 g a) fun _=>rfl]
  exact d8 h.un h.r1 D.r3 (by simp)
 ·obtain⟨xs,h1,h2⟩:=h.rc
  exact⟨xs,d8 h1 h.r3 D.r3 (by simp),Paired.mapP h2 fun _ _ z=>z.upd D.r3 (by simp) t⟩
 ·obtain⟨xs,h1,h2⟩:=h.ln
  exact⟨xs,d8 h1 h.r4 D.r3 (by simp),h2.tupK t⟩
 ·obtain⟨e',he',rfl⟩:=List.mem_map.mp he
  have E:=h.dl e' he'
  by_cases c:e'.num=d.num
  ·have:e'=d:=O2 h.nd he' hd c
   subst this
   rw[if_pos rfl]
   exact⟨d8 E.ob E.r1 E.r3 (by simp),d8 E.lk E.r2 E.r3 (by simp),b6,E.r1,E.r2,E.r3⟩
  ·rw[if_neg c]
   exact⟨d8 E.ob E.r1 D.r3 (by simp),d8 E.lk E.r2 D.r3 (by simp),d8 E.as E.r3 D.r3 (by simpa using c),E.r1,E.r2,E.r3⟩
 ·obtain⟨xs,h1,h2,h3⟩:=h.vl q hq
  exact⟨xs,d8 h1 h3 D.r3 (by simp),z9 t h2,h3⟩
 ·show((C8 st.under d.num _).map (·.num)).Nodup
  rw[Q1 (f:=T5 g a) fun _=>rfl];exact h.nd
def X7(ds:List Dl)(n:Int):List Dl:=ds.filter fun d=>decide (d.num≠n)
theorem a2G(ks:List Int)(g:Int→V)(n:Int):C4 (j5 ks g) (Sum.inl n)=j5 (ks.filter fun k=>decide (k≠n)) g:=by
 unfold C4 j5
 rw[List.filter_map]
 congr 1
 refine List.filter_congr fun k _=>?_
 show decide ((Sum.inl k:Key)≠Sum.inl n)=decide (k≠n)
 by_cases e:k=n
 ·subst e;simp
 ·rw[decide_eq_true e,decide_eq_true]
  exact fun z=>e (Sum.inl.inj z)
theorem a8z(ds:List Dl)(n:Int):(X7 ds n).map (·.num)=(ds.map (·.num)).filter fun k=>decide (k≠n):=by
 unfold X7;rw[List.filter_map];rfl
theorem TA.drop(h:TA CT CD G H p st)(n:Int):TA CT CD G (upd H G.U (.dK (C4 (j5 (st.under.map (·.num)) fun n=>.ref (G.dp n)) (Sum.inl n)))) p { st with under:=X7 st.under n }∧Kp G H G (upd H G.U (.dK (C4 (j5 (st.under.map (·.num)) fun n=>.ref (G.dp n)) (Sum.inl n)))):=by
 have t:∀o,r9 H (upd H G.U o):=fun o=>K3 h.un
 refine⟨⟨d8 h.ob h.r0 h.r1 (by simp),?_,d8 h.ve h.r2 h.r1 (by simp),?_,?_,d8 h.rw h.r5 h.r1 (by simp),fun e he=>?_,fun q hq=>?_,h.r0,h.r1,h.r2,h.r3,h.r4,h.r5,?_,h.vd,fun b e=>h.cl b (r8 e)⟩,Kp.upd (by rw[h.r1];simp) (t _)⟩
 ·rw[b6,a2G]
  show some (HO.dK (j5 _ _))=some (HO.dK (j5 ((X7 st.under n).map (·.num)) _))
  rw[a8z]
 ·obtain⟨xs,h1,h2⟩:=h.rc
  exact⟨xs,d8 h1 h.r3 h.r1 (by simp),Paired.mapP h2 fun _ _ z=>z.upd h.r1 (by simp) (t _)⟩
 ·obtain⟨xs,h1,h2⟩:=h.ln
  exact⟨xs,d8 h1 h.r4 h.r1 (by simp),h2.tupK (t _)⟩
 ·have E:=h.dl e (List.mem_filter.mp he).1
  exact⟨d8 E.ob E.r1 h.r1 (by simp),d8 E.lk E.r2 h.r1 (by simp),d8 E.as E.r3 h.r1 (by simp),E.r1,E.r2,E.r3⟩
 ·obtain⟨xs,h1,h2,h3⟩:=h.vl q hq
  exact⟨xs,d8 h1 h3 h.r1 (by simp),z9 (t _) h2,h3⟩
 ·show((X7 st.under n).map (·.num)).Nodup
  rw[a8z];exact h.nd.filter _
end
def LWs(r:Rec)(rs:List Rec)(cs:List (List Lk)):Prop:=Paired (fun(o:Rec) (c:List Lk)=>∃l1 l2,c=l1++l2∧LB r o l1∧LB o r l2) rs cs
inductive a2y(K:PySem.W.Frag)(vs:List V)(H:Hp)(Q:VK):Prop
 | mk (r:Rec) (x:V) (a:Addr) (rs:List Rec) (xs:List V) (x0:vs=[x,.ref a]) (x1:RecAt K H r x) (x2:d9 K H a xs) (x3:m7 K H (rs.map rd) xs) (x4:rs.length≤150) (x5:(∀o∈r::rs,o.put.length≤63∧o.looked.length≤63)) (xq:∀(l:Addr) (ys:List V) (cs:List (List Lk)) (H':Hp),h7 H H'→H l=none→H' l=some (.lst ys)→u3 H' cs.flatten ys→LWs r rs cs→Q (.ref l) H')
def a9C(K:PySem.W.Frag):Sp:=fun vs H Q _=>a2y K vs H Q
theorem a5z{r:Rec}{rs:List Rec}{cs:List (List Lk)}(h:LWs r rs cs)(hb:∀o∈r::rs,o.put.length≤63∧o.looked.length≤63):cs.flatten.length≤600*rs.length:=by
 induction h with
 | nil=>simp
 | @cons o c rs cs z t ih=>
  obtain⟨l1,l2,rfl,b1,b2⟩:=z
  have h1:=b1.len
  have h2:=b2.len
  have r1:=hb r List.mem_cons_self
  have r2:=hb o (List.mem_cons_of_mem _ List.mem_cons_self)
  have:=ih fun q hq=>hb q (by rcases List.mem_cons.mp hq with e | e;exact e▸List.mem_cons_self;exact List.mem_cons_of_mem _ (List.mem_cons_of_mem _ e))
  rw[List.flatten_cons,List.length_append,List.length_append,List.length_cons]
  omega
set_option maxHeartbeats 0 in
theorem a7C(T:z8 K mg t):g7 P w K mg base x9 3 t.f_links_with t.d_links_with ["record","others"] (a9C K):=by
 refine T.F_links_with.ok X4 (fun vs H Q E h=>?_) (fun cdv A outer s H vs Q E hr h=>?_)
 ·obtain⟨r,x,a,rs,xs,rfl,_⟩:=h
  rfl
 obtain⟨r,x,a,rs,xs,rfl,R1,hA,hR,z1,hb,q⟩:=h
 refine⟨_,(b9 (g6 (i:=2) X4.nd rfl (Or.inl rfl) (j8 b7))
 (b9 (z6 PassesOwn.never rfl (u4 (pv 1)) (l4 (i:=3) X4.nd rfl (Or.inl rfl))
 (b9 (l6 (v3 PySem.F.plainAttrs_list PySem.F.slot_list_extend PySem.F.type_list_extend V8 (pv 2) (a6 (j4 (g7.mono (k:=2) (a4a T) (by decide)) hr rfl T.m_links_between T.F_links_between.kp T.F_links_between.b .nil j7 (a6 (pv 0) (a6 (pv 3) b7))) b7)))
 (d6 (l6 (v3 PySem.F.plainAttrs_list PySem.F.slot_list_extend PySem.F.type_list_extend V8 (pv 2) (a6 (j4 (g7.mono (k:=2) (a4a T) (by decide)) hr rfl T.m_links_between T.F_links_between.kp T.F_links_between.b .nil j7 (a6 (pv 3) (a6 (pv 0) b7))) b7))))))
 (d6 (i3 (pv 2))))),?_⟩
 have lx:xs.length=rs.length:=by have:=hR.len;rw[List.length_map]at this;exact this.symm
 refine⟨(by show 0≤sizeLine;decide),fun l hl=>?_⟩
 refine⟨_,rfl,a,rfl,⟨_,hA.same (c9 hl)⟩,?_⟩
 refine A0 (xs:=xs) (fun i σ' H'=>∃(o3:Option V) (cs:List (List Lk)),σ'=[some x,some (.ref a),some (.ref l),o3]∧Btw H l cs.flatten H'∧LWs r (rs.take i) cs)
  ⟨none,[],rfl,⟨c9 hl,[],b6,.nil⟩,.nil⟩ (fun i σ' H' _ h=>?_) (fun i y σ' H' hy h=>?_) (fun σ' H' h=>?_)
 ·obtain⟨o3,cs,rfl,B,_⟩:=h
  exact hA.same B.1
 ·obtain⟨o3,cs,rfl,B,W⟩:=h
  obtain⟨o,ho,R2⟩:=b5i hR hy
  have hom:=List.mem_of_getElem? ho
  have br:=hb r List.mem_cons_self
  have bo:=hb o (List.mem_cons_of_mem _ hom)
  have li:=(List.getElem?_eq_some_iff.mp ho).1
  have lw:=a5z W fun q hq=>hb q (by rcases List.mem_cons.mp hq with e | e;exact e▸List.mem_cons_self;exact List.mem_cons_of_mem _ (List.mem_of_mem_take e))
  rw[List.length_take]at lw
  refine⟨_,rfl,.inl ⟨rfl,_,d9.of B.2.choose_spec.1⟩,_,rfl,_,rfl,r,o,x,y,rfl,R1.same B.1,R2.same B.1,br.1,br.2,bo.1,bo.2,fun r2 ys l1 H2 s2 h2 L2' b1=>?_⟩
  have z1':=b1.len
  refine B.grow hl s2 h2 L2' (by omega) _ fun H3 B3=>?_
  refine⟨_,rfl,.inl ⟨rfl,_,d9.of B3.2.choose_spec.1⟩,_,rfl,_,rfl,o,r,y,x,rfl,R2.same B3.1,R1.same B3.1,bo.1,bo.2,br.1,br.2,fun r3 zs l2 H4 s4 h4 L4 b2=>?_⟩
  have z2':=b2.len
  refine B3.grow hl s4 h4 L4 (by rw[List.length_append];omega) _ fun H5 B5=>?_
  have tk:rs.take (i+1)=rs.take i++[o]:=by rw[List.take_add_one,ho];rfl
  refine⟨_,cs++[l1++l2],rfl,?_,?_⟩
  ·rw[List.flatten_append,List.flatten_cons,List.flatten_nil,List.append_nil,←List.append_assoc];exact B5
  ·rw[tk];exact Paired.snoc W ⟨l1,l2,rfl,b1,b2⟩
 ·obtain⟨o3,cs,rfl,B,W⟩:=h
  rw[lx,List.take_length]at W
  obtain⟨sm,ys,h1,h2⟩:=B
  exact⟨_,rfl,q l ys cs H' sm hl h1 h2 W⟩
inductive a4R(K:PySem.W.Frag)(vs:List V)(H:Hp)(Q:VK):Prop
 | mk (a:Addr) (n:Int) (zs:List V) (rg:List Lk) (j:Nat) (x0:vs=[.ref a,.int n]) (x1:H a=some (.lst zs)) (x2:u3 H rg zs) (x3:rg.length≤100000) (x4:(rg.map (·.1))[j]?=some n) (x5:(∀i,i<j→(rg.map (·.1))[i]?≠some n)) (xq:∀(l:Addr) (H':Hp),h7 H H'→H l=none→H' l=some (.lst (zs.drop j++zs.take j))→Q (.ref l) H')
def a1Z(K:PySem.W.Frag):Sp:=fun vs H Q _=>a4R K vs H Q
set_option maxHeartbeats 0 in
theorem a9Y(T:z8 K mg t):g7 P w K mg base x9 1 t.f_turned t.d_turned ["ring","number"] (a1Z K):=by
 refine T.F_turned.ok a6B (fun vs H Q E h=>?_) (fun cdv A outer s H vs Q E hr h=>?_)
 ·obtain⟨a,n,zs,rg,j,rfl,_⟩:=h
  rfl
 obtain⟨a,n,zs,rg,j,rfl,ha,hL,z1,hj,hf,q⟩:=h
 refine⟨_,(b9 (g6 (i:=2) a6B.nd rfl (Or.inl rfl) (v3 PySem.F.plainAttrs_list PySem.F.slot_list_index PySem.F.type_list_index b1f (Q9 rfl (u4 (pv 0)) (J8.mk (own:=["link"]) (tl:=["ring","number","place"]) rfl rfl rfl (fun _ _ _ _ _=>(l4 (i:=0) (a4L) rfl (Or.inl rfl))) (fun _ _ _ _ _=>a7l) (fun _ _ _ _ _=>(d7 O6 (pv 0) (u9 rfl T.m_ONE T.r_ONE) (fun _ _=>rfl))))) (a6 (pv 1) b7)))
 (d6 (i3 (i6 N3 (L8 R0 (pv 0) (O4 (pv 2)) N9) (L8 R0 (pv 0) N9 (O4 (pv 2))))))),?_⟩
 have lz:=hL.len
 refine⟨_,rfl,a,rfl,⟨_,d9.of ha⟩,fun acc hacc=>?_⟩
 refine J7 (xs:=zs) (fun i H'=>h7 H H'∧H' acc=some (.lst (((rg.take i).map (·.1)).map V.int))) ⟨c9 hacc,b6⟩ (fun i H' _ h=>d9.of (h.1 _ _ ha)) (fun i x H' hx h=>?_) (fun H1 h=>?_)
 ·obtain⟨sm,h1⟩:=h
  obtain⟨l,hl,c,rfl,hc⟩:=hL.get hx
  have li:=(List.getElem?_eq_some_iff.mp hl).1
  refine⟨_,rfl,c,_,0,_,rfl,rfl,f7.of (sm _ _ hc),rfl,_,h1,n6 (by rw[List.length_map,List.length_map,List.length_take];omega),l8 sm hacc,?_⟩
  rw[b6,List.take_add_one,hl,Option.toList_some,List.map_append,List.map_append];rfl
 obtain⟨s1,h1⟩:=h
 rw[lz,List.take_length]at h1
 have lj:=(List.getElem?_eq_some_iff.mp hj).1
 rw[List.length_map]at lj
 refine⟨.inl ⟨rfl,_,d9.of h1⟩,_,rfl,acc,rg.map (·.1),n,j,rfl,rfl,h1,hj,hf,?_⟩
 refine⟨_,rfl,_,rfl,_,rfl,a,_,rfl,d9.of (s1 _ _ ha),fun c1 hc1=>?_⟩
 rw[a2f]
 have s2:=s1.trans (c9 (o:=.lst (zs.drop j)) hc1)
 refine⟨_,rfl,_,rfl,_,rfl,a,_,rfl,d9.of (s2 _ _ ha),fun c2 hc2=>?_⟩
 rw[a9s]
 have t2:=c9 (o:=.lst (zs.take j)) hc2
 refine⟨c1,c2,_,_,rfl,rfl,t2 _ _ b6,b6,?_,fun c3 hc3=>?_⟩
 ·rw[List.length_drop,List.length_take,sizeLine_eq];omega
 have t3:=c9 (o:=.lst (zs.drop j++zs.take j)) hc3
 exact q c3 _ ((s2.trans t2).trans t3) (y8 (s2.trans t2) hc3) b6
inductive a1e(t:A5)(K:PySem.W.Frag)(vs:List V)(H:Hp)(Q:VK):Prop
 | mk (x dx:Addr) (n b:Int) (x0:vs=[.ref x,.int n,.int b]) (x1:H x=some (.ins t.C_Dealing dx [])) (xq:∀(lk as:Addr) (H':Hp),H lk=none→H as=none→lk≠as→H' x=some (.ins t.C_Dealing dx (Y2 n b lk as))→H' lk=some (.dK [])→H' as=some (.dK [])→V7 x H H'→Q .non H')
def a6g(t:A5)(K:PySem.W.Frag):Sp:=fun vs H Q _=>a1e t K vs H Q
set_option maxHeartbeats 0 in
theorem a4g(T:z8 K mg t):g7 P w K mg base x9 1 t.f_Dealing___init__ t.d_Dealing___init__ ["self","number","began"] (a6g t K):=by
 refine T.F_Dealing___init__.ok a5g (fun vs H Q E h=>?_) (fun cdv A outer s H vs Q E hr h=>?_)
 ·obtain⟨x,dx,n,b,rfl,_⟩:=h
  rfl
 obtain⟨x,dx,n,b,rfl,hx,q⟩:=h
 refine⟨_,(b9 (K5 (pv 0) (pv 1) rfl)
 (b9 (K5 (pv 0) (pv 2) rfl)
 (b9 (K5 (pv 0) A9 rfl)
 (d6 (K5 (pv 0) A9 rfl))))),?_⟩
 refine⟨_,rfl,_,rfl,x,_,dx,_,rfl,hx,T.cl_Dealing,T.n_Dealing_number,(by show 0<1000;decide),?_⟩
 refine⟨_,rfl,_,rfl,x,_,dx,_,rfl,b6,T.cl_Dealing,T.n_Dealing_began,(by show 1<1000;decide),fun lk hlk=>?_⟩
 have nlk:lk≠x:=fun z=>by rw[z,b6]at hlk;cases hlk
 refine⟨_,rfl,x,_,dx,_,rfl,by rw[b8 (Ne.symm nlk)];exact b6,T.cl_Dealing,T.n_Dealing_looked,(by show 2<1000;decide),fun as has=>?_⟩
 have nas:as≠x:=fun z=>by rw[z,b6]at has;cases has
 have nal:as≠lk:=fun z=>by rw[z,b8 nlk,b6]at has;cases has
 refine⟨_,rfl,x,_,dx,_,rfl,by rw[b8 (Ne.symm nas)];exact b6,T.cl_Dealing,T.n_Dealing_aside,(by show 3<1000;decide),?_⟩
 refine q lk as _ (by rw[b8 nlk,b8 nlk]at hlk;exact hlk) (by rw[b8 nas,b8 nal,b8 nas,b8 nas]at has;exact has) (Ne.symm nal) b6 ?_ ?_ fun c o nc hc=>?_
 ·rw[b8 nlk,b8 (Ne.symm nal),b8 nlk];exact b6
 ·rw[b8 nas];exact b6
 ·have h1:lk≠c:=fun z=>by rw[z,b8 nc,b8 nc,hc]at hlk;cases hlk
  have h2:as≠c:=fun z=>by rw[z,b8 nc,b8 (Ne.symm h1),b8 nc,b8 nc,hc]at has;cases has
  rw[b8 nc,b8 (Ne.symm h2),b8 nc,b8 (Ne.symm h1),b8 nc,b8 nc];exact hc
def a6o(ks:List Str):Prop:=(ks.map fun g=>[(Sum.inr g.cps.toList:Atom)]).Pairwise a3r.kle
inductive a0j(t:A5)(K:PySem.W.Frag)(vs:List V)(H:Hp)(Q:VK):Prop
 | mk (p dx lk as:Addr) (n b e:Int) (ks:List Str) (am:Am) (x0:vs=[.ref p,.int e]) (x1:H p=some (.ins t.C_Dealing dx (Y2 n b lk as))) (x2:H lk=some (.dK (R8 ks))) (x3:H as=some (.dK (M5 am))) (x4:ks.length≤63) (x5:am.length≤63) (xq:∀(r la pa:Addr) (ys zs:List Str) (H':Hp),h7 H H'→H la=none→H pa=none→la≠pa→H' r=some (.tup [.int n,.int b,.int e,.ref la,.ref pa])→H' la=some (.lst (ys.map V.str))→H' pa=some (.lst (zs.map V.str))→ys.Perm ks→zs.Perm (am.map (·.1))→a6o ys→a6o zs→Q (.ref r) H')
def a9l(t:A5)(K:PySem.W.Frag):Sp:=fun vs H Q _=>a0j t K vs H Q
set_option maxHeartbeats 0 in
theorem a0m(T:z8 K mg t):g7 P w K mg base x9 1 t.f_Dealing_record t.d_Dealing_record ["self","ended"] (a9l t K):=by
 refine T.F_Dealing_record.ok a3m (fun vs H Q E h=>?_) (fun cdv A outer s H vs Q E hr h=>?_)
 ·obtain⟨p,dx,lk,as,n,b,e,ks,am,rfl,_⟩:=h
  rfl
 obtain⟨p,dx,lk,as,n,b,e,ks,am,rfl,hp,hlk,has,z1,z2,q⟩:=h
 refine⟨_,(d6 (i3 (p6 (a6 (u0 (pv 0) rfl) (a6 (u0 (pv 0) rfl) (a6 (pv 1) (a6 (g9 (Z2 rfl) rfl T.m_sorted boot_sorted (a6 (u0 (pv 0) rfl) b7)) (a6 (g9 (Z2 rfl) rfl T.m_sorted boot_sorted (a6 (u0 (pv 0) rfl) b7)) b7)))))))),?_⟩
 refine⟨_,rfl,p,_,dx,_,_,rfl,hp,T.cl_Dealing,T.n_Dealing_number,rfl,_,rfl,p,_,dx,_,_,rfl,hp,T.cl_Dealing,T.n_Dealing_began,rfl,_,rfl,_,rfl,p,_,dx,_,_,rfl,hp,T.cl_Dealing,T.n_Dealing_looked,rfl,lk,_,rfl,.inl hlk,?_,fun la ys' hla pm1 io1=>?_⟩
 ·rw[a1J];exact⟨by simp only[List.length_map];omega,fun x hx=>by obtain⟨z,_,rfl⟩:=List.mem_map.mp hx;exact⟨z,rfl⟩⟩
 rw[a1J]at pm1
 obtain⟨ys,rfl,py⟩:=N0 pm1
 have s1:=c9 (o:=.lst (ys.map V.str)) hla
 refine⟨_,rfl,p,_,dx,_,_,rfl,s1 _ _ hp,T.cl_Dealing,T.n_Dealing_aside,rfl,as,_,rfl,.inl (s1 _ _ has),?_,fun pa zs' hpa pm2 io2=>?_⟩
 ·rw[a4G];exact⟨by simp only[List.length_map];omega,fun x hx=>by obtain⟨z,_,rfl⟩:=List.mem_map.mp hx;exact⟨z,rfl⟩⟩
 rw[a4G]at pm2
 obtain⟨zs,rfl,pz⟩:=N0 pm2
 have s2:=c9 (o:=.lst (zs.map V.str)) hpa
 unfold Q8 at io1 io2
 rw[List.map_map]at io1 io2
 refine⟨(by show 5≤sizeLine;decide),fun r hr0=>?_⟩
 have s3:=c9 (o:=.tup [.int n,.int b,.int e,.ref la,.ref pa]) hr0
 have ne:la≠pa:=e9 b6 hpa
 exact q r la pa ys zs _ ((s1.trans s2).trans s3) hla (y8 s1 hpa) ne b6 (s3 _ _ (s2 _ _ b6)) (s3 _ _ b6) py pz io1 io2
inductive a4q(t:A5)(K:PySem.W.Frag)(vs:List V)(H:Hp)(Q:VK):Prop
 | mk (p dx U Vd R L W:Addr) (b:Int) (xs:List V) (x0:vs=[.ref p]) (x1:H p=some (.ins t.C_Tally dx (C2 b U Vd R L W))) (x2:H R=some (.lst xs)) (xq:Q (.int (xs.length:Int)) H)
def a9t(t:A5)(K:PySem.W.Frag):Sp:=fun vs H Q _=>a4q t K vs H Q
theorem M9(T:z8 K mg t):g7 P w K mg base x9 1 t.f_Tally_moment t.d_Tally_moment ["self"] (a9t t K):=by
 refine T.F_Tally_moment.ok a1t (fun vs H Q E h=>?_) (fun cdv A outer s H vs Q E hr h=>?_)
 ·obtain⟨p,dx,U,Vd,R,L,W,b,xs,rfl,_⟩:=h
  rfl
 obtain⟨p,dx,U,Vd,R,L,W,b,xs,rfl,hp,hR,q⟩:=h
 refine⟨_,(d6 (i3 (g9 i5 rfl T.m_len PySem.boot_len (a6 (u0 (pv 0) rfl) b7)))),?_⟩
 exact⟨_,rfl,p,_,dx,_,_,rfl,hp,T.cl_Tally,T.n_Tally_records,rfl,R,xs,rfl,.inl (d9.of hR),q⟩
def Pst(t:A5)(G:Gh)(H:Hp)(p:Addr)(st:k8)(Q:Hp→Prop):Prop:=∀(G':Gh) (H':Hp),TA t.C_Tally t.C_Dealing G' H' p st→Kp G H G' H'→Q H'
theorem TA.gh{CT CD p:Addr}{G G':Gh}{H:Hp}{st:k8}(h:TA CT CD G H p st)(hr:∀b ρ,G.rl b=ρ→ρ≠.free→G'.rl b=ρ)(hc:∀b,H b=none→G'.rl b=.free)(e0:G'.dx=G.dx)(e1:G'.U=G.U)(e2:G'.Vd=G.Vd)(e3:G'.R=G.R)(e4:G'.L=G.L)(e5:G'.W=G.W)
  (ed:∀d∈st.under,G'.dp d.num=G.dp d.num∧G'.dd d.num=G.dd d.num∧G'.lk d.num=G.lk d.num∧G'.as d.num=G.as d.num) (ev:∀q∈st.vers,G'.vl q.1=G.vl q.1):TA CT CD G' H p st where
 ob:=by rw[e0,e1,e2,e3,e4,e5];exact h.ob
 un:=by
  rw[e1,h.un]
  congr 2
  refine Q5 fun n hn=>?_
  obtain⟨d,hd,rfl⟩:=List.mem_map.mp hn
  rw[(ed d hd).1]
 ve:=by
  rw[e2,h.ve]
  congr 2
  exact List.map_congr_left fun q hq=>by rw[ev q hq]
 rc:=by
  obtain⟨xs,h1,h2⟩:=h.rc
  refine⟨xs,by rw[e3];exact h1,Paired.mapP h2 fun _ _ ⟨b,la,pa,e,z1,z2,z3,z4,z5⟩=>⟨b,la,pa,e,z1,z2,z3,hr _ _ z4 (by simp),hr _ _ z5 (by simp)⟩⟩
 ln:=by rw[e4];exact h.ln
 rw:=by rw[e5];exact h.rw
 dl:=fun d hd=>by
  obtain⟨a1,a2,a3,a4⟩:=ed d hd
  have D:=h.dl d hd
  refine⟨by rw[a1,a2,a3,a4];exact D.ob,by rw[a3];exact D.lk,by rw[a4];exact D.as,by rw[a1];exact hr _ _ D.r1 (by simp),by rw[a3];exact hr _ _ D.r2 (by simp),by rw[a4];exact hr _ _ D.r3 (by simp)⟩
 vl:=fun q hq=>by
  obtain⟨xs,h1,h2,h3⟩:=h.vl q hq
  rw[ev q hq]
  exact⟨xs,h1,h2,hr _ _ h3 (by simp)⟩
 r0:=hr _ _ h.r0 (by simp)
 r1:=by rw[e1];exact hr _ _ h.r1 (by simp)
 r2:=by rw[e2];exact hr _ _ h.r2 (by simp)
 r3:=by rw[e3];exact hr _ _ h.r3 (by simp)
 r4:=by rw[e4];exact hr _ _ h.r4 (by simp)
 r5:=by rw[e5];exact hr _ _ h.r5 (by simp)
 nd:=h.nd
 vd:=h.vd
 cl:=hc
theorem a6I{H:Hp}{a:Addr}{o:HO}{C dx:Addr}{fs:List (Str×V)}(h:H a=some (.ins C dx fs)):r9 H (upd H a o):=
 ⟨fun b xs e=>by rw[b8 (a3u e h (by intro z;cases z))];exact e,fun b o xs e=>by rw[b8 (a3u e h (by intro z;cases z))];exact e⟩
section
variable{CT CD p:Addr}{G:Gh}{H:Hp}{st:k8}
theorem TA.setObj(h:TA CT CD G H p st){b:Nat}{L W:Addr}{ls:List Lk}{row:List Int}(hl:∃xs,H L=some (.lst xs)∧u3 H ls xs)(hw:H W=some (.lst (row.map V.int)))(rL:G.rl L=.fz)(rW:G.rl W=.fz) :
  TA CT CD { G with L:=L,W:=W } (upd H p (.ins CT G.dx (C2 (b:Int) G.U G.Vd G.R L W))) p { st with begun:=b,links:=ls,row:=row }∧Kp G H { G with L:=L,W:=W } (upd H p (.ins CT G.dx (C2 (b:Int) G.U G.Vd G.R L W))):=by
 have t:r9 H (upd H p (.ins CT G.dx (C2 (b:Int) G.U G.Vd G.R L W))):=a6I h.ob
 refine⟨⟨b6,d8 h.un h.r1 h.r0 (by simp),d8 h.ve h.r2 h.r0 (by simp),?_,?_,d8 hw rW h.r0 (by simp),fun e he=>?_,fun q hq=>?_,h.r0,h.r1,h.r2,h.r3,rL,rW,h.nd,h.vd,fun b e=>h.cl b (r8 e)⟩,⟨fun c o f e=>by rw[b8 fun z=>by rw[z,h.r0]at f;cases f];exact e,t,fun _ _ f _=>f,fun _ e=>r8 e⟩⟩
 ·obtain⟨xs,h1,h2⟩:=h.rc
  exact⟨xs,d8 h1 h.r3 h.r0 (by simp),Paired.mapP h2 fun _ _ z=>z.upd h.r0 (by simp) t⟩
 ·obtain⟨xs,h1,h2⟩:=hl
  exact⟨xs,d8 h1 rL h.r0 (by simp),h2.tupK t⟩
 ·have E:=h.dl e he
  exact⟨d8 E.ob E.r1 h.r0 (by simp),d8 E.lk E.r2 h.r0 (by simp),d8 E.as E.r3 h.r0 (by simp),E.r1,E.r2,E.r3⟩
 ·obtain⟨xs,h1,h2,h3⟩:=h.vl q hq
  exact⟨xs,d8 h1 h3 h.r0 (by simp),z9 t h2,h3⟩
def E3(G:Gh)(n:Int)(x dx lk as:Addr):Gh:={ G with
 rl:=fun b=>if b=x then .deal n else if b=lk then .look n else if b=as then .side n else G.rl b
 dp:=fun m=>if m=n then x else G.dp m
 dd:=fun m=>if m=n then dx else G.dd m
 lk:=fun m=>if m=n then lk else G.lk m
 as:=fun m=>if m=n then as else G.as m }
theorem TA.addD(h:TA CT CD G H p st){n b:Int}{x dx lk as:Addr}{H1:Hp}(hn:∀d∈st.under,d.num≠n)(s:h7 H H1)(hx:H x=none)(hlk:H lk=none)(has:H as=none)(nl:x≠lk)(na:x≠as)(nla:lk≠as)
  (h1:H1 x=some (.ins CD dx (Y2 n b lk as))) (h2:H1 lk=some (.dK [])) (h3:H1 as=some (.dK [])) :
  TA CT CD (E3 G n x dx lk as) (upd H1 G.U (.dK (putK (j5 (st.under.map (·.num)) fun n=>.ref (G.dp n)) (Sum.inl n) (.ref x)))) p { st with under:=st.under++[⟨n,b,[],[]⟩] }∧Kp G H (E3 G n x dx lk as) (upd H1 G.U (.dK (putK (j5 (st.under.map (·.num)) fun n=>.ref (G.dp n)) (Sum.inl n) (.ref x)))):=by
 have old:∀c o,H c=some o→c≠x∧c≠lk∧c≠as:=fun c o e=>⟨e9 e hx,e9 e hlk,e9 e has⟩
 have rl_old:∀c o,H c=some o→(E3 G n x dx lk as).rl c=G.rl c:=fun c o e=>by
  obtain⟨a1,a2,a3⟩:=old c o e
  show(if c=x then _ else if c=lk then _ else if c=as then _ else _)=_
  rw[if_neg a1,if_neg a2,if_neg a3]
 have nin:n∉st.under.map (·.num):=fun z=>by obtain⟨d,hd,e⟩:=List.mem_map.mp z;exact hn d hd e
 have fx:=h.cl x hx
 have fk:=h.cl lk hlk
 have fa:=h.cl as has
 have hG1:TA CT CD (E3 G n x dx lk as) H1 p st:=(h.same s).gh (fun c ρ e ne=>by
  show(if c=x then _ else if c=lk then _ else if c=as then _ else _)=_
  rw[if_neg fun z=>ne (by rw[←e,z,fx]),if_neg fun z=>ne (by rw[←e,z,fk]),if_neg fun z=>ne (by rw[←e,z,fa])]
  exact e) (fun c e=>by
  show(if c=x then _ else if c=lk then _ else if c=as then _ else _)=_
  rw[if_neg (fun z=>by rw[z,h1]at e;cases e),if_neg (fun z=>by rw[z,h2]at e;cases e),if_neg (fun z=>by rw[z,h3]at e;cases e)]
  exact h.cl c (j2 s e)) rfl rfl rfl rfl rfl rfl (fun d hd=>by
  have:=hn d hd
  exact⟨if_neg this,if_neg this,if_neg this,if_neg this⟩) fun _ _=>rfl
 have rx:(E3 G n x dx lk as).rl x=.deal n:=if_pos rfl
 have rk:(E3 G n x dx lk as).rl lk=.look n:=by
  show(if lk=x then _ else if lk=lk then _ else _)=_
  rw[if_neg (Ne.symm nl),if_pos rfl]
 have ra:(E3 G n x dx lk as).rl as=.side n:=by
  show(if as=x then _ else if as=lk then _ else if as=as then _ else _)=_
  rw[if_neg (Ne.symm na),if_neg (Ne.symm nla),if_pos rfl]
 have t:∀o,r9 H1 (upd H1 G.U o):=fun o=>K3 hG1.un
 have rU:(E3 G n x dx lk as).rl G.U=.under:=hG1.r1
 refine⟨⟨d8 hG1.ob hG1.r0 rU (by simp),?_,d8 hG1.ve hG1.r2 rU (by simp),?_,?_,d8 hG1.rw hG1.r5 rU (by simp),fun e he=>?_,fun q hq=>?_,hG1.r0,hG1.r1,hG1.r2,hG1.r3,hG1.r4,hG1.r5,?_,hG1.vd,fun b e=>hG1.cl b (r8 e)⟩,⟨fun c o f e=>?_,s.tupK.trans (t _),fun c o f e=>by rw[rl_old c o e];exact f,fun c e=>j2 s (r8 e)⟩⟩
 ·show upd H1 G.U _ G.U=_
  rw[b6,J3,if_neg nin]
  congr 2
  show _=j5 ((st.under++([⟨n,b,[],[]⟩]:List Dl)).map (·.num)) _
  rw[List.map_append]
  refine Q5 fun m _=>?_
  show W4 _ n (.ref x) m=V.ref (if m=n then x else G.dp m)
  unfold W4
  split<;>rfl
 ·obtain⟨xs,z1,z2⟩:=hG1.rc
  exact⟨xs,d8 z1 hG1.r3 rU (by simp),Paired.mapP z2 fun _ _ z=>z.upd rU (by simp) (t _)⟩
 ·obtain⟨xs,z1,z2⟩:=hG1.ln
  exact⟨xs,d8 z1 hG1.r4 rU (by simp),z2.tupK (t _)⟩
 ·rcases List.mem_append.mp he with he | he
  ·have E:=hG1.dl e he
   exact⟨d8 E.ob E.r1 rU (by simp),d8 E.lk E.r2 rU (by simp),d8 E.as E.r3 rU (by simp),E.r1,E.r2,E.r3⟩
  ·rw[List.mem_singleton.mp he]
   have e1:(E3 G n x dx lk as).dp n=x:=if_pos rfl
   have e2:(E3 G n x dx lk as).dd n=dx:=if_pos rfl
   have e3:(E3 G n x dx lk as).lk n=lk:=if_pos rfl
   have e4:(E3 G n x dx lk as).as n=as:=if_pos rfl
   exact⟨by show upd H1 G.U _ ((E3 G n x dx lk as).dp n)=some (.ins CD ((E3 G n x dx lk as).dd n) (Y2 n b ((E3 G n x dx lk as).lk n) ((E3 G n x dx lk as).as n)));rw[e1,e2,e3,e4];exact d8 h1 rx rU (by simp),by show upd H1 G.U _ ((E3 G n x dx lk as).lk n)=_;rw[e3];exact d8 h2 rk rU (by simp),by show upd H1 G.U _ ((E3 G n x dx lk as).as n)=_;rw[e4];exact d8 h3 ra rU (by simp),by show(E3 G n x dx lk as).rl ((E3 G n x dx lk as).dp n)=_;rw[e1];exact rx,by show(E3 G n x dx lk as).rl ((E3 G n x dx lk as).lk n)=_;rw[e3];exact rk,by show(E3 G n x dx lk as).rl ((E3 G n x dx lk as).as n)=_;rw[e4];exact ra⟩
 ·obtain⟨xs,z1,z2,z3⟩:=hG1.vl q hq
  exact⟨xs,d8 z1 z3 rU (by simp),z9 (t _) z2,z3⟩
 ·show((st.under++([⟨n,b,[],[]⟩]:List Dl)).map (·.num)).Nodup
  rw[List.map_append,List.nodup_append]
  refine⟨hG1.nd,by simp,fun m hm k hk e=>nin ?_⟩
  have:k=n:=by simpa using hk
  rw[←this,←e];exact hm
 ·rw[b8 fun z=>by rw[z,h.r1]at f;cases f];exact s _ _ e
end
def a4I(st:k8):k8:={ st with begun:=st.begun+1,under:=st.under++([⟨(st.begun:Int),(st.recs.length:Int),[],[]⟩]:List Dl) }
inductive a6t(t:A5)(K:PySem.W.Frag)(vs:List V)(H:Hp)(Q:VK):Prop
 | mk (G:Gh) (p:Addr) (st:k8) (x0:vs=[.ref p]) (x1:TA t.C_Tally t.C_Dealing G H p st) (x2:(∀d∈st.under,d.num≠(st.begun:Int))) (x3:st.under.length≤1000) (xq:Pst t G H p (a4I st) fun H'=>Q (.int (st.begun:Int)) H')
def a6x(t:A5)(K:PySem.W.Frag):Sp:=fun vs H Q _=>a6t t K vs H Q
set_option maxHeartbeats 0 in
theorem a5w(T:z8 K mg t):g7 P w K mg base x9 3 t.f_Tally_begin t.d_Tally_begin ["self"] (a6x t K):=by
 refine T.F_Tally_begin.ok a7d (fun vs H Q E h=>?_) (fun cdv A outer s H vs Q E hr h=>?_)
 ·obtain⟨G,p,st,rfl,_⟩:=h
  rfl
 obtain⟨G,p,st,rfl,h,hn,hz,q⟩:=h
 have hu:=O7 hr
 refine⟨_,(b9 (g6 (i:=1) a7d.nd rfl (Or.inl rfl) (u0 (pv 0) rfl))
 (b9 (K5 (pv 0) (i6 C9 (pv 1) d5) rfl)
 (b9 (C1 hu (u0 (pv 0) rfl) (pv 1) (b9j T.K_Dealing (g7.mono (k:=1) (a4g T) (by decide)) hr rfl T.mg_Dealing T.F_Dealing___init__.b .nil j7 (a6 (pv 1) (a6 (U7 (pv 0) T.cl_Tally T.M_Tally_moment (g7.mono (k:=2) (M9 T) (by decide)) hr T.F_Tally_moment.b .nil j7) b7))) rfl)
 (d6 (i3 (pv 1)))))),?_⟩
 refine⟨_,rfl,p,_,_,_,_,rfl,h.ob,T.cl_Tally,T.n_Tally_begun,rfl,?_⟩
 refine⟨_,rfl,_,_,rfl,rfl,_,rfl,p,_,_,_,rfl,h.ob,T.cl_Tally,T.n_Tally_begun,(by show 6<1000;decide),?_⟩
 obtain⟨h1,k1⟩:=h.setObj (b:=st.begun+1) h.ln h.rw h.r4 h.r5
 have e1:K2 "begun" (.int ((st.begun:Int)+1)) (C2 (st.begun:Int) G.U G.Vd G.R G.L G.W)=C2 ((st.begun+1:Nat):Int) G.U G.Vd G.R G.L G.W:=rfl
 rw[e1]
 generalize upd H p (.ins t.C_Tally G.dx (C2 ((st.begun+1:Nat):Int) G.U G.Vd G.R G.L G.W))=H1 at h1 k1 ⊢
 obtain⟨xs,hR,pR⟩:=h1.rc
 have lR:=r6 pR
 refine⟨_,rfl,_,rfl,p,_,_,rfl,h1.ob,rfl,p,_,_,_,_,_,_,_,xs,rfl,h1.ob,hR,?_⟩
 intro x dx nx ndx nxd
 have s0:h7 H1 (upd (upd H1 dx (.own x)) x (.ins t.C_Dealing dx [])):=l8 (c9 ndx) nx
 refine⟨x,dx,_,_,rfl,b6,fun lk as H2 nlk nas nla hx hlk has bt=>⟨rfl,?_⟩⟩
 have nx0:∀{c:Addr},(upd (upd H1 dx (.own x)) x (.ins t.C_Dealing dx [])) c=none→H1 c=none∧x≠c:=fun {c} e=>⟨y8 s0 e,fun z=>by rw[←z,b6]at e;cases e⟩
 have s1:h7 H1 H2:=fun c o e=>bt c o (e9 e nx) (s0 c o e)
 have h2:=h1.same s1
 refine⟨_,rfl,p,_,_,_,_,rfl,h2.ob,T.cl_Tally,T.n_Tally_under_way,rfl,_,rfl,G.U,_,rfl,K6.k (k:=Sum.inl (st.begun:Int)) h2.un (n6 (by rw[F7,List.length_map];show st.under.length≤_;omega)),?_⟩
 obtain⟨h3,k3⟩:=h1.addD (n:=(st.begun:Int)) (b:=(xs.length:Int)) hn s1 nx (nx0 nlk).1 (nx0 nas).1 (nx0 nlk).2 (nx0 nas).2 nla hx hlk has
 refine⟨_,rfl,q _ _ ?_ (k1.trans k3)⟩
 have e2:(xs.length:Int)=(st.recs.length:Int):=by rw[lR]
 rw[e2]at h3
 exact h3
def a7k(v:K1)(g:Str):List (Int×Int):=((v.find? fun q=>decide (q.1=g)).map (·.2)).getD []
theorem a0l(v:K1)(f:Str→V)(g:Str):B6 (v.map fun q=>((Sum.inr q.1:Key),f q.1)) (Sum.inr g)=if g∈v.map (·.1) then some (f g) else none:=by
 unfold B6
 induction v with
 | nil=>rfl
 | cons q v ih=>
  rw[List.map_cons,List.find?_cons,a3l,List.map_cons]
  by_cases e:q.1=g
  ·subst e;simp
  ·rw[decide_eq_false e]
   have:(g∈q.1::v.map (·.1))↔g∈v.map (·.1):=by
    rw[List.mem_cons];exact⟨fun z=>z.elim (fun w=>absurd w.symm e) id,.inr⟩
   simp only[this];exact ih
theorem a6p{v:K1}(nd:(v.map (·.1)).Nodup){q:Str×List (Int×Int)}(h:q∈v):a7k v q.1=q.2:=by
 unfold a7k
 induction v with
 | nil=>exact nomatch h
 | cons a v ih=>
  rw[List.map_cons,List.nodup_cons]at nd
  rw[List.find?_cons]
  rcases List.mem_cons.mp h with e | h'
  ·subst e;rw[decide_eq_true rfl];rfl
  ·have ne:¬a.1=q.1:=fun z=>nd.1 (by rw[z];exact List.mem_map.mpr ⟨q,h',rfl⟩)
   rw[decide_eq_false ne]
   exact ih nd.2 h'
theorem a4U{v:K1}{g:Str}(h:g∉v.map (·.1)):a7k v g=[]:=by
 unfold a7k
 rw[List.find?_eq_none.mpr fun q hq=>by simpa using fun z=>h (List.mem_map.mpr ⟨q,hq,z⟩)];rfl
def a6P(st:k8)(n:Int)(g:Str):k8:={ st with under:=C8 st.under n (T3 g) }
inductive a1w(t:A5)(K:PySem.W.Frag)(vs:List V)(H:Hp)(Q:VK):Prop
 | mk (G:Gh) (p:Addr) (st:k8) (d:Dl) (g:Str) (x0:vs=[.ref p,.int d.num,.str g]) (x1:TA t.C_Tally t.C_Dealing G H p st) (x2:d∈st.under) (x3:d.looked.length≤1000) (x4:(∀q∈st.vers,q.2.length≤100000)) (x5:(∀a,a9a d.aside g=some a→Q (.int a) H)) (xq:(a9a d.aside g=none→Pst t G H p (a6P st d.num g) fun H'=>Q (.int (valueAt (a7k st.vers g) d.beg)) H'))
def a1D(t:A5)(K:PySem.W.Frag):Sp:=fun vs H Q _=>a1w t K vs H Q
set_option maxHeartbeats 0 in
theorem a1C(T:z8 K mg t):g7 P w K mg base x9 3 t.f_Tally_look t.d_Tally_look ["self","number","good"] (a1D t K):=by
 refine T.F_Tally_look.ok a0g (fun vs H Q E h=>?_) (fun cdv A outer s H vs Q E hr h=>?_)
 ·obtain⟨G,p,st,d,g,rfl,_⟩:=h
  rfl
 obtain⟨G,p,st,d,g,rfl,h,hd,hz,hv,q1,q2⟩:=h
 have hu:=O7 hr
 refine⟨_,(b9 (g6 (i:=3) a0g.nd rfl (Or.inl rfl) (u5 hu (u0 (pv 0) rfl) (pv 1) (fun _ _=>rfl)))
 (b9 (j9 (f6 (a9u hu) (pv 2) (u0 (pv 3) rfl) (by with_unfolding_all rfl))
 (d6 (i3 (u5 hu (u0 (pv 3) rfl) (pv 2) (fun _ _=>rfl))))
 j1)
 (b9 (C1 hu (u0 (pv 3) rfl) (pv 2) y6 rfl)
 (d6 (i3 (j4 (g7.mono (k:=2) (a7L T) (by decide)) hr rfl T.m_value_at T.F_value_at.kp T.F_value_at.b .nil j7 (a6 (b1c hu (u0 (pv 0) rfl) (pv 2) (j8 b7) ⟨rfl,rfl,rfl,rfl⟩) (a6 (u0 (pv 3) rfl) b7)))))))),?_⟩
 have D:=h.dl d hd
 have dg:=v7.k (k:=Sum.inl d.num) h.un
 rw[m9,if_pos (List.mem_map.mpr ⟨d,hd,rfl⟩)]at dg
 refine⟨_,rfl,p,_,_,_,_,rfl,h.ob,T.cl_Tally,T.n_Tally_under_way,rfl,_,rfl,G.U,_,rfl,dg,?_⟩
 have ds:=v7.k (k:=Sum.inr g) D.as
 rw[b1j]at ds
 refine⟨_,rfl,_,rfl,G.dp d.num,_,_,_,_,rfl,D.ob,T.cl_Dealing,T.n_Dealing_aside,rfl,G.as d.num,_,rfl,ds,_,rfl,?_⟩
 cases hg:a9a d.aside g with
 | some a=>
  refine l7 ?_
  rw[hg]at ds
  exact⟨_,rfl,G.dp d.num,_,_,_,_,rfl,D.ob,T.cl_Dealing,T.n_Dealing_aside,rfl,_,rfl,G.as d.num,_,rfl,ds,q1 a hg⟩
 | none=>
  refine g8 ?_
  refine⟨_,rfl,G.dp d.num,_,_,_,_,rfl,D.ob,T.cl_Dealing,T.n_Dealing_looked,rfl,_,rfl,G.lk d.num,_,rfl,K6.k (k:=Sum.inr g) D.lk (n6 (by rw[b1l];omega)),?_⟩
  rw[b9h]
  obtain⟨h1,k1⟩:=h.setLook hd g
  have ob1:(upd H (G.lk d.num) (.dK (R8 (K7 d.looked g)))) (G.dp d.num)=some (.ins t.C_Dealing (G.dd d.num) (Y2 d.num d.beg (G.lk d.num) (G.as d.num))):=d8 D.ob D.r1 D.r2 (by simp)
  have hv1:(upd H (G.lk d.num) (.dK (R8 (K7 d.looked g)))) G.Vd=some (.dK (st.vers.map fun q=>((Sum.inr q.1:Key),V.ref (G.vl q.1)))):=h1.ve
  have vl1:∀q∈st.vers,∃xs,(upd H (G.lk d.num) (.dK (R8 (K7 d.looked g)))) (G.vl q.1)=some (.lst xs)∧Paired (VAt (upd H (G.lk d.num) (.dK (R8 (K7 d.looked g))))) q.2 xs:=fun q hq=>let ⟨xs,a,b,_⟩:=h1.vl q hq;⟨xs,a,b⟩
  have q2:=q2 hg
  generalize upd H (G.lk d.num) (.dK (R8 (K7 d.looked g)))=H1 at h1 k1 ob1 hv1 vl1 ⊢
  have dv:=fun(Hx:Hp) (hx:Hx G.Vd=_)=>v7.k (k:=Sum.inr g) (kvs:=st.vers.map fun q=>((Sum.inr q.1:Key),V.ref (G.vl q.1))) hx
  refine⟨_,rfl,p,_,_,_,_,rfl,h1.ob,T.cl_Tally,T.n_Tally_versions,rfl,G.Vd,rfl,.inl ⟨_,.inl hv1⟩,_,rfl,(by show 0≤sizeLine;decide),fun e he=>?_⟩
  have s2:=c9 (o:=.lst []) he
  have dv2:=dv _ (s2 _ _ hv1)
  rw[a0l st.vers (fun g=>V.ref (G.vl g))]at dv2
  have fin:=fun(H3:Hp) (s3:h7 (upd H1 e (.lst [])) H3)=>q2 G H3 (h1.same (s2.trans s3)) (k1.trans (Kp.same (s2.trans s3)))
  by_cases c:g∈st.vers.map (·.1)
  ·rw[if_pos c]at dv2
   obtain⟨qq,hqq,rfl⟩:=List.mem_map.mp c
   obtain⟨xs,x1,x2⟩:=vl1 qq hqq
   refine⟨_,dv2,_,rfl,G.dp d.num,_,_,_,_,rfl,s2 _ _ ob1,T.cl_Dealing,T.n_Dealing_began,rfl,G.vl qq.1,qq.2,d.beg,rfl,⟨xs,d9.of (s2 _ _ x1),a9o (z9 s2.tupK x2)⟩,hv qq hqq,fun H3 s3=>?_⟩
   have:=fin H3 s3
   rw[a6p h.vd hqq]at this
   exact this
  ·rw[if_neg c]at dv2
   refine⟨_,dv2,_,rfl,G.dp d.num,_,_,_,_,rfl,s2 _ _ ob1,T.cl_Dealing,T.n_Dealing_began,rfl,e,[],d.beg,rfl,⟨[],d9.of b6,rfl⟩,by simp,fun H3 s3=>?_⟩
   have:=fin H3 s3
   rw[a4U c]at this
   exact this
def putSt(st:k8)(n:Int)(g:Str)(a:Int):k8:={ st with under:=C8 st.under n (T5 g a) }
inductive a8C(t:A5)(K:PySem.W.Frag)(vs:List V)(H:Hp)(Q:VK):Prop
 | mk (G:Gh) (p:Addr) (st:k8) (d:Dl) (g:Str) (a:Int) (x0:vs=[.ref p,.int d.num,.str g,.int a]) (x1:TA t.C_Tally t.C_Dealing G H p st) (x2:d∈st.under) (x3:d.aside.length≤1000) (xq:Pst t G H p (putSt st d.num g a) fun H'=>Q .non H')
def a6F(t:A5)(K:PySem.W.Frag):Sp:=fun vs H Q _=>a8C t K vs H Q
theorem a5J(T:z8 K mg t):g7 P w K mg base x9 1 t.f_Tally_put t.d_Tally_put ["self","number","good","amount"] (a6F t K):=by
 refine T.F_Tally_put.ok a7h (fun vs H Q E h=>?_) (fun cdv A outer s H vs Q E hr h=>?_)
 ·obtain⟨G,p,st,d,g,a,rfl,_⟩:=h
  rfl
 obtain⟨G,p,st,d,g,a,rfl,h,hd,hz,q⟩:=h
 have hu:=O7 hr
 refine⟨_,(b9 (g6 (i:=4) a7h.nd rfl (Or.inl rfl) (u5 hu (u0 (pv 0) rfl) (pv 1) (fun _ _=>rfl)))
 (d6 (C1 hu (u0 (pv 4) rfl) (pv 2) (pv 3) rfl))),?_⟩
 have D:=h.dl d hd
 have dg:=v7.k (k:=Sum.inl d.num) h.un
 rw[m9,if_pos (List.mem_map.mpr ⟨d,hd,rfl⟩)]at dg
 refine⟨_,rfl,p,_,_,_,_,rfl,h.ob,T.cl_Tally,T.n_Tally_under_way,rfl,_,rfl,G.U,_,rfl,dg,?_⟩
 refine⟨_,rfl,_,rfl,G.dp d.num,_,_,_,_,rfl,D.ob,T.cl_Dealing,T.n_Dealing_aside,rfl,_,rfl,G.as d.num,_,rfl,K6.k (k:=Sum.inr g) D.as (n6 (by rw[a1O];omega)),?_⟩
 rw[b5j]
 obtain⟨h1,k1⟩:=h.setSide hd g a
 exact q G _ h1 k1
def J6(st:k8)(n:Int):k8:={ st with under:=X7 st.under n }
inductive a8t(t:A5)(K:PySem.W.Frag)(vs:List V)(H:Hp)(Q:VK):Prop
 | mk (G:Gh) (p:Addr) (st:k8) (d:Dl) (x0:vs=[.ref p,.int d.num]) (x1:TA t.C_Tally t.C_Dealing G H p st) (x2:d∈st.under) (xq:Pst t G H p (J6 st d.num) fun H'=>Q .non H')
def a0v(t:A5)(K:PySem.W.Frag):Sp:=fun vs H Q _=>a8t t K vs H Q
theorem a3v(T:z8 K mg t):g7 P w K mg base x9 1 t.f_Tally_leave t.d_Tally_leave ["self","number"] (a0v t K):=by
 refine T.F_Tally_leave.ok a5y (fun vs H Q E h=>?_) (fun cdv A outer s H vs Q E hr h=>?_)
 ·obtain⟨G,p,st,d,rfl,_⟩:=h
  rfl
 obtain⟨G,p,st,d,rfl,h,hd,q⟩:=h
 refine⟨_,(d6 (l6 (a9f (u0 (pv 0) rfl) (pv 1) ⟨rfl,rfl,rfl,rfl⟩))),?_⟩
 refine⟨_,rfl,p,_,_,_,_,rfl,h.ob,T.cl_Tally,T.n_Tally_under_way,rfl,G.U,rfl,.inl ⟨_,.inl h.un⟩,_,rfl,_,Sum.inl d.num,.ref (G.dp d.num),h.un,rfl,?_,?_⟩
 ·rw[m9,if_pos (List.mem_map.mpr ⟨d,hd,rfl⟩)]
 ·obtain⟨h1,k1⟩:=h.drop d.num
  exact q G _ h1 k1
def Z0:k8:=⟨0,[],[],[],[],[]⟩
inductive a7j(t:A5)(K:PySem.W.Frag)(vs:List V)(H:Hp)(Q:VK):Prop
 | mk (p dx:Addr) (x0:vs=[.ref p]) (x1:H p=some (.ins t.C_Tally dx [])) (xq:∀(G:Gh) (H':Hp),TA t.C_Tally t.C_Dealing G H' p Z0→V7 p H H'→(∀b o,b≠p→H b=some o→G.rl b=.free)→Q .non H')
def a1m(t:A5)(K:PySem.W.Frag):Sp:=fun vs H Q _=>a7j t K vs H Q
set_option maxHeartbeats 0 in
theorem a4m(T:z8 K mg t):g7 P w K mg base x9 1 t.f_Tally___init__ t.d_Tally___init__ ["self"] (a1m t K):=by
 refine T.F_Tally___init__.ok a0n (fun vs H Q E h=>?_) (fun cdv A outer s H vs Q E hr h=>?_)
 ·obtain⟨p,dx,rfl,_⟩:=h
  rfl
 obtain⟨p,dx,rfl,hp,q⟩:=h
 refine⟨_,(b9 (K5 (pv 0) d5 rfl)
 (b9 (K5 (pv 0) A9 rfl)
 (b9 (K5 (pv 0) A9 rfl)
 (b9 (K5 (pv 0) (j8 b7) rfl)
 (b9 (K5 (pv 0) (j8 b7) rfl)
 (d6 (K5 (pv 0) (j8 b7) rfl))))))),?_⟩
 refine⟨_,rfl,p,_,dx,_,rfl,hp,T.cl_Tally,T.n_Tally_begun,(by show 0<1000;decide),fun U hU=>?_⟩
 have a1:p≠U:=e9 b6 hU
 refine⟨_,rfl,p,_,dx,_,rfl,by rw[b8 a1];exact b6,T.cl_Tally,T.n_Tally_under_way,(by show 1<1000;decide),fun Vd hV=>?_⟩
 have a2:p≠Vd:=e9 b6 hV
 refine⟨_,rfl,p,_,dx,_,rfl,by rw[b8 a2];exact b6,T.cl_Tally,T.n_Tally_versions,(by show 2<1000;decide),(by show 0≤sizeLine;decide),fun R hR=>?_⟩
 have a3:p≠R:=e9 b6 hR
 refine⟨_,rfl,p,_,dx,_,rfl,by rw[b8 a3];exact b6,T.cl_Tally,T.n_Tally_records,(by show 3<1000;decide),(by show 0≤sizeLine;decide),fun L hL=>?_⟩
 have a4:p≠L:=e9 b6 hL
 refine⟨_,rfl,p,_,dx,_,rfl,by rw[b8 a4];exact b6,T.cl_Tally,T.n_Tally_links,(by show 4<1000;decide),(by show 0≤sizeLine;decide),fun W hW=>?_⟩
 have a5:p≠W:=e9 b6 hW
 refine⟨_,rfl,p,_,dx,_,rfl,by rw[b8 a5];exact b6,T.cl_Tally,T.n_Tally_row,(by show 5<1000;decide),?_⟩
 have b12:Vd≠U:=fun z=>by rw[z,b8 (Ne.symm a1),b6]at hV;cases hV
 have b13:R≠U:=fun z=>by rw[z,b8 (Ne.symm a1),b8 (Ne.symm b12),b8 (Ne.symm a1),b6]at hR;cases hR
 have b23:R≠Vd:=fun z=>by rw[z,b8 (Ne.symm a2),b6]at hR;cases hR
 have b14:L≠U:=fun z=>by rw[z,b8 (Ne.symm a1),b8 (Ne.symm b13),b8 (Ne.symm a1),b8 (Ne.symm b12),b8 (Ne.symm a1),b6]at hL;cases hL
 have b24:L≠Vd:=fun z=>by rw[z,b8 (Ne.symm a2),b8 (Ne.symm b23),b8 (Ne.symm a2),b6]at hL;cases hL
 have b34:L≠R:=fun z=>by rw[z,b8 (Ne.symm a3),b6]at hL;cases hL
 have b15:W≠U:=fun z=>by rw[z,b8 (Ne.symm a1),b8 (Ne.symm b14),b8 (Ne.symm a1),b8 (Ne.symm b13),b8 (Ne.symm a1),b8 (Ne.symm b12),b8 (Ne.symm a1),b6]at hW;cases hW
 have b25:W≠Vd:=fun z=>by rw[z,b8 (Ne.symm a2),b8 (Ne.symm b24),b8 (Ne.symm a2),b8 (Ne.symm b23),b8 (Ne.symm a2),b6]at hW;cases hW
 have b35:W≠R:=fun z=>by rw[z,b8 (Ne.symm a3),b8 (Ne.symm b34),b8 (Ne.symm a3),b6]at hW;cases hW
 have b45:W≠L:=fun z=>by rw[z,b8 (Ne.symm a4),b6]at hW;cases hW
 let G:Gh:=⟨fun b=>if b=p then .tally else if b=U then .under else if b=Vd then .vers else if b=R then .recs else if b=L then .fz else if b=W then .fz else .free,dx,U,Vd,R,L,W,fun _=>0,fun _=>0,fun _=>0,fun _=>0,fun _=>0⟩
 have g0:G.rl p=.tally:=if_pos rfl
 have g1:G.rl U=.under:=by show(if U=p then _ else _)=_;rw[if_neg (Ne.symm a1),if_pos rfl]
 have g2:G.rl Vd=.vers:=by show(if Vd=p then _ else _)=_;rw[if_neg (Ne.symm a2),if_neg b12,if_pos rfl]
 have g3:G.rl R=.recs:=by show(if R=p then _ else _)=_;rw[if_neg (Ne.symm a3),if_neg b13,if_neg b23,if_pos rfl]
 have g4:G.rl L=.fz:=by show(if L=p then _ else _)=_;rw[if_neg (Ne.symm a4),if_neg b14,if_neg b24,if_neg b34,if_pos rfl]
 have g5:G.rl W=.fz:=by show(if W=p then _ else _)=_;rw[if_neg (Ne.symm a5),if_neg b15,if_neg b25,if_neg b35,if_neg b45,if_pos rfl]
 have off:∀c o,c≠p→H c=some o→c≠U∧c≠Vd∧c≠R∧c≠L∧c≠W:=fun c o nc hc=>by
  have c1:c≠U:=fun z=>by rw[←z,b8 nc,hc]at hU;cases hU
  have c2:c≠Vd:=fun z=>by rw[←z,b8 nc,b8 c1,b8 nc,hc]at hV;cases hV
  have c3:c≠R:=fun z=>by rw[←z,b8 nc,b8 c2,b8 nc,b8 c1,b8 nc,hc]at hR;cases hR
  have c4:c≠L:=fun z=>by rw[←z,b8 nc,b8 c3,b8 nc,b8 c2,b8 nc,b8 c1,b8 nc,hc]at hL;cases hL
  have c5:c≠W:=fun z=>by rw[←z,b8 nc,b8 c4,b8 nc,b8 c3,b8 nc,b8 c2,b8 nc,b8 c1,b8 nc,hc]at hW;cases hW
  exact⟨c1,c2,c3,c4,c5⟩
 generalize eHF:upd _ p (.ins t.C_Tally dx _)=HF
 have F0:HF p=some (.ins t.C_Tally dx (C2 0 U Vd R L W)):=by rw[←eHF];exact b6
 have F1:HF U=some (HO.dK (j5 (Z0.under.map (·.num)) fun n=>V.ref (G.dp n))):=by
  rw[←eHF]
  rw[b8 (Ne.symm a1),b8 (Ne.symm b15),b8 (Ne.symm a1),b8 (Ne.symm b14),b8 (Ne.symm a1),b8 (Ne.symm b13),b8 (Ne.symm a1),b8 (Ne.symm b12),b8 (Ne.symm a1),b6];rfl
 have F2:HF Vd=some (HO.dK (Z0.vers.map fun q=>((Sum.inr q.1:Key),V.ref (G.vl q.1)))):=by
  rw[←eHF]
  rw[b8 (Ne.symm a2),b8 (Ne.symm b25),b8 (Ne.symm a2),b8 (Ne.symm b24),b8 (Ne.symm a2),b8 (Ne.symm b23),b8 (Ne.symm a2),b6];rfl
 have F3:HF R=some (HO.lst []):=by
  rw[←eHF]
  rw[b8 (Ne.symm a3),b8 (Ne.symm b35),b8 (Ne.symm a3),b8 (Ne.symm b34),b8 (Ne.symm a3),b6]
 have F4:HF L=some (HO.lst []):=by
  rw[←eHF]
  rw[b8 (Ne.symm a4),b8 (Ne.symm b45),b8 (Ne.symm a4),b6]
 have F5:HF W=some (HO.lst (Z0.row.map V.int)):=by
  rw[←eHF]
  rw[b8 (Ne.symm a5),b6];rfl
 refine q G _ ⟨F0,F1,F2,⟨[],F3,.nil⟩,⟨[],F4,.nil⟩,F5,(fun d hd=>nomatch hd),(fun q hq=>nomatch hq),g0,g1,g2,g3,g4,g5,List.nodup_nil,List.nodup_nil,fun b e=>?_⟩ (fun c o nc hc=>?_) fun c o nc hc=>?_
 ·show(if b=p then _ else _)=_
  rw[if_neg (fun z=>by rw[z,F0]at e;cases e),if_neg (fun z=>by rw[z,F1]at e;cases e),if_neg (fun z=>by rw[z,F2]at e;cases e),if_neg (fun z=>by rw[z,F3]at e;cases e),if_neg (fun z=>by rw[z,F4]at e;cases e),if_neg (fun z=>by rw[z,F5]at e;cases e)]
 ·obtain⟨c1,c2,c3,c4,c5⟩:=off c o nc hc
  rw[←eHF,b8 nc,b8 c5,b8 nc,b8 c4,b8 nc,b8 c3,b8 nc,b8 c2,b8 nc,b8 c1,b8 nc];exact hc
 ·obtain⟨c1,c2,c3,c4,c5⟩:=off c o nc hc
  show(if c=p then _ else _)=_
  rw[if_neg nc,if_neg c1,if_neg c2,if_neg c3,if_neg c4,if_neg c5]
def G4(v:K1)(g:Str)(x:Int×Int):K1:=if g∈v.map (·.1) then v.map (fun q=>if q.1=g then(q.1,q.2++[x]) else q) else v++[(g,[x])]
def O3(v:K1)(am:Am)(m:Int):K1:=am.foldl (fun v q=>G4 v q.1 (m,q.2)) v
theorem a6R{v:K1}{am:Am}{m:Int}{i:Nat}{q:Str×Int}(h:am[i]?=some q):O3 v (am.take (i+1)) m=G4 (O3 v (am.take i) m) q.1 (m,q.2):=by
 unfold O3;rw[List.take_add_one,h,Option.toList_some,List.foldl_append];rfl
theorem a9i(v:K1)(g:Str)(x:Int×Int):(G4 v g x).map (·.1)=if g∈v.map (·.1) then v.map (·.1) else v.map (·.1)++[g]:=by
 unfold G4;split
 ·rw[List.map_map]
  refine List.map_congr_left fun q _=>?_
  show(if q.1=g then(q.1,q.2++[x]) else q).1=q.1
  split<;>rfl
 ·rw[List.map_append];rfl
theorem b9d(v:K1)(g:Str)(x:Int×Int):(G4 v g x).length≤v.length+1:=by
 unfold G4;split<;>simp
theorem a3B(v:K1)(m:Int):∀am:Am,(O3 v am m).length≤v.length+am.length:=by
 intro am
 induction am generalizing v with
 | nil=>exact Nat.le_refl _
 | cons q am ih=>
  show(O3 (G4 v q.1 (m,q.2)) am m).length≤_
  have:=ih (G4 v q.1 (m,q.2))
  have:=b9d v q.1 (m,q.2)
  rw[List.length_cons];omega
theorem b0f{v:K1}(nd:(v.map (·.1)).Nodup){a b:Str×List (Int×Int)}(ha:a∈v)(hb:b∈v)(h:a.1=b.1):a=b:=by
 have e1:=a6p nd ha
 have e2:=a6p nd hb
 rw[h,e2]at e1
 exact Prod.ext h e1.symm
theorem b5b{H:Hp}{a:Addr}{o u:HO}(h:H a=some u)(n1:∀xs,u≠.tup xs)(n2:∀ob xs,u≠.frz ob (.tup xs)):r9 H (upd H a o):=
 ⟨fun b xs e=>by rw[b8 fun z=>by rw[z,h]at e;exact n1 xs (Option.some.inj e)];exact e,fun b ob xs e=>by rw[b8 fun z=>by rw[z,h]at e;exact n2 ob xs (Option.some.inj e)];exact e⟩
section
variable{CT CD p:Addr}{G:Gh}{H:Hp}{st:k8}
theorem TA.off(h:TA CT CD G H p st){a:Addr}{n:Int}{o:HO}(ha:G.rl a=.side n)(hn:∀d∈st.under,d.num≠n)(t:r9 H (upd H a o)):TA CT CD G (upd H a o) p st:=by
 refine⟨d8 h.ob h.r0 ha (by simp),d8 h.un h.r1 ha (by simp),d8 h.ve h.r2 ha (by simp),?_,?_,d8 h.rw h.r5 ha (by simp),fun e he=>?_,fun q hq=>?_,h.r0,h.r1,h.r2,h.r3,h.r4,h.r5,h.nd,h.vd,fun b e=>h.cl b (r8 e)⟩
 ·obtain⟨xs,h1,h2⟩:=h.rc
  exact⟨xs,d8 h1 h.r3 ha (by simp),Paired.mapP h2 fun _ _ z=>z.upd ha (by simp) t⟩
 ·obtain⟨xs,h1,h2⟩:=h.ln
  exact⟨xs,d8 h1 h.r4 ha (by simp),h2.tupK t⟩
 ·have E:=h.dl e he
  exact⟨d8 E.ob E.r1 ha (by simp),d8 E.lk E.r2 ha (by simp),d8 E.as E.r3 ha (by simpa using hn e he),E.r1,E.r2,E.r3⟩
 ·obtain⟨xs,h1,h2,h3⟩:=h.vl q hq
  exact⟨xs,d8 h1 h3 ha (by simp),z9 t h2,h3⟩
theorem TA.addOld(h:TA CT CD G H p st){q:Str×List (Int×Int)}(hq:q∈st.vers){x:Int×Int}{xs:List V}{y:V}(hx:H (G.vl q.1)=some (.lst xs))(hy:VAt H x y) :
  TA CT CD G (upd H (G.vl q.1) (.lst (xs++[y]))) p { st with vers:=G4 st.vers q.1 x }:=by
 obtain⟨xs',h1,h2,h3⟩:=h.vl q hq
 rw[hx]at h1;cases h1
 have t:r9 H (upd H (G.vl q.1) (.lst (xs++[y]))):=n5 hx
 have inn:q.1∈st.vers.map (·.1):=List.mem_map.mpr ⟨q,hq,rfl⟩
 refine⟨d8 h.ob h.r0 h3 (by simp),d8 h.un h.r1 h3 (by simp),?_,?_,?_,d8 h.rw h.r5 h3 (by simp),fun e he=>?_,fun r hr=>?_,h.r0,h.r1,h.r2,h.r3,h.r4,h.r5,h.nd,?_,fun b e=>h.cl b (r8 e)⟩
 ·rw[b8 (a9e h.r2 h3 (by simp)),h.ve]
  show some (HO.dK _)=some (HO.dK ((G4 st.vers q.1 x).map _))
  congr 2
  unfold G4
  rw[if_pos inn,List.map_map]
  refine List.map_congr_left fun r _=>?_
  show _=((Sum.inr (if r.1=q.1 then(r.1,r.2++[x]) else r).1:Key),V.ref (G.vl (if r.1=q.1 then(r.1,r.2++[x]) else r).1))
  split<;>rfl
 ·obtain⟨zs,z1,z2⟩:=h.rc
  exact⟨zs,d8 z1 h.r3 h3 (by simp),Paired.mapP z2 fun _ _ z=>z.upd h3 (by simp) t⟩
 ·obtain⟨zs,z1,z2⟩:=h.ln
  exact⟨zs,d8 z1 h.r4 h3 (by simp),z2.tupK t⟩
 ·have E:=h.dl e he
  exact⟨d8 E.ob E.r1 h3 (by simp),d8 E.lk E.r2 h3 (by simp),d8 E.as E.r3 h3 (by simp),E.r1,E.r2,E.r3⟩
 ·have hr:r∈G4 st.vers q.1 x:=hr
  unfold G4 at hr
  rw[if_pos inn]at hr
  obtain⟨r',hr',rfl⟩:=List.mem_map.mp hr
  by_cases c:r'.1=q.1
  ·have:r'=q:=b0f h.vd hr' hq c
   subst this
   rw[if_pos rfl]
   obtain⟨b,e1,e2⟩:=hy
   exact⟨_,b6,Paired.snoc (z9 t h2) ⟨b,e1,t.1 _ _ e2⟩,h3⟩
  ·rw[if_neg c]
   obtain⟨zs,z1,z2,z3⟩:=h.vl r' hr'
   exact⟨zs,d8 z1 z3 h3 (by simpa using c),z9 t z2,z3⟩
 ·show((G4 st.vers q.1 x).map (·.1)).Nodup
  rw[a9i,if_pos inn];exact h.vd
def F9(G:Gh)(g:Str)(l:Addr):Gh:={ G with rl:=fun b=>if b=l then .vl g else G.rl b,vl:=fun k=>if k=g then l else G.vl k }
theorem b1e(v:K1)(G:Gh){g:Str}(l:Addr)(h:g∉v.map (·.1)):(v.map fun q=>((Sum.inr q.1:Key),V.ref ((F9 G g l).vl q.1)))=v.map fun q=>((Sum.inr q.1:Key),V.ref (G.vl q.1)):=
 List.map_congr_left fun q hq=>by
  show((Sum.inr q.1:Key),V.ref (if q.1=g then l else G.vl q.1))=_
  rw[if_neg fun z:q.1=g=>h (z▸List.mem_map.mpr ⟨q,hq,rfl⟩)]
theorem b2a(v:K1)(f:Str→V){g:Str}(x:V)(h:g∉v.map (·.1)):putK (v.map fun q=>((Sum.inr q.1:Key),f q.1)) (Sum.inr g) x=(v.map fun q=>((Sum.inr q.1:Key),f q.1))++[(Sum.inr g,x)]:=by
 unfold putK
 rw[if_neg]
 intro z
 obtain⟨kv,hk,e⟩:=List.any_eq_true.mp z
 obtain⟨q,hq,rfl⟩:=List.mem_map.mp hk
 exact h (List.mem_map.mpr ⟨q,hq,Sum.inr.inj (of_decide_eq_true e)⟩)
theorem b2b(v:K1)(f:Str→V){g:Str}(x:V)(h:g∈v.map (·.1)):putK (v.map fun q=>((Sum.inr q.1:Key),f q.1)) (Sum.inr g) x=v.map fun q=>((Sum.inr q.1:Key),if q.1=g then x else f q.1):=by
 unfold putK
 rw[if_pos,List.map_map]
 ·refine List.map_congr_left fun q _=>?_
  show(if (Sum.inr q.1:Key)=Sum.inr g then _ else _)=_
  by_cases e:q.1=g
  ·rw[if_pos (by rw[e]),if_pos e]
  ·rw[if_neg fun z=>e (Sum.inr.inj z),if_neg e]
 ·obtain⟨q,hq,e⟩:=List.mem_map.mp h
  exact List.any_eq_true.mpr ⟨_,List.mem_map.mpr ⟨q,hq,rfl⟩,decide_eq_true (by rw[e])⟩
theorem TA.setV(h:TA CT CD G H p st){g:Str}{l:Addr}{ps:List (Int×Int)}{xs:List V}{H1:Hp}{v:K1}(hl:H l=none)(s:h7 H H1)(h1:H1 l=some (.lst xs))(hx:Paired (VAt H1) ps xs)
  (hv:∀q∈v,q=(g,ps)∨(q.1≠g∧q∈st.vers)) (hk:(v.map (·.1)).Nodup) (hm:putK (st.vers.map fun q=>((Sum.inr q.1:Key),V.ref (G.vl q.1))) (Sum.inr g) (.ref l)=v.map fun q=>((Sum.inr q.1:Key),V.ref ((F9 G g l).vl q.1))) :
  TA CT CD (F9 G g l) (upd H1 G.Vd (.dK (putK (st.vers.map fun q=>((Sum.inr q.1:Key),V.ref (G.vl q.1))) (Sum.inr g) (.ref l)))) p { st with vers:=v }∧Kp G H (F9 G g l) (upd H1 G.Vd (.dK (putK (st.vers.map fun q=>((Sum.inr q.1:Key),V.ref (G.vl q.1))) (Sum.inr g) (.ref l)))):=by
 have rl_old:∀c o,H c=some o→(F9 G g l).rl c=G.rl c:=fun c o e=>by
  show(if c=l then _ else _)=_
  rw[if_neg (e9 e hl)]
 have h':=h.same s
 have rl1:∀{c o ρ},H c=some o→G.rl c=ρ→(F9 G g l).rl c=ρ:=fun {c o ρ} e r=>by rw[rl_old c o e];exact r
 have rV:(F9 G g l).rl G.Vd=.vers:=rl1 h.ve h.r2
 have rL:(F9 G g l).rl l=.vl g:=if_pos rfl
 have t:∀o,r9 H1 (upd H1 G.Vd o):=fun o=>K3 h'.ve
 refine⟨⟨d8 h'.ob (rl1 h.ob h.r0) rV (by simp),d8 h'.un (rl1 h.un h.r1) rV (by simp),?_,?_,?_,d8 h'.rw (rl1 h.rw h.r5) rV (by simp),fun e he=>?_,fun q hq=>?_,rl1 h.ob h.r0,rl1 h.un h.r1,rV,?_,?_,rl1 h.rw h.r5,h.nd,hk,fun b e=>?_⟩,⟨fun c o f e=>?_,s.tupK.trans (t _),fun c o f e=>by rw[rl_old c o e];exact f,fun c e=>j2 s (r8 e)⟩⟩
 ·show upd H1 G.Vd _ G.Vd=_
  rw[b6,hm]
 ·obtain⟨zs,z1,z2⟩:=h.rc
  refine⟨zs,d8 (s _ _ z1) (rl1 z1 h.r3) rV (by simp),Paired.mapP z2 fun _ _ z=>?_⟩
  obtain⟨b,la,pa,e,w1,w2,w3,w4,w5⟩:=z
  exact⟨b,la,pa,e,(t _).1 _ _ (s _ _ w1),d8 (s _ _ w2) (rl1 w2 w4) rV (by simp),d8 (s _ _ w3) (rl1 w3 w5) rV (by simp),rl1 w2 w4,rl1 w3 w5⟩
 ·obtain⟨zs,z1,z2⟩:=h.ln
  exact⟨zs,d8 (s _ _ z1) (rl1 z1 h.r4) rV (by simp),(z2.tupK s.tupK).tupK (t _)⟩
 ·have E:=h.dl e he
  exact⟨d8 (s _ _ E.ob) (rl1 E.ob E.r1) rV (by simp),d8 (s _ _ E.lk) (rl1 E.lk E.r2) rV (by simp),d8 (s _ _ E.as) (rl1 E.as E.r3) rV (by simp),rl1 E.ob E.r1,rl1 E.lk E.r2,rl1 E.as E.r3⟩
 ·rcases hv q hq with rfl | ⟨c,hq'⟩
  ·have e1:(F9 G g l).vl g=l:=if_pos rfl
   show ∃xs,upd H1 G.Vd _ ((F9 G g l).vl g)=some (.lst xs)∧_∧(F9 G g l).rl ((F9 G g l).vl g)=_
   rw[e1]
   exact⟨xs,d8 h1 rL rV (by simp),z9 (t _) hx,rL⟩
  ·obtain⟨zs,z1,z2,z3⟩:=h.vl q hq'
   have e1:(F9 G g l).vl q.1=G.vl q.1:=if_neg c
   rw[e1]
   exact⟨zs,d8 (s _ _ z1) (rl1 z1 z3) rV (by simp),z9 (t _) (z9 s.tupK z2),rl1 z1 z3⟩
 ·obtain⟨zs,z1,_⟩:=h.rc;exact rl1 z1 h.r3
 ·obtain⟨zs,z1,_⟩:=h.ln;exact rl1 z1 h.r4
 ·have e:=r8 e
  show(if b=l then _ else _)=_
  rw[if_neg fun z=>by rw[z,h1]at e;cases e]
  exact h.cl b (j2 s e)
 ·rw[b8 fun z=>by rw[z,h.r2]at f;cases f];exact s _ _ e
end
inductive a9g(t:A5)(K:PySem.W.Frag)(vs:List V)(H:Hp)(Q:VK):Prop
 | mk (G:Gh) (p a:Addr) (st:k8) (n:Int) (am:Am) (x0:vs=[.ref p,.ref a]) (x1:TA t.C_Tally t.C_Dealing G H p st) (x2:H a=some (.dK (M5 am))) (x3:G.rl a=.side n) (x4:(∀d∈st.under,d.num≠n)) (x5:am.length≤1000) (x6:st.vers.length≤100000) (x7:(∀q∈st.vers,q.2.length≤100000)) (xq:Pst t G H p { st with vers:=O3 st.vers am (st.recs.length:Int) } fun H'=>Q .non H')
def a3k(t:A5)(K:PySem.W.Frag):Sp:=fun vs H Q _=>a9g t K vs H Q
theorem a8s{v:K1}{m:Int}{am:Am}(nd:(v.map (·.1)).Nodup){c:Nat}(h:∀q∈v,q.2.length≤c):∀q∈O3 v am m,q.2.length≤c+am.length:=by
 induction am generalizing v c with
 | nil=>exact h
 | cons a am ih=>
  have nd':((G4 v a.1 (m,a.2)).map (·.1)).Nodup:=by
   rw[a9i];split
   ·exact nd
   ·rename_i z
    rw[List.nodup_append]
    refine⟨nd,by simp,fun x hx y hy e=>z ?_⟩
    rw[List.mem_singleton.mp hy]at e
    rw[←e];exact hx
  have h':∀q∈G4 v a.1 (m,a.2),q.2.length≤c+1:=fun q hq=>by
   unfold G4 at hq
   split at hq
   ·obtain⟨r,hr,rfl⟩:=List.mem_map.mp hq
    have:=h r hr
    split
    ·simp;exact this
    ·omega
   ·rcases List.mem_append.mp hq with hq | hq
    ·have:=h q hq;omega
    ·rw[List.mem_singleton.mp hq];simp
  intro q hq
  have:=ih nd' h' q hq
  rw[List.length_cons];omega
set_option maxHeartbeats 0 in
theorem a3j(T:z8 K mg t):g7 P w K mg base x9 2 t.f_Tally_take_over t.d_Tally_take_over ["self","aside"] (a3k t K):=by
 refine T.F_Tally_take_over.ok N4 (fun vs H Q E h=>?_) (fun cdv A outer s H vs Q E hr h=>?_)
 ·obtain⟨G,p,a,st,n,am,rfl,_⟩:=h
  rfl
 obtain⟨G,p,a,st,n,am,rfl,h,ha,ra,hn,z1,z2,z3,q⟩:=h
 have hu:=O7 hr
 refine⟨_,(d6 (a4N (z6 PassesOwn.never rfl (b6a (pv 1)) (a3H rfl (N7 (l4 (i:=2) N4.nd rfl (Or.inl rfl)) (N7 (l4 (i:=3) N4.nd rfl (Or.inl rfl)) a7z)))
 (d6 (l6 (v3 PySem.F.plainAttrs_list PySem.F.slot_list_append PySem.F.type_list_append m8 (b0b hu (u0 (pv 0) rfl) (pv 2) (j8 b7) ⟨rfl,rfl,rfl,rfl⟩) (a6 (p6 (a6 (U7 (pv 0) T.cl_Tally T.M_Tally_moment (g7.mono (k:=1) (M9 T) (by decide)) hr T.F_Tally_moment.b .nil j7) (a6 (pv 3) b7))) b7))))))),?_⟩
 refine⟨_,rfl,a,M5 am,rfl,ha,fun o=>?_⟩
 have t0:∀u,r9 H (upd H a u):=fun u=>K3 ha
 have K0:∀u,Kp G H G (upd H a u):=fun u=>Kp.upd (by rw[ra];simp) (t0 u)
 refine b6k (fun i σ' H'=>∃(o2 o3:Option V) (G':Gh),σ'=[some (.ref p),some (.ref a),o2,o3]∧TA t.C_Tally t.C_Dealing G' H' p { st with vers:=O3 st.vers (am.take i) (st.recs.length:Int) }∧Kp G H G' H'∧H' a=some (.frz o (.dK (M5 am)))∧G'.rl a=.side n)
  ⟨none,none,G,rfl,h.off ra hn (t0 _),K0 _,b6,ra⟩ (fun i σ' H' _ h=>?_) (fun i k v σ' H' tp hk h htp=>?_) (fun σ' H' h=>?_)
 ·obtain⟨_,_,_,_,_,_,h1,_⟩:=h
  exact h1
 ·obtain⟨o2,o3,G',rfl,h1,k1,ha1,ra1⟩:=h
  unfold M5 at hk
  rw[List.getElem?_map]at hk
  obtain⟨x,hx,e⟩:=Option.map_eq_some_iff.mp hk
  have e1:k=Sum.inr x.1:=(congrArg Prod.fst e).symm
  have e2:v=V.int x.2:=(congrArg Prod.snd e).symm
  subst e1;subst e2
  have li:=(List.getElem?_eq_some_iff.mp hx).1
  have s1:=c9 (o:=.tup [kV (Sum.inr x.1),V.int x.2]) htp
  have h2:=h1.same s1
  have ha2:=s1 _ _ ha1
  refine⟨tp,_,rfl,f7.of b6,rfl,_,_,rfl,_,_,rfl,rfl,?_⟩
  generalize upd H' tp (.tup [kV (Sum.inr x.1),V.int x.2])=H2 at s1 h2 ha2 ⊢
  have k2:=k1.trans (Kp.same (G:=G') s1)
  have lv:=a3B st.vers (st.recs.length:Int) (am.take i)
  have ll:=a8s (m:=(st.recs.length:Int)) (am:=am.take i) h.vd z3
  rw[List.length_take]at lv ll
  rw[a6R hx]
  generalize O3 st.vers (am.take i) (st.recs.length:Int)=v at h2 lv ll ⊢
  obtain⟨xr,hR,pR⟩:=h2.rc
  have lR:=r6 pR
  refine⟨_,rfl,p,_,_,_,_,rfl,h2.ob,T.cl_Tally,T.n_Tally_versions,rfl,G'.Vd,rfl,.inl ⟨_,.inl h2.ve⟩,_,rfl,(by show 0≤sizeLine;decide),fun l hl=>?_⟩
  have s3:=c9 (o:=.lst []) hl
  have h3:=h2.same s3
  have ha3:=s3 _ _ ha2
  have fz:(fun g:Str=>V.ref (G'.vl g))=fun g=>V.ref (G'.vl g):=rfl
  refine⟨_,Sum.inr x.1,h3.ve,rfl,n6 (by rw[List.length_map];show v.length≤_;omega),fun y hy=>?_,fun hy=>?_⟩
  ·
   rw[a0l v (fun g=>V.ref (G'.vl g))]at hy
   split at hy
   ·rename_i c
    cases hy
    obtain⟨q',hq',e⟩:=List.mem_map.mp c
    obtain⟨xs,x1,x2,x3⟩:=h3.vl q' hq'
    rw[e]at x1 x3
    have lx:=r6 x2
    have lq:=ll q' hq'
    refine⟨.inl ⟨rfl,_,d9.of x1⟩,_,rfl,p,_,_,rfl,h3.ob,rfl,p,_,_,_,_,_,_,_,xr,rfl,h3.ob,s3 _ _ hR,_,rfl,(by show 2≤sizeLine;decide),fun tt htt=>?_⟩
    have s4:=c9 (o:=.tup [.int (xr.length:Int),.int x.2]) htt
    refine⟨G'.vl x.1,xs,_,rfl,rfl,s4 _ _ x1,n6 (by omega),?_⟩
    have h4:=(h3.same s4).addOld (q:=q') hq' (x:=((st.recs.length:Int),x.2)) (xs:=xs) (y:=.ref tt) (by rw[e];exact s4 _ _ x1) ⟨tt,rfl,by rw[b6,lR]⟩
    rw[e]at h4
    have rv:G'.rl (G'.vl x.1)=.vl x.1:=x3
    refine⟨_,_,G',rfl,h4,k2.trans ((Kp.same (G:=G') (s3.trans s4)).trans (Kp.upd (by rw[rv];simp) (n5 (s4 _ _ x1)))),?_,ra1⟩
    exact d8 (G:=G') (s4 _ _ ha3) ra1 rv (by simp)
   ·cases hy
  ·
   rw[a0l v (fun g=>V.ref (G'.vl g))]at hy
   split at hy
   ·cases hy
   ·rename_i c
    have hv:∀q∈v++[(x.1,([]:List (Int×Int)))],q=(x.1,[])∨(q.1≠x.1∧q∈v):=fun q hq=>by
     rcases List.mem_append.mp hq with hq | hq
     ·exact .inr ⟨fun z=>c (z▸List.mem_map.mpr ⟨q,hq,rfl⟩),hq⟩
     ·exact .inl (List.mem_singleton.mp hq)
    have hk:((v++[(x.1,([]:List (Int×Int)))]).map (·.1)).Nodup:=by
     rw[List.map_append,List.nodup_append]
     refine⟨h2.vd,by simp,fun y hy z hz e=>c ?_⟩
     have:z=x.1:=by simpa using hz
     rw[←this,←e];exact hy
    obtain⟨h4,k4⟩:=h2.setV (g:=x.1) (l:=l) (ps:=[]) (xs:=[]) (v:=v++[(x.1,[])]) hl s3 b6 .nil hv hk (by
     rw[b2a v (fun g=>V.ref (G'.vl g)) _ c,List.map_append,b1e v G' l c]
     show _=_++[((Sum.inr x.1:Key),V.ref (if x.1=x.1 then l else G'.vl x.1))]
     rw[if_pos rfl])
    have rl4:(F9 G' x.1 l).rl l=.vl x.1:=if_pos rfl
    have vl4:(F9 G' x.1 l).vl x.1=l:=if_pos rfl
    have ra4:(F9 G' x.1 l).rl a=.side n:=by
     show(if a=l then _ else _)=_
     rw[if_neg (e9 ha2 hl)];exact ra1
    have rv4:(F9 G' x.1 l).rl G'.Vd=.vers:=h4.r2
    have hl4:(upd (upd H2 l (.lst [])) G'.Vd (.dK (putK (v.map fun q=>((Sum.inr q.1:Key),V.ref (G'.vl q.1))) (Sum.inr x.1) (.ref l)))) l=some (.lst []):=d8 b6 rl4 rv4 (by simp)
    have ha4:(upd (upd H2 l (.lst [])) G'.Vd (.dK (putK (v.map fun q=>((Sum.inr q.1:Key),V.ref (G'.vl q.1))) (Sum.inr x.1) (.ref l)))) a=some (.frz o (.dK (M5 am))):=d8 ha3 ra4 rv4 (by simp)
    have hR4:∃xr',(upd (upd H2 l (.lst [])) G'.Vd (.dK (putK (v.map fun q=>((Sum.inr q.1:Key),V.ref (G'.vl q.1))) (Sum.inr x.1) (.ref l)))) G'.R=some (.lst xr')∧xr'.length=st.recs.length:=by
     obtain⟨xr',w1,w2⟩:=h4.rc
     exact⟨xr',w1,r6 w2⟩
    show _∧_
    generalize upd (upd H2 l (.lst [])) G'.Vd (.dK (putK (v.map fun q=>((Sum.inr q.1:Key),V.ref (G'.vl q.1))) (Sum.inr x.1) (.ref l)))=H4 at h4 k4 hl4 ha4 hR4 ⊢
    obtain⟨xr',hR',lR'⟩:=hR4
    refine⟨.inl ⟨rfl,_,d9.of hl4⟩,_,rfl,p,_,_,rfl,h4.ob,rfl,p,_,_,_,_,_,_,_,xr',rfl,h4.ob,hR',_,rfl,(by show 2≤sizeLine;decide),fun tt htt=>?_⟩
    have s5:=c9 (o:=.tup [.int (xr'.length:Int),.int x.2]) htt
    refine⟨l,[],_,rfl,rfl,s5 _ _ hl4,n6 (by simp),?_⟩
    have h5:=(h4.same s5).addOld (q:=(x.1,[])) (List.mem_append_right _ List.mem_cons_self) (x:=((st.recs.length:Int),x.2)) (xs:=[]) (y:=.ref tt) (by show upd H4 tt _ ((F9 G' x.1 l).vl x.1)=_;rw[vl4];exact s5 _ _ hl4) ⟨tt,rfl,by rw[b6,lR']⟩
    have ev:G4 (v++[(x.1,[])]) x.1 ((st.recs.length:Int),x.2)=G4 v x.1 ((st.recs.length:Int),x.2):=by
     unfold G4
     rw[if_pos (by simp),if_neg c,List.map_append]
     congr 1
     ·refine(List.map_congr_left fun q hq=>?_).trans (List.map_id v)
      rw[if_neg fun z:q.1=x.1=>c (z▸List.mem_map.mpr ⟨q,hq,rfl⟩)];rfl
     ·simp
    rw[show({ st with vers:=G4 (v++[(x.1,[])]) x.1 ((st.recs.length:Int),x.2) }:k8)={ st with vers:=G4 v x.1 ((st.recs.length:Int),x.2) } by rw[ev]] at h5
    have e6:(F9 G' x.1 l).vl (x.1,([]:List (Int×Int))).1=l:=vl4
    rw[e6]at h5
    refine⟨_,_,F9 G' x.1 l,rfl,h5,(k2.trans k4).trans ((Kp.same (G:=F9 G' x.1 l) s5).trans (Kp.upd (by rw[rl4];simp) (n5 (s5 _ _ hl4)))),?_,ra4⟩
    exact d8 (G:=F9 G' x.1 l) (s5 _ _ ha4) ra4 rl4 (by simp)
 ·obtain⟨o2,o3,G',rfl,h1,k1,ha1,ra1⟩:=h
  rw[a1O,List.take_length]at h1
  have tz:∀u,r9 H' (upd H' a u):=fun u=>b5b ha1 (fun xs z=>by cases z) (fun ob xs z=>by cases z)
  exact⟨a,o,M5 am,ha,ha1,q G' _ (h1.off ra1 hn (tz _)) (k1.trans (Kp.upd (by rw[ra1];simp) (tz _)))⟩
def swL(ps:List (Int×Int))(m:Int):List (Int×Int):=ps.drop (cnt ps m-1)
def swV(v:K1)(m:Int):K1:=v.map fun q=>(q.1,swL q.2 m)
def a4l(v:K1)(m:Int):Int:=(v.map fun q=>((q.2.length:Int)-((swL q.2 m).length:Int))).sum
def b8b(st:k8)(m:Int):Prop:=(st.under=[]→m=(st.recs.length:Int))∧(st.under≠[]→m∈st.under.map (·.beg)∧∀d∈st.under,m≤d.beg)
theorem a8B{α β:Type}{F:α→β→Prop}:∀(n:Nat) {l:List α} {m:List β},Paired F l m→Paired F (l.drop n) (m.drop n)
 | 0,_,_,h=>h
 | n+1,_,_,.nil=>.nil
 | n+1,_,_,.cons _ t=>a8B n t
inductive a4s(t:A5)(K:PySem.W.Frag)(vs:List V)(H:Hp)(Q:VK):Prop
 | mk (G:Gh) (p:Addr) (st:k8) (x0:vs=[.ref p]) (x1:TA t.C_Tally t.C_Dealing G H p st) (x2:st.under.length≤1000) (x3:st.vers.length≤100000) (x4:(∀q∈st.vers,q.2.length≤100000)) (xq:∀m,b8b st m→Pst t G H p { st with vers:=swV st.vers m } fun H'=>Q (.int (a4l st.vers m)) H')
def a9y(t:A5)(K:PySem.W.Frag):Sp:=fun vs H Q _=>a4s t K vs H Q
def O8(v:K1)(m:Int)(i:Nat):K1:=swV (v.take i) m++v.drop i
theorem a9J(v:K1)(m:Int)(i:Nat):(O8 v m i).map (·.1)=v.map (·.1):=by
 unfold O8 swV
 rw[List.map_append,List.map_map]
 have:((fun x:Str×List (Int×Int)=>x.1)∘fun q:Str×List (Int×Int)=>(q.1,swL q.2 m))=fun q=>q.1:=rfl
 rw[this,←List.map_append,List.take_append_drop]
theorem b7m{v:K1}{m:Int}{i:Nat}{q:Str×List (Int×Int)}(h:v[i]?=some q):q∈O8 v m i:=by
 unfold O8
 refine List.mem_append_right _ ?_
 refine List.mem_of_getElem? (i:=0) ?_
 rw[List.getElem?_drop];simpa using h
theorem b4f{v:K1}(nd:(v.map (·.1)).Nodup){m:Int}{i:Nat}{q:Str×List (Int×Int)}(h:v[i]?=some q):O8 v m (i+1)=(O8 v m i).map fun r=>if r.1=q.1 then(q.1,swL q.2 m) else r:=by
 have li:=(List.getElem?_eq_some_iff.mp h).1
 have hi:=(List.getElem?_eq_some_iff.mp h).2
 have inj:∀(j:Nat) r,v[j]?=some r→r.1=q.1→j=i:=fun j r hj e=>
  (List.getElem?_inj (l:=v.map (·.1)) (by rw[List.length_map];exact(List.getElem?_eq_some_iff.mp hj).1) nd).mp (by rw[List.getElem?_map,List.getElem?_map,hj,h];simp[e])
 unfold O8
 rw[List.map_append,List.drop_eq_getElem_cons li,hi,List.map_cons,if_pos rfl]
 have tk:v.take (i+1)=v.take i++[q]:=by rw[List.take_add_one,h];rfl
 rw[tk]
 unfold swV
 rw[List.map_append,List.append_assoc]
 congr 1
 ·rw[List.map_map]
  refine List.map_congr_left fun r hr=>?_
  obtain⟨j,hj⟩:=List.mem_iff_getElem?.mp hr
  rw[List.getElem?_take]at hj
  split at hj
  ·rename_i c
   show _=if r.1=q.1 then _ else _
   rw[if_neg fun e=>by have:=inj j r hj e;omega]
  ·cases hj
 ·rw[List.map_cons,List.map_nil,List.singleton_append]
  congr 1
  refine(List.map_id _).symm.trans (List.map_congr_left fun r hr=>?_)
  obtain⟨j,hj⟩:=List.mem_iff_getElem?.mp hr
  rw[List.getElem?_drop]at hj
  show r=if r.1=q.1 then _ else r
  rw[if_neg fun e=>by have:=inj _ r hj e;omega]
set_option maxHeartbeats 0 in
theorem a3y(T:z8 K mg t):g7 P w K mg base x9 3 t.f_Tally_sweep t.d_Tally_sweep ["self"] (a9y t K):=by
 refine T.F_Tally_sweep.ok B4 (fun vs H Q E h=>?_) (fun cdv A outer s H vs Q E hr h=>?_)
 ·obtain⟨G,p,st,rfl,_⟩:=h
  rfl
 obtain⟨G,p,st,rfl,h,z1,z2,z3,q⟩:=h
 have hu:=O7 hr
 refine⟨_,(b9 (a4N (a3N (i:=1) B4.nd rfl rfl rfl (a5Y (u0 (pv 0) rfl)) (J8.mk (own:=["dealing"]) (tl:=["self","beginnings","moment","gone","good","left"]) rfl rfl rfl (fun _ _ _ _ _=>(l4 (i:=0) (a4p) rfl (Or.inl rfl))) (fun _ _ _ _ _=>a7l) (fun _ _ _ _ _=>(b6i (pv 0) rfl)))))
 (b9 (N5 (g6 (i:=2) B4.nd rfl (Or.inl rfl) (a5Q rfl rfl T.m_min (pv 1) (U7 (pv 0) T.cl_Tally T.M_Tally_moment (g7.mono (k:=2) (M9 T) (by decide)) hr T.F_Tally_moment.b .nil j7))))
 (b9 (g6 (i:=3) B4.nd rfl (Or.inl rfl) d5)
 (b9 (z6 PassesOwn.never rfl (u4 (L5 (a0z rfl) rfl T.m_list boot_list (a6 (u0 (pv 0) rfl) b7))) (l4 (i:=4) B4.nd rfl (Or.inl rfl))
 (b9 (g6 (i:=5) B4.nd rfl (Or.inl rfl) (j4 (g7.mono (k:=2) (b9b T) (by decide)) hr rfl T.m_swept T.F_swept.kp T.F_swept.b .nil j7 (a6 (u5 hu (u0 (pv 0) rfl) (pv 4) (fun _ _=>rfl)) (a6 (pv 2) b7))))
 (b9 (g6 (i:=3) B4.nd rfl (Or.inl rfl) (i6 M4 (i6 C9 (pv 3) (g9 i5 rfl T.m_len PySem.boot_len (a6 (u5 hu (u0 (pv 0) rfl) (pv 4) (fun _ _=>rfl)) b7))) (g9 i5 rfl T.m_len PySem.boot_len (a6 (pv 5) b7))))
 (d6 (C1 hu (u0 (pv 0) rfl) (pv 4) (pv 5) rfl)))))
 (d6 (i3 (pv 3))))))),?_⟩
 have kl:(j5 (st.under.map (·.num)) fun n=>V.ref (G.dp n)).length=st.under.length:=by rw[F7,List.length_map]
 refine⟨_,rfl,p,_,_,_,_,rfl,h.ob,T.cl_Tally,T.n_Tally_under_way,rfl,G.U,_,rfl,h.un,fun o=>fun acc hacc=>?_⟩
 have nU:G.U≠acc:=e9 b6 hacc
 have nacc:H acc=none:=by rw[b8 (Ne.symm nU)]at hacc;exact hacc
 refine b0c (fun i H'=>V7 G.U H H'∧H' G.U=some (.frz o (.dK (j5 (st.under.map (·.num)) fun n=>.ref (G.dp n))))∧H' acc=some (.lst (((st.under.take i).map (·.beg)).map V.int)))
  ⟨fun b u nb e=>by rw[b8 (e9 e nacc),b8 nb];exact e,by rw[b8 nU];exact b6,b6⟩ (fun i H' _ h=>h.2.1) (fun i k x H' hx h=>?_) (fun H1 h'=>?_)
 ·obtain⟨b1,b2,b3⟩:=h
  unfold j5 at hx
  rw[List.getElem?_map,List.getElem?_map]at hx
  obtain⟨n,hn,e⟩:=Option.map_eq_some_iff.mp hx
  obtain⟨d,hd,rfl⟩:=Option.map_eq_some_iff.mp hn
  have e2:x=V.ref (G.dp d.num):=(congrArg Prod.snd e).symm
  subst e2
  have D:=h.dl d (List.mem_of_getElem? hd)
  have li:=(List.getElem?_eq_some_iff.mp hd).1
  refine⟨_,rfl,G.dp d.num,_,_,_,_,rfl,b1 _ _ (a9e D.r1 h.r1 (by simp)) D.ob,T.cl_Dealing,T.n_Dealing_began,rfl,_,b3,n6 (by rw[List.length_map,List.length_map,List.length_take];omega),fun b u nb e=>?_,?_,?_⟩
  ·rw[b8 (e9 e nacc)];exact b1 b u nb e
  ·rw[b8 nU];exact b2
  ·rw[b6,List.take_add_one,hd,Option.toList_some,List.map_append,List.map_append];rfl
 obtain⟨b1,b2,b3⟩:=h'
 rw[kl,List.take_length]at b3
 refine⟨G.U,o,_,h.un,b2,?_⟩
 have s1:h7 H (upd H1 G.U (.dK (j5 (st.under.map (·.num)) fun n=>.ref (G.dp n)))):=fun b u e=>by
  by_cases c:b=G.U
  ·subst c;rw[b6];rw[h.un]at e;exact e
  ·rw[b8 c];exact b1 b u c e
 have a1:(upd H1 G.U (.dK (j5 (st.under.map (·.num)) fun n=>.ref (G.dp n)))) acc=some (.lst ((st.under.map (·.beg)).map V.int)):=by rw[b8 (Ne.symm nU)];exact b3
 generalize upd H1 G.U (.dK (j5 (st.under.map (·.num)) fun n=>.ref (G.dp n)))=H2 at s1 a1 ⊢
 have h2:=h.same s1
 obtain⟨xr,hR,pR⟩:=h2.rc
 have lR:=r6 pR
 refine⟨fun σ' H'=>H'=H2∧∃m,b8b st m∧σ'=[some (.ref p),some (.ref acc),some (.int m),none,none,none],?_,fun σ' H' hM=>?_⟩
 ·refine⟨_,rfl,_,rfl,p,_,_,rfl,h2.ob,rfl,p,_,_,_,_,_,_,_,xr,rfl,h2.ob,hR,acc,st.under.map (·.beg),rfl,d9.of a1,fun e=>⟨rfl,_,⟨fun _=>by rw[lR],fun w=>absurd (List.map_eq_nil_iff.mp e) w⟩,rfl⟩,fun m hm hle=>⟨rfl,m,⟨fun w=>by rw[w]at hm;simp at hm,fun _=>⟨hm,fun d hd=>hle _ (List.mem_map.mpr ⟨d,hd,rfl⟩)⟩⟩,rfl⟩⟩
 obtain⟨rfl,m,mb,rfl⟩:=hM
 have q:=q m mb
 refine⟨_,rfl,p,_,_,_,_,rfl,h2.ob,T.cl_Tally,T.n_Tally_versions,rfl,G.Vd,_,rfl,.inl h2.ve,fun l hl=>?_⟩
 have ek:((st.vers.map fun q=>((Sum.inr q.1:Key),V.ref (G.vl q.1))).map fun q=>kV q.1)=(st.vers.map (·.1)).map V.str:=by rw[List.map_map,List.map_map];rfl
 rw[ek]
 have s3:=c9 (o:=.lst ((st.vers.map (·.1)).map V.str)) hl
 have hl3:(upd H' l (.lst ((st.vers.map (·.1)).map V.str))) l=some (.lst ((st.vers.map (·.1)).map V.str)):=b6
 generalize upd H' l (.lst ((st.vers.map (·.1)).map V.str))=H3 at s3 hl3 ⊢
 have h3:=h2.same s3
 have k3:Kp G H G H3:=Kp.same (s1.trans s3)
 have fl:G.rl l=.free:=h2.cl l hl
 have e0:({ st with vers:=O8 st.vers m 0 }:k8)=st:=by
  have:O8 st.vers m 0=st.vers:=by unfold O8 swV;simp
  rw[this]
 refine⟨l,rfl,⟨_,d9.of hl3⟩,?_⟩
 refine A0 (xs:=(st.vers.map (·.1)).map V.str) (fun i σ' Hc=>∃(o4 o5:Option V) (G':Gh),σ'=[some (.ref p),some (.ref acc),some (.int m),some (.int (a4l (st.vers.take i) m)),o4,o5]∧TA t.C_Tally t.C_Dealing G' Hc p { st with vers:=O8 st.vers m i }∧Kp G H G' Hc∧Hc l=some (.lst ((st.vers.map (·.1)).map V.str))∧G'.rl l=.free)
  ⟨none,none,G,rfl,by rw[e0];exact h3,k3,hl3,fl⟩ (fun i σ' Hc _ h=>?_) (fun i x σ' Hc hx h=>?_) (fun σ' Hc h=>?_)
 ·obtain⟨_,_,_,_,_,_,h1,_⟩:=h
  exact d9.of h1
 ·obtain⟨o4,o5,G',rfl,h4,k4,hl4,fl4⟩:=h
  rw[List.getElem?_map,List.getElem?_map]at hx
  obtain⟨g,hg,rfl⟩:=Option.map_eq_some_iff.mp hx
  obtain⟨qq,hq,rfl⟩:=Option.map_eq_some_iff.mp hg
  have hin:=b7m (m:=m) hq
  obtain⟨xs,x1,x2,x3⟩:=h4.vl qq hin
  have lx:=r6 x2
  have z3q:=z3 qq (List.mem_of_getElem? hq)
  have inn:qq.1∈(O8 st.vers m i).map (·.1):=List.mem_map.mpr ⟨qq,hin,rfl⟩
  have dg:∀Hx:Hp,Hx G'.Vd=some (.dK ((O8 st.vers m i).map fun q=>((Sum.inr q.1:Key),V.ref (G'.vl q.1))))→v7 Hx G'.Vd (.str qq.1) (some (.ref (G'.vl qq.1))):=fun Hx hx=>by
   have:=v7.k (k:=Sum.inr qq.1) hx
   rw[a0l (O8 st.vers m i) (fun g=>V.ref (G'.vl g)),if_pos inn]at this
   exact this
  refine⟨_,rfl,p,_,_,_,_,rfl,h4.ob,T.cl_Tally,T.n_Tally_versions,rfl,_,rfl,G'.Vd,_,rfl,dg _ h4.ve,_,rfl,G'.vl qq.1,xs,qq.2,m,rfl,d9.of x1,a9o x2,z3q,fun r H5 s5 nr hr5=>?_⟩
  have h5:=h4.same s5
  refine⟨_,rfl,_,rfl,p,_,_,_,_,rfl,h5.ob,T.cl_Tally,T.n_Tally_versions,rfl,_,rfl,G'.Vd,_,rfl,dg _ h5.ve,G'.vl qq.1,xs,rfl,.inl (d9.of (s5 _ _ x1)),_,_,rfl,rfl,_,rfl,r,_,rfl,.inl (d9.of hr5),_,_,rfl,rfl,?_⟩
  have lk:(O8 st.vers m i).length=st.vers.length:=by have:=congrArg List.length (a9J st.vers m i);simpa using this
  refine⟨_,rfl,_,rfl,p,_,_,_,_,rfl,h5.ob,T.cl_Tally,T.n_Tally_versions,rfl,_,rfl,G'.Vd,_,rfl,K6.k (k:=Sum.inr qq.1) h5.ve (n6 (by rw[List.length_map];show(O8 st.vers m i).length≤_;omega)),?_⟩
  have hnx:=b4f h.vd (m:=m) hq
  obtain⟨h6,k6⟩:=h4.setV (g:=qq.1) (l:=r) (ps:=swL qq.2 m) (xs:=xs.drop (cnt qq.2 m-1)) (v:=O8 st.vers m (i+1)) nr s5 hr5 (a8B _ (z9 s5.tupK x2)) (fun q' hq'=>by
   rw[hnx]at hq'
   obtain⟨r',hr',rfl⟩:=List.mem_map.mp hq'
   by_cases c:r'.1=qq.1
   ·rw[if_pos c];exact .inl rfl
   ·rw[if_neg c];exact .inr ⟨c,hr'⟩) (by rw[a9J];exact h.vd) (by
   show putK ((O8 st.vers m i).map fun q=>((Sum.inr q.1:Key),V.ref (G'.vl q.1))) _ _=_
   rw[b2b (O8 st.vers m i) (fun g=>V.ref (G'.vl g)) _ inn,hnx,List.map_map]
   refine List.map_congr_left fun r' _=>?_
   show _=((Sum.inr (if r'.1=qq.1 then(qq.1,swL qq.2 m) else r').1:Key),V.ref (if (if r'.1=qq.1 then(qq.1,swL qq.2 m) else r').1=qq.1 then r else G'.vl (if r'.1=qq.1 then(qq.1,swL qq.2 m) else r').1))
   by_cases c:r'.1=qq.1
   ·rw[if_pos c,if_pos c,if_pos rfl,c]
   ·rw[if_neg c,if_neg c,if_neg c])
  have lr:l≠r:=e9 hl4 nr
  refine⟨some (.str qq.1),some (.ref r),F9 G' qq.1 r,?_,h6,k4.trans k6,k6.keep _ _ fl4 hl4,by show(if l=r then _ else _)=_;rw[if_neg lr];exact fl4⟩
  have eg:a4l (st.vers.take (i+1)) m=a4l (st.vers.take i) m+(xs.length:Int)-((xs.drop (cnt qq.2 m-1)).length:Int):=by
   unfold a4l
   rw[List.take_add_one,hq,Option.toList_some,List.map_append,List.sum_append,List.map_singleton,List.sum_singleton]
   unfold swL
   rw[List.length_drop,List.length_drop,lx]
   omega
  rw[eg];rfl
 ·obtain⟨o4,o5,G',rfl,h4,k4,_,_⟩:=h
  have el:((st.vers.map (·.1)).map V.str).length=st.vers.length:=by rw[List.length_map,List.length_map]
  rw[el]at h4
  have es:O8 st.vers m st.vers.length=swV st.vers m:=by unfold O8;simp
  rw[show({ st with vers:=O8 st.vers m st.vers.length }:k8)={ st with vers:=swV st.vers m } by rw[es]] at h4
  refine⟨_,rfl,?_⟩
  rw[el,List.take_length]
  exact q G' Hc h4 k4
def J2(d:Dl)(e:Int)(r:Rec):Prop:=r.num=d.num∧r.beg=d.beg∧r.fin=e∧r.looked.Perm d.looked∧r.put.Perm (d.aside.map (·.1))∧a6o r.looked∧a6o r.put
def nums(st:k8):List Int:=st.recs.map (·.num)
structure G9(st:k8):Prop where
 un:(nums st++st.under.map (·.num)).Nodup
 row:a2j (nums st) st.links st.row
 mem:∀l,l∈st.links↔∃r∈st.recs,∃o∈st.recs,r.num≠o.num∧a4f r o l
 lt:∀n∈nums st++st.under.map (·.num),0≤n∧n<(st.begun:Int)
structure Bd(k:Nat)(st:k8):Prop where
 un:st.under.length≤k
 rc:st.recs.length≤k
 dl:∀d∈st.under,d.looked.length≤k∧d.aside.length≤k
 rs:∀r∈st.recs,r.put.length≤k∧r.looked.length≤k
 ve:st.vers.length≤k*k
 vl:∀q∈st.vers,q.2.length≤k*k
 ln:st.links.length≤600*(k*k)
def a0p(st:k8)(d:Dl)(r:Rec)(cs:List (List Lk))(row:List Int):k8:=
 ⟨st.begun,X7 st.under d.num,O3 st.vers d.aside ((st.recs.length:Int)+1),st.recs++[r],st.links++cs.flatten,row⟩
structure a2E(st:k8)(d:Dl)(r:Rec)(cs:List (List Lk))(row:List Int):Prop where
 rc:J2 d ((st.recs.length:Int)+1) r
 lw:LWs r st.recs cs
 row:a2j (nums st++[d.num]) (st.links++cs.flatten) row
structure a5l(st:k8)(d:Dl)(r:Rec)(cs:List (List Lk))(rg:List Lk):Prop where
 rc:J2 d ((st.recs.length:Int)+1) r
 lw:LWs r st.recs cs
 ring:Ring rg
 sub:∀l∈rg,l∈st.links++cs.flatten
 hd:(rg.map (·.1))[0]?=some d.num
theorem b0l{ns:List Int}{ls rg:List Lk}{row:List Int}(R:a2j ns ls row)(G:Ring rg)(h:∀l∈rg,l∈ls):False:=by
 have uniq:∀(i j:Nat) (x:Int),row[i]?=some x→row[j]?=some x→i=j:=fun i j x hi hj=>(List.getElem?_inj (List.getElem?_eq_some_iff.mp hi).1 R.nd).mp (by rw[hi,hj])
 have lp:0<rg.length:=by
  cases hrg:rg with
  | nil=>exact absurd hrg G.ne
  | cons a b=>simp
 obtain⟨p0,q0,_,hp0,_⟩:=R.keeps _ (h _ (List.getElem_mem lp))
 have up:∀i,(hi:i<rg.length)→∃p,row[p]?=some (rg[i]).1∧p0+i≤p:=by
  intro i
  induction i with
  | zero=>intro hi;exact⟨p0,hp0,Nat.le_refl _⟩
  | succ i ih=>
   intro hi
   obtain⟨p,hp,lep⟩:=ih (by omega)
   obtain⟨a,b,hab,ha,hb⟩:=R.keeps _ (h _ (List.getElem_mem (show i<rg.length by omega)))
   have:a=p:=uniq a p _ ha hp
   subst this
   obtain⟨m,hm,e⟩:=G.next (i+1) _ (List.getElem?_eq_getElem hi)
   rw[if_neg (by omega),show i+1-1=i by omega,List.getElem?_eq_getElem (show i<rg.length by omega)]at hm
   rw[←Option.some.inj hm]at e
   exact⟨b,by rw[e];exact hb,by omega⟩
 obtain⟨p,hp,lep⟩:=up (rg.length-1) (by omega)
 obtain⟨a,b,hab,ha,hb⟩:=R.keeps _ (h _ (List.getElem_mem (show rg.length-1<rg.length by omega)))
 have:a=p:=uniq a p _ ha hp
 subst this
 obtain⟨m,hm,e⟩:=G.next 0 _ (List.getElem?_eq_getElem lp)
 rw[if_pos rfl,List.getElem?_eq_getElem (show rg.length-1<rg.length by omega)]at hm
 rw[←Option.some.inj hm]at e
 have:b=p0:=uniq b p0 _ hb (by rw[←e];exact hp0)
 omega
theorem Ring.turn{rg:List Lk}(h:Ring rg){j:Nat}(hj:j<rg.length):Ring (rg.drop j++rg.take j):=by
 have ld:(rg.drop j).length=rg.length-j:=List.length_drop
 have lt:(rg.take j).length=j:=by rw[List.length_take];omega
 have ll:(rg.drop j++rg.take j).length=rg.length:=by rw[List.length_append,ld,lt];omega
 have at':∀i,i<rg.length→(rg.drop j++rg.take j)[i]?=rg[if i<rg.length-j then j+i else i-(rg.length-j)]?:=fun i hi=>by
  by_cases c:i<rg.length-j
  ·rw[if_pos c,List.getElem?_append_left (by rw[ld];exact c),List.getElem?_drop]
  ·rw[if_neg c,List.getElem?_append_right (by rw[ld];omega),ld,List.getElem?_take_of_lt (by omega)]
 have pm:(rg.drop j++rg.take j).Perm rg:=(List.perm_append_comm).trans (by rw[List.take_append_drop])
 refine⟨fun z=>?_,?_,fun i l hi=>?_⟩
 ·have e:rg.length=0:=by rw[←ll,z];rfl
  omega
 ·exact(pm.map (·.1)).nodup_iff.mpr h.nd
 ·have li:=(List.getElem?_eq_some_iff.mp hi).1
  rw[ll]at li ⊢
  rw[at' i li]at hi
  obtain⟨m,hm,e⟩:=h.next _ l hi
  refine⟨m,?_,e⟩
  have lk:(if i=0 then rg.length-1 else i-1)<rg.length:=by split<;>omega
  rw[at' _ lk,←hm]
  congr 1
  split<;>split<;>split<;>split<;>omega
theorem LWs.mem{r:Rec}{rs:List Rec}{cs:List (List Lk)}(h:LWs r rs cs)(l:Lk):l∈cs.flatten↔∃o∈rs,a4f r o l∨a4f o r l:=by
 induction h with
 | nil=>simp
 | @cons o c rs cs z t ih=>
  obtain⟨l1,l2,rfl,b1,b2⟩:=z
  rw[List.flatten_cons,List.mem_append,List.mem_append,b1.mem,b2.mem,ih]
  constructor
  ·rintro((a | a) | ⟨o',ho,a⟩)
   ·exact⟨o,List.mem_cons_self,.inl a⟩
   ·exact⟨o,List.mem_cons_self,.inr a⟩
   ·exact⟨o',List.mem_cons_of_mem _ ho,a⟩
  ·rintro⟨o',ho,a⟩
   rcases List.mem_cons.mp ho with rfl | ho
   ·exact .inl a
   ·exact .inr ⟨o',ho,a⟩
theorem a8K{st:k8}(ok:G9 st){d:Dl}{r:Rec}{cs:List (List Lk)}{rg:List Lk}(hr:r.num=d.num)(lw:LWs r st.recs cs)(G:Ring rg)(sub:∀l∈rg,l∈st.links++cs.flatten):d.num∈rg.map (·.1):=by
 refine Classical.byContradiction fun z=>b0l ok.row G fun l hl=>?_
 rcases List.mem_append.mp (sub l hl) with h | h
 ·exact h
 ·exfalso
  obtain⟨o,ho,a | a⟩:=(lw.mem l).mp h
  ·exact z (List.mem_map.mpr ⟨l,hl,by rw[a.1,hr]⟩)
  ·
   obtain⟨i,hi⟩:=List.mem_iff_getElem?.mp hl
   have li:=(List.getElem?_eq_some_iff.mp hi).1
   have key:∀(k:Nat) m,rg[k]?=some m→(if k=0 then rg.length-1 else k-1)=i→d.num=m.1:=fun k m hk e=>by
    obtain⟨m',hm',e'⟩:=G.next k m hk
    rw[e,hi]at hm'
    cases hm'
    rw[e',a.2.1,hr]
   by_cases c:i+1=rg.length
   ·have h0:0<rg.length:=by omega
    exact z (List.mem_map.mpr ⟨rg[0],List.getElem_mem h0,(key 0 _ (List.getElem?_eq_getElem h0) (by rw[if_pos rfl];omega)).symm⟩)
   ·have h1:i+1<rg.length:=by omega
    exact z (List.mem_map.mpr ⟨rg[i+1],List.getElem_mem h1,(key (i+1) _ (List.getElem?_eq_getElem h1) (by rw[if_neg (by omega)];omega)).symm⟩)
theorem b7k{st:k8}(ok:G9 st){n:Int}{r:Rec}{cs:List (List Lk)}(hr:r.num=n)(lw:LWs r st.recs cs):∀l∈st.links++cs.flatten,l.1∈nums st++[n]∧l.2.1∈nums st++[n]:=fun l hl=>by
 have inn:∀o∈st.recs,o.num∈nums st++[n]:=fun o ho=>List.mem_append_left _ (List.mem_map.mpr ⟨o,ho,rfl⟩)
 have me:r.num∈nums st++[n]:=by rw[hr];simp
 rcases List.mem_append.mp hl with h | h
 ·obtain⟨a,ha,b,hb,_,e⟩:=(ok.mem l).mp h
  exact⟨by rw[e.1];exact inn a ha,by rw[e.2.1];exact inn b hb⟩
 ·obtain⟨o,ho,e | e⟩:=(lw.mem l).mp h
  ·exact⟨by rw[e.1];exact me,by rw[e.2.1];exact inn o ho⟩
  ·exact⟨by rw[e.1];exact inn o ho,by rw[e.2.1];exact me⟩
section
variable{CT CD p:Addr}{G:Gh}{H:Hp}{st:k8}
def T7(G:Gh)(as:List Addr):Gh:={ G with rl:=fun b=>if b∈as then .fz else G.rl b }
theorem TA.fz(h:TA CT CD G H p st){as:List Addr}(ha:∀a∈as,G.rl a=.free∧∃o,H a=some o):TA CT CD (T7 G as) H p st:=
 h.gh (fun b ρ e n=>by
  show(if b∈as then _ else _)=_
  rw[if_neg fun z=>n (by rw[←e,(ha b z).1])];exact e) (fun b e=>by
  show(if b∈as then _ else _)=_
  rw[if_neg fun z=>by obtain⟨_,o,w⟩:=ha b z;rw[e]at w;cases w]
  exact h.cl b e) rfl rfl rfl rfl rfl rfl (fun _ _=>⟨rfl,rfl,rfl,rfl⟩) fun _ _=>rfl
theorem a9k{as:List Addr}{a:Addr}(h:a∈as):(T7 G as).rl a=.fz:=if_pos h
theorem TA.addR(h:TA CT CD G H p st){r:Rec}{x:V}{xs:List V}(hR:H G.R=some (.lst xs))(hx:RcAt G.rl H r x):TA CT CD G (upd H G.R (.lst (xs++[x]))) p { st with recs:=st.recs++[r] }∧Kp G H G (upd H G.R (.lst (xs++[x]))):=by
 have t:r9 H (upd H G.R (.lst (xs++[x]))):=n5 hR
 obtain⟨ys,h1,h2⟩:=h.rc
 rw[hR]at h1;cases h1
 refine⟨⟨d8 h.ob h.r0 h.r3 (by simp),d8 h.un h.r1 h.r3 (by simp),d8 h.ve h.r2 h.r3 (by simp),⟨_,b6,Paired.snoc (Paired.mapP h2 fun _ _ z=>z.upd h.r3 (by simp) t) (hx.upd h.r3 (by simp) t)⟩,?_,d8 h.rw h.r5 h.r3 (by simp),fun e he=>?_,fun q hq=>?_,h.r0,h.r1,h.r2,h.r3,h.r4,h.r5,h.nd,h.vd,fun b e=>h.cl b (r8 e)⟩,Kp.upd (by rw[h.r3];simp) t⟩
 ·obtain⟨zs,z1,z2⟩:=h.ln
  exact⟨zs,d8 z1 h.r4 h.r3 (by simp),z2.tupK t⟩
 ·have E:=h.dl e he
  exact⟨d8 E.ob E.r1 h.r3 (by simp),d8 E.lk E.r2 h.r3 (by simp),d8 E.as E.r3 h.r3 (by simp),E.r1,E.r2,E.r3⟩
 ·obtain⟨zs,z1,z2,z3⟩:=h.vl q hq
  exact⟨zs,d8 z1 z3 h.r3 (by simp),z9 t z2,z3⟩
end
inductive a3D(t:A5)(K:PySem.W.Frag)(vs:List V)(H:Hp)(Q:VK):Prop
 | mk (G:Gh) (p:Addr) (st:k8) (d:Dl) (x0:vs=[.ref p,.int d.num]) (x1:TA t.C_Tally t.C_Dealing G H p st) (x2:d∈st.under) (x3:G9 st) (x4:Bd 63 st) (x5:(∀r cs row,a2E st d r cs row→∀(l:Addr) (G':Gh) (H':Hp),TA t.C_Tally t.C_Dealing G' H' p (a0p st d r cs row)→Kp G H G' H'→H' l=some (.lst [])→G'.rl l=.free→H l=none→Q (.ref l) H')) (xq:∀r cs rg,a5l st d r cs rg→∀(l:Addr) (zs:List V) (G':Gh) (H':Hp),TA t.C_Tally t.C_Dealing G' H' p (J6 st d.num)→Kp G H G' H'→H' l=some (.lst zs)→u3 H' rg zs→G'.rl l=.free→H l=none→Q (.ref l) H')
def a9F(t:A5)(K:PySem.W.Frag):Sp:=fun vs H Q _=>a3D t K vs H Q
set_option maxHeartbeats 0 in
theorem a3J(T:z8 K mg t):g7 P w K mg base x9 4 t.f_Tally_end t.d_Tally_end ["self","number"] (a9F t K):=by
 refine T.F_Tally_end.ok N2 (fun vs H Q E h=>?_) (fun cdv A outer s H vs Q E hr h=>?_)
 ·obtain⟨G,p,st,d,rfl,_⟩:=h
  rfl
 obtain⟨G,p,st,d,rfl,h,hd,ok,bd,q1,q2⟩:=h
 have hu:=O7 hr
 refine⟨_,(b9 (g6 (i:=2) N2.nd rfl (Or.inl rfl) (a9f (u0 (pv 0) rfl) (pv 1) ⟨rfl,rfl,rfl,rfl⟩))
 (b9 (g6 (i:=3) N2.nd rfl (Or.inl rfl) (Y9 (pv 2) T.cl_Dealing T.M_Dealing_record (g7.mono (k:=3) (a0m T) (by decide)) hr T.F_Dealing_record.b .nil j7 (a6 (i6 C9 (U7 (pv 0) T.cl_Tally T.M_Tally_moment (g7.mono (k:=3) (M9 T) (by decide)) hr T.F_Tally_moment.b .nil j7) d5) b7)))
 (b9 (g6 (i:=4) N2.nd rfl (Or.inl rfl) (i6 N3 (u0 (pv 0) rfl) (j4 (g7.mono (k:=3) (a7C T) (by decide)) hr rfl T.m_links_with T.F_links_with.kp T.F_links_with.b .nil j7 (a6 (pv 3) (a6 (u0 (pv 0) rfl) b7)))))
 (b9 (g6 (i:=5) N2.nd rfl (Or.inl rfl) (j4 (g7.mono (k:=3) (a1x T) (by decide)) hr rfl T.m_row_or_ring T.F_row_or_ring.kp T.F_row_or_ring.b .nil j7 (a6 (i6 N3 (Q9 rfl (u4 (u0 (pv 0) rfl)) (J8.mk (own:=["ended"]) (tl:=["self","number","dealing","record","links","found"]) rfl rfl rfl (fun _ _ _ _ _=>(l4 (i:=0) (a9w) rfl (Or.inl rfl))) (fun _ _ _ _ _=>a7l) (fun _ _ _ _ _=>(d7 O6 (pv 0) (u9 rfl T.m_NUMBER T.r_NUMBER) (fun _ _=>rfl))))) (j8 (a6 (pv 1) b7))) (a6 (pv 4) b7))))
 (b9 (j9 (f6 y9 (d7 e7 (pv 5) d5 (fun _ _=>rfl)) i7 (i9 _))
 (d6 (i3 (j4 (g7.mono (k:=3) (a9Y T) (by decide)) hr rfl T.m_turned T.F_turned.kp T.F_turned.b .nil j7 (a6 (d7 e7 (pv 5) d5 (fun _ _=>rfl)) (a6 (pv 1) b7)))))
 j1)
 (b9 (l6 (v3 PySem.F.plainAttrs_list PySem.F.slot_list_append PySem.F.type_list_append m8 (u0 (pv 0) rfl) (a6 (pv 3) b7)))
 (b9 (K5 (pv 0) (pv 4) rfl)
 (b9 (K5 (pv 0) (d7 e7 (pv 5) d5 (fun _ _=>rfl)) rfl)
 (b9 (l6 (Y9 (pv 0) T.cl_Tally T.M_Tally_take_over (g7.mono (k:=3) (a3j T) (by decide)) hr T.F_Tally_take_over.b .nil j7 (a6 (u0 (pv 2) rfl) b7)))
 (d6 (i3 (j8 b7)))))))))))),?_⟩
 have D:=h.dl d hd
 refine⟨_,rfl,p,_,_,_,_,rfl,h.ob,T.cl_Tally,T.n_Tally_under_way,rfl,G.U,rfl,.inl ⟨_,.inl h.un⟩,_,rfl,_,Sum.inl d.num,.ref (G.dp d.num),h.un,rfl,?_,?_⟩
 ·rw[m9,if_pos (List.mem_map.mpr ⟨d,hd,rfl⟩)]
 obtain⟨h1,k1⟩:=h.drop d.num
 have d1:=d8 (o:=.dK (C4 (j5 (st.under.map (·.num)) fun n=>.ref (G.dp n)) (Sum.inl d.num))) D.ob D.r1 h.r1 (by simp)
 have d2:=d8 (o:=.dK (C4 (j5 (st.under.map (·.num)) fun n=>.ref (G.dp n)) (Sum.inl d.num))) D.lk D.r2 h.r1 (by simp)
 have d3:=d8 (o:=.dK (C4 (j5 (st.under.map (·.num)) fun n=>.ref (G.dp n)) (Sum.inl d.num))) D.as D.r3 h.r1 (by simp)
 generalize upd H G.U (.dK (C4 (j5 (st.under.map (·.num)) fun n=>.ref (G.dp n)) (Sum.inl d.num)))=H1 at h1 k1 d1 d2 d3 ⊢
 obtain⟨xr,hR,pR⟩:=h1.rc
 have lR:xr.length=st.recs.length:=r6 pR
 obtain⟨bl1,bl2⟩:=bd.dl d hd
 refine⟨_,rfl,G.dp d.num,_,_,rfl,d1,rfl,_,rfl,p,_,_,rfl,h1.ob,rfl,p,_,_,_,_,_,_,_,xr,rfl,h1.ob,hR,_,_,rfl,rfl,G.dp d.num,_,G.lk d.num,G.as d.num,d.num,d.beg,_,d.looked,d.aside,rfl,d1,d2,d3,bl1,bl2,fun rc la pa ys zs H2 s2 nla npa nlp hrc hla hpa py pz sy sz=>?_⟩
 let r:Rec:=⟨d.num,d.beg,(xr.length:Int)+1,ys,zs⟩
 have isr:J2 d ((st.recs.length:Int)+1) r:=⟨rfl,rfl,by show(xr.length:Int)+1=_;rw[lR],py,pz,sy,sz⟩
 have rcAt:RecAt K H2 r (.ref rc):=⟨rc,la,pa,rfl,f7.of hrc,d9.of hla,d9.of hpa⟩
 have lys:ys.length≤63:=by rw[py.length_eq];exact bl1
 have lzs:zs.length≤63:=by rw[pz.length_eq,List.length_map];exact bl2
 have h2:=h1.same s2
 obtain⟨xl,hL,pL⟩:=h2.ln
 refine⟨_,rfl,p,_,_,_,_,rfl,h2.ob,T.cl_Tally,T.n_Tally_links,rfl,_,rfl,_,rfl,p,_,_,_,_,rfl,h2.ob,T.cl_Tally,T.n_Tally_records,rfl,r,.ref rc,G.R,st.recs,xr,rfl,rcAt,d9.of (s2 _ _ hR),a4r (Paired.mapP pR fun _ _ z=>z.same s2),Nat.le_trans bd.rc (by decide),?_,fun lw yw cs H3 s3 nlw hlw L3 W=>?_⟩
 ·intro o ho
  rcases List.mem_cons.mp ho with e | ho
  ·rw[e];exact⟨lzs,lys⟩
  ·exact bd.rs o ho
 have h3:=h2.same s3
 have lcs:cs.flatten.length≤600*st.recs.length:=a5z W fun o ho=>by
  rcases List.mem_cons.mp ho with e | ho
  ·rw[e];exact⟨lzs,lys⟩
  ·exact bd.rs o ho
 have bln:=bd.ln
 have brc:=bd.rc
 refine⟨G.L,lw,xl,yw,rfl,rfl,s3 _ _ hL,hlw,?_,fun ln hln=>?_⟩
 ·rw[pL.len,L3.len,sizeLine_eq];show st.links.length+_≤_;omega
 have s4:=c9 (o:=.lst (xl++yw)) hln
 have L4:u3 (upd H3 ln (.lst (xl++yw))) (st.links++cs.flatten) (xl++yw):=(u3.append L3 (pL.tupK s3.tupK)).tupK s4.tupK
 have hl4:(upd H3 ln (.lst (xl++yw))) ln=some (.lst (xl++yw)):=b6
 generalize upd H3 ln (.lst (xl++yw))=H4 at s4 L4 hl4 ⊢
 have s14:=(s2.trans s3).trans s4
 have h4:=h1.same s14
 refine⟨_,rfl,p,_,_,_,_,rfl,h4.ob,T.cl_Tally,T.n_Tally_records,rfl,G.R,rfl,⟨_,d9.of (s14 _ _ hR)⟩,fun acc hacc=>?_⟩
 refine J7 (xs:=xr) (fun i Hc=>h7 H4 Hc∧Hc acc=some (.lst (((st.recs.take i).map (·.num)).map V.int))) ⟨c9 hacc,b6⟩ (fun i Hc _ z=>d9.of (z.1 _ _ (s14 _ _ hR))) (fun i x Hc hx z=>?_) (fun H5 z=>?_)
 ·obtain⟨sc,a1⟩:=z
  obtain⟨o,ho,b,la',pa',rfl,hb,_⟩:=A4 pR hx
  have li:=(List.getElem?_eq_some_iff.mp ho).1
  refine⟨_,rfl,b,_,0,_,rfl,rfl,f7.of (sc _ _ (s14 _ _ hb)),rfl,_,a1,n6 (by rw[List.length_map,List.length_map,List.length_take];omega),l8 sc hacc,?_⟩
  rw[b6,List.take_add_one,ho,Option.toList_some,List.map_append,List.map_append];rfl
 obtain⟨s5,a5⟩:=z
 rw[lR,List.take_length]at a5
 refine⟨_,rfl,(by show 1≤sizeLine;decide),fun e1 he1=>?_⟩
 have s6:=c9 (o:=.lst [.int d.num]) he1
 refine⟨acc,e1,_,_,rfl,rfl,s6 _ _ a5,b6,?_,fun nb hnb=>?_⟩
 ·rw[List.length_map,List.length_map,sizeLine_eq];simp;omega
 have s7:=c9 (o:=.lst (((st.recs.map (·.num)).map V.int)++[.int d.num])) hnb
 have en:((st.recs.map (·.num)).map V.int)++[.int d.num]=(nums st++[d.num]).map V.int:=by rw[List.map_append];rfl
 rw[en]at s7 ⊢
 have hn7:(upd (upd H5 e1 (.lst [.int d.num])) nb (.lst ((nums st++[d.num]).map V.int))) nb=some (.lst ((nums st++[d.num]).map V.int)):=b6
 have s47:h7 H4 (upd (upd H5 e1 (.lst [.int d.num])) nb (.lst ((nums st++[d.num]).map V.int))):=(s5.trans s6).trans s7
 generalize upd (upd H5 e1 (.lst [.int d.num])) nb (.lst ((nums st++[d.num]).map V.int))=H7 at hn7 s47 ⊢
 have ndn:(nums st++[d.num]).Nodup:=by
  have:=ok.un
  rw[List.nodup_append]at this ⊢
  refine⟨this.1,by simp,fun x hx y hy e=>?_⟩
  have:y=d.num:=by simpa using hy
  exact ok.un |> List.nodup_append.mp |>.2.2 x hx d.num (List.mem_map.mpr ⟨d,hd,rfl⟩) (by rw[e,this])
 have ein:=b7k ok (r:=r) (n:=d.num) rfl W
 have s17:=s14.trans s47
 refine⟨_,rfl,nb,ln,nums st++[d.num],st.links++cs.flatten,xl++yw,rfl,d9.of hn7,ndn,d9.of (s47 _ _ hl4),L4.tupK s47.tupK,ein,?_,?_,fun f rw row H8 s8 nrw hf hrw R=>?_,fun f rn zr rg H8 s8 _ hf hrn Lr RG sub=>?_⟩
 ·show((st.recs.map (·.num))++[d.num]).length≤_
  rw[List.length_append,List.length_map];simp;omega
 ·rw[List.length_append];omega
 ·
  have s18:=s17.trans s8
  have s28:h7 H2 H8:=((s3.trans s4).trans s47).trans s8
  have h8:=h1.same s18
  refine⟨_,rfl,f,_,0,_,rfl,rfl,f7.of hf,rfl,rfl,_,rfl,g8 ?_⟩
  have fla:=h1.cl la nla
  have fpa:=h1.cl pa npa
  have nln1:H1 ln=none:=j2 (s2.trans s3) hln
  have fln:=h1.cl ln nln1
  have frw:=h1.cl rw (j2 s17 nrw)
  have hF:=h8.fz (as:=[la,pa,ln,rw]) (fun a ha=>by
   simp only[List.mem_cons,List.not_mem_nil,or_false]at ha
   rcases ha with rfl | rfl | rfl | rfl
   ·exact⟨fla,_,s28 _ _ hla⟩
   ·exact⟨fpa,_,s28 _ _ hpa⟩
   ·exact⟨fln,_,s8 _ _ (s47 _ _ hl4)⟩
   ·exact⟨frw,_,hrw⟩)
  have rcF:RcAt (T7 G [la,pa,ln,rw]).rl H8 r (.ref rc):=⟨rc,la,pa,rfl,s28 _ _ hrc,s28 _ _ hla,s28 _ _ hpa,a9k (by simp),a9k (by simp)⟩
  have hR8:H8 G.R=some (.lst xr):=s18 _ _ hR
  obtain⟨h9',k9'⟩:=hF.addR (xs:=xr) hR8 rcF
  have h9:TA t.C_Tally t.C_Dealing (T7 G [la,pa,ln,rw]) (upd H8 G.R (.lst (xr++[.ref rc]))) p { J6 st d.num with recs:=st.recs++[r] }:=h9'
  have k9:Kp (T7 G [la,pa,ln,rw]) H8 (T7 G [la,pa,ln,rw]) (upd H8 G.R (.lst (xr++[.ref rc]))):=k9'
  clear h9' k9'
  refine⟨_,rfl,p,_,_,_,_,rfl,h8.ob,T.cl_Tally,T.n_Tally_records,rfl,.inl ⟨rfl,_,d9.of hR8⟩,_,rfl,G.R,xr,_,rfl,rfl,hR8,n6 (by omega),?_⟩
  have rR:(T7 G [la,pa,ln,rw]).rl G.R=.recs:=hF.r3
  have l9:(upd H8 G.R (.lst (xr++[.ref rc]))) ln=some (.lst (xl++yw)):=d8 (s8 _ _ (s47 _ _ hl4)) (a9k (G:=G) (as:=[la,pa,ln,rw]) (by simp)) rR (by simp)
  have w9:(upd H8 G.R (.lst (xr++[.ref rc]))) rw=some (.lst (row.map V.int)):=d8 hrw (a9k (G:=G) (as:=[la,pa,ln,rw]) (by simp)) rR (by simp)
  have f9:=k9.tup.1 _ _ hf
  have rS:(T7 G [la,pa,ln,rw]).rl (G.as d.num)=.side d.num:=by
   show(if G.as d.num∈_ then _ else _)=_
   rw[if_neg,D.r3]
   intro z
   have fr:G.rl (G.as d.num)=.free:=by
    simp only[List.mem_cons,List.not_mem_nil,or_false]at z
    rcases z with z | z | z | z<;>rw[z]<;>assumption
   rw[D.r3]at fr;cases fr
  have rD:(T7 G [la,pa,ln,rw]).rl (G.dp d.num)=.deal d.num:=by
   show(if G.dp d.num∈_ then _ else _)=_
   rw[if_neg,D.r1]
   intro z
   have fr:G.rl (G.dp d.num)=.free:=by
    simp only[List.mem_cons,List.not_mem_nil,or_false]at z
    rcases z with z | z | z | z<;>rw[z]<;>assumption
   rw[D.r1]at fr;cases fr
  have s9as:(upd H8 G.R (.lst (xr++[.ref rc]))) (G.as d.num)=some (.dK (M5 d.aside)):=d8 (s18 _ _ d3) rS rR (by simp)
  have s9dp:(upd H8 G.R (.lst (xr++[.ref rc]))) (G.dp d.num)=some (.ins t.C_Dealing (G.dd d.num) (Y2 d.num d.beg (G.lk d.num) (G.as d.num))):=d8 (s18 _ _ d1) rD rR (by simp)
  have L9:u3 (upd H8 G.R (.lst (xr++[.ref rc]))) (st.links++cs.flatten) (xl++yw):=((L4.tupK s47.tupK).tupK s8.tupK).tupK k9.tup
  generalize upd H8 G.R (.lst (xr++[.ref rc]))=H9 at h9 k9 l9 w9 f9 s9as s9dp L9 ⊢
  have ob9:H9 p=some (.ins t.C_Tally G.dx (C2 (st.begun:Int) G.U G.Vd G.R G.L G.W)):=h9.ob
  refine⟨_,rfl,_,rfl,p,_,_,_,rfl,ob9,T.cl_Tally,T.n_Tally_links,(by show 6<1000;decide),?_⟩
  have f10:=(a6I (o:=.ins t.C_Tally G.dx (K2 "links" (.ref ln) (C2 (st.begun:Int) G.U G.Vd G.R G.L G.W))) ob9).1 _ _ f9
  refine⟨_,rfl,f,_,1,_,rfl,rfl,f7.of f10,rfl,_,rfl,p,_,_,_,rfl,b6,T.cl_Tally,T.n_Tally_row,(by show 6<1000;decide),?_⟩
  rw[a6O]
  have e10:K2 "row" (.ref rw) (K2 "links" (.ref ln) (C2 (st.begun:Int) G.U G.Vd G.R G.L G.W))=C2 (st.begun:Int) G.U G.Vd G.R ln rw:=rfl
  obtain⟨h10,k10⟩:=h9.setObj (b:=st.begun) (L:=ln) (W:=rw) (ls:=st.links++cs.flatten) (row:=row) ⟨_,l9,L9⟩ w9 (a9k (by simp)) (a9k (by simp))
  have a10:(upd H9 p (.ins t.C_Tally (T7 G [la,pa,ln,rw]).dx (C2 (st.begun:Int) G.U G.Vd G.R ln rw))) (G.as d.num)=some (.dK (M5 d.aside)):=d8 (G:=T7 G [la,pa,ln,rw]) s9as rS h9.r0 (by simp)
  have p10:(upd H9 p (.ins t.C_Tally (T7 G [la,pa,ln,rw]).dx (C2 (st.begun:Int) G.U G.Vd G.R ln rw))) (G.dp d.num)=some (.ins t.C_Dealing (G.dd d.num) (Y2 d.num d.beg (G.lk d.num) (G.as d.num))):=d8 (G:=T7 G [la,pa,ln,rw]) s9dp rD h9.r0 (by simp)
  have h10:TA t.C_Tally t.C_Dealing { T7 G [la,pa,ln,rw] with L:=ln,W:=rw } (upd H9 p (.ins t.C_Tally G.dx (C2 (st.begun:Int) G.U G.Vd G.R ln rw))) p { J6 st d.num with recs:=st.recs++[r],links:=st.links++cs.flatten,row:=row }:=h10
  have k10:Kp (T7 G [la,pa,ln,rw]) H9 { T7 G [la,pa,ln,rw] with L:=ln,W:=rw } (upd H9 p (.ins t.C_Tally G.dx (C2 (st.begun:Int) G.U G.Vd G.R ln rw))):=k10
  have a10:(upd H9 p (.ins t.C_Tally G.dx (C2 (st.begun:Int) G.U G.Vd G.R ln rw))) (G.as d.num)=some (.dK (M5 d.aside)):=a10
  have p10:(upd H9 p (.ins t.C_Tally G.dx (C2 (st.begun:Int) G.U G.Vd G.R ln rw))) (G.dp d.num)=some (.ins t.C_Dealing (G.dd d.num) (Y2 d.num d.beg (G.lk d.num) (G.as d.num))):=p10
  have kk:Kp G H (T7 G [la,pa,ln,rw]) H8:=by
   refine⟨fun b o f e=>s18 _ _ (k1.keep b o f e),k1.tup.trans s18.tupK,fun b o f e=>?_,fun b e=>k1.dom b (j2 s18 e)⟩
   have e1:=k1.keep b o f e
   show(if b∈_ then _ else _)=_
   rw[if_neg]
   ·exact f
   ·intro z
    simp only[List.mem_cons,List.not_mem_nil,or_false]at z
    rcases z with z | z | z | z
    ·rw[z,nla]at e1;cases e1
    ·rw[z,npa]at e1;cases e1
    ·rw[z,nln1]at e1;cases e1
    ·rw[z,j2 s17 nrw]at e1;cases e1
  rw[e10]
  generalize upd H9 p (.ins t.C_Tally G.dx (C2 (st.begun:Int) G.U G.Vd G.R ln rw))=HA at h10 k10 a10 p10 ⊢
  have nn:∀e∈X7 st.under d.num,e.num≠d.num:=fun e he=>by simpa using (List.mem_filter.mp he).2
  refine⟨_,rfl,p,_,_,rfl,h10.ob,rfl,_,rfl,G.dp d.num,_,_,_,_,rfl,p10,T.cl_Dealing,T.n_Dealing_aside,rfl,{ T7 G [la,pa,ln,rw] with L:=ln,W:=rw },p,G.as d.num,_,d.num,d.aside,rfl,h10,a10,rS,nn,Nat.le_trans bl2 (by decide),Nat.le_trans bd.ve (by decide),(fun q hq=>Nat.le_trans (bd.vl q hq) (by decide)),fun GB HB hB kB=>?_⟩
  refine⟨(by show 0≤sizeLine;decide),fun l hl=>?_⟩
  have sB:=c9 (o:=.lst []) hl
  have eB:({ J6 st d.num with recs:=st.recs++[r],links:=st.links++cs.flatten,row:=row,vers:=O3 st.vers d.aside ((st.recs++[r]).length:Int) }:k8)=a0p st d r cs row:=by
   unfold a0p J6
   rw[show(((st.recs++[r]).length:Nat):Int)=(st.recs.length:Int)+1 by rw[List.length_append,List.length_singleton];omega]
  have hB:TA t.C_Tally t.C_Dealing GB HB p (a0p st d r cs row):=by rw[←eB];exact hB
  exact q1 r cs row ⟨isr,W,R⟩ l GB _ (hB.same sB) (((kk.trans k9).trans k10).trans (kB.trans (Kp.same (G:=GB) sB))) b6 (hB.cl l hl) ((((kk.trans k9).trans k10).trans kB).dom l hl)
 ·
  have s18:=s17.trans s8
  have h8:=h1.same s18
  refine⟨_,rfl,f,_,0,_,rfl,rfl,f7.of hf,rfl,rfl,_,rfl,l7 ?_⟩
  obtain⟨j,hj,hjf⟩:=a8q (a8K ok (d:=d) (r:=r) rfl W RG sub)
  have lj:=(List.getElem?_eq_some_iff.mp hj).1
  rw[List.length_map]at lj
  have lrg:rg.length≤(nums st++[d.num]).length:=by
   have:=v9 (m:=nums st++[d.num]) RG.nd fun x hx=>by
    obtain⟨l,hl,e⟩:=List.mem_map.mp hx
    rw[←e];exact(ein l (sub l hl)).1
   rwa [List.length_map] at this
  have lnn:(nums st++[d.num]).length≤101:=by
   show((st.recs.map (·.num))++[d.num]).length≤_
   rw[List.length_append,List.length_map];simp;omega
  refine⟨_,rfl,f,_,1,_,rfl,rfl,f7.of hf,rfl,_,rfl,rn,d.num,zr,rg,j,rfl,hrn,Lr,by omega,hj,hjf,fun l H9 s9 nl hl9=>?_⟩
  have h9:=h8.same s9
  refine q2 r cs (rg.drop j++rg.take j) ⟨isr,W,RG.turn lj,fun x hx=>sub x ?_,?_⟩ l _ G H9 h9 (k1.trans (Kp.same (G:=G) (s18.trans s9))) hl9 ?_ (h8.cl l nl) (k1.dom l (j2 s18 nl))
  ·rcases List.mem_append.mp hx with hx | hx
   ·exact List.mem_of_mem_drop hx
   ·exact List.mem_of_mem_take hx
  ·rw[List.map_append,List.map_drop,List.getElem?_append_left (by rw[List.length_drop,List.length_map];omega),List.getElem?_drop];simpa using hj
  ·have tk:∀(n:Nat) {ls:List Lk} {xs:List V},u3 H8 ls xs→u3 H8 (ls.take n) (xs.take n):=by
    intro n
    induction n with
    | zero=>intro ls xs _;exact .nil
    | succ n ih=>intro ls xs z;cases z with
     | nil=>exact .nil
     | cons a b=>exact .cons a (ih b)
   exact(u3.append (tk j Lr) (Lr.drop j)).tupK s9.tupK
def F6(g:Str):Prop:=PyData.strOk g=true∧g.length≤200
inductive m6 where
 | begin
 | look (n:Int) (g:Str)
 | put (n:Int) (g:Str) (a:Int)
 | fin (n:Int)
 | leave (n:Int)
 | sweep
def dv:m6→List V
 | .begin=>[.str "begin"]
 | .look n g=>[.str "look",.int n,.str g]
 | .put n g a=>[.str "put",.int n,.str g,.int a]
 | .fin n=>[.str "end",.int n]
 | .leave n=>[.str "leave",.int n]
 | .sweep=>[.str "sweep"]
def O9:m6→Prop
 | .look _ g=>F6 g
 | .put _ g _=>F6 g
 | _=>True
def a0i(H:Hp)(d:m6)(x:V):Prop:=∃p,x=.ref p∧H p=some (.tup (dv d))
def n9(H:Hp)(ds:List m6)(xs:List V):Prop:=Paired (a0i H) ds xs
theorem n9.tupK{H H':Hp}(k:r9 H H'):∀{ds:List m6} {xs:List V},n9 H ds xs→n9 H' ds xs
 | _,_,.nil=>.nil
 | _,_,.cons ⟨p,e,h⟩ t=>.cons ⟨p,e,k.1 _ _ h⟩ (n9.tupK k t)
theorem n9.snoc{H:Hp}{d:m6}{x:V}(h:a0i H d x):∀{ds:List m6} {xs:List V},n9 H ds xs→n9 H (ds++[d]) (xs++[x])
 | _,_,.nil=>.cons h .nil
 | _,_,.cons a t=>.cons a (n9.snoc h t)
theorem n9.len{H:Hp}{ds:List m6}{xs:List V}(h:n9 H ds xs):xs.length=ds.length:=by
 induction h with
 | nil=>rfl
 | cons _ _ ih=>simp[ih]
inductive G7 where
 | num (i:Int)
 | word (x:Str)
 | non
 | ring (rg:List Lk)
def numOf:m6→Option Int
 | .look n _=>some n
 | .put n _ _=>some n
 | .fin n=>some n
 | .leave n=>some n
 | _=>none
inductive Step:k8→m6→G7→k8→Prop
 | begin {st:k8}:Step st .begin (.num (st.begun:Int)) (a4I st)
 | sweep {st:k8} {m:Int}:b8b st m→Step st .sweep (.num (a4l st.vers m)) { st with vers:=swV st.vers m }
 | none {st:k8} {d:m6} {n:Int}:numOf d=some n→n∉st.under.map (·.num)→Step st d .non st
 | own {st:k8} {d:Dl} {g:Str} {a:Int}:d∈st.under→a9a d.aside g=some a→Step st (.look d.num g) (.num a) st
 | look {st:k8} {d:Dl} {g:Str}:d∈st.under→a9a d.aside g=none→Step st (.look d.num g) (.num (valueAt (a7k st.vers g) d.beg)) (a6P st d.num g)
 | put {st:k8} {d:Dl} {g:Str} {a:Int}:d∈st.under→Step st (.put d.num g a) (.word "put") (putSt st d.num g a)
 | leave {st:k8} {d:Dl}:d∈st.under→Step st (.leave d.num) (.word "left") (J6 st d.num)
 | ended {st:k8} {d:Dl} {r:Rec} {cs:List (List Lk)} {row:List Int}:d∈st.under→a2E st d r cs row→Step st (.fin d.num) (.word "ended") (a0p st d r cs row)
 | ring {st:k8} {d:Dl} {r:Rec} {cs:List (List Lk)} {rg:List Lk}:d∈st.under→a5l st d r cs rg→Step st (.fin d.num) (.ring rg) (J6 st d.num)
inductive Run(s0:k8):List m6→List G7→k8→Prop
 | nil:Run s0 [] [] s0
 | snoc {ds:List m6} {as:List G7} {st st':k8} {d:m6} {a:G7}:Run s0 ds as st→Step st d a st'→Run s0 (ds++[d]) (as++[a]) st'
theorem U1{ds:List Dl}{n:Int}{f:Dl→Dl}{d:Dl}(h:d∈C8 ds n f):∃e∈ds,d=e∨d=f e:=by
 obtain⟨e,he,rfl⟩:=List.mem_map.mp h
 refine⟨e,he,?_⟩
 split
 ·exact .inr rfl
 ·exact .inl rfl
theorem a7V{α:Type}[DecidableEq α]{a b b':List α}(h:(a++b).Nodup)(s:b'.Sublist b):(a++b').Nodup:=h.sublist ((List.Sublist.refl a).append s)
theorem a4O{st st':k8}{d:m6}{a:G7}(h:G9 st)(s:Step st d a st'):G9 st':=by
 have leave:∀n,G9 (J6 st n):=fun n=>by
  have sb:((X7 st.under n).map (·.num)).Sublist (st.under.map (·.num)):=by unfold X7;exact(List.filter_sublist).map _
  exact⟨a7V h.un sb,h.row,h.mem,fun m hm=>h.lt m (by
   rcases List.mem_append.mp hm with z | z
   ·exact List.mem_append_left _ z
   ·exact List.mem_append_right _ (sb.subset z))⟩
 cases s with
 | begin=>
  refine⟨?_,h.row,h.mem,fun n hn=>?_⟩
  ·show(nums st++(st.under++([⟨(st.begun:Int),(st.recs.length:Int),[],[]⟩]:List Dl)).map (·.num)).Nodup
   rw[List.map_append,←List.append_assoc,List.nodup_append]
   refine⟨h.un,by simp,fun x hx y hy e=>?_⟩
   have:y=(st.begun:Int):=by simpa using hy
   have:=h.lt x hx
   omega
  ·have hn:n∈nums st++(st.under++([⟨(st.begun:Int),(st.recs.length:Int),[],[]⟩]:List Dl)).map (·.num):=hn
   rw[List.map_append,←List.append_assoc]at hn
   show 0≤n∧n<((st.begun+1:Nat):Int)
   rcases List.mem_append.mp hn with hn | hn
   ·have:=h.lt n hn;omega
   ·have:n=(st.begun:Int):=by simpa using hn
    omega
 | sweep _=>exact⟨h.un,h.row,h.mem,h.lt⟩
 | none _ _=>exact h
 | own _ _=>exact h
 | @look d g _ _=>
  have e:(C8 st.under d.num (T3 g)).map (·.num)=st.under.map (·.num):=Q1 fun _=>rfl
  exact⟨by show(nums st++(C8 st.under d.num (T3 g)).map (·.num)).Nodup;rw[e];exact h.un,h.row,h.mem,fun n hn=>h.lt n (by have hn:n∈nums st++(C8 st.under d.num (T3 g)).map (·.num):=hn;rw[e]at hn;exact hn)⟩
 | @put d g a _=>
  have e:(C8 st.under d.num (T5 g a)).map (·.num)=st.under.map (·.num):=Q1 fun _=>rfl
  exact⟨by show(nums st++(C8 st.under d.num (T5 g a)).map (·.num)).Nodup;rw[e];exact h.un,h.row,h.mem,fun n hn=>h.lt n (by have hn:n∈nums st++(C8 st.under d.num (T5 g a)).map (·.num):=hn;rw[e]at hn;exact hn)⟩
 | leave _=>exact leave _
 | ring _ _=>exact leave _
 | @ended d r cs row hd E=>
  have en:nums (a0p st d r cs row)=nums st++[d.num]:=by
   show(st.recs++[r]).map (·.num)=_
   rw[List.map_append];show _++[r.num]=_;rw[E.rc.1];rfl
  have sb:((X7 st.under d.num).map (·.num)).Sublist (st.under.map (·.num)):=by unfold X7;exact(List.filter_sublist).map _
  have nin:d.num∉(X7 st.under d.num).map (·.num):=fun z=>by
   obtain⟨e,he,w⟩:=List.mem_map.mp z
   simpa [w] using (List.mem_filter.mp he).2
  have dn:d.num∈st.under.map (·.num):=List.mem_map.mpr ⟨d,hd,rfl⟩
  refine⟨?_,by rw[en];exact E.row,fun l=>?_,fun n hn=>?_⟩
  ·rw[en]
   show(nums st++[d.num]++(X7 st.under d.num).map (·.num)).Nodup
   rw[List.append_assoc]
   have hh:=List.nodup_append.mp h.un
   rw[List.nodup_append]
   refine⟨hh.1,?_,fun x hx y hy=>?_⟩
   ·rw[List.singleton_append,List.nodup_cons];exact⟨nin,hh.2.1.sublist sb⟩
   ·rcases List.mem_append.mp hy with hy | hy
    ·rw[List.mem_singleton.mp hy];exact hh.2.2 x hx _ dn
    ·exact hh.2.2 x hx y (sb.subset hy)
  ·show l∈st.links++cs.flatten↔∃r'∈st.recs++[r],∃o∈st.recs++[r],r'.num≠o.num∧a4f r' o l
   have ne:∀o∈st.recs,o.num≠r.num:=fun o ho e=>(List.nodup_append.mp h.un).2.2 o.num (List.mem_map.mpr ⟨o,ho,rfl⟩) d.num dn (by rw[e,E.rc.1])
   rw[List.mem_append,h.mem,E.lw.mem]
   constructor
   ·rintro(⟨a,ha,b,hb,c,k⟩ | ⟨o,ho,k | k⟩)
    ·exact⟨a,List.mem_append_left _ ha,b,List.mem_append_left _ hb,c,k⟩
    ·exact⟨r,by simp,o,List.mem_append_left _ ho,(ne o ho).symm,k⟩
    ·exact⟨o,List.mem_append_left _ ho,r,by simp,ne o ho,k⟩
   ·rintro⟨a,ha,b,hb,c,k⟩
    rcases List.mem_append.mp ha with u | u<;>rcases List.mem_append.mp hb with v | v
    ·exact .inl ⟨a,u,b,v,c,k⟩
    ·rw[List.mem_singleton.mp v]at k;exact .inr ⟨a,u,.inr k⟩
    ·rw[List.mem_singleton.mp u]at k;exact .inr ⟨b,v,.inl k⟩
    ·rw[List.mem_singleton.mp u,List.mem_singleton.mp v]at c;exact absurd rfl c
  ·rw[en]at hn
   have hn:n∈nums st++[d.num]++(X7 st.under d.num).map (·.num):=hn
   refine h.lt n ?_
   rcases List.mem_append.mp hn with hn | hn
   ·rcases List.mem_append.mp hn with hn | hn
    ·exact List.mem_append_left _ hn
    ·rw[List.mem_singleton.mp hn];exact List.mem_append_right _ dn
   ·exact List.mem_append_right _ (sb.subset hn)
theorem b5f(ks:List Str)(g:Str):(K7 ks g).length≤ks.length+1:=by unfold K7;split<;>simp
theorem b5h(k:Nat):(k+1)*(k+1)=k*k+2*k+1:=by rw[Nat.add_mul,Nat.mul_add];omega
theorem b0h{k k':Nat}{st:k8}(h:Bd k st)(le:k≤k'):Bd k' st:=by
 have sq:k*k≤k'*k':=Nat.mul_le_mul le le
 exact⟨Nat.le_trans h.un le,Nat.le_trans h.rc le,fun d hd=>⟨Nat.le_trans (h.dl d hd).1 le,Nat.le_trans (h.dl d hd).2 le⟩,fun r hr=>⟨Nat.le_trans (h.rs r hr).1 le,Nat.le_trans (h.rs r hr).2 le⟩,Nat.le_trans h.ve sq,fun q hq=>Nat.le_trans (h.vl q hq) sq,Nat.le_trans h.ln (Nat.mul_le_mul_left _ sq)⟩
theorem a6N{st st':k8}{d:m6}{a:G7}{k:Nat}(hk:k≤63)(ok:(st.vers.map (·.1)).Nodup)(h:Bd k st)(s:Step st d a st'):Bd (k+1) st':=by
 have up:Bd (k+1) st:=b0h h (Nat.le_succ k)
 have leave:∀n,Bd (k+1) (J6 st n):=fun n=>⟨Nat.le_trans (List.length_filter_le _ _) up.un,up.rc,fun d hd=>up.dl d (List.mem_filter.mp hd).1,up.rs,up.ve,up.vl,up.ln⟩
 have sq:=b5h k
 cases s with
 | begin=>
  refine⟨?_,up.rc,fun d hd=>?_,up.rs,up.ve,up.vl,up.ln⟩
  ·show(st.under++_).length≤_
   rw[List.length_append,List.length_singleton];have:=h.un;omega
  ·rcases List.mem_append.mp hd with hd | hd
   ·exact up.dl d hd
   ·rw[List.mem_singleton.mp hd];simp
 | @sweep m _=>
  refine⟨up.un,up.rc,up.dl,up.rs,?_,fun q hq=>?_,up.ln⟩
  ·show(swV st.vers m).length≤_
   unfold swV;rw[List.length_map];exact up.ve
  ·obtain⟨r,hr,rfl⟩:=List.mem_map.mp hq
   show(swL r.2 m).length≤_
   unfold swL;rw[List.length_drop]
   have:=up.vl r hr;omega
 | none _ _=>exact up
 | own _ _=>exact up
 | @look d g _ _=>
  refine⟨by show(C8 st.under d.num (T3 g)).length≤_;unfold C8;rw[List.length_map];exact up.un,up.rc,fun e he=>?_,up.rs,up.ve,up.vl,up.ln⟩
  obtain⟨e',he',rfl | rfl⟩:=U1 he
  ·exact up.dl _ he'
  ·have:=h.dl e' he'
   have:=b5f e'.looked g
   exact⟨by show(K7 e'.looked g).length≤_;omega,by show e'.aside.length≤_;omega⟩
 | @put d g a _=>
  refine⟨by show(C8 st.under d.num (T5 g a)).length≤_;unfold C8;rw[List.length_map];exact up.un,up.rc,fun e he=>?_,up.rs,up.ve,up.vl,up.ln⟩
  obtain⟨e',he',rfl | rfl⟩:=U1 he
  ·exact up.dl _ he'
  ·have:=h.dl e' he'
   have:=b3d e'.aside g a
   exact⟨by show e'.looked.length≤_;omega,by show(P1 e'.aside g a).length≤_;omega⟩
 | leave _=>exact leave _
 | ring _ _=>exact leave _
 | @ended d r cs row hd E=>
  have hd':=h.dl d hd
  have lr1:r.looked.length≤k:=by rw[E.rc.2.2.2.1.length_eq];exact hd'.1
  have lr2:r.put.length≤k:=by rw[E.rc.2.2.2.2.1.length_eq,List.length_map];exact hd'.2
  have hrc:=h.rc
  refine⟨Nat.le_trans (List.length_filter_le _ _) up.un,?_,fun e he=>up.dl e (List.mem_filter.mp he).1,fun o ho=>?_,?_,fun q hq=>?_,?_⟩
  ·show(st.recs++[r]).length≤_
   rw[List.length_append,List.length_singleton];omega
  ·rcases List.mem_append.mp ho with ho | ho
   ·exact up.rs o ho
   ·rw[List.mem_singleton.mp ho];omega
  ·show(O3 st.vers d.aside _).length≤_
   have:=a3B st.vers ((st.recs.length:Int)+1) d.aside
   have:=h.ve
   omega
  ·have:=a8s ok (fun q hq=>h.vl q hq) q hq
   omega
  ·have:=a5z E.lw fun o ho=>by
    rcases List.mem_cons.mp ho with e | ho
    ·rw[e];exact⟨Nat.le_trans lr2 hk,Nat.le_trans lr1 hk⟩
    ·exact⟨Nat.le_trans (h.rs o ho).1 hk,Nat.le_trans (h.rs o ho).2 hk⟩
   have hl:=h.ln
   show(st.links++cs.flatten).length≤_
   rw[List.length_append,sq,Nat.mul_add,Nat.mul_add]
   omega
theorem a6w{s0 st:k8}{ds:List m6}{as:List G7}(h:Run s0 ds as st):as.length=ds.length:=by
 induction h with
 | nil=>rfl
 | snoc _ _ ih=>rw[List.length_append,List.length_append,ih];rfl
theorem Paired.mapI{α β:Type}{F F':α→β→Prop}{l:List α}{m:List β}(h:Paired F l m):(∀a b,b∈m→F a b→F' a b)→Paired F' l m:=by
 induction h with
 | nil=>intro _;exact .nil
 | cons x t ih=>intro g;exact .cons (g _ _ List.mem_cons_self x) (ih fun a b hb=>g a b (List.mem_cons_of_mem _ hb))
def G6(rl:Addr→Role)(H:Hp):G7→V→Prop
 | .num i,x=>x=.int i
 | .word s,x=>x=.str s
 | .non,x=>x=.non
 | .ring rg,x=>∃l zs,x=.ref l∧H l=some (.lst zs)∧u3 H rg zs∧rl l=.free
theorem G6.kp{G G':Gh}{H H':Hp}(k:Kp G H G' H'){a:G7}{x:V}(h:G6 G.rl H a x):G6 G'.rl H' a x:=by
 cases a with
 | num i=>exact h
 | word s=>exact h
 | non=>exact h
 | ring rg=>
  obtain⟨l,zs,e,h1,h2,h3⟩:=h
  exact⟨l,zs,e,k.keep _ _ h3 h1,h2.tupK k.tup,k.out _ _ h3 h1⟩
theorem G6.upd{G:Gh}{H:Hp}{c:Addr}{o:HO}(t:r9 H (L2.upd H c o)){a:G7}{x:V}(n:x≠.ref c)(h:G6 G.rl H a x):G6 G.rl (L2.upd H c o) a x:=by
 cases a with
 | num i=>exact h
 | word s=>exact h
 | non=>exact h
 | ring rg=>
  obtain⟨l,zs,e,h1,h2,h3⟩:=h
  exact⟨l,zs,e,by rw[b8 fun z=>n (by rw[e,z])];exact h1,h2.tupK t,h3⟩
def a6S(t:A5)(G:Gh)(H:Hp)(p:Addr)(st:k8)(d:m6)(Q:V→Hp→Prop):Prop:=
 ∀a st',Step st d a st'→∀(x:V) (G':Gh) (H':Hp),TA t.C_Tally t.C_Dealing G' H' p st'→Kp G H G' H'→G6 G'.rl H' a x→(∀c,x=.ref c→H c=none)→Q x H'
section
variable{CT CD p:Addr}{G:Gh}{H:Hp}{st:k8}
theorem TA.freeU(h:TA CT CD G H p st){a:Addr}{o:HO}(ha:G.rl a=.free)(t:r9 H (upd H a o)):TA CT CD G (upd H a o) p st:=by
 refine⟨d8 h.ob h.r0 ha (by simp),d8 h.un h.r1 ha (by simp),d8 h.ve h.r2 ha (by simp),?_,?_,d8 h.rw h.r5 ha (by simp),fun e he=>?_,fun q hq=>?_,h.r0,h.r1,h.r2,h.r3,h.r4,h.r5,h.nd,h.vd,fun b e=>h.cl b (r8 e)⟩
 ·obtain⟨xs,h1,h2⟩:=h.rc
  exact⟨xs,d8 h1 h.r3 ha (by simp),Paired.mapP h2 fun _ _ z=>z.upd ha (by simp) t⟩
 ·obtain⟨xs,h1,h2⟩:=h.ln
  exact⟨xs,d8 h1 h.r4 ha (by simp),h2.tupK t⟩
 ·have E:=h.dl e he
  exact⟨d8 E.ob E.r1 ha (by simp),d8 E.lk E.r2 ha (by simp),d8 E.as E.r3 ha (by simp),E.r1,E.r2,E.r3⟩
 ·obtain⟨xs,h1,h2,h3⟩:=h.vl q hq
  exact⟨xs,d8 h1 h3 ha (by simp),z9 t h2,h3⟩
end
inductive a8m(t:A5)(K:PySem.W.Frag)(vs:List V)(H:Hp)(Q:VK):Prop
 | mk (G:Gh) (p:Addr) (st:k8) (d:Dl) (x0:vs=[.ref p,.int d.num]) (x1:TA t.C_Tally t.C_Dealing G H p st) (x2:d∈st.under) (x3:G9 st) (x4:Bd 63 st) (xq:a6S t G H p st (.fin d.num) Q)
def a7p(t:A5)(K:PySem.W.Frag):Sp:=fun vs H Q _=>a8m t K vs H Q
theorem a2r(T:z8 K mg t):g7 P w K mg base x9 5 t.f_answer_to_end t.d_answer_to_end ["tally","number"] (a7p t K):=by
 refine T.F_answer_to_end.ok a3a (fun vs H Q E h=>?_) (fun cdv A outer s H vs Q E hr h=>?_)
 ·obtain⟨G,p,st,d,rfl,_⟩:=h
  rfl
 obtain⟨G,p,st,d,rfl,h,hd,ok,bd,q⟩:=h
 refine⟨_,(b9 (g6 (i:=2) a3a.nd rfl (Or.inl rfl) (Y9 (pv 0) T.cl_Tally T.M_Tally_end (g7.mono (k:=4) (a3J T) (by decide)) hr T.F_Tally_end.b .nil j7 (a6 (pv 1) b7)))
 (b9 (j9 (f6 y9 (g9 i5 rfl T.m_len PySem.boot_len (a6 (pv 2) b7)) d5 (i9 _))
 (d6 (i3 i7))
 j1)
 (d6 (i3 (pv 2))))),?_⟩
 refine⟨_,rfl,p,_,_,rfl,h.ob,rfl,_,rfl,G,p,st,d,rfl,h,hd,ok,bd,fun r cs row E l G' H' h1 k1 hl fl nl=>?_,fun r cs rg E l zs G' H' h1 k1 hl Lz fl nl=>?_⟩
 ·refine⟨_,rfl,l,_,rfl,.inl (d9.of hl),rfl,_,rfl,l7 ?_⟩
  exact q _ _ (.ended hd E) _ G' H' h1 k1 rfl (fun c e=>nomatch e)
 ·have ne:(zs.length:Int)≠0:=by
   have:=E.ring.ne
   have:=Lz.len
   intro z
   have:rg=[]:=List.length_eq_zero_iff.mp (by omega)
   contradiction
  refine⟨_,rfl,l,_,rfl,.inl (d9.of hl),rfl,_,rfl,?_⟩
  rw[show decide (V.int (zs.length:Int)=V.int 0)=false from decide_eq_false fun e=>ne (V.int.inj e)]
  refine g8 ?_
  exact⟨_,rfl,q _ _ (.ring hd E) _ G' H' h1 k1 ⟨l,zs,rfl,hl,Lz,fl⟩ (fun c e=>by cases e;exact nl)⟩
inductive a8e(t:A5)(K:PySem.W.Frag)(vs:List V)(H:Hp)(Q:VK):Prop
 | mk (G:Gh) (p b:Addr) (st:k8) (d:Dl) (e:m6) (x0:vs=[.ref p,.ref b]) (x1:TA t.C_Tally t.C_Dealing G H p st) (x2:H b=some (.tup (dv e))) (x3:numOf e=some d.num) (x4:d∈st.under) (x5:G9 st) (x6:Bd 63 st) (xq:a6S t G H p st e Q)
def a8g(t:A5)(K:PySem.W.Frag):Sp:=fun vs H Q _=>a8e t K vs H Q
set_option maxHeartbeats 0 in
theorem a7g(T:z8 K mg t):g7 P w K mg base x9 6 t.f_answer_under_way t.d_answer_under_way ["tally","deed"] (a8g t K):=by
 refine T.F_answer_under_way.ok U0 (fun vs H Q E h=>?_) (fun cdv A outer s H vs Q E hr h=>?_)
 ·obtain⟨G,p,b,st,d,e,rfl,_⟩:=h
  rfl
 obtain⟨G,p,b,st,d,e,rfl,h,hb,hn,hd,ok,bd,q⟩:=h
 refine⟨_,(b9 (g6 (i:=2) U0.nd rfl (Or.inl rfl) (d7 e7 (pv 1) d5 (fun _ _=>rfl)))
 (b9 (j9 (f6 y9 (d7 e7 (pv 1) d5 (fun _ _=>rfl)) i7 (i9 _))
 (d6 (i3 (Y9 (pv 0) T.cl_Tally T.M_Tally_look (g7.mono (k:=5) (a1C T) (by decide)) hr T.F_Tally_look.b .nil j7 (a6 (pv 2) (a6 (d7 e7 (pv 1) d5 (fun _ _=>rfl)) b7)))))
 j1)
 (b9 (j9 (f6 y9 (d7 e7 (pv 1) d5 (fun _ _=>rfl)) i7 (i9 _))
 (b9 (l6 (Y9 (pv 0) T.cl_Tally T.M_Tally_put (g7.mono (k:=5) (a5J T) (by decide)) hr T.F_Tally_put.b .nil j7 (a6 (pv 2) (a6 (d7 e7 (pv 1) d5 (fun _ _=>rfl)) (a6 (d7 e7 (pv 1) d5 (fun _ _=>rfl)) b7)))))
 (d6 (i3 i7)))
 j1)
 (b9 (j9 (f6 y9 (d7 e7 (pv 1) d5 (fun _ _=>rfl)) i7 (i9 _))
 (d6 (i3 (j4 (g7.mono (k:=5) (a2r T) (by decide)) hr rfl T.m_answer_to_end T.F_answer_to_end.kp T.F_answer_to_end.b .nil j7 (a6 (pv 0) (a6 (pv 2) b7)))))
 j1)
 (b9 (l6 (Y9 (pv 0) T.cl_Tally T.M_Tally_leave (g7.mono (k:=5) (a3v T) (by decide)) hr T.F_Tally_leave.b .nil j7 (a6 (pv 2) b7)))
 (d6 (i3 i7))))))),?_⟩
 have b1:=bd.dl d hd
 cases e with
 | begin=>cases hn
 | sweep=>cases hn
 | look n g=>
  cases hn
  refine⟨_,rfl,b,_,1,_,rfl,rfl,f7.of hb,rfl,?_⟩
  refine⟨_,rfl,b,_,0,_,rfl,rfl,f7.of hb,rfl,rfl,_,rfl,l7 ?_⟩
  refine⟨_,rfl,p,_,_,rfl,h.ob,rfl,_,rfl,_,rfl,b,_,2,_,rfl,rfl,f7.of hb,rfl,G,p,st,d,g,rfl,h,hd,by omega,fun x hx=>Nat.le_trans (bd.vl x hx) (by decide),fun a ha=>?_,fun ha G' H' h1 k1=>?_⟩
  ·exact q _ _ (.own hd ha) _ G H h (Kp.refl G H) rfl (fun c e=>nomatch e)
  ·exact q _ _ (.look hd ha) _ G' H' h1 k1 rfl (fun c e=>nomatch e)
 | put n g a=>
  cases hn
  refine⟨_,rfl,b,_,1,_,rfl,rfl,f7.of hb,rfl,?_⟩
  refine⟨_,rfl,b,_,0,_,rfl,rfl,f7.of hb,rfl,rfl,_,rfl,g8 ?_⟩
  refine⟨_,rfl,b,_,0,_,rfl,rfl,f7.of hb,rfl,rfl,_,rfl,l7 ?_⟩
  refine⟨_,rfl,p,_,_,rfl,h.ob,rfl,_,rfl,_,rfl,b,_,2,_,rfl,rfl,f7.of hb,rfl,_,rfl,b,_,3,_,rfl,rfl,f7.of hb,rfl,G,p,st,d,g,a,rfl,h,hd,by omega,fun G' H' h1 k1=>?_⟩
  exact q _ _ (.put hd) _ G' H' h1 k1 rfl (fun c e=>nomatch e)
 | fin n=>
  cases hn
  refine⟨_,rfl,b,_,1,_,rfl,rfl,f7.of hb,rfl,?_⟩
  refine⟨_,rfl,b,_,0,_,rfl,rfl,f7.of hb,rfl,rfl,_,rfl,g8 ?_⟩
  refine⟨_,rfl,b,_,0,_,rfl,rfl,f7.of hb,rfl,rfl,_,rfl,g8 ?_⟩
  refine⟨_,rfl,b,_,0,_,rfl,rfl,f7.of hb,rfl,rfl,_,rfl,l7 ?_⟩
  exact⟨_,rfl,_,rfl,G,p,st,d,rfl,h,hd,ok,bd,q⟩
 | leave n=>
  cases hn
  refine⟨_,rfl,b,_,1,_,rfl,rfl,f7.of hb,rfl,?_⟩
  refine⟨_,rfl,b,_,0,_,rfl,rfl,f7.of hb,rfl,rfl,_,rfl,g8 ?_⟩
  refine⟨_,rfl,b,_,0,_,rfl,rfl,f7.of hb,rfl,rfl,_,rfl,g8 ?_⟩
  refine⟨_,rfl,b,_,0,_,rfl,rfl,f7.of hb,rfl,rfl,_,rfl,g8 ?_⟩
  refine⟨_,rfl,p,_,_,rfl,h.ob,rfl,_,rfl,G,p,st,d,rfl,h,hd,fun G' H' h1 k1=>?_⟩
  exact q _ _ (.leave hd) _ G' H' h1 k1 rfl (fun c e=>nomatch e)
inductive a5C(t:A5)(K:PySem.W.Frag)(vs:List V)(H:Hp)(Q:VK):Prop
 | mk (G:Gh) (p b:Addr) (st:k8) (e:m6) (x0:vs=[.ref p,.ref b]) (x1:TA t.C_Tally t.C_Dealing G H p st) (x2:H b=some (.tup (dv e))) (x3:G9 st) (x4:Bd 63 st) (xq:a6S t G H p st e Q)
def a1I(t:A5)(K:PySem.W.Frag):Sp:=fun vs H Q _=>a5C t K vs H Q
theorem G9.new{st:k8}(ok:G9 st):∀d∈st.under,d.num≠(st.begun:Int):=fun d hd e=>by
 have:=(ok.lt d.num (List.mem_append_right _ (List.mem_map.mpr ⟨d,hd,rfl⟩))).2
 omega
set_option maxHeartbeats 0 in
theorem a4F(T:z8 K mg t):g7 P w K mg base x9 7 t.f_answer_to t.d_answer_to ["tally","deed"] (a1I t K):=by
 refine T.F_answer_to.ok a8F (fun vs H Q E h=>?_) (fun cdv A outer s H vs Q E hr h=>?_)
 ·obtain⟨G,p,b,st,e,rfl,_⟩:=h
  rfl
 obtain⟨G,p,b,st,e,rfl,h,hb,ok,bd,q⟩:=h
 have hu:=O7 hr
 refine⟨_,(b9 (j9 (f6 y9 (d7 e7 (pv 1) d5 (fun _ _=>rfl)) i7 (i9 _))
 (d6 (i3 (U7 (pv 0) T.cl_Tally T.M_Tally_begin (g7.mono (k:=6) (a5w T) (by decide)) hr T.F_Tally_begin.b .nil j7)))
 j1)
 (b9 (j9 (f6 y9 (d7 e7 (pv 1) d5 (fun _ _=>rfl)) i7 (i9 _))
 (d6 (i3 (U7 (pv 0) T.cl_Tally T.M_Tally_sweep (g7.mono (k:=6) (a3y T) (by decide)) hr T.F_Tally_sweep.b .nil j7)))
 j1)
 (b9 (j9 (f6 (M0 hu) (d7 e7 (pv 1) d5 (fun _ _=>rfl)) (u0 (pv 0) rfl) (by with_unfolding_all rfl))
 (d6 (i3 b3o))
 j1)
 (d6 (i3 (j4 (g7.mono (k:=6) (a7g T) (by decide)) hr rfl T.m_answer_under_way T.F_answer_under_way.kp T.F_answer_under_way.b .nil j7 (a6 (pv 0) (a6 (pv 1) b7)))))))),?_⟩
 have go:∀n,(dv e)[1]?=some (.int n)→numOf e=some n→(dv e)[0]?≠some (.str "begin")→(dv e)[0]?≠some (.str "sweep")→∃z0 zs,dv e=.str z0::zs:=fun n _ h _ _=>by
  cases e with
  | begin=>cases h
  | sweep=>cases h
  | look n g=>exact⟨_,_,rfl⟩
  | put n g a=>exact⟨_,_,rfl⟩
  | fin n=>exact⟨_,_,rfl⟩
  | leave n=>exact⟨_,_,rfl⟩
 clear go
 have bun:=bd.un
 have dg:=fun n=>v7.k (k:=Sum.inl n) h.un
 have fin:∀n,numOf e=some n→n∈st.under.map (·.num)→∃d,numOf e=some d.num∧d∈st.under:=fun n hn hm=>by
  obtain⟨d,hd,rfl⟩:=List.mem_map.mp hm
  exact⟨d,hn,hd⟩
 cases e with
 | begin=>
  refine⟨_,rfl,b,_,0,_,rfl,rfl,f7.of hb,rfl,rfl,_,rfl,l7 ?_⟩
  refine⟨_,rfl,p,_,_,rfl,h.ob,rfl,G,p,st,rfl,h,ok.new,by omega,fun G' H' h1 k1=>?_⟩
  exact q _ _ .begin _ G' H' h1 k1 rfl (fun c e=>nomatch e)
 | sweep=>
  refine⟨_,rfl,b,_,0,_,rfl,rfl,f7.of hb,rfl,rfl,_,rfl,g8 ?_⟩
  refine⟨_,rfl,b,_,0,_,rfl,rfl,f7.of hb,rfl,rfl,_,rfl,l7 ?_⟩
  refine⟨_,rfl,p,_,_,rfl,h.ob,rfl,G,p,st,rfl,h,by omega,Nat.le_trans bd.ve (by decide),fun x hx=>Nat.le_trans (bd.vl x hx) (by decide),fun m hm G' H' h1 k1=>?_⟩
  exact q _ _ (.sweep hm) _ G' H' h1 k1 rfl (fun c e=>nomatch e)
 | look n g=>
  refine⟨_,rfl,b,_,0,_,rfl,rfl,f7.of hb,rfl,rfl,_,rfl,g8 ?_⟩
  refine⟨_,rfl,b,_,0,_,rfl,rfl,f7.of hb,rfl,rfl,_,rfl,g8 ?_⟩
  have dg:=dg n
  rw[m9]at dg
  refine⟨_,rfl,b,_,1,_,rfl,rfl,f7.of hb,rfl,_,rfl,p,_,_,_,_,rfl,h.ob,T.cl_Tally,T.n_Tally_under_way,rfl,G.U,_,rfl,dg,_,rfl,?_⟩
  by_cases c:n∈st.under.map (·.num)
  ·rw[if_pos c]
   obtain⟨d,hn,hd⟩:=fin n rfl c
   exact g8 ⟨_,rfl,_,rfl,G,p,b,st,d,_,rfl,h,hb,hn,hd,ok,bd,q⟩
  ·rw[if_neg c]
   exact l7 (q _ _ (.none rfl c) _ G H h (Kp.refl G H) rfl (fun c e=>nomatch e))
 | put n g a=>
  refine⟨_,rfl,b,_,0,_,rfl,rfl,f7.of hb,rfl,rfl,_,rfl,g8 ?_⟩
  refine⟨_,rfl,b,_,0,_,rfl,rfl,f7.of hb,rfl,rfl,_,rfl,g8 ?_⟩
  have dg:=dg n
  rw[m9]at dg
  refine⟨_,rfl,b,_,1,_,rfl,rfl,f7.of hb,rfl,_,rfl,p,_,_,_,_,rfl,h.ob,T.cl_Tally,T.n_Tally_under_way,rfl,G.U,_,rfl,dg,_,rfl,?_⟩
  by_cases c:n∈st.under.map (·.num)
  ·rw[if_pos c]
   obtain⟨d,hn,hd⟩:=fin n rfl c
   exact g8 ⟨_,rfl,_,rfl,G,p,b,st,d,_,rfl,h,hb,hn,hd,ok,bd,q⟩
  ·rw[if_neg c]
   exact l7 (q _ _ (.none rfl c) _ G H h (Kp.refl G H) rfl (fun c e=>nomatch e))
 | fin n=>
  refine⟨_,rfl,b,_,0,_,rfl,rfl,f7.of hb,rfl,rfl,_,rfl,g8 ?_⟩
  refine⟨_,rfl,b,_,0,_,rfl,rfl,f7.of hb,rfl,rfl,_,rfl,g8 ?_⟩
  have dg:=dg n
  rw[m9]at dg
  refine⟨_,rfl,b,_,1,_,rfl,rfl,f7.of hb,rfl,_,rfl,p,_,_,_,_,rfl,h.ob,T.cl_Tally,T.n_Tally_under_way,rfl,G.U,_,rfl,dg,_,rfl,?_⟩
  by_cases c:n∈st.under.map (·.num)
  ·rw[if_pos c]
   obtain⟨d,hn,hd⟩:=fin n rfl c
   exact g8 ⟨_,rfl,_,rfl,G,p,b,st,d,_,rfl,h,hb,hn,hd,ok,bd,q⟩
  ·rw[if_neg c]
   exact l7 (q _ _ (.none rfl c) _ G H h (Kp.refl G H) rfl (fun c e=>nomatch e))
 | leave n=>
  refine⟨_,rfl,b,_,0,_,rfl,rfl,f7.of hb,rfl,rfl,_,rfl,g8 ?_⟩
  refine⟨_,rfl,b,_,0,_,rfl,rfl,f7.of hb,rfl,rfl,_,rfl,g8 ?_⟩
  have dg:=dg n
  rw[m9]at dg
  refine⟨_,rfl,b,_,1,_,rfl,rfl,f7.of hb,rfl,_,rfl,p,_,_,_,_,rfl,h.ob,T.cl_Tally,T.n_Tally_under_way,rfl,G.U,_,rfl,dg,_,rfl,?_⟩
  by_cases c:n∈st.under.map (·.num)
  ·rw[if_pos c]
   obtain⟨d,hn,hd⟩:=fin n rfl c
   exact g8 ⟨_,rfl,_,rfl,G,p,b,st,d,_,rfl,h,hb,hn,hd,ok,bd,q⟩
  ·rw[if_neg c]
   exact l7 (q _ _ (.none rfl c) _ G H h (Kp.refl G H) rfl (fun c e=>nomatch e))
theorem ok0:G9 Z0 where
 un:=List.nodup_nil
 row:=⟨List.Perm.nil,List.nodup_nil,(fun l h=>nomatch h)⟩
 mem:=fun l=>⟨(fun h=>nomatch h),fun⟨r,hr,_⟩=>nomatch hr⟩
 lt:=fun n h=>nomatch h
theorem bd0:Bd 0 Z0:=⟨Nat.le_refl _,Nat.le_refl _,(fun d h=>nomatch h),(fun r h=>nomatch h),Nat.le_refl _,(fun q h=>nomatch h),Nat.le_refl _⟩
def Told(t:A5)(G:Gh)(H:Hp)(p:Addr)(ds:List m6)(Q:V→Hp→Prop):Prop:=
 ∀(as:List G7) (st:k8) (G':Gh) (H':Hp) (r:Addr) (ys:List V),Run Z0 ds as st→TA t.C_Tally t.C_Dealing G' H' p st→G9 st→Bd ds.length st→Kp G H G' H'→H' r=some (.lst ys)→Paired (G6 G'.rl H') as ys→G'.rl r=.free→H r=none→Q (.ref r) H'
inductive a3x(t:A5)(K:PySem.W.Frag)(vs:List V)(H:Hp)(Q:VK):Prop
 | mk (G:Gh) (p l:Addr) (ds:List m6) (xs:List V) (x0:vs=[.ref p,.ref l]) (x1:TA t.C_Tally t.C_Dealing G H p Z0) (x2:H l=some (.lst xs)) (x3:G.rl l=.free) (x4:n9 H ds xs) (x5:ds.length≤63) (xq:Told t G H p ds Q)
def a9D(t:A5)(K:PySem.W.Frag):Sp:=fun vs H Q _=>a3x t K vs H Q
set_option maxHeartbeats 0 in
theorem a1E(T:z8 K mg t):g7 P w K mg base x9 8 t.f_answers_at t.d_answers_at ["tally","deeds"] (a9D t K):=by
 refine T.F_answers_at.ok W1 (fun vs H Q E h=>?_) (fun cdv A outer s H vs Q E hr h=>?_)
 ·obtain⟨G,p,l,ds,xs,rfl,_⟩:=h
  rfl
 obtain⟨G,p,l,ds,xs,rfl,h,hl,fl,hd,bn,q⟩:=h
 refine⟨_,(b9 (g6 (i:=2) W1.nd rfl (Or.inl rfl) (j8 b7))
 (b9 (z6 PassesOwn.never rfl (u4 (pv 1)) (l4 (i:=3) W1.nd rfl (Or.inl rfl))
 (d6 (l6 (v3 PySem.F.plainAttrs_list PySem.F.slot_list_append PySem.F.type_list_append m8 (pv 2) (a6 (j4 (g7.mono (k:=7) (a4F T) (by decide)) hr rfl T.m_answer_to T.F_answer_to.kp T.F_answer_to.b .nil j7 (a6 (pv 0) (a6 (pv 3) b7))) b7)))))
 (d6 (i3 (pv 2))))),?_⟩
 refine⟨(by show 0≤sizeLine;decide),fun r hr0=>?_⟩
 have s0:=c9 (o:=.lst []) hr0
 have lx:xs.length=ds.length:=hd.len
 have fr:G.rl r=.free:=h.cl r hr0
 have nlr:l≠r:=e9 hl hr0
 refine⟨_,rfl,l,rfl,⟨_,d9.of (s0 _ _ hl)⟩,?_⟩
 refine A0 (xs:=xs) (fun i σ' Hc=>∃(o3:Option V) (G':Gh) (as:List G7) (st:k8) (ys:List V),σ'=[some (.ref p),some (.ref l),some (.ref r),o3]∧Run Z0 (ds.take i) as st∧TA t.C_Tally t.C_Dealing G' Hc p st∧G9 st∧Bd i st∧Kp G H G' Hc∧Hc r=some (.lst ys)∧G'.rl r=.free∧Paired (G6 G'.rl Hc) as ys∧∀y∈ys,y≠.ref r)
  ⟨none,G,[],Z0,[],rfl,.nil,h.same s0,ok0,bd0,Kp.same s0,b6,fr,.nil,(fun y hy=>nomatch hy)⟩ (fun i σ' Hc _ z=>?_) (fun i x σ' Hc hx z=>?_) (fun σ' Hc z=>?_)
 ·obtain⟨_,_,_,_,_,_,_,_,_,_,k,_⟩:=z
  exact d9.of (k.keep _ _ fl hl)
 ·obtain⟨o3,G',as,st,ys,rfl,R,h1,ok,bd,k1,hr1,fr1,pa,ny⟩:=z
  obtain⟨d,hdi,b,rfl,hb⟩:=A4 hd hx
  have li:=(List.getElem?_eq_some_iff.mp hdi).1
  have la:=r6 pa
  have lr:=a6w R
  rw[List.length_take]at lr
  have hb1:=k1.tup.1 _ _ hb
  refine⟨_,rfl,.inl ⟨rfl,_,d9.of hr1⟩,_,rfl,_,rfl,G',p,b,st,d,rfl,h1,hb1,ok,b0h bd (by omega),fun a st' S x G2 H2 h2 k2 A2 nx=>?_⟩
  have hr2:=k2.keep _ _ fr1 hr1
  have fr2:=k2.out _ _ fr1 hr1
  have t2:r9 H2 (upd H2 r (.lst (ys++[x]))):=n5 hr2
  have xr:x≠.ref r:=fun e=>by rw[nx r e]at hr1;cases hr1
  refine⟨r,ys,_,rfl,rfl,hr2,n6 (by omega),?_⟩
  have k3:Kp G H G2 (upd H2 r (.lst (ys++[x]))):=by
   have kk:=k1.trans k2
   refine⟨fun b o f e=>?_,kk.tup.trans t2,kk.out,fun b e=>kk.dom b (r8 e)⟩
   rw[b8 (e9 e hr0)]
   exact kk.keep b o f e
  refine⟨_,G2,as++[a],st',ys++[x],rfl,?_,h2.freeU fr2 t2,a4O ok S,a6N (by omega) h1.vd bd S,k3,b6,fr2,?_,fun y hy=>?_⟩
  ·rw[List.take_add_one,hdi];exact .snoc R S
  ·refine Paired.snoc ?_ (A2.upd t2 xr)
   have pa2:Paired (G6 G2.rl H2) as ys:=Paired.mapP pa fun _ _ z=>z.kp k2
   exact Paired.mapI pa2 fun a y hy z=>z.upd t2 (ny y hy)
  ·rcases List.mem_append.mp hy with hy | hy
   ·exact ny y hy
   ·rw[List.mem_singleton.mp hy];exact xr
 ·obtain⟨o3,G',as,st,ys,rfl,R,h1,ok,bd,k1,hr1,fr1,pa,ny⟩:=z
  rw[lx,List.take_length]at R
  rw[lx]at bd
  exact⟨_,rfl,q as st G' Hc r ys R h1 ok bd k1 hr1 pa fr1 hr0⟩
inductive a4M(t:A5)(K:PySem.W.Frag)(vs:List V)(H:Hp)(Q:VK):Prop
 | mk (l:Addr) (ds:List m6) (xs:List V) (x0:vs=[.ref l]) (x1:H l=some (.lst xs)) (x2:n9 H ds xs) (x3:ds.length≤63) (xq:∀(as:List G7) (st:k8) (rl:Addr→Role) (H':Hp) (r:Addr) (ys:List V),Run Z0 ds as st→h7 H H'→H' r=some (.lst ys)→Paired (G6 rl H') as ys→H r=none→Q (.ref r) H')
def a2P(t:A5)(K:PySem.W.Frag):Sp:=fun vs H Q _=>a4M t K vs H Q
theorem a4T(T:z8 K mg t):g7 P w K mg base x9 9 t.f_answers t.d_answers ["deeds"] (a2P t K):=by
 refine T.F_answers.ok a2Q (fun vs H Q E h=>?_) (fun cdv A outer s H vs Q E hr h=>?_)
 ·obtain⟨l,ds,xs,rfl,_⟩:=h
  rfl
 obtain⟨l,ds,xs,rfl,hl,hd,bn,q⟩:=h
 refine⟨_,(d6 (i3 (j4 (g7.mono (k:=8) (a1E T) (by decide)) hr rfl T.m_answers_at T.F_answers_at.kp T.F_answers_at.b .nil j7 (a6 (b4a T.K_Tally (g7.mono (k:=7) (a4m T) (by decide)) hr rfl T.mg_Tally T.F_Tally___init__.b .nil j7) (a6 (pv 0) b7))))),?_⟩
 intro x dx nx ndx nxd
 have s0:h7 H (upd (upd H dx (.own x)) x (.ins t.C_Tally dx [])):=l8 (c9 ndx) nx
 refine⟨x,dx,rfl,b6,fun G H1 h1 b1 g1=>⟨rfl,?_⟩⟩
 have s1:h7 H H1:=fun c o e=>b1 c o (e9 e nx) (s0 c o e)
 have gf:∀c o,H c=some o→G.rl c=.free:=fun c o e=>g1 c o (e9 e nx) (s0 c o e)
 refine⟨_,rfl,G,x,l,ds,xs,rfl,h1,s1 _ _ hl,gf _ _ hl,hd.tupK s1.tupK,bn,fun as st G' H' r ys R h2 ok bd k hr pa fr nr=>?_⟩
 exact q as st G'.rl H' r ys R (fun c o e=>k.keep c o (gf c o e) (s1 c o e)) hr pa (j2 s1 nr)
inductive a8v(K:PySem.W.Frag)(vs:List V)(H:Hp)(Q:VK):Prop
 | mk (x T) (x0:vs=[x]) (x1:TyV K H x T) (xq:Q (.bl (T=="int")) H)
def a4C(K:PySem.W.Frag):Sp:=fun vs H Q _=>a8v K vs H Q
theorem X6(T:z8 K mg t):g7 P w K mg base x9 1 t.f__law_whole t.d__law_whole ["_law_found"] (a4C K):=by
 refine T.F__law_whole.ok a0D (fun vs H Q E h=>?_) (fun cdv A outer s H vs Q E hr h=>?_)
 ·obtain⟨x,T,rfl,_⟩:=h
  rfl
 obtain⟨x,Ty,rfl,hT,q⟩:=h
 refine⟨_,(d6 (i3 (T1 (g9 C7 rfl T.m_isinstance boot_isinstance (a6 (pv 0) (a6 (J0 (v:=.ty "int") rfl T.m_int boot_int rfl) b7))) (a0a (b4l (g9 C7 rfl T.m_isinstance boot_isinstance (a6 (pv 0) (a6 (J0 (v:=.ty "bool") rfl T.m_bool boot_bool rfl) b7)))))))),?_⟩
 refine⟨_,rfl,x,Ty,"int",rfl,hT,by decide,_,rfl,?_⟩
 refine G8 (fun c=>?_) (fun c=>?_)
 ·refine⟨_,rfl,x,Ty,"bool",rfl,hT,by decide,_,rfl,?_⟩
  have e:(!a3T Ty "bool")=(Ty=="int"):=by
   have:=hT.mem
   simp only[tys,List.mem_cons,List.not_mem_nil,or_false]at this
   rcases this with rfl | rfl | rfl | rfl | rfl | rfl | rfl<;>revert c<;>decide
  rw[e];exact q
 ·have e:false=(Ty=="int"):=by
   have:=hT.mem
   simp only[tys,List.mem_cons,List.not_mem_nil,or_false]at this
   rcases this with rfl | rfl | rfl | rfl | rfl | rfl | rfl<;>revert c<;>decide
  rw[←e]at q;exact q
theorem a8E(c:Array Nat):∀(n:Nat) (acc:Array Nat),((List.replicate n c).foldl (·++·) acc).size=acc.size+n*c.size
 | 0,acc=>by simp
 | n+1,acc=>by
  rw[List.replicate_succ,List.foldl_cons,a8E c n,Array.size_append,Nat.succ_mul];omega
theorem a1r(z:Str)(n:Nat):(K4 z n).length=n*z.length:=by
 show((List.replicate n z.cps).foldl (·++·) #[]).size=n*z.cps.size
 rw[a8E];simp
theorem a5O(p:Nat→Bool)(c:Array Nat)(h:c.all p=true):∀(n:Nat) (acc:Array Nat),acc.all p=true→((List.replicate n c).foldl (·++·) acc).all p=true
 | 0,acc,ha=>by simpa using ha
 | n+1,acc,ha=>by
  rw[List.replicate_succ,List.foldl_cons]
  exact a5O p c h n _ (by rw[Array.all_append,ha,h];rfl)
theorem a8y{z:Str}(h:PyData.strOk z=true)(n:Nat):PyData.strOk (K4 z n)=true:=a5O _ z.cps h n #[] (by simp)
theorem a1W{x y:Str}(h:PyData.strOk x=true)(k:PyData.strOk y=true):PyData.strOk (x++y)=true:=by
 show(x.cps++y.cps).all _=true
 rw[Array.all_append]
 have h:x.cps.all (·<0x110000)=true:=h
 have k:y.cps.all (·<0x110000)=true:=k
 rw[h,k];rfl
theorem a5k(x y:Str):(x++y).length=x.length+y.length:=by
 show(x.cps++y.cps).size=_
 rw[Array.size_append];rfl
theorem b6j(i:Int)(h1:0≤i)(h2:i<12):F6 (("good ":Str)++(toString i:String)):=by
 rcases(show i=0∨i=1∨i=2∨i=3∨i=4∨i=5∨i=6∨i=7∨i=8∨i=9∨i=10∨i=11 by omega) with rfl | rfl | rfl | rfl | rfl | rfl | rfl | rfl | rfl | rfl | rfl | rfl<;>(unfold F6;decide +kernel)
inductive a2D(K:PySem.W.Frag)(vs:List V)(H:Hp)(Q:VK):Prop
 | mk (i pl:Int) (x0:vs=[.int i,.int pl]) (x1:0≤i) (x2:i<12) (x3:0≤pl) (x4:pl≤39) (xq:∀g H',h7 H H'→F6 g→Q (.str g) H')
def a6H(K:PySem.W.Frag):Sp:=fun vs H Q _=>a2D K vs H Q
set_option maxHeartbeats 0 in
theorem a0L(T:z8 K mg t):g7 P w K mg base x9 1 t.f__law_ware t.d__law_ware ["_law_spot","_law_place"] (a6H K):=by
 refine T.F__law_ware.ok a2k (fun vs H Q E h=>?_) (fun cdv A outer s H vs Q E hr h=>?_)
 ·obtain⟨i,pl,rfl,_⟩:=h
  rfl
 obtain⟨i,pl,rfl,i0,i1,p0,p1,q⟩:=h
 refine⟨_,(b9 (g6 (i:=2) a2k.nd rfl (Or.inl rfl) (j8 (a6 i7 (a6 i7 (a6 i7 (a6 (i6 a8u i7 d5) (a6 (i6 a1f (i6 a1f (i6 a3n i7 (pv 1)) i7) (i6 a3n i7 (i6 M4 d5 (pv 1)))) (a6 i7 b7))))))))
 (d6 (i3 (d7 j6 (i6 N3 (pv 2) (i6 b6m (j8 (a6 (i6 a1f i7 (L5 a2K rfl T.m_str boot_str (a6 (pv 0) b7))) b7)) d5)) (i6 A7 (pv 0) d5) (fun _ _=>rfl))))),?_⟩
 have lone:("a":Str).length=1:=by decide
 have oka:PyData.strOk "a"=true:=by decide +kernel
 have okb:PyData.strOk "b"=true:=by decide +kernel
 have l1:(K4 "a" pl.toNat).length≤39:=by rw[a1r,lone];omega
 have l2:(K4 "a" (39-pl).toNat).length≤39:=by rw[a1r,lone];omega
 have l3:(K4 "a" pl.toNat++"b").length≤40:=by
  rw[a5k]
  have:("b":Str).length=1:=by decide
  omega
 refine⟨_,_,rfl,rfl,(by decide),(by decide),(by decide),(by decide),(by decide),?_⟩
 refine⟨_,rfl,_,_,rfl,rfl,by omega,by omega,(by decide),(by decide),by rw[sizeLine_eq];omega,?_⟩
 refine⟨_,_,rfl,rfl,by rw[sizeLine_eq,←a5k];omega,?_⟩
 refine⟨_,rfl,_,_,rfl,rfl,_,_,rfl,rfl,by omega,by omega,(by decide),(by decide),by rw[sizeLine_eq];omega,?_⟩
 refine⟨_,_,rfl,rfl,by rw[sizeLine_eq];omega,(by show 6≤sizeLine;decide),fun e he=>?_⟩
 have w40:F6 (K4 "a" (Int.toNat 40)):=⟨a8y oka _,by rw[a1r,lone];decide⟩
 have wmx:F6 (K4 "a" pl.toNat++"b"++K4 "a" (39-pl).toNat):=⟨a1W (a1W (a8y oka _) okb) (a8y oka _),by rw[a5k];omega⟩
 have wnm:=b6j i i0 i1
 have lnm:(("good ":Str)++(toString i:String)).length≤200:=wnm.2
 refine⟨_,rfl,_,rfl,i,rfl,?_,_,_,rfl,rfl,by rw[←a5k,sizeLine_eq];omega,(by show 1≤sizeLine;decide),fun e2 he2=>?_⟩
 ·have:=Nat.log2_le_self i.natAbs
  omega
 generalize (("good ":Str)++(toString i:String))=nm at wnm he2 ⊢
 have s1:=c9 (o:=.lst [.str nm]) he2
 refine⟨e2,6,_,rfl,rfl,b6,by decide,by decide,(by show 1*6≤sizeLine;decide),fun e3 he3=>?_⟩
 have s2:=c9 (o:=.lst (List.replicate (Int.toNat 6) [V.str nm]).flatten) he3
 refine⟨e,e3,_,_,rfl,rfl,s2 _ _ (s1 _ _ b6),b6,(by show 6+6≤sizeLine;decide),fun e4 he4=>?_⟩
 refine⟨_,rfl,_,_,rfl,rfl,(by show(0:Int)<12;decide),?_⟩
 dsimp only
 rw[show i % 12=i by omega]
 have get:∃g,C6 ([V.str "a",V.str "",V.str "A b~",V.str (K4 "a" (Int.toNat 40)),V.str (K4 "a" pl.toNat++"b"++K4 "a" (39-pl).toNat),V.str "good"]++(List.replicate (Int.toNat 6) [V.str nm]).flatten) i=some (.str g)∧F6 g:=by
  obtain⟨n,rfl⟩:=Int.eq_ofNat_of_zero_le i0
  rcases(show n=0∨n=1∨n=2∨n=3∨n=4∨n=5∨n=6∨n=7∨n=8∨n=9∨n=10∨n=11 by omega) with rfl | rfl | rfl | rfl | rfl | rfl | rfl | rfl | rfl | rfl | rfl | rfl
  ·exact⟨_,j0 rfl,by unfold F6;decide +kernel⟩
  ·exact⟨_,j0 rfl,by unfold F6;decide +kernel⟩
  ·exact⟨_,j0 rfl,by unfold F6;decide +kernel⟩
  ·exact⟨_,j0 rfl,w40⟩
  ·exact⟨_,j0 rfl,wmx⟩
  ·exact⟨_,j0 rfl,by unfold F6;decide +kernel⟩
  ·exact⟨_,j0 rfl,wnm⟩
  ·exact⟨_,j0 rfl,wnm⟩
  ·exact⟨_,j0 rfl,wnm⟩
  ·exact⟨_,j0 rfl,wnm⟩
  ·exact⟨_,j0 rfl,wnm⟩
  ·exact⟨_,j0 rfl,wnm⟩
 obtain⟨g,hg,wg⟩:=get
 exact⟨e4,_,_,_,rfl,rfl,d9.of b6,hg,q g _ ((((c9 he).trans s1).trans s2).trans (c9 he4)) wg⟩
structure DS(H:Hp)(r u o:Addr)(ds:List m6)(us os:List Int)(H':Hp):Prop where
 sm:h7 H H'
 nr:H r=none
 nu:H u=none
 no:H o=none
 ru:r≠u
 ro:r≠o
 uo:u≠o
 made:∃xs,H' r=some (.lst xs)∧n9 H' ds xs
 und:H' u=some (.lst (us.map V.int))
 ove:H' o=some (.lst (os.map V.int))
 ok:∀d∈ds,O9 d
theorem DS.new{H H1 H2:Hp}{r u o:Addr}{ds:List m6}{us os:List Int}(d:DS H r u o ds us os H1)(s:h7 H1 H2):DS H r u o ds us os H2:=by
 obtain⟨xs,h1,h2⟩:=d.made
 exact⟨d.sm.trans s,d.nr,d.nu,d.no,d.ru,d.ro,d.uo,⟨xs,s _ _ h1,h2.tupK s.tupK⟩,s _ _ d.und,s _ _ d.ove,d.ok⟩
theorem DS.setU{H H1:Hp}{r u o:Addr}{ds:List m6}{us os:List Int}(d:DS H r u o ds us os H1)(ws:List Int):DS H r u o ds ws os (upd H1 u (.lst (ws.map V.int))):=by
 obtain⟨xs,h1,h2⟩:=d.made
 exact⟨l8 d.sm d.nu,d.nr,d.nu,d.no,d.ru,d.ro,d.uo,⟨xs,by rw[b8 d.ru];exact h1,h2.tupK (n5 d.und)⟩,b6,by rw[b8 (Ne.symm d.uo)];exact d.ove,d.ok⟩
theorem DS.setO{H H1:Hp}{r u o:Addr}{ds:List m6}{us os:List Int}(d:DS H r u o ds us os H1)(ws:List Int):DS H r u o ds us ws (upd H1 o (.lst (ws.map V.int))):=by
 obtain⟨xs,h1,h2⟩:=d.made
 exact⟨l8 d.sm d.no,d.nr,d.nu,d.no,d.ru,d.ro,d.uo,⟨xs,by rw[b8 d.ro];exact h1,h2.tupK (n5 d.ove)⟩,by rw[b8 d.uo];exact d.und,b6,d.ok⟩
theorem DS.oth{H H1:Hp}{r u o b:Addr}{ds:List m6}{us os:List Int}{ys zs:List V}(d:DS H r u o ds us os H1)(hb:H b=none)(n1:r≠b)(n2:u≠b)(n3:o≠b)(hl:H1 b=some (.lst ys)):DS H r u o ds us os (upd H1 b (.lst zs)):=by
 obtain⟨xs,h1,h2⟩:=d.made
 exact⟨l8 d.sm hb,d.nr,d.nu,d.no,d.ru,d.ro,d.uo,⟨xs,by rw[b8 n1];exact h1,h2.tupK (n5 hl)⟩,by rw[b8 n2];exact d.und,by rw[b8 n3];exact d.ove,d.ok⟩
theorem DS.apart{H H1:Hp}{r u o b:Addr}{ds:List m6}{us os:List Int}(d:DS H r u o ds us os H1)(hb:H1 b=none):H b=none∧r≠b∧u≠b∧o≠b:=by
 obtain⟨xs,h1,h2⟩:=d.made
 refine⟨?_,(fun z=>by rw[←z,h1]at hb;cases hb),(fun z=>by rw[←z,d.und]at hb;cases hb),(fun z=>by rw[←z,d.ove]at hb;cases hb)⟩
 cases z:H b with
 | none=>rfl
 | some o=>rw[d.sm _ _ z]at hb;cases hb
theorem DS.add{H H1:Hp}{r u o:Addr}{ds:List m6}{us os:List Int}(d:DS H r u o ds us os H1){e:m6}{x:V}(hx:a0i H1 e x)(he:O9 e)(hz:ds.length≤1000)(Q:VK)(q:∀H2,DS H r u o (ds++[e]) us os H2→Q .non H2) :
  b5n (.ref r) [x] H1 Q:=by
 obtain⟨xs,h1,h2⟩:=d.made
 have k:=n5 (o:=.lst (xs++[x])) h1
 refine⟨r,xs,x,rfl,rfl,h1,by rw[h2.len];exact L0 hz,q _ ⟨l8 d.sm d.nr,d.nr,d.nu,d.no,d.ru,d.ro,d.uo,⟨_,b6,?_⟩,by rw[b8 (Ne.symm d.ru)];exact d.und,by rw[b8 (Ne.symm d.ro)];exact d.ove,fun z hz=>?_⟩⟩
 ·obtain⟨p,e1,e2⟩:=hx
  exact(h2.tupK k).snoc ⟨p,e1,k.1 _ _ e2⟩
 ·rcases List.mem_append.mp hz with hz | hz
  ·exact d.ok z hz
  ·rw[List.mem_singleton.mp hz];exact he
theorem cut{E G:Prop}(f:E→G)(h:E):G:=f h
theorem a2l{ns:List Int}(h:0<ns.length)(c:Int):∃z,C6 (ns.map V.int) (c % (((ns.map V.int).length:Nat):Int))=some (.int z)∧z∈ns:=by
 rw[List.length_map]
 obtain⟨j,hj,e⟩:=a2h h c
 rw[e]
 exact⟨ns[j],j0 (by rw[List.getElem?_map,List.getElem?_eq_getElem hj];rfl),List.getElem_mem hj⟩
theorem b1m(x y:Int)(k:Bool):∃z,C6 [V.int x,V.int y] (if k=true then 1 else 0)=some (.int z):=by
 cases k
 ·exact⟨x,j0 (j:=0) rfl⟩
 ·exact⟨y,j0 (j:=1) rfl⟩
theorem b3a(x y z:Int)(c:Int):∃v,C6 [V.int x,V.int y,V.int z] (c % 3)=some (.int v)∧(v=x∨v=y∨v=z):=by
 obtain⟨j,hj,e⟩:=a2h (n:=3) (by decide) c
 have e:c % 3=(j:Int):=e
 rw[e]
 rcases(show j=0∨j=1∨j=2 by omega) with rfl | rfl | rfl
 ·exact⟨x,j0 rfl,.inl rfl⟩
 ·exact⟨y,j0 rfl,.inr (.inl rfl)⟩
 ·exact⟨z,j0 rfl,.inr (.inr rfl)⟩
theorem a7B{K:PySem.W.Frag}{H:Hp}:∀ns:List Int,m7 K H (ns.map PyData.int) (ns.map V.int)
 | []=>rfl
 | n::ns=>⟨_,_,rfl,by unfold Rep;rfl,a7B ns⟩
theorem a7I:∀ns:List Int,PyData.canLayAll0 (ns.map PyData.int)=true
 | []=>by rw[List.map_nil,PyData.canLayAll0]
 | n::ns=>by rw[List.map_cons,PyData.canLayAll0,a7I ns];simp[PyData.canLay0]
theorem a9r:∀ns:List Int,PyData.depthAll (ns.map PyData.int)≤1
 | []=>by rw[List.map_nil,PyData.depthAll];omega
 | n::ns=>by rw[List.map_cons,PyData.depthAll];have:=a9r ns;simp[PyData.depth];omega
theorem a9Z(c:Int):∃z,C6 [V.int 0,V.int 0,V.int 0,V.int 1,V.int 2,V.int 4,V.int 3] (c % 7)=some (.int z)∧0≤z∧z<5:=by
 obtain⟨j,hj,e⟩:=a2h (n:=7) (by decide) c
 have e:c % 7=(j:Int):=e
 rw[e]
 rcases(show j=0∨j=1∨j=2∨j=3∨j=4∨j=5∨j=6 by omega) with rfl | rfl | rfl | rfl | rfl | rfl | rfl<;>exact⟨_,j0 rfl,by decide,by decide⟩
inductive a7x(K:PySem.W.Frag)(vs:List V)(H:Hp)(Q:VK):Prop
 | mk (a:Addr) (ns:List Int) (x0:vs=[.ref a]) (x1:d9 K H a (ns.map V.int)) (x2:ns.length≤200) (xq:∀(r:Addr) (xs:List V) (ds:List m6) (H':Hp),h7 H H'→H' r=some (.lst xs)→n9 H' ds xs→ds.length=ns.length→(∀d∈ds,O9 d)→H r=none→Q (.ref r) H')
def a7D(K:PySem.W.Frag):Sp:=fun vs H Q _=>a7x K vs H Q
set_option maxHeartbeats 0 in
theorem a1g(T:z8 K mg t):g7 P w K mg base x9 2 t.f__law_deeds t.d__law_deeds ["_law_cells"] (a7D K):=by
 refine T.F__law_deeds.ok l5 (fun vs H Q E h=>?_) (fun cdv A outer s H vs Q E hr h=>?_)
 ·obtain⟨a,ns,rfl,_⟩:=h
  rfl
 obtain⟨a,ns,rfl,hS,hl,q⟩:=h
 refine⟨_,(b9 (g6 (i:=1) l5.nd rfl (Or.inl rfl) (j8 b7))
 (b9 (g6 (i:=2) l5.nd rfl (Or.inl rfl) (j8 b7))
 (b9 (g6 (i:=3) l5.nd rfl (Or.inl rfl) (j8 b7))
 (b9 (g6 (i:=4) l5.nd rfl (Or.inl rfl) d5)
 (b9 (g6 (i:=5) l5.nd rfl (Or.inl rfl) (d7 j6 (j8 (a6 d5 (a6 (d7 j6 (j8 (a6 d5 (a6 d5 b7))) (L5 a4A rfl T.m_int boot_int (a6 (C5 a8r (g9 i5 rfl T.m_len PySem.boot_len (a6 (pv 0) b7)) d5 (i9 _)) b7)) (fun _ _=>rfl)) b7))) (i6 A7 (g9 i5 rfl T.m_len PySem.boot_len (a6 (pv 0) b7)) d5) (fun _ _=>rfl)))
 (b9 (g6 (i:=6) l5.nd rfl (Or.inl rfl) (d7 j6 (j8 (a6 d5 (a6 d5 (a6 d5 b7)))) (i6 A7 (i6 Y7 (g9 (a9H rfl) rfl T.m_sum boot_sum (a6 (L8 R0 (pv 0) N9 (O4 d5)) b7)) d5) d5) (fun _ _=>rfl)))
 (b9 (z6 PassesOwn.never rfl (V3 rfl T.m_range (a6 (g9 i5 rfl T.m_len PySem.boot_len (a6 (pv 0) b7)) b7)) (l4 (i:=7) l5.nd rfl (Or.inl rfl))
 (b9 (g6 (i:=8) l5.nd rfl (Or.inl rfl) (i6 A7 (i6 C9 (d7 j6 (pv 0) (pv 7) (fun _ _=>rfl)) (i6 a3V d5 (pv 7))) d5))
 (b9 (g6 (i:=9) l5.nd rfl (Or.inl rfl) (i6 Y7 (d7 j6 (pv 0) (pv 7) (fun _ _=>rfl)) d5))
 (b9 (g6 (i:=10) l5.nd rfl (Or.inl rfl) (d7 j6 (pv 0) (i6 A7 (i6 C9 (pv 7) d5) (g9 i5 rfl T.m_len PySem.boot_len (a6 (pv 0) b7))) (fun _ _=>rfl)))
 (b9 (g6 (i:=11) l5.nd rfl (Or.inl rfl) (j4 (g7.mono (k:=1) (a0L T) (by decide)) hr rfl T.m__law_ware T.F__law_ware.kp T.F__law_ware.b .nil j7 (a6 (i6 A7 (i6 C9 (pv 10) (pv 7)) (pv 6)) (a6 (i6 A7 (i6 Y7 (g9 (a9H rfl) rfl T.m_sum boot_sum (a6 (L8 R0 (pv 0) N9 (O4 d5)) b7)) d5) d5) b7))))
 (d6 (j9 (PW.pt (P4 (f6 a8r (pv 8) d5 (i9 _)) (M8 (f6 y9 (i6 A7 (i6 C9 (pv 8) (pv 9)) d5) d5 (i9 _)))))
 (d6 (l6 (v3 PySem.F.plainAttrs_list PySem.F.slot_list_append PySem.F.type_list_append m8 (pv 1) (a6 (p6 (a6 i7 b7)) b7))))
 (d6 (j9 (f6 y9 (pv 8) d5 (i9 _))
 (b9 (g6 (i:=12) l5.nd rfl (Or.inl rfl) (i6 N3 (j8 (a6 (pv 4) (a6 (i6 C9 (pv 4) d5) (a6 (a2T a9I d5) (a6 (i6 a9c d5 d5) (a6 (i6 M4 (a2T a9I d5) (i6 A7 (pv 10) (i6 a9c d5 d5))) b7)))))) (pv 3)))
 (b9 (g6 (i:=13) l5.nd rfl (Or.inl rfl) (d7 j6 (pv 12) (i6 A7 (i6 Y7 (pv 10) d5) (g9 i5 rfl T.m_len PySem.boot_len (a6 (pv 12) b7))) (fun _ _=>rfl)))
 (b9 (g6 (i:=14) l5.nd rfl (Or.inl rfl) (j8 (a6 (p6 (a6 i7 (a6 (pv 13) (a6 (pv 11) b7)))) (a6 (p6 (a6 i7 (a6 (pv 13) b7))) (a6 (p6 (a6 i7 (a6 (pv 13) b7))) b7)))))
 (b9 (l6 (v3 PySem.F.plainAttrs_list PySem.F.slot_list_append PySem.F.type_list_append m8 (pv 14) (a6 (p6 (a6 i7 (a6 (pv 13) (a6 (pv 11) (a6 d5 b7))))) b7)))
 (d6 (l6 (v3 PySem.F.plainAttrs_list PySem.F.slot_list_append PySem.F.type_list_append m8 (pv 1) (a6 (d7 j6 (pv 14) (i6 A7 (d7 j6 (pv 0) (i6 A7 (i6 C9 (pv 7) d5) (g9 i5 rfl T.m_len PySem.boot_len (a6 (pv 0) b7))) (fun _ _=>rfl)) d5) (fun _ _=>rfl)) b7))))))))
 (d6 (j9 (PW.pt (P8 (f6 (b0p hr.units) (pv 2) (j8 b7) (i9 _)) (P5 (PW.pt (P4 (f6 Y0 (pv 8) d5 (i9 _)) (M8 (f6 Y0 (g9 i5 rfl T.m_len PySem.boot_len (a6 (pv 2) b7)) (pv 5) (i9 _))))))))
 (b9 (l6 (v3 PySem.F.plainAttrs_list PySem.F.slot_list_append PySem.F.type_list_append m8 (pv 1) (a6 (p6 (a6 i7 b7)) b7)))
 (b9 (l6 (v3 PySem.F.plainAttrs_list PySem.F.slot_list_append PySem.F.type_list_append m8 (pv 2) (a6 (pv 4) b7)))
 (d6 (g6 (i:=4) l5.nd rfl (Or.inl rfl) (i6 C9 (pv 4) d5)))))
 (b9 (g6 (i:=15) l5.nd rfl (Or.inl rfl) (d7 j6 (pv 2) (i6 A7 (i6 C9 (pv 9) (pv 7)) (g9 i5 rfl T.m_len PySem.boot_len (a6 (pv 2) b7))) (fun _ _=>rfl)))
 (d6 (j9 (f6 Y0 (pv 8) d5 (i9 _))
 (d6 (l6 (v3 PySem.F.plainAttrs_list PySem.F.slot_list_append PySem.F.type_list_append m8 (pv 1) (a6 (p6 (a6 i7 (a6 (pv 15) (a6 (pv 11) b7)))) b7))))
 (d6 (j9 (f6 Y0 (pv 8) d5 (i9 _))
 (b9 (g6 (i:=16) l5.nd rfl (Or.inl rfl) (j8 (a6 (i6 M4 (i6 a3V d5 (pv 7)) d5) (a6 d5 (a6 (i6 C9 (i6 a9c d5 d5) (pv 7)) (a6 (i6 M4 (a2T a9I (i6 a9c d5 d5)) (pv 7)) b7))))))
 (b9 (l6 (v3 PySem.F.plainAttrs_list PySem.F.slot_list_append PySem.F.type_list_append m8 (pv 16) (a6 (i6 A7 (pv 10) (i6 M4 (i6 b7i (i6 a9c d5 d5) (i6 a9c d5 d5)) d5)) b7)))
 (b9 (g6 (i:=17) l5.nd rfl (Or.inl rfl) (d7 j6 (pv 16) (d7 j6 (j8 (a6 d5 (a6 d5 (a6 d5 (a6 d5 (a6 d5 (a6 d5 (a6 d5 b7)))))))) (i6 A7 (i6 C9 (pv 9) (pv 7)) d5) (fun _ _=>rfl)) (fun _ _=>rfl)))
 (d6 (l6 (v3 PySem.F.plainAttrs_list PySem.F.slot_list_append PySem.F.type_list_append m8 (pv 1) (a6 (p6 (a6 i7 (a6 (pv 15) (a6 (pv 11) (a6 (pv 17) b7))))) b7)))))))
 (b9 (l6 (v3 PySem.F.plainAttrs_list PySem.F.slot_list_append PySem.F.type_list_append m8 (pv 1) (a6 (p6 (a6 (d7 j6 (j8 (a6 i7 (a6 i7 b7))) (L5 a4A rfl T.m_int boot_int (a6 (C5 y9 (pv 8) d5 (i9 _)) b7)) (fun _ _=>rfl)) (a6 (pv 15) b7))) b7)))
 (b9 (l6 (v3 PySem.F.plainAttrs_list PySem.F.slot_list_remove PySem.F.type_list_remove a9X (pv 2) (a6 (pv 15) b7)))
 (d6 (l6 (v3 PySem.F.plainAttrs_list PySem.F.slot_list_append PySem.F.type_list_append m8 (pv 3) (a6 (pv 15) b7))))))))))))))))))))))
 (d6 (i3 (pv 1)))))))))),?_⟩
 have ln:(ns.map V.int).length=ns.length:=List.length_map _
 refine⟨(by show 0≤sizeLine;decide),fun r hr0=>⟨(by show 0≤sizeLine;decide),fun u hu0=>⟨(by show 0≤sizeLine;decide),fun o ho0=>?_⟩⟩⟩
 have s1:=c9 (o:=.lst []) hr0
 have s2:=c9 (o:=.lst []) hu0
 have s3:=c9 (o:=.lst []) ho0
 have back:∀{H1:Hp} {b:Addr},h7 H H1→H1 b=none→H b=none:=fun {H1 b} s h=>by
  cases z:H b with
  | none=>rfl
  | some o=>rw[s _ _ z]at h;cases h
 have D0:DS H r u o [] [] [] (upd (upd (upd H r (.lst [])) u (.lst [])) o (.lst [])):=
  ⟨(s1.trans s2).trans s3,hr0,back s1 hu0,back (s1.trans s2) ho0,(fun z=>by rw[←z,b6]at hu0;cases hu0),(fun z=>by rw[←z,s2 _ _ b6]at ho0;cases ho0),(fun z=>by rw[←z,b6]at ho0;cases ho0),
   ⟨[],s3 _ _ (s2 _ _ b6),.nil⟩,s3 _ _ b6,b6,fun d h=>by simp at h⟩
 generalize upd (upd (upd H r (.lst [])) u (.lst [])) o (.lst [])=H1 at D0 ⊢
 have hS1:=hS.same D0.sm
 refine⟨(by show 2≤sizeLine;decide),fun e1 he1=>?_⟩
 have D1:=D0.new (c9 (o:=.lst [.int 9,.int 200]) he1)
 obtain⟨m1,hm1⟩:=b1m 9 200 (decide ((63:Int)<(((ns.map V.int).length:Nat):Int)))
 refine⟨_,rfl,a,_,rfl,.inl (hS.same D1.sm),_,_,rfl,rfl,.inr ⟨_,rfl,e1,_,_,_,rfl,rfl,d9.of b6,hm1,(by show 2≤sizeLine;decide),fun e2 he2=>?_⟩⟩
 have D2:=D1.new (c9 (o:=.lst [.int 4,.int m1]) he2)
 obtain⟨m2,hm2⟩:∃z,C6 [V.int 4,V.int m1] ((((ns.map V.int).length:Nat):Int) % 2)=some (.int z):=by
  obtain⟨j,hj,e⟩:=a2h (n:=2) (by decide) (((ns.map V.int).length:Nat):Int)
  have e:(((ns.map V.int).length:Nat):Int) % 2=(j:Int):=e
  rw[e]
  rcases(show j=0∨j=1 by omega) with rfl | rfl
  ·exact⟨_,j0 rfl⟩
  ·exact⟨_,j0 rfl⟩
 refine⟨_,rfl,a,_,rfl,.inl (hS.same D2.sm),_,_,rfl,rfl,(by show(0:Int)<2;decide),e2,_,_,_,rfl,rfl,d9.of b6,hm2,?_⟩
 generalize upd (upd H1 e1 (.lst [.int 9,.int 200])) e2 (.lst [.int 4,.int m1])=H2 at D2 ⊢
 have ec:R5 (ns.map V.int) none (some 1)=(ns.take 1).map V.int:=by rw[show(1:Int)=((1:Nat):Int) from rfl,a9s,List.map_take]
 refine⟨(by show 3≤sizeLine;decide),fun e3 he3=>?_⟩
 have D3:=D2.new (c9 (o:=.lst [.int 3,.int 3,.int 12]) he3)
 refine⟨_,rfl,_,rfl,a,_,rfl,hS.same D3.sm,fun c hc=>?_⟩
 rw[ec]
 have D4:=D3.new (c9 (o:=.lst ((ns.take 1).map V.int)) hc)
 obtain⟨sz,hsz,hsv⟩:=b3a 3 3 12 (a1y (ns.take 1)/16)
 have hsz0:0<sz∧sz≤12:=by rcases hsv with rfl | rfl | rfl<;>decide
 refine⟨c,_,rfl,d9.of b6,_,_,rfl,rfl,⟨by decide,by decide⟩,_,_,rfl,rfl,(by show(0:Int)<3;decide),e3,_,_,_,rfl,rfl,d9.of (c9 hc _ _ b6),hsz,?_⟩
 generalize upd (upd H2 e3 (.lst [.int 3,.int 3,.int 12])) c (.lst ((ns.take 1).map V.int))=H3 at D4 ⊢
 refine⟨_,rfl,a,_,rfl,.inl (hS.same D4.sm),_,rfl,by omega,by omega,?_⟩
 have en:((((ns.map V.int).length:Nat):Int)).toNat=ns.length:=by omega
 rw[en]
 refine V6 (fun i σ' H'=>∃(bg:Int) (ds:List m6) (us os:List Int) (o7 o8 o9 oA oB oC oD oE oF oG oH:Option V),σ'=[some (.ref a),some (.ref r),some (.ref u),some (.ref o),some (.int bg),some (.int m2),some (.int sz),o7,o8,o9,oA,oB,oC,oD,oE,oF,oG,oH] ∧
   DS H r u o ds us os H'∧ds.length=i∧us.length≤i∧os.length≤i)
  ⟨0,[],[],[],none,none,none,none,none,none,none,none,none,none,none,rfl,D4,rfl,Nat.le_refl _,Nat.le_refl _⟩ (fun i σ' H' hi h=>?_) (fun σ' H' h=>?_)
 ·obtain⟨bg,ds,us,os,o7,o8,o9,oA,oB,oC,oD,oE,oF,oG,oH,rfl,D,lds,lus,los⟩:=h
  have np:0<ns.length:=by omega
  have npi:(0:Int)<(((ns.map V.int).length:Nat):Int):=by omega
  have hSd:=hS.same D.sm
  have e0:(0:Int)+(i:Int)=((i:Nat):Int):=by omega
  have ax:C6 (ns.map V.int) ((0:Int)+(i:Int))=some (.int ns[i]):=by rw[e0];exact j0 (by rw[List.getElem?_map,List.getElem?_eq_getElem hi];rfl)
  refine⟨_,rfl,_,rfl,a,_,_,_,rfl,rfl,hSd,ax,_,rfl,_,_,rfl,rfl,.inl ⟨by decide,by decide⟩,_,_,rfl,rfl,_,_,rfl,rfl,(by show(0:Int)<16;decide),?_⟩
  refine⟨_,rfl,_,rfl,a,_,_,_,rfl,rfl,hSd,ax,_,_,rfl,rfl,⟨by decide,by decide⟩,?_⟩
  obtain⟨near,hnear,_⟩:=a2l np (0+(i:Int)+1)
  refine⟨_,rfl,_,rfl,_,_,rfl,rfl,_,rfl,a,_,rfl,.inl hSd,_,_,rfl,rfl,npi,a,_,_,_,rfl,rfl,hSd,hnear,?_⟩
  have m40:=Int.emod_nonneg (a1y (ns.take 1)/48) (show(40:Int)≠0 by decide)
  have m40':=Int.emod_lt_of_pos (a1y (ns.take 1)/48) (show(0:Int)<40 by decide)
  have msz:=Int.emod_nonneg (near+(0+(i:Int))) (show sz≠0 by omega)
  have msz':=Int.emod_lt_of_pos (near+(0+(i:Int))) hsz0.1
  refine⟨_,rfl,_,rfl,_,_,rfl,rfl,_,rfl,_,_,rfl,rfl,hsz0.1,_,rfl,_,rfl,a,_,rfl,hSd,fun cc hcc=>?_⟩
  rw[ec]
  refine⟨cc,_,rfl,d9.of b6,_,_,rfl,rfl,⟨by decide,by decide⟩,_,_,rfl,rfl,(by show(0:Int)<40;decide),_,_,rfl,msz,by omega,m40,by omega,fun g H4 s4 wg=>?_⟩
  have E4:=(D.new (c9 (o:=.lst ((ns.take 1).map V.int)) hcc)).new s4
  generalize (ns[i]+5*(0+(i:Int))) % 16=pick
  generalize ns[i]/16=rest
  refine⟨_,rfl,_,_,rfl,rfl,_,rfl,?_⟩
  refine cut (fun hE=>G8 (fun c1=>⟨_,rfl,_,rfl,_,_,rfl,rfl,_,_,rfl,rfl,(by show(0:Int)<2;decide),rfl,_,rfl,G8 (fun c2=>?swC) (fun c2=>hE)⟩) (fun c1=>g8 hE)) ?_
  case swC=>
   refine⟨_,rfl,.inl ⟨rfl,_,d9.of E4.made.choose_spec.1⟩,(by show 1≤sizeLine;decide),fun p hp=>?_⟩
   have E5:=E4.new (c9 (o:=.tup [.str "sweep"]) hp)
   exact E5.add (e:=.sweep) ⟨p,rfl,b6⟩ trivial (by omega) _ fun H6 D'=>⟨_,_,_,_,_,_,_,_,_,_,_,_,_,_,_,rfl,D',by rw[List.length_append,lds];rfl,by omega,by omega⟩
  refine⟨_,rfl,rfl,_,rfl,G8 (fun c3=>?_) (fun c3=>?_)⟩
  ·
   refine⟨_,rfl,_,rfl,_,_,rfl,rfl,_,rfl,_,_,rfl,rfl,⟨by decide,by decide,by decide⟩,_,rfl,_,rfl,_,_,rfl,rfl,⟨by decide,by decide,by decide⟩,_,_,rfl,rfl,(by show(0:Int)<10 ^ Int.toNat 30;decide),_,_,rfl,rfl,(by show 5≤sizeLine;decide),fun e5 he5=>?_⟩
   refine⟨_,rfl,e5,o,_,_,rfl,rfl,b6,(E4.new (c9 he5)).ove,(by show 5+(os.map V.int).length≤sizeLine;rw[List.length_map,sizeLine_eq];omega),fun e6 he6=>?_⟩
   have E6:=fun ob=>(E4.new (c9 he5)).new (c9 (o:=ob) he6)
   obtain⟨bad,hbad,_⟩:=a2l (ns:=[bg,bg+1,-1,10 ^ (9:Int).toNat,-2-near % 10 ^ (30:Int).toNat]++os) (by simp) (near/3)
   have hodd:∀Hx:Hp,d9 K (upd Hx e6 (.lst (([bg,bg+1,-1,10 ^ (9:Int).toNat,-2-near % 10 ^ (30:Int).toNat]++os).map V.int))) e6 (([bg,bg+1,-1,10 ^ (9:Int).toNat,-2-near % 10 ^ (30:Int).toNat]++os).map V.int):=fun Hx=>d9.of b6
   refine⟨_,rfl,_,rfl,_,_,rfl,rfl,⟨by decide,by decide⟩,_,rfl,e6,_,rfl,.inl (hodd _),_,_,rfl,rfl,(by rw[List.length_map,List.length_append];simp;omega),e6,_,_,_,rfl,rfl,hodd _,hbad,?_⟩
   refine⟨_,rfl,_,rfl,(by show 3≤sizeLine;decide),fun p1 hp1=>⟨_,rfl,(by show 2≤sizeLine;decide),fun p2 hp2=>⟨_,rfl,(by show 2≤sizeLine;decide),fun p3 hp3=>⟨(by show 3≤sizeLine;decide),fun em hem=>?_⟩⟩⟩⟩
   have E7:=(((E6 _).new (c9 hp1)).new (c9 hp2)).new (c9 (o:=.tup [.str "leave",.int bad]) hp3)
   obtain⟨a0,a1,a2,a3⟩:=E7.apart hem
   have E8:=E7.new (c9 (o:=.lst [.ref p1,.ref p2,.ref p3]) hem)
   refine⟨_,rfl,.inl ⟨rfl,_,d9.of b6⟩,_,rfl,_,rfl,(by show 4≤sizeLine;decide),fun p4 hp4=>?_⟩
   have E9:=E8.new (c9 (o:=.tup [.str "put",.int bad,.str g,.int 7]) hp4)
   have hm9:=c9 (o:=.tup [.str "put",.int bad,.str g,.int 7]) hp4 _ _ (b6 (H:=_) (a:=em) (o:=.lst [.ref p1,.ref p2,.ref p3]))
   refine⟨em,_,_,rfl,rfl,hm9,(by show 3<sizeLine;decide),?_⟩
   have EA:=E9.oth (zs:=[.ref p1,.ref p2,.ref p3]++[.ref p4]) a0 a1 a2 a3 hm9
   obtain⟨c2,hc2,_⟩:=a2l np (0+(i:Int)+2)
   have d1:=(n5 (o:=.lst ([.ref p1,.ref p2,.ref p3]++[.ref p4])) hm9).1 _ _ ((G5 (o:=.tup [.str "put",.int bad,.str g,.int 7]) hp4).1 _ _ ((G5 hem).1 _ _ ((G5 hp3).1 _ _ ((G5 hp2).1 p1 [.str "look",.int bad,.str g] b6))))
   have d2:=(n5 (o:=.lst ([.ref p1,.ref p2,.ref p3]++[.ref p4])) hm9).1 _ _ ((G5 (o:=.tup [.str "put",.int bad,.str g,.int 7]) hp4).1 _ _ ((G5 hem).1 _ _ ((G5 hp3).1 p2 [.str "end",.int bad] b6)))
   have d3:=(n5 (o:=.lst ([.ref p1,.ref p2,.ref p3]++[.ref p4])) hm9).1 _ _ ((G5 (o:=.tup [.str "put",.int bad,.str g,.int 7]) hp4).1 _ _ ((G5 hem).1 p3 [.str "leave",.int bad] b6))
   have d4:=(n5 (o:=.lst ([.ref p1,.ref p2,.ref p3]++[.ref p4])) hm9).1 p4 [.str "put",.int bad,.str g,.int 7] b6
   have pk:∃(dd:m6) (b:Addr),C6 ([V.ref p1,V.ref p2,V.ref p3]++[V.ref p4]) (c2 % 4)=some (.ref b)∧((b=p1∧dd=.look bad g)∨(b=p2∧dd=.fin bad)∨(b=p3∧dd=.leave bad)∨(b=p4∧dd=.put bad g 7)):=by
    obtain⟨j,hj,e⟩:=a2h (n:=4) (by decide) c2
    have e:c2 % 4=(j:Int):=e
    rw[e]
    rcases(show j=0∨j=1∨j=2∨j=3 by omega) with rfl | rfl | rfl | rfl
    ·exact⟨.look bad g,_,j0 rfl,.inl ⟨rfl,rfl⟩⟩
    ·exact⟨.fin bad,_,j0 rfl,.inr (.inl ⟨rfl,rfl⟩)⟩
    ·exact⟨.leave bad,_,j0 rfl,.inr (.inr (.inl ⟨rfl,rfl⟩))⟩
    ·exact⟨.put bad g 7,_,j0 rfl,.inr (.inr (.inr ⟨rfl,rfl⟩))⟩
   obtain⟨dd,b,hx,hw⟩:=pk
   refine⟨_,rfl,.inl ⟨rfl,_,d9.of EA.made.choose_spec.1⟩,_,rfl,_,rfl,_,rfl,_,_,rfl,rfl,_,rfl,a,_,rfl,.inl (hS.same EA.sm),_,_,rfl,rfl,npi,a,_,_,_,rfl,rfl,hS.same EA.sm,hc2,_,_,rfl,rfl,(by show(0:Int)<4;decide),em,_,_,_,rfl,rfl,d9.of b6,hx,?_⟩
   refine EA.add (e:=dd) (x:=.ref b) ?_ ?_ (by omega) _ fun H6 D'=>⟨_,_,_,_,_,_,_,_,_,_,_,_,_,_,_,rfl,D',by rw[List.length_append,lds];rfl,by omega,by omega⟩
   ·rcases hw with ⟨rfl,rfl⟩ | ⟨rfl,rfl⟩ | ⟨rfl,rfl⟩ | ⟨rfl,rfl⟩
    ·exact⟨_,rfl,d1⟩
    ·exact⟨_,rfl,d2⟩
    ·exact⟨_,rfl,d3⟩
    ·exact⟨_,rfl,d4⟩
   ·rcases hw with ⟨rfl,rfl⟩ | ⟨rfl,rfl⟩ | ⟨rfl,rfl⟩ | ⟨rfl,rfl⟩
    ·exact wg
    ·trivial
    ·trivial
    ·exact wg
  ·
   refine⟨_,rfl,(by show 0≤sizeLine;decide),fun e5 he5=>?_⟩
   have s5:=c9 (o:=.lst []) he5
   have E5:=E4.new s5
   refine⟨.list (us.map PyData.int),.list [],by unfold Rep;exact⟨u,_,rfl,d9.of E5.und,a7B us⟩,by unfold Rep;exact⟨e5,[],rfl,d9.of b6,rfl⟩,?_,?_,?_,?_⟩
   ·unfold PyData.canLay0;exact a7I us
   ·simp[PyData.canLay0,PyData.canLayAll0]
   ·have:=a9r us;unfold PyData.depth;omega
   refine⟨_,rfl,?_⟩
   generalize upd H4 e5 (.lst [])=H5 at E5 ⊢
   refine cut (fun hB=>G8 (fun c4=>l7 hB) (fun c4=>cut (fun hE=>⟨_,rfl,_,_,rfl,rfl,_,rfl,G8 (fun c5=>⟨_,rfl,u,_,rfl,.inl (d9.of E5.und),_,rfl,_,_,rfl,rfl,_,rfl,G8 (fun c6=>hB) (fun c6=>hE)⟩) (fun c5=>g8 hE)⟩) ?els)) ?_
   case els=>
    have hus:0<us.length:=by
     rcases us with _ | ⟨z,us⟩
     ·simp[PyData.eqv,PyData.eqvAll]at c4
     ·simp
    obtain⟨who,hwho,hin⟩:=a2l hus (rest+(0+(i:Int)))
    refine⟨_,rfl,_,rfl,_,rfl,_,_,rfl,rfl,_,rfl,u,_,rfl,.inl (d9.of E5.und),_,_,rfl,rfl,(by rw[List.length_map];omega),u,_,_,_,rfl,rfl,d9.of E5.und,hwho,?_⟩
    refine⟨_,rfl,_,_,rfl,rfl,_,rfl,G8 (fun c7=>?_) (fun c7=>?_)⟩
    ·refine⟨_,rfl,.inl ⟨rfl,_,d9.of E5.made.choose_spec.1⟩,_,rfl,_,rfl,(by show 3≤sizeLine;decide),fun p hp=>?_⟩
     exact(E5.new (c9 (o:=.tup [.str "look",.int who,.str g]) hp)).add (e:=.look who g) ⟨p,rfl,b6⟩ wg (by omega) _ fun H6 D'=>⟨_,_,_,_,_,_,_,_,_,_,_,_,_,_,_,rfl,D',by rw[List.length_append,lds];rfl,by omega,by omega⟩
    refine⟨_,rfl,_,_,rfl,rfl,_,rfl,G8 (fun c8=>?_) (fun c8=>?_)⟩
    ·refine⟨_,rfl,_,_,rfl,rfl,.inl ⟨by decide,by decide⟩,_,_,rfl,rfl,_,_,rfl,rfl,⟨by decide,by decide,by decide⟩,_,rfl,_,_,rfl,rfl,_,_,rfl,rfl,⟨by decide,by decide,by decide⟩,_,rfl,_,rfl,_,_,rfl,rfl,(by show 4≤sizeLine;decide),fun ea hea=>?_⟩
     obtain⟨a0,a1,a2,a3⟩:=E5.apart hea
     have E6:=fun ob=>E5.new (c9 (o:=ob) hea)
     refine⟨_,rfl,.inl ⟨rfl,_,d9.of b6⟩,_,rfl,_,_,rfl,rfl,⟨by decide,by decide,by decide⟩,_,_,rfl,rfl,⟨by decide,by decide,by decide⟩,_,_,rfl,rfl,b7p,_,_,rfl,rfl,_,_,rfl,rfl,(by show(0:Int)<10 ^ (50:Int).toNat*10 ^ (50:Int).toNat-1;decide +kernel),ea,_,_,rfl,rfl,b6,(by show 4<sizeLine;decide),?_⟩
     have E7:=fun(ys zs:List V)=>(E6 (.lst ys)).oth (zs:=zs) a0 a1 a2 a3 b6
     obtain⟨z7,hz7,z70,z75⟩:=a9Z (rest+(0+(i:Int)))
     refine⟨_,rfl,(by show 7≤sizeLine;decide),fun eb heb=>?_⟩
     have am:∃am,C6 ([3*(0+(i:Int))-40,0,10 ^ (30:Int).toNat+(0+(i:Int)),-10 ^ (30:Int).toNat-(0+(i:Int)),near % (10 ^ (50:Int).toNat*10 ^ (50:Int).toNat-1)].map V.int) z7=some (.int am):=by
      obtain⟨j,rfl⟩:=Int.eq_ofNat_of_zero_le z70
      have hj:j<5:=by omega
      exact⟨_,j0 (by rw[List.getElem?_map,List.getElem?_eq_getElem (by simpa using hj)];rfl)⟩
     obtain⟨am,ham⟩:=am
     have E8:=fun ob=>(E7 _ _).new (c9 (o:=ob) heb)
     refine⟨_,rfl,_,rfl,_,_,rfl,rfl,_,_,rfl,rfl,(by show(0:Int)<7;decide),eb,_,_,_,rfl,rfl,d9.of b6,hz7,ea,_,_,_,rfl,rfl,d9.of (c9 heb _ _ b6),ham,?_⟩
     refine⟨_,rfl,.inl ⟨rfl,_,d9.of (E8 _).made.choose_spec.1⟩,_,rfl,_,rfl,_,rfl,(by show 4≤sizeLine;decide),fun p hp=>?_⟩
     exact((E8 _).new (c9 (o:=.tup [.str "put",.int who,.str g,.int am]) hp)).add (e:=.put who g am) ⟨p,rfl,b6⟩ wg (by omega) _ fun H6 D'=>⟨_,_,_,_,_,_,_,_,_,_,_,_,_,_,_,rfl,D',by rw[List.length_append,lds];rfl,by omega,by omega⟩
    ·refine⟨_,rfl,.inl ⟨rfl,_,d9.of E5.made.choose_spec.1⟩,(by show 2≤sizeLine;decide),fun el hel=>?_⟩
     have E6:=E5.new (c9 (o:=.lst [.str "end",.str "leave"]) hel)
     obtain⟨wd,hwd,hdd⟩:∃wd:Str,C6 [V.str "end",V.str "leave"] (if decide (V.int pick=V.int 14)=true then 1 else 0)=some (.str wd)∧∃dd:m6,dv dd=[.str wd,.int who]∧O9 dd:=by
      cases decide (V.int pick=V.int 14)
      ·exact⟨_,j0 (j:=0) rfl,.fin who,rfl,trivial⟩
      ·exact⟨_,j0 (j:=1) rfl,.leave who,rfl,trivial⟩
     obtain⟨dd,edd,okdd⟩:=hdd
     refine⟨_,rfl,rfl,.inr ⟨_,rfl,el,_,_,_,rfl,rfl,d9.of b6,hwd,_,rfl,(by show 2≤sizeLine;decide),fun p hp=>?_⟩⟩
     refine(E6.new (c9 (o:=.tup [.str wd,.int who]) hp)).add (e:=dd) (x:=.ref p) ⟨p,rfl,by rw[edd];exact b6⟩ okdd (by omega) _ fun H6 D'=>?_
     obtain⟨j,hj,hf⟩:=a8q hin
     have le:=List.length_eraseIdx_le us j
     refine⟨_,rfl,.inl ⟨rfl,_,d9.of D'.und⟩,_,rfl,u,us,who,j,rfl,rfl,D'.und,hj,hf,?_⟩
     have DU:=D'.setU (us.eraseIdx j)
     refine⟨_,rfl,.inl ⟨rfl,_,d9.of DU.ove⟩,_,rfl,o,_,_,rfl,rfl,DU.ove,L0 (by rw[List.length_map];omega),?_⟩
     rw[show os.map V.int++[V.int who]=(os++[who]).map V.int by simp]
     exact⟨_,_,_,_,_,_,_,_,_,_,_,_,_,_,_,rfl,DU.setO (os++[who]),by rw[List.length_append,lds];rfl,by omega,by rw[List.length_append];simp;omega⟩
   refine⟨_,rfl,.inl ⟨rfl,_,d9.of E5.made.choose_spec.1⟩,(by show 1≤sizeLine;decide),fun p hp=>?_⟩
   refine(E5.new (c9 (o:=.tup [.str "begin"]) hp)).add (e:=.begin) ⟨p,rfl,b6⟩ trivial (by omega) _ fun H6 D'=>?_
   refine⟨_,rfl,.inl ⟨rfl,_,d9.of D'.und⟩,_,rfl,u,_,_,rfl,rfl,D'.und,L0 (by rw[List.length_map];omega),?_⟩
   rw[show us.map V.int++[V.int bg]=(us++[bg]).map V.int by simp]
   exact⟨_,rfl,_,_,rfl,rfl,⟨_,_,_,_,_,_,_,_,_,_,_,_,_,_,_,rfl,D'.setU (us++[bg]),by rw[List.length_append,lds];rfl,by rw[List.length_append];simp;omega,by omega⟩⟩
 ·obtain⟨bg,ds,us,os,o7,o8,o9,oA,oB,oC,oD,oE,oF,oG,oH,rfl,D,lds,lus,los⟩:=h
  obtain⟨xs,h1,h2⟩:=D.made
  exact⟨_,rfl,q r xs ds H' D.sm h1 h2 lds D.ok D.nr⟩
def b2h:PyData→Bool
 | .int _=>true
 | .str _=>true
 | _=>false
def a0T:PyData→Bool
 | .tuple es=>es.all b2h
 | _=>false
inductive a3C(K:PySem.W.Frag)(vs:List V)(H:Hp)(Q:VK):Prop
 | mk (a b:Addr) (xs ys:List V) (ds:List PyData) (x0:vs=[.ref a,.ref b]) (x1:d9 K H a xs) (x2:d9 K H b ys) (x3:m7 K H ds xs) (x4:m7 K H ds ys) (x5:ds.all a0T=true) (x6:ds.length≤100000) (x7:(∀d∈ds,∀es,d=.tuple es→es.length≤1000)) (xq:Q (.bl true) H)
def a2J(K:PySem.W.Frag):Sp:=fun vs H Q _=>a3C K vs H Q
theorem a7H(T:z8 K mg t):g7 P w K mg base x9 2 t.f__law_same t.d__law_same ["_law_handed","_law_asked"] (a2J K):=by
 refine T.F__law_same.ok T4 (fun vs H Q E h=>?_) (fun cdv A outer s H vs Q E hr h=>?_)
 ·obtain⟨a,b,xs,ys,ds,rfl,_⟩:=h
  rfl
 obtain⟨a,b,xs,ys,ds,rfl,hA,hB,rA,rB,ft,hl,hes,q⟩:=h
 refine⟨_,(b9 (j9 (f6 P7 (g9 i5 rfl T.m_len PySem.boot_len (a6 (pv 0) b7)) (g9 i5 rfl T.m_len PySem.boot_len (a6 (pv 1) b7)) (i9 _))
 (d6 (i3 y6))
 j1)
 (b9 (z6 PassesOwn.never rfl (V3 rfl T.m_range (a6 (g9 i5 rfl T.m_len PySem.boot_len (a6 (pv 1) b7)) b7)) (l4 (i:=2) T4.nd rfl (Or.inl rfl))
 (b9 (j9 (PW.pt (P8 (G0 (C0 (g9 C7 rfl T.m_isinstance boot_isinstance (a6 (d7 j6 (pv 0) (pv 2) (fun _ _=>rfl)) (a6 (J0 (v:=.ty "tuple") rfl T.m_tuple boot_tuple rfl) b7))))) (P5 (f6 P7 (g9 i5 rfl T.m_len PySem.boot_len (a6 (d7 j6 (pv 0) (pv 2) (fun _ _=>rfl)) b7)) (g9 i5 rfl T.m_len PySem.boot_len (a6 (d7 j6 (pv 1) (pv 2) (fun _ _=>rfl)) b7)) (i9 _)))))
 (d6 (i3 y6))
 j1)
 (d6 (z6 PassesOwn.never rfl (V3 rfl T.m_range (a6 (g9 i5 rfl T.m_len PySem.boot_len (a6 (d7 j6 (pv 1) (pv 2) (fun _ _=>rfl)) b7)) b7)) (l4 (i:=3) T4.nd rfl (Or.inl rfl))
 (b9 (g6 (i:=4) T4.nd rfl (Or.inl rfl) (d7 e7 (d7 j6 (pv 0) (pv 2) (fun _ _=>rfl)) (pv 3) (fun _ _=>rfl)))
 (b9 (j9 (f6 P7 (g9 C7 rfl T.m_isinstance boot_isinstance (a6 (d7 e7 (d7 j6 (pv 1) (pv 2) (fun _ _=>rfl)) (pv 3) (fun _ _=>rfl)) (a6 (J0 (v:=.ty "str") rfl T.m_str boot_str rfl) b7))) (g9 C7 rfl T.m_isinstance boot_isinstance (a6 (pv 4) (a6 (J0 (v:=.ty "str") rfl T.m_str boot_str rfl) b7))) (i9 _))
 (d6 (i3 y6))
 j1)
 (b9 (j9 (PW.pt (P4 (G0 (C0 (g9 C7 rfl T.m_isinstance boot_isinstance (a6 (pv 4) (a6 (J0 (v:=.ty "str") rfl T.m_str boot_str rfl) b7))))) (M8 (G0 (C0 (j4 (g7.mono (k:=1) (X6 T) (by decide)) hr rfl T.m__law_whole T.F__law_whole.kp T.F__law_whole.b .nil j7 (a6 (pv 4) b7)))))))
 (d6 (i3 y6))
 j1)
 (d6 (j9 (f6 P7 (pv 4) (d7 e7 (d7 j6 (pv 1) (pv 2) (fun _ _=>rfl)) (pv 3) (fun _ _=>rfl)) (i9 _))
 (d6 (i3 y6))
 j1)))))))))
 (d6 (i3 y6)))),?_⟩
 have lx:=rA.len
 have ly:=rB.len
 refine⟨_,rfl,a,xs,rfl,.inl hA,_,rfl,b,ys,rfl,.inl hB,rfl,_,rfl,V1 (by rw[←lx,←ly]) ?_⟩
 refine⟨_,rfl,b,ys,rfl,.inl hB,_,rfl,by omega,by omega,?_⟩
 have en:(((ys.length:Nat):Int)).toNat=ds.length:=by omega
 rw[en]
 refine V6 (fun i σ' H'=>H'=H∧∃o1 o2 o3,σ'=[some (.ref a),some (.ref b),o1,o2,o3]) ⟨rfl,_,_,_,rfl⟩ (fun i σ' H' hi h=>?_) (fun σ' H' h=>?_)
 ·obtain⟨rfl,o1,o2,o3,rfl⟩:=h
  have hd:=List.getElem?_eq_getElem hi
  obtain⟨x,hx,rx⟩:=rA.at hd
  obtain⟨y,hy,ry⟩:=rB.at hd
  have e0:(0:Int)+(i:Int)=((i:Nat):Int):=by omega
  have ax:C6 xs ((0:Int)+(i:Int))=some x:=by rw[e0];exact j0 hx
  have ay:C6 ys ((0:Int)+(i:Int))=some y:=by rw[e0];exact j0 hy
  have ff:a0T ds[i]=true:=List.all_eq_true.mp ft _ (List.getElem_mem hi)
  have fe:=hes ds[i] (List.getElem_mem hi)
  cases hdi:ds[i] with
  | tuple es=>
   rw[hdi]at rx ry ff fe
   have fe:=fe es rfl
   unfold a0T at ff
   unfold Rep at rx ry
   obtain⟨p,us,rfl,hp,ru⟩:=rx
   obtain⟨p',ws,rfl,hp',rw'⟩:=ry
   have lu:=ru.len
   have lw:=rw'.len
   refine⟨_,rfl,_,rfl,a,_,_,_,rfl,rfl,hA,ax,_,"tuple","tuple",rfl,.inr (.inl ⟨rfl,_,hp⟩),by decide,_,rfl,g8 ?_⟩
   refine⟨_,rfl,_,rfl,a,_,_,_,rfl,rfl,hA,ax,p,us,rfl,.inr hp,_,rfl,_,rfl,b,_,_,_,rfl,rfl,hB,ay,p',ws,rfl,.inr hp',rfl,_,rfl,V1 (by rw[←lu,←lw]) ?_⟩
   refine⟨_,rfl,_,rfl,b,_,_,_,rfl,rfl,hB,ay,p',ws,rfl,.inr hp',_,rfl,by omega,by omega,?_⟩
   have en2:(((ws.length:Nat):Int)).toNat=es.length:=by omega
   rw[en2]
   refine V6 (fun j σ2 H2=>H2=H'∧∃o2 o3,σ2=[some (.ref a),some (.ref b),some (.int (0+(i:Int))),o2,o3]) ⟨rfl,_,_,rfl⟩ (fun j σ2 H2 hj h=>?_) (fun σ2 H2 h=>?_)
   ·obtain⟨rfl,o2,o3,rfl⟩:=h
    have he:=List.getElem?_eq_getElem hj
    obtain⟨u,hu,r1⟩:=ru.at he
    obtain⟨v,hv,r2⟩:=rw'.at he
    have e1:(0:Int)+(j:Int)=((j:Nat):Int):=by omega
    have au:C6 us ((0:Int)+(j:Int))=some u:=by rw[e1];exact j0 hu
    have av:C6 ws ((0:Int)+(j:Int))=some v:=by rw[e1];exact j0 hv
    have fj:b2h es[j]=true:=List.all_eq_true.mp ff _ (List.getElem_mem hj)
    refine⟨_,rfl,_,rfl,a,_,_,_,rfl,rfl,hA,ax,_,rfl,p,us,_,u,rfl,rfl,hp,au,?_⟩
    cases hej:es[j] with
    | int z=>
     rw[hej]at r1 r2
     unfold Rep at r1 r2
     subst r1;subst r2
     refine⟨_,rfl,_,rfl,b,_,_,_,rfl,rfl,hB,ay,_,rfl,p',ws,_,_,rfl,rfl,hp',av,_,"int","str",rfl,rfl,by decide,_,rfl,_,"int","str",rfl,rfl,by decide,rfl,_,rfl,g8 ?_⟩
     refine⟨_,rfl,_,"int","str",rfl,rfl,by decide,_,rfl,l7 ?_⟩
     refine⟨_,rfl,_,"int",rfl,rfl,_,rfl,g8 ?_⟩
     refine⟨_,rfl,_,rfl,_,rfl,b,_,_,_,rfl,rfl,hB,ay,_,rfl,p',ws,_,_,rfl,rfl,hp',av,rfl,_,rfl,V1 rfl ?_⟩
     exact⟨rfl,_,_,rfl⟩
    | str z=>
     rw[hej]at r1 r2
     unfold Rep at r1 r2
     subst r1;subst r2
     refine⟨_,rfl,_,rfl,b,_,_,_,rfl,rfl,hB,ay,_,rfl,p',ws,_,_,rfl,rfl,hp',av,_,"str","str",rfl,rfl,by decide,_,rfl,_,"str","str",rfl,rfl,by decide,rfl,_,rfl,g8 ?_⟩
     refine⟨_,rfl,_,"str","str",rfl,rfl,by decide,_,rfl,g8 ?_⟩
     refine g8 ?_
     refine⟨_,rfl,_,rfl,_,rfl,b,_,_,_,rfl,rfl,hB,ay,_,rfl,p',ws,_,_,rfl,rfl,hp',av,rfl,_,rfl,V1 rfl ?_⟩
     exact⟨rfl,_,_,rfl⟩
    | none=>rw[hej]at fj;cases fj
    | bool _=>rw[hej]at fj;cases fj
    | list _=>rw[hej]at fj;cases fj
    | tuple _=>rw[hej]at fj;cases fj
    | dict _=>rw[hej]at fj;cases fj
   ·obtain⟨rfl,o2,o3,rfl⟩:=h
    exact⟨rfl,_,_,_,rfl⟩
  | int _=>rw[hdi]at ff;cases ff
  | str _=>rw[hdi]at ff;cases ff
  | none=>rw[hdi]at ff;cases ff
  | bool _=>rw[hdi]at ff;cases ff
  | list _=>rw[hdi]at ff;cases ff
  | dict _=>rw[hdi]at ff;cases ff
 ·obtain⟨rfl,_⟩:=h
  exact q
def dD:m6→PyData
 | .begin=>.tuple [.str "begin"]
 | .look n g=>.tuple [.str "look",.int n,.str g]
 | .put n g a=>.tuple [.str "put",.int n,.str g,.int a]
 | .fin n=>.tuple [.str "end",.int n]
 | .leave n=>.tuple [.str "leave",.int n]
 | .sweep=>.tuple [.str "sweep"]
theorem a0i.rep{K:PySem.W.Frag}{H:Hp}{d:m6}{x:V}(h:a0i H d x):Rep K H (dD d) x:=by
 obtain⟨p,rfl,h⟩:=h
 cases d with
 | begin=>unfold dD;simp only[Rep,m7];exact⟨p,_,rfl,f7.of h,_,_,rfl,rfl,rfl⟩
 | sweep=>unfold dD;simp only[Rep,m7];exact⟨p,_,rfl,f7.of h,_,_,rfl,rfl,rfl⟩
 | fin n=>unfold dD;simp only[Rep,m7];exact⟨p,_,rfl,f7.of h,_,_,rfl,rfl,_,_,rfl,rfl,rfl⟩
 | leave n=>unfold dD;simp only[Rep,m7];exact⟨p,_,rfl,f7.of h,_,_,rfl,rfl,_,_,rfl,rfl,rfl⟩
 | look n g=>unfold dD;simp only[Rep,m7];exact⟨p,_,rfl,f7.of h,_,_,rfl,rfl,_,_,rfl,rfl,_,_,rfl,rfl,rfl⟩
 | put n g a=>unfold dD;simp only[Rep,m7];exact⟨p,_,rfl,f7.of h,_,_,rfl,rfl,_,_,rfl,rfl,_,_,rfl,rfl,_,_,rfl,rfl,rfl⟩
theorem n9.reps{K:PySem.W.Frag}{H:Hp}:∀{ds:List m6} {xs:List V},n9 H ds xs→m7 K H (ds.map dD) xs
 | _,_,.nil=>rfl
 | _,_,.cons h t=>⟨_,_,rfl,h.rep,n9.reps t⟩
theorem a7U:∀ds:List m6,(ds.map dD).all a0T=true
 | []=>rfl
 | d::ds=>by rw[List.map_cons,List.all_cons,a7U ds];cases d<;>rfl
theorem b9n{ds:List m6}:∀d∈ds.map dD,∀es,d=.tuple es→es.length≤1000:=fun d hd es e=>by
 obtain⟨x,_,rfl⟩:=List.mem_map.mp hd
 cases x<;>cases e<;>simp
theorem Run.trace{s0 st:k8}{ds:List m6}{as:List G7}(h:Run s0 ds as st):∃f:Nat→k8,f 0=s0∧f ds.length=st∧∀i d a,ds[i]?=some d→as[i]?=some a→Step (f i) d a (f (i+1)):=by
 induction h with
 | nil=>exact⟨fun _=>s0,rfl,rfl,fun i d a h=>by simp at h⟩
 | @snoc ds as st st' d a R S ih=>
  obtain⟨f,f0,f1,fs⟩:=ih
  have la:=a6w R
  refine⟨fun i=>if i=ds.length+1 then st' else f i,?_,?_,fun i e b he hb=>?_⟩
  ·show(if 0=ds.length+1 then _ else _)=_
   rw[if_neg (by omega)];exact f0
  ·show(if (ds++[d]).length=ds.length+1 then _ else _)=_
   rw[if_pos (by simp)]
  ·have li:i<ds.length+1:=by have:=(List.getElem?_eq_some_iff.mp he).1;simpa using this
   show Step (if i=_ then _ else _) e b (if i+1=_ then _ else _)
   rw[if_neg (by omega)]
   by_cases c:i=ds.length
   ·subst c
    rw[if_pos rfl]
    rw[List.getElem?_append_right (Nat.le_refl _)]at he
    rw[List.getElem?_append_right (by omega)]at hb
    simp at he
    rw[la]at hb;simp at hb
    subst he;subst hb
    rw[f1];exact S
   ·rw[if_neg (by omega)]
    rw[List.getElem?_append_left (by omega)]at he
    rw[List.getElem?_append_left (by omega)]at hb
    exact fs i e b he hb
theorem Run.oks{s0 st:k8}{ds:List m6}{as:List G7}{f:Nat→k8}(f0:f 0=s0)(o:G9 s0)(la:as.length=ds.length)(fs:∀i d a,ds[i]?=some d→as[i]?=some a→Step (f i) d a (f (i+1))):∀i,i≤ds.length→G9 (f i):=by
 intro i
 induction i with
 | zero=>intro _;rw[f0];exact o
 | succ i ih=>
  intro h
  have hd:=List.getElem?_eq_getElem (l:=ds) (i:=i) (by omega)
  have ha:=List.getElem?_eq_getElem (l:=as) (i:=i) (by omega)
  exact a4O (ih (by omega)) (fs i _ _ hd ha)
theorem G6.same{rl:Addr→Role}{H H':Hp}(s:h7 H H'){a:G7}{x:V}(h:G6 rl H a x):G6 rl H' a x:=by
 cases a with
 | num i=>exact h
 | word s=>exact h
 | non=>exact h
 | ring rg=>
  obtain⟨l,zs,e,h1,h2,h3⟩:=h
  exact⟨l,zs,e,s _ _ h1,h2.tupK s.tupK,h3⟩
def C3(st:k8):List Int:=st.under.map (·.num)
theorem b9k(n:Int)(ks:List Int):inV (.int n) (ks.map V.int)=decide (n∈ks):=by
 unfold inV
 induction ks with
 | nil=>rfl
 | cons k ks ih=>
  rw[List.map_cons,List.any_cons,ih]
  have e:eqV (.int k) (.int n)=decide (k=n):=by
   show(k==n)=_
   by_cases z:k=n
   ·subst z;simp
   ·rw[decide_eq_false z];simpa using z
  rw[e]
  by_cases z:k=n
  ·subst z;simp
  ·have z':¬n=k:=fun w=>z w.symm
   simp[z,z']
theorem a9V(ks:List Int):(ks.map V.int).all V2=true:=by
 induction ks with
 | nil=>rfl
 | cons k ks ih=>rw[List.map_cons,List.all_cons,ih];rfl
structure Gd(st:k8):Prop where
 lk:∀d∈st.under,∀g∈d.looked,F6 g
 as:∀d∈st.under,∀p∈d.aside,F6 p.1
 rl:∀r∈st.recs,∀g∈r.looked,F6 g
 rp:∀r∈st.recs,∀g∈r.put,F6 g
theorem gd0:Gd Z0:=⟨(fun d h=>nomatch h),(fun d h=>nomatch h),(fun d h=>nomatch h),(fun d h=>nomatch h)⟩
theorem b7d{ks:List Str}{g h:Str}(z:h∈K7 ks g):h∈ks∨h=g:=by
 unfold K7 at z
 split at z
 ·exact .inl z
 ·rcases List.mem_append.mp z with z | z
  ·exact .inl z
  ·exact .inr (List.mem_singleton.mp z)
theorem b6f{m:Am}{g:Str}{a:Int}{p:Str×Int}(z:p∈P1 m g a):(∃q∈m,q.1=p.1)∨p.1=g:=by
 unfold P1 at z
 split at z
 ·obtain⟨q,hq,rfl⟩:=List.mem_map.mp z
  refine .inl ⟨q,hq,?_⟩
  split<;>rfl
 ·rcases List.mem_append.mp z with z | z
  ·exact .inl ⟨p,z,rfl⟩
  ·rw[List.mem_singleton.mp z];exact .inr rfl
theorem J2.good{st:k8}(h:Gd st){d:Dl}(hd:d∈st.under){e:Int}{r:Rec}(k:J2 d e r):(∀g∈r.looked,F6 g)∧∀g∈r.put,F6 g:=by
 obtain⟨_,_,_,p1,p2,_⟩:=k
 refine⟨fun g hg=>h.lk d hd g (p1.mem_iff.mp hg),fun g hg=>?_⟩
 obtain⟨p,hp,rfl⟩:=List.mem_map.mp (p2.mem_iff.mp hg)
 exact h.as d hd p hp
theorem b3j{st st':k8}{d:m6}{a:G7}(h:Gd st)(ok:O9 d)(s:Step st d a st'):Gd st':=by
 have leave:∀n,Gd (J6 st n):=fun n=>⟨fun d hd=>h.lk d (List.mem_filter.mp hd).1,fun d hd=>h.as d (List.mem_filter.mp hd).1,h.rl,h.rp⟩
 cases s with
 | begin=>
  refine⟨fun d hd=>?_,fun d hd=>?_,h.rl,h.rp⟩
  ·rcases List.mem_append.mp hd with hd | hd
   ·exact h.lk d hd
   ·rw[List.mem_singleton.mp hd];exact fun g z=>nomatch z
  ·rcases List.mem_append.mp hd with hd | hd
   ·exact h.as d hd
   ·rw[List.mem_singleton.mp hd];exact fun g z=>nomatch z
 | sweep _=>exact⟨h.lk,h.as,h.rl,h.rp⟩
 | none _ _=>exact h
 | own _ _=>exact h
 | @look d g _ _=>
  refine⟨fun e he=>?_,fun e he=>?_,h.rl,h.rp⟩
  ·obtain⟨e',he',rfl | rfl⟩:=U1 he
   ·exact h.lk _ he'
   ·intro k hk
    rcases b7d hk with hk | rfl
    ·exact h.lk _ he' k hk
    ·exact ok
  ·obtain⟨e',he',rfl | rfl⟩:=U1 he
   ·exact h.as _ he'
   ·exact h.as e' he'
 | @put d g a _=>
  refine⟨fun e he=>?_,fun e he=>?_,h.rl,h.rp⟩
  ·obtain⟨e',he',rfl | rfl⟩:=U1 he
   ·exact h.lk _ he'
   ·exact h.lk e' he'
  ·obtain⟨e',he',rfl | rfl⟩:=U1 he
   ·exact h.as _ he'
   ·intro p hp
    rcases b6f hp with ⟨q,hq,e⟩ | e
    ·rw[←e];exact h.as _ he' q hq
    ·rw[e];exact ok
 | leave _=>exact leave _
 | ring _ _=>exact leave _
 | @ended d r cs row hd E=>
  have g:=E.rc.good h hd
  refine⟨fun d hd=>h.lk d (List.mem_filter.mp hd).1,fun d hd=>h.as d (List.mem_filter.mp hd).1,fun o ho=>?_,fun o ho=>?_⟩
  ·rcases List.mem_append.mp ho with ho | ho
   ·exact h.rl o ho
   ·rw[List.mem_singleton.mp ho];exact g.1
  ·rcases List.mem_append.mp ho with ho | ho
   ·exact h.rp o ho
   ·rw[List.mem_singleton.mp ho];exact g.2
theorem Run.gds{s0:k8}{ds:List m6}{as:List G7}{f:Nat→k8}(f0:f 0=s0)(o:Gd s0)(la:as.length=ds.length)(okd:∀d∈ds,O9 d)(fs:∀i d a,ds[i]?=some d→as[i]?=some a→Step (f i) d a (f (i+1))):∀i,i≤ds.length→Gd (f i):=by
 intro i
 induction i with
 | zero=>intro _;rw[f0];exact o
 | succ i ih=>
  intro h
  have hd:=List.getElem?_eq_getElem (l:=ds) (i:=i) (by omega)
  have ha:=List.getElem?_eq_getElem (l:=as) (i:=i) (by omega)
  exact b3j (ih (by omega)) (okd _ (List.mem_of_getElem? hd)) (fs i _ _ hd ha)
theorem R6{A:(L2.St→Hp→Prop)→Prop}{R:L2.St→Hp→Prop}{σ:L2.St}{H:Hp}(h:A fun σ' H'=>σ'=σ∧H'=H)(r:R σ H):∃M,A M∧∀σ' H',M σ' H'→R σ' H':=
 ⟨_,h,fun _ _ z=>by rw[z.1,z.2];exact r⟩
abbrev Try:=Nat×Rec×List Rec
structure WG where
 rl:Addr→Role
 lk:Int→Addr
 as:Int→Addr
 bg:Int→Int
def gOf(rl:Addr→Role):Gh:=⟨rl,0,0,0,0,0,0,fun _=>0,fun _=>0,fun _=>0,fun _=>0,fun _=>0⟩
theorem ur{rl:Addr→Role}{H:Hp}{a b:Addr}{o u:HO}{ρ σ:Role}(e:H b=some u)(h:rl b=σ)(k:rl a=ρ)(n:σ≠ρ):upd H a o b=some u:=d8 (G:=gOf rl) e h k n
def nat(n:Nat):List Int:=(List.range n).map Int.ofNat
theorem a2z{n:Nat}{i:Int}:i∈nat n↔0≤i∧i<(n:Int):=by
 unfold nat
 rw[List.mem_map]
 constructor
 ·rintro⟨k,hk,rfl⟩
  rw[List.mem_range]at hk
  exact⟨Int.natCast_nonneg k,Int.ofNat_lt.mpr hk⟩
 ·rintro⟨h1,h2⟩
  exact⟨i.toNat,List.mem_range.mpr (by omega),Int.toNat_of_nonneg h1⟩
theorem a9E(n:Nat):nat (n+1)=nat n++[(n:Int)]:=by
 unfold nat;rw[List.range_succ,List.map_append];rfl
theorem a8w(n:Nat):(nat n).length=n:=by unfold nat;simp
def O1(rl:Addr→Role)(H:Hp)(y:Try)(x:V):Prop:=∃b lb v zs,x=.ref b∧H b=some (.tup [.int (y.1:Int),v,.ref lb])∧RcAt rl H y.2.1 v∧H lb=some (.lst zs)∧rl lb=.fz∧Paired (RcAt rl H) y.2.2 zs
theorem O1.same{rl:Addr→Role}{H H':Hp}{y:Try}{x:V}(s:h7 H H')(h:O1 rl H y x):O1 rl H' y x:=
 let ⟨b,lb,v,zs,e,h1,h2,h3,h4,h5⟩:=h;⟨b,lb,v,zs,e,s _ _ h1,h2.same s,s _ _ h3,h4,Paired.mapP h5 fun _ _ z=>z.same s⟩
theorem RcAt.updR{rl:Addr→Role}{H:Hp}{a:Addr}{o:HO}{ρ:Role}{r:Rec}{x:V}(h:RcAt rl H r x)(k:rl a=ρ)(n:Role.fz≠ρ)(t:r9 H (L2.upd H a o)):RcAt rl (L2.upd H a o) r x:=RcAt.upd (G:=gOf rl) h k n t
theorem O1.upd{rl:Addr→Role}{H:Hp}{a:Addr}{o:HO}{ρ:Role}{y:Try}{x:V}(h:O1 rl H y x)(k:rl a=ρ)(n:Role.fz≠ρ)(t:r9 H (L2.upd H a o)):O1 rl (L2.upd H a o) y x:=
 let ⟨b,lb,v,zs,e,h1,h2,h3,h4,h5⟩:=h;⟨b,lb,v,zs,e,t.1 _ _ h1,h2.updR k n t,ur h3 h4 k n,h4,Paired.mapP h5 fun _ _ z=>z.updR k n t⟩
theorem RcAt.rl{rl rl':Addr→Role}{H:Hp}(e:∀b,rl b=.fz→rl' b=.fz){r:Rec}{x:V}(h:RcAt rl H r x):RcAt rl' H r x:=
 let ⟨b,la,pa,x,h1,h2,h3,h4,h5⟩:=h;⟨b,la,pa,x,h1,h2,h3,e _ h4,e _ h5⟩
theorem O1.rl{rl rl':Addr→Role}{H:Hp}(g:∀b,rl b=.fz→rl' b=.fz){y:Try}{x:V}(h:O1 rl H y x):O1 rl' H y x:=
 let ⟨b,lb,v,zs,e,h1,h2,h3,h4,h5⟩:=h;⟨b,lb,v,zs,e,h1,h2.rl g,h3,g _ h4,Paired.mapP h5 fun _ _ z=>z.rl g⟩
theorem a6r(m:Am)(g:Str)(a:Int):(P1 m g a).map (·.1)=if g∈m.map (·.1) then m.map (·.1) else m.map (·.1)++[g]:=by
 rw[a2U]
 have e:((m.any fun p=>decide (p.1=g))=true)↔g∈m.map (·.1):=by
  rw[List.any_eq_true,List.mem_map]
  exact⟨fun⟨p,h,e⟩=>⟨p,h,by simpa using e⟩,fun⟨p,h,e⟩=>⟨p,h,by simpa using e⟩⟩
 by_cases c:g∈m.map (·.1)
 ·rw[if_pos c,if_pos (e.mpr c)]
 ·rw[if_neg c,if_neg fun z=>c (e.mp z)]
structure WD(W:WG)(H:Hp)(d:Dl):Prop where
 lk:H (W.lk d.num)=some (.lst (d.looked.map V.str))
 as:H (W.as d.num)=some (.lst ((d.aside.map (·.1)).map V.str))
 bg:W.bg d.num=d.beg
 r2:W.rl (W.lk d.num)=.look d.num
 r3:W.rl (W.as d.num)=.side d.num
structure WA(S L M R Y:Addr)(W:WG)(H0 H:Hp)(st:k8)(tr:List Try):Prop where
 sm:h7 H0 H
 nw:∀b,W.rl b≠.free→H0 b=none
 sn:H S=some (.dK (j5 (C3 st) fun n=>.int (W.bg n)))
 lo:H L=some (.dK (j5 (nat st.begun) fun n=>.ref (W.lk n)))
 la:H M=some (.dK (j5 (nat st.begun) fun n=>.ref (W.as n)))
 rc:∃xs,H R=some (.lst xs)∧Paired (RcAt W.rl H) st.recs xs
 ty:∃ys,H Y=some (.lst ys)∧Paired (O1 W.rl H) tr ys
 dl:∀d∈st.under,WD W H d
 r1:W.rl S=.under
 r2:W.rl L=.vers
 r3:W.rl M=.tally
 r4:W.rl R=.recs
 r5:W.rl Y=.deal 0
 cl:∀b,H b=none→W.rl b=.free
section
variable{S L M R Y:Addr}{W:WG}{H0 H:Hp}{st:k8}{tr:List Try}
theorem WA.new{H':Hp}(h:WA S L M R Y W H0 H st tr)(s:h7 H H'):WA S L M R Y W H0 H' st tr where
 sm:=h.sm.trans s
 nw:=h.nw
 sn:=s _ _ h.sn
 lo:=s _ _ h.lo
 la:=s _ _ h.la
 rc:=let ⟨xs,a,b⟩:=h.rc;⟨xs,s _ _ a,Paired.mapP b fun _ _ z=>z.same s⟩
 ty:=let ⟨xs,a,b⟩:=h.ty;⟨xs,s _ _ a,Paired.mapP b fun _ _ z=>z.same s⟩
 dl:=fun d hd=>let D:=h.dl d hd;⟨s _ _ D.lk,s _ _ D.as,D.bg,D.r2,D.r3⟩
 r1:=h.r1
 r2:=h.r2
 r3:=h.r3
 r4:=h.r4
 r5:=h.r5
 cl:=fun b e=>h.cl b (j2 s e)
theorem WA.cong{st':k8}(h:WA S L M R Y W H0 H st tr)(e1:st'.begun=st.begun)(e2:st'.under=st.under)(e3:st'.recs=st.recs):WA S L M R Y W H0 H st' tr:=
 ⟨h.sm,h.nw,by unfold C3;rw[e2];exact h.sn,by rw[e1];exact h.lo,by rw[e1];exact h.la,by rw[e3];exact h.rc,h.ty,by rw[e2];exact h.dl,h.r1,h.r2,h.r3,h.r4,h.r5,h.cl⟩
def wfz(W:WG)(as:List Addr):WG:={ W with rl:=fun b=>if b∈as then .fz else W.rl b }
theorem a0I{as:List Addr}{a:Addr}(h:a∈as):(wfz W as).rl a=.fz:=if_pos h
theorem a1Y{as:List Addr}(b:Addr)(h:W.rl b=.fz):(wfz W as).rl b=.fz:=by
 show(if b∈as then _ else _)=_
 split
 ·rfl
 ·exact h
theorem WA.fz(h:WA S L M R Y W H0 H st tr){as:List Addr}(ha:∀a∈as,W.rl a=.free∧H0 a=none∧∃o,H a=some o):WA S L M R Y (wfz W as) H0 H st tr:=by
 have kp:∀b ρ,W.rl b=ρ→ρ≠.free→(wfz W as).rl b=ρ:=fun b ρ e n=>by
  show(if b∈as then _ else _)=_
  rw[if_neg fun z=>n (by rw[←e,(ha b z).1])];exact e
 refine⟨h.sm,fun b hb=>?_,h.sn,h.lo,h.la,?_,?_,fun d hd=>?_,kp _ _ h.r1 (by simp),kp _ _ h.r2 (by simp),kp _ _ h.r3 (by simp),kp _ _ h.r4 (by simp),kp _ _ h.r5 (by simp),fun b e=>?_⟩
 ·by_cases c:b∈as
  ·exact(ha b c).2.1
  ·refine h.nw b fun z=>hb ?_
   show(if b∈as then _ else _)=_
   rw[if_neg c];exact z
 ·obtain⟨xs,a,b⟩:=h.rc
  exact⟨xs,a,Paired.mapP b fun _ _ z=>z.rl a1Y⟩
 ·obtain⟨xs,a,b⟩:=h.ty
  exact⟨xs,a,Paired.mapP b fun _ _ z=>z.rl a1Y⟩
 ·have D:=h.dl d hd
  exact⟨D.lk,D.as,D.bg,kp _ _ D.r2 (by simp),kp _ _ D.r3 (by simp)⟩
 ·show(if b∈as then _ else _)=_
  rw[if_neg fun z=>by obtain⟨_,_,o,w⟩:=ha b z;rw[e]at w;cases w]
  exact h.cl b e
theorem WA.smU(h:WA S L M R Y W H0 H st tr){a:Addr}(k:W.rl a≠.free)(o:HO):h7 H0 (upd H a o):=l8 h.sm (h.nw a k)
theorem a5p{n:Int}{f:Dl→Dl}(hf:∀d,(f d).num=d.num):C3 { st with under:=C8 st.under n f }=C3 st:=Q1 hf
theorem WA.setLk(h:WA S L M R Y W H0 H st tr)(nd:(C3 st).Nodup){d:Dl}(hd:d∈st.under){g:Str}(hg:g∉d.looked) :
  WA S L M R Y W H0 (upd H (W.lk d.num) (.lst (d.looked.map V.str++[.str g]))) { st with under:=C8 st.under d.num (T3 g) } tr:=by
 have D:=h.dl d hd
 have t:r9 H (upd H (W.lk d.num) (.lst (d.looked.map V.str++[.str g]))):=n5 D.lk
 refine⟨h.smU (by rw[D.r2];simp) _,h.nw,?_,ur h.lo h.r2 D.r2 (by simp),ur h.la h.r3 D.r2 (by simp),?_,?_,fun e he=>?_,h.r1,h.r2,h.r3,h.r4,h.r5,fun b e=>h.cl b (r8 e)⟩
 ·rw[a5p (f:=T3 g) fun _=>rfl];exact ur h.sn h.r1 D.r2 (by simp)
 ·obtain⟨xs,a,b⟩:=h.rc
  exact⟨xs,ur a h.r4 D.r2 (by simp),Paired.mapP b fun _ _ z=>z.updR D.r2 (by simp) t⟩
 ·obtain⟨xs,a,b⟩:=h.ty
  exact⟨xs,ur a h.r5 D.r2 (by simp),Paired.mapP b fun _ _ z=>z.upd D.r2 (by simp) t⟩
 ·obtain⟨e',he',rfl⟩:=List.mem_map.mp he
  have E:=h.dl e' he'
  by_cases c:e'.num=d.num
  ·have:e'=d:=O2 nd he' hd c
   subst this
   rw[if_pos rfl]
   refine⟨?_,ur E.as E.r3 E.r2 (by simp),E.bg,E.r2,E.r3⟩
   rw[show(T3 g e').num=e'.num from rfl,b6]
   show _=some (HO.lst ((K7 e'.looked g).map V.str))
   unfold K7
   rw[if_neg hg,List.map_append];rfl
  ·rw[if_neg c]
   exact⟨ur E.lk E.r2 D.r2 (by simpa using c),ur E.as E.r3 D.r2 (by simp),E.bg,E.r2,E.r3⟩
theorem WA.setAs(h:WA S L M R Y W H0 H st tr)(nd:(C3 st).Nodup){d:Dl}(hd:d∈st.under){g:Str}{x:Int}(hg:g∉d.aside.map (·.1)) :
  WA S L M R Y W H0 (upd H (W.as d.num) (.lst ((d.aside.map (·.1)).map V.str++[.str g]))) { st with under:=C8 st.under d.num (T5 g x) } tr:=by
 have D:=h.dl d hd
 have t:r9 H (upd H (W.as d.num) (.lst ((d.aside.map (·.1)).map V.str++[.str g]))):=n5 D.as
 refine⟨h.smU (by rw[D.r3];simp) _,h.nw,?_,ur h.lo h.r2 D.r3 (by simp),ur h.la h.r3 D.r3 (by simp),?_,?_,fun e he=>?_,h.r1,h.r2,h.r3,h.r4,h.r5,fun b e=>h.cl b (r8 e)⟩
 ·rw[a5p (f:=T5 g x) fun _=>rfl];exact ur h.sn h.r1 D.r3 (by simp)
 ·obtain⟨xs,a,b⟩:=h.rc
  exact⟨xs,ur a h.r4 D.r3 (by simp),Paired.mapP b fun _ _ z=>z.updR D.r3 (by simp) t⟩
 ·obtain⟨xs,a,b⟩:=h.ty
  exact⟨xs,ur a h.r5 D.r3 (by simp),Paired.mapP b fun _ _ z=>z.upd D.r3 (by simp) t⟩
 ·obtain⟨e',he',rfl⟩:=List.mem_map.mp he
  have E:=h.dl e' he'
  by_cases c:e'.num=d.num
  ·have:e'=d:=O2 nd he' hd c
   subst this
   rw[if_pos rfl]
   refine⟨ur E.lk E.r2 E.r3 (by simp),?_,E.bg,E.r2,E.r3⟩
   rw[show(T5 g x e').num=e'.num from rfl,b6]
   show _=some (HO.lst (((P1 e'.aside g x).map (·.1)).map V.str))
   rw[a6r,if_neg hg,List.map_append];rfl
  ·rw[if_neg c]
   exact⟨ur E.lk E.r2 D.r3 (by simp),ur E.as E.r3 D.r3 (by simpa using c),E.bg,E.r2,E.r3⟩
theorem WA.mod(h:WA S L M R Y W H0 H st tr){n:Int}{f:Dl→Dl}(hf:∀d,(f d).num=d.num∧(f d).beg=d.beg)(hk:∀d∈st.under,d.num=n→(f d).looked=d.looked∧(f d).aside.map (·.1)=d.aside.map (·.1)):WA S L M R Y W H0 H { st with under:=C8 st.under n f } tr:=by
 refine⟨h.sm,h.nw,?_,h.lo,h.la,h.rc,h.ty,fun e he=>?_,h.r1,h.r2,h.r3,h.r4,h.r5,h.cl⟩
 ·rw[a5p fun d=>(hf d).1];exact h.sn
 ·obtain⟨e',he',rfl⟩:=List.mem_map.mp he
  have E:=h.dl e' he'
  by_cases c:e'.num=n
  ·rw[if_pos c]
   obtain⟨k1,k2⟩:=hk e' he' c
   have n1:=(hf e').1
   exact⟨by rw[n1,k1];exact E.lk,by rw[n1,k2];exact E.as,by rw[n1,(hf e').2];exact E.bg,by rw[n1];exact E.r2,by rw[n1];exact E.r3⟩
  ·rw[if_neg c];exact E
theorem WA.drop(h:WA S L M R Y W H0 H st tr)(n:Int):WA S L M R Y W H0 (upd H S (.dK (C4 (j5 (C3 st) fun n=>.int (W.bg n)) (Sum.inl n)))) (J6 st n) tr:=by
 have t:∀o,r9 H (upd H S o):=fun o=>K3 h.sn
 refine⟨h.smU (by rw[h.r1];simp) _,h.nw,?_,ur h.lo h.r2 h.r1 (by simp),ur h.la h.r3 h.r1 (by simp),?_,?_,fun e he=>?_,h.r1,h.r2,h.r3,h.r4,h.r5,fun b e=>h.cl b (r8 e)⟩
 ·rw[b6,a2G]
  show some (HO.dK (j5 _ _))=some (HO.dK (j5 ((X7 st.under n).map (·.num)) _))
  rw[a8z];rfl
 ·obtain⟨xs,a,b⟩:=h.rc
  exact⟨xs,ur a h.r4 h.r1 (by simp),Paired.mapP b fun _ _ z=>z.updR h.r1 (by simp) (t _)⟩
 ·obtain⟨xs,a,b⟩:=h.ty
  exact⟨xs,ur a h.r5 h.r1 (by simp),Paired.mapP b fun _ _ z=>z.upd h.r1 (by simp) (t _)⟩
 ·have E:=h.dl e (List.mem_filter.mp he).1
  exact⟨ur E.lk E.r2 h.r1 (by simp),ur E.as E.r3 h.r1 (by simp),E.bg,E.r2,E.r3⟩
theorem WA.addY(h:WA S L M R Y W H0 H st tr){y:Try}{x:V}{ys:List V}(hy:H Y=some (.lst ys))(hx:O1 W.rl H y x):WA S L M R Y W H0 (upd H Y (.lst (ys++[x]))) st (tr++[y]):=by
 have t:∀o,r9 H (upd H Y o):=fun o=>n5 hy
 obtain⟨zs,z1,z2⟩:=h.ty
 rw[hy]at z1;cases z1
 refine⟨h.smU (by rw[h.r5];simp) _,h.nw,ur h.sn h.r1 h.r5 (by simp),ur h.lo h.r2 h.r5 (by simp),ur h.la h.r3 h.r5 (by simp),?_,⟨_,b6,Paired.snoc (Paired.mapP z2 fun _ _ z=>z.upd h.r5 (by simp) (t _)) (hx.upd h.r5 (by simp) (t _))⟩,fun e he=>?_,h.r1,h.r2,h.r3,h.r4,h.r5,fun b e=>h.cl b (r8 e)⟩
 ·obtain⟨xs,a,b⟩:=h.rc
  exact⟨xs,ur a h.r4 h.r5 (by simp),Paired.mapP b fun _ _ z=>z.updR h.r5 (by simp) (t _)⟩
 ·have E:=h.dl e he
  exact⟨ur E.lk E.r2 h.r5 (by simp),ur E.as E.r3 h.r5 (by simp),E.bg,E.r2,E.r3⟩
theorem WA.addR(h:WA S L M R Y W H0 H st tr){r:Rec}{x:V}{xs:List V}(hR:H R=some (.lst xs))(hx:RcAt W.rl H r x):WA S L M R Y W H0 (upd H R (.lst (xs++[x]))) { st with recs:=st.recs++[r] } tr:=by
 have t:∀o,r9 H (upd H R o):=fun o=>n5 hR
 obtain⟨zs,z1,z2⟩:=h.rc
 rw[hR]at z1;cases z1
 refine⟨h.smU (by rw[h.r4];simp) _,h.nw,ur h.sn h.r1 h.r4 (by simp),ur h.lo h.r2 h.r4 (by simp),ur h.la h.r3 h.r4 (by simp),⟨_,b6,Paired.snoc (Paired.mapP z2 fun _ _ z=>z.updR h.r4 (by simp) (t _)) (hx.updR h.r4 (by simp) (t _))⟩,?_,fun e he=>?_,h.r1,h.r2,h.r3,h.r4,h.r5,fun b e=>h.cl b (r8 e)⟩
 ·obtain⟨xs,a,b⟩:=h.ty
  exact⟨xs,ur a h.r5 h.r4 (by simp),Paired.mapP b fun _ _ z=>z.upd h.r4 (by simp) (t _)⟩
 ·have E:=h.dl e he
  exact⟨ur E.lk E.r2 h.r4 (by simp),ur E.as E.r3 h.r4 (by simp),E.bg,E.r2,E.r3⟩
def a6j(W:WG)(n b:Int)(l1 l2:Addr):WG:=⟨fun x=>if x=l1 then .look n else if x=l2 then .side n else W.rl x,fun m=>if m=n then l1 else W.lk m,fun m=>if m=n then l2 else W.as m,fun m=>if m=n then b else W.bg m⟩
theorem a4i{ks:List Int}{f g:Int→V}(h:∀k∈ks,f k=g k):j5 ks f=j5 ks g:=List.map_congr_left fun k hk=>by rw[h k hk]
theorem WA.begin(h:WA S L M R Y W H0 H st tr)(ok:G9 st){l1 l2:Addr}{H1:Hp}(n1:H l1=none)(n2:H l2=none)(n12:l1≠l2)(g1:H1 l1=some (.lst []))(g2:H1 l2=some (.lst []))
  (bt:∀b o,b≠S→b≠L→b≠M→H b=some o→H1 b=some o) (tk:r9 H H1)
  (hs:H1 S=some (.dK (putK (j5 (C3 st) fun n=>.int (W.bg n)) (Sum.inl (st.begun:Int)) (.int (st.recs.length:Int)))))
  (hl:H1 L=some (.dK (putK (j5 (nat st.begun) fun n=>.ref (W.lk n)) (Sum.inl (st.begun:Int)) (.ref l1))))
  (hm:H1 M=some (.dK (putK (j5 (nat st.begun) fun n=>.ref (W.as n)) (Sum.inl (st.begun:Int)) (.ref l2)))) :
  WA S L M R Y (a6j W (st.begun:Int) (st.recs.length:Int) l1 l2) H0 H1 (a4I st) tr:=by
 have new:∀d∈st.under,d.num≠(st.begun:Int):=ok.new
 have nin:(st.begun:Int)∉C3 st:=fun z=>by obtain⟨d,hd,e⟩:=List.mem_map.mp z;exact new d hd e
 have nin2:(st.begun:Int)∉nat st.begun:=fun z=>by have:=(a2z.mp z).2;omega
 have f1:=h.cl l1 n1
 have f2:=h.cl l2 n2
 have kp:∀b ρ,W.rl b=ρ→ρ≠.free→(a6j W (st.begun:Int) (st.recs.length:Int) l1 l2).rl b=ρ:=fun b ρ e n=>by
  show(if b=l1 then _ else if b=l2 then _ else _)=_
  rw[if_neg fun z=>n (by rw[←e,z,f1]),if_neg fun z=>n (by rw[←e,z,f2])];exact e
 have off:∀b o ρ,H b=some o→W.rl b=ρ→ρ≠.under→ρ≠.vers→ρ≠.tally→H1 b=some o:=fun b o ρ e r a1 a2 a3=>bt b o (fun z=>a1 (by rw[←r,z,h.r1])) (fun z=>a2 (by rw[←r,z,h.r2])) (fun z=>a3 (by rw[←r,z,h.r3])) e
 have rcK:∀{r:Rec} {x:V},RcAt W.rl H r x→RcAt (a6j W (st.begun:Int) (st.recs.length:Int) l1 l2).rl H1 r x:=fun {r x} ⟨b,la,pa,e,a1,a2,a3,a4,a5⟩=>
  ⟨b,la,pa,e,tk.1 _ _ a1,off _ _ _ a2 a4 (by simp) (by simp) (by simp),off _ _ _ a3 a5 (by simp) (by simp) (by simp),kp _ _ a4 (by simp),kp _ _ a5 (by simp)⟩
 have h0:∀b,H b=none→H0 b=none:=fun b e=>j2 h.sm e
 refine⟨fun b o e=>?_,fun b hb=>?_,?_,?_,?_,?_,?_,fun d hd=>?_,kp _ _ h.r1 (by simp),kp _ _ h.r2 (by simp),kp _ _ h.r3 (by simp),kp _ _ h.r4 (by simp),kp _ _ h.r5 (by simp),fun b e=>?_⟩
 ·have nn:∀c ρ,W.rl c=ρ→ρ≠.free→b≠c:=fun c ρ r n z=>by rw[z,h.nw c (by rw[r];exact n)] at e;cases e
  exact bt b o (nn S _ h.r1 (by simp)) (nn L _ h.r2 (by simp)) (nn M _ h.r3 (by simp)) (h.sm _ _ e)
 ·by_cases c1:b=l1
  ·rw[c1];exact h0 _ n1
  by_cases c2:b=l2
  ·rw[c2];exact h0 _ n2
  refine h.nw b fun z=>hb ?_
  show(if b=l1 then _ else if b=l2 then _ else _)=_
  rw[if_neg c1,if_neg c2];exact z
 ·rw[hs,J3,if_neg nin]
  show some (HO.dK (j5 _ _))=some (HO.dK (j5 ((st.under++([⟨(st.begun:Int),(st.recs.length:Int),[],[]⟩]:List Dl)).map (·.num)) _))
  rw[List.map_append]
  congr 2
  refine a4i fun k _=>?_
  show(if k=_ then _ else _)=V.int (if k=_ then _ else _)
  split<;>rfl
 ·rw[hl,J3,if_neg nin2]
  show some (HO.dK (j5 _ _))=some (HO.dK (j5 (nat (st.begun+1)) _))
  rw[a9E]
  congr 2
  refine a4i fun k _=>?_
  show(if k=_ then _ else _)=V.ref (if k=_ then _ else _)
  split<;>rfl
 ·rw[hm,J3,if_neg nin2]
  show some (HO.dK (j5 _ _))=some (HO.dK (j5 (nat (st.begun+1)) _))
  rw[a9E]
  congr 2
  refine a4i fun k _=>?_
  show(if k=_ then _ else _)=V.ref (if k=_ then _ else _)
  split<;>rfl
 ·obtain⟨xs,a,b⟩:=h.rc
  exact⟨xs,off _ _ _ a h.r4 (by simp) (by simp) (by simp),Paired.mapP b fun _ _ z=>rcK z⟩
 ·obtain⟨xs,a,b⟩:=h.ty
  refine⟨xs,off _ _ _ a h.r5 (by simp) (by simp) (by simp),Paired.mapP b fun _ _ ⟨b,lb,v,zs,e,z1,z2,z3,z4,z5⟩=>⟨b,lb,v,zs,e,tk.1 _ _ z1,rcK z2,off _ _ _ z3 z4 (by simp) (by simp) (by simp),kp _ _ z4 (by simp),Paired.mapP z5 fun _ _ z=>rcK z⟩⟩
 ·rcases List.mem_append.mp hd with hd | hd
  ·have D:=h.dl d hd
   have nn:=new d hd
   have e1:(a6j W (st.begun:Int) (st.recs.length:Int) l1 l2).lk d.num=W.lk d.num:=if_neg nn
   have e2:(a6j W (st.begun:Int) (st.recs.length:Int) l1 l2).as d.num=W.as d.num:=if_neg nn
   have e3:(a6j W (st.begun:Int) (st.recs.length:Int) l1 l2).bg d.num=W.bg d.num:=if_neg nn
   exact⟨by rw[e1];exact off _ _ _ D.lk D.r2 (by simp) (by simp) (by simp),by rw[e2];exact off _ _ _ D.as D.r3 (by simp) (by simp) (by simp),by rw[e3];exact D.bg,by rw[e1];exact kp _ _ D.r2 (by simp),by rw[e2];exact kp _ _ D.r3 (by simp)⟩
  ·rw[List.mem_singleton.mp hd]
   have e1:(a6j W (st.begun:Int) (st.recs.length:Int) l1 l2).lk (st.begun:Int)=l1:=if_pos rfl
   have e2:(a6j W (st.begun:Int) (st.recs.length:Int) l1 l2).as (st.begun:Int)=l2:=if_pos rfl
   refine⟨by show H1 (WG.lk _ _)=_;rw[e1];exact g1,by show H1 (WG.as _ _)=_;rw[e2];exact g2,if_pos rfl,by show WG.rl _ (WG.lk _ _)=_;rw[e1];exact if_pos rfl,?_⟩
   show WG.rl _ (WG.as _ _)=_
   rw[e2]
   show(if l2=l1 then _ else if l2=l2 then _ else _)=_
   rw[if_neg (Ne.symm n12),if_pos rfl]
 ·have hb:H b=none:=by
   cases z:H b with
   | none=>rfl
   | some o=>
    by_cases c1:b=S
    ·rw[c1,hs]at e;cases e
    by_cases c2:b=L
    ·rw[c2,hl]at e;cases e
    by_cases c3:b=M
    ·rw[c3,hm]at e;cases e
    rw[bt b o c1 c2 c3 z]at e;cases e
  show(if b=l1 then _ else if b=l2 then _ else _)=_
  rw[if_neg (fun z=>by rw[z,g1]at e;cases e),if_neg (fun z=>by rw[z,g2]at e;cases e)]
  exact h.cl b hb
end
def both(ks ms:List Str):List Str:=ks.filter fun g=>decide (g∈ms)
theorem a5o(ks ms:List Str):(both ks ms).length≤ks.length:=List.length_filter_le _ _
theorem R4(ks ms:List Str)(g:Str):both (ks++[g]) ms=if g∈ms then both ks ms++[g] else both ks ms:=by
 unfold both
 rw[List.filter_append]
 by_cases c:g∈ms
 ·rw[if_pos c];simp[c]
 ·rw[if_neg c];simp[c]
theorem J1(g:Str)(ks:List Str):inV (.str g) (ks.map V.str)=decide (g∈ks):=by
 unfold inV
 induction ks with
 | nil=>rfl
 | cons k ks ih=>
  rw[List.map_cons,List.any_cons,ih]
  have e:eqV (.str k) (.str g)=decide (k=g):=by
   show(k==g)=_
   by_cases z:k=g
   ·subst z;simp
   ·rw[decide_eq_false z];simpa using z
  rw[e]
  by_cases z:k=g
  ·subst z;simp
  ·have z':¬g=k:=fun w=>z w.symm
   simp[z,z']
theorem A6(ks:List Str):(ks.map V.str).all V2=true:=by
 induction ks with
 | nil=>rfl
 | cons k ks ih=>rw[List.map_cons,List.all_cons,ih];rfl
theorem a1b{K:PySem.W.Frag}{H:Hp}:∀ks:List Str,m7 K H (ks.map PyData.str) (ks.map V.str)
 | []=>rfl
 | _::ks=>⟨_,_,rfl,rfl,a1b ks⟩
theorem U3:∀{ks:List Str},(∀g∈ks,F6 g)→PyData.canLayAll0 (ks.map PyData.str)=true
 | [],_=>by rw[List.map_nil,PyData.canLayAll0]
 | k::ks,h=>by rw[List.map_cons,PyData.canLayAll0,U3 fun g hg=>h g (List.mem_cons_of_mem _ hg),PyData.canLay0,(h k List.mem_cons_self).1];rfl
theorem O5:∀ks:List Str,PyData.depthAll (ks.map PyData.str)≤1
 | []=>by simp[PyData.depthAll]
 | k::ks=>by
  rw[List.map_cons,PyData.depthAll]
  have:=O5 ks
  have:(PyData.str k).depth≤1:=by simp[PyData.depth]
  omega
theorem a5q(ks:List Str):(if true=true then !PyData.eqv (.list (ks.map PyData.str)) (.list []) else PyData.eqv (.list (ks.map PyData.str)) (.list []))=!ks.isEmpty:=by
 rw[if_pos rfl]
 cases ks<;>simp[PyData.eqv,PyData.eqvAll]
def a4o(o r:Rec):Bool:=decide (o.fin<r.fin)&&!(both o.put r.put).isEmpty
def a9q(o r:Rec):Bool:=decide (o.fin≤r.beg)&&!(both o.put r.looked).isEmpty
def a4J(o r:Rec):Bool:=decide (o.beg<r.fin)&&!(both o.looked r.put).isEmpty
def lnk(o r:Rec):Bool:=a4o o r||(a9q o r||a4J o r)
theorem a7y{ks ms:List Str}:(!(both ks ms).isEmpty)=true↔∃g,g∈ks∧g∈ms:=by
 unfold both
 constructor
 ·intro h
  cases e:ks.filter fun g=>decide (g∈ms) with
  | nil=>rw[e]at h;cases h
  | cons g t=>
   have:g∈ks.filter fun g=>decide (g∈ms):=by rw[e];exact List.mem_cons_self
   obtain⟨a,b⟩:=List.mem_filter.mp this
   exact⟨g,a,by simpa using b⟩
 ·rintro⟨g,a,b⟩
  have:g∈ks.filter fun g=>decide (g∈ms):=List.mem_filter.mpr ⟨a,by simpa using b⟩
  cases e:ks.filter fun g=>decide (g∈ms) with
  | nil=>rw[e]at this;cases this
  | cons g t=>rfl
theorem a2O{o r:Rec}:lnk o r=true↔∃l,a4f o r l:=by
 unfold lnk a4o a9q a4J
 rw[Bool.or_eq_true,Bool.or_eq_true,Bool.and_eq_true,Bool.and_eq_true,Bool.and_eq_true,a7y,a7y,a7y,decide_eq_true_iff,decide_eq_true_iff,decide_eq_true_iff]
 constructor
 ·rintro(⟨a,g,b,c⟩ | ⟨a,g,b,c⟩ | ⟨a,g,b,c⟩)
  ·exact⟨(o.num,r.num,g,"over"),rfl,rfl,.inl ⟨rfl,a,b,c⟩⟩
  ·exact⟨(o.num,r.num,g,"saw"),rfl,rfl,.inr (.inl ⟨rfl,a,b,c⟩)⟩
  ·exact⟨(o.num,r.num,g,"missed"),rfl,rfl,.inr (.inr ⟨rfl,a,b,c⟩)⟩
 ·rintro⟨l,_,_,⟨_,a,b,c⟩ | ⟨_,a,b,c⟩ | ⟨_,a,b,c⟩⟩
  ·exact .inl ⟨a,_,b,c⟩
  ·exact .inr (.inl ⟨a,_,b,c⟩)
  ·exact .inr (.inr ⟨a,_,b,c⟩)
def a3E(r:Rec):Prop:=(∀g∈r.looked,F6 g)∧∀g∈r.put,F6 g
inductive a7u(K:PySem.W.Frag)(vs:List V)(H:Hp)(Q:VK):Prop
 | mk (o r:Rec) (x y:V) (x0:vs=[x,y]) (x1:RecAt K H o x) (x2:RecAt K H r y) (x3:a3E o) (x4:o.looked.length≤1000) (x5:o.put.length≤1000) (xq:∀H',h7 H H'→Q (.bl (lnk o r)) H')
def a4y(K:PySem.W.Frag):Sp:=fun vs H Q _=>a7u K vs H Q
set_option maxHeartbeats 0 in
theorem a2w(T:z8 K mg t):g7 P w K mg base x9 1 t.f__law_linked t.d__law_linked ["_law_one","_law_other"] (a4y K):=by
 refine T.F__law_linked.ok a3z (fun vs H Q E h=>?_) (fun cdv A outer s H vs Q E hr h=>?_)
 ·obtain⟨o,r,x,y,rfl,_⟩:=h
  rfl
 obtain⟨o,r,x,y,rfl,⟨p1,la,pa,rfl,hx,laS,paS⟩,⟨p2,lb,pb,rfl,hy,lbS,pbS⟩,gd,z1,z2,q⟩:=h
 refine⟨_,(b9 (N5 (j9 (PW.pt (P4 (f6 Y0 (d7 e7 (pv 0) d5 (fun _ _=>rfl)) (d7 e7 (pv 1) d5 (fun _ _=>rfl)) (i9 _)) (M8 (f6 (a7t hr.units) (Q9 rfl (u4 (d7 e7 (pv 0) d5 (fun _ _=>rfl))) (J8.mk (own:=["_law_good"]) (tl:=["_law_one","_law_other"]) rfl rfl rfl (fun _ _ _ _ _=>(l4 (i:=0) (Q4) rfl (Or.inl rfl))) (fun _ _ _ _ _=>(Y6 (f6 a3e (pv 0) (d7 O6 (pv 2) d5 (fun _ _=>rfl)) (by with_unfolding_all rfl)))) (fun _ _ _ _ _=>(pv 0)))) (j8 b7) (i9 _)))))
 (d6 (i3 y6))
 j1))
 (b9 (N5 (j9 (PW.pt (P4 (f6 a7E (d7 e7 (pv 0) d5 (fun _ _=>rfl)) (d7 e7 (pv 1) d5 (fun _ _=>rfl)) (i9 _)) (M8 (f6 (a7t hr.units) (Q9 rfl (u4 (d7 e7 (pv 0) d5 (fun _ _=>rfl))) (J8.mk (own:=["_law_good"]) (tl:=["_law_one","_law_other"]) rfl rfl rfl (fun _ _ _ _ _=>(l4 (i:=0) (Q4) rfl (Or.inl rfl))) (fun _ _ _ _ _=>(Y6 (f6 a3e (pv 0) (d7 O6 (pv 2) d5 (fun _ _=>rfl)) (by with_unfolding_all rfl)))) (fun _ _ _ _ _=>(pv 0)))) (j8 b7) (i9 _)))))
 (d6 (i3 y6))
 j1))
 (d6 (i3 (T1 (C5 Y0 (d7 e7 (pv 0) d5 (fun _ _=>rfl)) (d7 e7 (pv 1) d5 (fun _ _=>rfl)) (i9 _)) (a0a (C5 (a7t hr.units) (Q9 rfl (u4 (d7 e7 (pv 0) d5 (fun _ _=>rfl))) (J8.mk (own:=["_law_good"]) (tl:=["_law_one","_law_other"]) rfl rfl rfl (fun _ _ _ _ _=>(l4 (i:=0) (Q4) rfl (Or.inl rfl))) (fun _ _ _ _ _=>(Y6 (f6 a3e (pv 0) (d7 O6 (pv 2) d5 (fun _ _=>rfl)) (by with_unfolding_all rfl)))) (fun _ _ _ _ _=>(pv 0)))) (j8 b7) (i9 _)))))))),?_⟩
 have rf:=h7.refl H
 refine⟨fun σ' H'=>σ'=[some (.ref p1),some (.ref p2)]∧h7 H H'∧a4o o r=false,?_,fun σ' H' hM=>?_⟩
 ·refine⟨_,rfl,p1,_,2,_,rfl,rfl,hx,rfl,_,rfl,p2,_,2,_,rfl,rfl,hy,rfl,_,_,rfl,rfl,_,rfl,?_⟩
  by_cases c0:o.fin<r.fin
  ·rw[decide_eq_true c0]
   refine l7 ?_
   refine⟨_,rfl,p1,_,4,_,rfl,rfl,hx.same rf,rfl,pa,rfl,⟨_,paS.same rf⟩,fun acc hacc=>?_⟩
   refine J7 (xs:=(o.put).map V.str) (fun i Hc=>h7 H Hc∧Hc acc=some (.lst ((both ((o.put).take i) (r.put)).map V.str))) ⟨(rf).trans (c9 hacc),b6⟩ (fun i Hc _ z=>paS.same z.1) (fun i v Hc hv z=>?_) (fun Hc z=>?_)
   ·obtain⟨sc,a1⟩:=z
    rw[List.getElem?_map]at hv
    obtain⟨g,hg,rfl⟩:=Option.map_eq_some_iff.mp hv
    have li:=(List.getElem?_eq_some_iff.mp hg).1
    have tk:(o.put).take (i+1)=(o.put).take i++[g]:=by rw[List.take_add_one,hg];rfl
    have bl:=a5o ((o.put).take i) (r.put)
    rw[List.length_take]at bl
    refine⟨_,rfl,_,rfl,p2,_,4,_,rfl,rfl,hy.same sc,rfl,pb,_,rfl,.inl (pbS.same sc),rfl,A6 _,_,rfl,?_⟩
    rw[if_neg (by decide:¬false=true),J1]
    by_cases c:g∈r.put
    ·rw[decide_eq_true c]
     refine l7 ⟨_,rfl,_,a1,n6 (by rw[List.length_map];omega),?_,?_⟩
     ·exact l8 sc (j2 (rf) hacc)
     ·rw[b6,tk,R4,if_pos c,List.map_append];rfl
    ·rw[decide_eq_false c]
     refine g8 ⟨sc,?_⟩
     rw[tk,R4,if_neg c];exact a1
   obtain⟨sc,a1⟩:=z
   rw[List.length_map,List.take_length]at a1
   refine⟨(by show 0≤sizeLine;decide),fun e he=>?_⟩
   have se:=c9 (o:=.lst []) he
   have lay:∀g∈both (o.put) (r.put),F6 g:=fun g hg=>gd.2 g (List.mem_filter.mp hg).1
   refine⟨.list ((both (o.put) (r.put)).map PyData.str),.list [],by unfold Rep;exact⟨acc,_,rfl,d9.of (se _ _ a1),a1b _⟩,by unfold Rep;exact⟨e,[],rfl,d9.of b6,rfl⟩,by unfold PyData.canLay0;exact U3 lay,by simp[PyData.canLay0,PyData.canLayAll0],by have:=O5 (both (o.put) (r.put));unfold PyData.depth;omega,?_⟩
   have sf:=sc.trans se
   generalize upd Hc e (.lst [])=Hf at sf ⊢
   rw[a5q]
   refine⟨_,rfl,?_⟩
   cases cb:(both o.put r.put).isEmpty with
   | false=>
    have e1:a4o o r=true:=by unfold a4o;rw[decide_eq_true c0,cb];rfl
    have:=q Hf sf
    unfold lnk at this
    rw[e1]at this
    exact l7 this
   | true=>exact g8 ⟨rfl,sf,by unfold a4o;rw[cb,Bool.not_true,Bool.and_false]⟩
  ·rw[decide_eq_false c0]
   exact g8 ⟨rfl,rf,by unfold a4o;rw[decide_eq_false c0];rfl⟩
 obtain⟨rfl,s1,e1⟩:=hM
 refine⟨fun σ' H'=>σ'=[some (.ref p1),some (.ref p2)]∧h7 H H'∧a9q o r=false,?_,fun σ' H' hM=>?_⟩
 ·refine⟨_,rfl,p1,_,2,_,rfl,rfl,hx.same s1,rfl,_,rfl,p2,_,1,_,rfl,rfl,hy.same s1,rfl,_,_,rfl,rfl,_,rfl,?_⟩
  by_cases c0:o.fin≤r.beg
  ·rw[decide_eq_true c0]
   refine l7 ?_
   refine⟨_,rfl,p1,_,4,_,rfl,rfl,hx.same s1,rfl,pa,rfl,⟨_,paS.same s1⟩,fun acc hacc=>?_⟩
   refine J7 (xs:=(o.put).map V.str) (fun i Hc=>h7 H Hc∧Hc acc=some (.lst ((both ((o.put).take i) (r.looked)).map V.str))) ⟨(s1).trans (c9 hacc),b6⟩ (fun i Hc _ z=>paS.same z.1) (fun i v Hc hv z=>?_) (fun Hc z=>?_)
   ·obtain⟨sc,a1⟩:=z
    rw[List.getElem?_map]at hv
    obtain⟨g,hg,rfl⟩:=Option.map_eq_some_iff.mp hv
    have li:=(List.getElem?_eq_some_iff.mp hg).1
    have tk:(o.put).take (i+1)=(o.put).take i++[g]:=by rw[List.take_add_one,hg];rfl
    have bl:=a5o ((o.put).take i) (r.looked)
    rw[List.length_take]at bl
    refine⟨_,rfl,_,rfl,p2,_,3,_,rfl,rfl,hy.same sc,rfl,lb,_,rfl,.inl (lbS.same sc),rfl,A6 _,_,rfl,?_⟩
    rw[if_neg (by decide:¬false=true),J1]
    by_cases c:g∈r.looked
    ·rw[decide_eq_true c]
     refine l7 ⟨_,rfl,_,a1,n6 (by rw[List.length_map];omega),?_,?_⟩
     ·exact l8 sc (j2 (s1) hacc)
     ·rw[b6,tk,R4,if_pos c,List.map_append];rfl
    ·rw[decide_eq_false c]
     refine g8 ⟨sc,?_⟩
     rw[tk,R4,if_neg c];exact a1
   obtain⟨sc,a1⟩:=z
   rw[List.length_map,List.take_length]at a1
   refine⟨(by show 0≤sizeLine;decide),fun e he=>?_⟩
   have se:=c9 (o:=.lst []) he
   have lay:∀g∈both (o.put) (r.looked),F6 g:=fun g hg=>gd.2 g (List.mem_filter.mp hg).1
   refine⟨.list ((both (o.put) (r.looked)).map PyData.str),.list [],by unfold Rep;exact⟨acc,_,rfl,d9.of (se _ _ a1),a1b _⟩,by unfold Rep;exact⟨e,[],rfl,d9.of b6,rfl⟩,by unfold PyData.canLay0;exact U3 lay,by simp[PyData.canLay0,PyData.canLayAll0],by have:=O5 (both (o.put) (r.looked));unfold PyData.depth;omega,?_⟩
   have sf:=sc.trans se
   generalize upd Hc e (.lst [])=Hf at sf ⊢
   rw[a5q]
   refine⟨_,rfl,?_⟩
   cases cb:(both o.put r.looked).isEmpty with
   | false=>
    have e2:a9q o r=true:=by unfold a9q;rw[decide_eq_true c0,cb];rfl
    have:=q Hf sf
    unfold lnk at this
    rw[e1,e2]at this
    exact l7 this
   | true=>exact g8 ⟨rfl,sf,by unfold a9q;rw[cb,Bool.not_true,Bool.and_false]⟩
  ·rw[decide_eq_false c0]
   exact g8 ⟨rfl,s1,by unfold a9q;rw[decide_eq_false c0];rfl⟩
 obtain⟨rfl,s2,e2⟩:=hM
 have q:∀H',h7 H H'→Q (.bl (a4J o r)) H':=fun H' s=>by
  have:=q H' s
  unfold lnk at this
  rw[e1,e2]at this
  exact this
 refine⟨_,rfl,p1,_,1,_,rfl,rfl,hx.same s2,rfl,_,rfl,p2,_,2,_,rfl,rfl,hy.same s2,rfl,_,_,rfl,rfl,_,rfl,?_⟩
 by_cases c0:o.beg<r.fin
 ·rw[decide_eq_true c0]
  refine l7 ?_
  refine⟨_,rfl,p1,_,3,_,rfl,rfl,hx.same s2,rfl,la,rfl,⟨_,laS.same s2⟩,fun acc hacc=>?_⟩
  refine J7 (xs:=(o.looked).map V.str) (fun i Hc=>h7 H Hc∧Hc acc=some (.lst ((both ((o.looked).take i) (r.put)).map V.str))) ⟨(s2).trans (c9 hacc),b6⟩ (fun i Hc _ z=>laS.same z.1) (fun i v Hc hv z=>?_) (fun Hc z=>?_)
  ·obtain⟨sc,a1⟩:=z
   rw[List.getElem?_map]at hv
   obtain⟨g,hg,rfl⟩:=Option.map_eq_some_iff.mp hv
   have li:=(List.getElem?_eq_some_iff.mp hg).1
   have tk:(o.looked).take (i+1)=(o.looked).take i++[g]:=by rw[List.take_add_one,hg];rfl
   have bl:=a5o ((o.looked).take i) (r.put)
   rw[List.length_take]at bl
   refine⟨_,rfl,_,rfl,p2,_,4,_,rfl,rfl,hy.same sc,rfl,pb,_,rfl,.inl (pbS.same sc),rfl,A6 _,_,rfl,?_⟩
   rw[if_neg (by decide:¬false=true),J1]
   by_cases c:g∈r.put
   ·rw[decide_eq_true c]
    refine l7 ⟨_,rfl,_,a1,n6 (by rw[List.length_map];omega),?_,?_⟩
    ·exact l8 sc (j2 (s2) hacc)
    ·rw[b6,tk,R4,if_pos c,List.map_append];rfl
   ·rw[decide_eq_false c]
    refine g8 ⟨sc,?_⟩
    rw[tk,R4,if_neg c];exact a1
  obtain⟨sc,a1⟩:=z
  rw[List.length_map,List.take_length]at a1
  refine⟨(by show 0≤sizeLine;decide),fun e he=>?_⟩
  have se:=c9 (o:=.lst []) he
  have lay:∀g∈both (o.looked) (r.put),F6 g:=fun g hg=>gd.1 g (List.mem_filter.mp hg).1
  refine⟨.list ((both (o.looked) (r.put)).map PyData.str),.list [],by unfold Rep;exact⟨acc,_,rfl,d9.of (se _ _ a1),a1b _⟩,by unfold Rep;exact⟨e,[],rfl,d9.of b6,rfl⟩,by unfold PyData.canLay0;exact U3 lay,by simp[PyData.canLay0,PyData.canLayAll0],by have:=O5 (both (o.looked) (r.put));unfold PyData.depth;omega,?_⟩
  have sf:=sc.trans se
  generalize upd Hc e (.lst [])=Hf at sf ⊢
  rw[a5q]
  have:=q Hf sf
  unfold a4J at this
  rw[decide_eq_true c0]at this
  exact this
 ·rw[decide_eq_false c0]
  have:=q _ s2
  unfold a4J at this
  rw[decide_eq_false c0]at this
  exact g8 this
inductive Rch(rs:List Rec)(r:Rec):Rec→Prop
 | base:Rch rs r r
 | step {o p:Rec}:Rch rs r o→p∈rs++[r]→o.num≠p.num→lnk o p=true→p.num≠r.num→Rch rs r p
def a5E(rs:List Rec)(r:Rec):Prop:=∃o,Rch rs r o∧o.num≠r.num∧lnk o r=true
theorem b1p{o p:Rec}(h:rd o=rd p):o=p:=by
 unfold rd at h
 cases o;cases p
 simp only[PyData.tuple.injEq,List.cons.injEq,PyData.int.injEq,PyData.list.injEq,and_true]at h
 obtain⟨a,b,c,d,e⟩:=h
 have inj:∀{k m:List Str},k.map PyData.str=m.map PyData.str→k=m:=fun {k m} e=>List.map_inj_right (fun a b e=>PyData.str.inj e) |>.mp e
 rw[a,b,c,inj d,inj e]
theorem a0J:∀ks:List Str,J4 (ks.map PyData.str)=true
 | []=>by rw[List.map_nil,J4]
 | k::ks=>by rw[List.map_cons,J4,a0J ks];simp[B9]
theorem a2H(r:Rec):B9 (rd r)=true:=by unfold rd;simp[B9,J4,a0J]
theorem a0V{r:Rec}(h:a3E r):(rd r).canLay0=true:=by unfold rd;simp[PyData.canLay0,PyData.canLayAll0,U3 h.1,U3 h.2]
theorem a5N:∀{rs:List Rec},(∀r∈rs,a3E r)→PyData.canLayAll0 (rs.map rd)=true
 | [],_=>by rw[List.map_nil,PyData.canLayAll0]
 | r::rs,h=>by rw[List.map_cons,PyData.canLayAll0,a5N fun o ho=>h o (List.mem_cons_of_mem _ ho),a0V (h r List.mem_cons_self)];rfl
theorem b8c(r:Rec):(rd r).depth≤10:=by
 unfold rd
 simp only[PyData.depth,PyData.depthAll]
 have:=O5 r.looked
 have:=O5 r.put
 omega
theorem a3Y(p:Rec)(seen:List Rec):((seen.map rd).any fun e=>PyData.eqv e (rd p))=true↔p∈seen:=by
 rw[List.any_map,List.any_eq_true]
 constructor
 ·rintro⟨o,ho,e⟩
  have:=b1p (a4Z (rd o) (rd p) (a2H o) (a2H p) e)
  rw[←this];exact ho
 ·intro h
  exact⟨p,h,a3I (rd p) (a2H p)⟩
theorem a5d{all:List Rec}(nd:(all.map (·.num)).Nodup){o p:Rec}(ho:o∈all)(hp:p∈all)(e:o.num=p.num):o=p:=by
 obtain⟨i,hi⟩:=List.mem_iff_getElem?.mp ho
 obtain⟨j,hj⟩:=List.mem_iff_getElem?.mp hp
 have li:=(List.getElem?_eq_some_iff.mp hi).1
 have:i=j:=(List.getElem?_inj (l:=all.map (·.num)) (by rw[List.length_map];exact li) nd).mp (by rw[List.getElem?_map,List.getElem?_map,hi,hj];simp[e])
 subst this
 rw[hi]at hj;exact Option.some.inj hj
structure a6d(rs:List Rec)(r:Rec)(seen:List Rec):Prop where
 nd:(seen.map (·.num)).Nodup
 mem:∀o∈seen,o∈rs++[r]∧Rch rs r o
 me:r∈seen
def Cl(rs:List Rec)(r s:Rec)(ps seen:List Rec):Prop:=∀p∈ps,s.num≠p.num→lnk s p=true→p.num≠r.num∧p∈seen
theorem a6d.len{rs:List Rec}{r:Rec}{seen:List Rec}(h:a6d rs r seen):seen.length≤rs.length+1:=by
 have:=v9 (l:=seen.map (·.num)) (m:=(rs++[r]).map (·.num)) h.nd fun x hx=>by
  obtain⟨o,ho,e⟩:=List.mem_map.mp hx
  exact List.mem_map.mpr ⟨o,(h.mem o ho).1,e⟩
 simpa using this
inductive a3t(K:PySem.W.Frag)(vs:List V)(H:Hp)(Q:VK):Prop
 | mk (a:Addr) (x:V) (us:List V) (rs:List Rec) (r:Rec) (rl:Addr→Role) (x0:vs=[.ref a,x]) (x1:H a=some (.lst us)) (x2:Paired (RcAt rl H) rs us) (x3:RcAt rl H r x) (x4:((rs++[r]).map (·.num)).Nodup) (x5:(∀o∈rs++[r],a3E o∧o.looked.length≤63∧o.put.length≤63)) (x6:rs.length≤63) (x7:(∀H',h7 H H'→a5E rs r→Q (.bl true) H')) (xq:(∀H',h7 H H'→¬a5E rs r→Q (.bl false) H'))
def a4v(K:PySem.W.Frag):Sp:=fun vs H Q _=>a3t K vs H Q
set_option maxHeartbeats 0 in
theorem a2v(T:z8 K mg t):g7 P w K mg base x9 2 t.f__law_ringed t.d__law_ringed ["_law_records","_law_record"] (a4v K):=by
 refine T.F__law_ringed.ok K9 (fun vs H Q E h=>?_) (fun cdv A outer s H vs Q E hr h=>?_)
 ·obtain⟨a,x,us,rs,r,rl,rfl,_⟩:=h
  rfl
 obtain⟨a,x,us,rs,r,rl,rfl,ha,pu,hx,nd,gd,bn,qT,qF⟩:=h
 refine⟨_,(b9 (g6 (i:=2) K9.nd rfl (Or.inl rfl) (j8 (a6 (pv 1) b7)))
 (b9 (g6 (i:=3) K9.nd rfl (Or.inl rfl) d5)
 (b9 (a1q PassesOwn.never (f6 Y0 (pv 3) (g9 i5 rfl T.m_len PySem.boot_len (a6 (pv 2) b7)) (i9 _))
 (b9 (z6 PassesOwn.never rfl (u4 (i6 N3 (pv 0) (j8 (a6 (pv 1) b7)))) (l4 (i:=4) K9.nd rfl (Or.inl rfl))
 (d6 (j9 (PW.pt (P4 (f6 P7 (d7 e7 (pv 4) d5 (fun _ _=>rfl)) (d7 e7 (d7 j6 (pv 2) (pv 3) (fun _ _=>rfl)) d5 (fun _ _=>rfl)) (i9 _)) (M8 (C0 (j4 (g7.mono (k:=1) (a2w T) (by decide)) hr rfl T.m__law_linked T.F__law_linked.kp T.F__law_linked.b .nil j7 (a6 (d7 j6 (pv 2) (pv 3) (fun _ _=>rfl)) (a6 (pv 4) b7)))))))
 (b9 (j9 (f6 y9 (d7 e7 (pv 4) d5 (fun _ _=>rfl)) (d7 e7 (pv 1) d5 (fun _ _=>rfl)) (i9 _))
 (d6 (i3 y6))
 j1)
 (d6 (j9 (f6 (a0Y hr.units) (pv 4) (pv 2) (by with_unfolding_all rfl))
 (d6 (l6 (v3 PySem.F.plainAttrs_list PySem.F.slot_list_append PySem.F.type_list_append m8 (pv 2) (a6 (pv 4) b7))))
 j1)))
 j1)))
 (d6 (g6 (i:=3) K9.nd rfl (Or.inl rfl) (i6 C9 (pv 3) d5)))))
 (d6 (i3 y6))))),?_⟩
 have lu:=r6 pu
 have pall:Paired (RcAt rl H) (rs++[r]) (us++[x]):=Paired.snoc pu hx
 have lall:=r6 pall
 rw[List.length_append,List.length_append]at lall
 obtain⟨bx,lax,pax,ex,hbx,_⟩:=hx
 have hx:RcAt rl H r x:=⟨bx,lax,pax,ex,hbx,‹_›⟩
 refine⟨_,rfl,(by show 1≤sizeLine;decide),fun sl hsl=>?_⟩
 have s0:=c9 (o:=.lst [x]) hsl
 refine⟨fun m σ' Hc=>∃(sp:Nat) (o4:Option V) (seen:List Rec) (zs:List V),m+sp=rs.length+1∧sp≤seen.length∧σ'=[some (.ref a),some x,some (.ref sl),some (.int (sp:Int)),o4]∧h7 H Hc∧Hc sl=some (.lst zs)∧Paired (RcAt rl H) seen zs∧a6d rs r seen∧∀k,k<sp→∀o,seen[k]?=some o→Cl rs r o (rs++[r]) seen,⟨rs.length+1,0,none,[r],[x],rfl,Nat.zero_le _,rfl,s0,b6,.cons hx .nil,⟨by simp,fun o ho=>?_,by simp⟩,fun k hk=>absurd hk (Nat.not_lt_zero _)⟩,fun m σ' Hc hW=>?_⟩
 ·rw[List.mem_singleton.mp ho];exact⟨by simp,.base⟩
 obtain⟨sp,o4,seen,zs,hm,hsp,rfl,sc,hz,pz,sk,cl⟩:=hW
 have lz:=r6 pz
 have ls:=sk.len
 refine⟨_,rfl,_,rfl,sl,zs,rfl,.inl (d9.of hz),_,_,rfl,rfl,_,rfl,?_⟩
 by_cases c0:sp<seen.length
 ·rw[show decide ((sp:Int)<(zs.length:Int))=true from decide_eq_true (by omega)]
  refine G8 (fun _=>?_) (fun z=>absurd rfl z)
  obtain⟨sr,hsr⟩:∃sr,seen[sp]?=some sr:=⟨_,List.getElem?_eq_getElem c0⟩
  refine⟨fun σ' Hc=>∃(o4:Option V) (seen:List Rec) (zs:List V),sp+1≤seen.length∧σ'=[some (.ref a),some x,some (.ref sl),some (.int ((sp:Int)+1)),o4]∧h7 H Hc∧Hc sl=some (.lst zs)∧Paired (RcAt rl H) seen zs∧a6d rs r seen∧∀k,k<sp+1→∀o,seen[k]?=some o→Cl rs r o (rs++[r]) seen,fun σ' Hc hN=>?_,?_⟩
  ·obtain⟨o4,seen,zs,h1,h2,h3⟩:=hN
   exact⟨m-1,by omega,sp+1,o4,seen,zs,by omega,h1,h2,h3⟩
  refine⟨_,rfl,_,rfl,(by show 1≤sizeLine;decide),fun e1 he1=>?_⟩
  have s1:=c9 (o:=.lst [x]) he1
  refine⟨a,e1,us,[x],rfl,rfl,s1 _ _ (sc _ _ ha),b6,(by rw[lu,sizeLine_eq];simp;omega),fun c hc=>?_⟩
  have s2:=c9 (o:=.lst (us++[x])) hc
  have hc2:(upd (upd Hc e1 (.lst [x])) c (.lst (us++[x]))) c=some (.lst (us++[x])):=b6
  have sc2:=(sc.trans s1).trans s2
  have hz2:=s2 _ _ (s1 _ _ hz)
  generalize upd (upd Hc e1 (.lst [x])) c (.lst (us++[x]))=H2 at hc2 sc2 hz2 ⊢
  have ncs:c≠sl:=fun z=>by rw[z,s1 _ _ hz]at hc;cases hc
  refine⟨c,rfl,⟨_,d9.of hc2⟩,?_⟩
  refine A0 (xs:=us++[x]) (fun j σ' Hd=>∃(o4:Option V) (seen:List Rec) (zs:List V),σ'=[some (.ref a),some x,some (.ref sl),some (.int (sp:Int)),o4]∧h7 H Hd∧Hd c=some (.lst (us++[x]))∧Hd sl=some (.lst zs)∧Paired (RcAt rl H) seen zs∧a6d rs r seen∧seen[sp]?=some sr∧Cl rs r sr ((rs++[r]).take j) seen∧∀k,k<sp→∀o,seen[k]?=some o→Cl rs r o (rs++[r]) seen)
   ⟨o4,seen,zs,rfl,sc2,hc2,hz2,pz,sk,hsr,(fun p hp=>by rw[List.take_zero]at hp;cases hp),cl⟩ (fun j σ' Hd _ z=>?_) (fun j v σ' Hd hv z=>?_) (fun σ' Hd z=>?_)
  ·obtain⟨_,_,_,_,_,h1,_⟩:=z
   exact d9.of h1
  ·clear hz pz sk cl lz ls hsp c0 hsr hz2
   obtain⟨o4,seen,zs,rfl,sd,hcd,hz,pz,sk,hsr,clj,cl⟩:=z
   have lz:=r6 pz
   have ls:=sk.len
   obtain⟨p,hp,b,la,pa,rfl,hb,hla,hpa,f1,f2⟩:=A4 pall hv
   have hpm:=List.mem_of_getElem? hp
   have rp:RcAt rl H p (.ref b):=⟨b,la,pa,rfl,hb,hla,hpa,f1,f2⟩
   have lsp:=(List.getElem?_eq_some_iff.mp hsr).1
   have hzi:=List.getElem?_eq_getElem (show sp<zs.length by omega)
   obtain⟨s',hs',rs'⟩:=A4 pz hzi
   rw[hsr]at hs';cases hs'
   have az:C6 zs (sp:Int)=some zs[sp]:=j0 hzi
   generalize zs[sp]=zv at az rs' hzi
   obtain⟨bs,las,pas,rfl,hbs,h21,h22,h23,h24⟩:=rs'
   have rsr:RcAt rl H sr (.ref bs):=⟨bs,las,pas,rfl,hbs,h21,h22,h23,h24⟩
   have tk:(rs++[r]).take (j+1)=(rs++[r]).take j++[p]:=by rw[List.take_add_one,hp];rfl
   have srm:=(sk.mem sr (List.mem_of_getElem? hsr))
   have keep:∀(Hn:Hp),h7 Hd Hn→(sr.num≠p.num→lnk sr p=true→p.num≠r.num∧p∈seen)→∃(o4':Option V) (seen:List Rec) (zs:List V),[some (.ref a),some x,some (.ref sl),some (.int (sp:Int)),some (.ref b)]=[some (.ref a),some x,some (.ref sl),some (.int (sp:Int)),o4']∧h7 H Hn∧Hn c=some (.lst (us++[x]))∧Hn sl=some (.lst zs)∧Paired (RcAt rl H) seen zs∧a6d rs r seen∧seen[sp]?=some sr∧Cl rs r sr ((rs++[r]).take (j+1)) seen∧∀k,k<sp→∀o,seen[k]?=some o→Cl rs r o (rs++[r]) seen:=fun Hn sn hn=>
    ⟨_,seen,zs,rfl,sd.trans sn,sn _ _ hcd,sn _ _ hz,pz,sk,hsr,fun q hq=>by
     rw[tk]at hq
     rcases List.mem_append.mp hq with hq | hq
     ·exact clj q hq
     ·rw[List.mem_singleton.mp hq];exact hn,cl⟩
   refine⟨_,rfl,b,_,0,_,rfl,rfl,f7.of (sd _ _ hb),rfl,_,rfl,_,rfl,sl,_,_,_,rfl,rfl,d9.of hz,az,bs,_,0,_,rfl,rfl,f7.of (sd _ _ hbs),rfl,rfl,_,rfl,?_⟩
   by_cases c1:p.num=sr.num
   ·refine V1 (by rw[c1]) (g8 ?_)
    exact keep Hd (h7.refl Hd) fun z=>absurd c1.symm z
   rw[show(!decide (V.int p.num=V.int sr.num))=true by rw[decide_eq_false fun z=>c1 (V.int.inj z)];rfl]
   refine l7 ?_
   obtain⟨g1,g2,g3⟩:=gd sr srm.1
   refine⟨_,rfl,_,rfl,sl,_,_,_,rfl,rfl,d9.of hz,az,_,rfl,sr,p,_,_,rfl,(rsr.same sd).rec,(rp.same sd).rec,g1,by omega,by omega,fun H3 s3=>⟨_,rfl,?_⟩⟩
   cases cl0:lnk sr p with
   | false=>exact g8 (keep H3 s3 fun _ z=>by rw[cl0]at z;cases z)
   | true=>
    refine l7 ?_
    have sd3:=sd.trans s3
    subst ex
    refine⟨_,rfl,b,_,0,_,rfl,rfl,f7.of (sd3 _ _ hb),rfl,_,rfl,bx,_,0,_,rfl,rfl,f7.of (sd3 _ _ hbx),rfl,rfl,_,rfl,?_⟩
    by_cases c2:p.num=r.num
    ·rw[show decide (V.int p.num=V.int r.num)=true from decide_eq_true (by rw[c2])]
     refine l7 (qT _ sd3 ⟨sr,srm.2,fun z=>c1 (by rw[z,c2]),?_⟩)
     rw[←a5d nd hpm (by simp) c2];exact cl0
    rw[show decide (V.int p.num=V.int r.num)=false from decide_eq_false fun z=>c2 (V.int.inj z)]
    refine g8 ?_
    refine⟨_,rfl,_,rfl,rd p,sl,zs,seen.map rd,a3d.mpr (rp.same sd3).rec,rfl,.inl (d9.of (s3 _ _ hz)),a4r (Paired.mapP pz fun _ _ z=>z.same sd3),a0V (gd p hpm).1,a5N (fun o ho=>(gd o (sk.mem o ho).1).1),Nat.le_trans (b8c p) (by decide),_,rfl,?_⟩
    by_cases c3:p∈seen
    ·rw[if_pos rfl,(a3Y p seen).mpr c3]
     exact g8 (keep H3 s3 fun _ _=>⟨c2,c3⟩)
    ·rw[if_pos rfl,show((seen.map rd).any fun e=>PyData.eqv e (rd p))=false from Bool.eq_false_iff.mpr fun z=>c3 ((a3Y p seen).mp z)]
     refine l7 ?_
     have ncs':c≠sl:=ncs
     refine⟨_,rfl,.inl ⟨rfl,_,d9.of (s3 _ _ hz)⟩,_,rfl,sl,zs,_,rfl,rfl,s3 _ _ hz,n6 (by omega),?_⟩
     have up:∀o∈seen,o∈seen++[p]:=fun o ho=>List.mem_append_left _ ho
     refine⟨_,seen++[p],zs++[.ref b],rfl,l8 sd3 hsl,(b8 ncs).trans (s3 _ _ hcd),b6,Paired.snoc pz rp,⟨?_,fun o ho=>?_,up _ sk.me⟩,?_,fun q hq=>?_,fun k hk o ho=>?_⟩
     ·rw[List.map_append,List.nodup_append]
      refine⟨sk.nd,by simp,fun x hx y hy e=>?_⟩
      have hy:y=p.num:=by simpa using hy
      obtain⟨o,ho,eo⟩:=List.mem_map.mp hx
      exact c3 (by rw[←a5d nd (sk.mem o ho).1 hpm (by rw[eo,e,hy])];exact ho)
     ·rcases List.mem_append.mp ho with ho | ho
      ·exact sk.mem o ho
      ·rw[List.mem_singleton.mp ho];exact⟨hpm,.step srm.2 hpm (fun z=>c1 z.symm) cl0 c2⟩
     ·rw[List.getElem?_append_left lsp];exact hsr
     ·rw[tk]at hq
      rcases List.mem_append.mp hq with hq | hq
      ·exact fun a1 a2=>let ⟨b1,b2⟩:=clj q hq a1 a2;⟨b1,up _ b2⟩
      ·rw[List.mem_singleton.mp hq];exact fun _ _=>⟨c2,by simp⟩
     ·rw[List.getElem?_append_left (by omega)]at ho
      exact fun q hq a1 a2=>let ⟨b1,b2⟩:=cl k hk o ho q hq a1 a2;⟨b1,up _ b2⟩
  ·clear hz pz sk cl lz ls hsp hsr hz2
   obtain⟨o4,seen,zs,rfl,sd,hcd,hz,pz,sk,hsr,clj,cl⟩:=z
   have lsp:=(List.getElem?_eq_some_iff.mp hsr).1
   rw[show(us++[x]).length=(rs++[r]).length by rw[List.length_append,List.length_append,lu];rfl,List.take_length] at clj
   refine⟨_,rfl,_,_,rfl,rfl,o4,seen,zs,lsp,rfl,sd,hz,pz,sk,fun k hk o ho=>?_⟩
   rcases Nat.lt_or_ge k sp with lt | ge
   ·exact cl k lt o ho
   ·have:k=sp:=by omega
    subst this
    rw[hsr]at ho;cases ho;exact clj
 ·rw[show decide ((sp:Int)<(zs.length:Int))=false from decide_eq_false (by omega)]
  refine g8 (qF _ sc fun⟨o,ro,no,lo⟩=>?_)
  have all:∀o,Rch rs r o→o∈seen:=fun o ro=>by
   induction ro with
   | base=>exact sk.me
   | @step o p h1 hp hn hl hr ih=>
    obtain⟨k,hk⟩:=List.mem_iff_getElem?.mp ih
    have lk:=(List.getElem?_eq_some_iff.mp hk).1
    exact(cl k (by omega) o hk p hp hn hl).2
  obtain⟨k,hk⟩:=List.mem_iff_getElem?.mp (all o ro)
  have lk:=(List.getElem?_eq_some_iff.mp hk).1
  exact(cl k (by omega) o hk r (by simp) no lo).1 rfl
def isE:G7→Bool
 | .word s=>decide (s="ended")
 | _=>false
inductive a6y(K:PySem.W.Frag)(vs:List V)(H:Hp)(Q:VK):Prop
 | mk (rl:Addr→Role) (a:G7) (x:V) (x0:vs=[x]) (x1:G6 rl H a x) (xq:Q (.bl (isE a)) H)
def a4D(K:PySem.W.Frag):Sp:=fun vs H Q _=>a6y K vs H Q
theorem W5(T:z8 K mg t):g7 P w K mg base x9 1 t.f__law_ended t.d__law_ended ["_law_found"] (a4D K):=by
 refine T.F__law_ended.ok a6D (fun vs H Q E h=>?_) (fun cdv A outer s H vs Q E hr h=>?_)
 ·obtain⟨rl,a,x,rfl,_⟩:=h
  rfl
 obtain⟨rl,a,x,rfl,ha,q⟩:=h
 refine⟨_,(d6 (i3 (T1 (g9 C7 rfl T.m_isinstance boot_isinstance (a6 (pv 0) (a6 (J0 (v:=.ty "str") rfl T.m_str boot_str rfl) b7))) (a0a (C5 y9 (pv 0) i7 (i9 _)))))),?_⟩
 cases a with
 | num i=>
  obtain rfl:=ha
  exact⟨_,rfl,_,"int","str",rfl,rfl,by decide,_,rfl,g8 q⟩
 | non=>
  obtain rfl:=ha
  exact⟨_,rfl,_,"NoneType","str",rfl,rfl,by decide,_,rfl,g8 q⟩
 | ring rg=>
  obtain⟨l,zs,rfl,hl,_⟩:=ha
  exact⟨_,rfl,_,"list","str",rfl,.inl ⟨rfl,_,d9.of hl⟩,by decide,_,rfl,g8 q⟩
 | word z=>
  obtain rfl:=ha
  refine⟨_,rfl,_,"str","str",rfl,rfl,by decide,_,rfl,l7 ⟨_,rfl,rfl,?_⟩⟩
  have e:decide (V.str z=V.str "ended")=isE (.word z):=by
   show _=decide (z="ended")
   by_cases c:z="ended"
   ·subst c;simp
   ·rw[decide_eq_false c,decide_eq_false fun w=>c (V.str.inj w)]
  rw[e];exact q
structure a3Q(f:Nat→k8)(ds:List m6)(as:List G7)(y:Try):Prop where
 ex:∃(d:Dl) (a:G7),ds[y.1]?=some (.fin d.num)∧as[y.1]?=some a∧d∈(f y.1).under∧Step (f y.1) (.fin d.num) a (f (y.1+1))∧J2 d (((f y.1).recs.length:Int)+1) y.2.1∧y.2.2=(f y.1).recs
structure Trace(f:Nat→k8)(ds:List m6)(as:List G7):Prop where
 zero:f 0=Z0
 step:∀i d a,ds[i]?=some d→as[i]?=some a→Step (f i) d a (f (i+1))
 len:as.length=ds.length
 oks:∀i,i≤ds.length→G9 (f i)
 gds:∀i,i≤ds.length→Gd (f i)
 bds:∀i,i≤ds.length→Bd i (f i)
theorem b0a{m:Am}{g:Str}{a:Int}(h:a9a m g=some a):g∈m.map (·.1):=by
 unfold a9a at h
 obtain⟨p,hp,_⟩:=Option.map_eq_some_iff.mp h
 have:=List.find?_some hp
 exact List.mem_map.mpr ⟨p,List.mem_of_find?_eq_some hp,by simpa using this⟩
theorem b9c{m:Am}{g:Str}(h:a9a m g=none):g∉m.map (·.1):=fun z=>by
 unfold a9a at h
 obtain⟨p,hp,e⟩:=List.mem_map.mp z
 have:=List.find?_eq_none.mp (Option.map_eq_none_iff.mp h) p hp
 simp[e]at this
theorem a4P{st st':k8}{d:m6}{a:G7}(s:Step st d a st'):st'.begun≤st.begun+1:=by
 cases s<;>first | exact Nat.le_refl _ | exact Nat.le_succ _
theorem a2F{f:Nat→k8}{ds:List m6}{as:List G7}(F:Trace f ds as):∀i,i≤ds.length→(f i).begun≤i
 | 0,_=>by rw[F.zero];exact Nat.le_refl _
 | i+1,h=>by
  have hd:=List.getElem?_eq_getElem (l:=ds) (i:=i) (by omega)
  have ha:=List.getElem?_eq_getElem (l:=as) (i:=i) (by have:=F.len;omega)
  have:=a4P (F.step i _ _ hd ha)
  have:=a2F F i (by omega)
  omega
theorem a6k{d:Dl}{e:Int}{r o:Rec}(h:J2 d e r)(k:J2 d e o):r=o:=by
 obtain⟨n1,b1,f1,l1,p1,s1,t1⟩:=h
 obtain⟨n2,b2,f2,l2,p2,s2,t2⟩:=k
 have inj:∀{ks ms:List Str},ks.Perm ms→a6o ks→a6o ms→ks=ms:=fun {ks ms} p h k=>by
  unfold a6o at h k
  have:=a2n h k (p.map _)
  exact List.map_inj_right (fun a b e=>by
   have e:[(Sum.inr a.cps.toList:Atom)]=[Sum.inr b.cps.toList]:=e
   have e:=Sum.inr.inj (List.cons.inj e).1
   cases a;cases b
   exact congrArg Str.mk (Array.ext' e)) |>.mp this
 have e1:=inj (l1.trans l2.symm) s1 s2
 have e2:=inj (p1.trans p2.symm) t1 t2
 cases r;cases o
 simp only at n1 b1 f1 n2 b2 f2 e1 e2
 simp only[n1,b1,f1,n2,b2,f2,e1,e2]
theorem b5e{st st':k8}{d:m6}{a:G7}(s:Step st d a st'):(∃e∈st.under,d=.fin e.num∧((isE a=true∧∃r cs row,a2E st e r cs row∧st'=a0p st e r cs row)∨(isE a=false∧st'=J6 st e.num)))∨∀e∈st.under,d≠.fin e.num:=by
 cases s with
 | ended hd E=>exact .inl ⟨_,hd,rfl,.inl ⟨rfl,_,_,_,E,rfl⟩⟩
 | ring hd _=>exact .inl ⟨_,hd,rfl,.inr ⟨rfl,rfl⟩⟩
 | none h1 h2=>exact .inr fun e he z=>by subst z;cases h1;exact h2 (List.mem_map.mpr ⟨e,he,rfl⟩)
 | _=>exact .inr fun e he z=>nomatch z
inductive a5t(K:PySem.W.Frag)(vs:List V)(H:Hp)(Q:VK):Prop
 | mk (A Tl:Addr) (xs ys:List V) (ds:List m6) (as:List G7) (rl0:Addr→Role) (f:Nat→k8) (x0:vs=[.ref A,.ref Tl]) (x1:H A=some (.lst xs)) (x2:n9 H ds xs) (x3:H Tl=some (.lst ys)) (x4:Paired (G6 rl0 H) as ys) (x5:Trace f ds as) (x6:ds.length≤63) (xq:∀(p R Y:Addr) (us ws:List V) (tr:List Try) (rl:Addr→Role) (H':Hp),h7 H H'→H' p=some (.tup [.ref R,.ref Y])→H' R=some (.lst us)→Paired (RcAt rl H') (f ds.length).recs us→H' Y=some (.lst ws)→Paired (O1 rl H') tr ws→(∀y∈tr,a3Q f ds as y)→Q (.ref p) H')
def a1v(K:PySem.W.Frag):Sp:=fun vs H Q _=>a5t K vs H Q
set_option maxHeartbeats 0 in
theorem a2d(T:z8 K mg t):g7 P w K mg base x9 2 t.f__law_walked t.d__law_walked ["_law_asked","_law_told"] (a1v K):=by
 refine T.F__law_walked.ok u7 (fun vs H Q E h=>?_) (fun cdv A outer s H vs Q E hr h=>?_)
 ·obtain⟨A,Tl,xs,ys,ds,as,rl0,f,rfl,_⟩:=h
  rfl
 obtain⟨A,Tl,xs,ys,ds,as,rl0,f,rfl,hA,hD,hT,pa,F,bn,q⟩:=h
 have hu:=O7 hr
 refine⟨_,(b9 (g6 (i:=2) u7.nd rfl (Or.inl rfl) A9)
 (b9 (g6 (i:=3) u7.nd rfl (Or.inl rfl) A9)
 (b9 (g6 (i:=4) u7.nd rfl (Or.inl rfl) A9)
 (b9 (g6 (i:=5) u7.nd rfl (Or.inl rfl) (j8 b7))
 (b9 (g6 (i:=6) u7.nd rfl (Or.inl rfl) (j8 b7))
 (b9 (z6 PassesOwn.never rfl (V3 rfl T.m_range (a6 (g9 i5 rfl T.m_len PySem.boot_len (a6 (pv 0) b7)) b7)) (l4 (i:=7) u7.nd rfl (Or.inl rfl))
 (b9 (g6 (i:=8) u7.nd rfl (Or.inl rfl) (d7 j6 (pv 0) (pv 7) (fun _ _=>rfl)))
 (d6 (j9 (f6 y9 (d7 e7 (pv 8) d5 (fun _ _=>rfl)) i7 (i9 _))
 (b9 (C1 hu (pv 3) (g9 a4h rfl T.m_len PySem.boot_len (a6 (pv 3) b7)) (j8 b7) rfl)
 (b9 (C1 hu (pv 2) (i6 M4 (g9 a4h rfl T.m_len PySem.boot_len (a6 (pv 3) b7)) d5) (g9 i5 rfl T.m_len PySem.boot_len (a6 (pv 5) b7)) rfl)
 (d6 (C1 hu (pv 4) (i6 M4 (g9 a4h rfl T.m_len PySem.boot_len (a6 (pv 3) b7)) d5) (j8 b7) rfl))))
 (d6 (j9 (PW.pt (P4 (f6 P7 (d7 e7 (pv 8) d5 (fun _ _=>rfl)) i7 (i9 _)) (M8 (f6 (a9u hu) (d7 e7 (pv 8) d5 (fun _ _=>rfl)) (pv 2) (by with_unfolding_all rfl)))))
 (b9 (g6 (i:=9) u7.nd rfl (Or.inl rfl) (d7 e7 (pv 8) d5 (fun _ _=>rfl)))
 (b9 (N5 (j9 (PW.pt (P4 (f6 y9 (d7 e7 (pv 8) d5 (fun _ _=>rfl)) i7 (i9 _)) (M8 (f6 a8h (d7 e7 (pv 8) d5 (fun _ _=>rfl)) (i6 N3 (u5 hu (pv 3) (pv 9) (fun _ _=>rfl)) (u5 hu (pv 4) (pv 9) (fun _ _=>rfl))) (by with_unfolding_all rfl)))))
 (d6 (l6 (v3 PySem.F.plainAttrs_list PySem.F.slot_list_append PySem.F.type_list_append m8 (u5 hu (pv 3) (pv 9) (fun _ _=>rfl)) (a6 (d7 e7 (pv 8) d5 (fun _ _=>rfl)) b7))))
 j1))
 (b9 (N5 (j9 (PW.pt (P4 (f6 y9 (d7 e7 (pv 8) d5 (fun _ _=>rfl)) i7 (i9 _)) (M8 (f6 a8h (d7 e7 (pv 8) d5 (fun _ _=>rfl)) (u5 hu (pv 4) (pv 9) (fun _ _=>rfl)) (by with_unfolding_all rfl)))))
 (d6 (l6 (v3 PySem.F.plainAttrs_list PySem.F.slot_list_append PySem.F.type_list_append m8 (u5 hu (pv 4) (pv 9) (fun _ _=>rfl)) (a6 (d7 e7 (pv 8) d5 (fun _ _=>rfl)) b7))))
 j1))
 (b9 (N5 (j9 (f6 y9 (d7 e7 (pv 8) d5 (fun _ _=>rfl)) i7 (i9 _))
 (d6 (l6 (a9f (pv 2) (pv 9) ⟨rfl,rfl,rfl,rfl⟩)))
 j1))
 (d6 (j9 (f6 y9 (d7 e7 (pv 8) d5 (fun _ _=>rfl)) i7 (i9 _))
 (b9 (g6 (i:=10) u7.nd rfl (Or.inl rfl) (p6 (a6 (pv 9) (a6 (a9f (pv 2) (pv 9) ⟨rfl,rfl,rfl,rfl⟩) (a6 (i6 C9 (g9 i5 rfl T.m_len PySem.boot_len (a6 (pv 5) b7)) d5) b7)))))
 (b9 (g6 (i:=11) u7.nd rfl (Or.inl rfl) (i6 a8N (pv 10) (p6 (a6 (g9 a9n rfl T.m_sorted boot_sorted (a6 (u5 hu (pv 3) (pv 9) (fun _ _=>rfl)) b7)) (a6 (g9 a9n rfl T.m_sorted boot_sorted (a6 (u5 hu (pv 4) (pv 9) (fun _ _=>rfl)) b7)) b7)))))
 (b9 (l6 (v3 PySem.F.plainAttrs_list PySem.F.slot_list_append PySem.F.type_list_append m8 (pv 6) (a6 (p6 (a6 (pv 7) (a6 (pv 11) (a6 (L5 a5j rfl T.m_list boot_list (a6 (pv 5) b7)) b7)))) b7)))
 (d6 (j9 (C0 (j4 (g7.mono (k:=1) (W5 T) (by decide)) hr rfl T.m__law_ended T.F__law_ended.kp T.F__law_ended.b .nil j7 (a6 (d7 j6 (pv 1) (pv 7) (fun _ _=>rfl)) b7)))
 (d6 (l6 (v3 PySem.F.plainAttrs_list PySem.F.slot_list_append PySem.F.type_list_append m8 (pv 5) (a6 (pv 11) b7))))
 j1)))))
 j1))))))
 j1))))))
 (d6 (i3 (p6 (a6 (pv 5) (a6 (pv 6) b7))))))))))),?_⟩
 refine fun S hS=>fun L hL=>fun M hM=>⟨(by show 0≤sizeLine;decide),fun R hR=>⟨(by show 0≤sizeLine;decide),fun Y hY=>?_⟩⟩
 have s1:=c9 (o:=.dK []) hS
 have s2:=c9 (o:=.dK []) hL
 have s3:=c9 (o:=.dK []) hM
 have s4:=c9 (o:=.lst []) hR
 have s5:=c9 (o:=.lst []) hY
 have W0:∃W,WA S L M R Y W H (upd (upd (upd (upd (upd H S (.dK [])) L (.dK [])) M (.dK [])) R (.lst [])) Y (.lst [])) Z0 []:=by
  have g1:=s5 _ _ (s4 _ _ (s3 _ _ (s2 _ _ (b6 (H:=H) (a:=S) (o:=.dK [])))))
  have g2:=s5 _ _ (s4 _ _ (s3 _ _ (b6 (H:=upd H S (.dK [])) (a:=L) (o:=.dK []))))
  have g3:=s5 _ _ (s4 _ _ (b6 (H:=upd (upd H S (.dK [])) L (.dK [])) (a:=M) (o:=.dK [])))
  have g4:=s5 _ _ (b6 (H:=upd (upd (upd H S (.dK [])) L (.dK [])) M (.dK [])) (a:=R) (o:=.lst []))
  have g5:=b6 (H:=upd (upd (upd (upd H S (.dK [])) L (.dK [])) M (.dK [])) R (.lst [])) (a:=Y) (o:=.lst [])
  have a12:S≠L:=e9 b6 hL
  have a13:S≠M:=e9 (s2 _ _ b6) hM
  have a14:S≠R:=e9 (s3 _ _ (s2 _ _ b6)) hR
  have a15:S≠Y:=e9 (s4 _ _ (s3 _ _ (s2 _ _ b6))) hY
  have a23:L≠M:=e9 b6 hM
  have a24:L≠R:=e9 (s3 _ _ b6) hR
  have a25:L≠Y:=e9 (s4 _ _ (s3 _ _ b6)) hY
  have a34:M≠R:=e9 b6 hR
  have a35:M≠Y:=e9 (s4 _ _ b6) hY
  have a45:R≠Y:=e9 b6 hY
  have b2:=j2 s1 hL
  have b3:=j2 (s1.trans s2) hM
  have b4:=j2 ((s1.trans s2).trans s3) hR
  have b5:=j2 (((s1.trans s2).trans s3).trans s4) hY
  have sall:=(((s1.trans s2).trans s3).trans s4).trans s5
  generalize upd (upd (upd (upd (upd H S (.dK [])) L (.dK [])) M (.dK [])) R (.lst [])) Y (.lst [])=HZ at g1 g2 g3 g4 g5 sall ⊢
  refine⟨⟨fun b=>if b=S then .under else if b=L then .vers else if b=M then .tally else if b=R then .recs else if b=Y then .deal 0 else .free,fun _=>0,fun _=>0,fun _=>0⟩,⟨sall,fun b hb=>?_,g1,g2,g3,⟨[],g4,.nil⟩,⟨[],g5,.nil⟩,(fun d hd=>nomatch hd),if_pos rfl,?_,?_,?_,?_,fun b e=>?_⟩⟩
  ·by_cases c1:b=S
   ·rw[c1];exact hS
   by_cases c2:b=L
   ·rw[c2];exact b2
   by_cases c3:b=M
   ·rw[c3];exact b3
   by_cases c4:b=R
   ·rw[c4];exact b4
   by_cases c5:b=Y
   ·rw[c5];exact b5
   refine absurd ?_ hb
   show(if b=S then _ else if b=L then _ else if b=M then _ else if b=R then _ else if b=Y then _ else _)=_
   rw[if_neg c1,if_neg c2,if_neg c3,if_neg c4,if_neg c5]
  ·show(if L=S then _ else if L=L then _ else _)=_
   rw[if_neg (Ne.symm a12),if_pos rfl]
  ·show(if M=S then _ else if M=L then _ else if M=M then _ else _)=_
   rw[if_neg (Ne.symm a13),if_neg (Ne.symm a23),if_pos rfl]
  ·show(if R=S then _ else if R=L then _ else if R=M then _ else if R=R then _ else _)=_
   rw[if_neg (Ne.symm a14),if_neg (Ne.symm a24),if_neg (Ne.symm a34),if_pos rfl]
  ·show(if Y=S then _ else if Y=L then _ else if Y=M then _ else if Y=R then _ else if Y=Y then _ else _)=_
   rw[if_neg (Ne.symm a15),if_neg (Ne.symm a25),if_neg (Ne.symm a35),if_neg (Ne.symm a45),if_pos rfl]
  ·show(if b=S then _ else if b=L then _ else if b=M then _ else if b=R then _ else if b=Y then _ else _)=_
   rw[if_neg (fun z=>by rw[z,g1]at e;cases e),if_neg (fun z=>by rw[z,g2]at e;cases e),if_neg (fun z=>by rw[z,g3]at e;cases e),if_neg (fun z=>by rw[z,g4]at e;cases e),if_neg (fun z=>by rw[z,g5]at e;cases e)]
 obtain⟨W0,w0⟩:=W0
 generalize upd (upd (upd (upd (upd H S (.dK [])) L (.dK [])) M (.dK [])) R (.lst [])) Y (.lst [])=HZ at w0 ⊢
 have lx:=hD.len
 have ly:=r6 pa
 have la:=F.len
 refine⟨_,rfl,A,xs,rfl,.inl (d9.of (w0.sm _ _ hA)),_,rfl,by omega,by omega,?_⟩
 have en:(((xs.length:Nat):Int)).toNat=ds.length:=by omega
 rw[en]
 refine V6 (fun i σ' Hc=>∃(o7 o8 o9 oA oB:Option V) (W:WG) (tr:List Try),σ'=[some (.ref A),some (.ref Tl),some (.ref S),some (.ref L),some (.ref M),some (.ref R),some (.ref Y),o7,o8,o9,oA,oB]∧WA S L M R Y W H Hc (f i) tr∧tr.length≤i∧∀y∈tr,a3Q f ds as y) ⟨none,none,none,none,none,W0,[],rfl,by rw[F.zero];exact w0,Nat.le_refl _,(fun y hy=>nomatch hy)⟩ (fun i σ' Hc hi z=>?_) (fun σ' Hc z=>?_)
 ·obtain⟨o7,o8,o9,oA,oB,W,tr,rfl,w,ltr,oktr⟩:=z
  have hxi:=List.getElem?_eq_getElem (show i<xs.length by omega)
  have hyi:=List.getElem?_eq_getElem (show i<ys.length by omega)
  obtain⟨d,hd,b,eb,hb⟩:=A4 hD hxi
  obtain⟨an,han,hy⟩:=A4 pa hyi
  have St:=F.step i d an hd han
  have ok:=F.oks i (by omega)
  have bd:=F.bds i (by omega)
  have e0:(0:Int)+(i:Int)=((i:Nat):Int):=by omega
  have ax:C6 xs ((0:Int)+(i:Int))=some (.ref b):=by rw[e0,←eb];exact j0 hxi
  generalize ys[i]=y at hyi hy
  have ay:C6 ys ((0:Int)+(i:Int))=some y:=by rw[e0];exact j0 hyi
  have nd:(C3 (f i)).Nodup:=(List.nodup_append.mp ok.un).2.1
  refine⟨_,rfl,_,rfl,A,_,_,_,rfl,rfl,d9.of (w.sm _ _ hA),ax,?_⟩
  have St0:=St
  have rS:=w.r1
  have hyc:=hy.same w.sm
  obtain⟨xr,hR,pR⟩:=w.rc
  obtain⟨yt,hY,pY⟩:=w.ty
  have lR:=r6 pR
  have lY:=r6 pY
  have brc:=bd.rc
  have bun:=bd.un
  have hT':=w.sm _ _ hT
  have inl:∀n∈C3 (f i),n∈nat (f i).begun:=fun n hn=>a2z.mpr (ok.lt n (List.mem_append_right _ hn))
  have dS:=fun(Hx:Hp) (hx:Hx S=some (.dK (j5 (C3 (f i)) fun n=>.int (W.bg n)))) (n:Int)=>v7.k (k:=Sum.inl n) hx
  have dL:∀(Hx:Hp),Hx L=some (.dK (j5 (nat (f i).begun) fun n=>.ref (W.lk n)))→∀n∈C3 (f i),v7 Hx L (.int n) (some (.ref (W.lk n))):=fun Hx hx n hn=>by
   have:=v7.k (k:=Sum.inl n) hx
   rw[m9,if_pos (inl n hn)]at this
   exact this
  have dM:∀(Hx:Hp),Hx M=some (.dK (j5 (nat (f i).begun) fun n=>.ref (W.as n)))→∀n∈C3 (f i),v7 Hx M (.int n) (some (.ref (W.as n))):=fun Hx hx n hn=>by
   have:=v7.k (k:=Sum.inl n) hx
   rw[m9,if_pos (inl n hn)]at this
   exact this
  generalize hz:f (i+1)=st1 at St ⊢
  rcases b5e St with ⟨d,hd2,rfl,fin⟩ | nofin
  ·have hin:d.num∈C3 (f i):=List.mem_map.mpr ⟨d,hd2,rfl⟩
   have Dl0:=w.dl d hd2
   have bl:=bd.dl d hd2
   have dg:=dS Hc w.sn d.num
   rw[m9,if_pos hin]at dg
   refine⟨_,rfl,b,_,0,_,rfl,rfl,f7.of (w.sm _ _ hb),rfl,rfl,_,rfl,g8 ?_⟩
   refine⟨_,rfl,b,_,0,_,rfl,rfl,f7.of (w.sm _ _ hb),rfl,rfl,_,rfl,l7 ?_⟩
   refine⟨_,rfl,b,_,1,_,rfl,rfl,f7.of (w.sm _ _ hb),rfl,_,rfl,S,_,rfl,dg,_,rfl,l7 ?_⟩
   refine⟨_,rfl,b,_,1,_,rfl,rfl,f7.of (w.sm _ _ hb),rfl,?_⟩
   refine R6 ⟨_,rfl,b,_,0,_,rfl,rfl,f7.of (w.sm _ _ hb),rfl,rfl,_,rfl,g8 (g8 ⟨rfl,rfl⟩)⟩ ?_
   refine R6 ⟨_,rfl,b,_,0,_,rfl,rfl,f7.of (w.sm _ _ hb),rfl,rfl,_,rfl,g8 (g8 ⟨rfl,rfl⟩)⟩ ?_
   refine R6 ⟨_,rfl,b,_,0,_,rfl,rfl,f7.of (w.sm _ _ hb),rfl,rfl,_,rfl,g8 ⟨rfl,rfl⟩⟩ ?_
   refine⟨_,rfl,b,_,0,_,rfl,rfl,f7.of (w.sm _ _ hb),rfl,rfl,_,rfl,l7 ?_⟩
   have Dl0:=w.dl d hd2
   obtain⟨zb1,zb2⟩:=(F.bds i (by omega)).dl d hd2
   obtain⟨xr,hR,pR⟩:=w.rc
   have lR:=r6 pR
   have w1:=w.drop d.num
   have k2:(upd Hc S (.dK (C4 (j5 (C3 (f i)) fun n=>.int (W.bg n)) (Sum.inl d.num)))) (W.lk d.num)=_:=ur Dl0.lk Dl0.r2 w.r1 (by simp)
   have k3:(upd Hc S (.dK (C4 (j5 (C3 (f i)) fun n=>.int (W.bg n)) (Sum.inl d.num)))) (W.as d.num)=_:=ur Dl0.as Dl0.r3 w.r1 (by simp)
   have hR1:(upd Hc S (.dK (C4 (j5 (C3 (f i)) fun n=>.int (W.bg n)) (Sum.inl d.num)))) R=_:=ur hR w.r4 w.r1 (by simp)
   refine⟨_,rfl,_,rfl,S,rfl,.inl ⟨_,.inl w.sn⟩,_,rfl,_,Sum.inl d.num,.int (W.bg d.num),w.sn,rfl,?_,_,rfl,R,_,rfl,.inl (d9.of hR1),_,_,rfl,rfl,(by show 3≤sizeLine;decide),fun p1 hp1=>?_⟩
   ·rw[m9,if_pos hin]
   have s2:=c9 (o:=.tup [.int d.num,.int (W.bg d.num),.int ((xr.length:Int)+1)]) hp1
   have hp2:(upd (upd Hc S (.dK (C4 (j5 (C3 (f i)) fun n=>.int (W.bg n)) (Sum.inl d.num)))) p1 (.tup [.int d.num,.int (W.bg d.num),.int ((xr.length:Int)+1)])) p1=_:=b6
   have w2:=w1.new s2
   have k2:=s2 _ _ k2
   have k3:=s2 _ _ k3
   generalize upd (upd Hc S (.dK (C4 (j5 (C3 (f i)) fun n=>.int (W.bg n)) (Sum.inl d.num)))) p1 (.tup [.int d.num,.int (W.bg d.num),.int ((xr.length:Int)+1)])=H2 at s2 hp2 w2 k2 k3 ⊢
   refine⟨_,rfl,_,rfl,_,rfl,L,_,rfl,dL _ w2.lo _ hin,W.lk d.num,_,rfl,d9.of k2,⟨by simp only[List.length_map];omega,fun v hv=>by obtain⟨z,_,rfl⟩:=List.mem_map.mp hv;exact⟨z,rfl⟩⟩,fun la ys' hla pm1 io1=>?_⟩
   obtain⟨ys1,rfl,py⟩:=N0 pm1
   have s3:=c9 (o:=.lst (ys1.map V.str)) hla
   have w3:=w2.new s3
   refine⟨_,rfl,_,rfl,M,_,rfl,dM _ w3.la _ hin,W.as d.num,_,rfl,d9.of (s3 _ _ k3),⟨by simp only[List.length_map];omega,fun v hv=>by obtain⟨z,_,rfl⟩:=List.mem_map.mp hv;exact⟨z,rfl⟩⟩,fun pp zs' hpp pm2 io2=>?_⟩
   obtain⟨zs1,rfl,pz⟩:=N0 pm2
   have s4:=c9 (o:=.lst (zs1.map V.str)) hpp
   have w4:=w3.new s4
   unfold Q8 at io1 io2
   rw[List.map_map]at io1 io2
   have hla4:=s4 _ _ (b6 (H:=H2) (a:=la) (o:=.lst (ys1.map V.str)))
   have hpp4:(upd (upd H2 la (.lst (ys1.map V.str))) pp (.lst (zs1.map V.str))) pp=_:=b6
   have hp4:=s4 _ _ (s3 _ _ hp2)
   have nla:=j2 w2.sm hla
   have npp:=j2 w3.sm hpp
   have fla:=w2.cl la hla
   have fpp:=w3.cl pp hpp
   generalize upd (upd H2 la (.lst (ys1.map V.str))) pp (.lst (zs1.map V.str))=H4 at w4 hla4 hpp4 hp4 s4 ⊢
   refine⟨(by show 2≤sizeLine;decide),fun p2 hp2'=>?_⟩
   have s5:=c9 (o:=.tup [.ref la,.ref pp]) hp2'
   refine⟨p1,p2,_,_,rfl,rfl,f7.of (s5 _ _ hp4),f7.of b6,by simp,(by show 5≤sizeLine;decide),(fun z=>by simp at z),fun _ p3 hp3=>?_⟩
   have s6:=c9 (o:=.tup ([.int d.num,.int (W.bg d.num),.int ((xr.length:Int)+1)]++[.ref la,.ref pp])) hp3
   have w6:=(w4.new s5).new s6
   have hp6:(upd (upd H4 p2 (.tup [.ref la,.ref pp])) p3 (.tup ([.int d.num,.int (W.bg d.num),.int ((xr.length:Int)+1)]++[.ref la,.ref pp]))) p3=_:=b6
   have hla6:=s6 _ _ (s5 _ _ hla4)
   have hpp6:=s6 _ _ (s5 _ _ hpp4)
   generalize upd (upd H4 p2 (.tup [.ref la,.ref pp])) p3 (.tup ([.int d.num,.int (W.bg d.num),.int ((xr.length:Int)+1)]++[.ref la,.ref pp]))=H6 at w6 hp6 hla6 hpp6 ⊢
   obtain⟨yt,hY,pY⟩:=w6.ty
   have lY:=r6 pY
   obtain⟨xr6,hR6,pR6⟩:=w6.rc
   have lR6:xr6.length=(f i).recs.length:=r6 pR6
   refine⟨_,rfl,.inl ⟨rfl,_,d9.of hY⟩,_,rfl,_,rfl,_,rfl,R,_,rfl,.inl (d9.of hR6),fun lb hlb=>?_⟩
   have s7:=c9 (o:=.lst xr6) hlb
   have nlb:=j2 w6.sm hlb
   have flb:=w6.cl lb hlb
   refine⟨(by show 3≤sizeLine;decide),fun p4 hp4'=>?_⟩
   have s8:=c9 (o:=.tup [.int (0+(i:Int)),.ref p3,.ref lb]) hp4'
   have s68:=s7.trans s8
   have w8:=w6.new s68
   have hlb8:=s8 _ _ (b6 (H:=H6) (a:=lb) (o:=.lst xr6))
   have hp8:(upd (upd H6 lb (.lst xr6)) p4 (.tup [.int (0+(i:Int)),.ref p3,.ref lb])) p4=_:=b6
   generalize upd (upd H6 lb (.lst xr6)) p4 (.tup [.int (0+(i:Int)),.ref p3,.ref lb])=H8 at w8 hlb8 hp8 s68 ⊢
   have w9:=w8.fz (as:=[la,pp,lb]) (fun v hv=>by
    simp only[List.mem_cons,List.not_mem_nil,or_false]at hv
    rcases hv with rfl | rfl | rfl
    ·exact⟨fla,nla,_,s68 _ _ hla6⟩
    ·exact⟨fpp,npp,_,s68 _ _ hpp6⟩
    ·exact⟨flb,nlb,_,hlb8⟩)
   let r0:Rec:=⟨d.num,d.beg,((f i).recs.length:Int)+1,ys1,zs1⟩
   have isr:J2 d (((f i).recs.length:Int)+1) r0:=⟨rfl,rfl,rfl,py,pz,io1,io2⟩
   have rc9:RcAt (wfz W [la,pp,lb]).rl H8 r0 (.ref p3):=by
    refine⟨p3,la,pp,rfl,?_,s68 _ _ hla6,s68 _ _ hpp6,a0I (by simp),a0I (by simp)⟩
    rw[s68 _ _ hp6,lR,Dl0.bg];rfl
   obtain⟨xr9,hR9,pR9⟩:=w9.rc
   have eq9:xr9=xr6:=by rw[s68 _ _ hR6]at hR9;cases hR9;rfl
   subst eq9
   have ty9:O1 (wfz W [la,pp,lb]).rl H8 (i,r0,(f i).recs) (.ref p4):=⟨p4,lb,.ref p3,_,rfl,by rw[hp8,e0],rc9,hlb8,a0I (by simp),pR9⟩
   have hY9:=s68 _ _ hY
   refine⟨Y,yt,_,rfl,rfl,hY9,n6 (by omega),?_⟩
   have wA:=w9.addY hY9 ty9
   have tkA:r9 H8 (upd H8 Y (.lst (yt++[.ref p4]))):=n5 hY9
   have rcA:=rc9.updR (o:=.lst (yt++[.ref p4])) w9.r5 (by simp) tkA
   have okA:∀y∈tr++[(i,r0,(f i).recs)],a3Q f ds as y:=fun y hy=>by
    rcases List.mem_append.mp hy with hy | hy
    ·exact oktr y hy
    ·rw[List.mem_singleton.mp hy];exact⟨⟨d,_,hd,han,hd2,St0,isr,rfl⟩⟩
   have ltA:(tr++[(i,r0,(f i).recs)]).length≤i+1:=by rw[List.length_append];simp;omega
   generalize upd H8 Y (.lst (yt++[.ref p4]))=HA at wA rcA ⊢
   have hyA:=hy.same wA.sm
   have RD:=fun(x:Hp) (sx:h7 H x)=>d9.of (K:=K) (sx _ _ hT)
   refine⟨_,rfl,_,rfl,Tl,_,_,_,rfl,rfl,RD _ wA.sm,ay,rl0,_,_,rfl,hyA,?_⟩
   rcases fin with ⟨ea,r,cs,row,E,rfl⟩ | ⟨ea,rfl⟩
   ·rw[ea]
    have er:r0=r:=a6k isr E.rc
    obtain⟨xrA,hRA,pRA⟩:=wA.rc
    have lRA:xrA.length=(f i).recs.length:=r6 pRA
    refine⟨_,rfl,l7 ⟨_,rfl,.inl ⟨rfl,_,d9.of hRA⟩,_,rfl,R,_,_,rfl,rfl,hRA,n6 (by omega),?_⟩⟩
    exact⟨_,_,_,_,_,_,_,rfl,(wA.addR hRA rcA).cong rfl rfl (by show(f i).recs++[r]=(f i).recs++[r0];rw[er]),ltA,okA⟩
   ·rw[ea]
    exact⟨_,rfl,g8 ⟨_,_,_,_,_,_,_,rfl,wA,ltA,okA⟩⟩
  cases St with
  | begin=>
   refine⟨_,rfl,b,_,0,_,rfl,rfl,f7.of (w.sm _ _ hb),rfl,rfl,_,rfl,l7 ?_⟩
   have el:(j5 (nat (f i).begun) fun n=>V.ref (W.lk n)).length=(f i).begun:=by rw[F7,a8w]
   have bb:=a2F F i (by omega)
   refine⟨(by show 0≤sizeLine;decide),fun l1 hl1=>?_⟩
   have s1:=c9 (o:=.lst []) hl1
   have aSL:S≠L:=a9e (G:=gOf W.rl) w.r1 w.r2 (by simp)
   have aSM:S≠M:=a9e (G:=gOf W.rl) w.r1 w.r3 (by simp)
   have aLM:L≠M:=a9e (G:=gOf W.rl) w.r2 w.r3 (by simp)
   have aLR:R≠L:=a9e (G:=gOf W.rl) w.r4 w.r2 (by simp)
   have n1S:l1≠S:=fun z=>by rw[z,w.sn]at hl1;cases hl1
   have n1L:l1≠L:=fun z=>by rw[z,w.lo]at hl1;cases hl1
   have n1M:l1≠M:=fun z=>by rw[z,w.la]at hl1;cases hl1
   have lo1:=s1 _ _ w.lo
   refine⟨_,rfl,_,rfl,L,_,rfl,lo1,L,_,rfl,K6.k (k:=Sum.inl _) lo1 (n6 (by rw[el];omega)),?_⟩
   rw[el]
   have lo2:(upd (upd Hc l1 (.lst [])) L (.dK (putK (j5 (nat (f i).begun) fun n=>.ref (W.lk n)) (Sum.inl ((f i).begun:Int)) (.ref l1)))) L=some (.dK (putK (j5 (nat (f i).begun) fun n=>.ref (W.lk n)) (Sum.inl ((f i).begun:Int)) (.ref l1))):=b6
   have sn2:(upd (upd Hc l1 (.lst [])) L (.dK (putK (j5 (nat (f i).begun) fun n=>.ref (W.lk n)) (Sum.inl ((f i).begun:Int)) (.ref l1)))) S=_:=(b8 aSL).trans (s1 _ _ w.sn)
   have la2:(upd (upd Hc l1 (.lst [])) L (.dK (putK (j5 (nat (f i).begun) fun n=>.ref (W.lk n)) (Sum.inl ((f i).begun:Int)) (.ref l1)))) M=_:=(b8 (Ne.symm aLM)).trans (s1 _ _ w.la)
   have hR2:(upd (upd Hc l1 (.lst [])) L (.dK (putK (j5 (nat (f i).begun) fun n=>.ref (W.lk n)) (Sum.inl ((f i).begun:Int)) (.ref l1)))) R=_:=(b8 aLR).trans (s1 _ _ hR)
   have g1:(upd (upd Hc l1 (.lst [])) L (.dK (putK (j5 (nat (f i).begun) fun n=>.ref (W.lk n)) (Sum.inl ((f i).begun:Int)) (.ref l1)))) l1=some (.lst []):=(b8 n1L).trans b6
   have bt2:∀c o,c≠L→Hc c=some o→(upd (upd Hc l1 (.lst [])) L (.dK (putK (j5 (nat (f i).begun) fun n=>.ref (W.lk n)) (Sum.inl ((f i).begun:Int)) (.ref l1)))) c=some o:=fun c o nc e=>(b8 nc).trans (s1 _ _ e)
   have tk2:=s1.tupK.trans (K3 (o:=.dK (putK (j5 (nat (f i).begun) fun n=>.ref (W.lk n)) (Sum.inl ((f i).begun:Int)) (.ref l1))) lo1)
   have nn2:∀c,(upd (upd Hc l1 (.lst [])) L (.dK (putK (j5 (nat (f i).begun) fun n=>.ref (W.lk n)) (Sum.inl ((f i).begun:Int)) (.ref l1)))) c=none→Hc c=none:=fun c e=>r8 (r8 e)
   generalize upd (upd Hc l1 (.lst [])) L (.dK (putK (j5 (nat (f i).begun) fun n=>.ref (W.lk n)) (Sum.inl ((f i).begun:Int)) (.ref l1)))=H2 at lo2 sn2 la2 hR2 g1 bt2 tk2 nn2 ⊢
   have el2:(((putK (j5 (nat (f i).begun) fun n=>V.ref (W.lk n)) (Sum.inl ((f i).begun:Int)) (.ref l1)).length:Nat):Int)-1=((f i).begun:Int):=by
    rw[J3,if_neg (fun z=>by have:=(a2z.mp z).2;omega),F7,List.length_append,a8w];simp
   have eR:(xr.length:Int)=((f i).recs.length:Int):=by rw[lR]
   refine⟨_,rfl,R,_,rfl,.inl (d9.of hR2),_,rfl,_,rfl,L,_,rfl,lo2,_,_,rfl,rfl,S,_,rfl,K6.k (k:=Sum.inl _) sn2 (n6 (by rw[F7];unfold C3;rw[List.length_map];omega)),?_⟩
   rw[el2,eR]
   have lo3:(upd H2 S (.dK (putK (j5 (C3 (f i)) fun n=>.int (W.bg n)) (Sum.inl ((f i).begun:Int)) (.int ((f i).recs.length:Int))))) L=_:=(b8 (Ne.symm aSL)).trans lo2
   have la3:(upd H2 S (.dK (putK (j5 (C3 (f i)) fun n=>.int (W.bg n)) (Sum.inl ((f i).begun:Int)) (.int ((f i).recs.length:Int))))) M=_:=(b8 (Ne.symm aSM)).trans la2
   have sn3:(upd H2 S (.dK (putK (j5 (C3 (f i)) fun n=>.int (W.bg n)) (Sum.inl ((f i).begun:Int)) (.int ((f i).recs.length:Int))))) S=_:=b6
   have g13:(upd H2 S (.dK (putK (j5 (C3 (f i)) fun n=>.int (W.bg n)) (Sum.inl ((f i).begun:Int)) (.int ((f i).recs.length:Int))))) l1=_:=(b8 n1S).trans g1
   have bt3:∀c o,c≠S→c≠L→Hc c=some o→(upd H2 S (.dK (putK (j5 (C3 (f i)) fun n=>.int (W.bg n)) (Sum.inl ((f i).begun:Int)) (.int ((f i).recs.length:Int))))) c=some o:=fun c o n1 n2 e=>(b8 n1).trans (bt2 c o n2 e)
   have tk3:=tk2.trans (K3 (o:=.dK (putK (j5 (C3 (f i)) fun n=>.int (W.bg n)) (Sum.inl ((f i).begun:Int)) (.int ((f i).recs.length:Int)))) sn2)
   have nn3:∀c,(upd H2 S (.dK (putK (j5 (C3 (f i)) fun n=>.int (W.bg n)) (Sum.inl ((f i).begun:Int)) (.int ((f i).recs.length:Int))))) c=none→Hc c=none:=fun c e=>nn2 c (r8 e)
   generalize upd H2 S (.dK (putK (j5 (C3 (f i)) fun n=>.int (W.bg n)) (Sum.inl ((f i).begun:Int)) (.int ((f i).recs.length:Int))))=H3 at lo3 la3 sn3 g13 bt3 tk3 nn3 ⊢
   refine⟨(by show 0≤sizeLine;decide),fun l2 hl2=>?_⟩
   have s4:=c9 (o:=.lst []) hl2
   have n12:l1≠l2:=e9 g13 hl2
   have n2S:S≠l2:=e9 sn3 hl2
   have n2L:L≠l2:=e9 lo3 hl2
   have n2M:M≠l2:=e9 la3 hl2
   refine⟨_,rfl,_,rfl,L,_,rfl,s4 _ _ lo3,_,_,rfl,rfl,M,_,rfl,K6.k (k:=Sum.inl _) (s4 _ _ la3) (n6 (by rw[F7,a8w];omega)),?_⟩
   rw[el2]
   refine⟨_,_,_,_,_,_,tr,rfl,w.begin ok (l1:=l1) (l2:=l2) hl1 (nn3 _ hl2) n12 ((b8 n1M).trans (s4 _ _ g13)) ((b8 (Ne.symm n2M)).trans b6) (fun c o c1 c2 c3 e=>(b8 c3).trans (s4 _ _ (bt3 c o c1 c2 e))) ((tk3.trans s4.tupK).trans (K3 (s4 _ _ la3))) ((b8 aSM).trans (s4 _ _ sn3)) ((b8 aLM).trans (s4 _ _ lo3)) b6,by omega,oktr⟩
  | @sweep m mb=>
   refine⟨_,rfl,b,_,0,_,rfl,rfl,f7.of (w.sm _ _ hb),rfl,rfl,_,rfl,g8 ?_⟩
   refine⟨_,rfl,b,_,0,_,rfl,rfl,f7.of (w.sm _ _ hb),rfl,rfl,_,rfl,g8 ?_⟩
   exact g8 ⟨_,_,_,_,_,W,tr,rfl,w.cong rfl rfl rfl,by omega,oktr⟩
  | @none _ n hno hn=>
   have hn:n∉C3 (f i):=hn
   cases d with
   | begin=>cases hno
   | sweep=>cases hno
   | look n g=>
    cases hno
    refine⟨_,rfl,b,_,0,_,rfl,rfl,f7.of (w.sm _ _ hb),rfl,rfl,_,rfl,g8 ?_⟩
    refine⟨_,rfl,b,_,0,_,rfl,rfl,f7.of (w.sm _ _ hb),rfl,rfl,_,rfl,l7 ?_⟩
    have dg:=dS Hc w.sn n
    rw[m9,if_neg hn]at dg
    exact⟨_,rfl,b,_,1,_,rfl,rfl,f7.of (w.sm _ _ hb),rfl,_,rfl,S,_,rfl,dg,_,rfl,g8 ⟨_,_,_,_,_,W,tr,rfl,w,by omega,oktr⟩⟩
   | put n g x=>
    cases hno
    refine⟨_,rfl,b,_,0,_,rfl,rfl,f7.of (w.sm _ _ hb),rfl,rfl,_,rfl,g8 ?_⟩
    refine⟨_,rfl,b,_,0,_,rfl,rfl,f7.of (w.sm _ _ hb),rfl,rfl,_,rfl,l7 ?_⟩
    have dg:=dS Hc w.sn n
    rw[m9,if_neg hn]at dg
    exact⟨_,rfl,b,_,1,_,rfl,rfl,f7.of (w.sm _ _ hb),rfl,_,rfl,S,_,rfl,dg,_,rfl,g8 ⟨_,_,_,_,_,W,tr,rfl,w,by omega,oktr⟩⟩
   | fin n=>
    cases hno
    refine⟨_,rfl,b,_,0,_,rfl,rfl,f7.of (w.sm _ _ hb),rfl,rfl,_,rfl,g8 ?_⟩
    refine⟨_,rfl,b,_,0,_,rfl,rfl,f7.of (w.sm _ _ hb),rfl,rfl,_,rfl,l7 ?_⟩
    have dg:=dS Hc w.sn n
    rw[m9,if_neg hn]at dg
    exact⟨_,rfl,b,_,1,_,rfl,rfl,f7.of (w.sm _ _ hb),rfl,_,rfl,S,_,rfl,dg,_,rfl,g8 ⟨_,_,_,_,_,W,tr,rfl,w,by omega,oktr⟩⟩
   | leave n=>
    cases hno
    refine⟨_,rfl,b,_,0,_,rfl,rfl,f7.of (w.sm _ _ hb),rfl,rfl,_,rfl,g8 ?_⟩
    refine⟨_,rfl,b,_,0,_,rfl,rfl,f7.of (w.sm _ _ hb),rfl,rfl,_,rfl,l7 ?_⟩
    have dg:=dS Hc w.sn n
    rw[m9,if_neg hn]at dg
    exact⟨_,rfl,b,_,1,_,rfl,rfl,f7.of (w.sm _ _ hb),rfl,_,rfl,S,_,rfl,dg,_,rfl,g8 ⟨_,_,_,_,_,W,tr,rfl,w,by omega,oktr⟩⟩
  | @own d g x hd2 hg=>
   have hin:d.num∈C3 (f i):=List.mem_map.mpr ⟨d,hd2,rfl⟩
   have Dl0:=w.dl d hd2
   have bl:=bd.dl d hd2
   have dg:=dS Hc w.sn d.num
   rw[m9,if_pos hin]at dg
   refine⟨_,rfl,b,_,0,_,rfl,rfl,f7.of (w.sm _ _ hb),rfl,rfl,_,rfl,g8 ?_⟩
   refine⟨_,rfl,b,_,0,_,rfl,rfl,f7.of (w.sm _ _ hb),rfl,rfl,_,rfl,l7 ?_⟩
   refine⟨_,rfl,b,_,1,_,rfl,rfl,f7.of (w.sm _ _ hb),rfl,_,rfl,S,_,rfl,dg,_,rfl,l7 ?_⟩
   refine⟨_,rfl,b,_,1,_,rfl,rfl,f7.of (w.sm _ _ hb),rfl,?_⟩
   refine⟨fun σ' H'=>σ'=[some (.ref A),some (.ref Tl),some (.ref S),some (.ref L),some (.ref M),some (.ref R),some (.ref Y),some (.int (0+(i:Int))),some (.ref b),some (.int d.num),oA,oB]∧WA S L M R Y W H H' (f i) tr,?_,fun σ' H' hM=>?_⟩
   ·refine⟨_,rfl,b,_,0,_,rfl,rfl,f7.of (w.sm _ _ hb),rfl,rfl,_,rfl,l7 ?_⟩
    refine⟨_,rfl,b,_,2,_,rfl,rfl,f7.of (w.sm _ _ hb),rfl,_,rfl,_,rfl,L,_,rfl,dL _ w.lo _ hin,_,rfl,_,rfl,M,_,rfl,dM _ w.la _ hin,W.lk d.num,W.as d.num,_,_,rfl,rfl,Dl0.lk,Dl0.as,(by rw[List.length_map,List.length_map,List.length_map,sizeLine_eq];omega),fun c hc=>?_⟩
    rw[←List.map_append]
    have s1:=c9 (o:=.lst ((d.looked++d.aside.map (·.1)).map V.str)) hc
    refine⟨c,_,rfl,.inl (d9.of b6),rfl,A6 _,_,rfl,?_⟩
    rw[if_pos rfl,J1]
    rw[decide_eq_true (List.mem_append_right _ (b0a hg))]
    exact g8 ⟨rfl,w.new s1⟩
   obtain⟨rfl,w⟩:=hM
   refine R6 ⟨_,rfl,b,_,0,_,rfl,rfl,f7.of (w.sm _ _ hb),rfl,rfl,_,rfl,g8 (g8 ⟨rfl,rfl⟩)⟩ ?_
   refine R6 ⟨_,rfl,b,_,0,_,rfl,rfl,f7.of (w.sm _ _ hb),rfl,rfl,_,rfl,g8 ⟨rfl,rfl⟩⟩ ?_
   exact⟨_,rfl,b,_,0,_,rfl,rfl,f7.of (w.sm _ _ hb),rfl,rfl,_,rfl,g8 ⟨_,_,_,_,_,W,tr,rfl,w,by omega,oktr⟩⟩
  | @look d g hd2 hg=>
   have hin:d.num∈C3 (f i):=List.mem_map.mpr ⟨d,hd2,rfl⟩
   have Dl0:=w.dl d hd2
   have bl:=bd.dl d hd2
   have dg:=dS Hc w.sn d.num
   rw[m9,if_pos hin]at dg
   refine⟨_,rfl,b,_,0,_,rfl,rfl,f7.of (w.sm _ _ hb),rfl,rfl,_,rfl,g8 ?_⟩
   refine⟨_,rfl,b,_,0,_,rfl,rfl,f7.of (w.sm _ _ hb),rfl,rfl,_,rfl,l7 ?_⟩
   refine⟨_,rfl,b,_,1,_,rfl,rfl,f7.of (w.sm _ _ hb),rfl,_,rfl,S,_,rfl,dg,_,rfl,l7 ?_⟩
   refine⟨_,rfl,b,_,1,_,rfl,rfl,f7.of (w.sm _ _ hb),rfl,?_⟩
   refine⟨fun σ' H'=>σ'=[some (.ref A),some (.ref Tl),some (.ref S),some (.ref L),some (.ref M),some (.ref R),some (.ref Y),some (.int (0+(i:Int))),some (.ref b),some (.int d.num),oA,oB]∧WA S L M R Y W H H' (a6P (f i) d.num g) tr,?_,fun σ' H' hM=>?_⟩
   ·refine⟨_,rfl,b,_,0,_,rfl,rfl,f7.of (w.sm _ _ hb),rfl,rfl,_,rfl,l7 ?_⟩
    refine⟨_,rfl,b,_,2,_,rfl,rfl,f7.of (w.sm _ _ hb),rfl,_,rfl,_,rfl,L,_,rfl,dL _ w.lo _ hin,_,rfl,_,rfl,M,_,rfl,dM _ w.la _ hin,W.lk d.num,W.as d.num,_,_,rfl,rfl,Dl0.lk,Dl0.as,(by rw[List.length_map,List.length_map,List.length_map,sizeLine_eq];omega),fun c hc=>?_⟩
    rw[←List.map_append]
    have s1:=c9 (o:=.lst ((d.looked++d.aside.map (·.1)).map V.str)) hc
    refine⟨c,_,rfl,.inl (d9.of b6),rfl,A6 _,_,rfl,?_⟩
    rw[if_pos rfl,J1]
    have ng:=b9c hg
    have w1:=w.new s1
    by_cases c1:g∈d.looked
    ·rw[decide_eq_true (List.mem_append_left _ c1)]
     refine g8 ⟨rfl,w1.mod (fun _=>⟨rfl,rfl⟩) fun e he en=>⟨?_,rfl⟩⟩
     rw[O2 nd he hd2 en]
     show K7 d.looked g=_
     unfold K7;rw[if_pos c1]
    ·rw[decide_eq_false fun z=>(List.mem_append.mp z).elim c1 ng]
     have D1:=w1.dl d hd2
     refine l7 ⟨_,rfl,_,rfl,L,_,rfl,dL _ w1.lo _ hin,.inl ⟨rfl,_,d9.of D1.lk⟩,_,rfl,b,_,2,_,rfl,rfl,f7.of (w1.sm _ _ hb),rfl,W.lk d.num,_,_,rfl,rfl,D1.lk,n6 (by rw[List.length_map];omega),rfl,w1.setLk nd hd2 c1⟩
   obtain⟨rfl,w⟩:=hM
   refine R6 ⟨_,rfl,b,_,0,_,rfl,rfl,f7.of (w.sm _ _ hb),rfl,rfl,_,rfl,g8 (g8 ⟨rfl,rfl⟩)⟩ ?_
   refine R6 ⟨_,rfl,b,_,0,_,rfl,rfl,f7.of (w.sm _ _ hb),rfl,rfl,_,rfl,g8 ⟨rfl,rfl⟩⟩ ?_
   exact⟨_,rfl,b,_,0,_,rfl,rfl,f7.of (w.sm _ _ hb),rfl,rfl,_,rfl,g8 ⟨_,_,_,_,_,W,tr,rfl,w,by omega,oktr⟩⟩
  | @put d g x hd2=>
   have hin:d.num∈C3 (f i):=List.mem_map.mpr ⟨d,hd2,rfl⟩
   have Dl0:=w.dl d hd2
   have bl:=bd.dl d hd2
   have dg:=dS Hc w.sn d.num
   rw[m9,if_pos hin]at dg
   refine⟨_,rfl,b,_,0,_,rfl,rfl,f7.of (w.sm _ _ hb),rfl,rfl,_,rfl,g8 ?_⟩
   refine⟨_,rfl,b,_,0,_,rfl,rfl,f7.of (w.sm _ _ hb),rfl,rfl,_,rfl,l7 ?_⟩
   refine⟨_,rfl,b,_,1,_,rfl,rfl,f7.of (w.sm _ _ hb),rfl,_,rfl,S,_,rfl,dg,_,rfl,l7 ?_⟩
   refine⟨_,rfl,b,_,1,_,rfl,rfl,f7.of (w.sm _ _ hb),rfl,?_⟩
   refine R6 ⟨_,rfl,b,_,0,_,rfl,rfl,f7.of (w.sm _ _ hb),rfl,rfl,_,rfl,g8 (g8 ⟨rfl,rfl⟩)⟩ ?_
   have Dl0:=w.dl d hd2
   refine⟨fun σ' H'=>σ'=[some (.ref A),some (.ref Tl),some (.ref S),some (.ref L),some (.ref M),some (.ref R),some (.ref Y),some (.int (0+(i:Int))),some (.ref b),some (.int d.num),oA,oB]∧WA S L M R Y W H H' (putSt (f i) d.num g x) tr,?_,fun σ' H' hM=>?_⟩
   ·refine⟨_,rfl,b,_,0,_,rfl,rfl,f7.of (w.sm _ _ hb),rfl,rfl,_,rfl,l7 ?_⟩
    refine⟨_,rfl,b,_,2,_,rfl,rfl,f7.of (w.sm _ _ hb),rfl,_,rfl,_,rfl,M,_,rfl,dM _ w.la _ hin,W.as d.num,_,rfl,.inl (d9.of Dl0.as),rfl,A6 _,_,rfl,?_⟩
    rw[if_pos rfl,J1]
    by_cases c1:g∈d.aside.map (·.1)
    ·rw[decide_eq_true c1]
     refine g8 ⟨rfl,w.mod (fun _=>⟨rfl,rfl⟩) fun e he en=>⟨rfl,?_⟩⟩
     rw[O2 nd he hd2 en]
     show(P1 d.aside g x).map (·.1)=_
     rw[a6r,if_pos c1]
    ·rw[decide_eq_false c1]
     exact l7 ⟨_,rfl,_,rfl,M,_,rfl,dM _ w.la _ hin,.inl ⟨rfl,_,d9.of Dl0.as⟩,_,rfl,b,_,2,_,rfl,rfl,f7.of (w.sm _ _ hb),rfl,W.as d.num,_,_,rfl,rfl,Dl0.as,n6 (by rw[List.length_map,List.length_map];omega),rfl,w.setAs nd hd2 c1⟩
   obtain⟨rfl,w⟩:=hM
   refine R6 ⟨_,rfl,b,_,0,_,rfl,rfl,f7.of (w.sm _ _ hb),rfl,rfl,_,rfl,g8 ⟨rfl,rfl⟩⟩ ?_
   exact⟨_,rfl,b,_,0,_,rfl,rfl,f7.of (w.sm _ _ hb),rfl,rfl,_,rfl,g8 ⟨_,_,_,_,_,W,tr,rfl,w,by omega,oktr⟩⟩
  | @leave d hd2=>
   have hin:d.num∈C3 (f i):=List.mem_map.mpr ⟨d,hd2,rfl⟩
   have Dl0:=w.dl d hd2
   have bl:=bd.dl d hd2
   have dg:=dS Hc w.sn d.num
   rw[m9,if_pos hin]at dg
   refine⟨_,rfl,b,_,0,_,rfl,rfl,f7.of (w.sm _ _ hb),rfl,rfl,_,rfl,g8 ?_⟩
   refine⟨_,rfl,b,_,0,_,rfl,rfl,f7.of (w.sm _ _ hb),rfl,rfl,_,rfl,l7 ?_⟩
   refine⟨_,rfl,b,_,1,_,rfl,rfl,f7.of (w.sm _ _ hb),rfl,_,rfl,S,_,rfl,dg,_,rfl,l7 ?_⟩
   refine⟨_,rfl,b,_,1,_,rfl,rfl,f7.of (w.sm _ _ hb),rfl,?_⟩
   refine R6 ⟨_,rfl,b,_,0,_,rfl,rfl,f7.of (w.sm _ _ hb),rfl,rfl,_,rfl,g8 (g8 ⟨rfl,rfl⟩)⟩ ?_
   refine R6 ⟨_,rfl,b,_,0,_,rfl,rfl,f7.of (w.sm _ _ hb),rfl,rfl,_,rfl,g8 (g8 ⟨rfl,rfl⟩)⟩ ?_
   refine⟨fun σ' H'=>σ'=[some (.ref A),some (.ref Tl),some (.ref S),some (.ref L),some (.ref M),some (.ref R),some (.ref Y),some (.int (0+(i:Int))),some (.ref b),some (.int d.num),oA,oB]∧WA S L M R Y W H H' (J6 (f i) d.num) tr,?_,fun σ' H' hM=>?_⟩
   ·refine⟨_,rfl,b,_,0,_,rfl,rfl,f7.of (w.sm _ _ hb),rfl,rfl,_,rfl,l7 ?_⟩
    refine⟨_,rfl,S,rfl,.inl ⟨_,.inl w.sn⟩,_,rfl,_,Sum.inl d.num,.int (W.bg d.num),w.sn,rfl,?_,rfl,w.drop d.num⟩
    rw[m9,if_pos hin]
   obtain⟨rfl,w⟩:=hM
   exact⟨_,rfl,b,_,0,_,rfl,rfl,f7.of (w.sm _ _ hb),rfl,rfl,_,rfl,g8 ⟨_,_,_,_,_,W,tr,rfl,w,by omega,oktr⟩⟩
  | ended hd2 _=>exact absurd rfl (nofin _ hd2)
  | ring hd2 _=>exact absurd rfl (nofin _ hd2)
 ·obtain⟨o7,o8,o9,oA,oB,W,tr,rfl,w,ltr,oktr⟩:=z
  obtain⟨us,u1,u2⟩:=w.rc
  obtain⟨ws,y1,y2⟩:=w.ty
  refine⟨_,rfl,_,rfl,(by show 2≤sizeLine;decide),fun p hp=>?_⟩
  have sp:=c9 (o:=.tup [.ref R,.ref Y]) hp
  exact q p R Y us ws tr W.rl _ (w.sm.trans sp) b6 (sp _ _ u1) (Paired.mapP u2 fun _ _ z=>z.same sp) (sp _ _ y1) (Paired.mapP y2 fun _ _ z=>z.same sp) oktr
inductive a7o(K:PySem.W.Frag)(vs:List V)(H:Hp)(Q:VK):Prop
 | mk (l:Lk) (x:V) (x0:vs=[x]) (x1:a3i H l x) (xq:Q (.bl true) H)
def a0s(K:PySem.W.Frag):Sp:=fun vs H Q _=>a7o K vs H Q
theorem a2s(T:z8 K mg t):g7 P w K mg base x9 2 t.f__law_is_link t.d__law_is_link ["_law_found"] (a0s K):=by
 refine T.F__law_is_link.ok a2u (fun vs H Q E h=>?_) (fun cdv A outer s H vs Q E hr h=>?_)
 ·obtain⟨l,x,rfl,_⟩:=h
  rfl
 obtain⟨l,x,rfl,⟨a,rfl,ha⟩,q⟩:=h
 refine⟨_,(b9 (j9 (PW.pt (P8 (G0 (C0 (g9 C7 rfl T.m_isinstance boot_isinstance (a6 (pv 0) (a6 (J0 (v:=.ty "tuple") rfl T.m_tuple boot_tuple rfl) b7))))) (P5 (f6 P7 (g9 i5 rfl T.m_len PySem.boot_len (a6 (pv 0) b7)) d5 (i9 _)))))
 (d6 (i3 y6))
 j1)
 (b9 (j9 (PW.pt (P8 (G0 (C0 (j4 (g7.mono (k:=1) (X6 T) (by decide)) hr rfl T.m__law_whole T.F__law_whole.kp T.F__law_whole.b .nil j7 (a6 (d7 e7 (pv 0) d5 (fun _ _=>rfl)) b7)))) (P5 (G0 (C0 (j4 (g7.mono (k:=1) (X6 T) (by decide)) hr rfl T.m__law_whole T.F__law_whole.kp T.F__law_whole.b .nil j7 (a6 (d7 e7 (pv 0) d5 (fun _ _=>rfl)) b7)))))))
 (d6 (i3 y6))
 j1)
 (d6 (i3 (T1 (g9 C7 rfl T.m_isinstance boot_isinstance (a6 (d7 e7 (pv 0) d5 (fun _ _=>rfl)) (a6 (J0 (v:=.ty "str") rfl T.m_str boot_str rfl) b7))) (a0a (g9 C7 rfl T.m_isinstance boot_isinstance (a6 (d7 e7 (pv 0) d5 (fun _ _=>rfl)) (a6 (J0 (v:=.ty "str") rfl T.m_str boot_str rfl) b7))))))))),?_⟩
 have tq:=f7.of (K:=K) ha
 refine⟨_,rfl,.ref a,"tuple","tuple",rfl,.inr (.inl ⟨rfl,_,tq⟩),by decide,_,rfl,g8 ?_⟩
 refine⟨_,rfl,a,_,rfl,.inr tq,rfl,_,rfl,g8 ?_⟩
 refine⟨_,rfl,a,_,0,_,rfl,rfl,tq,rfl,_,"int",rfl,rfl,_,rfl,g8 ?_⟩
 refine⟨_,rfl,a,_,1,_,rfl,rfl,tq,rfl,_,"int",rfl,rfl,_,rfl,g8 ?_⟩
 refine⟨_,rfl,a,_,2,_,rfl,rfl,tq,rfl,_,"str","str",rfl,rfl,by decide,_,rfl,l7 ?_⟩
 exact⟨_,rfl,a,_,3,_,rfl,rfl,tq,rfl,_,"str","str",rfl,rfl,by decide,q⟩
inductive a8i(K:PySem.W.Frag)(vs:List V)(H:Hp)(Q:VK):Prop
 | mk (r:Addr) (ys:List V) (ls:List Lk) (x0:vs=[.ref r]) (x1:H r=some (.lst ys)) (x2:u3 H ls ys) (xq:Q (.bl true) H)
def a2m(K:PySem.W.Frag):Sp:=fun vs H Q _=>a8i K vs H Q
theorem u3.at{H:Hp}:∀{ls:List Lk} {xs:List V},u3 H ls xs→∀{i:Nat} {x:V},xs[i]?=some x→∃l,a3i H l x
 | _,_,.nil,i,x,e=>by simp at e
 | _,_,.cons r t,0,x,e=>by simp at e;subst e;exact⟨_,r⟩
 | _,_,.cons r t,i+1,x,e=>u3.at t (by simpa using e)
theorem a1n(T:z8 K mg t):g7 P w K mg base x9 3 t.f__law_are_links t.d__law_are_links ["_law_found"] (a2m K):=by
 refine T.F__law_are_links.ok X9 (fun vs H Q E h=>?_) (fun cdv A outer s H vs Q E hr h=>?_)
 ·obtain⟨r,ys,ls,rfl,_⟩:=h
  rfl
 obtain⟨r,ys,ls,rfl,hr0,hL,q⟩:=h
 refine⟨_,(b9 (j9 (G0 (C0 (g9 C7 rfl T.m_isinstance boot_isinstance (a6 (pv 0) (a6 (J0 (v:=.ty "list") rfl T.m_list boot_list rfl) b7)))))
 (d6 (i3 y6))
 j1)
 (b9 (z6 PassesOwn.never rfl (u4 (pv 0)) (l4 (i:=1) X9.nd rfl (Or.inl rfl))
 (d6 (j9 (G0 (C0 (j4 (g7.mono (k:=2) (a2s T) (by decide)) hr rfl T.m__law_is_link T.F__law_is_link.kp T.F__law_is_link.b .nil j7 (a6 (pv 1) b7))))
 (d6 (i3 y6))
 j1)))
 (d6 (i3 y6)))),?_⟩
 refine⟨_,rfl,.ref r,"list","list",rfl,.inl ⟨rfl,_,d9.of hr0⟩,by decide,_,rfl,g8 ?_⟩
 refine⟨_,rfl,r,rfl,⟨ys,d9.of hr0⟩,?_⟩
 refine A0 (xs:=ys) (fun i σ' H'=>H'=H∧∃o,σ'=[some (.ref r),o]) ⟨rfl,_,rfl⟩ (fun i σ' H' _ h=>?_) (fun i x σ' H' hx h=>?_) (fun σ' H' h=>?_)
 ·obtain⟨rfl,_⟩:=h
  exact d9.of hr0
 ·obtain⟨rfl,o,rfl⟩:=h
  obtain⟨l,hl⟩:=hL.at hx
  exact⟨_,rfl,l,x,rfl,hl,_,rfl,g8 ⟨rfl,_,rfl⟩⟩
 ·obtain⟨rfl,_⟩:=h
  exact q
theorem a9G{α:Type}[DecidableEq α]{l:List α}{i:Nat}{x:α}(nd:l.Nodup)(h:l[i]?=some x):x∉l.take i:=fun z=>by
 have nd':(l.take (i+1)).Nodup:=nd.sublist (List.take_sublist _ _)
 rw[List.take_add_one,h,Option.toList_some,List.nodup_append]at nd'
 exact nd'.2.2 x z x (by simp) rfl
inductive a6s(K:PySem.W.Frag)(vs:List V)(H:Hp)(Q:VK):Prop
 | mk (f:Addr) (rg:List Lk) (zs:List V) (x0:vs=[.ref f]) (x1:d9 K H f zs) (x2:u3 H rg zs) (x3:Ring rg) (x4:rg.length≤10000000) (x5:(∀l∈rg,PyData.strOk l.2.2.1=true∧PyData.strOk l.2.2.2=true)) (xq:∀H',h7 H H'→Q (.bl true) H')
def a7v(K:PySem.W.Frag):Sp:=fun vs H Q _=>a6s K vs H Q
theorem a3O:∀{ls:List Lk},(∀l∈ls,PyData.strOk l.2.2.1=true∧PyData.strOk l.2.2.2=true)→PyData.canLayAll0 (ls.map ld)=true
 | [],_=>by rw[List.map_nil,PyData.canLayAll0]
 | l::ls,h=>by
  obtain⟨a,b⟩:=h l List.mem_cons_self
  rw[List.map_cons,PyData.canLayAll0,a3O fun m hm=>h m (List.mem_cons_of_mem _ hm)]
  simp[ld,PyData.canLay0,PyData.canLayAll0]
  exact⟨a,b⟩
theorem a1B:∀ls:List Lk,PyData.depthAll (ls.map ld)≤2
 | []=>by rw[List.map_nil,PyData.depthAll];omega
 | l::ls=>by rw[List.map_cons,PyData.depthAll];have:=a1B ls;simp[ld,PyData.depth,PyData.depthAll];omega
set_option maxHeartbeats 0 in
theorem a9x(T:z8 K mg t):g7 P w K mg base x9 1 t.f__law_closes t.d__law_closes ["_law_found"] (a7v K):=by
 refine T.F__law_closes.ok U6 (fun vs H Q E h=>?_) (fun cdv A outer s H vs Q E hr h=>?_)
 ·obtain⟨f,rg,zs,rfl,_⟩:=h
  rfl
 obtain⟨f,rg,zs,rfl,hF,hL,RG,z1,hok,q⟩:=h
 refine⟨_,(b9 (g6 (i:=1) U6.nd rfl (Or.inl rfl) (j8 b7))
 (b9 (z6 PassesOwn.never rfl (V3 rfl T.m_range (a6 (g9 i5 rfl T.m_len PySem.boot_len (a6 (pv 0) b7)) b7)) (l4 (i:=2) U6.nd rfl (Or.inl rfl))
 (b9 (j9 (PW.pt (P8 (f6 L1 (d7 e7 (d7 j6 (pv 0) (pv 2) (fun _ _=>rfl)) d5 (fun _ _=>rfl)) (pv 1) (by with_unfolding_all rfl)) (P5 (f6 P7 (d7 e7 (d7 j6 (pv 0) (pv 2) (fun _ _=>rfl)) d5 (fun _ _=>rfl)) (d7 e7 (d7 j6 (pv 0) (i6 M4 (pv 2) d5) (fun _ _=>rfl)) d5 (fun _ _=>rfl)) (i9 _)))))
 (d6 (i3 y6))
 j1)
 (d6 (l6 (v3 PySem.F.plainAttrs_list PySem.F.slot_list_append PySem.F.type_list_append m8 (pv 1) (a6 (d7 e7 (d7 j6 (pv 0) (pv 2) (fun _ _=>rfl)) d5 (fun _ _=>rfl)) b7))))))
 (d6 (i3 (C5 (a7t hr.units) (pv 0) (j8 b7) (i9 _)))))),?_⟩
 have lz:=hL.len
 refine⟨(by show 0≤sizeLine;decide),fun sn hsn=>?_⟩
 refine⟨_,rfl,f,_,rfl,.inl (hF.same (c9 hsn)),_,rfl,by omega,by omega,?_⟩
 have en:(((zs.length:Nat):Int)).toNat=rg.length:=by omega
 rw[en]
 refine V6 (fun i σ' H'=>∃o2,σ'=[some (.ref f),some (.ref sn),o2]∧h7 H H'∧H' sn=some (.lst (((rg.take i).map (·.1)).map V.int)))
  ⟨none,rfl,c9 hsn,b6⟩ (fun i σ' H' hi h=>?_) (fun σ' H' h=>?_)
 ·obtain⟨o2,rfl,sm,h1⟩:=h
  have hn:=List.getElem?_eq_getElem hi
  have e0:(0:Int)+(i:Int)=((i:Nat):Int):=by omega
  obtain⟨x,hx,c,rfl,hc⟩:=a4d hL hn
  have ax:C6 zs ((0:Int)+(i:Int))=some (.ref c):=by rw[e0];exact j0 hx
  have hc:=f7.of (K:=K) (sm _ _ hc)
  obtain⟨m,hm,em⟩:=RG.next i _ hn
  obtain⟨y,hy,c',rfl,hc'⟩:=a4d hL hm
  have hc':=f7.of (K:=K) (sm _ _ hc')
  have ay:C6 zs ((0:Int)+(i:Int)-1)=some (.ref c'):=by
   by_cases z:i=0
   ·subst z
    rw[if_pos rfl]at hy
    exact b1g (by rw[lz];exact hy)
   ·rw[if_neg z]at hy
    rw[show(0:Int)+(i:Int)-1=((i-1:Nat):Int) by omega]
    exact j0 hy
  have tk:rg.take (i+1)=rg.take i++[rg[i]]:=by rw[List.take_add_one,hn];rfl
  have nin:(rg[i]).1∉(rg.take i).map (·.1):=by
   have:=a9G RG.nd (i:=i) (x:=(rg[i]).1) (by rw[List.getElem?_map,hn];rfl)
   rw[←List.map_take]at this;exact this
  generalize rg[i]=l at *
  refine⟨_,rfl,_,rfl,f,_,_,_,rfl,rfl,hF.same sm,ax,c,_,0,_,rfl,rfl,hc,rfl,_,rfl,sn,_,rfl,.inl (d9.of h1),rfl,a9V _,_,rfl,?_⟩
  rw[b9k,decide_eq_false nin]
  refine g8 ?_
  refine⟨_,rfl,_,rfl,f,_,_,_,rfl,rfl,hF.same sm,ax,c,_,0,_,rfl,rfl,hc,rfl,_,rfl,_,rfl,_,_,rfl,rfl,f,_,_,_,rfl,rfl,hF.same sm,ay,c',_,1,_,rfl,rfl,hc',rfl,rfl,_,rfl,V1 (by rw[em]) ?_⟩
  refine⟨_,rfl,.inl ⟨rfl,_,d9.of h1⟩,_,rfl,_,rfl,f,_,_,_,rfl,rfl,hF.same sm,ax,c,_,0,_,rfl,rfl,hc,rfl,sn,_,_,rfl,rfl,h1,n6 (by rw[List.length_map,List.length_map,List.length_take];omega),?_⟩
  refine⟨_,rfl,l8 sm hsn,?_⟩
  rw[b6,tk,List.map_append,List.map_append];rfl
 ·obtain⟨o2,rfl,sm,h1⟩:=h
  refine⟨_,rfl,(by show 0≤sizeLine;decide),fun e he=>?_⟩
  have s2:=sm.trans (c9 (o:=.lst []) he)
  refine⟨.list (rg.map ld),.list [],by unfold Rep;exact⟨f,_,rfl,hF.same s2,(hL.tupK s2.tupK).reps⟩,by unfold Rep;exact⟨e,[],rfl,d9.of b6,rfl⟩,?_,?_,?_,?_⟩
  ·unfold PyData.canLay0;exact a3O hok
  ·simp[PyData.canLay0,PyData.canLayAll0]
  ·have:=a1B rg;unfold PyData.depth;omega
  ·have ev:PyData.eqv (.list (rg.map ld)) (.list [])=false:=by
    cases hrg:rg with
    | nil=>exact absurd hrg RG.ne
    | cons l rg=>simp[PyData.eqv,PyData.eqvAll]
   rw[show(if true=true then !PyData.eqv (.list (rg.map ld)) (.list []) else PyData.eqv (.list (rg.map ld)) (.list []))=true by rw[ev];rfl]
   exact q _ s2
theorem b7b{v:K1}{m:Int}{am:Am}(nd:(v.map (·.1)).Nodup):((O3 v am m).map (·.1)).Nodup:=by
 induction am generalizing v with
 | nil=>exact nd
 | cons a am ih=>
  refine ih (v:=G4 v a.1 (m,a.2)) ?_
  rw[a9i];split
  ·exact nd
  ·rename_i z
   rw[List.nodup_append]
   refine⟨nd,by simp,fun x hx y hy e=>z ?_⟩
   rw[List.mem_singleton.mp hy]at e
   rw[←e];exact hx
theorem b0g{st st':k8}{d:m6}{a:G7}(h:(st.vers.map (·.1)).Nodup)(s:Step st d a st'):(st'.vers.map (·.1)).Nodup:=by
 cases s with
 | @sweep m _=>
  show((swV st.vers m).map (·.1)).Nodup
  unfold swV
  rw[List.map_map];exact h
 | ended _ _=>exact b7b h
 | _=>exact h
theorem Run.to{ds:List m6}{as:List G7}{st:k8}(R:Run Z0 ds as st)(okd:∀d∈ds,O9 d)(bn:ds.length≤63):∃f,Trace f ds as∧f ds.length=st:=by
 obtain⟨f,f0,f1,fs⟩:=R.trace
 have la:=a6w R
 have vb:∀i,i≤ds.length→((f i).vers.map (·.1)).Nodup∧Bd i (f i):=by
  intro i
  induction i with
  | zero=>intro _;rw[f0];exact⟨List.nodup_nil,bd0⟩
  | succ i ih=>
   intro h
   have hd:=List.getElem?_eq_getElem (l:=ds) (i:=i) (by omega)
   have ha:=List.getElem?_eq_getElem (l:=as) (i:=i) (by omega)
   obtain⟨v,b⟩:=ih (by omega)
   exact⟨b0g v (fs i _ _ hd ha),a6N (by omega) v b (fs i _ _ hd ha)⟩
 exact⟨f,⟨f0,fs,la,Run.oks (st:=st) f0 ok0 la fs,Run.gds f0 gd0 la okd fs,fun i h=>(vb i h).2⟩,f1⟩
theorem a4j{st:k8}(ok:G9 st){d:Dl}(hd:d∈st.under){e:Int}{r:Rec}(rc:J2 d e r){cs:List (List Lk)}(lw:LWs r st.recs cs)(l:Lk) :
  l∈st.links++cs.flatten↔∃o∈st.recs++[r],∃p∈st.recs++[r],o.num≠p.num∧a4f o p l:=by
 have dn:d.num∈st.under.map (·.num):=List.mem_map.mpr ⟨d,hd,rfl⟩
 have ne:∀o∈st.recs,o.num≠r.num:=fun o ho e=>(List.nodup_append.mp ok.un).2.2 o.num (List.mem_map.mpr ⟨o,ho,rfl⟩) d.num dn (by rw[e,rc.1])
 rw[List.mem_append,ok.mem,lw.mem]
 constructor
 ·rintro(⟨a,ha,b,hb,c,k⟩ | ⟨o,ho,k | k⟩)
  ·exact⟨a,List.mem_append_left _ ha,b,List.mem_append_left _ hb,c,k⟩
  ·exact⟨r,by simp,o,List.mem_append_left _ ho,(ne o ho).symm,k⟩
  ·exact⟨o,List.mem_append_left _ ho,r,by simp,ne o ho,k⟩
 ·rintro⟨a,ha,b,hb,c,k⟩
  rcases List.mem_append.mp ha with u | u<;>rcases List.mem_append.mp hb with v | v
  ·exact .inl ⟨a,u,b,v,c,k⟩
  ·rw[List.mem_singleton.mp v]at k;exact .inr ⟨a,u,.inr k⟩
  ·rw[List.mem_singleton.mp u]at k;exact .inr ⟨b,v,.inl k⟩
  ·rw[List.mem_singleton.mp u,List.mem_singleton.mp v]at c;exact absurd rfl c
theorem a7w{st:k8}(ok:G9 st){d:Dl}(hd:d∈st.under){r:Rec}(e:r.num=d.num):((st.recs++[r]).map (·.num)).Nodup:=by
 have u:=List.nodup_append.mp ok.un
 rw[List.map_append,List.nodup_append]
 refine⟨u.1,by simp,fun x hx y hy z=>?_⟩
 have:y=r.num:=by simpa using hy
 exact u.2.2 x hx d.num (List.mem_map.mpr ⟨d,hd,rfl⟩) (by rw[z,this,e])
theorem a7X{st:k8}(ok:G9 st){d:Dl}(hd:d∈st.under){r:Rec}{cs:List (List Lk)}{row:List Int}(E:a2E st d r cs row):¬a5E st.recs r:=by
 have lead:∀{o p:Rec},o∈st.recs++[r]→p∈st.recs++[r]→o.num≠p.num→lnk o p=true→ahead row o.num p.num:=fun {o p} ho hp hn hl=>by
  obtain⟨l,hl⟩:=a2O.mp hl
  have:=E.row.keeps l ((a4j ok hd E.rc E.lw l).mpr ⟨o,ho,p,hp,hn,hl⟩)
  rw[hl.1,hl.2.1]at this;exact this
 have uniq:∀(i j:Nat) (x:Int),row[i]?=some x→row[j]?=some x→i=j:=fun i j x hi hj=>(List.getElem?_inj (List.getElem?_eq_some_iff.mp hi).1 E.row.nd).mp (by rw[hi,hj])
 have tr:∀{x y z:Int},ahead row x y→ahead row y z→ahead row x z:=fun {x y z} ⟨i,j,a,b,c⟩ ⟨k,m,a',b',c'⟩=>by
  have:=uniq j k y c b'
  exact⟨i,m,by omega,b,c'⟩
 have far:∀o,Rch st.recs r o→o∈st.recs++[r]∧(o=r∨ahead row r.num o.num):=fun o h=>by
  induction h with
  | base=>exact⟨by simp,.inl rfl⟩
  | @step o p h1 hp hn hl hr ih=>
   have a:=lead ih.1 hp hn hl
   refine⟨hp,.inr ?_⟩
   rcases ih.2 with e | b
   ·rw[←e];exact a
   ·exact tr b a
 rintro⟨o,ro,no,lo⟩
 obtain⟨m,e | a⟩:=far o ro
 ·exact no (by rw[e])
 ·obtain⟨i,j,lt,b,c⟩:=tr a (lead m (by simp) no lo)
  have:=uniq i j _ b c
  omega
theorem a8Q{st:k8}(ok:G9 st){d:Dl}(hd:d∈st.under){r:Rec}{cs:List (List Lk)}{rg:List Lk}(E:a5l st d r cs rg):a5E st.recs r:=by
 have nd:=a7w ok hd E.rc.1
 have ends:∀l∈rg,∃o∈st.recs++[r],∃p∈st.recs++[r],o.num≠p.num∧lnk o p=true∧o.num=l.1∧p.num=l.2.1:=fun l hl=>by
  obtain⟨o,ho,p,hp,hn,k⟩:=(a4j ok hd E.rc E.lw l).mp (E.sub l hl)
  exact⟨o,ho,p,hp,hn,a2O.mpr ⟨l,k⟩,k.1.symm,k.2.1.symm⟩
 have lp:0<rg.length:=by
  cases hrg:rg with
  | nil=>exact absurd hrg E.ring.ne
  | cons a b=>simp
 have h0:(rg[0]).1=r.num:=by
  have:=E.hd
  rw[List.getElem?_map,List.getElem?_eq_getElem lp]at this
  have:(rg[0]).1=d.num:=Option.some.inj this
  rw[this,E.rc.1]
 have go:∀i,(hi:i<rg.length)→∃o,Rch st.recs r o∧o∈st.recs++[r]∧o.num=(rg[i]).1:=by
  intro i
  induction i with
  | zero=>intro _;exact⟨r,.base,by simp,h0.symm⟩
  | succ i ih=>
   intro hi
   obtain⟨o,ro,mo,no⟩:=ih (by omega)
   obtain⟨o',ho',p,hp,hn,hl,e1,e2⟩:=ends _ (List.getElem_mem (show i<rg.length by omega))
   have:o'=o:=a5d nd ho' mo (by rw[e1,no])
   subst this
   obtain⟨m,hm,e⟩:=E.ring.next (i+1) _ (List.getElem?_eq_getElem hi)
   rw[if_neg (by omega),show i+1-1=i by omega,List.getElem?_eq_getElem (show i<rg.length by omega)]at hm
   rw[←Option.some.inj hm]at e
   have pn:p.num≠r.num:=fun z=>by
    have a1:(rg.map (·.1))[i+1]?=some r.num:=by rw[List.getElem?_map,List.getElem?_eq_getElem hi];show some (rg[i+1]).1=_;rw[e,←e2,z]
    have a2:(rg.map (·.1))[0]?=some r.num:=by rw[List.getElem?_map,List.getElem?_eq_getElem lp];show some (rg[0]).1=_;rw[h0]
    have:=(List.getElem?_inj (l:=rg.map (·.1)) (i:=i+1) (j:=0) (by rw[List.length_map];exact hi) E.ring.nd).mp (by rw[a1,a2])
    omega
   exact⟨p,.step ro hp hn hl pn,hp,by rw[e,e2]⟩
 obtain⟨o,ro,mo,no⟩:=go (rg.length-1) (by omega)
 obtain⟨o',ho',p,hp,hn,hl,e1,e2⟩:=ends _ (List.getElem_mem (show rg.length-1<rg.length by omega))
 have:o'=o:=a5d nd ho' mo (by rw[e1,no])
 subst this
 obtain⟨m,hm,e⟩:=E.ring.next 0 _ (List.getElem?_eq_getElem lp)
 rw[if_pos rfl,List.getElem?_eq_getElem (show rg.length-1<rg.length by omega)]at hm
 rw[←Option.some.inj hm]at e
 have pr:p=r:=a5d nd hp (by simp) (by rw[e2,←e,h0])
 subst pr
 exact⟨o',ro,hn,hl⟩
inductive a0h(K:PySem.W.Frag)(vs:List V)(H:Hp)(Q:VK):Prop
 | mk (A Tl:Addr) (xs ys:List V) (ds:List m6) (as:List G7) (rl0:Addr→Role) (f:Nat→k8) (x0:vs=[.ref A,.ref Tl]) (x1:H A=some (.lst xs)) (x2:n9 H ds xs) (x3:H Tl=some (.lst ys)) (x4:Paired (G6 rl0 H) as ys) (x5:Trace f ds as) (x6:ds.length≤63) (xq:∀H',h7 H H'→Q (.bl true) H')
def a6h(K:PySem.W.Frag):Sp:=fun vs H Q _=>a0h K vs H Q
set_option maxHeartbeats 0 in
theorem a0k(T:z8 K mg t):g7 P w K mg base x9 3 t.f__law_ends_right t.d__law_ends_right ["_law_asked","_law_told"] (a6h K):=by
 refine T.F__law_ends_right.ok J5 (fun vs H Q E h=>?_) (fun cdv A outer s H vs Q E hr h=>?_)
 ·obtain⟨A,Tl,xs,ys,ds,as,rl0,f,rfl,_⟩:=h
  rfl
 obtain⟨A,Tl,xs,ys,ds,as,rl0,f,rfl,hA,hD,hT,pa,F,bn,q⟩:=h
 refine⟨_,(b9 (z6 PassesOwn.never rfl (u4 (d7 e7 (j4 (g7.mono (k:=2) (a2d T) (by decide)) hr rfl T.m__law_walked T.F__law_walked.kp T.F__law_walked.b .nil j7 (a6 (pv 0) (a6 (pv 1) b7))) d5 (fun _ _=>rfl))) (a3H rfl (N7 (l4 (i:=2) J5.nd rfl (Or.inl rfl)) (N7 (l4 (i:=3) J5.nd rfl (Or.inl rfl)) (N7 (l4 (i:=4) J5.nd rfl (Or.inl rfl)) a7z))))
 (d6 (j9 (f6 y9 (j4 (g7.mono (k:=2) (W5 T) (by decide)) hr rfl T.m__law_ended T.F__law_ended.kp T.F__law_ended.b .nil j7 (a6 (d7 j6 (pv 1) (pv 2) (fun _ _=>rfl)) b7)) (j4 (g7.mono (k:=2) (a2v T) (by decide)) hr rfl T.m__law_ringed T.F__law_ringed.kp T.F__law_ringed.b .nil j7 (a6 (pv 4) (a6 (pv 3) b7))) (i9 _))
 (d6 (i3 y6))
 j1)))
 (d6 (i3 y6))),?_⟩
 have la:=F.len
 have ly:=r6 pa
 refine⟨_,rfl,_,rfl,A,Tl,xs,ys,ds,as,rl0,f,rfl,hA,hD,hT,pa,F,bn,fun p R Y us ws tr rl H1 s1 hp hR pR hY pY okt=>⟨p,_,1,_,rfl,rfl,f7.of hp,rfl,Y,rfl,⟨_,d9.of hY⟩,?_⟩⟩
 refine A0 (xs:=ws) (fun j σ' Hc=>∃o2 o3 o4:Option V,σ'=[some (.ref A),some (.ref Tl),o2,o3,o4]∧h7 H1 Hc) ⟨none,none,none,rfl,h7.refl H1⟩ (fun j σ' Hc _ z=>?_) (fun j v σ' Hc hv z=>?_) (fun σ' Hc z=>?_)
 ·obtain⟨_,_,_,_,sc⟩:=z
  exact d9.of (sc _ _ hY)
 ·obtain⟨o2,o3,o4,rfl,sc⟩:=z
  obtain⟨⟨k,r,rs⟩,hy,b,lb,x,zs,rfl,hb,hx,hlb,_,pz⟩:=A4 pY hv
  obtain⟨d,a,hd,ha,hu,S,isr,ers⟩:=(okt _ (List.mem_of_getElem? hy)).ex
  have ers:rs=(f k).recs:=ers
  subst ers
  have S:Step (f k) (.fin d.num) a (f (k+1)):=S
  have isr:J2 d (((f k).recs.length:Int)+1) r:=isr
  have hu:d∈(f k).under:=hu
  have lk:k<as.length:=(List.getElem?_eq_some_iff.mp ha).1
  have hyi:=List.getElem?_eq_getElem (show k<ys.length by omega)
  obtain⟨a',ha',hya⟩:=A4 pa hyi
  have ha:as[k]?=some a:=ha
  rw[ha]at ha';cases ha'
  have ay:C6 ys (k:Int)=some ys[k]:=j0 hyi
  generalize ys[k]=y at ay hya hyi
  have ok:=F.oks k (by omega)
  have gd:=F.gds k (by omega)
  have bd:=F.bds k (by omega)
  have s2:=s1.trans sc
  have gr:=isr.good gd hu
  have l1:r.looked.length≤63:=by rw[isr.2.2.2.1.length_eq];have:=(bd.dl d hu).1;omega
  have l2:r.put.length≤63:=by rw[isr.2.2.2.2.1.length_eq,List.length_map];have:=(bd.dl d hu).2;omega
  refine⟨b,_,rfl,f7.of (sc _ _ hb),rfl,_,_,rfl,_,_,rfl,_,_,rfl,rfl,?_⟩
  refine⟨_,rfl,_,rfl,Tl,_,_,_,rfl,rfl,d9.of (s2 _ _ hT),ay,rl0,a,y,rfl,hya.same s2,_,rfl,_,rfl,lb,x,zs,(f k).recs,r,rl,rfl,sc _ _ hlb,Paired.mapP pz fun _ _ z=>z.same sc,hx.same sc,a7w ok hu isr.1,fun o ho=>?_,by have:=bd.rc;omega,fun H3 s3 lo=>?_,fun H3 s3 lo=>?_⟩
  ·rcases List.mem_append.mp ho with ho | ho
   ·exact⟨⟨gd.rl o ho,gd.rp o ho⟩,by have:=(bd.rs o ho).2;omega,by have:=(bd.rs o ho).1;omega⟩
   ·rw[List.mem_singleton.mp ho];exact⟨gr,l1,l2⟩
  ·have ea:isE a=false:=by
    generalize e:m6.fin d.num=dd at S
    generalize f (k+1)=st1 at S
    cases S with
    | @ended d' r' cs' row' hd' E'=>
     injection e with e1
     have:=O2 (List.nodup_append.mp ok.un).2.1 hu hd' e1
     subst this
     have er:r=r':=a6k isr E'.rc
     subst er
     exact absurd lo (a7X ok hu E')
    | ring _ _=>rfl
    | none _ _=>rfl
    | own _ _=>cases e
    | look _ _=>cases e
    | put _=>cases e
    | leave _=>cases e
    | begin=>cases e
    | sweep _=>cases e
   rw[ea]
   exact⟨rfl,_,rfl,g8 ⟨_,_,_,rfl,sc.trans s3⟩⟩
  ·have ea:isE a=true:=by
    generalize e:m6.fin d.num=dd at S
    generalize f (k+1)=st1 at S
    cases S with
    | ended _ _=>rfl
    | @ring d' r' cs' rg' hd' E'=>
     injection e with e1
     have:=O2 (List.nodup_append.mp ok.un).2.1 hu hd' e1
     subst this
     have er:r=r':=a6k isr E'.rc
     subst er
     exact absurd (a8Q ok hu E') lo
    | @none _ n h1 h2=>subst e;cases h1;exact absurd (List.mem_map.mpr ⟨d,hu,rfl⟩) h2
    | own _ _=>cases e
    | look _ _=>cases e
    | put _=>cases e
    | leave _=>cases e
    | begin=>cases e
    | sweep _=>cases e
   rw[ea]
   exact⟨rfl,_,rfl,g8 ⟨_,_,_,rfl,sc.trans s3⟩⟩
 ·obtain⟨_,_,_,rfl,sc⟩:=z
  exact q _ (s1.trans sc)
inductive a6C(K:PySem.W.Frag)(vs:List V)(H:Hp)(Q:VK):Prop
 | mk (l:Lk) (o p:Rec) (x y z:V) (x0:vs=[x,y,z]) (x1:a3i H l x) (x2:RecAt K H o y) (x3:RecAt K H p z) (x4:a4f o p l) (xq:Q (.bl true) H)
def a8G(K:PySem.W.Frag):Sp:=fun vs H Q _=>a6C K vs H Q
theorem a2L(T:z8 K mg t):g7 P w K mg base x9 1 t.f__law_true t.d__law_true ["_law_link","_law_one","_law_other"] (a8G K):=by
 refine T.F__law_true.ok a9h (fun vs H Q E h=>?_) (fun cdv A outer s H vs Q E hr h=>?_)
 ·obtain⟨l,o,p,x,y,z,rfl,_⟩:=h
  rfl
 obtain⟨⟨n,m,g,why⟩,o,p,x,y,z,rfl,⟨a,rfl,ha⟩,⟨b1,la1,pa1,rfl,t1,l1,u1⟩,⟨b2,la2,pa2,rfl,t2,l2,u2⟩,⟨_,_,h⟩,q⟩:=h
 refine⟨_,(b9 (g6 (i:=3) a9h.nd rfl (Or.inl rfl) (d7 e7 (pv 0) d5 (fun _ _=>rfl)))
 (b9 (j9 (f6 y9 (d7 e7 (pv 0) d5 (fun _ _=>rfl)) i7 (i9 _))
 (d6 (i3 (T1 (C5 L1 (pv 3) (d7 e7 (pv 1) d5 (fun _ _=>rfl)) (by with_unfolding_all rfl)) (T1 (C5 L1 (pv 3) (d7 e7 (pv 2) d5 (fun _ _=>rfl)) (by with_unfolding_all rfl)) (a0a (C5 Y0 (d7 e7 (pv 1) d5 (fun _ _=>rfl)) (d7 e7 (pv 2) d5 (fun _ _=>rfl)) (i9 _)))))))
 j1)
 (b9 (j9 (f6 y9 (d7 e7 (pv 0) d5 (fun _ _=>rfl)) i7 (i9 _))
 (d6 (i3 (T1 (C5 L1 (pv 3) (d7 e7 (pv 1) d5 (fun _ _=>rfl)) (by with_unfolding_all rfl)) (T1 (C5 L1 (pv 3) (d7 e7 (pv 2) d5 (fun _ _=>rfl)) (by with_unfolding_all rfl)) (a0a (C5 a7E (d7 e7 (pv 1) d5 (fun _ _=>rfl)) (d7 e7 (pv 2) d5 (fun _ _=>rfl)) (i9 _)))))))
 j1)
 (b9 (j9 (PW.pt (P8 (f6 P7 (d7 e7 (pv 0) d5 (fun _ _=>rfl)) i7 (i9 _)) (P5 (f6 b1h (d7 e7 (pv 1) d5 (fun _ _=>rfl)) (d7 e7 (pv 2) d5 (fun _ _=>rfl)) (i9 _)))))
 (d6 (i3 y6))
 j1)
 (d6 (i3 (T1 (C5 L1 (pv 3) (d7 e7 (pv 1) d5 (fun _ _=>rfl)) (by with_unfolding_all rfl)) (a0a (C5 L1 (pv 3) (d7 e7 (pv 2) d5 (fun _ _=>rfl)) (by with_unfolding_all rfl)))))))))),?_⟩
 have tq:=f7.of (K:=K) ha
 dsimp only at h
 refine⟨_,rfl,a,_,2,_,rfl,rfl,tq,rfl,?_⟩
 rcases h with ⟨rfl,c,i,j⟩ | ⟨rfl,c,i,j⟩ | ⟨rfl,c,i,j⟩
 ·refine⟨_,rfl,a,_,3,_,rfl,rfl,tq,rfl,rfl,_,rfl,l7 ?_⟩
  refine⟨_,rfl,_,rfl,b1,_,4,_,rfl,rfl,t1,rfl,pa1,_,rfl,.inl u1,rfl,A6 _,_,rfl,?_⟩
  rw[J1,decide_eq_true i]
  refine l7 ⟨_,rfl,_,rfl,b2,_,4,_,rfl,rfl,t2,rfl,pa2,_,rfl,.inl u2,rfl,A6 _,_,rfl,?_⟩
  rw[J1,decide_eq_true j]
  refine l7 ⟨_,rfl,b1,_,2,_,rfl,rfl,t1,rfl,_,rfl,b2,_,2,_,rfl,rfl,t2,rfl,_,_,rfl,rfl,?_⟩
  have q':Q (.bl (decide (o.fin<p.fin))) H:=by rw[decide_eq_true c];exact q
  exact q'
 ·refine⟨_,rfl,a,_,3,_,rfl,rfl,tq,rfl,rfl,_,rfl,g8 ?_⟩
  refine⟨_,rfl,a,_,3,_,rfl,rfl,tq,rfl,rfl,_,rfl,l7 ?_⟩
  refine⟨_,rfl,_,rfl,b1,_,4,_,rfl,rfl,t1,rfl,pa1,_,rfl,.inl u1,rfl,A6 _,_,rfl,?_⟩
  rw[J1,decide_eq_true i]
  refine l7 ⟨_,rfl,_,rfl,b2,_,3,_,rfl,rfl,t2,rfl,la2,_,rfl,.inl l2,rfl,A6 _,_,rfl,?_⟩
  rw[J1,decide_eq_true j]
  refine l7 ⟨_,rfl,b1,_,2,_,rfl,rfl,t1,rfl,_,rfl,b2,_,1,_,rfl,rfl,t2,rfl,_,_,rfl,rfl,?_⟩
  have q':Q (.bl (decide (o.fin≤p.beg))) H:=by rw[decide_eq_true c];exact q
  exact q'
 ·refine⟨_,rfl,a,_,3,_,rfl,rfl,tq,rfl,rfl,_,rfl,g8 ?_⟩
  refine⟨_,rfl,a,_,3,_,rfl,rfl,tq,rfl,rfl,_,rfl,g8 ?_⟩
  refine⟨_,rfl,a,_,3,_,rfl,rfl,tq,rfl,rfl,_,rfl,V1 rfl ?_⟩
  refine⟨_,rfl,b1,_,1,_,rfl,rfl,t1,rfl,_,rfl,b2,_,2,_,rfl,rfl,t2,rfl,_,_,rfl,rfl,_,rfl,?_⟩
  rw[decide_eq_false (by omega)]
  refine g8 ⟨_,rfl,_,rfl,b1,_,3,_,rfl,rfl,t1,rfl,la1,_,rfl,.inl l1,rfl,A6 _,_,rfl,?_⟩
  rw[J1,decide_eq_true i]
  refine l7 ⟨_,rfl,_,rfl,b2,_,4,_,rfl,rfl,t2,rfl,pa2,_,rfl,.inl u2,rfl,A6 _,?_⟩
  rw[J1,decide_eq_true j];exact q
inductive a1j(K:PySem.W.Frag)(vs:List V)(H:Hp)(Q:VK):Prop
 | mk (n:Int) (x0:vs=[.int n]) (xq:∀(r:Addr) (xs:List V) (ds:List m6) (H':Hp),h7 H H'→H r=none→H' r=some (.lst xs)→n9 H' ds xs→ds.length≤14→(∀d∈ds,O9 d)→Q (.ref r) H')
def a5m(K:PySem.W.Frag):Sp:=fun vs H Q _=>a1j K vs H Q
set_option maxHeartbeats 0 in
theorem a9m(T:z8 K mg t):g7 P w K mg base x9 1 t.f__law_in_a_ring t.d__law_in_a_ring ["_law_seed"] (a5m K):=by
 refine T.F__law_in_a_ring.ok A1 (fun vs H Q E h=>?_) (fun cdv A outer s H vs Q E hr h=>?_)
 ·obtain⟨n,rfl,_⟩:=h
  rfl
 obtain⟨n,rfl,q⟩:=h
 refine⟨_,(b9 (g6 (i:=1) A1.nd rfl (Or.inl rfl) (d7 j6 (j8 (a6 (j8 (a6 i7 (a6 i7 (a6 i7 b7)))) (a6 (j8 (a6 i7 (a6 i7 (a6 i7 b7)))) (a6 (j8 (a6 i7 (a6 i7 (a6 i7 b7)))) b7)))) (i6 A7 (pv 0) d5) (fun _ _=>rfl)))
 (b9 (g6 (i:=2) A1.nd rfl (Or.inl rfl) (d7 j6 (pv 1) d5 (fun _ _=>rfl)))
 (b9 (g6 (i:=3) A1.nd rfl (Or.inl rfl) (d7 j6 (pv 1) d5 (fun _ _=>rfl)))
 (b9 (g6 (i:=4) A1.nd rfl (Or.inl rfl) (j8 (a6 (p6 (a6 i7 b7)) (a6 (p6 (a6 i7 b7)) (a6 (p6 (a6 i7 (a6 d5 (a6 (pv 3) b7)))) (a6 (p6 (a6 i7 (a6 d5 (a6 (pv 2) b7)))) (a6 (p6 (a6 i7 (a6 d5 (a6 (pv 2) (a6 d5 b7))))) b7)))))))
 (b9 (g6 (i:=4) A1.nd rfl (Or.inl rfl) (i6 N3 (pv 4) (j8 (a6 (p6 (a6 i7 (a6 d5 (a6 (pv 3) b7)))) (a6 (p6 (a6 i7 (a6 d5 (a6 (pv 3) (a6 d5 b7))))) (a6 (p6 (a6 i7 (a6 d5 b7))) (a6 (p6 (a6 i7 b7)) b7)))))))
 (b9 (g6 (i:=4) A1.nd rfl (Or.inl rfl) (i6 N3 (pv 4) (j8 (a6 (p6 (a6 i7 (a6 d5 (a6 (pv 2) b7)))) (a6 (p6 (a6 i7 (a6 d5 (a6 (pv 3) b7)))) b7)))))
 (b9 (N5 (j9 (f6 y9 (i6 A7 (i6 Y7 (pv 0) d5) d5) d5 (i9 _))
 (d6 (l6 (v3 PySem.F.plainAttrs_list PySem.F.slot_list_append PySem.F.type_list_append m8 (pv 4) (a6 (p6 (a6 i7 (a6 d5 (a6 (d7 j6 (pv 1) d5 (fun _ _=>rfl)) (a6 d5 b7))))) b7))))
 j1))
 (d6 (i3 (i6 N3 (pv 4) (j8 (a6 (p6 (a6 i7 (a6 d5 b7))) (a6 (p6 (a6 i7 (a6 d5 b7))) b7))))))))))))),?_⟩
 refine⟨(by show 3≤sizeLine;decide),fun c1 h1=>⟨(by show 3≤sizeLine;decide),fun c2 h2=>⟨(by show 3≤sizeLine;decide),fun c3 h3=>⟨(by show 3≤sizeLine;decide),fun c4 h4=>?_⟩⟩⟩⟩
 have s1:=c9 (o:=.lst [.str "a",.str "",.str "a b~"]) h1
 have s2:=c9 (o:=.lst [.str "",.str "a b~",.str "a"]) h2
 have s3:=c9 (o:=.lst [.str "a b~",.str "a",.str ""]) h3
 have s4:=c9 (o:=.lst [.ref c1,.ref c2,.ref c3]) h4
 have k1:=s4 _ _ (s3 _ _ (s2 _ _ (b6 (H:=H) (a:=c1) (o:=.lst [.str "a",.str "",.str "a b~"]))))
 have k2:=s4 _ _ (s3 _ _ (b6 (H:=upd H c1 (.lst [.str "a",.str "",.str "a b~"])) (a:=c2) (o:=.lst [.str "",.str "a b~",.str "a"])))
 have k3:=s4 _ _ (b6 (H:=upd (upd H c1 (.lst [.str "a",.str "",.str "a b~"])) c2 (.lst [.str "",.str "a b~",.str "a"])) (a:=c3) (o:=.lst [.str "a b~",.str "a",.str ""]))
 have k4:=b6 (H:=upd (upd (upd H c1 (.lst [.str "a",.str "",.str "a b~"])) c2 (.lst [.str "",.str "a b~",.str "a"])) c3 (.lst [.str "a b~",.str "a",.str ""])) (a:=c4) (o:=.lst [.ref c1,.ref c2,.ref c3])
 have S0:=((s1.trans s2).trans s3).trans s4
 generalize upd (upd (upd (upd H c1 (.lst [.str "a",.str "",.str "a b~"])) c2 (.lst [.str "",.str "a b~",.str "a"])) c3 (.lst [.str "a b~",.str "a",.str ""])) c4 (.lst [.ref c1,.ref c2,.ref c3])=H0 at k1 k2 k3 k4 S0 ⊢
 clear s1 s2 s3 s4 h1 h2 h3 h4
 have pick:∃(c:Addr) (g0 g1 g2:Str),C6 [V.ref c1,V.ref c2,V.ref c3] (n % 3)=some (.ref c)∧H0 c=some (.lst [.str g0,.str g1,.str g2])∧F6 g0∧F6 g1∧F6 g2:=by
  have wa:F6 "a":=⟨by decide +kernel,by decide⟩
  have we:F6 "":=⟨by decide +kernel,by decide⟩
  have wb:F6 "a b~":=⟨by decide +kernel,by decide⟩
  have e:n % 3=((0:Nat):Int)∨n % 3=((1:Nat):Int)∨n % 3=((2:Nat):Int):=by omega
  rcases e with e | e | e
  ·rw[e];exact⟨_,_,_,_,j0 rfl,k1,wa,we,wb⟩
  ·rw[e];exact⟨_,_,_,_,j0 rfl,k2,we,wb,wa⟩
  ·rw[e];exact⟨_,_,_,_,j0 rfl,k3,wb,wa,we⟩
 obtain⟨c,g0,g1,g2,hix,hc,w0,w1,w2⟩:=pick
 clear k1 k2 k3
 refine⟨_,rfl,_,_,rfl,rfl,(by show(0:Int)<3;decide),c4,_,_,_,rfl,rfl,d9.of k4,hix,?_⟩
 refine⟨_,rfl,c,_,0,_,rfl,rfl,d9.of hc,rfl,?_⟩
 refine⟨_,rfl,c,_,1,_,rfl,rfl,d9.of hc,rfl,?_⟩
 have D0:n9 H0 [] []:=.nil
 refine⟨(by show 1≤sizeLine;decide),fun p1 hp1=>?_⟩
 have t1:=c9 (o:=.tup [.str "begin"]) hp1
 have D1:=n9.snoc (d:=.begin) ⟨p1,rfl,b6 (o:=.tup [.str "begin"])⟩ (D0.tupK t1.tupK)
 have S1:=S0.trans t1
 have hc:=t1 _ _ hc
 generalize upd H0 p1 (.tup [.str "begin"])=H1 at t1 D1 S1 hc ⊢
 clear t1 hp1
 refine⟨(by show 1≤sizeLine;decide),fun p2 hp2=>?_⟩
 have t2:=c9 (o:=.tup [.str "begin"]) hp2
 have D2:=n9.snoc (d:=.begin) ⟨p2,rfl,b6 (o:=.tup [.str "begin"])⟩ (D1.tupK t2.tupK)
 have S2:=S1.trans t2
 have hc:=t2 _ _ hc
 generalize upd H1 p2 (.tup [.str "begin"])=H2 at t2 D2 S2 hc ⊢
 clear t2 hp2
 refine⟨_,rfl,(by show 3≤sizeLine;decide),fun p3 hp3=>?_⟩
 have t3:=c9 (o:=.tup [.str "look",.int 0,.str g1]) hp3
 have D3:=n9.snoc (d:=.look 0 g1) ⟨p3,rfl,b6 (o:=.tup [.str "look",.int 0,.str g1])⟩ (D2.tupK t3.tupK)
 have S3:=S2.trans t3
 have hc:=t3 _ _ hc
 generalize upd H2 p3 (.tup [.str "look",.int 0,.str g1])=H3 at t3 D3 S3 hc ⊢
 clear t3 hp3
 refine⟨_,rfl,(by show 3≤sizeLine;decide),fun p4 hp4=>?_⟩
 have t4:=c9 (o:=.tup [.str "look",.int 0,.str g0]) hp4
 have D4:=n9.snoc (d:=.look 0 g0) ⟨p4,rfl,b6 (o:=.tup [.str "look",.int 0,.str g0])⟩ (D3.tupK t4.tupK)
 have S4:=S3.trans t4
 have hc:=t4 _ _ hc
 generalize upd H3 p4 (.tup [.str "look",.int 0,.str g0])=H4 at t4 D4 S4 hc ⊢
 clear t4 hp4
 refine⟨_,rfl,(by show 4≤sizeLine;decide),fun p5 hp5=>?_⟩
 have t5:=c9 (o:=.tup [.str "put",.int 0,.str g0,.int 1]) hp5
 have D5:=n9.snoc (d:=.put 0 g0 1) ⟨p5,rfl,b6 (o:=.tup [.str "put",.int 0,.str g0,.int 1])⟩ (D4.tupK t5.tupK)
 have S5:=S4.trans t5
 have hc:=t5 _ _ hc
 generalize upd H4 p5 (.tup [.str "put",.int 0,.str g0,.int 1])=H5 at t5 D5 S5 hc ⊢
 clear t5 hp5
 refine⟨(by show 5≤sizeLine;decide),fun m1 hm1=>?_⟩
 have t6:=c9 (o:=.lst [.ref p1,.ref p2,.ref p3,.ref p4,.ref p5]) hm1
 have hLm1:(upd H5 m1 (.lst [.ref p1,.ref p2,.ref p3,.ref p4,.ref p5])) m1=_:=b6
 have nm1:=j2 S5 hm1
 have D6:=D5.tupK t6.tupK
 have S6:=S5.trans t6
 have hc:=t6 _ _ hc
 generalize upd H5 m1 (.lst [.ref p1,.ref p2,.ref p3,.ref p4,.ref p5])=H6 at t6 D6 S6 hLm1 hc ⊢
 clear t6 hm1
 refine⟨_,rfl,?_⟩
 refine⟨_,rfl,(by show 3≤sizeLine;decide),fun p7 hp7=>?_⟩
 have t7:=c9 (o:=.tup [.str "look",.int 1,.str g1]) hp7
 have D7:=n9.snoc (d:=.look 1 g1) ⟨p7,rfl,b6 (o:=.tup [.str "look",.int 1,.str g1])⟩ (D6.tupK t7.tupK)
 have S7:=S6.trans t7
 have hc:=t7 _ _ hc
 have hLm1:=t7 _ _ hLm1
 generalize upd H6 p7 (.tup [.str "look",.int 1,.str g1])=H7 at t7 D7 S7 hc hLm1 ⊢
 clear t7 hp7
 refine⟨_,rfl,(by show 4≤sizeLine;decide),fun p8 hp8=>?_⟩
 have t8:=c9 (o:=.tup [.str "put",.int 1,.str g1,.int 2]) hp8
 have D8:=n9.snoc (d:=.put 1 g1 2) ⟨p8,rfl,b6 (o:=.tup [.str "put",.int 1,.str g1,.int 2])⟩ (D7.tupK t8.tupK)
 have S8:=S7.trans t8
 have hc:=t8 _ _ hc
 have hLm1:=t8 _ _ hLm1
 generalize upd H7 p8 (.tup [.str "put",.int 1,.str g1,.int 2])=H8 at t8 D8 S8 hc hLm1 ⊢
 clear t8 hp8
 refine⟨(by show 2≤sizeLine;decide),fun p9 hp9=>?_⟩
 have t9:=c9 (o:=.tup [.str "end",.int 1]) hp9
 have D9:=n9.snoc (d:=.fin 1) ⟨p9,rfl,b6 (o:=.tup [.str "end",.int 1])⟩ (D8.tupK t9.tupK)
 have S9:=S8.trans t9
 have hc:=t9 _ _ hc
 have hLm1:=t9 _ _ hLm1
 generalize upd H8 p9 (.tup [.str "end",.int 1])=H9 at t9 D9 S9 hc hLm1 ⊢
 clear t9 hp9
 refine⟨(by show 1≤sizeLine;decide),fun p10 hp10=>?_⟩
 have t10:=c9 (o:=.tup [.str "begin"]) hp10
 have D10:=n9.snoc (d:=.begin) ⟨p10,rfl,b6 (o:=.tup [.str "begin"])⟩ (D9.tupK t10.tupK)
 have S10:=S9.trans t10
 have hc:=t10 _ _ hc
 have hLm1:=t10 _ _ hLm1
 generalize upd H9 p10 (.tup [.str "begin"])=H10 at t10 D10 S10 hc hLm1 ⊢
 clear t10 hp10
 refine⟨(by show 4≤sizeLine;decide),fun m2 hm2=>?_⟩
 have t11:=c9 (o:=.lst [.ref p7,.ref p8,.ref p9,.ref p10]) hm2
 have hLm2:(upd H10 m2 (.lst [.ref p7,.ref p8,.ref p9,.ref p10])) m2=_:=b6
 have nm2:=j2 S10 hm2
 have D11:=D10.tupK t11.tupK
 have S11:=S10.trans t11
 have hc:=t11 _ _ hc
 have hLm1:=t11 _ _ hLm1
 generalize upd H10 m2 (.lst [.ref p7,.ref p8,.ref p9,.ref p10])=H11 at t11 D11 S11 hLm2 hc hLm1 ⊢
 clear t11 hm2
 refine⟨_,_,_,_,rfl,rfl,hLm1,hLm2,(by show 9≤sizeLine;decide),fun m3 hm3=>?_⟩
 have t12:=c9 (o:=.lst ([.ref p1,.ref p2,.ref p3,.ref p4,.ref p5]++[.ref p7,.ref p8,.ref p9,.ref p10])) hm3
 have hLm3:(upd H11 m3 (.lst ([.ref p1,.ref p2,.ref p3,.ref p4,.ref p5]++[.ref p7,.ref p8,.ref p9,.ref p10]))) m3=some (.lst [.ref p1,.ref p2,.ref p3,.ref p4,.ref p5,.ref p7,.ref p8,.ref p9,.ref p10]):=b6
 have nm3:=j2 S11 hm3
 have D12:=D11.tupK t12.tupK
 have S12:=S11.trans t12
 have hc:=t12 _ _ hc
 generalize upd H11 m3 (.lst ([.ref p1,.ref p2,.ref p3,.ref p4,.ref p5]++[.ref p7,.ref p8,.ref p9,.ref p10]))=H12 at t12 D12 S12 hLm3 hc ⊢
 clear t12 hm3
 refine⟨_,rfl,?_⟩
 refine⟨_,rfl,(by show 3≤sizeLine;decide),fun p13 hp13=>?_⟩
 have t13:=c9 (o:=.tup [.str "look",.int 2,.str g0]) hp13
 have D13:=n9.snoc (d:=.look 2 g0) ⟨p13,rfl,b6 (o:=.tup [.str "look",.int 2,.str g0])⟩ (D12.tupK t13.tupK)
 have S13:=S12.trans t13
 have hc:=t13 _ _ hc
 have hLm3:=t13 _ _ hLm3
 generalize upd H12 p13 (.tup [.str "look",.int 2,.str g0])=H13 at t13 D13 S13 hc hLm3 ⊢
 clear t13 hp13
 refine⟨_,rfl,(by show 3≤sizeLine;decide),fun p14 hp14=>?_⟩
 have t14:=c9 (o:=.tup [.str "look",.int 2,.str g1]) hp14
 have D14:=n9.snoc (d:=.look 2 g1) ⟨p14,rfl,b6 (o:=.tup [.str "look",.int 2,.str g1])⟩ (D13.tupK t14.tupK)
 have S14:=S13.trans t14
 have hc:=t14 _ _ hc
 have hLm3:=t14 _ _ hLm3
 generalize upd H13 p14 (.tup [.str "look",.int 2,.str g1])=H14 at t14 D14 S14 hc hLm3 ⊢
 clear t14 hp14
 refine⟨(by show 2≤sizeLine;decide),fun m4 hm4=>?_⟩
 have t15:=c9 (o:=.lst [.ref p13,.ref p14]) hm4
 have hLm4:(upd H14 m4 (.lst [.ref p13,.ref p14])) m4=_:=b6
 have nm4:=j2 S14 hm4
 have D15:=D14.tupK t15.tupK
 have S15:=S14.trans t15
 have hc:=t15 _ _ hc
 have hLm3:=t15 _ _ hLm3
 generalize upd H14 m4 (.lst [.ref p13,.ref p14])=H15 at t15 D15 S15 hLm4 hc hLm3 ⊢
 clear t15 hm4
 refine⟨_,_,_,_,rfl,rfl,hLm3,hLm4,(by show 11≤sizeLine;decide),fun m5 hm5=>?_⟩
 have t16:=c9 (o:=.lst ([.ref p1,.ref p2,.ref p3,.ref p4,.ref p5,.ref p7,.ref p8,.ref p9,.ref p10]++[.ref p13,.ref p14])) hm5
 have hLm5:(upd H15 m5 (.lst ([.ref p1,.ref p2,.ref p3,.ref p4,.ref p5,.ref p7,.ref p8,.ref p9,.ref p10]++[.ref p13,.ref p14]))) m5=some (.lst [.ref p1,.ref p2,.ref p3,.ref p4,.ref p5,.ref p7,.ref p8,.ref p9,.ref p10,.ref p13,.ref p14]):=b6
 have nm5:=j2 S15 hm5
 have D16:=D15.tupK t16.tupK
 have S16:=S15.trans t16
 have hc:=t16 _ _ hc
 generalize upd H15 m5 (.lst ([.ref p1,.ref p2,.ref p3,.ref p4,.ref p5,.ref p7,.ref p8,.ref p9,.ref p10]++[.ref p13,.ref p14]))=H16 at t16 D16 S16 hLm5 hc ⊢
 clear t16 hm5
 have D:n9 H16 [.begin,.begin,.look 0 g1,.look 0 g0,.put 0 g0 1,.look 1 g1,.put 1 g1 2,.fin 1,.begin,.look 2 g0,.look 2 g1] [.ref p1,.ref p2,.ref p3,.ref p4,.ref p5,.ref p7,.ref p8,.ref p9,.ref p10,.ref p13,.ref p14]:=D16
 have ok:∀d∈([.begin,.begin,.look 0 g1,.look 0 g0,.put 0 g0 1,.look 1 g1,.put 1 g1 2,.fin 1,.begin,.look 2 g0,.look 2 g1]:List m6),O9 d:=fun d hd=>by
  simp only[List.mem_cons,List.not_mem_nil,or_false]at hd
  rcases hd with rfl | rfl | rfl | rfl | rfl | rfl | rfl | rfl | rfl | rfl | rfl<;>first | trivial | exact w0 | exact w1
 generalize hds:([.begin,.begin,.look 0 g1,.look 0 g0,.put 0 g0 1,.look 1 g1,.put 1 g1 2,.fin 1,.begin,.look 2 g0,.look 2 g1]:List m6)=ds at D ok
 generalize [V.ref p1,V.ref p2,V.ref p3,V.ref p4,V.ref p5,V.ref p7,V.ref p8,V.ref p9,V.ref p10,V.ref p13,V.ref p14]=xs at D hLm5
 have lds:ds.length=11:=by rw[←hds];rfl
 have lxs:xs.length=11:=by rw[D.len,lds]
 clear hds hLm1 hLm2 hLm3 hLm4
 refine⟨fun σ' H'=>∃xs ds,σ'=[some (.int n),some (.ref c),some (.str g0),some (.str g1),some (.ref m5)]∧h7 H H'∧H' m5=some (.lst xs)∧n9 H' ds xs∧ds.length≤12∧∀d∈ds,O9 d,?_,fun σ' H' hM=>?_⟩
 ·refine⟨_,rfl,_,_,rfl,rfl,⟨by decide,by decide⟩,_,_,rfl,rfl,(by show(0:Int)<2;decide),rfl,_,rfl,G8 (fun _=>?_) (fun _=>?_)⟩
  ·refine⟨_,rfl,.inl ⟨rfl,_,d9.of hLm5⟩,_,rfl,c,_,2,_,rfl,rfl,d9.of hc,rfl,(by show 4≤sizeLine;decide),fun p hp=>?_⟩
   have t:=c9 (o:=.tup [.str "put",.int 2,.str g2,.int 3]) hp
   have hL:=t _ _ hLm5
   refine⟨m5,_,_,rfl,rfl,hL,n6 (by omega),_,ds++[.put 2 g2 3],rfl,l8 (S16.trans t) nm5,b6,n9.snoc ⟨p,rfl,?_⟩ ((D.tupK t.tupK).tupK (n5 hL)),by rw[List.length_append,lds];exact Nat.le_refl _,fun d hd=>?_⟩
   ·exact(n5 hL).1 _ _ b6
   ·rcases List.mem_append.mp hd with hd | hd
    ·exact ok d hd
    ·rw[List.mem_singleton.mp hd];exact w2
  ·exact⟨_,_,rfl,S16,hLm5,D,by omega,ok⟩
 obtain⟨xs,ds,rfl,sm,hL,D,ld,ok⟩:=hM
 refine⟨_,rfl,(by show 2≤sizeLine;decide),fun pA hpA=>⟨(by show 2≤sizeLine;decide),fun pB hpB=>⟨(by show 2≤sizeLine;decide),fun lC hlC=>?_⟩⟩⟩
 have t1:=c9 (o:=.tup [.str "end",.int 0]) hpA
 have t2:=c9 (o:=.tup [.str "end",.int 2]) hpB
 have t3:=c9 (o:=.lst [.ref pA,.ref pB]) hlC
 refine⟨_,_,_,_,rfl,rfl,t3 _ _ (t2 _ _ (t1 _ _ hL)),b6,Nat.le_of_lt (L0 (by rw[D.len,List.length_cons,List.length_singleton];omega)),fun r hr'=>?_⟩
 have t4:=c9 (o:=.lst (xs++[.ref pA,.ref pB])) hr'
 have sA:=(t1.trans t2).trans t3
 refine q r _ (ds++[.fin 0]++[.fin 2]) _ ((sm.trans sA).trans t4) (j2 (sm.trans sA) hr') b6 ?_ ?_ fun d hd=>?_
 ·have e1:=n9.snoc (d:=.fin 0) ⟨pA,rfl,t4 _ _ (t3 _ _ (t2 _ _ b6))⟩ ((D.tupK sA.tupK).tupK t4.tupK)
  have e2:=n9.snoc (d:=.fin 2) ⟨pB,rfl,t4 _ _ (t3 _ _ b6)⟩ e1
  rw[List.append_assoc xs]at e2;exact e2
 ·simp only[List.length_append,List.length_singleton];omega
 ·rcases List.mem_append.mp hd with hd | hd
  ·rcases List.mem_append.mp hd with hd | hd
   ·exact ok d hd
   ·rw[List.mem_singleton.mp hd];trivial
  ·rw[List.mem_singleton.mp hd];trivial
theorem b8a(d:m6):((d=.begin∨d=.sweep)∧∃w,dv d=[.str w])∨∃(w:Str) (n:Int) (rest:List V),dv d=.str w::.int n::rest∧rest.length≤2∧∀m:Int,∃d',dv d'=.str w::.int m::rest∧(O9 d→O9 d'):=by
 cases d with
 | begin=>exact .inl ⟨.inl rfl,_,rfl⟩
 | sweep=>exact .inl ⟨.inr rfl,_,rfl⟩
 | look n g=>exact .inr ⟨_,n,_,rfl,by simp,fun m=>⟨.look m g,rfl,id⟩⟩
 | put n g a=>exact .inr ⟨_,n,_,rfl,by simp,fun m=>⟨.put m g a,rfl,id⟩⟩
 | fin n=>exact .inr ⟨_,n,_,rfl,by simp,fun m=>⟨.fin m,rfl,id⟩⟩
 | leave n=>exact .inr ⟨_,n,_,rfl,by simp,fun m=>⟨.leave m,rfl,id⟩⟩
inductive a0y(K:PySem.W.Frag)(vs:List V)(H:Hp)(Q:VK):Prop
 | mk (a:Addr) (ns:List Int) (x0:vs=[.ref a]) (x1:d9 K H a (ns.map V.int)) (x2:ns.length≤63) (xq:∀(r:Addr) (xs:List V) (ds:List m6) (H':Hp),h7 H H'→H' r=some (.lst xs)→n9 H' ds xs→ds.length≤63→(∀d∈ds,O9 d)→Q (.ref r) H')
def a0E(K:PySem.W.Frag):Sp:=fun vs H Q _=>a0y K vs H Q
set_option maxHeartbeats 0 in
theorem a8D(T:z8 K mg t):g7 P w K mg base x9 3 t.f__law_mixed t.d__law_mixed ["_law_script"] (a0E K):=by
 refine T.F__law_mixed.ok P6 (fun vs H Q E h=>?_) (fun cdv A outer s H vs Q E hr h=>?_)
 ·obtain⟨a,ns,rfl,_⟩:=h
  rfl
 obtain⟨a,ns,rfl,hS,hl,q⟩:=h
 refine⟨_,(b9 (j9 (PW.pt (P8 (f6 y9 (g9 i5 rfl T.m_len PySem.boot_len (a6 (pv 0) b7)) d5 (i9 _)) (P5 (f6 P7 (i6 A7 (d7 j6 (pv 0) d5 (fun _ _=>rfl)) d5) d5 (i9 _)))))
 (d6 (i3 (j4 (g7.mono (k:=2) (a1g T) (by decide)) hr rfl T.m__law_deeds T.F__law_deeds.kp T.F__law_deeds.b .nil j7 (a6 (pv 0) b7))))
 j1)
 (b9 (g6 (i:=1) P6.nd rfl (Or.inl rfl) (j4 (g7.mono (k:=2) (a9m T) (by decide)) hr rfl T.m__law_in_a_ring T.F__law_in_a_ring.kp T.F__law_in_a_ring.b .nil j7 (a6 (i6 Y7 (d7 j6 (pv 0) d5 (fun _ _=>rfl)) d5) b7)))
 (b9 (z6 PassesOwn.never rfl (u4 (j4 (g7.mono (k:=2) (a1g T) (by decide)) hr rfl T.m__law_deeds T.F__law_deeds.kp T.F__law_deeds.b .nil j7 (a6 (L8 R0 (pv 0) N9 (O4 d5)) b7))) (l4 (i:=2) P6.nd rfl (Or.inl rfl))
 (b9 (N5 (j9 (PW.pt (P4 (f6 a8r (g9 i5 rfl T.m_len PySem.boot_len (a6 (pv 2) b7)) d5 (i9 _)) (M8 (f6 b1h (d7 e7 (pv 2) d5 (fun _ _=>rfl)) d5 (i9 _)))))
 (d6 (g6 (i:=2) P6.nd rfl (Or.inl rfl) (i6 a8N (p6 (a6 (d7 e7 (pv 2) d5 (fun _ _=>rfl)) (a6 (i6 C9 (d7 e7 (pv 2) d5 (fun _ _=>rfl)) d5) b7))) (L8 b2n (pv 2) (O4 d5) N9))))
 j1))
 (d6 (l6 (v3 PySem.F.plainAttrs_list PySem.F.slot_list_append PySem.F.type_list_append m8 (pv 1) (a6 (pv 2) b7))))))
 (d6 (i3 (pv 1)))))),?_⟩
 cases ns with
 | nil=>exact⟨_,rfl,a,_,rfl,.inl hS,rfl,_,rfl,l7 ⟨_,rfl,a,[],rfl,hS,Nat.zero_le _,fun r xs ds H' s h D l ok _=>q r xs ds H' s h D (by rw[l];exact Nat.zero_le _) ok⟩⟩
 | cons n ns=>
 have ln:((n::ns).map V.int).length=ns.length+1:=by rw[List.length_map,List.length_cons]
 have hl:ns.length+1≤63:=hl
 have at0:C6 ((n::ns).map V.int) 0=some (.int n):=j0 (j:=0) rfl
 refine⟨_,rfl,a,_,rfl,.inl hS,rfl,_,rfl,?_⟩
 rw[decide_eq_false (fun z=>by have z:=V.int.inj z;omega)]
 refine g8 ?_
 refine⟨_,rfl,a,_,0,_,rfl,rfl,hS,at0,_,_,rfl,rfl,(by show(0:Int)<3;decide),rfl,_,rfl,?_⟩
 by_cases c:n % 3=1
 ·refine V1 (congrArg V.int c) ?_
  refine⟨_,rfl,a,_,0,_,rfl,rfl,hS,at0,_,_,rfl,rfl,⟨by decide,by decide⟩,n/3,rfl,fun r xr dr H1 s1 nr hr1 D1 l1 ok1=>?_⟩
  have ec:R5 ((n::ns).map V.int) none (some 48)=((n::ns).take 48).map V.int:=by rw[show(48:Int)=((48:Nat):Int) from rfl,a9s,List.map_take]
  refine⟨_,rfl,_,rfl,a,_,rfl,hS.same s1,fun b hb=>?_⟩
  rw[ec]
  have s2:=c9 (o:=.lst (((n::ns).take 48).map V.int)) hb
  refine⟨b,(n::ns).take 48,rfl,d9.of b6,by rw[List.length_take];omega,fun e xe de H2 s3 he De le oke nE=>?_⟩
  have le:de.length≤48:=by rw[le,List.length_take];omega
  have s12:=s2.trans s3
  have hr2:=s12 _ _ hr1
  have D2:=D1.tupK s12.tupK
  have sH:=s1.trans s12
  have her:e≠r:=(e9 (s2 _ _ hr1) nE).symm
  have lxe:=De.len
  refine⟨e,rfl,⟨_,d9.of he⟩,?_⟩
  refine A0 (xs:=xe) (fun i σ' Hc=>∃o2 zs ds,σ'=[some (.ref a),some (.ref r),o2]∧V7 r H2 Hc∧r9 H2 Hc∧Hc r=some (.lst zs)∧n9 Hc ds zs∧ds.length=dr.length+i∧∀d∈ds,O9 d) ⟨none,xr,dr,rfl,V7.refl r H2,r9.refl H2,hr2,D2,rfl,ok1⟩ (fun i σ' Hc _ z=>?_) (fun i x σ' Hc hx z=>?_) (fun σ' Hc z=>?_)
  ·obtain⟨_,_,_,_,bu,_⟩:=z
   exact d9.of (bu _ _ her he)
  ·obtain⟨o2,zs,ds,rfl,bu,tk,hz,Dz,lz,okz⟩:=z
   obtain⟨d,hd,p,rfl,hp⟩:=A4 De hx
   have li:=(List.getElem?_eq_some_iff.mp hx).1
   have okd:O9 d:=oke d (List.mem_of_getElem? hd)
   have hp:=tk.1 _ _ hp
   have lz2:=Dz.len
   refine⟨fun σ' H'=>∃p' d',σ'=[some (.ref a),some (.ref r),some (.ref p')]∧h7 Hc H'∧H' p'=some (.tup (dv d'))∧O9 d',?_,fun σ' H' hM=>?_⟩
   ·rcases b8a d with ⟨_,w,e1⟩ | ⟨w,n,rest,e1,lr,mk⟩
    ·rw[e1]at hp
     exact⟨_,rfl,p,_,rfl,.inr (f7.of hp),_,_,rfl,rfl,_,rfl,g8 ⟨_,d,rfl,h7.refl _,by rw[e1];exact hp,okd⟩⟩
    ·rw[e1]at hp
     have i0:C6 (.str w::.int n::rest) 0=some (V.str w):=j0 (j:=0) rfl
     have i1:C6 (.str w::.int n::rest) 1=some (V.int n):=j0 (j:=1) rfl
     refine⟨_,rfl,p,_,rfl,.inr (f7.of hp),_,_,rfl,rfl,_,rfl,?_⟩
     rw[decide_eq_true (by simp only[List.length_cons];omega)]
     refine l7 ?_
     refine⟨_,rfl,p,_,1,_,rfl,rfl,f7.of hp,i1,_,_,rfl,rfl,_,rfl,G8 (fun _=>?_) (fun _=>⟨_,d,rfl,h7.refl _,by rw[e1];exact hp,okd⟩)⟩
     refine⟨_,rfl,p,_,0,_,rfl,rfl,f7.of hp,i0,_,rfl,p,_,1,_,rfl,rfl,f7.of hp,i1,_,_,rfl,rfl,(by show 2≤sizeLine;decide),fun p1 hp1=>?_⟩
     have t1:=c9 (o:=.tup [.str w,.int (n+3)]) hp1
     have hp':=t1 _ _ hp
     have ec:R5 (.str w::.int n::rest) (some 2) none=rest:=by rw[show(2:Int)=((2:Nat):Int) from rfl,a2f];rfl
     have wide:¬(HT.u6 (V.str w::V.int n::rest).length 0 (some 2)=0∧HT.u6 (V.str w::V.int n::rest).length (V.str w::V.int n::rest).length none=(V.str w::V.int n::rest).length):=fun z=>by
      have:=z.1
      rw[show(2:Int)=((2:Nat):Int) from rfl,HT.a5x,List.length_cons,List.length_cons]at this
      omega
     refine⟨_,rfl,_,rfl,p,_,rfl,f7.of hp',wide,fun p2 hp2=>?_⟩
     rw[ec]
     have t2:=c9 (o:=.tup rest) hp2
     obtain⟨d',e',o'⟩:=mk (n+3)
     refine⟨p1,p2,_,_,rfl,rfl,f7.of (t2 _ _ b6),f7.of b6,by simp,Nat.le_of_lt (L0 (by simp only[List.length_cons,List.length_nil];omega)),fun z=>?_,fun z p3 hp3=>?_⟩
     ·exact⟨p1,d',rfl,t1.trans t2,by subst z;rw[e'];exact t2 _ _ b6,o' okd⟩
     ·exact⟨p3,d',rfl,(t1.trans t2).trans (c9 hp3),by rw[e',b6];rfl,o' okd⟩
   ·obtain⟨p',d',rfl,sm,hp',ok'⟩:=hM
    have hz':=sm _ _ hz
    refine⟨_,rfl,.inl ⟨rfl,_,d9.of hz'⟩,_,rfl,r,_,_,rfl,rfl,hz',n6 (by omega),_,_,ds++[d'],rfl,(bu.same sm).upd,(tk.trans sm.tupK).trans (n5 hz'),b6,n9.snoc ⟨p',rfl,(n5 hz').1 _ _ hp'⟩ ((Dz.tupK sm.tupK).tupK (n5 hz')),by rw[List.length_append,lz,List.length_singleton];omega,fun d hd=>?_⟩
    rcases List.mem_append.mp hd with hd | hd
    ·exact okz d hd
    ·rw[List.mem_singleton.mp hd];exact ok'
  ·obtain⟨o2,zs,ds,rfl,bu,tk,hz,Dz,lz,okz⟩:=z
   exact⟨_,rfl,q r zs ds Hc (fun b o h=>bu b o (e9 h nr) (sH b o h)) hz Dz (by rw[lz];omega) okz⟩
 ·refine G8 (fun _=>?_) (fun z=>absurd ?_ z)
  ·exact⟨_,rfl,a,n::ns,rfl,hS,by rw[List.length_cons];omega,fun r xs ds H' s h D l ok _=>q r xs ds H' s h D (by rw[l,List.length_cons];exact hl) ok⟩
  ·rw[decide_eq_false (fun z=>c (V.int.inj z))];rfl
theorem a1N{F:Rec→V→Prop}:∀{rs:List Rec} {xs:List V},Paired F rs xs→(rs.map (·.num)).Nodup→∃g:Int→V,∀(i:Nat) (o:Rec),rs[i]?=some o→xs[i]?=some (g o.num)∧F o (g o.num)
 | _,_,.nil,_=>⟨fun _=>.non,fun i o h=>by simp at h⟩
 | _,_,.cons (a:=r) (b:=x) h t,nd=>by
  rw[List.map_cons,List.nodup_cons]at nd
  obtain⟨g,hg⟩:=a1N t nd.2
  refine⟨fun n=>if n=r.num then x else g n,fun i o e=>?_⟩
  cases i with
  | zero=>
   have e:r=o:=Option.some.inj e
   subst e
   dsimp only
   rw[if_pos rfl]
   exact⟨rfl,h⟩
  | succ i=>
   rw[List.getElem?_cons_succ]at e
   have:o.num≠r.num:=fun z=>nd.1 (by rw[←z];exact List.mem_map.mpr ⟨o,List.mem_of_getElem? e,rfl⟩)
   dsimp only
   rw[if_neg this,List.getElem?_cons_succ]
   exact hg i o e
inductive b8k(K:PySem.W.Frag)(vs:List V)(H:Hp)(Q:VK):Prop
 | mk (a:Addr) (ns:List Int) (x0:vs=[.ref a]) (x1:d9 K H a (ns.map V.int)) (x2:ns.length≤63) (xq:∀H',Q (.bl true) H')
def a8U(K:PySem.W.Frag):Sp:=fun vs H Q _=>b8k K vs H Q
set_option maxHeartbeats 0 in
theorem b8l(T:z8 K mg t):g7 P w K mg base x9 10 t.f_law t.d_law ["_law_script"] (a8U K):=by
 refine T.F_law.ok N1 (fun vs H Q E h=>?_) (fun cdv A outer s H vs Q E hr h=>?_)
 ·obtain⟨a,ns,rfl,_⟩:=h
  rfl
 obtain⟨a,ns,rfl,hS,hl,q⟩:=h
 have hu:=O7 hr
 refine⟨_,(b9 (g6 (i:=1) N1.nd rfl (Or.inl rfl) (j4 (g7.mono (k:=9) (a8D T) (by decide)) hr rfl T.m__law_mixed T.F__law_mixed.kp T.F__law_mixed.b .nil j7 (a6 (L8 R0 (pv 0) N9 (O4 d5)) b7)))
 (b9 (g6 (i:=2) N1.nd rfl (Or.inl rfl) (L5 a5j rfl T.m_list boot_list (a6 (pv 1) b7)))
 (b9 (g6 (i:=3) N1.nd rfl (Or.inl rfl) (j4 (g7.mono (k:=9) (a4T T) (by decide)) hr rfl T.m_answers T.F_answers.kp T.F_answers.b .nil j7 (a6 (pv 2) b7)))
 (b9 (j9 (PW.pt (P8 (G0 (C0 (j4 (g7.mono (k:=9) (a7H T) (by decide)) hr rfl T.m__law_same T.F__law_same.kp T.F__law_same.b .nil j7 (a6 (pv 2) (a6 (pv 1) b7))))) (P8 (G0 (C0 (g9 C7 rfl T.m_isinstance boot_isinstance (a6 (pv 3) (a6 (J0 (v:=.ty "list") rfl T.m_list boot_list rfl) b7))))) (P5 (f6 P7 (g9 i5 rfl T.m_len PySem.boot_len (a6 (pv 3) b7)) (g9 i5 rfl T.m_len PySem.boot_len (a6 (pv 1) b7)) (i9 _))))))
 (d6 (i3 y6))
 j1)
 (b9 (j9 (G0 (C0 (j4 (g7.mono (k:=9) (a0k T) (by decide)) hr rfl T.m__law_ends_right T.F__law_ends_right.kp T.F__law_ends_right.b .nil j7 (a6 (pv 1) (a6 (pv 3) b7)))))
 (d6 (i3 y6))
 j1)
 (b9 (g6 (i:=4) N1.nd rfl (Or.inl rfl) (d7 e7 (j4 (g7.mono (k:=9) (a2d T) (by decide)) hr rfl T.m__law_walked T.F__law_walked.kp T.F__law_walked.b .nil j7 (a6 (pv 1) (a6 (pv 3) b7))) d5 (fun _ _=>rfl)))
 (b9 (z6 PassesOwn.never rfl (u4 (pv 4)) (a3H rfl (N7 (l4 (i:=5) N1.nd rfl (Or.inl rfl)) (N7 (l4 (i:=6) N1.nd rfl (Or.inl rfl)) (N7 (l4 (i:=7) N1.nd rfl (Or.inl rfl)) a7z))))
 (d6 (j9 (G0 (C0 (j4 (g7.mono (k:=9) (W5 T) (by decide)) hr rfl T.m__law_ended T.F__law_ended.kp T.F__law_ended.b .nil j7 (a6 (d7 j6 (pv 3) (pv 5) (fun _ _=>rfl)) b7))))
 (b9 (j9 (PW.pt (P8 (G0 (C0 (j4 (g7.mono (k:=9) (a1n T) (by decide)) hr rfl T.m__law_are_links T.F__law_are_links.kp T.F__law_are_links.b .nil j7 (a6 (d7 j6 (pv 3) (pv 5) (fun _ _=>rfl)) b7)))) (P5 (G0 (C0 (j4 (g7.mono (k:=9) (a9x T) (by decide)) hr rfl T.m__law_closes T.F__law_closes.kp T.F__law_closes.b .nil j7 (a6 (d7 j6 (pv 3) (pv 5) (fun _ _=>rfl)) b7)))))))
 (d6 (i3 y6))
 j1)
 (b9 (g6 (i:=8) N1.nd rfl (Or.inl rfl) A9)
 (b9 (z6 PassesOwn.never rfl (u4 (i6 N3 (pv 7) (j8 (a6 (pv 6) b7)))) (l4 (i:=9) N1.nd rfl (Or.inl rfl))
 (d6 (C1 hu (pv 8) (d7 e7 (pv 9) d5 (fun _ _=>rfl)) (pv 9) rfl)))
 (b9 (z6 PassesOwn.never rfl (u4 (d7 j6 (pv 3) (pv 5) (fun _ _=>rfl))) (l4 (i:=10) N1.nd rfl (Or.inl rfl))
 (b9 (j9 (PW.pt (P8 (f6 (M0 hu) (d7 e7 (pv 10) d5 (fun _ _=>rfl)) (pv 8) (by with_unfolding_all rfl)) (P8 (f6 (M0 hu) (d7 e7 (pv 10) d5 (fun _ _=>rfl)) (pv 8) (by with_unfolding_all rfl)) (P5 (f6 y9 (d7 e7 (pv 10) d5 (fun _ _=>rfl)) (d7 e7 (pv 10) d5 (fun _ _=>rfl)) (i9 _))))))
 (d6 (i3 y6))
 j1)
 (d6 (j9 (G0 (C0 (j4 (g7.mono (k:=9) (a2L T) (by decide)) hr rfl T.m__law_true T.F__law_true.kp T.F__law_true.b .nil j7 (a6 (pv 10) (a6 (u5 hu (pv 8) (d7 e7 (pv 10) d5 (fun _ _=>rfl)) (fun _ _=>rfl)) (a6 (u5 hu (pv 8) (d7 e7 (pv 10) d5 (fun _ _=>rfl)) (fun _ _=>rfl)) b7))))))
 (d6 (i3 y6))
 j1))))
 (d6 (j9 (f6 P7 (d7 e7 (d7 j6 (d7 j6 (pv 3) (pv 5) (fun _ _=>rfl)) d5 (fun _ _=>rfl)) d5 (fun _ _=>rfl)) (d7 e7 (pv 6) d5 (fun _ _=>rfl)) (i9 _))
 (d6 (i3 y6))
 j1))))))
 j1)))
 (d6 (i3 y6))))))))),?_⟩
 have ec:R5 (ns.map V.int) none (some 200)=(ns.take 200).map V.int:=by rw[show(200:Int)=((200:Nat):Int) from rfl,a9s,List.map_take]
 refine⟨_,rfl,_,rfl,a,_,rfl,hS,fun c hc=>?_⟩
 rw[ec]
 refine⟨c,ns.take 200,rfl,d9.of b6,by rw[List.length_take];omega,fun A xs ds H1 s1 hA hD lds okd=>?_⟩
 have lx:=hD.len
 refine⟨_,rfl,A,_,rfl,.inl (d9.of hA),fun h hh=>?_⟩
 have s2:=c9 (o:=.lst xs) hh
 have hh2:(upd H1 h (.lst xs)) h=some (.lst xs):=b6
 generalize upd H1 h (.lst xs)=H2 at s2 hh2 ⊢
 refine⟨_,rfl,h,ds,xs,rfl,hh2,hD.tupK s2.tupK,by omega,fun as st rl H3 Tl ys R s3 hT pa nr=>?_⟩
 have s13:=s2.trans s3
 have hA3:=s13 _ _ hA
 have hh3:=s3 _ _ hh2
 have hD3:=hD.tupK s13.tupK
 obtain⟨f,F,f1⟩:=R.to okd (by omega)
 have la:=F.len
 have ly:=r6 pa
 refine⟨_,rfl,_,rfl,h,A,xs,xs,ds.map dD,rfl,d9.of hh3,d9.of hA3,hD3.reps,hD3.reps,a7U ds,by rw[List.length_map];omega,b9n,_,rfl,g8 ?_⟩
 refine⟨_,rfl,.ref Tl,"list","list",rfl,.inl ⟨rfl,_,d9.of hT⟩,by decide,_,rfl,g8 ?_⟩
 refine⟨_,rfl,Tl,ys,rfl,.inl (d9.of hT),_,rfl,A,xs,rfl,.inl (d9.of hA3),rfl,_,rfl,V1 (by rw[ly,la,lx]) ?_⟩
 refine⟨_,rfl,_,rfl,A,Tl,xs,ys,ds,as,rl,f,rfl,hA3,hD3,hT,pa,F,by omega,fun H6 s6=>⟨_,rfl,g8 ?_⟩⟩
 refine⟨_,rfl,_,rfl,A,Tl,xs,ys,ds,as,rl,f,rfl,s6 _ _ hA3,hD3.tupK s6.tupK,s6 _ _ hT,Paired.mapP pa fun _ _ z=>z.same s6,F,by omega,fun p Rr Y us ws tr rl7 H7 s7 hp hR pR hY pY okt=>⟨p,_,1,_,rfl,rfl,f7.of hp,rfl,?_⟩⟩
 have s37:=s6.trans s7
 have hT7:=s37 _ _ hT
 have pa7:Paired (G6 rl H7) as ys:=Paired.mapP pa fun _ _ z=>z.same s37
 refine⟨_,rfl,Y,rfl,⟨_,d9.of hY⟩,?_⟩
 refine A0 (xs:=ws) (fun j σ' Hc=>∃o5 o6 o7 o8 o9 oA:Option V,σ'=[some (.ref a),some (.ref A),some (.ref h),some (.ref Tl),some (.ref Y),o5,o6,o7,o8,o9,oA]∧h7 H7 Hc) ⟨none,none,none,none,none,none,rfl,h7.refl H7⟩ (fun j σ' Hc _ z=>?_) (fun j v σ' Hc hv z=>?_) (fun σ' Hc z=>?_)
 ·obtain⟨_,_,_,_,_,_,_,sc⟩:=z
  exact d9.of (sc _ _ hY)
 ·obtain⟨o5,o6,o7,o8,o9,oA,rfl,sc⟩:=z
  obtain⟨⟨k,r,rs⟩,hy,b,lb,x,zs,rfl,hb,hx,hlb,_,pz⟩:=A4 pY hv
  obtain⟨d,an,hd,ha,hu7,S,isr,ers⟩:=(okt _ (List.mem_of_getElem? hy)).ex
  have ers:rs=(f k).recs:=ers
  subst ers
  have S:Step (f k) (.fin d.num) an (f (k+1)):=S
  have isr:J2 d (((f k).recs.length:Int)+1) r:=isr
  have hu7:d∈(f k).under:=hu7
  have ha:as[k]?=some an:=ha
  have lk:k<as.length:=(List.getElem?_eq_some_iff.mp ha).1
  have hyi:=List.getElem?_eq_getElem (show k<ys.length by omega)
  obtain⟨a',ha',hya⟩:=A4 pa7 hyi
  rw[ha]at ha';cases ha'
  have ay:C6 ys (k:Int)=some ys[k]:=j0 hyi
  generalize ys[k]=y at ay hya hyi
  have ok:=F.oks k (by omega)
  have gd:=F.gds k (by omega)
  have bd:=F.bds k (by omega)
  have hTc:=sc _ _ hT7
  have cs:isE an=true∨∃cs rg,an=.ring rg∧a5l (f k) d r cs rg:=by
   generalize e:m6.fin d.num=dd at S
   generalize f (k+1)=st1 at S
   cases S with
   | ended _ _=>exact .inl rfl
   | @ring d' r' cs' rg' hd' E'=>
    injection e with e1
    have:=O2 (List.nodup_append.mp ok.un).2.1 hu7 hd' e1
    subst this
    have er:r=r':=a6k isr E'.rc
    subst er
    exact .inr ⟨_,_,rfl,E'⟩
   | @none _ n h1 h2=>subst e;cases h1;exact absurd (List.mem_map.mpr ⟨d,hu7,rfl⟩) h2
   | own _ _=>cases e
   | look _ _=>cases e
   | put _=>cases e
   | leave _=>cases e
   | begin=>cases e
   | sweep _=>cases e
  refine⟨b,_,rfl,f7.of (sc _ _ hb),rfl,_,_,rfl,_,_,rfl,_,_,rfl,rfl,?_⟩
  refine⟨_,rfl,_,rfl,Tl,_,_,_,rfl,rfl,d9.of hTc,ay,rl,an,y,rfl,hya.same sc,?_⟩
  rcases cs with ea | ⟨cs,rg,rfl,E⟩
  ·rw[ea]
   exact⟨_,rfl,g8 ⟨_,_,_,_,_,_,rfl,sc⟩⟩
  refine⟨_,rfl,l7 ?_⟩
  clear S hd ha
  obtain⟨L,zl,rfl,hL,hLk,_⟩:=hya
  have hLc:=sc _ _ hL
  have hLkc:=hLk.tupK sc.tupK
  have lzl:=hLk.len
  have AL:=a4j ok hu7 isr E.lw
  have nd:=a7w ok hu7 isr.1
  have gr:=isr.good gd hu7
  have lrg:rg.length≤100:=by
   have:=v9 (m:=((f k).recs++[r]).map (·.num)) E.ring.nd fun n hn=>by
    obtain⟨l,hl,e⟩:=List.mem_map.mp hn
    obtain⟨o,ho,_,_,_,io⟩:=(AL l).mp (E.sub l hl)
    rw[←e,io.1];exact List.mem_map.mpr ⟨o,ho,rfl⟩
   rw[List.length_map,List.length_map,List.length_append]at this
   have b1:=bd.rc
   simp only[List.length_singleton]at this
   omega
  have goods:∀o∈(f k).recs++[r],(∀g∈o.looked,F6 g)∧∀g∈o.put,F6 g:=fun o ho=>by
   rcases List.mem_append.mp ho with ho | ho
   ·exact⟨gd.rl o ho,gd.rp o ho⟩
   ·rw[List.mem_singleton.mp ho];exact gr
  have sok:∀l∈rg,PyData.strOk l.2.2.1=true∧PyData.strOk l.2.2.2=true:=fun l hl=>by
   obtain⟨o,ho,_,_,_,_,_,io⟩:=(AL l).mp (E.sub l hl)
   rcases io with ⟨e,_,i,_⟩ | ⟨e,_,i,_⟩ | ⟨e,_,i,_⟩
   ·exact⟨((goods o ho).2 _ i).1,by rw[e];decide +kernel⟩
   ·exact⟨((goods o ho).2 _ i).1,by rw[e];decide +kernel⟩
   ·exact⟨((goods o ho).1 _ i).1,by rw[e];decide +kernel⟩
  refine⟨_,rfl,_,rfl,Tl,_,_,_,rfl,rfl,d9.of hTc,ay,L,zl,rg,rfl,hLc,hLkc,_,rfl,g8 ?_⟩
  refine⟨_,rfl,_,rfl,Tl,_,_,_,rfl,rfl,d9.of hTc,ay,L,rg,zl,rfl,d9.of hLc,hLkc,E.ring,by omega,sok,fun H8 s8=>⟨_,rfl,g8 ?_⟩⟩
  have c8:=sc.trans s8
  refine fun Kn hKn=>?_
  have sK:=c9 (o:=.dK []) hKn
  have nK:=j2 c8 hKn
  have pall:Paired (RcAt rl7 H7) ((f k).recs++[r]) (zs++[x]):=Paired.snoc pz hx
  obtain⟨g,hg⟩:=a1N pall nd
  have lall:=r6 pall
  have brc:=bd.rc
  have lz:zs.length=(f k).recs.length:=r6 pz
  refine⟨_,rfl,_,rfl,(by show 1≤sizeLine;decide),fun e1 he1=>?_⟩
  have s9:=c9 (o:=.lst [x]) he1
  have cK:=c8.trans sK
  refine⟨lb,e1,zs,[x],rfl,rfl,(cK.trans s9) _ _ hlb,b6,Nat.le_of_lt (L0 (by rw[List.length_singleton];omega)),fun e2 he2=>?_⟩
  have sA:=c9 (o:=.lst (zs++[x])) he2
  have he3:(upd (upd (upd H8 Kn (.dK [])) e1 (.lst [x])) e2 (.lst (zs++[x]))) e2=_:=b6
  have hK3:=sA _ _ (s9 _ _ (b6 (H:=H8) (a:=Kn) (o:=.dK [])))
  have cA:=(cK.trans s9).trans sA
  have nKe:Kn≠e2:=e9 (s9 _ _ (b6 (H:=H8) (a:=Kn) (o:=.dK []))) he2
  generalize upd (upd (upd H8 Kn (.dK [])) e1 (.lst [x])) e2 (.lst (zs++[x]))=HA at he3 hK3 cA ⊢
  clear s9 sA sK cK he1 he2
  refine⟨e2,rfl,⟨_,d9.of he3⟩,?_⟩
  refine A0 (xs:=zs++[x]) (fun i σ' Hd=>∃o9,σ'=[some (.ref a),some (.ref A),some (.ref h),some (.ref Tl),some (.ref Y),some (.int (k:Int)),some x,some (.ref lb),some (.ref Kn),o9,oA]∧h7 H7 Hd∧Hd e2=some (.lst (zs++[x]))∧Hd Kn=some (.dK (j5 ((((f k).recs++[r]).map (·.num)).take i) g))) ⟨_,rfl,cA,he3,hK3⟩ (fun i σ' Hd _ z=>?_) (fun i v' σ' Hd hv' z=>?_) (fun σ' Hd z=>?_)
  ·obtain⟨_,_,_,h2,_⟩:=z
   exact d9.of h2
  ·obtain⟨o9,rfl,sd,h2,h3⟩:=z
   obtain⟨o,ho,bo,la1,pa1,rfl,k1,_⟩:=A4 pall hv'
   have hgo:=(hg i o ho).1
   rw[hv']at hgo
   have hgo:V.ref bo=g o.num:=Option.some.inj hgo
   have hno:(((f k).recs++[r]).map (·.num))[i]?=some o.num:=by rw[List.getElem?_map,ho];rfl
   refine⟨_,rfl,_,rfl,_,rfl,bo,_,0,_,rfl,rfl,f7.of (sd _ _ k1),rfl,Kn,_,rfl,K6.k (k:=Sum.inl o.num) h3 (n6 (by rw[F7,List.length_take,List.length_map,List.length_append,List.length_singleton];omega)),?_⟩
   refine⟨_,rfl,l8 sd nK,by rw[b8 (Ne.symm nKe)];exact h2,?_⟩
   rw[b6,J3,if_neg (a9G nd hno),List.take_add_one,hno]
   refine congrArg (fun z=>some (HO.dK z)) (Q5 fun n _=>?_)
   unfold W4
   split
   ·rename_i z;rw[z,hgo]
   ·rfl
  ·obtain⟨o9,rfl,sd,_,h3⟩:=z
   rw[List.take_of_length_le (by rw[List.length_map,lall];exact Nat.le_refl _)] at h3
   have hTd:=sd _ _ hT7
   have hLd:=sd _ _ hL
   refine⟨_,rfl,_,rfl,Tl,_,_,_,rfl,rfl,d9.of hTd,ay,L,rfl,⟨_,d9.of hLd⟩,?_⟩
   refine A0 (xs:=zl) (fun i σ' He=>∃oA,σ'=[some (.ref a),some (.ref A),some (.ref h),some (.ref Tl),some (.ref Y),some (.int (k:Int)),some x,some (.ref lb),some (.ref Kn),o9,oA]∧h7 Hd He) ⟨_,rfl,h7.refl Hd⟩ (fun i σ' He _ z=>?_) (fun i v' σ' He hv' z=>?_) (fun σ' He z=>?_)
   ·obtain⟨_,_,se⟩:=z
    exact d9.of (se _ _ hLd)
   ·obtain⟨oA',rfl,se⟩:=z
    obtain⟨l,hl,bl,rfl,hbl⟩:=hLk.get hv'
    obtain⟨o,ho,p',hp',hn,io⟩:=(AL l).mp (E.sub l (List.mem_of_getElem? hl))
    have de:=sd.trans se
    have tq:=f7.of (K:=K) (de _ _ hbl)
    obtain⟨i1,ho1⟩:=List.mem_iff_getElem?.mp ho
    obtain⟨i2,hp1⟩:=List.mem_iff_getElem?.mp hp'
    have r1:=(hg i1 o ho1).2
    have r2:=(hg i2 p' hp1).2
    rw[←io.1]at r1
    rw[←io.2.1]at r2
    have g1:=v7.k (k:=Sum.inl l.1) (se _ _ h3)
    have g2:=v7.k (k:=Sum.inl l.2.1) (se _ _ h3)
    rw[m9,io.1,if_pos (List.mem_map.mpr ⟨o,ho,rfl⟩),←io.1]at g1
    rw[m9,io.2.1,if_pos (List.mem_map.mpr ⟨p',hp',rfl⟩),←io.2.1]at g2
    refine⟨_,rfl,bl,_,0,_,rfl,rfl,tq,rfl,_,rfl,Kn,_,rfl,g1,_,rfl,g8 ?_⟩
    refine⟨_,rfl,bl,_,1,_,rfl,rfl,tq,rfl,_,rfl,Kn,_,rfl,g2,_,rfl,g8 ?_⟩
    refine⟨_,rfl,bl,_,0,_,rfl,rfl,tq,rfl,_,rfl,bl,_,1,_,rfl,rfl,tq,rfl,rfl,_,rfl,?_⟩
    rw[decide_eq_false (fun z=>hn (by rw[←io.1,←io.2.1];exact V.int.inj z))]
    refine g8 ?_
    refine⟨_,rfl,_,rfl,_,rfl,bl,_,0,_,rfl,rfl,tq,rfl,Kn,_,rfl,g1,_,rfl,_,rfl,bl,_,1,_,rfl,rfl,tq,rfl,Kn,_,rfl,g2,l,o,p',.ref bl,_,_,rfl,⟨bl,rfl,de _ _ hbl⟩,(RcAt.rec r1).same de,(RcAt.rec r2).same de,io,_,rfl,g8 ⟨_,rfl,se⟩⟩
   ·obtain⟨oA',rfl,se⟩:=z
    have de:=sd.trans se
    obtain⟨bx,lax,pax,rfl,hbx,_⟩:=hx
    have hd0:=E.hd
    rw[List.getElem?_map]at hd0
    obtain⟨l0,hl0,e0⟩:=Option.map_eq_some_iff.mp hd0
    obtain⟨x0,hx0,b0,rfl,hb0⟩:=a4d hLk hl0
    refine⟨_,rfl,_,rfl,Tl,_,_,_,rfl,rfl,d9.of (se _ _ hTd),ay,L,_,0,_,rfl,rfl,d9.of (se _ _ hLd),j0 hx0,b0,_,0,_,rfl,rfl,f7.of (de _ _ hb0),rfl,_,rfl,bx,_,0,_,rfl,rfl,f7.of (de _ _ hbx),rfl,rfl,_,rfl,V1 (by rw[e0,isr.1]) ⟨_,_,_,_,_,_,rfl,de⟩⟩
 ·obtain⟨_,_,_,_,_,_,rfl,sc⟩:=z
  exact q _
end
noncomputable section
theorem hM{P:Params}{f:Addr}{n q:Str}{s:Stmt}{m:Str}{t c:Nat}{ps:List Str}(h:((KK P).lookup f,PySem.W.codeIn (KK P) (.ref c) q,PySem.W.keepIn (KK P) (.ref f))=(some (hO (hF n q s m t c)),true,true))
  (b:∀us:List Value,us.length=ps.length→bindArgs (hF n q s m t c) ⟨us,[]⟩=pure (ps.zip us)):FB (KK P) n q s f (hF n q s m t c) ps:=by
 injection h with h1 h2
 injection h2 with h2 h3
 exact⟨b5l h1 h2 h3,.all b⟩
set_option maxHeartbeats 0 in
theorem all_mk{P:Params}{h:Heap}{mg:Str→Option Value}(X:(KK P).In h)(G:h.Ns mainGlobals mg):z8 (KK P) mg hT:=⟨hM (by kernel_rfl) (fun u h=>match u,h with | [_,_],_=>rfl),PySem.W.mg_of X G (by kernel_rfl),
 hM (by kernel_rfl) (fun u h=>match u,h with | [_,_,_,_],_=>rfl),PySem.W.mg_of X G (by kernel_rfl),
 hM (by kernel_rfl) (fun u h=>match u,h with | [_,_],_=>rfl),PySem.W.mg_of X G (by kernel_rfl),
 hM (by kernel_rfl) (fun u h=>match u,h with | [_,_],_=>rfl),PySem.W.mg_of X G (by kernel_rfl),
 hM (by kernel_rfl) (fun u h=>match u,h with | [_,_,_],_=>rfl),PySem.W.mg_of X G (by kernel_rfl),
 hM (by kernel_rfl) (fun u h=>match u,h with | [_,_],_=>rfl),PySem.W.mg_of X G (by kernel_rfl),
 hM (by kernel_rfl) (fun u h=>match u,h with | [_],_=>rfl),PySem.W.mg_of X G (by kernel_rfl),
 hM (by kernel_rfl) (fun u h=>match u,h with | [_,_],_=>rfl),PySem.W.mg_of X G (by kernel_rfl),
 hM (by kernel_rfl) (fun u h=>match u,h with | [_,_],_=>rfl),PySem.W.mg_of X G (by kernel_rfl),
 hM (by kernel_rfl) (fun u h=>match u,h with | [_,_],_=>rfl),PySem.W.mg_of X G (by kernel_rfl),
 hM (by kernel_rfl) (fun u h=>match u,h with | [_,_],_=>rfl),PySem.W.mg_of X G (by kernel_rfl),
 hM (by kernel_rfl) (fun u h=>match u,h with | [_,_],_=>rfl),PySem.W.mg_of X G (by kernel_rfl),
 hM (by kernel_rfl) (fun u h=>match u,h with | [_,_,_],_=>rfl),⟨(by kernel_rfl),(by kernel_rfl),(by kernel_rfl),(by kernel_rfl)⟩,
 hM (by kernel_rfl) (fun u h=>match u,h with | [_,_],_=>rfl),⟨(by kernel_rfl),(by kernel_rfl),(by kernel_rfl)⟩,
 hM (by kernel_rfl) (fun u h=>match u,h with | [_],_=>rfl),⟨(by kernel_rfl),(by kernel_rfl),(by kernel_rfl),(by kernel_rfl)⟩,
 hM (by kernel_rfl) (fun u h=>match u,h with | [_],_=>rfl),⟨(by kernel_rfl),(by kernel_rfl),(by kernel_rfl)⟩,
 hM (by kernel_rfl) (fun u h=>match u,h with | [_],_=>rfl),⟨(by kernel_rfl),(by kernel_rfl),(by kernel_rfl)⟩,
 hM (by kernel_rfl) (fun u h=>match u,h with | [_,_,_],_=>rfl),⟨(by kernel_rfl),(by kernel_rfl),(by kernel_rfl)⟩,
 hM (by kernel_rfl) (fun u h=>match u,h with | [_,_,_,_],_=>rfl),⟨(by kernel_rfl),(by kernel_rfl),(by kernel_rfl)⟩,
 hM (by kernel_rfl) (fun u h=>match u,h with | [_,_],_=>rfl),⟨(by kernel_rfl),(by kernel_rfl),(by kernel_rfl)⟩,
 hM (by kernel_rfl) (fun u h=>match u,h with | [_,_],_=>rfl),⟨(by kernel_rfl),(by kernel_rfl),(by kernel_rfl)⟩,
 hM (by kernel_rfl) (fun u h=>match u,h with | [_,_],_=>rfl),⟨(by kernel_rfl),(by kernel_rfl),(by kernel_rfl)⟩,
 hM (by kernel_rfl) (fun u h=>match u,h with | [_],_=>rfl),⟨(by kernel_rfl),(by kernel_rfl),(by kernel_rfl)⟩,
 hM (by kernel_rfl) (fun u h=>match u,h with | [_],_=>rfl),⟨(by kernel_rfl),(by kernel_rfl),(by kernel_rfl)⟩,
 hM (by kernel_rfl) (fun u h=>match u,h with | [_,_],_=>rfl),PySem.W.mg_of X G (by kernel_rfl),
 hM (by kernel_rfl) (fun u h=>match u,h with | [_,_],_=>rfl),PySem.W.mg_of X G (by kernel_rfl),
 hM (by kernel_rfl) (fun u h=>match u,h with | [_,_],_=>rfl),PySem.W.mg_of X G (by kernel_rfl),
 hM (by kernel_rfl) (fun u h=>match u,h with | [_,_],_=>rfl),PySem.W.mg_of X G (by kernel_rfl),
 hM (by kernel_rfl) (fun u h=>match u,h with | [_],_=>rfl),PySem.W.mg_of X G (by kernel_rfl),
 hM (by kernel_rfl) (fun u h=>match u,h with | [_],_=>rfl),PySem.W.mg_of X G (by kernel_rfl),
 hM (by kernel_rfl) (fun u h=>match u,h with | [_],_=>rfl),PySem.W.mg_of X G (by kernel_rfl),
 hM (by kernel_rfl) (fun u h=>match u,h with | [_],_=>rfl),PySem.W.mg_of X G (by kernel_rfl),
 hM (by kernel_rfl) (fun u h=>match u,h with | [_],_=>rfl),PySem.W.mg_of X G (by kernel_rfl),
 hM (by kernel_rfl) (fun u h=>match u,h with | [_,_],_=>rfl),PySem.W.mg_of X G (by kernel_rfl),
 hM (by kernel_rfl) (fun u h=>match u,h with | [_],_=>rfl),PySem.W.mg_of X G (by kernel_rfl),
 hM (by kernel_rfl) (fun u h=>match u,h with | [_],_=>rfl),PySem.W.mg_of X G (by kernel_rfl),
 hM (by kernel_rfl) (fun u h=>match u,h with | [_,_],_=>rfl),PySem.W.mg_of X G (by kernel_rfl),
 hM (by kernel_rfl) (fun u h=>match u,h with | [_,_,_],_=>rfl),PySem.W.mg_of X G (by kernel_rfl),
 hM (by kernel_rfl) (fun u h=>match u,h with | [_,_],_=>rfl),PySem.W.mg_of X G (by kernel_rfl),
 hM (by kernel_rfl) (fun u h=>match u,h with | [_],_=>rfl),PySem.W.mg_of X G (by kernel_rfl),
 hM (by kernel_rfl) (fun u h=>match u,h with | [_],_=>rfl),PySem.W.mg_of X G (by kernel_rfl),
 hM (by kernel_rfl) (fun u h=>match u,h with | [_,_],_=>rfl),PySem.W.mg_of X G (by kernel_rfl),
 hM (by kernel_rfl) (fun u h=>match u,h with | [_,_],_=>rfl),PySem.W.mg_of X G (by kernel_rfl),
 hM (by kernel_rfl) (fun u h=>match u,h with | [_,_],_=>rfl),PySem.W.mg_of X G (by kernel_rfl),
 hM (by kernel_rfl) (fun u h=>match u,h with | [_],_=>rfl),PySem.W.mg_of X G (by kernel_rfl),
 ⟨(by kernel_rfl),(by kernel_rfl),(by kernel_rfl),(by kernel_rfl)⟩,PySem.W.mg_of X G (by kernel_rfl),
 (by unfold v5;kernel_rfl),
 (by unfold v5;kernel_rfl),
 (by unfold v5;kernel_rfl),
 (by unfold v5;kernel_rfl),
 ⟨(by kernel_rfl),(by kernel_rfl),(by kernel_rfl),(by kernel_rfl)⟩,PySem.W.mg_of X G (by kernel_rfl),
 (by unfold v5;kernel_rfl),
 (by unfold v5;kernel_rfl),
 (by unfold v5;kernel_rfl),
 (by unfold v5;kernel_rfl),
 (by unfold v5;kernel_rfl),
 (by unfold v5;kernel_rfl),
 PySem.W.mg_none_of X G (by kernel_rfl),
 PySem.W.mg_none_of X G (by kernel_rfl),
 PySem.W.mg_none_of X G (by kernel_rfl),
 PySem.W.mg_none_of X G (by kernel_rfl),
 PySem.W.mg_none_of X G (by kernel_rfl),
 PySem.W.mg_none_of X G (by kernel_rfl),
 PySem.W.mg_none_of X G (by kernel_rfl),
 PySem.W.mg_none_of X G (by kernel_rfl),
 PySem.W.mg_none_of X G (by kernel_rfl),
 PySem.W.mg_none_of X G (by kernel_rfl),
 PySem.W.mg_none_of X G (by kernel_rfl),
 PySem.W.mg_none_of X G (by kernel_rfl),
 PySem.W.mg_none_of X G (by kernel_rfl),
 PySem.W.mg_none_of X G (by kernel_rfl),
 PySem.W.mg_of X G (by kernel_rfl),⟨_,rfl⟩,
 PySem.W.mg_of X G (by kernel_rfl),⟨_,rfl⟩,
 PySem.W.mg_of X G (by kernel_rfl),⟨_,rfl⟩,
 PySem.W.mg_of X G (by kernel_rfl),⟨_,rfl⟩,
 PySem.W.mg_of X G (by kernel_rfl),⟨_,rfl⟩,
 PySem.W.mg_of X G (by kernel_rfl),⟨_,rfl⟩,
 PySem.W.mg_of X G (by kernel_rfl),⟨_,rfl⟩⟩
theorem hD0:PySem.W.defOf hQ (PySem.W.OpenLaw.row PySem.Challenge.rw_tallyhall_k08_whole_ring_told).name=some (⟨"law",Y5 P9,U2 P9,i4 P9,(a4V P9)⟩,[]):=by kernel_rfl
theorem hW:PySem.W.WalkO hQ hL (PySem.W.XL hQ []) (PySem.W.Hook.says hH) (PySem.W.OpenRow.toRowW (PySem.W.OpenLaw.row PySem.Challenge.rw_tallyhall_k08_whole_ring_told)) ⟨"law",Y5 P9,U2 P9,i4 P9,(a4V P9)⟩ [] (fun f vs=>PySem.call f vs):=
 L2.b8h (l:=PySem.Challenge.rw_tallyhall_k08_whole_ring_told) (n:=63) (k:=10) (x:="_law_script") (K:=KK) (CX:=fun _=>x9) (sp:=fun w=>a8U (KK w.params)) rfl (by decide) rfl ⟨rfl,by decide,by decide⟩ (fun w h Y=>PySem.W.kIn_of Y)
  (fun w mg fa h X G e=>by
   have e1:=e.symm.trans (PySem.W.mg_of X G (v:=.ref 339) (by kernel_rfl))
   cases e1
   exact⟨hT.d_law,fun s v=>.of_eq rfl,fun base _ _=>b8l (all_mk X G)⟩)
  (fun _ _ a ns hl _ hS=>⟨a,ns,rfl,hS,hl,fun _=>rfl⟩) fun _ _ _ _ _ z=>z
end
end My
open PySem PySem.W PyProof.Rows
set_option maxRecDepth 100000 in
set_option maxHeartbeats 0 in
theorem PySem.Challenge.cw_tallyhall_k08_whole_ring_told_holds : PySem.Challenge.rw_tallyhall_k08_whole_ring_told.Holds := by
 refine PySem.W.holds_law (by kernel_rfl) fun said=>?_
 refine PySem.W.holds_open (q:=My.hQ) (loose:=My.hL) (Xt:=My.hX) (XP:=XL My.hQ []) (Yf:=Hook.obs My.hH) (Ya:=Hook.val My.hH) (YP:=Hook.says My.hH) My.b5u (Hook.of My.hH) (Hook.keeps My.hH) (fun s e=>xl_of s (Bool.and_eq_true_iff.mp e).1) XL.keeps My.hD0 (by kernel_rfl) rfl (fun s e=>recFacts_of (Bool.and_eq_true_iff.mp e).2) rfl said (by kernel_rfl) ⟨rfl,rfl,rfl,rfl,rfl,by decide +kernel⟩ ?hw My.hW
 case hw=>w_witness2
