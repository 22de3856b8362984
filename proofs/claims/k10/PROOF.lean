import PyProof.Rows.All
import Wide.All
import OpenK.AllK
import Wide.FinOn
import Lean
import PyProof.EqAt
import PyProof.EqKinds
import PyProof.TupleCall
import PyProof.Rows.SortStr
import OpenK.KMore
import PyProof.Rows.SetFrom
import PyProof.CollectWalk
import KE.KDictList
import PyProof.SumAny
import KE.KItemsList
import KE.KRevIter
import KE.KDictLaws
import PyProof.DictCopy
import PyProof.DictUpdate
import PySem.Challenge.RW_tallyhall_k10_whole_nothing_left
set_option Elab.async false
set_option linter.all false
set_option Elab.async false
set_option linter.all false
set_option maxRecDepth 100000
abbrev qQ0.{u,v}:=@List.length_map.{u,v}
abbrev qQ1.{u}:=@List.getElem?_eq_some_iff.{u}
abbrev qQ2.{u}:=@List.mem_singleton.{u}
abbrev qQ3.{u,v}:=@List.mem_map.{u,v}
abbrev qQ4.{u}:=@List.length_append.{u}
abbrev qQ5.{u}:=@List.mem_append.{u}
abbrev qQ6.{u,v}:=@List.map_append.{u,v}
abbrev qQ7:=@Nat.le_refl
abbrev qQ8.{u,v}:=@List.getElem?_map.{u,v}
abbrev qQ9.{u}:=@List.mem_cons.{u}
abbrev qW0.{u}:=@List.mem_filter.{u}
abbrev qW1.{u}:=@Option.some.inj.{u}
namespace L2
open PySem PySem.Spec PyProof.Rows
def inClass(s:Stmt)(j:Nat):Stmt:=match s with
 | .ClassDef _ _ _ body _ _ _ _ _ _ _=>body.getD j (.Pass ⟨0,0,0,0⟩)
 | _=>.Pass ⟨0,0,0,0⟩
def Z8(s:Stmt):Arguments:=match s with
 | .FunctionDef _ a _ _ _ _ _ _ _ _=>a
 | _=>{ posonlyargs:=[],args:=[],vararg:=none,kwonlyargs:=[],kw_defaults:=[],kwarg:=none,defaults:=[] }
def T7(s:Stmt):List Stmt:=match s with
 | .FunctionDef _ _ b _ _ _ _ _ _ _=>b
 | _=>[]
def i6(s:Stmt):Scope:=match s with
 | .FunctionDef _ _ _ _ _ _ sc _ _ _=>sc
 | _=>{ kind:=.function,names:=[],isGenerator:=false,isCoroutine:=false }
end L2
namespace My
open PySem PySem.Spec PyProof.Rows L2
set_option maxRecDepth 100000
def top(i:Nat):Stmt:=PySem.Challenge.pw_tallyhall_k10_whole_nothing_left.main.body.getD i (.Pass ⟨0,0,0,0⟩)
abbrev a4k:Stmt:=top 6
abbrev a4d:Stmt:=top 7
abbrev S8:Stmt:=top 8
abbrev a9b:Stmt:=top 9
abbrev a9g:Stmt:=top 13
abbrev X6:Stmt:=top 14
abbrev Y1:Stmt:=top 15
abbrev X4:Stmt:=top 16
abbrev a2m:Stmt:=top 18
abbrev a8h:Stmt:=top 19
abbrev a3A:Stmt:=top 20
abbrev a3s:Stmt:=top 22
abbrev O6:Stmt:=inClass (top 23) 0
abbrev R5:Stmt:=inClass (top 23) 1
abbrev R4:Stmt:=inClass (top 24) 0
abbrev T9:Stmt:=inClass (top 24) 1
abbrev W9:Stmt:=inClass (top 24) 2
abbrev a1a:Stmt:=inClass (top 24) 3
abbrev a8d:Stmt:=inClass (top 24) 4
abbrev X9:Stmt:=inClass (top 24) 5
abbrev a2d:Stmt:=inClass (top 24) 6
abbrev Q0:Stmt:=inClass (top 24) 7
abbrev X2:Stmt:=inClass (top 24) 8
abbrev T3:Stmt:=inClass (top 24) 9
abbrev S5:Stmt:=top 26
abbrev O9:Stmt:=top 27
abbrev a5d:Stmt:=top 28
abbrev a6b:Stmt:=top 29
abbrev U0:Stmt:=top 30
abbrev a4m:Stmt:=top 31
abbrev a2u:Stmt:=top 32
abbrev S9:Stmt:=top 34
abbrev a7d:Stmt:=top 35
abbrev a6a:Stmt:=top 36
abbrev a7a:Stmt:=top 37
abbrev a1e:Stmt:=top 38
abbrev a7b:Stmt:=top 39
abbrev a5a:Stmt:=top 40
abbrev S4:Stmt:=top 41
abbrev a1c:Stmt:=top 42
abbrev V1:Stmt:=top 43
abbrev X7:Stmt:=top 44
abbrev Y0:Stmt:=top 45
abbrev X8:Stmt:=top 46
abbrev Q1:Stmt:=top 47
abbrev Q7:Stmt:=top 48
structure B4 where
 f_in_both:Addr
 d_in_both:FuncData
 f_links_for:Addr
 d_links_for:FuncData
 f_links_between:Addr
 d_links_between:FuncData
 f_links_with:Addr
 d_links_with:FuncData
 f_links_by:Addr
 d_links_by:FuncData
 f_longest_row:Addr
 d_longest_row:FuncData
 f_ring_behind:Addr
 d_ring_behind:FuncData
 f_row_or_ring:Addr
 d_row_or_ring:FuncData
 f_reached:Addr
 d_reached:FuncData
 f_value_at:Addr
 d_value_at:FuncData
 f_swept:Addr
 d_swept:FuncData
 f_turned:Addr
 d_turned:FuncData
 f_Dealing___init__:Addr
 d_Dealing___init__:FuncData
 f_Dealing_record:Addr
 d_Dealing_record:FuncData
 f_Tally___init__:Addr
 d_Tally___init__:FuncData
 f_Tally_moment:Addr
 d_Tally_moment:FuncData
 f_Tally_begin:Addr
 d_Tally_begin:FuncData
 f_Tally_look:Addr
 d_Tally_look:FuncData
 f_Tally_put:Addr
 d_Tally_put:FuncData
 f_Tally_leave:Addr
 d_Tally_leave:FuncData
 f_Tally_end:Addr
 d_Tally_end:FuncData
 f_Tally_take_over:Addr
 d_Tally_take_over:FuncData
 f_Tally_sweep:Addr
 d_Tally_sweep:FuncData
 f_Tally_amounts:Addr
 d_Tally_amounts:FuncData
 f_answer_to_end:Addr
 d_answer_to_end:FuncData
 f_answer_under_way:Addr
 d_answer_under_way:FuncData
 f_answer_to:Addr
 d_answer_to:FuncData
 f_answers_at:Addr
 d_answers_at:FuncData
 f_tally_behind:Addr
 d_tally_behind:FuncData
 f_answers:Addr
 d_answers:FuncData
 f_ending:Addr
 d_ending:FuncData
 f__law_unturned:Addr
 d__law_unturned:FuncData
 f__law_room:Addr
 d__law_room:FuncData
 f__law_whole:Addr
 d__law_whole:FuncData
 f__law_table:Addr
 d__law_table:FuncData
 f__law_ware:Addr
 d__law_ware:FuncData
 f__law_deeds:Addr
 d__law_deeds:FuncData
 f__law_ended:Addr
 d__law_ended:FuncData
 f__law_filtered:Addr
 d__law_filtered:FuncData
 f__law_alike:Addr
 d__law_alike:FuncData
 f__law_tallied:Addr
 d__law_tallied:FuncData
 f__law_walked:Addr
 d__law_walked:FuncData
 f__law_linked:Addr
 d__law_linked:FuncData
 f__law_ringed:Addr
 d__law_ringed:FuncData
 f__law_ends_right:Addr
 d__law_ends_right:FuncData
 f_law:Addr
 d_law:FuncData
 v_NUMBER:Value
 v_BEGAN:Value
 v_ENDED:Value
 v_LOOKED:Value
 v_PUT:Value
 v_ONE:Value
 v_OTHER:Value
 C_Dealing:Addr
 C_Tally:Addr
noncomputable section
def b4e(s:Stmt):Pos:=match s with
 | .FunctionDef _ _ _ _ _ _ _ _ _ p=>p
 | _=>⟨0,0,0,0⟩
abbrev hF(n q:Str)(s:Stmt)(m:Str)(t c:Nat):FuncData:=PySem.W.fnOf n q (Z8 s) (T7 s) (i6 s) .none .none .none (.str m t) none (.ref c) .none
def hO(d:FuncData):Obj:=⟨.type "function",none,.func d,#[]⟩
def hC(n q:Str)(t l a f r k r2:Nat)(x y:Value)(r3 i j:Nat):Obj:=⟨.type "code",none,.fields ⟨[.str n t,.str q (t+1),.str "/claim/cut.py" (t+2),.int l 0,.int a 0,.int 0 0,.int 0 0,.int f 0,.ref r,.bool true,.int k 0,.ref r2,.none,x,y,.ref r3,.int i 0,.int l 0,.str "/claim/cut.py" j]⟩,#[]⟩
def hI(n:Str)(t:Nat)(v:Value):Str×Nat×Value:=(n,t,v)
def hD(P:Params)(e:Nat)(l:List (Str×Nat×Value)):Obj:=⟨.type "dict",none,.dict ⟨l.map fun x=>⟨PyData.keyHash P x.1,.str x.1 x.2.1,x.2.2⟩⟩ e,#[]⟩
def hK(n:Str)(a s t u:Nat):Obj:=⟨.type "type",none,.cls { name:=n,bases:=[.type "object"],mro:=[.ref a,.type "object"],ns:=s,qualname:=n },⟨[none,none,some (.str n t),some (.str n u),some (.builtin "object.__new__"),some (.bool true)]⟩⟩
def hT:B4:=⟨21,hF "in_both" "in_both" a4k "tallyhall.links" 187 20,
 26,hF "links_for" "links_for" a4d "tallyhall.links" 187 25,
 33,hF "links_between" "links_between" S8 "tallyhall.links" 187 32,
 40,hF "links_with" "links_with" a9b "tallyhall.links" 187 39,
 47,hF "links_by" "links_by" a9g "tallyhall.rows" 232 46,
 52,hF "longest_row" "longest_row" X6 "tallyhall.rows" 232 51,
 59,hF "ring_behind" "ring_behind" Y1 "tallyhall.rows" 232 58,
 64,hF "row_or_ring" "row_or_ring" X4 "tallyhall.rows" 232 63,
 69,hF "reached" "reached" a2m "tallyhall.versions" 274 68,
 76,hF "value_at" "value_at" a8h "tallyhall.versions" 274 75,
 83,hF "swept" "swept" a3A "tallyhall.versions" 274 82,
 88,hF "turned" "turned" a3s "tallyhall.tally" 300 87,
 102,hF "__init__" "Dealing.__init__" O6 "tallyhall.tally" 300 101,
 109,hF "record" "Dealing.record" R5 "tallyhall.tally" 300 108,
 130,hF "__init__" "Tally.__init__" R4 "tallyhall.tally" 300 129,
 137,hF "moment" "Tally.moment" T9 "tallyhall.tally" 300 136,
 144,hF "begin" "Tally.begin" W9 "tallyhall.tally" 300 143,
 151,hF "look" "Tally.look" a1a "tallyhall.tally" 300 150,
 158,hF "put" "Tally.put" a8d "tallyhall.tally" 300 157,
 165,hF "leave" "Tally.leave" X9 "tallyhall.tally" 300 164,
 170,hF "end" "Tally.end" a2d "tallyhall.tally" 300 169,
 177,hF "take_over" "Tally.take_over" Q0 "tallyhall.tally" 300 176,
 182,hF "sweep" "Tally.sweep" X2 "tallyhall.tally" 300 181,
 187,hF "amounts" "Tally.amounts" T3 "tallyhall.tally" 300 186,
 201,hF "answer_to_end" "answer_to_end" S5 "tallyhall.day" 454 200,
 208,hF "answer_under_way" "answer_under_way" O9 "tallyhall.day" 454 207,
 215,hF "answer_to" "answer_to" a5d "tallyhall.day" 454 214,
 222,hF "answers_at" "answers_at" a6b "tallyhall.day" 454 221,
 229,hF "tally_behind" "tally_behind" U0 "tallyhall.day" 454 228,
 236,hF "answers" "answers" a4m "tallyhall.day" 454 235,
 243,hF "ending" "ending" a2u "tallyhall.day" 454 242,
 250,hF "_law_unturned" "_law_unturned" S9 "law_tallyhall_k10_whole_nothing_left" 515 249,
 257,hF "_law_room" "_law_room" a7d "law_tallyhall_k10_whole_nothing_left" 515 256,
 264,hF "_law_whole" "_law_whole" a6a "law_tallyhall_k10_whole_nothing_left" 515 263,
 271,hF "_law_table" "_law_table" a7a "law_tallyhall_k10_whole_nothing_left" 515 270,
 278,hF "_law_ware" "_law_ware" a1e "law_tallyhall_k10_whole_nothing_left" 515 277,
 285,hF "_law_deeds" "_law_deeds" a7b "law_tallyhall_k10_whole_nothing_left" 515 284,
 292,hF "_law_ended" "_law_ended" a5a "law_tallyhall_k10_whole_nothing_left" 515 291,
 299,hF "_law_filtered" "_law_filtered" S4 "law_tallyhall_k10_whole_nothing_left" 515 298,
 306,hF "_law_alike" "_law_alike" a1c "law_tallyhall_k10_whole_nothing_left" 515 305,
 313,hF "_law_tallied" "_law_tallied" V1 "law_tallyhall_k10_whole_nothing_left" 515 312,
 320,hF "_law_walked" "_law_walked" X7 "law_tallyhall_k10_whole_nothing_left" 515 319,
 325,hF "_law_linked" "_law_linked" Y0 "law_tallyhall_k10_whole_nothing_left" 515 324,
 332,hF "_law_ringed" "_law_ringed" X8 "law_tallyhall_k10_whole_nothing_left" 515 331,
 339,hF "_law_ends_right" "_law_ends_right" Q1 "law_tallyhall_k10_whole_nothing_left" 515 338,
 344,hF "law" "law" Q7 "law_tallyhall_k10_whole_nothing_left" 515 343,
 (.int 0 189),
 (.int 1 191),
 (.int 2 193),
 (.int 3 195),
 (.int 4 197),
 (.int 0 234),
 (.int 1 236),
 112,
 190⟩
def hAS:List Nat:=[3,20,21,25,26,32,33,39,40,46,47,51,52,58,59,63,64,68,69,75,76,82,83,87,88,101,102,108,109,111,112,129,130,136,137,143,144,150,151,157,158,164,165,169,170,176,177,181,182,186,187,189,190,200,201,207,208,214,215,221,222,228,229,235,236,242,243,249,250,256,257,263,264,270,271,277,278,284,285,291,292,298,299,305,306,312,313,319,320,324,325,331,332,338,339,343,344]
def KK(P:Params):PySem.W.Frag:=[(3,hD P 52 [hI "__name__" 165 (.str "law_tallyhall_k10_whole_nothing_left" 515),hI "__doc__" 166 .none,hI "__package__" 167 .none,hI "__loader__" 168 (.builtin "__main__.__loader__#opaque"),hI "__spec__" 169 .none,hI "__annotations__" 170 (.ref 6),hI "__builtins__" 171 (.ref 4),hI "__file__" 173 (.str "/claim/cut.py" 172),hI "__cached__" 174 .none,hI "NUMBER" 190 (.int 0 189),hI "BEGAN" 192 (.int 1 191),hI "ENDED" 194 (.int 2 193),hI "LOOKED" 196 (.int 3 195),hI "PUT" 198 (.int 4 197),hI "in_both" 206 (.ref 21),hI "links_for" 212 (.ref 26),hI "links_between" 221 (.ref 33),hI "links_with" 231 (.ref 40),hI "ONE" 235 (.int 0 234),hI "OTHER" 237 (.int 1 236),hI "links_by" 249 (.ref 47),hI "longest_row" 255 (.ref 52),hI "ring_behind" 267 (.ref 59),hI "row_or_ring" 273 (.ref 64),hI "reached" 281 (.ref 69),hI "value_at" 290 (.ref 76),hI "swept" 299 (.ref 83),hI "turned" 307 (.ref 88),hI "Dealing" 348 (.ref 112),hI "Tally" 453 (.ref 190),hI "answer_to_end" 464 (.ref 201),hI "answer_under_way" 473 (.ref 208),hI "answer_to" 481 (.ref 215),hI "answers_at" 491 (.ref 222),hI "tally_behind" 499 (.ref 229),hI "answers" 506 (.ref 236),hI "ending" 514 (.ref 243),hI "_law_unturned" 528 (.ref 250),hI "_law_room" 537 (.ref 257),hI "_law_whole" 544 (.ref 264),hI "_law_table" 553 (.ref 271),hI "_law_ware" 562 (.ref 278),hI "_law_deeds" 586 (.ref 285),hI "_law_ended" 593 (.ref 292),hI "_law_filtered" 606 (.ref 299),hI "_law_alike" 614 (.ref 306),hI "_law_tallied" 630 (.ref 313),hI "_law_walked" 648 (.ref 320),hI "_law_linked" 654 (.ref 325),hI "_law_ringed" 665 (.ref 332),hI "_law_ends_right" 676 (.ref 339),hI "law" 682 (.ref 344)]),
 (20,hC "in_both" "in_both" 199 7 2 3 15 181 16 (.ref 17) (.ref 18) 19 204 205),
 (21,hO hT.d_in_both),
 (25,hC "links_for" "links_for" 207 9 4 3 22 181 23 .none .none 24 210 211),
 (26,hO hT.d_links_for),
 (32,hC "links_between" "links_between" 213 11 2 3 27 181 28 (.ref 29) (.ref 30) 31 219 220),
 (33,hO hT.d_links_between),
 (39,hC "links_with" "links_with" 222 20 2 3 34 181 35 (.ref 36) (.ref 37) 38 229 230),
 (40,hO hT.d_links_with),
 (46,hC "links_by" "links_by" 238 29 3 3 41 181 42 (.ref 43) (.ref 44) 45 247 248),
 (47,hO hT.d_links_by),
 (51,hC "longest_row" "longest_row" 250 36 2 3 48 181 49 .none .none 50 253 254),
 (52,hO hT.d_longest_row),
 (58,hC "ring_behind" "ring_behind" 256 53 1 3 53 181 54 (.ref 55) (.ref 56) 57 265 266),
 (59,hO hT.d_ring_behind),
 (63,hC "row_or_ring" "row_or_ring" 268 65 2 3 60 181 61 .none .none 62 271 272),
 (64,hO hT.d_row_or_ring),
 (68,hC "reached" "reached" 276 74 2 3 65 181 66 .none .none 67 279 280),
 (69,hO hT.d_reached),
 (75,hC "value_at" "value_at" 282 76 2 3 70 181 71 (.ref 72) (.ref 73) 74 288 289),
 (76,hO hT.d_value_at),
 (82,hC "swept" "swept" 291 81 2 3 77 181 78 (.ref 79) (.ref 80) 81 297 298),
 (83,hO hT.d_swept),
 (87,hC "turned" "turned" 302 85 2 3 84 181 85 .none .none 86 305 306),
 (88,hO hT.d_turned),
 (101,hC "__init__" "Dealing.__init__" 320 90 3 3 96 181 97 (.ref 98) (.ref 99) 100 326 327),
 (102,hO hT.d_Dealing___init__),
 (108,hC "record" "Dealing.record" 329 96 2 3 103 181 104 (.ref 105) (.ref 106) 107 334 335),
 (109,hO hT.d_Dealing_record),
 (111,hD P 4 [hI "__module__" 315 (.str "tallyhall.tally" 300),hI "__firstlineno__" 319 (.int 88 318),hI "__init__" 328 (.ref 102),hI "record" 336 (.ref 109),hI "__static_attributes__" 341 (.ref 110),hI "__dict__" 343 (.ref 113),hI "__weakref__" 345 (.ref 114),hI "__doc__" 346 .none]),
 (112,hK "Dealing" 112 111 308 316),
 (129,hC "__init__" "Tally.__init__" 361 100 1 3 124 181 125 (.ref 126) (.ref 127) 128 365 366),
 (130,hO hT.d_Tally___init__),
 (136,hC "moment" "Tally.moment" 368 108 1 3 131 181 132 (.ref 133) (.ref 134) 135 372 373),
 (137,hO hT.d_Tally_moment),
 (143,hC "begin" "Tally.begin" 375 111 1 3 138 181 139 (.ref 140) (.ref 141) 142 380 381),
 (144,hO hT.d_Tally_begin),
 (150,hC "look" "Tally.look" 383 117 3 3 145 181 146 (.ref 147) (.ref 148) 149 390 391),
 (151,hO hT.d_Tally_look),
 (157,hC "put" "Tally.put" 393 124 4 3 152 181 153 (.ref 154) (.ref 155) 156 401 402),
 (158,hO hT.d_Tally_put),
 (164,hC "leave" "Tally.leave" 404 128 2 3 159 181 160 (.ref 161) (.ref 162) 163 409 410),
 (165,hO hT.d_Tally_leave),
 (169,hC "end" "Tally.end" 412 131 2 3 166 181 167 .none .none 168 415 416),
 (170,hO hT.d_Tally_end),
 (176,hC "take_over" "Tally.take_over" 418 144 2 3 171 181 172 (.ref 173) (.ref 174) 175 425 426),
 (177,hO hT.d_Tally_take_over),
 (181,hC "sweep" "Tally.sweep" 428 148 1 3 178 181 179 .none .none 180 431 432),
 (182,hO hT.d_Tally_sweep),
 (186,hC "amounts" "Tally.amounts" 434 158 1 3 183 181 184 .none .none 185 437 438),
 (187,hO hT.d_Tally_amounts),
 (189,hD P 4 [hI "__module__" 356 (.str "tallyhall.tally" 300),hI "__firstlineno__" 360 (.int 98 359),hI "__init__" 367 (.ref 130),hI "moment" 374 (.ref 137),hI "begin" 382 (.ref 144),hI "look" 392 (.ref 151),hI "put" 403 (.ref 158),hI "leave" 411 (.ref 165),hI "end" 417 (.ref 170),hI "take_over" 427 (.ref 177),hI "sweep" 433 (.ref 182),hI "amounts" 439 (.ref 187),hI "__static_attributes__" 446 (.ref 188),hI "__dict__" 448 (.ref 191),hI "__weakref__" 450 (.ref 192),hI "__doc__" 451 .none]),
 (190,hK "Tally" 190 189 349 357),
 (200,hC "answer_to_end" "answer_to_end" 456 161 2 3 195 181 196 (.ref 197) (.ref 198) 199 462 463),
 (201,hO hT.d_answer_to_end),
 (207,hC "answer_under_way" "answer_under_way" 465 166 2 3 202 181 203 (.ref 204) (.ref 205) 206 471 472),
 (208,hO hT.d_answer_under_way),
 (214,hC "answer_to" "answer_to" 474 177 2 3 209 181 210 (.ref 211) (.ref 212) 213 479 480),
 (215,hO hT.d_answer_to),
 (221,hC "answers_at" "answers_at" 482 185 2 3 216 181 217 (.ref 218) (.ref 219) 220 489 490),
 (222,hO hT.d_answers_at),
 (228,hC "tally_behind" "tally_behind" 492 190 1 3 223 181 224 (.ref 225) (.ref 226) 227 497 498),
 (229,hO hT.d_tally_behind),
 (235,hC "answers" "answers" 500 194 1 3 230 181 231 (.ref 232) (.ref 233) 234 504 505),
 (236,hO hT.d_answers),
 (242,hC "ending" "ending" 507 196 1 3 237 181 238 (.ref 239) (.ref 240) 241 512 513),
 (243,hO hT.d_ending),
 (249,hC "_law_unturned" "_law_unturned" 517 200 2 3 244 181 245 (.ref 246) (.ref 247) 248 526 527),
 (250,hO hT.d__law_unturned),
 (256,hC "_law_room" "_law_room" 529 221 3 3 251 181 252 (.ref 253) (.ref 254) 255 535 536),
 (257,hO hT.d__law_room),
 (263,hC "_law_whole" "_law_whole" 538 225 1 3 258 181 259 (.ref 260) (.ref 261) 262 542 543),
 (264,hO hT.d__law_whole),
 (270,hC "_law_table" "_law_table" 545 227 2 3 265 181 266 (.ref 267) (.ref 268) 269 551 552),
 (271,hO hT.d__law_table),
 (277,hC "_law_ware" "_law_ware" 554 238 2 3 272 181 273 (.ref 274) (.ref 275) 276 560 561),
 (278,hO hT.d__law_ware),
 (284,hC "_law_deeds" "_law_deeds" 563 241 1 3 279 181 280 (.ref 281) (.ref 282) 283 584 585),
 (285,hO hT.d__law_deeds),
 (291,hC "_law_ended" "_law_ended" 587 279 1 3 286 181 287 (.ref 288) (.ref 289) 290 591 592),
 (292,hO hT.d__law_ended),
 (298,hC "_law_filtered" "_law_filtered" 594 281 2 3 293 181 294 (.ref 295) (.ref 296) 297 604 605),
 (299,hO hT.d__law_filtered),
 (305,hC "_law_alike" "_law_alike" 607 298 2 3 300 181 301 (.ref 302) (.ref 303) 304 612 613),
 (306,hO hT.d__law_alike),
 (312,hC "_law_tallied" "_law_tallied" 615 306 2 3 307 181 308 (.ref 309) (.ref 310) 311 628 629),
 (313,hO hT.d__law_tallied),
 (319,hC "_law_walked" "_law_walked" 631 330 2 3 314 181 315 (.ref 316) (.ref 317) 318 646 647),
 (320,hO hT.d__law_walked),
 (324,hC "_law_linked" "_law_linked" 649 357 2 3 321 181 322 .none .none 323 652 653),
 (325,hO hT.d__law_linked),
 (331,hC "_law_ringed" "_law_ringed" 655 363 2 3 326 181 327 (.ref 328) (.ref 329) 330 663 664),
 (332,hO hT.d__law_ringed),
 (338,hC "_law_ends_right" "_law_ends_right" 666 375 2 3 333 181 334 (.ref 335) (.ref 336) 337 674 675),
 (339,hO hT.d__law_ends_right),
 (343,hC "law" "law" 677 380 1 3 340 181 341 .none .none 342 680 681),
 (344,hO hT.d_law)]
def hQ:Program:={ PySem.Challenge.pw_tallyhall_k10_whole_nothing_left with main:={ PySem.Challenge.pw_tallyhall_k10_whole_nothing_left.main with body:=[Q7] } }
def hL:List Str:=(["__name__","NUMBER","BEGAN","ENDED","LOOKED","PUT","in_both","links_for","links_between","links_with","ONE","OTHER","links_by","longest_row","ring_behind","row_or_ring","reached","value_at","swept","turned","Dealing","Tally","answer_to_end","answer_under_way","answer_to","answers_at","tally_behind","answers","ending","_law_unturned","_law_room","_law_whole","_law_table","_law_ware","_law_deeds","_law_ended","_law_filtered","_law_alike","_law_tallied","_law_walked","_law_linked","_law_ringed","_law_ends_right"]:List String).map Str.ofString
theorem hE:∀P,hAS=(KK P).map (·.1):=fun _=>rfl
def hH:PySem.W.Hook:=PySem.W.kHook KK hAS hE
def hX(s:Shared):Bool:=PySem.W.xlAt hQ [] s&&PySem.W.recOk (PySem.W.RowW.records (PySem.W.OpenRow.toRowW (PySem.W.OpenLaw.row PySem.Challenge.rw_tallyhall_k10_whole_nothing_left))) s
set_option maxHeartbeats 0 in
theorem b0C:PySem.W.LeftO PySem.Challenge.pw_tallyhall_k10_whole_nothing_left hQ hL hX (PySem.W.Hook.obs hH) (PySem.W.Hook.val hH) 4008:=fun w=>by kernel_rfl
end
end My
namespace L2
open PySem PySem.Spec PyProof.Rows
abbrev Key:=Sum Int Str
def a4h:Key→Value→Bool
 | .inl k,v=>Value.isInt k v
 | .inr x,v=>Value.isStrOf x v
def b8A(w:World):Key→Int
 | .inl k=>hashInt k
 | .inr x=>hashStr w x
theorem B9:∀{k:Key} {v:Value},a4h k v=true→(∃i t,k=Sum.inl i∧v=Value.int i t)∨(∃x t,k=Sum.inr x∧v=Value.str x t)
 | .inl i,v,h=>by
  obtain⟨t,e⟩:=Value.isInt_shape (k:=i) (v:=v) h
  exact .inl ⟨i,t,rfl,e⟩
 | .inr x,v,h=>by
  obtain⟨t,e⟩:=Value.isStrOf_shape (x:=x) (v:=v) h
  exact .inr ⟨x,t,rfl,e⟩
theorem b8e(i:Int)(t:Tok):a4h (.inl i) (.int i t)=true:=by simp[a4h,Value.isInt]
theorem b7f(x:Str)(t:Tok):a4h (.inr x) (.str x t)=true:=by simp[a4h,Value.isStrOf]
theorem b5w(a b:Int):decide ((Sum.inl a:Key)=Sum.inl b)=(a==b):=by
 by_cases e:a=b
 ·subst e;simp
 ·have h:¬(Sum.inl a:Key)=Sum.inl b:=fun q=>e (Sum.inl.inj q)
  rw[decide_eq_false h]
  exact(beq_eq_false_iff_ne.mpr e).symm
theorem b8x(a b:Str):decide ((Sum.inr a:Key)=Sum.inr b)=decide (a=b):=by
 by_cases e:a=b
 ·subst e;simp
 ·have h:¬(Sum.inr a:Key)=Sum.inr b:=fun q=>e (Sum.inr.inj q)
  rw[decide_eq_false h,decide_eq_false e]
theorem b2w(a:Int)(b:Str):decide ((Sum.inl a:Key)=Sum.inr b)=false:=decide_eq_false (fun q=>nomatch q)
theorem b6w(a:Str)(b:Int):decide ((Sum.inr a:Key)=Sum.inl b)=false:=decide_eq_false (fun q=>nomatch q)
def p7(prog:Program)(w:World):PySem.KeyKind prog w Key where
 is:=a4h
 hash:=b8A w
 inj:=fun v a b ha hb=>by
  rcases B9 ha with ⟨i,t,rfl,rfl⟩ | ⟨x,t,rfl,rfl⟩
  ·rcases B9 hb with ⟨j,u,rfl,e⟩ | ⟨y,u,rfl,e⟩
   ·injection e with e1 _;rw[e1]
   ·exact nomatch e
  ·rcases B9 hb with ⟨j,u,rfl,e⟩ | ⟨y,u,rfl,e⟩
   ·exact nomatch e
   ·injection e with e1 _;rw[e1]
 byValue:=fun k v h=>by
  rcases B9 h with ⟨i,t,rfl,rfl⟩ | ⟨x,t,rfl,rfl⟩<;>rfl
 pyHash:=fun hv h=>by
  rcases B9 hv with ⟨i,t,rfl,rfl⟩ | ⟨x,t,rfl,rfl⟩
  ·exact wpAny_pyHash_int h
  ·exact wpAny_pyHash_str h
 eqBool:=fun hu hv h=>by
  rcases B9 hu with ⟨i,t,rfl,rfl⟩ | ⟨x,t,rfl,rfl⟩
  ·rcases B9 hv with ⟨j,u,rfl,rfl⟩ | ⟨y,u,rfl,rfl⟩
   ·rw[b5w]at h;exact wpAny_eqBool_int h
   ·rw[b2w]at h;exact SeqAt.EqAt.int_str i t y u _ _ _ _ h
  ·rcases B9 hv with ⟨j,u,rfl,rfl⟩ | ⟨y,u,rfl,rfl⟩
   ·rw[b6w]at h;exact SeqAt.EqAt.str_int x t j u _ _ _ _ h
   ·rw[b8x]at h;exact wpAny_eqBool_str h
 «strs»:=fun k x t v h=>by
  rcases B9 h with ⟨i,u,rfl,e⟩ | ⟨y,u,rfl,e⟩
  ·exact nomatch e
  ·injection e with e1 _
   subst e1
   cases v<;>rfl
theorem a6S(prog:Program)(w:World)(i:Int)(t:Tok):(p7 prog w).is (.inl i) (.int i t)=true:=b8e i t
theorem a2R(prog:Program)(w:World)(x:Str)(t:Tok):(p7 prog w).is (.inr x) (.str x t)=true:=b7f x t
end L2
namespace L2
open PySem PySem.Spec PyProof.Rows
inductive V where
 | non | bl (b:Bool) | int (i:Int) | str (x:Str) | byt (b:Array UInt8) | flt (b:UInt64) | ref (a:Addr) | ty (n:String)
 deriving DecidableEq
def RelV:V→Value→Prop
 | .non,u=>u=Value.none
 | .bl b,u=>u=Value.bool b
 | .int i,u=>∃t,u=Value.int i t
 | .str x,u=>∃t,u=Value.str x t
 | .byt b,u=>∃t,u=Value.bytes b t
 | .flt b,u=>∃t,u=Value.float b t
 | .ref a,u=>u=Value.ref a
 | .ty n,u=>u=Value.type n
abbrev j4:List V→List Value→Prop:=Paired RelV
theorem j4.length{xs:List V}{us:List Value}(r:j4 xs us):xs.length=us.length:=Paired.length r
theorem j4.get:∀{xs:List V} {us:List Value} {i:Nat} {x:V},j4 xs us→xs[i]?=some x→∃u,us[i]?=some u∧RelV x u
 | _,_,_,_,.nil,e=>by simp at e
 | _,_,0,_,.cons r _,e=>by simp at e;subst e;exact⟨_,rfl,r⟩
 | _,_,i+1,x,.cons _ t,e=>by
  obtain⟨u,h1,h2⟩:=j4.get (i:=i) (x:=x) t (by simpa using e)
  exact⟨u,by simpa using h1,h2⟩
theorem j4.set{x:V}{u:Value}(r:RelV x u):∀{xs:List V} {us:List Value} (i:Nat),j4 xs us→j4 (xs.set i x) (us.set i u)
 | _,_,_,.nil=>.nil
 | _,_,0,.cons _ t=>.cons r t
 | _,_,i+1,.cons q t=>.cons q (j4.set r i t)
theorem j4.append:∀{xs ys:List V} {us ws:List Value},j4 xs us→j4 ys ws→j4 (xs++ys) (us++ws)
 | _,_,_,_,.nil,s=>s
 | _,_,_,_,.cons r t,s=>.cons r (j4.append t s)
theorem j4.take:∀{xs:List V} {us:List Value} (n:Nat),j4 xs us→j4 (xs.take n) (us.take n)
 | _,_,0,_=>.nil
 | _,_,_+1,.nil=>.nil
 | _,_,n+1,.cons r t=>.cons r (j4.take n t)
theorem j4.drop:∀{xs:List V} {us:List Value} (n:Nat),j4 xs us→j4 (xs.drop n) (us.drop n)
 | _,_,0,r=>r
 | _,_,_+1,.nil=>.nil
 | _,_,n+1,.cons _ t=>j4.drop n t
def N1:Option V→Option Value→Prop
 | some v,some u=>RelV v u
 | none,none=>True
 | _,_=>False
def KV{κ:Type}:List (κ×V)→List (κ×Value)→Prop:=Paired fun(p:κ×V) (q:κ×Value)=>p.1=q.1∧RelV p.2 q.2
def kV:Key→V
 | .inl i=>.int i
 | .inr x=>.str x
inductive HO where
 | lst (xs:List V)
 | tup (xs:List V)
 | dK (kvs:List (Key×V)) | dT (kvs:List (List Key×V))
 | set (S:Int→Bool) (n:Nat)
 | ins (C dx:Addr) (fs:List (Str×V))
 | own (x:Addr)
 | xd (fs:List (Str×V))
 | met (f x:Addr)
 | rng (lo hi:Int)
 | frz (o:Obj) (u:HO)
 | tbl (ps:Array Value)
 | ext (φ:Heap→Prop)
abbrev Hp:=Addr→Option HO
def upd(H:Hp)(a:Addr)(o:HO):Hp:=fun b=>if b=a then some o else H b
theorem b0{H:Hp}{a:Addr}{o:HO}:upd H a o a=some o:=by unfold upd;rw[if_pos rfl]
theorem b7{H:Hp}{a b:Addr}{o:HO}(h:b≠a):upd H a o b=H b:=by unfold upd;rw[if_neg h]
theorem a2V{H:Hp}{a:Addr}{o u:HO}:upd (upd H a o) a u=upd H a u:=by
 funext b;unfold upd;split<;>rfl
theorem a7v{H:Hp}{a b:Addr}{o u:HO}(h:H a=some o)(h':H b=some u)(d:o≠u):a≠b:=by
 intro e;subst e;rw[h]at h';exact d (qW1 h')
theorem e7{H:Hp}{a b:Addr}{o:HO}(h:H a=some o)(h':H b=none):a≠b:=by
 intro e;subst e;rw[h]at h';cases h'
section
variable(P:Program)(w:World)
def z9(H:Hp)(h:Heap)(a:Addr):HO→Prop
 | .lst xs=>xs.length≤sizeLine∧∃(its:List Value) (n:Nat),j4 xs its∧h.get? a=some { cls:=.type "list",data:=.seq its.toArray n }
 | .tup xs=>xs.length≤sizeLine∧∃its:List Value,j4 xs its∧IsTup h a its.toArray
 | .dK kvs=>kvs.length≤sizeLine∧(a==sysModules)=false∧∃vs,KV kvs vs∧h.DictOf (p7 P w) a vs
 | .dT kvs=>kvs.length≤sizeLine∧(a==sysModules)=false∧∃xs:List (List Key×Addr×Value),
   Paired (fun(p:List Key×V) (q:List Key×Addr×Value)=>p.1=q.1∧H q.2.1=some (.tup (p.1.map kV))∧RelV p.2 q.2.2) kvs xs ∧
   ∃o es ep,h.get? a=some o∧o.ExactDict∧o.data=.dict es ep∧es.toList=xs.map (entryOfKey (tupleKind (p7 P w)))∧(xs.map (·.1)).Nodup
 | .set S n=>h.SetOf (intKind P w) a S n
 | .ins C dx fs=>H dx=some (.own a)∧fs.length≤1000∧dx≠a∧h.get? a=some (PySem.W.instObj C dx) ∧
   ∃mA,h.Ns1 dx mA∧(∀f,N1 (fs.lookup f) (mA f))∧PySem.Within mA (fs.map (·.1))
 | .own _=>∃o,h.get? a=some o
 | .xd fs=>∃mA,h.Ns1 a mA∧∀f,N1 (fs.lookup f) (mA f)
 | .rng lo hi=>∃t u v,h.get? a=some { cls:=.type "range",data:=.fields #[.int lo t,.int hi u,.int 1 v] }
 | .frz o u=>h.get? a=some o∧z9 H h a u
 | .tbl ps=>h.get? a=some { cls:=.none,data:=.fields ps }
 | .met f x=>h.get? a=some (PySem.W.methodObj (.ref f) (.ref x))
 | .ext φ=>φ h∧(∃o,h.get? a=some o)∧∀h1 h2:Heap,φ h1→(∀o,h1.get? a=some o→h2.get? a=some o)→φ h2
def J4(H:Hp)(h:Heap):Prop:=∀a o,H a=some o→z9 P w H h a o
end
section
variable{P:Program}{w:World}{H H':Hp}{h h':Heap}{a:Addr}{o:HO}
theorem z9.lt(x:z9 P w H h a o):a<h.objs.size:=by
 cases o with
 | lst xs=>obtain⟨_,_,_,_,e⟩:=x;exact Heap.lt_size e
 | tup xs=>obtain⟨_,_,_,p⟩:=x;exact p.lt
 | dK kvs=>obtain⟨_,_,_,_,o,_,_,e,_⟩:=x;exact Heap.lt_size e
 | dT kvs=>obtain⟨_,_,_,_,o,_,_,e,_⟩:=x;exact Heap.lt_size e
 | set S n=>obtain⟨o,_,_,_,e,_⟩:=x;exact Heap.lt_size e
 | ins C dx fs=>obtain⟨_,_,_,e,_⟩:=x;exact Heap.lt_size e
 | own y=>obtain⟨_,e⟩:=x;exact Heap.lt_size e
 | xd fs=>obtain⟨_,⟨_,_,_,e,_⟩,_⟩:=x;exact Heap.lt_size e
 | rng lo hi=>obtain⟨_,_,_,e⟩:=x;exact Heap.lt_size e
 | frz ob u=>obtain⟨e,_⟩:=x;exact Heap.lt_size e
 | tbl ps=>exact Heap.lt_size (show h.get? a=some _ from x)
 | met f y=>exact Heap.lt_size (show h.get? a=some _ from x)
 | ext φ=>obtain⟨_,⟨_,e⟩,_⟩:=x;exact Heap.lt_size e
theorem Paired.mapP{α β:Type}{F G:α→β→Prop}:∀{l₁:List α} {l₂:List β},Paired F l₁ l₂→(∀a b,F a b→G a b)→Paired G l₁ l₂
 | _,_,.nil,_=>.nil
 | _,_,.cons r t,f=>.cons (f _ _ r) (Paired.mapP t f)
theorem z9.stay(x:z9 P w H h a o)(k:∀b u,(b=a∨H b=some (.own a))→h.get? b=some u→h'.get? b=some u)
  (ho:∀b,H b=some (.own a)→H' b=some (.own a)) (ht:∀b xs,H b=some (.tup xs)→H' b=some (.tup xs)):z9 P w H' h' a o:=by
 induction o with
 | lst xs=>obtain⟨z,its,n,r,e⟩:=x;exact⟨z,its,n,r,k _ _ (.inl rfl) e⟩
 | tup xs=>obtain⟨z,its,r,ob,e,c⟩:=x;exact⟨z,its,r,ob,k _ _ (.inl rfl) e,c⟩
 | dK kvs=>obtain⟨z,y,vs,r,ob,es,ep,e,c⟩:=x;exact⟨z,y,vs,r,ob,es,ep,k _ _ (.inl rfl) e,c⟩
 | dT kvs=>
  obtain⟨z,y,xs,r,ob,es,ep,e,c⟩:=x
  exact⟨z,y,xs,Paired.mapP r fun p q z=>⟨z.1,ht _ _ z.2.1,z.2.2⟩,ob,es,ep,k _ _ (.inl rfl) e,c⟩
 | set S n=>obtain⟨ob,es,ep,t,e,c⟩:=x;exact⟨ob,es,ep,t,k _ _ (.inl rfl) e,c⟩
 | ins C dx fs=>
  obtain⟨d,z,ne,e,mA,⟨od,es,ep,e2,c⟩,r⟩:=x
  exact⟨ho _ d,z,ne,k _ _ (.inl rfl) e,mA,⟨od,es,ep,k _ _ (.inr d) e2,c⟩,r⟩
 | own y=>obtain⟨ob,e⟩:=x;exact⟨ob,k _ _ (.inl rfl) e⟩
 | xd fs=>obtain⟨mA,⟨od,es,ep,e,c⟩,r⟩:=x;exact⟨mA,⟨od,es,ep,k _ _ (.inl rfl) e,c⟩,r⟩
 | rng lo hi=>obtain⟨t,u,v,e⟩:=x;exact⟨t,u,v,k _ _ (.inl rfl) e⟩
 | frz ob u ih=>obtain⟨e,q⟩:=x;exact⟨k _ _ (.inl rfl) e,ih q⟩
 | tbl ps=>
  have e:h.get? a=some { cls:=.none,data:=.fields ps }:=x
  show h'.get? a=some { cls:=.none,data:=.fields ps }
  exact k a _ (.inl rfl) e
 | met f y=>
  have e:h.get? a=some (PySem.W.methodObj (.ref f) (.ref y)):=x
  show h'.get? a=some (PySem.W.methodObj (.ref f) (.ref y))
  exact k a _ (.inl rfl) e
 | ext φ=>obtain⟨p,⟨o,e⟩,st⟩:=x;exact⟨st _ _ p fun o q=>k _ _ (.inl rfl) q,⟨o,k _ _ (.inl rfl) e⟩,st⟩
theorem J4.lt(x:J4 P w H h)(e:H a=some o):a<h.objs.size:=(x a o e).lt
theorem J4.fresh(x:J4 P w H h)(e:h.objs.size≤a):H a=none:=by
 cases q:H a with
 | none=>rfl
 | some u=>exact absurd (Nat.lt_of_lt_of_le (x.lt q) e) (Nat.lt_irrefl _)
theorem J4.kept(x:J4 P w H h)(k:∀b u,h.get? b=some u→h'.get? b=some u):J4 P w H h':=fun a o e=>
 (x a o e).stay (fun b u _ q=>k b u q) (fun _ q=>q) fun _ _ q=>q
theorem J4.laid(x:J4 P w H h)(k:∀b u,h.get? b=some u→h'.get? b=some u)(hp:h.objs.size≤a)(new:z9 P w (upd H a o) h' a o):J4 P w (upd H a o) h':=fun b u e=>by
 have hn:=x.fresh hp
 by_cases hb:b=a
 ·subst hb;rw[b0]at e;cases e;exact new
 ·rw[b7 hb]at e
  exact(x b u e).stay (fun c v _ q=>k c v q) (fun c q=>by rw[b7 (e7 q hn)];exact q) fun c xs q=>by rw[b7 (e7 q hn)];exact q
end
def Rd(H:Hp)(a:Addr)(u:HO):Prop:=H a=some u∨∃o,H a=some (.frz o u)
theorem Rd.of{H:Hp}{a:Addr}{u:HO}(h:H a=some u):Rd H a u:=.inl h
theorem Rd.ok{P:Program}{w:World}{H:Hp}{h:Heap}{a:Addr}{u:HO}(r:Rd H a u)(x:J4 P w H h):z9 P w H h a u:=by
 rcases r with r | ⟨o,r⟩
 ·exact x a u r
 ·obtain⟨_,q⟩:=x a _ r
  exact q
def Mut:Option HO→Prop
 | some (.lst _)=>True
 | some (.dK _)=>True
 | some (.dT _)=>True
 | some (.set _ _)=>True
 | some (.ins _ _ _)=>True
 | some (.ext _)=>True
 | _=>False
section
variable{P:Program}{w:World}{H:Hp}{h h':Heap}{x e:Addr}{o':HO}
theorem J4.write(ok:J4 P w H h)(mu:Mut (H x))(he:e=x∨H e=some (.own x))(k:∀b u,b≠e→h.get? b=some u→h'.get? b=some u)(heo:∃u,h'.get? e=some u)
  (new:z9 P w (upd H x o') h' x o'):J4 P w (upd H x o') h':=fun b u q=>by
 have nown:∀c y,H c=some (.own y)→c≠x:=fun c y r z=>by subst z;rw[r]at mu;exact mu
 have ntup:∀c xs,H c=some (.tup xs)→c≠x:=fun c xs r z=>by subst z;rw[r]at mu;exact mu
 by_cases hb:b=x
 ·subst hb;rw[b0]at q;cases q;exact new
 ·rw[b7 hb]at q
  by_cases hbe:b=e
  ·have q':H b=some (.own x):=by
    rcases he with z | z
    ·exact absurd (hbe.trans z) hb
    ·rw[hbe];exact z
   rw[q]at q';cases q'
   obtain⟨v,hv⟩:=heo
   exact⟨v,by rw[hbe];exact hv⟩
  ·refine(ok b u q).stay (fun c v hc r=>k c v ?_ r) (fun c r=>by rw[b7 (nown c b r)];exact r) fun c xs r=>by rw[b7 (ntup c xs r)];exact r
   rcases hc with rfl | hc
   ·exact hbe
   ·rintro rfl
    rcases he with z | z
    ·exact nown c b hc z
    ·rw[hc]at z;cases z;exact hb rfl
end
structure Un(fs ex:List Addr)(H H':Hp)(h h':Heap):Prop where
 keep:∀b o,h.get? b=some o→H b=none→b∉fs→b∉ex→h'.get? b=some o
 slot:∀b o,h.get? b=some o→H b=none→b∈fs→b∉ex→∃sl,h'.get? b=some { o with slots:=sl }
 free:∀b o,h.get? b=some o→H b=none→b∉ex→H' b=none
 there:∀b o,h.get? b=some o→b∉ex→∃o',h'.get? b=some o'
 tups:∀b xs,H b=some (.tup xs)→H' b=some (.tup xs)
 frzs:∀b o u,H b=some (.frz o u)→H' b=some (.frz o u)
 tbls:∀b ps,H b=some (.tbl ps)→∃more,H' b=some (.tbl (ps++more))
section
variable{fs fs' ex ex':List Addr}{H H1 H2:Hp}{h h1 h2 h':Heap}{a x e:Addr}{o:HO}
theorem Un.any(u:Un fs ex H H1 h h1){b:Addr}{ob:Obj}(q:h.get? b=some ob)(n:H b=none)(hx:b∉ex):∃sl,h1.get? b=some { ob with slots:=sl }:=by
 by_cases hb:b∈fs
 ·exact u.slot b ob q n hb hx
 ·exact⟨ob.slots,u.keep b ob q n hb hx⟩
theorem Un.trans(a:Un fs ex H H1 h h1)(b:Un fs ex H1 H2 h1 h2):Un fs ex H H2 h h2 where
 keep:=fun c ob q n hc hx=>b.keep c ob (a.keep c ob q n hc hx) (a.free c ob q n hx) hc hx
 slot:=fun c ob q n hc hx=>by
  obtain⟨sl,e1⟩:=a.slot c ob q n hc hx
  obtain⟨sl',e2⟩:=b.slot c _ e1 (a.free c ob q n hx) hc hx
  exact⟨sl',e2⟩
 free:=fun c ob q n hx=>by
  obtain⟨o',e1⟩:=a.there c ob q hx
  exact b.free c o' e1 (a.free c ob q n hx) hx
 there:=fun c ob q hx=>by
  obtain⟨o',e1⟩:=a.there c ob q hx
  exact b.there c o' e1 hx
 tups:=fun c xs q=>b.tups c xs (a.tups c xs q)
 frzs:=fun c ob xs q=>b.frzs c ob xs (a.frzs c ob xs q)
 tbls:=fun c ps q=>by
  obtain⟨m1,e1⟩:=a.tbls c ps q
  obtain⟨m2,e2⟩:=b.tbls c _ e1
  exact⟨m1++m2,by rw[e2,Array.append_assoc]⟩
theorem Un.kept(k:∀b u,h.get? b=some u→h'.get? b=some u):Un fs ex H H h h':=
 ⟨fun b ob q _ _ _=>k b ob q,fun b ob q _ _ _=>⟨ob.slots,k b ob q⟩,fun _ _ _ n _=>n,fun b ob q _=>⟨ob,k b ob q⟩,fun _ _ q=>q,fun _ _ _ q=>q,fun _ ps q=>⟨#[],by rw[q];simp⟩⟩
theorem Un.refl:Un fs ex H H h h:=Un.kept fun _ _ q=>q
theorem Un.laid(k:∀b u,h.get? b=some u→h'.get? b=some u)(hp:h.objs.size≤a)(hn:H a=none):Un fs ex H (upd H a o) h h' where
 keep:=fun b u q _ _ _=>k b u q
 slot:=fun b u q _ _ _=>⟨u.slots,k b u q⟩
 free:=fun b u q n _=>by rw[b7 (Nat.ne_of_lt (Nat.lt_of_lt_of_le (Heap.lt_size q) hp))];exact n
 there:=fun b u q _=>⟨u,k b u q⟩
 tups:=fun b xs q=>by rw[b7 (e7 q hn)];exact q
 frzs:=fun b u xs q=>by rw[b7 (e7 q hn)];exact q
 tbls:=fun b ps q=>⟨#[],by rw[b7 (e7 q hn),q];simp⟩
theorem Un.write(mu:Mut (H x))(he:e=x∨H e=some (.own x))(k:∀b u,b≠e→h.get? b=some u→h'.get? b=some u)(heo:∃u,h'.get? e=some u):Un fs ex H (upd H x o) h h':=by
 have hx:∀b,H b=none→b≠x:=fun b n z=>by subst z;rw[n]at mu;exact mu
 have hb:∀b,H b=none→b≠e:=fun b n z=>by
  subst z
  rcases he with r | r
  ·exact hx b n r
  ·rw[n]at r;cases r
 have hm:∀b u,H b=some u→¬Mut (some u)→b≠x:=fun b u q nm z=>by subst z;rw[q]at mu;exact nm mu
 refine⟨fun b u q n _ _=>k b u (hb b n) q,fun b u q n _ _=>⟨u.slots,k b u (hb b n) q⟩,fun b u q n _=>by rw[b7 (hx b n)];exact n,fun b u q _=>?_,
  fun b xs q=>by rw[b7 (hm b _ q fun z=>z)];exact q,fun b u xs q=>by rw[b7 (hm b _ q fun z=>z)];exact q,fun b ps q=>⟨#[],by rw[b7 (hm b _ q fun z=>z),q];simp⟩⟩
 by_cases hbe:b=e
 ·subst hbe;exact heo
 ·exact⟨u,k b u hbe q⟩
end
def trk(h:Heap)(H:Hp):List Addr:=(List.range h.objs.size).filter fun a=>(H a).isSome
def a0i(h:Heap)(H:Hp):Heap:=PySem.W.hideAll h (trk h H)
theorem b5c(h:Heap)(H:Hp):(a0i h H).objs.size=h.objs.size:=PySem.W.hideAll_size _ _
theorem b4k{h:Heap}{H:Hp}{b:Addr}{o:Obj}(e:h.get? b=some o)(n:H b=none):(a0i h H).get? b=some o:=
 PySem.W.hideAll_get _ e fun hm=>by
  have q:(H b).isSome=true:=(qW0.mp hm).2
  rw[n]at q;simp at q
theorem b7r{h:Heap}{H:Hp}{b:Addr}{o:Obj}(e:(a0i h H).get? b=some o):h.get? b=some o∧H b=none:=by
 have e':h.get? b=some o:=PySem.W.of_hideAll (trk h H) e
 refine⟨e',?_⟩
 cases q:H b with
 | none=>rfl
 | some x=>
  have hm:b∈trk h H:=qW0.mpr ⟨List.mem_range.mpr (Heap.lt_size e'),by simp[q]⟩
  have z:(a0i h H).get? b=none:=PySem.W.hideAll_none (trk h H) hm
  rw[z]at e;cases e
def b0s(g h:Heap)(L:Addr):List (Addr×Obj):=(List.range h.objs.size).filterMap fun a=>if a=L∨(g.get? a).isSome=true then none else(h.get? a).map fun o=>(a,o)
def rest(g h:Heap)(L d:Addr):List (Addr×Obj):=(b0s g h L).filter fun p=>decide (p.1≠d)
end L2
namespace L2
open PySem PySem.Spec PyProof.Rows
structure Mod(K:PySem.W.Frag)(mg:Str→Option Value)(base:Heap):Prop where
 kin:K.In base
 glob:base.Ns mainGlobals mg
 blt:∃mb,base.Ns builtinsNs mb∧∀x:Str,x≠"__name__"→mb x=bootBuiltins x
 nolimit:base.NoLimit
structure Cx where
 prog:Program
 w:World
 K:PySem.W.Frag
 mg:Str→Option Value
 base:Heap
 A:Around
 N:List Str
 s₀:Shared
 H₀:Hp
 env:Env
 outer:List Env
 stack:List Env
 ex:List Addr
 fn:Str→Bool
 calm:Bool
 pn:List (Addr×Obj)
 xe:Value→Shared→Prop
def frs(l:List Env):List Addr:=l.filterMap (·.frame)
abbrev Cx.fs(X:Cx):List Addr:=frs X.outer
def Vis(sc:Scope)(x:Str):Prop:=sc.names.lookup x=some .local∨sc.names.lookup x=some .cell∨sc.names.lookup x=some .free
def Loc(sc:Scope)(x:Str):Prop:=sc.names.lookup x=some .local∨sc.names.lookup x=some .cell
def Look(env:Env)(h:Heap)(m:Str→Option Value)(x:Str)(u:Value):Prop:=
 (env.kindOf x=some .local∧m x=some u)∨((env.kindOf x=some .cell∨env.kindOf x=some .free)∧∃c,env.cells.lookup x=some c∧h.IsCell c (some u))
structure Cx.Ok(X:Cx):Prop where
 mod:Mod X.K X.mg X.base
 kind:X.env.scope.kind=.function
 glob:X.env.globals=mainGlobals
 blt:X.env.builtins=builtinsNs
 above:X.s₀.heap.objs.size≤X.env.locals
 inj:∀x y c,X.env.cells.lookup x=some c→X.env.cells.lookup y=some c→x=y
 has:∀x,(X.env.kindOf x=some .cell∨X.env.kindOf x=some .free)→∃c,X.env.cells.lookup x=some c
 cab:∀x c,X.fn x=true→X.env.cells.lookup x=some c→X.s₀.heap.objs.size≤c
 hd:X.calm=true→X.A.handled=none
 frames:X.A.frames=some X.stack
 stk:X.stack=X.outer∨(X.stack=X.env::X.outer∧X.env.frame=some X.env.locals)
 exf:∀b∈X.ex,b≠X.env.locals∧∀x c,X.env.cells.lookup x=some c→c≠b
 bs:∀b o,X.base.get? b=some o→X.s₀.heap.get? b=some o∧X.H₀ b=none
 bsz:X.base.objs.size≤X.s₀.heap.objs.size
 noex:∀b o,X.base.get? b=some o→b∉X.ex
 exfs:∀b∈X.ex,b∉X.fs
 funs:X.s₀.heap.FunFrames X.base X.outer
 frf:∀b∈X.fs,X.H₀ b=none
structure Inv(X:Cx)(pins:List (Addr×Obj))(σ:List (Option V))(H:Hp)(s:Shared):Prop where
 ok:X.Ok
 os:s.os=X.s₀.os
 bare:AllBare s.gens
 base:Un X.fs X.ex X.H₀ H X.s₀.heap s.heap
 loc:∃m,s.heap.Ns X.env.locals m∧∀(i:Nat) (x:Str) (v:V),X.N[i]?=some x→σ[i]?=some (some v)→Vis X.env.scope x→∃u,RelV v u∧Look X.env s.heap m x u
 cell:∀x c,X.env.cells.lookup x=some c→∃v,s.heap.IsCell c v
 free:H X.env.locals=none
 freeC:∀x c,X.env.cells.lookup x=some c→H c=none
 pin:∀p∈X.pn++pins,s.heap.get? p.1=some p.2∧H p.1=none∧p.1≠X.env.locals∧p.1∉X.fs∧∀v,p.2.data≠.cell v
 hok:J4 X.prog X.w H s.heap
 len:σ.length=X.N.length
section
variable{X:Cx}{pins:List (Addr×Obj)}{σ:List (Option V)}{H H':Hp}{s:Shared}{h':Heap}
theorem Cx.Ok.nofr(ok:X.Ok){b:Addr}{o:Obj}(e:X.base.get? b=some o):b∉X.fs:=fun hb=>by
 have:=(ok.funs.mem hb).1
 rw[e]at this;cases this
theorem Inv.bs(I:Inv X pins σ H s):∀b o,X.base.get? b=some o→s.heap.get? b=some o∧H b=none:=fun b o e=>
 ⟨I.base.keep b o (I.ok.bs b o e).1 (I.ok.bs b o e).2 (I.ok.nofr e) (I.ok.noex b o e),I.base.free b o (I.ok.bs b o e).1 (I.ok.bs b o e).2 (I.ok.noex b o e)⟩
theorem Inv.bk(I:Inv X pins σ H s):∀b o,X.base.get? b=some o→s.heap.get? b=some o:=fun b o e=>(I.bs b o e).1
theorem Inv.mod(I:Inv X pins σ H s):Mod X.K X.mg X.base:=I.ok.mod
theorem Inv.kIn(I:Inv X pins σ H s):X.K.In s.heap:=I.ok.mod.kin.keeps I.bk
theorem Inv.lt(I:Inv X pins σ H s):X.env.locals<s.heap.objs.size:=let ⟨_,hn,_⟩:=I.loc;hn.lt
theorem Inv.sz(I:Inv X pins σ H s):X.s₀.heap.objs.size≤s.heap.objs.size:=Nat.le_trans I.ok.above (Nat.le_of_lt I.lt)
theorem Inv.nofs(I:Inv X pins σ H s){a:Addr}(h:s.heap.objs.size≤a):a∉X.fs:=fun hb=>by
 obtain⟨_,o,ho,_⟩:=I.ok.funs.mem hb
 exact absurd (Nat.lt_of_lt_of_le (Heap.lt_size ho) (Nat.le_trans I.sz h)) (Nat.lt_irrefl _)
theorem Inv.cne(I:Inv X pins σ H s):∀x c,X.env.cells.lookup x=some c→c≠X.env.locals:=fun x c e z=>by
 obtain⟨v,o,ho,hd⟩:=I.cell x c e
 obtain⟨m,⟨o',es,ep,ho',hd',_⟩,_⟩:=I.loc
 rw[z,ho']at ho;cases ho;rw[hd']at hd;cases hd
theorem Inv.funs(I:Inv X pins σ H s):s.heap.FunFrames X.base X.outer:=by
 have all:∀(l:List Env),(∀b∈frs l,b∈X.fs)→X.s₀.heap.FunFrames X.base l→s.heap.FunFrames X.base l:=by
  intro l
  induction l with
  | nil=>intro _ _;trivial
  | cons env r ih=>
   intro hs hl
   obtain⟨hk,⟨L,o,hf,hn,ho,hd⟩,hr⟩:=hl
   have hL:L∈X.fs:=hs L (by unfold frs;rw[List.filterMap_cons,hf];exact List.mem_cons_self)
   obtain⟨sl,e⟩:=I.base.slot L o ho (I.ok.frf L hL) hL fun z=>I.ok.exfs L z hL
   exact⟨hk,⟨L,_,hf,hn,e,hd⟩,ih (fun b hb=>hs b (by unfold frs;rw[List.filterMap_cons,hf];exact List.mem_cons_of_mem _ hb)) hr⟩
 exact all X.outer (fun _ hb=>hb) I.ok.funs
theorem Inv.stack(I:Inv X pins σ H s):s.heap.FunFrames X.base X.stack:=by
 rcases I.ok.stk with e | ⟨e,hf⟩
 ·rw[e];exact I.funs
 ·rw[e]
  obtain⟨m,hn,_⟩:=I.loc
  refine .cons (by rw[I.ok.kind];decide) hf hn ?_ I.funs
  exact Heap.get?_none_of_le (Nat.le_trans I.ok.bsz I.ok.above)
theorem Inv.stkSub(I:Inv X pins σ H s):∀b∈frs X.stack,b∈X.env.locals::X.fs:=fun b hb=>by
 rcases I.ok.stk with e | ⟨e,hf⟩
 ·rw[e]at hb;exact List.mem_cons_of_mem _ hb
 ·rw[e]at hb
  unfold frs at hb
  rw[List.filterMap_cons,hf]at hb
  exact hb
theorem Inv.stkFree(I:Inv X pins σ H s):∀b∈frs X.stack,H b=none:=fun b hb=>by
 rcases qQ9.mp (I.stkSub b hb) with e | hb
 ·rw[e];exact I.free
 ·obtain⟨_,o,ho,_⟩:=I.ok.funs.mem hb
  exact I.base.free b o ho (I.ok.frf b hb) fun z=>I.ok.exfs b z hb
theorem Inv.step{g':Array GenState}{t':Nat}{d':Drawn}{ch:List Addr}(I:Inv X pins σ H s)
  (hch:∀b∈ch,(b∈X.ex∨X.s₀.heap.objs.size≤b)∧b≠X.env.locals∧(∀x c,X.env.cells.lookup x=some c→c≠b)∧∀p∈X.pn++pins,p.1≠b)
  (keep:∀b o,b≠X.env.locals→b∉X.fs→b∉ch→s.heap.get? b=some o→H b=none→h'.get? b=some o)
  (slot:∀b o,b≠X.env.locals→b∈X.fs→b∉ch→s.heap.get? b=some o→H b=none→∃sl,h'.get? b=some { o with slots:=sl }) (free:∀b o,b∉ch→s.heap.get? b=some o→H b=none→H' b=none)
  (there:∀b o,b∉ch→s.heap.get? b=some o→∃o',h'.get? b=some o')
  (tups:∀b xs,H b=some (.tup xs)→H' b=some (.tup xs)) (frzs:∀b o u,H b=some (.frz o u)→H' b=some (.frz o u)) (tbls:∀b ps,H b=some (.tbl ps)→∃more,H' b=some (.tbl (ps++more)))
  (ns:∀m,s.heap.Ns X.env.locals m→h'.Ns X.env.locals m) (hok:J4 X.prog X.w H' h') (hg:AllBare g') :
  Inv X pins σ H' { s with heap:=h',gens:=g',drawn:=d',toks:=t' }:=by
 have neL:∀b o,X.s₀.heap.get? b=some o→b≠X.env.locals:=fun b o e=>Nat.ne_of_lt (Nat.lt_of_lt_of_le (Heap.lt_size e) I.ok.above)
 have neC:∀b o,X.s₀.heap.get? b=some o→b∉X.ex→b∉ch:=fun b o e hx hb=>by
  rcases(hch b hb).1 with z | z
  ·exact hx z
  ·exact absurd (Nat.lt_of_lt_of_le (Heap.lt_size e) z) (Nat.lt_irrefl _)
 have cellK:∀x c,X.env.cells.lookup x=some c→∀v,s.heap.IsCell c v→h'.IsCell c v:=fun x c e v ⟨o,ho,hd⟩=>by
  have nch:c∉ch:=fun z=>(hch c z).2.2.1 x c e rfl
  by_cases hc:c∈X.fs
  ·obtain⟨sl,q⟩:=slot c o (I.cne x c e) hc nch ho (I.freeC x c e)
   exact⟨_,q,hd⟩
  ·exact⟨o,keep c o (I.cne x c e) hc nch ho (I.freeC x c e),hd⟩
 refine⟨I.ok,I.os,hg,⟨fun b o e n hb hx=>?_,fun b o e n hb hx=>?_,fun b o e n hx=>?_,fun b o e hx=>?_,fun b xs e=>tups b xs (I.base.tups b xs e),fun b o xs e=>frzs b o xs (I.base.frzs b o xs e),fun b ps e=>?_⟩,?_,fun x c e=>?_,?_,fun x c e=>?_,fun p hp=>?_,hok,I.len⟩
 ·exact keep b o (neL b o e) hb (neC b o e hx) (I.base.keep b o e n hb hx) (I.base.free b o e n hx)
 ·obtain⟨sl,e1⟩:=I.base.slot b o e n hb hx
  obtain⟨sl',e2⟩:=slot b _ (neL b o e) hb (neC b o e hx) e1 (I.base.free b o e n hx)
  exact⟨sl',e2⟩
 ·obtain⟨o',e1⟩:=I.base.there b o e hx
  exact free b o' (neC b o e hx) e1 (I.base.free b o e n hx)
 ·obtain⟨o',e1⟩:=I.base.there b o e hx
  exact there b o' (neC b o e hx) e1
 ·obtain⟨m1,e1⟩:=I.base.tbls b ps e
  obtain⟨m2,e2⟩:=tbls b _ e1
  exact⟨m1++m2,by rw[e2,Array.append_assoc]⟩
 ·obtain⟨m,hn,hl⟩:=I.loc
  refine⟨m,ns m hn,fun i x v e1 e2 e3=>?_⟩
  obtain⟨u,r,l⟩:=hl i x v e1 e2 e3
  refine⟨u,r,?_⟩
  rcases l with l | ⟨k,c,e,z⟩
  ·exact .inl l
  ·exact .inr ⟨k,c,e,cellK x c e _ z⟩
 ·obtain⟨v,z⟩:=I.cell x c e
  exact⟨v,cellK x c e v z⟩
 ·obtain⟨m,⟨o,_,_,ho,_⟩,_⟩:=I.loc
  exact free _ o (fun z=>(hch _ z).2.1 rfl) ho I.free
 ·obtain⟨v,o,ho,hd⟩:=I.cell x c e
  exact free c o (fun z=>(hch c z).2.2.1 x c e rfl) ho (I.freeC x c e)
 ·obtain⟨e,n,ne,nf,d⟩:=I.pin p hp
  have nch:p.1∉ch:=fun z=>(hch p.1 z).2.2.2 p hp rfl
  exact⟨keep p.1 p.2 ne nf nch e n,free p.1 p.2 nch e n,ne,nf,d⟩
theorem Inv.un{t':Nat}(I:Inv X pins σ H s)(u:Un X.fs [] H H' s.heap h')(hok:J4 X.prog X.w H' h'):Inv X pins σ H' { s with heap:=h',toks:=t' }:=by
 obtain⟨m,⟨o,es,ep,ho,r⟩,_⟩:=id I.loc
 obtain⟨sl,hL⟩:=u.any ho I.free (by simp)
 exact I.step (g':=s.gens) (d':=s.drawn) (ch:=[]) (fun _ z=>nomatch z) (fun b o _ hb _ e n=>u.keep b o e n hb (by simp)) (fun b o _ hb _ e n=>u.slot b o e n hb (by simp)) (fun b o _ e n=>u.free b o e n (by simp)) (fun b o _ e=>u.there b o e (by simp)) u.tups u.frzs u.tbls (fun m' hm=>by
  obtain⟨o',es',ep',ho',r'⟩:=hm
  rw[ho]at ho';cases ho'
  exact⟨_,es',ep',hL,r'⟩) hok I.bare
theorem Inv.call{g':Array GenState}{t':Nat}{d':Drawn}{ch:List Addr}(I:Inv X pins σ H s)(u:Un (frs X.stack) ch H H' s.heap h')(hok:J4 X.prog X.w H' h')(hg:AllBare g')
  (hch:∀b∈ch,(b∈X.ex∨X.s₀.heap.objs.size≤b)∧b≠X.env.locals∧(∀x c,X.env.cells.lookup x=some c→c≠b)∧∀p∈X.pn++pins,p.1≠b) :
  Inv X pins σ H' { s with heap:=h',gens:=g',drawn:=d',toks:=t' }:=by
 obtain⟨m,⟨o,es,ep,ho,r⟩,_⟩:=id I.loc
 obtain⟨sl,hL⟩:=u.any ho I.free fun z=>(hch _ z).2.1 rfl
 exact I.step (ch:=ch) hch (fun b o hL hb hc e n=>u.keep b o e n (fun z=>(qQ9.mp (I.stkSub b z)).elim hL hb) hc) (fun b o _ _ hc e n=>u.any e n hc) (fun b o hc e n=>u.free b o e n hc) (fun b o hc e=>u.there b o e hc) u.tups u.frzs u.tbls (fun m' hm=>by
  obtain⟨o',es',ep',ho',r'⟩:=hm
  rw[ho]at ho';cases ho'
  exact⟨_,es',ep',hL,r'⟩) hok hg
theorem Inv.turned{t':Nat}{it:Addr}(I:Inv X pins σ H s)(k:∀b o,b≠it→s.heap.get? b=some o→h'.get? b=some o)(hn:H it=none)(hL:it≠X.env.locals)
  (h1:it∈X.ex∨X.s₀.heap.objs.size≤it) (h2:∀x c,X.env.cells.lookup x=some c→c≠it) (h3:∀p∈X.pn++pins,p.1≠it):Inv X pins σ H { s with heap:=h',toks:=t' }:=by
 have nit:∀b u,H b=some u→b≠it:=fun b u e z=>by rw[z,hn]at e;cases e
 refine I.step (g':=s.gens) (d':=s.drawn) (ch:=[it]) (fun b hb=>?_) (fun b o _ _ hc e _=>k b o (fun z=>hc (by simp[z])) e) (fun b o _ _ hc e _=>⟨o.slots,k b o (fun z=>hc (by simp[z])) e⟩) (fun _ _ _ _ n=>n)
  (fun b o hc e=>⟨o,k b o (fun z=>hc (by simp[z])) e⟩) (fun _ _ e=>e) (fun _ _ _ e=>e) (fun b ps e=>⟨#[],by rw[e];simp⟩) (fun m hm=>?_) (fun b u e=>?_) I.bare
 ·have e:b=it:=by simpa using hb
  subst e
  exact⟨h1,hL,h2,h3⟩
 ·obtain⟨o,es,ep,ho,r⟩:=hm
  exact⟨o,es,ep,k _ o (Ne.symm hL) ho,r⟩
 ·refine(I.hok b u e).stay (fun c v hc q=>k c v ?_ q) (fun _ q=>q) fun _ _ q=>q
  rcases hc with z | z
  ·rw[z];exact nit b u e
  ·exact nit c _ z
theorem Inv.tok(I:Inv X pins σ H s)(t:Nat):Inv X pins σ H { s with toks:=t }:=I.un (h':=s.heap) (t':=t) Un.refl I.hok
theorem Inv.kept{t':Nat}(I:Inv X pins σ H s)(k:∀b u,s.heap.get? b=some u→h'.get? b=some u):Inv X pins σ H { s with heap:=h',toks:=t' }:=I.un (Un.kept k) (I.hok.kept k)
theorem Inv.laid{a:Addr}{o:HO}{t':Nat}(I:Inv X pins σ H s)(k:∀b u,s.heap.get? b=some u→h'.get? b=some u)(hp:s.heap.objs.size≤a)(new:z9 X.prog X.w (upd H a o) h' a o) :
  Inv X pins σ (upd H a o) { s with heap:=h',toks:=t' }:=I.un (Un.laid k hp (I.hok.fresh hp)) (I.hok.laid k hp new)
theorem Inv.write{x e:Addr}{o:HO}{t':Nat}(I:Inv X pins σ H s)(mu:Mut (H x))(he:e=x∨H e=some (.own x))(k:∀b u,b≠e→s.heap.get? b=some u→h'.get? b=some u)(heo:∃u,h'.get? e=some u)
  (new:z9 X.prog X.w (upd H x o) h' x o):Inv X pins σ (upd H x o) { s with heap:=h',toks:=t' }:=I.un (Un.write mu he k heo) (I.hok.write mu he k heo new)
theorem Inv.pins_of{pins':List (Addr×Obj)}(I:Inv X pins σ H s)(h:∀p∈pins',s.heap.get? p.1=some p.2∧H p.1=none∧p.1≠X.env.locals∧p.1∉X.fs∧∀v,p.2.data≠.cell v):Inv X pins' σ H s:=
 ⟨I.ok,I.os,I.bare,I.base,I.loc,I.cell,I.free,I.freeC,fun p hp=>(qQ5.mp hp).elim (fun z=>I.pin p (List.mem_append_left _ z)) (h p),I.hok,I.len⟩
theorem a1J{N:List Str}(hN:N.Nodup){i j:Nat}{x:Str}(a:N[i]?=some x)(b:N[j]?=some x):i=j:=by
 obtain⟨h1,e1⟩:=qQ1.mp a
 obtain⟨h2,e2⟩:=qQ1.mp b
 exact(List.getElem_inj hN).mp (e1.trans e2.symm)
theorem a9D{M:Model}{A:Around}{E:Value→Shared→Prop}{i:Nat}{x:Str}{v:V}{u:Value}{Q:Unit→Shared→Prop}(I:Inv X pins σ H s)(hN:X.N.Nodup)(hi:X.N[i]?=some x)(hx:Loc X.env.scope x)(r:RelV v u)
  (h:∀s',Inv X pins (σ.set i (some v)) H s'→(∃a,Heap.SameBut a s.heap s'.heap∧(a=X.env.locals∨X.env.cells.lookup x=some a))→Q () s') (hf:X.fn x=true∨X.env.scope.names.lookup x=some .local:=by first | exact .inl rfl | exact .inr rfl | assumption):wpAny M A (storeName X.env x u) Q E s:=by
 obtain⟨m,hn,hl⟩:=id I.loc
 have hcls:(X.env.scope.kind==.class||(X.env.scope.kind==.module&&X.env.locals != X.env.globals))=false:=by rw[I.ok.kind];rfl
 have hiσ:i<σ.length:=by rw[I.len];exact(qQ1.mp hi).1
 have cne:=I.cne
 have tracked:∀{a:Addr} {h':Heap},(∃o,s.heap.get? a=some o∧H a=none)→Heap.SameBut a s.heap h'→J4 X.prog X.w H h':=fun {a h'} ha hs b ob e=>by
  obtain⟨_,_,hfree⟩:=ha
  refine(I.hok b ob e).stay (fun c w' hc q=>(hs.2 c ?_).trans q) (fun _ q=>q) fun _ _ q=>q
  rintro rfl
  rcases hc with rfl | hc
  ·rw[hfree]at e;cases e
  ·rw[hfree]at hc;cases hc
 rcases hx with hk | hk
 ·refine wpAny_storeName_local hk hn (fun h' hn' hs=>?_) hcls
  obtain⟨oL,_,_,hoL,_⟩:=id hn
  refine h _ ⟨I.ok,I.os,I.bare,⟨fun b o e n hb hx=>?_,fun b o e n hb hx=>?_,I.base.free,fun b o e hx=>?_,I.base.tups,I.base.frzs,I.base.tbls⟩,⟨_,hn',fun j y v' e1 e2 e3=>?_⟩,fun y c e=>?_,I.free,I.freeC,fun p hp=>?_,tracked ⟨oL,hoL,I.free⟩ hs,by simpa using I.len⟩ ⟨_,hs,.inl rfl⟩
  ·exact(hs.2 b (Nat.ne_of_lt (Nat.lt_of_lt_of_le (Heap.lt_size e) I.ok.above))).trans (I.base.keep b o e n hb hx)
  ·obtain⟨sl,e1⟩:=I.base.slot b o e n hb hx
   exact⟨sl,(hs.2 b (Nat.ne_of_lt (Nat.lt_of_lt_of_le (Heap.lt_size e) I.ok.above))).trans e1⟩
  ·obtain⟨o',e1⟩:=I.base.there b o e hx
   exact⟨o',(hs.2 b (Nat.ne_of_lt (Nat.lt_of_lt_of_le (Heap.lt_size e) I.ok.above))).trans e1⟩
  ·by_cases hj:j=i
   ·subst hj
    rw[hi]at e1;cases e1
    rw[List.getElem?_set_self hiσ]at e2
    cases e2
    exact⟨u,r,.inl ⟨hk,by simp⟩⟩
   ·rw[List.getElem?_set_ne (Ne.symm hj)]at e2
    obtain⟨u',r',q⟩:=hl j y v' e1 e2 e3
    refine⟨u',r',?_⟩
    rcases q with ⟨k,e⟩ | ⟨k,c,e,z⟩
    ·refine .inl ⟨k,?_⟩
     have:y≠x:=fun e=>hj (a1J hN e1 (e▸hi))
     simp[this,e]
    ·exact .inr ⟨k,c,e,z.sameBut hs (cne y c e)⟩
  ·obtain⟨w',z⟩:=I.cell y c e
   exact⟨w',z.sameBut hs (cne y c e)⟩
  ·obtain⟨e,n,ne,nf,d⟩:=I.pin p hp
   exact⟨(hs.2 p.1 ne).trans e,n,ne,nf,d⟩
 ·have hfn:X.fn x=true:=by
   rcases hf with z | z
   ·exact z
   ·rw[z]at hk;cases hk
  obtain⟨c,hc⟩:=I.ok.has x (.inl hk)
  obtain⟨w',z⟩:=I.cell x c hc
  refine wpAny_storeName_cell I.ok.kind hk hc z (fun h' hc' hs=>?_)
  obtain⟨oc,hoc,hocd⟩:=id z
  refine h { s with heap:=h' } ⟨I.ok,I.os,I.bare,⟨fun b o e n hb hx=>?_,fun b o e n hb hx=>?_,I.base.free,fun b o e hx=>?_,I.base.tups,I.base.frzs,I.base.tbls⟩,⟨m,hn.sameBut hs (Ne.symm (cne x c hc)),fun j y v' e1 e2 e3=>?_⟩,fun y c' e=>?_,I.free,I.freeC,fun p hp=>?_,tracked ⟨oc,hoc,I.freeC x c hc⟩ hs,by simpa using I.len⟩ ⟨c,hs,.inr hc⟩
  ·exact(hs.2 b (Nat.ne_of_lt (Nat.lt_of_lt_of_le (Heap.lt_size e) (I.ok.cab x c hfn hc)))).trans (I.base.keep b o e n hb hx)
  ·obtain⟨sl,e1⟩:=I.base.slot b o e n hb hx
   exact⟨sl,(hs.2 b (Nat.ne_of_lt (Nat.lt_of_lt_of_le (Heap.lt_size e) (I.ok.cab x c hfn hc)))).trans e1⟩
  ·obtain⟨o',e1⟩:=I.base.there b o e hx
   exact⟨o',(hs.2 b (Nat.ne_of_lt (Nat.lt_of_lt_of_le (Heap.lt_size e) (I.ok.cab x c hfn hc)))).trans e1⟩
  ·by_cases hj:j=i
   ·subst hj
    rw[hi]at e1;cases e1
    rw[List.getElem?_set_self hiσ]at e2
    cases e2
    exact⟨u,r,.inr ⟨.inl hk,c,hc,hc'⟩⟩
   ·rw[List.getElem?_set_ne (Ne.symm hj)]at e2
    obtain⟨u',r',q⟩:=hl j y v' e1 e2 e3
    refine⟨u',r',?_⟩
    rcases q with q | ⟨k,c',e,z'⟩
    ·exact .inl q
    ·refine .inr ⟨k,c',e,z'.sameBut hs ?_⟩
     rintro rfl
     exact hj (a1J hN e1 (I.ok.inj _ _ _ e hc▸hi))
  ·by_cases hcc:c'=c
   ·subst hcc;exact⟨_,hc'⟩
   ·obtain⟨w2,z2⟩:=I.cell y c' e
    exact⟨w2,z2.sameBut hs hcc⟩
  ·obtain⟨e,n,ne,nf,d⟩:=I.pin p hp
   refine⟨(hs.2 p.1 ?_).trans e,n,ne,nf,d⟩
   intro q
   rw[q,hoc]at e
   have q':oc=p.2:=qW1 e
   exact d w' (by rw[←q'];exact hocd)
theorem a6K{M:Model}{A:Around}{E:Value→Shared→Prop}{i:Nat}{x:Str}{v:V}{u:Value}{Q:Unit→Shared→Prop}(I:Inv X pins σ H s)(hN:X.N.Nodup)(hi:X.N[i]?=some x)(hx:Loc X.env.scope x)(r:RelV v u)
  (h:∀s',Inv X pins (σ.set i (some v)) H s'→Q () s') (hf:X.fn x=true∨X.env.scope.names.lookup x=some .local:=by first | exact .inl rfl | exact .inr rfl | assumption):wpAny M A (storeName X.env x u) Q E s:=
 a9D I hN hi hx r (fun s' I' _=>h s' I') hf
theorem Inv.call'{s':Shared}{ch:List Addr}(I:Inv X pins σ H s)(ho:s'.os=s.os)(u:Un (frs X.stack) ch H H' s.heap s'.heap)(hok:J4 X.prog X.w H' s'.heap)(hg:AllBare s'.gens)
  (hch:∀b∈ch,(b∈X.ex∨X.s₀.heap.objs.size≤b)∧b≠X.env.locals∧(∀x c,X.env.cells.lookup x=some c→c≠b)∧∀p∈X.pn++pins,p.1≠b):Inv X pins σ H' s':=by
 obtain⟨h',g',d',t',o'⟩:=s'
 have e:o'=s.os:=ho
 subst e
 exact I.call (g':=g') (t':=t') (d':=d') u hok hg hch
end
abbrev XK:=Value→Option Addr→Hp→Prop
abbrev St:=List (Option V)
abbrev VK:=V→Hp→Prop
abbrev TE:=St→Hp→VK→Prop
abbrev TT:=St→Hp→(Bool→Hp→Prop)→Prop
abbrev TA:=St→Hp→(List V→Hp→Prop)→Prop
structure Ends where
 nx:St→Hp→Prop
 rt:VK
 bk:St→Hp→Prop:=fun _ _=>False
 ct:St→Hp→Prop:=fun _ _=>False
abbrev TS:=Ends→St→Hp→Prop
def EP(X:Cx)(pins:List (Addr×Obj))(σ:St)(Q:VK)(u:Value)(s':Shared):Prop:=∃v H',Inv X pins σ H' s'∧RelV v u∧Q v H'
def TP(X:Cx)(pins:List (Addr×Obj))(σ:St)(Q:Bool→Hp→Prop)(b:Bool)(s':Shared):Prop:=∃H',Inv X pins σ H' s'∧Q b H'
def AP(X:Cx)(pins:List (Addr×Obj))(σ:St)(Q:List V→Hp→Prop)(us:List Value)(s':Shared):Prop:=∃vs H',Inv X pins σ H' s'∧j4 vs us∧Q vs H'
def SP(X:Cx)(pins:List (Addr×Obj))(D:Ends)(f:Flow)(s':Shared):Prop:=
 match f with
 | .next=>∃σ' H',Inv X pins σ' H' s'∧D.nx σ' H'
 | .brk=>∃σ' H',Inv X pins σ' H' s'∧D.bk σ' H'
 | .cont=>∃σ' H',Inv X pins σ' H' s'∧D.ct σ' H'
 | .ret u=>∃v σ' H',Inv X pins σ' H' s'∧RelV v u∧D.rt v H'
def PE(X:Cx)(e:Expr)(t:TE):Prop:=
 ∀(pins:List (Addr×Obj)) (s:Shared) (σ:St) (H:Hp) (Q:VK),Inv X pins σ H s→t σ H Q→wpAny (model X.prog X.w) X.A (eval e X.env) (EP X pins σ Q) X.xe s
def PT(X:Cx)(e:Expr)(t:TT):Prop:=
 ∀(pins:List (Addr×Obj)) (s:Shared) (σ:St) (H:Hp) (Q:Bool→Hp→Prop),Inv X pins σ H s→t σ H Q→wpAny (model X.prog X.w) X.A (isTrue e X.env (eval e X.env)) (TP X pins σ Q) X.xe s
def PW(X:Cx)(e:Expr)(t:TT):Prop:=
 ∀(whole:Sem Value) (pins:List (Addr×Obj)) (s:Shared) (σ:St) (H:Hp) (Q:Bool→Hp→Prop),Inv X pins σ H s→t σ H Q→wpAny (model X.prog X.w) X.A (isTrue e X.env whole) (TP X pins σ Q) X.xe s
theorem PW.pt{X:Cx}{e:Expr}{t:TT}(h:PW X e t):PT X e t:=h _
def PA(X:Cx)(es:List Expr)(t:TA):Prop:=
 ∀(pos:Pos) (pins:List (Addr×Obj)) (s:Shared) (σ:St) (H:Hp) (Q:List V→Hp→Prop),Inv X pins σ H s→t σ H Q→wpAny (model X.prog X.w) X.A (spliced (backTo pos (starEach es X.env))) (AP X pins σ Q) X.xe s
def PS(X:Cx)(st:Stmt)(t:TS):Prop:=
 ∀(pins:List (Addr×Obj)) (s:Shared) (σ:St) (H:Hp) (D:Ends),Inv X pins σ H s→t D σ H→wpAny (model X.prog X.w) X.A (exec st X.env) (SP X pins D) X.xe s
def PSs(X:Cx)(st:List Stmt)(t:TS):Prop:=
 ∀(pins:List (Addr×Obj)) (s:Shared) (σ:St) (H:Hp) (D:Ends),Inv X pins σ H s→t D σ H→wpAny (model X.prog X.w) X.A (execs st X.env) (SP X pins D) X.xe s
theorem m6{α:Type}{t:Sem α}{Q Q':α→Shared→Prop}{M:Model}{A:Around}{E:Value→Shared→Prop}{s:Shared}(h:wpAny M A t Q E s)(hQ:∀a s,Q a s→Q' a s):wpAny M A t Q' E s:=wpAny_mono h hQ fun _ _ x=>x
end L2
namespace L2
open PySem PySem.Spec PyProof.Rows
section
variable{X:Cx}
theorem bin{a b:Expr}{ta tb:TE}(ha:PE X a ta)(hb:PE X b tb){pins:List (Addr×Obj)}{s:Shared}{σ:St}{H:Hp}{R:V→V→Hp→Prop}(I:Inv X pins σ H s)(h:ta σ H fun x H1=>tb σ H1 fun y H2=>R x y H2)
  {α:Type} {Q:α→Shared→Prop} {f:Value→Value→Sem α}
  (hf:∀v u s2 x y H2,Inv X pins σ H2 s2→RelV x v→RelV y u→R x y H2→wpAny (model X.prog X.w) X.A (f v u) Q X.xe s2) :
  wpAny (model X.prog X.w) X.A (eval a X.env) (fun v s₁=>wpAny (model X.prog X.w) X.A (eval b X.env) (fun u s₂=>wpAny (model X.prog X.w) X.A (f v u) Q X.xe s₂) X.xe s₁) X.xe s:=by
 refine m6 (ha pins s σ H _ I h) fun v s1 ⟨x,H1,I1,r1,q1⟩=>?_
 refine m6 (hb pins s1 σ H1 _ I1 q1) fun u s2 ⟨y,H2,I2,r2,q2⟩=>?_
 exact hf v u s2 x y H2 I2 r1 r2 q2
inductive b4B(σ:St)(i:Nat)(H:Hp)(Q:VK):Prop
 | mk (v:V) (e:σ[i]?=some (some v)) (q:Q v H)
def b8w(i:Nat):TE:=fun σ H Q=>b4B σ i H Q
inductive IBl(x:V)(Q:Bool→Prop):Prop
 | mk (c:Bool) (e:x=.bl c) (q:Q c)
def tC(v:V):TE:=fun _ H Q=>Q v H
theorem b2x{i:Nat}{x:Str}{pos:Pos}(hN:X.N[i]?=some x)(hv:Vis X.env.scope x)(hd:(x==("__debug__":Str))=false:=by decide)(hcd:(x==("__classdict__":Str))=false:=by decide):PE X (.Name x pos) (b8w i):=by
 intro pins s σ H Q I h
 obtain⟨v,e,h⟩:=h
 obtain⟨m,hn,hl⟩:=I.loc
 obtain⟨u,r,l⟩:=hl i x v hN e hv
 have fin:EP X pins σ Q u s:=⟨v,H,I,r,h⟩
 rcases l with ⟨hk,hm⟩ | ⟨hk,c,hc,hcell⟩
 ·exact wpAny_Name (wpAny_loadName_local I.ok.kind hk hn hm fin) hd
 ·rcases hk with hk | hk
  ·exact wpAny_Name (wpAny_loadName_cell I.ok.kind hk hc hcell fin) hd
  ·exact wpAny_Name (wpAny_loadName_free I.ok.kind hk hc hcell fin hcd) hd
theorem d5{i j pos}:PE X (.Constant (.int i) j pos) (tC (.int i)):=fun _ _ _ H _ I h=>wpAny_Constant_int ⟨.int i,H,I.tok _,⟨_,rfl⟩,h⟩
theorem y6{b j pos}:PE X (.Constant (.bool b) j pos) (tC (.bl b)):=fun _ _ _ H _ I h=>Constant_bool ⟨.bl b,H,I,rfl,h⟩
theorem O8{j pos}:PE X (.Constant .none j pos) (tC .non):=fun _ _ _ H _ I h=>Constant_none ⟨.non,H,I,rfl,h⟩
theorem l8{x j pos}:PE X (.Constant (.str x) j pos) (tC (.str x)):=fun _ _ _ H _ I h=>Calls.Constant_str ⟨.str x,H,I.tok _,⟨_,rfl⟩,h⟩
def Gl(X:Cx)(x:Str):Prop:=X.env.kindOf x=some .globalImplicit
theorem a6o{E:Value→Shared→Prop}{pins:List (Addr×Obj)}{s:Shared}{σ:St}{H:Hp}{x:Str}{u:Value}{pos:Pos}{Q:Value→Shared→Prop}(I:Inv X pins σ H s)(hg:Gl X x)(hm:X.mg x=some u)(h:Q u s)
  (hd:(x==("__debug__":Str))=false:=by decide):wpAny (model X.prog X.w) X.A (eval (.Name x pos) X.env) Q E s:=
 Calls.Name_function_global I.ok.kind hg (Calls.loadGlobal_global (by rw[I.ok.glob];exact I.mod.glob.keeps I.bk) hm h) hd
theorem a8a{E:Value→Shared→Prop}{pins:List (Addr×Obj)}{s:Shared}{σ:St}{H:Hp}{x:Str}{u:Value}{pos:Pos}{Q:Value→Shared→Prop}(I:Inv X pins σ H s)(hg:Gl X x)(hm:X.mg x=none)(hv:bootBuiltins x=some u)(h:Q u s)
  (hn:x≠"__name__":=by decide) (hd:(x==("__debug__":Str))=false:=by decide):wpAny (model X.prog X.w) X.A (eval (.Name x pos) X.env) Q E s:=by
 obtain⟨mb,h1,h2⟩:=I.mod.blt
 exact Calls.Name_function_global I.ok.kind hg (Calls.loadGlobal_builtin (by rw[I.ok.glob];exact I.mod.glob.keeps I.bk) hm (by rw[I.ok.blt];exact h1.keeps I.bk) ((h2 x hn).trans hv) h) hd
theorem u0{x:Str}{v:V}{u:Value}{pos:Pos}(hg:Gl X x)(hm:X.mg x=some u)(r:RelV v u)(hd:(x==("__debug__":Str))=false:=by decide):PE X (.Name x pos) (tC v):=
 fun _ _ _ H _ I h=>a6o I hg hm ⟨v,H,I,r,h⟩ hd
theorem r8{x:Str}{v:V}{u:Value}{pos:Pos}(hg:Gl X x)(hm:X.mg x=none)(hv:bootBuiltins x=some u)(r:RelV v u)(hn:x≠"__name__":=by decide)(hd:(x==("__debug__":Str))=false:=by decide):PE X (.Name x pos) (tC v):=
 fun _ _ _ H _ I h=>a8a I hg hm hv ⟨v,H,I,r,h⟩ hn hd
variable{a b:Expr}{ta tb:TE}{pos:Pos}
def PC(X:Cx)(op:CmpOp)(a b:Expr)(t:TE):Prop:=
 ∀(pins:List (Addr×Obj)) (s:Shared) (σ:St) (H:Hp) (Q:VK),Inv X pins σ H s→t σ H Q →
  wpAny (model X.prog X.w) X.A (eval a X.env) (fun v s₁=>wpAny (model X.prog X.w) X.A (eval b X.env) (fun u s₂=>wpAny (model X.prog X.w) X.A (compareOp op v u) (EP X pins σ Q) X.xe s₂) X.xe s₁) X.xe s
theorem b7m(b:Expr){op:CmpOp}(h:op≠.In)(h2:op≠.NotIn):behindInMarks op b=false:=by
 have e1:(op==CmpOp.In)=false:=by cases op<;>first | rfl | exact absurd rfl h
 have e2:(op==CmpOp.NotIn)=false:=by cases op<;>first | rfl | exact absurd rfl h2
 cases b<;>simp[behindInMarks,e1,e2]
def tB(t:TE):TT:=fun σ H Q=>t σ H fun x H1=>IBl x fun c=>Q c H1
theorem b8D{op:CmpOp}{t:TE}(h:PC X op a b t)(h1:behindInMarks op b=false:=by first | exact b7m _ (by decide) (by decide) | rfl):PT X (.Compare a [op] [b] pos) (tB t):=by
 intro pins s σ H Q I hw
 refine wpAny_isTrue_Compare1 (m6 (h pins s σ H _ I hw) fun v s1 h1=>m6 h1 fun u s2 h2=>m6 h2 fun c s3 ⟨x,H1,I1,r1,q1⟩=>?_) h1
 obtain⟨d,rfl,q⟩:=q1
 cases r1
 exact wpAny_truthy_bool ⟨H1,I1,q⟩
theorem A5{e:Expr}{t:TE}(h:PE X e t)(he:∀whole,isTrue e X.env whole=(do let v ←whole;standAt e.pos;holding [v] (truthy v)):=by intro _;rfl):PT X e (tB t):=by
 intro pins s σ H Q I hw
 refine isTrue_plain (m6 (h pins s σ H _ I hw) fun v s1 ⟨x,H1,I1,r1,q1⟩=>?_) (he _)
 obtain⟨d,rfl,q⟩:=q1
 cases r1
 exact wpAny_truthy_bool ⟨H1,I1,q⟩
variable{tA tB':TT}{rest:List Expr}
def b0B(t u:TT):TT:=fun σ H Q=>t σ H fun c H1=>if c=true then u σ H1 Q else Q false H1
def tOr(t u:TT):TT:=fun σ H Q=>t σ H fun c H1=>if c=true then Q true H1 else u σ H1 Q
def b5C(t:TT):TT:=fun σ H Q=>t σ H fun c H1=>Q (!c) H1
theorem N5(ha:PT X a tA):PW X (.BoolOp .And [a] pos) tA:=by
 intro wh pins s σ H Q I h
 refine isTrue_and (m6 (ha pins s σ H Q I h) fun c s1 e=>?_)
 cases c with
 | true=>exact isTrue_and_nil e
 | false=>exact e
theorem D7(ha:PT X a tA):PW X (.BoolOp .Or [a] pos) tA:=by
 intro wh pins s σ H Q I h
 refine isTrue_or (m6 (ha pins s σ H Q I h) fun c s1 e=>?_)
 cases c with
 | false=>exact isTrue_or_nil e
 | true=>exact e
theorem Q2(ha:PT X a tA)(hb:PW X (.BoolOp .And (b::rest) pos) tB'):PW X (.BoolOp .And (a::b::rest) pos) (b0B tA tB'):=by
 intro wh pins s σ H Q I h
 refine isTrue_and (m6 (ha pins s σ H _ I h) fun c s1 ⟨H1,I1,q1⟩=>?_)
 cases c with
 | true=>exact hb wh pins s1 σ H1 Q I1 q1
 | false=>exact⟨H1,I1,q1⟩
theorem J9(ha:PT X a tA)(hb:PW X (.BoolOp .Or (b::rest) pos) tB'):PW X (.BoolOp .Or (a::b::rest) pos) (tOr tA tB'):=by
 intro wh pins s σ H Q I h
 refine isTrue_or (m6 (ha pins s σ H _ I h) fun c s1 ⟨H1,I1,q1⟩=>?_)
 cases c with
 | true=>exact⟨H1,I1,q1⟩
 | false=>exact hb wh pins s1 σ H1 Q I1 q1
theorem J8(ha:PT X a tA):PT X (.UnaryOp .Not a pos) (b5C tA):=by
 intro pins s σ H Q I h
 exact isTrue_not (ha pins s σ H (fun c H1=>Q (!c) H1) I h)
def b6y(ta tb:TE):TE:=fun σ H Q=>ta σ H fun x H1=>IBl x fun c=>if c=true then tb σ H1 Q else Q (.bl false) H1
def b0A(ta:TE):TE:=fun σ H Q=>ta σ H fun x H1=>IBl x fun c=>Q (.bl (!c)) H1
theorem a2f{op}{t:TE}(h:PE X a t):PE X (.BoolOp op [a] pos) t:=fun pins s σ H Q I hw=>BoolOp_one (h pins s σ H Q I hw)
theorem W4(ha:PE X a ta)(hb:PE X (.BoolOp .And (b::rest) pos) tb):PE X (.BoolOp .And (a::b::rest) pos) (b6y ta tb):=by
 intro pins s σ H Q I h
 refine BoolOp_and (m6 (ha pins s σ H _ I h) fun v s1 ⟨x,H1,I1,r1,q1⟩=>?_)
 obtain⟨c,rfl,q1⟩:=q1
 cases r1
 refine wpAny_truthy_bool ?_
 cases c with
 | true=>exact hb pins s1 σ H1 Q I1 q1
 | false=>exact⟨.bl false,H1,I1,rfl,q1⟩
theorem b6x(ha:PE X a ta):PE X (.UnaryOp .Not a pos) (b0A ta):=by
 intro pins s σ H Q I h
 refine UnaryOp_ (m6 (ha pins s σ H _ I h) fun v s1 ⟨x,H1,I1,r1,q1⟩=>?_)
 obtain⟨c,rfl,q1⟩:=q1
 cases r1
 exact not_of (wpAny_truthy_bool ⟨.bl (!c),H1,I1,rfl,q1⟩)
end
end L2
namespace L2
open PySem PySem.Spec PyProof.Rows
def d7(K:PySem.W.Frag)(H:Hp)(a:Addr)(xs:List V):Prop:=
 Rd H a (.lst xs) ∨
  ∃(o:Obj) (its:Array Value) (n:Nat),K.lookup a=some o∧o.cls=.type "list"∧o.dict=none∧o.data=.seq its n∧its.size≤sizeLine∧j4 xs its.toList
def i4(K:PySem.W.Frag)(H:Hp)(a:Addr)(xs:List V):Prop:=
 Rd H a (.tup xs) ∨
  ∃(o:Obj) (its:Array Value) (n:Nat),K.lookup a=some o∧o.cls=.type "tuple"∧o.data=.seq its n∧its.size≤sizeLine∧j4 xs its.toList
def b6C:Value→Option V
 | .none=>some .non
 | .bool b=>some (.bl b)
 | .int i _=>some (.int i)
 | .str x _=>some (.str x)
 | .bytes b _=>some (.byt b)
 | .float b _=>some (.flt b)
 | .ref a=>some (.ref a)
 | .type n=>some (.ty n)
 | _=>none
theorem RelV.abs{x:V}{u:Value}(r:RelV x u):b6C u=some x:=by
 cases x with
 | non=>cases r;rfl
 | bl _=>cases r;rfl
 | int _=>obtain⟨t,rfl⟩:=r;rfl
 | str _=>obtain⟨t,rfl⟩:=r;rfl
 | byt _=>obtain⟨t,rfl⟩:=r;rfl
 | flt _=>obtain⟨t,rfl⟩:=r;rfl
 | ref _=>cases r;rfl
 | ty _=>cases r;rfl
theorem RelV.inj{x y:V}{u:Value}(r:RelV x u)(q:RelV y u):x=y:=qW1 (r.abs.symm.trans q.abs)
theorem j4.inj:∀{xs ys:List V} {us:List Value},j4 xs us→j4 ys us→xs=ys
 | _,_,_,.nil,.nil=>rfl
 | _,_,_,.cons r t,.cons r' t'=>by rw[r.inj r',j4.inj t t']
section
variable{X:Cx}{pins:List (Addr×Obj)}{σ:St}{H:Hp}{s:Shared}{a:Addr}{xs ys:List V}
theorem d7.of{K:PySem.W.Frag}(h:H a=some (.lst xs)):d7 K H a xs:=.inl (.inl h)
theorem i4.of{K:PySem.W.Frag}(h:H a=some (.tup xs)):i4 K H a xs:=.inl (.inl h)
theorem Inv.list(I:Inv X pins σ H s)(h:d7 X.K H a xs):∃its:List Value,j4 xs its∧PlainL s.heap a its.toArray∧xs.length≤sizeLine:=by
 rcases h with h | ⟨o,its,n,hk,hc,hd,hs,hz,r⟩
 ·obtain⟨z,its,n,r,e⟩:=h.ok I.hok
  exact⟨its,r,⟨_,n,e,rfl,rfl,rfl⟩,z⟩
 ·refine⟨its.toList,r,⟨o,n,I.kIn a o hk,hc,hd,by simpa using hs⟩,?_⟩
  have e:=r.length
  simp only[Array.length_toList]at e
  omega
theorem Inv.tuple(I:Inv X pins σ H s)(h:i4 X.K H a xs):∃its:List Value,j4 xs its∧IsTup s.heap a its.toArray∧xs.length≤sizeLine:=by
 rcases h with h | ⟨o,its,n,hk,hc,hs,hz,r⟩
 ·obtain⟨z,its,r,p⟩:=h.ok I.hok
  exact⟨its,r,p,z⟩
 ·refine⟨its.toList,r,⟨o,I.kIn a o hk,hc,n,by simpa using hs⟩,?_⟩
  have e:=r.length
  simp only[Array.length_toList]at e
  omega
theorem Inv.list_inj(I:Inv X pins σ H s)(h:d7 X.K H a xs)(h':d7 X.K H a ys):xs=ys:=by
 obtain⟨its,r,⟨o,n,e,_,_,d⟩,_⟩:=I.list h
 obtain⟨its',r',⟨o',n',e',_,_,d'⟩,_⟩:=I.list h'
 rw[e]at e';cases e'
 rw[d]at d'
 injection d' with d1 _
 have:its=its':=by simpa using congrArg Array.toList d1
 subst this
 exact r.inj r'
end
abbrev Cx.wish(X:Cx)(E:Value→Shared→Prop):Cx:={ X with xe:=E }
abbrev Cx.nox(X:Cx):Cx:=X.wish fun _ _=>False
theorem Cx.Ok.wish{X:Cx}(ok:X.Ok)(E:Value→Shared→Prop):(X.wish E).Ok:=
 ⟨ok.mod,ok.kind,ok.glob,ok.blt,ok.above,ok.inj,ok.has,ok.cab,ok.hd,ok.frames,ok.stk,ok.exf,ok.bs,ok.bsz,ok.noex,ok.exfs,ok.funs,ok.frf⟩
theorem Cx.Ok.unwish{X:Cx}{E:Value→Shared→Prop}(ok:(X.wish E).Ok):X.Ok:=
 ⟨ok.mod,ok.kind,ok.glob,ok.blt,ok.above,ok.inj,ok.has,ok.cab,ok.hd,ok.frames,ok.stk,ok.exf,ok.bs,ok.bsz,ok.noex,ok.exfs,ok.funs,ok.frf⟩
section
variable{X:Cx}{pins:List (Addr×Obj)}{σ:St}{H:Hp}{s:Shared}{E:Value→Shared→Prop}
theorem Inv.wish(I:Inv X pins σ H s)(E:Value→Shared→Prop):Inv (X.wish E) pins σ H s:=⟨I.ok.wish E,I.os,I.bare,I.base,I.loc,I.cell,I.free,I.freeC,I.pin,I.hok,I.len⟩
theorem Inv.unwish(I:Inv (X.wish E) pins σ H s):Inv X pins σ H s:=⟨I.ok.unwish,I.os,I.bare,I.base,I.loc,I.cell,I.free,I.freeC,I.pin,I.hok,I.len⟩
theorem SP.unwish{D:Ends}{f:Flow}{s':Shared}(h:SP (X.wish E) pins D f s'):SP X pins D f s':=by
 cases f with
 | next=>obtain⟨σ',H',I,q⟩:=h;exact⟨σ',H',I.unwish,q⟩
 | brk=>obtain⟨σ',H',I,q⟩:=h;exact⟨σ',H',I.unwish,q⟩
 | cont=>obtain⟨σ',H',I,q⟩:=h;exact⟨σ',H',I.unwish,q⟩
 | ret u=>obtain⟨v,σ',H',I,r,q⟩:=h;exact⟨v,σ',H',I.unwish,r,q⟩
theorem PSs.nox{st:List Stmt}{t:TS}(h:PSs X.nox st t):PSs X st t:=fun pins s σ H D I hw=>
 wpAny_mono (h pins s σ H D (I.wish _) hw) (fun _ _ q=>q.unwish) fun _ _ z=>False.elim z
end
section
variable{X:Cx}{st:Stmt}{rest:List Stmt}{t u:TS}{e:Expr}{te:TE}{pos:Pos}
def b7z:TS:=fun D σ H=>D.nx σ H
def b9B(t u:TS):TS:=fun D σ H=>t { D with nx:=u D } σ H
theorem i9:PSs X [] b7z:=fun _ _ σ H _ I h=>wpAny_execs_nil ⟨σ,H,I,h⟩
theorem b8(h1:PS X st t)(h2:PSs X rest u):PSs X (st::rest) (b9B t u):=by
 intro pins s σ H D I h
 refine wpAny_execs_cons (m6 (h1 pins s σ H { D with nx:=u D } I h) fun f s1 q=>?_)
 cases f with
 | next=>
  obtain⟨σ',H',I',q⟩:=q
  exact h2 pins s1 σ' H' D I' q
 | ret v=>exact q
 | brk=>exact q
 | cont=>exact q
theorem c9(h1:PS X st t):PSs X [st] t:=by
 intro pins s σ H D I h
 refine wpAny_execs_cons (m6 (h1 pins s σ H D I h) fun f s1 q=>?_)
 cases f with
 | next=>exact wpAny_execs_nil q
 | ret v=>exact q
 | brk=>exact q
 | cont=>exact q
theorem Inv.quiet{pins:List (Addr×Obj)}{σ:St}{H:Hp}{s:Shared}(I:Inv X pins σ H s):interactive X.env=false:=by simp[interactive,I.ok.kind]
def b4y(te:TE):TS:=fun D σ H=>te σ H fun _ H1=>D.nx σ H1
theorem l6(he:PE X e te)(hs:swapsWith e none pos.line X.env=pure false:=by rfl):PS X (.Expr e pos) (b4y te):=by
 intro pins s σ H D I h
 exact wpAny_Expr_any (m6 (he pins s σ H _ I h) fun v s1 ⟨x,H1,I1,r1,q1⟩=>⟨σ,H1,I1,q1⟩) I.quiet hs
def b3C(te:TE):TS:=fun D σ H=>te σ H D.rt
theorem i3(he:PE X e te):PS X (.Return (some e) pos) (b3C te):=by
 intro pins s σ H D I h
 exact wpAny_Return_some (m6 (he pins s σ H _ I h) fun v s1 ⟨x,H1,I1,r1,q1⟩=>⟨x,σ,H1,I1,r1,q1⟩)
def b7D(c:TT)(t u:TS):TS:=fun D σ H=>c σ H fun b H1=>if b=true then t D σ H1 else u D σ H1
theorem k7{c:Expr}{a b:List Stmt}{tc:TT}(hc:PT X c tc)(ha:PSs X a t)(hb:PSs X b u):PS X (.If c a b pos) (b7D tc t u):=by
 intro pins s σ H D I h
 refine wpAny_If (m6 (hc pins s σ H _ I h) fun d s1 ⟨H1,I1,q1⟩=>?_)
 cases d with
 | true=>exact ha pins s1 σ H1 D I1 q1
 | false=>exact hb pins s1 σ H1 D I1 q1
end
abbrev TG:=V→St→Hp→(St→Hp→Prop)→Prop
abbrev TGs:=List V→St→Hp→(St→Hp→Prop)→Prop
def PG(X:Cx)(target:Expr)(t:TG):Prop:=
 ∀(pins:List (Addr×Obj)) (s:Shared) (σ:St) (H:Hp) (v:V) (u:Value) (Q:St→Hp→Prop),Inv X pins σ H s→RelV v u→t v σ H Q →
  wpAny (model X.prog X.w) X.A (assign target X.env u) (fun _ s'=>∃σ' H',Inv X pins σ' H' s'∧Q σ' H') X.xe s
def PGs(X:Cx)(ts:List Expr)(t:TGs):Prop:=
 ∀(pins:List (Addr×Obj)) (s:Shared) (σ:St) (H:Hp) (vs:List V) (us:List Value) (Q:St→Hp→Prop),Inv X pins σ H s→j4 vs us→t vs σ H Q →
  wpAny (model X.prog X.w) X.A (assignInOrder ((assignEach ts X.env).map (·.2)) us) (fun _ s'=>∃σ' H',Inv X pins σ' H' s'∧Q σ' H') X.xe s
section
variable{X:Cx}{pos:Pos}
def a8x(i:Nat):TG:=fun v σ H Q=>Q (σ.set i (some v)) H
theorem m5{i:Nat}{x:Str}(hN:X.N.Nodup)(hi:X.N[i]?=some x)(hx:Loc X.env.scope x)(hf:X.fn x=true∨X.env.scope.names.lookup x=some .local:=by first | exact .inl rfl | exact .inr rfl | assumption):PG X (.Name x pos) (a8x i):=by
 intro pins s σ H v u Q I r h
 exact wpAny_assign_Name (a6K I hN hi hx r (fun s' I'=>⟨_,H,I',h⟩) hf)
def b5D:TGs:=fun vs σ H Q=>vs=[]∧Q σ H
def b2z(t:TG)(u:TGs):TGs:=fun vs σ H Q=>∃v r,vs=v::r∧t v σ H fun σ' H'=>u r σ' H' Q
theorem a8y:PGs X [] b5D:=by
 intro pins s σ H vs us Q I r h
 obtain⟨e,h⟩:=h
 subst e
 cases r
 exact assignInOrder_nil ⟨σ,H,I,h⟩
theorem Q9{e:Expr}{es:List Expr}{t:TG}{u:TGs}(h1:PG X e t)(h2:PGs X es u)
  (hs:(assignEach (e::es) X.env).map (·.2)=assign e X.env::(assignEach es X.env).map (·.2):=by rfl):PGs X (e::es) (b2z t u):=by
 intro pins s σ H vs us Q I r h
 obtain⟨v,vr,e1,h⟩:=h
 subst e1
 cases r with
 | cons r rr=>
  rw[hs]
  refine assignInOrder_cons (m6 (h1 pins s σ H _ _ _ I r h) fun _ s1 ⟨σ1,H1,I1,q1⟩=>?_)
  exact h2 pins s1 σ1 H1 _ _ Q I1 rr q1
def b3B(K:PySem.W.Frag)(n:Nat)(t:TGs):TG:=fun v σ H Q=>∃a xs,v=.ref a∧i4 K H a xs∧xs.length=n∧t xs σ H Q
theorem a8Q{es:List Expr}{k:Nat}{t:TGs}{n:Nat}(hc:X.calm=true)(h:PGs X es t)
  (hn:(assignEach es X.env).length=n:=by rfl) (hst:(assignEach es X.env).findIdx? (·.1)=none:=by rfl):PG X (.Tuple es k pos) (b3B X.K n t):=by
 intro pins s σ H v u Q I r hw
 obtain⟨a,xs,e1,hq,hl,hw⟩:=hw
 subst e1
 cases r
 obtain⟨its,rv,ht,hz⟩:=I.tuple hq
 refine assign_Tuple_tuple (I.ok.hd hc) ht (by simp[hn,←hl,rv.length]) hst fun h' hx=>?_
 have I1:Inv X pins σ H { s with heap:=h' }:=I.kept (t':=s.toks) fun b o e=>hx b o (Nat.ne_of_lt (Heap.lt_size e)) e
 exact h pins _ σ H xs _ Q I1 (by simpa using rv) hw
def b3j(te:TE)(g:TG):TS:=fun D σ H=>te σ H fun x H1=>g x σ H1 D.nx
theorem b5x{tg e:Expr}{te:TE}{g:TG}(he:PE X e te)(hg:PG X tg g)(hs:swapsWithSole [tg] e pos.line X.env=pure false:=by rfl)(hw:swappedStores [tg] e X.env=pure none:=by rfl)
  (h1:(assignEach [tg] X.env).map (·.2)=[assign tg X.env]:=by rfl):PS X (.Assign [tg] e pos) (b3j te g):=by
 intro pins s σ H D I h
 refine wpAny_Assign_stores (m6 (he pins s σ H _ I h) fun v s1 ⟨x,H1,I1,r1,q1⟩=>?_) hs hw
 rw[h1]
 exact m6 (hg pins s1 σ H1 x v _ I1 r1 q1) fun _ s2 q=>q
theorem g7{i:Nat}{x:Str}{e:Expr}{te:TE}{pos':Pos}(hN:X.N.Nodup)(hi:X.N[i]?=some x)(hx:Loc X.env.scope x)(he:PE X e te)(hs:swapsWith e (some (.Name x pos')) pos.line X.env=pure false:=by rfl)(hf:X.fn x=true∨X.env.scope.names.lookup x=some .local:=by first | exact .inl rfl | exact .inr rfl | assumption) :
  PS X (.Assign [.Name x pos'] e pos) (b3j te (a8x i)):=by
 intro pins s σ H D I h
 refine wpAny_Assign_Name (m6 (he pins s σ H _ I h) fun v s1 ⟨y,H1,I1,r1,q1⟩=>?_) hs
 exact a6K I1 hN hi hx r1 (fun s2 I2=>⟨_,H1,I2,q1⟩) hf
end
section
variable{X:Cx}{pos:Pos}
def b9u(c:TT)(tb:TS):TS:=fun D σ H=>∃W:Nat→St→Hp→Prop,(∃m,W m σ H)∧∀m σ H,W m σ H →
 c σ H fun b H1=>if b=true then ∃N:St→Hp→Prop,(∀σ' H',N σ' H'→∃m',m'<m∧W m' σ' H')∧tb { D with nx:=N,ct:=N,bk:=D.nx } σ H1 else D.nx σ H1
theorem a0h{c:Expr}{body:List Stmt}{tc:TT}{tb:TS}(hp:PassesOwn (model X.prog X.w) X.A X.env X.xe)(hc:PT X c tc)(hb:PSs X body tb):PS X (.While c body [] pos) (b9u tc tb):=by
 intro pins s σ H D I h
 obtain⟨W,⟨m0,w0⟩,turn⟩:=h
 refine wpAny_While (codeAny_whileLoop (fun n s'=>∃σ' H',Inv X pins σ' H' s'∧W n σ' H') ?_ m0 ⟨σ,H,I,w0⟩)
 rintro n s1 ⟨σ1,H1,I1,w1⟩
 refine wpAny_passesOwn hp (m6 (hc pins s1 σ1 H1 _ I1 (turn n σ1 H1 w1)) fun b s2 ⟨H2,I2,q2⟩=>?_)
 cases b with
 | true=>
  obtain⟨N,hN,q2⟩:=q2
  rw[if_pos rfl]
  refine wpAny_passesOwn hp (m6 (hb pins s2 σ1 H2 _ I2 q2) fun f s3 q3=>?_)
  cases f with
  | next=>
   obtain⟨σ3,H3,I3,n3⟩:=q3
   obtain⟨m',hm,w3⟩:=hN σ3 H3 n3
   exact⟨m',hm,σ3,H3,I3,w3⟩
  | cont=>
   obtain⟨σ3,H3,I3,n3⟩:=q3
   obtain⟨m',hm,w3⟩:=hN σ3 H3 n3
   exact⟨m',hm,σ3,H3,I3,w3⟩
  | brk=>exact q3
  | ret v=>exact q3
 | false=>
  rw[if_neg Bool.false_ne_true]
  exact wpAny_execs_nil ⟨σ1,H2,I2,q2⟩
end
structure It where
 go:Nat→Hp→Prop
 yld:Nat→Hp→V→Hp→Prop
 stop:Nat→Hp→Prop
def X5(X:Cx)(pins:List (Addr×Obj))(H:Hp)(b:Addr):Prop:=
 H b=none∧b≠X.env.locals∧b∉X.fs∧(b∈X.ex∨X.s₀.heap.objs.size≤b)∧(∀x c,X.env.cells.lookup x=some c→c≠b)∧∀p∈X.pn++pins,p.1≠b
theorem Inv.fpOk{X:Cx}{pins:List (Addr×Obj)}{σ:St}{H H':Hp}{s:Shared}{b:Addr}(I:Inv X pins σ H s)(hb:s.heap.objs.size≤b)(hn:H' b=none):X5 X pins H' b:=by
 refine⟨hn,Nat.ne_of_gt (Nat.lt_of_lt_of_le I.lt hb),I.nofs hb,.inr (Nat.le_trans I.sz hb),fun x c e z=>?_,fun p hp z=>?_⟩
 ·obtain⟨v,q⟩:=I.cell x c e
  exact absurd (Nat.lt_of_lt_of_le q.lt (by rw[z];exact hb)) (Nat.lt_irrefl _)
 ·exact absurd (Nat.lt_of_lt_of_le (Heap.lt_size (I.pin p hp).1) (by rw[z];exact hb)) (Nat.lt_irrefl _)
structure Turn(P:Program)(w:World)(K:PySem.W.Frag)(tg:Expr)(J:It)(fp:List Addr)(it:Addr)(tn:Nat→Heap→Prop):Prop where
 mem:it∈fp
 obj:∀i h,tn i h→∀b∈fp,∃o,h.get? b=some o∧∀v,o.data≠.cell v
 keep:∀i h h',tn i h→(∀b∈fp,∀o,h.get? b=some o→h'.get? b=some o)→tn i h'
 item:∀(X:Cx),X.prog=P→X.w=w→X.K=K→X.calm=true→∀(i:Nat) (pins:List (Addr×Obj)) (s:Shared) (σ:St) (H:Hp) (E:Value→Shared→Prop),Inv X pins σ H s→(∀b∈fp,X5 X pins H b)→tn i s.heap→J.go i H →
  wpAny (model P w) X.A (pyNext (.ref it)) (fun r s1=>∃u,r=some u ∧
   wpAny (model P w) X.A (letOwnedTupleGo tg (.ref it) u) (fun _ s2=>∃x H',Inv X pins σ H' s2∧RelV x u∧J.yld i H x H'∧tn (i+1) s2.heap∧∀b∈fp,H' b=none) E s1) E s
 done:∀(X:Cx),X.prog=P→X.w=w→X.K=K→X.calm=true→∀(i:Nat) (pins:List (Addr×Obj)) (s:Shared) (σ:St) (H:Hp) (E:Value→Shared→Prop),Inv X pins σ H s→(∀b∈fp,X5 X pins H b)→tn i s.heap→J.stop i H →
  wpAny (model P w) X.A (pyNext (.ref it)) (fun r s1=>r=none∧Inv X pins σ H s1) E s
 self:∀(A:Around) (i:Nat) (s:Shared) (Q:Value→Shared→Prop) (E:Value→Shared→Prop),tn i s.heap→Q (.ref it) s→wpAny (model P w) A (pyIter (.ref it)) Q E s
abbrev TI:=St→Hp→(It→Hp→Prop)→Prop
def PIE(X:Cx)(pins:List (Addr×Obj))(σ:St)(tg:Expr)(R:It→Hp→Prop)(itv:Value)(s2:Shared):Prop:=
 ∃(it:Addr) (fp:List Addr) (tn:Nat→Heap→Prop) (J:It) (H':Hp),itv=.ref it∧Inv X pins σ H' s2∧Turn X.prog X.w X.K tg J fp it tn∧tn 0 s2.heap∧(∀b∈fp,X5 X pins H' b)∧R J H'
def PI(X:Cx)(tg iter:Expr)(wi:TI):Prop:=
 ∀(pins:List (Addr×Obj)) (s:Shared) (σ:St) (H:Hp) (R:It→Hp→Prop),Inv X pins σ H s→wi σ H R →
  wpAny (model X.prog X.w) X.A (eval iter X.env) (fun v s1=>wpAny (model X.prog X.w) X.A (pyIter v) (PIE X pins σ tg R) X.xe s1) X.xe s
theorem a2W{M:Model}{A:Around}{E:Value→Shared→Prop}{s:Shared}{tg:Expr}{it:Addr}{u:Value}{o:Obj}{n:String}{vs:Array Value}{Q:Unit→Shared→Prop}(ho:s.heap.get? it=some o)(hc:o.cls=.type n)(hd:o.data=.fields vs)
  (hn:["enumerate","zip","dict_itemiterator","dict_reverseitemiterator","odict_iterator","itertools.zip_longest","itertools.pairwise"].contains n=false) (hQ:Q () s):wpAny M A (letOwnedTupleGo tg (.ref it) u) Q E s:=by
 unfold letOwnedTupleGo
 cases tg<;>first
  | exact wpAny_pure hQ
  | (cases u<;>first
    | exact wpAny_pure hQ
    | (refine wpAny_bind (wpAny_load ho ?_);rw[hc,hd];show wpAny M A (if (["enumerate","zip","dict_itemiterator","dict_reverseitemiterator","odict_iterator","itertools.zip_longest","itertools.pairwise"].contains n&&vs[0]?==some (rawInt _))=true then _ else _) Q E s;rw[if_neg (by intro h;rw[hn,Bool.false_and]at h;cases h)];exact wpAny_pure hQ))
def Itl(K:PySem.W.Frag)(a:Addr):It:=
 ⟨fun i H=>∃xs x,d7 K H a xs∧xs[i]?=some x,fun i H x H'=>H'=H∧∀xs,d7 K H a xs→xs[i]?=some x,fun i H=>∃xs,d7 K H a xs∧xs.length≤i⟩
def Itr(lo:Int)(n:Nat):It:=⟨fun i _=>i<n,fun i H x H'=>H'=H∧x=.int (lo+i),fun i _=>n≤i⟩
theorem b4d{P:Program}{w:World}{K:PySem.W.Frag}{tg:Expr}(a it:Addr):Turn P w K tg (Itl K a) [it] it (fun i h=>h.IsListIter it a i) where
 mem:=by simp
 obj:=fun i h st b hb=>by
  have e:b=it:=by simpa using hb
  subst e
  obtain⟨o,e,c,d⟩:=st
  exact⟨o,e,fun v z=>by rw[d]at z;cases z⟩
 keep:=fun i h h' st k=>st.at fun o e=>k it (by simp) o e
 item:=by
  intro X hP hw hK hc i pins s σ H E I hf st hg
  subst hP hw hK
  obtain⟨xs,x,hq,hx⟩:=hg
  obtain⟨its,rv,p,hz⟩:=I.list hq
  obtain⟨u,hu,ru⟩:=rv.get hx
  obtain⟨f0,f1,f2,f3,f4,f5⟩:=hf it (by simp)
  refine wpAny_pyNext_list_item st p.isList (x:=u) (by simpa using hu) fun h' st' sb=>?_
  have I1:Inv X pins σ H { s with heap:=h' }:=I.turned (t':=s.toks) (fun b o hb e=>(sb.2 b hb).trans e) f0 f1 f3 f4 f5
  obtain⟨o,e,c,d⟩:=id st'
  exact⟨u,rfl,a2W (s:={ s with heap:=h' }) e c d (by decide) ⟨x,H,I1,ru,⟨rfl,fun ys hy=>by rw[I.list_inj hy hq];exact hx⟩,st',fun b hb=>(hf b hb).1⟩⟩
 done:=by
  intro X hP hw hK hc i pins s σ H E I hf st hg
  subst hP hw hK
  obtain⟨xs,hq,hx⟩:=hg
  obtain⟨its,rv,p,hz⟩:=I.list hq
  obtain⟨f0,f1,f2,f3,f4,f5⟩:=hf it (by simp)
  have hl:=rv.length
  exact wpAny_pyNext_list_end (I.ok.hd hc) st p.isList (by simp;omega) fun h' eb=>⟨rfl,I.turned (t':=s.toks) (fun b o hb e=>eb b o hb e) f0 f1 f3 f4 f5⟩
 self:=fun _ _ _ _ _ st h=>wpAny_pyIter_listiter st h
theorem a5X{P:Program}{w:World}{K:PySem.W.Frag}{tg:Expr}(it:Addr)(lo:Int)(n:Nat):Turn P w K tg (Itr lo n) [it] it (fun i h=>IsRangeIter h it (lo+(i:Nat)*1) ((n:Int)-(i:Nat)) 1) where
 mem:=by simp
 obj:=fun i h st b hb=>by
  have e:b=it:=by simpa using hb
  subst e
  exact⟨_,st,fun v z=>by
   have z':Data.fields _=Data.cell v:=z
   cases z'⟩
 keep:=fun i h h' st k=>k it (by simp) _ st
 item:=by
  intro X hP hw hK hc i pins s σ H E I hf st hg
  subst hP hw hK
  obtain⟨f0,f1,f2,f3,f4,f5⟩:=hf it (by simp)
  have W:=Walks.range (prog:=X.prog) (w:=X.w) (I.ok.hd hc) it lo 1 n
  refine W.item i s _ _ hg st fun v h' tk hv st' kk=>?_
  obtain⟨t,rfl⟩:=hv
  have I1:Inv X pins σ H { s with heap:=h',toks:=tk }:=I.turned (fun b o hb e=>kk b o (by simpa using hb) e) f0 f1 f3 f4 f5
  refine⟨_,rfl,a2W (s:={ s with heap:=h',toks:=tk }) (n:="range_iterator") st' rfl rfl (by decide) ⟨.int (lo+i),H,I1,⟨t,?_⟩,⟨rfl,rfl⟩,st',fun b hb=>(hf b hb).1⟩⟩
  rw[Int.mul_one]
 done:=by
  intro X hP hw hK hc i pins s σ H E I hf st hg
  subst hP hw hK
  obtain⟨f0,f1,f2,f3,f4,f5⟩:=hf it (by simp)
  exact wpAny_pyNext_range_end (I.ok.hd hc) st (by have:n≤i:=hg;omega) fun h' eb=>⟨rfl,I.turned (t':=s.toks) (fun b o hb e=>eb b o hb e) f0 f1 f3 f4 f5⟩
 self:=fun _ _ _ _ _ st h=>wpAny_pyIter_rangeiter st h
end L2
namespace L2
open PySem PySem.Spec PyProof.Rows
section
variable{X:Cx}{tg:Expr}
def b8y(K:PySem.W.Frag)(tl:TE):TI:=fun σ H R=>tl σ H fun x H1=>∃a,x=.ref a∧(∃xs,d7 K H1 a xs)∧R (Itl K a) H1
theorem t6{l:Expr}{tl:TE}(hl:PE X l tl):PI X tg l (b8y X.K tl):=by
 intro pins s σ H R I h
 refine m6 (hl pins s σ H _ I h) fun v s1 ⟨x,H1,I1,r1,q1⟩=>?_
 obtain⟨a,e,⟨xs,hq⟩,q⟩:=q1
 subst e
 cases r1
 obtain⟨its,rv,p,hz⟩:=I1.list hq
 refine wpAny_pyIter_list p.isList ?_
 refine⟨s1.heap.objs.size,[s1.heap.objs.size],_,_,H1,rfl,I1.kept (t':=s1.toks) fun b o e=>Heap.get?_push_of_some _ e,b4d a _,⟨_,Heap.get?_push_size _ rfl,rfl,rfl⟩,fun b hb=>?_,q⟩
 have e:b=s1.heap.objs.size:=by simpa using hb
 subst e
 exact I1.fpOk (qQ7 _) (I1.hok.fresh (qQ7 _))
theorem b5i{pins:List (Addr×Obj)}{σ:St}{H:Hp}{s:Shared}{R:It→Hp→Prop}{E:Value→Shared→Prop}{lo hi:Int}{t u v:Tok}{tk:Nat}(I:Inv X pins σ H s)(h1:-(2 ^ 62)≤lo)(h2:lo<2 ^ 62)(h3:-(2 ^ 62)≤hi)(h4:hi<2 ^ 62)
  (q:R (Itr lo (hi-lo).toNat) H):wpAny (model X.prog X.w) X.A (pyIter (.ref s.heap.objs.size)) (PIE X pins σ tg R) E { s with heap:=s.heap.push { cls:=.type "range",data:=.fields #[.int lo t,.int hi u,.int 1 v] },toks:=tk }:=by
 refine wpAny_pyIter_range (IsRange.new ..) (small_one h1 h2 h3 h4) ?_
 have I1:Inv X pins σ H { s with heap:=s.heap.push { cls:=.type "range",data:=.fields #[.int lo t,.int hi u,.int 1 v] },toks:=tk }:=I.kept fun b o e=>Heap.get?_push_of_some _ e
 refine⟨(s.heap.push { cls:=.type "range",data:=.fields #[.int lo t,.int hi u,.int 1 v] }).objs.size,[(s.heap.push { cls:=.type "range",data:=.fields #[.int lo t,.int hi u,.int 1 v] }).objs.size],_,_,H,rfl,
  I1.kept (t':=tk) fun b o e=>Heap.get?_push_of_some _ e,a5X _ lo (hi-lo).toNat,?_,fun b hb=>?_,q⟩
 ·have e1:lo+((0:Nat):Int)*1=lo:=by simp
  have e2:(((hi-lo).toNat:Nat):Int)-((0:Nat):Int)=Builtin.Range.rangeSize lo hi 1:=by rw[rangeSize_one];split<;>omega
  show IsRangeIter _ _ (lo+((0:Nat):Int)*1) ((((hi-lo).toNat:Nat):Int)-((0:Nat):Int)) 1
  rw[e1,e2]
  exact Heap.get?_push_size _ rfl
 ·have e:b=(s.heap.push { cls:=.type "range",data:=.fields #[.int lo t,.int hi u,.int 1 v] }).objs.size:=by simpa using hb
  subst e
  exact I1.fpOk (qQ7 _) (I1.hok.fresh (qQ7 _))
def b2A(ta:TA):TI:=fun σ H R=>ta σ H fun vs H1=>∃j:Int,vs=[.int j]∧-(2 ^ 62)≤j∧j<2 ^ 62∧R (Itr 0 j.toNat) H1
theorem M9{a:Expr}{ta:TA}{p pos:Pos}(hg:Gl X "range")(hm:X.mg "range"=none)(ha:PA X [a] ta)(hs:starEach [a] X.env=[(false,eval a X.env)]:=by rfl):PI X tg (.Call (.Name "range" p) [a] [] pos) (b2A ta):=by
 intro pins s σ H R I h
 refine Call_ (a8a I hg hm boot_range (PyProof.Rows.callWith_type1 (m6 (ha pos pins s σ H _ I h) fun us s1 ⟨vs,H1,I1,r1,q1⟩=>?_) hs rfl))
 obtain⟨j,e,q1,q2,q⟩:=q1
 subst e
 cases r1 with
 | cons r rr=>
  cases rr
  obtain⟨t,rfl⟩:=r
  exact call_range_1 (b5i I1 (by omega) (by omega) q1 q2 (by simpa using q))
def b2D(wi:TI)(g:TG)(tb:TS):TS:=fun D σ H=>wi σ H fun J H1=>∃W:Nat→Nat→St→Hp→Prop,(∃m,W 0 m σ H1)∧∀i m σ H,W i m σ H →
 (J.stop i H∧D.nx σ H)∨(J.go i H∧∃N:St→Hp→Prop,(∀σ' H',N σ' H'→∃m',m'<m∧W (i+1) m' σ' H')∧∀x H',J.yld i H x H'→g x σ H' fun σ2 H2=>tb { D with nx:=N,ct:=N,bk:=D.nx } σ2 H2)
def a0n(fp:List Addr)(h:Heap):List (Addr×Obj):=fp.filterMap fun b=>(h.get? b).map fun o=>(b,o)
theorem Y5{fp:List Addr}{h:Heap}{b:Addr}{o:Obj}(hb:b∈fp)(e:h.get? b=some o):(b,o)∈a0n fp h:=List.mem_filterMap.mpr ⟨b,hb,by rw[e];rfl⟩
theorem b6d{fp:List Addr}{h:Heap}{p:Addr×Obj}(hp:p∈a0n fp h):p.1∈fp∧h.get? p.1=some p.2:=by
 obtain⟨b,hb,e⟩:=List.mem_filterMap.mp hp
 cases q:h.get? b with
 | none=>rw[q]at e;cases e
 | some o=>
  rw[q]at e
  have e':(b,o)=p:=qW1 e
  subst e'
  exact⟨hb,q⟩
theorem Inv.pinned{pins:List (Addr×Obj)}{σ:St}{H:Hp}{s:Shared}{fp:List Addr}(I:Inv X pins σ H s)(hf:∀b∈fp,X5 X pins H b)(ho:∀b∈fp,∃o,s.heap.get? b=some o∧∀v,o.data≠.cell v):Inv X (pins++a0n fp s.heap) σ H s:=
 I.pins_of fun p hp=>(qQ5.mp hp).elim (fun z=>I.pin p (List.mem_append_right _ z)) fun z=>by
  obtain⟨hb,e⟩:=b6d z
  obtain⟨f0,f1,f2,_⟩:=hf p.1 hb
  obtain⟨o,e',d⟩:=ho p.1 hb
  rw[e]at e';cases e'
  exact⟨e,f0,f1,f2,d⟩
theorem Inv.unpinned{pins pl:List (Addr×Obj)}{σ:St}{H:Hp}{s:Shared}(I:Inv X (pins++pl) σ H s):Inv X pins σ H s:=I.pins_of fun p hp=>I.pin p (List.mem_append_right _ (List.mem_append_left _ hp))
theorem A9{iter:Expr}{body:List Stmt}{wi:TI}{g:TG}{tb:TS}{pos:Pos}(hp:PassesOwn (model X.prog X.w) X.A X.env X.xe)(hc:X.calm=true)(hi:PI X tg iter wi)(hg:PG X tg g)(hb:PSs X body tb)
  (hs:∀x,foldedSetIterable iter X.env x=pure x:=by intro _;rfl):PS X (.For tg iter body [] pos) (b2D wi g tb):=by
 intro pins s σ H D I h
 refine wpAny_For (m6 (hi pins s σ H _ I h) fun v s1 h1=>m6 h1 fun itv s2 h2=>?_) hs
 obtain⟨it,fp,tn,J,H2,e,I2,T,st2,f2,W,⟨m0,w0⟩,turn⟩:=h2
 subst e
 have stat:∀{H':Hp},(∀b∈fp,H' b=none)→∀b∈fp,X5 X pins H' b:=fun hn b hb=>⟨hn b hb,(f2 b hb).2⟩
 refine codeAny_forLoop_any (fun n s'=>∃i σ' H',Inv X pins σ' H' s'∧tn i s'.heap∧(∀b∈fp,H' b=none)∧W i n σ' H') ?_ m0 ⟨0,σ,H2,I2,st2,fun b hb=>(f2 b hb).1,w0⟩
 rintro n s3 ⟨i,σ3,H3,I3,st3,fr3,w3⟩
 rcases turn i n σ3 H3 w3 with ⟨stop,qn⟩ | ⟨go,N,hN,step⟩
 ·refine wpAny_passesOwn hp (m6 (T.done X rfl rfl rfl hc i pins s3 σ3 H3 X.xe I3 (stat fr3) st3 stop) fun r s4 ⟨hr,I4⟩=>?_)
  subst hr
  exact wpAny_execs_nil ⟨σ3,H3,I4,qn⟩
 ·refine wpAny_passesOwn hp (m6 (T.item X rfl rfl rfl hc i pins s3 σ3 H3 X.xe I3 (stat fr3) st3 go) fun r s4 ⟨u,hr,h4⟩=>?_)
  subst hr
  refine wpAny_passesOwn hp (m6 h4 fun _ s5 ⟨x,H5,I5,r5,y5,st5,fr5⟩=>?_)
  have I5':=I5.pinned (stat fr5) (T.obj _ _ st5)
  refine wpAny_passesOwn hp (m6 (hg _ s5 σ3 H5 x u _ I5' r5 (step x H5 y5)) fun _ s6 ⟨σ6,H6,I6,q6⟩=>?_)
  refine wpAny_passesOwn hp (m6 (hb _ s6 σ6 H6 _ I6 q6) fun f s7 q7=>?_)
  have again:∀{σ7:St} {H7:Hp},Inv X (pins++a0n fp s5.heap) σ7 H7 s7→N σ7 H7→∃m,m<n∧∃i σ' H',Inv X pins σ' H' s7∧tn i s7.heap∧(∀b∈fp,H' b=none)∧W i m σ' H':=fun {σ7 H7} I7 n7=>by
   obtain⟨m',hm,w7⟩:=hN σ7 H7 n7
   refine⟨m',hm,i+1,σ7,H7,I7.unpinned,T.keep _ _ _ st5 fun b hb o e=>(I7.pin (b,o) (List.mem_append_right _ (List.mem_append_right _ (Y5 hb e)))).1,fun b hb=>?_,w7⟩
   obtain⟨o,e,d⟩:=T.obj _ _ st5 b hb
   exact(I7.pin (b,o) (List.mem_append_right _ (List.mem_append_right _ (Y5 hb e)))).2.1
  cases f with
  | next=>obtain⟨σ7,H7,I7,n7⟩:=q7;exact again I7 n7
  | cont=>obtain⟨σ7,H7,I7,n7⟩:=q7;exact again I7 n7
  | brk=>obtain⟨σ7,H7,I7,q7⟩:=q7;exact⟨σ7,H7,I7.unpinned,q7⟩
  | ret v=>obtain⟨x7,σ7,H7,I7,r7,q7⟩:=q7;exact⟨x7,σ7,H7,I7.unpinned,r7,q7⟩
end
theorem G0{K:PySem.W.Frag}{a:Addr}{xs:List V}{g:TG}{tb:TS}{D:Ends}{σ:St}{H:Hp}(Pv:Nat→St→Hp→Prop)(h0:Pv 0 σ H)(hl:∀i σ H,i≤xs.length→Pv i σ H→d7 K H a xs)
  (hs:∀i x σ H,xs[i]?=some x→Pv i σ H→g x σ H fun σ2 H2=>tb { D with nx:=Pv (i+1),ct:=Pv (i+1),bk:=D.nx } σ2 H2) (hd:∀σ H,Pv xs.length σ H→D.nx σ H) :
  ∃W:Nat→Nat→St→Hp→Prop,(∃m,W 0 m σ H)∧∀i m σ H,W i m σ H →
   ((Itl K a).stop i H∧D.nx σ H)∨((Itl K a).go i H∧∃N:St→Hp→Prop,(∀σ' H',N σ' H'→∃m',m'<m∧W (i+1) m' σ' H')∧∀x H',(Itl K a).yld i H x H'→g x σ H' fun σ2 H2=>tb { D with nx:=N,ct:=N,bk:=D.nx } σ2 H2):=by
 refine⟨fun i m σ H=>m=xs.length-i∧i≤xs.length∧Pv i σ H,⟨xs.length,by simp,Nat.zero_le _,h0⟩,?_⟩
 rintro i m σ H ⟨rfl,hi,p⟩
 have q:=hl i σ H hi p
 by_cases hlt:i<xs.length
 ·refine .inr ⟨⟨xs,xs[i],q,by simp[hlt]⟩,Pv (i+1),fun σ' H' p'=>⟨xs.length-(i+1),by omega,rfl,hlt,p'⟩,fun x H' y=>?_⟩
  obtain⟨e,y⟩:=y
  subst e
  exact hs i x σ _ (y xs q) p
 ·have e:i=xs.length:=by omega
  subst e
  exact .inl ⟨⟨xs,q,qQ7 _⟩,hd σ H p⟩
theorem K5{lo:Int}{n:Nat}{g:TG}{tb:TS}{D:Ends}{σ:St}{H:Hp}(Pv:Nat→St→Hp→Prop)(h0:Pv 0 σ H)
  (hs:∀i σ H,i<n→Pv i σ H→g (.int (lo+i)) σ H fun σ2 H2=>tb { D with nx:=Pv (i+1),ct:=Pv (i+1),bk:=D.nx } σ2 H2) (hd:∀σ H,Pv n σ H→D.nx σ H) :
  ∃W:Nat→Nat→St→Hp→Prop,(∃m,W 0 m σ H)∧∀i m σ H,W i m σ H →
   ((Itr lo n).stop i H∧D.nx σ H)∨((Itr lo n).go i H∧∃N:St→Hp→Prop,(∀σ' H',N σ' H'→∃m',m'<m∧W (i+1) m' σ' H')∧∀x H',(Itr lo n).yld i H x H'→g x σ H' fun σ2 H2=>tb { D with nx:=N,ct:=N,bk:=D.nx } σ2 H2):=by
 refine⟨fun i m σ H=>m=n-i∧i≤n∧Pv i σ H,⟨n,by simp,Nat.zero_le _,h0⟩,?_⟩
 rintro i m σ H ⟨rfl,hi,p⟩
 by_cases hlt:i<n
 ·refine .inr ⟨hlt,Pv (i+1),fun σ' H' p'=>⟨n-(i+1),by omega,rfl,hlt,p'⟩,fun x H' y=>?_⟩
  obtain⟨e,y⟩:=y
  subst e y
  exact hs i σ _ hlt p
 ·have e:i=n:=by omega
  subst e
  exact .inl ⟨qQ7 _,hd σ H p⟩
end L2
namespace L2
open PySem PySem.Spec PyProof.Rows
abbrev R2:=V→V→Hp→VK→Prop
def D5(X:Cx)(f:Value→Value→Sem Value)(r:R2):Prop:=
 ∀(pins:List (Addr×Obj)) (s:Shared) (σ:St) (H:Hp) (x y:V) (v u:Value) (Q:VK),Inv X pins σ H s→RelV x v→RelV y u→r x y H Q →
  wpAny (model X.prog X.w) X.A (f v u) (EP X pins σ Q) X.xe s
def UnR(X:Cx)(f:Value→Sem Value)(r:V→Hp→VK→Prop):Prop:=
 ∀(pins:List (Addr×Obj)) (s:Shared) (σ:St) (H:Hp) (x:V) (v:Value) (Q:VK),Inv X pins σ H s→RelV x v→r x H Q →
  wpAny (model X.prog X.w) X.A (f v) (EP X pins σ Q) X.xe s
def K8(X:Cx)(f:Value)(r:List V→Hp→VK→Prop):Prop:=
 ∀(pins:List (Addr×Obj)) (s:Shared) (σ:St) (H:Hp) (xs:List V) (us:List Value) (Q:VK),Inv X pins σ H s→j4 xs us→r xs H Q →
  wpAny (model X.prog X.w) X.A (call f us) (EP X pins σ Q) X.xe s
def tOp(r:R2)(ta tb:TE):TE:=fun σ H Q=>ta σ H fun x H1=>tb σ H1 fun y H2=>r x y H2 Q
def tUn(r:V→Hp→VK→Prop)(ta:TE):TE:=fun σ H Q=>ta σ H fun x H1=>r x H1 Q
inductive b8B(C:Int→Int→Prop)(g:Int→Int→V)(x y:V)(H:Hp)(Q:VK):Prop
 | mk (i j:Int) (e1:x=.int i) (e2:y=.int j) (c:C i j) (q:Q (g i j) H)
inductive IIn(g:Int→Int→V)(x y:V)(H:Hp)(Q:VK):Prop
 | mk (i j:Int) (e1:x=.int i) (e2:y=.int j) (q:Q (g i j) H)
def rI(C:Int→Int→Prop)(g:Int→Int→V):R2:=b8B C g
def rI0(g:Int→Int→V):R2:=IIn g
def rU(g:Int→V):V→Hp→VK→Prop:=fun x H Q=>∃i,x=.int i∧Q (g i) H
section
variable{X:Cx}{a b c:Expr}{ta tb tc:TE}{pos:Pos}
theorem b2p(ha:PE X a ta)(hb:PE X b tb){pins:List (Addr×Obj)}{s:Shared}{σ:St}{H:Hp}{R:V→V→Hp→Prop}(I:Inv X pins σ H s)
  (h:ta σ H fun x H1=>tb σ H1 fun y H2=>R x y H2) {Q:Value→Shared→Prop} {f:Value→Value→Sem Value}
  (hf:∀v u s2 x y H2,Inv X pins σ H2 s2→RelV x v→RelV y u→R x y H2→wpAny (model X.prog X.w) X.A (f v u) Q X.xe s2) :
  wpAny (model X.prog X.w) X.A (eval a X.env) (fun v s₁=>wpAny (model X.prog X.w) X.A (eval b X.env) (fun u s₂=>wpAny (model X.prog X.w) X.A (f v u) Q X.xe s₂) X.xe s₁) X.xe s:=by
 refine m6 (ha pins s σ H _ I h) fun v s1 ⟨x,H1,I1,r1,q1⟩=>?_
 refine m6 (hb pins s1 σ H1 _ I1 q1) fun u s2 ⟨y,H2,I2,r2,q2⟩=>?_
 exact hf v u s2 x y H2 I2 r1 r2 q2
theorem j6{op:Operator}{r:R2}(ho:D5 X (binaryOp op) r)(ha:PE X a ta)(hb:PE X b tb):PE X (.BinOp a op b pos) (tOp r ta tb):=by
 intro pins s σ H Q I h
 exact wpAny_BinOp (b2p ha hb I h fun v u s2 x y H2 I2 rx ry q=>ho pins s2 σ H2 x y v u Q I2 rx ry q)
theorem a9Z{op:UnaryOp}{r:V→Hp→VK→Prop}(ho:UnR X (unaryOp op) r)(ha:PE X a ta):PE X (.UnaryOp op a pos) (tUn r ta):=by
 intro pins s σ H Q I h
 exact UnaryOp_ (m6 (ha pins s σ H _ I h) fun v s1 ⟨x,H1,I1,r1,q1⟩=>ho pins s1 σ H1 x v Q I1 r1 q1)
theorem opI{f:Value→Value→Sem Value}{C:Int→Int→Prop}{g:Int→Int→Int}
  (rule:∀(i j:Int) (t u:Tok) (s:Shared) (Q:Value→Shared→Prop) (E:Value→Shared→Prop),C i j→Q (.int (g i j) s.toks) { s with toks:=s.toks+1 }→wpAny (model X.prog X.w) X.A (f (.int i t) (.int j u)) Q E s) :
  D5 X f (rI C fun i j=>.int (g i j)):=by
 intro pins s σ H x y v u Q I rx ry h
 obtain⟨i,j,rfl,rfl,hc,q⟩:=h
 obtain⟨t,rfl⟩:=rx
 obtain⟨t',rfl⟩:=ry
 exact rule i j t t' s _ _ hc ⟨.int (g i j),H,I.tok _,⟨_,rfl⟩,q⟩
theorem b2v{f:Value→Value→Sem Value}{g:Int→Int→Int}
  (rule:∀(i j:Int) (t u:Tok) (s:Shared) (Q:Value→Shared→Prop) (E:Value→Shared→Prop),Q (.int (g i j) s.toks) { s with toks:=s.toks+1 }→wpAny (model X.prog X.w) X.A (f (.int i t) (.int j u)) Q E s) :
  D5 X f (rI0 fun i j=>.int (g i j)):=by
 intro pins s σ H x y v u Q I rx ry h
 obtain⟨i,j,rfl,rfl,q⟩:=h
 obtain⟨t,rfl⟩:=rx
 obtain⟨t',rfl⟩:=ry
 exact rule i j t t' s _ _ ⟨.int (g i j),H,I.tok _,⟨_,rfl⟩,q⟩
theorem b9m{f:Value→Value→Sem Value}{g:Int→Int→Bool}
  (rule:∀(i j:Int) (t u:Tok) (s:Shared) (Q:Value→Shared→Prop) (E:Value→Shared→Prop),Q (.bool (g i j)) s→wpAny (model X.prog X.w) X.A (f (.int i t) (.int j u)) Q E s) :
  D5 X f (rI0 fun i j=>.bl (g i j)):=by
 intro pins s σ H x y v u Q I rx ry h
 obtain⟨i,j,rfl,rfl,q⟩:=h
 obtain⟨t,rfl⟩:=rx
 obtain⟨t',rfl⟩:=ry
 exact rule i j t t' s _ _ ⟨.bl (g i j),H,I,rfl,q⟩
def b6D(i j:Int):Prop:=0<j∧j<1073741824
def b2C(i j:Int):Prop:=0≤j∧j≤1000000∧i.natAbs<2 ^ 64
def b9i(i j:Int):Prop:=(-(2 ^ 64)<i∧i<2 ^ 64)∨(-(2 ^ 64)<j∧j<2 ^ 64)
theorem b9i.ok{i j:Int}(h:b9i i j):IntMulOk i j:=by
 rcases h with ⟨h1,h2⟩ | ⟨h1,h2⟩
 ·exact .of_left (intBits_le_64 h1 h2)
 ·exact .of_right (intBits_le_64 h1 h2)
theorem G4:D5 X (binaryOp .Add) (rI0 fun i j=>.int (i+j)):=b2v fun _ _ _ _ _ _ _ q=>add_int q
theorem O7:D5 X (binaryOp .Sub) (rI0 fun i j=>.int (i-j)):=b2v fun _ _ _ _ _ _ _ q=>sub_int q
theorem b2g:D5 X (binaryOp .Mult) (rI b9i fun i j=>.int (i*j)):=opI fun _ _ _ _ _ _ _ hc q=>mul_int q hc.ok
theorem a1o:D5 X (binaryOp .FloorDiv) (rI b6D fun i j=>.int (i/j)):=opI fun i j _ _ _ _ _ hc q=>by
 have h1:(0:Int)<j:=hc.1
 have h2:j<1073741824:=hc.2
 exact floordiv_int (by omega) (by rw[Int.fdiv_eq_ediv_of_nonneg i (by omega)];exact q) (.inl (PyProof.noPylong_small (by omega)))
theorem J5:D5 X (binaryOp .Mod) (rI (fun _ j=>0<j) fun i j=>.int (i % j)):=opI fun i j _ _ _ _ _ hc q=>by
 have h1:(0:Int)<j:=hc
 exact mod_int' (by omega) (by rw[Int.fmod_eq_emod_of_nonneg i (by omega)];exact q)
theorem a5f:D5 X (binaryOp .Pow) (rI b2C fun i j=>.int (i ^ j.toNat)):=opI fun _ _ _ _ _ _ _ hc q=>pow_int_small hc.1 hc.2.1 hc.2.2 q
theorem unI{f:Value→Sem Value}{g:Int→Int}
  (rule:∀(i:Int) (t:Tok) (s:Shared) (Q:Value→Shared→Prop) (E:Value→Shared→Prop),Q (.int (g i) s.toks) { s with toks:=s.toks+1 }→wpAny (model X.prog X.w) X.A (f (.int i t)) Q E s) :
  UnR X f (rU fun i=>.int (g i)):=by
 intro pins s σ H x v Q I rx h
 obtain⟨i,rfl,q⟩:=h
 obtain⟨t,rfl⟩:=rx
 exact rule i t s _ _ ⟨.int (g i),H,I.tok _,⟨_,rfl⟩,q⟩
theorem a7K:UnR X (unaryOp .USub) (rU fun i=>.int (-i)):=unI fun _ _ _ _ _ q=>neg_int q
end
def b4x:V→V→Bool
 | .non,.non=>true | .non,.int _=>true | .int _,.non=>true | .non,.bl _=>true | .bl _,.non=>true | .non,.str _=>true | .str _,.non=>true
 | .int _,.int _=>true | .bl _,.bl _=>true | .str _,.str _=>true | .byt _,.byt _=>true
 | .int _,.str _=>true | .str _,.int _=>true | .bl _,.str _=>true | .str _,.bl _=>true
 | _,_=>false
def rEq:R2:=fun x y H Q=>b4x x y=true∧Q (.bl (decide (x=y))) H
def rNe:R2:=fun x y H Q=>b4x x y=true∧Q (.bl (!decide (x=y))) H
theorem a2T{i j:Int}:decide (V.int i=V.int j)=(i==j):=by
 rw[Bool.eq_iff_iff]
 simp
theorem b9d{i j:Bool}:decide (V.bl i=V.bl j)=(i==j):=by
 rw[Bool.eq_iff_iff]
 simp
theorem a6U{i j:Str}:decide (V.str i=V.str j)=(i==j):=by
 rw[Bool.eq_iff_iff]
 simp
theorem a8U{i j:Array UInt8}:decide (V.byt i=V.byt j)=(i.toList==j.toList):=by
 rw[Bool.eq_iff_iff]
 cases i
 cases j
 simp
section
variable{X:Cx}{a b c:Expr}{ta tb tc:TE}{pos:Pos}
theorem n4{pins:List (Addr×Obj)}{σ:St}{H:Hp}{s:Shared}{Q:VK}{k k':Bool}(I:Inv X pins σ H s)(q:Q (.bl k) H)(e:k=k'):EP X pins σ Q (.bool k') s:=by
 subst e
 exact⟨.bl k,H,I,rfl,q⟩
theorem z6:D5 X (compareOp .Eq) rEq:=by
 intro pins s σ H x y v u Q I rx ry h
 obtain⟨hs,q⟩:=h
 cases x with
 | non=>
  cases rx
  cases y with
  | non=>cases ry;exact PySem.EqNone.eq_none_none (n4 I q (by simp))
  | bl j=>cases ry;exact PySem.EqNone.eq_none_bool (n4 I q (by simp))
  | int j=>obtain⟨t',rfl⟩:=ry;exact PySem.EqNone.eq_none_int (n4 I q (by simp))
  | str j=>obtain⟨t',rfl⟩:=ry;exact PySem.EqNone.eq_none_str (n4 I q (by simp))
  | _=>exact absurd (show false=true from hs) Bool.false_ne_true
 | bl i=>
  cases rx
  cases y with
  | non=>cases ry;exact PySem.EqNone.eq_bool_none (n4 I q (by simp))
  | bl j=>cases ry;exact eq_bool (n4 I q b9d)
  | str j=>obtain⟨t',rfl⟩:=ry;exact PySem.EqMixed.eq_bool_str (n4 I q (by simp))
  | _=>exact absurd (show false=true from hs) Bool.false_ne_true
 | int i=>
  obtain⟨t,rfl⟩:=rx
  cases y with
  | non=>cases ry;exact PySem.EqNone.eq_int_none (n4 I q (by simp))
  | int j=>obtain⟨t',rfl⟩:=ry;exact eq_int (n4 I q a2T)
  | str j=>obtain⟨t',rfl⟩:=ry;exact PySem.EqMixed.eq_int_str (n4 I q (by simp))
  | _=>exact absurd (show false=true from hs) Bool.false_ne_true
 | str i=>
  obtain⟨t,rfl⟩:=rx
  cases y with
  | non=>cases ry;exact PySem.EqNone.eq_str_none (n4 I q (by simp))
  | bl j=>cases ry;exact PySem.EqMixed.eq_str_bool (n4 I q (by simp))
  | int j=>obtain⟨t',rfl⟩:=ry;exact PySem.EqMixed.eq_str_int (n4 I q (by simp))
  | str j=>obtain⟨t',rfl⟩:=ry;exact eq_str (n4 I q a6U)
  | _=>exact absurd (show false=true from hs) Bool.false_ne_true
 | byt i=>
  obtain⟨t,rfl⟩:=rx
  cases y with
  | byt j=>obtain⟨t',rfl⟩:=ry;exact PySem.W.eq_bytes (n4 I q a8U)
  | _=>exact absurd (show false=true from hs) Bool.false_ne_true
 | _=>cases y<;>exact absurd (show false=true from hs) Bool.false_ne_true
theorem N0:D5 X (compareOp .NotEq) rNe:=by
 intro pins s σ H x y v u Q I rx ry h
 obtain⟨hs,q⟩:=h
 cases x with
 | non=>
  cases rx
  cases y with
  | non=>cases ry;exact PySem.EqNone.ne_none_none (n4 I q (by simp))
  | bl j=>cases ry;exact PySem.EqNone.ne_none_bool (n4 I q (by simp))
  | int j=>obtain⟨t',rfl⟩:=ry;exact PySem.EqNone.ne_none_int (n4 I q (by simp))
  | str j=>obtain⟨t',rfl⟩:=ry;exact PySem.EqNone.ne_none_str (n4 I q (by simp))
  | _=>exact absurd (show false=true from hs) Bool.false_ne_true
 | bl i=>
  cases rx
  cases y with
  | non=>cases ry;exact PySem.EqNone.ne_bool_none (n4 I q (by simp))
  | bl j=>cases ry;exact ne_bool (n4 I q (congrArg not b9d))
  | str j=>obtain⟨t',rfl⟩:=ry;exact PySem.EqMixed.ne_bool_str (n4 I q (by simp))
  | _=>exact absurd (show false=true from hs) Bool.false_ne_true
 | int i=>
  obtain⟨t,rfl⟩:=rx
  cases y with
  | non=>cases ry;exact PySem.EqNone.ne_int_none (n4 I q (by simp))
  | int j=>obtain⟨t',rfl⟩:=ry;exact ne_int (n4 I q (congrArg not a2T))
  | str j=>obtain⟨t',rfl⟩:=ry;exact PySem.EqMixed.ne_int_str (n4 I q (by simp))
  | _=>exact absurd (show false=true from hs) Bool.false_ne_true
 | str i=>
  obtain⟨t,rfl⟩:=rx
  cases y with
  | non=>cases ry;exact PySem.EqNone.ne_str_none (n4 I q (by simp))
  | bl j=>cases ry;exact PySem.EqMixed.ne_str_bool (n4 I q (by simp))
  | int j=>obtain⟨t',rfl⟩:=ry;exact PySem.EqMixed.ne_str_int (n4 I q (by simp))
  | str j=>obtain⟨t',rfl⟩:=ry;exact ne_str (n4 I q (congrArg not a6U))
  | _=>exact absurd (show false=true from hs) Bool.false_ne_true
 | byt i=>
  obtain⟨t,rfl⟩:=rx
  cases y with
  | byt j=>obtain⟨t',rfl⟩:=ry;exact PySem.W.ne_bytes (n4 I q (congrArg not a8U))
  | _=>exact absurd (show false=true from hs) Bool.false_ne_true
 | _=>cases y<;>exact absurd (show false=true from hs) Bool.false_ne_true
theorem Z0:D5 X (compareOp .Lt) (rI0 fun i j=>.bl (decide (i<j))):=b9m fun _ _ _ _ _ _ _ q=>lt_int q
theorem a0Y:D5 X (compareOp .LtE) (rI0 fun i j=>.bl (decide (i≤j))):=b9m fun _ _ _ _ _ _ _ q=>le_int q
theorem a4y:D5 X (compareOp .Gt) (rI0 fun i j=>.bl (decide (j<i))):=b9m fun _ _ _ _ _ _ _ q=>gt_int q
theorem a1b:D5 X (compareOp .Is) (fun x y H Q=>y=.non∧Q (.bl (decide (x=.non))) H):=by
 intro pins s σ H x y v u Q I rx ry h
 obtain⟨rfl,q⟩:=h
 cases ry
 refine is_none_gen (n4 I q ?_)
 cases x<;>first
  | (cases rx;rfl)
  | (obtain⟨t,rfl⟩:=rx;rfl)
theorem a6V:D5 X (compareOp .IsNot) (fun x y H Q=>y=.non∧Q (.bl (!decide (x=.non))) H):=by
 intro pins s σ H x y v u Q I rx ry h
 obtain⟨rfl,q⟩:=h
 cases ry
 refine isnot_none_gen (n4 I q ?_)
 cases x<;>first
  | (cases rx;rfl)
  | (obtain⟨t,rfl⟩:=rx;rfl)
theorem i5(b:Expr){op:CmpOp}(h:op≠.In:=by decide)(h2:op≠.NotIn:=by decide):behindInMarks op b=false:=by
 have e1:(op==CmpOp.In)=false:=by cases op<;>first | rfl | exact absurd rfl h
 have e2:(op==CmpOp.NotIn)=false:=by cases op<;>first | rfl | exact absurd rfl h2
 cases b<;>simp[behindInMarks,e1,e2]
theorem P0{op:CmpOp}{r:R2}(ho:D5 X (compareOp op) r)(ha:PE X a ta)(hb:PE X b tb)(hm:behindInMarks op b=false):PE X (.Compare a [op] [b] pos) (tOp r ta tb):=by
 intro pins s σ H Q I h
 exact wpAny_Compare1 (b2p ha hb I h fun v u s2 x y H2 I2 rx ry q=>ho pins s2 σ H2 x y v u Q I2 rx ry q) hm
def b4z(t:TE):TT:=fun σ H Q=>t σ H fun x H'=>IBl x fun k=>Q k H'
theorem f7{op:CmpOp}{r:R2}(ho:D5 X (compareOp op) r)(ha:PE X a ta)(hb:PE X b tb)(hm:behindInMarks op b=false):PT X (.Compare a [op] [b] pos) (b4z (tOp r ta tb)):=by
 intro pins s σ H Q I h
 refine wpAny_isTrue_Compare1 (m6 (ha pins s σ H _ I h) fun v s1 ⟨x,H1,I1,r1,q1⟩=>m6 (hb pins s1 σ H1 _ I1 q1) fun u s2 ⟨y,H2,I2,r2,q2⟩=>
  m6 (ho pins s2 σ H2 x y v u _ I2 r1 r2 q2) fun c s3 ⟨z,H3,I3,r3,k,e,q3⟩=>?_) hm
 subst e
 cases r3
 exact wpAny_truthy_bool ⟨H3,I3,q3⟩
theorem a0w:(sizeLine:Nat)<2 ^ 63:=by rw[sizeLine_eq];decide
theorem a1g:D5 X (binaryOp .Add) (fun x y H Q=>∃i j,x=.str i∧y=.str j∧i.length+j.length≤sizeLine∧Q (.str (i++j)) H):=by
 intro pins s σ H x y v u Q I rx ry h
 obtain⟨i,j,rfl,rfl,hz,q⟩:=h
 obtain⟨t,rfl⟩:=rx
 obtain⟨t',rfl⟩:=ry
 exact add_str (fun t' tk=>⟨.str (i++j),H,I.tok _,⟨_,rfl⟩,q⟩) hz
theorem vals1{x:V}{us:List Value}(r:j4 [x] us):∃u,us=[u]∧RelV x u:=by
 cases r with
 | cons r1 r2=>cases r2;exact⟨_,rfl,r1⟩
theorem vals2{x y:V}{us:List Value}(r:j4 [x,y] us):∃u w',us=[u,w']∧RelV x u∧RelV y w':=by
 cases r with
 | cons r1 r2=>
  cases r2 with
  | cons r3 r4=>cases r4;exact⟨_,_,rfl,r1,r3⟩
theorem b5f(hc:X.calm=true):K8 X (.builtin "max") (fun xs H Q=>∃i j,xs=[.int i,.int j]∧Q (.int (if j>i then j else i)) H):=by
 intro pins s σ H xs us Q I r h
 obtain⟨i,j,rfl,q⟩:=h
 obtain⟨u,w',rfl,⟨t,rfl⟩,⟨t',rfl⟩⟩:=vals2 r
 refine max_two_ints (I.ok.hd hc) fun h' tk k=>⟨_,H,I.kept k,?_,q⟩
 by_cases hj:j>i
 ·rw[if_pos hj,if_pos hj];exact⟨_,rfl⟩
 ·rw[if_neg hj,if_neg hj];exact⟨_,rfl⟩
theorem a6E:K8 X (.type "int") (fun xs H Q=>(∃i,xs=[.int i]∧Q (.int i) H)∨∃k,xs=[.bl k]∧Q (.int (if k then 1 else 0)) H):=by
 intro pins s σ H xs us Q I r h
 rcases h with ⟨i,rfl,q⟩ | ⟨k,rfl,q⟩
 ·obtain⟨u,rfl,t,rfl⟩:=vals1 r
  exact call_int_int ⟨.int i,H,I,⟨_,rfl⟩,q⟩
 ·obtain⟨u,rfl,r1⟩:=vals1 r
  cases r1
  exact call_int_bool ⟨.int (if k then 1 else 0),H,I.tok _,⟨_,rfl⟩,q⟩
theorem a3P:K8 X (.type "str") (fun xs H Q=>∃i,xs=[.int i]∧i.natAbs.log2<1920∧Q (.str (toString i)) H):=by
 intro pins s σ H xs us Q I r h
 obtain⟨i,rfl,hz,q⟩:=h
 obtain⟨u,rfl,t,rfl⟩:=vals1 r
 exact PySem.P.str_of_int hz ⟨.str _,H,I.tok _,⟨_,rfl⟩,q⟩
end
end L2
namespace L2
open PySem PySem.Spec PyProof.Rows
structure a8t(h:Heap)(x dx C:Addr)(mA:Str→Option Value):Prop where
 obj:h.get? x=some (PySem.W.instObj C dx)
 ns:h.Ns1 dx mA
 ne:dx≠x
theorem b6a{h:Heap}{dx:Addr}{mA:Str→Option Value}(n:h.Ns1 dx mA):∃od,h.get? dx=some od∧∀name,PySem.W.lookIn name od=some (mA name):=by
 obtain⟨o,es,ep,ho,hd,hk,_,hm⟩:=n
 refine⟨o,ho,fun name=>?_⟩
 have e:=hm name
 unfold nsFind findBy at e
 rw[←Array.find?_toList]at e
 unfold PySem.W.lookIn
 rw[hd]
 dsimp only
 split
 ·rename_i y q
  rw[q]at e
  exact congrArg some e
 ·rename_i q
  rw[q]at e
  have a:es.toList.any (·.refKey)=false:=by
   rw[List.any_eq_false]
   intro y hy
   obtain⟨z,t,hkey⟩:=hk y (Array.mem_toList_iff.mp hy)
   simp[DictEntry.refKey,hkey]
  have a':¬es.toList.any (·.refKey)=true:=by rw[a];exact Bool.false_ne_true
  rw[if_neg a']
  exact congrArg some e
theorem a8t.look{h:Heap}{x dx C:Addr}{mA:Str→Option Value}(I:a8t h x dx C mA):∃od,PySem.W.InstAt h x (PySem.W.instObj C dx) C (some od)∧∀name,PySem.W.lookIn name od=some (mA name):=
 let ⟨od,ho,hl⟩:=b6a I.ns
 ⟨od,⟨I.obj,rfl,rfl,ho⟩,hl⟩
section
variable{prog:Program}{w:World}{A:Around}{E:Value→Shared→Prop}{s:Shared}{K:PySem.W.Frag}{x dx C f:Addr}{mA:Str→Option Value}{name:Str}{v:Value}
theorem get_map{expr:Bool}{Q:Value→Shared→Prop}(X:K.In s.heap)(I:a8t s.heap x dx C mA)(hg:PySem.W.plainGet K C name=true)(hh:PySem.W.hasDictIn K C=true)
  (ha:PySem.W.findIn K (.ref C) name=some none) (hv:mA name=some v) (hv':PySem.W.handedIn v=true) (h:Q v { s with toks:=s.toks+1 }) :
  wpAny (model prog w) A (getAttr (.ref x) name expr) Q E s:=by
 obtain⟨od,J,hl⟩:=I.look
 exact PySem.W.get_value X J (PySem.W.plainGet_of hg).1 (PySem.W.findObj_own hh ha rfl (by rw[hl,hv])) hv' h
theorem b2m{pl:Sem Bool}{Q:Value×List Value→Shared→Prop}(X:K.In s.heap)(I:a8t s.heap x dx C mA)(hg:PySem.W.plainGet K C name=true)
  (hf:PySem.W.findIn K (.ref C) name=some (some (.ref f))) (ht:PySem.W.isFn K (.ref f)=true) (hv:mA name=none) (h:Q (.ref f,[.ref x]) s) :
  wpAny (model prog w) A (getMethod (.ref x) name pl) Q E s:=by
 obtain⟨od,J,hl⟩:=I.look
 exact PySem.W.method_fn X J (PySem.W.plainGet_of hg).1 (PySem.W.plainGet_of hg).2 hf (beq_iff_eq.mp ht) (by show(PySem.W.lookIn name od).map (·.isSome)=some false;rw[hl,hv];rfl) h
theorem b1r{ns:List Str}{Q:Unit→Shared→Prop}(X:K.In s.heap)(I:a8t s.heap x dx C mA)
  (hs:PySem.W.findIn K (.ref C) "__setattr__"=some (some (.builtin "object.__setattr__"))) (hp:PySem.W.plainOver K C=true) (ht:PySem.W.takerIn K C name=some none) (hh:PySem.W.hasDictIn K C=true)
  (hw:PySem.Within mA ns) (hsz:ns.length≤sizeLine)
  (h:∀h',a8t h' x dx C (fun y=>if y=name then some v else mA y)→Heap.SameBut dx s.heap h'→Q () { s with heap:=h',toks:=s.toks+2 }) :
  wpAny (model prog w) A (setAttr (.ref x) name v) Q E s:=by
 obtain⟨od,J,hl⟩:=I.look
 refine PySem.W.set_plain X J hs (PySem.W.osa_open (s:={ s with toks:=s.toks+1 }) (r:=none) X J hp ht fun b=>?_)
 obtain⟨cd,hc,hd'⟩:=PySem.W.any_some hh
 have hx:s.heap.get? x=some ⟨.ref C,some dx,.plain,#[]⟩:=I.obj
 refine wpAny_bind (wpAny_pure (wpAny_bind (wpAny_bind (wpAny_loadPart hx (wpAny_bind (PySem.W.Looks.here (s:={ s with toks:=s.toks+1 }) (PySem.W.looks_clsIn X hc) ?_))))))
 rw[hd']
 refine wpAny_pure (a:=some dx) (wpAny_bind (wpAny_pure (wpAny_bind ?_)))
 refine wpAny_nsSet1 (s:={ s with toks:=s.toks+1 }) I.ns fun h' hn2 hs2=>?_
 obtain⟨oD,esD,epD,hoD,hdD,hcD⟩:=hn2.count (PySem.Within.cons name v hw)
 refine wpAny_bind (wpAny_lookBehind hoD (by rw[hdD];exact pastItsLine_dict (Nat.le_trans hcD (by rw[List.length_cons];omega))) ?_)
 exact wpAny_pure (h _ ⟨(hs2.2 _ (Ne.symm I.ne)).trans I.obj,hn2,I.ne⟩ hs2)
theorem b6k{R:Result→Shared→Prop}{vs:List Value}{kw:List (Str×Value)}(X:K.In s.heap)(hm:PySem.W.makesIn K C=true)
  (hi:PySem.W.findIn K (.ref C) "__init__"=some (some (.ref f))) (hf:PySem.W.typeIn K (.ref f)=some (.type "function"))
  (h:codeAny (model prog w) (A.under (.builtin "type.__call__" ⟨.ref C::vs,kw⟩)) (.call (.ref f) ⟨.ref (s.heap.objs.size+1)::vs,kw⟩) (PySem.W.InitBack (s.heap.objs.size+1) R)
   { s with heap:=(s.heap.push PySem.W.emptyDict).push (PySem.W.instObj C s.heap.objs.size) }) :
  codeAny (model prog w) A (.call (.ref C) ⟨vs,kw⟩) R s:=by
 obtain⟨hh,g,d,t,os⟩:=s
 exact PySem.W.make_core (PySem.W.makes_of X hm) (PySem.W.looks_findIn X hi) (fun self=>PySem.W.bind_fn X self hf) (.inl rfl) h
end
def M7(f:Str)(v:V):List (Str×V)→List (Str×V)
 | []=>[(f,v)]
 | (g,x)::r=>if g=f then(g,v)::r else(g,x)::M7 f v r
theorem a9q(f g:Str)(v:V):∀fs:List (Str×V),(M7 f v fs).lookup g=if g=f then some v else fs.lookup g
 | []=>by
  show List.lookup g [(f,v)]=_
  by_cases h:g=f
  ·have hb:(g==f)=true:=beq_iff_eq.mpr h
   simp only[List.lookup,hb,if_pos h]
  ·have hb:(g==f)=false:=beq_eq_false_iff_ne.mpr h
   simp only[List.lookup,hb,if_neg h]
 | (k,x)::r=>by
  have ih:=a9q f g v r
  rw[show M7 f v ((k,x)::r)=(if k=f then(k,v)::r else(k,x)::M7 f v r) from rfl]
  by_cases hk:k=f
  ·rw[if_pos hk]
   by_cases h:g=k
   ·have hb:(g==k)=true:=beq_iff_eq.mpr h
    simp only[List.lookup,hb,if_pos (h.trans hk)]
   ·have hb:(g==k)=false:=beq_eq_false_iff_ne.mpr h
    simp only[List.lookup,hb,if_neg (fun e:g=f=>h (e.trans hk.symm))]
  ·rw[if_neg hk]
   by_cases h:g=k
   ·have hb:(g==k)=true:=beq_iff_eq.mpr h
    simp only[List.lookup,hb,if_neg (fun e:g=f=>hk (h.symm.trans e))]
   ·have hb:(g==k)=false:=beq_eq_false_iff_ne.mpr h
    simp only[List.lookup,hb]
    exact ih
theorem a3k(f:Str)(v:V):∀fs:List (Str×V),f∈(M7 f v fs).map (·.1)∧∀g,g∈fs.map (·.1)→g∈(M7 f v fs).map (·.1)
 | []=>⟨by simp[M7],fun g h=>by simp at h⟩
 | (k,x)::r=>by
  obtain⟨i1,i2⟩:=a3k f v r
  rw[show M7 f v ((k,x)::r)=(if k=f then(k,v)::r else(k,x)::M7 f v r) from rfl]
  by_cases hk:k=f
  ·rw[if_pos hk]
   subst hk
   exact⟨by simp,fun g h=>by simpa using h⟩
  ·rw[if_neg hk]
   refine⟨?_,fun g h=>?_⟩
   ·rw[List.map_cons]
    exact List.mem_cons_of_mem _ i1
   ·rw[List.map_cons]at h ⊢
    rcases qQ9.mp h with e | e
    ·exact qQ9.mpr (.inl e)
    ·exact List.mem_cons_of_mem _ (i2 g e)
theorem a3q(f:Str)(v:V):∀fs:List (Str×V),(M7 f v fs).length≤fs.length+1
 | []=>by simp[M7]
 | (k,x)::r=>by
  have ih:=a3q f v r
  rw[show M7 f v ((k,x)::r)=(if k=f then(k,v)::r else(k,x)::M7 f v r) from rfl]
  by_cases hk:k=f
  ·rw[if_pos hk,List.length_cons,List.length_cons];omega
  ·rw[if_neg hk,List.length_cons,List.length_cons];omega
theorem N1.some_of{v:V}{o:Option Value}(r:N1 (some v) o):∃u,o=some u∧RelV v u:=by
 cases o with
 | none=>exact(show False from r).elim
 | some u=>exact⟨u,rfl,r⟩
theorem N1.none_of{o:Option Value}(r:N1 none o):o=none:=by
 cases o with
 | none=>rfl
 | some u=>exact(show False from r).elim
theorem b2b{v:V}{u:Value}(r:RelV v u):PySem.W.handedIn u=true:=by
 cases v with
 | non=>cases (show u=Value.none from r);rfl
 | bl b=>cases (show u=Value.bool b from r);rfl
 | int i=>obtain⟨t,e⟩:=(show ∃t,u=Value.int i t from r);cases e;rfl
 | str x=>obtain⟨t,e⟩:=(show ∃t,u=Value.str x t from r);cases e;rfl
 | byt b=>obtain⟨t,e⟩:=(show ∃t,u=Value.bytes b t from r);cases e;rfl
 | flt b=>obtain⟨t,e⟩:=(show ∃t,u=Value.float b t from r);cases e;rfl
 | ref a=>cases (show u=Value.ref a from r);rfl
 | ty n=>cases (show u=Value.type n from r);rfl
section
variable{P:Program}{w:World}{H H':Hp}{h h':Heap}{a C dx:Addr}{fs fs':List (Str×V)}
theorem a5A(hok:J4 P w H h)(e:H a=some (.ins C dx fs)):∃mA,a8t h a dx C mA∧(∀f,N1 (fs.lookup f) (mA f))∧PySem.Within mA (fs.map (·.1))∧fs.length≤1000∧H dx=some (.own a):=by
 obtain⟨d,z,ne,ob,mA,n,r,q⟩:=(show z9 P w H h a (.ins C dx fs) from hok a _ e)
 exact⟨mA,⟨ob,n,ne⟩,r,q,z,d⟩
end
structure Cls(K:PySem.W.Frag)(C:Addr):Prop where
 pg:PySem.W.plainGet K C Str.empty=true
 hd:PySem.W.hasDictIn K C=true
 po:PySem.W.plainOver K C=true
 sa:PySem.W.findIn K (.ref C) "__setattr__"=some (some (.builtin "object.__setattr__"))
theorem Cls.get{K:PySem.W.Frag}{C:Addr}(c:Cls K C)(f:Str):PySem.W.plainGet K C f=true:=c.pg
def v3(K:PySem.W.Frag)(C:Addr)(f:Str):Prop:=PySem.W.findIn K (.ref C) f=some none
theorem v3.taker{K:PySem.W.Frag}{C:Addr}{f:Str}(n:v3 K C f):PySem.W.takerIn K C f=some none:=by
 unfold PySem.W.takerIn
 rw[show PySem.W.findIn K (.ref C) f=some none from n]
 rfl
structure S7(K:PySem.W.Frag)(C:Addr)(m:Str)(f:Addr):Prop where
 at_:PySem.W.findIn K (.ref C) m=some (some (.ref f))
 fn:PySem.W.isFn K (.ref f)=true
 kp:PySem.W.keepIn K (.ref f)=true
section
variable{X:Cx}{pins:List (Addr×Obj)}{σ:St}{H:Hp}{s:Shared}{a C dx:Addr}{fs:List (Str×V)}{f:Str}{v:V}{A:Around}{E:Value→Shared→Prop}
theorem a6W{b:Bool}{Q:Value→Shared→Prop}(I:Inv X pins σ H s)(e:H a=some (.ins C dx fs))(c:Cls X.K C)(n:v3 X.K C f)(l:fs.lookup f=some v)
  (h:∀u s',Inv X pins σ H s'→RelV v u→Q u s'):wpAny (model X.prog X.w) A (getAttr (.ref a) f b) Q E s:=by
 obtain⟨mA,O,r,_,_,_⟩:=a5A I.hok e
 obtain⟨u,hu,ru⟩:=N1.some_of (v:=v) (o:=mA f) (by rw[←l];exact r f)
 exact get_map I.kIn O (c.get f) c.hd n hu (b2b ru) (h u _ (I.tok _) ru)
theorem a3i{m:Str}{g:Addr}{pl:Sem Bool}{Q:Value×List Value→Shared→Prop}(I:Inv X pins σ H s)(e:H a=some (.ins C dx fs))(c:Cls X.K C)(k:S7 X.K C m g)(l:fs.lookup m=none)
  (h:Q (.ref g,[.ref a]) s):wpAny (model X.prog X.w) A (getMethod (.ref a) m pl) Q E s:=by
 obtain⟨mA,O,r,_,_,_⟩:=a5A I.hok e
 have hn:mA m=none:=N1.none_of (by rw[←l];exact r m)
 exact b2m I.kIn O (c.get m) k.at_ k.fn hn h
theorem a8Y{y:V}{u:Value}{Q:Unit→Shared→Prop}(I:Inv X pins σ H s)(e:H a=some (.ins C dx fs))(c:Cls X.K C)(n:v3 X.K C f)(hl:fs.length<1000)(ry:RelV y u)
  (h:∀s',Inv X pins σ (upd H a (.ins C dx (M7 f y fs))) s'→Q () s'):wpAny (model X.prog X.w) A (setAttr (.ref a) f u) Q E s:=by
 obtain⟨mA,O,r,wi,_,ho⟩:=a5A I.hok e
 have hz:(fs.map (·.1)).length≤sizeLine:=by rw[qQ0,sizeLine_eq];omega
 refine b1r I.kIn O c.sa c.po n.taker c.hd wi hz fun h' O' sb=>h _ ?_
 have hd:∃o,h'.get? dx=some o:=let ⟨o,_,_,e',_⟩:=O'.ns;⟨o,e'⟩
 refine I.write (x:=a) (e:=dx) (by rw[e];exact True.intro) (.inr ho) (fun b q hb z=>(sb.2 b hb).trans z) hd ?_
 refine⟨by rw[b7 O.ne];exact ho,?_,O.ne,O'.obj,_,O'.ns,fun g=>?_,fun g hg=>?_⟩
 ·have:=a3q f y fs;omega
 ·show N1 ((M7 f y fs).lookup g) (if g=f then some u else mA g)
  rw[a9q]
  by_cases q:g=f
  ·rw[if_pos q,if_pos q];exact ry
  ·rw[if_neg q,if_neg q];exact r g
 ·by_cases q:g=f
  ·rw[q];exact(a3k f y fs).1
  ·refine(a3k f y fs).2 g (wi g fun z=>hg ?_)
   show(if g=f then some u else mA g)=none
   rw[if_neg q];exact z
theorem Inv.made(I:Inv X pins σ H s):Inv X pins σ (upd (upd H s.heap.objs.size (.own (s.heap.objs.size+1))) (s.heap.objs.size+1) (.ins C s.heap.objs.size []))
  { s with heap:=(s.heap.push PySem.W.emptyDict).push (PySem.W.instObj C s.heap.objs.size) }:=by
 have e1:(s.heap.push PySem.W.emptyDict).get? s.heap.objs.size=some PySem.W.emptyDict:=Heap.get?_push_size s.heap rfl
 have e2:((s.heap.push PySem.W.emptyDict).push (PySem.W.instObj C s.heap.objs.size)).get? (s.heap.objs.size+1)=some (PySem.W.instObj C s.heap.objs.size):=by
  have:=Heap.get?_push_size (s.heap.push PySem.W.emptyDict) (o:=PySem.W.instObj C s.heap.objs.size) rfl
  rwa [Heap.size_push] at this
 have e3:(s.heap.push PySem.W.emptyDict).Ns s.heap.objs.size (fun _=>none):=⟨PySem.W.emptyDict,#[],_,e1,rfl,(fun e he=>absurd he (by simp)),fun _=>rfl⟩
 have I1:=I.laid (a:=s.heap.objs.size) (o:=.own (s.heap.objs.size+1)) (h':=s.heap.push PySem.W.emptyDict) (t':=s.toks) (fun b u q=>Heap.get?_push_of_some _ q) (qQ7 _) ⟨_,e1⟩
 refine I1.laid (a:=s.heap.objs.size+1) (o:=.ins C s.heap.objs.size []) (t':=s.toks) (fun b u q=>Heap.get?_push_of_some _ q) (Nat.le_of_eq (Heap.size_push _ _)) ?_
 have ne:s.heap.objs.size≠s.heap.objs.size+1:=Nat.ne_of_lt (Nat.lt_succ_self _)
 refine⟨by rw[b7 ne,b0],Nat.zero_le _,ne,e2,fun _=>none,(Heap.Ns1.of_empty e3).at fun o q=>Heap.get?_push_of_some _ q,fun _=>True.intro,fun y hy=>absurd rfl hy⟩
theorem b7t{prog:Program}{w:World}{env:Env}{e:Expr}{f:Str}{pos:Pos}{s:Shared}{Q:Value→Shared→Prop}(hb:attributeBase e f env (eval e env)=eval e env)
  (h:wpAny (model prog w) A (eval e env) (fun o s₁=>wpAny (model prog w) A (getAttr o f true) Q E s₁) E s):wpAny (model prog w) A (eval (.Attribute e f pos) env) Q E s:=
 Attribute_any_ h (by rw[arm_eval_Attribute,hb])
end
inductive b1D(K:PySem.W.Frag)(f:Str)(x:V)(H:Hp)(Q:VK):Prop
 | mk (a C dx:Addr) (fs:List (Str×V)) (v:V) (e:x=.ref a) (h:H a=some (.ins C dx fs)) (c:Cls K C) (n:v3 K C f) (l:fs.lookup f=some v) (q:Q v H)
def b4w(K:PySem.W.Frag)(ta:TE)(f:Str):TE:=fun σ H Q=>ta σ H fun x H1=>b1D K f x H1 Q
def b7B(K:PySem.W.Frag)(ta tv:TE)(f:Str):TS:=fun D σ H=>tv σ H fun y H1=>ta σ H1 fun x H2=>∃a C dx fs,x=.ref a∧H2 a=some (.ins C dx fs)∧Cls K C∧v3 K C f∧fs.length<1000 ∧
 D.nx σ (upd H2 a (.ins C dx (M7 f y fs)))
section
variable{X:Cx}{o e value:Expr}{f:Str}{pos pos' tpos:Pos}{ta tv:TE}
theorem q5(he:PE X e ta)(hb:attributeBase e f X.env (eval e X.env)=eval e X.env):PE X (.Attribute e f pos) (b4w X.K ta f):=by
 intro pins s σ H Q I h
 refine b7t hb (m6 (he pins s σ H _ I h) fun u s1 ⟨x,H1,I1,rx,a,C,dx,fs,v,ex,ea,c,n,l,q⟩=>?_)
 subst ex
 obtain rfl:u=Value.ref a:=rx
 exact a6W I1 ea c n l fun u' s2 I2 ru=>⟨v,H1,I2,ru,q⟩
theorem L5(ha:PE X o ta)(hv:PE X value tv)(hs:swapsWith value (some (.Attribute o f pos')) pos.line X.env=pure false):PS X (.Assign [.Attribute o f pos'] value pos) (b7B X.K ta tv f):=by
 intro pins s σ H D I h
 refine plainObj_wpAny_Assign_Attribute (m6 (hv pins s σ H _ I h) fun u s1 ⟨y,H1,I1,ry,q⟩=>m6 (ha pins s1 σ H1 _ I1 q) fun ov s2 ⟨x,H2,I2,rx,a,C,dx,fs,ex,ea,c,n,l,q2⟩=>?_) hs
 subst ex
 obtain rfl:ov=Value.ref a:=rx
 exact a8Y I2 ea c n l ry fun s3 I3=>⟨σ,_,I3,q2⟩
theorem b2y{pl:Sem Bool}{m:Str}{apos:Pos}{args:List Expr}{pins:List (Addr×Obj)}{s:Shared}{σ:St}{H:Hp}{Q:Value→Shared→Prop}{te:TE}(he:PE X e te)(I:Inv X pins σ H s)
  (h:te σ H fun x H1=>∃a C dx fs g,x=.ref a∧H1 a=some (.ins C dx fs)∧Cls X.K C∧S7 X.K C m g∧fs.lookup m=none ∧
   ∀s1,Inv X pins σ H1 s1→wpAny (model X.prog X.w) X.A (callWith pos (.ref g) [.ref a] (backTo pos (starEach args X.env)) (backToKw pos (keywordEach [] X.env))) Q X.xe s1)
  (ht:eval (.Call (.Attribute e m apos) args [] pos) X.env=(do
   let ov ←eval e X.env
   standAt apos.atName
   let (f,first) ←holding [ov] (getMethod ov m pl)
   callWith pos f first (backTo pos (starEach args X.env)) (backToKw pos (keywordEach [] X.env)))) :
  wpAny (model X.prog X.w) X.A (eval (.Call (.Attribute e m apos) args [] pos) X.env) Q X.xe s:=by
 refine PySem.W.methodCall_KW (pl:=pl) (m6 (he pins s σ H _ I h) fun u s1 ⟨x,H1,I1,rx,a,C,dx,fs,g,ex,ea,c,k,l,q⟩=>?_) ht
 subst ex
 obtain rfl:u=Value.ref a:=rx
 exact a3i I1 ea c k l (q s1 I1)
end
section
variable{X:Cx}{pins:List (Addr×Obj)}{σ:St}{H:Hp}{s:Shared}{A:Around}{E:Value→Shared→Prop}{Q:Value→Shared→Prop}{c:Value}{b:Bool}
end
end L2
namespace L2
open PySem PySem.Spec PyProof.Rows
structure D8(k:Nat)(A:Around):Prop where
 hd:A.handled=none
 dp:A.depth+3*k+5<recursionLimit
 un:A.units+16*k+200<cLine
theorem D8.mono{j k:Nat}{A:Around}(r:D8 k A)(h:j≤k):D8 j A:=⟨r.hd,by have:=r.dp;omega,by have:=r.un;omega⟩
theorem D8.deeper{k:Nat}{A:Around}(r:D8 (k+1) A)(env:Env):D8 k (A.deeper env):=
 ⟨r.hd,by have:=r.dp;show A.depth+1+3*k+5<_;omega,by have:=r.un;show A.units+3+16*k+200<_;omega⟩
theorem a4Y{A:Around}{C:Addr}{us:List Value}{kw:List (Str×Value)}:(A.under (.builtin "type.__call__" ⟨.ref C::us,kw⟩)).depth=A.depth+1:=by
 first | rfl | simp[Around.under,Code.weight,Code.isCreation,Code.isGuard,Code.isCaller,Code.frames,Code.isFrame,guardIds]
theorem a7W{A:Around}{C:Addr}{us:List Value}{kw:List (Str×Value)}:(A.under (.builtin "type.__call__" ⟨.ref C::us,kw⟩)).units=A.units+1:=by
 first | rfl | simp[Around.under,Code.cUnits,Code.frames,Code.isFrame]
theorem D8.make{k:Nat}{A:Around}(r:D8 (k+1) A)(C:Addr)(us:List Value)(kw:List (Str×Value)):D8 k (A.under (.builtin "type.__call__" ⟨.ref C::us,kw⟩)):=
 ⟨r.hd,by have:=r.dp;rw[a4Y];omega,by have:=r.un;rw[a7W];omega⟩
theorem D8.depth{k:Nat}{A:Around}(r:D8 k A):A.depth<recursionLimit:=by have:=r.dp;omega
theorem D8.units{k:Nat}{A:Around}(r:D8 k A):A.units+64<cLine:=by have:=r.un;omega
def b1a:TA:=fun _ H Q=>Q [] H
def b1q(ta:TE)(tr:TA):TA:=fun σ H Q=>ta σ H fun x H1=>tr σ H1 fun xs H2=>Q (x::xs) H2
section
variable{X:Cx}{e:Expr}{es:List Expr}{te:TE}{t:TA}{pos:Pos}
theorem b6:PA X [] b1a:=fun _ _ _ _ H Q I h=>Calls.spliced_nil ⟨[],H,I,.nil,h⟩
theorem a6(ha:PE X e te)(hr:PA X es t)(hs:starEach (e::es) X.env=(false,eval e X.env)::starEach es X.env:=by rfl):PA X (e::es) (b1q te t):=by
 intro pos pins s σ H Q I h
 rw[hs]
 show wpAny _ _ (spliced ((false,eval e X.env)::backTo pos (starEach es X.env))) _ _ s
 refine Calls.spliced_cons (m6 (ha pins s σ H _ I h) fun u s1 ⟨x,H1,I1,r1,q1⟩=>?_)
 exact m6 (hr pos pins s1 σ H1 _ I1 q1) fun us s2 ⟨xs,H2,I2,r2,q2⟩=>⟨x::xs,H2,I2,.cons r1 r2,q2⟩
def b5A(t:TA):TE:=fun σ H Q=>t σ H fun xs H1=>xs.length≤sizeLine∧∀p,H1 p=none→Q (.ref p) (upd H1 p (.tup xs))
def b7C(t:TA):TE:=fun σ H Q=>t σ H fun xs H1=>xs.length≤sizeLine∧∀p,H1 p=none→Q (.ref p) (upd H1 p (.lst xs))
theorem u6{x1}(h:PA X es t):PE X (.Tuple es x1 pos) (b5A t):=by
 intro pins s σ H Q I hq
 refine wpAny_Tuple_spliced (m6 (h pos pins s σ H _ I hq) fun us s1 ⟨xs,H1,I1,r,z,q⟩=>⟨by rw[←r.length];exact z,?_⟩)
 have hf:H1 s1.heap.objs.size=none:=I1.hok.fresh (qQ7 _)
 refine⟨.ref s1.heap.objs.size,upd H1 s1.heap.objs.size (.tup xs),I1.laid (t':=s1.toks) (fun b u e=>Heap.get?_push_of_some _ e) (qQ7 _) ?_,rfl,q _ hf⟩
 exact⟨z,us,r,⟨_,Heap.get?_push_size _ rfl,rfl,_,rfl⟩⟩
theorem m4(h:PA X es t):PE X (.List es pos) (b7C t):=by
 intro pins s σ H Q I hq
 refine wpAny_List_spliced (m6 (h pos pins s σ H _ I hq) fun us s1 ⟨xs,H1,I1,r,z,q⟩=>⟨by rw[←r.length];exact z,?_⟩)
 have hf:H1 s1.heap.objs.size=none:=I1.hok.fresh (qQ7 _)
 refine⟨.ref s1.heap.objs.size,upd H1 s1.heap.objs.size (.lst xs),I1.laid (t':=s1.toks) (fun b u e=>Heap.get?_push_of_some _ e) (qQ7 _) ?_,rfl,q _ hf⟩
 exact⟨z,us,0,r,Heap.get?_push_size _ rfl⟩
end
abbrev Sp:=List V→Hp→VK→XK→Prop
abbrev CXT:=List Env→Hp→Shared→XK→Value→Shared→Prop
structure a1s(P:Program)(w:World)(K:PySem.W.Frag)(mg:Str→Option Value)(base:Heap)(A:Around)(outer:List Env)(s:Shared)(H:Hp):Prop where
 frames:A.frames=some outer
 mod:Mod K mg base
 bs:∀b o,base.get? b=some o→s.heap.get? b=some o∧H b=none
 bsz:base.objs.size≤s.heap.objs.size
 funs:s.heap.FunFrames base outer
 frf:∀b∈frs outer,H b=none
 hok:J4 P w H s.heap
 bare:AllBare s.gens
def CE(outer:List Env)(P:Program)(w:World)(H:Hp)(s:Shared)(Q:VK)(u:Value)(s':Shared):Prop:=
 ∃v H',s'.os=s.os∧AllBare s'.gens∧Un (frs outer) [] H H' s.heap s'.heap∧J4 P w H' s'.heap∧RelV v u∧Q v H'
def CR(CX:CXT)(outer:List Env)(P:Program)(w:World)(H:Hp)(s:Shared)(Q:VK)(E:XK)(r:Result)(s':Shared):Prop:=
 match r with
 | .ok (.ret u)=>CE outer P w H s Q u s'
 | .ok _=>False
 | .error e=>CX outer H s E e s'
structure g8(P:Program)(w:World)(K:PySem.W.Frag)(mg:Str→Option Value)(base:Heap)(CX:CXT)(k:Nat)(f:Addr)(fd:FuncData)(ps:List Str)(sp:Sp):Prop where
 len:∀vs H Q E,sp vs H Q E→vs.length=ps.length
 run:∀(A:Around) (outer:List Env) (s:Shared) (H:Hp) (args:Args) (us:List Value) (vs:List V) (Q:VK) (E:XK),D8 k A→a1s P w K mg base A outer s H→BindsTo s fd args (ps.zip us)→j4 vs us→sp vs H Q E →
  codeAny (model P w) A (.call (.ref f) args) (CR CX outer P w H s Q E) s
theorem g8.mono{P:Program}{w:World}{K:PySem.W.Frag}{mg:Str→Option Value}{base:Heap}{CX:CXT}{j k:Nat}{f:Addr}{fd:FuncData}{ps:List Str}{sp:Sp}(F:g8 P w K mg base CX j f fd ps sp)(h:j≤k) :
  g8 P w K mg base CX k f fd ps sp:=⟨F.len,fun A outer s H args us vs Q E hr=>F.run A outer s H args us vs Q E (hr.mono h)⟩
theorem a1s.make{P:Program}{w:World}{K:PySem.W.Frag}{mg:Str→Option Value}{base:Heap}{A:Around}{outer:List Env}{s:Shared}{H:Hp}(e:a1s P w K mg base A outer s H)(C:Addr)(us:List Value)(kw:List (Str×Value)) :
  a1s P w K mg base (A.under (.builtin "type.__call__" ⟨.ref C::us,kw⟩)) outer s H:=⟨by first | exact e.frames | (simpa [Around.under,Code.envs,Code.isFrame,pushEnvs] using e.frames),e.mod,e.bs,e.bsz,e.funs,e.frf,e.hok,e.bare⟩
section
variable{X:Cx}{pins:List (Addr×Obj)}{σ:St}{H:Hp}{s s':Shared}
theorem Inv.env0(I:Inv X pins σ H s):a1s X.prog X.w X.K X.mg X.base X.A X.stack s H:=
 ⟨I.ok.frames,I.ok.mod,I.bs,Nat.le_trans I.ok.bsz I.sz,I.stack,I.stkFree,I.hok,I.bare⟩
theorem Inv.after{Q:VK}{u:Value}(I:Inv X pins σ H s)(h:CE X.stack X.prog X.w H s Q u s'):EP X pins σ Q u s':=by
 obtain⟨v,H',os,bare,un,hok,r,q⟩:=h
 obtain⟨hh,g,d,t,os'⟩:=s'
 obtain rfl:os'=s.os:=os
 exact⟨v,H',I.call (h':=hh) (g':=g) (d':=d) (t':=t) (ch:=[]) un hok bare (fun b z=>absurd z (by simp)),r,q⟩
end
def b1A(sp:Sp)(dvs:List V)(E:XK)(t:TA):TE:=fun σ H Q=>t σ H fun vs H1=>sp (vs++dvs) H1 Q E
def b5p(C:Addr)(m:Str)(sp:Sp)(dvs:List V)(E:XK)(ta:TE)(t:TA):TE:=fun σ H Q=>ta σ H fun x H1=>∃a dx fs,x=.ref a∧H1 a=some (.ins C dx fs)∧fs.lookup m=none ∧
 t σ H1 fun vs H2=>sp (x::(vs++dvs)) H2 Q E
def b0q(C:Addr)(sp:Sp)(dvs:List V)(E:XK)(t:TA):TE:=fun σ H Q=>t σ H fun vs H1=>∀x dx,H1 x=none→H1 dx=none→dx≠x →
 sp (.ref x::(vs++dvs)) (upd (upd H1 dx (.own x)) x (.ins C dx [])) (fun v H2=>v=.non∧Q (.ref x) H2) E
def Binds(K:PySem.W.Frag)(fd:FuncData)(ps:List Str)(ds:List Value):Prop:=
 ∀(s:Shared) (us:List Value),K.In s.heap→(us++ds).length=ps.length→BindsTo s fd ⟨us,[]⟩ (ps.zip (us++ds))
theorem Binds.all{K:PySem.W.Frag}{fd:FuncData}{ps:List Str}(h:∀us:List Value,us.length=ps.length→bindArgs fd ⟨us,[]⟩=pure (ps.zip us)):Binds K fd ps []:=fun s us _ hl=>by
 rw[List.append_nil]at hl ⊢
 exact .of_eq (h us hl)
def W6(CX:CXT)(X:Cx)(E:XK):Prop:=∀(pins:List (Addr×Obj)) (σ:St) (H:Hp) (s:Shared) (e:Value) (s':Shared),Inv X pins σ H s→CX X.stack H s E e s'→X.xe e s'
section
variable{X:Cx}{CX:CXT}{k:Nat}{f C:Addr}{fd:FuncData}{ps:List Str}{sp:Sp}{dvs:List V}{ds:List Value}{E:XK}{x m:Str}{p pos apos:Pos}{e o:Expr}{es:List Expr}{ta:TE}{t:TA}
theorem a8N{pins:List (Addr×Obj)}{σ:St}{H:Hp}{s:Shared}{Q:VK}{us:List Value}{vs:List V}(F:g8 X.prog X.w X.K X.mg X.base CX k f fd ps sp)(hr:D8 k X.A)(hb:Binds X.K fd ps ds)(hd:j4 dvs ds)(hx:W6 CX X E)
  (I:Inv X pins σ H s) (r:j4 vs us) (h:sp (vs++dvs) H Q E):wpAny (model X.prog X.w) X.A (call (.ref f) us) (EP X pins σ Q) X.xe s:=by
 have r2:j4 (vs++dvs) (us++ds):=r.append hd
 have hl:(us++ds).length=ps.length:=by rw[←r2.length];exact F.len _ _ _ _ h
 refine wpAny_call (codeAny_mono (F.run X.A X.stack s H ⟨us,[]⟩ (us++ds) (vs++dvs) Q E hr I.env0 (hb s us I.kIn hl) r2 h) fun r s' hq=>?_)
 cases r with
 | error e=>exact hx pins σ H s e s' I hq
 | ok fl=>
  cases fl with
  | ret u=>exact I.after hq
  | next=>exact False.elim hq
  | brk=>exact False.elim hq
  | cont=>exact False.elim hq
theorem j9(F:g8 X.prog X.w X.K X.mg X.base CX k f fd ps sp)(hr:D8 k X.A)(hg:Gl X x)(hm:X.mg x=some (.ref f))(hk:PySem.W.keepIn X.K (.ref f)=true)(hb:Binds X.K fd ps ds)(hd:j4 dvs ds)(hx:W6 CX X E)
  (ha:PA X (e::es) t) (hdb:(x==("__debug__":Str))=false:=by decide) (he:starEach (e::es) X.env=(false,eval e X.env)::starEach es X.env:=by rfl) (hpl:(backTo pos (starEach es X.env)).any (·.1)=false:=by rfl) :
  PE X (.Call (.Name x p) (e::es) [] pos) (b1A sp dvs E t):=by
 intro pins s σ H Q I h
 refine wpAny_Call_Name_kw (a6o I hg hm ?_ hdb)
 refine PySem.W.callWith_K (h₀:=X.base) I.ok.mod.kin hk (m6 (ha pos pins s σ H _ I h) fun us s1 ⟨vs,H1,I1,r,q⟩=>⟨I1.kIn,?_⟩) he hpl
 exact a8N F hr hb hd hx I1 r q
theorem Z5{pl:Sem Bool}(he:PE X o ta)(c:Cls X.K C)(hm:S7 X.K C m f)(F:g8 X.prog X.w X.K X.mg X.base CX k f fd ps sp)(hr:D8 k X.A)(hb:Binds X.K fd ps ds)(hd:j4 dvs ds)(hx:W6 CX X E)(ha:PA X (e::es) t)
  (hst:starEach (e::es) X.env=(false,eval e X.env)::starEach es X.env:=by rfl) (hpl:(backTo pos (starEach es X.env)).any (·.1)=false:=by rfl)
  (ht:eval (.Call (.Attribute o m apos) (e::es) [] pos) X.env=(do
   let ov ←eval o X.env
   standAt apos.atName
   let (f,first) ←holding [ov] (getMethod ov m pl)
   callWith pos f first (backTo pos (starEach (e::es) X.env)) (backToKw pos (keywordEach [] X.env))):=by rfl) :
  PE X (.Call (.Attribute o m apos) (e::es) [] pos) (b5p C m sp dvs E ta t):=by
 intro pins s σ H Q I h
 refine PySem.W.methodCall_KW (pl:=pl) (m6 (he pins s σ H _ I h) fun u s1 ⟨x,H1,I1,rx,a,dx,fs,ex,ea,l,q⟩=>?_) ht
 subst ex
 obtain rfl:u=Value.ref a:=rx
 refine a3i I1 ea c hm l ?_
 refine PySem.W.callWith_K (first:=[.ref a]) (h₀:=X.base) I.ok.mod.kin hm.kp (m6 (ha pos pins s1 σ H1 _ I1 q) fun us s2 ⟨vs,H2,I2,r,q2⟩=>⟨I2.kIn,?_⟩) hst hpl
 exact a8N (us:=.ref a::us) (vs:=.ref a::vs) F hr hb hd hx I2 (.cons rfl r) q2
theorem O5{pl:Sem Bool}(he:PE X o ta)(c:Cls X.K C)(hm:S7 X.K C m f)(F:g8 X.prog X.w X.K X.mg X.base CX k f fd ps sp)(hr:D8 k X.A)(hb:Binds X.K fd ps ds)(hd:j4 dvs ds)(hx:W6 CX X E)
  (ht:eval (.Call (.Attribute o m apos) [] [] pos) X.env=(do
   let ov ←eval o X.env
   standAt apos.atName
   let (f,first) ←holding [ov] (getMethod ov m pl)
   callWith pos f first (backTo pos (starEach [] X.env)) (backToKw pos (keywordEach [] X.env))):=by rfl) :
  PE X (.Call (.Attribute o m apos) [] [] pos) (b5p C m sp dvs E ta b1a):=by
 intro pins s σ H Q I h
 refine PySem.W.methodCall_KW (pl:=pl) (m6 (he pins s σ H _ I h) fun u s1 ⟨x,H1,I1,rx,a,dx,fs,ex,ea,l,q⟩=>?_) ht
 subst ex
 obtain rfl:u=Value.ref a:=rx
 refine a3i I1 ea c hm l ?_
 exact PySem.W.callWith_K0 (first:=[.ref a]) I1.kIn hm.kp (a8N (us:=[.ref a]) (vs:=[.ref a]) F hr hb hd hx I1 (.cons rfl .nil) q)
structure Mk(K:PySem.W.Frag)(C f:Addr):Prop where
 makes:PySem.W.makesIn K C=true
 init:PySem.W.findIn K (.ref C) "__init__"=some (some (.ref f))
 fn:PySem.W.isFn K (.ref f)=true
 kp:PySem.W.keepIn K (.ref C)=true
theorem a9L{pins:List (Addr×Obj)}{σ:St}{H:Hp}{s:Shared}{Q:VK}{us:List Value}{vs:List V}(M:Mk X.K C f)(F:g8 X.prog X.w X.K X.mg X.base CX k f fd ps sp)(hr:D8 (k+1) X.A)(hb:Binds X.K fd ps ds)(hd:j4 dvs ds)
  (hx:W6 CX X E) (I:Inv X pins σ H s) (r:j4 vs us)
  (h:∀x dx,H x=none→H dx=none→dx≠x→sp (.ref x::(vs++dvs)) (upd (upd H dx (.own x)) x (.ins C dx [])) (fun v H2=>v=.non∧Q (.ref x) H2) E) :
  wpAny (model X.prog X.w) X.A (call (.ref C) us) (EP X pins σ Q) X.xe s:=by
 have hq:=h (s.heap.objs.size+1) s.heap.objs.size (I.hok.fresh (Nat.le_succ _)) (I.hok.fresh (qQ7 _)) (Nat.ne_of_lt (Nat.lt_succ_self _))
 have I2:=Inv.made (C:=C) I
 have r2:j4 (V.ref (s.heap.objs.size+1)::(vs++dvs)) (Value.ref (s.heap.objs.size+1)::(us++ds)):=.cons rfl (r.append hd)
 have hl:(Value.ref (s.heap.objs.size+1)::us++ds).length=ps.length:=by
  have e:=r2.length
  rw[F.len _ _ _ _ hq]at e
  exact e.symm
 refine wpAny_call (b6k (f:=f) I.kIn M.makes M.init (beq_iff_eq.mp M.fn) (codeAny_mono (F.run _ X.stack _ _ ⟨Value.ref (s.heap.objs.size+1)::us,[]⟩ (Value.ref (s.heap.objs.size+1)::(us++ds)) _ _ E (hr.make C us [])
  (I2.env0.make C us []) (hb _ (Value.ref (s.heap.objs.size+1)::us) I2.kIn hl) r2 hq) fun r s' hq'=>?_))
 cases r with
 | error e=>exact hx pins σ _ _ e s' I2 hq'
 | ok fl=>
  cases fl with
  | ret u=>
   obtain⟨v,H',I3,rv,ev,q3⟩:=I2.after hq'
   subst ev
   exact⟨rv,⟨V.ref (s.heap.objs.size+1),H',I3,rfl,q3⟩⟩
  | next=>exact False.elim hq'
  | brk=>exact False.elim hq'
  | cont=>exact False.elim hq'
theorem b5q(M:Mk X.K C f)(F:g8 X.prog X.w X.K X.mg X.base CX k f fd ps sp)(hr:D8 (k+1) X.A)(hg:Gl X x)(hm:X.mg x=some (.ref C))(hb:Binds X.K fd ps ds)(hd:j4 dvs ds)(hx:W6 CX X E)
  (ha:PA X (e::es) t) (hdb:(x==("__debug__":Str))=false:=by decide) (he:starEach (e::es) X.env=(false,eval e X.env)::starEach es X.env:=by rfl) (hpl:(backTo pos (starEach es X.env)).any (·.1)=false:=by rfl) :
  PE X (.Call (.Name x p) (e::es) [] pos) (b0q C sp dvs E t):=by
 intro pins s σ H Q I h
 refine wpAny_Call_Name_kw (a6o I hg hm ?_ hdb)
 refine PySem.W.callWith_K (h₀:=X.base) I.ok.mod.kin M.kp (m6 (ha pos pins s σ H _ I h) fun us s1 ⟨vs,H1,I1,r,q⟩=>⟨I1.kIn,?_⟩) he hpl
 exact a9L M F hr hb hd hx I1 r q
theorem a0P(M:Mk X.K C f)(F:g8 X.prog X.w X.K X.mg X.base CX k f fd ps sp)(hr:D8 (k+1) X.A)(hg:Gl X x)(hm:X.mg x=some (.ref C))(hb:Binds X.K fd ps ds)(hd:j4 dvs ds)(hx:W6 CX X E)
  (hdb:(x==("__debug__":Str))=false:=by decide):PE X (.Call (.Name x p) [] [] pos) (b0q C sp dvs E b1a):=by
 intro pins s σ H Q I h
 refine wpAny_Call_Name_kw (a6o I hg hm ?_ hdb)
 exact PySem.W.callWith_K0 I.kIn M.kp (a9L (us:=[]) M F hr hb hd hx I .nil h)
end
def PK(X:Cx)(kws:List Keyword)(t:TA):Prop:=
 ∀(pos:Pos) (pins:List (Addr×Obj)) (s:Shared) (σ:St) (H:Hp) (Q:List V→Hp→Prop),Inv X pins σ H s→t σ H Q→wpAny (model X.prog X.w) X.A (evalAll ((backToKw pos (keywordEach kws X.env)).map (·.2))) (AP X pins σ Q) X.xe s
section
variable{X:Cx}{CX:CXT}{k:Nat}{f C:Addr}{fd:FuncData}{ps ks:List Str}{sp:Sp}{E:XK}{x m:Str}{p pos apos kpos:Pos}{e o:Expr}{es:List Expr}{kws:List Keyword}{te ta:TE}{t tk:TA}{nm:Option Str}
theorem b7v:PK X [] b1a:=fun _ _ _ _ H Q I h=>wpAny_evalAll_nil ⟨[],H,I,.nil,h⟩
theorem b6t(ha:PE X e te)(hr:PK X kws t):PK X (⟨nm,e,kpos⟩::kws) (b1q te t):=by
 intro pos pins s σ H Q I h
 show wpAny _ _ (evalAll ((do let v ←eval e X.env;standAt pos;pure v)::(backToKw pos (keywordEach kws X.env)).map (·.2))) _ _ s
 refine wpAny_evalAll_cons (wpAny_bind (m6 (ha pins s σ H _ I h) fun u s1 ⟨x,H1,I1,r1,q1⟩=>wpAny_bind (wpAny_standAt (wpAny_pure ?_))))
 exact m6 (hr pos pins s1 σ H1 _ I1 q1) fun us s2 ⟨xs,H2,I2,r2,q2⟩=>⟨x::xs,H2,I2,.cons r1 r2,q2⟩
variable{g:List Value→List Value→List Value}{gV:List V→List V→List V}
end
structure j8(N P:List Str)(sc:Scope):Prop where
 kind:sc.kind=.function
 co:sc.isCoroutine=false
 gen:sc.isGenerator=false
 nd:N.Nodup
 pre:N.take P.length=P
 par:∀x∈P,sc.names.lookup x=some .local∨sc.names.lookup x=some .cell
 nofree:∀y∈sc.names,y.2≠.free
theorem a1G{kindOf:Str→Option NameKind}{x:Str}:∀{binds:List (Str×Value)} {m:Str→Option Value},(∀v,(x,v)∉binds)→bindL kindOf binds m x=m x
 | [],_,_=>rfl
 | (n,v)::r,m,h=>by
  unfold bindL
  rw[a1G fun w hw=>h w (List.mem_cons_of_mem _ hw)]
  split
  ·have:x≠n:=by rintro rfl;exact h v List.mem_cons_self
   simp[this]
  ·rfl
theorem a3F{kindOf:Str→Option NameKind}{x:Str}:∀{binds:List (Str×Value)} {m:Str→Option Value},(∀v,(x,v)∉binds)→bindC kindOf binds m x=m x
 | [],_,_=>rfl
 | (n,v)::r,m,h=>by
  unfold bindC
  rw[a3F fun w hw=>h w (List.mem_cons_of_mem _ hw)]
  split
  ·rfl
  ·have:x≠n:=by rintro rfl;exact h v List.mem_cons_self
   simp[this]
theorem a6F{kindOf:Str→Option NameKind}{x:Str}{v:Value}:∀{P:List Str} {vs:List Value} {i:Nat} {m:Str→Option Value},P.Nodup→P[i]?=some x→vs[i]?=some v→kindOf x=some .local →
  bindL kindOf (P.zip vs) m x=some v
 | [],_,_,_,_,h,_,_=>by simp at h
 | _::_,[],_,_,_,_,h,_=>by simp at h
 | p::P,w::vs,0,m,nd,h1,h2,hk=>by
  simp at h1 h2;subst h1;subst h2
  show bindL kindOf ((p,w)::P.zip vs) m p=_
  unfold bindL
  rw[a1G fun v hv=>(List.nodup_cons.mp nd).1 (List.of_mem_zip hv).1,if_pos hk]
  simp
 | p::P,w::vs,i+1,m,nd,h1,h2,hk=>by
  show bindL kindOf ((p,w)::P.zip vs) m x=_
  unfold bindL
  exact a6F (i:=i) (List.nodup_cons.mp nd).2 (by simpa using h1) (by simpa using h2) hk
theorem a3E{kindOf:Str→Option NameKind}{x:Str}{v:Value}:∀{P:List Str} {vs:List Value} {i:Nat} {m:Str→Option Value},P.Nodup→P[i]?=some x→vs[i]?=some v→kindOf x≠some .local →
  bindC kindOf (P.zip vs) m x=some v
 | [],_,_,_,_,h,_,_=>by simp at h
 | _::_,[],_,_,_,_,h,_=>by simp at h
 | p::P,w::vs,0,m,nd,h1,h2,hk=>by
  simp at h1 h2;subst h1;subst h2
  show bindC kindOf ((p,w)::P.zip vs) m p=_
  unfold bindC
  rw[a3F fun v hv=>(List.nodup_cons.mp nd).1 (List.of_mem_zip hv).1,if_neg hk]
  simp
 | p::P,w::vs,i+1,m,nd,h1,h2,hk=>by
  show bindC kindOf ((p,w)::P.zip vs) m x=_
  unfold bindC
  exact a3E (i:=i) (List.nodup_cons.mp nd).2 (by simpa using h1) (by simpa using h2) hk
def start(N:List Str)(vs:List V):St:=vs.map some++List.replicate (N.length-vs.length) none
def a8C(CX:CXT)(P:Program)(w:World)(K:PySem.W.Frag)(mg:Str→Option Value)(base:Heap)(N:List Str)(qual:Str)(scope:Scope)(f:Addr)(cd:Value)(A:Around)(outer:List Env)(s:Shared)(H:Hp)(E:XK):Cx where
 prog:=P
 w:=w
 K:=K
 mg:=mg
 base:=base
 A:=A.deeper (envOfC qual scope s.heap.objs.size f cd)
 N:=N
 s₀:=s
 H₀:=H
 env:=envOfC qual scope s.heap.objs.size f cd
 outer:=outer
 stack:=envOfC qual scope s.heap.objs.size f cd::outer
 ex:=[]
 calm:=true
 fn:=fun _=>true
 pn:=[]
 xe:=fun e s'=>wpAny (model P w) (A.deeper (envOfC qual scope s.heap.objs.size f cd)) (leaving (envOfC qual scope s.heap.objs.size f cd) e) (fun _ s''=>CX outer H s E e s'') (fun e' s''=>CX outer H s E e' s'') s'
theorem a7Q{sc:Scope}{n:Nat}{x:Str}(h:sc.names.lookup x=some .cell):∃c,(cellsFrom n sc.names []).lookup x=some c:=by
 have q:=PySem.W.cellsFrom_some sc.names n [] (.inl h)
 exact Option.isSome_iff_exists.mp q
theorem b2f{CX:CXT}{P:Program}{w:World}{K:PySem.W.Frag}{mg:Str→Option Value}{base:Heap}{N ps:List Str}{qual:Str}{scope:Scope}{f:Addr}{cd:Value}{A:Around}{outer:List Env}{s s1:Shared}{H:Hp}{E:XK}{us:List Value}{vs:List V}
  (S:j8 N ps scope) (hd:A.handled=none) (e0:a1s P w K mg base A outer s H) (hl:vs.length=ps.length) (r:j4 vs us)
  (x:InCallC s s.heap.objs.size (bindL (envOfC qual scope s.heap.objs.size f cd).kindOf (ps.zip us) fun _=>none) (cellsFrom (s.heap.objs.size+1) scope.names []) (bindC (envOfC qual scope s.heap.objs.size f cd).kindOf (ps.zip us) fun _=>none) s1) :
  Inv (a8C CX P w K mg base N qual scope f cd A outer s H E) [] (start N vs) H s1:=by
 have hpl:ps.length≤N.length:=by have:=congrArg List.length S.pre;rw[List.length_take]at this;omega
 obtain⟨h1,tk,rfl,hk⟩:=x.done
 have noA:∀b:Addr,b∉(a8C CX P w K mg base N qual scope f cd A outer s H E).ex:=fun b z=>absurd (show b∈([]:List Addr) from z) (by simp)
 refine⟨⟨e0.mod,S.kind,rfl,rfl,qQ7 _,fun y z c h1 h2=>?_,fun y hy=>?_,fun y c _ h=>?_,fun _=>hd,Around.frames_deeper e0.frames,.inr ⟨rfl,rfl⟩,fun b z=>absurd z (noA b),e0.bs,e0.bsz,fun b _ _=>noA b,fun b z=>absurd z (noA b),e0.funs,e0.frf⟩,
  rfl,e0.bare,Un.kept hk,⟨_,x.toInCall.ns,fun i y v h1 h2 h3=>?_⟩,fun y c h=>⟨_,x.cell y c h⟩,e0.hok.fresh (qQ7 _),fun y c h=>?_,fun p hp=>absurd (show p∈([]:List (Addr×Obj)) from hp) (by simp),e0.hok.kept hk,?_⟩
 ·exact name_of_addr x.apart (PySem.mem_of_lookup h1) (PySem.mem_of_lookup h2)
 ·have hy:scope.names.lookup y=some .cell∨scope.names.lookup y=some .free:=hy
  rcases hy with hy | hy
  ·exact a7Q hy
  ·exact absurd rfl (S.nofree _ (PySem.mem_of_lookup hy))
 ·exact Nat.le_of_lt (x.above y c (PySem.mem_of_lookup h))
 ·have hi:i<vs.length:=by
   unfold start at h2
   by_cases hi:i<vs.length
   ·exact hi
   ·rw[List.getElem?_append_right (by simpa using hi)]at h2
    rw[List.getElem?_replicate]at h2
    split at h2<;>cases h2
  have ha:vs[i]?=some v:=by
   unfold start at h2
   rw[List.getElem?_append_left (by simpa using hi),qQ8]at h2
   cases e:vs[i]? with
   | none=>rw[e]at h2;cases h2
   | some a=>rw[e]at h2;cases h2;rfl
  obtain⟨u,hu,rv⟩:=r.get ha
  have hp:ps[i]?=some y:=by
   rw[←S.pre,List.getElem?_take_of_lt (by omega)];exact h1
  have ndP:ps.Nodup:=by rw[←S.pre];exact S.nd.sublist (List.take_sublist _ _)
  refine⟨u,rv,?_⟩
  rcases S.par y (List.mem_of_getElem? hp) with k | k
  ·exact .inl ⟨k,a6F ndP hp hu k⟩
  ·obtain⟨c,e⟩:=a7Q (n:=s.heap.objs.size+1) k
   refine .inr ⟨.inl k,c,e,?_⟩
   have q:=x.cell y c e
   rw[a3E ndP hp hu (by show scope.names.lookup y≠_;rw[k];decide)] at q
   exact q
 ·exact e0.hok.fresh (Nat.le_of_lt (x.above y c (PySem.mem_of_lookup h)))
 ·unfold start
  show _=N.length
  rw[qQ4,qQ0,List.length_replicate]
  omega
theorem b1z{CX:CXT}{P:Program}{w:World}{K:PySem.W.Frag}{mg:Str→Option Value}{base:Heap}{k:Nat}{f:Addr}{name qual:Str}{params:Arguments}{body:List Stmt}{scope:Scope}{dV kV doc pm cdv ct oc:Value}{an od:Option Addr}
  {osl:Array (Option Value)} {N ps:List Str} {sp:Sp} (lk:K.lookup f=some ⟨oc,od,.func (PySem.W.fnOf name qual params body scope dV kV doc pm an cdv ct),osl⟩) (hcd:PySem.W.codeIn K cdv qual=true) (S:j8 N ps scope)
  (len:∀vs H Q E,sp vs H Q E→vs.length=ps.length)
  (hbody:∀(A:Around) (outer:List Env) (s:Shared) (H:Hp) (vs:List V) (Q:VK) (E:XK),D8 k (A.deeper (envOfC qual scope s.heap.objs.size f cdv))→sp vs H Q E →
   ∃t,PSs (a8C CX P w K mg base N qual scope f cdv A outer s H E) body t∧t { nx:=fun _ H'=>Q .non H',rt:=Q } (start N vs) H) :
  g8 P w K mg base CX (k+1) f (PySem.W.fnOf name qual params body scope dV kV doc pm an cdv ct) ps sp:=by
 refine⟨len,fun A outer s H args us vs Q E hr e0 hb r hsp=>?_⟩
 have hl:=len _ _ _ _ hsp
 have KX:K.In s.heap:=e0.mod.kin.keeps fun b o e=>(e0.bs b o e).1
 have lim:s.heap.NoLimit:=e0.mod.nolimit.keeps fun b o e=>(e0.bs b o e).1
 have hkind:∀y∈ps.zip us,scope.names.lookup y.1=some .local∨(scope.names.lookup y.1=some .cell∧((cellsFrom (s.heap.objs.size+1) scope.names []).lookup y.1).isSome=true):=fun⟨n,v⟩ hy=>by
  rcases S.par n (List.of_mem_zip hy).1 with q | q
  ·exact .inl q
  ·exact .inr ⟨q,PySem.W.cellsFrom_some _ _ _ (.inl q)⟩
 refine codeAny_call_function hr.depth (KX _ _ lk) rfl S.co S.gen rfl (PySem.W.codeRec_of KX hcd) (hb _ _ _ _ ?_)
 refine wpAny_newFunctionEnv_cells S.kind hkind fun env he s1 x=>?_
 subst he
 refine⟨lim.keeps x.toInCall.keep,codeAny_func ?_⟩
 obtain⟨t,ht,hq⟩:=hbody A outer s H vs Q E (hr.deeper _) hsp
 have I:Inv (a8C CX P w K mg base N qual scope f cdv A outer s H E) [] (start N vs) H s1:=b2f S hr.hd e0 hl r x
 refine wpAny_mono (ht [] s1 (start N vs) H _ I hq) (fun fl s' hs=>?_) fun e s' hs=>hs
 have fin:∀{σ':St} {H':Hp} {v:V} {u:Value},Inv (a8C CX P w K mg base N qual scope f cdv A outer s H E) [] σ' H' s'→RelV v u→Q v H'→CE outer P w H s Q u s':=
  fun {σ' H' v u} J rv q=>⟨v,H',J.os,J.bare,J.base,J.hok,rv,q⟩
 cases fl with
 | ret u=>
  obtain⟨v,σ',H',J,rv,q⟩:=hs
  exact fin J rv q
 | next=>
  obtain⟨σ',H',J,q⟩:=hs
  exact fin (v:=V.non) (u:=Value.none) J rfl q
 | brk=>
  obtain⟨_,_,_,q⟩:=hs
  exact False.elim q
 | cont=>
  obtain⟨_,_,_,q⟩:=hs
  exact False.elim q
end L2
namespace L2
open PySem PySem.Spec PyProof.Rows
section
variable{X:Cx}{x:Str}{p pos:Pos}{e:Expr}{es:List Expr}{t:TA}{id T:String}{r:List V→Hp→VK→Prop}
def tCB(r:List V→Hp→VK→Prop)(t:TA):TE:=fun σ H Q=>t σ H fun vs H1=>r vs H1 Q
theorem f6(hc:K8 X (.builtin id) r)(hg:Gl X x)(hm:X.mg x=none)(hv:bootBuiltins x=some (.builtin id))(ha:PA X (e::es) t)(hn:x≠"__name__":=by decide)(hdb:(x==("__debug__":Str))=false:=by decide)
  (he:starEach (e::es) X.env=(false,eval e X.env)::starEach es X.env:=by rfl) (hpl:(backTo pos (starEach es X.env)).any (·.1)=false:=by rfl):PE X (.Call (.Name x p) (e::es) [] pos) (tCB r t):=by
 intro pins s σ H Q I h
 refine wpAny_Call_Name_kw (a8a I hg hm hv ?_ hn hdb)
 exact PyProof.Rows.callWith_builtin1 (m6 (ha pos pins s σ H _ I h) fun us s1 ⟨vs,H1,I1,r1,q1⟩=>hc pins s1 σ H1 vs us Q I1 r1 q1) he hpl
theorem D9(hc:K8 X (.type T) r)(hg:Gl X x)(hm:X.mg x=none)(hv:bootBuiltins x=some (.type T))(ha:PA X (e::es) t)(hn:x≠"__name__":=by decide)(hdb:(x==("__debug__":Str))=false:=by decide)
  (he:starEach (e::es) X.env=(false,eval e X.env)::starEach es X.env:=by rfl) (hpl:(backTo pos (starEach es X.env)).any (·.1)=false:=by rfl):PE X (.Call (.Name x p) (e::es) [] pos) (tCB r t):=by
 intro pins s σ H Q I h
 refine wpAny_Call_Name_kw (a8a I hg hm hv ?_ hn hdb)
 exact PyProof.Rows.callWith_type1 (m6 (ha pos pins s σ H _ I h) fun us s1 ⟨vs,H1,I1,r1,q1⟩=>hc pins s1 σ H1 vs us Q I1 r1 q1) he hpl
end
end L2
namespace HT
open PySem PyProof.Rows
section
open PySem.SeqAt
open PySem.AutoSeq1 (wpAny_loadPart')
open PySem.MeetsSeq PySem.MeetsSeq2 PySem.MeetsSeq3
end
section
variable{prog:Program}{w:World}{A:Around}{E:Value→Shared→Prop}{s:Shared}
theorem b3u{t b:Addr}{vs ws:List Value}{Q:Value→Shared→Prop}(ht:IsTup s.heap t vs.toArray)(hb:IsTup s.heap b ws.toArray)(hv:vs≠[])
  (h1:ws=[]→Q (.ref t) s) (h2:ws≠[]→Q (.ref s.heap.objs.size) { s with heap:=s.heap.push { cls:=.type "tuple",data:=.seq (vs++ws).toArray } })
  (hsz:vs.length+ws.length≤sizeLine):wpAny (model prog w) A (binaryOp .Add (.ref t) (.ref b)) Q E s:=by
 obtain⟨⟨cls,dd,data,sl⟩,ho,hc,n,hd⟩:=id ht
 obtain⟨⟨cls2,dd2,data2,sl2⟩,ho2,hc2,n2,hd2⟩:=id hb
 simp only at hc hd hc2 hd2
 subst hc hd hc2 hd2
 have e:vs.toArray++ws.toArray=(vs++ws).toArray:=by simp
 by_cases hw:ws=[]
 ·exact concat_meets ⟨_,ho,rfl⟩ ⟨_,ho2,rfl⟩ noFill_tuple_add seq_tuple_add PySem.F.slot_tuple_add PySem.F.entry_tuple_add (PySem.F.args_tuple_add_2 _ _)
   (tuple_addW1 t b vs.toArray ws.toArray n n2 dd dd2 sl sl2 (by simpa using hv) (by simp[hw])) ⟨ho,ho2,h1 hw⟩
 ·refine concat_meets ⟨_,ho,rfl⟩ ⟨_,ho2,rfl⟩ noFill_tuple_add seq_tuple_add PySem.F.slot_tuple_add PySem.F.entry_tuple_add (PySem.F.args_tuple_add_2 _ _)
   (tuple_addW2 t b vs.toArray ws.toArray n n2 dd dd2 sl sl2 (by simpa using hv) (by simpa using hw) (by rw[List.size_toArray,List.size_toArray];exact hsz)) ⟨ho,ho2,?_⟩
  rw[e]
  exact h2 hw
def V9(n d:Nat):Option Int→Nat
 | none=>d
 | some v=>if v<0 then(v+(n:Int)).toNat else min v.toNat n
theorem a3O(n d:Nat):V9 n d none=d:=rfl
theorem a3T(n d k:Nat):V9 n d (some (k:Int))=min k n:=by
 show(if (k:Int)<0 then((k:Int)+(n:Int)).toNat else min (k:Int).toNat n)=min k n
 rw[if_neg (by omega),Int.toNat_natCast]
end
end HT
namespace L2
open PySem PySem.Spec PyProof.Rows
abbrev TO:=St→Hp→(Option Int→Hp→Prop)→Prop
def PO(X:Cx)(e:Option Expr)(t:TO):Prop:=
 ∀(pins:List (Addr×Obj)) (s:Shared) (σ:St) (H:Hp) (Q:Option Int→Hp→Prop),Inv X pins σ H s→t σ H Q →
  wpAny (model X.prog X.w) X.A (evalPart e X.env) (fun u s'=>∃o H',Inv X pins σ H' s'∧IsPart u o∧Q o H') X.xe s
def b4q:TO:=fun _ H Q=>Q none H
def b0z(t:TE):TO:=fun σ H Q=>t σ H fun x H1=>∃i,x=.int i∧Q (some i) H1
section
variable{X:Cx}{e:Expr}{te:TE}{lo hi:Option Expr}{tl th:TO}{pos p2:Pos}
theorem U9:PO X none b4q:=by
 intro pins s σ H Q I h
 rw[evalPart_none]
 exact wpAny_pure ⟨none,H,I,.none,h⟩
theorem T8(h:PE X e te):PO X (some e) (b0z te):=by
 intro pins s σ H Q I hw
 rw[evalPart_some]
 refine m6 (h pins s σ H _ I hw) fun u s1 ⟨x,H1,I1,r1,q1⟩=>?_
 obtain⟨i,rfl,q⟩:=q1
 obtain⟨t,rfl⟩:=r1
 exact⟨some i,H1,I1,.int i t,q⟩
def SlR(X:Cx)(r:V→Option Int→Option Int→Hp→VK→Prop):Prop:=
 ∀(pins:List (Addr×Obj)) (s:Shared) (σ:St) (H:Hp) (x:V) (v vl vu:Value) (lo hi:Option Int) (sl:Addr) (Q:VK),Inv X pins σ H s→RelV x v→s.heap.IsSliceOf sl vl vu .none→IsPart vl lo→IsPart vu hi→r x lo hi H Q →
  ∃T id,typeLookup (.type T) "__getitem__"=pure (some (.builtin id))∧s.TypeIs v T∧wpAny (model X.prog X.w) X.A (getItem v (.ref sl)) (EP X pins σ Q) X.xe s
def tSl(r:V→Option Int→Option Int→Hp→VK→Prop)(te:TE)(tl th:TO):TE:=fun σ H Q=>te σ H fun x H1=>tl σ H1 fun l H2=>th σ H2 fun u H3=>r x l u H3 Q
theorem R3{r:V→Option Int→Option Int→Hp→VK→Prop}(hr:SlR X r)(he:PE X e te)(hl:PO X lo tl)(hu:PO X hi th):PE X (.Subscript e (.Slice lo hi none p2) pos) (tSl r te tl th):=by
 intro pins s σ H Q I h
 refine Subscript_ (m6 (he pins s σ H _ I h) fun v s1 ⟨x,H1,I1,r1,q1⟩=>?_)
 refine wpAny_Slice (m6 (hl pins s1 σ H1 _ I1 q1) fun vl s2 ⟨l,H2,I2,pl,q2⟩=>m6 (hu pins s2 σ H2 _ I2 q2) fun vu s3 ⟨u,H3,I3,pu,q3⟩=>?_)
 rw[evalPart_none]
 refine wpAny_pure ?_
 have I4:Inv X pins σ H3 { s3 with heap:=s3.heap.push { cls:=.type "slice",data:=.fields #[vl,vu,.none] } }:=I3.kept (t':=s3.toks) fun b ob q=>Heap.get?_push_of_some _ q
 obtain⟨T,id,hT,ht,hg⟩:=hr pins { s3 with heap:=s3.heap.push { cls:=.type "slice",data:=.fields #[vl,vu,.none] } } σ H3 x v vl vu l u s3.heap.objs.size Q I4 r1 (Heap.IsSliceOf.new ..) pl pu q3
 show wpAny (model X.prog X.w) X.A (subscriptTail e (.Slice lo hi none p2) v (.ref s3.heap.objs.size)) (EP X pins σ Q) X.xe { s3 with heap:=s3.heap.push { cls:=.type "slice",data:=.fields #[vl,vu,.none] } }
 exact tail_any (ops:=[.ref s3.heap.objs.size,v]) ht hT hg (by with_unfolding_all rfl)
def a3e(xs:List V)(lo hi:Option Int):List V:=(xs.drop (HT.V9 xs.length 0 lo)).take (HT.V9 xs.length xs.length hi-HT.V9 xs.length 0 lo)
theorem a9S(xs:List V)(lo hi:Option Int):(a3e xs lo hi).length≤xs.length:=by
 unfold a3e
 rw[List.length_take,List.length_drop]
 omega
def b3y(K:PySem.W.Frag):R2:=fun x y H Q=>∃a b xs ys,x=.ref a∧y=.ref b∧i4 K H a xs∧i4 K H b ys∧xs≠[]∧xs.length+ys.length≤sizeLine ∧
 (ys=[]→Q (.ref a) H)∧(ys≠[]→∀p,H p=none→Q (.ref p) (upd H p (.tup (xs++ys))))
theorem j4.nil_iff{xs:List V}{us:List Value}(r:j4 xs us):us=[]↔xs=[]:=by
 cases r with
 | nil=>simp
 | cons _ _=>simp
theorem b9r:D5 X (binaryOp .Add) (b3y X.K):=by
 intro pins s σ H x y v u Q I rx ry h
 obtain⟨a,b,xs,ys,rfl,rfl,ha,hb,hx,hz,q1,q2⟩:=h
 cases rx
 cases ry
 obtain⟨its,r1,p1,_⟩:=I.tuple ha
 obtain⟨its2,r2,p2,_⟩:=I.tuple hb
 refine HT.b3u p1 p2 (fun z=>hx (r1.nil_iff.mp z)) (fun z=>⟨.ref a,H,I,rfl,q1 (r2.nil_iff.mp z)⟩) (fun z=>?_) (by rw[←r1.length,←r2.length];exact hz)
 refine⟨.ref s.heap.objs.size,_,I.laid (t':=s.toks) (o:=.tup (xs++ys)) (fun b ob q=>Heap.get?_push_of_some _ q) (qQ7 _) ?_,rfl,q2 (fun w=>z (r2.nil_iff.mpr w)) _ (I.hok.fresh (qQ7 _))⟩
 exact⟨by rw[qQ4];exact hz,_,r1.append r2,IsTup.new _ _⟩
end
end L2
namespace L2
open PySem PySem.Spec PyProof.Rows
def ixN(n:Nat)(i:Int):Option Nat:=if 0≤i then(if i<n then some i.toNat else none) else if -(n:Int)≤i then some (i+n).toNat else none
def D6{α:Type}(xs:List α)(i:Int):Option α:=(ixN xs.length i).bind fun j=>xs[j]?
theorem b6u{n:Nat}{i:Int}{j:Nat}(h:ixN n i=some j):seqIndex? i n=some j∧j<n∧-(n:Int)≤i∧i<n:=by
 unfold ixN at h
 by_cases h0:0≤i
 ·rw[if_pos h0]at h
  by_cases h1:i<n
  ·rw[if_pos h1]at h
   have e:i.toNat=j:=qW1 h
   exact⟨by rw[seqIndex_of h0 h1,e],by omega,by omega,h1⟩
  ·rw[if_neg h1]at h;cases h
 ·rw[if_neg h0]at h
  by_cases h1:-(n:Int)≤i
  ·rw[if_pos h1]at h
   have e:(i+n).toNat=j:=qW1 h
   exact⟨by rw[seqIndex_neg (by omega) h1,e],by omega,h1,by omega⟩
  ·rw[if_neg h1]at h;cases h
theorem a6A{α:Type}{xs:List α}{i:Int}{v:α}(h:D6 xs i=some v):∃j,seqIndex? i xs.length=some j∧xs[j]?=some v∧j<xs.length∧-(xs.length:Int)≤i∧i<xs.length:=by
 unfold D6 at h
 cases e:ixN xs.length i with
 | none=>rw[e]at h;cases h
 | some j=>
  rw[e]at h
  obtain⟨h1,h2,h3,h4⟩:=b6u e
  exact⟨j,h1,h,h2,h3,h4⟩
theorem i8{α:Type}{xs:List α}{j:Nat}{v:α}(h:xs[j]?=some v):D6 xs (j:Int)=some v:=by
 have hj:j<xs.length:=(qQ1.mp h).1
 have e:ixN xs.length (j:Int)=some j:=by
  unfold ixN
  rw[if_pos (by omega),if_pos (by omega)];simp
 unfold D6;rw[e];exact h
def b3q(b:Expr):Prop:=∀o i,subscripted b false o i=operate [o,i] (getItem o i)
def IxR(X:Cx)(r:R2):Prop:=
 ∀(value slice:Expr) (pins:List (Addr×Obj)) (s:Shared) (σ:St) (H:Hp) (x y:V) (v u:Value) (Q:VK),Inv X pins σ H s→RelV x v→RelV y u→r x y H Q →
  subscripted slice false v u=operate [v,u] (getItem v u)→wpAny (model X.prog X.w) X.A (subscriptTail value slice v u) (EP X pins σ Q) X.xe s
def MtR(X:Cx)(id:String)(r:V→List V→Hp→VK→Prop):Prop:=
 ∀(pins:List (Addr×Obj)) (s:Shared) (σ:St) (H:Hp) (x:V) (xs:List V) (v:Value) (us:List Value) (Q:VK),Inv X pins σ H s→RelV x v→j4 xs us→r x xs H Q →
  wpAny (model X.prog X.w) X.A (call (.builtin id) (v::us)) (EP X pins σ Q) X.xe s
section
variable{X:Cx}{a b:Expr}{ta tb:TE}{pos:Pos}
theorem IxR.or{r r':R2}(h:IxR X r)(h':IxR X r'):IxR X (fun x y H Q=>r x y H Q∨r' x y H Q):=by
 intro value slice pins s σ H x y v u Q I rx ry q hs
 rcases q with q | q
 ·exact h value slice pins s σ H x y v u Q I rx ry q hs
 ·exact h' value slice pins s σ H x y v u Q I rx ry q hs
theorem d8{r:R2}(hr:IxR X r)(ha:PE X a ta)(hb:PE X b tb)(hs:b3q b):PE X (.Subscript a b pos) (tOp r ta tb):=by
 intro pins s σ H Q I h
 exact Subscript_ (b2p ha hb I h fun v u s2 x y H2 I2 rx ry q=>hr a b pins s2 σ H2 x y v u Q I2 rx ry q (hs _ _))
inductive b6B(K:PySem.W.Frag)(x y:V)(H:Hp)(Q:VK):Prop
 | mk (p:Addr) (xs:List V) (i:Int) (v:V) (e1:x=.ref p) (e2:y=.int i) (s:d7 K H p xs) (a:D6 xs i=some v) (q:Q v H)
inductive b2B(K:PySem.W.Frag)(x y:V)(H:Hp)(Q:VK):Prop
 | mk (p:Addr) (xs:List V) (i:Int) (v:V) (e1:x=.ref p) (e2:y=.int i) (s:i4 K H p xs) (a:D6 xs i=some v) (q:Q v H)
def b2h(K:PySem.W.Frag):R2:=b6B K
def b6i(K:PySem.W.Frag):R2:=b2B K
def b1y:R2:=fun x y H Q=>∃z i c,x=.str z∧y=.int i∧z.length≤sizeLine∧D6 z.cps.toList i=some c∧Q (.str ⟨#[c]⟩) H
theorem k8:IxR X (b2h X.K):=by
 intro value slice pins s σ H x y v u Q I rx ry h hs
 obtain⟨p,xs,i,z,rfl,rfl,hq,he,q⟩:=h
 cases rx
 obtain⟨t,rfl⟩:=ry
 obtain⟨its,r,pl,hz⟩:=I.list hq
 obtain⟨j,h1,h2,h3,h4,h5⟩:=a6A he
 obtain⟨w,ew,rw'⟩:=r.get h2
 have hl:=r.length
 have hn:=a0w
 have fin:EP X pins σ Q w s:=⟨z,H,I,rw',q⟩
 by_cases h0:0≤i
 ·have hj:i.toNat=j:=by
   rw[seqIndex_of h0 h5]at h1
   exact qW1 h1
  exact item_listR pl.isList h0 (by omega) (by rw[hj];simpa using ew) fin hs
 ·have hj:(i+(its.toArray.size:Int)).toNat=j:=by
   rw[seqIndex_neg (by omega) h4]at h1
   rw[List.size_toArray,←hl]
   exact qW1 h1
  exact subscriptTail_builtinR (x:=w) pl.isList.typeIs slot_list_getitem.lookup
   (wpAny_getItem_list_neg (Q:=fun r s'=>r=w∧EP X pins σ Q r s') pl.isList (by omega) (by rw[List.size_toArray]<;>omega) (by omega) (by rw[hj];simpa using ew) ⟨rfl,fin⟩) hs
theorem h7:IxR X (b6i X.K):=by
 intro value slice pins s σ H x y v u Q I rx ry h hs
 obtain⟨p,xs,i,z,rfl,rfl,hq,he,q⟩:=h
 cases rx
 obtain⟨t,rfl⟩:=ry
 obtain⟨its,r,pl,hz⟩:=I.tuple hq
 obtain⟨j,h1,h2,h3,h4,h5⟩:=a6A he
 obtain⟨w,ew,rw'⟩:=r.get h2
 have hl:=r.length
 have hn:=a0w
 have fin:EP X pins σ Q w s:=⟨z,H,I,rw',q⟩
 exact subscriptTail_builtinR (x:=w) pl.typeIs slot_tuple_getitem.lookup
  (getItem_tuple (j:=j) (Q:=fun r s'=>r=w∧EP X pins σ Q r s') pl (by omega) (by omega) (by rw[List.size_toArray,←hl];exact h1) (by simpa using ew) ⟨rfl,fin⟩) hs
theorem b1x:IxR X b1y:=by
 intro value slice pins s σ H x y v u Q I rx ry h hs
 obtain⟨z,i,c,rfl,rfl,hz,he,q⟩:=h
 obtain⟨t,rfl⟩:=rx
 obtain⟨t',rfl⟩:=ry
 obtain⟨j,h1,h2,h3,h4,h5⟩:=a6A he
 have hl:z.cps.toList.length=z.length:=by simp[Str.length]
 rw[hl]at h1 h4 h5
 have hn:=a0w
 exact tail_any (typeIs_str s z t) slot_str_getitem.lookup (getItem_str (c:=c) (by
  have e1:decide (i< -(2 ^ 63:Int))=false:=decide_eq_false (by omega)
  have e2:decide (i≥2 ^ 63)=false:=decide_eq_false (by omega)
  rw[e1,e2,Bool.or_false]) (by rw[h1];simpa using h2) ⟨.str ⟨#[c]⟩,H,I.tok _,⟨_,rfl⟩,q⟩) hs
def rIx(K:PySem.W.Frag):R2:=fun x y H Q=>b2h K x y H Q∨b6i K x y H Q∨b1y x y H Q
theorem b8d:IxR X (rIx X.K):=k8.or (h7.or b1x)
theorem a6Q(lo hi:Option Int)(n:Nat):(sliceBounds lo hi none n).1=((HT.V9 n 0 lo:Nat):Int)∧(sliceBounds lo hi none n).2.1=((HT.V9 n n hi:Nat):Int)∧(sliceBounds lo hi none n).2.2=1:=by
 refine⟨?_,?_,rfl⟩
 ·cases lo with
  | none=>simp[sliceBounds,HT.V9]
  | some i=>
   simp only[sliceBounds,HT.V9,Option.getD_none,show(1:Int)>0 by decide,if_true]
   by_cases h:i<0
   ·simp only[h,if_true]<;>omega
   ·simp only[h,if_false]<;>omega
 ·cases hi with
  | none=>simp[sliceBounds,HT.V9]
  | some i=>
   simp only[sliceBounds,HT.V9,Option.getD_none,show(1:Int)>0 by decide,if_true]
   by_cases h:i<0
   ·simp only[h,if_true]<;>omega
   ·simp only[h,if_false]<;>omega
theorem a4G(its:List Value)(lo hi:Option Int):slicePick its.toArray lo hi none=((its.drop (HT.V9 its.length 0 lo)).take (HT.V9 its.length its.length hi-HT.V9 its.length 0 lo)).toArray:=by
 obtain⟨h1,h2,h3⟩:=a6Q lo hi its.toArray.size
 unfold slicePick
 rw[h1,h2,h3]
 simp only[sliceRange_one,pick_run,List.size_toArray]<;>rfl
def b4D(K:PySem.W.Frag):V→Option Int→Option Int→Hp→VK→Prop:=fun x lo hi H Q=>∃a xs,x=.ref a∧d7 K H a xs∧∀p,H p=none→Q (.ref p) (upd H p (.lst (a3e xs lo hi)))
theorem U7:SlR X (b4D X.K):=by
 intro pins s σ H x v vl vu lo hi sl Q I rx hs pl pu h
 obtain⟨a,xs,rfl,hx,q⟩:=h
 cases rx
 obtain⟨its,r,ht,hz⟩:=I.list hx
 have hlen:=r.length
 refine⟨"list",_,slot_list_getitem.lookup,ht.isList.typeIs,?_⟩
 refine wpAny_getItem_list_slice ht.isList hs pl pu .none (by simp) ?_ (by rw[List.size_toArray]<;>omega)
 rw[a4G,←hlen]
 refine⟨.ref s.heap.objs.size,_,I.laid (t':=s.toks) (o:=.lst (a3e xs lo hi)) (fun b ob q=>Heap.get?_push_of_some _ q) (qQ7 _) ?_,rfl,q _ (I.hok.fresh (qQ7 _))⟩
 exact⟨Nat.le_trans (a9S xs lo hi) hz,_,0,(r.drop (HT.V9 xs.length 0 lo)).take (HT.V9 xs.length xs.length hi-HT.V9 xs.length 0 lo),Heap.get?_push_size _ rfl⟩
def V4:V→Bool
 | .non=>true
 | .bl _=>true
 | .int _=>true
 | .str _=>true
 | _=>false
def eqV:V→V→Bool
 | .non,.non=>true
 | .bl a,.bl b=>a==b
 | .bl a,.int b=>(if a then 1 else 0)==b
 | .int a,.bl b=>a==(if b then 1 else 0)
 | .int a,.int b=>a==b
 | .str a,.str b=>a==b
 | _,_=>false
theorem b7x{A:Around}{s:Shared}{y x:V}{u v:Value}(ry:RelV y u)(rx:RelV x v)(fy:V4 y=true)(fx:V4 x=true):SeqAt.EqAt A s u v (eqV y x):=by
 cases y with
 | non=>
  cases ry
  cases x with
  | non=>cases rx;exact SeqAt.EqAt.same _
  | bl b=>cases rx;exact SeqAt.EqAt.none_bool b
  | int b=>obtain⟨t,rfl⟩:=rx;exact SeqAt.EqAt.none_int b t
  | str b=>obtain⟨t,rfl⟩:=rx;exact SeqAt.EqAt.none_str b t
  | _=>exact absurd (show false=true from fx) Bool.false_ne_true
 | bl a=>
  cases ry
  cases x with
  | non=>cases rx;exact SeqAt.EqAt.bool_none a
  | bl b=>cases rx;exact SeqAt.EqAt.bool_bool a b
  | int b=>obtain⟨t,rfl⟩:=rx;exact SeqAt.EqAt.bool_int a b t
  | str b=>obtain⟨t,rfl⟩:=rx;exact SeqAt.EqAt.bool_str a b t
  | _=>exact absurd (show false=true from fx) Bool.false_ne_true
 | int a=>
  obtain⟨t',rfl⟩:=ry
  cases x with
  | non=>cases rx;exact SeqAt.EqAt.int_none a t'
  | bl b=>cases rx;exact SeqAt.EqAt.int_bool a t' b
  | int b=>obtain⟨t,rfl⟩:=rx;exact SeqAt.EqAt.int_int a t' b t
  | str b=>obtain⟨t,rfl⟩:=rx;exact SeqAt.EqAt.int_str a t' b t
  | _=>exact absurd (show false=true from fx) Bool.false_ne_true
 | str a=>
  obtain⟨t',rfl⟩:=ry
  cases x with
  | non=>cases rx;exact SeqAt.EqAt.str_none a t'
  | bl b=>cases rx;exact SeqAt.EqAt.str_bool a t' b
  | int b=>obtain⟨t,rfl⟩:=rx;exact SeqAt.EqAt.str_int a t' b t
  | str b=>obtain⟨t,rfl⟩:=rx;exact SeqAt.EqAt.str_str a t' b t
  | _=>exact absurd (show false=true from fx) Bool.false_ne_true
 | _=>exact absurd (show false=true from fy) Bool.false_ne_true
def eqU(x:V)(u:Value):Bool:=match u with
 | .none=>eqV .non x
 | .bool b=>eqV (.bl b) x
 | .int i _=>eqV (.int i) x
 | .str z _=>eqV (.str z) x
 | _=>false
theorem b7g{x y:V}{u:Value}(r:RelV y u)(f:V4 y=true):eqU x u=eqV y x:=by
 cases y with
 | non=>cases r;rfl
 | bl b=>cases r;rfl
 | int i=>obtain⟨t,rfl⟩:=r;rfl
 | str z=>obtain⟨t,rfl⟩:=r;rfl
 | _=>exact absurd (show false=true from f) Bool.false_ne_true
theorem a6e{x:V}:∀{xs:List V} {us:List Value},j4 xs us→xs.all V4=true→us.any (eqU x)=xs.any fun y=>eqV y x
 | _,_,.nil,_=>rfl
 | y::xs,u::us,.cons r t,f=>by
  rw[List.all_cons,Bool.and_eq_true]at f
  rw[List.any_cons,List.any_cons,b7g r f.1,a6e t f.2]
theorem a3b{A:Around}{s:Shared}{x:V}{v:Value}(rx:RelV x v)(fx:V4 x=true):∀{xs:List V} {us:List Value},j4 xs us→xs.all V4=true→∀u∈us,SeqAt.EqAt A s u v (eqU x u)
 | _,_,.nil,_=>fun u hu=>by cases hu
 | y::xs,u::us,.cons r t,f=>fun u' hu=>by
  rw[List.all_cons,Bool.and_eq_true]at f
  rcases qQ9.mp hu with rfl | hu
  ·rw[b7g r f.1];exact b7x r rx f.1 fx
  ·exact a3b rx fx t f.2 u' hu
def inV(x:V)(xs:List V):Bool:=xs.any fun y=>eqV y x
inductive b1C(K:PySem.W.Frag)(xs:List V)(H:Hp)(Q:VK):Prop
 | mk (p:Addr) (ys:List V) (e:xs=[.ref p]) (s:d7 K H p ys∨i4 K H p ys) (q:Q (.int ys.length) H)
inductive IIs(K:PySem.W.Frag)(neg:Bool)(x y:V)(H:Hp)(Q:VK):Prop
 | mk (p:Addr) (xs:List V) (e:y=.ref p) (s:d7 K H p xs∨i4 K H p xs) (f:V4 x=true) (g:xs.all V4=true) (q:Q (.bl (if neg then !inV x xs else inV x xs)) H)
def rIn(K:PySem.W.Frag)(neg:Bool):R2:=IIs K neg
theorem W2:D5 X (compareOp .In) (rIn X.K false):=by
 intro pins s σ H x y v u Q I rx ry h
 obtain⟨p,xs,rfl,hq,fx,fs,q⟩:=h
 cases ry
 rcases hq with hq | hq
 ·obtain⟨its,r,pl,hz⟩:=I.list hq
  refine SeqAt.in_listAt (eqU x) pl.isList (fun w hw=>a3b rx fx r fs w (by simpa using hw)) ⟨.bl _,H,I,rfl,?_⟩
  rw[show its.toArray.any (eqU x)=its.any (eqU x) by simp,a6e r fs]
  exact q
 ·obtain⟨its,r,pl,hz⟩:=I.tuple hq
  refine SeqAt.in_tupleAt (eqU x) pl (fun w hw=>a3b rx fx r fs w (by simpa using hw)) ⟨.bl _,H,I,rfl,?_⟩
  rw[show its.toArray.any (eqU x)=its.any (eqU x) by simp,a6e r fs]
  exact q
theorem a3a:D5 X (compareOp .NotIn) (rIn X.K true):=by
 intro pins s σ H x y v u Q I rx ry h
 obtain⟨p,xs,rfl,hq,fx,fs,q⟩:=h
 cases ry
 rcases hq with hq | hq
 ·obtain⟨its,r,pl,hz⟩:=I.list hq
  refine SeqAt.notIn_listAt (eqU x) pl.isList (fun w hw=>a3b rx fx r fs w (by simpa using hw)) ⟨.bl _,H,I,rfl,?_⟩
  rw[show its.toArray.any (eqU x)=its.any (eqU x) by simp,a6e r fs]
  exact q
 ·obtain⟨its,r,pl,hz⟩:=I.tuple hq
  refine SeqAt.notIn_tupleAt (eqU x) pl (fun w hw=>a3b rx fx r fs w (by simpa using hw)) ⟨.bl _,H,I,rfl,?_⟩
  rw[show its.toArray.any (eqU x)=its.any (eqU x) by simp,a6e r fs]
  exact q
theorem g9:K8 X (.builtin "len") (b1C X.K):=by
 intro pins s σ H xs us Q I r h
 obtain⟨p,ys,rfl,hq,q⟩:=h
 obtain⟨u,rfl,rx⟩:=vals1 r
 cases rx
 have hn:=a0w
 rcases hq with hq | hq
 ·obtain⟨its,r',pl,hz⟩:=I.list hq
  have hlen:=r'.length
  exact Calls.call_len_list pl.isList (by simp only[List.size_toArray]<;>omega) ⟨.int ys.length,H,I.tok _,⟨s.toks+1,by rw[List.size_toArray,hlen]⟩,q⟩
 ·obtain⟨its,r',pl,hz⟩:=I.tuple hq
  have hlen:=r'.length
  exact len_tuple pl (by simp only[List.size_toArray]<;>omega) ⟨.int ys.length,H,I.tok _,⟨s.toks+1,by rw[List.size_toArray,hlen]⟩,q⟩
theorem S3:K8 X (.type "list") (fun xs H Q=>∃p ys,xs=[.ref p]∧(d7 X.K H p ys∨i4 X.K H p ys)∧∀l,H l=none→Q (.ref l) (upd H l (.lst ys))):=by
 intro pins s σ H xs us Q I r h
 obtain⟨p,ys,rfl,hq,q⟩:=h
 obtain⟨u,rfl,rx⟩:=vals1 r
 cases rx
 have fin:∀(its:List Value),j4 ys its→ys.length≤sizeLine→∀(h':Heap) (c':Nat),(∀b o',s.heap.get? b=some o'→h'.get? b=some o') →
   h'.get? s.heap.objs.size=some { cls:=.type "list",dict:=none,data:=.seq its.toArray c',slots:=#[] }→EP X pins σ Q (.ref s.heap.objs.size) { s with heap:=h' }:=fun its r' hz h' c' kp e=>
  ⟨.ref s.heap.objs.size,_,I.laid (t':=s.toks) kp (qQ7 _) (show z9 X.prog X.w _ h' _ (.lst ys) from⟨hz,its,c',r',e⟩),rfl,q _ (I.hok.fresh (qQ7 _))⟩
 rcases hq with hq | hq
 ·obtain⟨its,r',pl,hz⟩:=I.list hq
  have hlen:=r'.length
  obtain⟨o,ho,hc,n,hd⟩:=pl.isList
  exact call_list_seq p (.inl rfl) ho hc hd (fun h' c' kp e=>fin its r' hz h' c' kp e) (by simp only[List.size_toArray]<;>omega)
 ·obtain⟨its,r',pl,hz⟩:=I.tuple hq
  have hlen:=r'.length
  obtain⟨o,ho,hc,n,hd⟩:=pl
  exact call_list_seq p (.inr rfl) ho hc hd (fun h' c' kp e=>fin its r' hz h' c' kp e) (by simp only[List.size_toArray]<;>omega)
def tyV(K:PySem.W.Frag)(T:String)(x:V)(H:Hp):Prop:=match x with
 | .str _=>T="str"
 | .int _=>T="int"
 | .ref p=>(T="list"∧∃xs,d7 K H p xs)∨(T="tuple"∧∃o,K.lookup p=some o∧o.cls=.type "tuple"∧o.dict=none) ∨
   (T="dict"∧((∃kvs,H p=some (.dK kvs))∨∃kvs,H p=some (.dT kvs)))∨(T="set"∧∃S n,H p=some (.set S n))
 | _=>False
theorem b1b{pins:List (Addr×Obj)}{σ:St}{H:Hp}{s:Shared}{T:String}{x:V}{v:Value}(I:Inv X pins σ H s)(r:RelV x v)(ty:tyV X.K T x H) :
  s.TypeIs v T∧∀a,v=.ref a→∃ob,s.heap.get? a=some ob∧ob.dict=none:=by
 cases x with
 | str z=>
  obtain⟨t,rfl⟩:=r
  cases (show T="str" from ty)
  exact⟨typeIs_str s z t,fun _ e=>nomatch e⟩
 | int i=>
  obtain⟨t,rfl⟩:=r
  cases (show T="int" from ty)
  exact⟨typeIs_int s i t,fun _ e=>nomatch e⟩
 | ref p=>
  cases r
  rcases ty with ⟨rfl,xs,hq⟩ | ⟨rfl,o,hk,hc,hd⟩ | ⟨rfl,hk⟩ | ⟨rfl,S,n,hk⟩
  ·obtain⟨its,_,pl,_⟩:=I.list hq
   refine⟨pl.isList.typeIs,fun a e=>?_⟩
   cases e
   obtain⟨o,n,e,c,hd,_⟩:=pl
   exact⟨o,e,hd⟩
  ·refine⟨⟨o,I.kIn p o hk,hc⟩,fun a e=>?_⟩
   cases e
   exact⟨o,I.kIn _ o hk,hd⟩
  ·have z:∃o,s.heap.get? p=some o∧o.ExactDict:=by
    rcases hk with ⟨kvs,hk⟩ | ⟨kvs,hk⟩
    ·obtain⟨_,_,_,_,o,_,_,e,ex,_⟩:=I.hok p _ hk
     exact⟨o,e,ex⟩
    ·obtain⟨_,_,_,_,o,_,_,e,ex,_⟩:=I.hok p _ hk
     exact⟨o,e,ex⟩
   obtain⟨o,e,ex⟩:=z
   refine⟨⟨o,e,ex.1⟩,fun a e2=>?_⟩
   cases e2
   exact⟨o,e,ex.2.1⟩
  ·obtain⟨o,_,_,_,e,ex,_⟩:=I.hok p _ hk
   refine⟨⟨o,e,ex.1⟩,fun a e2=>?_⟩
   cases e2
   exact⟨o,e,ex.2.1⟩
 | _=>exact False.elim ty
def b8C(K:PySem.W.Frag)(T:String)(r:V→List V→Hp→VK→Prop)(to:TE):TE:=fun σ H Q=>to σ H fun x H1=>tyV K T x H1∧r x [] H1 Q
def tBM(K:PySem.W.Frag)(T:String)(r:V→List V→Hp→VK→Prop)(to:TE)(t:TA):TE:=fun σ H Q=>to σ H fun x H1=>tyV K T x H1∧t σ H1 fun xs H2=>r x xs H2 Q
variable{o e:Expr}{es:List Expr}{to:TE}{t:TA}{name:Str}{apos cpos:Pos}{T id:String}{r:V→List V→Hp→VK→Prop}
theorem a4Q(pa:PlainAttrs T)(slot:Slot T name id)(hty:typeOf (.builtin id)=pure (.type "method_descriptor"))(hm:MtR X id r)(ho:PE X o to)
  (hbase:attributeBase o name X.env (eval o X.env)=eval o X.env:=by rfl) (hline:(apos.endLine==cpos.line)=true:=by rfl):PE X (.Call (.Attribute o name apos) [] [] cpos) (b8C X.K T r to):=by
 intro pins s σ H Q I h
 refine wpAny_Call_method0_late hbase hline (m6 (ho pins s σ H _ I h) fun v s1 ⟨x,H1,I1,r1,ty,q1⟩=>?_)
 obtain⟨h1,h2⟩:=b1b I1 r1 ty
 exact⟨T,id,pa,slot,hty,h1,h2,Calls.callWith_builtin rfl (PySem.evalArgs_none (hm pins s1 σ H1 x [] v [] Q I1 r1 .nil q1))⟩
theorem p8(pa:PlainAttrs T)(slot:Slot T name id)(hty:typeOf (.builtin id)=pure (.type "method_descriptor"))(hm:MtR X id r)(ho:PE X o to)(ha:PA X (e::es) t)
  (hbase:attributeBase o name X.env (eval o X.env)=eval o X.env:=by rfl)
  (hfew:((backTo cpos (starEach (e::es) X.env)).all (fun x=>!x.1)&&(backToKw cpos (keywordEach [] X.env)).all (fun x=>x.1.isSome)
   && decide ((e::es).length+([]:List Keyword).length+(if ([]:List Keyword).isEmpty then 0 else 1)<30))=true:=by rfl)
  (hline:(apos.endLine==cpos.line)=true:=by rfl) (hs:starEach (e::es) X.env=(false,eval e X.env)::starEach es X.env:=by rfl) (hplain:(backTo cpos (starEach es X.env)).any (·.1)=false:=by rfl) :
  PE X (.Call (.Attribute o name apos) (e::es) [] cpos) (tBM X.K T r to t):=by
 intro pins s σ H Q I h
 refine wpAny_Call_method_late hbase hfew hline rfl (m6 (ho pins s σ H _ I h) fun v s1 ⟨x,H1,I1,r1,ty,q1⟩=>?_)
 obtain⟨h1,h2⟩:=b1b I1 r1 ty
 refine⟨T,id,pa,slot,hty,h1,h2,?_⟩
 have hA:=ha cpos pins s1 σ H1 _ I1 q1
 rw[hs]at hA ⊢
 refine Calls.callWith_builtin (by show(false||(backTo cpos (starEach es X.env)).any (·.1))=false;rw[hplain]<;>rfl) (Calls.evalArgs_plain ?_)
 exact m6 hA fun us s2 ⟨vs,H2,I2,r2,q2⟩=>hm pins s2 σ H2 x vs v us Q I2 r1 r2 q2
end
end L2
namespace L2
open PySem PySem.Spec PyProof.Rows
def MtM(X:Cx)(id:String)(r:V→List V→Hp→VK→Prop):Prop:=
 ∀(pins:List (Addr×Obj)) (s:Shared) (σ:St) (H:Hp) (x:V) (xs:List V) (v:Value) (us:List Value) (Q:VK),Inv X pins σ H s→RelV x v→j4 xs us→r x xs H Q →
  wpAny (model X.prog X.w) X.A (call (.builtin id) (v::us)) (EP X pins σ Q) X.xe s
theorem j4.one:∀{x:V} {us:List Value},j4 [x] us→∃u,us=[u]∧RelV x u
 | _,_,.cons r .nil=>⟨_,rfl,r⟩
theorem j4.zero:∀{us:List Value},j4 [] us→us=[]
 | _,.nil=>rfl
theorem j4.dropLast{xs:List V}{us:List Value}(h:j4 xs us):j4 xs.dropLast us.dropLast:=by
 induction h with
 | nil=>exact .nil
 | cons r t ih=>
  cases t with
  | nil=>exact .nil
  | cons q t'=>exact .cons r ih
theorem j4.eraseIdx:∀{xs:List V} {us:List Value} (i:Nat),j4 xs us→j4 (xs.eraseIdx i) (us.eraseIdx i)
 | _,_,_,.nil=>.nil
 | _,_,0,.cons _ t=>t
 | _,_,i+1,.cons r t=>.cons r (j4.eraseIdx i t)
theorem j4.rep{xs:List V}{us:List Value}(h:j4 xs us):∀k:Nat,j4 (List.replicate k xs).flatten (List.replicate k us).flatten
 | 0=>.nil
 | k+1=>by
  rw[List.replicate_succ,List.replicate_succ,List.flatten_cons,List.flatten_cons]
  exact j4.append h (j4.rep h k)
theorem a9Y{α:Type}(l:List α):l.eraseIdx (l.length-1)=l.dropLast:=by
 induction l with
 | nil=>rfl
 | cons a r ih=>
  cases r with
  | nil=>rfl
  | cons b r=>
   have e:(a::b::r).length-1=((b::r).length-1)+1:=by
    have h1:(a::b::r).length=r.length+2:=rfl
    have h2:(b::r).length=r.length+1:=rfl
    omega
   rw[e,List.eraseIdx_cons_succ,ih]
   all_goals rfl
theorem foldl_rep(its:List Value):∀(k:Nat) (acc:List Value),
  List.foldl (fun x1 x2=>x1++x2) acc.toArray (List.replicate k its.toArray)=(acc++(List.replicate k its).flatten).toArray
 | 0,acc=>by simp
 | k+1,acc=>by
  have e:acc.toArray++its.toArray=(acc++its).toArray:=by simp
  have e2:(acc++its)++(List.replicate k its).flatten=acc++(List.replicate (k+1) its).flatten:=by
   rw[List.replicate_succ,List.flatten_cons,List.append_assoc]
  rw[←e2,←foldl_rep its k (acc++its),←e,List.replicate_succ,List.foldl_cons]
section
variable{X:Cx}{pins:List (Addr×Obj)}{σ:St}{H:Hp}{s:Shared}{l b:Addr}{xs ys zs:List V}
theorem Inv.lset{its its':List Value}{n:Nat}{f:Array Value→Array Value}{t':Nat}(I:Inv X pins σ H s)(hH:H l=some (.lst xs))
  (e:s.heap.get? l=some { cls:=.type "list",data:=.seq its.toArray n }) (hf:f its.toArray=its'.toArray) (hv:j4 ys its') (hz:ys.length≤sizeLine) :
  Inv X pins σ (upd H l (.lst ys)) { s with heap:=s.heap.update l (Obj.mapSeq f),toks:=t' }:=by
 have q:=PySem.IsL.update e f
 rw[hf]at q
 refine I.write (x:=l) (e:=l) (by rw[hH];exact trivial) (.inl rfl) (fun b' u hb hu=>(Heap.get?_update_other s.heap (Obj.mapSeq f) (Ne.symm hb)).trans hu) ⟨_,q⟩ ?_
 exact⟨hz,its',_,hv,q⟩
theorem Inv.lnew{its:List Value}{t':Nat}(I:Inv X pins σ H s)(hv:j4 ys its)(hz:ys.length≤sizeLine) :
  Inv X pins σ (upd H s.heap.objs.size (.lst ys)) { s with heap:=s.heap.push { cls:=.type "list",data:=.seq its.toArray },toks:=t' }:=
 I.laid (fun _ _ q=>Heap.get?_push_of_some _ q) (qQ7 _) ⟨hz,its,0,hv,Heap.get?_push_size _ rfl⟩
theorem Inv.fresh(I:Inv X pins σ H s):H s.heap.objs.size=none:=I.hok.fresh (qQ7 _)
theorem Inv.lstM(I:Inv X pins σ H s)(hH:H l=some (.lst xs)):xs.length≤sizeLine∧∃(its:List Value) (n:Nat),j4 xs its∧xs.length=its.length∧s.heap.get? l=some { cls:=.type "list",data:=.seq its.toArray n }:=by
 obtain⟨z,its,n,r,e⟩:=I.hok l _ hH
 exact⟨z,its,n,r,r.length,e⟩
theorem a3M{n:Nat}(h:n≤sizeLine):Builtin.List.listTooLong n=false:=by
 unfold Builtin.List.listTooLong
 exact decide_eq_false (by omega)
end
section
variable{X:Cx}
inductive b0l(x:V)(vs:List V)(H:Hp)(Q:VK):Prop
 | mk (l:Addr) (xs:List V) (y:V) (e1:x=.ref l) (e2:vs=[y]) (h:H l=some (.lst xs)) (z:xs.length<sizeLine) (q:Q .non (upd H l (.lst (xs++[y]))))
def b5r:V→List V→Hp→VK→Prop:=b0l
theorem m7:MtM X "list.append" b5r:=by
 intro pins s σ H x vs v us Q I rx rv h
 obtain⟨l,xs,y,rfl,rfl,hH,hz,q⟩:=h
 cases rx
 obtain⟨u,rfl,ru⟩:=rv.one
 obtain⟨z,its,n,r,hl,e⟩:=I.lstM hH
 refine call_meets F.slot_list_append ⟨_,e,rfl⟩ F.entry_list_append (F.args_list_append_2 _ _) (PySem.list_append l its.toArray n u (by rw[List.size_toArray];omega)) ⟨e,?_⟩
 refine⟨.non,_,I.lset (its':=its++[u]) hH e (by simp) (r.append (.cons ru .nil)) ?_,rfl,q⟩
 rw[qQ4,List.length_singleton]
 omega
def b6q:V→List V→Hp→VK→Prop:=fun x vs H Q=>∃l b xs zs,x=.ref l∧vs=[.ref b]∧H l=some (.lst xs)∧H b=some (.lst zs)∧xs.length+zs.length≤sizeLine∧Q .non (upd H l (.lst (xs++zs)))
theorem W1:MtM X "list.extend" b6q:=by
 intro pins s σ H x vs v us Q I rx rv h
 obtain⟨l,b,xs,zs,rfl,rfl,hH,hB,hz,q⟩:=h
 cases rx
 obtain⟨u,rfl,ru⟩:=rv.one
 cases ru
 obtain⟨z,its,n,r,hl,e⟩:=I.lstM hH
 obtain⟨z2,its2,n2,r2,hl2,e2⟩:=I.lstM hB
 have hsz:its.toArray.size+its2.toArray.size≤sizeLine:=by rw[List.size_toArray,List.size_toArray];omega
 have hlong:¬(!its.toArray.isEmpty&&Builtin.List.listTooLong (its.toArray.size+its2.toArray.size))=true:=by
  rw[a3M hsz,Bool.and_false]
  exact Bool.false_ne_true
 refine call_meets F.slot_list_extend ⟨_,e,rfl⟩ F.entry_list_extend (F.args_list_extend_2 _ _)
  (AutoSeq1.list_extend_list_list_0 l its.toArray n b its2.toArray n2 hlong (by rw[List.size_toArray];omega) (by omega)) ⟨e,e2,?_⟩
 refine⟨.non,_,I.lset (its':=its++its2) hH e (by simp) (r.append r2) ?_,rfl,q⟩
 rw[qQ4]
 omega
def b6A:V→List V→Hp→VK→Prop:=fun x vs H Q=>∃l xs y,x=.ref l∧vs=[]∧H l=some (.lst xs)∧xs[xs.length-1]?=some y∧Q y (upd H l (.lst xs.dropLast))
theorem b4g:MtM X "list.pop" b6A:=by
 intro pins s σ H x vs v us Q I rx rv h
 obtain⟨l,xs,y,rfl,rfl,hH,hy,q⟩:=h
 cases rx
 have hus:=rv.zero
 subst hus
 obtain⟨z,its,n,r,hl,e⟩:=I.lstM hH
 obtain⟨u,hu,ru⟩:=r.get hy
 have hy':its.toArray[its.toArray.size-1]?=some u:=by
  show its.toArray[its.length-1]?=some u
  rw[←Array.getElem?_toList,←hl]
  exact hu
 refine call_meets F.slot_list_pop ⟨_,e,rfl⟩ F.entry_list_pop (F.args_list_pop_1 _) (MeetsSeq.list_pop_last l its.toArray n u hy' (by rw[List.size_toArray];omega)) ⟨e,?_⟩
 refine⟨y,_,I.lset (its':=its.dropLast) hH e ?_ r.dropLast ?_,ru,q⟩
 ·show its.toArray.eraseIdxIfInBounds (its.toArray.size-1)=its.dropLast.toArray
  rw[List.size_toArray,List.eraseIdxIfInBounds_toArray,a9Y]
 ·rw[List.length_dropLast]
  omega
def b9C:R2:=fun x y H Q=>∃l b xs zs,x=.ref l∧y=.ref b∧H l=some (.lst xs)∧H b=some (.lst zs)∧xs.length+zs.length≤sizeLine∧∀p,H p=none→Q (.ref p) (upd H p (.lst (xs++zs)))
theorem a3c:D5 X (binaryOp .Add) b9C:=by
 intro pins s σ H x y v u Q I rx ry h
 obtain⟨l,b,xs,zs,rfl,rfl,hH,hB,hz,q⟩:=h
 cases rx
 cases ry
 obtain⟨z,its,n,r,hl,e⟩:=I.lstM hH
 obtain⟨z2,its2,n2,r2,hl2,e2⟩:=I.lstM hB
 refine PySem.P.add_list e e2 ?_ (by rw[List.size_toArray,List.size_toArray];omega)
 have ea:its.toArray++its2.toArray=(its++its2).toArray:=by simp
 rw[ea]
 exact⟨.ref _,_,I.lnew (t':=s.toks) (r.append r2) (by rw[qQ4];omega),rfl,q _ I.fresh⟩
def b5B:R2:=fun x y H Q=>∃l k xs,x=.ref l∧y=.int k∧H l=some (.lst xs)∧-(2 ^ 63)≤k∧k<2 ^ 63∧xs.length*k.toNat≤sizeLine ∧
 ∀p,H p=none→Q (.ref p) (upd H p (.lst (List.replicate k.toNat xs).flatten))
theorem len_rep{α:Type}(xs:List α)(k:Nat):(List.replicate k xs).flatten.length=k*xs.length:=by
 induction k with
 | zero=>simp
 | succ k ih=>rw[List.replicate_succ,List.flatten_cons,qQ4,ih,Nat.succ_mul,Nat.add_comm]
theorem b7u:D5 X (binaryOp .Mult) b5B:=by
 intro pins s σ H x y v u Q I rx ry h
 obtain⟨l,k,xs,rfl,rfl,hH,h1,h2,hz,q⟩:=h
 cases rx
 obtain⟨t,rfl⟩:=ry
 obtain⟨z,its,n,r,hl,e⟩:=I.lstM hH
 have hlen:its.toArray.size*k.toNat≤sizeLine:=by rw[List.size_toArray,←hl];exact hz
 have hcap:¬its.toArray.size*k.toNat>(2 ^ 63-1)/8:=by
  have:(sizeLine:Nat)≤(2 ^ 63-1)/8:=by decide
  omega
 have hfit:¬(!Builtin.List.listFitsIndex k)=true:=by
  rw[fitsIndex_both h1 h2]
  exact Bool.false_ne_true
 have hlong:¬Builtin.List.listTooLong (its.toArray.size*k.toNat)=true:=by
  rw[a3M hlen]
  exact Bool.false_ne_true
 have hnew:List.foldl (fun x1 x2=>x1++x2) #[] (List.replicate (if its.toArray.isEmpty=true then 0 else k.toNat) its.toArray)=(List.replicate k.toNat its).flatten.toArray:=by
  have f0:∀m:Nat,List.foldl (fun x1 x2=>x1++x2) #[] (List.replicate m its.toArray)=(List.replicate m its).flatten.toArray:=fun m=>by
   have:=foldl_rep its m []
   rw[List.nil_append]at this
   exact this
  rw[f0]
  cases its with
  | nil=>simp
  | cons a r'=>rw[if_neg (by simp)]
 refine wpAny_binaryOp_repeat_ref (T:="list") (U:="int") (by decide) ⟨_,e,rfl⟩ (fun s'=>typeIs_int s' k t) noFill_list_mul F.fills_int_mul F.slot_int_rmul repeat_list F.slot_int_index.lookup
  (call_meets F.slot_int_rmul (typeIs_int s k t) F.entry_int_rmul (F.args_int_rmul_2 _ _) (int___rmul___int_list k t l its.toArray n)
   ⟨e,rfl,⟨_,e,rfl⟩,call_meets F.slot_list_mul ⟨_,e,rfl⟩ F.entry_list_mul (F.args_list_mul_2 _ _) (AutoListH.list___mul___list_int_3 l its.toArray n k t hfit hcap hlong) ⟨e,?_⟩⟩)
 rw[hnew]
 exact⟨.ref _,_,I.lnew (t':=s.toks) (r.rep k.toNat) (by rw[len_rep,Nat.mul_comm];exact hz),rfl,q _ I.fresh⟩
end
section
variable{prog:Program}{w:World}{A:Around}{E:Value→Shared→Prop}{s:Shared}
end
section
variable{X:Cx}
end
end L2
namespace L2
open PySem PySem.Spec PyProof.Rows
section
variable{κ:Type}[DecidableEq κ]
def A3(kvs:List (κ×V))(k:κ):Option V:=(kvs.find? fun kv=>decide (kv.1=k)).map (·.2)
def putK(kvs:List (κ×V))(k:κ)(v:V):List (κ×V):=
 if (kvs.any fun kv=>decide (kv.1=k))=true then kvs.map (fun kv=>if kv.1=k then(kv.1,v) else kv) else kvs++[(k,v)]
def F7(kvs:List (κ×V))(k:κ):List (κ×V):=kvs.filter fun kv=>decide (kv.1≠k)
theorem G8{p:κ×V}{r:List (κ×V)}{k:κ}(e:p.1=k):A3 (p::r) k=some p.2:=by simp[A3,List.find?_cons,e]
theorem J6{p:κ×V}{r:List (κ×V)}{k:κ}(e:¬p.1=k):A3 (p::r) k=A3 r k:=by simp[A3,List.find?_cons,e]
theorem a6g(k:κ):∀kvs:List (κ×V),(kvs.any fun kv=>decide (kv.1=k))=(A3 kvs k).isSome
 | []=>rfl
 | p::r=>by
  rw[List.any_cons]
  by_cases e:p.1=k
  ·simp only[G8 e,decide_eq_true e,Bool.true_or,Option.isSome_some]
  ·rw[J6 e,decide_eq_false e,Bool.false_or];exact a6g k r
theorem a1O(k j:κ)(y:V):∀kvs:List (κ×V),A3 (kvs.map fun kv=>if kv.1=k then(kv.1,y) else kv) j=(A3 kvs j).map fun x=>if j=k then y else x
 | []=>rfl
 | p::r=>by
  have ih:=a1O k j y r
  rw[List.map_cons]
  by_cases h:p.1=k
  ·rw[if_pos h]
   by_cases e:p.1=j
   ·rw[G8 (p:=(p.1,y)) e,G8 e,Option.map_some,if_pos (e.symm.trans h)]
   ·rw[J6 (p:=(p.1,y)) e,J6 e,ih]
  ·rw[if_neg h]
   by_cases e:p.1=j
   ·rw[G8 (p:=p) e,G8 e,Option.map_some,if_neg (fun z=>h (e.trans z))]
   ·rw[J6 (p:=p) e,J6 e,ih]
theorem a0F(k j:κ)(y:V):∀kvs:List (κ×V),A3 kvs k=none→A3 (kvs++[(k,y)]) j=if j=k then some y else A3 kvs j
 | [],_=>by
  by_cases e:k=j
  ·rw[if_pos e.symm];exact G8 (p:=(k,y)) e
  ·rw[if_neg (fun z=>e z.symm)];exact J6 (p:=(k,y)) e
 | p::r,hn=>by
  rw[List.cons_append]
  have hk:¬p.1=k:=fun z=>by rw[G8 z]at hn;cases hn
  rw[J6 hk]at hn
  have ih:=a0F k j y r hn
  by_cases e:p.1=j
  ·rw[G8 e,G8 e,if_neg (fun z=>hk (e.trans z))]
  ·rw[J6 e,J6 e,ih]
theorem b6n(kvs:List (κ×V))(k j:κ)(y:V):A3 (putK kvs k y) j=if j=k then some y else A3 kvs j:=by
 unfold putK
 by_cases a:(kvs.any fun kv=>decide (kv.1=k))=true
 ·rw[if_pos a,a1O]
  rw[a6g]at a
  by_cases e:j=k
  ·obtain⟨x,hx⟩:=Option.isSome_iff_exists.mp a
   rw[if_pos e,e,hx,Option.map_some,if_pos rfl]
  ·rw[if_neg e]
   cases A3 kvs j with
   | none=>rfl
   | some x=>rw[Option.map_some,if_neg e]
 ·rw[if_neg a]
  refine a0F k j y kvs ?_
  rw[a6g]at a
  cases q:A3 kvs k with
  | none=>rfl
  | some x=>rw[q]at a;exact(a rfl).elim
theorem V8(kvs:List (κ×V))(k:κ)(v:V):(putK kvs k v).length≤kvs.length+1:=by
 unfold putK
 split
 ·rw[qQ0];omega
 ·rw[qQ4,List.length_cons,List.length_nil];omega
theorem N1.isSome_eq{o:Option V}{u:Option Value}(r:N1 o u):o.isSome=u.isSome:=by
 cases o with
 | none=>cases u with
  | none=>rfl
  | some _=>exact(show False from r).elim
 | some _=>cases u with
  | none=>exact(show False from r).elim
  | some _=>rfl
theorem N1.getD{o:Option V}{u:Option Value}{d:V}{d':Value}(r:N1 o u)(rd:RelV d d'):RelV (o.getD d) (u.getD d'):=by
 cases o with
 | none=>cases u with
  | none=>exact rd
  | some _=>exact(show False from r).elim
 | some _=>cases u with
  | none=>exact(show False from r).elim
  | some _=>exact r
theorem KV.val{kvs:List (κ×V)}{vs:List (κ×Value)}(r:KV kvs vs)(k:κ):N1 (A3 kvs k) (valueAt vs k):=by
 unfold KV at r
 induction r with
 | nil=>exact True.intro
 | @cons p q ps qs h t ih=>
  obtain⟨h1,h2⟩:=h
  by_cases e:p.1=k
  ·have e':q.1=k:=h1.symm.trans e
   have b:valueAt (q::qs) k=some q.2:=by simp[valueAt,List.find?_cons,e']
   rw[G8 e,b];exact h2
  ·have e':¬q.1=k:=fun z=>e (h1.trans z)
   have b:valueAt (q::qs) k=valueAt qs k:=by simp[valueAt,List.find?_cons,e']
   rw[J6 e,b];exact ih
theorem KV.any{kvs:List (κ×V)}{vs:List (κ×Value)}(r:KV kvs vs)(k:κ):(kvs.any fun kv=>decide (kv.1=k))=vs.any fun kv=>decide (kv.1=k):=by
 unfold KV at r
 induction r with
 | nil=>rfl
 | cons h t ih=>rw[List.any_cons,List.any_cons,ih,h.1]
theorem KV.repl{kvs:List (κ×V)}{vs:List (κ×Value)}(r:KV kvs vs)(k:κ){y:V}{u:Value}(ry:RelV y u) :
  KV (kvs.map fun kv=>if kv.1=k then(kv.1,y) else kv) (vs.map fun kv=>if kv.1=k then(kv.1,u) else kv):=by
 unfold KV at r ⊢
 induction r with
 | nil=>exact .nil
 | @cons p q ps qs h t ih=>
  rw[List.map_cons,List.map_cons]
  refine .cons ?_ ih
  obtain⟨h1,h2⟩:=h
  by_cases e:p.1=k
  ·rw[if_pos e,if_pos (h1.symm.trans e)];exact⟨h1,ry⟩
  ·rw[if_neg e,if_neg (fun z=>e (h1.trans z))];exact⟨h1,h2⟩
theorem KV.put{kvs:List (κ×V)}{vs:List (κ×Value)}(r:KV kvs vs)(k:κ){y:V}{u:Value}(ry:RelV y u):KV (putK kvs k y) (stored vs k u):=by
 unfold putK stored
 rw[r.any k]
 by_cases e:(vs.any fun kv=>decide (kv.1=k))=true
 ·rw[if_pos e,if_pos e];exact r.repl k ry
 ·rw[if_neg e,if_neg e];exact Paired.snoc r ⟨rfl,ry⟩
theorem KV.drop{kvs:List (κ×V)}{vs:List (κ×Value)}(r:KV kvs vs)(k:κ):KV (F7 kvs k) (without vs k):=by
 unfold KV at r ⊢
 unfold F7 without
 induction r with
 | nil=>exact .nil
 | @cons p q ps qs h t ih=>
  obtain⟨h1,h2⟩:=h
  rw[List.filter_cons,List.filter_cons]
  by_cases e:p.1=k
  ·have a:¬decide (p.1≠k)=true:=by simp[e]
   have b:¬decide (q.1≠k)=true:=by simp[h1.symm.trans e]
   rw[if_neg a,if_neg b];exact ih
  ·have e':¬q.1=k:=fun z=>e (h1.trans z)
   have a:decide (p.1≠k)=true:=by simp[e]
   have b:decide (q.1≠k)=true:=by simp[e']
   rw[if_pos a,if_pos b];exact .cons ⟨h1,h2⟩ ih
theorem KV.keys{kvs:List (κ×V)}{vs:List (κ×Value)}(r:KV kvs vs):kvs.map (·.1)=vs.map (·.1):=by
 unfold KV at r
 induction r with
 | nil=>rfl
 | cons h t ih=>rw[List.map_cons,List.map_cons,ih,h.1]
theorem KV.length{kvs:List (κ×V)}{vs:List (κ×Value)}(r:KV kvs vs):kvs.length=vs.length:=Paired.length r
theorem a8P(kvs:List (κ×V))(k:κ):(F7 kvs k).length≤kvs.length:=List.length_filter_le _ _
end
theorem Y7{P:Program}{w:World}{k:Key}{u:Value}(r:RelV (kV k) u):(p7 P w).is k u=true:=by
 cases k with
 | inl i=>obtain⟨t,e⟩:=(show ∃t,u=Value.int i t from r);subst e;exact a6S P w i t
 | inr x=>obtain⟨t,e⟩:=(show ∃t,u=Value.str x t from r);subst e;exact a2R P w x t
theorem a1E{P:Program}{w:World}:∀{ks:List Key} {us:List Value},j4 (ks.map kV) us→ItemsAre (p7 P w) ks us
 | [],_,r=>by rw[List.map_nil]at r;cases r;exact .nil
 | k::ks,_,r=>by
  rw[List.map_cons]at r
  cases r with
  | cons h t=>exact .cons (Y7 h) (a1E t)
abbrev KT(H:Hp):List (List Key×V)→List (List Key×Addr×Value)→Prop:=Paired fun p q=>p.1=q.1∧H q.2.1=some (.tup (p.1.map kV))∧RelV p.2 q.2.2
theorem KT.val{H:Hp}{kvs:List (List Key×V)}{xs:List (List Key×Addr×Value)}(r:KT H kvs xs)(k:List Key):N1 (A3 kvs k) ((atKey xs k).map (·.2)):=by
 induction r with
 | nil=>exact True.intro
 | @cons p q ps qs h t ih=>
  obtain⟨h1,_,h2⟩:=h
  by_cases e:p.1=k
  ·have e':q.1=k:=h1.symm.trans e
   have b:atKey (q::qs) k=some q.2:=by simp[atKey,List.find?_cons,e']
   rw[G8 e,b];exact h2
  ·have e':¬q.1=k:=fun z=>e (h1.trans z)
   have b:atKey (q::qs) k=atKey qs k:=by simp[atKey,List.find?_cons,e']
   rw[J6 e,b];exact ih
theorem KT.repl{H:Hp}{kvs:List (List Key×V)}{xs:List (List Key×Addr×Value)}(r:KT H kvs xs)(k:List Key){y:V}{u:Value}(ry:RelV y u) :
  KT H (kvs.map fun kv=>if kv.1=k then(kv.1,y) else kv) (xs.map (putAt k u)):=by
 induction r with
 | nil=>exact .nil
 | @cons p q ps qs h t ih=>
  rw[List.map_cons,List.map_cons]
  refine .cons ?_ ih
  obtain⟨h1,h2,h3⟩:=h
  unfold putAt
  by_cases e:p.1=k
  ·rw[if_pos e,if_pos (h1.symm.trans e)];exact⟨h1,h2,ry⟩
  ·rw[if_neg e,if_neg (fun z=>e (h1.trans z))];exact⟨h1,h2,h3⟩
theorem KT.put{H:Hp}{kvs:List (List Key×V)}{xs:List (List Key×Addr×Value)}(r:KT H kvs xs)(k:List Key){b:Addr}{y:V}{u:Value}(hb:H b=some (.tup (k.map kV)))(ry:RelV y u) :
  KT H (putK kvs k y) (storedH xs k b u):=by
 have e:(kvs.any fun kv=>decide (kv.1=k))=(atKey xs k).isSome:=by
  rw[a6g,(r.val k).isSome_eq,Option.isSome_map]
 unfold putK storedH
 rw[e]
 by_cases q:(atKey xs k).isSome=true
 ·rw[if_pos q,if_pos q];exact r.repl k ry
 ·rw[if_neg q,if_neg q];exact Paired.snoc r ⟨rfl,hb,ry⟩
theorem KT.keeps{H H':Hp}{kvs:List (List Key×V)}{xs:List (List Key×Addr×Value)}(r:KT H kvs xs)(ht:∀b ys,H b=some (.tup ys)→H' b=some (.tup ys)):KT H' kvs xs:=
 Paired.mapP r fun _ _ z=>⟨z.1,ht _ _ z.2.1,z.2.2⟩
section
variable{P:Program}{w:World}{H:Hp}{h:Heap}{a:Addr}
theorem b9p{u:HO}(ok:J4 P w H h)(e:Rd H a u):z9 P w H h a u:=e.ok ok
theorem V6{kvs:List (Key×V)}(ok:J4 P w H h)(e:Rd H a (.dK kvs)):kvs.length≤sizeLine∧(a==sysModules)=false∧∃vs,KV kvs vs∧h.DictOf (p7 P w) a vs:=
 show z9 P w H h a (.dK kvs) from b9p ok e
theorem Y8{kvs:List (Key×V)}(ok:J4 P w H h)(e:H a=some (.dK kvs)):kvs.length≤sizeLine∧(a==sysModules)=false∧∃vs,KV kvs vs∧h.DictOf (p7 P w) a vs:=V6 ok (.inl e)
theorem a7e{ks:List Key}(ok:J4 P w H h)(e:H a=some (.tup (ks.map kV))):(tupleKind (p7 P w)).is h ks a:=by
 obtain⟨_,its,r,o,h1,h2,n,h3⟩:=(show z9 P w H h a (.tup (ks.map kV)) from ok a _ e)
 exact⟨o,its.toArray,n,h1,h2,h3,by simpa using a1E r⟩
theorem a3h{kvs:List (List Key×V)}(ok:J4 P w H h)(e:Rd H a (.dT kvs)):kvs.length≤sizeLine∧(a==sysModules)=false ∧
  ∃xs,KT H kvs xs∧h.DictOfH (tupleKind (p7 P w)) a xs:=by
 obtain⟨z,y,xs,r,o,es,ep,h1,h2,h3,h4,h5⟩:=(show z9 P w H h a (.dT kvs) from b9p ok e)
 refine⟨z,y,xs,r,o,es,ep,h1,h2,h3,h4,fun x hx=>?_,h5⟩
 have all:∀{l:List (List Key×V)} {m:List (List Key×Addr×Value)},KT H l m→∀x∈m,(tupleKind (p7 P w)).is h x.1 x.2.1:=by
  intro l m q
  induction q with
  | nil=>intro x hx;exact nomatch hx
  | @cons p q ps qs hq t ih=>
   intro x hx
   rcases qQ9.mp hx with e | hx
   ·subst e
    exact a7e ok (by rw[←hq.1];exact hq.2.1)
   ·exact ih x hx
 exact all r x hx
theorem b5z{kvs:List (List Key×V)}(ok:J4 P w H h)(e:H a=some (.dT kvs)):kvs.length≤sizeLine∧(a==sysModules)=false ∧
  ∃xs,KT H kvs xs∧h.DictOfH (tupleKind (p7 P w)) a xs:=a3h ok (.inl e)
end
def t9(H:Hp)(a:Addr)(y:V)(r:Option V):Prop:=
 (∃kvs k,Rd H a (.dK kvs)∧y=kV k∧r=A3 kvs k)∨∃kvs k b,Rd H a (.dT kvs)∧y=.ref b∧H b=some (.tup (k.map kV))∧r=A3 kvs k
def M5(H:Hp)(a:Addr)(y v:V)(H':Hp):Prop:=
 (∃kvs k,H a=some (.dK kvs)∧y=kV k∧kvs.length<sizeLine∧H'=upd H a (.dK (putK kvs k v))) ∨
 ∃kvs k b,H a=some (.dT kvs)∧y=.ref b∧H b=some (.tup (k.map kV))∧kvs.length<sizeLine∧H'=upd H a (.dT (putK kvs k v))
theorem t9.k{H:Hp}{a:Addr}{kvs:List (Key×V)}{k:Key}(e:H a=some (.dK kvs)):t9 H a (kV k) (A3 kvs k):=.inl ⟨kvs,k,.inl e,rfl,rfl⟩
theorem t9.t{H:Hp}{a b:Addr}{kvs:List (List Key×V)}{k:List Key}(e:H a=some (.dT kvs))(eb:H b=some (.tup (k.map kV))):t9 H a (.ref b) (A3 kvs k):=.inr ⟨kvs,k,b,.inl e,rfl,eb,rfl⟩
theorem M5.k{H:Hp}{a:Addr}{kvs:List (Key×V)}{k:Key}{v:V}(e:H a=some (.dK kvs))(hl:kvs.length<sizeLine):M5 H a (kV k) v (upd H a (.dK (putK kvs k v))):=.inl ⟨kvs,k,e,rfl,hl,rfl⟩
theorem M5.t{H:Hp}{a b:Addr}{kvs:List (List Key×V)}{k:List Key}{v:V}(e:H a=some (.dT kvs))(eb:H b=some (.tup (k.map kV)))(hl:kvs.length<sizeLine) :
  M5 H a (.ref b) v (upd H a (.dT (putK kvs k v))):=.inr ⟨kvs,k,b,e,rfl,eb,hl,rfl⟩
section
variable{X:Cx}{pins:List (Addr×Obj)}{σ:St}{H:Hp}{s:Shared}{a:Addr}{y v:V}{u r:Value}{o:Option V}{A:Around}{E:Value→Shared→Prop}
theorem Inv.big(I:Inv X pins σ H s):sysModules<s.heap.objs.size:=by
 have h:mainGlobals<s.heap.objs.size:=(I.mod.glob.keeps I.bk).lt
 exact Nat.lt_trans (by decide) h
theorem b1g{Q:Value→Shared→Prop}(hu:A.units+1<cLine)(I:Inv X pins σ H s)(g:t9 H a y (some v))(ry:RelV y u)(h:∀w' s',Inv X pins σ H s'→RelV v w'→Q w' s') :
  wpAny (model X.prog X.w) A (getItem (.ref a) u) Q E s:=by
 rcases g with ⟨kvs,k,e,ey,l⟩ | ⟨kvs,k,b,e,ey,eb,l⟩
 ·subst ey
  obtain⟨z,hd,vs,rel,dd⟩:=V6 I.hok e
  obtain⟨w',hw,rw'⟩:=N1.some_of (v:=v) (o:=valueAt vs k) (by rw[l];exact rel.val k)
  exact wpAny_getItem_of (Y7 ry) dd.mapOf hw (h w' _ (I.tok _) rw')
 ·subst ey
  cases (show u=Value.ref b from ry)
  obtain⟨z,hd,xs,rel,dd⟩:=a3h I.hok e
  obtain⟨w',hw,rw'⟩:=N1.some_of (v:=v) (o:=(atKey xs k).map (·.2)) (by rw[l];exact rel.val k)
  obtain⟨p,hp,hp2⟩:=Option.map_eq_some_iff.mp hw
  refine wpAny_getItem_heap (tupleKind_room_in1 hu) (a7e I.hok eb) dd hp ?_
  rw[hp2]
  exact h w' _ (I.tok _) rw'
theorem b0D{Q:Value→Shared→Prop}(hu:A.units+1<cLine)(I:Inv X pins σ H s)(g:t9 H a y o)(ry:RelV y u)(h:∀s',Inv X pins σ H s'→Q (.bool o.isSome) s') :
  wpAny (model X.prog X.w) A (compareOp .In u (.ref a)) Q E s:=by
 rcases g with ⟨kvs,k,e,ey,l⟩ | ⟨kvs,k,b,e,ey,eb,l⟩
 ·subst ey
  obtain⟨z,hd,vs,rel,dd⟩:=V6 I.hok e
  refine wpAny_in_of (Y7 ry) hd dd.mapOf ?_
  rw[←(rel.val k).isSome_eq,←l]
  exact h _ (I.tok _)
 ·subst ey
  cases (show u=Value.ref b from ry)
  obtain⟨z,hd,xs,rel,dd⟩:=a3h I.hok e
  refine wpAny_in_heap (tupleKind_room_in1 hu) (a7e I.hok eb) hd dd ?_
  have q:=(rel.val k).isSome_eq
  rw[Option.isSome_map]at q
  rw[←q,←l]
  exact h _ (I.tok _)
theorem b8q{Q:Value→Shared→Prop}(hu:A.units+1<cLine)(I:Inv X pins σ H s)(g:t9 H a y o)(ry:RelV y u)(h:∀s',Inv X pins σ H s'→Q (.bool (!o.isSome)) s') :
  wpAny (model X.prog X.w) A (compareOp .NotIn u (.ref a)) Q E s:=by
 rcases g with ⟨kvs,k,e,ey,l⟩ | ⟨kvs,k,b,e,ey,eb,l⟩
 ·subst ey
  obtain⟨z,hd,vs,rel,dd⟩:=V6 I.hok e
  refine wpAny_notIn_of (Y7 ry) hd dd.mapOf ?_
  rw[←(rel.val k).isSome_eq,←l]
  exact h _ (I.tok _)
 ·subst ey
  cases (show u=Value.ref b from ry)
  obtain⟨z,hd,xs,rel,dd⟩:=a3h I.hok e
  refine wpAny_notIn_heap (tupleKind_room_in1 hu) (a7e I.hok eb) hd dd ?_
  have q:=(rel.val k).isSome_eq
  rw[Option.isSome_map]at q
  rw[←q,←l]
  exact h _ (I.tok _)
theorem Z6{h':Heap}{t':Nat}{ob:HO}(I:Inv X pins σ H s)(mu:Mut (H a))(hs:Heap.SameBut a s.heap h')(he:∃q,h'.get? a=some q)(new:z9 X.prog X.w (upd H a ob) h' a ob) :
  Inv X pins σ (upd H a ob) { s with heap:=h',toks:=t' }:=
 I.write (x:=a) (e:=a) mu (.inl rfl) (fun b q hb z=>(hs.2 b hb).trans z) he new
theorem a8l{P:Program}{w:World}{H':Hp}{h':Heap}{kvs:List (Key×V)}{vs:List (Key×Value)}(z:kvs.length≤sizeLine)(hd:(a==sysModules)=false)(rel:KV kvs vs)(dd:h'.DictOf (p7 P w) a vs) :
  z9 P w H' h' a (.dK kvs):=⟨z,hd,vs,rel,dd⟩
theorem b7d{H':Hp}{Q:Unit→Shared→Prop}(hu:A.units+1<cLine)(I:Inv X pins σ H s)(g:M5 H a y v H')(ry:RelV y u)(rv:RelV v r)(h:∀s',Inv X pins σ H' s'→Q () s') :
  wpAny (model X.prog X.w) A (setItem (.ref a) u r) Q E s:=by
 rcases g with ⟨kvs,k,e,ey,l,eH⟩ | ⟨kvs,k,b,e,ey,eb,l,eH⟩
 ·subst ey eH
  obtain⟨z,hd,vs,rel,dd⟩:=Y8 I.hok e
  have hz:vs.length≤sizeLine:=by rw[←rel.length];exact z
  have hl:(putK kvs k v).length≤sizeLine:=by have:=V8 kvs k v;omega
  refine wpAny_setItem_pairs (hsz:=hz) (Y7 ry) dd fun h' dd' hs=>h _ ?_
  have he:∃q,h'.get? a=some q:=let ⟨q,_,_,hq,_⟩:=dd';⟨q,hq⟩
  exact Z6 I (by rw[e];exact True.intro) hs he (a8l hl hd (rel.put k rv) dd')
 ·subst ey eH
  cases (show u=Value.ref b from ry)
  obtain⟨z,hd,xs,rel,dd⟩:=b5z I.hok e
  have hz:xs.length≤sizeLine:=by rw[←Paired.length rel];exact z
  have hl:(putK kvs k v).length≤sizeLine:=by have:=V8 kvs k v;omega
  refine wpAny_setItem_heap (hsz:=hz) (tupleKind_room_in1 hu) (a7e I.hok eb) dd fun h' dd' hs=>h _ ?_
  obtain⟨q,es,ep,hq,h2,h3,h4,_,h5⟩:=dd'
  refine Z6 I (by rw[e];exact True.intro) hs ⟨q,hq⟩ ⟨hl,hd,_,(rel.put k eb rv).keeps fun c ys ec=>?_,q,es,ep,hq,h2,h3,h4,h5⟩
  rw[b7 (a7v ec e (fun z=>nomatch z))]
  exact ec
end
section
variable{X:Cx}{pins:List (Addr×Obj)}{σ:St}{H:Hp}{s:Shared}{a:Addr}{kvs:List (Key×V)}{k:Key}{u:Value}{A:Around}{E:Value→Shared→Prop}
theorem b4A{Q:Unit→Shared→Prop}(I:Inv X pins σ H s)(e:H a=some (.dK kvs))(ry:RelV (kV k) u)(l:(A3 kvs k).isSome=true)(h:∀s',Inv X pins σ (upd H a (.dK (F7 kvs k))) s'→Q () s') :
  wpAny (model X.prog X.w) A (delItem (.ref a) u) Q E s:=by
 obtain⟨z,hd,vs,rel,dd⟩:=Y8 I.hok e
 refine wpAny_delItem_slot dd.typeIs (by decide) PySem.F.slot_dict_delitem
  (call_meetsIn PySem.F.slot_dict_delitem dd.typeIs PySem.F.entry_dict_delitem (PySem.F.args_dict_delitem_2 _ _) (meets_dict_delitem_pairs (p7 X.prog X.w) a (Y7 ry)) ⟨vs,dd,by rw[←rel.length];exact z,by rw[←(rel.val k).isSome_eq];exact l,fun h' dd' hs=>h _ ?_⟩)
 have he:∃q,h'.get? a=some q:=let ⟨q,_,_,hq,_⟩:=dd';⟨q,hq⟩
 exact Z6 I (by rw[e];exact True.intro) hs he (a8l (Nat.le_trans (a8P kvs k) z) hd (rel.drop k) dd')
theorem b5y{v:V}{more:List Value}{Q:Value→Shared→Prop}(I:Inv X pins σ H s)(e:H a=some (.dK kvs))(ry:RelV (kV k) u)(l:A3 kvs k=some v)(hm:more=[]∨∃x,more=[x])
  (h:∀w' s',Inv X pins σ (upd H a (.dK (F7 kvs k))) s'→RelV v w'→Q w' s'):wpAny (model X.prog X.w) A (call (.builtin "dict.pop") (.ref a::u::more)) Q E s:=by
 obtain⟨z,hd,vs,rel,dd⟩:=Y8 I.hok e
 obtain⟨w',hw,rw'⟩:=N1.some_of (v:=v) (o:=valueAt vs k) (by rw[←l];exact rel.val k)
 have hp:(keyPart u).isSome=true:=by
  cases k with
  | inl i=>obtain⟨t,q⟩:=(show ∃t,u=Value.int i t from ry);subst q;rfl
  | inr x=>obtain⟨t,q⟩:=(show ∃t,u=Value.str x t from ry);subst q;rfl
 have ha:argsOk "dict.pop" ⟨.ref a::u::more,[]⟩:=by
  rcases hm with q | ⟨x,q⟩
  ·subst q;exact PySem.F.args_dict_pop_2 _ _
  ·subst q;exact PySem.F.args_dict_pop_3 _ _ _
 refine call_meetsIn PySem.F.slot_dict_pop dd.typeIs PySem.F.entry_dict_pop ha (meets_dict_pop_there (p7 X.prog X.w) a (Y7 ry) more hm hp)
  ⟨vs,w',dd,by rw[←rel.length];exact z,hw,fun h' dd' hs=>h w' _ ?_ rw'⟩
 have he:∃q,h'.get? a=some q:=let ⟨q,_,_,hq,_⟩:=dd';⟨q,hq⟩
 exact Z6 I (by rw[e];exact True.intro) hs he (a8l (Nat.le_trans (a8P kvs k) z) hd (rel.drop k) dd')
theorem b6z{Q:Value→Shared→Prop}(I:Inv X pins σ H s)(e:Rd H a (.dK kvs))(h:∀t s',Inv X pins σ H s'→Q (.int kvs.length t) s'):wpAny (model X.prog X.w) A (call (.builtin "len") [.ref a]) Q E s:=by
 obtain⟨z,hd,vs,rel,dd⟩:=V6 I.hok e
 refine call_len_dict hd dd (by rw[←rel.length];rw[sizeLine_eq]at z;omega) ?_
 rw[←rel.length]
 exact h _ _ (I.tok _)
end
def b0y(i:Expr):Prop:=∀ov iv,subscripted i false ov iv=operate [ov,iv] (getItem ov iv)
theorem b1u{prog:Program}{w:World}{A:Around}{E:Value→Shared→Prop}{s:Shared}{env:Env}{value slice:Expr}{pos:Pos}{T id:String}{Q:Value→Shared→Prop}
  (hl:typeLookup (.type T) "__getitem__"=pure (some (.builtin id))) (hs:b0y slice)
  (h:wpAny (model prog w) A (eval value env) (fun o s₁=>wpAny (model prog w) A (eval slice env) (fun i s₂=>s₂.TypeIs o T∧wpAny (model prog w) A (getItem o i) Q E s₂) E s₁) E s) :
  wpAny (model prog w) A (eval (.Subscript value slice pos) env) Q E s:=by
 refine Subscript_ (wpAny_mono h (fun o s₁ h₁=>wpAny_mono h₁ (fun i s₂ h₂=>?_) fun _ _ x=>x) fun _ _ x=>x)
 obtain⟨hT,h₂⟩:=h₂
 unfold subscriptTail
 refine wpAny_bind ?_
 rw[getitemInPython_of_ne hT.not_modules]
 refine wpAny_bind (wpAny_specialOf hT hl ?_)
 have fin:wpAny (model prog w) A (subscripted slice false o i) (fun r s₃=>wpAny (model prog w) A (letTemporaryGo value o r >>= fun _=>pure r) Q E s₃) E s₂:=by
  rw[hs o i]
  exact wpAny_operating (wpAny_mono h₂ (fun r s₃ h₃=>wpAny_bind (wpAny_letTemporaryGo (wpAny_pure h₃))) fun _ _ x=>x)
 first
  | exact wpAny_pure (wpAny_bind fin)
  | exact wpAny_bind (wpAny_pure (wpAny_bind fin))
  | exact wpAny_bind fin
theorem a6R{X:Cx}{pins:List (Addr×Obj)}{σ:St}{H:Hp}{s:Shared}{a:Addr}{y:V}{o:Option V}(I:Inv X pins σ H s)(g:t9 H a y o):s.TypeIs (.ref a) "dict":=by
 rcases g with ⟨kvs,k,e,_,_⟩ | ⟨kvs,k,b,e,_,_,_⟩
 ·obtain⟨_,_,vs,_,dd⟩:=V6 I.hok e
  exact dd.typeIs
 ·obtain⟨_,_,xs,_,dd⟩:=a3h I.hok e
  exact dd.typeIs
inductive IDg(x y:V)(H:Hp)(Q:VK):Prop
 | mk (a:Addr) (v:V) (e:x=.ref a) (g:t9 H a y (some v)) (q:Q v H)
def b9y(td ty:TE):TE:=fun σ H Q=>td σ H fun x H1=>ty σ H1 fun y H2=>IDg x y H2 Q
def b8z(td ty tv:TE):TS:=fun D σ H=>tv σ H fun v H1=>td σ H1 fun x H2=>ty σ H2 fun y H3=>∃a H4,x=.ref a∧M5 H3 a y v H4∧D.nx σ H4
section
variable{X:Cx}{o i e value:Expr}{pos pos' tpos:Pos}{td ty tv:TE}
theorem u4(hu:X.A.units+1<cLine)(ho:PE X o td)(hi:PE X i ty)(hs:b0y i):PE X (.Subscript o i pos) (b9y td ty):=by
 intro pins s σ H Q I h
 refine b1u PySem.F.slot_dict_getitem.lookup hs (m6 (ho pins s σ H _ I h) fun u s1 ⟨x,H1,I1,rx,q1⟩=>m6 (hi pins s1 σ H1 _ I1 q1) fun iv s2 ⟨y,H2,I2,ry,a,v,ex,g,q2⟩=>?_)
 subst ex
 obtain rfl:u=Value.ref a:=rx
 exact⟨a6R I2 g,b1g hu I2 g ry fun w' s3 I3 rw'=>⟨v,H2,I3,rw',q2⟩⟩
theorem F6(hu:X.A.units+1<cLine)(ho:PE X o td)(hi:PE X i ty)(hv:PE X value tv)(hs:swapsWith value (some (.Subscript o i pos')) pos.line X.env=pure false) :
  PS X (.Assign [.Subscript o i pos'] value pos) (b8z td ty tv):=by
 intro pins s σ H D I h
 refine wpAny_Assign_Subscript (m6 (hv pins s σ H _ I h) fun r s1 ⟨v,H1,I1,rv,q1⟩=>m6 (ho pins s1 σ H1 _ I1 q1) fun u s2 ⟨x,H2,I2,rx,q2⟩=>m6 (hi pins s2 σ H2 _ I2 q2) fun iv s3 ⟨y,H3,I3,ry,a,H4,ex,g,q3⟩=>?_) hs
 subst ex
 obtain rfl:u=Value.ref a:=rx
 exact b7d hu I3 g ry rv fun s4 I4=>⟨σ,H4,I4,q3⟩
end
theorem b5o{P:Program}{w:World}{H:Hp}(h:Heap)(hb:sysModules<h.objs.size):z9 P w H (h.push { cls:=.type "dict",data:=.dict #[] }) h.objs.size (.dK []):=
 ⟨Nat.zero_le _,beq_eq_false_iff_ne.mpr (Ne.symm (Nat.ne_of_lt hb)),[],.nil,Heap.DictOf.new h⟩
def b6v:TE:=fun _ H Q=>∀p,H p=none→Q (.ref p) (upd H p (.dK []))
section
variable{X:Cx}{pos:Pos}
theorem C3:PE X (.Dict [] [] pos) b6v:=fun pins s σ H Q I h=>
 wpAny_Dict_empty ⟨.ref s.heap.objs.size,_,I.laid (a:=s.heap.objs.size) (o:=.dK []) (t':=s.toks) (fun _ _ q=>Heap.get?_push_of_some _ q) (qQ7 _) (b5o s.heap I.big),rfl,h _ (I.hok.fresh (qQ7 _))⟩
end
def a5b(kvs more:List (Key×V)):List (Key×V):=more.foldl (fun acc kv=>putK acc kv.1 kv.2) kvs
theorem KV.merge:∀{more:List (Key×V)} {rs:List (Key×Value)} {kvs:List (Key×V)} {vs:List (Key×Value)},KV more rs→KV kvs vs→KV (a5b kvs more) (merged vs rs):=by
 intro more rs kvs vs r
 unfold KV at r
 induction r generalizing kvs vs with
 | nil=>intro q;exact q
 | @cons p q ps qs h t ih=>
  intro r0
  have e:KV (putK kvs p.1 p.2) (stored vs q.1 q.2):=by
   have:=r0.put p.1 h.2
   rw[←h.1];exact this
  exact ih e
theorem a0j:∀(more kvs:List (Key×V)),(a5b kvs more).length≤kvs.length+more.length
 | [],kvs=>by show kvs.length≤kvs.length+0;omega
 | p::r,kvs=>by
  have h1:=a0j r (putK kvs p.1 p.2)
  have h2:=V8 kvs p.1 p.2
  show(a5b (putK kvs p.1 p.2) r).length≤_
  rw[List.length_cons];omega
structure M1(X:Cx)(o:Expr)(m:Str)(apos:Pos)(e:Expr)(cpos:Pos):Prop where
 base:attributeBase o m X.env (eval o X.env)=eval o X.env
 few:((backTo cpos (starEach [e] X.env)).all (fun x=>!x.1)&&(backToKw cpos (keywordEach [] X.env)).all (fun x=>x.1.isSome)
  && decide (([e]:List Expr).length+([]:List Keyword).length+(if ([]:List Keyword).isEmpty then 0 else 1)<30))=true
 line:(apos.endLine==cpos.line)=true
 trees:backTo cpos (starEach [e] X.env)=[(false,eval e X.env)]
structure M2(X:Cx)(o:Expr)(m:Str)(apos:Pos)(e f:Expr)(cpos:Pos):Prop where
 base:attributeBase o m X.env (eval o X.env)=eval o X.env
 few:((backTo cpos (starEach [e,f] X.env)).all (fun x=>!x.1)&&(backToKw cpos (keywordEach [] X.env)).all (fun x=>x.1.isSome)
  && decide (([e,f]:List Expr).length+([]:List Keyword).length+(if ([]:List Keyword).isEmpty then 0 else 1)<30))=true
 line:(apos.endLine==cpos.line)=true
 trees:backTo cpos (starEach [e,f] X.env)=[(false,eval e X.env),(false,eval f X.env)]
def IsD(H:Hp)(a:Addr):Prop:=(∃kvs,Rd H a (.dK kvs))∨∃kvs,Rd H a (.dT kvs)
theorem a7k{X:Cx}{pins:List (Addr×Obj)}{σ:St}{H:Hp}{s:Shared}{a:Addr}(I:Inv X pins σ H s)(d:IsD H a) :
  s.TypeIs (.ref a) "dict"∧(∀b,Value.ref a=.ref b→∃ob,s.heap.get? b=some ob∧ob.dict=none)∧(a==sysModules)=false:=by
 rcases d with ⟨kvs,e⟩ | ⟨kvs,e⟩
 ·obtain⟨_,hd,vs,_,dd⟩:=V6 I.hok e
  refine⟨dd.typeIs,fun b q=>?_,hd⟩
  cases q
  obtain⟨ob,_,_,h1,h2,_⟩:=dd
  exact⟨ob,h1,h2.2.1⟩
 ·obtain⟨_,hd,xs,_,dd⟩:=a3h I.hok e
  refine⟨dd.typeIs,fun b q=>?_,hd⟩
  cases q
  obtain⟨ob,_,_,h1,h2,_⟩:=dd
  exact⟨ob,h1,h2.2.1⟩
section
variable{X:Cx}{pins:List (Addr×Obj)}{σ:St}{H:Hp}{s:Shared}{a:Addr}{y d:V}{u r:Value}{o:Option V}{A:Around}{E:Value→Shared→Prop}
theorem b0x{Q:Value→Shared→Prop}(hu:A.units+1<cLine)(I:Inv X pins σ H s)(g:t9 H a y o)(ry:RelV y u)(rd:RelV d r)(h:∀w' s',Inv X pins σ H s'→RelV (o.getD d) w'→Q w' s') :
  wpAny (model X.prog X.w) A (call (.builtin "dict.get") [.ref a,u,r]) Q E s:=by
 rcases g with ⟨kvs,k,e,ey,l⟩ | ⟨kvs,k,b,e,ey,eb,l⟩
 ·subst ey
  obtain⟨z,hd,vs,rel,dd⟩:=V6 I.hok e
  refine call_meetsIn PySem.F.slot_dict_get dd.typeIs PySem.F.entry_dict_get (PySem.F.args_dict_get_3 _ _ _) (meets_dict_get_default (p7 X.prog X.w) a (Y7 ry) hd r) ⟨_,dd.mapOf,h _ _ (I.tok _) ?_⟩
  rw[l]
  exact(rel.val k).getD rd
 ·subst ey
  cases (show u=Value.ref b from ry)
  obtain⟨z,hd,xs,rel,dd⟩:=a3h I.hok e
  refine call_meetsIn PySem.F.slot_dict_get dd.typeIs PySem.F.entry_dict_get (PySem.F.args_dict_get_3 _ _ _) (meetsH_dict_get_default (tupleKind (p7 X.prog X.w)) a b hd r) ⟨tupleKind_room_in1 hu,k,xs,a7e I.hok eb,dd,h _ _ (I.tok _) ?_⟩
  rw[l]
  exact(rel.val k).getD rd
end
def b7w(td ty tx:TE):TE:=fun σ H Q=>td σ H fun x H1=>∃a,x=.ref a∧IsD H1 a∧ty σ H1 fun y H2=>tx σ H2 fun z H3=>∃o,t9 H3 a y o∧Q (o.getD z) H3
def b8v(td ty:TE):TE:=fun σ H Q=>td σ H fun x H1=>∃a,x=.ref a∧IsD H1 a∧ty σ H1 fun y H2=>∃kvs k v,H2 a=some (.dK kvs)∧y=kV k∧A3 kvs k=some v∧Q v (upd H2 a (.dK (F7 kvs k)))
section
variable{X:Cx}{o e f:Expr}{apos cpos:Pos}{td ty tx:TE}
theorem a4s(hu:X.A.units+1<cLine)(ho:PE X o td)(he:PE X e ty)(hf:PE X f tx)(m:M2 X o "get" apos e f cpos):PE X (.Call (.Attribute o "get" apos) [e,f] [] cpos) (b7w td ty tx):=by
 intro pins s σ H Q I h
 refine wpAny_Call_method m.base m.few m.line PySem.F.plainAttrs_dict PySem.F.slot_dict_get PySem.F.type_dict_get (m6 (ho pins s σ H _ I h) fun u s1 ⟨x,H1,I1,rx,a,ex,d,q1⟩=>?_)
 subst ex
 obtain rfl:u=Value.ref a:=rx
 obtain⟨t1,t2,_⟩:=a7k I1 d
 refine⟨t1,t2,?_⟩
 rw[m.trees]
 refine Calls.callWith_builtin rfl (Calls.evalArgs_plain (Calls.spliced_cons (m6 (he pins s1 σ H1 _ I1 q1) fun iv s2 ⟨y,H2,I2,ry,q2⟩=>
  Calls.spliced_cons (m6 (hf pins s2 σ H2 _ I2 q2) fun fv s3 ⟨z,H3,I3,rz,ov,g,q3⟩=>Calls.spliced_nil ?_))))
 exact b0x hu I3 g ry rz fun w' s4 I4 rw'=>⟨_,H3,I4,rw',q3⟩
theorem a2g(ho:PE X o td)(he:PE X e ty)(m:M1 X o "pop" apos e cpos):PE X (.Call (.Attribute o "pop" apos) [e] [] cpos) (b8v td ty):=by
 intro pins s σ H Q I h
 refine wpAny_Call_method m.base m.few m.line PySem.F.plainAttrs_dict PySem.F.slot_dict_pop PySem.F.type_dict_pop (m6 (ho pins s σ H _ I h) fun u s1 ⟨x,H1,I1,rx,a,ex,d,q1⟩=>?_)
 subst ex
 obtain rfl:u=Value.ref a:=rx
 obtain⟨t1,t2,_⟩:=a7k I1 d
 refine⟨t1,t2,?_⟩
 rw[m.trees]
 refine Calls.callWith_builtin rfl (Calls.evalArgs_plain (Calls.spliced_cons (m6 (he pins s1 σ H1 _ I1 q1) fun iv s2 ⟨y,H2,I2,ry,kvs,k,v,ea,ey,l,q2⟩=>Calls.spliced_nil ?_)))
 subst ey
 exact b5y I2 ea ry l (.inl rfl) fun w' s3 I3 rw'=>⟨v,_,I3,rw',q2⟩
end
section
variable{X:Cx}{pins:List (Addr×Obj)}{σ:St}{H:Hp}{s:Shared}{a:Addr}{kvs:List (Key×V)}{A:Around}{E:Value→Shared→Prop}
end
section
variable{X:Cx}{pins:List (Addr×Obj)}{σ:St}{H:Hp}{s:Shared}{a:Addr}{y:V}{u:Value}{A:Around}{E:Value→Shared→Prop}
end
end L2
namespace Att
open PySem PySem.W PySem.Calls PyProof.Rows
theorem a9x{P:Params}{h:Heap}:∀(ns:List Int) (vs:List Value),WellAll P h vs (ns.map WData.int)→IntsAre vs ns:=by
 intro ns
 induction ns with
 | nil=>
  intro vs w
  rw[List.map_nil]at w
  cases w
  exact .nil
 | cons n ns ih=>
  intro vs w
  rw[List.map_cons]at w
  cases w with
  | cons a b=>
   cases a
   exact .cons _ _ (ih _ b)
theorem b2d{l:OpenLaw}{n:Nat}(hn:l.most=some n){P:Params}{h:Heap}{args:List WData}{vals:List Value}
  (hpre:l.row.toRowW.claim.pre args=true) (hwl:WellAll P h vals args) :
  ∃a vs ns,vals=[Value.ref a]∧args=[WData.list (ns.map WData.int)]∧h.get? a=some { cls:=.type "list",data:=.seq vs.toArray }∧IntsAre vs ns∧ns.length≤n:=by
 have hsh:WShape.hasAll [] args [.list .int]=true:=(pre_splitW hpre).1
 have hc:l.pre.holds [] { args:=args }=true:=(pre_splitW hpre).2
 obtain⟨d,r,rfl,h1,h2⟩:=hasAllW_cons hsh
 obtain rfl:=hasAllW_nil h2
 obtain⟨xs,rfl,h3⟩:=hasW_list h1
 obtain⟨ns,rfl⟩:=items_int h3
 have hlen:ns.length≤n:=by
  unfold OpenLaw.pre at hc
  have h4:(WTm.not (.lt (.lit (.int (n:Int))) (.len (.arg 0)))).holds [] { args:=[.list (ns.map .int)] }=true:=by
   have h4:=(holds_andW hc).1
   rw[hn]at h4
   exact h4
  have h5:=condW_of h4 (w_not (w_lt w_lit (w_len_list (w_arg rfl))))
  rw[qQ0]at h5
  refine Nat.le_of_not_lt fun q=>?_
  have q':(n:Int)<((ns.length:Nat):Int):=by omega
  first
   | (rw[decide_eq_true q']at h5;exact absurd h5 (by decide))
   | (simp at h5;omega)
 cases hwl with
 | cons w1 w2=>
  cases w2
  cases w1 with
  | list ho hall=>exact⟨_,_,ns,rfl,rfl,ho,a9x ns _ hall,hlen⟩
theorem b5a(l:OpenLaw)(args:List WData):l.row.toRowW.claim.post args (.bool true) args=true:=
 postW_of (r:=l.row.toRowW) (X:=(true==true))
  (show WShape.has [] (.bool true) .bool=true by first | rfl | decide | simp[WShape.has,WShape.arms,WShape.armsAll])
  (show(WTm.eq .res (.lit (.bool true))).value [] { args:=args,res:=some (.bool true),after:=args }=some (.bool (true==true)) from w_eq_bool (w_res rfl) w_lit) rfl
theorem a8R{l:OpenLaw}{n:Nat}{q:Program}{loose:List Str}{XP:(Str→Option Value)→Heap→Prop}{YP:World→Heap→Prop}{d:DefRec}
  (hn:l.most=some n) (hdf:d.params.defaults=[])
  (call:∀(w:World) (s₀ s₁:Shared) (mg mb:Str→Option Value) (fa:Addr) (o:Obj) (pm cd doc:Value) (a:Addr) (vs:List Value) (ns:List Int),
   Ground q loose [] XP w s₀ mg mb s₁.heap→YP w s₁.heap →
   s₁.heap.get? fa=some o→o.data=.func (docDef d.name d.params d.body d.scope pm cd doc)→s₁.heap.CodeRec cd d.name→mg d.name=some (.ref fa) →
   s₁.heap.get? a=some { cls:=.type "list",data:=.seq vs.toArray }→IntsAre vs ns→ns.length≤n→s₁.gens=#[] →
   codeAny (model l.prog w) callerA (.call (.ref fa) ⟨[.ref a],[]⟩) (fun r s'=>r=.ok (.ret (.bool true))∧OldK s₁.heap s'.heap∧s'.os=s₁.os∧AllBare s'.gens) s₁) :
  WalkO q loose XP YP l.row.toRowW d [] (fun f vs=>PySem.call f vs):=by
 intro w s₀ s₁ mg mb G Y fa o pm cd doc dV kV ho hd hcd hD hmg hg args vals as hpre hlay hrd hwl hlo
 obtain rfl:dV=.none:=Dflts.none hD hdf
 obtain rfl:kV=.none:=Dflts.noKw hD
 obtain⟨a,vs,ns,rfl,rfl,hobj,hints,hlen⟩:=b2d hn hpre hwl
 refine enter_call (codeAny_mono (call w s₀ s₁ mg mb fa o pm cd doc a vs ns G Y ho (fd_plain hd) hcd hmg hobj hints hlen hg) fun r s' hq=>?_)
 obtain⟨rfl,h2,h3,h4⟩:=hq
 exact⟨.inl ⟨.bool true,.bool true,[],rfl,fun _=>rfl,.bool true,b5a l _,fun _=>⟨List.Pairwise.nil,fun _ hm=>(nomatch hm)⟩⟩,h2,h3,h4⟩
section
variable{prog:Program}{w:World}{A:Around}{E:Value→Shared→Prop}{s:Shared}{K:Frag}
end
end Att
namespace L2
open PySem PySem.Spec PyProof.Rows
theorem a0E:∀{vs:List Value} {ns:List Int},IntsAre vs ns→j4 (ns.map V.int) vs
 | _,_,.nil=>.nil
 | _,_,.cons n t h=>.cons ⟨t,rfl⟩ (a0E h)
def b0n(H:Hp):Prop:=∀b,H b=none∨∃o xs,H b=some (.frz o (.lst xs))
theorem b7k{P:Program}{w:World}{K:PySem.W.Frag}{mg mb:Str→Option Value}{CX:CXT}{k:Nat}{fa a:Addr}{fd:FuncData}{x:Str}{sp:Sp}{s₁:Shared}{vs:List Value}{ns:List Int}
  (KX:K.In s₁.heap) (hns:s₁.heap.Ns mainGlobals mg) (hb:s₁.heap.Ns builtinsNs mb) (hbb:∀x:Str,x≠"__name__"→mb x=bootBuiltins x) (hlim:s₁.heap.NoLimit) (hg:s₁.gens=#[])
  (ha:s₁.heap.get? a=some { cls:=.type "list",data:=.seq vs.toArray }) (hi:IntsAre vs ns) (hl:ns.length≤sizeLine) (hr:D8 k callerA)
  (F:∀base:Heap,K.In base→base.Ns mainGlobals mg→g8 P w K mg base CX k fa fd [x] sp) (hbind:∀(s:Shared) (u:Value),BindsTo s fd ⟨[u],[]⟩ [(x,u)])
  (hsp:∀H:Hp,b0n H→d7 K H a (ns.map V.int)→sp [.ref a] H (fun v _=>v=.bl true) fun _ _ _=>False)
  (hCX:∀H e s',CX [] H s₁ (fun _ _ _=>False) e s'→False) :
  codeAny (model P w) callerA (.call (.ref fa) ⟨[.ref a],[]⟩) (fun r s'=>r=.ok (.ret (.bool true))∧OldK s₁.heap s'.heap∧s'.os=s₁.os∧AllBare s'.gens) s₁:=by
 have rv:=a0E hi
 have lenV:=hi.length
 have core:∀H:Hp,b0n H→d7 K H a (ns.map V.int)→J4 P w H s₁.heap→(∀b,H b≠none→b=a)→(H a≠none→K.lookup a=none) →
   codeAny (model P w) callerA (.call (.ref fa) ⟨[.ref a],[]⟩) (fun r s'=>r=.ok (.ret (.bool true))∧OldK s₁.heap s'.heap∧s'.os=s₁.os∧AllBare s'.gens) s₁:=by
  intro H hO hS hok hA hK
  have base_of:∀{b:Addr} {o:Obj},s₁.heap.get? b=some o→H b=none→(a0i s₁.heap H).get? b=some o:=fun e n=>b4k e n
  have noA:∀{b:Addr} {o:Obj} {es:Array DictEntry} {ep:Nat},s₁.heap.get? b=some o→o.data=.dict es ep→H b=none:=fun {b o es ep} e d=>by
   cases q:H b with
   | none=>rfl
   | some u=>
    have e':b=a:=hA b (by rw[q];simp)
    subst e'
    rw[ha]at e;cases e
    have d':Data.seq vs.toArray _=Data.dict es ep:=d
    cases d'
  have nsK:∀{b:Addr} {m:Str→Option Value},s₁.heap.Ns b m→(a0i s₁.heap H).Ns b m:=fun {b m} ⟨o,es,ep,e,d,r⟩=>⟨o,es,ep,base_of e (noA e d),d,r⟩
  have hKb:K.In (a0i s₁.heap H):=fun b o e=>base_of (KX b o e) (by
   cases q:H b with
   | none=>rfl
   | some u=>
    have e':b=a:=hA b (by rw[q];simp)
    subst e'
    rw[hK (by rw[q];simp)] at e;cases e)
  have hM:Mod K mg (a0i s₁.heap H):=⟨hKb,nsK hns,⟨mb,nsK hb,hbb⟩,let ⟨mc,h1,h2⟩:=hlim;⟨mc,nsK h1,h2⟩⟩
  have e0:a1s P w K mg (a0i s₁.heap H) callerA [] s₁ H:=⟨rfl,hM,fun b o e=>b7r e,Nat.le_of_eq (b5c _ _),trivial,fun b hb=>absurd (show b∈([]:List Addr) from hb) (by simp),hok,.of_eq hg⟩
  refine codeAny_mono ((F _ hKb (nsK hns)).run callerA [] s₁ H ⟨[.ref a],[]⟩ [.ref a] [.ref a] _ _ hr e0 (hbind s₁ (.ref a)) (.cons rfl .nil) (hsp H hO hS)) fun r s' h=>?_
  cases r with
  | error e=>exact(hCX H e s' h).elim
  | ok fl=>
   cases fl with
   | next=>exact False.elim h
   | brk=>exact False.elim h
   | cont=>exact False.elim h
   | ret u=>
    obtain⟨v,H',os,bare,un,hok',r',q⟩:=h
    have q':v=.bl true:=q
    subst q'
    obtain rfl:u=Value.bool true:=r'
    refine⟨rfl,OldK.of_keep fun b o e=>?_,os,bare⟩
    cases q:H b with
    | none=>exact un.keep b o e q (by intro z;exact absurd (show b∈([]:List Addr) from z) (by simp)) (by simp)
    | some u=>
     rcases hO b with z | ⟨ob,xs,z⟩
     ·rw[q]at z;cases z
     ·have z2:=un.frzs b ob _ z
      obtain⟨e1,_⟩:=hok b _ z
      obtain⟨e2,_⟩:=hok' b _ z2
      rw[e]at e1;cases e1
      exact e2
 cases hk:K.lookup a with
 | some o=>
  have e:=KX a o hk
  rw[ha]at e
  cases e
  refine core (fun _=>none) (fun _=>.inl rfl) (.inr ⟨_,vs.toArray,_,hk,rfl,rfl,rfl,by rw[List.size_toArray,lenV];exact hl,by simpa using rv⟩) (fun b u z=>by have z':(none:Option HO)=some u:=z;cases z') (fun b z=>absurd rfl z) fun z=>absurd rfl z
 | none=>
  refine core (fun b=>if b=a then some (.frz { cls:=.type "list",data:=.seq vs.toArray } (.lst (ns.map V.int))) else none) (fun b=>?_) (.inl (.inr ⟨{ cls:=.type "list",data:=.seq vs.toArray },if_pos rfl⟩)) (fun b u z=>?_) (fun b z=>?_) fun _=>hk
  ·by_cases hb:b=a
   ·exact .inr ⟨_,_,if_pos hb⟩
   ·exact .inl (if_neg hb)
  ·by_cases hb:b=a
   ·have z':=(if_pos hb).symm.trans z
    cases z'
    subst hb
    exact⟨ha,by rw[qQ0];exact hl,vs,_,rv,ha⟩
   ·have z':=(if_neg hb).symm.trans z
    cases z'
  ·by_cases hb:b=a
   ·exact hb
   ·exact absurd (if_neg hb) z
end L2
namespace L2
open PySem PySem.Spec PyProof.Rows
theorem b8r{l:PySem.W.OpenLaw}{n k:Nat}{q:Program}{loose:List Str}{XP:(Str→Option Value)→Heap→Prop}{YP:World→Heap→Prop}{d:DefRec}{K:Params→PySem.W.Frag}{CX:World→CXT}{sp:World→Sp}{x:Str}
  (hn:l.most=some n) (hn2:n≤sizeLine) (hdf:d.params.defaults=[]) (hr:D8 k callerA)
  (hY:∀(w:World) (h:Heap),YP w h→(K w.params).In h)
  (F:∀(w:World) (mg:Str→Option Value) (fa:Addr) (h:Heap),(K w.params).In h→h.Ns mainGlobals mg→mg d.name=some (.ref fa) →
   ∃fd:FuncData,(∀(s:Shared) (u:Value),BindsTo s fd ⟨[u],[]⟩ [(x,u)]) ∧
    ∀base:Heap,(K w.params).In base→base.Ns mainGlobals mg→g8 l.prog w (K w.params) mg base (CX w) k fa fd [x] (sp w))
  (hsp:∀(w:World) (H:Hp) (a:Addr) (ns:List Int),ns.length≤n→b0n H→d7 (K w.params) H a (ns.map V.int)→sp w [.ref a] H (fun v _=>v=.bl true) fun _ _ _=>False)
  (hCX:∀(w:World) (H:Hp) (s:Shared) (e:Value) (s':Shared),CX w [] H s (fun _ _ _=>False) e s'→False) :
  PySem.W.WalkO q loose XP YP l.row.toRowW d [] (fun f vs=>PySem.call f vs):=by
 refine Att.a8R hn hdf fun w s₀ s₁ mg mb fa o pm cd doc a vs ns G Y ho hd hcd hmg hobj hints hlen hg=>?_
 have KX:=hY w _ Y
 obtain⟨fd,hb,hF⟩:=F w mg fa _ KX G.T.g hmg
 exact b7k KX G.T.g G.T.b G.T.builtins G.T.nolimit hg hobj hints (Nat.le_trans hlen hn2) hr hF hb (fun H hO hS=>hsp w H a ns hlen hO hS) fun H e s'=>hCX w H s₁ e s'
end L2
namespace L2
open PySem PySem.Spec PyProof.Rows
abbrev x9:CXT:=fun _ _ _ _ _ _=>False
abbrev E0:XK:=fun _ _ _=>False
theorem l4{X:Cx}:W6 x9 X E0:=fun _ _ _ _ _ _ _ h=>h.elim
structure Fun(K:PySem.W.Frag)(x qual:Str)(st:Stmt)(f:Addr)(fd:FuncData):Prop where
 ex:∃(oc:Value) (od:Option Addr) (kV doc pm:Value) (an:Option Addr) (cdv ct:Value) (osl:Array (Option Value)),
  fd=PySem.W.fnOf x qual (Z8 st) (T7 st) (i6 st) .none kV doc pm an cdv ct∧K.lookup f=some ⟨oc,od,.func fd,osl⟩∧PySem.W.codeIn K cdv qual=true
 kp:PySem.W.keepIn K (.ref f)=true
section
variable{P:Program}{w:World}{K:PySem.W.Frag}{mg:Str→Option Value}{base:Heap}
theorem Fun.ok{x qual:Str}{st:Stmt}{f:Addr}{fd:FuncData}{N ps:List Str}{k:Nat}{sp:Sp}(F:Fun K x qual st f fd)(S:j8 N ps (i6 st))(len:∀vs H Q E,sp vs H Q E→vs.length=ps.length)
  (hbody:∀(cdv:Value) (A:Around) (outer:List Env) (s:Shared) (H:Hp) (vs:List V) (Q:VK) (E:XK),D8 k (A.deeper (envOfC qual (i6 st) s.heap.objs.size f cdv))→sp vs H Q E →
   ∃t,PSs (a8C x9 P w K mg base N qual (i6 st) f cdv A outer s H E).nox (T7 st) t∧t { nx:=fun _ H'=>Q .non H',rt:=Q } (start N vs) H):g8 P w K mg base x9 (k+1) f fd ps sp:=by
 obtain⟨oc,od,kV,doc,pm,an,cdv,ct,osl,rfl,lk,hcd⟩:=F.ex
 refine b1z lk hcd S len fun A outer s H vs Q E hr hsp=>?_
 obtain⟨t,h,q⟩:=hbody cdv A outer s H vs Q E hr hsp
 exact⟨t,h.nox,q⟩
theorem b5v{x qual:Str}{st:Stmt}{f:Addr}{oc:Value}{od an:Option Addr}{osl:Array (Option Value)}{kV doc pm cdv ct:Value}(l:K.lookup f=some ⟨oc,od,.func (PySem.W.fnOf x qual (Z8 st) (T7 st) (i6 st) .none kV doc pm an cdv ct),osl⟩)
  (c:PySem.W.codeIn K cdv qual=true) (k:PySem.W.keepIn K (.ref f)=true):Fun K x qual st f (PySem.W.fnOf x qual (Z8 st) (T7 st) (i6 st) .none kV doc pm an cdv ct):=⟨⟨oc,od,kV,doc,pm,an,cdv,ct,osl,rfl,l,c⟩,k⟩
end
theorem K9{A:Around}{k:Nat}(hr:D8 k A):A.units+1<cLine:=Nat.lt_of_le_of_lt (Nat.add_le_add_left (by decide:1≤64) _) hr.units
theorem W3{n:Nat}(h:n≤1000):n<sizeLine:=Nat.lt_of_le_of_lt h (by decide)
section
variable{X:Cx}
theorem pv(i:Nat){x:Str}{pos:Pos}(hN:X.N[i]?=some x:=by rfl)(hv:Vis X.env.scope x:=by first | exact Or.inl rfl | exact Or.inr (Or.inl rfl) | exact Or.inr (Or.inr rfl))(hd:(x==("__debug__":Str))=false:=by decide)
  (hcd:(x==("__classdict__":Str))=false:=by decide):PE X (.Name x pos) (b8w i):=b2x hN hv hd hcd
theorem a4l:K8 X (.builtin "len") (fun xs H Q=>∃a kvs,xs=[V.ref a]∧H a=some (.dK kvs)∧Q (.int kvs.length) H):=by
 intro pins s σ H xs us Q I r h
 obtain⟨a,kvs,rfl,ha,q⟩:=h
 obtain⟨u,rfl,ru⟩:=vals1 r
 cases ru
 exact b6z I (.inl ha) fun t s' I'=>⟨.int kvs.length,H,I',⟨t,rfl⟩,q⟩
end
theorem d9{A B:Prop}(h:B):if false=true then A else B:=by
 rw[if_neg Bool.false_ne_true]
 exact h
theorem l5{A B:Prop}(h:A):if true=true then A else B:=by
 rw[if_pos rfl]
 exact h
theorem G9{c A B:Prop}[Decidable c](h1:c→A)(h2:¬c→B):if c then A else B:=by
 by_cases h:c
 ·rw[if_pos h]
  exact h1 h
 ·rw[if_neg h]
  exact h2 h
theorem V5{c A B:Prop}[Decidable c](hc:c)(h:B):if (!decide c)=true then A else B:=by
 rw[decide_eq_true hc]
 exact d9 h
def g6(H H':Hp):Prop:=∀b o,H b=some o→H' b=some o
theorem g6.refl(H:Hp):g6 H H:=fun _ _ h=>h
theorem g6.trans{H H1 H2:Hp}(a:g6 H H1)(b:g6 H1 H2):g6 H H2:=fun c o h=>b c o (a c o h)
section
variable{κ:Type}[DecidableEq κ]
end
end L2
namespace L2
open PySem PySem.Spec PyProof.Rows
def T1(X:Cx)(own tl:List Str)(scope:Scope)(cl:List (Str×Addr))(C:Addr)(s₀:Shared)(H₀:Hp)(ex:List Addr):Cx where
 prog:=X.prog
 w:=X.w
 K:=X.K
 mg:=X.mg
 base:=X.base
 A:=X.A
 N:=own++tl
 s₀:=s₀
 H₀:=H₀
 env:=compEnvC scope cl C X.env
 outer:=X.stack
 stack:=X.stack
 ex:=ex
 fn:=fun _=>false
 calm:=X.calm
 pn:=[]
 xe:=fun _ _=>False
def a6d(names:List (Str×NameKind)):List Str→List Str→Bool
 | [],[]=>true
 | n::r,m::q=>(match names.lookup n with
  | some .local=>false
  | some .cell=>false
  | some .free=>decide (n=m)
  | _=>true)&&a6d names r q
 | _,_=>false
theorem a5Q{names:List (Str×NameKind)}:∀{a b:List Str},a6d names a b=true→a.length=b.length
 | [],[],_=>rfl
 | [],_::_,h=>by simp[a6d]at h
 | _::_,[],h=>by simp[a6d]at h
 | n::r,m::q,h=>by
  unfold a6d at h
  rw[Bool.and_eq_true]at h
  simp[a5Q h.2]
theorem a0T{names:List (Str×NameKind)}:∀{a b:List Str} {i:Nat} {x:Str},a6d names a b=true→a[i]?=some x →
  names.lookup x≠some .local∧names.lookup x≠some .cell∧(names.lookup x=some .free→b[i]?=some x)
 | [],_,_,_,_,e=>by simp at e
 | _::_,[],_,_,h,_=>by simp[a6d]at h
 | n::r,m::q,0,x,h,e=>by
  unfold a6d at h
  rw[Bool.and_eq_true]at h
  have e':n=x:=by simpa using e
  subst e'
  have h1:=h.1
  refine⟨fun z=>by rw[z]at h1;simp at h1,fun z=>by rw[z]at h1;simp at h1,fun z=>?_⟩
  rw[z]at h1
  have h2:n=m:=by simpa using h1
  simp[h2]
 | n::r,m::q,i+1,x,h,e=>by
  unfold a6d at h
  rw[Bool.and_eq_true]at h
  have r:=a0T (i:=i) h.2 (by simpa using e)
  simpa using r
def U3(X:Cx)(scope:Scope):Bool:=
 (scope.names.all fun y=>y.2 != .cell)&&(scope.names.all fun y=>y.2 != .local||scope.names.lookup y.1==some .local) &&
 (scope.names.all fun y=>y.2 != .free||(X.env.scope.names.lookup y.1==some .cell||X.env.scope.names.lookup y.1==some .free)) &&
 (scope.names.all fun y=>y.2 != .free||scope.names.lookup y.1==some .free)
theorem a9l{X:Cx}{scope:Scope}(h:U3 X scope=true):∀y∈scope.names,y.2≠.cell:=by
 unfold U3 at h
 simp only[Bool.and_eq_true,List.all_eq_true]at h
 intro y hy z
 have:=h.1.1.1 y hy
 rw[z]at this
 simp at this
theorem a2j{X:Cx}{scope:Scope}(h:U3 X scope=true):∀y∈scope.names,y.2=.local→scope.names.lookup y.1=some .local:=by
 unfold U3 at h
 simp only[Bool.and_eq_true,List.all_eq_true]at h
 intro y hy z
 have:=h.1.1.2 y hy
 rw[z]at this
 simpa using this
theorem a8b{X:Cx}{scope:Scope}(h:U3 X scope=true):∀y∈scope.names,y.2=.free→X.env.scope.names.lookup y.1=some .cell∨X.env.scope.names.lookup y.1=some .free:=by
 unfold U3 at h
 simp only[Bool.and_eq_true,List.all_eq_true]at h
 intro y hy z
 have:=h.1.2 y hy
 rw[z]at this
 simpa using this
theorem a4b{env:Env}:∀(names:List (Str×NameKind)) (cs:List (Str×Addr)),(∀y∈names,y.2=.free→∃c,env.cells.lookup y.1=some c) →
  ∃cl,(forIn names cs (fun(x:Str×NameKind) (r:List (Str×Addr))=>match x with
   | (name,kind)=>if (kind==NameKind.free)=true then(do let a ←cellOf env name;pure (ForInStep.yield ((name,a)::r))) else pure (ForInStep.yield r)):Sem (List (Str×Addr)))=pure cl ∧
   (∀n c,cl.lookup n=some c→env.cells.lookup n=some c∨cs.lookup n=some c)∧(∀y∈names,y.2=.free→∃c,cl.lookup y.1=some c)∧(∀n c,cs.lookup n=some c→∃c',cl.lookup n=some c')
 | [],cs,_=>⟨cs,by rw[List.forIn_nil],fun n c h=>.inr h,fun y hy=>by simp at hy,fun n c h=>⟨c,h⟩⟩
 | (n,k)::r,cs,h=>by
  have hr:∀y∈r,y.2=.free→∃c,env.cells.lookup y.1=some c:=fun y hy=>h y (List.mem_cons_of_mem _ hy)
  rw[List.forIn_cons]
  by_cases hk:k=.free
  ·subst hk
   obtain⟨c,hc⟩:=h (n,.free) List.mem_cons_self rfl
   have ec:cellOf env n=pure c:=by unfold cellOf;rw[show env.cells.lookup n=some c from hc]
   obtain⟨cl,e,a1,a2,a3⟩:=a4b (env:=env) r ((n,c)::cs) hr
   have up:∃c',cl.lookup n=some c':=a3 n c (by simp[List.lookup_cons])
   refine⟨cl,?_,fun m c' q=>?_,fun y hy z=>?_,fun m c' q=>?_⟩
   ·simp only[beq_self_eq_true,if_true,ec,pure_bind]
    exact e
   ·rcases a1 m c' q with z | z
    ·exact .inl z
    ·rw[List.lookup_cons]at z
     cases hm:m==n with
     | true=>
      have:m=n:=by simpa using hm
      subst this
      simp only[beq_self_eq_true]at z
      cases z
      exact .inl hc
     | false=>
      rw[hm]at z
      exact .inr z
   ·rcases qQ9.mp hy with rfl | hy
    ·exact up
    ·exact a2 y hy z
   ·by_cases hm:m=n
    ·subst hm;exact up
    ·refine a3 m c' ?_
     rw[List.lookup_cons]
     have:(m==n)=false:=by simpa using hm
     rw[this];exact q
  ·have hb:(k==NameKind.free)=false:=by simpa using hk
   obtain⟨cl,e,a1,a2,a3⟩:=a4b (env:=env) r cs hr
   refine⟨cl,?_,a1,fun y hy z=>?_,a3⟩
   ·simp only[hb,Bool.false_eq_true,if_false,pure_bind]
    exact e
   ·rcases qQ9.mp hy with rfl | hy
    ·exact absurd z hk
    ·exact a2 y hy z
theorem a2q{scope:Scope}{env:Env}(h:∀y∈scope.names,y.2=.free→∃c,env.cells.lookup y.1=some c) :
  ∃cl,closureFor scope env=pure cl∧(∀n c,cl.lookup n=some c→env.cells.lookup n=some c)∧∀y∈scope.names,y.2=.free→∃c,cl.lookup y.1=some c:=by
 obtain⟨cl,e,a1,a2,_⟩:=a4b scope.names [] h
 refine⟨cl,?_,fun n c q=>(a1 n c q).resolve_right fun z=>by simp at z,a2⟩
 simp only[closureFor]
 rw[e]
 rfl
theorem L0{env:Env}:∀{names:List (Str×NameKind)} {x:Str} {k:NameKind},
  (names.map fun(n,k)=>if (k==NameKind.free&&env.scope.kind==.function&&env.kindOf n==some .cell) then(n,NameKind.cell) else(n,k)).lookup x=some k →
  names.lookup x=some k∨(k=.cell∧names.lookup x=some .free)
 | [],_,_,h=>by simp at h
 | (n,k')::r,x,k,h=>by
  have ih:=@L0 env r x k
  rw[List.map_cons]at h
  by_cases hc:(k'==NameKind.free&&env.scope.kind==.function&&env.kindOf n==some .cell)=true
  ·simp only[hc,if_true]at h
   rw[List.lookup_cons]at h ⊢
   cases hx:x==n with
   | true=>
    rw[hx]at h
    have hk:k'=.free:=by
     simp only[Bool.and_eq_true]at hc
     simpa using hc.1.1
    injection h with h
    subst h hk
    exact .inr ⟨rfl,rfl⟩
   | false=>
    rw[hx]at h
    exact ih h
  ·simp only[Bool.not_eq_true]at hc
   simp only[hc,Bool.false_eq_true,if_false]at h
   rw[List.lookup_cons]at h ⊢
   cases hx:x==n with
   | true=>rw[hx]at h;exact .inl h
   | false=>rw[hx]at h;exact ih h
def PIf(X:Cx)(ifs:List Expr)(t:TT):Prop:=
 ∀(pins:List (Addr×Obj)) (s:Shared) (σ:St) (H:Hp) (Q:Bool→Hp→Prop),Inv X pins σ H s→t σ H Q →
  wpAny (model X.prog X.w) X.A (forIn ifs true fun c r=>if r=true then do let ok ←isTrue c X.env (eval c X.env);pure (ForInStep.yield ok) else pure (ForInStep.yield r)) (TP X pins σ Q) X.xe s
def b3A:TT:=fun _ H Q=>Q true H
theorem V0{X:Cx}:PIf X [] b3A:=fun _ _ _ H _ I h=>wpAny_tests_nil ⟨H,I,h⟩
theorem U5{X:Cx}{c:Expr}{t:TT}(h:PT X c t):PIf X [c] t:=fun pins s σ H Q I q=>wpAny_tests_one (h pins s σ H Q I q)
structure C5(X:Cx)(own tl:List Str)(scope:Scope)(target elt:Expr)(ifs:List Expr)(g:TG)(tc:TT)(te:TE):Prop where
 kind:scope.kind=.function
 ok:U3 X scope=true
 nm:a6d scope.names tl X.N=true
 tg:∀cl C s₀ H₀ ex,PG (T1 X own tl scope cl C s₀ H₀ ex) target g
 ti:∀cl C s₀ H₀ ex,PIf (T1 X own tl scope cl C s₀ H₀ ex) ifs tc
 te:∀cl C s₀ H₀ ex,PE (T1 X own tl scope cl C s₀ H₀ ex) elt te
def a5I(k:Nat)(g:TG)(tc:TT)(te:TE)(J:It)(acc:Addr)(σ:St)(H1:Hp)(Q:Hp→Prop):Prop:=
 ∃W:Nat→Nat→Hp→Prop,(∃m,W 0 m (upd H1 acc (.lst [])))∧∀i m H,W i m H →
  (J.stop i H∧Q H)∨(J.go i H∧∃N:Hp→Prop,(∀H',N H'→∃m',m'<m∧W (i+1) m' H') ∧
   ∀(os:St) x H',os.length=k→J.yld i H x H'→g x (os++σ) H' fun σ2 H2=>(∃os2:St,os2.length=k∧σ2=os2++σ) ∧
    tc σ2 H2 fun b H3=>if b=true then te σ2 H3 fun y H4=>∃ys,H4 acc=some (.lst ys)∧ys.length<sizeLine∧N (upd H4 acc (.lst (ys++[y]))) else N H3)
def b6p(k:Nat)(wi:TI)(g:TG)(tc:TT)(te:TE):TE:=fun σ H Q=>wi σ H fun J H1=>∀acc,H1 acc=none→a5I k g tc te J acc σ H1 fun H'=>Q (.ref acc) H'
theorem Un.off{fs ex:List Addr}{H H1:Hp}{h h1 h':Heap}{C:Addr}(u:Un fs ex H H1 h h1)(hs:Heap.SameBut C h1 h')(hC:h.objs.size≤C):Un fs ex H H1 h h':=by
 have ne:∀b o,h.get? b=some o→b≠C:=fun b o e z=>absurd (Heap.lt_size e) (by rw[z];exact Nat.not_lt.mpr hC)
 exact⟨fun b o e n hb hx=>(hs.2 b (ne b o e)).trans (u.keep b o e n hb hx),fun b o e n hb hx=>let ⟨sl,q⟩:=u.slot b o e n hb hx;⟨sl,(hs.2 b (ne b o e)).trans q⟩,u.free,
  fun b o e hx=>let ⟨o',q⟩:=u.there b o e hx;⟨o',(hs.2 b (ne b o e)).trans q⟩,u.tups,u.frzs,u.tbls⟩
section
variable{prog:Program}{w:World}{A:Around}{R:Result→Shared→Prop}{s:Shared}
theorem b3e{elt target iter:Expr}{ifs:List Expr}{scope:Scope}{pos:Pos}{it acc:Value}{env:Env}(Iv:Nat→Shared→Prop)
  (each:∀n s,Iv n s→wpAny (model prog w) A (pyNext it) (fun r t1=>match r with
   | none=>R (.ok .next) t1
   | some v=>wpAny (model prog w) A (letOwnedTupleGo target it v) (fun _ t1=>wpAny (model prog w) A (assign target env v) (fun _ t2=>
     wpAny (model prog w) A (forIn ifs true fun c r=>if r=true then do let okay ←isTrue c env (eval c env);pure (ForInStep.yield okay) else pure (ForInStep.yield r)) (fun okay t3=>
      if okay=true then wpAny (model prog w) A (eval elt env) (fun x t4=>
       wpAny (model prog w) A (call (.builtin "list.append") [acc,x]) (fun _ t5=>∃m,m<n∧Iv m t5) (fun _ _=>False) t4) (fun _ _=>False) t3
      else ∃m,m<n∧Iv m t3) (fun _ _=>False) t2) (fun _ _=>False) t1) (fun _ _=>False) t1) (fun _ _=>False) s)
  (n:Nat) (h:Iv n s) :
  codeAny (model prog w) A (.compLoop (.ListComp elt [⟨target,iter,ifs,0⟩] scope pos) 0 it acc env) R s:=by
 refine codeAny_loop rfl Iv (fun n s hIv=>?_) n h
 show wpAny (model prog w) A ((compTurn (.ListComp elt [⟨target,iter,ifs,0⟩] scope pos) 0 it acc env).onRaise (fun x=>do noteFrame x env;theTreesLotGoes x)) _ _ s
 refine wpAny_noted ?_
 rw[compTurn_list]
 refine wpAny_bind (wpAny_standAt (wpAny_bind (wpAny_mono (each n s hIv) (fun r t1 g1=>?_) fun _ _ h'=>h'.elim)))
 cases r with
 | none=>exact wpAny_pure g1
 | some v=>
  refine wpAny_bind (wpAny_mono g1 (fun _ t1' g1=>?_) fun _ _ h'=>h'.elim)
  refine wpAny_bind (wpAny_mono g1 (fun _ t2 g2=>wpAny_bind (wpAny_mono g2 (fun okay t3 g3=>?_) fun _ _ h'=>h'.elim)) fun _ _ h'=>h'.elim)
  cases okay with
  | false=>exact wpAny_pure ⟨rfl,g3⟩
  | true=>
   exact wpAny_bind (wpAny_bind (wpAny_mono g3 (fun x t4 g4=>wpAny_bind (wpAny_mono g4 (fun _ t5 g5=>wpAny_pure (wpAny_pure ⟨rfl,g5⟩)) fun _ _ h'=>h'.elim)) fun _ _ h'=>h'.elim))
end
section
variable{X:Cx}{own tl:List Str}{scope:Scope}{target elt:Expr}{ifs:List Expr}{g:TG}{tc:TT}{te:TE}
theorem b4n{pins:List (Addr×Obj)}{σ:St}{H:Hp}{s:Shared}{cl:List (Str×Addr)}{fp:List Addr}{h₁:Heap}{m:Str→Option Value}{os:St}{t':Nat}(ci:C5 X own tl scope target elt ifs g tc te)(I:Inv X pins σ H s)
  (c1:∀n c,cl.lookup n=some c→X.env.cells.lookup n=some c) (c2:∀y∈scope.names,y.2=.free→∃c,cl.lookup y.1=some c)
  (hf:∀b∈fp,X5 X pins H b) (hfo:∀b∈fp,∃o,s.heap.get? b=some o) (hk:∀b o,s.heap.get? b=some o→h₁.get? b=some o) (hns:h₁.Ns s.heap.objs.size m) (hos:os=List.replicate own.length none) :
  Inv (T1 X own tl scope cl s.heap.objs.size s H fp) [] (os++σ) H { s with heap:=h₁,toks:=t' }:=by
 have lt:∀b∈fp,b<s.heap.objs.size:=fun b hb=>let ⟨o,e⟩:=hfo b hb;Heap.lt_size e
 have clt:∀n c,cl.lookup n=some c→c<s.heap.objs.size:=fun n c e=>by
  obtain⟨v,o,ho,_⟩:=I.cell n c (c1 n c e)
  exact Heap.lt_size ho
 have seen:∀x,(T1 X own tl scope cl s.heap.objs.size s H fp).env.kindOf x=some .cell∨(T1 X own tl scope cl s.heap.objs.size s H fp).env.kindOf x=some .free→scope.names.lookup x=some .free:=fun x hx=>by
  have nc:scope.names.lookup x≠some .cell:=fun z=>a9l ci.ok _ (PySem.mem_of_lookup z) rfl
  rcases hx with hx | hx
  ·rcases L0 (names:=scope.names) (x:=x) hx with z | ⟨_,z⟩
   ·exact absurd z nc
   ·exact z
  ·rcases L0 (names:=scope.names) (x:=x) hx with z | ⟨z,_⟩
   ·exact z
   ·cases z
 refine⟨⟨I.ok.mod,ci.kind,I.ok.glob,I.ok.blt,qQ7 _,fun x y c e1 e2=>I.ok.inj x y c (c1 x c e1) (c1 y c e2),fun x hx=>?_,fun x c z=>(nomatch z),I.ok.hd,I.ok.frames,.inl rfl,fun b hb=>⟨Nat.ne_of_lt (lt b hb),fun x c e=>(hf b hb).2.2.2.2.1 x c (c1 x c e)⟩,I.bs,
   Nat.le_trans I.ok.bsz I.sz,fun b o e hb=>?_,fun b hb hb'=>?_,I.stack,I.stkFree⟩,
  rfl,I.bare,Un.kept hk,⟨m,hns,fun i x v e1 e2 e3=>?_⟩,fun x c e=>?_,I.hok.fresh (qQ7 _),fun x c e=>I.freeC x c (c1 x c e),fun p hp=>absurd (show p∈([]:List (Addr×Obj)) from hp) (by simp),I.hok.kept hk,?_⟩
 ·exact c2 _ (PySem.mem_of_lookup (seen x hx)) rfl
 ·rcases(hf b hb).2.2.2.1 with z | z
  ·exact I.ok.noex b o e z
  ·exact absurd (Nat.lt_of_lt_of_le (Heap.lt_size (I.ok.bs b o e).1) z) (Nat.lt_irrefl _)
 ·rcases qQ9.mp (I.stkSub b hb') with z | z
  ·exact(hf b hb).2.1 z
  ·exact(hf b hb).2.2.1 z
 ·have hge:own.length≤i:=by
   rcases Nat.lt_or_ge i own.length with z | z
   ·rw[hos,List.getElem?_append_left (by simpa using z),List.getElem?_replicate]at e2
    simp[z]at e2
   ·exact z
  have e1':tl[i-own.length]?=some x:=by
   have e1:(own++tl)[i]?=some x:=e1
   rwa [List.getElem?_append_right hge] at e1
  have e2':σ[i-own.length]?=some (some v):=by
   rw[hos,List.getElem?_append_right (by simpa using hge)]at e2
   simpa using e2
  obtain⟨n1,n2,n3⟩:=a0T ci.nm e1'
  have hfree:scope.names.lookup x=some .free:=by
   rcases e3 with z | z | z
   ·rcases L0 (names:=scope.names) (x:=x) z with z' | ⟨z',_⟩
    ·exact absurd z' n1
    ·cases z'
   ·exact seen x (.inl z)
   ·exact seen x (.inr z)
  have hXN:=n3 hfree
  have hout:=a8b ci.ok _ (PySem.mem_of_lookup hfree) rfl
  obtain⟨mX,hmX,hl⟩:=I.loc
  obtain⟨u,ru,lk⟩:=hl _ x v hXN e2' (hout.elim (fun z=>.inr (.inl z)) fun z=>.inr (.inr z))
  refine⟨u,ru,?_⟩
  obtain⟨c,hc⟩:=c2 _ (PySem.mem_of_lookup hfree) rfl
  have hin:(T1 X own tl scope cl s.heap.objs.size s H fp).env.kindOf x=some .cell∨(T1 X own tl scope cl s.heap.objs.size s H fp).env.kindOf x=some .free:=by
   rcases e3 with z | z | z
   ·rcases L0 (names:=scope.names) (x:=x) z with z' | ⟨z',_⟩
    ·exact absurd z' n1
    ·cases z'
   ·exact .inl z
   ·exact .inr z
  rcases lk with ⟨k,_⟩ | ⟨k,c',e,z⟩
  ·have k:X.env.scope.names.lookup x=some .local:=k
   rcases hout with q | q<;>(rw[k]at q;cases q)
  ·have hcc:c'=c:=by
    have:=c1 x c hc
    rw[e]at this
    exact qW1 this
   subst hcc
   exact .inr ⟨hin,c',hc,let ⟨o,ho,hd⟩:=z;⟨o,hk _ _ ho,hd⟩⟩
 ·obtain⟨v,o,ho,hd⟩:=I.cell x c (c1 x c e)
  exact⟨v,o,hk _ _ ho,hd⟩
 ·show(os++σ).length=(own++tl).length
  rw[hos,qQ4,qQ4,List.length_replicate,I.len,a5Q ci.nm]
theorem a6P{pins:List (Addr×Obj)}{σ σ':St}{H H':Hp}{s s':Shared}{cl:List (Str×Addr)}{fp:List Addr}{h':Heap}(I:Inv X pins σ H s)(hf:∀b∈fp,X5 X pins H b)
  (J:Inv (T1 X own tl scope cl s.heap.objs.size s H fp) [] σ' H' s') (hs:Heap.SameBut s.heap.objs.size s'.heap h'):Inv X pins σ H' { s' with heap:=h' }:=by
 refine I.call' (s':={ s' with heap:=h' }) (ch:=fp) J.os (J.base.off hs (qQ7 _)) (fun b ob e=>?_) J.bare fun b hb=>⟨(hf b hb).2.2.2.1,(hf b hb).2.1,(hf b hb).2.2.2.2.1,(hf b hb).2.2.2.2.2⟩
 refine(J.hok b ob e).stay (fun c w' hc q=>(hs.2 c ?_).trans q) (fun _ q=>q) fun _ _ q=>q
 have hfree:H' s.heap.objs.size=none:=J.free
 rintro rfl
 rcases hc with rfl | hc
 ·rw[hfree]at e;cases e
 ·rw[hfree]at hc;cases hc
theorem a1w{pins:List (Addr×Obj)}{σ:St}{H2:Hp}{s2:Shared}{cl:List (Str×Addr)}{iter:Expr}{pos:Pos}{it:Addr}{fp:List Addr}{tn:Nat→Heap→Prop}{Jt:It}{Q:Addr→Hp→Prop}{RR:Value→Addr→Result→Shared→Prop}{E:Value→Shared→Prop}
  (ci:C5 X own tl scope target elt ifs g tc te) (hc:X.calm=true) (I2:Inv X pins σ H2 s2) (T:Turn X.prog X.w X.K target Jt fp it tn) (st2:tn 0 s2.heap) (f2:∀b∈fp,X5 X pins H2 b)
  (c1:∀n c,cl.lookup n=some c→X.env.cells.lookup n=some c) (c2:∀y∈scope.names,y.2=.free→∃c,cl.lookup y.1=some c)
  (q:∀acc,H2 acc=none→a5I own.length g tc te Jt acc σ H2 (Q acc))
  (hRR:∀(acc C:Addr) (s3 s':Shared) (σ':St) (H':Hp) (m:Str→Option Value),C=s3.heap.objs.size→Inv X pins σ (upd H2 acc (.lst [])) s3→(∀b∈fp,X5 X pins (upd H2 acc (.lst [])) b) →
   Inv (T1 X own tl scope cl s3.heap.objs.size s3 (upd H2 acc (.lst [])) fp) [] σ' H' s'→s'.heap.Ns C m→Q acc H'→RR (.ref acc) C (.ok .next) s') :
  wpAny (model X.prog X.w) X.A (newList []) (fun acc s₃=>wpAny (model X.prog X.w) X.A (newFunctionEnv scope X.env.globals cl [] X.env.qual none .none (some X.env)) (fun cenv s₄=>
   codeAny (model X.prog X.w) X.A (.compStart (.ListComp elt [⟨target,iter,ifs,0⟩] scope pos) 0 (.ref it) acc { cenv with scope:=relabel scope X.env }) (RR acc cenv.locals) s₄) E s₃) E s2:=by
 have I3:=I2.lnew (t':=s2.toks) (ys:=[]) (its:=[]) .nil (Nat.zero_le _)
 have hacc:H2 s2.heap.objs.size=none:=I2.fresh
 refine wpAny_newObj_type (wpAny_newFunctionEnv (a9l ci.ok) (by intro y hy;simp at hy) (fun h₁ hns₁ hsb₁=>?_) ci.kind)
 dsimp only at hns₁ hsb₁ ⊢
 generalize hs3:({ s2 with heap:=s2.heap.push { cls:=.type "list",dict:=none,data:=.seq ([]:List Value).toArray } }:Shared)=s3 at *
 have es3:s2.heap.push { cls:=.type "list",dict:=none,data:=.seq ([]:List Value).toArray }=s3.heap:=by rw[←hs3]
 rw[es3]at hns₁ hsb₁ ⊢
 have hk:∀b o,s3.heap.get? b=some o→h₁.get? b=some o:=fun b o e=>hsb₁.extBut b o (Nat.ne_of_lt (Heap.lt_size e)) (Heap.get?_push_of_some _ e)
 have fpO:∀b∈fp,∃o,s2.heap.get? b=some o:=fun b hb=>let ⟨o,e,_⟩:=T.obj 0 _ st2 b hb;⟨o,e⟩
 have k23:∀b o,s2.heap.get? b=some o→s3.heap.get? b=some o:=fun b o e=>by rw[←es3];exact Heap.get?_push_of_some _ e
 have fpne:∀b∈fp,b≠s2.heap.objs.size:=fun b hb=>let ⟨o,e⟩:=fpO b hb;Nat.ne_of_lt (Heap.lt_size e)
 have f3:∀b∈fp,X5 X pins (upd H2 s2.heap.objs.size (.lst [])) b:=fun b hb=>⟨by rw[b7 (fpne b hb)];exact(f2 b hb).1,(f2 b hb).2⟩
 have st3:tn 0 h₁:=T.keep 0 s2.heap h₁ st2 fun b hb o e=>hk b o (k23 b o e)
 have f3o:∀b∈fp,∃o,s3.heap.get? b=some o:=fun b hb=>let ⟨o,e⟩:=fpO b hb;⟨o,k23 b o e⟩
 have I4:=b4n (t':=s3.toks) (os:=List.replicate own.length none) ci I3 c1 c2 f3 f3o hk hns₁ rfl
 generalize hX:T1 X own tl scope cl s3.heap.objs.size s3 (upd H2 s2.heap.objs.size (.lst [])) fp=XC at I4
 have env0:XC.env=compEnvC scope cl s3.heap.objs.size X.env:=by rw[←hX];rfl
 obtain⟨W,⟨m0,w0⟩,turn⟩:=q _ hacc
 have ltf:∀b∈fp,b≠s3.heap.objs.size:=fun b hb=>let ⟨o,e⟩:=f3o b hb;Nat.ne_of_lt (Heap.lt_size e)
 have stat:∀{H':Hp},(∀b∈fp,H' b=none)→∀b∈fp,X5 XC [] H' b:=fun hn b hb=>by
  subst hX
  refine⟨hn b hb,ltf b hb,fun z=>?_,.inl hb,fun x c e=>(f2 b hb).2.2.2.2.1 x c (c1 x c e),fun p hp=>absurd (show p∈([]:List (Addr×Obj)) from hp) (by simp)⟩
  rcases qQ9.mp (I2.stkSub b z) with z | z
  ·exact(f2 b hb).2.1 z
  ·exact(f2 b hb).2.2.1 z
 have loop:∀s4:Shared,s4={ s3 with heap:=h₁,toks:=s3.toks } →
   codeAny (model X.prog X.w) X.A (.compLoop (.ListComp elt [⟨target,iter,ifs,0⟩] scope pos) 0 (.ref it) (.ref s2.heap.objs.size) (compEnvC scope cl s3.heap.objs.size X.env)) (RR (.ref s2.heap.objs.size) s3.heap.objs.size) s4:=by
  rintro s4 rfl
  have fr0:∀b∈fp,(upd H2 s2.heap.objs.size (.lst [])) b=none:=fun b hb=>(f3 b hb).1
  refine b3e (fun n s'=>∃(i:Nat) (os:St) (H':Hp),os.length=own.length∧Inv XC [] (os++σ) H' s'∧tn i s'.heap∧(∀b∈fp,H' b=none)∧W i n H') ?_ m0 ⟨0,_,_,List.length_replicate,I4,st3,fr0,w0⟩
  rintro n s5 ⟨i,os,H5,hos,I5,st5,fr5,w5⟩
  have eP:XC.prog=X.prog:=by rw[←hX];rfl
  have eW:XC.w=X.w:=by rw[←hX];rfl
  have eK:XC.K=X.K:=by rw[←hX];rfl
  have eA:XC.A=X.A:=by rw[←hX];rfl
  have eC:XC.calm=true:=by rw[←hX];exact hc
  rcases turn i n H5 w5 with ⟨stop,qn⟩ | ⟨go,N,hN,step⟩
  ·have done:=T.done XC eP eW eK eC i [] s5 (os++σ) H5 (fun _ _=>False) I5 (stat fr5) st5 stop
   rw[eA]at done
   refine m6 done fun r s6 ⟨hr,I6⟩=>?_
   subst hr
   obtain⟨mm,hmm,_⟩:=id I6.loc
   have hmm:s6.heap.Ns s3.heap.objs.size mm:=by rw[env0]at hmm;exact hmm
   subst hX
   exact hRR _ _ s3 s6 _ H5 mm rfl I3 f3 I6 hmm qn
  ·have item:=T.item XC eP eW eK eC i [] s5 (os++σ) H5 (fun _ _=>False) I5 (stat fr5) st5 go
   rw[eA]at item
   refine m6 item fun r s6 ⟨u,hr,h6⟩=>?_
   subst hr
   refine m6 h6 fun _ s7 ⟨x,H7,I7,r7,y7,st7,fr7⟩=>?_
   have I7':=I7.pinned (stat fr7) (T.obj _ _ st7)
   have tg:=ci.tg cl s3.heap.objs.size s3 (upd H2 s2.heap.objs.size (.lst [])) fp
   have ti:=ci.ti cl s3.heap.objs.size s3 (upd H2 s2.heap.objs.size (.lst [])) fp
   have te':=ci.te cl s3.heap.objs.size s3 (upd H2 s2.heap.objs.size (.lst [])) fp
   rw[hX]at tg ti te'
   have a7:=tg _ s7 (os++σ) H7 x u _ I7' r7 (step os x H7 hos y7)
   have again:∀{os8:St} {H8:Hp} {s8:Shared},os8.length=own.length→Inv XC ([]++a0n fp s7.heap) (os8++σ) H8 s8→N H8→∃m,m<n∧∃(i:Nat) (os:St) (H':Hp),os.length=own.length∧Inv XC [] (os++σ) H' s8∧tn i s8.heap∧(∀b∈fp,H' b=none)∧W i m H':=fun {os8 H8 s8} ho8 I8 n8=>by
    obtain⟨m',hm,w8⟩:=hN H8 n8
    refine⟨m',hm,i+1,os8,H8,ho8,I8.unpinned,T.keep _ _ _ st7 fun b hb o e=>(I8.pin (b,o) (List.mem_append_right _ (List.mem_append_right _ (Y5 hb e)))).1,fun b hb=>?_,w8⟩
    obtain⟨o,e,d⟩:=T.obj _ _ st7 b hb
    exact(I8.pin (b,o) (List.mem_append_right _ (List.mem_append_right _ (Y5 hb e)))).2.1
   have exc:XC.xe=fun _ _=>False:=by rw[←hX];rfl
   rw[eP,eW,eA,env0,exc]at a7
   refine m6 a7 fun _ s8 ⟨σ8,H8,I8,⟨os8,ho8,e8⟩,q8⟩=>?_
   subst e8
   have a8:=ti _ s8 (os8++σ) H8 _ I8 q8
   rw[eP,eW,eA,env0,exc]at a8
   refine m6 a8 fun b s9 ⟨H9,I9,q9⟩=>?_
   cases b with
   | false=>
    simp only[Bool.false_eq_true,if_false]at q9 ⊢
    exact again ho8 I9 q9
   | true=>
    simp only[if_true]at q9 ⊢
    have a9:=te' _ s9 (os8++σ) H9 _ I9 q9
    rw[eP,eW,eA,env0,exc]at a9
    refine m6 a9 fun y s10 ⟨yv,H10,I10,ry,ys,hys,hlen,qN⟩=>?_
    have a10:=m7 (X:=XC) _ s10 (os8++σ) H10 (.ref s2.heap.objs.size) [yv] (.ref s2.heap.objs.size) [y] (fun _ H'=>N H') I10 rfl (.cons ry .nil) ⟨_,ys,yv,rfl,rfl,hys,hlen,qN⟩
    rw[eP,eW,eA,exc]at a10
    exact m6 a10 fun _ s11 ⟨_,H11,I11,_,q11⟩=>again ho8 I11 q11
 have e34:({ s2 with heap:=h₁,toks:=s2.toks+([]:List (Str×Value)).length }:Shared)={ s3 with heap:=h₁,toks:=s3.toks }:=by rw[←hs3];rfl
 exact codeAny_compStart_list (loop _ e34) (T.self _ 0 _ _ _ st3 (loop _ e34))
end
end L2
namespace L2
open PySem PySem.Spec PyProof.Rows
section
variable{X:Cx}{own tl:List Str}{scope:Scope}{target elt iter:Expr}{ifs:List Expr}{g:TG}{tc:TT}{te:TE}{wi:TI}
theorem N6{pos:Pos}(hc:X.calm=true)(hi:PI X target iter wi)(ci:C5 X own tl scope target elt ifs g tc te)(hs:∀x,foldedSetIterable iter X.env x=pure x:=by intro _;rfl) :
  PE X (.ListComp elt [⟨target,iter,ifs,0⟩] scope pos) (b6p own.length wi g tc te):=by
 intro pins s σ H Q I h
 obtain⟨cl,hcl,c1,c2⟩:=a2q (scope:=scope) (env:=X.env) fun y hy z=>I.ok.has y.1 (a8b ci.ok y hy z)
 rw[eval_ListComp]
 refine wpAny_comprehension_free (use:=none) rfl hs hcl ci.kind (a2j ci.ok) (m6 (hi pins s σ H _ I h) fun xv s1 h1=>m6 h1 fun itv s2 h2=>?_)
 obtain⟨it,fp,tn,J,H2,rfl,I2,T,st2,f2,q⟩:=h2
 refine a1w (RR:=fun acc C=>compPost (model X.prog X.w) X.A X.xe none (EP X pins σ Q) acc C) (Q:=fun acc H'=>Q (.ref acc) H') ci hc I2 T st2 f2 c1 c2 q ?_
 intro acc C s3 s' σ' H' m hC I3 f3 IC hns hq
 subst hC
 exact⟨m,hns,fun h' hs'=>⟨.ref acc,H',a6P I3 f3 IC hs',rfl,hq⟩⟩
theorem a9o{i:Nat}{x:Str}{pos cpos pos':Pos}(hN:X.N.Nodup)(hi':X.N[i]?=some x)(hx:X.env.scope.names.lookup x=some .local)(hc:X.calm=true)(hi:PI X target iter wi)(ci:C5 X own tl scope target elt ifs g tc te)
  (hsw:swapsWith (.ListComp elt [⟨target,iter,ifs,0⟩] scope cpos) (some (.Name x pos')) pos.line X.env=pure true:=by rfl) (hs:∀x,foldedSetIterable iter X.env x=pure x:=by intro _;rfl) :
  PS X (.Assign [.Name x pos'] (.ListComp elt [⟨target,iter,ifs,0⟩] scope cpos) pos) (b3j (b6p own.length wi g tc te) (a8x i)):=by
 intro pins s σ H D I h
 obtain⟨cl,hcl,c1,c2⟩:=a2q (scope:=scope) (env:=X.env) fun y hy z=>I.ok.has y.1 (a8b ci.ok y hy z)
 rw[exec_Assign_Name_used _ _ _ _ hsw]
 refine wpAny_bind (wpAny_standAt (wpAny_bind ?_))
 show wpAny _ _ (do let _ ←comprehension (.ListComp elt [⟨target,iter,ifs,0⟩] scope cpos) scope X.env _ (newList []) false (eval iter X.env) (some (assign (.Name x pos') X.env))) _ _ s
 refine wpAny_bind (wpAny_mono (wpAny_comprehension_free (use:=some (assign (.Name x pos') X.env)) (Q:=fun _ s'=>SP X pins D .next s') rfl hs hcl ci.kind (a2j ci.ok)
  (m6 (hi pins s σ H _ I h) fun xv s1 h1=>m6 h1 fun itv s2 h2=>?_)) (fun _ s' hq=>wpAny_pure (wpAny_pure hq)) fun _ _ e=>e)
 obtain⟨it,fp,tn,J,H2,rfl,I2,T,st2,f2,q⟩:=h2
 refine a1w (RR:=fun acc C=>compPost (model X.prog X.w) X.A X.xe (some (assign (.Name x pos') X.env)) (fun _ s'=>SP X pins D .next s') acc C) (Q:=fun acc H'=>D.nx (σ.set i (some (.ref acc))) H') ci hc I2 T st2 f2 c1 c2 q ?_
 intro acc C s3 s' σ' H' m hC I3 f3 IC hns hq
 subst hC
 have I':Inv X pins σ H' s':=a6P I3 f3 IC ⟨rfl,fun _ _=>rfl⟩
 have hL:s3.heap.objs.size≠X.env.locals:=Nat.ne_of_gt I3.lt
 have hCe:∀y c,X.env.cells.lookup y=some c→c≠s3.heap.objs.size:=fun y c e=>by
  obtain⟨v,o,ho,_⟩:=I3.cell y c e
  exact Nat.ne_of_lt (Heap.lt_size ho)
 show wpAny _ _ (assign (.Name x pos') X.env (.ref acc)) _ _ s'
 refine wpAny_assign_Name (a9D I' hN hi' (.inl hx) (v:=.ref acc) rfl (fun s'' I'' ⟨a,hsb,ha⟩=>?_) (.inr hx))
 have hne:s3.heap.objs.size≠a:=by
  rcases ha with e | e
  ·rw[e];exact hL
  ·exact Ne.symm (hCe x a e)
 refine⟨m,hns.sameBut hsb hne,fun h' hs'=>?_⟩
 refine⟨σ.set i (some (.ref acc)),H',I''.turned (t':=s''.toks) (it:=s3.heap.objs.size) (fun b o hb e=>(hs'.2 b hb).trans e) IC.free hL (.inr I3.sz) hCe (fun p hp z=>?_),hq⟩
 exact absurd (Heap.lt_size (I3.pin p hp).1) (by rw[z];exact Nat.lt_irrefl _)
end
theorem B7{K:PySem.W.Frag}{a acc:Addr}{xs:List V}{tc:TT}{te:TE}{σ:St}{H1:Hp}{Q:Hp→Prop}(Pv:Nat→Hp→Prop)(h0:Pv 0 (upd H1 acc (.lst [])))(hl:∀i H,i≤xs.length→Pv i H→d7 K H a xs)
  (hs:∀i x H,xs[i]?=some x→Pv i H→tc (some x::σ) H fun b H3=>if b=true then te (some x::σ) H3 fun y H4=>∃ys,H4 acc=some (.lst ys)∧ys.length<sizeLine∧Pv (i+1) (upd H4 acc (.lst (ys++[y]))) else Pv (i+1) H3)
  (hd:∀H,Pv xs.length H→Q H):a5I 1 (a8x 0) tc te (Itl K a) acc σ H1 Q:=by
 refine⟨fun i m H=>i≤xs.length∧m=xs.length-i∧Pv i H,⟨_,Nat.zero_le _,rfl,h0⟩,fun i m H ⟨hi,hm,hp⟩=>?_⟩
 rcases Nat.lt_or_ge i xs.length with lt | ge
 ·refine .inr ⟨⟨xs,xs[i],hl i H hi hp,List.getElem?_eq_getElem lt⟩,Pv (i+1),fun H' h'=>⟨xs.length-(i+1),by omega,by omega,rfl,h'⟩,fun os x H' ho hy=>?_⟩
  obtain⟨rfl,hy⟩:=hy
  have hx:=hy xs (hl i _ hi hp)
  obtain⟨o,rfl⟩:∃o,os=[o]:=by
   match os,ho with
   | [o],_=>exact⟨o,rfl⟩
  exact⟨⟨[some x],rfl,rfl⟩,hs i x H' hx hp⟩
 ·have e:i=xs.length:=by omega
  subst e
  exact .inl ⟨⟨xs,hl _ H (qQ7 _) hp,qQ7 _⟩,hd H hp⟩
end L2
namespace L2
open PySem PySem.Spec PyProof.Rows
def b3D(t:TS):TS:=fun D σ H=>∃M:St→Hp→Prop,t { D with nx:=M } σ H∧∀σ' H',M σ' H'→D.nx σ' H'
theorem L7{X:Cx}{st:Stmt}{t:TS}(h:PS X st t):PS X st (b3D t):=by
 intro pins s σ H D I ⟨M,ht,hM⟩
 refine m6 (h pins s σ H { D with nx:=M } I ht) fun f s' q=>?_
 cases f with
 | next=>obtain⟨σ',H',I',q⟩:=q;exact⟨σ',H',I',hM σ' H' q⟩
 | brk=>exact q
 | cont=>exact q
 | ret u=>exact q
end L2
namespace L2
open PySem PySem.Spec PyProof.Rows
mutual
def Rep(K:PySem.W.Frag)(H:Hp):PyData→V→Prop
 | .none,v=>v=.non
 | .bool b,v=>v=.bl b
 | .int i,v=>v=.int i
 | .str x,v=>v=.str x
 | .list ds,v=>∃a xs,v=.ref a∧d7 K H a xs∧p5 K H ds xs
 | .tuple ds,v=>∃a xs,v=.ref a∧i4 K H a xs∧p5 K H ds xs
 | .dict _,_=>False
def p5(K:PySem.W.Frag)(H:Hp):List PyData→List V→Prop
 | [],xs=>xs=[]
 | d::ds,xs=>∃y ys,xs=y::ys∧Rep K H d y∧p5 K H ds ys
end
mutual
theorem J0{X:Cx}{pins:List (Addr×Obj)}{σ:St}{H:Hp}{s:Shared}(I:Inv X pins σ H s):∀(d:PyData) {v:V} {u:Value},Rep X.K H d v→RelV v u→∃as,Reads s.heap u d as
 | .none,v,u,r,e=>by unfold Rep at r;subst r;cases e;exact⟨_,.none⟩
 | .bool b,v,u,r,e=>by unfold Rep at r;subst r;cases e;exact⟨_,.bool b⟩
 | .int i,v,u,r,e=>by unfold Rep at r;subst r;obtain⟨t,rfl⟩:=(show ∃t,u=Value.int i t from e);exact⟨_,.int i t⟩
 | .str x,v,u,r,e=>by unfold Rep at r;subst r;obtain⟨t,rfl⟩:=(show ∃t,u=Value.str x t from e);exact⟨_,.str x t⟩
 | .list ds,v,u,r,e=>by
  unfold Rep at r
  obtain⟨a,xs,rfl,hq,rs⟩:=r
  cases (show u=Value.ref a from e)
  obtain⟨its,rv,p,hz⟩:=I.list hq
  obtain⟨as,ra⟩:=a1d I ds rs rv
  obtain⟨o,h1,h2,n,h3⟩:=p.isList
  exact⟨_,.list h1 h2 h3 (by simpa using ra)⟩
 | .tuple ds,v,u,r,e=>by
  unfold Rep at r
  obtain⟨a,xs,rfl,hq,rs⟩:=r
  cases (show u=Value.ref a from e)
  obtain⟨its,rv,p,hz⟩:=I.tuple hq
  obtain⟨as,ra⟩:=a1d I ds rs rv
  obtain⟨o,h1,h2,n,h3⟩:=(show s.heap.IsTuple a its.toArray from p)
  exact⟨_,.tuple h1 h2 h3 (by simpa using ra)⟩
 | .dict _,v,u,r,e=>by unfold Rep at r;exact r.elim
theorem a1d{X:Cx}{pins:List (Addr×Obj)}{σ:St}{H:Hp}{s:Shared}(I:Inv X pins σ H s):∀(ds:List PyData) {xs:List V} {us:List Value},p5 X.K H ds xs→j4 xs us→∃as,ReadsAll s.heap us ds as
 | [],xs,us,r,e=>by unfold p5 at r;subst r;cases e;exact⟨_,.nil⟩
 | d::ds,xs,us,r,e=>by
  unfold p5 at r
  obtain⟨y,ys,rfl,r1,r2⟩:=r
  cases e with
  | cons e1 e2=>
   obtain⟨as,h1⟩:=J0 I d r1 e1
   obtain⟨bs,h2⟩:=a1d I ds r2 e2
   exact⟨_,.cons h1 h2⟩
end
theorem Rd.same{H H':Hp}{a:Addr}{u:HO}(e:g6 H H')(h:Rd H a u):Rd H' a u:=h.elim (fun z=>.inl (e _ _ z)) fun⟨o,z⟩=>.inr ⟨o,e _ _ z⟩
theorem d7.same{K:PySem.W.Frag}{H H':Hp}{a:Addr}{xs:List V}(e:g6 H H')(h:d7 K H a xs):d7 K H' a xs:=h.elim (fun z=>.inl (z.same e)) .inr
theorem i4.same{K:PySem.W.Frag}{H H':Hp}{a:Addr}{xs:List V}(e:g6 H H')(h:i4 K H a xs):i4 K H' a xs:=h.elim (fun z=>.inl (z.same e)) .inr
mutual
theorem Rep.same{K:PySem.W.Frag}{H H':Hp}(e:g6 H H'):∀{d:PyData} {v:V},Rep K H d v→Rep K H' d v
 | .none,v,r=>by unfold Rep at r ⊢;exact r
 | .bool b,v,r=>by unfold Rep at r ⊢;exact r
 | .int i,v,r=>by unfold Rep at r ⊢;exact r
 | .str x,v,r=>by unfold Rep at r ⊢;exact r
 | .list ds,v,r=>by unfold Rep at r ⊢;obtain⟨a,xs,e1,hq,rs⟩:=r;exact⟨a,xs,e1,hq.same e,p5.same e rs⟩
 | .tuple ds,v,r=>by unfold Rep at r ⊢;obtain⟨a,xs,e1,hq,rs⟩:=r;exact⟨a,xs,e1,hq.same e,p5.same e rs⟩
 | .dict _,v,r=>by unfold Rep at r;exact r.elim
theorem p5.same{K:PySem.W.Frag}{H H':Hp}(e:g6 H H'):∀{ds:List PyData} {xs:List V},p5 K H ds xs→p5 K H' ds xs
 | [],xs,r=>by unfold p5 at r ⊢;exact r
 | d::ds,xs,r=>by unfold p5 at r ⊢;obtain⟨y,ys,e1,r1,r2⟩:=r;exact⟨y,ys,e1,Rep.same e r1,p5.same e r2⟩
end
def r9(H H':Hp):Prop:=(∀b xs,H b=some (.tup xs)→H' b=some (.tup xs))∧∀b o xs,H b=some (.frz o (.tup xs))→H' b=some (.frz o (.tup xs))
theorem g6.tupK{H H':Hp}(e:g6 H H'):r9 H H':=⟨fun b xs h=>e b _ h,fun b o xs h=>e b _ h⟩
theorem r9.refl(H:Hp):r9 H H:=⟨fun _ _ h=>h,fun _ _ _ h=>h⟩
theorem r9.trans{H H1 H2:Hp}(a:r9 H H1)(b:r9 H1 H2):r9 H H2:=⟨fun c xs h=>b.1 c xs (a.1 c xs h),fun c o xs h=>b.2 c o xs (a.2 c o xs h)⟩
theorem a2N{H:Hp}{a:Addr}{o:HO}(h:H a=none∨∃xs,H a=some (.lst xs)):r9 H (upd H a o):=by
 have ne:∀b u,H b=some u→(∀xs,u≠.lst xs)→b≠a:=fun b u e hn z=>by
  subst z
  rcases h with q | ⟨xs,q⟩
  ·rw[q]at e;cases e
  ·rw[q]at e;exact hn xs (qW1 e).symm
 exact⟨fun b xs e=>by rw[b7 (ne b _ e fun _ z=>nomatch z)];exact e,fun b o' xs e=>by rw[b7 (ne b _ e fun _ z=>nomatch z)];exact e⟩
theorem C6{H:Hp}{a:Addr}{o:HO}(h:H a=none):r9 H (upd H a o):=a2N (.inl h)
theorem n9{H:Hp}{a:Addr}{o:HO}{xs:List V}(h:H a=some (.lst xs)):r9 H (upd H a o):=a2N (.inr ⟨xs,h⟩)
theorem b9{H:Hp}{p:Addr}{o:HO}(h:H p=none):g6 H (upd H p o):=fun b u q=>by rw[b7 (e7 q h)];exact q
mutual
def fixed:PyData→Bool
 | .none | .bool _ | .int _ | .str _=>true
 | .list _=>false
 | .tuple ds=>b8g ds
 | .dict _=>false
def b8g:List PyData→Bool
 | []=>true
 | d::ds=>fixed d&&b8g ds
end
theorem p5.len{K:PySem.W.Frag}{H:Hp}:∀{ds:List PyData} {xs:List V},p5 K H ds xs→ds.length=xs.length
 | [],xs,r=>by unfold p5 at r;subst r;rfl
 | d::ds,xs,r=>by unfold p5 at r;obtain⟨y,ys,rfl,r1,r2⟩:=r;simp[p5.len r2]
theorem p5.at{K:PySem.W.Frag}{H:Hp}:∀{ds:List PyData} {xs:List V} {i:Nat} {d:PyData},p5 K H ds xs→ds[i]?=some d→∃x,xs[i]?=some x∧Rep K H d x
 | [],xs,i,d,r,e=>by simp at e
 | d::ds,xs,0,e,r,q=>by unfold p5 at r;obtain⟨y,ys,rfl,r1,r2⟩:=r;simp at q;subst q;exact⟨y,rfl,r1⟩
 | d::ds,xs,i+1,e,r,q=>by unfold p5 at r;obtain⟨y,ys,rfl,r1,r2⟩:=r;obtain⟨x,h1,h2⟩:=p5.at (i:=i) r2 (by simpa using q);exact⟨x,by simpa using h1,h2⟩
theorem p5.at'{K:PySem.W.Frag}{H:Hp}:∀{ds:List PyData} {xs:List V} {i:Nat} {x:V},p5 K H ds xs→xs[i]?=some x→∃d,ds[i]?=some d∧Rep K H d x
 | [],xs,i,x,r,e=>by unfold p5 at r;subst r;simp at e
 | d::ds,xs,0,e,r,q=>by unfold p5 at r;obtain⟨y,ys,rfl,r1,r2⟩:=r;simp at q;subst q;exact⟨d,rfl,r1⟩
 | d::ds,xs,i+1,e,r,q=>by unfold p5 at r;obtain⟨y,ys,rfl,r1,r2⟩:=r;obtain⟨x,h1,h2⟩:=p5.at' (i:=i) r2 (by simpa using q);exact⟨x,by simpa using h1,h2⟩
mutual
def u5:PyData→Bool
 | .none | .int _ | .str _=>true
 | .bool _=>false
 | .list ds=>z8 ds
 | .tuple ds=>z8 ds
 | .dict _=>false
def z8:List PyData→Bool
 | []=>true
 | d::ds=>u5 d&&z8 ds
end
mutual
theorem b9a:∀(d e:PyData),u5 d=true→u5 e=true→PyData.eqv d e=true→d=e
 | .none,e,_,he,h=>by cases e<;>simp_all [PyData.eqv]
 | .int i,e,_,he,h=>by cases e<;>simp_all [PyData.eqv,u5]
 | .str i,e,_,he,h=>by cases e<;>simp_all [PyData.eqv,u5]
 | .bool b,e,hd,_,_=>by simp[u5]at hd
 | .dict _,e,hd,_,_=>by simp[u5]at hd
 | .list ds,e,hd,he,h=>by
  cases e with
  | list es=>
   unfold u5 at hd he
   unfold PyData.eqv at h
   rw[a1B ds es hd he h]
  | _=>simp[PyData.eqv]at h
 | .tuple ds,e,hd,he,h=>by
  cases e with
  | tuple es=>
   unfold u5 at hd he
   unfold PyData.eqv at h
   rw[a1B ds es hd he h]
  | _=>simp[PyData.eqv]at h
theorem a1B:∀(ds es:List PyData),z8 ds=true→z8 es=true→PyData.eqvAll ds es=true→ds=es
 | [],[],_,_,_=>rfl
 | [],_::_,_,_,h=>by simp[PyData.eqvAll]at h
 | _::_,[],_,_,h=>by simp[PyData.eqvAll]at h
 | d::ds,e::es,hd,he,h=>by
  unfold z8 at hd he
  unfold PyData.eqvAll at h
  rw[Bool.and_eq_true]at hd he h
  rw[b9a d e hd.1 he.1 h.1,a1B ds es hd.2 he.2 h.2]
end
mutual
theorem a6u:∀(d:PyData),u5 d=true→PyData.eqv d d=true
 | .none,_=>by simp[PyData.eqv]
 | .int i,_=>by simp[PyData.eqv]
 | .str i,_=>by simp[PyData.eqv]
 | .bool b,hd=>by simp[u5]at hd
 | .dict _,hd=>by simp[u5]at hd
 | .list ds,hd=>by unfold u5 at hd;unfold PyData.eqv;exact a4n ds hd
 | .tuple ds,hd=>by unfold u5 at hd;unfold PyData.eqv;exact a4n ds hd
theorem a4n:∀(ds:List PyData),z8 ds=true→PyData.eqvAll ds ds=true
 | [],_=>by simp[PyData.eqvAll]
 | d::ds,hd=>by
  unfold z8 at hd
  rw[Bool.and_eq_true]at hd
  unfold PyData.eqvAll
  rw[Bool.and_eq_true]
  exact⟨a6u d hd.1,a4n ds hd.2⟩
end
def b3w(K:PySem.W.Frag)(neg:Bool):R2:=fun x y H Q=>∃d e,Rep K H d x∧Rep K H e y∧d.canLay0=true∧e.canLay0=true∧d.depth≤60∧Q (.bl (if neg then !PyData.eqv d e else PyData.eqv d e)) H
def b9x(K:PySem.W.Frag)(neg:Bool):R2:=fun x y H Q=>∃d p xs ds,Rep K H d x∧y=.ref p∧(d7 K H p xs∨i4 K H p xs)∧p5 K H ds xs∧d.canLay0=true∧PyData.canLayAll0 ds=true∧d.depth≤60 ∧
 Q (.bl (if neg then !(ds.any fun e=>PyData.eqv e d) else ds.any fun e=>PyData.eqv e d)) H
section
variable{X:Cx}
theorem b0w(hu:X.A.units+64<cLine):D5 X (compareOp .Eq) (b3w X.K false):=by
 intro pins s σ H x y v u Q I rx ry h
 obtain⟨d,e,rd,re,hd,he,hz,q⟩:=h
 obtain⟨as,r1⟩:=J0 I d rd rx
 obtain⟨bs,r2⟩:=J0 I e re ry
 exact PySem.SeqAt.compareEq_reads r1 r2 hd he (by omega) (n4 I q rfl)
theorem a0l(hu:X.A.units+64<cLine):D5 X (compareOp .NotEq) (b3w X.K true):=by
 intro pins s σ H x y v u Q I rx ry h
 obtain⟨d,e,rd,re,hd,he,hz,q⟩:=h
 obtain⟨as,r1⟩:=J0 I d rd rx
 obtain⟨bs,r2⟩:=J0 I e re ry
 exact PySem.SeqAt.compareNe_reads r1 r2 hd he (by omega) (n4 I q rfl)
theorem b9D(hu:X.A.units+64<cLine):D5 X (compareOp .In) (b9x X.K false):=by
 intro pins s σ H x y v u Q I rx ry h
 obtain⟨d,p,xs,ds,rd,rfl,hq,rs,hd,hds,hz,q⟩:=h
 obtain⟨as,r1⟩:=J0 I d rd rx
 rcases hq with hq | hq
 ·obtain⟨bs,r2⟩:=J0 I (.list ds) (show Rep X.K H (.list ds) (.ref p) from by unfold Rep;exact⟨p,xs,rfl,hq,rs⟩) ry
  exact PySem.SeqAt.in_list_reads r2 r1 hds hd (by omega) (n4 I q rfl)
 ·obtain⟨bs,r2⟩:=J0 I (.tuple ds) (show Rep X.K H (.tuple ds) (.ref p) from by unfold Rep;exact⟨p,xs,rfl,hq,rs⟩) ry
  exact PySem.SeqAt.in_tuple_reads r2 r1 hds hd (by omega) (n4 I q rfl)
theorem b5d(hu:X.A.units+64<cLine):D5 X (compareOp .NotIn) (b9x X.K true):=by
 intro pins s σ H x y v u Q I rx ry h
 obtain⟨d,p,xs,ds,rd,rfl,hq,rs,hd,hds,hz,q⟩:=h
 obtain⟨as,r1⟩:=J0 I d rd rx
 rcases hq with hq | hq
 ·obtain⟨bs,r2⟩:=J0 I (.list ds) (show Rep X.K H (.list ds) (.ref p) from by unfold Rep;exact⟨p,xs,rfl,hq,rs⟩) ry
  exact PySem.SeqAt.notIn_list_reads r2 r1 hds hd (by omega) (n4 I q rfl)
 ·obtain⟨bs,r2⟩:=J0 I (.tuple ds) (show Rep X.K H (.tuple ds) (.ref p) from by unfold Rep;exact⟨p,xs,rfl,hq,rs⟩) ry
  exact PySem.SeqAt.notIn_tuple_reads r2 r1 hds hd (by omega) (n4 I q rfl)
end
def TyV(K:PySem.W.Frag)(H:Hp)(x:V)(T:String):Prop:=match x with
 | .non=>T="NoneType"
 | .bl _=>T="bool"
 | .int _=>T="int"
 | .str _=>T="str"
 | .ref a=>(T="list"∧∃xs,d7 K H a xs)∨(T="tuple"∧∃xs,i4 K H a xs)∨(T="dict"∧∃kvs,H a=some (.dK kvs))
 | _=>False
def tyD:PyData→String
 | .none=>"NoneType"
 | .bool _=>"bool"
 | .int _=>"int"
 | .str _=>"str"
 | .list _=>"list"
 | .tuple _=>"tuple"
 | .dict _=>"dict"
theorem Rep.ty{K:PySem.W.Frag}{H:Hp}{d:PyData}{x:V}(r:Rep K H d x):TyV K H x (tyD d):=by
 cases d with
 | none=>unfold Rep at r;subst r;rfl
 | bool b=>unfold Rep at r;subst r;rfl
 | int i=>unfold Rep at r;subst r;rfl
 | str y=>unfold Rep at r;subst r;rfl
 | list ds=>unfold Rep at r;obtain⟨a,xs,rfl,hq,_⟩:=r;exact .inl ⟨rfl,xs,hq⟩
 | tuple ds=>unfold Rep at r;obtain⟨a,xs,rfl,hq,_⟩:=r;exact .inr (.inl ⟨rfl,xs,hq⟩)
 | dict _=>unfold Rep at r;exact r.elim
def Y6(T c:String):Bool:=T==c||(T=="bool"&&c=="int")
def tys:List String:=["NoneType","bool","int","str","list","tuple","dict"]
def a1u:List String:=["int","bool","str","list","tuple"]
theorem a9y(K:PySem.W.Frag):∀T∈tys,∀c∈a1u,PySem.W.kitOne K (.type T) (.type c)=some (Y6 T c):=by
 intro T hT c hc
 simp only[tys,qQ9,List.not_mem_nil,or_false]at hT
 simp only[a1u,qQ9,List.not_mem_nil,or_false]at hc
 rcases hT with rfl | rfl | rfl | rfl | rfl | rfl | rfl<;>rcases hc with rfl | rfl | rfl | rfl | rfl<;>first | rfl | with_unfolding_all rfl
inductive b7A(K:PySem.W.Frag)(xs:List V)(H:Hp)(Q:VK):Prop
 | mk (x:V) (T c:String) (e:xs=[x,.ty c]) (t:TyV K H x T) (m:c∈a1u) (q:Q (.bl (Y6 T c)) H)
section
variable{X:Cx}{pins:List (Addr×Obj)}{σ:St}{H:Hp}{s:Shared}
theorem TyV.mem{K:PySem.W.Frag}{x:V}{T:String}(t:TyV K H x T):T∈tys:=by
 cases x<;>simp only[TyV]at t
 case ref a=>rcases t with ⟨rfl,_⟩ | ⟨rfl,_⟩ | ⟨rfl,_⟩<;>decide
 all_goals first | (subst t;decide) | exact t.elim
theorem a0U(I:Inv X pins σ H s){x:V}{u:Value}{T:String}(rx:RelV x u)(t:TyV X.K H x T):∃φ:Heap→Prop,PySem.W.KitX X.K u (.type T) φ∧φ s.heap∧u≠.builtin "__main__.__loader__#opaque":=by
 cases x<;>simp only[TyV]at t
 case non=>subst t;cases (show u=Value.none from rx);exact⟨_,PySem.W.kitx_none,True.intro,fun z=>nomatch z⟩
 case bl b=>subst t;cases (show u=Value.bool b from rx);exact⟨_,PySem.W.kitx_bool,True.intro,fun z=>nomatch z⟩
 case int i=>subst t;obtain⟨k,rfl⟩:=(show ∃k,u=Value.int i k from rx);exact⟨_,PySem.W.kitx_int,True.intro,fun z=>nomatch z⟩
 case str i=>subst t;obtain⟨k,rfl⟩:=(show ∃k,u=Value.str i k from rx);exact⟨_,PySem.W.kitx_str,True.intro,fun z=>nomatch z⟩
 case ref a=>
  cases (show u=Value.ref a from rx)
  rcases t with ⟨rfl,xs,hq⟩ | ⟨rfl,xs,hq⟩ | ⟨rfl,kvs,hq⟩
  ·obtain⟨its,rv,p,hz⟩:=I.list hq
   obtain⟨o,h1,h2,_⟩:=p.isList
   exact⟨_,PySem.W.kitx_list,⟨o,h1,h2⟩,fun z=>nomatch z⟩
  ·obtain⟨its,rv,p,hz⟩:=I.tuple hq
   obtain⟨o,h1,h2,_⟩:=p
   exact⟨_,PySem.W.kitx_tuple,⟨o,h1,h2⟩,fun z=>nomatch z⟩
  ·obtain⟨_,_,vs,_,p⟩:=(show z9 X.prog X.w H s.heap a (.dK kvs) from I.hok a _ hq)
   obtain⟨o,es,ep,h1,h2,_⟩:=p
   exact⟨_,PySem.W.kitx_dict,⟨o,h1,h2.1⟩,fun z=>nomatch z⟩
 all_goals exact t.elim
theorem t8:K8 X (.builtin "isinstance") (b7A X.K):=by
 intro pins s σ H xs us Q I r h
 obtain⟨x,T,c,rfl,ty,hc,q⟩:=h
 obtain⟨u,v,rfl,ru,rv⟩:=vals2 r
 cases (show v=Value.type c from rv)
 obtain⟨φ,Z,p,ne⟩:=a0U I ru ty
 exact PySem.W.kia_one Z I.kIn p (a9y X.K T ty.mem c hc) ne fun tk=>n4 (I.tok tk) q rfl
theorem b3m(K:PySem.W.Frag){T c d:String}(hT:T∈tys)(hc:c∈a1u)(hd:d∈a1u):PySem.W.kitAny K (.type T) [.type c,.type d]=some (Y6 T c||Y6 T d):=by
 unfold PySem.W.kitAny
 rw[a9y K T hT c hc]
 cases Y6 T c with
 | true=>rfl
 | false=>
  show PySem.W.kitAny K (.type T) [.type d]=_
  unfold PySem.W.kitAny
  rw[a9y K T hT d hd]
  cases Y6 T d<;>rfl
theorem a7l:K8 X (.builtin "isinstance") (fun xs H Q=>∃x T c d p,xs=[x,.ref p]∧H p=some (.tup [.ty c,.ty d])∧TyV X.K H x T∧c∈a1u∧d∈a1u∧Q (.bl (Y6 T c||Y6 T d)) H):=by
 intro pins s σ H xs us Q I r h
 obtain⟨x,T,c,d,tp,rfl,hp,ty,hc,hd,q⟩:=h
 obtain⟨u,v,rfl,ru,rv⟩:=vals2 r
 cases (show v=Value.ref tp from rv)
 obtain⟨φ,Z,p,ne⟩:=a0U I ru ty
 obtain⟨its,rvs,ht,hz⟩:=I.tuple (i4.of hp)
 obtain⟨⟨cls,dd,data,sl⟩,h1,h2,n,h3⟩:=(show s.heap.IsTuple tp its.toArray from ht)
 simp only at h2 h3
 subst h2 h3
 have e:its=[.type c,.type d]:=by
  cases rvs with
  | cons a b=>
   cases b with
   | cons a' b'=>
    cases b'
    rw[show _=Value.type c from a,show _=Value.type d from a']
 subst e
 exact PySem.W.kia_tup Z I.kIn p h1 (b3m X.K ty.mem hc hd) ne fun tk=>n4 (I.tok tk) q rfl
end
end L2
namespace L2
open PySem PySem.Spec PyProof.Rows
section
variable{X:Cx}{own tl:List Str}{scope:Scope}{cl:List (Str×Addr)}{C:Addr}{s₀:Shared}{H₀:Hp}{ex:List Addr}
theorem b6o:IxR (T1 X own tl scope cl C s₀ H₀ ex) (b2h X.K):=k8
theorem N9:IxR (T1 X own tl scope cl C s₀ H₀ ex) (b6i X.K):=h7
theorem a5h:D5 (T1 X own tl scope cl C s₀ H₀ ex) (compareOp .In) (rIn X.K false):=W2
end
end L2
namespace Srt
open PySem PyProof.Rows
structure Sortable(prog:Program)(w:World)(h:Heap)(vs:List Value)(O:KeyOrd)(key:Keyed→O.α):Prop where
 tx:∀v∈vs,∃x t,v=.str x t
 short:vs.length<64
 ord:∀(x y:Str) (t u:Tok),decide (y.cps.toList<x.cps.toList)=false→O.kle (key (.str x t,.str x t)) (key (.str y u,.str y u))
theorem outs{prog:Program}{w:World}{h:Heap}{vs:List Value}{O:KeyOrd}{key:Keyed→O.α}(S:Sortable prog w h vs O key){xs:Array Keyed}(hp:xs.Perm (pairsOf vs))(hs:SortedToK strKind xs (pairsOf vs).size) :
  (xs.toList.map (·.2)).Perm vs∧(xs.toList.map (·.2)).Pairwise (fun x y=>O.kle (key (x,x)) (key (y,y))):=by
 have hl:xs.toList.Perm (vs.zip vs):=by rw[←pairsOf_toList];exact Array.perm_iff_toList_perm.mp hp
 have hm:∀p∈xs.toList,p.1=p.2∧p.1∈vs:=fun p h'=>mem_zip_self (hl.mem_iff.mp h')
 refine⟨?_,?_⟩
 ·have:=hl.map (·.2)
  rwa [show(vs.zip vs).map (·.2)=vs from List.map_snd_zip (qQ7 _)] at this
 ·rw[List.pairwise_map,List.pairwise_iff_getElem]
  intro i j hi hj hij
  have hi':i<xs.size:=by simpa using hi
  have hj':j<xs.size:=by simpa using hj
  have h1:=hs i j (Nat.le_of_lt hij) (by rw[←hp.size_eq];exact hj')
  obtain⟨a1,a2⟩:=hm xs[i] (by simp)
  obtain⟨b1,b2⟩:=hm xs[j] (by simp)
  obtain⟨x,t,ex⟩:=S.tx _ a2
  obtain⟨y,u,ey⟩:=S.tx _ b2
  rw[KK_str hi' (x:=x) (t:=t) (q:=xs[i].2) (Prod.ext ex rfl),KK_str hj' (x:=y) (t:=u) (q:=xs[j].2) (Prod.ext ey rfl)] at h1
  rw[Array.getElem_toList,Array.getElem_toList,←a1,←b1,ex,ey]
  exact S.ord x y t u h1
theorem arr2(xs:Array Keyed):xs.map (·.2)=(xs.toList.map (·.2)).toArray:=by apply Array.toList_inj.mp;simp
section
variable{prog:Program}{w:World}{A:Around}{E:Value→Shared→Prop}{s:Shared}
theorem sort_any{O:KeyOrd}{key:Keyed→O.α}(d:O.α){a:Addr}{vs:List Value}{n:Nat}{P:Fin→Shared→Prop}{h₀:Heap}(oa:s.heap.get? a=some (seqObj "list" vs.toArray n))(hz:vs.length≤sizeLine)(S:Sortable prog w h₀ vs O key)
  (hk:∀b o,h₀.get? b=some o→b≠a∧s.heap.get? b=some o)
  (h:∀out:List Value,out.Perm vs→out.Pairwise (fun x y=>O.kle (key (x,x)) (key (y,y)))→P (.done (.ret .none)) { s with heap:=sortedHeap s.heap a vs out.toArray }) :
  wpAny (model prog w) A (Builtin.«list.sort» ⟨[.ref a],[]⟩) P E s:=by
 have hS:=strsAre_map vs S.tx
 refine list_sort_treeK strKind_oneLt oa hS.keysOf (fun v₁ v₂ rest e=>keyKind_strs (by rw[←e];exact hS)) S.short fun st' hp hs=>?_
 rw[arr2]
 exact h _ (outs S hp hs).1 (outs S hp hs).2
theorem sorted_list{O:KeyOrd}{key:Keyed→O.α}(d:O.α){lst:Addr}{vs:List Value}{Qr:Value→Shared→Prop}(isl:s.heap.IsList lst vs.toArray)(hz:vs.length≤sizeLine)(S:Sortable prog w s.heap vs O key)
  (h:∀out:List Value,out.Perm vs→out.Pairwise (fun x y=>O.kle (key (x,x)) (key (y,y)))→Qr (.ref (s.heap.objs.size+1)) { s with heap:=sortedAll s.heap vs out.toArray }) :
  wpAny (model prog w) A (call (.builtin "sorted") [.ref lst]) Qr E s:=by
 have hS:=strsAre_map vs S.tx
 refine sortedK strKind_oneLt isl hS.keysOf (fun v₁ v₂ rest e=>keyKind_strs (by rw[←e];exact hS)) S.short fun st' hp hs=>?_
 rw[arr2]
 exact h _ (outs S hp hs).1 (outs S hp hs).2
end
end Srt
namespace L2
open PySem PySem.Spec PyProof.Rows Srt
abbrev Atom:=Sum Int (List Nat)
def a1m:Atom→Atom→Bool
 | .inl a,.inl b=>decide (a<b)
 | .inl _,.inr _=>true
 | .inr _,.inl _=>false
 | .inr a,.inr b=>decide (a<b)
theorem a4q:∀a:Atom,a1m a a=false
 | .inl a=>decide_eq_false (Int.lt_irrefl a)
 | .inr a=>decide_eq_false (List.lt_irrefl a)
theorem a4v:∀{a b c:Atom},a1m a b=true→a1m b c=true→a1m a c=true
 | .inl a,.inl b,.inl c,h1,h2=>decide_eq_true (Int.lt_trans (of_decide_eq_true h1) (of_decide_eq_true h2))
 | .inl _,.inl _,.inr _,_,_=>rfl
 | .inl _,.inr _,.inl _,_,h2=>by cases h2
 | .inl _,.inr _,.inr _,_,_=>rfl
 | .inr _,.inl _,_,h1,_=>by cases h1
 | .inr _,.inr _,.inl _,_,h2=>by cases h2
 | .inr a,.inr b,.inr c,h1,h2=>decide_eq_true (List.lt_trans (of_decide_eq_true h1) (of_decide_eq_true h2))
theorem a8Z:∀{a b:Atom},a1m a b=false→a1m b a=false→a=b
 | .inl a,.inl b,h1,h2=>by
  have q1:=of_decide_eq_false h1
  have q2:=of_decide_eq_false h2
  rw[show a=b by omega]
 | .inl _,.inr _,h1,_=>by cases h1
 | .inr _,.inl _,_,h2=>by cases h2
 | .inr a,.inr b,h1,h2=>by
  have q1:=of_decide_eq_false h1
  have q2:=of_decide_eq_false h2
  rw[List.le_antisymm (List.not_lt.mp q2) (List.not_lt.mp q1)]
def P9:List Atom→List Atom→Bool
 | [],[]=>false
 | [],_::_=>true
 | _::_,[]=>false
 | x::xs,y::ys=>if x=y then P9 xs ys else a1m x y
theorem a0r:∀a:List Atom,P9 a a=false
 | []=>rfl
 | x::xs=>by rw[P9,if_pos rfl];exact a0r xs
theorem Y4:∀{a b:List Atom},P9 a b=false→P9 b a=false→a=b
 | [],[],_,_=>rfl
 | [],_::_,h,_=>by cases h
 | _::_,[],_,h=>by cases h
 | x::xs,y::ys,h1,h2=>by
  rw[P9]at h1 h2
  by_cases e:x=y
  ·subst e
   rw[if_pos rfl]at h1 h2
   rw[Y4 h1 h2]
  ·rw[if_neg e]at h1
   rw[if_neg (Ne.symm e)]at h2
   exact absurd (a8Z h1 h2) e
theorem a8g:∀{a b c:List Atom},P9 a b=true→P9 b c=true→P9 a c=true
 | [],[],_,h,_=>by cases h
 | [],_::_,[],_,h=>by cases h
 | [],_::_,_::_,_,_=>rfl
 | _::_,[],_,h,_=>by cases h
 | _::_,_::_,[],_,h=>by cases h
 | x::xs,y::ys,z::zs,h1,h2=>by
  rw[P9]at h1 h2 ⊢
  by_cases e1:x=y
  ·subst e1
   rw[if_pos rfl]at h1
   by_cases e2:x=z
   ·subst e2
    rw[if_pos rfl]at h2 ⊢
    exact a8g h1 h2
   ·rw[if_neg e2]at h2 ⊢
    exact h2
  ·rw[if_neg e1]at h1
   by_cases e2:y=z
   ·subst e2
    rw[if_neg e1]
    exact h1
   ·rw[if_neg e2]at h2
    by_cases e3:x=z
    ·subst e3
     have:=a4v h1 h2
     rw[a4q]at this
     cases this
    ·rw[if_neg e3]
     exact a4v h1 h2
@[reducible] def a0u:KeyOrd where
 α:=List Atom
 blt:=P9
 irrefl:=a0r
 trans:=fun _ _ _=>a8g
 negTrans:=fun a b c h=>by
  cases h1:P9 a b with
  | true=>exact .inl rfl
  | false=>
   refine .inr ?_
   cases h2:P9 b a with
   | true=>exact a8g h2 h
   | false=>rw[←Y4 h1 h2];exact h
 total:=fun _ _=>Y4
theorem b9n(x y:Atom):P9 [x] [y]=a1m x y:=by
 rw[P9]
 by_cases e:x=y
 ·subst e;rw[if_pos rfl,a4q];rfl
 ·rw[if_neg e]
def aU:Value→Atom
 | .int i _=>.inl i
 | .str x _=>.inr x.cps.toList
 | _=>.inl 0
def aV:V→Atom
 | .int i=>.inl i
 | .str x=>.inr x.cps.toList
 | _=>.inl 0
def a3J(_:Heap)(v:Value):List Atom:=[aU v]
def b1m(_:Hp)(v:V):List Atom:=[aV v]
def a1z(_:Hp)(xs:List V):Prop:=xs.length<64∧∀x∈xs,∃z,x=.str z
section
variable{X:Cx}{pins:List (Addr×Obj)}{σ:St}{H:Hp}{s:Shared}
theorem b8j{xs:List V}(S:a1z H xs){x:V}(hx:x∈xs){u:Value}(r:RelV x u):a3J s.heap u=b1m H x:=by
 obtain⟨z,rfl⟩:=S.2 x hx;obtain⟨t,rfl⟩:=r;rfl
theorem a3d(_:Inv X pins σ H s){xs:List V}{us:List Value}(S:a1z H xs)(r:j4 xs us):Sortable X.prog X.w s.heap us a0u (fun p=>a3J s.heap p.1):=by
 refine⟨fun u hu=>?_,by rw[←r.length];exact S.1,fun x y t u h=>?_⟩
 ·have back:∃x∈xs,RelV x u:=by
   clear S
   induction r with
   | nil=>simp at hu
   | cons q t ih=>
    rcases qQ9.mp hu with rfl | hu
    ·exact⟨_,List.mem_cons_self,q⟩
    ·obtain⟨x,h1,h2⟩:=ih hu;exact⟨x,List.mem_cons_of_mem _ h1,h2⟩
  obtain⟨x,hx,rx⟩:=back
  obtain⟨z,rfl⟩:=S.2 x hx
  obtain⟨t,rfl⟩:=rx
  exact⟨z,t,rfl⟩
 ·show P9 [Sum.inr y.cps.toList] [Sum.inr x.cps.toList]=false
  rw[b9n];exact h
theorem j4.perm{us ws:List Value}(p:ws.Perm us):∀{xs:List V},j4 xs us→∃ys,ys.Perm xs∧j4 ys ws:=by
 induction p with
 | nil=>exact fun h=>⟨_,List.Perm.refl _,h⟩
 | cons u _ ih=>
  intro xs h
  cases h with
  | cons r t=>obtain⟨ys,h1,h2⟩:=ih t;exact⟨_,List.Perm.cons _ h1,.cons r h2⟩
 | swap u w l=>
  intro xs h
  cases h with
  | cons r t=>cases t with
   | cons r' t'=>exact⟨_,List.Perm.swap _ _ _,.cons r' (.cons r t')⟩
 | trans _ _ ih1 ih2=>
  intro xs h
  obtain⟨ys,h1,h2⟩:=ih2 h
  obtain⟨zs,h3,h4⟩:=ih1 h2
  exact⟨zs,h3.trans h1,h4⟩
theorem a9c(I:Inv X pins σ H s){xs:List V}(S:a1z H xs):∀{ys:List V} {us:List Value},j4 ys us→(∀y∈ys,y∈xs)→us.map (a3J s.heap)=ys.map (b1m H)
 | _,_,.nil,_=>rfl
 | _,_,.cons r t,h=>by
  rw[List.map_cons,List.map_cons,b8j S (h _ List.mem_cons_self) r,a9c I S t fun y hy=>h y (List.mem_cons_of_mem _ hy)]
def N8(H:Hp)(ys:List V):Prop:=(ys.map (b1m H)).Pairwise a0u.kle
theorem a2e:K8 X (.builtin "sorted") (fun as H Q=>∃p xs,as=[.ref p]∧d7 X.K H p xs∧a1z H xs∧∀l ys,H l=none→ys.Perm xs→N8 H ys→Q (.ref l) (upd H l (.lst ys))):=by
 intro pins s σ H as us Q I r h
 obtain⟨p,xs,rfl,hq,S,q⟩:=h
 obtain⟨u,rfl,ru⟩:=vals1 r
 cases (show u=Value.ref p from ru)
 obtain⟨its,rv,pl,hz⟩:=I.list hq
 refine sorted_list ([]:List Atom) (vs:=its) pl.isList (by rw[←rv.length];exact hz) (a3d I S rv) fun out op os=>?_
 obtain⟨ys,y1,y2⟩:=j4.perm op rv
 obtain⟨e,he⟩:=sortedAll_at s.heap its out.toArray
 have hn:H (s.heap.objs.size+1)=none:=I.hok.fresh (Nat.le_succ _)
 refine⟨.ref (s.heap.objs.size+1),_,I.laid (t':=s.toks) (o:=.lst ys) (fun b o e=>sortedAll_old e) (Nat.le_succ _) ⟨?_,out,e,y2,he⟩,rfl,q _ ys hn y1 ?_⟩
 ·rw[y1.length_eq];exact hz
 ·unfold N8
  rw[←a9c I S y2 fun y hy=>y1.mem_iff.mp hy,List.pairwise_map]
  exact os
end
end L2
namespace TS
open PySem PySem.Spec PyProof.Rows
set_option maxRecDepth 100000
def T6(w:World):Bool:=w.params.followText "set-order"
def Y3(e:Int×Value):Str:=match e.2 with
 | .str x _=>x
 | _=>Str.ofString ""
def R0(w:World)(es:List (Int×Value)):Prop:=∀e∈es,∃k t,e=(hashStr w k,Value.str k t)
def IsT(w:World)(h:Heap)(a:Addr)(ks:List Str):Prop:=
 ∃(o:Obj) (es:Array (Int×Value)) (ep:Nat) (t:SetTable),h.get? a=some o∧o.ExactSet∧o.data=.set es ep t∧R0 w es.toList∧(es.toList.map Y3).Perm ks∧ks.Nodup∧es.size<scanBound∧t.fits es.size=true∧t.led=!T6 w∧(es.size=0∨t.plain=false)
section
variable{prog:Program}{w:World}{A:Around}{E:Value→Shared→Prop}{s:Shared}
theorem IsT.at{h h':Heap}{a:Addr}{ks:List Str}(x:IsT w h a ks)(k:∀o,h.get? a=some o→h'.get? a=some o):IsT w h' a ks:=by
 obtain⟨o,es,ep,t,q,r⟩:=x
 exact⟨o,es,ep,t,k o q,r⟩
theorem IsT.ty{a:Addr}{ks:List Str}(x:IsT w s.heap a ks):s.TypeIs (.ref a) "set":=by
 obtain⟨o,es,ep,t,q,r,_⟩:=x
 exact⟨o,q,r.1⟩
theorem IsT.nodup{h:Heap}{a:Addr}{ks:List Str}(x:IsT w h a ks):ks.Nodup:=by
 obtain⟨o,es,ep,t,q,r,_,_,_,n,_⟩:=x;exact n
theorem IsT.len{h:Heap}{a:Addr}{ks:List Str}(x:IsT w h a ks):ks.length<scanBound:=by
 obtain⟨o,es,ep,t,q,r,_,_,p,n,b,_⟩:=x
 rw[←p.length_eq,qQ0,Array.length_toList];exact b
theorem R0.elems{es:List (Int×Value)}(x:R0 w es):ElemsOf (PySem.strKind prog w) es:=fun e he=>by
 obtain⟨k,t,rfl⟩:=x e he
 exact⟨⟨k,strKind_is prog w k t,rfl⟩,rfl⟩
theorem R0.of_perm{es ds:List (Int×Value)}(x:R0 w es)(p:ds.Perm es):R0 w ds:=fun e he=>x e (p.mem_iff.mp he)
theorem b0d{k:Str}{e:Int×Value}{t:Tok}{j:Str}(he:e=(hashStr w j,Value.str j t)):(PySem.strKind prog w).is k e.2=true↔Y3 e=k:=by
 subst he
 show Value.isStrOf k (Value.str j t)=true↔j=k
 constructor
 ·intro q
  obtain⟨u,z⟩:=Value.isStrOf_shape q
  injection z
 ·rintro rfl;simp[Value.isStrOf]
theorem a1N{es:Array (Int×Value)}(x:R0 w es.toList){ks:List Str}(p:(es.toList.map Y3).Perm ks)(k:Str) :
  (es.toList.findIdx? (fun e=>(PySem.strKind prog w).is k e.2)).isSome=decide (k∈ks):=by
 have key:(∃e∈es.toList,(PySem.strKind prog w).is k e.2=true)↔k∈ks:=by
  rw[←p.mem_iff,qQ3]
  constructor
  ·rintro⟨e,he,q⟩
   obtain⟨j,t,z⟩:=x e he
   exact⟨e,he,(b0d z).mp q⟩
  ·rintro⟨e,he,q⟩
   obtain⟨j,t,z⟩:=x e he
   exact⟨e,he,(b0d z).mpr q⟩
 cases hr:es.toList.findIdx? (fun e=>(PySem.strKind prog w).is k e.2) with
 | none=>
  symm
  rw[Option.isSome_none,decide_eq_false_iff_not,←key]
  rintro⟨e,he,q⟩
  have:=List.findIdx?_eq_none_iff.mp hr e he
  rw[q]at this;cases this
 | some j=>
  symm
  rw[Option.isSome_some,decide_eq_true_eq,←key]
  obtain⟨hj,q,_⟩:=List.findIdx?_eq_some_iff_getElem.mp hr
  exact⟨es.toList[j],List.getElem_mem hj,q⟩
theorem G7{Q:Bool→Shared→Prop}(h:Q (T6 w) s):wpAny (model prog w) A setsByText Q E s:=wpAny_bind (wpAny_askSetting (wpAny_pure h))
theorem b3a{m f v:Nat}{l p:Bool}{hs:Array Int}{t:SetTable}{r:Array Nat}(e:SetTable.laid m f v l p hs=some (t,r)):t.plain=p:=by
 unfold SetTable.laid at e
 cases hc:SetTable.layClean m hs with
 | none=>rw[hc]at e;cases e
 | some z=>rw[hc]at e;injection e with e;injection e with e _;rw[←e]
theorem a3R(t:SetTable)(es:Array (Int×Value))(n:Nat)(z:t.plain=false):(relayAll t es n).2.1.plain=false:=by
 unfold relayAll
 split
 ·rename_i t' r e
  dsimp only
  split
  ·exact(b3a e).trans z
  ·rfl
 ·rfl
theorem b5b(t:SetTable)(es:Array (Int×Value))(h:Int)(x:Value)(z:t.plain=false):(layNew t es h x).2.1.plain=false:=by
 unfold layNew
 split
 ·dsimp only
  unfold SetTable.orStandIn
  split
  ·exact z
  ·rfl
 ·rfl
theorem b4l{m f v:Nat}{l p:Bool}{hs:Array Int}{t:SetTable}{r:Array Nat}(e:SetTable.laid m f v l p hs=some (t,r)):t.led=l:=by
 unfold SetTable.laid at e
 cases hc:SetTable.layClean m hs with
 | none=>rw[hc]at e;cases e
 | some z=>rw[hc]at e;injection e with e;injection e with e _;rw[←e]
theorem b0h(t:SetTable)(es:Array (Int×Value))(n:Nat):(relayAll t es n).2.1.led=t.led:=by
 unfold relayAll
 split
 ·rename_i t' r e
  dsimp only
  split
  ·exact b4l e
  ·rfl
 ·rfl
theorem b8t(t:SetTable)(es:Array (Int×Value))(h:Int)(x:Value):(layNew t es h x).2.1.led=t.led:=by
 unfold layNew
 split
 ·dsimp only
  unfold SetTable.orStandIn
  split<;>rfl
 ·rfl
theorem a9O{b:Bool}{s₁:Shared}{Q:Unit→Shared→Prop}(q:Q () s₁):wpAny (model prog w) A (match b with | true=>rule "set.scan.the-table-gave-way" | false=>pure ()) Q E s₁:=by
 cases b
 ·exact wpAny_pure q
 ·exact wpAny_rule q
theorem IsT.put{h:Heap}{a:Addr}{o:Obj}{es:Array (Int×Value)}{ep:Nat}{t:SetTable}(ho:h.get? a=some o)(hx:o.ExactSet)(hd:o.data=.set es ep t)
  {ds:Array (Int×Value)} {u:SetTable} {ks:List Str} (e:R0 w ds.toList) (p:(ds.toList.map Y3).Perm ks) (n:ks.Nodup) (b:ds.size<scanBound) (f:u.fits ds.size=true) (l:u.led=!T6 w) (c:ds.size=0∨u.plain=false) :
  ∃o',(h.update a (Obj.putSet ds u)).get? a=some o'∧o'.ExactSet∧o'.data=.set ds (ep+1) u∧IsT w (h.update a (Obj.putSet ds u)) a ks:=by
 have g:(h.update a (Obj.putSet ds u)).get? a=some (Obj.putSet ds u o):=Heap.get?_update_self _ ho (by rw[putSet_of ds u hd];rfl)
 rw[putSet_of ds u hd]at g
 exact⟨_,g,hx,rfl,_,ds,ep+1,u,g,hx,rfl,e,p,n,b,f,l,c⟩
end
end TS
namespace TS
open PySem PySem.Spec PyProof.Rows
set_option maxRecDepth 100000
section
variable{prog:Program}{w:World}{A:Around}{E:Value→Shared→Prop}{s:Shared}
theorem b3n{a:Addr}{ks:List Str}{k:Str}{tk:Tok}{Q:Option Nat→Shared→Prop}(I:IsT w s.heap a ks)
  (h:∀r:Option Nat,r.isSome=decide (k∈ks)→Q r s):wpAny (model prog w) A (setFind a (.str k tk) (hashStr w k)) Q E s:=by
 obtain⟨o,es,ep,t,ho,hx,hd,he,hp,hn,hb,hf,hl,hc⟩:=I
 unfold setFind setFindIn
 refine wpAny_bind (wpAny_setState_of ho hd hf ?_)
 dsimp only
 rw[byScan_of (knd:=PySem.strKind prog w) (x:=.str k tk) rfl hb he.elems,if_pos rfl]
 refine wpAny_bind (wpAny_rule (wpAny_bind (wpAny_setScan_of (knd:=PySem.strKind prog w) (strKind_is prog w k tk) ho hd hf he.elems ?_)))
 have m:=a1N (prog:=prog) he hp k
 cases hr:es.toList.findIdx? (fun e=>(PySem.strKind prog w).is k e.2) with
 | none=>rw[hr]at m;exact wpAny_pure (h none m)
 | some j=>rw[hr]at m;exact wpAny_pure (h (some (0+j)) m)
def K7(ks:List Str)(k:Str):List Str:=if k∈ks then ks else ks++[k]
theorem a9W{ks:List Str}(n:ks.Nodup)(k:Str):(K7 ks k).Nodup:=by
 unfold K7
 split
 ·exact n
 ·rename_i z
  refine List.nodup_append.mpr ⟨n,by simp,fun x hx y hy e=>?_⟩
  rw[qQ2]at hy
  exact z (by rw[←hy,←e];exact hx)
theorem a5P{ks:List Str}{k x:Str}:x∈K7 ks k↔x∈ks∨x=k:=by
 unfold K7
 split
 ·rename_i z;exact⟨.inl,fun q=>q.elim id fun e=>e▸z⟩
 ·rw[qQ5,qQ2]
theorem a6M(ks:List Str)(k:Str):(K7 ks k).length≤ks.length+1:=by
 unfold K7;split<;>simp
theorem a9U{a:Addr}{ks:List Str}{k:Str}{tk:Tok}{Q:Bool→Shared→Prop}(I:IsT w s.heap a ks)(room:ks.length+1<scanBound)
  (h:∀h',Heap.SameBut a s.heap h'→IsT w h' a (K7 ks k)→Q (!decide (k∈ks)) { s with heap:=h' }) :
  wpAny (model prog w) A (setAddHashed a (.str k tk) (hashStr w k)) Q E s:=by
 obtain⟨o,es,ep,t,ho,hx,hd,he,hp,hn,hb,hf,hl,hc⟩:=id I
 have sz:es.size=ks.length:=by rw[←hp.length_eq,qQ0,Array.length_toList]
 unfold setAddHashed setAddHashedIn
 refine wpAny_holding (wpAny_bind (wpAny_setState_of ho hd hf ?_))
 dsimp only
 rw[byScan_of (knd:=PySem.strKind prog w) (x:=.str k tk) rfl hb he.elems,if_pos rfl]
 unfold setAddByScan
 refine wpAny_bind (wpAny_bind (wpAny_rule (wpAny_bind (wpAny_setScan_of (knd:=PySem.strKind prog w) (strKind_is prog w k tk) ho hd hf he.elems ?_))))
 have m:=a1N (prog:=prog) he hp k
 cases hr:es.toList.findIdx? (fun e=>(PySem.strKind prog w).is k e.2) with
 | some j=>
  rw[hr]at m
  have mk:k∈ks:=of_decide_eq_true m.symm
  refine wpAny_pure (wpAny_pure ?_)
  have q:=h s.heap (Heap.SameBut.refl a s.heap)
  unfold K7 at q
  rw[if_pos mk,decide_eq_true mk]at q
  exact q I
 | none=>
  rw[hr]at m
  have mk:k∉ks:=of_decide_eq_false m.symm
  have hadd:K7 ks k=ks++[k]:=if_neg mk
  have nd:=a9W hn k
  rw[hadd]at h nd
  rw[decide_eq_false mk]at h
  dsimp only
  have lp:=layNew_perm t es (hashStr w k) (.str k tk)
  have lf:=layNew_fits t es (hashStr w k) (.str k tk)
  have ll:=b8t t es (hashStr w k) (.str k tk)
  have lq:=b5b t es (hashStr w k) (.str k tk)
  generalize layNew t es (hashStr w k) (.str k tk)=L at lp lf ll lq ⊢
  obtain⟨ds,u,dum,gv⟩:=L
  dsimp only at lp lf ll lq ⊢
  rw[Array.toList_push]at lp
  have e1:R0 w ds.toList:=fun e q=>by
   rcases qQ5.mp (lp.mem_iff.mp q) with q | q
   ·exact he e q
   ·rw[qQ2]at q;exact⟨k,tk,q⟩
  have p1:(ds.toList.map Y3).Perm (ks++[k]):=(lp.map Y3).trans (by rw[qQ6];exact hp.append_right _)
  have b1:ds.size<scanBound:=by
   rw[←Array.length_toList,←qQ0 (f:=Y3),p1.length_eq,qQ4];exact room
  have hz:ds.size≤sizeLine:=fits_of_scanBound b1
  refine wpAny_bind (a9O ?_)
  have tail:∀u':SetTable,u'.fits ds.size=true→u'.led=!T6 w→u'.plain=false→wpAny (model prog w) A (do
    storeSet a ds u'
    if (!dum&&u'.tooFull)=true then do
      (match (relayAll u' ds (SetTable.grown ds.size)).2.2 with | true=>rule "set.scan.the-table-gave-way" | false=>pure ())
      storeSet a (relayAll u' ds (SetTable.grown ds.size)).1 (relayAll u' ds (SetTable.grown ds.size)).2.1
      pure (some true)
     else pure (some true)) (fun r s'=>r=some true∧Q true s') E s:=by
   intro u' f' l' c'
   refine wpAny_bind (wpAny_storeSet_of ho hd ?_ hz)
   obtain⟨o',g1,g2,g3,g4⟩:=IsT.put ho hx hd e1 p1 nd b1 f' l' (.inr c')
   have sb:=Heap.SameBut.update s.heap a (Obj.putSet ds u')
   split
   ·have rp:=relayAll_perm u' ds (SetTable.grown ds.size)
    have rf:=relayAll_fits u' ds (SetTable.grown ds.size)
    have rq:=a3R u' ds (SetTable.grown ds.size) c'
    have rl:=b0h u' ds (SetTable.grown ds.size)
    generalize relayAll u' ds (SetTable.grown ds.size)=R at rp rf rl rq ⊢
    obtain⟨cs,v,gv'⟩:=R
    dsimp only at rp rf rl rq ⊢
    have zc:cs.size=ds.size:=by rw[←Array.length_toList,rp.length_eq,Array.length_toList]
    refine wpAny_bind (a9O ?_)
    refine wpAny_bind (wpAny_storeSet_of g1 g3 ?_ (by rw[zc];exact hz))
    obtain⟨o'',_,_,_,y⟩:=IsT.put g1 g2 g3 (e1.of_perm rp) ((rp.map Y3).trans p1) nd (by rw[zc];exact b1) rf (rl.trans l') (.inr rq)
    exact wpAny_pure ⟨rfl,h _ (sb.trans (Heap.SameBut.update _ a _)) y⟩
   ·exact wpAny_pure ⟨rfl,h _ sb g4⟩
  have fin:∀(r:Option Bool) (s':Shared),(r=some true∧Q true s')→wpAny (model prog w) A (match r with
    | some added=>pure added
    | none=>setAddHashedIn a (.str k tk) (hashStr w k) 99999) Q E s':=fun r s' q=>by
   obtain⟨rfl,q⟩:=q;exact wpAny_pure q
  split
  ·refine wpAny_bind ?_
   rw[hashByValue_scannable 8 (x:=.str k tk) rfl]
   refine wpAny_pure ?_
   show wpAny _ _ (do
    storeSet a ds { u with plain:=false }
    _) _ _ _
   refine wpAny_mono (tail { u with plain:=false } (SetTable.fits_plain_off lf) (ll.trans hl) rfl) (fun r s' q=>?_) fun _ _ x=>x
   obtain⟨rfl,q⟩:=q;exact wpAny_pure q
  ·refine wpAny_bind (wpAny_pure ?_)
   simp only[↓reduceIte]
   refine wpAny_mono (tail u lf (ll.trans hl) (by rename_i z;exact Bool.eq_false_iff.mpr z)) (fun r s' q=>?_) fun _ _ x=>x
   obtain⟨rfl,q⟩:=q;exact wpAny_pure q
theorem b2q{Q:Value→Shared→Prop} (h:IsT w (s.heap.push { cls:=.type "set",dict:=none,data:=.set #[] 0 (.fresh 0 0 (!T6 w)) }) s.heap.objs.size [] →
   Q (.ref s.heap.objs.size) { s with heap:=s.heap.push { cls:=.type "set",dict:=none,data:=.set #[] 0 (.fresh 0 0 (!T6 w)) } }) :
  wpAny (model prog w) A (newSet (.type "set")) Q E s:=by
 unfold newSet
 refine wpAny_bind (G7 ?_)
 simp only[newObj]
 refine wpAny_bind (wpAny_alloc (wpAny_pure (h ?_)))
 exact⟨_,#[],0,.fresh 0 0 (!T6 w),Heap.get?_push_size _ rfl,⟨rfl,rfl,rfl⟩,rfl,fun e q=>by simp at q,by simp,by simp,by decide,rfl,rfl,.inl rfl⟩
end
end TS
namespace TS
open PySem PySem.Spec PyProof.Rows
set_option maxRecDepth 100000
def S6(vs:List Value)(ks:List Str):Prop:=Paired (fun v k=>∃t,v=Value.str k t) vs ks
theorem S6.at:∀{vs:List Value} {ks:List Str},S6 vs ks→∀(i:Nat) (v:Value),vs[i]?=some v→∃k t,ks[i]?=some k∧v=.str k t
 | _,_,.nil,i,v,h=>by simp at h
 | _,_,.cons ⟨t,q⟩ r,0,v,h=>by
  simp at h
  exact⟨_,t,by simp,h▸q⟩
 | _,_,.cons _ r,i+1,v,h=>by
  simp only[List.getElem?_cons_succ]at h
  obtain⟨k,t,a,b⟩:=S6.at r i v h
  exact⟨k,t,by simpa using a,b⟩
theorem S6.len{vs:List Value}{ks:List Str}(h:S6 vs ks):vs.length=ks.length:=by
 induction h with
 | nil=>rfl
 | cons _ _ ih=>simp[ih]
def once(ks:List Str):List Str:=ks.foldl K7 []
theorem b4b(ks:List Str)(k:Str):once (ks++[k])=K7 (once ks) k:=by unfold once;rw[List.foldl_append];rfl
theorem a2E:∀(ks acc:List Str) (x:Str),x∈ks.foldl K7 acc↔x∈acc∨x∈ks
 | [],acc,x=>by simp
 | k::ks,acc,x=>by
  rw[List.foldl_cons,a2E ks,a5P,qQ9]
  constructor
  ·rintro((h | h) | h)
   ·exact .inl h
   ·exact .inr (.inl h)
   ·exact .inr (.inr h)
  ·rintro(h | h | h)
   ·exact .inl (.inl h)
   ·exact .inl (.inr h)
   ·exact .inr h
theorem a6r{ks:List Str}{x:Str}:x∈once ks↔x∈ks:=by unfold once;rw[a2E];simp
theorem a9F:∀(ks acc:List Str),(ks.foldl K7 acc).length≤acc.length+ks.length
 | [],acc=>qQ7 _
 | k::ks,acc=>by
  have a:=a9F ks (K7 acc k)
  have b:=a6M acc k
  rw[List.foldl_cons,List.length_cons];omega
theorem a2r(ks:List Str):(once ks).length≤ks.length:=by have:=a9F ks [];simpa [once] using this
section
variable{prog:Program}{w:World}{A:Around}{E:Value→Shared→Prop}{s:Shared}{R:Result→Shared→Prop}
theorem b6m(hh:A.handled=none){S I l:Addr}{vs:List Value}{ks:List Str}(tx:S6 vs ks)(hb:ks.length+1<scanBound)(n1:S≠I)(n2:S≠l)(n3:l≠I) :
  ∀(d i:Nat) (s:Shared),vs.length-i=d→i≤vs.length→s.heap.IsListIter I l i→s.heap.IsList l vs.toArray→IsT w s.heap S (once (ks.take i)) →
   (∀h' tk,(∀b o,b≠S→b≠I→s.heap.get? b=some o→h'.get? b=some o)→IsT w h' S (once ks)→R (.ok (.ret .none)) { s with heap:=h',toks:=tk }) →
   codeAny (model prog w) A (.builtin "set.update.loop" ⟨[.ref S,.ref I],[]⟩) R s:=by
 intro d
 induction d with
 | zero=>
  intro i s e1 e2 hit hl hS hR
  have en:i=vs.length:=by omega
  refine codeAny_builtin F.entry_set_update_loop ?_
  rw[Around.under_plainId F.plain_set_update_loop _]
  show wpAny _ A.in1 (pyNext (.ref I) >>= _) _ _ s
  refine wpAny_bind (wpAny_pyNext_list_end (A:=A.in1) (by simpa using hh) hit hl (by simp;omega) fun h' eb=>?_)
  refine wpAny_pure (hR h' s.toks (fun b o _ hb q=>eb b o hb q) (IsT.at ?_ fun o q=>eb S o n1 q))
  rw[List.take_of_length_le (by rw[←tx.len];omega)] at hS
  exact hS
 | succ d ih=>
  intro i s e1 e2 hit hl hS hR
  have lt:i<vs.length:=by omega
  refine codeAny_builtin F.entry_set_update_loop ?_
  rw[Around.under_plainId F.plain_set_update_loop _]
  show wpAny _ A.in1 (pyNext (.ref I) >>= _) _ _ s
  have gx:vs.toArray[i]?=some vs[i]:=by simp[lt]
  obtain⟨k,t,q1,q2⟩:=tx.at i vs[i] (by simp[lt])
  refine wpAny_bind (wpAny_pyNext_list_item (A:=A.in1) hit hl gx fun h1 hit1 sb1=>?_)
  rw[q2]
  show wpAny _ A.in1 (holding [Value.str k t] (setAdd S (.str k t)) >>= _) _ _ _
  refine wpAny_bind (wpAny_holding ?_)
  unfold setAdd
  refine wpAny_holding (wpAny_bind ((PySem.strKind prog w).pyHash (strKind_is prog w k t) ?_))
  have hS1:IsT w h1 S (once (ks.take i)):=hS.at fun o q=>(sb1.2 S n1).trans q
  have rm:(once (ks.take i)).length+1<scanBound:=by
   have a:=a2r (ks.take i)
   have b:(ks.take i).length≤ks.length:=by simp;omega
   omega
  refine a9U (s:={ s with heap:=h1,toks:=s.toks+1 }) hS1 rm fun h2 sb2 hS2=>?_
  have tk1:ks.take (i+1)=ks.take i++[k]:=by
   rw[List.take_add_one,q1];rfl
  refine wpAny_pure ⟨plainId_quiet F.plain_set_update_loop _,ih (i+1) _ (by omega) lt ?_ ?_ ?_ fun h' tk kp hS'=>?_⟩
  ·exact hit1.at fun o q=>(sb2.2 I (Ne.symm n1)).trans q
  ·exact hl.at fun o q=>(sb2.2 l (Ne.symm n2)).trans ((sb1.2 l n3).trans q)
  ·rw[tk1,b4b];exact hS2
  ·exact hR h' tk (fun b o a1 a2 q=>kp b o a1 a2 ((sb2.2 b a1).trans ((sb1.2 b a2).trans q))) hS'
def freshT(w:World):Obj:={ cls:=.type "set",dict:=none,data:=.set #[] 0 (.fresh 0 0 (!T6 w)) }
theorem b8b{h:Heap}{a:Addr}(e:h.get? a=some (freshT w)):IsT w h a []:=
 ⟨_,#[],0,.fresh 0 0 (!T6 w),e,⟨rfl,rfl,rfl⟩,rfl,fun e q=>by simp at q,by simp,by simp,by decide,rfl,rfl,.inl rfl⟩
theorem b7q{x:Value}{Q:Value→Shared→Prop}(h:Q (.ref s.heap.objs.size) { s with heap:=s.heap.push (freshT w) }) :
  codeAny (model prog w) A (.call (.builtin "set.__new__") ⟨[.type "set",x],[]⟩) (wants Q E) s:=by
 refine codeAny_of_tree ?_
 show wpAny _ A.in1 (do checkBuiltinCall "set.__new__" ⟨[.type "set",x],[]⟩;again (.builtin "set.__new__" ⟨[.type "set",x],[]⟩)) _ _ s
 refine wpAny_bind (wpAny_of_eq (F.newCall_set_1 x) (wpAny_pure ⟨plainId_quiet F.plain_set_new _,codeAny_builtin F.entry_set_new ?_⟩))
 rw[Around.under_plainId F.plain_set_new _]
 unfold Builtin.«set.__new__» Builtin.Frozenset.newClass
 have sb:=sub_set_self
 obtain⟨hp,g,d,tk,os⟩:=s
 dsimp only
 wp_walk
 refine wpAny_askSetting (wpAny_pure ?_)
 dsimp only
 simp only[newObj]
 exact wpAny_bind (wpAny_alloc (wpAny_pure (wpAny_pure h)))
end
end TS
namespace TS
open PySem PySem.Spec PyProof.Rows
set_option maxRecDepth 100000
section
variable{prog:Program}{w:World}{A:Around}{E:Value→Shared→Prop}{s:Shared}
set_option maxHeartbeats 3200000 in
theorem a4S{l:Addr}{vs:List Value}{ks:List Str}{Q:Value→Shared→Prop}(hh:A.handled=none)(isL:s.heap.IsList l vs.toArray)(tx:S6 vs ks)(hb:ks.length+1<scanBound)
  (h:∀(h':Heap) (tk:Nat),IsT w h' s.heap.objs.size (once ks)→(∀b o,s.heap.get? b=some o→h'.get? b=some o)→Q (.ref s.heap.objs.size) { s with heap:=h',toks:=tk }) :
  wpAny (model prog w) A (call (.type "set") [.ref l]) Q E s:=by
 obtain⟨c,tl,mroS⟩:=F.called_set.mro
 have madeS:=F.called_set.made
 have subS:=F.called_set.sub
 refine wpAny_call (codeAny_of_tree ?_)
 show wpAny _ _ (callAny (.type "set") _) _ _ _
 refine wpAny_pure ⟨Code.quiet_builtin _ (by decide +kernel),codeAny_builtin F.entry_type_call ?_⟩
 rw[Around.under_plain (weight_type_call_type "set" [.ref l] []) rfl]
 have notT:=F.called_set.notType
 have canC:=F.called_set.canCreate
 have callOk:=F.typeCall_set_1 (.ref l)
 repeat (any_goals (first | assumption | wp_step))
 refine codeAny_mono (b7q (x:=.ref l) (E:=E) (Q:=fun obj sa=>obj=.ref s.heap.objs.size∧sa={ s with heap:=s.heap.push (freshT w) }) ⟨rfl,rfl⟩) fun r sa ra=>?_
 cases r with
 | error e=>exact ra
 | ok flo=>
  cases flo with
  | ret obj=>
   obtain⟨rfl,rfl⟩:=ra
   have atS:(s.heap.push (freshT w)).get? s.heap.objs.size=some (freshT w):=Heap.get?_push_size _ rfl
   have tyS:Shared.TypeIs { s with heap:=s.heap.push (freshT w) } (.ref s.heap.objs.size) "set":=⟨_,atS,rfl⟩
   have lookI:=F.called_set.init.lookup
   have bindI:=F.called_set.init.bind (.ref s.heap.objs.size)
   repeat (any_goals (first | assumption | wp_step))
   refine codeAny_mono (codeAny_call_builtin (R:=wants (fun r st=>r=.none∧∃h' tk,st={ s with heap:=h',toks:=tk }∧IsT w h' s.heap.objs.size (once ks) ∧
     (∀b o,s.heap.get? b=some o→h'.get? b=some o)) E) F.called_set.init.plain F.entry_set_init (check_set_init_1 tyS ?_)) fun res st rb=>?_
   ·obtain⟨lo,getL,clsL,epL,datL⟩:=isL
    obtain⟨c0,d0,x0,s0⟩:=lo
    simp only at clsL datL
    subst clsL;subst datL
    have getL':(s.heap.push (freshT w)).get? l=some { cls:=.type "list",dict:=d0,data:=.seq vs.toArray epL,slots:=s0 }:=Heap.get?_push_of_some _ getL
    have noS:=F.sub_list_set
    have noF:=F.sub_list_frozenset
    have noD:(Value.type "list"==Value.type "dict")=false:=by decide
    have isL1:(s.heap.push (freshT w)).IsList l vs.toArray:=⟨_,getL',rfl,epL,rfl⟩
    unfold Builtin.«set.__init__» noKeywords Builtin.Frozenset.updateFrom
    generalize keepPI:pyIter=PI
    wp_walk
    subst keepPI
    refine wpAny_pyIter_list isL1 ?_
    refine wpAny_bind (wpAny_runValue ?_)
    have lS:l<s.heap.objs.size:=Heap.lt_size getL
    have h3:A.in1.in1.in1.handled=none:=by simp[hh]
    have zI:(s.heap.push (freshT w)).objs.size=s.heap.objs.size+1:=Heap.size_push ..
    refine b6m (S:=s.heap.objs.size) (by simp[hh]) tx hb (by rw[zI];exact Nat.ne_of_lt (Nat.lt_succ_self _)) (Nat.ne_of_gt lS) (by rw[zI];exact Nat.ne_of_lt (Nat.lt_succ_of_lt lS))
     (vs.length-0) 0 _ rfl (Nat.zero_le _) ⟨_,Heap.get?_push_size _ rfl,rfl,rfl⟩ (isL1.push _) ?hS0 ?hR
    case hS0=>exact b8b (Heap.get?_push_of_some _ atS)
    case hR=>
     intro h' tk' kp isS
     show wpAny _ _ _ _ _ _
     refine wpAny_pure ?_
     show wpAny _ _ (ret Value.none) _ _ _
     refine wpAny_pure ⟨rfl,h',tk',rfl,isS,fun b o e=>?_⟩
     have bl:=Heap.lt_size e
     exact kp b o (Nat.ne_of_lt bl) (by rw[zI];exact Nat.ne_of_lt (Nat.lt_succ_of_lt bl)) (Heap.get?_push_of_some _ (Heap.get?_push_of_some _ e))
   ·cases res with
    | error e=>exact rb
    | ok flow=>
     cases flow with
     | ret r=>
      obtain⟨rfl,h',tk,rfl,isS,old⟩:=rb
      repeat (any_goals (first | assumption | wp_step))
      exact h _ _ isS old
     | _=>exact rb.elim
  | _=>exact ra.elim
end
end TS
namespace TS
open PySem PySem.Spec PyProof.Rows
set_option maxRecDepth 100000
theorem a4g{α:Type}:∀(l:List α) (i:Nat) (h:i<l.length),(l[i]::l.eraseIdx i).Perm l
 | x::l,0,_=>List.Perm.refl _
 | x::l,i+1,h=>by
  have ih:=a4g l i (by simpa using h)
  rw[List.getElem_cons_succ,List.eraseIdx_cons_succ]
  exact(List.Perm.swap _ _ _).trans (ih.cons x)
theorem a0V{α:Type}(nx:Nat→Nat):∀(n k:Nat) (l:List α) (out:Array α),n=l.length→(pickOrder.go nx n k l out).toList.Perm (out.toList++l)
 | 0,k,l,out,e=>by
  have:l=[]:=List.eq_nil_of_length_eq_zero e.symm
  subst this;rw[pickOrder.go,List.append_nil]
 | n+1,k,l,out,e=>by
  rw[pickOrder.go]
  have lt:nx k % l.length<l.length:=Nat.mod_lt _ (by omega)
  rw[List.getElem?_eq_getElem lt]
  dsimp only
  refine(a0V nx n (k+1) _ _ (by rw[List.length_eraseIdx_of_lt lt];omega)).trans ?_
  rw[Array.toList_push,List.append_assoc]
  refine List.Perm.append_left _ ?_
  exact a4g l _ lt
theorem a5c{α:Type}(nx:Nat→Nat)(xs:Array α):(pickOrder nx xs).toList.Perm xs.toList:=by
 have:=a0V nx xs.size 0 xs.toList #[] (by simp)
 simpa [pickOrder] using this
section
variable{prog:Program}{w:World}{A:Around}{E:Value→Shared→Prop}{s:Shared}
theorem b5m{es:Array (Int×Value)}(e:R0 w es.toList){β:Type}{f:Int×Value→β→Sem (ForInStep β)}{b:β}(hf:∀x∈es.toList,f x b=pure (.yield b)) :
  (forIn es b f:Sem β)=pure b:=by
 rw[←Array.forIn_toList]
 generalize es.toList=l at hf
 clear e
 induction l with
 | nil=>rfl
 | cons x l ih=>
  rw[List.forIn_cons,hf x List.mem_cons_self]
  exact ih fun y hy=>hf y (List.mem_cons_of_mem _ hy)
theorem N4{a:Addr}{ks:List Str}{Q:Array (Int×Value)→Shared→Prop}(I:IsT w s.heap a ks)(h:∀es:Array (Int×Value),R0 w es.toList→es.size=ks.length→Q es s) :
  wpAny (model prog w) A (setEntries a) Q E s:=by
 obtain⟨o,es,ep,t,ho,hx,hd,he,hp,hn,hb,hf,hl,hc⟩:=I
 unfold setEntries
 exact wpAny_bind (wpAny_setState_of ho hd hf (wpAny_pure (h es he (by rw[←hp.length_eq,qQ0,Array.length_toList]))))
theorem b9e:∀{l:List Addr} {Q:Bool→Shared→Prop},(∀a∈l,∃ks,IsT w s.heap a ks)→Q true s→wpAny (model prog w) A (setsQuiet l) Q E s:=by
 intro l Q hl h
 unfold setsQuiet
 induction l with
 | nil=>exact wpAny_pure h
 | cons a l ih=>
  obtain⟨ks,I⟩:=hl a List.mem_cons_self
  have ih':=ih fun b hb=>hl b (List.mem_cons_of_mem _ hb)
  dsimp only at ih' ⊢
  rw[List.forIn_cons,bind_assoc]
  refine wpAny_bind (wpAny_bind (N4 I fun es he _=>?_))
  rw[b5m he (fun x hx=>by obtain⟨k,t,rfl⟩:=he x hx;rfl)]
  refine wpAny_bind (wpAny_pure ?_)
  exact wpAny_pure ih'
end
end TS
namespace TS
open PySem PySem.Spec PyProof.Rows
set_option maxRecDepth 100000
section
variable{prog:Program}{w:World}{A:Around}{E:Value→Shared→Prop}{s:Shared}
theorem b0f{ds es:Array (Int×Value)}{ks:List Str}(p:ds.toList.Perm es.toList)(q:(es.toList.map Y3).Perm ks):(ds.toList.map Y3).Perm ks:=(p.map Y3).trans q
theorem b0a{a b r:Addr}{ks js rs:List Str}{Q:Array (Int×Value)→Shared→Prop}(Ia:IsT w s.heap a ks)(Ib:IsT w s.heap b js)(Ir:IsT w s.heap r rs)
  (h:∀(ds:Array (Int×Value)) h',R0 w ds.toList→(ds.toList.map Y3).Perm ks→Heap.SameBut r s.heap h'→IsT w h' r rs→Q ds { s with heap:=h' }) :
  wpAny (model prog w) A (setWalkUnseen a [b,r] (some r)) Q E s:=by
 obtain⟨o,es,ep,t,ho,hx,hd,he,hp,hn,hb,hf,hl,hc⟩:=id Ia
 have same:∀ds:Array (Int×Value),R0 w ds.toList→(ds.toList.map Y3).Perm ks→Q ds s:=fun ds e1 p1=>h ds s.heap e1 p1 (Heap.SameBut.refl _ _) Ir
 unfold setWalkUnseen
 refine wpAny_bind (wpAny_setState_of ho hd hf ?_)
 dsimp only
 refine wpAny_bind (G7 ?_)
 by_cases c:(T6 w||(t.led&&t.plain)||decide (es.size≤1))=true
 ·rw[if_pos c]
  unfold setWalk
  refine wpAny_bind (wpAny_setState_of ho hd hf ?_)
  dsimp only
  refine wpAny_bind (G7 ?_)
  cases hbt:T6 w with
  | true=>
   rw[if_pos rfl]
   refine wpAny_bind (wpAny_askSetting (wpAny_pure ?_))
   exact same _ (he.of_perm (a5c _ _)) (b0f (a5c _ _) hp)
  | false=>
   rw[if_neg Bool.false_ne_true]
   rw[hbt]at hl c
   have hl':t.led=true:=hl
   have nd:(!t.plain&&decide (es.size>1))=false:=by
    rw[hl']at c
    cases hpl:t.plain with
    | true=>rfl
    | false=>rw[hpl]at c;simp at c ⊢;exact c
   show wpAny _ _ (if (!t.plain&&decide (es.size>1))=true then _ else _) _ _ _
   rw[if_neg (by rw[nd];exact Bool.false_ne_true)]
   show wpAny _ _ ((if (!t.led&&decide (es.size>1))=true then unsupported "set:maker-not-led" else pure ()) >>= _) _ _ _
   rw[if_neg (by rw[hl'];simp)]
   exact wpAny_bind (wpAny_pure (wpAny_pure (same es he hp)))
 ·rw[if_neg c]
  refine wpAny_bind (b9e (fun x hx=>?_) ?_)
  ·simp only[qQ9,List.not_mem_nil,or_false]at hx
   rcases hx with rfl | rfl | rfl
   ·exact⟨_,Ia⟩
   ·exact⟨_,Ib⟩
   ·exact⟨_,Ir⟩
  ·simp only[Bool.not_true,Bool.false_eq_true,if_false]
   refine wpAny_bind (wpAny_rule ?_)
   obtain⟨o',es',ep',t',ho',hx',hd',he',hp',hn',hb',hf',hl',hc'⟩:=id Ir
   refine wpAny_bind (wpAny_setState_of ho' hd' hf' ?_)
   dsimp only
   split
   ·refine wpAny_bind (wpAny_storeSet_of ho' hd' ?_ (fits_of_scanBound hb'))
    have f2:({ t' with led:=t'.led&&t.led,plain:=t'.plain&&t.plain }:SetTable).fits es'.size=true:=by cases t';exact hf'
    have l2:({ t' with led:=t'.led&&t.led,plain:=t'.plain&&t.plain }:SetTable).led=!T6 w:=by
     show(t'.led&&t.led)=_
     rw[hl',hl,Bool.and_self]
    obtain⟨_,_,_,_,y⟩:=IsT.put ho' hx' hd' he' hp' hn' hb' f2 l2 (hc'.imp id fun z=>by show(t'.plain&&t.plain)=false;rw[z];rfl)
    exact wpAny_pure (h es _ he hp (Heap.SameBut.update ..) y)
   ·exact wpAny_pure (same es he hp)
def a6I(js:List Str)(ds:List Str)(rs:List Str):List Str:=ds.foldl (fun r k=>if k∈js then K7 r k else r) rs
theorem a7E{id:String}{wk b r:Addr}{js:List Str}(n1:b≠r)(n2:wk≠r)(nn:wk≠r):∀(ds:List (Int×Value)) (rs ks:List Str) (ep:Nat) (s:Shared) {Q:PUnit→Shared→Prop},
  R0 w ds→IsT w s.heap b js→IsT w s.heap wk ks→(∃o es t,s.heap.get? wk=some o∧o.data=.set es ep t∧t.fits es.size=true)→IsT w s.heap r rs→rs.length+ds.length+1<scanBound →
  (∀h',Heap.SameBut r s.heap h'→IsT w h' r (a6I js (ds.map Y3) rs)→Q ⟨⟩ { s with heap:=h' }) →
  wpAny (model prog w) A (forIn ds PUnit.unit fun(e:Int×Value) (_:PUnit)=>do
    holding [e.2] do
     let f ←setFind b e.2 e.1
     if f.isSome=true then do
       let _ ←setAddHashed r e.2 e.1
       pure ()
      else pure ()
    Builtin.Frozenset.unchanged id wk ep
    pure (ForInStep.yield PUnit.unit)) Q E s
 | [],rs,ks,ep,s,Q,_,_,_,_,Ir,_,h=>wpAny_pure (h s.heap (Heap.SameBut.refl _ _) Ir)
 | e::ds,rs,ks,ep,s,Q,he,Ib,Iw,⟨ow,ew,tw,g1,g2,g3⟩,Ir,room,h=>by
  rw[List.forIn_cons]
  obtain⟨k,tk,rfl⟩:=he e List.mem_cons_self
  have go:∀h1,Heap.SameBut r s.heap h1→IsT w h1 r (if k∈js then K7 rs k else rs) →
    wpAny (model prog w) A (Builtin.Frozenset.unchanged id wk ep >>= fun _=>pure (ForInStep.yield PUnit.unit)) (fun st s'=>st=ForInStep.yield PUnit.unit∧s'={ s with heap:=h1 }) E { s with heap:=h1 }:=fun h1 sb1 _=>by
   unfold Builtin.Frozenset.unchanged
   refine wpAny_bind (wpAny_bind (wpAny_setEpoch_of ((sb1.2 wk n2).trans g1) g2 g3 ?_))
   rw[if_neg (by simp)]
   exact wpAny_pure (wpAny_pure ⟨rfl,rfl⟩)
  have rest:∀h1,Heap.SameBut r s.heap h1→IsT w h1 r (if k∈js then K7 rs k else rs)→wpAny (model prog w) A (forIn ds PUnit.unit fun(e:Int×Value) (_:PUnit)=>do
    holding [e.2] do
     let f ←setFind b e.2 e.1
     if f.isSome=true then do
       let _ ←setAddHashed r e.2 e.1
       pure ()
      else pure ()
    Builtin.Frozenset.unchanged id wk ep
    pure (ForInStep.yield PUnit.unit)) Q E { s with heap:=h1 }:=fun h1 sb1 I1=>by
   refine a7E n1 n2 nn ds _ ks ep _ (fun x hx=>he x (List.mem_cons_of_mem _ hx)) (Ib.at fun o q=>(sb1.2 b n1).trans q) (Iw.at fun o q=>(sb1.2 wk n2).trans q) ⟨ow,ew,tw,(sb1.2 wk n2).trans g1,g2,g3⟩ I1 ?_ fun h' sb' I'=>?_
   ·have a:=a6M rs k
    rw[List.length_cons]at room
    split<;>omega
   ·exact h h' (sb1.trans sb') I'
  refine wpAny_bind (wpAny_bind (wpAny_holding (wpAny_bind (b3n Ib fun f hf=>?_))))
  by_cases hk:k∈js
  ·rw[hf,decide_eq_true hk,if_pos rfl]
   rw[List.length_cons]at room
   refine wpAny_bind (a9U Ir (by omega) fun h1 sb1 I1=>wpAny_pure ?_)
   have I1':IsT w h1 r (if k∈js then K7 rs k else rs):=by rw[if_pos hk];exact I1
   refine wpAny_mono (go h1 sb1 I1') (fun st s' q=>?_) fun _ _ x=>x
   obtain⟨rfl,rfl⟩:=q
   exact rest h1 sb1 I1'
  ·rw[hf,decide_eq_false hk,if_neg Bool.false_ne_true]
   have I1':IsT w s.heap r (if k∈js then K7 rs k else rs):=by rw[if_neg hk];exact Ir
   refine wpAny_pure (wpAny_mono (go s.heap (Heap.SameBut.refl _ _) I1') (fun st s' q=>?_) fun _ _ x=>x)
   obtain⟨rfl,rfl⟩:=q
   exact rest s.heap (Heap.SameBut.refl _ _) I1'
end
end TS
namespace TS
open PySem PySem.Spec PyProof.Rows
set_option maxRecDepth 100000
theorem b1e:entryFor table "set.__and__"=some Builtin.«frozenset.__and__»:=
 entryFor_alias (id':="frozenset.__and__") (by kernel_rfl) rfl (by decide +kernel) (by kernel_rfl)
theorem a9E:∀(js ds rs:List Str) (x:Str),x∈a6I js ds rs↔x∈rs∨(x∈ds∧x∈js)
 | js,[],rs,x=>by simp[a6I]
 | js,d::ds,rs,x=>by
  have ih:=a9E js ds (if d∈js then K7 rs d else rs) x
  show x∈a6I js ds (if d∈js then K7 rs d else rs)↔_
  rw[ih,qQ9]
  by_cases hd:d∈js
  ·rw[if_pos hd,a5P]
   constructor
   ·rintro((h | rfl) | ⟨h,k⟩)
    ·exact .inl h
    ·exact .inr ⟨.inl rfl,hd⟩
    ·exact .inr ⟨.inr h,k⟩
   ·rintro(h | ⟨rfl | h,k⟩)
    ·exact .inl (.inl h)
    ·exact .inl (.inr rfl)
    ·exact .inr ⟨h,k⟩
  ·rw[if_neg hd]
   constructor
   ·rintro(h | ⟨h,k⟩)
    ·exact .inl h
    ·exact .inr ⟨.inr h,k⟩
   ·rintro(h | ⟨rfl | h,k⟩)
    ·exact .inl h
    ·exact absurd k hd
    ·exact .inr ⟨h,k⟩
section
variable{prog:Program}{w:World}{A:Around}{E:Value→Shared→Prop}{s:Shared}
theorem a7A{v:Value}{Q:Bool→Shared→Prop}(hT:s.TypeIs v "set")(h:Q true s):wpAny (model prog w) A (Builtin.Frozenset.isAnySet v) Q E s:=by
 unfold Builtin.Frozenset.isAnySet
 refine wpAny_bind (wpAny_isInstance hT sub_set_self ?_)
 exact wpAny_pure h
theorem a2s{a:Addr}{ks:List Str}{Q:Nat→Shared→Prop}(I:IsT w s.heap a ks)(h:Q ks.length s):wpAny (model prog w) A (Builtin.Frozenset.sizeOf a) Q E s:=by
 unfold Builtin.Frozenset.sizeOf
 exact wpAny_bind (N4 I fun es _ e=>wpAny_pure (by rw[e];exact h))
theorem b3l{id:String}{a b:Addr}{ks js:List Str}{Q:Value→Shared→Prop}(ne:b≠a)(Ia:IsT w s.heap a ks)(Ib:IsT w s.heap b js)(ra:ks.length+1<scanBound)(rb:js.length+1<scanBound)
  (h:∀h' rs,(∀x o,s.heap.get? x=some o→h'.get? x=some o)→IsT w h' s.heap.objs.size rs→(∀x,x∈rs↔x∈ks∧x∈js)→Q (.ref s.heap.objs.size) { s with heap:=h' }) :
  wpAny (model prog w) A (Builtin.Frozenset.intersection id a (.ref b)) Q E s:=by
 have nb:(Value.ref b==Value.ref a)=false:=by
  rw[beq_eq_false_iff_ne];intro z;injection z with z;exact ne z
 unfold Builtin.Frozenset.intersection
 rw[if_neg (by rw[nb];exact Bool.false_ne_true)]
 unfold Builtin.Frozenset.baseOf
 refine wpAny_bind (wpAny_bind (wpAny_isInstance Ia.ty sub_set_self (wpAny_pure ?_)))
 rw[if_pos rfl]
 refine wpAny_bind (b2q fun I0=>?_)
 refine wpAny_bind (wpAny_pure (wpAny_bind (wpAny_holding ?_)))
 generalize hh0:s.heap.push { cls:=.type "set",dict:=none,data:=.set #[] 0 (.fresh 0 0 (!T6 w)) }=h0 at I0 ⊢
 have k0:∀x o,s.heap.get? x=some o→h0.get? x=some o:=fun x o q=>by rw[←hh0];exact Heap.get?_push_of_some _ q
 have Ia0:IsT w h0 a ks:=Ia.at fun o q=>k0 a o q
 have Ib0:IsT w h0 b js:=Ib.at fun o q=>k0 b o q
 have la:a<s.heap.objs.size:=let ⟨_,_,_,_,q,_⟩:=Ia;Heap.lt_size q
 have lb:b<s.heap.objs.size:=let ⟨_,_,_,_,q,_⟩:=Ib;Heap.lt_size q
 have na:a≠s.heap.objs.size:=Nat.ne_of_lt la
 have nb':b≠s.heap.objs.size:=Nat.ne_of_lt lb
 refine wpAny_bind (a7A (s:={ s with heap:=h0 }) Ib0.ty ?_)
 rw[if_pos rfl]
 refine wpAny_bind (wpAny_pure ?_)
 refine wpAny_bind (a2s (s:={ s with heap:=h0 }) Ib0 ?_)
 refine wpAny_bind (a2s (s:={ s with heap:=h0 }) Ia0 ?_)
 have both:∀(asked walked:Addr) (as ws:List Str),asked≠s.heap.objs.size→walked≠s.heap.objs.size→IsT w h0 asked as→IsT w h0 walked ws→ws.length+1<scanBound→(∀x,x∈as∧x∈ws↔x∈ks∧x∈js) →
   wpAny (model prog w) A (do
    let was ←setEpoch walked
    let es ←setWalkUnseen walked [asked,s.heap.objs.size] (some s.heap.objs.size)
    forIn es PUnit.unit fun(e:Int×Value) (_:PUnit)=>do
     holding [e.2] do
      let f ←setFind asked e.2 e.1
      if f.isSome=true then do
        let _ ←setAddHashed s.heap.objs.size e.2 e.1
        pure ()
       else pure ()
     Builtin.Frozenset.unchanged id walked was
     pure (ForInStep.yield PUnit.unit)
    pure ()) (fun _ s'=>Q (.ref s.heap.objs.size) s') E { s with heap:=h0 }:=by
  intro asked walked as ws n1 n2 Is Iw rw' hm
  obtain⟨o,es,ep,t,ho,hx,hd,he,hp,hn,hb,hf,hl,hc⟩:=(show IsT w h0 walked ws from Iw)
  refine wpAny_bind (wpAny_setEpoch_of (s:={ s with heap:=h0 }) ho hd hf ?_)
  refine wpAny_bind (b0a (s:={ s with heap:=h0 }) Iw Is I0 fun ds h1 e1 p1 sb1 I1=>?_)
  rw[←Array.forIn_toList]
  have dl:ds.toList.length=ws.length:=by rw[←p1.length_eq,qQ0]
  refine wpAny_bind (a7E (js:=as) n1 n2 n2 ds.toList [] ws ep { s with heap:=h1 } e1 (Is.at fun o q=>(sb1.2 _ n1).trans q) (Iw.at fun o q=>(sb1.2 _ n2).trans q)
   ⟨o,es,t,(sb1.2 _ n2).trans ho,hd,hf⟩ I1 (by rw[dl];simpa using rw') fun h2 sb2 I2=>wpAny_pure ?_)
  refine h h2 _ (fun x o q=>?_) I2 fun x=>?_
  ·have nx:x≠s.heap.objs.size:=Nat.ne_of_lt (Heap.lt_size q)
   exact(sb2.2 x nx).trans ((sb1.2 x nx).trans (k0 x o q))
  ·rw[a9E,p1.mem_iff,←hm x]
   constructor
   ·rintro(z | ⟨z1,z2⟩)
    ·cases z
    ·exact⟨z2,z1⟩
   ·rintro⟨z1,z2⟩;exact .inr ⟨z2,z1⟩
 by_cases c:js.length>ks.length
 ·rw[if_pos c]
  refine wpAny_mono (both b a js ks nb' na Ib0 Ia0 ra fun x=>And.comm) (fun _ s' q=>?_) fun _ _ x=>x
  exact wpAny_pure q
 ·rw[if_neg c]
  refine wpAny_mono (both a b ks js na nb' Ia0 Ib0 rb fun x=>Iff.rfl) (fun _ s' q=>?_) fun _ _ x=>x
  exact wpAny_pure q
theorem b8s{a b:Addr}{ks js:List Str}{Q:Value→Shared→Prop}(ne:b≠a)(Ia:IsT w s.heap a ks)(Ib:IsT w s.heap b js)(ra:ks.length+1<scanBound)(rb:js.length+1<scanBound)
  (h:∀h' rs,(∀x o,s.heap.get? x=some o→h'.get? x=some o)→IsT w h' s.heap.objs.size rs→(∀x,x∈rs↔x∈ks∧x∈js)→Q (.ref s.heap.objs.size) { s with heap:=h' }) :
  wpAny (model prog w) A (binaryOp .BitAnd (.ref a) (.ref b)) Q E s:=by
 refine wpAny_binaryOp_same Ia.ty Ib.ty F.fills_set_and F.slot_set_and (wpAny_call_entry F.slot_set_and Ia.ty b1e ?_ (F.args_set_and_2 _ _))
 show wpAny _ _ (do
  let (self,other) ←Builtin.Frozenset.slot1 "__and__" ⟨[.ref a,.ref b],[]⟩
  let (l,r):=if false then(other,self) else(self,other)
  if !(←Builtin.Frozenset.isAnySet l <&&> Builtin.Frozenset.isAnySet r) then rule s!"frozenset.{"__and__"}.declined";return ←ret .notImplemented
  ret (←Builtin.Frozenset.intersection s!"frozenset.{"__and__"}" (←Builtin.Frozenset.addrOf l) r)) _ _ _
 refine wpAny_bind (wpAny_pure ?_)
 dsimp only
 rw[if_neg Bool.false_ne_true]
 refine wpAny_bind (wpAny_bind (a7A Ia.ty ?_))
 refine a7A Ib.ty ?_
 rw[if_neg (by decide)]
 refine wpAny_bind (wpAny_pure (wpAny_bind (b3l ne Ia Ib ra rb fun h' rs k I m=>?_)))
 exact wpAny_pure ⟨_,rfl,(fun z=>nomatch z),h h' rs k I m⟩
end
end TS
namespace TS
open PySem PySem.Spec PyProof.Rows
set_option maxRecDepth 100000
theorem b1j:Manifest.owners.lookup (String.ofList ['r','o','t','a','r','e','t','i','_','t','e','s'].reverse)=some Manifest.sig_set_iterator:=by kernel_rfl
theorem N7:Slot "set_iterator" "__next__" "set_iterator.__next__":=
 .of (owner:="set_iterator") (n:="__next__") (by rw[typeLookup_type,builtinLookup_eq_fast];kernel_rfl) (by decide +kernel)
  (by decide +kernel) (by decide +kernel) (.inl (by decide +kernel)) (by rw[isSubtype_type];kernel_rfl)
theorem a3g:entryFor table "set_iterator.__next__"=some Builtin.«set_iterator.__next__»:=entryFor_of_tree (by kernel_rfl)
theorem a2o(a:Value):argsOk "set_iterator.__next__" ⟨[a],[]⟩:=by
 unfold argsOk
 rw[signature?_of (id:="set_iterator.__next__") (n:=['_','_','t','x','e','n','_','_']) (o:=['r','o','t','a','r','e','t','i','_','t','e','s']) (by kernel_rfl) b1j]
 kernel_rfl
theorem a4R:entryFor table "set.__iter__"=some Builtin.«frozenset.__iter__»:=
 entryFor_alias (id':="frozenset.__iter__") (by kernel_rfl) rfl (by decide +kernel) (by kernel_rfl)
def itO(first:Value)(i:Nat)(a:Addr)(n ep:Nat):Obj:={ cls:=.type "set_iterator",data:=.fields #[first,rawInt i,.ref a,rawInt n,rawInt ep] }
section
variable{prog:Program}{w:World}{A:Around}{E:Value→Shared→Prop}{s:Shared}
theorem a7P{Q:Option Value→Shared→Prop}{s₁:Shared}(hh:A.handled=none)(q:∀h',(∀b o,s₁.heap.get? b=some o→h'.get? b=some o)→Q none { s₁ with heap:=h' }) :
  wpAny (model prog w) A.in1 (do raiseNew (←newExc (.type "StopIteration") []):Sem Fin)
   (fun fin s'=>∃r,fin=Fin.done (.ret r)∧wpAny (model prog w) A (pure (some r)) Q E s')
   (fun e s'=>wpAny (model prog w) A (do if ←isInstance e (.type "StopIteration") then pure none else throw e) Q E s') s₁:=by
 refine wpAny_bind ?_
 simp only[newExc,newTuple]
 refine wpAny_bind (wpAny_newObj_type ?_ (by size_fits))
 refine wpAny_bind (m:=firstArgMember _ _) (wpAny_of_eq (a:=Value.none) (by first | rfl | (simp only[firstArgMember];rfl)) ?_)
 refine wpAny_newObj_type ?_ (by size_fits)
 simp only[raiseNew]
 refine wpAny_bind (wpAny_handled ?_)
 rw[show A.in1.handled=none from hh]
 refine wpAny_bind (wpAny_pure (wpAny_throw ?_))
 refine wpAny_bind (wpAny_isInstance (T:="StopIteration") (b:=true) ⟨_,Heap.get?_push_size _ rfl,rfl⟩ isSubtype_stop ?_)
 exact wpAny_pure (q _ fun b o e=>Heap.get?_push_of_some _ (Heap.get?_push_of_some _ e))
theorem b6g{h:Heap}{I:Addr}{first x:Value}{i a n ep:Nat}(e:h.get? I=some (itO first i a n ep))(j:Nat) :
  (h.update I (Obj.mapFields (·.setIfInBounds j x))).get? I=some { cls:=.type "set_iterator",data:=.fields (#[first,rawInt i,.ref a,rawInt n,rawInt ep].setIfInBounds j x) }:=
 Heap.get?_update_self _ e rfl
theorem a7D{I a:Addr}{sl i n ep nx:Nat}{x:Value}{Q:Option Value→Shared→Prop}(hi:s.heap.get? I=some (itO (rawInt sl) i a n ep)){ks:List Str}(Ia:IsT w s.heap a ks)(hn:ks.length=n)
  (hnx:∀(A:Around) (Q:Option (Value×Nat)→Shared→Prop) (E:Value→Shared→Prop),Q (some (x,nx)) s→wpAny (model prog w) A (setNext a sl i ep) Q E s)
  (h:∀h',Heap.SameBut I s.heap h'→h'.get? I=some (itO (rawInt nx) (i+1) a n ep)→Q (some x) { s with heap:=h' }):wpAny (model prog w) A (pyNext (.ref I)) Q E s:=by
 have ty:s.TypeIs (.ref I) "set_iterator":=⟨_,hi,rfl⟩
 unfold pyNext
 refine wpAny_bind (wpAny_attempt (wpAny_callSpecial?_slot (name:=Str.ofString "__next__") ty N7 (wpAny_call_entry N7 ty a3g ?_ (a2o _))))
 unfold Builtin.«set_iterator.__next__»
 refine wpAny_bind (m:=slotArgs "__next__" 0 _) (wpAny_pure ?_)
 refine wpAny_bind (wpAny_fieldsOf hi rfl ?_)
 dsimp only[rawInt]
 refine wpAny_bind (N4 Ia fun es _ sz=>?_)
 rw[if_neg (by rw[sz,hn];simp)]
 refine wpAny_bind ?_
 simp only[Int.toNat_natCast]
 refine hnx _ _ _ ?_
 dsimp only
 refine wpAny_bind (wpAny_setField hi rfl (by simp) ?_)
 have g1:=b6g (x:=rawInt nx) hi 0
 refine wpAny_bind (wpAny_setField (s:={ s with heap:=s.heap.update I (Obj.mapFields (·.setIfInBounds 0 (rawInt nx))) }) g1 rfl (by simp) ?_)
 refine wpAny_pure ⟨x,rfl,wpAny_pure (h _ ((Heap.SameBut.update ..).trans (Heap.SameBut.update ..)) ?_)⟩
 exact Heap.get?_update_self _ g1 rfl
theorem a5j{I a:Addr}{sl i n ep:Nat}{Q:Option Value→Shared→Prop}(hh:A.handled=none)(hi:s.heap.get? I=some (itO (rawInt sl) i a n ep)){ks:List Str}(Ia:IsT w s.heap a ks)(hn:ks.length=n)
  (hnx:∀(A:Around) (Q:Option (Value×Nat)→Shared→Prop) (E:Value→Shared→Prop),Q none s→wpAny (model prog w) A (setNext a sl i ep) Q E s)
  (h:∀h',Heap.ExtBut I s.heap h'→Q none { s with heap:=h' }):wpAny (model prog w) A (pyNext (.ref I)) Q E s:=by
 have ty:s.TypeIs (.ref I) "set_iterator":=⟨_,hi,rfl⟩
 unfold pyNext
 refine wpAny_bind (wpAny_attempt (wpAny_callSpecial?_slot (name:=Str.ofString "__next__") ty N7 (wpAny_call_entry N7 ty a3g ?_ (a2o _))))
 unfold Builtin.«set_iterator.__next__»
 refine wpAny_bind (m:=slotArgs "__next__" 0 _) (wpAny_pure ?_)
 refine wpAny_bind (wpAny_fieldsOf hi rfl ?_)
 dsimp only[rawInt]
 refine wpAny_bind (N4 Ia fun es _ sz=>?_)
 rw[if_neg (by rw[sz,hn];simp)]
 refine wpAny_bind ?_
 simp only[Int.toNat_natCast]
 refine hnx _ _ _ ?_
 dsimp only
 refine wpAny_bind (wpAny_setField hi rfl (by simp) ?_)
 refine a7P (s₁:={ s with heap:=s.heap.update I _ }) hh fun h' k=>?_
 exact h h' fun b o hb e=>k b o ((Heap.SameBut.update ..).extBut b o hb e)
theorem a4Z{I a P:Addr}{i n ep p:Nat}{x:Value}{hs:Int}{ps:List Nat}{Q:Option Value→Shared→Prop}(hi:s.heap.get? I=some (itO (.ref P) i a n ep)){ks:List Str}(Ia:IsT w s.heap a ks)(hn:ks.length=n)
  {oP:Obj} {nP:Nat} (hP:s.heap.get? P=some oP) (hd:oP.data=.seq (ps.map fun(j:Nat)=>rawInt j).toArray nP) (hp:ps[i]?=some p)
  {o:Obj} {es:Array (Int×Value)} {t:SetTable} (ho:s.heap.get? a=some o) (hod:o.data=.set es ep t) (hf:t.fits es.size=true) (hx:es[p]?=some (hs,x))
  (h:∀h',Heap.SameBut I s.heap h'→h'.get? I=some (itO (.ref P) (i+1) a n ep)→Q (some x) { s with heap:=h' }):wpAny (model prog w) A (pyNext (.ref I)) Q E s:=by
 have ty:s.TypeIs (.ref I) "set_iterator":=⟨_,hi,rfl⟩
 unfold pyNext
 refine wpAny_bind (wpAny_attempt (wpAny_callSpecial?_slot (name:=Str.ofString "__next__") ty N7 (wpAny_call_entry N7 ty a3g ?_ (a2o _))))
 unfold Builtin.«set_iterator.__next__»
 refine wpAny_bind (m:=slotArgs "__next__" 0 _) (wpAny_pure ?_)
 refine wpAny_bind (wpAny_fieldsOf hi rfl ?_)
 dsimp only[rawInt]
 refine wpAny_bind (N4 Ia fun es _ sz=>?_)
 rw[if_neg (by rw[sz,hn];simp)]
 refine wpAny_bind (wpAny_seqItems hP hd ?_)
 simp only[Int.toNat_natCast]
 have e1:(ps.map fun(j:Nat)=>rawInt j).toArray[i]?=some (Value.int (p:Int) 0):=by simp[hp,rawInt]
 rw[e1]
 dsimp only
 unfold setNextDrawn
 refine wpAny_bind (wpAny_bind (wpAny_setState_of ho hod hf ?_))
 dsimp only
 rw[if_neg (by simp)]
 simp only[Int.toNat_natCast,hx]
 refine wpAny_pure ?_
 refine wpAny_bind (wpAny_setField hi rfl (by simp) ?_)
 refine wpAny_pure ⟨x,rfl,wpAny_pure (h _ (Heap.SameBut.update ..) ?_)⟩
 exact Heap.get?_update_self _ hi rfl
theorem a3D{I a P:Addr}{i n ep:Nat}{ps:List Nat}{Q:Option Value→Shared→Prop}(hh:A.handled=none)(hi:s.heap.get? I=some (itO (.ref P) i a n ep)){ks:List Str}(Ia:IsT w s.heap a ks)(hn:ks.length=n)
  {oP:Obj} {nP:Nat} (hP:s.heap.get? P=some oP) (hd:oP.data=.seq (ps.map fun(j:Nat)=>rawInt j).toArray nP) (hp:ps.length≤i)
  (h:∀h',Heap.ExtBut I s.heap h'→Q none { s with heap:=h' }):wpAny (model prog w) A (pyNext (.ref I)) Q E s:=by
 have ty:s.TypeIs (.ref I) "set_iterator":=⟨_,hi,rfl⟩
 unfold pyNext
 refine wpAny_bind (wpAny_attempt (wpAny_callSpecial?_slot (name:=Str.ofString "__next__") ty N7 (wpAny_call_entry N7 ty a3g ?_ (a2o _))))
 unfold Builtin.«set_iterator.__next__»
 refine wpAny_bind (m:=slotArgs "__next__" 0 _) (wpAny_pure ?_)
 refine wpAny_bind (wpAny_fieldsOf hi rfl ?_)
 dsimp only[rawInt]
 refine wpAny_bind (N4 Ia fun es _ sz=>?_)
 rw[if_neg (by rw[sz,hn];simp)]
 refine wpAny_bind (wpAny_seqItems hP hd ?_)
 simp only[Int.toNat_natCast]
 have e1:(ps.map fun(j:Nat)=>rawInt j).toArray[i]?=none:=by simp[hp]
 rw[e1]
 dsimp only
 refine wpAny_bind (wpAny_setField hi rfl (by simp) ?_)
 have g1:=b6g (x:=rawInt 0) hi 0
 refine wpAny_bind (wpAny_setField (s:={ s with heap:=s.heap.update I (Obj.mapFields (·.setIfInBounds 0 (rawInt 0))) }) g1 rfl (by simp) ?_)
 refine a7P (s₁:={ s with heap:=(s.heap.update I _).update I _ }) hh fun h' k=>?_
 exact h h' fun b o hb e=>k b o (((Heap.SameBut.update ..).trans (Heap.SameBut.update ..)).extBut b o hb e)
end
end TS
namespace TS
open PySem PySem.Spec PyProof.Rows
set_option maxRecDepth 100000
structure Nx(prog:Program)(w:World)(I:Addr)(fp:List Addr)(vs:List Value)(St:Nat→Heap→Prop):Prop where
 frame:∀i h h',St i h→(∀b∈I::fp,∀o,h.get? b=some o→h'.get? b=some o)→St i h'
 item:∀(A:Around) (i:Nat) (s:Shared) (Q:Option Value→Shared→Prop) (E:Value→Shared→Prop) (lt:i<vs.length),St i s.heap →
  (∀h',Heap.SameBut I s.heap h'→St (i+1) h'→Q (some vs[i]) { s with heap:=h' })→wpAny (model prog w) A (pyNext (.ref I)) Q E s
 done:∀(A:Around) (s:Shared) (Q:Option Value→Shared→Prop) (E:Value→Shared→Prop),A.handled=none→St vs.length s.heap →
  (∀h',Heap.ExtBut I s.heap h'→Q none { s with heap:=h' })→wpAny (model prog w) A (pyNext (.ref I)) Q E s
section
variable{prog:Program}{w:World}{A:Around}{E:Value→Shared→Prop}{s:Shared}
theorem a0W{src:Source}{n:Nat}{Q:Nat→Shared→Prop}(hn:n≠0)(h:∀k d',k<n→Q k { s with drawn:=d' }):wpAny (model prog w) A (choose src n) Q E s:=
 fun _ _ _=>⟨hn,h _ _ (Nat.mod_lt _ (Nat.pos_of_ne_zero hn))⟩
theorem a6N{α:Type}:∀(n:Nat) (xs:List α) (s:Shared) {Q:List α→Shared→Prop},n=xs.length→(∀ys d',ys.Perm xs→Q ys { s with drawn:=d' })→wpAny (model prog w) A (drawOrder n xs) Q E s
 | 0,xs,s,Q,e,h=>by
  have:xs=[]:=List.eq_nil_of_length_eq_zero e.symm
  subst this
  exact wpAny_pure (h [] s.drawn (List.Perm.refl _))
 | n+1,[],s,Q,e,h=>by simp at e
 | n+1,x::xs,s,Q,e,h=>by
  unfold drawOrder
  refine wpAny_bind (a0W (by simp) fun k d hk=>?_)
  rw[List.getElem?_eq_getElem hk]
  dsimp only
  refine wpAny_bind (a6N n _ _ (by rw[List.length_eraseIdx_of_lt hk];omega) fun ys d' p=>?_)
  exact wpAny_pure (h _ d' ((p.cons _).trans (a4g (x::xs) k hk)))
theorem b9s{I a:Addr}{o:Obj}{es:Array (Int×Value)}{ep:Nat}{t:SetTable}{ks:List Str}(hb:T6 w=true)(hd:o.data=.set es ep t)(hf:t.fits es.size=true)(mk:∀h:Heap,h.get? a=some o→IsT w h a ks)(hn:ks.length=es.size)(ne:a≠I) :
  Nx prog w I [a] ((pickOrder (w.params.setOrder a ep) es).toList.map (·.2)) (fun i h=>h.get? I=some (itO (rawInt (0:Nat)) i a es.size ep)∧h.get? a=some o) where
 frame:=fun i h h' st k=>⟨k I (by simp) _ st.1,k a (by simp) _ st.2⟩
 item:=fun A i s Q E lt st q=>by
  rw[qQ0]at lt
  refine a7D (nx:=0) (x:=((pickOrder (w.params.setOrder a ep) es).toList[i]).2) st.1 (mk _ st.2) hn (fun A' Q' E' q'=>?_) fun h' sb g=>?_
  ·unfold setNext
   refine wpAny_bind (wpAny_setState_of st.2 hd hf ?_)
   dsimp only
   refine wpAny_bind (G7 ?_)
   rw[hb,if_pos rfl,if_neg (by simp)]
   unfold setWalk
   refine wpAny_bind (wpAny_bind (wpAny_setState_of st.2 hd hf ?_))
   dsimp only
   refine wpAny_bind (G7 ?_)
   rw[hb,if_pos rfl]
   refine wpAny_bind (wpAny_askSetting (wpAny_pure (wpAny_pure ?_)))
   have e:(pickOrder (w.params.setOrder a ep) es)[i]?=some ((pickOrder (w.params.setOrder a ep) es).toList[i]):=by
    rw[←Array.getElem?_toList];exact List.getElem?_eq_getElem lt
   show Q' (((pickOrder (w.params.setOrder a ep) es)[i]?).map fun e=>(e.2,0)) s
   rw[e];exact q'
  ·have:=q h' sb ⟨g,(sb.2 a ne).trans st.2⟩
   rw[List.getElem_map]at this
   exact this
 done:=fun A s Q E hh st q=>by
  rw[qQ0]at st
  refine a5j hh st.1 (mk _ st.2) hn (fun A' Q' E' q'=>?_) fun h' eb=>q h' eb
  unfold setNext
  refine wpAny_bind (wpAny_setState_of st.2 hd hf ?_)
  dsimp only
  refine wpAny_bind (G7 ?_)
  rw[hb,if_pos rfl,if_neg (by simp)]
  unfold setWalk
  refine wpAny_bind (wpAny_bind (wpAny_setState_of st.2 hd hf ?_))
  dsimp only
  refine wpAny_bind (G7 ?_)
  rw[hb,if_pos rfl]
  refine wpAny_bind (wpAny_askSetting (wpAny_pure (wpAny_pure ?_)))
  show Q' (((pickOrder (w.params.setOrder a ep) es)[(pickOrder (w.params.setOrder a ep) es).toList.length]?).map fun e=>(e.2,0)) s
  rw[show(pickOrder (w.params.setOrder a ep) es)[(pickOrder (w.params.setOrder a ep) es).toList.length]?=none by simp]
  exact q'
theorem b1p{I a P:Addr}{o oP:Obj}{es:Array (Int×Value)}{ep nP:Nat}{t:SetTable}{ks:List Str}{ps:List Nat}(hd:o.data=.set es ep t)(hf:t.fits es.size=true)(mk:∀h:Heap,h.get? a=some o→IsT w h a ks)(hn:ks.length=es.size)(ne:a≠I)(np:P≠I)
  (hP:oP.data=.seq (ps.map fun(j:Nat)=>rawInt j).toArray nP) (hps:∀p∈ps,p<es.size) :
  Nx prog w I [a,P] (ps.map fun p=>(es.getD p (0,.none)).2) (fun i h=>h.get? I=some (itO (.ref P) i a es.size ep)∧h.get? a=some o∧h.get? P=some oP) where
 frame:=fun i h h' st k=>⟨k I (by simp) _ st.1,k a (by simp) _ st.2.1,k P (by simp) _ st.2.2⟩
 item:=fun A i s Q E lt st q=>by
  rw[qQ0]at lt
  have lp:=hps ps[i] (List.getElem_mem lt)
  refine a4Z (x:=(es.getD ps[i] (0,.none)).2) (hs:=(es.getD ps[i] (0,.none)).1) (p:=ps[i]) st.1 (mk _ st.2.1) hn st.2.2 hP (List.getElem?_eq_getElem lt) st.2.1 hd hf (by simp[Array.getD,lp]) fun h' sb g=>?_
  have:=q h' sb ⟨g,(sb.2 a ne).trans st.2.1,(sb.2 P np).trans st.2.2⟩
  rw[List.getElem_map]at this
  exact this
 done:=fun A s Q E hh st q=>by
  rw[qQ0]at st
  exact a3D hh st.1 (mk _ st.2.1) hn st.2.2 hP (qQ7 _) fun h' eb=>q h' eb
theorem a0G(j sl:Nat):SetTable.below #[j] sl=if j<sl then 1 else 0:=by
 unfold SetTable.below
 show SetTable.below.go #[j] sl 1 0 1=_
 unfold SetTable.below.go
 simp only[Nat.zero_lt_one,if_true]
 show(if j<sl then SetTable.below.go #[j] sl 0 1 1 else SetTable.below.go #[j] sl 0 0 0)=_
 split<;>rfl
theorem b2l{I a:Addr}{o:Obj}{es:Array (Int×Value)}{ep:Nat}{t:SetTable}{ks:List Str}(hb:T6 w=false)(hd:o.data=.set es ep t)(hf:t.fits es.size=true)(hl:t.led=true)(sm:es.size≤1)(mk:∀h:Heap,h.get? a=some o→IsT w h a ks)(hn:ks.length=es.size)(ne:a≠I) :
  Nx prog w I [a] (es.toList.map (·.2)) (fun i h=>h.get? I=some (itO (rawInt (if i=0 then 0 else t.place.getD 0 0+1:Nat)) i a es.size ep)∧h.get? a=some o):=by
 have pz:t.place.size=es.size:=by simp only[SetTable.fits,Bool.and_eq_true,beq_iff_eq]at hf;exact hf.1
 have pre:∀(sl i:Nat) (s:Shared) (r:Option (Value×Nat)) (A':Around) (Q':Option (Value×Nat)→Shared→Prop) (E':Value→Shared→Prop),s.heap.get? a=some o →
   (match es[SetTable.below t.place sl]?,t.place[SetTable.below t.place sl]? with | some (_,x),some j=>some (x,j+1) | _,_=>none)=r→Q' r s→wpAny (model prog w) A' (setNext a sl i ep) Q' E' s:=by
  intro sl i s r A' Q' E' ho e q'
  unfold setNext
  refine wpAny_bind (wpAny_setState_of ho hd hf ?_)
  dsimp only
  refine wpAny_bind (G7 ?_)
  rw[hb,if_neg Bool.false_ne_true]
  show wpAny _ _ (if (!t.plain&&decide (es.size>1))=true then _ else _) _ _ _
  rw[if_neg (by simp;intro _;exact sm)]
  show wpAny _ _ ((if (!t.led&&!es.isEmpty)=true then unsupported "set:maker-not-led" else pure ()) >>= _) _ _ _
  rw[if_neg (by rw[hl];simp)]
  refine wpAny_bind (wpAny_pure (wpAny_pure ?_))
  rw[←e]at q'
  exact q'
 refine⟨fun i h h' st k=>⟨k I (by simp) _ st.1,k a (by simp) _ st.2⟩,fun A i s Q E lt st q=>?_,fun A s Q E hh st q=>?_⟩
 ·rw[qQ0,Array.length_toList]at lt
  have i0:i=0:=by omega
  have z1:es.size=1:=by omega
  subst i0
  obtain⟨e0,he0⟩:∃e0,es=#[e0]:=Array.size_eq_one_iff.mp z1
  obtain⟨j,hj⟩:∃j,t.place=#[j]:=Array.size_eq_one_iff.mp (pz.trans z1)
  subst he0
  refine a7D (nx:=j+1) (x:=e0.2) st.1 (mk _ st.2) hn (fun A' Q' E' q'=>?_) fun h' sb g=>?_
  ·refine pre _ _ s _ A' Q' E' st.2 ?_ q'
   rw[hj,if_pos rfl,a0G,if_neg (Nat.not_lt_zero _)]
   rfl
  ·refine q h' sb ⟨?_,(sb.2 a ne).trans st.2⟩
   rw[hj,if_neg (by omega)]
   exact g
 ·rw[qQ0,Array.length_toList]at st
  refine a5j hh st.1 (mk _ st.2) hn (fun A' Q' E' q'=>?_) fun h' eb=>q h' eb
  refine pre _ _ s _ A' Q' E' st.2 ?_ q'
  by_cases z:es.size=0
  ·rw[if_pos z]
   have e0:es=#[]:=Array.size_eq_zero_iff.mp z
   have p0:t.place=#[]:=Array.size_eq_zero_iff.mp (pz.trans z)
   rw[e0,p0];rfl
  ·rw[if_neg z]
   have z1:es.size=1:=by omega
   obtain⟨e0,he0⟩:∃e0,es=#[e0]:=Array.size_eq_one_iff.mp z1
   obtain⟨j,hj⟩:∃j,t.place=#[j]:=Array.size_eq_one_iff.mp (pz.trans z1)
   rw[hj,he0]
   show(match #[e0][SetTable.below #[j] (j+1)]?,#[j][SetTable.below #[j] (j+1)]? with | some (_,x),some j=>some (x,j+1) | _,_=>none)=none
   rw[a0G,if_pos (Nat.lt_succ_self _)]
   rfl
end
end TS
namespace TS
open PySem PySem.Spec PyProof.Rows
set_option maxRecDepth 100000
def Tells(vs:List Value)(ks:List Str):Prop:=∃us,S6 vs us∧us.Perm ks
theorem tells_of{w:World}:∀{es:List (Int×Value)},R0 w es→S6 (es.map (·.2)) (es.map Y3)
 | [],_=>.nil
 | e::es,h=>by
  obtain⟨k,t,q⟩:=h e List.mem_cons_self
  exact .cons ⟨t,by subst q;rfl⟩ (tells_of fun x hx=>h x (List.mem_cons_of_mem _ hx))
theorem a3B{es:Array (Int×Value)}:(List.range es.size).map (fun p=>es.getD p (0,.none))=es.toList:=by
 apply List.ext_getElem
 ·simp
 ·intro i h1 h2
  simp at h1
  simp[Array.getD,h1]
section
variable{prog:Program}{w:World}{A:Around}{E:Value→Shared→Prop}{s:Shared}
theorem b7i{a:Addr}{ks:List Str}{Q:Value→Shared→Prop}(Ia:IsT w s.heap a ks)
  (h:∀(I:Addr) (fp:List Addr) (vs:List Value) (St:Nat→Heap→Prop) (h':Heap) (d':Drawn),Nx prog w I fp vs St→St 0 h'→(∀b o,s.heap.get? b=some o→h'.get? b=some o)→s.heap.objs.size≤I→(∀b∈fp,b=a∨s.heap.objs.size≤b)→Tells vs ks →
   Q (.ref I) { s with heap:=h',drawn:=d' }):wpAny (model prog w) A (pyIter (.ref a)) Q E s:=by
 obtain⟨o,es,ep,t,ho,hx,hd,he,hp,hn,hb,hf,hl,hc⟩:=id Ia
 have mk:∀h1:Heap,h1.get? a=some o→IsT w h1 a ks:=fun h1 e=>⟨o,es,ep,t,e,hx,hd,he,hp,hn,hb,hf,hl,hc⟩
 have sz:ks.length=es.size:=by rw[←hp.length_eq,qQ0,Array.length_toList]
 have la:a<s.heap.objs.size:=Heap.lt_size ho
 refine wpAny_pyIter_slot Ia.ty F.slot_set_iter (wpAny_call_entry F.slot_set_iter Ia.ty a4R ?_ (F.args_set_iter_1 _))
 unfold Builtin.«frozenset.__iter__» Builtin.Frozenset.slot0
 refine wpAny_bind (wpAny_bind (m:=slotArgs "__iter__" 0 _) (wpAny_pure (wpAny_pure ?_)))
 refine wpAny_bind (a2s Ia ?_)
 unfold setDrawn
 refine wpAny_bind (wpAny_bind (wpAny_setState_of ho hd hf ?_))
 dsimp only
 refine wpAny_bind (G7 (wpAny_pure ?_))
 show wpAny _ _ (if (!T6 w&&(!t.plain&&decide (es.size>1)))=true then _ else _) _ _ _
 by_cases c:(!T6 w&&(!t.plain&&decide (es.size>1)))=true
 ·rw[if_pos c]
  refine wpAny_bind (a6N _ _ _ (by simp) fun ps d' pp=>?_)
  have psz:ps.length=es.size:=by rw[pp.length_eq,List.length_range,sz]
  have zl:(ps.map fun(i:Nat)=>rawInt i).length≤sizeLine:=by rw[qQ0,psz];exact fits_of_scanBound hb
  refine wpAny_bind (wpAny_newTuple ?_ zl)
  generalize hh1:s.heap.push { cls:=.type "tuple",data:=.seq (ps.map fun(i:Nat)=>rawInt i).toArray }=h1
  have k1:∀b o,s.heap.get? b=some o→h1.get? b=some o:=fun b o e=>by rw[←hh1];exact Heap.get?_push_of_some _ e
  have g1:h1.get? s.heap.objs.size=some { cls:=.type "tuple",data:=.seq (ps.map fun(i:Nat)=>rawInt i).toArray }:=by rw[←hh1];exact Heap.get?_push_size _ rfl
  have z1:h1.objs.size=s.heap.objs.size+1:=by rw[←hh1];exact Heap.size_push ..
  refine wpAny_bind (wpAny_setEpoch_of (s:={ s with heap:=h1,drawn:=d' }) (k1 a o ho) hd hf ?_)
  refine wpAny_bind (wpAny_newObj_type (wpAny_pure ⟨_,rfl,"set_iterator",_,⟨_,Heap.get?_push_size _ rfl,rfl⟩,N7.lookup,?_⟩))
  refine h h1.objs.size _ _ _ _ d' (b1p (P:=s.heap.objs.size) (ps:=ps) (oP:={ cls:=.type "tuple",data:=.seq (ps.map fun(i:Nat)=>rawInt i).toArray }) (nP:=0) hd hf mk sz (by rw[z1];exact Nat.ne_of_lt (Nat.lt_succ_of_lt la)) (by rw[z1];exact Nat.ne_of_lt (Nat.lt_succ_self _)) rfl fun p hp'=>?_) ⟨?_,?_,?_⟩ (fun b o e=>Heap.get?_push_of_some _ (k1 b o e)) (by rw[z1];exact Nat.le_succ _) (fun b hb'=>?_) ?_
  ·have:=pp.mem_iff.mp hp'
   rw[List.mem_range,sz]at this
   exact this
  ·rw[←sz];exact Heap.get?_push_size _ rfl
  ·exact Heap.get?_push_of_some _ (k1 a o ho)
  ·exact Heap.get?_push_of_some _ g1
  ·simp only[qQ9,List.not_mem_nil,or_false]at hb'
   exact hb'.imp id fun e=>by rw[e];exact qQ7 _
  ·have q:(ps.map fun p=>es.getD p (0,.none)).Perm es.toList:=by
    have:=pp.map (fun p=>es.getD p (0,Value.none))
    rw[sz,a3B]at this
    exact this
   have q2:(ps.map fun p=>(es.getD p (0,.none)).2)=(ps.map fun p=>es.getD p (0,.none)).map (·.2):=by rw[List.map_map];rfl
   rw[q2]
   exact⟨_,tells_of (he.of_perm q),(q.map Y3).trans hp⟩
 ·rw[if_neg c]
  refine wpAny_bind (wpAny_pure ?_)
  refine wpAny_bind (wpAny_setEpoch_of ho hd hf ?_)
  refine wpAny_bind (wpAny_newObj_type (wpAny_pure ⟨_,rfl,"set_iterator",_,⟨_,Heap.get?_push_size _ rfl,rfl⟩,N7.lookup,?_⟩))
  cases hbt:T6 w with
  | true=>
   refine h s.heap.objs.size _ _ _ _ s.drawn (b9s hbt hd hf mk sz (Nat.ne_of_lt la)) ⟨?_,Heap.get?_push_of_some _ ho⟩ (fun b o e=>Heap.get?_push_of_some _ e) (qQ7 _) (fun b hb'=>.inl (by simpa using hb')) ?_
   ·rw[←sz];exact Heap.get?_push_size _ rfl
   ·exact⟨_,tells_of (he.of_perm (a5c _ _)),b0f (a5c _ _) hp⟩
  | false=>
   rw[hbt]at c hl
   have sm:es.size≤1:=by
    rcases hc with z | z
    ·omega
    ·rw[z]at c;simp at c;exact c
   refine h s.heap.objs.size _ _ _ _ s.drawn (b2l hbt hd hf hl sm mk sz (Nat.ne_of_lt la)) ⟨?_,Heap.get?_push_of_some _ ho⟩ (fun b o e=>Heap.get?_push_of_some _ e) (qQ7 _) (fun b hb'=>.inl (by simpa using hb')) ?_
   ·rw[←sz];exact Heap.get?_push_size _ rfl
   ·exact⟨_,tells_of he,hp⟩
theorem b1n{R:Result→Shared→Prop}(hh:A.handled=none){S I:Addr}{fp:List Addr}{vs:List Value}{St:Nat→Heap→Prop}(W:Nx prog w I fp vs St)(hz:vs.length≤sizeLine)(n1:S≠I)(n2:S∉fp)(res:Value) :
  ∀(d i:Nat) (s:Shared) (c:Nat),vs.length-i=d→i≤vs.length→St i s.heap→s.heap.get? S=some { cls:=.type "list",data:=.seq (vs.take i).toArray c } →
   (∀h' c',(∀b o,b≠S→b≠I→s.heap.get? b=some o→h'.get? b=some o)→h'.get? S=some { cls:=.type "list",data:=.seq vs.toArray c' }→R (.ok (.ret res)) { s with heap:=h' }) →
   codeAny (model prog w) A (.builtin "list.extend.loop" ⟨[.ref S,.ref I,res],[]⟩) R s:=by
 intro d
 induction d with
 | zero=>
  intro i s c e1 e2 st hS hR
  have en:i=vs.length:=by omega
  subst en
  refine codeAny_builtin F.entry_extend_loop ?_
  rw[Around.under_plainId F.plain_extend_loop _]
  show wpAny _ A.in1 (pyNext (.ref I) >>= _) _ _ s
  refine wpAny_bind (W.done A.in1 s _ _ (by simpa using hh) st fun h' eb=>?_)
  refine wpAny_pure (hR h' c (fun b o _ hb q=>eb b o hb q) ?_)
  rw[List.take_length]at hS
  exact eb S _ n1 hS
 | succ d ih=>
  intro i s c e1 e2 st hS hR
  have lt:i<vs.length:=by omega
  refine codeAny_builtin F.entry_extend_loop ?_
  rw[Around.under_plainId F.plain_extend_loop _]
  show wpAny _ A.in1 (pyNext (.ref I) >>= _) _ _ s
  refine wpAny_bind (W.item A.in1 i s _ _ lt st fun h1 sb st1=>?_)
  have hS1:h1.get? S=some { cls:=.type "list",data:=.seq (vs.take i).toArray c }:=(sb.2 S n1).trans hS
  show wpAny _ A.in1 (updateSeq S (·.push vs[i]) >>= _) _ _ _
  refine wpAny_bind (wpAny_updateSeq hS1 rfl (wpAny_pure ⟨plainId_quiet F.plain_extend_loop _,ih (i+1) _ (if ((vs.take i).toArray.push vs[i]).size==(vs.take i).toArray.size then c else c+1) (by omega) lt (W.frame _ _ _ st1 fun b hb o q=>?_) (Heap.get?_update_self _ hS1 rfl |>.trans ?_) fun h' c' kp g=>?_⟩) ?_ ?_)
  ·have nb:b≠S:=fun e=>by
    rw[e]at hb
    rcases qQ9.mp hb with hb | hb
    ·exact n1 hb
    ·exact n2 hb
   exact(Heap.get?_update_other _ _ (Ne.symm nb)).trans q
  ·have:(vs.take i).toArray.push vs[i]=(vs.take (i+1)).toArray:=by
    rw[List.take_add_one,List.getElem?_eq_getElem lt];simp
   rw[←this];rfl
  ·exact hR h' c' (fun b o a1 a2 q=>kp b o a1 a2 ((Heap.get?_update_other _ _ (Ne.symm a1)).trans ((sb.2 b a2).trans q))) g
  ·simp;omega
  ·show((vs.take i).toArray.push vs[i]).size≤sizeLine+1
   simp;omega
end
end TS
namespace TS
open PySem PySem.Spec PyProof.Rows Srt
set_option maxRecDepth 100000
theorem a7Z:typeLookup (.type "set") "__len__"=pure (some (.builtin "set.__len__")):=F.slot_set_len.lookup
section
variable{prog:Program}{w:World}{A:Around}{E:Value→Shared→Prop}{s:Shared}
theorem a9R{a:Addr}{ks:List Str}{Q:List Value→Shared→Prop}(hh:A.handled=none)(Ia:IsT w s.heap a ks)
  (h:∀(vs:List Value) (h':Heap) (d':Drawn),Tells vs ks→s.heap.objs.size<h'.objs.size→(∀b o,s.heap.get? b=some o→h'.get? b=some o)→Q vs { s with heap:=h',drawn:=d' }) :
  wpAny (model prog w) A (collect (.ref a)) Q E s:=by
 have la:a<s.heap.objs.size:=let ⟨_,_,_,_,q,_⟩:=Ia;Heap.lt_size q
 have zk:ks.length≤sizeLine:=fits_of_scanBound Ia.len
 unfold collect
 refine wpAny_bind (wpAny_runValue (codeAny_builtin F.entry_proto_collect ?_))
 rw[Around.under_plainId F.plain_proto_collect _]
 show wpAny _ A.in1 (newList [] >>= fun l=>again (.builtin "list.__iadd__" ⟨[l,.ref a],[]⟩)) _ _ s
 refine wpAny_bind (wpAny_newObj_type ?_)
 refine wpAny_pure ⟨plainId_quiet F.plain_list_iadd _,codeAny_builtin F.entry_list_iadd ?_⟩
 rw[Around.under_plainId F.plain_list_iadd _]
 generalize hh1:s.heap.push { cls:=.type "list",data:=.seq ([]:List Value).toArray }=h1
 have k1:∀b o,s.heap.get? b=some o→h1.get? b=some o:=fun b o e=>by rw[←hh1];exact Heap.get?_push_of_some _ e
 have g1:h1.get? s.heap.objs.size=some { cls:=.type "list",data:=.seq #[] 0 }:=by rw[←hh1];exact Heap.get?_push_size _ rfl
 have z1:h1.objs.size=s.heap.objs.size+1:=by rw[←hh1];exact Heap.size_push ..
 have I1:IsT w h1 a ks:=Ia.at fun o e=>k1 a o e
 show wpAny _ A.in1 (Builtin.List.listExtendWith (.ref s.heap.objs.size) (.ref a) (.ref s.heap.objs.size)) _ _ { s with heap:=h1 }
 unfold Builtin.List.listExtendWith
 refine wpAny_bind (wpAny_typeOf (s:={ s with heap:=h1 }) I1.ty ?_)
 have nsr:Builtin.List.listSameRef (.ref s.heap.objs.size) (.ref a)=false:=by
  simp only[Builtin.List.listSameRef,beq_eq_false_iff_ne];exact Nat.ne_of_gt la
 rw[if_neg (by rw[nsr];decide)]
 refine wpAny_bind (b7i (s:={ s with heap:=h1 }) I1 fun I fp vs St h2 d' W st k2 hI hfp T=>?_)
 have I2:IsT w h2 a ks:=I1.at fun o e=>k2 a o e
 have g2:=k2 _ _ g1
 refine wpAny_bind (wpAny_holding ?_)
 unfold Builtin.List.listLengthHint
 refine wpAny_bind (wpAny_specialOf (s:={ s with heap:=h2,drawn:=d' }) I2.ty a7Z ?_)
 generalize hid:("set.__len__":String)=id0
 dsimp only
 rw[show splitId id0=some ("set","__len__") from by subst hid;decide +kernel]
 subst hid
 dsimp only
 refine wpAny_bind (wpAny_isInstance (b:=true) (s:={ s with heap:=h2,drawn:=d' }) I2.ty sub_set_self ?_)
 rw[if_neg (by decide),if_pos (by decide +kernel)]
 refine wpAny_bind (wpAny_typeOf (s:={ s with heap:=h2,drawn:=d' }) I2.ty ?_)
 refine wpAny_pure ?_
 rw[if_pos (by decide +kernel)]
 refine wpAny_bind (wpAny_rule ?_)
 unfold Builtin.List.listTouch
 obtain⟨us,tx,pu⟩:=id T
 have zv:vs.length≤sizeLine:=by rw[tx.len,pu.length_eq];exact zk
 refine wpAny_bind (wpAny_bind (listUpdate_at (s:={ s with heap:=h2,drawn:=d' }) g2 rfl ?_ (Nat.zero_le _) (by show(#[].push Value.none).size≤_;rw[sizeLine_eq];decide)))
 have g3:(h2.update s.heap.objs.size (Obj.mapSeq (·.push .none))).get? s.heap.objs.size=some { cls:=.type "list",data:=.seq #[Value.none] 1 }:=Heap.get?_update_self _ g2 rfl
 refine listUpdate_at (s:={ s with heap:=h2.update s.heap.objs.size (Obj.mapSeq (·.push .none)),drawn:=d' }) g3 rfl ?_ (by show(1:Nat)≤_;rw[sizeLine_eq];decide) (Nat.zero_le _)
 generalize hh4:(h2.update s.heap.objs.size (Obj.mapSeq (·.push .none))).update s.heap.objs.size (Obj.mapSeq (·.pop))=h4
 have g4:h4.get? s.heap.objs.size=some { cls:=.type "list",data:=.seq #[] 2 }:=by rw[←hh4];exact Heap.get?_update_self _ g3 rfl
 have k4:∀b o,b≠s.heap.objs.size→h2.get? b=some o→h4.get? b=some o:=fun b o hb e=>by
  rw[←hh4,Heap.get?_update_other _ _ (Ne.symm hb),Heap.get?_update_other _ _ (Ne.symm hb)];exact e
 have nI:s.heap.objs.size≠I:=by
  have q:h1.objs.size≤I:=hI
  rw[z1]at q;exact Nat.ne_of_lt q
 have nf:s.heap.objs.size∉fp:=fun hm=>by
  rcases hfp _ hm with e | e
  ·exact Nat.ne_of_gt la e
  ·have e:h1.objs.size≤s.heap.objs.size:=e
   rw[z1]at e;exact Nat.lt_irrefl _ e
 refine wpAny_pure ⟨plainId_quiet F.plain_extend_loop _,b1n (by simpa using hh) W zv nI nf _ (vs.length-0) 0 { s with heap:=h4,drawn:=d' } 2 rfl (Nat.zero_le _) ?_ g4 fun h5 c5 k5 g5=>?_⟩
 ·refine W.frame 0 h2 h4 st fun b hb o e=>k4 b o (fun z=>?_) e
  rw[z]at hb
  rcases qQ9.mp hb with hb | hb
  ·exact nI hb
  ·exact nf hb
 ·show wpAny _ A (load s.heap.objs.size >>= _) _ _ _
  refine wpAny_bind (wpAny_load g5 ?_)
  refine wpAny_pure (h vs h5 d' T (Heap.lt_size g5) fun b o e=>?_)
  have lb:=Heap.lt_size e
  refine k5 b o (Nat.ne_of_lt lb) (fun z=>?_) (k4 b o (Nat.ne_of_lt lb) (k2 b o (k1 b o e)))
  have q:h1.objs.size≤I:=hI
  rw[z1,←z]at q
  exact Nat.lt_irrefl _ (Nat.lt_trans lb q)
theorem a8X{O:KeyOrd}{key:Keyed→O.α}(d:O.α){a:Addr}{ks:List Str}{Q:Value→Shared→Prop}(hh:A.handled=none)(Ia:IsT w s.heap a ks)
  (S:∀vs,Tells vs ks→Sortable prog w s.heap vs O key)
  (h:∀(vs out:List Value) (l:Addr) (h':Heap) (d':Drawn) (e:Nat),Tells vs ks→out.Perm vs→out.Pairwise (fun x y=>O.kle (key (x,x)) (key (y,y)))→s.heap.objs.size≤l→(∀b o,s.heap.get? b=some o→h'.get? b=some o) →
   h'.get? l=some (seqObj "list" out.toArray e)→Q (.ref l) { s with heap:=h',drawn:=d' }) :
  wpAny (model prog w) A (call (.builtin "sorted") [.ref a]) Q E s:=by
 refine Calls.call_function_entry kind_sorted plain_sorted entry_sorted (args_sorted1 _) ?_
 unfold Builtin.«sorted»
 refine wpAny_bind (m:=checkCount "sorted" 1 1 _) (wpAny_pure ?_)
 refine wpAny_bind (a9R (by simpa using hh) Ia fun vs h1 d' T l1 k1=>?_)
 obtain⟨us,tx,pu⟩:=id T
 have zv:vs.length≤sizeLine:=by rw[tx.len,pu.length_eq];exact fits_of_scanBound Ia.len
 refine wpAny_bind (wpAny_newList ?_ zv)
 have lo:∀b o,s.heap.get? b=some o→b<h1.objs.size:=fun b o e=>Heap.lt_size (k1 b o e)
 have sl:s.heap.objs.size≤h1.objs.size:=Nat.le_of_lt l1
 have oL:(h1.push (seqObj "list" vs.toArray 0)).get? h1.objs.size=some (seqObj "list" vs.toArray 0):=Heap.get?_push_size _ rfl
 have keep:∀b o,s.heap.get? b=some o→b≠h1.objs.size∧(h1.push (seqObj "list" vs.toArray 0)).get? b=some o:=fun b o e=>
  ⟨Nat.ne_of_lt (lo b o e),Heap.get?_push_of_some _ (k1 b o e)⟩
 refine wpAny_bind (wpAny_holding (wpAny_call_entry slot_list_sort (s:={ s with heap:=h1.push (seqObj "list" vs.toArray 0),drawn:=d' }) ⟨_,oL,rfl⟩ entry_list_sort (sort_any d oL zv (S vs T) keep fun out a1 a2=>⟨_,rfl,?_⟩) (args_list_sort _)))
 obtain⟨e,he⟩:=sortedHeap_at (out:=out.toArray) oL
 refine wpAny_pure ⟨_,rfl,h vs out _ _ d' e T a1 a2 sl (fun b o q=>?_) he⟩
 rw[sortedHeap_old (keep b o q).1 (Heap.lt_size (keep b o q).2)]
 exact(keep b o q).2
end
end TS
namespace L2
open PySem PySem.Spec PyProof.Rows Srt TS
def tso(w:World)(a:Addr)(ks:List Str):HO:=.ext fun h=>IsT w h a ks
section
variable{X:Cx}{pins:List (Addr×Obj)}{σ:St}{H:Hp}{s:Shared}
theorem b6f{h:Heap}{a:Addr}{ks:List Str}(x:IsT X.w h a ks):z9 X.prog X.w H h a (tso X.w a ks):=
 ⟨x,let ⟨o,_,_,_,q,_⟩:=x;⟨o,q⟩,fun _ _ y k=>y.at k⟩
theorem Inv.isT(I:Inv X pins σ H s){a:Addr}{ks:List Str}(e:H a=some (tso X.w a ks)):IsT X.w s.heap a ks:=(I.hok a _ e).1
theorem Inv.draw(I:Inv X pins σ H s)(d:Drawn):Inv X pins σ H { s with drawn:=d }:=⟨I.ok,I.os,I.bare,I.base,I.loc,I.cell,I.free,I.freeC,I.pin,I.hok,I.len⟩
theorem b8p:∀{ks:List Str} {us:List Value},j4 (ks.map V.str) us→S6 us ks
 | [],_,.nil=>.nil
 | _::_,_,.cons r t=>.cons r (b8p t)
theorem a5D:∀{ks:List Str} {us:List Value},S6 us ks→j4 (ks.map V.str) us
 | _,_,.nil=>.nil
 | _,_,.cons r t=>.cons r (a5D t)
theorem a2P(hc:X.calm=true):K8 X (.type "set") (fun as H Q=>∃p ks,as=[.ref p]∧d7 X.K H p (ks.map V.str)∧ks.length+1<scanBound∧∀l,H l=none→Q (.ref l) (upd H l (tso X.w l (once ks)))):=by
 intro pins s σ H as us Q I r h
 obtain⟨p,ks,rfl,hq,hb,q⟩:=h
 obtain⟨u,rfl,ru⟩:=vals1 r
 cases (show u=Value.ref p from ru)
 obtain⟨its,rv,pl,hz⟩:=I.list hq
 refine a4S (vs:=its) (I.ok.hd hc) pl.isList (b8p rv) hb fun h' tk I' k=>?_
 exact⟨.ref s.heap.objs.size,_,I.laid (t':=tk) k (qQ7 _) (b6f I'),rfl,q _ (I.hok.fresh (qQ7 _))⟩
def b1B(w:World):R2:=fun x y H Q=>∃a b ks js,x=.ref a∧y=.ref b∧b≠a∧H a=some (tso w a ks)∧H b=some (tso w b js)∧ks.length+1<scanBound∧js.length+1<scanBound ∧
 ∀l rs,H l=none→rs.Nodup→(∀x,x∈rs↔x∈ks∧x∈js)→Q (.ref l) (upd H l (tso w l rs))
theorem a6X:D5 X (binaryOp .BitAnd) (b1B X.w):=by
 intro pins s σ H x y u v Q I rx ry h
 obtain⟨a,b,ks,js,rfl,rfl,ne,ha,hb,la,lb,q⟩:=h
 cases (show u=Value.ref a from rx)
 cases (show v=Value.ref b from ry)
 refine b8s ne (I.isT ha) (I.isT hb) la lb fun h' rs k I' m=>?_
 exact⟨.ref s.heap.objs.size,_,I.laid (t':=s.toks) k (qQ7 _) (b6f I'),rfl,q _ rs (I.hok.fresh (qQ7 _)) I'.nodup m⟩
theorem a6w(hc:X.calm=true):K8 X (.builtin "sorted") (fun as H Q=>∃p ks,as=[.ref p]∧H p=some (tso X.w p ks)∧ks.length<64∧∀l ys,H l=none→ys.Perm (ks.map V.str)→N8 H ys→Q (.ref l) (upd H l (.lst ys))):=by
 intro pins s σ H as us Q I r h
 obtain⟨p,ks,rfl,hp,h64,q⟩:=h
 obtain⟨u,rfl,ru⟩:=vals1 r
 cases (show u=Value.ref p from ru)
 have J:=I.isT hp
 have srt:∀us:List Str,us.length<64→a1z H (us.map V.str):=fun us l=>⟨by rw[qQ0];exact l,fun x hx=>by obtain⟨z,_,rfl⟩:=qQ3.mp hx;exact⟨z,rfl⟩⟩
 refine a8X (O:=a0u) (key:=fun p=>a3J s.heap p.1) ([]:List Atom) (I.ok.hd hc) J (fun vs T=>?_) fun vs out l h' d' e T op os hl k hg=>?_
 ·obtain⟨us,tx,pu⟩:=T
  exact a3d I (srt us (by rw[pu.length_eq];exact h64)) (a5D tx)
 ·obtain⟨us,tx,pu⟩:=T
  obtain⟨ys,y1,y2⟩:=j4.perm op (a5D tx)
  have hn:H l=none:=I.hok.fresh hl
  have py:ys.Perm (ks.map V.str):=y1.trans (pu.map _)
  refine⟨.ref l,_,(I.laid (t':=s.toks) (o:=.lst ys) k hl ⟨?_,out,e,y2,hg⟩).draw d',rfl,q _ ys hn py ?_⟩
  ·rw[py.length_eq,qQ0];exact fits_of_scanBound J.len
  ·unfold N8
   rw[←a9c I (srt us (by rw[pu.length_eq];exact h64)) y2 fun y hy=>y1.mem_iff.mp hy,List.pairwise_map]
   exact os
end
end L2
namespace L2
open PySem PySem.Spec PyProof.Rows Srt
def M6(x:Str)(n:Nat):Str:=⟨(List.replicate n x.cps).foldl (·++·) #[]⟩
section
variable{X:Cx}
theorem a5x:D5 X (binaryOp .Mult) (fun x y H Q=>∃z n,x=.str z∧y=.int n∧2≤n∧n≤1000∧1≤z.length∧z.length≤1000∧(M6 z n.toNat).length≤sizeLine∧Q (.str (M6 z n.toNat)) H):=by
 intro pins s σ H x y v u Q I rx ry h
 obtain⟨z,n,rfl,rfl,h1,h2,h3,h4,h5,q⟩:=h
 obtain⟨t,rfl⟩:=rx
 obtain⟨t',rfl⟩:=ry
 have e2:(n==1||z.length==0)=false:=by
  rw[Bool.or_eq_false_iff,beq_eq_false_iff_ne,beq_eq_false_iff_ne];omega
 refine PySem.P.mul_str ?_ (fun _ _=>?_) (fun _ _=>?_) ?_
 ·rw[Bool.or_eq_false_iff,decide_eq_false_iff_not,decide_eq_false_iff_not];omega
 ·have a1:(1000:Int)≤(2 ^ 63-1)/n:=by
   rw[Int.le_ediv_iff_mul_le (by omega)];omega
  omega
 ·have b1:z.length*n.toNat≤1000*1000:=Nat.mul_le_mul h4 (by omega)
  have:=sizeLine_eq
  exact decide_eq_false (by omega)
 ·rw[if_neg (by omega),if_neg (by rw[e2];exact Bool.false_ne_true)]
  exact⟨h5,⟨.str (M6 z n.toNat),H,I.tok _,⟨_,rfl⟩,q⟩⟩
end
section
variable{X:Cx}{own tl:List Str}{scope:Scope}{cl:List (Str×Addr)}{C:Addr}{s₀:Shared}{H₀:Hp}{ex:List Addr}
end
theorem u7{α:Type}[DecidableEq α]:∀{l m:List α},l.Nodup→(∀x∈l,x∈m)→l.length≤m.length
 | [],m,_,_=>Nat.zero_le _
 | x::l,m,n,h=>by
  have hx:=h x List.mem_cons_self
  have p:=List.perm_cons_erase hx
  rw[p.length_eq,List.length_cons,List.length_cons]
  have n':=List.nodup_cons.mp n
  refine Nat.succ_le_succ (u7 n'.2 fun y hy=>?_)
  have hm:=p.mem_iff.mp (h y (List.mem_cons_of_mem _ hy))
  rcases qQ9.mp hm with e | e
  ·subst e;exact absurd hy n'.1
  ·exact e
theorem a2i{α:Type}[DecidableEq α]:∀{l m:List α},l.Nodup→m.Nodup→(∀x,x∈l↔x∈m)→l.Perm m
 | [],m,_,_,h=>by
  have:m=[]:=List.eq_nil_iff_forall_not_mem.mpr fun x hx=>by have:=(h x).mpr hx;simp at this
  subst this;exact List.Perm.nil
 | x::l,m,n,k,h=>by
  have hx:=(h x).mp List.mem_cons_self
  have p:=List.perm_cons_erase hx
  have n':=List.nodup_cons.mp n
  have k':=List.nodup_cons.mp (p.nodup_iff.mp k)
  refine((a2i n'.2 k'.2 fun y=>?_).cons x).trans p.symm
  constructor
  ·intro hy
   rcases qQ9.mp (p.mem_iff.mp ((h y).mp (List.mem_cons_of_mem _ hy))) with e | e
   ·subst e;exact absurd hy n'.1
   ·exact e
  ·intro hy
   rcases qQ9.mp ((h y).mpr (p.mem_iff.mpr (List.mem_cons_of_mem _ hy))) with e | e
   ·subst e;exact absurd hy k'.1
   ·exact e
theorem a0e:∀{l m:List (List Atom)},l.Pairwise a0u.kle→m.Pairwise a0u.kle→l.Perm m→l=m
 | [],m,_,_,p=>(List.nil_perm.mp p).symm▸rfl
 | x::l,[],_,_,p=>by have:=p.length_eq;simp at this
 | x::l,y::m,hl,hm,p=>by
  have a:=List.pairwise_cons.mp hl
  have b:=List.pairwise_cons.mp hm
  have e:x=y:=by
   rcases qQ9.mp (p.mem_iff.mp (List.mem_cons_self:x∈x::l)) with e | hx
   ·exact e
   ·rcases qQ9.mp (p.mem_iff.mpr (List.mem_cons_self:y∈y::m)) with e | hy
    ·exact e.symm
    ·exact Y4 (b.1 x hx) (a.1 y hy)
  subst e
  rw[a0e a.2 b.2 (List.Perm.cons_inv p)]
theorem j7{H H':Hp}{a:Addr}{o:HO}(e:g6 H H')(h:H a=none):g6 H (upd H' a o):=fun b u q=>by
 rw[b7 (e7 q h)];exact e b u q
theorem J3{ys:List V}{ks:List Str}(p:ys.Perm (ks.map V.str)):∃js:List Str,ys=js.map V.str∧js.Perm ks:=by
 let f:V→Str:=fun v=>match v with | .str x=>x | _=>Str.ofString ""
 have e:ks=(ks.map V.str).map f:=by rw[List.map_map];exact(List.map_id _).symm
 refine⟨ys.map f,?_,?_⟩
 ·rw[List.map_map]
  have:∀y∈ys,(V.str∘f) y=y:=fun y hy=>by
   obtain⟨k,_,rfl⟩:=qQ3.mp (p.mem_iff.mp hy);rfl
  exact(List.map_id ys).symm.trans (List.map_congr_left fun y hy=>(this y hy).symm)
 ·have q:=p.map f
  rw[←e]at q
  exact q
end L2
namespace L2
open PySem PySem.Spec PyProof.Rows Srt TS
theorem a4T{k:Key}{v:Value}(h:a4h k v=true):RelV (kV k) v:=by
 rcases B9 h with ⟨i,t,rfl,rfl⟩ | ⟨x,t,rfl,rfl⟩
 ·exact⟨t,rfl⟩
 ·exact⟨t,rfl⟩
theorem a7m{P:Program}{w:World}:∀{kvs:List (Key×V)} {vs:List (Key×Value)} {us:List Value},KV kvs vs→us.length=vs.length →
  (∀(j:Nat) (v:Value),us[j]?=some v→∃k x,vs[j]?=some (k,x)∧(p7 P w).is k v=true)→j4 (kvs.map fun q=>kV q.1) us
 | _,_,us,.nil,hl,_=>by
  have:us=[]:=List.eq_nil_of_length_eq_zero hl
  subst this;exact .nil
 | _,_,us,.cons (a:=p) (b:=q) r t,hl,h=>by
  match us,hl,h with
  | u::us,hl,h=>
   obtain⟨k,x,e,hk⟩:=h 0 u rfl
   have e:q=(k,x):=by simpa using e
   have r1:p.1=q.1:=r.1
   refine .cons ?_ (a7m t (by simpa using hl) fun j v hv=>by simpa using h (j+1) v (by simpa using hv))
   show RelV (kV p.1) u
   rw[r1,e]
   exact a4T hk
section
variable{X:Cx}{pins:List (Addr×Obj)}{σ:St}{H:Hp}{s:Shared}
theorem a8w(hu:X.A.units+1<cLine):D5 X (compareOp .In) (fun x y H Q=>∃a o,y=.ref a∧t9 H a x o∧Q (.bl o.isSome) H):=by
 intro pins s σ H x y u v Q I rx ry h
 obtain⟨a,o,rfl,g,q⟩:=h
 cases (show v=Value.ref a from ry)
 exact b0D hu I g rx fun s' I'=>⟨.bl o.isSome,H,I',rfl,q⟩
theorem X0(hu:X.A.units+1<cLine):D5 X (compareOp .NotIn) (fun x y H Q=>∃a o,y=.ref a∧t9 H a x o∧Q (.bl (!o.isSome)) H):=by
 intro pins s σ H x y u v Q I rx ry h
 obtain⟨a,o,rfl,g,q⟩:=h
 cases (show v=Value.ref a from ry)
 exact b8q hu I g rx fun s' I'=>⟨.bl (!o.isSome),H,I',rfl,q⟩
theorem a6f{h:Heap}{P:Program}{w:World}{a:Addr}{vs:List (Key×Value)}(d:h.DictOf (p7 P w) a vs):∃ep,h.DictAt (p7 P w) a vs ep:=by
 obtain⟨o,es,ep,r⟩:=d
 obtain⟨h1,h2,h3,h4⟩:=r
 exact⟨ep,o,es,h1,h2,h3,h4⟩
theorem a0f(hc:X.calm=true):K8 X (.type "list") (fun as H Q=>∃p kvs,as=[.ref p]∧Rd H p (.dK kvs)∧∀l,H l=none→Q (.ref l) (upd H l (.lst (kvs.map fun q=>kV q.1)))):=by
 intro pins s σ H as us Q I r h
 obtain⟨p,kvs,rfl,hq,q⟩:=h
 obtain⟨u,rfl,ru⟩:=vals1 r
 cases (show u=Value.ref p from ru)
 obtain⟨z,hd,vs,rel,dd⟩:=V6 I.hok hq
 obtain⟨ep,da⟩:=a6f dd
 have lv:vs.length=kvs.length:=by have:=congrArg List.length rel.keys;simpa using this.symm
 refine PySem.W.kdl_call (PySem.W.kdl_dict (knd:=p7 X.prog X.w) (kvs:=vs) (ep:=ep) hd) (I.ok.hd hc) da (by rw[lv];exact z) fun h' tk acc c k hg hi=>?_
 have va:j4 (kvs.map fun q=>kV q.1) acc.toList:=a7m (P:=X.prog) (w:=X.w) rel (by rw[Array.length_toList];exact hi.1) fun j v e=>hi.2 j v (by rw[←Array.getElem?_toList];exact e)
 refine⟨.ref s.heap.objs.size,_,I.laid (t':=tk) (o:=.lst (kvs.map fun q=>kV q.1)) k (qQ7 _) ⟨by rw[qQ0];exact z,acc.toList,c,va,by simpa using hg⟩,rfl,q _ (I.hok.fresh (qQ7 _))⟩
end
end L2
namespace TS
open PySem PySem.Spec PyProof.Rows Srt
section
variable{prog:Program}{w:World}{A:Around}{E:Value→Shared→Prop}{s:Shared}{T:String}{r d:Addr}{n:Nat}{P:Nat→Value→Prop}{OK:Heap→Prop}
theorem a2S{Q:List Value→Shared→Prop}(K:PySem.W.KdlSrc prog w T r d n P OK)(hh:A.handled=none)(hok:OK s.heap)(hn:n≤sizeLine)
  (h:∀(vs:List Value) (h':Heap) (tk:Nat),s.heap.objs.size<h'.objs.size→(∀b o,s.heap.get? b=some o→h'.get? b=some o)→vs.length=n→(∀(j:Nat) (v:Value),vs[j]?=some v→P j v)→Q vs { s with heap:=h',toks:=tk }) :
  wpAny (model prog w) A (collect (.ref r)) Q E s:=by
 have lt:=K.there _ hok
 unfold collect
 refine wpAny_bind (wpAny_runValue (codeAny_builtin PySem.F.entry_proto_collect ?_))
 rw[Around.under_plainId PySem.F.plain_proto_collect _]
 show wpAny _ A.in1 (newList [] >>= fun l=>again (.builtin "list.__iadd__" ⟨[l,.ref r],[]⟩)) _ _ s
 refine wpAny_bind (wpAny_newObj_type ?_)
 refine wpAny_pure ⟨plainId_quiet PySem.F.plain_list_iadd _,codeAny_builtin PySem.F.entry_list_iadd ?_⟩
 rw[Around.under_plainId PySem.F.plain_list_iadd _]
 show wpAny _ A.in1 (Builtin.List.listExtendWith (.ref s.heap.objs.size) (.ref r) (.ref s.heap.objs.size)) _ _ _
 refine PySem.W.kdl_extend (A:=A) (R:=fun r s'=>match r with
  | .ok (.ret v)=>wpAny (model prog w) A (match v with
   | .ref a=>do
    match (←load a).data with
    | .seq xs _=>pure xs.toList
    | _=>unsupported "internal:collect"
   | _=>unsupported "internal:collect") Q E s'
  | .ok _=>False
  | .error e=>E e s') (s:={ s with heap:=s.heap.push { cls:=.type "list",data:=.seq ([]:List Value).toArray } }) K (by simpa using hh) (K.keep _ _ hok fun b _ o e=>Heap.get?_push_of_some _ e) s.heap.objs.size (Nat.ne_of_gt lt.1) (Nat.ne_of_gt lt.2) (.ref s.heap.objs.size) 0 (Heap.get?_push_size _ rfl) (fun h' tk acc c k hg hi=>?_) hn
 show wpAny _ A (load s.heap.objs.size >>= _) _ _ _
 refine wpAny_bind (wpAny_load hg ?_)
 refine wpAny_pure (h acc.toList h' tk (Heap.lt_size hg) (fun b o e=>k b o (Nat.ne_of_lt (Heap.lt_size e)) (Heap.get?_push_of_some _ e)) (by rw[Array.length_toList];exact hi.1) fun j v e=>hi.2 j v (by rw[←Array.getElem?_toList];exact e))
theorem a3Y{O:KeyOrd}{key:Keyed→O.α}(dd:O.α){Q:Value→Shared→Prop}(K:PySem.W.KdlSrc prog w T r d n P OK)(hh:A.handled=none)(hok:OK s.heap)(hn:n≤sizeLine)
  (S:∀vs:List Value,vs.length=n→(∀(j:Nat) (v:Value),vs[j]?=some v→P j v)→Sortable prog w s.heap vs O key)
  (h:∀(vs out:List Value) (l:Addr) (h':Heap) (tk e:Nat),vs.length=n→(∀(j:Nat) (v:Value),vs[j]?=some v→P j v)→out.Perm vs→out.Pairwise (fun x y=>O.kle (key (x,x)) (key (y,y)))→s.heap.objs.size≤l→(∀b o,s.heap.get? b=some o→h'.get? b=some o) →
   h'.get? l=some (seqObj "list" out.toArray e)→Q (.ref l) { s with heap:=h',toks:=tk }) :
  wpAny (model prog w) A (call (.builtin "sorted") [.ref r]) Q E s:=by
 refine Calls.call_function_entry kind_sorted plain_sorted entry_sorted (args_sorted1 _) ?_
 unfold Builtin.«sorted»
 refine wpAny_bind (m:=checkCount "sorted" 1 1 _) (wpAny_pure ?_)
 refine wpAny_bind (a2S K (by simpa using hh) hok hn fun vs h1 tk l1 k1 lv pv=>?_)
 have zv:vs.length≤sizeLine:=by rw[lv];exact hn
 refine wpAny_bind (wpAny_newList ?_ zv)
 have oL:(h1.push (seqObj "list" vs.toArray 0)).get? h1.objs.size=some (seqObj "list" vs.toArray 0):=Heap.get?_push_size _ rfl
 have keep:∀b o,s.heap.get? b=some o→b≠h1.objs.size∧(h1.push (seqObj "list" vs.toArray 0)).get? b=some o:=fun b o e=>
  ⟨Nat.ne_of_lt (Heap.lt_size (k1 b o e)),Heap.get?_push_of_some _ (k1 b o e)⟩
 refine wpAny_bind (wpAny_holding (wpAny_call_entry slot_list_sort (s:={ s with heap:=h1.push (seqObj "list" vs.toArray 0),toks:=tk }) ⟨_,oL,rfl⟩ entry_list_sort (sort_any dd oL zv (S vs lv pv) keep fun out a1 a2=>⟨_,rfl,?_⟩) (args_list_sort _)))
 obtain⟨e,he⟩:=sortedHeap_at (out:=out.toArray) oL
 refine wpAny_pure ⟨_,rfl,h vs out _ _ tk e lv pv a1 a2 (Nat.le_of_lt l1) (fun b o q=>?_) he⟩
 rw[sortedHeap_old (keep b o q).1 (Heap.lt_size (keep b o q).2)]
 exact(keep b o q).2
end
end TS
namespace L2
open PySem PySem.Spec PyProof.Rows Srt TS
section
variable{X:Cx}
theorem Q8(hc:X.calm=true):K8 X (.builtin "sorted") (fun as H Q=>∃p kvs,as=[.ref p]∧Rd H p (.dK kvs)∧a1z H (kvs.map fun q=>kV q.1) ∧
  ∀l ys,H l=none→ys.Perm (kvs.map fun q=>kV q.1)→N8 H ys→Q (.ref l) (upd H l (.lst ys))):=by
 intro pins s σ H as us Q I r h
 obtain⟨p,kvs,rfl,hq,sb,q⟩:=h
 obtain⟨u,rfl,ru⟩:=vals1 r
 cases (show u=Value.ref p from ru)
 obtain⟨z,hd,vs,rel,dd⟩:=V6 I.hok hq
 obtain⟨ep,da⟩:=a6f dd
 have lv:vs.length=kvs.length:=by have:=congrArg List.length rel.keys;simpa using this.symm
 have vls:∀us:List Value,us.length=vs.length→(∀(j:Nat) (v:Value),us[j]?=some v→∃k x,vs[j]?=some (k,x)∧(p7 X.prog X.w).is k v=true)→j4 (kvs.map fun q=>kV q.1) us:=fun us a b=>a7m rel a b
 refine a3Y (O:=a0u) (key:=fun p=>a3J s.heap p.1) ([]:List Atom) (PySem.W.kdl_dict (knd:=p7 X.prog X.w) (kvs:=vs) (ep:=ep) hd) (I.ok.hd hc) da (by rw[lv];exact z)
  (fun us a b=>a3d I sb (vls us a b)) fun us out l h' tk e a b op os hl k hg=>?_
 obtain⟨ys,y1,y2⟩:=j4.perm op (vls us a b)
 have hn:H l=none:=I.hok.fresh hl
 refine⟨.ref l,_,I.laid (t':=tk) (o:=.lst ys) k hl ⟨?_,out,e,y2,hg⟩,rfl,q _ ys hn y1 ?_⟩
 ·rw[y1.length_eq,qQ0];exact z
 ·unfold N8
  rw[←a9c I sb y2 fun y hy=>y1.mem_iff.mp hy,List.pairwise_map]
  exact os
end
end L2
namespace L2
open PySem PySem.Spec PyProof.Rows Srt TS
theorem b0j(z:Str):M6 z 1=z:=by unfold M6;simp
theorem Z3:∀{ns:List Int} {us:List Value},j4 (ns.map V.int) us→∀(i:Nat) (v:Value),us[i]?=some v→∃t,v=.int (ns.getD i 0) t
 | [],_,.nil,i,v,h=>by simp at h
 | n::ns,_,.cons ⟨t,e⟩ r,0,v,h=>by simp at h;exact⟨t,by rw[←h];exact e⟩
 | n::ns,_,.cons _ r,i+1,v,h=>by
  obtain⟨t,e⟩:=Z3 r i v (by simpa using h)
  exact⟨t,by rw[e];rfl⟩
def a0B(ns:List Int):Int:=preSum (fun j=>ns.getD j 0) ns.length
section
variable{X:Cx}
theorem a8J(hc:X.calm=true):K8 X (.builtin "sum") (fun as H Q=>∃p ns,as=[.ref p]∧d7 X.K H p (ns.map V.int)∧Q (.int (a0B ns)) H):=by
 intro pins s σ H as us Q I r h
 obtain⟨p,ns,rfl,hq,q⟩:=h
 obtain⟨u,rfl,ru⟩:=vals1 r
 cases (show u=Value.ref p from ru)
 obtain⟨its,rv,pl,hz⟩:=I.list hq
 have ln:its.length=ns.length:=by rw[←rv.length,qQ0]
 have lt:p<s.heap.objs.size:=let ⟨_,e,_⟩:=pl.isList;Heap.lt_size e
 refine call_sum_walkAnyS (wpAny_pyIter_list pl.isList ?_)
 refine⟨s.heap.objs.size,_,_,_,_,_,_,fun j=>ns.getD j 0,rfl,(Walks.list (A:=X.A.in1) (by simpa using I.ok.hd hc) s.heap.objs.size p (Nat.ne_of_lt lt) its.toArray).toS,⟨⟨_,Heap.get?_push_size _ rfl,rfl,rfl⟩,pl.isList.push _⟩,fun b hb=>?_,fun i v hv=>Z3 rv i v (by simpa using hv),fun s' t' m=>?_⟩
 ·have z:(s.heap.push { cls:=.type "list_iterator",data:=.fields #[.ref p,.int 0 0] }).objs.size=s.heap.objs.size+1:=Heap.size_push ..
  simp only[qQ9,List.not_mem_nil,or_false]at hb
  show b<(s.heap.push { cls:=.type "list_iterator",data:=.fields #[.ref p,.int 0 0] }).objs.size
  rw[z]
  rcases hb with rfl | rfl
  ·exact Nat.lt_succ_self _
  ·exact Nat.lt_succ_of_lt lt
 ·have k:∀b o,s.heap.get? b=some o→s'.heap.get? b=some o:=fun b o e=>m.heap b o (fun z=>by
   have:=Heap.lt_size e
   rw[qQ2.mp z]at this
   exact Nat.lt_irrefl _ this) (Heap.get?_push_of_some _ e)
  obtain⟨h',g',d',tk',os'⟩:=s'
  have e1:g'=s.gens:=m.gens
  have e2:d'=s.drawn:=m.drawn
  have e3:os'=s.os:=m.os
  subst e1;subst e2;subst e3
  refine⟨.int (a0B ns),H,I.kept (t':=tk') k,⟨t',?_⟩,q⟩
  unfold a0B
  rw[←ln,List.size_toArray]
theorem a1r:D5 X (binaryOp .Mult) (fun x y H Q=>∃z n,x=.str z∧y=.int n∧-1000≤n∧n≤1000∧1≤z.length∧z.length≤1000∧(M6 z n.toNat).length≤sizeLine∧Q (.str (M6 z n.toNat)) H):=by
 intro pins s σ H x y v u Q I rx ry h
 obtain⟨z,n,rfl,rfl,h1,h2,h3,h4,h5,q⟩:=h
 by_cases c:2≤n
 ·exact a5x pins s σ H _ _ v u Q I rx ry ⟨z,n,rfl,rfl,c,h2,h3,h4,h5,q⟩
 obtain⟨t,rfl⟩:=rx
 obtain⟨t',rfl⟩:=ry
 by_cases c0:n<1
 ·refine PySem.P.mul_str_none c0 (by omega) ⟨.str (M6 z n.toNat),H,I.tok _,?_,q⟩
  rw[show n.toNat=0 by omega]
  exact⟨_,rfl⟩
 ·have e1:n=1:=by omega
  subst e1
  refine PySem.P.mul_str (by decide) (fun _ w=>by simp at w) (fun _ w=>by simp at w) ?_
  rw[if_neg (by decide),if_pos (by simp)]
  refine⟨.str z,H,I,⟨t,rfl⟩,?_⟩
  have e:M6 z (1:Int).toNat=z:=b0j z
  rw[e]at q
  exact q
end
end L2
namespace L2
open PySem PySem.Spec PyProof.Rows Srt TS
theorem a8D{α β:Type}(f:α→β):∀(l:List α) (j:Nat),(l.map f).eraseIdx j=(l.eraseIdx j).map f
 | [],_=>rfl
 | a::l,0=>rfl
 | a::l,j+1=>by
  rw[List.map_cons,List.eraseIdx_cons_succ,List.eraseIdx_cons_succ,List.map_cons,a8D f l j]
section
variable{X:Cx}
theorem b9t:D5 X (binaryOp .Mult) (rI IntMulOk fun i j=>.int (i*j)):=opI fun _ _ _ _ _ _ _ hc q=>mul_int q hc
def b4s:V→List V→Hp→VK→Prop:=fun x vs H Q=>∃(l:Addr) (ns:List Int) (n:Int) (j:Nat),x=.ref l∧vs=[.int n]∧H l=some (.lst (ns.map V.int))∧ns[j]?=some n∧(∀i,i<j→ns[i]?≠some n)∧Q .non (upd H l (.lst ((ns.eraseIdx j).map V.int)))
theorem a1l:MtM X "list.remove" b4s:=by
 intro pins s σ H x vs v us Q I rx rv h
 obtain⟨l,ns,n,j,rfl,rfl,hH,hj,hf,q⟩:=h
 cases rx
 obtain⟨u,rfl,⟨t,rfl⟩⟩:=vals1 rv
 obtain⟨z,its,c,r,hl,e⟩:=I.lstM hH
 have lj:j<ns.length:=(qQ1.mp hj).1
 have li:its.length=ns.length:=by rw[←hl,qQ0]
 have at':∀i,i<its.length→∃t,its[i]?=some (.int (ns.getD i 0) t):=fun i hi=>by
  obtain⟨t,e⟩:=Z3 r i its[i] (List.getElem?_eq_getElem hi)
  exact⟨t,by rw[List.getElem?_eq_getElem hi,e]⟩
 let ev:Value→Bool:=fun y=>match y with | .int i _=>i==n | _=>false
 have ej:∀i,(hi:i<its.toArray.size)→ev its.toArray[i]=(ns.getD i 0==n):=fun i hi=>by
  have hi':i<its.length:=by simpa using hi
  obtain⟨t,e⟩:=at' i hi'
  rw[List.getElem?_eq_getElem hi']at e
  have e:its[i]=Value.int (ns.getD i 0) t:=qW1 e
  show ev its.toArray[i]=_
  rw[List.getElem_toArray,e]
 have lj':j<its.toArray.size:=by rw[List.size_toArray,li];exact lj
 refine call_meets F.slot_list_remove ⟨_,e,rfl⟩ F.entry_list_remove (F.args_list_remove_2 _ _) (MeetsSeq.list_remove l its.toArray c (.int n t) ev (fun y hy=>?_) j lj' ?_ (fun m hm lt=>?_) (by rw[List.size_toArray,li];rw[qQ0]at z;exact z)) ⟨e,?_⟩
 ·obtain⟨i,hi,rfl⟩:=Array.mem_iff_getElem.mp hy
  have hi':i<its.length:=by simpa using hi
  obtain⟨t',e'⟩:=at' i hi'
  rw[List.getElem?_eq_getElem hi']at e'
  have e':its[i]=Value.int (ns.getD i 0) t':=qW1 e'
  rw[ej i hi,List.getElem_toArray,e']
  exact MeetsSeq.EqGives.int _ _ _ _
 ·rw[ej j lj',List.getD_eq_getElem?_getD,hj];simp
 ·have hm':m<ns.length:=by rw[←li];simpa using hm
  rw[ej m hm,List.getD_eq_getElem?_getD,List.getElem?_eq_getElem hm',Option.getD_some,beq_eq_false_iff_ne]
  intro w
  exact hf m lt (by rw[List.getElem?_eq_getElem hm',w])
 ·have re:j4 ((ns.eraseIdx j).map V.int) (its.eraseIdx j):=by
   have:=r.eraseIdx j
   rwa [a8D] at this
  refine⟨.non,_,I.lset (its':=its.eraseIdx j) hH e ?_ re ?_,rfl,q⟩
  ·show its.toArray.eraseIdxIfInBounds j=(its.eraseIdx j).toArray
   rw[List.eraseIdxIfInBounds_toArray]
  ·have:=List.length_eraseIdx_le ns j
   rw[qQ0]at z ⊢
   omega
end
end L2
namespace L2
open PySem PySem.Spec PyProof.Rows Srt TS
section
variable{X:Cx}{pins:List (Addr×Obj)}{σ:St}{H:Hp}{s:Shared}{h':Heap}
end
theorem a2X:∀{kvs:List (Key×V)} {vs:List (Key×Value)} {j:Nat} {k:Key} {u:Value},KV kvs vs→vs[j]?=some (k,u)→∃x,kvs[j]?=some (k,x)∧RelV x u
 | _,_,j,k,u,.nil,e=>by simp at e
 | _,_,0,k,u,.cons (a:=p) r t,e=>by
  have e:_=(k,u):=qW1 e
  refine⟨p.2,?_,?_⟩
  ·have:p.1=k:=r.1.trans (congrArg Prod.fst e)
   rw[←this];rfl
  ·have:=r.2
   rw[e]at this
   exact this
 | _,_,j+1,k,u,.cons r t,e=>by
  obtain⟨x,e1,r1⟩:=a2X t (by simpa using e)
  exact⟨x,by simpa using e1,r1⟩
theorem a1f{kvs:List (Key×V)}{vs:List (Key×Value)}(r:KV kvs vs):vs.length=kvs.length:=(Paired.length r).symm
section
variable{X:Cx}
end
end L2
namespace TS
open PySem PySem.Spec PyProof.Rows Srt
theorem b3f:typeLookup (.type "list_reverseiterator") "__len__"=pure none:=by rw[typeLookup_type,builtinLookup_eq_fast];kernel_rfl
theorem b3c:typeLookup (.type "list_reverseiterator") "__length_hint__"=pure (some (.builtin "list_reverseiterator.__length_hint__")):=by rw[typeLookup_type,builtinLookup_eq_fast];kernel_rfl
section
variable{prog:Program}{w:World}{A:Around}{E:Value→Shared→Prop}{s:Shared}{it l:Addr}{items:Array Value}
theorem b7h{Q:Bool→Shared→Prop}(hT:s.TypeIs (.ref it) "list_reverseiterator")(h:Q false s):wpAny (model prog w) A (Builtin.List.listLengthHint (.ref it)) Q E s:=by
 unfold Builtin.List.listLengthHint
 refine wpAny_bind (wpAny_specialOf hT b3f ?_)
 show wpAny _ A (specialOf (Value.ref it) (Str.ofString "__length_hint__") >>= _) _ _ _
 refine wpAny_bind (wpAny_specialOf hT b3c ?_)
 generalize hid:("list_reverseiterator.__length_hint__":String)=id0
 wp_delta
 rw[show splitId id0=some ("list_reverseiterator","__length_hint__") from by subst hid;decide +kernel]
 subst hid
 refine wpAny_bind (wpAny_isInstance (T:="list_reverseiterator") (b:=true) hT (by rw[isSubtype_type];kernel_rfl) ?_)
 exact wpAny_pure h
abbrev Rvs(items:Array Value)(i:Nat)(v:Value):Prop:=items[items.size-1-i]?=some v
theorem a5Z{R:Result→Shared→Prop}(hh:A.handled=none)(hit:s.heap.IsRevIter it l ((items.size:Int)-1))(hl:s.heap.IsList l items)(hne:l≠it)(S:Addr)(nSi:S≠it)(nSl:S≠l)(res:Value)(c₀:Nat)(hS:s.heap.get? S=some { cls:=.type "list",data:=.seq #[] c₀ })
  (hR:∀h' tk acc' c',(∀b o,b≠S→b≠it→s.heap.get? b=some o→h'.get? b=some o)→h'.get? S=some { cls:=.type "list",dict:=none,data:=.seq acc' c',slots:=#[] }→ItemsOf (Rvs items) acc' items.size→R (.ok (.ret res)) { s with heap:=h',toks:=tk }) (hn:items.size≤sizeLine) :
  wpAny (model prog w) A.in1 (Builtin.List.listExtendWith (.ref S) (.ref it) res)
   (fun fin s'=>match fin with | .done f=>R (.ok f) s' | .again c'=>c'.quiet=true∧codeAny (model prog w) A c' R s') (fun e s'=>R (.error e) s') s:=by
 have hSf:S∉[it,l]:=by simp only[qQ9,List.not_mem_nil,or_false,not_or];exact⟨nSi,nSl⟩
 have W:=Walks.listRev (prog:=prog) (w:=w) (A:=A.in1) hh it l hne items
 have hit0:s.heap.IsRevIter it l ((items.size:Int)-1-((0:Nat):Int)):=by simpa using hit
 unfold Builtin.List.listExtendWith
 refine wpAny_bind (wpAny_typeOf (T:="list_reverseiterator") hit.typeIs ?_)
 have h1:Builtin.List.listSameRef (.ref S) (.ref it)=false:=by simp[Builtin.List.listSameRef,nSi]
 have h2:(Value.type "list_reverseiterator"==Value.type "list")=false:=by decide
 have h3:(Value.type "list_reverseiterator"==Value.type "tuple")=false:=by decide
 simp only[h1,h2,h3,Bool.or_false,Bool.false_eq_true,if_false]
 refine wpAny_bind (wpAny_pyIter_revIter hit ?_)
 refine wpAny_bind (wpAny_holding (b7h hit.typeIs ?_))
 refine wpAny_ite_split (fun hab=>absurd hab (by decide)) (fun _=>?_)
 refine wpAny_pure ⟨plainId_quiet PySem.F.plain_extend_loop _,codeAny_extend_loopS W.toS hn S hSf res items.size 0 _ #[] c₀ rfl (Nat.zero_le _) ⟨Nat.zero_le _,hit0,hl⟩ hS (ItemsOf.nil _) fun s' acc' c' hm hS' hacc=>?_⟩
 rw[Moved.eq_with hm]
 refine hR s'.heap s'.toks acc' c' (fun b o hb hb2 e=>hm.heap b o (fun hmem=>?_) e) hS' hacc
 rcases qQ9.mp hmem with e' | hmem
 ·exact hb e'
 ·exact hb2 (qQ2.mp hmem)
theorem b3p{R:Result→Shared→Prop}(hh:A.handled=none)(hit:s.heap.IsRevIter it l ((items.size:Int)-1))(hl:s.heap.IsList l items)(hne:l≠it)(S:Addr)(nSi:S≠it)(nSl:S≠l)(hS:s.heap.get? S=some { cls:=.type "list",data:=.seq #[] })
  (hR:∀h' tk acc' c',(∀b o,b≠S→b≠it→s.heap.get? b=some o→h'.get? b=some o)→h'.get? S=some { cls:=.type "list",dict:=none,data:=.seq acc' c',slots:=#[] }→ItemsOf (Rvs items) acc' items.size→R (.ok (.ret .none)) { s with heap:=h',toks:=tk }) (hn:items.size≤sizeLine) :
  wpAny (model prog w) A.in1 (Builtin.«list.__init__» ⟨[.ref S,.ref it],[]⟩)
   (fun fin s'=>match fin with | .done f=>R (.ok f) s' | .again c'=>c'.quiet=true∧codeAny (model prog w) A c' R s') (fun e s'=>R (.error e) s') s:=by
 show wpAny _ _ (do let old ←Builtin.List.listItems (.ref S);Builtin.List.listUpdate (.ref S) (fun _=>#[]);letGo old.toList.reverse;Builtin.List.listExtendWith (.ref S) (.ref it) .none) _ _ s
 refine wpAny_bind ?_
 unfold Builtin.List.listItems
 refine wpAny_bind (wpAny_seqItems hS rfl (wpAny_pure ?_))
 show wpAny _ _ (updateSeq S (fun _=>#[]) >>= fun _=>letGo (#[]:Array Value).toList.reverse >>= fun _=>Builtin.List.listExtendWith (.ref S) (.ref it) .none) _ _ s
 refine wpAny_bind (wpAny_updateSeq hS rfl ?_)
 have S2:=Heap.get?_update_self (Obj.mapSeq (fun _=>(#[]:Array Value))) hS rfl
 have keeps:∀b o,b≠S→s.heap.get? b=some o→(s.heap.update S (Obj.mapSeq (fun _=>(#[]:Array Value)))).get? b=some o:=
  fun b o hb e=>(Heap.get?_update_other _ _ (Ne.symm hb)).trans e
 refine wpAny_bind (wpAny_letGo ?_)
 refine a5Z hh (hit.at fun o e=>keeps _ o (Ne.symm nSi) e) (hl.at fun o e=>keeps _ o (Ne.symm nSl) e) hne S nSi nSl .none _ S2 (fun h' tk acc' c' hk hS' hacc=>?_) hn
 exact hR h' tk acc' c' (fun b o hb hb2 e=>hk b o hb hb2 (keeps b o hb e)) hS' hacc
theorem b7j{Q:Value→Shared→Prop}(hh:A.handled=none)(hit:s.heap.IsRevIter it l ((items.size:Int)-1))(hl:s.heap.IsList l items)(hne:l≠it)(hn:items.size≤sizeLine)
  (hQ:∀h' tk acc' c',(∀b o,b≠it→s.heap.get? b=some o→h'.get? b=some o)→h'.get? s.heap.objs.size=some { cls:=.type "list",dict:=none,data:=.seq acc' c',slots:=#[] }→ItemsOf (Rvs items) acc' items.size→Q (.ref s.heap.objs.size) { s with heap:=h',toks:=tk }) :
  wpAny (model prog w) A (call (.type "list") [.ref it]) Q E s:=by
 have l1:it<s.heap.objs.size:=let ⟨o,ho,_⟩:=hit;Heap.lt_size ho
 have l2:l<s.heap.objs.size:=let ⟨o,ho,_⟩:=hl;Heap.lt_size ho
 refine callType_codes (Q₁:=fun obj s₁=>obj=.ref s.heap.objs.size∧s₁={ s with heap:=s.heap.push { cls:=.type "list",data:=.seq #[] } }) PySem.F.called_list (PySem.F.typeCall_list_1 _) PySem.F.entry_list_init
  (code_list_new _ ⟨rfl,rfl⟩) fun obj s₁ h₁=>?_
 obtain⟨rfl,rfl⟩:=h₁
 have hS:(s.heap.push { cls:=.type "list",data:=.seq #[] }).get? s.heap.objs.size=some { cls:=.type "list",data:=.seq #[] }:=Heap.get?_push_size _ rfl
 refine⟨⟨_,hS,rfl⟩,PySem.F.args_list_init_2 _ _,b3p (A:=A.in1) hh (hit.at fun o e=>Heap.get?_push_of_some _ e) (hl.at fun o e=>Heap.get?_push_of_some _ e) hne _ (Nat.ne_of_gt l1) (Nat.ne_of_gt l2) hS (fun h' tk acc' c' hk hS' hacc=>?_) hn⟩
 exact⟨rfl,hQ h' tk acc' c' (fun b o hb e=>hk b o (Nat.ne_of_lt (Heap.lt_size e)) hb (Heap.get?_push_of_some _ e)) hS' hacc⟩
end
end TS
namespace L2
open PySem PySem.Spec PyProof.Rows Srt TS
theorem b4m{xs:List V}{us:List Value}(r:j4 xs us):j4 xs.reverse us.reverse:=by
 induction r with
 | nil=>exact .nil
 | cons h _ ih=>rw[List.reverse_cons,List.reverse_cons];exact j4.append ih (.cons h .nil)
theorem b4a{us:List Value}{acc:Array Value}(h:ItemsOf (Rvs us.toArray) acc us.toArray.size):acc.toList=us.reverse:=by
 refine List.ext_getElem? fun i=>?_
 have lz:acc.size=us.length:=by have:=h.1;simpa using this
 by_cases hi:i<us.length
 ·have hi':i<acc.size:=by omega
  have e:=h.2 i acc[i] (Array.getElem?_eq_getElem hi')
  unfold Rvs at e
  rw[List.getElem?_toArray,List.size_toArray]at e
  rw[Array.getElem?_toList,Array.getElem?_eq_getElem hi',List.getElem?_reverse hi,e]
 ·rw[List.getElem?_eq_none (by rw[Array.length_toList];omega),List.getElem?_eq_none (by rw[List.length_reverse];omega)]
def tLR(K:PySem.W.Frag)(te:TE):TE:=fun σ H Q=>te σ H fun x H1=>∃p xs,x=.ref p∧d7 K H1 p xs∧∀l,H1 l=none→Q (.ref l) (upd H1 l (.lst xs.reverse))
section
variable{X:Cx}{e:Expr}{te:TE}{p p2 pos pos2:Pos}
theorem a6Y(hc:X.calm=true)(hg:Gl X "list")(hm:X.mg "list"=none)(hg2:Gl X "reversed")(hm2:X.mg "reversed"=none)(ha:PE X e te)
  (s1:starEach [Expr.Call (.Name "reversed" p2) [e] [] pos2] X.env=[(false,eval (Expr.Call (.Name "reversed" p2) [e] [] pos2) X.env)]:=by rfl) (s2:starEach [e] X.env=[(false,eval e X.env)]:=by rfl) :
  PE X (.Call (.Name "list" p) [.Call (.Name "reversed" p2) [e] [] pos2] [] pos) (tLR X.K te):=by
 intro pins s σ H Q I h
 refine wpAny_Call_Name_kw (a8a I hg hm boot_list ?_ (by decide) (by decide))
 refine PyProof.Rows.callWith_type1 ?_ s1 rfl
 rw[s1]
 show wpAny _ _ (spliced ((false,eval _ X.env)::backTo pos [])) _ _ s
 refine Calls.spliced_cons ?_
 refine wpAny_Call_Name_kw (a8a I hg2 hm2 boot_reversed ?_ (by decide) (by decide))
 refine PyProof.Rows.callWith_type1 ?_ s2 rfl
 rw[s2]
 show wpAny _ _ (spliced ((false,eval _ X.env)::backTo pos2 [])) _ _ s
 refine Calls.spliced_cons (m6 (ha pins s σ H _ I h) fun u s1 ⟨x,H1,I1,r1,q1⟩=>Calls.spliced_nil ?_)
 obtain⟨p,xs,rfl,hq,q⟩:=q1
 cases (show u=Value.ref p from r1)
 obtain⟨its,rv,pl,hz⟩:=I1.list hq
 have lt:p<s1.heap.objs.size:=let ⟨_,e,_⟩:=pl.isList;Heap.lt_size e
 refine call_reversed_list pl.isList ?_
 refine Calls.spliced_nil ?_
 have pl2:(s1.heap.push (revObj p ((its.toArray.size:Int)-1))).IsList p its.toArray:=pl.isList.push _
 refine b7j (s:={ s1 with heap:=s1.heap.push (revObj p ((its.toArray.size:Int)-1)) }) (I.ok.hd hc) ⟨_,Heap.get?_push_size _ rfl,rfl,rfl⟩ pl2 (Nat.ne_of_lt lt) (by rw[List.size_toArray,←rv.length];exact hz) fun h' tk acc c k hg hi=>?_
 have sz:(s1.heap.push (revObj p ((its.toArray.size:Int)-1))).objs.size=s1.heap.objs.size+1:=Heap.size_push ..
 refine⟨.ref (s1.heap.push (revObj p ((its.toArray.size:Int)-1))).objs.size,_,I1.laid (t':=tk) (o:=.lst xs.reverse) (fun b o e=>k b o (Nat.ne_of_lt (Heap.lt_size e)) (Heap.get?_push_of_some _ e)) (by rw[sz];omega) ⟨by rw[List.length_reverse];exact hz,its.reverse,c,b4m rv,?_⟩,rfl,q _ (I1.hok.fresh (by rw[sz];omega))⟩
 rw[←b4a hi]
 simpa using hg
end
end L2
namespace L2
open PySem PySem.Spec PyProof.Rows Srt TS
def b3x(td ty tx:TE):TE:=fun σ H Q=>td σ H fun x H1=>∃a,x=.ref a∧IsD H1 a∧ty σ H1 fun y H2=>tx σ H2 fun z H3=>∃kvs k,H3 a=some (.dK kvs)∧y=kV k∧kvs.length<sizeLine ∧
 (∀v,A3 kvs k=some v→Q v H3)∧(A3 kvs k=none→Q z (upd H3 a (.dK (putK kvs k z))))
section
variable{X:Cx}{o e f:Expr}{apos cpos:Pos}{td ty tx:TE}
theorem b6l(hu:X.A.units+1<cLine)(ho:PE X o td)(he:PE X e ty)(hf:PE X f tx)(m:M2 X o "setdefault" apos e f cpos):PE X (.Call (.Attribute o "setdefault" apos) [e,f] [] cpos) (b3x td ty tx):=by
 intro pins s σ H Q I h
 refine wpAny_Call_method m.base m.few m.line PySem.F.plainAttrs_dict PySem.F.slot_dict_setdefault PySem.F.type_dict_setdefault (m6 (ho pins s σ H _ I h) fun u s1 ⟨x,H1,I1,rx,a,ex,d,q1⟩=>?_)
 subst ex
 obtain rfl:u=Value.ref a:=rx
 obtain⟨t1,t2,_⟩:=a7k I1 d
 refine⟨t1,t2,?_⟩
 rw[m.trees]
 refine Calls.callWith_builtin rfl (Calls.evalArgs_plain (Calls.spliced_cons (m6 (he pins s1 σ H1 _ I1 q1) fun iv s2 ⟨y,H2,I2,ry,q2⟩=>
  Calls.spliced_cons (m6 (hf pins s2 σ H2 _ I2 q2) fun fv s3 ⟨z,H3,I3,rz,kvs,k,ea,ey,lz,q3,q4⟩=>Calls.spliced_nil ?_))))
 subst ey
 obtain⟨zz,hd,vs,rel,dd⟩:=Y8 I3.hok ea
 refine call_meetsIn PySem.F.slot_dict_setdefault dd.typeIs PySem.F.entry_dict_setdefault (PySem.F.args_dict_setdefault_3 _ _ _) (kt_meets_setdefault (p7 X.prog X.w) a (Y7 ry) hd fv) ⟨vs,dd,by rw[←rel.length];exact zz,fun v hv=>?_,fun hn h' dd' hs=>?_⟩
 ·have rv:=rel.val k
  rw[hv]at rv
  cases hk:A3 kvs k with
  | none=>rw[hk]at rv;exact rv.elim
  | some w=>
   rw[hk]at rv
   exact⟨w,H3,I3.tok _,rv,q3 w hk⟩
 ·have rv:=rel.val k
  rw[hn]at rv
  have hk:A3 kvs k=none:=by
   cases hk:A3 kvs k with
   | none=>rfl
   | some w=>rw[hk]at rv;exact rv.elim
  have hl:(putK kvs k z).length≤sizeLine:=by have:=V8 kvs k z;omega
  have he':∃q,h'.get? a=some q:=let ⟨q,_,_,hq,_⟩:=dd';⟨q,hq⟩
  exact⟨z,_,Z6 I3 (by rw[ea];exact True.intro) hs he' (a8l hl hd (rel.put k rz) dd'),rz,q4 hk⟩
end
section
variable{X:Cx}
def b1v(K:PySem.W.Frag):V→List V→Hp→VK→Prop:=fun x vs H Q=>∃(l:Addr) (ns:List Int) (n:Int) (j:Nat),x=.ref l∧vs=[.int n]∧H l=some (.lst (ns.map V.int))∧ns[j]?=some n∧(∀i,i<j→ns[i]?≠some n)∧Q (.int (j:Int)) H
theorem b0p:MtM X "list.index" (b1v X.K):=by
 intro pins s σ H x vs v us Q I rx rv h
 obtain⟨l,ns,n,j,rfl,rfl,hH,hj,hf,q⟩:=h
 cases rx
 obtain⟨u,rfl,⟨t,rfl⟩⟩:=vals1 rv
 obtain⟨z,its,c,r,hl,e⟩:=I.lstM hH
 have lj:j<ns.length:=(qQ1.mp hj).1
 have li:its.length=ns.length:=by rw[←hl,qQ0]
 have at':∀i,i<its.length→∃t,its[i]?=some (.int (ns.getD i 0) t):=fun i hi=>by
  obtain⟨t,e⟩:=Z3 r i its[i] (List.getElem?_eq_getElem hi)
  exact⟨t,by rw[List.getElem?_eq_getElem hi,e]⟩
 let ev:Value→Bool:=fun y=>match y with | .int i _=>i==n | _=>false
 have ej:∀i,(hi:i<its.toArray.size)→ev its.toArray[i]=(ns.getD i 0==n):=fun i hi=>by
  have hi':i<its.length:=by simpa using hi
  obtain⟨t,e⟩:=at' i hi'
  rw[List.getElem?_eq_getElem hi']at e
  have e:its[i]=Value.int (ns.getD i 0) t:=qW1 e
  show ev its.toArray[i]=_
  rw[List.getElem_toArray,e]
 have lj':j<its.toArray.size:=by rw[List.size_toArray,li];exact lj
 have small:(j:Int)<2 ^ 63-1:=by
  rw[qQ0]at z
  rw[sizeLine_eq]at z
  omega
 refine call_meets F.slot_list_index ⟨_,e,rfl⟩ F.entry_list_index (F.args_list_index_2 _ _) (MeetsSeq.list_index l its.toArray c (.int n t) ev (fun y hy=>?_) j lj' small ?_ (fun m hm lt=>?_)) ⟨e,?_⟩
 ·obtain⟨i,hi,rfl⟩:=Array.mem_iff_getElem.mp hy
  have hi':i<its.length:=by simpa using hi
  obtain⟨t',e'⟩:=at' i hi'
  rw[List.getElem?_eq_getElem hi']at e'
  have e':its[i]=Value.int (ns.getD i 0) t':=qW1 e'
  rw[ej i hi,List.getElem_toArray,e']
  exact MeetsSeq.EqGives.int _ _ _ _
 ·rw[ej j lj',List.getD_eq_getElem?_getD,hj];simp
 ·have hm':m<ns.length:=by rw[←li];simpa using hm
  rw[ej m hm,List.getD_eq_getElem?_getD,List.getElem?_eq_getElem hm',Option.getD_some,beq_eq_false_iff_ne]
  intro w
  exact hf m lt (by rw[List.getElem?_eq_getElem hm',w])
 ·exact⟨.int (j:Int),H,I.tok _,⟨_,rfl⟩,q⟩
end
end L2
namespace L2
open PySem PySem.Spec PyProof.Rows Srt TS
section
variable{X:Cx}{pins:List (Addr×Obj)}{σ:St}{H:Hp}{s:Shared}
theorem Inv.freeze{d:Addr}{o:Obj}{kvs:List (Key×V)}(I:Inv X pins σ H s)(hd:H d=some (.dK kvs))(ho:s.heap.get? d=some o):Inv X pins σ (upd H d (.frz o (.dK kvs))) s:=by
 have dk:z9 X.prog X.w H s.heap d (.dK kvs):=I.hok d _ hd
 have:=I.write (t':=s.toks) (h':=s.heap) (x:=d) (e:=d) (o:=.frz o (.dK kvs)) (by rw[hd];exact True.intro) (.inl rfl) (fun b u _ q=>q) ⟨o,ho⟩ ⟨ho,dk⟩
 exact this
theorem Inv.thaw{d:Addr}{o:Obj}{kvs:List (Key×V)}(I:Inv X pins σ H s)(h0:∀o u,X.H₀ d≠some (.frz o u))(hd:H d=some (.frz o (.dK kvs))):Inv X pins σ (upd H d (.dK kvs)) s:=by
 have dk:z9 X.prog X.w H s.heap d (.dK kvs):=(show z9 X.prog X.w H s.heap d (.frz o (.dK kvs)) from I.hok d _ hd).2
 have ne:∀{b:Addr} {u:HO},H b=some u→u≠.frz o (.dK kvs)→b≠d:=fun h k z=>by rw[z,hd]at h;cases h;exact k rfl
 refine⟨I.ok,I.os,I.bare,⟨I.base.keep,I.base.slot,fun b u q n hx=>?_,I.base.there,fun b xs q=>?_,fun b u xs q=>?_,fun b ps q=>?_⟩,I.loc,I.cell,?_,fun x c e=>?_,fun p hp=>?_,fun b u q=>?_,I.len⟩
 ·have:=I.base.free b u q n hx
  rw[b7 fun z=>by rw[z,hd]at this;cases this]
  exact this
 ·have:=I.base.tups b xs q
  rw[b7 (ne this (by intro z;cases z))];exact this
 ·have:=I.base.frzs b u xs q
  rw[b7 fun z=>h0 u xs (by rw[←z];exact q)];exact this
 ·obtain⟨more,e⟩:=I.base.tbls b ps q
  exact⟨more,by rw[b7 (ne e (by intro z;cases z))];exact e⟩
 ·rw[b7 fun z=>by have:=I.free;rw[z,hd]at this;cases this];exact I.free
 ·rw[b7 fun z=>by have:=I.freeC x c e;rw[z,hd]at this;cases this];exact I.freeC x c e
 ·obtain⟨e,n,r⟩:=I.pin p hp
  exact⟨e,by rw[b7 fun z=>by rw[z,hd]at n;cases n];exact n,r⟩
 ·have own:∀c y,H c=some (.own y)→upd H d (.dK kvs) c=some (.own y):=fun c y e=>by rw[b7 (ne e (by intro z;cases z))];exact e
  have tup:∀c xs,H c=some (.tup xs)→upd H d (.dK kvs) c=some (.tup xs):=fun c y e=>by rw[b7 (ne e (by intro z;cases z))];exact e
  by_cases hb:b=d
  ·subst hb
   rw[b0]at q;cases q
   exact dk.stay (fun _ _ _ e=>e) (fun c e=>own c _ e) fun c xs e=>tup c xs e
  ·rw[b7 hb]at q
   exact(I.hok b u q).stay (fun _ _ _ e=>e) (fun c e=>own c _ e) fun c xs e=>tup c xs e
theorem Inv.nofrz{d:Addr}{kvs:List (Key×V)}(I:Inv X pins σ H s)(hd:H d=some (.dK kvs)):∀o u,X.H₀ d≠some (.frz o u):=fun o u e=>by
 have:=I.base.frzs d o u e
 rw[hd]at this;cases this
end
theorem Inv.track{X:Cx}{pins:List (Addr×Obj)}{σ:St}{H:Hp}{s s':Shared}{a:Addr}{o:HO}(I:Inv X pins σ H s)(J:Inv X pins σ H s')(ha:s.heap.objs.size≤a)(new:z9 X.prog X.w (upd H a o) s'.heap a o):Inv X pins σ (upd H a o) s':=by
 have hn:H a=none:=I.hok.fresh ha
 have lt:∀{b:Addr} {u:Obj},s.heap.get? b=some u→b≠a:=fun e=>Nat.ne_of_lt (Nat.lt_of_lt_of_le (Heap.lt_size e) ha)
 refine⟨J.ok,J.os,J.bare,⟨J.base.keep,J.base.slot,fun b u q n hx=>?_,J.base.there,fun b xs q=>?_,fun b u xs q=>?_,fun b ps q=>?_⟩,J.loc,J.cell,?_,fun x c e=>?_,fun p hp=>?_,fun b u q=>?_,J.len⟩
 ·rw[b7 (Nat.ne_of_lt (Nat.lt_of_lt_of_le (Heap.lt_size q) (Nat.le_trans I.sz ha)))]
  exact J.base.free b u q n hx
 ·have:=J.base.tups b xs q
  rw[b7 (e7 this hn)];exact this
 ·have:=J.base.frzs b u xs q
  rw[b7 (e7 this hn)];exact this
 ·obtain⟨more,e⟩:=J.base.tbls b ps q
  exact⟨more,by rw[b7 (e7 e hn)];exact e⟩
 ·rw[b7 (Nat.ne_of_lt (Nat.lt_of_lt_of_le I.lt ha))];exact J.free
 ·obtain⟨v,q⟩:=I.cell x c e
  rw[b7 (Nat.ne_of_lt (Nat.lt_of_lt_of_le q.lt ha))];exact J.freeC x c e
 ·obtain⟨e,n,r⟩:=J.pin p hp
  exact⟨e,by rw[b7 (lt (I.pin p hp).1)];exact n,r⟩
 ·have own:∀c y,H c=some (.own y)→upd H a o c=some (.own y):=fun c y e=>by rw[b7 (e7 e hn)];exact e
  have tup:∀c xs,H c=some (.tup xs)→upd H a o c=some (.tup xs):=fun c y e=>by rw[b7 (e7 e hn)];exact e
  by_cases hb:b=a
  ·subst hb
   rw[b0]at q;cases q
   exact new
  ·rw[b7 hb]at q
   exact(J.hok b u q).stay (fun _ _ _ e=>e) (fun c e=>own c _ e) fun c xs e=>tup c xs e
def Thw(H H':Hp)(Q:Hp→Prop):Prop:=∃d o kvs,H d=some (.dK kvs)∧H' d=some (.frz o (.dK kvs))∧Q (upd H' d (.dK kvs))
def b3z(t:TS):TS:=fun D σ H=>t { D with nx:=fun σ' H'=>Thw H H' (D.nx σ') } σ H
theorem a9T{X:Cx}{st:Stmt}{t:TS}(h:PS X st t):PS X st (b3z t):=by
 intro pins s σ H D I ht
 refine m6 (h pins s σ H _ I ht) fun f s' q=>?_
 cases f with
 | next=>
  obtain⟨σ',H',I',d,o,kvs,h1,h2,q⟩:=q
  exact⟨σ',_,I'.thaw (I.nofrz h1) h2,q⟩
 | brk=>exact q
 | cont=>exact q
 | ret u=>exact q
def Itv(d:Addr)(o:Obj)(kvs:List (Key×V)):It:=
 ⟨fun i H=>H d=some (.frz o (.dK kvs))∧i<kvs.length,fun i H x H'=>H'=H∧∃k,kvs[i]?=some (k,x),fun i H=>H d=some (.frz o (.dK kvs))∧kvs.length≤i⟩
def Itm(d:Addr)(o:Obj)(kvs:List (Key×V)):It:=
 ⟨fun i H=>H d=some (.frz o (.dK kvs))∧i<kvs.length,fun i H x H'=>∃t k v,kvs[i]?=some (k,v)∧x=.ref t∧H t=none∧H'=upd H t (.tup [kV k,v]),fun i H=>H d=some (.frz o (.dK kvs))∧kvs.length≤i⟩
theorem a1i{P:Program}{w:World}{H:Hp}{h:Heap}{d:Addr}{o:Obj}{kvs:List (Key×V)}{es:Array DictEntry}{ep:Nat}(x:J4 P w H h)(e:H d=some (.frz o (.dK kvs)))(hd:o.data=.dict es ep) :
  ∃vs,KV kvs vs∧h.DictAt (p7 P w) d vs ep∧h.get? d=some o:=by
 obtain⟨h1,h2⟩:=(show z9 P w H h d (.frz o (.dK kvs)) from x d _ e)
 obtain⟨_,_,vs,r,dd⟩:=h2
 obtain⟨ep',da⟩:=a6f dd
 obtain⟨o',es',q1,q2,q3,q4⟩:=id da
 rw[h1]at q1;cases q1
 rw[hd]at q3;cases q3
 exact⟨vs,r,da,h1⟩
theorem a5R{P:Program}{w:World}{K:PySem.W.Frag}{tg:Expr}(d it:Addr)(o:Obj)(kvs:List (Key×V))(es:Array DictEntry)(ep:Nat)(hd:o.data=.dict es ep)(hne:d≠it) :
  Turn P w K tg (Itv d o kvs) [it] it (fun i h=>h.IsValIter it d i kvs.length ep) where
 mem:=by simp
 obj:=fun i h st b hb=>by
  have e:b=it:=by simpa using hb
  subst e
  obtain⟨o,e,c,d⟩:=st
  exact⟨o,e,fun v z=>by rw[d]at z;cases z⟩
 keep:=fun i h h' st k=>st.at fun o e=>k it (by simp) o e
 item:=by
  intro X hP hw hK hc i pins s σ H E I hf st hg
  subst hP hw hK
  obtain⟨hz,hi⟩:=hg
  obtain⟨vs,r,da,_⟩:=a1i I.hok hz hd
  have lv:=a1f r
  obtain⟨f0,f1,f2,f3,f4,f5⟩:=hf it (by simp)
  have hv:=List.getElem?_eq_getElem (l:=vs) (i:=i) (by omega)
  obtain⟨x,hx,rx⟩:=a2X r (k:=vs[i].1) (u:=vs[i].2) hv
  rw[←lv]at st
  refine wpAny_pyNext_values_item st da hv fun h' st' sb=>?_
  have I1:Inv X pins σ H { s with heap:=h' }:=I.turned (t':=s.toks) (fun b o hb e=>(sb.2 b hb).trans e) f0 f1 f3 f4 f5
  obtain⟨oi,e,c,dd⟩:=id st'
  refine⟨_,rfl,a2W (s:={ s with heap:=h' }) e c dd (by decide) ⟨x,H,I1,rx,⟨rfl,_,hx⟩,?_,fun b hb=>(hf b hb).1⟩⟩
  rw[←lv];exact st'
 done:=by
  intro X hP hw hK hc i pins s σ H E I hf st hg
  subst hP hw hK
  obtain⟨hz,hi⟩:=hg
  obtain⟨vs,r,da,_⟩:=a1i I.hok hz hd
  have lv:=a1f r
  obtain⟨f0,f1,f2,f3,f4,f5⟩:=hf it (by simp)
  rw[←lv]at st
  exact wpAny_pyNext_values_end (I.ok.hd hc) st da (List.getElem?_eq_none (by omega)) fun h' eb=>⟨rfl,I.turned (t':=s.toks) (fun b o hb e=>eb b o hb e) f0 f1 f3 f4 f5⟩
 self:=fun _ _ _ _ _ st h=>wpAny_pyIter_valiter st h
theorem b8f:entryFor table "dict_itemiterator.__iter__"=some Builtin.«dict_keyiterator.__iter__»:=by
 refine entryFor_alias (id':="dict_keyiterator.__iter__") ?_ rfl ?_ ?_
 ·kernel_rfl
 ·decide +kernel
 ·kernel_rfl
theorem a3Z{P:Program}{w:World}{K:PySem.W.Frag}{elts:List Expr}{x1:Nat}{ps:Pos}(d it:Addr)(o:Obj)(kvs:List (Key×V))(es:Array DictEntry)(ep:Nat)(hd:o.data=.dict es ep)(hne:d≠it) :
  Turn P w K (.Tuple elts x1 ps) (Itm d o kvs) [it] it (fun i h=>∃ok ov,IsItemIter h it d i kvs.length ep ok ov) where
 mem:=by simp
 obj:=fun i h st b hb=>by
  have e:b=it:=by simpa using hb
  subst e
  obtain⟨ok,ov,st⟩:=st
  exact⟨_,st,fun v z=>by
   have z':Data.fields _=Data.cell v:=z
   cases z'⟩
 keep:=fun i h h' st k=>let ⟨ok,ov,st⟩:=st;⟨ok,ov,k it (by simp) _ st⟩
 item:=by
  intro X hP hw hK hc i pins s σ H E I hf st hg
  subst hP hw hK
  obtain⟨hz,hi⟩:=hg
  obtain⟨ok,ov,st⟩:=st
  obtain⟨vs,r,da,_⟩:=a1i I.hok hz hd
  have lv:=a1f r
  obtain⟨f0,f1,f2,f3,f4,f5⟩:=hf it (by simp)
  have hv:=List.getElem?_eq_getElem (l:=vs) (i:=i) (by omega)
  obtain⟨x,hx,rx⟩:=a2X r (k:=vs[i].1) (u:=vs[i].2) hv
  have itl:it<s.heap.objs.size:=Heap.lt_size st
  rw[←lv]at st
  refine wpAny_pyNext_items_item st da hv fun key h' hkey st' tp hz' k'=>⟨_,rfl,?_⟩
  refine wpAny_letOwnedTupleGo_items (s:={ s with heap:=h' }) st' fun h'' st'' sb=>?_
  have I1:Inv X pins σ H { s with heap:=h'' }:=I.turned (t':=s.toks) (fun b o hb e=>(sb.2 b hb).trans (k' b o hb e)) f0 f1 f3 f4 f5
  have tp':h''.get? s.heap.objs.size=some { cls:=.type "tuple",data:=.seq #[key,vs[i].2] }:=(sb.2 _ (Nat.ne_of_gt itl)).trans tp
  have hn:H s.heap.objs.size=none:=I.hok.fresh (qQ7 _)
  have I2:=I.track I1 (o:=.tup [kV vs[i].1,x]) (qQ7 _) ⟨by show 2≤sizeLine;rw[sizeLine_eq];decide,[key,vs[i].2],.cons (a4T hkey) (.cons rx .nil),_,tp',rfl,0,rfl⟩
  refine⟨.ref s.heap.objs.size,_,I2,rfl,⟨_,_,_,hx,rfl,hn,rfl⟩,?_,fun b hb=>?_⟩
  ·rw[←lv];exact⟨_,_,st''⟩
  ·have e:b=it:=by simpa using hb
   rw[e,b7 (Nat.ne_of_lt itl)];exact f0
 done:=by
  intro X hP hw hK hc i pins s σ H E I hf st hg
  subst hP hw hK
  obtain⟨hz,hi⟩:=hg
  obtain⟨ok,ov,st⟩:=st
  obtain⟨vs,r,da,_⟩:=a1i I.hok hz hd
  have lv:=a1f r
  obtain⟨f0,f1,f2,f3,f4,f5⟩:=hf it (by simp)
  rw[←lv]at st
  exact wpAny_pyNext_items_end (I.ok.hd hc) st da (List.getElem?_eq_none (by omega)) fun h' eb=>⟨rfl,I.turned (t':=s.toks) (fun b o hb e=>eb b o hb e) f0 f1 f3 f4 f5⟩
 self:=fun A i s Q E st h=>by
  obtain⟨ok,ov,st⟩:=st
  have hT:s.TypeIs (.ref it) "dict_itemiterator":=⟨_,st,rfl⟩
  refine wpAny_pyIter_slot hT PySem.F.slot_dict_itemiterator_iter (wpAny_call_entry PySem.F.slot_dict_itemiterator_iter hT b8f ?_ (PySem.F.args_dict_itemiterator_iter_1 _))
  show wpAny _ _ (ret (.ref it)) _ _ s
  exact wpAny_pure ⟨_,rfl,"dict_itemiterator",_,hT,PySem.F.slot_dict_itemiterator_next.lookup,h⟩
def b9A(td:TE):TI:=fun σ H R=>td σ H fun x H1=>∃d kvs,x=.ref d∧H1 d=some (.dK kvs)∧∀o,R (Itv d o kvs) (upd H1 d (.frz o (.dK kvs)))
def b4C(td:TE):TI:=fun σ H R=>td σ H fun x H1=>∃d kvs,x=.ref d∧H1 d=some (.dK kvs)∧∀o,R (Itm d o kvs) (upd H1 d (.frz o (.dK kvs)))
section
variable{X:Cx}{tg e:Expr}{elts:List Expr}{x1:Nat}{td:TE}{ps apos cpos:Pos}
theorem b2c(he:PE X e td)(hbase:attributeBase e "values" X.env (eval e X.env)=eval e X.env:=by rfl)(hline:(apos.endLine==cpos.line)=true:=by rfl):PI X tg (.Call (.Attribute e "values" apos) [] [] cpos) (b9A td):=by
 intro pins s σ H R I h
 refine wpAny_Call_method0_late hbase hline (m6 (he pins s σ H _ I h) fun v s1 ⟨x,H1,I1,r1,d,kvs,ex,hd,q⟩=>?_)
 subst ex
 cases (show v=Value.ref d from r1)
 obtain⟨z,hs,vs,rel,dd⟩:=Y8 I1.hok hd
 obtain⟨t1,t2,_⟩:=a7k I1 (.inl ⟨kvs,.inl hd⟩)
 refine⟨"dict",_,PySem.F.plainAttrs_dict,PySem.F.slot_dict_values,PySem.F.type_dict_values,t1,t2,Calls.callWith_builtin rfl (PySem.evalArgs_none ?_)⟩
 refine call_meetsIn PySem.F.slot_dict_values dd.typeIs PySem.F.entry_dict_values (PySem.F.args_dict_values_1 _) (meets_dict_values (p7 X.prog X.w) d hs) ⟨⟨vs,dd⟩,?_⟩
 obtain⟨ep,da⟩:=a6f dd
 have k1:∀b u,s1.heap.get? b=some u→(s1.heap.push { cls:=.type "dict_values",data:=.fields #[.ref d] }).get? b=some u:=fun b u e=>Heap.get?_push_of_some _ e
 have I2:=I1.kept (t':=s1.toks) k1
 obtain⟨o,es,ho,hc,hdat,_⟩:=id da
 have I3:=I2.freeze hd (k1 _ _ ho)
 refine wpAny_pyIter_values (s:={ s1 with heap:=s1.heap.push { cls:=.type "dict_values",data:=.fields #[.ref d] } }) ⟨_,Heap.get?_push_size _ rfl,rfl,rfl⟩ (da.push _) ?_
 have lt:d<s1.heap.objs.size:=Heap.lt_size ho
 have lv:=a1f rel
 refine⟨(s1.heap.push { cls:=.type "dict_values",data:=.fields #[.ref d] }).objs.size,[(s1.heap.push { cls:=.type "dict_values",data:=.fields #[.ref d] }).objs.size],_,_,_,rfl,I3.kept (t':=s1.toks) fun b u e=>Heap.get?_push_of_some _ e,a5R d _ o kvs es ep hdat ?_,?_,fun b hb=>?_,q o⟩
 ·have sz:(s1.heap.push { cls:=.type "dict_values",data:=.fields #[.ref d] }).objs.size=s1.heap.objs.size+1:=Heap.size_push ..
  exact Nat.ne_of_lt (Nat.lt_of_lt_of_le lt (by rw[sz];exact Nat.le_succ _))
 ·rw[←lv];exact⟨_,Heap.get?_push_size _ rfl,rfl,rfl⟩
 ·have e:b=(s1.heap.push { cls:=.type "dict_values",data:=.fields #[.ref d] }).objs.size:=qQ2.mp hb
  subst e
  exact I3.fpOk (qQ7 _) (I3.hok.fresh (qQ7 _))
theorem b8h(he:PE X e td)(hbase:attributeBase e "items" X.env (eval e X.env)=eval e X.env:=by rfl)(hline:(apos.endLine==cpos.line)=true:=by rfl):PI X (.Tuple elts x1 ps) (.Call (.Attribute e "items" apos) [] [] cpos) (b4C td):=by
 intro pins s σ H R I h
 refine wpAny_Call_method0_late hbase hline (m6 (he pins s σ H _ I h) fun v s1 ⟨x,H1,I1,r1,d,kvs,ex,hd,q⟩=>?_)
 subst ex
 cases (show v=Value.ref d from r1)
 obtain⟨z,hs,vs,rel,dd⟩:=Y8 I1.hok hd
 obtain⟨t1,t2,_⟩:=a7k I1 (.inl ⟨kvs,.inl hd⟩)
 refine⟨"dict",_,PySem.F.plainAttrs_dict,PySem.F.slot_dict_items,PySem.F.type_dict_items,t1,t2,Calls.callWith_builtin rfl (PySem.evalArgs_none ?_)⟩
 refine call_meetsIn PySem.F.slot_dict_items dd.typeIs PySem.F.entry_dict_items (PySem.F.args_dict_items_1 _) (meets_dict_items (p7 X.prog X.w) d hs) ⟨⟨vs,dd⟩,?_⟩
 obtain⟨ep,da⟩:=a6f dd
 have k1:∀b u,s1.heap.get? b=some u→(s1.heap.push { cls:=.type "dict_items",data:=.fields #[.ref d] }).get? b=some u:=fun b u e=>Heap.get?_push_of_some _ e
 have I2:=I1.kept (t':=s1.toks) k1
 obtain⟨o,es,ho,hc,hdat,_⟩:=id da
 have I3:=I2.freeze hd (k1 _ _ ho)
 refine wpAny_pyIter_items (s:={ s1 with heap:=s1.heap.push { cls:=.type "dict_items",data:=.fields #[.ref d] } }) ⟨_,Heap.get?_push_size _ rfl,rfl,rfl⟩ (da.push _) ?_
 have lt:d<s1.heap.objs.size:=Heap.lt_size ho
 have lv:=a1f rel
 refine⟨(s1.heap.push { cls:=.type "dict_items",data:=.fields #[.ref d] }).objs.size,[(s1.heap.push { cls:=.type "dict_items",data:=.fields #[.ref d] }).objs.size],_,_,_,rfl,I3.kept (t':=s1.toks) fun b u e=>Heap.get?_push_of_some _ e,a3Z d _ o kvs es ep hdat ?_,?_,fun b hb=>?_,q o⟩
 ·have sz:(s1.heap.push { cls:=.type "dict_items",data:=.fields #[.ref d] }).objs.size=s1.heap.objs.size+1:=Heap.size_push ..
  exact Nat.ne_of_lt (Nat.lt_of_lt_of_le lt (by rw[sz];exact Nat.le_succ _))
 ·rw[←lv];exact⟨_,_,Heap.get?_push_size _ rfl⟩
 ·have e:b=(s1.heap.push { cls:=.type "dict_items",data:=.fields #[.ref d] }).objs.size:=qQ2.mp hb
  subst e
  exact I3.fpOk (qQ7 _) (I3.hok.fresh (qQ7 _))
end
end L2
namespace TS
open PySem PySem.Spec PyProof.Rows Srt
section
variable{prog:Program}{w:World}{A:Around}{R:Result→Shared→Prop}{J:Addr}{fq wq:List Addr}{n:Nat}{Pn:Nat→Value→Prop}{Sn:Nat→Heap→Prop}{kw:List (Str×Value)}
theorem b0c(W:Walks prog w A.in1 J fq wq n Pn Sn)(lss:Nat→Nat→Bool)(cmp:CmpOf prog w A.in1 .Lt Pn lss)(B:Addr)(bq:B∉fq) :
  ∀(k j:Nat) (s:Shared) (best:Value) (c:Nat),n-(j+1)=k→j+1≤n→Sn (j+1) s.heap→Pn (argBest lss j) best →
  s.heap.get? B=some { cls:=.type "list",dict:=none,data:=.seq #[best,best] c,slots:=#[] } →
  (∀v h' tk,Pn (argBest lss (n-1)) v→(∀b o,b∉wq→b≠B→s.heap.get? b=some o→h'.get? b=some o)→R (.ok (.ret v)) { s with heap:=h',toks:=tk }) →
  codeAny (model prog w) A (.builtin "min.loop" ⟨[.ref J,.none,.ref B],kw⟩) R s:=by
 have bw:B∉wq:=fun h=>bq (W.sub _ h)
 have nam:(toString "min"++toString ".loop":String)="min.loop":=by decide
 intro k
 induction k with
 | zero=>
  intro j s best c hk hj st pb hB hR
  have jn:j+1=n:=by omega
  refine codeAny_builtin F.entry_min_loop (Eq.mpr (by rw[Around.under_plainId F.plain_min_loop _]) ?_)
  show wpAny (model prog w) A.in1 (seqItems? (.ref B) >>= _) _ _ s
  refine wpAny_bind (wpAny_seqItems hB rfl ?_)
  show wpAny (model prog w) A.in1 (tryCatch (pyNext (.ref J)) _ >>= _) _ _ s
  refine wpAny_bind (wpAny_tryCatch (W.done s _ _ (jn▸st) fun h' tk kp=>?_))
  have hB':=kp B _ bw hB
  show wpAny (model prog w) A.in1 (updateSeq B (fun _=>#[]) >>= _) _ _ _
  refine wpAny_bind (wpAny_updateSeq hB' rfl (wpAny_bind (wpAny_letGo (wpAny_pure ?_))))
  exact hR best _ tk (by rw[←jn];exact pb) fun b o hb hb2 e=>(Heap.get?_update_other _ _ (Ne.symm hb2)).trans (kp b o hb e)
 | succ k ih=>
  intro j s best c hk hj st pb hB hR
  have jlt:j+1<n:=by omega
  refine codeAny_builtin F.entry_min_loop (Eq.mpr (by rw[Around.under_plainId F.plain_min_loop _]) ?_)
  show wpAny (model prog w) A.in1 (seqItems? (.ref B) >>= _) _ _ s
  refine wpAny_bind (wpAny_seqItems hB rfl ?_)
  show wpAny (model prog w) A.in1 (tryCatch (pyNext (.ref J)) _ >>= _) _ _ s
  refine wpAny_bind (wpAny_tryCatch (W.item (j+1) s _ _ jlt st fun v h' tk pv st' kp=>?_))
  have hB':=kp B _ bw hB
  show wpAny (model prog w) A.in1 (tryCatch (holding [v,v] (richCompare .Lt v best >>= _)) _ >>= _) _ _ _
  refine wpAny_bind (wpAny_tryCatch (wpAny_holding (wpAny_bind (cmp (j+1) (argBest lss j) v best _ _ _ pv pb ?_))))
  refine wpAny_bind (wpAny_holding (wpAny_truthy_bool (wpAny_bind (wpAny_letGo (wpAny_pure ?_)))))
  cases hb:lss (j+1) (argBest lss j) with
  | true=>
   simp only[if_true]
   refine wpAny_bind (wpAny_updateSeq hB' rfl (wpAny_bind (wpAny_letGo ?_)))
   rw[nam]
   refine wpAny_pure ⟨plainId_quiet F.plain_min_loop _,ih (j+1) _ v _ (by omega) jlt (W.frame _ _ _ st' fun b hbf o e=>(Heap.get?_update_other _ _ (fun h:B=b=>bq (by rw[h];exact hbf))).trans e) (by simp only[argBest,hb,if_true];exact pv) (Heap.get?_update_self _ hB' rfl)
    fun v' h2 tk2 pv' kp2=>hR v' h2 tk2 pv' fun b o hb1 hb2 e=>kp2 b o hb1 hb2 ((Heap.get?_update_other _ _ (Ne.symm hb2)).trans (kp b o hb1 e))⟩
  | false=>
   simp only[Bool.false_eq_true,if_false]
   refine wpAny_bind (wpAny_letGo ?_)
   rw[nam]
   exact wpAny_pure ⟨plainId_quiet F.plain_min_loop _,ih (j+1) _ best c (by omega) jlt st' (by simp only[argBest,hb,Bool.false_eq_true,if_false];exact pb) hB' fun v' h2 tk2 pv' kp2=>hR v' h2 tk2 pv' fun b o hb1 hb2 e=>kp2 b o hb1 hb2 (kp b o hb1 e)⟩
theorem a0X(W:Walks prog w A.in1 J fq wq n Pn Sn)(lss:Nat→Nat→Bool)(cmp:CmpOf prog w A.in1 .Lt Pn lss)(B:Addr)(bq:B∉fq){s:Shared}{c:Nat}(st:Sn 0 s.heap){d:Value}{kn:Str}
  (hB:s.heap.get? B=some { cls:=.type "list",dict:=none,data:=.seq #[] c,slots:=#[] })
  (h0:n=0→∀h' tk,(∀b o,b∉wq→b≠B→s.heap.get? b=some o→h'.get? b=some o)→R (.ok (.ret d)) { s with heap:=h',toks:=tk })
  (hR:0<n→∀v h' tk,Pn (argBest lss (n-1)) v→(∀b o,b∉wq→b≠B→s.heap.get? b=some o→h'.get? b=some o)→R (.ok (.ret v)) { s with heap:=h',toks:=tk }) :
  codeAny (model prog w) A (.builtin "min.loop" ⟨[.ref J,.none,.ref B],[(kn,d)]⟩) R s:=by
 have bw:B∉wq:=fun h=>bq (W.sub _ h)
 have nam:(toString "min"++toString ".loop":String)="min.loop":=by decide
 refine codeAny_builtin F.entry_min_loop (Eq.mpr (by rw[Around.under_plainId F.plain_min_loop _]) ?_)
 show wpAny (model prog w) A.in1 (seqItems? (.ref B) >>= _) _ _ s
 refine wpAny_bind (wpAny_seqItems hB rfl ?_)
 show wpAny (model prog w) A.in1 (tryCatch (pyNext (.ref J)) _ >>= _) _ _ s
 by_cases c0:n=0
 ·subst c0
  refine wpAny_bind (wpAny_tryCatch (W.done s _ _ st fun h' tk kp=>?_))
  refine wpAny_bind (wpAny_rule (wpAny_pure ?_))
  exact h0 rfl h' tk fun b o hb _ e=>kp b o hb e
 ·have np:0<n:=by omega
  refine wpAny_bind (wpAny_tryCatch (W.item 0 s _ _ np st fun v h' tk pv st' kp=>?_))
  have hB':=kp B _ bw hB
  show wpAny (model prog w) A.in1 (updateSeq B (fun _=>#[v,v]) >>= _) _ _ _
  refine wpAny_bind (wpAny_updateSeq hB' rfl ?_)
  rw[nam]
  refine wpAny_pure ⟨plainId_quiet F.plain_min_loop _,b0c W lss cmp B bq _ 0 _ v _ rfl np (W.frame _ _ _ st' fun b hbf o e=>(Heap.get?_update_other _ _ (fun h:B=b=>bq (by rw[h];exact hbf))).trans e) pv (Heap.get?_update_self _ hB' rfl) fun v' h2 tk2 pv' kp2=>?_⟩
  exact hR np v' h2 tk2 pv' fun b o hb1 hb2 e=>kp2 b o hb1 hb2 ((Heap.get?_update_other _ _ (Ne.symm hb2)).trans (kp b o hb1 e))
end
theorem b7b(a v:Value):argsOk "min" ⟨[a],[(Str.ofString "default",v)]⟩:=by unfold argsOk;kernel_rfl
end TS
namespace L2
open PySem PySem.Spec PyProof.Rows Srt TS
def ltI(ns:List Int)(i j:Nat):Bool:=decide (ns.getD i 0<ns.getD j 0)
theorem b7e(ns:List Int):∀k,k<ns.length→argBest (ltI ns) k≤k∧∀j,j≤k→ns.getD (argBest (ltI ns) k) 0≤ns.getD j 0
 | 0,_=>by
  refine⟨qQ7 _,fun j hj=>?_⟩
  have e:j=0:=by omega
  subst e
  exact Int.le_refl _
 | k+1,hk=>by
  obtain⟨a,b⟩:=b7e ns k (by omega)
  show(if ltI ns (k+1) (argBest (ltI ns) k)=true then k+1 else argBest (ltI ns) k)≤k+1∧∀j,j≤k+1→ns.getD (if ltI ns (k+1) (argBest (ltI ns) k)=true then k+1 else argBest (ltI ns) k) 0≤ns.getD j 0
  by_cases c:ltI ns (k+1) (argBest (ltI ns) k)=true
  ·rw[if_pos c]
   have c':ns.getD (k+1) 0<ns.getD (argBest (ltI ns) k) 0:=of_decide_eq_true c
   refine⟨qQ7 _,fun j hj=>?_⟩
   by_cases e:j=k+1
   ·subst e;exact Int.le_refl _
   ·have:=b j (by omega);omega
  ·rw[if_neg c]
   have c':¬ns.getD (k+1) 0<ns.getD (argBest (ltI ns) k) 0:=fun z=>c (decide_eq_true z)
   refine⟨by omega,fun j hj=>?_⟩
   by_cases e:j=k+1
   ·subst e;omega
   ·exact b j (by omega)
theorem b7c{X:Cx}{pins:List (Addr×Obj)}{σ:St}{H:Hp}{s:Shared}{Q:VK}{p:Addr}{ns:List Int}{y:V}{d:Value}(hc:X.calm=true)(I:Inv X pins σ H s)(hq:d7 X.K H p (ns.map V.int))(rd:RelV y d)(q3:ns=[]→Q y H)(q4:∀m,m∈ns→(∀n∈ns,m≤n)→Q (.int m) H) :
  wpAny (model X.prog X.w) X.A (call (.builtin "min") [.ref p] [(Str.ofString "default",d)]) (EP X pins σ Q) X.xe s:=by
 obtain⟨its,rv,pl,hz⟩:=I.list hq
 have ln:its.length=ns.length:=by rw[←rv.length,qQ0]
 have lt:p<s.heap.objs.size:=let ⟨_,e,_⟩:=pl.isList;Heap.lt_size e
 have nam:(toString "min"++toString ".loop":String)="min.loop":=by decide
 refine wpAny_call (codeAny_call_builtin F.plain_min F.entry_min ?_)
 have body:wpAny (model X.prog X.w) X.A.in1 (Builtin.«min» ⟨[.ref p],[(Str.ofString "default",d)]⟩) (fun fin s'=>match fin with
   | .done f=>(match (Except.ok f:Result) with | .ok (.ret v)=>EP X pins σ Q v s' | .ok _=>False | .error e=>X.xe e s')
   | .again c'=>c'.quiet=true∧codeAny (model X.prog X.w) X.A c' (fun r s'=>match r with | .ok (.ret v)=>EP X pins σ Q v s' | .ok _=>False | .error e=>X.xe e s') s') X.xe s:=by
  show wpAny _ X.A.in1 (Builtin.Builtins.bindParams "min" ["key","default"] 0 ⟨[],[(Str.ofString "default",d)]⟩ >>= _) _ _ s
  refine wpAny_bind (wpAny_of_eq (show Builtin.Builtins.bindParams "min" ["key","default"] 0 ⟨[],[(Str.ofString "default",d)]⟩=pure [none,some d] from rfl) ?_)
  refine wpAny_bind (wpAny_pure ?_)
  refine wpAny_bind (wpAny_pyIter_list pl.isList ?_)
  refine wpAny_bind (wpAny_newObj_type ?_)
  rw[nam]
  have W:=Walks.list (prog:=X.prog) (w:=X.w) (A:=X.A.in1) (by simpa using I.ok.hd hc) s.heap.objs.size p (Nat.ne_of_lt lt) its.toArray
  have z1:(s.heap.push { cls:=.type "list_iterator",data:=.fields #[.ref p,.int 0 0] }).objs.size=s.heap.objs.size+1:=Heap.size_push ..
  have bq:(s.heap.push { cls:=.type "list_iterator",data:=.fields #[.ref p,.int 0 0] }).objs.size∉[s.heap.objs.size,p]:=by
   rw[z1]
   simp only[qQ9,List.not_mem_nil,or_false,not_or]
   exact⟨Nat.succ_ne_self _,Nat.ne_of_gt (Nat.lt_succ_of_lt lt)⟩
  have old:∀(h':Heap) (b:Addr) (o:Obj),(∀b o,b∉[s.heap.objs.size]→b≠(s.heap.push { cls:=.type "list_iterator",data:=.fields #[.ref p,.int 0 0] }).objs.size→((s.heap.push { cls:=.type "list_iterator",data:=.fields #[.ref p,.int 0 0] }).push { cls:=.type "list",data:=.seq ([]:List Value).toArray }).get? b=some o→h'.get? b=some o) →
    s.heap.get? b=some o→h'.get? b=some o:=fun h' b o k e=>by
   have lb:=Heap.lt_size e
   exact k b o (fun z=>by rw[qQ2.mp z]at lb;exact Nat.lt_irrefl _ lb) (by rw[z1];exact Nat.ne_of_lt (Nat.lt_succ_of_lt lb)) (Heap.get?_push_of_some _ (Heap.get?_push_of_some _ e))
  have sz:its.toArray.size=ns.length:=by rw[List.size_toArray,ln]
  refine wpAny_pure ⟨plainId_quiet F.plain_min_loop _,a0X W (ltI ns) (CmpOf.ints_lt (fun j=>ns.getD j 0) fun i v hv=>Z3 rv i v (by simpa using hv)) _ bq (W.frame 0 _ _ ⟨⟨_,Heap.get?_push_size _ rfl,rfl,rfl⟩,pl.isList.push _⟩ fun b _ o e=>Heap.get?_push_of_some _ e) (Heap.get?_push_size _ rfl) (fun n0 h' tk k=>?_) fun n0 v h' tk pv k=>?_⟩
  ·have e0:ns=[]:=List.eq_nil_of_length_eq_zero (by omega)
   exact⟨y,H,I.kept (t':=tk) fun b o e=>old h' b o k e,rd,q3 e0⟩
  ·obtain⟨t,rfl⟩:=Z3 rv _ v (by simpa using pv)
   rw[sz]at n0
   have en:its.length-1=ns.length-1:=by rw[ln]
   rw[en]
   obtain⟨a1,a2⟩:=b7e ns (ns.length-1) (by omega)
   have at':argBest (ltI ns) (ns.length-1)<ns.length:=by omega
   refine⟨.int (ns.getD (argBest (ltI ns) (ns.length-1)) 0),H,I.kept (t':=tk) fun b o e=>old h' b o k e,⟨t,rfl⟩,q4 _ ?_ fun m hm=>?_⟩
   ·rw[List.getD_eq_getElem?_getD,List.getElem?_eq_getElem at']
    exact List.getElem_mem at'
   ·obtain⟨j,hj⟩:=List.mem_iff_getElem?.mp hm
    have lj:=(qQ1.mp hj).1
    have:=a2 j (by omega)
    rw[List.getD_eq_getElem?_getD (l:=ns) (i:=j),hj]at this
    exact this
 simp only[checkBuiltinCall,F.kind_min]
 cases hsig:Manifest.signature? "min" with
 | none=>exact wpAny_pure body
 | some sig=>
  have ok:Bind.checkArgs "min" sig ⟨[.ref p],[(Str.ofString "default",d)]⟩=pure ():=by have:=b7b (.ref p) d;simpa only [argsOk,hsig] using this
  simp only[ok]
  exact wpAny_pure body
def b9z(K:PySem.W.Frag)(te td:TE):TE:=fun σ H Q=>te σ H fun x H1=>td σ H1 fun y H2=>∃p ns,x=.ref p∧d7 K H2 p (ns.map V.int)∧(ns=[]→Q y H2)∧(∀m,m∈ns→(∀n∈ns,m≤n)→Q (.int m) H2)
section
variable{X:Cx}{e f:Expr}{te td:TE}{p kp pos:Pos}
theorem a9X(hc:X.calm=true)(hg:Gl X "min")(hm:X.mg "min"=none)(ha:PE X e te)(hf:PE X f td)
  (h1:starEach [e] X.env=[(false,eval e X.env)]:=by rfl) (h2:keywordEach [⟨some "default",f,kp⟩] X.env=[(some (Str.ofString "default"),eval f X.env)]:=by rfl) :
  PE X (.Call (.Name "min" p) [e] [⟨some "default",f,kp⟩] pos) (b9z X.K te td):=by
 intro pins s σ H Q I h
 refine wpAny_Call_Name_kw (a8a I hg hm boot_min ?_ (by decide) (by decide))
 refine PyProof.Rows.callWith_kw ?_ (by rw[h1];rfl) (by rw[h1];rfl) (by rw[h2];rfl) (by rw[h2];rfl)
 rw[h1]
 show wpAny _ _ (spliced ((false,eval e X.env)::backTo pos [])) _ _ s
 refine Calls.spliced_cons (m6 (ha pins s σ H _ I h) fun u s1 ⟨x,H1,I1,r1,q1⟩=>Calls.spliced_nil ?_)
 refine m6 (b6t hf b7v pos pins s1 σ H1 (fun zs H2=>match zs with
  | [y]=>∃p ns,x=.ref p∧d7 X.K H2 p (ns.map V.int)∧(ns=[]→Q y H2)∧(∀m,m∈ns→(∀n∈ns,m≤n)→Q (.int m) H2)
  | _=>False) I1 q1) fun ws s2 ⟨zs,H2,I2,rz,q2⟩=>?_
 match zs,ws,rz,q2 with
 | [y],_,.cons (b:=d) rd .nil,q2=>
  obtain⟨p,ns,rfl,hq,q3,q4⟩:=q2
  cases (show u=Value.ref p from r1)
  rw[h2]
  exact b7c hc I2 hq rd q3 q4
end
end L2
namespace L2
open PySem PySem.Spec PyProof.Rows Srt TS
section
variable{X:Cx}{own tl:List Str}{scope:Scope}{cl:List (Str×Addr)}{C:Addr}{s₀:Shared}{H₀:Hp}{ex:List Addr}{e:Expr}{ta:TE}{f:Str}{pos:Pos}
theorem a3U(he:PE (T1 X own tl scope cl C s₀ H₀ ex) e ta)(hb:attributeBase e f (T1 X own tl scope cl C s₀ H₀ ex).env (eval e (T1 X own tl scope cl C s₀ H₀ ex).env)=eval e (T1 X own tl scope cl C s₀ H₀ ex).env):PE (T1 X own tl scope cl C s₀ H₀ ex) (.Attribute e f pos) (b4w X.K ta f):=q5 he hb
end
theorem b3t{d:Addr}{o:Obj}{kvs:List (Key×V)}{g:TG}{tb:TS}{D:Ends}{σ:St}{H:Hp}(Pv:Nat→St→Hp→Prop)(h0:Pv 0 σ H)(hl:∀i σ H,i≤kvs.length→Pv i σ H→H d=some (.frz o (.dK kvs)))
  (hs:∀i k v σ H t,kvs[i]?=some (k,v)→Pv i σ H→H t=none→g (.ref t) σ (upd H t (.tup [kV k,v])) fun σ2 H2=>tb { D with nx:=Pv (i+1),ct:=Pv (i+1),bk:=D.nx } σ2 H2) (hd:∀σ H,Pv kvs.length σ H→D.nx σ H) :
  ∃W:Nat→Nat→St→Hp→Prop,(∃m,W 0 m σ H)∧∀i m σ H,W i m σ H →
   ((Itm d o kvs).stop i H∧D.nx σ H)∨((Itm d o kvs).go i H∧∃N:St→Hp→Prop,(∀σ' H',N σ' H'→∃m',m'<m∧W (i+1) m' σ' H')∧∀x H',(Itm d o kvs).yld i H x H'→g x σ H' fun σ2 H2=>tb { D with nx:=N,ct:=N,bk:=D.nx } σ2 H2):=by
 refine⟨fun i m σ H=>m=kvs.length-i∧i≤kvs.length∧Pv i σ H,⟨kvs.length,by simp,Nat.zero_le _,h0⟩,?_⟩
 rintro i m σ H ⟨rfl,hi,p⟩
 have q:=hl i σ H hi p
 by_cases lt:i<kvs.length
 ·refine .inr ⟨⟨q,lt⟩,Pv (i+1),fun σ' H' p'=>⟨kvs.length-(i+1),by omega,rfl,lt,p'⟩,fun x H' y=>?_⟩
  obtain⟨t,k,v,e,ex,ht,eH⟩:=y
  subst ex eH
  exact hs i k v σ H t e p ht
 ·have e:i=kvs.length:=by omega
  subst e
  exact .inl ⟨⟨q,qQ7 _⟩,hd σ H p⟩
theorem b5n{d:Addr}{o:Obj}{kvs:List (Key×V)}{acc:Addr}{tc:TT}{te:TE}{σ:St}{H1:Hp}{Q:Hp→Prop}(Pv:Nat→Hp→Prop)(h0:Pv 0 (upd H1 acc (.lst [])))(hl:∀i H,i≤kvs.length→Pv i H→H d=some (.frz o (.dK kvs)))
  (hs:∀i k x H,kvs[i]?=some (k,x)→Pv i H→tc (some x::σ) H fun b H3=>if b=true then te (some x::σ) H3 fun y H4=>∃ys,H4 acc=some (.lst ys)∧ys.length<sizeLine∧Pv (i+1) (upd H4 acc (.lst (ys++[y]))) else Pv (i+1) H3)
  (hd:∀H,Pv kvs.length H→Q H):a5I 1 (a8x 0) tc te (Itv d o kvs) acc σ H1 Q:=by
 refine⟨fun i m H=>i≤kvs.length∧m=kvs.length-i∧Pv i H,⟨_,Nat.zero_le _,rfl,h0⟩,fun i m H ⟨hi,hm,hp⟩=>?_⟩
 have q:=hl i H hi hp
 rcases Nat.lt_or_ge i kvs.length with lt | ge
 ·refine .inr ⟨⟨q,lt⟩,Pv (i+1),fun H' h'=>⟨kvs.length-(i+1),by omega,by omega,rfl,h'⟩,fun os x H' ho hy=>?_⟩
  obtain⟨rfl,k,hx⟩:=hy
  obtain⟨z,rfl⟩:∃z,os=[z]:=by
   match os,ho with
   | [z],_=>exact⟨z,rfl⟩
  exact⟨⟨[some x],rfl,rfl⟩,hs i k x H' hx hp⟩
 ·have e:i=kvs.length:=by omega
  subst e
  exact .inl ⟨⟨q,qQ7 _⟩,hd H hp⟩
end L2
namespace L2
open PySem PySem.Spec PyProof.Rows Srt TS
section
variable{X:Cx}
theorem b1s:MtR X "dict.copy" (fun x xs H Q=>∃d kvs,x=.ref d∧xs=[]∧H d=some (.dK kvs)∧∀v,H v=none→Q (.ref v) (upd H v (.dK kvs))):=by
 intro pins s σ H x xs v us Q I rx rv h
 obtain⟨d,kvs,rfl,rfl,e,q⟩:=h
 cases rx
 cases rv
 obtain⟨zz,hd,vs,rel,dd⟩:=Y8 I.hok e
 refine PySem.call_meetsIn PySem.F.slot_dict_copy dd.typeIs PySem.F.entry_dict_copy (PySem.F.args_dict_copy_1 _) (meets_dict_copy (p7 X.prog X.w) d hd) ⟨vs,dd,by rw[←rel.length];exact zz,fun h' d1 d2 k=>?_⟩
 exact⟨.ref s.heap.objs.size,_,I.laid (t':=s.toks) (o:=.dK kvs) k (qQ7 _) ⟨zz,beq_eq_false_iff_ne.mpr (Ne.symm (Nat.ne_of_lt I.big)),vs,rel,d1⟩,rfl,q _ (I.hok.fresh (qQ7 _))⟩
theorem b5e:MtR X "dict.update" (fun x xs H Q=>∃d o kvs more,x=.ref d∧xs=[.ref o]∧d≠o∧H d=some (.dK kvs)∧H o=some (.dK more)∧kvs.length+more.length≤sizeLine∧Q .non (upd H d (.dK (a5b kvs more)))):=by
 intro pins s σ H x xs v us Q I rx rv h
 obtain⟨d,o,kvs,more,rfl,rfl,ne,e1,e2,z,q⟩:=h
 cases rx
 obtain⟨u,rfl,ru⟩:=vals1 rv
 cases (show u=Value.ref o from ru)
 obtain⟨zz,hd,vs,rel,dd⟩:=Y8 I.hok e1
 obtain⟨zz2,hd2,ms,rel2,dd2⟩:=Y8 I.hok e2
 refine PySem.call_meetsIn PySem.F.slot_dict_update dd.typeIs PySem.F.entry_dict_update (PySem.F.args_dict_update_2 _ _) (meets_dict_update (p7 X.prog X.w) d o ne hd2) ⟨vs,ms,dd,dd2,by rw[←rel.length,←rel2.length];exact z,fun h' d1 d2 k=>?_⟩
 have he':∃q,h'.get? d=some q:=let ⟨q,_,_,hq,_⟩:=d1;⟨q,hq⟩
 have hl:(a5b kvs more).length≤sizeLine:=Nat.le_trans (a0j more kvs) z
 exact⟨.non,_,Z6 (t':=s.toks) I (by rw[e1];exact True.intro) k he' (a8l hl hd (KV.merge rel2 rel) d1),rfl,q⟩
end
end L2
namespace My
open PySem PySem.Spec PyProof.Rows L2
set_option maxRecDepth 100000
theorem a6Z:j8 ["goods","others"] ["goods","others"] (i6 a4k):=⟨rfl,rfl,rfl,by decide +kernel,rfl,by decide +kernel,by decide +kernel⟩
theorem a5K:j8 ["one","other","goods","why"] ["one","other","goods","why"] (i6 a4d):=⟨rfl,rfl,rfl,by decide +kernel,rfl,by decide +kernel,by decide +kernel⟩
theorem a4a:j8 ["one","other","links"] ["one","other"] (i6 S8):=⟨rfl,rfl,rfl,by decide +kernel,rfl,by decide +kernel,by decide +kernel⟩
theorem W8:j8 ["record","others","links","other"] ["record","others"] (i6 a9b):=⟨rfl,rfl,rfl,by decide +kernel,rfl,by decide +kernel,by decide +kernel⟩
theorem V7:j8 ["place","numbers","links","found","number","link"] ["place","numbers","links"] (i6 a9g):=⟨rfl,rfl,rfl,by decide +kernel,rfl,by decide +kernel,by decide +kernel⟩
theorem v9:j8 ["numbers","links","links_from","links_to","unkept","number","ready","row","link","other"] ["numbers","links"] (i6 X6):=⟨rfl,rfl,rfl,by decide +kernel,rfl,by decide +kernel,by decide +kernel⟩
theorem C7:j8 ["links","link_to","link","number","met","walked"] ["links"] (i6 Y1):=⟨rfl,rfl,rfl,by decide +kernel,rfl,by decide +kernel,by decide +kernel⟩
theorem P5:j8 ["numbers","links","row","placed","number"] ["numbers","links"] (i6 X4):=⟨rfl,rfl,rfl,by decide +kernel,rfl,by decide +kernel,by decide +kernel⟩
theorem a4X:j8 ["versions","moment"] ["versions","moment"] (i6 a2m):=⟨rfl,rfl,rfl,by decide +kernel,rfl,by decide +kernel,by decide +kernel⟩
theorem a7q:j8 ["versions","moment","count"] ["versions","moment"] (i6 a8h):=⟨rfl,rfl,rfl,by decide +kernel,rfl,by decide +kernel,by decide +kernel⟩
theorem a1L:j8 ["versions","moment","gone"] ["versions","moment"] (i6 a3A):=⟨rfl,rfl,rfl,by decide +kernel,rfl,by decide +kernel,by decide +kernel⟩
theorem a1F:j8 ["ring","number","place"] ["ring","number"] (i6 a3s):=⟨rfl,rfl,rfl,by decide +kernel,rfl,by decide +kernel,by decide +kernel⟩
theorem a9j:j8 ["self","number","began"] ["self","number","began"] (i6 O6):=⟨rfl,rfl,rfl,by decide +kernel,rfl,by decide +kernel,by decide +kernel⟩
theorem a8p:j8 ["self","ended"] ["self","ended"] (i6 R5):=⟨rfl,rfl,rfl,by decide +kernel,rfl,by decide +kernel,by decide +kernel⟩
theorem a5p:j8 ["self"] ["self"] (i6 R4):=⟨rfl,rfl,rfl,by decide +kernel,rfl,by decide +kernel,by decide +kernel⟩
theorem a0x:j8 ["self"] ["self"] (i6 T9):=⟨rfl,rfl,rfl,by decide +kernel,rfl,by decide +kernel,by decide +kernel⟩
theorem a9e:j8 ["self","number"] ["self"] (i6 W9):=⟨rfl,rfl,rfl,by decide +kernel,rfl,by decide +kernel,by decide +kernel⟩
theorem a4j:j8 ["self","number","good","dealing"] ["self","number","good"] (i6 a1a):=⟨rfl,rfl,rfl,by decide +kernel,rfl,by decide +kernel,by decide +kernel⟩
theorem a8m:j8 ["self","number","good","amount","dealing"] ["self","number","good","amount"] (i6 a8d):=⟨rfl,rfl,rfl,by decide +kernel,rfl,by decide +kernel,by decide +kernel⟩
theorem a2C:j8 ["self","number"] ["self","number"] (i6 X9):=⟨rfl,rfl,rfl,by decide +kernel,rfl,by decide +kernel,by decide +kernel⟩
theorem O3:j8 ["self","number","dealing","record","links","found"] ["self","number"] (i6 a2d):=⟨rfl,rfl,rfl,by decide +kernel,rfl,by decide +kernel,by decide +kernel⟩
theorem O4:j8 ["self","aside","good","amount"] ["self","aside"] (i6 Q0):=⟨rfl,rfl,rfl,by decide +kernel,rfl,by decide +kernel,by decide +kernel⟩
theorem C9:j8 ["self","beginnings","moment","gone","good","left"] ["self"] (i6 X2):=⟨rfl,rfl,rfl,by decide +kernel,rfl,by decide +kernel,by decide +kernel⟩
theorem a3u:j8 ["self"] ["self"] (i6 T3):=⟨rfl,rfl,rfl,by decide +kernel,rfl,by decide +kernel,by decide +kernel⟩
theorem a0a:j8 ["tally","number","ring"] ["tally","number"] (i6 S5):=⟨rfl,rfl,rfl,by decide +kernel,rfl,by decide +kernel,by decide +kernel⟩
theorem T4:j8 ["tally","deed","number"] ["tally","deed"] (i6 O9):=⟨rfl,rfl,rfl,by decide +kernel,rfl,by decide +kernel,by decide +kernel⟩
theorem a6J:j8 ["tally","deed"] ["tally","deed"] (i6 a5d):=⟨rfl,rfl,rfl,by decide +kernel,rfl,by decide +kernel,by decide +kernel⟩
theorem X3:j8 ["tally","deeds","told","deed"] ["tally","deeds"] (i6 a6b):=⟨rfl,rfl,rfl,by decide +kernel,rfl,by decide +kernel,by decide +kernel⟩
theorem a8c:j8 ["deeds","tally"] ["deeds"] (i6 U0):=⟨rfl,rfl,rfl,by decide +kernel,rfl,by decide +kernel,by decide +kernel⟩
theorem a4W:j8 ["deeds"] ["deeds"] (i6 a4m):=⟨rfl,rfl,rfl,by decide +kernel,rfl,by decide +kernel,by decide +kernel⟩
theorem a8F:j8 ["deeds","tally"] ["deeds"] (i6 a2u):=⟨rfl,rfl,rfl,by decide +kernel,rfl,by decide +kernel,by decide +kernel⟩
theorem J1:j8 ["_law_found","_law_due","_law_todo","_law_left","_law_right","_law_k"] ["_law_found","_law_due"] (i6 S9):=⟨rfl,rfl,rfl,by decide +kernel,rfl,by decide +kernel,by decide +kernel⟩
theorem a5O:j8 ["_law_script","_law_most","_law_bound"] ["_law_script","_law_most","_law_bound"] (i6 a7d):=⟨rfl,rfl,rfl,by decide +kernel,rfl,by decide +kernel,by decide +kernel⟩
theorem a1I:j8 ["_law_found"] ["_law_found"] (i6 a6a):=⟨rfl,rfl,rfl,by decide +kernel,rfl,by decide +kernel,by decide +kernel⟩
theorem a3j:j8 ["_law_found","_law_due","_law_k"] ["_law_found","_law_due"] (i6 a7a):=⟨rfl,rfl,rfl,by decide +kernel,rfl,by decide +kernel,by decide +kernel⟩
theorem a2n:j8 ["_law_spot","_law_place","_law_goods"] ["_law_spot","_law_place"] (i6 a1e):=⟨rfl,rfl,rfl,by decide +kernel,rfl,by decide +kernel,by decide +kernel⟩
theorem m8:j8 ["_law_cells","_law_made","_law_under","_law_over","_law_begun","_law_most","_law_size","_law_k","_law_pick","_law_rest","_law_near","_law_good","_law_odd","_law_bad","_law_menu","_law_who","_law_amounts","_law_amount"] ["_law_cells"] (i6 a7b):=⟨rfl,rfl,rfl,by decide +kernel,rfl,by decide +kernel,by decide +kernel⟩
theorem a8G:j8 ["_law_found"] ["_law_found"] (i6 a5a):=⟨rfl,rfl,rfl,by decide +kernel,rfl,by decide +kernel,by decide +kernel⟩
theorem A0:j8 ["_law_asked","_law_told","_law_bad","_law_under","_law_begun","_law_k","_law_those"] ["_law_asked","_law_told"] (i6 S4):=⟨rfl,rfl,rfl,by decide +kernel,rfl,by decide +kernel,by decide +kernel⟩
theorem a0I:j8 ["_law_one","_law_two"] ["_law_one","_law_two"] (i6 a1c):=⟨rfl,rfl,rfl,by decide +kernel,rfl,by decide +kernel,by decide +kernel⟩
theorem y9:j8 ["_law_asked","_law_told","_law_tally","_law_begun","_law_laid","_law_under","_law_k","_law_deed","_law_mine","_law_due"] ["_law_asked","_law_told"] (i6 V1):=⟨rfl,rfl,rfl,by decide +kernel,rfl,by decide +kernel,by decide +kernel⟩
theorem u3:j8 ["_law_asked","_law_told","_law_since","_law_looked","_law_laid","_law_records","_law_tries","_law_k","_law_deed","_law_who","_law_ends","_law_record"] ["_law_asked","_law_told"] (i6 X7):=⟨rfl,rfl,rfl,by decide +kernel,rfl,by decide +kernel,by decide +kernel⟩
theorem a2z:j8 ["_law_one","_law_other"] ["_law_one","_law_other"] (i6 Y0):=⟨rfl,rfl,rfl,by decide +kernel,rfl,by decide +kernel,by decide +kernel⟩
theorem M8:j8 ["_law_records","_law_record","_law_seen","_law_spot","_law_other"] ["_law_records","_law_record"] (i6 X8):=⟨rfl,rfl,rfl,by decide +kernel,rfl,by decide +kernel,by decide +kernel⟩
theorem K4:j8 ["_law_asked","_law_told","_law_k","_law_record","_law_records"] ["_law_asked","_law_told"] (i6 Q1):=⟨rfl,rfl,rfl,by decide +kernel,rfl,by decide +kernel,by decide +kernel⟩
theorem N2:j8 ["_law_script","_law_asked","_law_told","_law_kept","_law_fewer","_law_again","_law_k","_law_tally","_law_due","_law_rows","_law_handed","_law_found"] ["_law_script"] (i6 Q7):=⟨rfl,rfl,rfl,by decide +kernel,rfl,by decide +kernel,by decide +kernel⟩
theorem a0C:(["good","one","other","goods","why"]:List Str).Nodup:=by decide +kernel
theorem a4t:(["number","numbers","links","links_from","links_to","unkept",".","ready","row","link","other"]:List Str).Nodup:=by decide +kernel
theorem a0t:(["link","numbers","links","row","placed","number"]:List Str).Nodup:=by decide +kernel
theorem a2O:(["version","versions","moment"]:List Str).Nodup:=by decide +kernel
theorem a1S:(["link","ring","number","place"]:List Str).Nodup:=by decide +kernel
theorem a9z:(["ended","self","number","dealing","record","links","found"]:List Str).Nodup:=by decide +kernel
theorem a5s:(["dealing","self","beginnings","moment","gone","good","left"]:List Str).Nodup:=by decide +kernel
theorem a6k:(["good","self"]:List Str).Nodup:=by decide +kernel
theorem R6:(["_law_good","_law_one","_law_other"]:List Str).Nodup:=by decide +kernel
theorem b9o:(["_law_deed","_law_script","_law_asked","_law_told","_law_kept","_law_fewer","_law_again","_law_k","_law_tally","_law_due","_law_rows","_law_handed","_law_found"]:List Str).Nodup:=by decide +kernel
theorem b9l:(["_law_k","_law_script","_law_asked","_law_told","_law_kept","_law_fewer","_law_again",".","_law_tally","_law_due","_law_rows","_law_handed","_law_found"]:List Str).Nodup:=by decide +kernel
theorem b5j:(["_law_good","_law_script","_law_asked","_law_told","_law_kept","_law_fewer","_law_again","_law_k","_law_tally","_law_due","_law_rows","_law_handed","_law_found"]:List Str).Nodup:=by decide +kernel
structure FB(K:PySem.W.Frag)(n q:Str)(s:Stmt)(f:Addr)(d:FuncData)(ps:List Str):Prop extends Fun K n q s f d where
 b:Binds K d ps []
structure A1(K:PySem.W.Frag)(mg:Str→Option Value)(t:B4):Prop where
 F_in_both:FB K "in_both" "in_both" a4k t.f_in_both t.d_in_both ["goods","others"]
 m_in_both:mg "in_both"=some (.ref t.f_in_both)
 F_links_for:FB K "links_for" "links_for" a4d t.f_links_for t.d_links_for ["one","other","goods","why"]
 m_links_for:mg "links_for"=some (.ref t.f_links_for)
 F_links_between:FB K "links_between" "links_between" S8 t.f_links_between t.d_links_between ["one","other"]
 m_links_between:mg "links_between"=some (.ref t.f_links_between)
 F_links_with:FB K "links_with" "links_with" a9b t.f_links_with t.d_links_with ["record","others"]
 m_links_with:mg "links_with"=some (.ref t.f_links_with)
 F_links_by:FB K "links_by" "links_by" a9g t.f_links_by t.d_links_by ["place","numbers","links"]
 m_links_by:mg "links_by"=some (.ref t.f_links_by)
 F_longest_row:FB K "longest_row" "longest_row" X6 t.f_longest_row t.d_longest_row ["numbers","links"]
 m_longest_row:mg "longest_row"=some (.ref t.f_longest_row)
 F_ring_behind:FB K "ring_behind" "ring_behind" Y1 t.f_ring_behind t.d_ring_behind ["links"]
 m_ring_behind:mg "ring_behind"=some (.ref t.f_ring_behind)
 F_row_or_ring:FB K "row_or_ring" "row_or_ring" X4 t.f_row_or_ring t.d_row_or_ring ["numbers","links"]
 m_row_or_ring:mg "row_or_ring"=some (.ref t.f_row_or_ring)
 F_reached:FB K "reached" "reached" a2m t.f_reached t.d_reached ["versions","moment"]
 m_reached:mg "reached"=some (.ref t.f_reached)
 F_value_at:FB K "value_at" "value_at" a8h t.f_value_at t.d_value_at ["versions","moment"]
 m_value_at:mg "value_at"=some (.ref t.f_value_at)
 F_swept:FB K "swept" "swept" a3A t.f_swept t.d_swept ["versions","moment"]
 m_swept:mg "swept"=some (.ref t.f_swept)
 F_turned:FB K "turned" "turned" a3s t.f_turned t.d_turned ["ring","number"]
 m_turned:mg "turned"=some (.ref t.f_turned)
 F_Dealing___init__:FB K "__init__" "Dealing.__init__" O6 t.f_Dealing___init__ t.d_Dealing___init__ ["self","number","began"]
 K_Dealing:Mk K t.C_Dealing t.f_Dealing___init__
 F_Dealing_record:FB K "record" "Dealing.record" R5 t.f_Dealing_record t.d_Dealing_record ["self","ended"]
 M_Dealing_record:S7 K t.C_Dealing "record" t.f_Dealing_record
 F_Tally___init__:FB K "__init__" "Tally.__init__" R4 t.f_Tally___init__ t.d_Tally___init__ ["self"]
 K_Tally:Mk K t.C_Tally t.f_Tally___init__
 F_Tally_moment:FB K "moment" "Tally.moment" T9 t.f_Tally_moment t.d_Tally_moment ["self"]
 M_Tally_moment:S7 K t.C_Tally "moment" t.f_Tally_moment
 F_Tally_begin:FB K "begin" "Tally.begin" W9 t.f_Tally_begin t.d_Tally_begin ["self"]
 M_Tally_begin:S7 K t.C_Tally "begin" t.f_Tally_begin
 F_Tally_look:FB K "look" "Tally.look" a1a t.f_Tally_look t.d_Tally_look ["self","number","good"]
 M_Tally_look:S7 K t.C_Tally "look" t.f_Tally_look
 F_Tally_put:FB K "put" "Tally.put" a8d t.f_Tally_put t.d_Tally_put ["self","number","good","amount"]
 M_Tally_put:S7 K t.C_Tally "put" t.f_Tally_put
 F_Tally_leave:FB K "leave" "Tally.leave" X9 t.f_Tally_leave t.d_Tally_leave ["self","number"]
 M_Tally_leave:S7 K t.C_Tally "leave" t.f_Tally_leave
 F_Tally_end:FB K "end" "Tally.end" a2d t.f_Tally_end t.d_Tally_end ["self","number"]
 M_Tally_end:S7 K t.C_Tally "end" t.f_Tally_end
 F_Tally_take_over:FB K "take_over" "Tally.take_over" Q0 t.f_Tally_take_over t.d_Tally_take_over ["self","aside"]
 M_Tally_take_over:S7 K t.C_Tally "take_over" t.f_Tally_take_over
 F_Tally_sweep:FB K "sweep" "Tally.sweep" X2 t.f_Tally_sweep t.d_Tally_sweep ["self"]
 M_Tally_sweep:S7 K t.C_Tally "sweep" t.f_Tally_sweep
 F_Tally_amounts:FB K "amounts" "Tally.amounts" T3 t.f_Tally_amounts t.d_Tally_amounts ["self"]
 M_Tally_amounts:S7 K t.C_Tally "amounts" t.f_Tally_amounts
 F_answer_to_end:FB K "answer_to_end" "answer_to_end" S5 t.f_answer_to_end t.d_answer_to_end ["tally","number"]
 m_answer_to_end:mg "answer_to_end"=some (.ref t.f_answer_to_end)
 F_answer_under_way:FB K "answer_under_way" "answer_under_way" O9 t.f_answer_under_way t.d_answer_under_way ["tally","deed"]
 m_answer_under_way:mg "answer_under_way"=some (.ref t.f_answer_under_way)
 F_answer_to:FB K "answer_to" "answer_to" a5d t.f_answer_to t.d_answer_to ["tally","deed"]
 m_answer_to:mg "answer_to"=some (.ref t.f_answer_to)
 F_answers_at:FB K "answers_at" "answers_at" a6b t.f_answers_at t.d_answers_at ["tally","deeds"]
 m_answers_at:mg "answers_at"=some (.ref t.f_answers_at)
 F_tally_behind:FB K "tally_behind" "tally_behind" U0 t.f_tally_behind t.d_tally_behind ["deeds"]
 m_tally_behind:mg "tally_behind"=some (.ref t.f_tally_behind)
 F_answers:FB K "answers" "answers" a4m t.f_answers t.d_answers ["deeds"]
 m_answers:mg "answers"=some (.ref t.f_answers)
 F_ending:FB K "ending" "ending" a2u t.f_ending t.d_ending ["deeds"]
 m_ending:mg "ending"=some (.ref t.f_ending)
 F__law_unturned:FB K "_law_unturned" "_law_unturned" S9 t.f__law_unturned t.d__law_unturned ["_law_found","_law_due"]
 m__law_unturned:mg "_law_unturned"=some (.ref t.f__law_unturned)
 F__law_room:FB K "_law_room" "_law_room" a7d t.f__law_room t.d__law_room ["_law_script","_law_most","_law_bound"]
 m__law_room:mg "_law_room"=some (.ref t.f__law_room)
 F__law_whole:FB K "_law_whole" "_law_whole" a6a t.f__law_whole t.d__law_whole ["_law_found"]
 m__law_whole:mg "_law_whole"=some (.ref t.f__law_whole)
 F__law_table:FB K "_law_table" "_law_table" a7a t.f__law_table t.d__law_table ["_law_found","_law_due"]
 m__law_table:mg "_law_table"=some (.ref t.f__law_table)
 F__law_ware:FB K "_law_ware" "_law_ware" a1e t.f__law_ware t.d__law_ware ["_law_spot","_law_place"]
 m__law_ware:mg "_law_ware"=some (.ref t.f__law_ware)
 F__law_deeds:FB K "_law_deeds" "_law_deeds" a7b t.f__law_deeds t.d__law_deeds ["_law_cells"]
 m__law_deeds:mg "_law_deeds"=some (.ref t.f__law_deeds)
 F__law_ended:FB K "_law_ended" "_law_ended" a5a t.f__law_ended t.d__law_ended ["_law_found"]
 m__law_ended:mg "_law_ended"=some (.ref t.f__law_ended)
 F__law_filtered:FB K "_law_filtered" "_law_filtered" S4 t.f__law_filtered t.d__law_filtered ["_law_asked","_law_told"]
 m__law_filtered:mg "_law_filtered"=some (.ref t.f__law_filtered)
 F__law_alike:FB K "_law_alike" "_law_alike" a1c t.f__law_alike t.d__law_alike ["_law_one","_law_two"]
 m__law_alike:mg "_law_alike"=some (.ref t.f__law_alike)
 F__law_tallied:FB K "_law_tallied" "_law_tallied" V1 t.f__law_tallied t.d__law_tallied ["_law_asked","_law_told"]
 m__law_tallied:mg "_law_tallied"=some (.ref t.f__law_tallied)
 F__law_walked:FB K "_law_walked" "_law_walked" X7 t.f__law_walked t.d__law_walked ["_law_asked","_law_told"]
 m__law_walked:mg "_law_walked"=some (.ref t.f__law_walked)
 F__law_linked:FB K "_law_linked" "_law_linked" Y0 t.f__law_linked t.d__law_linked ["_law_one","_law_other"]
 m__law_linked:mg "_law_linked"=some (.ref t.f__law_linked)
 F__law_ringed:FB K "_law_ringed" "_law_ringed" X8 t.f__law_ringed t.d__law_ringed ["_law_records","_law_record"]
 m__law_ringed:mg "_law_ringed"=some (.ref t.f__law_ringed)
 F__law_ends_right:FB K "_law_ends_right" "_law_ends_right" Q1 t.f__law_ends_right t.d__law_ends_right ["_law_asked","_law_told"]
 m__law_ends_right:mg "_law_ends_right"=some (.ref t.f__law_ends_right)
 F_law:FB K "law" "law" Q7 t.f_law t.d_law ["_law_script"]
 m_law:mg "law"=some (.ref t.f_law)
 cl_Dealing:Cls K t.C_Dealing
 mg_Dealing:mg "Dealing"=some (.ref t.C_Dealing)
 n_Dealing_number:v3 K t.C_Dealing "number"
 n_Dealing_began:v3 K t.C_Dealing "began"
 n_Dealing_looked:v3 K t.C_Dealing "looked"
 n_Dealing_aside:v3 K t.C_Dealing "aside"
 cl_Tally:Cls K t.C_Tally
 mg_Tally:mg "Tally"=some (.ref t.C_Tally)
 n_Tally_begun:v3 K t.C_Tally "begun"
 n_Tally_under_way:v3 K t.C_Tally "under_way"
 n_Tally_versions:v3 K t.C_Tally "versions"
 n_Tally_records:v3 K t.C_Tally "records"
 n_Tally_links:v3 K t.C_Tally "links"
 n_Tally_row:v3 K t.C_Tally "row"
 m_bool:mg "bool"=none
 m_int:mg "int"=none
 m_isinstance:mg "isinstance"=none
 m_len:mg "len"=none
 m_list:mg "list"=none
 m_max:mg "max"=none
 m_min:mg "min"=none
 m_range:mg "range"=none
 m_reversed:mg "reversed"=none
 m_set:mg "set"=none
 m_sorted:mg "sorted"=none
 m_str:mg "str"=none
 m_sum:mg "sum"=none
 m_tuple:mg "tuple"=none
 m_NUMBER:mg "NUMBER"=some t.v_NUMBER
 r_NUMBER:RelV (.int 0) t.v_NUMBER
 m_BEGAN:mg "BEGAN"=some t.v_BEGAN
 r_BEGAN:RelV (.int 1) t.v_BEGAN
 m_ENDED:mg "ENDED"=some t.v_ENDED
 r_ENDED:RelV (.int 2) t.v_ENDED
 m_LOOKED:mg "LOOKED"=some t.v_LOOKED
 r_LOOKED:RelV (.int 3) t.v_LOOKED
 m_PUT:mg "PUT"=some t.v_PUT
 r_PUT:RelV (.int 4) t.v_PUT
 m_ONE:mg "ONE"=some t.v_ONE
 r_ONE:RelV (.int 0) t.v_ONE
 m_OTHER:mg "OTHER"=some t.v_OTHER
 r_OTHER:RelV (.int 1) t.v_OTHER
section
variable{P:Program}{w:World}{K:PySem.W.Frag}{mg:Str→Option Value}{base:Heap}{t:B4}
theorem a6t(xs:List V)(k:Nat):a3e xs (some (k:Int)) none=xs.drop k:=by
 unfold a3e
 rw[HT.a3O,HT.a3T]
 rcases Nat.le_total k xs.length with h | h
 ·rw[Nat.min_eq_left h,List.take_of_length_le (by rw[List.length_drop];omega)]
 ·rw[Nat.min_eq_right h,Nat.sub_self,List.take_zero,List.drop_eq_nil_of_le h]
theorem a0L(xs:List V)(k:Nat):a3e xs none (some (k:Int))=xs.take k:=by
 unfold a3e
 rw[HT.a3O,HT.a3T,List.drop_zero,Nat.sub_zero]
 rcases Nat.le_total k xs.length with h | h
 ·rw[Nat.min_eq_left h]
 ·rw[Nat.min_eq_right h,List.take_of_length_le (qQ7 _),List.take_of_length_le h]
theorem a1n{n:Nat}(h:0<n)(c:Int):∃j:Nat,j<n∧c % (n:Int)=(j:Int):=by
 have h0:=Int.emod_nonneg c (show(n:Int)≠0 by omega)
 have h1:=Int.emod_lt_of_pos c (show(0:Int)<n by omega)
 exact⟨(c % n).toNat,by omega,by omega⟩
theorem b7y:IntMulOk (10 ^ (50:Int).toNat) (10 ^ (50:Int).toNat):=by unfold IntMulOk;decide +kernel
theorem a2a:∀{ns:List Int} {n:Int},n∈ns→∃j:Nat,ns[j]?=some n∧∀i,i<j→ns[i]?≠some n
 | m::ns,n,h=>by
  by_cases e:m=n
  ·exact⟨0,by simp[e],fun i hi=>by omega⟩
  ·rcases qQ9.mp h with h | h
   ·exact absurd h.symm e
   ·obtain⟨j,h1,h2⟩:=a2a h
    refine⟨j+1,by simpa using h1,fun i hi=>?_⟩
    cases i with
    | zero=>simp[e]
    | succ i=>simpa using h2 i (by omega)
def pd(p:Int×Int):PyData:=.tuple [.int p.1,.int p.2]
def Ver(K:PySem.W.Frag)(H:Hp)(a:Addr)(ps:List (Int×Int)):Prop:=∃xs,d7 K H a xs∧p5 K H (ps.map pd) xs
theorem b4c{K:PySem.W.Frag}{H:Hp}{ps:List (Int×Int)}{xs:List V}{i:Nat}{x:V}(r:p5 K H (ps.map pd) xs)(e:xs[i]?=some x):∃p b,ps[i]?=some p∧x=.ref b∧i4 K H b [.int p.1,.int p.2]:=by
 obtain⟨d,h1,h2⟩:=r.at' e
 rw[qQ8]at h1
 cases hp:ps[i]? with
 | none=>rw[hp]at h1;cases h1
 | some p=>
  rw[hp]at h1
  cases h1
  unfold pd Rep at h2
  obtain⟨b,ys,rfl,hq,rs⟩:=h2
  simp only[p5,Rep]at rs
  obtain⟨y1,z1,rfl,rfl,y2,z2,rfl,rfl,rfl⟩:=rs
  exact⟨p,b,rfl,rfl,hq⟩
theorem b0r{K:PySem.W.Frag}{H:Hp}{ps:List (Int×Int)}{xs:List V}{i:Nat}{p:Int×Int}(r:p5 K H (ps.map pd) xs)(e:ps[i]?=some p):∃b,xs[i]?=some (.ref b)∧i4 K H b [.int p.1,.int p.2]:=by
 obtain⟨x,h1,h2⟩:=r.at (i:=i) (d:=pd p) (by rw[qQ8,e];rfl)
 obtain⟨p',b,h3,h4,h5⟩:=b4c r h1
 rw[e]at h3
 cases h3
 subst h4
 exact⟨b,h1,h5⟩
theorem b7s{K:PySem.W.Frag}{H:Hp}{ps:List (Int×Int)}{xs:List V}(r:p5 K H (ps.map pd) xs):xs.length=ps.length:=by
 have:=r.len;rw[qQ0]at this;exact this.symm
theorem b8u{K:PySem.W.Frag}{H:Hp}{b:Addr}{p:Int×Int}(h:i4 K H b [.int p.1,.int p.2]):Rep K H (pd p) (.ref b):=by
 unfold pd;simp only[Rep,p5]
 exact⟨b,_,rfl,h,_,_,rfl,rfl,_,_,rfl,rfl,rfl⟩
theorem b4i:∀ps:List (Int×Int),PyData.depthAll (ps.map pd)≤1
 | []=>by rw[List.map_nil,PyData.depthAll];omega
 | p::r=>by rw[List.map_cons,PyData.depthAll];have:=b4i r;simp[pd,PyData.depth,PyData.depthAll];omega
def cnt(ps:List (Int×Int))(m:Int):Nat:=(ps.filter fun p=>decide (p.1≤m)).length
theorem a4K{ps:List (Int×Int)}{i:Nat}{p:Int×Int}{m:Int}(h:ps[i]?=some p):cnt (ps.take (i+1)) m=cnt (ps.take i) m+if p.1≤m then 1 else 0:=by
 unfold cnt
 rw[PySem.take_succ_filter _ _ i p h,qQ4]
 by_cases c:p.1≤m<;>simp[c]
theorem a3y(ps:List (Int×Int))(m:Int):cnt ps m≤ps.length:=List.length_filter_le _ _
theorem small{n:Nat}(h:n≤1000):n≤sizeLine:=Nat.le_of_lt (W3 h)
structure Rec where
 num:Int
 beg:Int
 fin:Int
 looked:List Str
 put:List Str
def rd(r:Rec):PyData:=.tuple [.int r.num,.int r.beg,.int r.fin,.list (r.looked.map PyData.str),.list (r.put.map PyData.str)]
theorem R9{K:PySem.W.Frag}{H:Hp}:∀{ks:List Str} {xs:List V},p5 K H (ks.map PyData.str) xs↔xs=ks.map V.str
 | [],xs=>by simp[p5]
 | k::ks,xs=>by
  simp only[List.map_cons,p5,Rep]
  constructor
  ·rintro⟨y,ys,rfl,rfl,h⟩;rw[R9.mp h]
  ·rintro rfl;exact⟨_,_,rfl,rfl,R9.mpr rfl⟩
def RecAt(K:PySem.W.Frag)(H:Hp)(r:Rec)(x:V):Prop:=∃b la pa,x=.ref b∧i4 K H b [.int r.num,.int r.beg,.int r.fin,.ref la,.ref pa]∧d7 K H la (r.looked.map V.str)∧d7 K H pa (r.put.map V.str)
theorem a4e{K:PySem.W.Frag}{H:Hp}{r:Rec}{x:V}:Rep K H (rd r) x↔RecAt K H r x:=by
 unfold rd RecAt
 simp only[Rep,p5]
 constructor
 ·rintro⟨b,xs,rfl,hq,y1,z1,rfl,rfl,y2,z2,rfl,rfl,y3,z3,rfl,rfl,y4,z4,rfl,⟨la,us,rfl,hl,rl⟩,y5,z5,rfl,⟨pa,ws,rfl,hp,rp⟩,rfl⟩
  rw[R9.mp rl]at hl
  rw[R9.mp rp]at hp
  exact⟨b,la,pa,rfl,hq,hl,hp⟩
 ·rintro⟨b,la,pa,rfl,hq,hl,hp⟩
  exact⟨b,_,rfl,hq,_,_,rfl,rfl,_,_,rfl,rfl,_,_,rfl,rfl,_,_,rfl,⟨la,_,rfl,hl,R9.mpr rfl⟩,_,_,rfl,⟨pa,_,rfl,hp,R9.mpr rfl⟩,rfl⟩
theorem b4r{K:PySem.W.Frag}{H:Hp}{rs:List Rec}{xs:List V}{i:Nat}{x:V}(h:p5 K H (rs.map rd) xs)(e:xs[i]?=some x):∃r,rs[i]?=some r∧RecAt K H r x:=by
 obtain⟨d,h1,h2⟩:=h.at' e
 rw[qQ8]at h1
 cases hr:rs[i]? with
 | none=>rw[hr]at h1;cases h1
 | some r=>rw[hr]at h1;cases h1;exact⟨r,rfl,a4e.mp h2⟩
theorem RecAt.same{K:PySem.W.Frag}{H H':Hp}{r:Rec}{x:V}(s:g6 H H')(h:RecAt K H r x):RecAt K H' r x:=a4e.mp ((a4e.mpr h).same s)
abbrev Lk:=Int×Int×Str×Str
def ld(l:Lk):PyData:=.tuple [.int l.1,.int l.2.1,.str l.2.2.1,.str l.2.2.2]
def a9Q(H:Hp)(l:Lk)(x:V):Prop:=∃a,x=.ref a∧H a=some (.tup [.int l.1,.int l.2.1,.str l.2.2.1,.str l.2.2.2])
def v7(H:Hp)(ls:List Lk)(xs:List V):Prop:=Paired (a9Q H) ls xs
theorem v7.tupK{H H':Hp}(k:r9 H H'):∀{ls:List Lk} {xs:List V},v7 H ls xs→v7 H' ls xs
 | _,_,.nil=>.nil
 | _,_,.cons ⟨a,e,h⟩ t=>.cons ⟨a,e,k.1 _ _ h⟩ (v7.tupK k t)
theorem v7.append{H:Hp}{ms:List Lk}{ys:List V}(h:v7 H ms ys):∀{ls:List Lk} {xs:List V},v7 H ls xs→v7 H (ls++ms) (xs++ys)
 | _,_,.nil=>h
 | _,_,.cons r t=>.cons r (v7.append h t)
theorem v7.snoc{H:Hp}{l:Lk}{x:V}{ls:List Lk}{xs:List V}(t:v7 H ls xs)(h:a9Q H l x):v7 H (ls++[l]) (xs++[x]):=v7.append (.cons h .nil) t
theorem v7.len{H:Hp}{ls:List Lk}{xs:List V}(h:v7 H ls xs):xs.length=ls.length:=by
 induction h with
 | nil=>rfl
 | cons _ _ ih=>simp[ih]
def part(n m:Int)(why:Str)(gs:List Str):List Lk:=gs.map fun x=>(n,m,x,why)
theorem a0s{n m:Int}{why:Str}{gs:List Str}{l:Lk}:l∈part n m why gs↔l.1=n∧l.2.1=m∧l.2.2.2=why∧l.2.2.1∈gs:=by
 unfold part
 rw[qQ3]
 constructor
 ·rintro⟨x,hx,rfl⟩;exact⟨rfl,rfl,rfl,hx⟩
 ·rintro⟨rfl,rfl,rfl,h⟩;exact⟨_,h,rfl⟩
def W5(c:Prop)(as bs gs:List Str):Prop:=gs.Nodup∧∀x,x∈gs↔c∧x∈as∧x∈bs
structure LB(one other:Rec)(ls:List Lk):Prop where
 parts:∃g1 g2 g3,ls=part one.num other.num "over" g1++part one.num other.num "saw" g2++part one.num other.num "missed" g3 ∧
  W5 (one.fin<other.fin) one.put other.put g1∧W5 (one.fin≤other.beg) one.put other.looked g2∧W5 (one.beg<other.fin) one.looked other.put g3
def a0m(one other:Rec)(l:Lk):Prop:=l.1=one.num∧l.2.1=other.num ∧
 ((l.2.2.2="over"∧one.fin<other.fin∧l.2.2.1∈one.put∧l.2.2.1∈other.put)∨(l.2.2.2="saw"∧one.fin≤other.beg∧l.2.2.1∈one.put∧l.2.2.1∈other.looked)∨(l.2.2.2="missed"∧one.beg<other.fin∧l.2.2.1∈one.looked∧l.2.2.1∈other.put))
theorem LB.mem{one other:Rec}{ls:List Lk}(h:LB one other ls)(l:Lk):l∈ls↔a0m one other l:=by
 obtain⟨g1,g2,g3,rfl,⟨_,m1⟩,⟨_,m2⟩,⟨_,m3⟩⟩:=h.parts
 rw[qQ5,qQ5,a0s,a0s,a0s,m1,m2,m3]
 unfold a0m
 constructor
 ·rintro((⟨a,b,c,d⟩ | ⟨a,b,c,d⟩) | ⟨a,b,c,d⟩)
  ·exact⟨a,b,.inl ⟨c,d⟩⟩
  ·exact⟨a,b,.inr (.inl ⟨c,d⟩)⟩
  ·exact⟨a,b,.inr (.inr ⟨c,d⟩)⟩
 ·rintro⟨a,b,⟨c,d⟩ | ⟨c,d⟩ | ⟨c,d⟩⟩
  ·exact .inl (.inl ⟨a,b,c,d⟩)
  ·exact .inl (.inr ⟨a,b,c,d⟩)
  ·exact .inr ⟨a,b,c,d⟩
theorem LB.len{one other:Rec}{ls:List Lk}(h:LB one other ls):ls.length≤one.put.length+one.put.length+one.looked.length:=by
 obtain⟨g1,g2,g3,rfl,⟨n1,m1⟩,⟨n2,m2⟩,⟨n3,m3⟩⟩:=h.parts
 have l1:=u7 n1 fun x hx=>((m1 x).mp hx).2.1
 have l2:=u7 n2 fun x hx=>((m2 x).mp hx).2.1
 have l3:=u7 n3 fun x hx=>((m3 x).mp hx).2.1
 simp only[qQ4,part,qQ0]
 omega
theorem a4o{α β:Type}{F:α→β→Prop}:∀{l:List α} {m:List β} {i:Nat} {a:α},Paired F l m→l[i]?=some a→∃b,m[i]?=some b∧F a b
 | _,_,i,a,.nil,e=>by simp at e
 | _,_,0,a,.cons r t,e=>by simp at e;subst e;exact⟨_,rfl,r⟩
 | _,_,i+1,a,.cons r t,e=>by
  obtain⟨b,h1,h2⟩:=a4o t (by simpa using e)
  exact⟨b,by simpa using h1,h2⟩
theorem v5{α β:Type}{F:α→β→Prop}:∀{l:List α} {m:List β} {i:Nat} {b:β},Paired F l m→m[i]?=some b→∃a,l[i]?=some a∧F a b
 | _,_,i,a,.nil,e=>by simp at e
 | _,_,0,a,.cons r t,e=>by simp at e;subst e;exact⟨_,rfl,r⟩
 | _,_,i+1,a,.cons r t,e=>by
  obtain⟨b,h1,h2⟩:=v5 t (by simpa using e)
  exact⟨b,by simpa using h1,h2⟩
theorem n5{α β:Type}{F:α→β→Prop}{l:List α}{m:List β}(h:Paired F l m):m.length=l.length:=(Paired.length h).symm
abbrev Am:=List (Str×Int)
def y8(m:Am):List (Key×V):=m.map fun p=>(Sum.inr p.1,V.int p.2)
def p9(m:Am)(g:Str):Option Int:=(m.find? fun p=>decide (p.1=g)).map (·.2)
def C1(m:Am)(g:Str)(a:Int):Am:=if (m.any fun p=>decide (p.1=g))=true then m.map (fun p=>if p.1=g then(p.1,a) else p) else m++[(g,a)]
theorem a7n(g k:Str):decide ((Sum.inr g:Key)=Sum.inr k)=decide (g=k):=by
 by_cases e:g=k
 ·subst e;simp
 ·rw[decide_eq_false e,decide_eq_false fun z=>e (Sum.inr.inj z)]
theorem U8(m:Am)(g:Str):A3 (y8 m) (Sum.inr g)=(p9 m g).map V.int:=by
 unfold A3 y8 p9
 induction m with
 | nil=>rfl
 | cons p m ih=>
  rw[List.map_cons,List.find?_cons,List.find?_cons,a7n]
  by_cases e:p.1=g
  ·rw[decide_eq_true e];rfl
  ·rw[decide_eq_false e];exact ih
theorem a8n(m:Am)(g:Str)(a:Int):putK (y8 m) (Sum.inr g) (V.int a)=y8 (C1 m g a):=by
 unfold putK C1
 have e:(y8 m).any (fun kv=>decide (kv.1=(Sum.inr g:Key)))=m.any fun p=>decide (p.1=g):=by
  unfold y8
  rw[List.any_map]
  congr 1;funext p;exact a7n p.1 g
 rw[e]
 split
 ·unfold y8
  rw[List.map_map,List.map_map]
  refine List.map_congr_left fun p _=>?_
  show(if (Sum.inr p.1:Key)=Sum.inr g then _ else _)=_
  by_cases z:p.1=g
  ·rw[if_pos (by rw[z])];simp only[Function.comp,if_pos z]
  ·rw[if_neg fun w=>z (Sum.inr.inj w)];simp only[Function.comp,if_neg z]
 ·unfold y8
  rw[qQ6];rfl
theorem a8O(m:Am)(g:Str)(a:Int):(C1 m g a).length≤m.length+1:=by
 unfold C1;split<;>simp
theorem b1f(m:Am)(g:Str)(a:Int):(C1 m g a).map (·.1)=if (m.any fun p=>decide (p.1=g))=true then m.map (·.1) else m.map (·.1)++[g]:=by
 unfold C1;split
 ·rw[List.map_map]
  refine List.map_congr_left fun p _=>?_
  by_cases z:p.1=g
  ·simp only[Function.comp,if_pos z]
  ·simp only[Function.comp,if_neg z]
 ·rw[qQ6];rfl
def But(m:Addr)(H H':Hp):Prop:=∀b o,b≠m→H b=some o→H' b=some o
theorem But.trans{m:Addr}{H H1 H2:Hp}(a:But m H H1)(b:But m H1 H2):But m H H2:=fun c o n h=>b c o n (a c o n h)
def b5l(H:Hp)(p:Str×Int)(x:V):Prop:=∃a,x=.ref a∧H a=some (.tup [.str p.1,.int p.2])
def Prs(H:Hp)(tb:Am)(xs:List V):Prop:=Paired (b5l H) tb xs
theorem Prs.tupK{H H':Hp}(k:r9 H H'){tb:Am}{xs:List V}(h:Prs H tb xs):Prs H' tb xs:=Paired.mapP h fun _ _ ⟨p,e,h⟩=>⟨p,e,k.1 _ _ h⟩
def prD(p:Str×Int):PyData:=.tuple [.str p.1,.int p.2]
theorem b5l.rep{K:PySem.W.Frag}{H:Hp}{p:Str×Int}{x:V}(h:b5l H p x):Rep K H (prD p) x:=by
 obtain⟨a,rfl,h⟩:=h
 unfold prD;simp only[Rep,p5]
 exact⟨a,_,rfl,i4.of h,_,_,rfl,rfl,_,_,rfl,rfl,rfl⟩
theorem a8T{p:Str×Int}(h:PyData.strOk p.1=true):(prD p).canLay0=true:=by
 unfold prD;simp[PyData.canLay0,PyData.canLayAll0];exact h
theorem b6c(p:Str×Int):(prD p).depth≤60:=by
 unfold prD;simp[PyData.depth,PyData.depthAll]
def l7(ks:List Int)(g:Int→V):List (Key×V):=ks.map fun n=>(Sum.inl n,g n)
theorem a8M(n m:Int):decide ((Sum.inl n:Key)=Sum.inl m)=decide (n=m):=by
 by_cases e:n=m
 ·subst e;simp
 ·rw[decide_eq_false e,decide_eq_false fun z=>e (Sum.inl.inj z)]
theorem p6{ks:List Int}{g:Int→V}{n:Int}:A3 (l7 ks g) (Sum.inl n)=if n∈ks then some (g n) else none:=by
 unfold A3 l7
 induction ks with
 | nil=>rfl
 | cons k ks ih=>
  rw[List.map_cons,List.find?_cons,a8M]
  by_cases e:k=n
  ·subst e;simp
  ·rw[decide_eq_false e]
   have:(n∈k::ks)↔n∈ks:=by
    rw[qQ9];exact⟨fun z=>z.elim (fun w=>absurd w.symm e) id,.inr⟩
   simp only[this];exact ih
theorem U1{ks:List Int}{g g':Int→V}(h:∀n∈ks,g n=g' n):l7 ks g=l7 ks g':=by
 unfold l7;exact List.map_congr_left fun n hn=>by rw[h n hn]
def a0c(g:Int→V)(n:Int)(v:V):Int→V:=fun m=>if m=n then v else g m
theorem a0d{g:Int→V}{n:Int}{v:V}:a0c g n v n=v:=if_pos rfl
theorem a3o{g:Int→V}{n m:Int}{v:V}(h:m≠n):a0c g n v m=g m:=if_neg h
theorem L6{ks:List Int}{g:Int→V}{n:Int}{v:V}:putK (l7 ks g) (Sum.inl n) v=l7 (if n∈ks then ks else ks++[n]) (a0c g n v):=by
 unfold putK
 have e:(l7 ks g).any (fun kv=>decide (kv.1=(Sum.inl n:Key)))=decide (n∈ks):=by
  unfold l7
  rw[List.any_map]
  induction ks with
  | nil=>rfl
  | cons k ks ih=>
   rw[List.any_cons,ih]
   show(decide ((Sum.inl k:Key)=Sum.inl n)||_)=_
   rw[a8M]
   by_cases z:k=n
   ·subst z;simp
   ·have z':¬n=k:=fun w=>z w.symm
    simp[z,z']
 rw[e]
 by_cases hn:n∈ks
 ·rw[if_pos (by simpa using hn),if_pos hn]
  unfold l7
  rw[List.map_map]
  refine List.map_congr_left fun m _=>?_
  show(if (Sum.inl m:Key)=Sum.inl n then _ else _)=_
  by_cases z:m=n
  ·rw[if_pos (by rw[z]),z,a0d]
  ·rw[if_neg fun w=>z (Sum.inl.inj w),a3o z]
 ·rw[if_neg (by simpa using hn),if_neg hn]
  unfold l7
  rw[qQ6]
  congr 1
  ·exact List.map_congr_left fun m hm=>by rw[a3o fun z:m=n=>hn (by rw[←z];exact hm)]
  ·show [(Sum.inl n,v)]=[(Sum.inl n,a0c g n v n)]
   rw[a0d]
theorem K2(ks:List Int)(g:Int→V):(l7 ks g).length=ks.length:=qQ0 _
def X1(ls:List Lk)(row:List Int)(n:Int):Nat:=ls.countP fun l=>decide (l.2.1=n)&&decide (l.1∉row)
def G5(fs:List Lk)(n:Int):Nat:=fs.countP fun l=>decide (l.2.1=n)
theorem a9h{row:List Int}{m:Int}(hm:m∉row)(n:Int):∀ls:List Lk,X1 ls row n=X1 ls (row++[m]) n+G5 (ls.filter fun l=>decide (l.1=m)) n
 | []=>rfl
 | l::ls=>by
  have ih:=a9h hm n ls
  unfold X1 G5 at ih ⊢
  rw[List.countP_cons,List.countP_cons,ih]
  by_cases e:l.1=m
  ·rw[List.filter_cons_of_pos (by simpa using e),List.countP_cons]
   have h1:decide (l.1∉row)=true:=decide_eq_true (by rw[e];exact hm)
   have h2:decide (l.1∉row++[m])=false:=decide_eq_false fun z=>z (by rw[e];simp)
   rw[h1,h2,Bool.and_true,Bool.and_false]
   have h3:(if (false:Bool)=true then 1 else 0)=0:=rfl
   rw[h3]
   omega
  ·rw[List.filter_cons_of_neg (by simpa using e)]
   have h1:decide (l.1∉row++[m])=decide (l.1∉row):=by
    by_cases z:l.1∈row
    ·rw[decide_eq_false fun w=>w (List.mem_append_left _ z),decide_eq_false fun w=>w z]
    ·rw[decide_eq_true z,decide_eq_true]
     intro w
     rcases qQ5.mp w with w | w
     ·exact z w
     ·exact e (qQ2.mp w)
   rw[h1]
   omega
theorem a4x{fs:List Lk}{j:Nat}{l:Lk}(h:fs[j]?=some l)(n:Int):G5 (fs.take (j+1)) n=G5 (fs.take j) n+if l.2.1=n then 1 else 0:=by
 unfold G5
 rw[List.take_add_one,h,Option.toList_some,List.countP_append,List.countP_singleton]
 by_cases e:l.2.1=n
 ·simp[e]
 ·simp[e]
theorem b0o(fs:List Lk)(j:Nat)(n:Int):G5 (fs.take j) n≤G5 fs n:=(List.take_sublist j fs).countP_le
theorem b5g{ls:List Lk}{row:List Int}{n:Int}(h:X1 ls row n=0){l:Lk}(hl:l∈ls)(e:l.2.1=n):l.1∈row:=by
 unfold X1 at h
 rw[List.countP_eq_zero]at h
 have:=h l hl
 simp[e]at this
 exact this
theorem b6h{ls:List Lk}{row:List Int}{n:Int}(h:X1 ls row n≠0):∃l∈ls,l.2.1=n∧l.1∉row:=by
 unfold X1 at h
 obtain⟨l,hl,e⟩:=List.countP_pos_iff.mp (Nat.pos_of_ne_zero h)
 simp at e
 exact⟨l,hl,e.1,e.2⟩
def ahead(row:List Int)(x y:Int):Prop:=∃i j:Nat,i<j∧row[i]?=some x∧row[j]?=some y
theorem a3W{row:List Int}{x y:Int}(h:ahead row x y)(r:List Int):ahead (row++r) x y:=by
 obtain⟨i,j,a,b,c⟩:=h
 have hi:=(qQ1.mp b).1
 have hj:=(qQ1.mp c).1
 exact⟨i,j,a,by rw[List.getElem?_append_left hi];exact b,by rw[List.getElem?_append_left hj];exact c⟩
theorem a0Z{row:List Int}{x y:Int}(h:x∈row):ahead (row++[y]) x y:=by
 obtain⟨i,hi⟩:=List.mem_iff_getElem?.mp h
 have lt:=(qQ1.mp hi).1
 exact⟨i,row.length,lt,by rw[List.getElem?_append_left lt];exact hi,by simp⟩
structure RI(ns:List Int)(ls:List Lk)(row ready:List Int)(f:Int→Int):Prop where
 nd:(row++ready).Nodup
 sub:∀n∈row++ready,n∈ns
 cl:∀l∈ls,l.2.1∈row→ahead row l.1 l.2.1
 fv:∀n∈ns,f n=(X1 ls row n:Int)
 z:∀n∈ns,n∈row++ready↔f n=0
structure RJ(ns:List Int)(ls:List Lk)(row:List Int)(m:Int)(ready:List Int)(f:Int→Int)(j:Nat):Prop where
 nm:m∉row
 nd:(row++[m]++ready).Nodup
 sub:∀n∈row++[m]++ready,n∈ns
 cl:∀l∈ls,l.2.1∈row++[m]→ahead (row++[m]) l.1 l.2.1
 fv:∀n∈ns,f n+(G5 ((ls.filter fun l=>decide (l.1=m)).take j) n:Int)=(X1 ls row n:Int)
 z:∀n∈ns,n∈row++[m]++ready↔f n=0
theorem RI.start{ns:List Int}{ls:List Lk}{f:Int→Int}(hn:ns.Nodup)(hf:∀n∈ns,f n=(G5 ls n:Int)):RI ns ls [] (ns.filter fun n=>decide (f n=0)) f:=by
 refine⟨by rw[List.nil_append];exact hn.filter _,fun n h=>by rw[List.nil_append]at h;exact(qW0.mp h).1,fun l _ h=>by simp at h,fun n h=>?_,fun n h=>?_⟩
 ·rw[hf n h];unfold X1 G5;simp
 ·rw[List.nil_append,qW0];simp[h]
theorem RI.pop{ns:List Int}{ls:List Lk}{row ready:List Int}{f:Int→Int}{m:Int}(h:RI ns ls row (ready++[m]) f):RJ ns ls row m ready f 0:=by
 have p:(row++(ready++[m])).Perm (row++[m]++ready):=by
  rw[List.append_assoc]
  exact(List.perm_append_comm).append_left row
 have nd:=p.nodup_iff.mp h.nd
 have nm:m∉row:=fun z=>by
  have:=(List.nodup_append.mp (List.nodup_append.mp nd).1).2.2 m z m (by simp)
  exact this rfl
 have zm:f m=0:=(h.z m (h.sub m (by simp))).mp (by simp)
 have cm:X1 ls row m=0:=by have:=h.fv m (h.sub m (by simp));omega
 refine⟨nm,nd,fun n hn=>h.sub n (p.mem_iff.mpr hn),fun l hl e=>?_,fun n hn=>by rw[h.fv n hn];simp[G5],fun n hn=>by rw[←h.z n hn];exact p.mem_iff.symm⟩
 rcases qQ5.mp e with e | e
 ·exact a3W (h.cl l hl e) _
 ·have e:=qQ2.mp e
  rw[e]
  exact a0Z (b5g cm hl e)
theorem RJ.done{ns:List Int}{ls:List Lk}{row ready:List Int}{f:Int→Int}{m:Int}{j:Nat}(h:RJ ns ls row m ready f j)(hj:(ls.filter fun l=>decide (l.1=m)).length≤j):RI ns ls (row++[m]) ready f:=by
 refine⟨h.nd,h.sub,h.cl,fun n hn=>?_,h.z⟩
 have a:=h.fv n hn
 rw[List.take_of_length_le hj]at a
 have b:=a9h h.nm n ls
 omega
def a9k(f:Int→Int)(n:Int)(v:Int):Int→Int:=fun m=>if m=n then v else f m
theorem RJ.step{ns:List Int}{ls:List Lk}{row ready:List Int}{f:Int→Int}{m:Int}{j:Nat}{l:Lk}(h:RJ ns ls row m ready f j)(hl:(ls.filter fun l=>decide (l.1=m))[j]?=some l)(hin:l.2.1∈ns) :
  RJ ns ls row m (if f l.2.1-1=0 then ready++[l.2.1] else ready) (a9k f l.2.1 (f l.2.1-1)) (j+1):=by
 have a:=h.fv _ hin
 have b:=a9h h.nm l.2.1 ls
 have c:=a4x hl l.2.1
 rw[if_pos rfl]at c
 have d:=b0o (ls.filter fun l=>decide (l.1=m)) (j+1) l.2.1
 have fp:f l.2.1≠0:=by omega
 have nin:l.2.1∉row++[m]++ready:=fun z=>fp ((h.z _ hin).mp z)
 have ff:∀n∈ns,a9k f l.2.1 (f l.2.1-1) n+(G5 ((ls.filter fun l=>decide (l.1=m)).take (j+1)) n:Int)=(X1 ls row n:Int):=fun n hn=>by
  have a:=h.fv n hn
  have c:=a4x hl n
  unfold a9k
  by_cases e:n=l.2.1
  ·subst e;rw[if_pos rfl];rw[if_pos rfl]at c;omega
  ·rw[if_neg e];rw[if_neg fun z=>e z.symm]at c;omega
 by_cases e:f l.2.1-1=0
 ·rw[if_pos e]
  refine⟨h.nm,?_,fun n hn=>?_,h.cl,ff,fun n hn=>?_⟩
  ·rw[←List.append_assoc,List.nodup_append]
   refine⟨h.nd,by simp,fun x hx y hy=>?_⟩
   rw[qQ2.mp hy]
   rintro rfl
   exact nin hx
  ·rw[←List.append_assoc]at hn
   rcases qQ5.mp hn with hn | hn
   ·exact h.sub n hn
   ·rw[qQ2.mp hn];exact hin
  ·rw[←List.append_assoc,qQ5,qQ2]
   unfold a9k
   by_cases en:n=l.2.1
   ·subst en;rw[if_pos rfl];exact⟨fun _=>e,fun _=>.inr rfl⟩
   ·rw[if_neg en,←h.z n hn];exact⟨fun w=>w.elim id fun w=>absurd w en,.inl⟩
 ·rw[if_neg e]
  refine⟨h.nm,h.nd,h.sub,h.cl,ff,fun n hn=>?_⟩
  unfold a9k
  by_cases en:n=l.2.1
  ·subst en;rw[if_pos rfl];exact⟨fun w=>absurd w nin,fun w=>absurd w e⟩
  ·rw[if_neg en];exact h.z n hn
structure a1Z(ns:List Int)(ls:List Lk)(row:List Int):Prop where
 nd:row.Nodup
 sub:∀n∈row,n∈ns
 cl:∀l∈ls,l.2.1∈row→ahead row l.1 l.2.1
 out:∀n∈ns,n∉row→∃l∈ls,l.2.1=n∧l.1∉row
theorem RI.row{ns:List Int}{ls:List Lk}{row:List Int}{f:Int→Int}(h:RI ns ls row [] f):a1Z ns ls row:=by
 refine⟨by simpa using h.nd,fun n hn=>h.sub n (by simpa using hn),h.cl,fun n hn ho=>?_⟩
 refine b6h fun z=>ho ?_
 have:=(h.z n hn).mpr (by rw[h.fv n hn,z];rfl)
 simpa using this
theorem RJ.len{ns:List Int}{ls:List Lk}{row ready:List Int}{f:Int→Int}{m:Int}{j:Nat}(h:RJ ns ls row m ready f j):row.length+1+ready.length≤ns.length:=by
 have:=u7 h.nd h.sub
 simp only[qQ4,List.length_singleton]at this;omega
structure a3m(ns:List Int)(ls:List Lk)(row:List Int):Prop where
 perm:row.Perm ns
 nd:row.Nodup
 keeps:∀l∈ls,ahead row l.1 l.2.1
theorem a1Z.all{ns:List Int}{ls:List Lk}{row:List Int}(h:a1Z ns ls row)(hn:ns.Nodup)(hl:row.length=ns.length)(hin:∀l∈ls,l.2.1∈ns):a3m ns ls row:=by
 have all:∀n∈ns,n∈row:=fun n hns=>Classical.byContradiction fun z=>by
  have:=u7 (l:=n::row) (m:=ns) (List.nodup_cons.mpr ⟨z,h.nd⟩) fun x hx=>by
   rcases qQ9.mp hx with e | e
   ·rw[e];exact hns
   ·exact h.sub x e
  rw[List.length_cons]at this;omega
 exact⟨a2i h.nd hn fun x=>⟨h.sub x,all x⟩,h.nd,fun l hl=>h.cl l hl (all _ (hin l hl))⟩
structure Ring(rg:List Lk):Prop where
 ne:rg≠[]
 nd:(rg.map (·.1)).Nodup
 next:∀(i:Nat) l,rg[i]?=some l→∃m,rg[if i=0 then rg.length-1 else i-1]?=some m∧l.1=m.2.1
structure Wk(L:List Lk)(W:List Lk)(n:Int):Prop where
 sub:∀l∈W,l∈L
 nd:(W.map fun l=>l.2.1).Nodup
 chain:∀(i:Nat) l m,W[i]?=some l→W[i+1]?=some m→m.2.1=l.1
 last:∀l,W[W.length-1]?=some l→n=l.1
 on:∃l∈L,l.2.1=n
theorem Wk.len{L W:List Lk}{n:Int}(h:Wk L W n):W.length≤L.length:=by
 have:=u7 (l:=W.map fun l=>l.2.1) (m:=L.map fun l=>l.2.1) h.nd fun x hx=>by
  obtain⟨l,hl,e⟩:=qQ3.mp hx
  exact qQ3.mpr ⟨l,h.sub l hl,e⟩
 simpa using this
theorem Wk.step{L W:List Lk}{n:Int}{l:Lk}(h:Wk L W n)(hn:n∉W.map fun l=>l.2.1)(hl:l∈L)(e:l.2.1=n)(ho:∃m∈L,m.2.1=l.1):Wk L (W++[l]) l.1:=by
 refine⟨fun m hm=>?_,?_,fun i a b ha hb=>?_,fun m hm=>?_,ho⟩
 ·rcases qQ5.mp hm with hm | hm
  ·exact h.sub m hm
  ·rw[qQ2.mp hm];exact hl
 ·rw[qQ6,List.nodup_append]
  refine⟨h.nd,by simp,fun x hx y hy=>?_⟩
  have hy:y=l.2.1:=by simpa using hy
  rw[hy,e]
  rintro rfl
  exact hn hx
 ·have lt:=(qQ1.mp hb).1
  rw[qQ4,List.length_singleton]at lt
  by_cases c:i+1<W.length
  ·rw[List.getElem?_append_left (by omega)]at ha
   rw[List.getElem?_append_left c]at hb
   exact h.chain i a b ha hb
  ·have ei:i+1=W.length:=by omega
   rw[List.getElem?_append_left (by omega)]at ha
   rw[List.getElem?_append_right (by omega),show i+1-W.length=0 by omega]at hb
   have hb:l=b:=by simpa using hb
   rw[←hb,e]
   exact h.last a (by rw[←ei];simpa using ha)
 ·rw[qQ4,List.length_singleton,show W.length+1-1=W.length by omega,List.getElem?_append_right (qQ7 _),Nat.sub_self]at hm
  have hm:l=m:=by simpa using hm
  rw[hm]
theorem b7l{l:List Int}(h:∀a b:Nat,a<b→b<l.length→l[a]?≠l[b]?):l.Nodup:=
 List.pairwise_iff_getElem.mpr fun i j hi hj hij e=>h i j hij hj (by rw[List.getElem?_eq_getElem hi,List.getElem?_eq_getElem hj,e])
theorem Wk.ring{L W:List Lk}{n:Int}{i:Nat}{l:Lk}(h:Wk L W n)(hi:W[i]?=some l)(e:l.2.1=n):Ring (W.drop i).reverse∧∀m∈(W.drop i).reverse,m∈L:=by
 have li:=(qQ1.mp hi).1
 have ld:(W.drop i).length=W.length-i:=List.length_drop
 have rat:∀j,j<W.length-i→(W.drop i).reverse[j]?=W[W.length-1-j]?:=fun j hj=>by
  rw[List.getElem?_reverse (by rw[ld];exact hj),List.getElem?_drop,ld]
  congr 1;omega
 refine⟨⟨fun z=>?_,?_,fun j m hm=>?_⟩,fun m hm=>h.sub m (List.mem_of_mem_drop (List.mem_reverse.mp hm))⟩
 ·have:=congrArg List.length z
  rw[List.length_reverse,ld]at this
  simp at this;omega
 ·
  rw[List.map_reverse,(List.reverse_perm _).nodup_iff]
  refine b7l fun a b hab hb=>?_
  rw[qQ0,ld]at hb
  rw[qQ8,qQ8,List.getElem?_drop,List.getElem?_drop]
  have nx:∀k,i≤k→k<W.length→∃x y,W[k]?=some x∧W[if k+1=W.length then i else k+1]?=some y∧x.1=y.2.1:=fun k _ hk=>by
   refine⟨W[k],?_⟩
   by_cases c:k+1=W.length
   ·rw[if_pos c]
    refine⟨l,List.getElem?_eq_getElem hk,hi,?_⟩
    rw[e]
    exact(h.last _ (by rw[←c];simpa using List.getElem?_eq_getElem hk)).symm
   ·rw[if_neg c]
    have hk1:k+1<W.length:=by omega
    exact⟨W[k+1],List.getElem?_eq_getElem hk,List.getElem?_eq_getElem hk1,(h.chain k _ _ (List.getElem?_eq_getElem hk) (List.getElem?_eq_getElem hk1)).symm⟩
  obtain⟨x,y,h1,h2,h3⟩:=nx (i+a) (by omega) (by omega)
  obtain⟨x',y',h1',h2',h3'⟩:=nx (i+b) (by omega) (by omega)
  rw[h1,h1']
  intro z
  have z:x.1=x'.1:=by simpa using z
  rw[h3,h3']at z
  have inj:∀(p q:Nat) (u v:Lk),W[p]?=some u→W[q]?=some v→u.2.1=v.2.1→p=q:=fun p q u v hu hv huv=>by
   refine(List.getElem?_inj (l:=W.map fun l=>l.2.1) (by rw[qQ0];exact(qQ1.mp hu).1) h.nd).mp ?_
   rw[qQ8,qQ8,hu,hv];simpa using huv
  have:=inj _ _ _ _ h2 h2' z
  split at this<;>split at this<;>omega
 ·have lj:=(qQ1.mp hm).1
  rw[List.length_reverse,ld]at lj
  rw[List.length_reverse,ld]
  rw[rat j lj]at hm
  by_cases c:j=0
  ·subst c
   rw[if_pos rfl,rat _ (by omega)]
   refine⟨l,?_,?_⟩
   ·rw[show W.length-1-(W.length-i-1)=i by omega];exact hi
   ·rw[e];exact(h.last m (by simpa using hm)).symm
  ·rw[if_neg c,rat _ (by omega)]
   have hk:W.length-1-(j-1)<W.length:=by omega
   refine⟨W[W.length-1-(j-1)],List.getElem?_eq_getElem hk,?_⟩
   have e1:W.length-1-(j-1)=(W.length-1-j)+1:=by omega
   exact(h.chain (W.length-1-j) m _ hm (by rw[←e1];exact List.getElem?_eq_getElem hk)).symm
theorem m9{n:Nat}(h:n≤10000000):n<sizeLine:=by rw[sizeLine_eq];omega
def lat(pl:Nat)(l:Lk):Int:=if pl=0 then l.1 else l.2.1
def lkV(l:Lk):List V:=[.int l.1,.int l.2.1,.str l.2.2.1,.str l.2.2.2]
theorem b1w{pl:Nat}(h:pl≤1)(l:Lk):D6 (lkV l) (pl:Int)=some (.int (lat pl l)):=by
 rcases(show pl=0∨pl=1 by omega) with rfl | rfl
 ·exact i8 rfl
 ·exact i8 rfl
theorem v7.get{H:Hp}{ls:List Lk}{xs:List V}{i:Nat}{x:V}(h:v7 H ls xs)(e:xs[i]?=some x):∃l,ls[i]?=some l∧a9Q H l x:=v5 h e
structure By(H:Hp)(d:Addr)(pl:Nat)(ns:List Int)(ls:List Lk)(ps:Int→Addr)(H':Hp):Prop where
 sm:g6 H H'
 no:H d=none
 fr:∀n∈ns,H (ps n)=none∧ps n≠d
 inj:∀n∈ns,∀m∈ns,ps n=ps m→n=m
 at':H' d=some (.dK (l7 ns fun n=>.ref (ps n)))
 ls:∀n∈ns,∃ys,H' (ps n)=some (.lst ys)∧v7 H' (ls.filter fun l=>decide (lat pl l=n)) ys
theorem By.new{H H1 H2:Hp}{d:Addr}{pl:Nat}{ns:List Int}{ls:List Lk}{ps:Int→Addr}(b:By H d pl ns ls ps H1)(s:g6 H1 H2):By H d pl ns ls ps H2:=
 ⟨b.sm.trans s,b.no,b.fr,b.inj,s _ _ b.at',fun n hn=>let ⟨ys,h1,h2⟩:=b.ls n hn;⟨ys,s _ _ h1,h2.tupK s.tupK⟩⟩
theorem M4{H:Hp}{a:Addr}{o:HO}{kvs:List (Key×V)}(h:H a=some (.dK kvs)):r9 H (upd H a o):=
 ⟨fun b xs e=>by rw[b7 (a7v e h (by intro z;cases z))];exact e,fun b o xs e=>by rw[b7 (a7v e h (by intro z;cases z))];exact e⟩
theorem By.add{H H1:Hp}{d p:Addr}{pl:Nat}{ns:List Int}{ps:Int→Addr}{n:Int}(b:By H d pl ns [] ps H1)(hn:n∉ns)(hp:H1 p=none) :
  By H d pl (ns++[n]) [] (fun m=>if m=n then p else ps m) (upd (upd H1 p (.lst [])) d (.dK (putK (l7 ns fun n=>.ref (ps n)) (Sum.inl n) (.ref p)))):=by
 have pd:p≠d:=fun z=>by rw[z,b.at']at hp;cases hp
 have hpH:H p=none:=by
  cases z:H p with
  | none=>rfl
  | some o=>rw[b.sm _ _ z]at hp;cases hp
 have off:∀m∈ns,m≠n:=fun m hm z=>hn (z▸hm)
 have npm:∀m∈ns,ps m≠p:=fun m hm z=>by obtain⟨ys,h1,_⟩:=b.ls m hm;rw[z,hp]at h1;cases h1
 refine⟨j7 (b.sm.trans (b9 hp)) b.no,b.no,fun m hm=>?_,fun m hm k hk e=>?_,?_,fun m hm=>?_⟩
 ·rcases qQ5.mp hm with hm | hm
  ·rw[if_neg (off m hm)];exact b.fr m hm
  ·rw[if_pos (qQ2.mp hm)];exact⟨hpH,pd⟩
 ·rcases qQ5.mp hm with hm | hm<;>rcases qQ5.mp hk with hk | hk
  ·rw[if_neg (off m hm),if_neg (off k hk)]at e;exact b.inj m hm k hk e
  ·rw[if_neg (off m hm),if_pos (qQ2.mp hk)]at e;exact absurd e (npm m hm)
  ·rw[if_pos (qQ2.mp hm),if_neg (off k hk)]at e;exact absurd e.symm (npm k hk)
  ·rw[qQ2.mp hm,qQ2.mp hk]
 ·rw[b0,L6,if_neg hn]
  congr 2
  refine U1 fun m _=>?_
  unfold a0c
  by_cases e:m=n
  ·rw[if_pos e,if_pos e]
  ·rw[if_neg e,if_neg e]
 ·rcases qQ5.mp hm with hm | hm
  ·obtain⟨ys,h1,h2⟩:=b.ls m hm
   refine⟨ys,?_,(h2.tupK (C6 hp)).tupK (M4 (b9 hp _ _ b.at'))⟩
   rw[if_neg (off m hm),b7 (b.fr m hm).2]
   exact b9 hp _ _ h1
  ·rw[if_pos (qQ2.mp hm)]
   exact⟨[],by rw[b7 pd];exact b0,.nil⟩
theorem By.push{H H1:Hp}{d:Addr}{pl:Nat}{ns:List Int}{ls:List Lk}{ps:Int→Addr}{l:Lk}{x:V}{ys:List V}(b:By H d pl ns ls ps H1)(hl:lat pl l∈ns)(hx:a9Q H1 l x)(hy:H1 (ps (lat pl l))=some (.lst ys)) :
  By H d pl ns (ls++[l]) ps (upd H1 (ps (lat pl l)) (.lst (ys++[x]))):=by
 have f:=b.fr _ hl
 have k:=n9 (o:=.lst (ys++[x])) hy
 refine⟨j7 b.sm f.1,b.no,b.fr,b.inj,by rw[b7 (Ne.symm f.2)];exact b.at',fun n hn=>?_⟩
 obtain⟨zs,h1,h2⟩:=b.ls n hn
 rw[List.filter_append]
 by_cases e:lat pl l=n
 ·subst e
  rw[hy]at h1;cases h1
  refine⟨_,b0,?_⟩
  rw[List.filter_cons,if_pos (decide_eq_true rfl),List.filter_nil]
  obtain⟨a,e1,e2⟩:=hx
  exact(h2.tupK k).snoc ⟨a,e1,k.1 _ _ e2⟩
 ·refine⟨zs,by rw[b7 fun z=>e (b.inj _ hl _ hn z.symm)];exact h1,?_⟩
  rw[List.filter_cons,if_neg (by simpa using e),List.filter_nil,List.append_nil]
  exact h2.tupK k
inductive a5N(K:PySem.W.Frag)(vs:List V)(H:Hp)(Q:VK):Prop
 | mk (pl:Nat) (a b:Addr) (ns:List Int) (ls:List Lk) (xs:List V) (x0:vs=[.int (pl:Int),.ref a,.ref b]) (x1:pl≤1) (x2:d7 K H a (ns.map V.int)) (x3:ns.Nodup) (x4:d7 K H b xs) (x5:v7 H ls xs) (x6:(∀l∈ls,lat pl l∈ns)) (x7:ns.length≤10000) (x8:ls.length≤10000000) (xq:∀(d:Addr) (ps:Int→Addr) (H':Hp),By H d pl ns ls ps H'→Q (.ref d) H')
def a5S(K:PySem.W.Frag):Sp:=fun vs H Q _=>a5N K vs H Q
set_option maxHeartbeats 0 in
theorem a1q(T:A1 K mg t):g8 P w K mg base x9 1 t.f_links_by t.d_links_by ["place","numbers","links"] (a5S K):=by
 refine T.F_links_by.ok V7 (fun vs H Q E h=>?_) (fun cdv A outer s H vs Q E hr h=>?_)
 ·obtain⟨pl,a,b,ns,ls,xs,rfl,_⟩:=h
  rfl
 obtain⟨pl,a,b,ns,ls,xs,rfl,hpl,hA,nd,hB,hL,hin,z1,z2,q⟩:=h
 have hu:=K9 hr
 refine⟨_,(b8 (g7 (i:=3) V7.nd rfl (Or.inl rfl) C3)
 (b8 (A9 PassesOwn.never rfl (t6 (pv 1)) (m5 (i:=4) V7.nd rfl (Or.inl rfl))
 (c9 (F6 hu (pv 3) (pv 4) (m4 b6) rfl)))
 (b8 (A9 PassesOwn.never rfl (t6 (pv 2)) (m5 (i:=5) V7.nd rfl (Or.inl rfl))
 (c9 (l6 (p8 PySem.F.plainAttrs_list PySem.F.slot_list_append PySem.F.type_list_append m7 (u4 hu (pv 3) (d8 h7 (pv 5) (pv 0) (fun _ _=>rfl)) (fun _ _=>rfl)) (a6 (pv 5) b6)))))
 (c9 (i3 (pv 3)))))),?_⟩
 refine fun d hd=>?_
 refine⟨_,rfl,a,rfl,⟨_,hA.same (b9 hd)⟩,?_⟩
 have ln:(ns.map V.int).length=ns.length:=qQ0 _
 refine G0 (xs:=ns.map V.int) (fun i σ' H'=>∃o4 ps,σ'=[some (.int (pl:Int)),some (.ref a),some (.ref b),some (.ref d),o4,none]∧By H d pl (ns.take i) [] ps H')
  ⟨none,fun _=>d,rfl,b9 hd,hd,(fun n h=>by simp at h),(fun n h=>by simp at h),b0,fun n h=>by simp at h⟩ (fun i σ' H' _ h=>?_) (fun i x σ' H' hx h=>?_) (fun σ' H' h=>?_)
 ·obtain⟨o4,ps,rfl,B⟩:=h
  exact hA.same B.sm
 ·obtain⟨o4,ps,rfl,B⟩:=h
  rw[qQ8]at hx
  obtain⟨n,hn,rfl⟩:=Option.map_eq_some_iff.mp hx
  have li:=(qQ1.mp hn).1
  have tk:ns.take (i+1)=ns.take i++[n]:=by rw[List.take_add_one,hn];rfl
  have nn:n∉ns.take i:=fun z=>by
   have nd':(ns.take (i+1)).Nodup:=nd.sublist (List.take_sublist _ _)
   rw[tk,List.nodup_append]at nd'
   exact nd'.2.2 n z n (by simp) rfl
  refine⟨(by show 0≤sizeLine;decide),fun p hp=>?_⟩
  refine⟨_,rfl,_,rfl,d,_,rfl,M5.k (k:=Sum.inl n) (b9 hp _ _ B.at') (m9 (by rw[K2,List.length_take];omega)),?_⟩
  refine⟨_,(fun m=>if m=n then p else ps m),rfl,?_⟩
  rw[tk]
  exact B.add nn hp
 ·obtain⟨o4,ps,rfl,B⟩:=h
  rw[ln,List.take_length]at B
  refine⟨_,rfl,b,rfl,⟨_,hB.same B.sm⟩,?_⟩
  have lx:=hL.len
  refine G0 (xs:=xs) (fun i σ2 H2=>∃o5,σ2=[some (.int (pl:Int)),some (.ref a),some (.ref b),some (.ref d),o4,o5]∧By H d pl ns (ls.take i) ps H2)
   ⟨none,rfl,B⟩ (fun i σ2 H2 _ h=>?_) (fun i x σ2 H2 hx h=>?_) (fun σ2 H2 h=>?_)
  ·obtain⟨o5,rfl,B2⟩:=h
   exact hB.same B2.sm
  ·obtain⟨o5,rfl,B2⟩:=h
   obtain⟨l,hl,hlx⟩:=hL.get hx
   have hm:=List.mem_of_getElem? hl
   have hi:=hin l hm
   have li:=(qQ1.mp hl).1
   have tk:ls.take (i+1)=ls.take i++[l]:=by rw[List.take_add_one,hl];rfl
   obtain⟨ys,hy,Ly⟩:=B2.ls _ hi
   obtain⟨c,rfl,hc⟩:=hlx
   have hc2:=B2.sm _ _ hc
   have dg:=t9.k (k:=Sum.inl (lat pl l)) B2.at'
   rw[p6,if_pos hi]at dg
   have ly:ys.length≤i:=by
    rw[Ly.len]
    refine Nat.le_trans (List.length_filter_le _ _) ?_
    rw[List.length_take];omega
   refine⟨_,rfl,_,rfl,_,rfl,c,_,_,_,rfl,rfl,i4.of hc2,b1w hpl l,d,_,rfl,dg,.inl ⟨rfl,_,d7.of hy⟩,_,rfl,ps (lat pl l),ys,_,rfl,rfl,hy,m9 (by omega),?_⟩
   refine⟨_,rfl,?_⟩
   rw[tk]
   exact B2.push hi ⟨c,rfl,hc2⟩ hy
  ·obtain⟨o5,rfl,B2⟩:=h
   rw[lx,List.take_length]at B2
   exact⟨_,rfl,q d ps H2 B2⟩
inductive a7w(K:PySem.W.Frag)(vs:List V)(H:Hp)(Q:VK):Prop
 | mk (a b:Addr) (ns:List Int) (ls:List Lk) (xs:List V) (x0:vs=[.ref a,.ref b]) (x1:d7 K H a (ns.map V.int)) (x2:ns.Nodup) (x3:d7 K H b xs) (x4:v7 H ls xs) (x5:(∀l∈ls,l.1∈ns∧l.2.1∈ns)) (x6:ns.length≤10000) (x7:ls.length≤10000000) (xq:∀(r:Addr) (row:List Int) (H':Hp),g6 H H'→H r=none→H' r=some (.lst (row.map V.int))→a1Z ns ls row→Q (.ref r) H')
def a9C(K:PySem.W.Frag):Sp:=fun vs H Q _=>a7w K vs H Q
theorem a6q{α:Type}{p:α→Bool}{l:List α}{i:Nat}{x:α}(h:l[i]?=some x):(l.take (i+1)).filter p=(l.take i).filter p++if p x=true then [x] else []:=by
 rw[List.take_add_one,h,Option.toList_some,List.filter_append,List.filter_cons,List.filter_nil]
theorem A4{H H':Hp}{b:Addr}(s:g6 H H')(h:H' b=none):H b=none:=by
 cases z:H b with
 | none=>rfl
 | some o=>rw[s _ _ z]at h;cases h
theorem b1k{ms:List Int}(h:0<ms.length):∃ini m,ms=ini++[m]:=by
 rcases List.eq_nil_or_concat ms with rfl | ⟨ini,m,rfl⟩
 ·simp at h
 ·exact⟨ini,m,by simp⟩
set_option maxHeartbeats 0 in
theorem a9A(T:A1 K mg t):g8 P w K mg base x9 2 t.f_longest_row t.d_longest_row ["numbers","links"] (a9C K):=by
 refine T.F_longest_row.ok v9 (fun vs H Q E h=>?_) (fun cdv A outer s H vs Q E hr h=>?_)
 ·obtain⟨a,b,ns,ls,xs,rfl,_⟩:=h
  rfl
 obtain⟨a,b,ns,ls,xs,rfl,hA,nd,hB,hL,hin,z1,z2,q⟩:=h
 have hu:=K9 hr
 refine⟨_,(b8 (g7 (i:=2) v9.nd rfl (Or.inl rfl) (j9 (g8.mono (k:=1) (a1q T) (by decide)) hr rfl T.m_links_by T.F_links_by.kp T.F_links_by.b .nil l4 (a6 (u0 rfl T.m_ONE T.r_ONE) (a6 (pv 0) (a6 (pv 1) b6)))))
 (b8 (g7 (i:=3) v9.nd rfl (Or.inl rfl) (j9 (g8.mono (k:=1) (a1q T) (by decide)) hr rfl T.m_links_by T.F_links_by.kp T.F_links_by.b .nil l4 (a6 (u0 rfl T.m_OTHER T.r_OTHER) (a6 (pv 0) (a6 (pv 1) b6)))))
 (b8 (g7 (i:=4) v9.nd rfl (Or.inr rfl) C3)
 (b8 (A9 PassesOwn.never rfl (t6 (pv 0)) (m5 (i:=5) v9.nd rfl (Or.inl rfl))
 (c9 (F6 hu (pv 4) (pv 5) (f6 g9 rfl T.m_len PySem.boot_len (a6 (u4 hu (pv 3) (pv 5) (fun _ _=>rfl)) b6)) rfl)))
 (b8 (a9o (i:=6) v9.nd rfl rfl rfl (t6 (pv 0)) (C5.mk (own:=["number"]) (tl:=["numbers","links","links_from","links_to","unkept",".","ready","row","link","other"]) rfl rfl rfl (fun _ _ _ _ _=>(m5 (i:=0) (a4t) rfl (Or.inl rfl))) (fun _ _ _ _ _=>(U5 (f7 z6 (u4 hu (pv 5) (pv 0) (fun _ _=>rfl)) d5 (i5 _)))) (fun _ _ _ _ _=>(pv 0))))
 (b8 (g7 (i:=7) v9.nd rfl (Or.inl rfl) (m4 b6))
 (b8 (a0h PassesOwn.never (f7 a4y (f6 g9 rfl T.m_len PySem.boot_len (a6 (pv 6) b6)) d5 (i5 _))
 (b8 (g7 (i:=5) v9.nd rfl (Or.inl rfl) (a4Q PySem.F.plainAttrs_list PySem.F.slot_list_pop PySem.F.type_list_pop b4g (pv 6)))
 (b8 (l6 (p8 PySem.F.plainAttrs_list PySem.F.slot_list_append PySem.F.type_list_append m7 (pv 7) (a6 (pv 5) b6)))
 (c9 (A9 PassesOwn.never rfl (t6 (u4 hu (pv 2) (pv 5) (fun _ _=>rfl))) (m5 (i:=8) v9.nd rfl (Or.inl rfl))
 (b8 (g7 (i:=9) v9.nd rfl (Or.inl rfl) (d8 h7 (pv 8) (u0 rfl T.m_OTHER T.r_OTHER) (fun _ _=>rfl)))
 (b8 (F6 hu (pv 4) (pv 9) (j6 O7 (u4 hu (pv 4) (pv 9) (fun _ _=>rfl)) d5) rfl)
 (c9 (k7 (f7 z6 (u4 hu (pv 4) (pv 9) (fun _ _=>rfl)) d5 (i5 _))
 (c9 (l6 (p8 PySem.F.plainAttrs_list PySem.F.slot_list_append PySem.F.type_list_append m7 (pv 6) (a6 (pv 9) b6))))
 i9)))))))))
 (c9 (i3 (pv 7)))))))))),?_⟩
 have ln:(ns.map V.int).length=ns.length:=qQ0 _
 refine⟨_,rfl,_,rfl,0,a,b,ns,ls,xs,rfl,by omega,hA,nd,hB,hL,fun l hl=>(hin l hl).1,z1,z2,fun df pf H1 B1=>?_⟩
 refine⟨_,rfl,_,rfl,1,a,b,ns,ls,xs,rfl,by omega,hA.same B1.sm,nd,hB.same B1.sm,hL.tupK B1.sm.tupK,fun l hl=>(hin l hl).2,z1,z2,fun dt pt H2 B2=>?_⟩
 have F:=B1.new B2.sm
 have hA2:=hA.same F.sm
 refine fun u hu0=>?_
 refine⟨_,rfl,a,rfl,⟨_,hA2.same (b9 hu0)⟩,?_⟩
 refine G0 (xs:=ns.map V.int) (fun i σ' H'=>∃o5,σ'=[some (.ref a),some (.ref b),some (.ref df),some (.ref dt),some (.ref u),o5,none,none,none,none]∧g6 H2 H'∧H' u=some (.dK (l7 (ns.take i) fun n=>.int (G5 ls n:Int))))
  ⟨none,rfl,b9 hu0,b0⟩ (fun i σ' H' _ h=>?_) (fun i x σ' H' hx h=>?_) (fun σ' H3 h=>?_)
 ·obtain⟨o5,rfl,sm,_⟩:=h
  exact hA2.same sm
 ·obtain⟨o5,rfl,sm,hu1⟩:=h
  rw[qQ8]at hx
  obtain⟨n,hn,rfl⟩:=Option.map_eq_some_iff.mp hx
  have li:=(qQ1.mp hn).1
  have hm:=List.mem_of_getElem? hn
  have tk:ns.take (i+1)=ns.take i++[n]:=by rw[List.take_add_one,hn];rfl
  have nn:n∉ns.take i:=fun z=>by
   have nd':(ns.take (i+1)).Nodup:=nd.sublist (List.take_sublist _ _)
   rw[tk,List.nodup_append]at nd'
   exact nd'.2.2 n z n (by simp) rfl
  have dg:=t9.k (k:=Sum.inl n) (sm _ _ B2.at')
  rw[p6,if_pos hm]at dg
  obtain⟨ys,hy,Ly⟩:=B2.ls n hm
  have ey:ys.length=G5 ls n:=by
   rw[Ly.len];unfold G5;rw[List.countP_eq_length_filter];rfl
  refine⟨_,rfl,_,rfl,dt,_,rfl,dg,pt n,ys,rfl,.inl (d7.of (sm _ _ hy)),_,rfl,_,rfl,u,_,rfl,M5.k (k:=Sum.inl n) hu1 (m9 (by rw[K2,List.length_take];omega)),?_⟩
  refine⟨_,rfl,j7 sm hu0,?_⟩
  rw[b0,L6,if_neg nn,tk,ey]
  congr 2
  refine U1 fun m _=>?_
  unfold a0c
  by_cases e:m=n
  ·rw[if_pos e,e]
  ·rw[if_neg e]
 obtain⟨o5,rfl,sm3,hu3⟩:=h
 rw[ln,List.take_length]at hu3
 refine⟨_,rfl,a,rfl,⟨_,hA2.same sm3⟩,fun rd hrd=>?_⟩
 refine B7 (xs:=ns.map V.int) (fun i Hc=>g6 H3 Hc∧Hc rd=some (.lst (((ns.take i).filter fun n=>decide ((G5 ls n:Int)=0)).map V.int))) ⟨b9 hrd,b0⟩ (fun i Hc _ h=>(hA2.same sm3).same h.1) (fun i x Hc hx h=>?_) (fun H4 h=>?_)
 ·obtain⟨sm,h1⟩:=h
  rw[qQ8]at hx
  obtain⟨n,hn,rfl⟩:=Option.map_eq_some_iff.mp hx
  have li:=(qQ1.mp hn).1
  have hm:=List.mem_of_getElem? hn
  have dg:=t9.k (k:=Sum.inl n) (sm _ _ hu3)
  rw[p6,if_pos hm]at dg
  rw[a6q hn]
  refine⟨_,rfl,_,rfl,u,_,rfl,dg,rfl,_,rfl,G9 (fun c=>?_) (fun c=>?_)⟩
  ·have c':(G5 ls n:Int)=0:=by simpa using c
   refine⟨_,rfl,_,h1,m9 ?_,j7 sm hrd,?_⟩
   ·rw[qQ0]
    refine Nat.le_trans (List.length_filter_le _ _) ?_
    rw[List.length_take];omega
   ·rw[b0,if_pos (decide_eq_true c'),qQ6];rfl
  ·have c':¬(G5 ls n:Int)=0:=by simpa using c
   refine⟨sm,?_⟩
   rw[if_neg (by simpa using c'),List.append_nil];exact h1
 obtain⟨sm4,hrd4⟩:=h
 rw[ln,List.take_length]at hrd4
 refine⟨(by show 0≤sizeLine;decide),fun r hr0=>?_⟩
 have ur:u≠rd:=e7 hu3 hrd
 have rr:rd≠r:=e7 hrd4 hr0
 have ur':u≠r:=e7 (sm4 _ _ hu3) hr0
 have nrd:H2 rd=none:=A4 sm3 hrd
 have nr:H2 r=none:=A4 (sm3.trans sm4) hr0
 have s5:=(sm3.trans sm4).trans (b9 (o:=.lst []) hr0)
 refine⟨fun m σ' H'=>∃(row ready:List Int) (f:Int→Int) (o5 o8 o9:Option V),σ'=[some (.ref a),some (.ref b),some (.ref df),some (.ref dt),some (.ref u),o5,some (.ref rd),some (.ref r),o8,o9] ∧
   m=ns.length-row.length∧RI ns ls row ready f∧g6 H2 H'∧H' rd=some (.lst (ready.map V.int))∧H' r=some (.lst (row.map V.int))∧H' u=some (.dK (l7 ns fun n=>.int (f n))),
  ⟨_,[],_,fun n=>(G5 ls n:Int),o5,none,none,rfl,rfl,RI.start nd fun n _=>rfl,s5,b9 hr0 _ _ hrd4,b0,b9 hr0 _ _ (sm4 _ _ hu3)⟩,fun mm σ' H' h=>?_⟩
 obtain⟨row,ready,f,o5,o8,o9,rfl,rfl,R,sm,h1,h2,h3⟩:=h
 refine⟨_,rfl,rd,_,rfl,.inl (d7.of h1),_,_,rfl,rfl,_,rfl,G9 (fun c=>?_) (fun c=>?_)⟩
 ·have c':(0:Int)<(((ready.map V.int).length:Nat):Int):=of_decide_eq_true c
  rw[qQ0]at c'
  obtain⟨ini,m,rfl⟩:=b1k (ms:=ready) (by omega)
  have J:=R.pop
  have ml:=J.len
  have hmn:m∈ns:=J.sub m (by simp)
  refine⟨fun σ'' H''=>∃(ready:List Int) (f:Int→Int) (o8 o9:Option V),σ''=[some (.ref a),some (.ref b),some (.ref df),some (.ref dt),some (.ref u),some (.int m),some (.ref rd),some (.ref r),o8,o9] ∧
   RI ns ls (row++[m]) ready f∧g6 H2 H''∧H'' rd=some (.lst (ready.map V.int))∧H'' r=some (.lst ((row++[m]).map V.int))∧H'' u=some (.dK (l7 ns fun n=>.int (f n))),fun σ'' H'' h=>?_,?_⟩
  ·obtain⟨ready,f,o8,o9,e,R',w⟩:=h
   exact⟨ns.length-(row++[m]).length,by rw[qQ4,List.length_singleton];omega,row++[m],ready,f,_,o8,o9,e,rfl,R',w⟩
  refine⟨_,rfl,.inl ⟨rfl,_,d7.of h1⟩,rd,_,.int m,rfl,rfl,h1,by simp,?_⟩
  have ed:((ini++[m]).map V.int).dropLast=ini.map V.int:=by rw[qQ6];simp
  rw[ed]
  refine⟨_,rfl,.inl ⟨rfl,_,d7.of (by rw[b7 (Ne.symm rr)];exact h2)⟩,_,rfl,r,_,_,rfl,rfl,by rw[b7 (Ne.symm rr)];exact h2,m9 (by rw[qQ0];omega),?_⟩
  have sm6:g6 H2 (upd (upd H' rd (.lst (ini.map V.int))) r (.lst (row.map V.int++[.int m]))):=j7 (j7 sm nrd) nr
  have g1:(upd (upd H' rd (.lst (ini.map V.int))) r (.lst (row.map V.int++[.int m]))) rd=some (.lst (ini.map V.int)):=by rw[b7 rr];exact b0
  have g2:(upd (upd H' rd (.lst (ini.map V.int))) r (.lst (row.map V.int++[.int m]))) r=some (.lst ((row++[m]).map V.int)):=by rw[b0,qQ6];rfl
  have g3:(upd (upd H' rd (.lst (ini.map V.int))) r (.lst (row.map V.int++[.int m]))) u=some (.dK (l7 ns fun n=>.int (f n))):=by rw[b7 ur',b7 ur];exact h3
  generalize upd (upd H' rd (.lst (ini.map V.int))) r (.lst (row.map V.int++[.int m]))=H6 at sm6 g1 g2 g3 ⊢
  obtain⟨ys,hy,Ly⟩:=F.ls m hmn
  have dg:=t9.k (k:=Sum.inl m) (sm6 _ _ F.at')
  rw[p6,if_pos hmn]at dg
  have lf:ls.filter (fun l=>decide (lat 0 l=m))=ls.filter fun l=>decide (l.1=m):=rfl
  rw[lf]at Ly
  refine⟨_,rfl,_,rfl,df,_,rfl,dg,pf m,rfl,⟨_,d7.of (sm6 _ _ hy)⟩,?_⟩
  refine G0 (xs:=ys) (fun j σ'' H''=>∃(ready:List Int) (f:Int→Int) (o8 o9:Option V),σ''=[some (.ref a),some (.ref b),some (.ref df),some (.ref dt),some (.ref u),some (.int m),some (.ref rd),some (.ref r),o8,o9] ∧
   RJ ns ls row m ready f j∧g6 H2 H''∧H'' rd=some (.lst (ready.map V.int))∧H'' r=some (.lst ((row++[m]).map V.int))∧H'' u=some (.dK (l7 ns fun n=>.int (f n))))
   ⟨ini,f,o8,o9,rfl,J,sm6,g1,g2,g3⟩ (fun j σ'' H'' _ h=>?_) (fun j x σ'' H'' hx h=>?_) (fun σ'' H'' h=>?_)
  ·obtain⟨_,_,_,_,rfl,_,sm,_⟩:=h
   exact d7.of (sm _ _ hy)
  ·obtain⟨ready,f,o8,o9,rfl,J,sm,k1,k2,k3⟩:=h
   obtain⟨l,hl,c,rfl,hc⟩:=Ly.get hx
   have hc:=sm _ _ hc
   have hlm:=(hin l (qW0.mp (List.mem_of_getElem? hl)).1).2
   have S:=J.step hl hlm
   have lr:=J.len
   refine⟨_,rfl,c,_,1,_,rfl,rfl,i4.of hc,rfl,?_⟩
   have dg:=t9.k (k:=Sum.inl l.2.1) k3
   rw[p6,if_pos hlm]at dg
   refine⟨_,rfl,_,rfl,u,_,rfl,dg,_,_,rfl,rfl,_,rfl,_,rfl,u,_,rfl,M5.k (k:=Sum.inl l.2.1) k3 (m9 (by rw[K2];omega)),?_⟩
   have k4:(upd H'' u (.dK (putK (l7 ns fun n=>.int (f n)) (Sum.inl l.2.1) (.int (f l.2.1-1))))) u=some (.dK (l7 ns fun n=>.int (a9k f l.2.1 (f l.2.1-1) n))):=by
    rw[b0,L6,if_pos hlm]
    congr 2
    refine U1 fun n _=>?_
    unfold a0c a9k
    split<;>rfl
   have sm7:g6 H2 (upd H'' u (.dK (putK (l7 ns fun n=>.int (f n)) (Sum.inl l.2.1) (.int (f l.2.1-1))))):=j7 sm hu0
   have k5:(upd H'' u (.dK (putK (l7 ns fun n=>.int (f n)) (Sum.inl l.2.1) (.int (f l.2.1-1))))) rd=some (.lst (ready.map V.int)):=by rw[b7 (Ne.symm ur)];exact k1
   have k6:(upd H'' u (.dK (putK (l7 ns fun n=>.int (f n)) (Sum.inl l.2.1) (.int (f l.2.1-1))))) r=some (.lst ((row++[m]).map V.int)):=by rw[b7 (Ne.symm ur')];exact k2
   generalize upd H'' u (.dK (putK (l7 ns fun n=>.int (f n)) (Sum.inl l.2.1) (.int (f l.2.1-1))))=H7 at k4 sm7 k5 k6 ⊢
   have dg2:=t9.k (k:=Sum.inl l.2.1) k4
   have e0:a9k f l.2.1 (f l.2.1-1) l.2.1=f l.2.1-1:=if_pos rfl
   rw[p6,if_pos hlm,e0]at dg2
   refine⟨_,rfl,_,rfl,u,_,rfl,dg2,rfl,_,rfl,G9 (fun c=>?_) (fun c=>?_)⟩
   ·have c':f l.2.1-1=0:=by simpa using c
    rw[if_pos c']at S
    refine⟨_,rfl,.inl ⟨rfl,_,d7.of k5⟩,_,rfl,rd,_,_,rfl,rfl,k5,m9 (by rw[qQ0];omega),?_⟩
    refine⟨_,_,_,_,rfl,S,j7 sm7 nrd,?_,?_,?_⟩
    ·rw[b0,qQ6];rfl
    ·rw[b7 (Ne.symm rr)];exact k6
    ·rw[b7 ur];exact k4
   ·have c':¬f l.2.1-1=0:=by simpa using c
    rw[if_neg c']at S
    exact⟨_,_,_,_,rfl,S,sm7,k5,k6,k4⟩
  ·obtain⟨ready,f,o8,o9,rfl,J,w⟩:=h
   exact⟨ready,f,o8,o9,rfl,J.done (Nat.le_of_eq Ly.len.symm),w⟩
 ·have c':¬(0:Int)<(((ready.map V.int).length:Nat):Int):=of_decide_eq_false (Bool.eq_false_iff.mpr c)
  rw[qQ0]at c'
  have e:ready=[]:=List.eq_nil_of_length_eq_zero (by omega)
  subst e
  exact⟨_,rfl,q r row H' (F.sm.trans sm) (A4 F.sm nr) h2 R.row⟩
inductive a3x(K:PySem.W.Frag)(vs:List V)(H:Hp)(Q:VK):Prop
 | mk (a:Addr) (L:List Lk) (xs:List V) (x0:vs=[.ref a]) (x1:d7 K H a xs) (x2:v7 H L xs) (x3:L≠[]) (x4:(∀l∈L,∃m∈L,m.2.1=l.1)) (x5:L.length≤10000000) (xq:∀(r:Addr) (zs:List V) (rg:List Lk) (H':Hp),g6 H H'→H r=none→H' r=some (.lst zs)→v7 H' rg zs→Ring rg→(∀l∈rg,l∈L)→Q (.ref r) H')
def a0A(K:PySem.W.Frag):Sp:=fun vs H Q _=>a3x K vs H Q
theorem v7.reverse{H:Hp}{ls:List Lk}{xs:List V}(h:v7 H ls xs):v7 H ls.reverse xs.reverse:=by
 induction h with
 | nil=>exact .nil
 | cons r _ ih=>rw[List.reverse_cons,List.reverse_cons];exact ih.snoc r
theorem v7.drop{H:Hp}:∀(n:Nat) {ls:List Lk} {xs:List V},v7 H ls xs→v7 H (ls.drop n) (xs.drop n)
 | 0,_,_,h=>h
 | n+1,_,_,.nil=>.nil
 | n+1,_,_,.cons _ t=>v7.drop n t
set_option maxHeartbeats 0 in
theorem a8A(T:A1 K mg t):g8 P w K mg base x9 1 t.f_ring_behind t.d_ring_behind ["links"] (a0A K):=by
 refine T.F_ring_behind.ok C7 (fun vs H Q E h=>?_) (fun cdv A outer s H vs Q E hr h=>?_)
 ·obtain⟨a,L,xs,rfl,_⟩:=h
  rfl
 obtain⟨a,L,xs,rfl,hA,hL,ne,hin,z1,q⟩:=h
 have hu:=K9 hr
 refine⟨_,(b8 (g7 (i:=1) C7.nd rfl (Or.inl rfl) C3)
 (b8 (A9 PassesOwn.never rfl (t6 (pv 0)) (m5 (i:=2) C7.nd rfl (Or.inl rfl))
 (c9 (F6 hu (pv 1) (d8 h7 (pv 2) (u0 rfl T.m_OTHER T.r_OTHER) (fun _ _=>rfl)) (pv 2) rfl)))
 (b8 (g7 (i:=3) C7.nd rfl (Or.inl rfl) (d8 h7 (d8 k8 (pv 0) d5 (fun _ _=>rfl)) (u0 rfl T.m_OTHER T.r_OTHER) (fun _ _=>rfl)))
 (b8 (g7 (i:=4) C7.nd rfl (Or.inl rfl) C3)
 (b8 (g7 (i:=5) C7.nd rfl (Or.inl rfl) (m4 b6))
 (b8 (a0h PassesOwn.never (f7 (X0 hu) (pv 3) (pv 4) (by with_unfolding_all rfl))
 (b8 (F6 hu (pv 4) (pv 3) (f6 g9 rfl T.m_len PySem.boot_len (a6 (pv 5) b6)) rfl)
 (b8 (l6 (p8 PySem.F.plainAttrs_list PySem.F.slot_list_append PySem.F.type_list_append m7 (pv 5) (a6 (u4 hu (pv 1) (pv 3) (fun _ _=>rfl)) b6)))
 (c9 (g7 (i:=3) C7.nd rfl (Or.inl rfl) (d8 h7 (u4 hu (pv 1) (pv 3) (fun _ _=>rfl)) (u0 rfl T.m_ONE T.r_ONE) (fun _ _=>rfl)))))))
 (c9 (i3 (a6Y rfl rfl T.m_list rfl T.m_reversed (R3 U7 (pv 5) (T8 (u4 hu (pv 4) (pv 3) (fun _ _=>rfl))) U9)))))))))),?_⟩
 have lx:=hL.len
 refine fun d hd=>?_
 refine⟨_,rfl,a,rfl,⟨_,hA.same (b9 hd)⟩,?_⟩
 refine G0 (xs:=xs) (fun i σ' H'=>∃(o2:Option V) (ks:List Int) (g:Int→V),σ'=[some (.ref a),some (.ref d),o2,none,none,none]∧g6 H H'∧H' d=some (.dK (l7 ks g))∧ks.length≤i∧(∀n,n∈ks↔∃l∈L.take i,l.2.1=n)∧∀n∈ks,∃l∈L,l.2.1=n∧a9Q H l (g n))
  ⟨none,[],fun _=>.non,rfl,b9 hd,b0,qQ7 _,by simp,by simp⟩ (fun i σ' H' _ h=>?_) (fun i x σ' H' hx h=>?_) (fun σ' H1 h=>?_)
 ·obtain⟨o2,ks,g,rfl,sm,_⟩:=h
  exact hA.same sm
 ·obtain⟨o2,ks,g,rfl,sm,h1,lk,hk,hg⟩:=h
  obtain⟨l,hl,c,rfl,hc⟩:=hL.get hx
  have li:=(qQ1.mp hl).1
  refine⟨_,rfl,_,rfl,_,rfl,c,_,1,_,rfl,rfl,i4.of (sm _ _ hc),rfl,d,_,rfl,M5.k (k:=Sum.inl l.2.1) h1 (m9 (by rw[K2];omega)),?_⟩
  refine⟨_,_,_,rfl,j7 sm hd,by rw[b0,L6],?_,fun n=>?_,fun n hn=>?_⟩
  ·split
   ·omega
   ·rw[qQ4,List.length_singleton];omega
  ·rw[List.take_add_one,hl,Option.toList_some]
   have e1:(∃m∈L.take i++[l],m.2.1=n)↔(∃m∈L.take i,m.2.1=n)∨l.2.1=n:=by
    constructor
    ·rintro⟨m,hm,e⟩
     rcases qQ5.mp hm with hm | hm
     ·exact .inl ⟨m,hm,e⟩
     ·rw[qQ2.mp hm]at e;exact .inr e
    ·rintro(⟨m,hm,e⟩ | e)
     ·exact⟨m,List.mem_append_left _ hm,e⟩
     ·exact⟨l,by simp,e⟩
   rw[e1,←hk]
   split
   ·rename_i c
    exact⟨.inl,fun w=>w.elim id fun w=>w▸c⟩
   ·rw[qQ5,qQ2]
    exact⟨fun w=>w.imp id fun w=>w.symm,fun w=>w.imp id fun w=>w.symm⟩
  ·by_cases e:n=l.2.1
   ·subst e
    exact⟨l,List.mem_of_getElem? hl,rfl,by rw[a0d];exact⟨c,rfl,hc⟩⟩
   ·rw[a3o e]
    refine hg n ?_
    split at hn
    ·exact hn
    ·rcases qQ5.mp hn with hn | hn
     ·exact hn
     ·exact absurd (qQ2.mp hn) e
 obtain⟨o2,ks,g,rfl,sm1,hd1,lk,hk,hg⟩:=h
 rw[lx,List.take_length]at hk
 obtain⟨l0,hl0⟩:∃l0,L[0]?=some l0:=by
  cases L with
  | nil=>exact absurd rfl ne
  | cons l L=>exact⟨l,rfl⟩
 obtain⟨x0,hx0,c0,rfl,hc0⟩:=a4o hL hl0
 refine⟨_,rfl,a,_,0,_,rfl,rfl,hA.same sm1,i8 (j:=0) hx0,c0,_,1,_,rfl,rfl,i4.of (sm1 _ _ hc0),rfl,?_⟩
 refine fun mt hmt=>⟨(by show 0≤sizeLine;decide),fun wk hwk=>?_⟩
 have mw:mt≠wk:=e7 b0 hwk
 have nmt:H mt=none:=A4 sm1 hmt
 have nwk:H wk=none:=A4 (sm1.trans (b9 hmt)) hwk
 have md:d≠mt:=e7 hd1 hmt
 have wd:d≠wk:=e7 (b9 hmt _ _ hd1) hwk
 refine⟨fun m σ' H'=>∃(W:List Lk) (ys:List V) (n:Int) (g':Int→V),σ'=[some (.ref a),some (.ref d),o2,some (.int n),some (.ref mt),some (.ref wk)]∧m=L.length-W.length∧Wk L W n∧g6 H H'∧H' d=some (.dK (l7 ks g))∧H' wk=some (.lst ys)∧v7 H W ys ∧
   H' mt=some (.dK (l7 (W.map fun l=>l.2.1) g'))∧∀(i:Nat) l,W[i]?=some l→g' l.2.1=.int (i:Int),
  ⟨_,[],[],l0.2.1,fun _=>.non,rfl,rfl,⟨by simp,by simp,by simp,by simp,l0,List.mem_of_getElem? hl0,rfl⟩,(sm1.trans (b9 hmt)).trans (b9 hwk),b9 hwk _ _ (b9 hmt _ _ hd1),b0,.nil,by rw[b7 mw];exact b0,by simp⟩,fun m σ' H' h=>?_⟩
 obtain⟨W,ys,n,g',rfl,rfl,wk',sm,k1,k2,Ly,k3,hg'⟩:=h
 refine⟨_,rfl,_,rfl,mt,_,rfl,t9.k (k:=Sum.inl n) k3,_,rfl,?_⟩
 rw[p6]
 by_cases hn:n∈W.map fun l=>l.2.1
 ·rw[if_pos hn]
  refine d9 ?_
  obtain⟨i,hi⟩:=List.mem_iff_getElem?.mp hn
  rw[qQ8]at hi
  obtain⟨l,hi,e⟩:=Option.map_eq_some_iff.mp hi
  have dg:=t9.k (k:=Sum.inl n) k3
  rw[p6,if_pos hn,←e,hg' i l hi,e]at dg
  have li:=(qQ1.mp hi).1
  refine⟨_,rfl,_,rfl,_,rfl,mt,_,rfl,dg,_,rfl,wk,_,rfl,d7.of k2,fun sl hsl=>?_⟩
  rw[a6t]
  refine⟨sl,_,rfl,d7.of b0,fun r hr0=>?_⟩
  have s8:=(sm.trans (b9 (o:=.lst (ys.drop i)) hsl)).trans (b9 (o:=.lst (ys.drop i).reverse) hr0)
  obtain⟨rg,sub⟩:=wk'.ring hi e
  exact q r _ _ _ s8 (A4 (sm.trans (b9 (o:=.lst (ys.drop i)) hsl)) hr0) b0 (((Ly.drop i).reverse).tupK s8.tupK) rg sub
 ·rw[if_neg hn]
  refine l5 ?_
  have hnk:n∈ks:=(hk n).mpr wk'.on
  obtain⟨l,hl,e,c,eg,hc⟩:=hg n hnk
  have dg:=fun(Hx:Hp) (hx:Hx d=some (.dK (l7 ks g)))=>t9.k (k:=Sum.inl n) hx
  have dg':∀(Hx:Hp),Hx d=some (.dK (l7 ks g))→t9 Hx d (.int n) (some (.ref c)):=fun Hx hx=>by
   have:=dg Hx hx
   rw[p6,if_pos hnk,eg]at this
   exact this
  have S:=wk'.step hn hl e (hin l hl)
  have sl:=S.len
  rw[qQ4,List.length_singleton]at sl
  refine⟨fun σ'' H''=>∃(ys:List V) (g':Int→V),σ''=[some (.ref a),some (.ref d),o2,some (.int l.1),some (.ref mt),some (.ref wk)]∧g6 H H''∧H'' d=some (.dK (l7 ks g))∧H'' wk=some (.lst ys)∧v7 H (W++[l]) ys ∧
   H'' mt=some (.dK (l7 ((W++[l]).map fun l=>l.2.1) g'))∧∀(i:Nat) l',(W++[l])[i]?=some l'→g' l'.2.1=.int (i:Int),fun σ'' H'' h=>?_,?_⟩
  ·obtain⟨ys,g',e1,w1,w2,w3,w4,w5,w6⟩:=h
   exact⟨L.length-(W++[l]).length,by rw[qQ4,List.length_singleton];omega,W++[l],ys,l.1,g',e1,rfl,S,w1,w2,w3,w4,w5,w6⟩
  refine⟨_,rfl,wk,_,rfl,.inl (d7.of k2),_,rfl,_,rfl,mt,_,rfl,M5.k (k:=Sum.inl n) k3 (m9 (by rw[K2,qQ0];omega)),?_⟩
  rw[L6,if_neg hn]
  have p1:∀o,upd H' mt o d=some (.dK (l7 ks g)):=fun o=>by rw[b7 md];exact k1
  have p2:∀o,upd H' mt o wk=some (.lst ys):=fun o=>by rw[b7 (Ne.symm mw)];exact k2
  refine⟨_,rfl,.inl ⟨rfl,_,d7.of (p2 _)⟩,_,rfl,_,rfl,d,_,rfl,dg' _ (p1 _),wk,_,_,rfl,rfl,p2 _,m9 (by rw[Ly.len];omega),?_⟩
  have sm9:∀o o',g6 H (upd (upd H' mt o) wk o'):=fun o o'=>j7 (j7 sm nmt) nwk
  have p3:∀o o',upd (upd H' mt o) wk o' d=some (.dK (l7 ks g)):=fun o o'=>by rw[b7 wd];exact p1 o
  refine⟨_,rfl,_,rfl,d,_,rfl,dg' _ (p3 _ _),c,_,0,_,rfl,rfl,i4.of (sm9 _ _ _ _ hc),rfl,?_⟩
  refine⟨_,a0c g' n (.int (ys.length:Int)),rfl,sm9 _ _,p3 _ _,b0,Ly.snoc ⟨c,rfl,hc⟩,?_,fun i l' hi=>?_⟩
  ·rw[b7 mw,b0,qQ6,List.map_singleton,e]
  ·by_cases ci:i<W.length
   ·rw[List.getElem?_append_left ci]at hi
    rw[a3o fun z=>hn (by rw[←z];exact qQ3.mpr ⟨l',List.mem_of_getElem? hi,rfl⟩)]
    exact hg' i l' hi
   ·have li:=(qQ1.mp hi).1
    rw[qQ4,List.length_singleton]at li
    have ei:i=W.length:=by omega
    subst ei
    rw[List.getElem?_append_right (qQ7 _),Nat.sub_self]at hi
    have hi:l=l':=by simpa using hi
    subst hi
    rw[e,a0d,Ly.len]
inductive a3v(K:PySem.W.Frag)(vs:List V)(H:Hp)(Q:VK):Prop
 | mk (a b:Addr) (ns:List Int) (ls:List Lk) (xs:List V) (x0:vs=[.ref a,.ref b]) (x1:d7 K H a (ns.map V.int)) (x2:ns.Nodup) (x3:d7 K H b xs) (x4:v7 H ls xs) (x5:(∀l∈ls,l.1∈ns∧l.2.1∈ns)) (x6:ns.length≤10000) (x7:ls.length≤10000000) (x8:(∀(p r:Addr) (row:List Int) (H':Hp),g6 H H'→H r=none→H' p=some (.tup [.str "row",.ref r])→H' r=some (.lst (row.map V.int))→a3m ns ls row→Q (.ref p) H')) (xq:∀(p r:Addr) (zs:List V) (rg:List Lk) (H':Hp),g6 H H'→H r=none→H' p=some (.tup [.str "ring",.ref r])→H' r=some (.lst zs)→v7 H' rg zs→Ring rg→(∀l∈rg,l∈ls)→Q (.ref p) H')
def a8B(K:PySem.W.Frag):Sp:=fun vs H Q _=>a3v K vs H Q
set_option maxHeartbeats 0 in
theorem a5C(T:A1 K mg t):g8 P w K mg base x9 3 t.f_row_or_ring t.d_row_or_ring ["numbers","links"] (a8B K):=by
 refine T.F_row_or_ring.ok P5 (fun vs H Q E h=>?_) (fun cdv A outer s H vs Q E hr h=>?_)
 ·obtain⟨a,b,ns,ls,xs,rfl,_⟩:=h
  rfl
 obtain⟨a,b,ns,ls,xs,rfl,hA,nd,hB,hL,hin,z1,z2,q1,q2⟩:=h
 have hu:=K9 hr
 refine⟨_,(b8 (g7 (i:=2) P5.nd rfl (Or.inl rfl) (j9 (g8.mono (k:=2) (a9A T) (by decide)) hr rfl T.m_longest_row T.F_longest_row.kp T.F_longest_row.b .nil l4 (a6 (pv 0) (a6 (pv 1) b6))))
 (b8 (k7 (f7 z6 (f6 g9 rfl T.m_len PySem.boot_len (a6 (pv 2) b6)) (f6 g9 rfl T.m_len PySem.boot_len (a6 (pv 0) b6)) (i5 _))
 (c9 (i3 (u6 (a6 l8 (a6 (pv 2) b6)))))
 i9)
 (b8 (g7 (i:=3) P5.nd rfl (Or.inr rfl) C3)
 (b8 (A9 PassesOwn.never rfl (t6 (pv 2)) (m5 (i:=4) P5.nd rfl (Or.inl rfl))
 (c9 (F6 hu (pv 3) (pv 4) y6 rfl)))
 (c9 (i3 (u6 (a6 l8 (a6 (j9 (g8.mono (k:=2) (a8A T) (by decide)) hr rfl T.m_ring_behind T.F_ring_behind.kp T.F_ring_behind.b .nil l4 (a6 (N6 rfl (t6 (pv 1)) (C5.mk (own:=["link"]) (tl:=["numbers","links","row","placed","number"]) rfl rfl rfl (fun _ _ _ _ _=>(m5 (i:=0) (a0t) rfl (Or.inl rfl))) (fun _ _ _ _ _=>(U5 (f7 (X0 hu) (d8 N9 (pv 0) (u0 rfl T.m_ONE T.r_ONE) (fun _ _=>rfl)) (pv 4) (by with_unfolding_all rfl)))) (fun _ _ _ _ _=>(pv 0)))) b6)) b6))))))))),?_⟩
 have ln:(ns.map V.int).length=ns.length:=qQ0 _
 have lx:=hL.len
 refine⟨_,rfl,_,rfl,a,b,ns,ls,xs,rfl,hA,nd,hB,hL,hin,z1,z2,fun r row H1 s1 nr1 hr1 R=>?_⟩
 have lr:(row.map V.int).length=row.length:=qQ0 _
 have ll:=u7 R.nd R.sub
 refine⟨_,rfl,r,_,rfl,.inl (d7.of hr1),_,rfl,a,_,rfl,.inl (hA.same s1),rfl,_,rfl,G9 (fun c=>?_) (fun c=>?_)⟩
 ·have c':row.length=ns.length:=by have c':=c;simp at c';omega
  refine⟨_,rfl,(by show 2≤sizeLine;decide),fun p hp=>?_⟩
  have s2:=b9 (o:=.tup [.str "row",.ref r]) hp
  exact q1 p r row _ (s1.trans s2) nr1 b0 (s2 _ _ hr1) (R.all nd c' fun l hl=>(hin l hl).2)
 ·have c':¬row.length=ns.length:=by have c':=c;simp at c';omega
  refine fun d hd=>?_
  refine⟨_,rfl,r,rfl,⟨_,d7.of (b9 hd _ _ hr1)⟩,?_⟩
  refine G0 (xs:=row.map V.int) (fun i σ' H'=>∃o4,σ'=[some (.ref a),some (.ref b),some (.ref r),some (.ref d),o4]∧g6 H1 H'∧H' d=some (.dK (l7 (row.take i) fun _=>.bl true)))
   ⟨none,rfl,b9 hd,b0⟩ (fun i σ' H' _ h=>?_) (fun i x σ' H' hx h=>?_) (fun σ' H2 h=>?_)
  ·obtain⟨o4,rfl,sm,_⟩:=h
   exact d7.of (sm _ _ hr1)
  ·obtain⟨o4,rfl,sm,h1⟩:=h
   rw[qQ8]at hx
   obtain⟨n,hn,rfl⟩:=Option.map_eq_some_iff.mp hx
   have li:=(qQ1.mp hn).1
   have tk:row.take (i+1)=row.take i++[n]:=by rw[List.take_add_one,hn];rfl
   have nn:n∉row.take i:=fun z=>by
    have nd':(row.take (i+1)).Nodup:=R.nd.sublist (List.take_sublist _ _)
    rw[tk,List.nodup_append]at nd'
    exact nd'.2.2 n z n (by simp) rfl
   refine⟨_,rfl,_,rfl,d,_,rfl,M5.k (k:=Sum.inl n) h1 (m9 (by rw[K2,List.length_take];omega)),?_⟩
   refine⟨_,rfl,j7 sm hd,?_⟩
   rw[b0,L6,if_neg nn,tk]
   congr 2
   refine U1 fun m _=>?_
   unfold a0c
   split<;>rfl
  obtain⟨o4,rfl,sm2,hd2⟩:=h
  rw[lr,List.take_length]at hd2
  have s12:=s1.trans sm2
  refine⟨_,rfl,b,rfl,⟨_,hB.same s12⟩,fun acc hacc=>?_⟩
  refine B7 (xs:=xs) (fun i Hc=>g6 H2 Hc∧∃ys,Hc acc=some (.lst ys)∧v7 H2 ((ls.take i).filter fun l=>decide (l.1∉row)) ys) ⟨b9 hacc,[],b0,.nil⟩ (fun i Hc _ h=>(hB.same s12).same h.1) (fun i x Hc hx h=>?_) (fun H3 h=>?_)
  ·obtain⟨sc,ys,h1,Ly⟩:=h
   obtain⟨l,hl,e,rfl,he⟩:=hL.get hx
   have he2:=s12 _ _ he
   have li:=(qQ1.mp hl).1
   rw[a6q hl]
   refine⟨_,rfl,e,_,0,_,rfl,rfl,i4.of (sc _ _ he2),rfl,_,rfl,d,_,rfl,t9.k (k:=Sum.inl l.1) (sc _ _ hd2),_,rfl,?_⟩
   rw[p6]
   by_cases hr2:l.1∈row
   ·rw[if_pos hr2,if_neg (by simpa using hr2),List.append_nil]
    refine d9 ?_
    exact⟨sc,ys,h1,Ly⟩
   ·rw[if_neg hr2,if_pos (by simpa using hr2)]
    refine l5 ?_
    have ly:ys.length≤i:=by
     rw[Ly.len]
     refine Nat.le_trans (List.length_filter_le _ _) ?_
     rw[List.length_take];omega
    exact⟨_,rfl,ys,h1,m9 (by omega),j7 sc hacc,_,b0,Ly.snoc ⟨e,rfl,he2⟩⟩
  obtain⟨s3,ys,h3,Ly⟩:=h
  rw[lx,List.take_length]at Ly
  have outs:∀n∈ns,n∉row→∃l∈ls.filter (fun l=>decide (l.1∉row)),l.2.1=n:=fun n hn ho=>by
   obtain⟨l,hl,e1,e2⟩:=R.out n hn ho
   exact⟨l,qW0.mpr ⟨hl,by simpa using e2⟩,e1⟩
  have some1:∃n∈ns,n∉row:=Classical.byContradiction fun z=>c' (by
   have all:∀n∈ns,n∈row:=fun n hn=>Classical.byContradiction fun w=>z ⟨n,hn,w⟩
   exact Nat.le_antisymm ll (u7 nd all))
  refine⟨acc,_,ys,rfl,d7.of h3,Ly.tupK s3.tupK,fun z=>?_,fun l hl=>?_,Nat.le_trans (List.length_filter_le _ _) z2,fun rr zs rg H4 s4 nr4 hr4 L4 RG sub=>?_⟩
  ·obtain⟨n,hn,ho⟩:=some1
   obtain⟨l,hl,_⟩:=outs n hn ho
   rw[z]at hl;simp at hl
  ·obtain⟨hl1,hl2⟩:=qW0.mp hl
   exact outs l.1 (hin l hl1).1 (by simpa using hl2)
  ·refine⟨(by show 2≤sizeLine;decide),fun p hp=>?_⟩
   have s5:=b9 (o:=.tup [.str "ring",.ref rr]) hp
   exact q2 p rr zs rg _ (((s12.trans s3).trans s4).trans s5) (A4 (s12.trans s3) nr4) b0 (s5 _ _ hr4) (L4.tupK s5.tupK) RG fun l hl=>(qW0.mp (sub l hl)).1
inductive a7R(K:PySem.W.Frag)(vs:List V)(H:Hp)(Q:VK):Prop
 | mk (a:Addr) (ps:List (Int×Int)) (m:Int) (x0:vs=[.ref a,.int m]) (x1:Ver K H a ps) (x2:ps.length≤100000) (xq:∀H',g6 H H'→Q (.int (cnt ps m:Nat)) H')
def a3X(K:PySem.W.Frag):Sp:=fun vs H Q _=>a7R K vs H Q
theorem a2x(T:A1 K mg t):g8 P w K mg base x9 1 t.f_reached t.d_reached ["versions","moment"] (a3X K):=by
 refine T.F_reached.ok a4X (fun vs H Q E h=>?_) (fun cdv A outer s H vs Q E hr h=>?_)
 ·obtain⟨a,ps,m,rfl,_⟩:=h
  rfl
 obtain⟨a,ps,m,rfl,⟨xs,hS,hR⟩,hl,q⟩:=h
 refine⟨_,(c9 (i3 (f6 g9 rfl T.m_len PySem.boot_len (a6 (N6 rfl (t6 (pv 0)) (C5.mk (own:=["version"]) (tl:=["versions","moment"]) rfl rfl rfl (fun _ _ _ _ _=>(m5 (i:=0) (a2O) rfl (Or.inl rfl))) (fun _ _ _ _ _=>(U5 (f7 a0Y (d8 N9 (pv 0) d5 (fun _ _=>rfl)) (pv 2) (i5 _)))) (fun _ _ _ _ _=>(pv 0)))) b6)))),?_⟩
 refine⟨_,rfl,a,rfl,⟨xs,hS⟩,fun acc hacc=>?_⟩
 have sm:∀ys,g6 H (upd H acc (.lst ys)):=fun ys=>b9 hacc
 refine B7 (xs:=xs) (fun i H'=>∃ys,H'=upd H acc (.lst ys)∧ys.length=cnt (ps.take i) m) ⟨[],rfl,rfl⟩ (fun i H' _ h=>?_) (fun i x H' hx h=>?_) (fun H' h=>?_)
 ·obtain⟨ys,rfl,_⟩:=h
  exact hS.same (sm ys)
 ·obtain⟨ys,rfl,hy⟩:=h
  obtain⟨p,b,hp,rfl,hT⟩:=b4c hR hx
  have hi:i<ps.length:=(qQ1.mp hp).1
  have hc:=a3y (ps.take i) m
  rw[List.length_take]at hc
  refine⟨_,rfl,b,_,0,.int p.1,rfl,rfl,hT.same (sm ys),rfl,_,rfl,_,_,rfl,rfl,_,rfl,?_⟩
  refine G9 (fun c=>?_) (fun c=>?_)
  ·have c':p.1≤m:=of_decide_eq_true c
   refine⟨_,rfl,ys,b0,m9 (by omega),_,a2V,?_⟩
   rw[a4K hp,if_pos c',qQ4,hy]
   rfl
  ·have c':¬p.1≤m:=of_decide_eq_false (Bool.eq_false_iff.mpr c)
   refine⟨ys,rfl,?_⟩
   rw[a4K hp,if_neg c',hy]
   rfl
 ·obtain⟨ys,rfl,hy⟩:=h
  rw[b7s hR,List.take_length]at hy
  refine⟨acc,ys,rfl,.inl (d7.of b0),?_⟩
  rw[hy]
  exact q _ (sm ys)
def valueAt(ps:List (Int×Int))(m:Int):Int:=if cnt ps m=0 then 0 else(ps.getD (cnt ps m-1) (0,0)).2
inductive a2Q(K:PySem.W.Frag)(vs:List V)(H:Hp)(Q:VK):Prop
 | mk (a:Addr) (ps:List (Int×Int)) (m:Int) (x0:vs=[.ref a,.int m]) (x1:Ver K H a ps) (x2:ps.length≤100000) (xq:∀H',g6 H H'→Q (.int (valueAt ps m)) H')
def a7S(K:PySem.W.Frag):Sp:=fun vs H Q _=>a2Q K vs H Q
theorem a5q(T:A1 K mg t):g8 P w K mg base x9 2 t.f_value_at t.d_value_at ["versions","moment"] (a7S K):=by
 refine T.F_value_at.ok a7q (fun vs H Q E h=>?_) (fun cdv A outer s H vs Q E hr h=>?_)
 ·obtain⟨a,ps,m,rfl,_⟩:=h
  rfl
 obtain⟨a,ps,m,rfl,hV,hl,q⟩:=h
 refine⟨_,(b8 (g7 (i:=2) a7q.nd rfl (Or.inl rfl) (j9 (g8.mono (k:=1) (a2x T) (by decide)) hr rfl T.m_reached T.F_reached.kp T.F_reached.b .nil l4 (a6 (pv 0) (a6 (pv 1) b6))))
 (b8 (k7 (f7 z6 (pv 2) d5 (i5 _))
 (c9 (i3 d5))
 i9)
 (c9 (i3 (d8 h7 (d8 k8 (pv 0) (j6 O7 (pv 2) d5) (fun _ _=>rfl)) d5 (fun _ _=>rfl)))))),?_⟩
 refine⟨_,rfl,_,rfl,a,ps,m,rfl,hV,hl,fun H1 g1=>?_⟩
 refine⟨_,rfl,rfl,_,rfl,?_⟩
 refine G9 (fun c=>?_) (fun c=>?_)
 ·have c':cnt ps m=0:=by have:=of_decide_eq_true c;injection this with z;exact Int.ofNat.inj z
  have e:valueAt ps m=0:=by unfold valueAt;rw[if_pos c']
  have:=q H1 g1
  rw[e]at this
  exact this
 ·have c':¬cnt ps m=0:=fun z=>c (decide_eq_true (by rw[z];rfl))
  have hc:=a3y ps m
  have hlt:cnt ps m-1<ps.length:=by omega
  have hp:ps[cnt ps m-1]?=some ps[cnt ps m-1]:=List.getElem?_eq_getElem hlt
  obtain⟨xs,hS,hR⟩:=hV
  obtain⟨b,hb,hT⟩:=b0r hR hp
  have ei:((cnt ps m:Nat):Int)-1=((cnt ps m-1:Nat):Int):=by omega
  have e:valueAt ps m=(ps[cnt ps m-1]).2:=by
   unfold valueAt;rw[if_neg c',List.getD_eq_getElem?_getD,hp];rfl
  refine⟨_,rfl,_,rfl,_,_,rfl,rfl,a,xs,_,.ref b,rfl,rfl,hS.same g1,?_,b,_,1,.int (ps[cnt ps m-1]).2,rfl,rfl,hT.same g1,rfl,?_⟩
  ·rw[ei];exact i8 hb
  ·rw[←e];exact q H1 g1
inductive b9c(K:PySem.W.Frag)(vs:List V)(H:Hp)(Q:VK):Prop
 | mk (a:Addr) (xs:List V) (ps:List (Int×Int)) (m:Int) (x0:vs=[.ref a,.int m]) (x1:d7 K H a xs) (x2:p5 K H (ps.map pd) xs) (x3:ps.length≤100000) (xq:∀(r:Addr) (H':Hp),g6 H H'→H r=none→H' r=some (.lst (xs.drop (cnt ps m-1)))→Q (.ref r) H')
def b0k(K:PySem.W.Frag):Sp:=fun vs H Q _=>b9c K vs H Q
theorem b9k(T:A1 K mg t):g8 P w K mg base x9 2 t.f_swept t.d_swept ["versions","moment"] (b0k K):=by
 refine T.F_swept.ok a1L (fun vs H Q E h=>?_) (fun cdv A outer s H vs Q E hr h=>?_)
 ·obtain⟨a,xs,ps,m,rfl,_⟩:=h
  rfl
 obtain⟨a,xs,ps,m,rfl,hS,hR,hl,q⟩:=h
 refine⟨_,(b8 (g7 (i:=2) a1L.nd rfl (Or.inl rfl) (f6 (b5f rfl) rfl T.m_max boot_max (a6 (j6 O7 (j9 (g8.mono (k:=1) (a2x T) (by decide)) hr rfl T.m_reached T.F_reached.kp T.F_reached.b .nil l4 (a6 (pv 0) (a6 (pv 1) b6))) d5) (a6 d5 b6))))
 (c9 (i3 (R3 U7 (pv 0) (T8 (pv 2)) U9)))),?_⟩
 refine⟨_,rfl,_,rfl,a,ps,m,rfl,⟨xs,hS,hR⟩,hl,fun H1 g1=>?_⟩
 refine⟨_,_,rfl,rfl,_,_,rfl,?_⟩
 have e:(if (0:Int)>((cnt ps m:Nat):Int)-1 then(0:Int) else((cnt ps m:Nat):Int)-1)=((cnt ps m-1:Nat):Int):=by split<;>omega
 rw[e]
 refine⟨_,rfl,_,rfl,_,rfl,a,xs,rfl,hS.same g1,fun r hr0=>?_⟩
 rw[a6t]
 exact q r _ (g1.trans (b9 hr0)) (A4 g1 hr0) b0
inductive a3S(K:PySem.W.Frag)(vs:List V)(H:Hp)(Q:VK):Prop
 | mk (a b:Addr) (ks js:List Str) (x0:vs=[.ref a,.ref b]) (x1:d7 K H a (ks.map V.str)) (x2:d7 K H b (js.map V.str)) (x3:ks.length≤63) (x4:js.length≤63) (xq:∀(r:Addr) (rs:List Str) (H':Hp),g6 H H'→H' r=some (.lst (rs.map V.str))→rs.Nodup→(∀x,x∈rs↔x∈ks∧x∈js)→Q (.ref r) H')
def a2Y(K:PySem.W.Frag):Sp:=fun vs H Q _=>a3S K vs H Q
theorem a0p{ks:List Str}(h:ks.length≤63):ks.length+1<scanBound:=by unfold scanBound;omega
theorem a0g(T:A1 K mg t):g8 P w K mg base x9 1 t.f_in_both t.d_in_both ["goods","others"] (a2Y K):=by
 refine T.F_in_both.ok a6Z (fun vs H Q E h=>?_) (fun cdv A outer s H vs Q E hr h=>?_)
 ·obtain⟨a,b,ks,js,rfl,_⟩:=h
  rfl
 obtain⟨a,b,ks,js,rfl,hA,hB,la,lb,q⟩:=h
 refine⟨_,(c9 (i3 (f6 (a6w rfl) rfl T.m_sorted boot_sorted (a6 (j6 a6X (D9 (a2P rfl) rfl T.m_set boot_set (a6 (pv 0) b6)) (D9 (a2P rfl) rfl T.m_set boot_set (a6 (pv 1) b6))) b6)))),?_⟩
 refine⟨_,rfl,a,ks,rfl,hA,a0p la,fun l hl=>?_⟩
 have s1:=b9 (o:=tso w l (TS.once ks)) hl
 refine⟨_,rfl,b,js,rfl,hB.same s1,a0p lb,fun m hm=>?_⟩
 have s2:=b9 (o:=tso w m (TS.once js)) hm
 have hne:m≠l:=fun e=>by rw[e,b0]at hm;cases hm
 refine⟨l,m,TS.once ks,TS.once js,rfl,rfl,hne,s2 _ _ b0,b0,a0p (Nat.le_trans (TS.a2r ks) la),a0p (Nat.le_trans (TS.a2r js) lb),fun n rs hn nd mem=>?_⟩
 have s3:=b9 (o:=tso w n rs) hn
 refine⟨n,rs,rfl,b0,?_,fun r ys hr0 py _=>?_⟩
 ·have:=u7 nd fun x hx=>(TS.a6r.mp ((mem x).mp hx).1:x∈ks)
  omega
 obtain⟨zs,rfl,pz⟩:=J3 py
 refine q r zs _ (((s1.trans s2).trans s3).trans (b9 hr0)) b0 (pz.nodup_iff.mpr nd) fun x=>?_
 rw[pz.mem_iff,mem,TS.a6r,TS.a6r]
inductive a3G(K:PySem.W.Frag)(vs:List V)(H:Hp)(Q:VK):Prop
 | mk (one other:Rec) (x y:V) (g:Addr) (gs:List Str) (why:Str) (x0:vs=[x,y,.ref g,.str why]) (x1:RecAt K H one x) (x2:RecAt K H other y) (x3:d7 K H g (gs.map V.str)) (x4:gs.length≤900) (xq:∀(r:Addr) (ys:List V) (H':Hp),g6 H H'→H' r=some (.lst ys)→v7 H' (part one.num other.num why gs) ys→Q (.ref r) H')
def a8K(K:PySem.W.Frag):Sp:=fun vs H Q _=>a3G K vs H Q
theorem a0b(T:A1 K mg t):g8 P w K mg base x9 1 t.f_links_for t.d_links_for ["one","other","goods","why"] (a8K K):=by
 refine T.F_links_for.ok a5K (fun vs H Q E h=>?_) (fun cdv A outer s H vs Q E hr h=>?_)
 ·obtain⟨one,other,x,y,g,gs,why,rfl,_⟩:=h
  rfl
 obtain⟨one,other,x,y,g,gs,why,rfl,⟨b1,la1,pa1,rfl,t1,_,_⟩,⟨b2,la2,pa2,rfl,t2,_,_⟩,hG,lg,q⟩:=h
 refine⟨_,(c9 (i3 (N6 rfl (t6 (pv 2)) (C5.mk (own:=["good"]) (tl:=["one","other","goods","why"]) rfl rfl rfl (fun _ _ _ _ _=>(m5 (i:=0) (a0C) rfl (Or.inl rfl))) (fun _ _ _ _ _=>V0) (fun _ _ _ _ _=>(u6 (a6 (d8 N9 (pv 1) (u0 rfl T.m_NUMBER T.r_NUMBER) (fun _ _=>rfl)) (a6 (d8 N9 (pv 2) (u0 rfl T.m_NUMBER T.r_NUMBER) (fun _ _=>rfl)) (a6 (pv 0) (a6 (pv 4) b6)))))))))),?_⟩
 refine⟨_,rfl,g,rfl,⟨_,hG⟩,fun acc hacc=>?_⟩
 refine B7 (xs:=gs.map V.str) (fun i H'=>g6 H H'∧∃ys,H' acc=some (.lst ys)∧v7 H' (part one.num other.num why (gs.take i)) ys) ⟨b9 hacc,[],b0,.nil⟩ (fun i H' _ h=>?_) (fun i x H' hx h=>?_) (fun H' h=>?_)
 ·exact hG.same h.1
 ·obtain⟨sm,ys,ha,hL⟩:=h
  rw[qQ8]at hx
  obtain⟨gd,hgd,rfl⟩:=Option.map_eq_some_iff.mp hx
  have hi:i<gs.length:=(qQ1.mp hgd).1
  refine⟨_,rfl,b1,_,0,.int one.num,rfl,rfl,t1.same sm,rfl,_,rfl,b2,_,0,.int other.num,rfl,rfl,t2.same sm,rfl,_,rfl,_,rfl,(by show 4≤sizeLine;decide),fun p hp=>?_⟩
  have ly:ys.length≤i:=by rw[hL.len];simp only[part,qQ0,List.length_take];omega
  have npa:p≠acc:=fun e=>by rw[e,ha]at hp;cases hp
  have ha2:upd H' p (.tup [.int one.num,.int other.num,.str gd,.str why]) acc=some (.lst ys):=b9 hp _ _ ha
  refine⟨ys,ha2,W3 (by omega),j7 (sm.trans (b9 hp)) hacc,_,b0,?_⟩
  have e:part one.num other.num why (gs.take (i+1))=part one.num other.num why (gs.take i)++[(one.num,other.num,gd,why)]:=by
   rw[List.take_add_one,hgd]
   simp only[part,Option.toList_some,qQ6,List.map_cons,List.map_nil]
  rw[e]
  have k1:r9 H' (upd (upd H' p (.tup [.int one.num,.int other.num,.str gd,.str why])) acc (.lst (ys++[.ref p]))):=(C6 hp).trans (n9 ha2)
  exact(hL.tupK k1).snoc ⟨p,rfl,by rw[b7 npa];exact b0⟩
 ·obtain⟨sm,ys,ha,hL⟩:=h
  rw[qQ0,List.take_length]at hL
  exact q acc ys H' sm ha hL
inductive a1p(K:PySem.W.Frag)(vs:List V)(H:Hp)(Q:VK):Prop
 | mk (one other:Rec) (x y:V) (x0:vs=[x,y]) (x1:RecAt K H one x) (x2:RecAt K H other y) (x3:one.put.length≤63) (x4:one.looked.length≤63) (x5:other.put.length≤63) (x6:other.looked.length≤63) (xq:∀(r:Addr) (ys:List V) (ls:List Lk) (H':Hp),g6 H H'→H' r=some (.lst ys)→v7 H' ls ys→LB one other ls→Q (.ref r) H')
def a3r(K:PySem.W.Frag):Sp:=fun vs H Q _=>a1p K vs H Q
def Btw(H:Hp)(l:Addr)(ls:List Lk)(H':Hp):Prop:=g6 H H'∧∃ys,H' l=some (.lst ys)∧v7 H' ls ys
theorem Btw.grow{H H1 H2:Hp}{l r:Addr}{ls ms:List Lk}{ys:List V}(hl:H l=none)(b:Btw H l ls H1)(s:g6 H1 H2)(hr:H2 r=some (.lst ys))(hm:v7 H2 ms ys)(hz:ls.length+ms.length≤100000)(Q:Hp→Prop)(q:∀H3,Btw H l (ls++ms) H3→Q H3) :
  ∃l' b' xs zs,V.ref l=V.ref l'∧[V.ref r]=[V.ref b']∧H2 l'=some (.lst xs)∧H2 b'=some (.lst zs)∧xs.length+zs.length≤sizeLine∧Q (upd H2 l' (.lst (xs++zs))):=by
 obtain⟨s1,xs,h1,h2⟩:=b
 have e1:H2 l=some (.lst xs):=s _ _ h1
 refine⟨l,r,xs,ys,rfl,rfl,e1,hr,?_,q _ ⟨j7 (s1.trans s) hl,_,b0,?_⟩⟩
 ·rw[h2.len,hm.len,sizeLine_eq];omega
 ·exact v7.append (hm.tupK (n9 e1)) ((h2.tupK s.tupK).tupK (n9 e1))
theorem a9d{c:Prop}(h:¬c)(as bs:List Str):W5 c as bs []:=⟨by simp,fun x=>⟨fun z=>by simp at z,fun z=>absurd z.1 h⟩⟩
theorem a9f{c:Prop}(h:c){as bs gs:List Str}(n:gs.Nodup)(m:∀x,x∈gs↔x∈as∧x∈bs):W5 c as bs gs:=⟨n,fun x=>⟨fun z=>⟨h,(m x).mp z⟩,fun z=>(m x).mpr z.2⟩⟩
theorem a0K(n m:Int)(why:Str):part n m why []=[]:=rfl
theorem a2b(T:A1 K mg t):g8 P w K mg base x9 2 t.f_links_between t.d_links_between ["one","other"] (a3r K):=by
 refine T.F_links_between.ok a4a (fun vs H Q E h=>?_) (fun cdv A outer s H vs Q E hr h=>?_)
 ·obtain⟨one,other,x,y,rfl,_⟩:=h
  rfl
 obtain⟨one,other,x,y,rfl,R1,R2,p1,k1,p2,k2,q⟩:=h
 obtain⟨b1,la1,pa1,rfl,t1,l1,u1⟩:=id R1
 obtain⟨b2,la2,pa2,rfl,t2,l2,u2⟩:=id R2
 refine⟨_,(b8 (g7 (i:=2) a4a.nd rfl (Or.inl rfl) (m4 b6))
 (b8 (L7 (k7 (f7 Z0 (d8 h7 (pv 0) (u0 rfl T.m_ENDED T.r_ENDED) (fun _ _=>rfl)) (d8 h7 (pv 1) (u0 rfl T.m_ENDED T.r_ENDED) (fun _ _=>rfl)) (i5 _))
 (c9 (l6 (p8 PySem.F.plainAttrs_list PySem.F.slot_list_extend PySem.F.type_list_extend W1 (pv 2) (a6 (j9 (g8.mono (k:=1) (a0b T) (by decide)) hr rfl T.m_links_for T.F_links_for.kp T.F_links_for.b .nil l4 (a6 (pv 0) (a6 (pv 1) (a6 (j9 (g8.mono (k:=1) (a0g T) (by decide)) hr rfl T.m_in_both T.F_in_both.kp T.F_in_both.b .nil l4 (a6 (d8 h7 (pv 0) (u0 rfl T.m_PUT T.r_PUT) (fun _ _=>rfl)) (a6 (d8 h7 (pv 1) (u0 rfl T.m_PUT T.r_PUT) (fun _ _=>rfl)) b6))) (a6 l8 b6))))) b6))))
 i9))
 (b8 (L7 (k7 (f7 a0Y (d8 h7 (pv 0) (u0 rfl T.m_ENDED T.r_ENDED) (fun _ _=>rfl)) (d8 h7 (pv 1) (u0 rfl T.m_BEGAN T.r_BEGAN) (fun _ _=>rfl)) (i5 _))
 (c9 (l6 (p8 PySem.F.plainAttrs_list PySem.F.slot_list_extend PySem.F.type_list_extend W1 (pv 2) (a6 (j9 (g8.mono (k:=1) (a0b T) (by decide)) hr rfl T.m_links_for T.F_links_for.kp T.F_links_for.b .nil l4 (a6 (pv 0) (a6 (pv 1) (a6 (j9 (g8.mono (k:=1) (a0g T) (by decide)) hr rfl T.m_in_both T.F_in_both.kp T.F_in_both.b .nil l4 (a6 (d8 h7 (pv 0) (u0 rfl T.m_PUT T.r_PUT) (fun _ _=>rfl)) (a6 (d8 h7 (pv 1) (u0 rfl T.m_LOOKED T.r_LOOKED) (fun _ _=>rfl)) b6))) (a6 l8 b6))))) b6))))
 i9))
 (b8 (L7 (k7 (f7 a4y (d8 h7 (pv 1) (u0 rfl T.m_ENDED T.r_ENDED) (fun _ _=>rfl)) (d8 h7 (pv 0) (u0 rfl T.m_BEGAN T.r_BEGAN) (fun _ _=>rfl)) (i5 _))
 (c9 (l6 (p8 PySem.F.plainAttrs_list PySem.F.slot_list_extend PySem.F.type_list_extend W1 (pv 2) (a6 (j9 (g8.mono (k:=1) (a0b T) (by decide)) hr rfl T.m_links_for T.F_links_for.kp T.F_links_for.b .nil l4 (a6 (pv 0) (a6 (pv 1) (a6 (j9 (g8.mono (k:=1) (a0g T) (by decide)) hr rfl T.m_in_both T.F_in_both.kp T.F_in_both.b .nil l4 (a6 (d8 h7 (pv 0) (u0 rfl T.m_LOOKED T.r_LOOKED) (fun _ _=>rfl)) (a6 (d8 h7 (pv 1) (u0 rfl T.m_PUT T.r_PUT) (fun _ _=>rfl)) b6))) (a6 l8 b6))))) b6))))
 i9))
 (c9 (i3 (pv 2))))))),?_⟩
 refine⟨(by show 0≤sizeLine;decide),fun l hl=>?_⟩
 have B0:Btw H l [] (upd H l (.lst [])):=⟨b9 hl,[],b0,.nil⟩
 refine⟨fun σ' H'=>∃g1,σ'=[some (.ref b1),some (.ref b2),some (.ref l)]∧Btw H l (part one.num other.num "over" g1) H'∧W5 (one.fin<other.fin) one.put other.put g1∧g1.length≤63,?_,?_⟩
 ·refine⟨_,rfl,b1,_,2,_,rfl,rfl,t1.same B0.1,rfl,_,rfl,b2,_,2,_,rfl,rfl,t2.same B0.1,rfl,_,_,rfl,rfl,_,rfl,?_⟩
  refine G9 (fun c=>?_) (fun c=>?_)
  ·have c':one.fin<other.fin:=of_decide_eq_true c
   refine⟨_,rfl,.inl ⟨rfl,_,d7.of B0.2.choose_spec.1⟩,_,rfl,_,rfl,_,rfl,b1,_,4,_,rfl,rfl,t1.same B0.1,rfl,_,rfl,b2,_,4,_,rfl,rfl,t2.same B0.1,rfl,pa1,pa2,one.put,other.put,rfl,u1.same B0.1,u2.same B0.1,by omega,by omega,fun r rs Ha sa ha na ma=>?_⟩
   have lr:rs.length≤one.put.length:=u7 na fun x hx=>((ma x).mp hx).1
   refine⟨one,other,.ref b1,.ref b2,r,rs,_,rfl,(R1.same B0.1).same sa,(R2.same B0.1).same sa,d7.of ha,by omega,fun r2 ys Hb sb hb Lb=>?_⟩
   exact B0.grow hl (sa.trans sb) hb Lb (by simp[part];omega) _ fun H3 B3=>⟨rs,rfl,B3,a9f c' na ma,by omega⟩
  ·have c':¬one.fin<other.fin:=of_decide_eq_false (Bool.eq_false_iff.mpr c)
   exact⟨[],rfl,B0,a9d c' _ _,Nat.zero_le _⟩
 rintro σ1 H1 ⟨g1,rfl,B1,M1,z1⟩
 refine⟨fun σ' H'=>∃g2,σ'=[some (.ref b1),some (.ref b2),some (.ref l)]∧Btw H l (part one.num other.num "over" g1++part one.num other.num "saw" g2) H'∧W5 (one.fin≤other.beg) one.put other.looked g2∧g2.length≤63,?_,?_⟩
 ·refine⟨_,rfl,b1,_,2,_,rfl,rfl,t1.same B1.1,rfl,_,rfl,b2,_,1,_,rfl,rfl,t2.same B1.1,rfl,_,_,rfl,rfl,_,rfl,?_⟩
  refine G9 (fun c=>?_) (fun c=>?_)
  ·have c':one.fin≤other.beg:=of_decide_eq_true c
   refine⟨_,rfl,.inl ⟨rfl,_,d7.of B1.2.choose_spec.1⟩,_,rfl,_,rfl,_,rfl,b1,_,4,_,rfl,rfl,t1.same B1.1,rfl,_,rfl,b2,_,3,_,rfl,rfl,t2.same B1.1,rfl,pa1,la2,one.put,other.looked,rfl,u1.same B1.1,l2.same B1.1,by omega,by omega,fun r rs Ha sa ha na ma=>?_⟩
   have lr:rs.length≤one.put.length:=u7 na fun x hx=>((ma x).mp hx).1
   refine⟨one,other,.ref b1,.ref b2,r,rs,_,rfl,(R1.same B1.1).same sa,(R2.same B1.1).same sa,d7.of ha,by omega,fun r2 ys Hb sb hb Lb=>?_⟩
   exact B1.grow hl (sa.trans sb) hb Lb (by simp[part];omega) _ fun H3 B3=>⟨rs,rfl,B3,a9f c' na ma,by omega⟩
  ·have c':¬one.fin≤other.beg:=of_decide_eq_false (Bool.eq_false_iff.mpr c)
   exact⟨[],rfl,by rw[a0K,List.append_nil];exact B1,a9d c' _ _,Nat.zero_le _⟩
 rintro σ2 H2 ⟨g2,rfl,B2,M2,z2⟩
 refine⟨fun σ' H'=>∃g3,σ'=[some (.ref b1),some (.ref b2),some (.ref l)]∧Btw H l (part one.num other.num "over" g1++part one.num other.num "saw" g2++part one.num other.num "missed" g3) H'∧W5 (one.beg<other.fin) one.looked other.put g3,?_,?_⟩
 ·refine⟨_,rfl,b2,_,2,_,rfl,rfl,t2.same B2.1,rfl,_,rfl,b1,_,1,_,rfl,rfl,t1.same B2.1,rfl,_,_,rfl,rfl,_,rfl,?_⟩
  refine G9 (fun c=>?_) (fun c=>?_)
  ·have c':one.beg<other.fin:=of_decide_eq_true c
   refine⟨_,rfl,.inl ⟨rfl,_,d7.of B2.2.choose_spec.1⟩,_,rfl,_,rfl,_,rfl,b1,_,3,_,rfl,rfl,t1.same B2.1,rfl,_,rfl,b2,_,4,_,rfl,rfl,t2.same B2.1,rfl,la1,pa2,one.looked,other.put,rfl,l1.same B2.1,u2.same B2.1,by omega,by omega,fun r rs Ha sa ha na ma=>?_⟩
   have lr:rs.length≤one.looked.length:=u7 na fun x hx=>((ma x).mp hx).1
   refine⟨one,other,.ref b1,.ref b2,r,rs,_,rfl,(R1.same B2.1).same sa,(R2.same B2.1).same sa,d7.of ha,by omega,fun r2 ys Hb sb hb Lb=>?_⟩
   exact B2.grow hl (sa.trans sb) hb Lb (by simp[part];omega) _ fun H3 B3=>⟨rs,rfl,B3,a9f c' na ma⟩
  ·have c':¬one.beg<other.fin:=of_decide_eq_false (Bool.eq_false_iff.mpr c)
   exact⟨[],rfl,by rw[a0K,List.append_nil];exact B2,a9d c' _ _⟩
 rintro σ3 H3 ⟨g3,rfl,⟨s3,ys,h3,L3⟩,M3⟩
 exact⟨_,rfl,q l ys _ H3 s3 h3 L3 ⟨g1,g2,g3,rfl,M1,M2,M3⟩⟩
structure Dl where
 num:Int
 beg:Int
 looked:List Str
 aside:Am
abbrev G3:=List (Str×List (Int×Int))
structure j0 where
 begun:Nat
 under:List Dl
 vers:G3
 recs:List Rec
 links:List Lk
 row:List Int
def S0(ks:List Str):List (Key×V):=ks.map fun k=>(Sum.inr k,V.bl true)
def L8(ks:List Str)(g:Str):List Str:=if g∈ks then ks else ks++[g]
theorem b1t(ks:List Str)(g:Str):putK (S0 ks) (Sum.inr g) (V.bl true)=S0 (L8 ks g):=by
 unfold putK L8
 have e:(S0 ks).any (fun kv=>decide (kv.1=(Sum.inr g:Key)))=decide (g∈ks):=by
  unfold S0
  rw[List.any_map]
  induction ks with
  | nil=>rfl
  | cons k ks ih=>
   rw[List.any_cons,ih]
   show(decide ((Sum.inr k:Key)=Sum.inr g)||_)=_
   rw[a7n]
   by_cases z:k=g
   ·subst z;simp
   ·have z':¬g=k:=fun w=>z w.symm
    simp[z,z']
 rw[e]
 by_cases c:g∈ks
 ·rw[if_pos (by simpa using c),if_pos c]
  unfold S0
  rw[List.map_map]
  refine List.map_congr_left fun k _=>?_
  show(if (Sum.inr k:Key)=Sum.inr g then _ else _)=_
  split<;>rfl
 ·rw[if_neg (by simpa using c),if_neg c]
  unfold S0
  rw[qQ6];rfl
theorem b0u(ks:List Str):(S0 ks).length=ks.length:=qQ0 _
theorem a2J(ks:List Str):((S0 ks).map fun q=>kV q.1)=ks.map V.str:=by unfold S0;rw[List.map_map];rfl
theorem a3f(m:Am):(y8 m).length=m.length:=qQ0 _
theorem a6s(m:Am):((y8 m).map fun q=>kV q.1)=(m.map (·.1)).map V.str:=by unfold y8;rw[List.map_map,List.map_map];rfl
inductive Role where
 | free | tally | under | vers | recs | fz
 | deal (n:Int)
 | look (n:Int)
 | side (n:Int)
 | vl (g:Str)
 deriving DecidableEq
structure Gh where
 rl:Addr→Role
 dx:Addr
 U:Addr
 Vd:Addr
 R:Addr
 L:Addr
 W:Addr
 dp:Int→Addr
 dd:Int→Addr
 lk:Int→Addr
 as:Int→Addr
 vl:Str→Addr
def F8(b:Int)(U Vd R L W:Addr):List (Str×V):=[("begun",.int b),("under_way",.ref U),("versions",.ref Vd),("records",.ref R),("links",.ref L),("row",.ref W)]
def Y9(n b:Int)(lk as:Addr):List (Str×V):=[("number",.int n),("began",.int b),("looked",.ref lk),("aside",.ref as)]
structure b2a(CD:Addr)(G:Gh)(H:Hp)(d:Dl):Prop where
 ob:H (G.dp d.num)=some (.ins CD (G.dd d.num) (Y9 d.num d.beg (G.lk d.num) (G.as d.num)))
 lk:H (G.lk d.num)=some (.dK (S0 d.looked))
 as:H (G.as d.num)=some (.dK (y8 d.aside))
 r1:G.rl (G.dp d.num)=.deal d.num
 r2:G.rl (G.lk d.num)=.look d.num
 r3:G.rl (G.as d.num)=.side d.num
def VAt(H:Hp)(p:Int×Int)(x:V):Prop:=∃b,x=.ref b∧H b=some (.tup [.int p.1,.int p.2])
def RcAt(rl:Addr→Role)(H:Hp)(r:Rec)(x:V):Prop:=∃b la pa,x=.ref b∧H b=some (.tup [.int r.num,.int r.beg,.int r.fin,.ref la,.ref pa])∧H la=some (.lst (r.looked.map V.str))∧H pa=some (.lst (r.put.map V.str))∧rl la=.fz∧rl pa=.fz
theorem RcAt.rec{K:PySem.W.Frag}{rl:Addr→Role}{H:Hp}{r:Rec}{x:V}(h:RcAt rl H r x):RecAt K H r x:=
 let ⟨b,la,pa,e,h1,h2,h3,_⟩:=h;⟨b,la,pa,e,i4.of h1,d7.of h2,d7.of h3⟩
theorem a5t{K:PySem.W.Frag}{rl:Addr→Role}{H:Hp}:∀{rs:List Rec} {xs:List V},Paired (RcAt rl H) rs xs→p5 K H (rs.map rd) xs
 | _,_,.nil=>rfl
 | _,_,.cons h t=>⟨_,_,rfl,a4e.mpr h.rec,a5t t⟩
theorem a6i{K:PySem.W.Frag}{H:Hp}:∀{ps:List (Int×Int)} {xs:List V},Paired (VAt H) ps xs→p5 K H (ps.map pd) xs
 | _,_,.nil=>rfl
 | _,_,.cons ⟨b,e,h⟩ t=>⟨_,_,rfl,by subst e;exact b8u (i4.of h),a6i t⟩
theorem A8{H H':Hp}(k:r9 H H'){ps:List (Int×Int)}{xs:List V}(h:Paired (VAt H) ps xs):Paired (VAt H') ps xs:=Paired.mapP h fun _ _ ⟨b,e,h⟩=>⟨b,e,k.1 _ _ h⟩
structure TA(CT CD:Addr)(G:Gh)(H:Hp)(p:Addr)(st:j0):Prop where
 ob:H p=some (.ins CT G.dx (F8 (st.begun:Int) G.U G.Vd G.R G.L G.W))
 un:H G.U=some (.dK (l7 (st.under.map (·.num)) fun n=>.ref (G.dp n)))
 ve:H G.Vd=some (.dK (st.vers.map fun q=>((Sum.inr q.1:Key),V.ref (G.vl q.1))))
 rc:∃xs,H G.R=some (.lst xs)∧Paired (RcAt G.rl H) st.recs xs
 ln:∃xs,H G.L=some (.lst xs)∧v7 H st.links xs
 rw:H G.W=some (.lst (st.row.map V.int))
 dl:∀d∈st.under,b2a CD G H d
 vl:∀q∈st.vers,∃xs,H (G.vl q.1)=some (.lst xs)∧Paired (VAt H) q.2 xs∧G.rl (G.vl q.1)=.vl q.1
 r0:G.rl p=.tally
 r1:G.rl G.U=.under
 r2:G.rl G.Vd=.vers
 r3:G.rl G.R=.recs
 r4:G.rl G.L=.fz
 r5:G.rl G.W=.fz
 nd:(st.under.map (·.num)).Nodup
 vd:(st.vers.map (·.1)).Nodup
 cl:∀b,H b=none→G.rl b=.free
theorem j5{H H':Hp}{b:Addr}(s:g6 H H')(h:H' b=none):H b=none:=by
 cases z:H b with
 | none=>rfl
 | some o=>rw[s _ _ z]at h;cases h
theorem n6{H:Hp}{a b:Addr}{o:HO}(h:upd H a o b=none):H b=none:=by
 by_cases c:b=a
 ·rw[c,b0]at h;cases h
 ·rw[b7 c]at h;exact h
structure Kp(G:Gh)(H:Hp)(G':Gh)(H':Hp):Prop where
 keep:∀b o,G.rl b=.free→H b=some o→H' b=some o
 tup:r9 H H'
 out:∀b o,G.rl b=.free→H b=some o→G'.rl b=.free
 dom:∀b,H' b=none→H b=none
theorem Kp.refl(G:Gh)(H:Hp):Kp G H G H:=⟨fun _ _ _ h=>h,r9.refl H,fun _ _ h _=>h,fun _ h=>h⟩
theorem Kp.trans{G G1 G2:Gh}{H H1 H2:Hp}(a:Kp G H G1 H1)(b:Kp G1 H1 G2 H2):Kp G H G2 H2:=
 ⟨fun c o f h=>b.keep c o (a.out c o f h) (a.keep c o f h),a.tup.trans b.tup,fun c o f h=>b.out c o (a.out c o f h) (a.keep c o f h),fun c h=>a.dom c (b.dom c h)⟩
theorem Kp.same{G:Gh}{H H':Hp}(s:g6 H H'):Kp G H G H':=⟨fun b o _ h=>s b o h,s.tupK,fun _ _ f _=>f,fun _ h=>j5 s h⟩
theorem RcAt.same{rl:Addr→Role}{H H':Hp}{r:Rec}{x:V}(s:g6 H H')(h:RcAt rl H r x):RcAt rl H' r x:=
 let ⟨b,la,pa,e,h1,h2,h3,h4,h5⟩:=h;⟨b,la,pa,e,s _ _ h1,s _ _ h2,s _ _ h3,h4,h5⟩
section
variable{CT CD p:Addr}{G:Gh}{H H':Hp}{st:j0}
theorem b2a.same{d:Dl}(h:b2a CD G H d)(s:g6 H H'):b2a CD G H' d:=⟨s _ _ h.ob,s _ _ h.lk,s _ _ h.as,h.r1,h.r2,h.r3⟩
theorem TA.same(h:TA CT CD G H p st)(s:g6 H H'):TA CT CD G H' p st where
 ob:=s _ _ h.ob
 un:=s _ _ h.un
 ve:=s _ _ h.ve
 rc:=let ⟨xs,h1,h2⟩:=h.rc;⟨xs,s _ _ h1,Paired.mapP h2 fun _ _ z=>z.same s⟩
 ln:=let ⟨xs,h1,h2⟩:=h.ln;⟨xs,s _ _ h1,h2.tupK s.tupK⟩
 rw:=s _ _ h.rw
 dl:=fun d hd=>(h.dl d hd).same s
 vl:=fun q hq=>let ⟨xs,h1,h2,h3⟩:=h.vl q hq;⟨xs,s _ _ h1,A8 s.tupK h2,h3⟩
 r0:=h.r0
 r1:=h.r1
 r2:=h.r2
 r3:=h.r3
 r4:=h.r4
 r5:=h.r5
 nd:=h.nd
 vd:=h.vd
 cl:=fun b e=>h.cl b (j5 s e)
theorem P4{a b:Addr}{ρ σ:Role}(h:G.rl b=σ)(k:G.rl a=ρ)(n:σ≠ρ):b≠a:=fun z=>n (by rw[←h,←k,z])
theorem d6{a b:Addr}{o u:HO}{ρ σ:Role}(e:H b=some u)(h:G.rl b=σ)(k:G.rl a=ρ)(n:σ≠ρ):upd H a o b=some u:=by rw[b7 (P4 h k n)];exact e
theorem RcAt.upd{a:Addr}{o:HO}{ρ:Role}{r:Rec}{x:V}(h:RcAt G.rl H r x)(k:G.rl a=ρ)(n:Role.fz≠ρ)(t:r9 H (L2.upd H a o)):RcAt G.rl (L2.upd H a o) r x:=
 let ⟨b,la,pa,e,h1,h2,h3,h4,h5⟩:=h;⟨b,la,pa,e,t.1 _ _ h1,d6 h2 h4 k n,d6 h3 h5 k n,h4,h5⟩
theorem Kp.upd{a:Addr}{o:HO}(k:G.rl a≠.free)(t:r9 H (L2.upd H a o)):Kp G H G (L2.upd H a o):=
 ⟨fun b u f h=>by rw[b7 fun z=>k (by rw[←z];exact f)];exact h,t,fun _ _ f _=>f,fun _ h=>n6 h⟩
def A6(ds:List Dl)(n:Int)(f:Dl→Dl):List Dl:=ds.map fun d=>if d.num=n then f d else d
def P1(g:Str)(e:Dl):Dl:={ e with looked:=L8 e.looked g }
def P3(g:Str)(a:Int)(e:Dl):Dl:={ e with aside:=C1 e.aside g a }
theorem J7{ds:List Dl}{n:Int}{f:Dl→Dl}(hf:∀d,(f d).num=d.num):(A6 ds n f).map (·.num)=ds.map (·.num):=by
 unfold A6;rw[List.map_map]
 refine List.map_congr_left fun d _=>?_
 show(if d.num=n then f d else d).num=d.num
 split
 ·exact hf d
 ·rfl
theorem L1{ds:List Dl}(nd:(ds.map (·.num)).Nodup){d e:Dl}(hd:d∈ds)(he:e∈ds)(h:d.num=e.num):d=e:=by
 obtain⟨i,hi⟩:=List.mem_iff_getElem?.mp hd
 obtain⟨j,hj⟩:=List.mem_iff_getElem?.mp he
 have li:=(qQ1.mp hi).1
 have:i=j:=(List.getElem?_inj (l:=ds.map (·.num)) (by rw[qQ0];exact li) nd).mp (by rw[qQ8,qQ8,hi,hj];simp[h])
 subst this
 rw[hi]at hj;exact qW1 hj
theorem TA.setLook(h:TA CT CD G H p st){d:Dl}(hd:d∈st.under)(g:Str) :
  TA CT CD G (upd H (G.lk d.num) (.dK (S0 (L8 d.looked g)))) p { st with under:=A6 st.under d.num (P1 g) }∧Kp G H G (upd H (G.lk d.num) (.dK (S0 (L8 d.looked g)))):=by
 have D:=h.dl d hd
 have t:r9 H (upd H (G.lk d.num) (.dK (S0 (L8 d.looked g)))):=M4 D.lk
 refine⟨⟨d6 h.ob h.r0 D.r2 (by simp),?_,d6 h.ve h.r2 D.r2 (by simp),?_,?_,d6 h.rw h.r5 D.r2 (by simp),fun e he=>?_,fun q hq=>?_,h.r0,h.r1,h.r2,h.r3,h.r4,h.r5,?_,h.vd,fun b e=>h.cl b (n6 e)⟩,Kp.upd (by rw[D.r2];simp) t⟩
 ·show upd H _ _ _=some (.dK (l7 ((A6 st.under d.num _).map (·.num)) _))
  rw[J7 (f:=P1 g) fun _=>rfl]
  exact d6 h.un h.r1 D.r2 (by simp)
 ·obtain⟨xs,h1,h2⟩:=h.rc
  exact⟨xs,d6 h1 h.r3 D.r2 (by simp),Paired.mapP h2 fun _ _ z=>z.upd D.r2 (by simp) t⟩
 ·obtain⟨xs,h1,h2⟩:=h.ln
  exact⟨xs,d6 h1 h.r4 D.r2 (by simp),h2.tupK t⟩
 ·obtain⟨e',he',rfl⟩:=qQ3.mp he
  have E:=h.dl e' he'
  by_cases c:e'.num=d.num
  ·have:e'=d:=L1 h.nd he' hd c
   subst this
   rw[if_pos rfl]
   exact⟨d6 E.ob E.r1 E.r2 (by simp),b0,d6 E.as E.r3 E.r2 (by simp),E.r1,E.r2,E.r3⟩
  ·rw[if_neg c]
   exact⟨d6 E.ob E.r1 D.r2 (by simp),d6 E.lk E.r2 D.r2 (by simpa using c),d6 E.as E.r3 D.r2 (by simp),E.r1,E.r2,E.r3⟩
 ·obtain⟨xs,h1,h2,h3⟩:=h.vl q hq
  exact⟨xs,d6 h1 h3 D.r2 (by simp),A8 t h2,h3⟩
 ·show((A6 st.under d.num _).map (·.num)).Nodup
  rw[J7 (f:=P1 g) fun _=>rfl];exact h.nd
theorem TA.setSide(h:TA CT CD G H p st){d:Dl}(hd:d∈st.under)(g:Str)(a:Int) :
  TA CT CD G (upd H (G.as d.num) (.dK (y8 (C1 d.aside g a)))) p { st with under:=A6 st.under d.num (P3 g a) }∧Kp G H G (upd H (G.as d.num) (.dK (y8 (C1 d.aside g a)))):=by
 have D:=h.dl d hd
 have t:r9 H (upd H (G.as d.num) (.dK (y8 (C1 d.aside g a)))):=M4 D.as
 refine⟨⟨d6 h.ob h.r0 D.r3 (by simp),?_,d6 h.ve h.r2 D.r3 (by simp),?_,?_,d6 h.rw h.r5 D.r3 (by simp),fun e he=>?_,fun q hq=>?_,h.r0,h.r1,h.r2,h.r3,h.r4,h.r5,?_,h.vd,fun b e=>h.cl b (n6 e)⟩,Kp.upd (by rw[D.r3];simp) t⟩
 ·show upd H _ _ _=some (.dK (l7 ((A6 st.under d.num _).map (·.num)) _))
  rw[J7 (f:=P3 g a) fun _=>rfl]
  exact d6 h.un h.r1 D.r3 (by simp)
 ·obtain⟨xs,h1,h2⟩:=h.rc
  exact⟨xs,d6 h1 h.r3 D.r3 (by simp),Paired.mapP h2 fun _ _ z=>z.upd D.r3 (by simp) t⟩
 ·obtain⟨xs,h1,h2⟩:=h.ln
  exact⟨xs,d6 h1 h.r4 D.r3 (by simp),h2.tupK t⟩
 ·obtain⟨e',he',rfl⟩:=qQ3.mp he
  have E:=h.dl e' he'
  by_cases c:e'.num=d.num
  ·have:e'=d:=L1 h.nd he' hd c
   subst this
   rw[if_pos rfl]
   exact⟨d6 E.ob E.r1 E.r3 (by simp),d6 E.lk E.r2 E.r3 (by simp),b0,E.r1,E.r2,E.r3⟩
  ·rw[if_neg c]
   exact⟨d6 E.ob E.r1 D.r3 (by simp),d6 E.lk E.r2 D.r3 (by simp),d6 E.as E.r3 D.r3 (by simpa using c),E.r1,E.r2,E.r3⟩
 ·obtain⟨xs,h1,h2,h3⟩:=h.vl q hq
  exact⟨xs,d6 h1 h3 D.r3 (by simp),A8 t h2,h3⟩
 ·show((A6 st.under d.num _).map (·.num)).Nodup
  rw[J7 (f:=P3 g a) fun _=>rfl];exact h.nd
def K3(ds:List Dl)(n:Int):List Dl:=ds.filter fun d=>decide (d.num≠n)
theorem a7J(ks:List Int)(g:Int→V)(n:Int):F7 (l7 ks g) (Sum.inl n)=l7 (ks.filter fun k=>decide (k≠n)) g:=by
 unfold F7 l7
 rw[List.filter_map]
 congr 1
 refine List.filter_congr fun k _=>?_
 show decide ((Sum.inl k:Key)≠Sum.inl n)=decide (k≠n)
 by_cases e:k=n
 ·subst e;simp
 ·rw[decide_eq_true e,decide_eq_true]
  exact fun z=>e (Sum.inl.inj z)
theorem U6(ds:List Dl)(n:Int):(K3 ds n).map (·.num)=(ds.map (·.num)).filter fun k=>decide (k≠n):=by
 unfold K3;rw[List.filter_map];rfl
theorem TA.drop(h:TA CT CD G H p st)(n:Int):TA CT CD G (upd H G.U (.dK (F7 (l7 (st.under.map (·.num)) fun n=>.ref (G.dp n)) (Sum.inl n)))) p { st with under:=K3 st.under n }∧Kp G H G (upd H G.U (.dK (F7 (l7 (st.under.map (·.num)) fun n=>.ref (G.dp n)) (Sum.inl n)))):=by
 have t:∀o,r9 H (upd H G.U o):=fun o=>M4 h.un
 refine⟨⟨d6 h.ob h.r0 h.r1 (by simp),?_,d6 h.ve h.r2 h.r1 (by simp),?_,?_,d6 h.rw h.r5 h.r1 (by simp),fun e he=>?_,fun q hq=>?_,h.r0,h.r1,h.r2,h.r3,h.r4,h.r5,?_,h.vd,fun b e=>h.cl b (n6 e)⟩,Kp.upd (by rw[h.r1];simp) (t _)⟩
 ·rw[b0,a7J]
  show some (HO.dK (l7 _ _))=some (HO.dK (l7 ((K3 st.under n).map (·.num)) _))
  rw[U6]
 ·obtain⟨xs,h1,h2⟩:=h.rc
  exact⟨xs,d6 h1 h.r3 h.r1 (by simp),Paired.mapP h2 fun _ _ z=>z.upd h.r1 (by simp) (t _)⟩
 ·obtain⟨xs,h1,h2⟩:=h.ln
  exact⟨xs,d6 h1 h.r4 h.r1 (by simp),h2.tupK (t _)⟩
 ·have E:=h.dl e (qW0.mp he).1
  exact⟨d6 E.ob E.r1 h.r1 (by simp),d6 E.lk E.r2 h.r1 (by simp),d6 E.as E.r3 h.r1 (by simp),E.r1,E.r2,E.r3⟩
 ·obtain⟨xs,h1,h2,h3⟩:=h.vl q hq
  exact⟨xs,d6 h1 h3 h.r1 (by simp),A8 (t _) h2,h3⟩
 ·show((K3 st.under n).map (·.num)).Nodup
  rw[U6];exact h.nd.filter _
end
def LWs(r:Rec)(rs:List Rec)(cs:List (List Lk)):Prop:=Paired (fun(o:Rec) (c:List Lk)=>∃l1 l2,c=l1++l2∧LB r o l1∧LB o r l2) rs cs
inductive a3z(K:PySem.W.Frag)(vs:List V)(H:Hp)(Q:VK):Prop
 | mk (r:Rec) (x:V) (a:Addr) (rs:List Rec) (xs:List V) (x0:vs=[x,.ref a]) (x1:RecAt K H r x) (x2:d7 K H a xs) (x3:p5 K H (rs.map rd) xs) (x4:rs.length≤150) (x5:(∀o∈r::rs,o.put.length≤63∧o.looked.length≤63)) (xq:∀(l:Addr) (ys:List V) (cs:List (List Lk)) (H':Hp),g6 H H'→H l=none→H' l=some (.lst ys)→v7 H' cs.flatten ys→LWs r rs cs→Q (.ref l) H')
def a5H(K:PySem.W.Frag):Sp:=fun vs H Q _=>a3z K vs H Q
theorem a5B{r:Rec}{rs:List Rec}{cs:List (List Lk)}(h:LWs r rs cs)(hb:∀o∈r::rs,o.put.length≤63∧o.looked.length≤63):cs.flatten.length≤600*rs.length:=by
 induction h with
 | nil=>simp
 | @cons o c rs cs z t ih=>
  obtain⟨l1,l2,rfl,b1,b2⟩:=z
  have h1:=b1.len
  have h2:=b2.len
  have r1:=hb r List.mem_cons_self
  have r2:=hb o (List.mem_cons_of_mem _ List.mem_cons_self)
  have:=ih fun q hq=>hb q (by rcases qQ9.mp hq with e | e;exact e▸List.mem_cons_self;exact List.mem_cons_of_mem _ (List.mem_cons_of_mem _ e))
  rw[List.flatten_cons,qQ4,qQ4,List.length_cons]
  omega
set_option maxHeartbeats 0 in
theorem a8H(T:A1 K mg t):g8 P w K mg base x9 3 t.f_links_with t.d_links_with ["record","others"] (a5H K):=by
 refine T.F_links_with.ok W8 (fun vs H Q E h=>?_) (fun cdv A outer s H vs Q E hr h=>?_)
 ·obtain⟨r,x,a,rs,xs,rfl,_⟩:=h
  rfl
 obtain⟨r,x,a,rs,xs,rfl,R1,hA,hR,z1,hb,q⟩:=h
 refine⟨_,(b8 (g7 (i:=2) W8.nd rfl (Or.inl rfl) (m4 b6))
 (b8 (A9 PassesOwn.never rfl (t6 (pv 1)) (m5 (i:=3) W8.nd rfl (Or.inl rfl))
 (b8 (l6 (p8 PySem.F.plainAttrs_list PySem.F.slot_list_extend PySem.F.type_list_extend W1 (pv 2) (a6 (j9 (g8.mono (k:=2) (a2b T) (by decide)) hr rfl T.m_links_between T.F_links_between.kp T.F_links_between.b .nil l4 (a6 (pv 0) (a6 (pv 3) b6))) b6)))
 (c9 (l6 (p8 PySem.F.plainAttrs_list PySem.F.slot_list_extend PySem.F.type_list_extend W1 (pv 2) (a6 (j9 (g8.mono (k:=2) (a2b T) (by decide)) hr rfl T.m_links_between T.F_links_between.kp T.F_links_between.b .nil l4 (a6 (pv 3) (a6 (pv 0) b6))) b6))))))
 (c9 (i3 (pv 2))))),?_⟩
 have lx:xs.length=rs.length:=by have:=hR.len;rw[qQ0]at this;exact this.symm
 refine⟨(by show 0≤sizeLine;decide),fun l hl=>?_⟩
 refine⟨_,rfl,a,rfl,⟨_,hA.same (b9 hl)⟩,?_⟩
 refine G0 (xs:=xs) (fun i σ' H'=>∃(o3:Option V) (cs:List (List Lk)),σ'=[some x,some (.ref a),some (.ref l),o3]∧Btw H l cs.flatten H'∧LWs r (rs.take i) cs)
  ⟨none,[],rfl,⟨b9 hl,[],b0,.nil⟩,.nil⟩ (fun i σ' H' _ h=>?_) (fun i y σ' H' hy h=>?_) (fun σ' H' h=>?_)
 ·obtain⟨o3,cs,rfl,B,_⟩:=h
  exact hA.same B.1
 ·obtain⟨o3,cs,rfl,B,W⟩:=h
  obtain⟨o,ho,R2⟩:=b4r hR hy
  have hom:=List.mem_of_getElem? ho
  have br:=hb r List.mem_cons_self
  have bo:=hb o (List.mem_cons_of_mem _ hom)
  have li:=(qQ1.mp ho).1
  have lw:=a5B W fun q hq=>hb q (by rcases qQ9.mp hq with e | e;exact e▸List.mem_cons_self;exact List.mem_cons_of_mem _ (List.mem_of_mem_take e))
  rw[List.length_take]at lw
  refine⟨_,rfl,.inl ⟨rfl,_,d7.of B.2.choose_spec.1⟩,_,rfl,_,rfl,r,o,x,y,rfl,R1.same B.1,R2.same B.1,br.1,br.2,bo.1,bo.2,fun r2 ys l1 H2 s2 h2 L2' b1=>?_⟩
  have z1':=b1.len
  refine B.grow hl s2 h2 L2' (by omega) _ fun H3 B3=>?_
  refine⟨_,rfl,.inl ⟨rfl,_,d7.of B3.2.choose_spec.1⟩,_,rfl,_,rfl,o,r,y,x,rfl,R2.same B3.1,R1.same B3.1,bo.1,bo.2,br.1,br.2,fun r3 zs l2 H4 s4 h4 L4 b2=>?_⟩
  have z2':=b2.len
  refine B3.grow hl s4 h4 L4 (by rw[qQ4];omega) _ fun H5 B5=>?_
  have tk:rs.take (i+1)=rs.take i++[o]:=by rw[List.take_add_one,ho];rfl
  refine⟨_,cs++[l1++l2],rfl,?_,?_⟩
  ·rw[List.flatten_append,List.flatten_cons,List.flatten_nil,List.append_nil,←List.append_assoc];exact B5
  ·rw[tk];exact Paired.snoc W ⟨l1,l2,rfl,b1,b2⟩
 ·obtain⟨o3,cs,rfl,B,W⟩:=h
  rw[lx,List.take_length]at W
  obtain⟨sm,ys,h1,h2⟩:=B
  exact⟨_,rfl,q l ys cs H' sm hl h1 h2 W⟩
inductive a1X(K:PySem.W.Frag)(vs:List V)(H:Hp)(Q:VK):Prop
 | mk (a:Addr) (n:Int) (zs:List V) (rg:List Lk) (j:Nat) (x0:vs=[.ref a,.int n]) (x1:H a=some (.lst zs)) (x2:v7 H rg zs) (x3:rg.length≤100000) (x4:(rg.map (·.1))[j]?=some n) (x5:(∀i,i<j→(rg.map (·.1))[i]?≠some n)) (xq:∀(l:Addr) (H':Hp),g6 H H'→H l=none→H' l=some (.lst (zs.drop j++zs.take j))→Q (.ref l) H')
def b3d(K:PySem.W.Frag):Sp:=fun vs H Q _=>a1X K vs H Q
set_option maxHeartbeats 0 in
theorem b9g(T:A1 K mg t):g8 P w K mg base x9 1 t.f_turned t.d_turned ["ring","number"] (b3d K):=by
 refine T.F_turned.ok a1F (fun vs H Q E h=>?_) (fun cdv A outer s H vs Q E hr h=>?_)
 ·obtain⟨a,n,zs,rg,j,rfl,_⟩:=h
  rfl
 obtain⟨a,n,zs,rg,j,rfl,ha,hL,z1,hj,hf,q⟩:=h
 refine⟨_,(b8 (g7 (i:=2) a1F.nd rfl (Or.inl rfl) (p8 PySem.F.plainAttrs_list PySem.F.slot_list_index PySem.F.type_list_index b0p (N6 rfl (t6 (pv 0)) (C5.mk (own:=["link"]) (tl:=["ring","number","place"]) rfl rfl rfl (fun _ _ _ _ _=>(m5 (i:=0) (a1S) rfl (Or.inl rfl))) (fun _ _ _ _ _=>V0) (fun _ _ _ _ _=>(d8 N9 (pv 0) (u0 rfl T.m_ONE T.r_ONE) (fun _ _=>rfl))))) (a6 (pv 1) b6)))
 (c9 (i3 (j6 a3c (R3 U7 (pv 0) (T8 (pv 2)) U9) (R3 U7 (pv 0) U9 (T8 (pv 2))))))),?_⟩
 have lz:=hL.len
 refine⟨_,rfl,a,rfl,⟨_,d7.of ha⟩,fun acc hacc=>?_⟩
 refine B7 (xs:=zs) (fun i H'=>g6 H H'∧H' acc=some (.lst (((rg.take i).map (·.1)).map V.int))) ⟨b9 hacc,b0⟩ (fun i H' _ h=>d7.of (h.1 _ _ ha)) (fun i x H' hx h=>?_) (fun H1 h=>?_)
 ·obtain⟨sm,h1⟩:=h
  obtain⟨l,hl,c,rfl,hc⟩:=hL.get hx
  have li:=(qQ1.mp hl).1
  refine⟨_,rfl,c,_,0,_,rfl,rfl,i4.of (sm _ _ hc),rfl,_,h1,m9 (by rw[qQ0,qQ0,List.length_take];omega),j7 sm hacc,?_⟩
  rw[b0,List.take_add_one,hl,Option.toList_some,qQ6,qQ6];rfl
 obtain⟨s1,h1⟩:=h
 rw[lz,List.take_length]at h1
 have lj:=(qQ1.mp hj).1
 rw[qQ0]at lj
 refine⟨.inl ⟨rfl,_,d7.of h1⟩,_,rfl,acc,rg.map (·.1),n,j,rfl,rfl,h1,hj,hf,?_⟩
 refine⟨_,rfl,_,rfl,_,rfl,a,_,rfl,d7.of (s1 _ _ ha),fun c1 hc1=>?_⟩
 rw[a6t]
 have s2:=s1.trans (b9 (o:=.lst (zs.drop j)) hc1)
 refine⟨_,rfl,_,rfl,_,rfl,a,_,rfl,d7.of (s2 _ _ ha),fun c2 hc2=>?_⟩
 rw[a0L]
 have t2:=b9 (o:=.lst (zs.take j)) hc2
 refine⟨c1,c2,_,_,rfl,rfl,t2 _ _ b0,b0,?_,fun c3 hc3=>?_⟩
 ·rw[List.length_drop,List.length_take,sizeLine_eq];omega
 have t3:=b9 (o:=.lst (zs.drop j++zs.take j)) hc3
 exact q c3 _ ((s2.trans t2).trans t3) (A4 (s2.trans t2) hc3) b0
inductive a7g(t:B4)(K:PySem.W.Frag)(vs:List V)(H:Hp)(Q:VK):Prop
 | mk (x dx:Addr) (n b:Int) (x0:vs=[.ref x,.int n,.int b]) (x1:H x=some (.ins t.C_Dealing dx [])) (xq:∀(lk as:Addr) (H':Hp),H lk=none→H as=none→lk≠as→H' x=some (.ins t.C_Dealing dx (Y9 n b lk as))→H' lk=some (.dK [])→H' as=some (.dK [])→But x H H'→Q .non H')
def a7j(t:B4)(K:PySem.W.Frag):Sp:=fun vs H Q _=>a7g t K vs H Q
set_option maxHeartbeats 0 in
theorem a0k(T:A1 K mg t):g8 P w K mg base x9 1 t.f_Dealing___init__ t.d_Dealing___init__ ["self","number","began"] (a7j t K):=by
 refine T.F_Dealing___init__.ok a9j (fun vs H Q E h=>?_) (fun cdv A outer s H vs Q E hr h=>?_)
 ·obtain⟨x,dx,n,b,rfl,_⟩:=h
  rfl
 obtain⟨x,dx,n,b,rfl,hx,q⟩:=h
 refine⟨_,(b8 (L5 (pv 0) (pv 1) rfl)
 (b8 (L5 (pv 0) (pv 2) rfl)
 (b8 (L5 (pv 0) C3 rfl)
 (c9 (L5 (pv 0) C3 rfl))))),?_⟩
 refine⟨_,rfl,_,rfl,x,_,dx,_,rfl,hx,T.cl_Dealing,T.n_Dealing_number,(by show 0<1000;decide),?_⟩
 refine⟨_,rfl,_,rfl,x,_,dx,_,rfl,b0,T.cl_Dealing,T.n_Dealing_began,(by show 1<1000;decide),fun lk hlk=>?_⟩
 have nlk:lk≠x:=fun z=>by rw[z,b0]at hlk;cases hlk
 refine⟨_,rfl,x,_,dx,_,rfl,by rw[b7 (Ne.symm nlk)];exact b0,T.cl_Dealing,T.n_Dealing_looked,(by show 2<1000;decide),fun as has=>?_⟩
 have nas:as≠x:=fun z=>by rw[z,b0]at has;cases has
 have nal:as≠lk:=fun z=>by rw[z,b7 nlk,b0]at has;cases has
 refine⟨_,rfl,x,_,dx,_,rfl,by rw[b7 (Ne.symm nas)];exact b0,T.cl_Dealing,T.n_Dealing_aside,(by show 3<1000;decide),?_⟩
 refine q lk as _ (by rw[b7 nlk,b7 nlk]at hlk;exact hlk) (by rw[b7 nas,b7 nal,b7 nas,b7 nas]at has;exact has) (Ne.symm nal) b0 ?_ ?_ fun c o nc hc=>?_
 ·rw[b7 nlk,b7 (Ne.symm nal),b7 nlk];exact b0
 ·rw[b7 nas];exact b0
 ·have h1:lk≠c:=fun z=>by rw[z,b7 nc,b7 nc,hc]at hlk;cases hlk
  have h2:as≠c:=fun z=>by rw[z,b7 nc,b7 (Ne.symm h1),b7 nc,b7 nc,hc]at has;cases has
  rw[b7 nc,b7 (Ne.symm h2),b7 nc,b7 (Ne.symm h1),b7 nc,b7 nc];exact hc
def U2(ks:List Str):Prop:=(ks.map fun g=>[(Sum.inr g.cps.toList:Atom)]).Pairwise a0u.kle
inductive a5m(t:B4)(K:PySem.W.Frag)(vs:List V)(H:Hp)(Q:VK):Prop
 | mk (p dx lk as:Addr) (n b e:Int) (ks:List Str) (am:Am) (x0:vs=[.ref p,.int e]) (x1:H p=some (.ins t.C_Dealing dx (Y9 n b lk as))) (x2:H lk=some (.dK (S0 ks))) (x3:H as=some (.dK (y8 am))) (x4:ks.length≤63) (x5:am.length≤63) (xq:∀(r la pa:Addr) (ys zs:List Str) (H':Hp),g6 H H'→H la=none→H pa=none→la≠pa→H' r=some (.tup [.int n,.int b,.int e,.ref la,.ref pa])→H' la=some (.lst (ys.map V.str))→H' pa=some (.lst (zs.map V.str))→ys.Perm ks→zs.Perm (am.map (·.1))→U2 ys→U2 zs→Q (.ref r) H')
def a6p(t:B4)(K:PySem.W.Frag):Sp:=fun vs H Q _=>a5m t K vs H Q
set_option maxHeartbeats 0 in
theorem a0q(T:A1 K mg t):g8 P w K mg base x9 1 t.f_Dealing_record t.d_Dealing_record ["self","ended"] (a6p t K):=by
 refine T.F_Dealing_record.ok a8p (fun vs H Q E h=>?_) (fun cdv A outer s H vs Q E hr h=>?_)
 ·obtain⟨p,dx,lk,as,n,b,e,ks,am,rfl,_⟩:=h
  rfl
 obtain⟨p,dx,lk,as,n,b,e,ks,am,rfl,hp,hlk,has,z1,z2,q⟩:=h
 refine⟨_,(c9 (i3 (u6 (a6 (q5 (pv 0) rfl) (a6 (q5 (pv 0) rfl) (a6 (pv 1) (a6 (f6 (Q8 rfl) rfl T.m_sorted boot_sorted (a6 (q5 (pv 0) rfl) b6)) (a6 (f6 (Q8 rfl) rfl T.m_sorted boot_sorted (a6 (q5 (pv 0) rfl) b6)) b6)))))))),?_⟩
 refine⟨_,rfl,p,_,dx,_,_,rfl,hp,T.cl_Dealing,T.n_Dealing_number,rfl,_,rfl,p,_,dx,_,_,rfl,hp,T.cl_Dealing,T.n_Dealing_began,rfl,_,rfl,_,rfl,p,_,dx,_,_,rfl,hp,T.cl_Dealing,T.n_Dealing_looked,rfl,lk,_,rfl,.inl hlk,?_,fun la ys' hla pm1 io1=>?_⟩
 ·rw[a2J];exact⟨by simp only[qQ0];omega,fun x hx=>by obtain⟨z,_,rfl⟩:=qQ3.mp hx;exact⟨z,rfl⟩⟩
 rw[a2J]at pm1
 obtain⟨ys,rfl,py⟩:=J3 pm1
 have s1:=b9 (o:=.lst (ys.map V.str)) hla
 refine⟨_,rfl,p,_,dx,_,_,rfl,s1 _ _ hp,T.cl_Dealing,T.n_Dealing_aside,rfl,as,_,rfl,.inl (s1 _ _ has),?_,fun pa zs' hpa pm2 io2=>?_⟩
 ·rw[a6s];exact⟨by simp only[qQ0];omega,fun x hx=>by obtain⟨z,_,rfl⟩:=qQ3.mp hx;exact⟨z,rfl⟩⟩
 rw[a6s]at pm2
 obtain⟨zs,rfl,pz⟩:=J3 pm2
 have s2:=b9 (o:=.lst (zs.map V.str)) hpa
 unfold N8 at io1 io2
 rw[List.map_map]at io1 io2
 refine⟨(by show 5≤sizeLine;decide),fun r hr0=>?_⟩
 have s3:=b9 (o:=.tup [.int n,.int b,.int e,.ref la,.ref pa]) hr0
 have ne:la≠pa:=e7 b0 hpa
 exact q r la pa ys zs _ ((s1.trans s2).trans s3) hla (A4 s1 hpa) ne b0 (s3 _ _ (s2 _ _ b0)) (s3 _ _ b0) py pz io1 io2
inductive a8r(t:B4)(K:PySem.W.Frag)(vs:List V)(H:Hp)(Q:VK):Prop
 | mk (p dx U Vd R L W:Addr) (b:Int) (xs:List V) (x0:vs=[.ref p]) (x1:H p=some (.ins t.C_Tally dx (F8 b U Vd R L W))) (x2:H R=some (.lst xs)) (xq:Q (.int (xs.length:Int)) H)
def a6x(t:B4)(K:PySem.W.Frag):Sp:=fun vs H Q _=>a8r t K vs H Q
theorem K6(T:A1 K mg t):g8 P w K mg base x9 1 t.f_Tally_moment t.d_Tally_moment ["self"] (a6x t K):=by
 refine T.F_Tally_moment.ok a0x (fun vs H Q E h=>?_) (fun cdv A outer s H vs Q E hr h=>?_)
 ·obtain⟨p,dx,U,Vd,R,L,W,b,xs,rfl,_⟩:=h
  rfl
 obtain⟨p,dx,U,Vd,R,L,W,b,xs,rfl,hp,hR,q⟩:=h
 refine⟨_,(c9 (i3 (f6 g9 rfl T.m_len PySem.boot_len (a6 (q5 (pv 0) rfl) b6)))),?_⟩
 exact⟨_,rfl,p,_,dx,_,_,rfl,hp,T.cl_Tally,T.n_Tally_records,rfl,R,xs,rfl,.inl (d7.of hR),q⟩
def Pst(t:B4)(G:Gh)(H:Hp)(p:Addr)(st:j0)(Q:Hp→Prop):Prop:=∀(G':Gh) (H':Hp),TA t.C_Tally t.C_Dealing G' H' p st→Kp G H G' H'→Q H'
theorem TA.gh{CT CD p:Addr}{G G':Gh}{H:Hp}{st:j0}(h:TA CT CD G H p st)(hr:∀b ρ,G.rl b=ρ→ρ≠.free→G'.rl b=ρ)(hc:∀b,H b=none→G'.rl b=.free)(e0:G'.dx=G.dx)(e1:G'.U=G.U)(e2:G'.Vd=G.Vd)(e3:G'.R=G.R)(e4:G'.L=G.L)(e5:G'.W=G.W)
  (ed:∀d∈st.under,G'.dp d.num=G.dp d.num∧G'.dd d.num=G.dd d.num∧G'.lk d.num=G.lk d.num∧G'.as d.num=G.as d.num) (ev:∀q∈st.vers,G'.vl q.1=G.vl q.1):TA CT CD G' H p st where
 ob:=by rw[e0,e1,e2,e3,e4,e5];exact h.ob
 un:=by
  rw[e1,h.un]
  congr 2
  refine U1 fun n hn=>?_
  obtain⟨d,hd,rfl⟩:=qQ3.mp hn
  rw[(ed d hd).1]
 ve:=by
  rw[e2,h.ve]
  congr 2
  exact List.map_congr_left fun q hq=>by rw[ev q hq]
 rc:=by
  obtain⟨xs,h1,h2⟩:=h.rc
  refine⟨xs,by rw[e3];exact h1,Paired.mapP h2 fun _ _ ⟨b,la,pa,e,z1,z2,z3,z4,z5⟩=>⟨b,la,pa,e,z1,z2,z3,hr _ _ z4 (by simp),hr _ _ z5 (by simp)⟩⟩
 ln:=by rw[e4];exact h.ln
 rw:=by rw[e5];exact h.rw
 dl:=fun d hd=>by
  obtain⟨a1,a2,a3,a4⟩:=ed d hd
  have D:=h.dl d hd
  refine⟨by rw[a1,a2,a3,a4];exact D.ob,by rw[a3];exact D.lk,by rw[a4];exact D.as,by rw[a1];exact hr _ _ D.r1 (by simp),by rw[a3];exact hr _ _ D.r2 (by simp),by rw[a4];exact hr _ _ D.r3 (by simp)⟩
 vl:=fun q hq=>by
  obtain⟨xs,h1,h2,h3⟩:=h.vl q hq
  rw[ev q hq]
  exact⟨xs,h1,h2,hr _ _ h3 (by simp)⟩
 r0:=hr _ _ h.r0 (by simp)
 r1:=by rw[e1];exact hr _ _ h.r1 (by simp)
 r2:=by rw[e2];exact hr _ _ h.r2 (by simp)
 r3:=by rw[e3];exact hr _ _ h.r3 (by simp)
 r4:=by rw[e4];exact hr _ _ h.r4 (by simp)
 r5:=by rw[e5];exact hr _ _ h.r5 (by simp)
 nd:=h.nd
 vd:=h.vd
 cl:=hc
theorem a2M{H:Hp}{a:Addr}{o:HO}{C dx:Addr}{fs:List (Str×V)}(h:H a=some (.ins C dx fs)):r9 H (upd H a o):=
 ⟨fun b xs e=>by rw[b7 (a7v e h (by intro z;cases z))];exact e,fun b o xs e=>by rw[b7 (a7v e h (by intro z;cases z))];exact e⟩
section
variable{CT CD p:Addr}{G:Gh}{H:Hp}{st:j0}
theorem TA.setObj(h:TA CT CD G H p st){b:Nat}{L W:Addr}{ls:List Lk}{row:List Int}(hl:∃xs,H L=some (.lst xs)∧v7 H ls xs)(hw:H W=some (.lst (row.map V.int)))(rL:G.rl L=.fz)(rW:G.rl W=.fz) :
  TA CT CD { G with L:=L,W:=W } (upd H p (.ins CT G.dx (F8 (b:Int) G.U G.Vd G.R L W))) p { st with begun:=b,links:=ls,row:=row }∧Kp G H { G with L:=L,W:=W } (upd H p (.ins CT G.dx (F8 (b:Int) G.U G.Vd G.R L W))):=by
 have t:r9 H (upd H p (.ins CT G.dx (F8 (b:Int) G.U G.Vd G.R L W))):=a2M h.ob
 refine⟨⟨b0,d6 h.un h.r1 h.r0 (by simp),d6 h.ve h.r2 h.r0 (by simp),?_,?_,d6 hw rW h.r0 (by simp),fun e he=>?_,fun q hq=>?_,h.r0,h.r1,h.r2,h.r3,rL,rW,h.nd,h.vd,fun b e=>h.cl b (n6 e)⟩,⟨fun c o f e=>by rw[b7 fun z=>by rw[z,h.r0]at f;cases f];exact e,t,fun _ _ f _=>f,fun _ e=>n6 e⟩⟩
 ·obtain⟨xs,h1,h2⟩:=h.rc
  exact⟨xs,d6 h1 h.r3 h.r0 (by simp),Paired.mapP h2 fun _ _ z=>z.upd h.r0 (by simp) t⟩
 ·obtain⟨xs,h1,h2⟩:=hl
  exact⟨xs,d6 h1 rL h.r0 (by simp),h2.tupK t⟩
 ·have E:=h.dl e he
  exact⟨d6 E.ob E.r1 h.r0 (by simp),d6 E.lk E.r2 h.r0 (by simp),d6 E.as E.r3 h.r0 (by simp),E.r1,E.r2,E.r3⟩
 ·obtain⟨xs,h1,h2,h3⟩:=h.vl q hq
  exact⟨xs,d6 h1 h3 h.r0 (by simp),A8 t h2,h3⟩
def G6(G:Gh)(n:Int)(x dx lk as:Addr):Gh:={ G with
 rl:=fun b=>if b=x then .deal n else if b=lk then .look n else if b=as then .side n else G.rl b
 dp:=fun m=>if m=n then x else G.dp m
 dd:=fun m=>if m=n then dx else G.dd m
 lk:=fun m=>if m=n then lk else G.lk m
 as:=fun m=>if m=n then as else G.as m }
theorem TA.addD(h:TA CT CD G H p st){n b:Int}{x dx lk as:Addr}{H1:Hp}(hn:∀d∈st.under,d.num≠n)(s:g6 H H1)(hx:H x=none)(hlk:H lk=none)(has:H as=none)(nl:x≠lk)(na:x≠as)(nla:lk≠as)
  (h1:H1 x=some (.ins CD dx (Y9 n b lk as))) (h2:H1 lk=some (.dK [])) (h3:H1 as=some (.dK [])) :
  TA CT CD (G6 G n x dx lk as) (upd H1 G.U (.dK (putK (l7 (st.under.map (·.num)) fun n=>.ref (G.dp n)) (Sum.inl n) (.ref x)))) p { st with under:=st.under++[⟨n,b,[],[]⟩] }∧Kp G H (G6 G n x dx lk as) (upd H1 G.U (.dK (putK (l7 (st.under.map (·.num)) fun n=>.ref (G.dp n)) (Sum.inl n) (.ref x)))):=by
 have old:∀c o,H c=some o→c≠x∧c≠lk∧c≠as:=fun c o e=>⟨e7 e hx,e7 e hlk,e7 e has⟩
 have rl_old:∀c o,H c=some o→(G6 G n x dx lk as).rl c=G.rl c:=fun c o e=>by
  obtain⟨a1,a2,a3⟩:=old c o e
  show(if c=x then _ else if c=lk then _ else if c=as then _ else _)=_
  rw[if_neg a1,if_neg a2,if_neg a3]
 have nin:n∉st.under.map (·.num):=fun z=>by obtain⟨d,hd,e⟩:=qQ3.mp z;exact hn d hd e
 have fx:=h.cl x hx
 have fk:=h.cl lk hlk
 have fa:=h.cl as has
 have hG1:TA CT CD (G6 G n x dx lk as) H1 p st:=(h.same s).gh (fun c ρ e ne=>by
  show(if c=x then _ else if c=lk then _ else if c=as then _ else _)=_
  rw[if_neg fun z=>ne (by rw[←e,z,fx]),if_neg fun z=>ne (by rw[←e,z,fk]),if_neg fun z=>ne (by rw[←e,z,fa])]
  exact e) (fun c e=>by
  show(if c=x then _ else if c=lk then _ else if c=as then _ else _)=_
  rw[if_neg (fun z=>by rw[z,h1]at e;cases e),if_neg (fun z=>by rw[z,h2]at e;cases e),if_neg (fun z=>by rw[z,h3]at e;cases e)]
  exact h.cl c (j5 s e)) rfl rfl rfl rfl rfl rfl (fun d hd=>by
  have:=hn d hd
  exact⟨if_neg this,if_neg this,if_neg this,if_neg this⟩) fun _ _=>rfl
 have rx:(G6 G n x dx lk as).rl x=.deal n:=if_pos rfl
 have rk:(G6 G n x dx lk as).rl lk=.look n:=by
  show(if lk=x then _ else if lk=lk then _ else _)=_
  rw[if_neg (Ne.symm nl),if_pos rfl]
 have ra:(G6 G n x dx lk as).rl as=.side n:=by
  show(if as=x then _ else if as=lk then _ else if as=as then _ else _)=_
  rw[if_neg (Ne.symm na),if_neg (Ne.symm nla),if_pos rfl]
 have t:∀o,r9 H1 (upd H1 G.U o):=fun o=>M4 hG1.un
 have rU:(G6 G n x dx lk as).rl G.U=.under:=hG1.r1
 refine⟨⟨d6 hG1.ob hG1.r0 rU (by simp),?_,d6 hG1.ve hG1.r2 rU (by simp),?_,?_,d6 hG1.rw hG1.r5 rU (by simp),fun e he=>?_,fun q hq=>?_,hG1.r0,hG1.r1,hG1.r2,hG1.r3,hG1.r4,hG1.r5,?_,hG1.vd,fun b e=>hG1.cl b (n6 e)⟩,⟨fun c o f e=>?_,s.tupK.trans (t _),fun c o f e=>by rw[rl_old c o e];exact f,fun c e=>j5 s (n6 e)⟩⟩
 ·show upd H1 G.U _ G.U=_
  rw[b0,L6,if_neg nin]
  congr 2
  show _=l7 ((st.under++([⟨n,b,[],[]⟩]:List Dl)).map (·.num)) _
  rw[qQ6]
  refine U1 fun m _=>?_
  show a0c _ n (.ref x) m=V.ref (if m=n then x else G.dp m)
  unfold a0c
  split<;>rfl
 ·obtain⟨xs,z1,z2⟩:=hG1.rc
  exact⟨xs,d6 z1 hG1.r3 rU (by simp),Paired.mapP z2 fun _ _ z=>z.upd rU (by simp) (t _)⟩
 ·obtain⟨xs,z1,z2⟩:=hG1.ln
  exact⟨xs,d6 z1 hG1.r4 rU (by simp),z2.tupK (t _)⟩
 ·rcases qQ5.mp he with he | he
  ·have E:=hG1.dl e he
   exact⟨d6 E.ob E.r1 rU (by simp),d6 E.lk E.r2 rU (by simp),d6 E.as E.r3 rU (by simp),E.r1,E.r2,E.r3⟩
  ·rw[qQ2.mp he]
   have e1:(G6 G n x dx lk as).dp n=x:=if_pos rfl
   have e2:(G6 G n x dx lk as).dd n=dx:=if_pos rfl
   have e3:(G6 G n x dx lk as).lk n=lk:=if_pos rfl
   have e4:(G6 G n x dx lk as).as n=as:=if_pos rfl
   exact⟨by show upd H1 G.U _ ((G6 G n x dx lk as).dp n)=some (.ins CD ((G6 G n x dx lk as).dd n) (Y9 n b ((G6 G n x dx lk as).lk n) ((G6 G n x dx lk as).as n)));rw[e1,e2,e3,e4];exact d6 h1 rx rU (by simp),by show upd H1 G.U _ ((G6 G n x dx lk as).lk n)=_;rw[e3];exact d6 h2 rk rU (by simp),by show upd H1 G.U _ ((G6 G n x dx lk as).as n)=_;rw[e4];exact d6 h3 ra rU (by simp),by show(G6 G n x dx lk as).rl ((G6 G n x dx lk as).dp n)=_;rw[e1];exact rx,by show(G6 G n x dx lk as).rl ((G6 G n x dx lk as).lk n)=_;rw[e3];exact rk,by show(G6 G n x dx lk as).rl ((G6 G n x dx lk as).as n)=_;rw[e4];exact ra⟩
 ·obtain⟨xs,z1,z2,z3⟩:=hG1.vl q hq
  exact⟨xs,d6 z1 z3 rU (by simp),A8 (t _) z2,z3⟩
 ·show((st.under++([⟨n,b,[],[]⟩]:List Dl)).map (·.num)).Nodup
  rw[qQ6,List.nodup_append]
  refine⟨hG1.nd,by simp,fun m hm k hk e=>nin ?_⟩
  have:k=n:=by simpa using hk
  rw[←this,←e];exact hm
 ·rw[b7 fun z=>by rw[z,h.r1]at f;cases f];exact s _ _ e
end
def a7f(st:j0):j0:={ st with begun:=st.begun+1,under:=st.under++([⟨(st.begun:Int),(st.recs.length:Int),[],[]⟩]:List Dl) }
inductive a0y(t:B4)(K:PySem.W.Frag)(vs:List V)(H:Hp)(Q:VK):Prop
 | mk (G:Gh) (p:Addr) (st:j0) (x0:vs=[.ref p]) (x1:TA t.C_Tally t.C_Dealing G H p st) (x2:(∀d∈st.under,d.num≠(st.begun:Int))) (x3:st.under.length≤1000) (xq:Pst t G H p (a7f st) fun H'=>Q (.int (st.begun:Int)) H')
def a8z(t:B4)(K:PySem.W.Frag):Sp:=fun vs H Q _=>a0y t K vs H Q
set_option maxHeartbeats 0 in
theorem a5z(T:A1 K mg t):g8 P w K mg base x9 3 t.f_Tally_begin t.d_Tally_begin ["self"] (a8z t K):=by
 refine T.F_Tally_begin.ok a9e (fun vs H Q E h=>?_) (fun cdv A outer s H vs Q E hr h=>?_)
 ·obtain⟨G,p,st,rfl,_⟩:=h
  rfl
 obtain⟨G,p,st,rfl,h,hn,hz,q⟩:=h
 have hu:=K9 hr
 refine⟨_,(b8 (g7 (i:=1) a9e.nd rfl (Or.inl rfl) (q5 (pv 0) rfl))
 (b8 (L5 (pv 0) (j6 G4 (pv 1) d5) rfl)
 (b8 (F6 hu (q5 (pv 0) rfl) (pv 1) (b5q T.K_Dealing (g8.mono (k:=1) (a0k T) (by decide)) hr rfl T.mg_Dealing T.F_Dealing___init__.b .nil l4 (a6 (pv 1) (a6 (O5 (pv 0) T.cl_Tally T.M_Tally_moment (g8.mono (k:=2) (K6 T) (by decide)) hr T.F_Tally_moment.b .nil l4) b6))) rfl)
 (c9 (i3 (pv 1)))))),?_⟩
 refine⟨_,rfl,p,_,_,_,_,rfl,h.ob,T.cl_Tally,T.n_Tally_begun,rfl,?_⟩
 refine⟨_,rfl,_,_,rfl,rfl,_,rfl,p,_,_,_,rfl,h.ob,T.cl_Tally,T.n_Tally_begun,(by show 6<1000;decide),?_⟩
 obtain⟨h1,k1⟩:=h.setObj (b:=st.begun+1) h.ln h.rw h.r4 h.r5
 have e1:M7 "begun" (.int ((st.begun:Int)+1)) (F8 (st.begun:Int) G.U G.Vd G.R G.L G.W)=F8 ((st.begun+1:Nat):Int) G.U G.Vd G.R G.L G.W:=rfl
 rw[e1]
 generalize upd H p (.ins t.C_Tally G.dx (F8 ((st.begun+1:Nat):Int) G.U G.Vd G.R G.L G.W))=H1 at h1 k1 ⊢
 obtain⟨xs,hR,pR⟩:=h1.rc
 have lR:=n5 pR
 refine⟨_,rfl,_,rfl,p,_,_,rfl,h1.ob,rfl,p,_,_,_,_,_,_,_,xs,rfl,h1.ob,hR,?_⟩
 intro x dx nx ndx nxd
 have s0:g6 H1 (upd (upd H1 dx (.own x)) x (.ins t.C_Dealing dx [])):=j7 (b9 ndx) nx
 refine⟨x,dx,_,_,rfl,b0,fun lk as H2 nlk nas nla hx hlk has bt=>⟨rfl,?_⟩⟩
 have nx0:∀{c:Addr},(upd (upd H1 dx (.own x)) x (.ins t.C_Dealing dx [])) c=none→H1 c=none∧x≠c:=fun {c} e=>⟨A4 s0 e,fun z=>by rw[←z,b0]at e;cases e⟩
 have s1:g6 H1 H2:=fun c o e=>bt c o (e7 e nx) (s0 c o e)
 have h2:=h1.same s1
 refine⟨_,rfl,p,_,_,_,_,rfl,h2.ob,T.cl_Tally,T.n_Tally_under_way,rfl,_,rfl,G.U,_,rfl,M5.k (k:=Sum.inl (st.begun:Int)) h2.un (m9 (by rw[K2,qQ0];show st.under.length≤_;omega)),?_⟩
 obtain⟨h3,k3⟩:=h1.addD (n:=(st.begun:Int)) (b:=(xs.length:Int)) hn s1 nx (nx0 nlk).1 (nx0 nas).1 (nx0 nlk).2 (nx0 nas).2 nla hx hlk has
 refine⟨_,rfl,q _ _ ?_ (k1.trans k3)⟩
 have e2:(xs.length:Int)=(st.recs.length:Int):=by rw[lR]
 rw[e2]at h3
 exact h3
def v8(v:G3)(g:Str):List (Int×Int):=((v.find? fun q=>decide (q.1=g)).map (·.2)).getD []
theorem a4f(v:G3)(f:Str→V)(g:Str):A3 (v.map fun q=>((Sum.inr q.1:Key),f q.1)) (Sum.inr g)=if g∈v.map (·.1) then some (f g) else none:=by
 unfold A3
 induction v with
 | nil=>rfl
 | cons q v ih=>
  rw[List.map_cons,List.find?_cons,a7n,List.map_cons]
  by_cases e:q.1=g
  ·subst e;simp
  ·rw[decide_eq_false e]
   have:(g∈q.1::v.map (·.1))↔g∈v.map (·.1):=by
    rw[qQ9];exact⟨fun z=>z.elim (fun w=>absurd w.symm e) id,.inr⟩
   simp only[this];exact ih
theorem a7h{v:G3}(nd:(v.map (·.1)).Nodup){q:Str×List (Int×Int)}(h:q∈v):v8 v q.1=q.2:=by
 unfold v8
 induction v with
 | nil=>exact nomatch h
 | cons a v ih=>
  rw[List.map_cons,List.nodup_cons]at nd
  rw[List.find?_cons]
  rcases qQ9.mp h with e | h'
  ·subst e;rw[decide_eq_true rfl];rfl
  ·have ne:¬a.1=q.1:=fun z=>nd.1 (by rw[z];exact qQ3.mpr ⟨q,h',rfl⟩)
   rw[decide_eq_false ne]
   exact ih nd.2 h'
theorem b3b{v:G3}{g:Str}(h:g∉v.map (·.1)):v8 v g=[]:=by
 unfold v8
 rw[List.find?_eq_none.mpr fun q hq=>by simpa using fun z=>h (qQ3.mpr ⟨q,hq,z⟩)];rfl
def a1Y(st:j0)(n:Int)(g:Str):j0:={ st with under:=A6 st.under n (P1 g) }
inductive a4C(t:B4)(K:PySem.W.Frag)(vs:List V)(H:Hp)(Q:VK):Prop
 | mk (G:Gh) (p:Addr) (st:j0) (d:Dl) (g:Str) (x0:vs=[.ref p,.int d.num,.str g]) (x1:TA t.C_Tally t.C_Dealing G H p st) (x2:d∈st.under) (x3:d.looked.length≤1000) (x4:(∀q∈st.vers,q.2.length≤100000)) (x5:(∀a,p9 d.aside g=some a→Q (.int a) H)) (xq:(p9 d.aside g=none→Pst t G H p (a1Y st d.num g) fun H'=>Q (.int (valueAt (v8 st.vers g) d.beg)) H'))
def a2G(t:B4)(K:PySem.W.Frag):Sp:=fun vs H Q _=>a4C t K vs H Q
set_option maxHeartbeats 0 in
theorem a2I(T:A1 K mg t):g8 P w K mg base x9 3 t.f_Tally_look t.d_Tally_look ["self","number","good"] (a2G t K):=by
 refine T.F_Tally_look.ok a4j (fun vs H Q E h=>?_) (fun cdv A outer s H vs Q E hr h=>?_)
 ·obtain⟨G,p,st,d,g,rfl,_⟩:=h
  rfl
 obtain⟨G,p,st,d,g,rfl,h,hd,hz,hv,q1,q2⟩:=h
 have hu:=K9 hr
 refine⟨_,(b8 (g7 (i:=3) a4j.nd rfl (Or.inl rfl) (u4 hu (q5 (pv 0) rfl) (pv 1) (fun _ _=>rfl)))
 (b8 (k7 (f7 (a8w hu) (pv 2) (q5 (pv 3) rfl) (by with_unfolding_all rfl))
 (c9 (i3 (u4 hu (q5 (pv 3) rfl) (pv 2) (fun _ _=>rfl))))
 i9)
 (b8 (F6 hu (q5 (pv 3) rfl) (pv 2) y6 rfl)
 (c9 (i3 (j9 (g8.mono (k:=2) (a5q T) (by decide)) hr rfl T.m_value_at T.F_value_at.kp T.F_value_at.b .nil l4 (a6 (a4s hu (q5 (pv 0) rfl) (pv 2) (m4 b6) ⟨rfl,rfl,rfl,rfl⟩) (a6 (q5 (pv 3) rfl) b6)))))))),?_⟩
 have D:=h.dl d hd
 have dg:=t9.k (k:=Sum.inl d.num) h.un
 rw[p6,if_pos (qQ3.mpr ⟨d,hd,rfl⟩)]at dg
 refine⟨_,rfl,p,_,_,_,_,rfl,h.ob,T.cl_Tally,T.n_Tally_under_way,rfl,_,rfl,G.U,_,rfl,dg,?_⟩
 have ds:=t9.k (k:=Sum.inr g) D.as
 rw[U8]at ds
 refine⟨_,rfl,_,rfl,G.dp d.num,_,_,_,_,rfl,D.ob,T.cl_Dealing,T.n_Dealing_aside,rfl,G.as d.num,_,rfl,ds,_,rfl,?_⟩
 cases hg:p9 d.aside g with
 | some a=>
  refine l5 ?_
  rw[hg]at ds
  exact⟨_,rfl,G.dp d.num,_,_,_,_,rfl,D.ob,T.cl_Dealing,T.n_Dealing_aside,rfl,_,rfl,G.as d.num,_,rfl,ds,q1 a hg⟩
 | none=>
  refine d9 ?_
  refine⟨_,rfl,G.dp d.num,_,_,_,_,rfl,D.ob,T.cl_Dealing,T.n_Dealing_looked,rfl,_,rfl,G.lk d.num,_,rfl,M5.k (k:=Sum.inr g) D.lk (m9 (by rw[b0u];omega)),?_⟩
  rw[b1t]
  obtain⟨h1,k1⟩:=h.setLook hd g
  have ob1:(upd H (G.lk d.num) (.dK (S0 (L8 d.looked g)))) (G.dp d.num)=some (.ins t.C_Dealing (G.dd d.num) (Y9 d.num d.beg (G.lk d.num) (G.as d.num))):=d6 D.ob D.r1 D.r2 (by simp)
  have hv1:(upd H (G.lk d.num) (.dK (S0 (L8 d.looked g)))) G.Vd=some (.dK (st.vers.map fun q=>((Sum.inr q.1:Key),V.ref (G.vl q.1)))):=h1.ve
  have vl1:∀q∈st.vers,∃xs,(upd H (G.lk d.num) (.dK (S0 (L8 d.looked g)))) (G.vl q.1)=some (.lst xs)∧Paired (VAt (upd H (G.lk d.num) (.dK (S0 (L8 d.looked g))))) q.2 xs:=fun q hq=>let ⟨xs,a,b,_⟩:=h1.vl q hq;⟨xs,a,b⟩
  have q2:=q2 hg
  generalize upd H (G.lk d.num) (.dK (S0 (L8 d.looked g)))=H1 at h1 k1 ob1 hv1 vl1 ⊢
  have dv:=fun(Hx:Hp) (hx:Hx G.Vd=_)=>t9.k (k:=Sum.inr g) (kvs:=st.vers.map fun q=>((Sum.inr q.1:Key),V.ref (G.vl q.1))) hx
  refine⟨_,rfl,p,_,_,_,_,rfl,h1.ob,T.cl_Tally,T.n_Tally_versions,rfl,G.Vd,rfl,.inl ⟨_,.inl hv1⟩,_,rfl,(by show 0≤sizeLine;decide),fun e he=>?_⟩
  have s2:=b9 (o:=.lst []) he
  have dv2:=dv _ (s2 _ _ hv1)
  rw[a4f st.vers (fun g=>V.ref (G.vl g))]at dv2
  have fin:=fun(H3:Hp) (s3:g6 (upd H1 e (.lst [])) H3)=>q2 G H3 (h1.same (s2.trans s3)) (k1.trans (Kp.same (s2.trans s3)))
  by_cases c:g∈st.vers.map (·.1)
  ·rw[if_pos c]at dv2
   obtain⟨qq,hqq,rfl⟩:=qQ3.mp c
   obtain⟨xs,x1,x2⟩:=vl1 qq hqq
   refine⟨_,dv2,_,rfl,G.dp d.num,_,_,_,_,rfl,s2 _ _ ob1,T.cl_Dealing,T.n_Dealing_began,rfl,G.vl qq.1,qq.2,d.beg,rfl,⟨xs,d7.of (s2 _ _ x1),a6i (A8 s2.tupK x2)⟩,hv qq hqq,fun H3 s3=>?_⟩
   have:=fin H3 s3
   rw[a7h h.vd hqq]at this
   exact this
  ·rw[if_neg c]at dv2
   refine⟨_,dv2,_,rfl,G.dp d.num,_,_,_,_,rfl,s2 _ _ ob1,T.cl_Dealing,T.n_Dealing_began,rfl,e,[],d.beg,rfl,⟨[],d7.of b0,rfl⟩,by simp,fun H3 s3=>?_⟩
   have:=fin H3 s3
   rw[b3b c]at this
   exact this
def putSt(st:j0)(n:Int)(g:Str)(a:Int):j0:={ st with under:=A6 st.under n (P3 g a) }
inductive a7G(t:B4)(K:PySem.W.Frag)(vs:List V)(H:Hp)(Q:VK):Prop
 | mk (G:Gh) (p:Addr) (st:j0) (d:Dl) (g:Str) (a:Int) (x0:vs=[.ref p,.int d.num,.str g,.int a]) (x1:TA t.C_Tally t.C_Dealing G H p st) (x2:d∈st.under) (x3:d.aside.length≤1000) (xq:Pst t G H p (putSt st d.num g a) fun H'=>Q .non H')
def a0O(t:B4)(K:PySem.W.Frag):Sp:=fun vs H Q _=>a7G t K vs H Q
theorem a4O(T:A1 K mg t):g8 P w K mg base x9 1 t.f_Tally_put t.d_Tally_put ["self","number","good","amount"] (a0O t K):=by
 refine T.F_Tally_put.ok a8m (fun vs H Q E h=>?_) (fun cdv A outer s H vs Q E hr h=>?_)
 ·obtain⟨G,p,st,d,g,a,rfl,_⟩:=h
  rfl
 obtain⟨G,p,st,d,g,a,rfl,h,hd,hz,q⟩:=h
 have hu:=K9 hr
 refine⟨_,(b8 (g7 (i:=4) a8m.nd rfl (Or.inl rfl) (u4 hu (q5 (pv 0) rfl) (pv 1) (fun _ _=>rfl)))
 (c9 (F6 hu (q5 (pv 4) rfl) (pv 2) (pv 3) rfl))),?_⟩
 have D:=h.dl d hd
 have dg:=t9.k (k:=Sum.inl d.num) h.un
 rw[p6,if_pos (qQ3.mpr ⟨d,hd,rfl⟩)]at dg
 refine⟨_,rfl,p,_,_,_,_,rfl,h.ob,T.cl_Tally,T.n_Tally_under_way,rfl,_,rfl,G.U,_,rfl,dg,?_⟩
 refine⟨_,rfl,_,rfl,G.dp d.num,_,_,_,_,rfl,D.ob,T.cl_Dealing,T.n_Dealing_aside,rfl,_,rfl,G.as d.num,_,rfl,M5.k (k:=Sum.inr g) D.as (m9 (by rw[a3f];omega)),?_⟩
 rw[a8n]
 obtain⟨h1,k1⟩:=h.setSide hd g a
 exact q G _ h1 k1
def u9(st:j0)(n:Int):j0:={ st with under:=K3 st.under n }
inductive a2v(t:B4)(K:PySem.W.Frag)(vs:List V)(H:Hp)(Q:VK):Prop
 | mk (G:Gh) (p:Addr) (st:j0) (d:Dl) (x0:vs=[.ref p,.int d.num]) (x1:TA t.C_Tally t.C_Dealing G H p st) (x2:d∈st.under) (xq:Pst t G H p (u9 st d.num) fun H'=>Q .non H')
def a2D(t:B4)(K:PySem.W.Frag):Sp:=fun vs H Q _=>a2v t K vs H Q
theorem a6z(T:A1 K mg t):g8 P w K mg base x9 1 t.f_Tally_leave t.d_Tally_leave ["self","number"] (a2D t K):=by
 refine T.F_Tally_leave.ok a2C (fun vs H Q E h=>?_) (fun cdv A outer s H vs Q E hr h=>?_)
 ·obtain⟨G,p,st,d,rfl,_⟩:=h
  rfl
 obtain⟨G,p,st,d,rfl,h,hd,q⟩:=h
 refine⟨_,(c9 (l6 (a2g (q5 (pv 0) rfl) (pv 1) ⟨rfl,rfl,rfl,rfl⟩))),?_⟩
 refine⟨_,rfl,p,_,_,_,_,rfl,h.ob,T.cl_Tally,T.n_Tally_under_way,rfl,G.U,rfl,.inl ⟨_,.inl h.un⟩,_,rfl,_,Sum.inl d.num,.ref (G.dp d.num),h.un,rfl,?_,?_⟩
 ·rw[p6,if_pos (qQ3.mpr ⟨d,hd,rfl⟩)]
 ·obtain⟨h1,k1⟩:=h.drop d.num
  exact q G _ h1 k1
def O1:j0:=⟨0,[],[],[],[],[]⟩
inductive a3l(t:B4)(K:PySem.W.Frag)(vs:List V)(H:Hp)(Q:VK):Prop
 | mk (p dx:Addr) (x0:vs=[.ref p]) (x1:H p=some (.ins t.C_Tally dx [])) (xq:∀(G:Gh) (H':Hp),TA t.C_Tally t.C_Dealing G H' p O1→But p H H'→(∀b o,b≠p→H b=some o→G.rl b=.free)→Q .non H')
def a7p(t:B4)(K:PySem.W.Frag):Sp:=fun vs H Q _=>a3l t K vs H Q
set_option maxHeartbeats 0 in
theorem Y2(T:A1 K mg t):g8 P w K mg base x9 1 t.f_Tally___init__ t.d_Tally___init__ ["self"] (a7p t K):=by
 refine T.F_Tally___init__.ok a5p (fun vs H Q E h=>?_) (fun cdv A outer s H vs Q E hr h=>?_)
 ·obtain⟨p,dx,rfl,_⟩:=h
  rfl
 obtain⟨p,dx,rfl,hp,q⟩:=h
 refine⟨_,(b8 (L5 (pv 0) d5 rfl)
 (b8 (L5 (pv 0) C3 rfl)
 (b8 (L5 (pv 0) C3 rfl)
 (b8 (L5 (pv 0) (m4 b6) rfl)
 (b8 (L5 (pv 0) (m4 b6) rfl)
 (c9 (L5 (pv 0) (m4 b6) rfl))))))),?_⟩
 refine⟨_,rfl,p,_,dx,_,rfl,hp,T.cl_Tally,T.n_Tally_begun,(by show 0<1000;decide),fun U hU=>?_⟩
 have a1:p≠U:=e7 b0 hU
 refine⟨_,rfl,p,_,dx,_,rfl,by rw[b7 a1];exact b0,T.cl_Tally,T.n_Tally_under_way,(by show 1<1000;decide),fun Vd hV=>?_⟩
 have a2:p≠Vd:=e7 b0 hV
 refine⟨_,rfl,p,_,dx,_,rfl,by rw[b7 a2];exact b0,T.cl_Tally,T.n_Tally_versions,(by show 2<1000;decide),(by show 0≤sizeLine;decide),fun R hR=>?_⟩
 have a3:p≠R:=e7 b0 hR
 refine⟨_,rfl,p,_,dx,_,rfl,by rw[b7 a3];exact b0,T.cl_Tally,T.n_Tally_records,(by show 3<1000;decide),(by show 0≤sizeLine;decide),fun L hL=>?_⟩
 have a4:p≠L:=e7 b0 hL
 refine⟨_,rfl,p,_,dx,_,rfl,by rw[b7 a4];exact b0,T.cl_Tally,T.n_Tally_links,(by show 4<1000;decide),(by show 0≤sizeLine;decide),fun W hW=>?_⟩
 have a5:p≠W:=e7 b0 hW
 refine⟨_,rfl,p,_,dx,_,rfl,by rw[b7 a5];exact b0,T.cl_Tally,T.n_Tally_row,(by show 5<1000;decide),?_⟩
 have b12:Vd≠U:=fun z=>by rw[z,b7 (Ne.symm a1),b0]at hV;cases hV
 have b13:R≠U:=fun z=>by rw[z,b7 (Ne.symm a1),b7 (Ne.symm b12),b7 (Ne.symm a1),b0]at hR;cases hR
 have b23:R≠Vd:=fun z=>by rw[z,b7 (Ne.symm a2),b0]at hR;cases hR
 have b14:L≠U:=fun z=>by rw[z,b7 (Ne.symm a1),b7 (Ne.symm b13),b7 (Ne.symm a1),b7 (Ne.symm b12),b7 (Ne.symm a1),b0]at hL;cases hL
 have b24:L≠Vd:=fun z=>by rw[z,b7 (Ne.symm a2),b7 (Ne.symm b23),b7 (Ne.symm a2),b0]at hL;cases hL
 have b34:L≠R:=fun z=>by rw[z,b7 (Ne.symm a3),b0]at hL;cases hL
 have b15:W≠U:=fun z=>by rw[z,b7 (Ne.symm a1),b7 (Ne.symm b14),b7 (Ne.symm a1),b7 (Ne.symm b13),b7 (Ne.symm a1),b7 (Ne.symm b12),b7 (Ne.symm a1),b0]at hW;cases hW
 have b25:W≠Vd:=fun z=>by rw[z,b7 (Ne.symm a2),b7 (Ne.symm b24),b7 (Ne.symm a2),b7 (Ne.symm b23),b7 (Ne.symm a2),b0]at hW;cases hW
 have b35:W≠R:=fun z=>by rw[z,b7 (Ne.symm a3),b7 (Ne.symm b34),b7 (Ne.symm a3),b0]at hW;cases hW
 have b45:W≠L:=fun z=>by rw[z,b7 (Ne.symm a4),b0]at hW;cases hW
 let G:Gh:=⟨fun b=>if b=p then .tally else if b=U then .under else if b=Vd then .vers else if b=R then .recs else if b=L then .fz else if b=W then .fz else .free,dx,U,Vd,R,L,W,fun _=>0,fun _=>0,fun _=>0,fun _=>0,fun _=>0⟩
 have g0:G.rl p=.tally:=if_pos rfl
 have g1:G.rl U=.under:=by show(if U=p then _ else _)=_;rw[if_neg (Ne.symm a1),if_pos rfl]
 have g2:G.rl Vd=.vers:=by show(if Vd=p then _ else _)=_;rw[if_neg (Ne.symm a2),if_neg b12,if_pos rfl]
 have g3:G.rl R=.recs:=by show(if R=p then _ else _)=_;rw[if_neg (Ne.symm a3),if_neg b13,if_neg b23,if_pos rfl]
 have g4:G.rl L=.fz:=by show(if L=p then _ else _)=_;rw[if_neg (Ne.symm a4),if_neg b14,if_neg b24,if_neg b34,if_pos rfl]
 have g5:G.rl W=.fz:=by show(if W=p then _ else _)=_;rw[if_neg (Ne.symm a5),if_neg b15,if_neg b25,if_neg b35,if_neg b45,if_pos rfl]
 have off:∀c o,c≠p→H c=some o→c≠U∧c≠Vd∧c≠R∧c≠L∧c≠W:=fun c o nc hc=>by
  have c1:c≠U:=fun z=>by rw[←z,b7 nc,hc]at hU;cases hU
  have c2:c≠Vd:=fun z=>by rw[←z,b7 nc,b7 c1,b7 nc,hc]at hV;cases hV
  have c3:c≠R:=fun z=>by rw[←z,b7 nc,b7 c2,b7 nc,b7 c1,b7 nc,hc]at hR;cases hR
  have c4:c≠L:=fun z=>by rw[←z,b7 nc,b7 c3,b7 nc,b7 c2,b7 nc,b7 c1,b7 nc,hc]at hL;cases hL
  have c5:c≠W:=fun z=>by rw[←z,b7 nc,b7 c4,b7 nc,b7 c3,b7 nc,b7 c2,b7 nc,b7 c1,b7 nc,hc]at hW;cases hW
  exact⟨c1,c2,c3,c4,c5⟩
 generalize eHF:upd _ p (.ins t.C_Tally dx _)=HF
 have F0:HF p=some (.ins t.C_Tally dx (F8 0 U Vd R L W)):=by rw[←eHF];exact b0
 have F1:HF U=some (HO.dK (l7 (O1.under.map (·.num)) fun n=>V.ref (G.dp n))):=by
  rw[←eHF]
  rw[b7 (Ne.symm a1),b7 (Ne.symm b15),b7 (Ne.symm a1),b7 (Ne.symm b14),b7 (Ne.symm a1),b7 (Ne.symm b13),b7 (Ne.symm a1),b7 (Ne.symm b12),b7 (Ne.symm a1),b0];rfl
 have F2:HF Vd=some (HO.dK (O1.vers.map fun q=>((Sum.inr q.1:Key),V.ref (G.vl q.1)))):=by
  rw[←eHF]
  rw[b7 (Ne.symm a2),b7 (Ne.symm b25),b7 (Ne.symm a2),b7 (Ne.symm b24),b7 (Ne.symm a2),b7 (Ne.symm b23),b7 (Ne.symm a2),b0];rfl
 have F3:HF R=some (HO.lst []):=by
  rw[←eHF]
  rw[b7 (Ne.symm a3),b7 (Ne.symm b35),b7 (Ne.symm a3),b7 (Ne.symm b34),b7 (Ne.symm a3),b0]
 have F4:HF L=some (HO.lst []):=by
  rw[←eHF]
  rw[b7 (Ne.symm a4),b7 (Ne.symm b45),b7 (Ne.symm a4),b0]
 have F5:HF W=some (HO.lst (O1.row.map V.int)):=by
  rw[←eHF]
  rw[b7 (Ne.symm a5),b0];rfl
 refine q G _ ⟨F0,F1,F2,⟨[],F3,.nil⟩,⟨[],F4,.nil⟩,F5,(fun d hd=>nomatch hd),(fun q hq=>nomatch hq),g0,g1,g2,g3,g4,g5,List.nodup_nil,List.nodup_nil,fun b e=>?_⟩ (fun c o nc hc=>?_) fun c o nc hc=>?_
 ·show(if b=p then _ else _)=_
  rw[if_neg (fun z=>by rw[z,F0]at e;cases e),if_neg (fun z=>by rw[z,F1]at e;cases e),if_neg (fun z=>by rw[z,F2]at e;cases e),if_neg (fun z=>by rw[z,F3]at e;cases e),if_neg (fun z=>by rw[z,F4]at e;cases e),if_neg (fun z=>by rw[z,F5]at e;cases e)]
 ·obtain⟨c1,c2,c3,c4,c5⟩:=off c o nc hc
  rw[←eHF,b7 nc,b7 c5,b7 nc,b7 c4,b7 nc,b7 c3,b7 nc,b7 c2,b7 nc,b7 c1,b7 nc];exact hc
 ·obtain⟨c1,c2,c3,c4,c5⟩:=off c o nc hc
  show(if c=p then _ else _)=_
  rw[if_neg nc,if_neg c1,if_neg c2,if_neg c3,if_neg c4,if_neg c5]
def C4(v:G3)(g:Str)(x:Int×Int):G3:=if g∈v.map (·.1) then v.map (fun q=>if q.1=g then(q.1,q.2++[x]) else q) else v++[(g,[x])]
def B8(v:G3)(am:Am)(m:Int):G3:=am.foldl (fun v q=>C4 v q.1 (m,q.2)) v
theorem a7X{v:G3}{am:Am}{m:Int}{i:Nat}{q:Str×Int}(h:am[i]?=some q):B8 v (am.take (i+1)) m=C4 (B8 v (am.take i) m) q.1 (m,q.2):=by
 unfold B8;rw[List.take_add_one,h,Option.toList_some,List.foldl_append];rfl
theorem W7(v:G3)(g:Str)(x:Int×Int):(C4 v g x).map (·.1)=if g∈v.map (·.1) then v.map (·.1) else v.map (·.1)++[g]:=by
 unfold C4;split
 ·rw[List.map_map]
  refine List.map_congr_left fun q _=>?_
  show(if q.1=g then(q.1,q.2++[x]) else q).1=q.1
  split<;>rfl
 ·rw[qQ6];rfl
theorem b3i(v:G3)(g:Str)(x:Int×Int):(C4 v g x).length≤v.length+1:=by
 unfold C4;split<;>simp
theorem a2F(v:G3)(m:Int):∀am:Am,(B8 v am m).length≤v.length+am.length:=by
 intro am
 induction am generalizing v with
 | nil=>exact qQ7 _
 | cons q am ih=>
  show(B8 (C4 v q.1 (m,q.2)) am m).length≤_
  have:=ih (C4 v q.1 (m,q.2))
  have:=b3i v q.1 (m,q.2)
  rw[List.length_cons];omega
theorem b5k{v:G3}(nd:(v.map (·.1)).Nodup){a b:Str×List (Int×Int)}(ha:a∈v)(hb:b∈v)(h:a.1=b.1):a=b:=by
 have e1:=a7h nd ha
 have e2:=a7h nd hb
 rw[h,e2]at e1
 exact Prod.ext h e1.symm
theorem b2k{H:Hp}{a:Addr}{o u:HO}(h:H a=some u)(n1:∀xs,u≠.tup xs)(n2:∀ob xs,u≠.frz ob (.tup xs)):r9 H (upd H a o):=
 ⟨fun b xs e=>by rw[b7 fun z=>by rw[z,h]at e;exact n1 xs (qW1 e)];exact e,fun b ob xs e=>by rw[b7 fun z=>by rw[z,h]at e;exact n2 ob xs (qW1 e)];exact e⟩
section
variable{CT CD p:Addr}{G:Gh}{H:Hp}{st:j0}
theorem TA.off(h:TA CT CD G H p st){a:Addr}{n:Int}{o:HO}(ha:G.rl a=.side n)(hn:∀d∈st.under,d.num≠n)(t:r9 H (upd H a o)):TA CT CD G (upd H a o) p st:=by
 refine⟨d6 h.ob h.r0 ha (by simp),d6 h.un h.r1 ha (by simp),d6 h.ve h.r2 ha (by simp),?_,?_,d6 h.rw h.r5 ha (by simp),fun e he=>?_,fun q hq=>?_,h.r0,h.r1,h.r2,h.r3,h.r4,h.r5,h.nd,h.vd,fun b e=>h.cl b (n6 e)⟩
 ·obtain⟨xs,h1,h2⟩:=h.rc
  exact⟨xs,d6 h1 h.r3 ha (by simp),Paired.mapP h2 fun _ _ z=>z.upd ha (by simp) t⟩
 ·obtain⟨xs,h1,h2⟩:=h.ln
  exact⟨xs,d6 h1 h.r4 ha (by simp),h2.tupK t⟩
 ·have E:=h.dl e he
  exact⟨d6 E.ob E.r1 ha (by simp),d6 E.lk E.r2 ha (by simp),d6 E.as E.r3 ha (by simpa using hn e he),E.r1,E.r2,E.r3⟩
 ·obtain⟨xs,h1,h2,h3⟩:=h.vl q hq
  exact⟨xs,d6 h1 h3 ha (by simp),A8 t h2,h3⟩
theorem TA.addOld(h:TA CT CD G H p st){q:Str×List (Int×Int)}(hq:q∈st.vers){x:Int×Int}{xs:List V}{y:V}(hx:H (G.vl q.1)=some (.lst xs))(hy:VAt H x y) :
  TA CT CD G (upd H (G.vl q.1) (.lst (xs++[y]))) p { st with vers:=C4 st.vers q.1 x }:=by
 obtain⟨xs',h1,h2,h3⟩:=h.vl q hq
 rw[hx]at h1;cases h1
 have t:r9 H (upd H (G.vl q.1) (.lst (xs++[y]))):=n9 hx
 have inn:q.1∈st.vers.map (·.1):=qQ3.mpr ⟨q,hq,rfl⟩
 refine⟨d6 h.ob h.r0 h3 (by simp),d6 h.un h.r1 h3 (by simp),?_,?_,?_,d6 h.rw h.r5 h3 (by simp),fun e he=>?_,fun r hr=>?_,h.r0,h.r1,h.r2,h.r3,h.r4,h.r5,h.nd,?_,fun b e=>h.cl b (n6 e)⟩
 ·rw[b7 (P4 h.r2 h3 (by simp)),h.ve]
  show some (HO.dK _)=some (HO.dK ((C4 st.vers q.1 x).map _))
  congr 2
  unfold C4
  rw[if_pos inn,List.map_map]
  refine List.map_congr_left fun r _=>?_
  show _=((Sum.inr (if r.1=q.1 then(r.1,r.2++[x]) else r).1:Key),V.ref (G.vl (if r.1=q.1 then(r.1,r.2++[x]) else r).1))
  split<;>rfl
 ·obtain⟨zs,z1,z2⟩:=h.rc
  exact⟨zs,d6 z1 h.r3 h3 (by simp),Paired.mapP z2 fun _ _ z=>z.upd h3 (by simp) t⟩
 ·obtain⟨zs,z1,z2⟩:=h.ln
  exact⟨zs,d6 z1 h.r4 h3 (by simp),z2.tupK t⟩
 ·have E:=h.dl e he
  exact⟨d6 E.ob E.r1 h3 (by simp),d6 E.lk E.r2 h3 (by simp),d6 E.as E.r3 h3 (by simp),E.r1,E.r2,E.r3⟩
 ·have hr:r∈C4 st.vers q.1 x:=hr
  unfold C4 at hr
  rw[if_pos inn]at hr
  obtain⟨r',hr',rfl⟩:=qQ3.mp hr
  by_cases c:r'.1=q.1
  ·have:r'=q:=b5k h.vd hr' hq c
   subst this
   rw[if_pos rfl]
   obtain⟨b,e1,e2⟩:=hy
   exact⟨_,b0,Paired.snoc (A8 t h2) ⟨b,e1,t.1 _ _ e2⟩,h3⟩
  ·rw[if_neg c]
   obtain⟨zs,z1,z2,z3⟩:=h.vl r' hr'
   exact⟨zs,d6 z1 z3 h3 (by simpa using c),A8 t z2,z3⟩
 ·show((C4 st.vers q.1 x).map (·.1)).Nodup
  rw[W7,if_pos inn];exact h.vd
def J2(G:Gh)(g:Str)(l:Addr):Gh:={ G with rl:=fun b=>if b=l then .vl g else G.rl b,vl:=fun k=>if k=g then l else G.vl k }
theorem b1o(v:G3)(G:Gh){g:Str}(l:Addr)(h:g∉v.map (·.1)):(v.map fun q=>((Sum.inr q.1:Key),V.ref ((J2 G g l).vl q.1)))=v.map fun q=>((Sum.inr q.1:Key),V.ref (G.vl q.1)):=
 List.map_congr_left fun q hq=>by
  show((Sum.inr q.1:Key),V.ref (if q.1=g then l else G.vl q.1))=_
  rw[if_neg fun z:q.1=g=>h (z▸qQ3.mpr ⟨q,hq,rfl⟩)]
theorem b3k(v:G3)(f:Str→V){g:Str}(x:V)(h:g∉v.map (·.1)):putK (v.map fun q=>((Sum.inr q.1:Key),f q.1)) (Sum.inr g) x=(v.map fun q=>((Sum.inr q.1:Key),f q.1))++[(Sum.inr g,x)]:=by
 unfold putK
 rw[if_neg]
 intro z
 obtain⟨kv,hk,e⟩:=List.any_eq_true.mp z
 obtain⟨q,hq,rfl⟩:=qQ3.mp hk
 exact h (qQ3.mpr ⟨q,hq,Sum.inr.inj (of_decide_eq_true e)⟩)
theorem b0i(v:G3)(f:Str→V){g:Str}(x:V)(h:g∈v.map (·.1)):putK (v.map fun q=>((Sum.inr q.1:Key),f q.1)) (Sum.inr g) x=v.map fun q=>((Sum.inr q.1:Key),if q.1=g then x else f q.1):=by
 unfold putK
 rw[if_pos,List.map_map]
 ·refine List.map_congr_left fun q _=>?_
  show(if (Sum.inr q.1:Key)=Sum.inr g then _ else _)=_
  by_cases e:q.1=g
  ·rw[if_pos (by rw[e]),if_pos e]
  ·rw[if_neg fun z=>e (Sum.inr.inj z),if_neg e]
 ·obtain⟨q,hq,e⟩:=qQ3.mp h
  exact List.any_eq_true.mpr ⟨_,qQ3.mpr ⟨q,hq,rfl⟩,decide_eq_true (by rw[e])⟩
theorem TA.setV(h:TA CT CD G H p st){g:Str}{l:Addr}{ps:List (Int×Int)}{xs:List V}{H1:Hp}{v:G3}(hl:H l=none)(s:g6 H H1)(h1:H1 l=some (.lst xs))(hx:Paired (VAt H1) ps xs)
  (hv:∀q∈v,q=(g,ps)∨(q.1≠g∧q∈st.vers)) (hk:(v.map (·.1)).Nodup) (hm:putK (st.vers.map fun q=>((Sum.inr q.1:Key),V.ref (G.vl q.1))) (Sum.inr g) (.ref l)=v.map fun q=>((Sum.inr q.1:Key),V.ref ((J2 G g l).vl q.1))) :
  TA CT CD (J2 G g l) (upd H1 G.Vd (.dK (putK (st.vers.map fun q=>((Sum.inr q.1:Key),V.ref (G.vl q.1))) (Sum.inr g) (.ref l)))) p { st with vers:=v }∧Kp G H (J2 G g l) (upd H1 G.Vd (.dK (putK (st.vers.map fun q=>((Sum.inr q.1:Key),V.ref (G.vl q.1))) (Sum.inr g) (.ref l)))):=by
 have rl_old:∀c o,H c=some o→(J2 G g l).rl c=G.rl c:=fun c o e=>by
  show(if c=l then _ else _)=_
  rw[if_neg (e7 e hl)]
 have h':=h.same s
 have rl1:∀{c o ρ},H c=some o→G.rl c=ρ→(J2 G g l).rl c=ρ:=fun {c o ρ} e r=>by rw[rl_old c o e];exact r
 have rV:(J2 G g l).rl G.Vd=.vers:=rl1 h.ve h.r2
 have rL:(J2 G g l).rl l=.vl g:=if_pos rfl
 have t:∀o,r9 H1 (upd H1 G.Vd o):=fun o=>M4 h'.ve
 refine⟨⟨d6 h'.ob (rl1 h.ob h.r0) rV (by simp),d6 h'.un (rl1 h.un h.r1) rV (by simp),?_,?_,?_,d6 h'.rw (rl1 h.rw h.r5) rV (by simp),fun e he=>?_,fun q hq=>?_,rl1 h.ob h.r0,rl1 h.un h.r1,rV,?_,?_,rl1 h.rw h.r5,h.nd,hk,fun b e=>?_⟩,⟨fun c o f e=>?_,s.tupK.trans (t _),fun c o f e=>by rw[rl_old c o e];exact f,fun c e=>j5 s (n6 e)⟩⟩
 ·show upd H1 G.Vd _ G.Vd=_
  rw[b0,hm]
 ·obtain⟨zs,z1,z2⟩:=h.rc
  refine⟨zs,d6 (s _ _ z1) (rl1 z1 h.r3) rV (by simp),Paired.mapP z2 fun _ _ z=>?_⟩
  obtain⟨b,la,pa,e,w1,w2,w3,w4,w5⟩:=z
  exact⟨b,la,pa,e,(t _).1 _ _ (s _ _ w1),d6 (s _ _ w2) (rl1 w2 w4) rV (by simp),d6 (s _ _ w3) (rl1 w3 w5) rV (by simp),rl1 w2 w4,rl1 w3 w5⟩
 ·obtain⟨zs,z1,z2⟩:=h.ln
  exact⟨zs,d6 (s _ _ z1) (rl1 z1 h.r4) rV (by simp),(z2.tupK s.tupK).tupK (t _)⟩
 ·have E:=h.dl e he
  exact⟨d6 (s _ _ E.ob) (rl1 E.ob E.r1) rV (by simp),d6 (s _ _ E.lk) (rl1 E.lk E.r2) rV (by simp),d6 (s _ _ E.as) (rl1 E.as E.r3) rV (by simp),rl1 E.ob E.r1,rl1 E.lk E.r2,rl1 E.as E.r3⟩
 ·rcases hv q hq with rfl | ⟨c,hq'⟩
  ·have e1:(J2 G g l).vl g=l:=if_pos rfl
   show ∃xs,upd H1 G.Vd _ ((J2 G g l).vl g)=some (.lst xs)∧_∧(J2 G g l).rl ((J2 G g l).vl g)=_
   rw[e1]
   exact⟨xs,d6 h1 rL rV (by simp),A8 (t _) hx,rL⟩
  ·obtain⟨zs,z1,z2,z3⟩:=h.vl q hq'
   have e1:(J2 G g l).vl q.1=G.vl q.1:=if_neg c
   rw[e1]
   exact⟨zs,d6 (s _ _ z1) (rl1 z1 z3) rV (by simp),A8 (t _) (A8 s.tupK z2),rl1 z1 z3⟩
 ·obtain⟨zs,z1,_⟩:=h.rc;exact rl1 z1 h.r3
 ·obtain⟨zs,z1,_⟩:=h.ln;exact rl1 z1 h.r4
 ·have e:=n6 e
  show(if b=l then _ else _)=_
  rw[if_neg fun z=>by rw[z,h1]at e;cases e]
  exact h.cl b (j5 s e)
 ·rw[b7 fun z=>by rw[z,h.r2]at f;cases f];exact s _ _ e
end
inductive a1k(t:B4)(K:PySem.W.Frag)(vs:List V)(H:Hp)(Q:VK):Prop
 | mk (G:Gh) (p a:Addr) (st:j0) (n:Int) (am:Am) (x0:vs=[.ref p,.ref a]) (x1:TA t.C_Tally t.C_Dealing G H p st) (x2:H a=some (.dK (y8 am))) (x3:G.rl a=.side n) (x4:(∀d∈st.under,d.num≠n)) (x5:am.length≤1000) (x6:st.vers.length≤100000) (x7:(∀q∈st.vers,q.2.length≤100000)) (xq:Pst t G H p { st with vers:=B8 st.vers am (st.recs.length:Int) } fun H'=>Q .non H')
def a5n(t:B4)(K:PySem.W.Frag):Sp:=fun vs H Q _=>a1k t K vs H Q
theorem a5y{v:G3}{m:Int}{am:Am}(nd:(v.map (·.1)).Nodup){c:Nat}(h:∀q∈v,q.2.length≤c):∀q∈B8 v am m,q.2.length≤c+am.length:=by
 induction am generalizing v c with
 | nil=>exact h
 | cons a am ih=>
  have nd':((C4 v a.1 (m,a.2)).map (·.1)).Nodup:=by
   rw[W7];split
   ·exact nd
   ·rename_i z
    rw[List.nodup_append]
    refine⟨nd,by simp,fun x hx y hy e=>z ?_⟩
    rw[qQ2.mp hy]at e
    rw[←e];exact hx
  have h':∀q∈C4 v a.1 (m,a.2),q.2.length≤c+1:=fun q hq=>by
   unfold C4 at hq
   split at hq
   ·obtain⟨r,hr,rfl⟩:=qQ3.mp hq
    have:=h r hr
    split
    ·simp;exact this
    ·omega
   ·rcases qQ5.mp hq with hq | hq
    ·have:=h q hq;omega
    ·rw[qQ2.mp hq];simp
  intro q hq
  have:=ih nd' h' q hq
  rw[List.length_cons];omega
set_option maxHeartbeats 0 in
theorem a8k(T:A1 K mg t):g8 P w K mg base x9 2 t.f_Tally_take_over t.d_Tally_take_over ["self","aside"] (a5n t K):=by
 refine T.F_Tally_take_over.ok O4 (fun vs H Q E h=>?_) (fun cdv A outer s H vs Q E hr h=>?_)
 ·obtain⟨G,p,a,st,n,am,rfl,_⟩:=h
  rfl
 obtain⟨G,p,a,st,n,am,rfl,h,ha,ra,hn,z1,z2,z3,q⟩:=h
 have hu:=K9 hr
 refine⟨_,(c9 (a9T (A9 PassesOwn.never rfl (b8h (pv 1)) (a8Q rfl (Q9 (m5 (i:=2) O4.nd rfl (Or.inl rfl)) (Q9 (m5 (i:=3) O4.nd rfl (Or.inl rfl)) a8y)))
 (c9 (l6 (p8 PySem.F.plainAttrs_list PySem.F.slot_list_append PySem.F.type_list_append m7 (b6l hu (q5 (pv 0) rfl) (pv 2) (m4 b6) ⟨rfl,rfl,rfl,rfl⟩) (a6 (u6 (a6 (O5 (pv 0) T.cl_Tally T.M_Tally_moment (g8.mono (k:=1) (K6 T) (by decide)) hr T.F_Tally_moment.b .nil l4) (a6 (pv 3) b6))) b6))))))),?_⟩
 refine⟨_,rfl,a,y8 am,rfl,ha,fun o=>?_⟩
 have t0:∀u,r9 H (upd H a u):=fun u=>M4 ha
 have K0:∀u,Kp G H G (upd H a u):=fun u=>Kp.upd (by rw[ra];simp) (t0 u)
 refine b3t (fun i σ' H'=>∃(o2 o3:Option V) (G':Gh),σ'=[some (.ref p),some (.ref a),o2,o3]∧TA t.C_Tally t.C_Dealing G' H' p { st with vers:=B8 st.vers (am.take i) (st.recs.length:Int) }∧Kp G H G' H'∧H' a=some (.frz o (.dK (y8 am)))∧G'.rl a=.side n)
  ⟨none,none,G,rfl,h.off ra hn (t0 _),K0 _,b0,ra⟩ (fun i σ' H' _ h=>?_) (fun i k v σ' H' tp hk h htp=>?_) (fun σ' H' h=>?_)
 ·obtain⟨_,_,_,_,_,_,h1,_⟩:=h
  exact h1
 ·obtain⟨o2,o3,G',rfl,h1,k1,ha1,ra1⟩:=h
  unfold y8 at hk
  rw[qQ8]at hk
  obtain⟨x,hx,e⟩:=Option.map_eq_some_iff.mp hk
  have e1:k=Sum.inr x.1:=(congrArg Prod.fst e).symm
  have e2:v=V.int x.2:=(congrArg Prod.snd e).symm
  subst e1;subst e2
  have li:=(qQ1.mp hx).1
  have s1:=b9 (o:=.tup [kV (Sum.inr x.1),V.int x.2]) htp
  have h2:=h1.same s1
  have ha2:=s1 _ _ ha1
  refine⟨tp,_,rfl,i4.of b0,rfl,_,_,rfl,_,_,rfl,rfl,?_⟩
  generalize upd H' tp (.tup [kV (Sum.inr x.1),V.int x.2])=H2 at s1 h2 ha2 ⊢
  have k2:=k1.trans (Kp.same (G:=G') s1)
  have lv:=a2F st.vers (st.recs.length:Int) (am.take i)
  have ll:=a5y (m:=(st.recs.length:Int)) (am:=am.take i) h.vd z3
  rw[List.length_take]at lv ll
  rw[a7X hx]
  generalize B8 st.vers (am.take i) (st.recs.length:Int)=v at h2 lv ll ⊢
  obtain⟨xr,hR,pR⟩:=h2.rc
  have lR:=n5 pR
  refine⟨_,rfl,p,_,_,_,_,rfl,h2.ob,T.cl_Tally,T.n_Tally_versions,rfl,G'.Vd,rfl,.inl ⟨_,.inl h2.ve⟩,_,rfl,(by show 0≤sizeLine;decide),fun l hl=>?_⟩
  have s3:=b9 (o:=.lst []) hl
  have h3:=h2.same s3
  have ha3:=s3 _ _ ha2
  have fz:(fun g:Str=>V.ref (G'.vl g))=fun g=>V.ref (G'.vl g):=rfl
  refine⟨_,Sum.inr x.1,h3.ve,rfl,m9 (by rw[qQ0];show v.length≤_;omega),fun y hy=>?_,fun hy=>?_⟩
  ·
   rw[a4f v (fun g=>V.ref (G'.vl g))]at hy
   split at hy
   ·rename_i c
    cases hy
    obtain⟨q',hq',e⟩:=qQ3.mp c
    obtain⟨xs,x1,x2,x3⟩:=h3.vl q' hq'
    rw[e]at x1 x3
    have lx:=n5 x2
    have lq:=ll q' hq'
    refine⟨.inl ⟨rfl,_,d7.of x1⟩,_,rfl,p,_,_,rfl,h3.ob,rfl,p,_,_,_,_,_,_,_,xr,rfl,h3.ob,s3 _ _ hR,_,rfl,(by show 2≤sizeLine;decide),fun tt htt=>?_⟩
    have s4:=b9 (o:=.tup [.int (xr.length:Int),.int x.2]) htt
    refine⟨G'.vl x.1,xs,_,rfl,rfl,s4 _ _ x1,m9 (by omega),?_⟩
    have h4:=(h3.same s4).addOld (q:=q') hq' (x:=((st.recs.length:Int),x.2)) (xs:=xs) (y:=.ref tt) (by rw[e];exact s4 _ _ x1) ⟨tt,rfl,by rw[b0,lR]⟩
    rw[e]at h4
    have rv:G'.rl (G'.vl x.1)=.vl x.1:=x3
    refine⟨_,_,G',rfl,h4,k2.trans ((Kp.same (G:=G') (s3.trans s4)).trans (Kp.upd (by rw[rv];simp) (n9 (s4 _ _ x1)))),?_,ra1⟩
    exact d6 (G:=G') (s4 _ _ ha3) ra1 rv (by simp)
   ·cases hy
  ·
   rw[a4f v (fun g=>V.ref (G'.vl g))]at hy
   split at hy
   ·cases hy
   ·rename_i c
    have hv:∀q∈v++[(x.1,([]:List (Int×Int)))],q=(x.1,[])∨(q.1≠x.1∧q∈v):=fun q hq=>by
     rcases qQ5.mp hq with hq | hq
     ·exact .inr ⟨fun z=>c (z▸qQ3.mpr ⟨q,hq,rfl⟩),hq⟩
     ·exact .inl (qQ2.mp hq)
    have hk:((v++[(x.1,([]:List (Int×Int)))]).map (·.1)).Nodup:=by
     rw[qQ6,List.nodup_append]
     refine⟨h2.vd,by simp,fun y hy z hz e=>c ?_⟩
     have:z=x.1:=by simpa using hz
     rw[←this,←e];exact hy
    obtain⟨h4,k4⟩:=h2.setV (g:=x.1) (l:=l) (ps:=[]) (xs:=[]) (v:=v++[(x.1,[])]) hl s3 b0 .nil hv hk (by
     rw[b3k v (fun g=>V.ref (G'.vl g)) _ c,qQ6,b1o v G' l c]
     show _=_++[((Sum.inr x.1:Key),V.ref (if x.1=x.1 then l else G'.vl x.1))]
     rw[if_pos rfl])
    have rl4:(J2 G' x.1 l).rl l=.vl x.1:=if_pos rfl
    have vl4:(J2 G' x.1 l).vl x.1=l:=if_pos rfl
    have ra4:(J2 G' x.1 l).rl a=.side n:=by
     show(if a=l then _ else _)=_
     rw[if_neg (e7 ha2 hl)];exact ra1
    have rv4:(J2 G' x.1 l).rl G'.Vd=.vers:=h4.r2
    have hl4:(upd (upd H2 l (.lst [])) G'.Vd (.dK (putK (v.map fun q=>((Sum.inr q.1:Key),V.ref (G'.vl q.1))) (Sum.inr x.1) (.ref l)))) l=some (.lst []):=d6 b0 rl4 rv4 (by simp)
    have ha4:(upd (upd H2 l (.lst [])) G'.Vd (.dK (putK (v.map fun q=>((Sum.inr q.1:Key),V.ref (G'.vl q.1))) (Sum.inr x.1) (.ref l)))) a=some (.frz o (.dK (y8 am))):=d6 ha3 ra4 rv4 (by simp)
    have hR4:∃xr',(upd (upd H2 l (.lst [])) G'.Vd (.dK (putK (v.map fun q=>((Sum.inr q.1:Key),V.ref (G'.vl q.1))) (Sum.inr x.1) (.ref l)))) G'.R=some (.lst xr')∧xr'.length=st.recs.length:=by
     obtain⟨xr',w1,w2⟩:=h4.rc
     exact⟨xr',w1,n5 w2⟩
    show _∧_
    generalize upd (upd H2 l (.lst [])) G'.Vd (.dK (putK (v.map fun q=>((Sum.inr q.1:Key),V.ref (G'.vl q.1))) (Sum.inr x.1) (.ref l)))=H4 at h4 k4 hl4 ha4 hR4 ⊢
    obtain⟨xr',hR',lR'⟩:=hR4
    refine⟨.inl ⟨rfl,_,d7.of hl4⟩,_,rfl,p,_,_,rfl,h4.ob,rfl,p,_,_,_,_,_,_,_,xr',rfl,h4.ob,hR',_,rfl,(by show 2≤sizeLine;decide),fun tt htt=>?_⟩
    have s5:=b9 (o:=.tup [.int (xr'.length:Int),.int x.2]) htt
    refine⟨l,[],_,rfl,rfl,s5 _ _ hl4,m9 (by simp),?_⟩
    have h5:=(h4.same s5).addOld (q:=(x.1,[])) (List.mem_append_right _ List.mem_cons_self) (x:=((st.recs.length:Int),x.2)) (xs:=[]) (y:=.ref tt) (by show upd H4 tt _ ((J2 G' x.1 l).vl x.1)=_;rw[vl4];exact s5 _ _ hl4) ⟨tt,rfl,by rw[b0,lR']⟩
    have ev:C4 (v++[(x.1,[])]) x.1 ((st.recs.length:Int),x.2)=C4 v x.1 ((st.recs.length:Int),x.2):=by
     unfold C4
     rw[if_pos (by simp),if_neg c,qQ6]
     congr 1
     ·refine(List.map_congr_left fun q hq=>?_).trans (List.map_id v)
      rw[if_neg fun z:q.1=x.1=>c (z▸qQ3.mpr ⟨q,hq,rfl⟩)];rfl
     ·simp
    rw[show({ st with vers:=C4 (v++[(x.1,[])]) x.1 ((st.recs.length:Int),x.2) }:j0)={ st with vers:=C4 v x.1 ((st.recs.length:Int),x.2) } by rw[ev]] at h5
    have e6:(J2 G' x.1 l).vl (x.1,([]:List (Int×Int))).1=l:=vl4
    rw[e6]at h5
    refine⟨_,_,J2 G' x.1 l,rfl,h5,(k2.trans k4).trans ((Kp.same (G:=J2 G' x.1 l) s5).trans (Kp.upd (by rw[rl4];simp) (n9 (s5 _ _ hl4)))),?_,ra4⟩
    exact d6 (G:=J2 G' x.1 l) (s5 _ _ ha4) ra4 rl4 (by simp)
 ·obtain⟨o2,o3,G',rfl,h1,k1,ha1,ra1⟩:=h
  rw[a3f,List.take_length]at h1
  have tz:∀u,r9 H' (upd H' a u):=fun u=>b2k ha1 (fun xs z=>by cases z) (fun ob xs z=>by cases z)
  exact⟨a,o,y8 am,ha,ha1,q G' _ (h1.off ra1 hn (tz _)) (k1.trans (Kp.upd (by rw[ra1];simp) (tz _)))⟩
def swL(ps:List (Int×Int))(m:Int):List (Int×Int):=ps.drop (cnt ps m-1)
def Q4(v:G3)(m:Int):G3:=v.map fun q=>(q.1,swL q.2 m)
def a4c(v:G3)(m:Int):Int:=(v.map fun q=>((q.2.length:Int)-((swL q.2 m).length:Int))).sum
def a9M(st:j0)(m:Int):Prop:=(st.under=[]→m=(st.recs.length:Int))∧(st.under≠[]→m∈st.under.map (·.beg)∧∀d∈st.under,m≤d.beg)
theorem a4F{α β:Type}{F:α→β→Prop}:∀(n:Nat) {l:List α} {m:List β},Paired F l m→Paired F (l.drop n) (m.drop n)
 | 0,_,_,h=>h
 | n+1,_,_,.nil=>.nil
 | n+1,_,_,.cons _ t=>a4F n t
inductive a1y(t:B4)(K:PySem.W.Frag)(vs:List V)(H:Hp)(Q:VK):Prop
 | mk (G:Gh) (p:Addr) (st:j0) (x0:vs=[.ref p]) (x1:TA t.C_Tally t.C_Dealing G H p st) (x2:st.under.length≤1000) (x3:st.vers.length≤100000) (x4:(∀q∈st.vers,q.2.length≤100000)) (xq:∀m,a9M st m→Pst t G H p { st with vers:=Q4 st.vers m } fun H'=>Q (.int (a4c st.vers m)) H')
def a9B(t:B4)(K:PySem.W.Frag):Sp:=fun vs H Q _=>a1y t K vs H Q
def P8(v:G3)(m:Int)(i:Nat):G3:=Q4 (v.take i) m++v.drop i
theorem a2L(v:G3)(m:Int)(i:Nat):(P8 v m i).map (·.1)=v.map (·.1):=by
 unfold P8 Q4
 rw[qQ6,List.map_map]
 have:((fun x:Str×List (Int×Int)=>x.1)∘fun q:Str×List (Int×Int)=>(q.1,swL q.2 m))=fun q=>q.1:=rfl
 rw[this,←qQ6,List.take_append_drop]
theorem b3v{v:G3}{m:Int}{i:Nat}{q:Str×List (Int×Int)}(h:v[i]?=some q):q∈P8 v m i:=by
 unfold P8
 refine List.mem_append_right _ ?_
 refine List.mem_of_getElem? (i:=0) ?_
 rw[List.getElem?_drop];simpa using h
theorem b3o{v:G3}(nd:(v.map (·.1)).Nodup){m:Int}{i:Nat}{q:Str×List (Int×Int)}(h:v[i]?=some q):P8 v m (i+1)=(P8 v m i).map fun r=>if r.1=q.1 then(q.1,swL q.2 m) else r:=by
 have li:=(qQ1.mp h).1
 have hi:=(qQ1.mp h).2
 have inj:∀(j:Nat) r,v[j]?=some r→r.1=q.1→j=i:=fun j r hj e=>
  (List.getElem?_inj (l:=v.map (·.1)) (by rw[qQ0];exact(qQ1.mp hj).1) nd).mp (by rw[qQ8,qQ8,hj,h];simp[e])
 unfold P8
 rw[qQ6,List.drop_eq_getElem_cons li,hi,List.map_cons,if_pos rfl]
 have tk:v.take (i+1)=v.take i++[q]:=by rw[List.take_add_one,h];rfl
 rw[tk]
 unfold Q4
 rw[qQ6,List.append_assoc]
 congr 1
 ·rw[List.map_map]
  refine List.map_congr_left fun r hr=>?_
  obtain⟨j,hj⟩:=List.mem_iff_getElem?.mp hr
  rw[List.getElem?_take]at hj
  split at hj
  ·rename_i c
   show _=if r.1=q.1 then _ else _
   rw[if_neg fun e=>by have:=inj j r hj e;omega]
  ·cases hj
 ·rw[List.map_cons,List.map_nil,List.singleton_append]
  congr 1
  refine(List.map_id _).symm.trans (List.map_congr_left fun r hr=>?_)
  obtain⟨j,hj⟩:=List.mem_iff_getElem?.mp hr
  rw[List.getElem?_drop]at hj
  show r=if r.1=q.1 then _ else r
  rw[if_neg fun e=>by have:=inj _ r hj e;omega]
set_option maxHeartbeats 0 in
theorem a6y(T:A1 K mg t):g8 P w K mg base x9 3 t.f_Tally_sweep t.d_Tally_sweep ["self"] (a9B t K):=by
 refine T.F_Tally_sweep.ok C9 (fun vs H Q E h=>?_) (fun cdv A outer s H vs Q E hr h=>?_)
 ·obtain⟨G,p,st,rfl,_⟩:=h
  rfl
 obtain⟨G,p,st,rfl,h,z1,z2,z3,q⟩:=h
 have hu:=K9 hr
 refine⟨_,(b8 (a9T (a9o (i:=1) C9.nd rfl rfl rfl (b2c (q5 (pv 0) rfl)) (C5.mk (own:=["dealing"]) (tl:=["self","beginnings","moment","gone","good","left"]) rfl rfl rfl (fun _ _ _ _ _=>(m5 (i:=0) (a5s) rfl (Or.inl rfl))) (fun _ _ _ _ _=>V0) (fun _ _ _ _ _=>(a3U (pv 0) rfl)))))
 (b8 (L7 (g7 (i:=2) C9.nd rfl (Or.inl rfl) (a9X rfl rfl T.m_min (pv 1) (O5 (pv 0) T.cl_Tally T.M_Tally_moment (g8.mono (k:=2) (K6 T) (by decide)) hr T.F_Tally_moment.b .nil l4))))
 (b8 (g7 (i:=3) C9.nd rfl (Or.inl rfl) d5)
 (b8 (A9 PassesOwn.never rfl (t6 (D9 (a0f rfl) rfl T.m_list boot_list (a6 (q5 (pv 0) rfl) b6))) (m5 (i:=4) C9.nd rfl (Or.inl rfl))
 (b8 (g7 (i:=5) C9.nd rfl (Or.inl rfl) (j9 (g8.mono (k:=2) (b9k T) (by decide)) hr rfl T.m_swept T.F_swept.kp T.F_swept.b .nil l4 (a6 (u4 hu (q5 (pv 0) rfl) (pv 4) (fun _ _=>rfl)) (a6 (pv 2) b6))))
 (b8 (g7 (i:=3) C9.nd rfl (Or.inl rfl) (j6 O7 (j6 G4 (pv 3) (f6 g9 rfl T.m_len PySem.boot_len (a6 (u4 hu (q5 (pv 0) rfl) (pv 4) (fun _ _=>rfl)) b6))) (f6 g9 rfl T.m_len PySem.boot_len (a6 (pv 5) b6))))
 (c9 (F6 hu (q5 (pv 0) rfl) (pv 4) (pv 5) rfl)))))
 (c9 (i3 (pv 3))))))),?_⟩
 have kl:(l7 (st.under.map (·.num)) fun n=>V.ref (G.dp n)).length=st.under.length:=by rw[K2,qQ0]
 refine⟨_,rfl,p,_,_,_,_,rfl,h.ob,T.cl_Tally,T.n_Tally_under_way,rfl,G.U,_,rfl,h.un,fun o=>fun acc hacc=>?_⟩
 have nU:G.U≠acc:=e7 b0 hacc
 have nacc:H acc=none:=by rw[b7 (Ne.symm nU)]at hacc;exact hacc
 refine b5n (fun i H'=>But G.U H H'∧H' G.U=some (.frz o (.dK (l7 (st.under.map (·.num)) fun n=>.ref (G.dp n))))∧H' acc=some (.lst (((st.under.take i).map (·.beg)).map V.int)))
  ⟨fun b u nb e=>by rw[b7 (e7 e nacc),b7 nb];exact e,by rw[b7 nU];exact b0,b0⟩ (fun i H' _ h=>h.2.1) (fun i k x H' hx h=>?_) (fun H1 h'=>?_)
 ·obtain⟨b1,b2,b3⟩:=h
  unfold l7 at hx
  rw[qQ8,qQ8]at hx
  obtain⟨n,hn,e⟩:=Option.map_eq_some_iff.mp hx
  obtain⟨d,hd,rfl⟩:=Option.map_eq_some_iff.mp hn
  have e2:x=V.ref (G.dp d.num):=(congrArg Prod.snd e).symm
  subst e2
  have D:=h.dl d (List.mem_of_getElem? hd)
  have li:=(qQ1.mp hd).1
  refine⟨_,rfl,G.dp d.num,_,_,_,_,rfl,b1 _ _ (P4 D.r1 h.r1 (by simp)) D.ob,T.cl_Dealing,T.n_Dealing_began,rfl,_,b3,m9 (by rw[qQ0,qQ0,List.length_take];omega),fun b u nb e=>?_,?_,?_⟩
  ·rw[b7 (e7 e nacc)];exact b1 b u nb e
  ·rw[b7 nU];exact b2
  ·rw[b0,List.take_add_one,hd,Option.toList_some,qQ6,qQ6];rfl
 obtain⟨b1,b2,b3⟩:=h'
 rw[kl,List.take_length]at b3
 refine⟨G.U,o,_,h.un,b2,?_⟩
 have s1:g6 H (upd H1 G.U (.dK (l7 (st.under.map (·.num)) fun n=>.ref (G.dp n)))):=fun b u e=>by
  by_cases c:b=G.U
  ·subst c;rw[b0];rw[h.un]at e;exact e
  ·rw[b7 c];exact b1 b u c e
 have a1:(upd H1 G.U (.dK (l7 (st.under.map (·.num)) fun n=>.ref (G.dp n)))) acc=some (.lst ((st.under.map (·.beg)).map V.int)):=by rw[b7 (Ne.symm nU)];exact b3
 generalize upd H1 G.U (.dK (l7 (st.under.map (·.num)) fun n=>.ref (G.dp n)))=H2 at s1 a1 ⊢
 have h2:=h.same s1
 obtain⟨xr,hR,pR⟩:=h2.rc
 have lR:=n5 pR
 refine⟨fun σ' H'=>H'=H2∧∃m,a9M st m∧σ'=[some (.ref p),some (.ref acc),some (.int m),none,none,none],?_,fun σ' H' hM=>?_⟩
 ·refine⟨_,rfl,_,rfl,p,_,_,rfl,h2.ob,rfl,p,_,_,_,_,_,_,_,xr,rfl,h2.ob,hR,acc,st.under.map (·.beg),rfl,d7.of a1,fun e=>⟨rfl,_,⟨fun _=>by rw[lR],fun w=>absurd (List.map_eq_nil_iff.mp e) w⟩,rfl⟩,fun m hm hle=>⟨rfl,m,⟨fun w=>by rw[w]at hm;simp at hm,fun _=>⟨hm,fun d hd=>hle _ (qQ3.mpr ⟨d,hd,rfl⟩)⟩⟩,rfl⟩⟩
 obtain⟨rfl,m,mb,rfl⟩:=hM
 have q:=q m mb
 refine⟨_,rfl,p,_,_,_,_,rfl,h2.ob,T.cl_Tally,T.n_Tally_versions,rfl,G.Vd,_,rfl,.inl h2.ve,fun l hl=>?_⟩
 have ek:((st.vers.map fun q=>((Sum.inr q.1:Key),V.ref (G.vl q.1))).map fun q=>kV q.1)=(st.vers.map (·.1)).map V.str:=by rw[List.map_map,List.map_map];rfl
 rw[ek]
 have s3:=b9 (o:=.lst ((st.vers.map (·.1)).map V.str)) hl
 have hl3:(upd H' l (.lst ((st.vers.map (·.1)).map V.str))) l=some (.lst ((st.vers.map (·.1)).map V.str)):=b0
 generalize upd H' l (.lst ((st.vers.map (·.1)).map V.str))=H3 at s3 hl3 ⊢
 have h3:=h2.same s3
 have k3:Kp G H G H3:=Kp.same (s1.trans s3)
 have fl:G.rl l=.free:=h2.cl l hl
 have e0:({ st with vers:=P8 st.vers m 0 }:j0)=st:=by
  have:P8 st.vers m 0=st.vers:=by unfold P8 Q4;simp
  rw[this]
 refine⟨l,rfl,⟨_,d7.of hl3⟩,?_⟩
 refine G0 (xs:=(st.vers.map (·.1)).map V.str) (fun i σ' Hc=>∃(o4 o5:Option V) (G':Gh),σ'=[some (.ref p),some (.ref acc),some (.int m),some (.int (a4c (st.vers.take i) m)),o4,o5]∧TA t.C_Tally t.C_Dealing G' Hc p { st with vers:=P8 st.vers m i }∧Kp G H G' Hc∧Hc l=some (.lst ((st.vers.map (·.1)).map V.str))∧G'.rl l=.free)
  ⟨none,none,G,rfl,by rw[e0];exact h3,k3,hl3,fl⟩ (fun i σ' Hc _ h=>?_) (fun i x σ' Hc hx h=>?_) (fun σ' Hc h=>?_)
 ·obtain⟨_,_,_,_,_,_,h1,_⟩:=h
  exact d7.of h1
 ·obtain⟨o4,o5,G',rfl,h4,k4,hl4,fl4⟩:=h
  rw[qQ8,qQ8]at hx
  obtain⟨g,hg,rfl⟩:=Option.map_eq_some_iff.mp hx
  obtain⟨qq,hq,rfl⟩:=Option.map_eq_some_iff.mp hg
  have hin:=b3v (m:=m) hq
  obtain⟨xs,x1,x2,x3⟩:=h4.vl qq hin
  have lx:=n5 x2
  have z3q:=z3 qq (List.mem_of_getElem? hq)
  have inn:qq.1∈(P8 st.vers m i).map (·.1):=qQ3.mpr ⟨qq,hin,rfl⟩
  have dg:∀Hx:Hp,Hx G'.Vd=some (.dK ((P8 st.vers m i).map fun q=>((Sum.inr q.1:Key),V.ref (G'.vl q.1))))→t9 Hx G'.Vd (.str qq.1) (some (.ref (G'.vl qq.1))):=fun Hx hx=>by
   have:=t9.k (k:=Sum.inr qq.1) hx
   rw[a4f (P8 st.vers m i) (fun g=>V.ref (G'.vl g)),if_pos inn]at this
   exact this
  refine⟨_,rfl,p,_,_,_,_,rfl,h4.ob,T.cl_Tally,T.n_Tally_versions,rfl,_,rfl,G'.Vd,_,rfl,dg _ h4.ve,_,rfl,G'.vl qq.1,xs,qq.2,m,rfl,d7.of x1,a6i x2,z3q,fun r H5 s5 nr hr5=>?_⟩
  have h5:=h4.same s5
  refine⟨_,rfl,_,rfl,p,_,_,_,_,rfl,h5.ob,T.cl_Tally,T.n_Tally_versions,rfl,_,rfl,G'.Vd,_,rfl,dg _ h5.ve,G'.vl qq.1,xs,rfl,.inl (d7.of (s5 _ _ x1)),_,_,rfl,rfl,_,rfl,r,_,rfl,.inl (d7.of hr5),_,_,rfl,rfl,?_⟩
  have lk:(P8 st.vers m i).length=st.vers.length:=by have:=congrArg List.length (a2L st.vers m i);simpa using this
  refine⟨_,rfl,_,rfl,p,_,_,_,_,rfl,h5.ob,T.cl_Tally,T.n_Tally_versions,rfl,_,rfl,G'.Vd,_,rfl,M5.k (k:=Sum.inr qq.1) h5.ve (m9 (by rw[qQ0];show(P8 st.vers m i).length≤_;omega)),?_⟩
  have hnx:=b3o h.vd (m:=m) hq
  obtain⟨h6,k6⟩:=h4.setV (g:=qq.1) (l:=r) (ps:=swL qq.2 m) (xs:=xs.drop (cnt qq.2 m-1)) (v:=P8 st.vers m (i+1)) nr s5 hr5 (a4F _ (A8 s5.tupK x2)) (fun q' hq'=>by
   rw[hnx]at hq'
   obtain⟨r',hr',rfl⟩:=qQ3.mp hq'
   by_cases c:r'.1=qq.1
   ·rw[if_pos c];exact .inl rfl
   ·rw[if_neg c];exact .inr ⟨c,hr'⟩) (by rw[a2L];exact h.vd) (by
   show putK ((P8 st.vers m i).map fun q=>((Sum.inr q.1:Key),V.ref (G'.vl q.1))) _ _=_
   rw[b0i (P8 st.vers m i) (fun g=>V.ref (G'.vl g)) _ inn,hnx,List.map_map]
   refine List.map_congr_left fun r' _=>?_
   show _=((Sum.inr (if r'.1=qq.1 then(qq.1,swL qq.2 m) else r').1:Key),V.ref (if (if r'.1=qq.1 then(qq.1,swL qq.2 m) else r').1=qq.1 then r else G'.vl (if r'.1=qq.1 then(qq.1,swL qq.2 m) else r').1))
   by_cases c:r'.1=qq.1
   ·rw[if_pos c,if_pos c,if_pos rfl,c]
   ·rw[if_neg c,if_neg c,if_neg c])
  have lr:l≠r:=e7 hl4 nr
  refine⟨some (.str qq.1),some (.ref r),J2 G' qq.1 r,?_,h6,k4.trans k6,k6.keep _ _ fl4 hl4,by show(if l=r then _ else _)=_;rw[if_neg lr];exact fl4⟩
  have eg:a4c (st.vers.take (i+1)) m=a4c (st.vers.take i) m+(xs.length:Int)-((xs.drop (cnt qq.2 m-1)).length:Int):=by
   unfold a4c
   rw[List.take_add_one,hq,Option.toList_some,qQ6,List.sum_append,List.map_singleton,List.sum_singleton]
   unfold swL
   rw[List.length_drop,List.length_drop,lx]
   omega
  rw[eg];rfl
 ·obtain⟨o4,o5,G',rfl,h4,k4,_,_⟩:=h
  have el:((st.vers.map (·.1)).map V.str).length=st.vers.length:=by rw[qQ0,qQ0]
  rw[el]at h4
  have es:P8 st.vers m st.vers.length=Q4 st.vers m:=by unfold P8;simp
  rw[show({ st with vers:=P8 st.vers m st.vers.length }:j0)={ st with vers:=Q4 st.vers m } by rw[es]] at h4
  refine⟨_,rfl,?_⟩
  rw[el,List.take_length]
  exact q G' Hc h4 k4
def M0(d:Dl)(e:Int)(r:Rec):Prop:=r.num=d.num∧r.beg=d.beg∧r.fin=e∧r.looked.Perm d.looked∧r.put.Perm (d.aside.map (·.1))∧U2 r.looked∧U2 r.put
def nums(st:j0):List Int:=st.recs.map (·.num)
structure C2(st:j0):Prop where
 un:(nums st++st.under.map (·.num)).Nodup
 row:a3m (nums st) st.links st.row
 mem:∀l,l∈st.links↔∃r∈st.recs,∃o∈st.recs,r.num≠o.num∧a0m r o l
 lt:∀n∈nums st++st.under.map (·.num),0≤n∧n<(st.begun:Int)
structure Bd(k:Nat)(st:j0):Prop where
 un:st.under.length≤k
 rc:st.recs.length≤k
 dl:∀d∈st.under,d.looked.length≤k∧d.aside.length≤k
 rs:∀r∈st.recs,r.put.length≤k∧r.looked.length≤k
 ve:st.vers.length≤k*k
 vl:∀q∈st.vers,q.2.length≤k*k
 ln:st.links.length≤600*(k*k)
def a2h(st:j0)(d:Dl)(r:Rec)(cs:List (List Lk))(row:List Int):j0:=
 ⟨st.begun,K3 st.under d.num,B8 st.vers d.aside ((st.recs.length:Int)+1),st.recs++[r],st.links++cs.flatten,row⟩
structure a8I(st:j0)(d:Dl)(r:Rec)(cs:List (List Lk))(row:List Int):Prop where
 rc:M0 d ((st.recs.length:Int)+1) r
 lw:LWs r st.recs cs
 row:a3m (nums st++[d.num]) (st.links++cs.flatten) row
structure a0D(st:j0)(d:Dl)(r:Rec)(cs:List (List Lk))(rg:List Lk):Prop where
 rc:M0 d ((st.recs.length:Int)+1) r
 lw:LWs r st.recs cs
 ring:Ring rg
 sub:∀l∈rg,l∈st.links++cs.flatten
 hd:(rg.map (·.1))[0]?=some d.num
theorem b2t{ns:List Int}{ls rg:List Lk}{row:List Int}(R:a3m ns ls row)(G:Ring rg)(h:∀l∈rg,l∈ls):False:=by
 have uniq:∀(i j:Nat) (x:Int),row[i]?=some x→row[j]?=some x→i=j:=fun i j x hi hj=>(List.getElem?_inj (qQ1.mp hi).1 R.nd).mp (by rw[hi,hj])
 have lp:0<rg.length:=by
  cases hrg:rg with
  | nil=>exact absurd hrg G.ne
  | cons a b=>simp
 obtain⟨p0,q0,_,hp0,_⟩:=R.keeps _ (h _ (List.getElem_mem lp))
 have up:∀i,(hi:i<rg.length)→∃p,row[p]?=some (rg[i]).1∧p0+i≤p:=by
  intro i
  induction i with
  | zero=>intro hi;exact⟨p0,hp0,qQ7 _⟩
  | succ i ih=>
   intro hi
   obtain⟨p,hp,lep⟩:=ih (by omega)
   obtain⟨a,b,hab,ha,hb⟩:=R.keeps _ (h _ (List.getElem_mem (show i<rg.length by omega)))
   have:a=p:=uniq a p _ ha hp
   subst this
   obtain⟨m,hm,e⟩:=G.next (i+1) _ (List.getElem?_eq_getElem hi)
   rw[if_neg (by omega),show i+1-1=i by omega,List.getElem?_eq_getElem (show i<rg.length by omega)]at hm
   rw[←qW1 hm]at e
   exact⟨b,by rw[e];exact hb,by omega⟩
 obtain⟨p,hp,lep⟩:=up (rg.length-1) (by omega)
 obtain⟨a,b,hab,ha,hb⟩:=R.keeps _ (h _ (List.getElem_mem (show rg.length-1<rg.length by omega)))
 have:a=p:=uniq a p _ ha hp
 subst this
 obtain⟨m,hm,e⟩:=G.next 0 _ (List.getElem?_eq_getElem lp)
 rw[if_pos rfl,List.getElem?_eq_getElem (show rg.length-1<rg.length by omega)]at hm
 rw[←qW1 hm]at e
 have:b=p0:=uniq b p0 _ hb (by rw[←e];exact hp0)
 omega
theorem Ring.turn{rg:List Lk}(h:Ring rg){j:Nat}(hj:j<rg.length):Ring (rg.drop j++rg.take j):=by
 have ld:(rg.drop j).length=rg.length-j:=List.length_drop
 have lt:(rg.take j).length=j:=by rw[List.length_take];omega
 have ll:(rg.drop j++rg.take j).length=rg.length:=by rw[qQ4,ld,lt];omega
 have at':∀i,i<rg.length→(rg.drop j++rg.take j)[i]?=rg[if i<rg.length-j then j+i else i-(rg.length-j)]?:=fun i hi=>by
  by_cases c:i<rg.length-j
  ·rw[if_pos c,List.getElem?_append_left (by rw[ld];exact c),List.getElem?_drop]
  ·rw[if_neg c,List.getElem?_append_right (by rw[ld];omega),ld,List.getElem?_take_of_lt (by omega)]
 have pm:(rg.drop j++rg.take j).Perm rg:=(List.perm_append_comm).trans (by rw[List.take_append_drop])
 refine⟨fun z=>?_,?_,fun i l hi=>?_⟩
 ·have e:rg.length=0:=by rw[←ll,z];rfl
  omega
 ·exact(pm.map (·.1)).nodup_iff.mpr h.nd
 ·have li:=(qQ1.mp hi).1
  rw[ll]at li ⊢
  rw[at' i li]at hi
  obtain⟨m,hm,e⟩:=h.next _ l hi
  refine⟨m,?_,e⟩
  have lk:(if i=0 then rg.length-1 else i-1)<rg.length:=by split<;>omega
  rw[at' _ lk,←hm]
  congr 1
  split<;>split<;>split<;>split<;>omega
theorem LWs.mem{r:Rec}{rs:List Rec}{cs:List (List Lk)}(h:LWs r rs cs)(l:Lk):l∈cs.flatten↔∃o∈rs,a0m r o l∨a0m o r l:=by
 induction h with
 | nil=>simp
 | @cons o c rs cs z t ih=>
  obtain⟨l1,l2,rfl,b1,b2⟩:=z
  rw[List.flatten_cons,qQ5,qQ5,b1.mem,b2.mem,ih]
  constructor
  ·rintro((a | a) | ⟨o',ho,a⟩)
   ·exact⟨o,List.mem_cons_self,.inl a⟩
   ·exact⟨o,List.mem_cons_self,.inr a⟩
   ·exact⟨o',List.mem_cons_of_mem _ ho,a⟩
  ·rintro⟨o',ho,a⟩
   rcases qQ9.mp ho with rfl | ho
   ·exact .inl a
   ·exact .inr ⟨o',ho,a⟩
theorem a3K{st:j0}(ok:C2 st){d:Dl}{r:Rec}{cs:List (List Lk)}{rg:List Lk}(hr:r.num=d.num)(lw:LWs r st.recs cs)(G:Ring rg)(sub:∀l∈rg,l∈st.links++cs.flatten):d.num∈rg.map (·.1):=by
 refine Classical.byContradiction fun z=>b2t ok.row G fun l hl=>?_
 rcases qQ5.mp (sub l hl) with h | h
 ·exact h
 ·exfalso
  obtain⟨o,ho,a | a⟩:=(lw.mem l).mp h
  ·exact z (qQ3.mpr ⟨l,hl,by rw[a.1,hr]⟩)
  ·
   obtain⟨i,hi⟩:=List.mem_iff_getElem?.mp hl
   have li:=(qQ1.mp hi).1
   have key:∀(k:Nat) m,rg[k]?=some m→(if k=0 then rg.length-1 else k-1)=i→d.num=m.1:=fun k m hk e=>by
    obtain⟨m',hm',e'⟩:=G.next k m hk
    rw[e,hi]at hm'
    cases hm'
    rw[e',a.2.1,hr]
   by_cases c:i+1=rg.length
   ·have h0:0<rg.length:=by omega
    exact z (qQ3.mpr ⟨rg[0],List.getElem_mem h0,(key 0 _ (List.getElem?_eq_getElem h0) (by rw[if_pos rfl];omega)).symm⟩)
   ·have h1:i+1<rg.length:=by omega
    exact z (qQ3.mpr ⟨rg[i+1],List.getElem_mem h1,(key (i+1) _ (List.getElem?_eq_getElem h1) (by rw[if_neg (by omega)];omega)).symm⟩)
theorem b0t{st:j0}(ok:C2 st){n:Int}{r:Rec}{cs:List (List Lk)}(hr:r.num=n)(lw:LWs r st.recs cs):∀l∈st.links++cs.flatten,l.1∈nums st++[n]∧l.2.1∈nums st++[n]:=fun l hl=>by
 have inn:∀o∈st.recs,o.num∈nums st++[n]:=fun o ho=>List.mem_append_left _ (qQ3.mpr ⟨o,ho,rfl⟩)
 have me:r.num∈nums st++[n]:=by rw[hr];simp
 rcases qQ5.mp hl with h | h
 ·obtain⟨a,ha,b,hb,_,e⟩:=(ok.mem l).mp h
  exact⟨by rw[e.1];exact inn a ha,by rw[e.2.1];exact inn b hb⟩
 ·obtain⟨o,ho,e | e⟩:=(lw.mem l).mp h
  ·exact⟨by rw[e.1];exact me,by rw[e.2.1];exact inn o ho⟩
  ·exact⟨by rw[e.1];exact inn o ho,by rw[e.2.1];exact me⟩
section
variable{CT CD p:Addr}{G:Gh}{H:Hp}{st:j0}
def T5(G:Gh)(as:List Addr):Gh:={ G with rl:=fun b=>if b∈as then .fz else G.rl b }
theorem TA.fz(h:TA CT CD G H p st){as:List Addr}(ha:∀a∈as,G.rl a=.free∧∃o,H a=some o):TA CT CD (T5 G as) H p st:=
 h.gh (fun b ρ e n=>by
  show(if b∈as then _ else _)=_
  rw[if_neg fun z=>n (by rw[←e,(ha b z).1])];exact e) (fun b e=>by
  show(if b∈as then _ else _)=_
  rw[if_neg fun z=>by obtain⟨_,o,w⟩:=ha b z;rw[e]at w;cases w]
  exact h.cl b e) rfl rfl rfl rfl rfl rfl (fun _ _=>⟨rfl,rfl,rfl,rfl⟩) fun _ _=>rfl
theorem a7o{as:List Addr}{a:Addr}(h:a∈as):(T5 G as).rl a=.fz:=if_pos h
theorem TA.addR(h:TA CT CD G H p st){r:Rec}{x:V}{xs:List V}(hR:H G.R=some (.lst xs))(hx:RcAt G.rl H r x):TA CT CD G (upd H G.R (.lst (xs++[x]))) p { st with recs:=st.recs++[r] }∧Kp G H G (upd H G.R (.lst (xs++[x]))):=by
 have t:r9 H (upd H G.R (.lst (xs++[x]))):=n9 hR
 obtain⟨ys,h1,h2⟩:=h.rc
 rw[hR]at h1;cases h1
 refine⟨⟨d6 h.ob h.r0 h.r3 (by simp),d6 h.un h.r1 h.r3 (by simp),d6 h.ve h.r2 h.r3 (by simp),⟨_,b0,Paired.snoc (Paired.mapP h2 fun _ _ z=>z.upd h.r3 (by simp) t) (hx.upd h.r3 (by simp) t)⟩,?_,d6 h.rw h.r5 h.r3 (by simp),fun e he=>?_,fun q hq=>?_,h.r0,h.r1,h.r2,h.r3,h.r4,h.r5,h.nd,h.vd,fun b e=>h.cl b (n6 e)⟩,Kp.upd (by rw[h.r3];simp) t⟩
 ·obtain⟨zs,z1,z2⟩:=h.ln
  exact⟨zs,d6 z1 h.r4 h.r3 (by simp),z2.tupK t⟩
 ·have E:=h.dl e he
  exact⟨d6 E.ob E.r1 h.r3 (by simp),d6 E.lk E.r2 h.r3 (by simp),d6 E.as E.r3 h.r3 (by simp),E.r1,E.r2,E.r3⟩
 ·obtain⟨zs,z1,z2,z3⟩:=h.vl q hq
  exact⟨zs,d6 z1 z3 h.r3 (by simp),A8 t z2,z3⟩
end
inductive a5G(t:B4)(K:PySem.W.Frag)(vs:List V)(H:Hp)(Q:VK):Prop
 | mk (G:Gh) (p:Addr) (st:j0) (d:Dl) (x0:vs=[.ref p,.int d.num]) (x1:TA t.C_Tally t.C_Dealing G H p st) (x2:d∈st.under) (x3:C2 st) (x4:Bd 63 st) (x5:(∀r cs row,a8I st d r cs row→∀(l:Addr) (G':Gh) (H':Hp),TA t.C_Tally t.C_Dealing G' H' p (a2h st d r cs row)→Kp G H G' H'→H' l=some (.lst [])→G'.rl l=.free→H l=none→Q (.ref l) H')) (xq:∀r cs rg,a0D st d r cs rg→∀(l:Addr) (zs:List V) (G':Gh) (H':Hp),TA t.C_Tally t.C_Dealing G' H' p (u9 st d.num)→Kp G H G' H'→H' l=some (.lst zs)→v7 H' rg zs→G'.rl l=.free→H l=none→Q (.ref l) H')
def a0Q(t:B4)(K:PySem.W.Frag):Sp:=fun vs H Q _=>a5G t K vs H Q
set_option maxHeartbeats 0 in
theorem a5L(T:A1 K mg t):g8 P w K mg base x9 4 t.f_Tally_end t.d_Tally_end ["self","number"] (a0Q t K):=by
 refine T.F_Tally_end.ok O3 (fun vs H Q E h=>?_) (fun cdv A outer s H vs Q E hr h=>?_)
 ·obtain⟨G,p,st,d,rfl,_⟩:=h
  rfl
 obtain⟨G,p,st,d,rfl,h,hd,ok,bd,q1,q2⟩:=h
 have hu:=K9 hr
 refine⟨_,(b8 (g7 (i:=2) O3.nd rfl (Or.inl rfl) (a2g (q5 (pv 0) rfl) (pv 1) ⟨rfl,rfl,rfl,rfl⟩))
 (b8 (g7 (i:=3) O3.nd rfl (Or.inl rfl) (Z5 (pv 2) T.cl_Dealing T.M_Dealing_record (g8.mono (k:=3) (a0q T) (by decide)) hr T.F_Dealing_record.b .nil l4 (a6 (j6 G4 (O5 (pv 0) T.cl_Tally T.M_Tally_moment (g8.mono (k:=3) (K6 T) (by decide)) hr T.F_Tally_moment.b .nil l4) d5) b6)))
 (b8 (g7 (i:=4) O3.nd rfl (Or.inl rfl) (j6 a3c (q5 (pv 0) rfl) (j9 (g8.mono (k:=3) (a8H T) (by decide)) hr rfl T.m_links_with T.F_links_with.kp T.F_links_with.b .nil l4 (a6 (pv 3) (a6 (q5 (pv 0) rfl) b6)))))
 (b8 (g7 (i:=5) O3.nd rfl (Or.inl rfl) (j9 (g8.mono (k:=3) (a5C T) (by decide)) hr rfl T.m_row_or_ring T.F_row_or_ring.kp T.F_row_or_ring.b .nil l4 (a6 (j6 a3c (N6 rfl (t6 (q5 (pv 0) rfl)) (C5.mk (own:=["ended"]) (tl:=["self","number","dealing","record","links","found"]) rfl rfl rfl (fun _ _ _ _ _=>(m5 (i:=0) (a9z) rfl (Or.inl rfl))) (fun _ _ _ _ _=>V0) (fun _ _ _ _ _=>(d8 N9 (pv 0) (u0 rfl T.m_NUMBER T.r_NUMBER) (fun _ _=>rfl))))) (m4 (a6 (pv 1) b6))) (a6 (pv 4) b6))))
 (b8 (k7 (f7 z6 (d8 h7 (pv 5) d5 (fun _ _=>rfl)) l8 (i5 _))
 (c9 (i3 (j9 (g8.mono (k:=3) (b9g T) (by decide)) hr rfl T.m_turned T.F_turned.kp T.F_turned.b .nil l4 (a6 (d8 h7 (pv 5) d5 (fun _ _=>rfl)) (a6 (pv 1) b6)))))
 i9)
 (b8 (l6 (p8 PySem.F.plainAttrs_list PySem.F.slot_list_append PySem.F.type_list_append m7 (q5 (pv 0) rfl) (a6 (pv 3) b6)))
 (b8 (L5 (pv 0) (pv 4) rfl)
 (b8 (L5 (pv 0) (d8 h7 (pv 5) d5 (fun _ _=>rfl)) rfl)
 (b8 (l6 (Z5 (pv 0) T.cl_Tally T.M_Tally_take_over (g8.mono (k:=3) (a8k T) (by decide)) hr T.F_Tally_take_over.b .nil l4 (a6 (q5 (pv 2) rfl) b6)))
 (c9 (i3 (m4 b6)))))))))))),?_⟩
 have D:=h.dl d hd
 refine⟨_,rfl,p,_,_,_,_,rfl,h.ob,T.cl_Tally,T.n_Tally_under_way,rfl,G.U,rfl,.inl ⟨_,.inl h.un⟩,_,rfl,_,Sum.inl d.num,.ref (G.dp d.num),h.un,rfl,?_,?_⟩
 ·rw[p6,if_pos (qQ3.mpr ⟨d,hd,rfl⟩)]
 obtain⟨h1,k1⟩:=h.drop d.num
 have d1:=d6 (o:=.dK (F7 (l7 (st.under.map (·.num)) fun n=>.ref (G.dp n)) (Sum.inl d.num))) D.ob D.r1 h.r1 (by simp)
 have d2:=d6 (o:=.dK (F7 (l7 (st.under.map (·.num)) fun n=>.ref (G.dp n)) (Sum.inl d.num))) D.lk D.r2 h.r1 (by simp)
 have d3:=d6 (o:=.dK (F7 (l7 (st.under.map (·.num)) fun n=>.ref (G.dp n)) (Sum.inl d.num))) D.as D.r3 h.r1 (by simp)
 generalize upd H G.U (.dK (F7 (l7 (st.under.map (·.num)) fun n=>.ref (G.dp n)) (Sum.inl d.num)))=H1 at h1 k1 d1 d2 d3 ⊢
 obtain⟨xr,hR,pR⟩:=h1.rc
 have lR:xr.length=st.recs.length:=n5 pR
 obtain⟨bl1,bl2⟩:=bd.dl d hd
 refine⟨_,rfl,G.dp d.num,_,_,rfl,d1,rfl,_,rfl,p,_,_,rfl,h1.ob,rfl,p,_,_,_,_,_,_,_,xr,rfl,h1.ob,hR,_,_,rfl,rfl,G.dp d.num,_,G.lk d.num,G.as d.num,d.num,d.beg,_,d.looked,d.aside,rfl,d1,d2,d3,bl1,bl2,fun rc la pa ys zs H2 s2 nla npa nlp hrc hla hpa py pz sy sz=>?_⟩
 let r:Rec:=⟨d.num,d.beg,(xr.length:Int)+1,ys,zs⟩
 have isr:M0 d ((st.recs.length:Int)+1) r:=⟨rfl,rfl,by show(xr.length:Int)+1=_;rw[lR],py,pz,sy,sz⟩
 have rcAt:RecAt K H2 r (.ref rc):=⟨rc,la,pa,rfl,i4.of hrc,d7.of hla,d7.of hpa⟩
 have lys:ys.length≤63:=by rw[py.length_eq];exact bl1
 have lzs:zs.length≤63:=by rw[pz.length_eq,qQ0];exact bl2
 have h2:=h1.same s2
 obtain⟨xl,hL,pL⟩:=h2.ln
 refine⟨_,rfl,p,_,_,_,_,rfl,h2.ob,T.cl_Tally,T.n_Tally_links,rfl,_,rfl,_,rfl,p,_,_,_,_,rfl,h2.ob,T.cl_Tally,T.n_Tally_records,rfl,r,.ref rc,G.R,st.recs,xr,rfl,rcAt,d7.of (s2 _ _ hR),a5t (Paired.mapP pR fun _ _ z=>z.same s2),Nat.le_trans bd.rc (by decide),?_,fun lw yw cs H3 s3 nlw hlw L3 W=>?_⟩
 ·intro o ho
  rcases qQ9.mp ho with e | ho
  ·rw[e];exact⟨lzs,lys⟩
  ·exact bd.rs o ho
 have h3:=h2.same s3
 have lcs:cs.flatten.length≤600*st.recs.length:=a5B W fun o ho=>by
  rcases qQ9.mp ho with e | ho
  ·rw[e];exact⟨lzs,lys⟩
  ·exact bd.rs o ho
 have bln:=bd.ln
 have brc:=bd.rc
 refine⟨G.L,lw,xl,yw,rfl,rfl,s3 _ _ hL,hlw,?_,fun ln hln=>?_⟩
 ·rw[pL.len,L3.len,sizeLine_eq];show st.links.length+_≤_;omega
 have s4:=b9 (o:=.lst (xl++yw)) hln
 have L4:v7 (upd H3 ln (.lst (xl++yw))) (st.links++cs.flatten) (xl++yw):=(v7.append L3 (pL.tupK s3.tupK)).tupK s4.tupK
 have hl4:(upd H3 ln (.lst (xl++yw))) ln=some (.lst (xl++yw)):=b0
 generalize upd H3 ln (.lst (xl++yw))=H4 at s4 L4 hl4 ⊢
 have s14:=(s2.trans s3).trans s4
 have h4:=h1.same s14
 refine⟨_,rfl,p,_,_,_,_,rfl,h4.ob,T.cl_Tally,T.n_Tally_records,rfl,G.R,rfl,⟨_,d7.of (s14 _ _ hR)⟩,fun acc hacc=>?_⟩
 refine B7 (xs:=xr) (fun i Hc=>g6 H4 Hc∧Hc acc=some (.lst (((st.recs.take i).map (·.num)).map V.int))) ⟨b9 hacc,b0⟩ (fun i Hc _ z=>d7.of (z.1 _ _ (s14 _ _ hR))) (fun i x Hc hx z=>?_) (fun H5 z=>?_)
 ·obtain⟨sc,a1⟩:=z
  obtain⟨o,ho,b,la',pa',rfl,hb,_⟩:=v5 pR hx
  have li:=(qQ1.mp ho).1
  refine⟨_,rfl,b,_,0,_,rfl,rfl,i4.of (sc _ _ (s14 _ _ hb)),rfl,_,a1,m9 (by rw[qQ0,qQ0,List.length_take];omega),j7 sc hacc,?_⟩
  rw[b0,List.take_add_one,ho,Option.toList_some,qQ6,qQ6];rfl
 obtain⟨s5,a5⟩:=z
 rw[lR,List.take_length]at a5
 refine⟨_,rfl,(by show 1≤sizeLine;decide),fun e1 he1=>?_⟩
 have s6:=b9 (o:=.lst [.int d.num]) he1
 refine⟨acc,e1,_,_,rfl,rfl,s6 _ _ a5,b0,?_,fun nb hnb=>?_⟩
 ·rw[qQ0,qQ0,sizeLine_eq];simp;omega
 have s7:=b9 (o:=.lst (((st.recs.map (·.num)).map V.int)++[.int d.num])) hnb
 have en:((st.recs.map (·.num)).map V.int)++[.int d.num]=(nums st++[d.num]).map V.int:=by rw[qQ6];rfl
 rw[en]at s7 ⊢
 have hn7:(upd (upd H5 e1 (.lst [.int d.num])) nb (.lst ((nums st++[d.num]).map V.int))) nb=some (.lst ((nums st++[d.num]).map V.int)):=b0
 have s47:g6 H4 (upd (upd H5 e1 (.lst [.int d.num])) nb (.lst ((nums st++[d.num]).map V.int))):=(s5.trans s6).trans s7
 generalize upd (upd H5 e1 (.lst [.int d.num])) nb (.lst ((nums st++[d.num]).map V.int))=H7 at hn7 s47 ⊢
 have ndn:(nums st++[d.num]).Nodup:=by
  have:=ok.un
  rw[List.nodup_append]at this ⊢
  refine⟨this.1,by simp,fun x hx y hy e=>?_⟩
  have:y=d.num:=by simpa using hy
  exact ok.un |> List.nodup_append.mp |>.2.2 x hx d.num (qQ3.mpr ⟨d,hd,rfl⟩) (by rw[e,this])
 have ein:=b0t ok (r:=r) (n:=d.num) rfl W
 have s17:=s14.trans s47
 refine⟨_,rfl,nb,ln,nums st++[d.num],st.links++cs.flatten,xl++yw,rfl,d7.of hn7,ndn,d7.of (s47 _ _ hl4),L4.tupK s47.tupK,ein,?_,?_,fun f rw row H8 s8 nrw hf hrw R=>?_,fun f rn zr rg H8 s8 _ hf hrn Lr RG sub=>?_⟩
 ·show((st.recs.map (·.num))++[d.num]).length≤_
  rw[qQ4,qQ0];simp;omega
 ·rw[qQ4];omega
 ·
  have s18:=s17.trans s8
  have s28:g6 H2 H8:=((s3.trans s4).trans s47).trans s8
  have h8:=h1.same s18
  refine⟨_,rfl,f,_,0,_,rfl,rfl,i4.of hf,rfl,rfl,_,rfl,d9 ?_⟩
  have fla:=h1.cl la nla
  have fpa:=h1.cl pa npa
  have nln1:H1 ln=none:=j5 (s2.trans s3) hln
  have fln:=h1.cl ln nln1
  have frw:=h1.cl rw (j5 s17 nrw)
  have hF:=h8.fz (as:=[la,pa,ln,rw]) (fun a ha=>by
   simp only[qQ9,List.not_mem_nil,or_false]at ha
   rcases ha with rfl | rfl | rfl | rfl
   ·exact⟨fla,_,s28 _ _ hla⟩
   ·exact⟨fpa,_,s28 _ _ hpa⟩
   ·exact⟨fln,_,s8 _ _ (s47 _ _ hl4)⟩
   ·exact⟨frw,_,hrw⟩)
  have rcF:RcAt (T5 G [la,pa,ln,rw]).rl H8 r (.ref rc):=⟨rc,la,pa,rfl,s28 _ _ hrc,s28 _ _ hla,s28 _ _ hpa,a7o (by simp),a7o (by simp)⟩
  have hR8:H8 G.R=some (.lst xr):=s18 _ _ hR
  obtain⟨h9',k9'⟩:=hF.addR (xs:=xr) hR8 rcF
  have h9:TA t.C_Tally t.C_Dealing (T5 G [la,pa,ln,rw]) (upd H8 G.R (.lst (xr++[.ref rc]))) p { u9 st d.num with recs:=st.recs++[r] }:=h9'
  have k9:Kp (T5 G [la,pa,ln,rw]) H8 (T5 G [la,pa,ln,rw]) (upd H8 G.R (.lst (xr++[.ref rc]))):=k9'
  clear h9' k9'
  refine⟨_,rfl,p,_,_,_,_,rfl,h8.ob,T.cl_Tally,T.n_Tally_records,rfl,.inl ⟨rfl,_,d7.of hR8⟩,_,rfl,G.R,xr,_,rfl,rfl,hR8,m9 (by omega),?_⟩
  have rR:(T5 G [la,pa,ln,rw]).rl G.R=.recs:=hF.r3
  have l9:(upd H8 G.R (.lst (xr++[.ref rc]))) ln=some (.lst (xl++yw)):=d6 (s8 _ _ (s47 _ _ hl4)) (a7o (G:=G) (as:=[la,pa,ln,rw]) (by simp)) rR (by simp)
  have w9:(upd H8 G.R (.lst (xr++[.ref rc]))) rw=some (.lst (row.map V.int)):=d6 hrw (a7o (G:=G) (as:=[la,pa,ln,rw]) (by simp)) rR (by simp)
  have f9:=k9.tup.1 _ _ hf
  have rS:(T5 G [la,pa,ln,rw]).rl (G.as d.num)=.side d.num:=by
   show(if G.as d.num∈_ then _ else _)=_
   rw[if_neg,D.r3]
   intro z
   have fr:G.rl (G.as d.num)=.free:=by
    simp only[qQ9,List.not_mem_nil,or_false]at z
    rcases z with z | z | z | z<;>rw[z]<;>assumption
   rw[D.r3]at fr;cases fr
  have rD:(T5 G [la,pa,ln,rw]).rl (G.dp d.num)=.deal d.num:=by
   show(if G.dp d.num∈_ then _ else _)=_
   rw[if_neg,D.r1]
   intro z
   have fr:G.rl (G.dp d.num)=.free:=by
    simp only[qQ9,List.not_mem_nil,or_false]at z
    rcases z with z | z | z | z<;>rw[z]<;>assumption
   rw[D.r1]at fr;cases fr
  have s9as:(upd H8 G.R (.lst (xr++[.ref rc]))) (G.as d.num)=some (.dK (y8 d.aside)):=d6 (s18 _ _ d3) rS rR (by simp)
  have s9dp:(upd H8 G.R (.lst (xr++[.ref rc]))) (G.dp d.num)=some (.ins t.C_Dealing (G.dd d.num) (Y9 d.num d.beg (G.lk d.num) (G.as d.num))):=d6 (s18 _ _ d1) rD rR (by simp)
  have L9:v7 (upd H8 G.R (.lst (xr++[.ref rc]))) (st.links++cs.flatten) (xl++yw):=((L4.tupK s47.tupK).tupK s8.tupK).tupK k9.tup
  generalize upd H8 G.R (.lst (xr++[.ref rc]))=H9 at h9 k9 l9 w9 f9 s9as s9dp L9 ⊢
  have ob9:H9 p=some (.ins t.C_Tally G.dx (F8 (st.begun:Int) G.U G.Vd G.R G.L G.W)):=h9.ob
  refine⟨_,rfl,_,rfl,p,_,_,_,rfl,ob9,T.cl_Tally,T.n_Tally_links,(by show 6<1000;decide),?_⟩
  have f10:=(a2M (o:=.ins t.C_Tally G.dx (M7 "links" (.ref ln) (F8 (st.begun:Int) G.U G.Vd G.R G.L G.W))) ob9).1 _ _ f9
  refine⟨_,rfl,f,_,1,_,rfl,rfl,i4.of f10,rfl,_,rfl,p,_,_,_,rfl,b0,T.cl_Tally,T.n_Tally_row,(by show 6<1000;decide),?_⟩
  rw[a2V]
  have e10:M7 "row" (.ref rw) (M7 "links" (.ref ln) (F8 (st.begun:Int) G.U G.Vd G.R G.L G.W))=F8 (st.begun:Int) G.U G.Vd G.R ln rw:=rfl
  obtain⟨h10,k10⟩:=h9.setObj (b:=st.begun) (L:=ln) (W:=rw) (ls:=st.links++cs.flatten) (row:=row) ⟨_,l9,L9⟩ w9 (a7o (by simp)) (a7o (by simp))
  have a10:(upd H9 p (.ins t.C_Tally (T5 G [la,pa,ln,rw]).dx (F8 (st.begun:Int) G.U G.Vd G.R ln rw))) (G.as d.num)=some (.dK (y8 d.aside)):=d6 (G:=T5 G [la,pa,ln,rw]) s9as rS h9.r0 (by simp)
  have p10:(upd H9 p (.ins t.C_Tally (T5 G [la,pa,ln,rw]).dx (F8 (st.begun:Int) G.U G.Vd G.R ln rw))) (G.dp d.num)=some (.ins t.C_Dealing (G.dd d.num) (Y9 d.num d.beg (G.lk d.num) (G.as d.num))):=d6 (G:=T5 G [la,pa,ln,rw]) s9dp rD h9.r0 (by simp)
  have h10:TA t.C_Tally t.C_Dealing { T5 G [la,pa,ln,rw] with L:=ln,W:=rw } (upd H9 p (.ins t.C_Tally G.dx (F8 (st.begun:Int) G.U G.Vd G.R ln rw))) p { u9 st d.num with recs:=st.recs++[r],links:=st.links++cs.flatten,row:=row }:=h10
  have k10:Kp (T5 G [la,pa,ln,rw]) H9 { T5 G [la,pa,ln,rw] with L:=ln,W:=rw } (upd H9 p (.ins t.C_Tally G.dx (F8 (st.begun:Int) G.U G.Vd G.R ln rw))):=k10
  have a10:(upd H9 p (.ins t.C_Tally G.dx (F8 (st.begun:Int) G.U G.Vd G.R ln rw))) (G.as d.num)=some (.dK (y8 d.aside)):=a10
  have p10:(upd H9 p (.ins t.C_Tally G.dx (F8 (st.begun:Int) G.U G.Vd G.R ln rw))) (G.dp d.num)=some (.ins t.C_Dealing (G.dd d.num) (Y9 d.num d.beg (G.lk d.num) (G.as d.num))):=p10
  have kk:Kp G H (T5 G [la,pa,ln,rw]) H8:=by
   refine⟨fun b o f e=>s18 _ _ (k1.keep b o f e),k1.tup.trans s18.tupK,fun b o f e=>?_,fun b e=>k1.dom b (j5 s18 e)⟩
   have e1:=k1.keep b o f e
   show(if b∈_ then _ else _)=_
   rw[if_neg]
   ·exact f
   ·intro z
    simp only[qQ9,List.not_mem_nil,or_false]at z
    rcases z with z | z | z | z
    ·rw[z,nla]at e1;cases e1
    ·rw[z,npa]at e1;cases e1
    ·rw[z,nln1]at e1;cases e1
    ·rw[z,j5 s17 nrw]at e1;cases e1
  rw[e10]
  generalize upd H9 p (.ins t.C_Tally G.dx (F8 (st.begun:Int) G.U G.Vd G.R ln rw))=HA at h10 k10 a10 p10 ⊢
  have nn:∀e∈K3 st.under d.num,e.num≠d.num:=fun e he=>by simpa using (qW0.mp he).2
  refine⟨_,rfl,p,_,_,rfl,h10.ob,rfl,_,rfl,G.dp d.num,_,_,_,_,rfl,p10,T.cl_Dealing,T.n_Dealing_aside,rfl,{ T5 G [la,pa,ln,rw] with L:=ln,W:=rw },p,G.as d.num,_,d.num,d.aside,rfl,h10,a10,rS,nn,Nat.le_trans bl2 (by decide),Nat.le_trans bd.ve (by decide),(fun q hq=>Nat.le_trans (bd.vl q hq) (by decide)),fun GB HB hB kB=>?_⟩
  refine⟨(by show 0≤sizeLine;decide),fun l hl=>?_⟩
  have sB:=b9 (o:=.lst []) hl
  have eB:({ u9 st d.num with recs:=st.recs++[r],links:=st.links++cs.flatten,row:=row,vers:=B8 st.vers d.aside ((st.recs++[r]).length:Int) }:j0)=a2h st d r cs row:=by
   unfold a2h u9
   rw[show(((st.recs++[r]).length:Nat):Int)=(st.recs.length:Int)+1 by rw[qQ4,List.length_singleton];omega]
  have hB:TA t.C_Tally t.C_Dealing GB HB p (a2h st d r cs row):=by rw[←eB];exact hB
  exact q1 r cs row ⟨isr,W,R⟩ l GB _ (hB.same sB) (((kk.trans k9).trans k10).trans (kB.trans (Kp.same (G:=GB) sB))) b0 (hB.cl l hl) ((((kk.trans k9).trans k10).trans kB).dom l hl)
 ·
  have s18:=s17.trans s8
  have h8:=h1.same s18
  refine⟨_,rfl,f,_,0,_,rfl,rfl,i4.of hf,rfl,rfl,_,rfl,l5 ?_⟩
  obtain⟨j,hj,hjf⟩:=a2a (a3K ok (d:=d) (r:=r) rfl W RG sub)
  have lj:=(qQ1.mp hj).1
  rw[qQ0]at lj
  have lrg:rg.length≤(nums st++[d.num]).length:=by
   have:=u7 (m:=nums st++[d.num]) RG.nd fun x hx=>by
    obtain⟨l,hl,e⟩:=qQ3.mp hx
    rw[←e];exact(ein l (sub l hl)).1
   rwa [qQ0] at this
  have lnn:(nums st++[d.num]).length≤101:=by
   show((st.recs.map (·.num))++[d.num]).length≤_
   rw[qQ4,qQ0];simp;omega
  refine⟨_,rfl,f,_,1,_,rfl,rfl,i4.of hf,rfl,_,rfl,rn,d.num,zr,rg,j,rfl,hrn,Lr,by omega,hj,hjf,fun l H9 s9 nl hl9=>?_⟩
  have h9:=h8.same s9
  refine q2 r cs (rg.drop j++rg.take j) ⟨isr,W,RG.turn lj,fun x hx=>sub x ?_,?_⟩ l _ G H9 h9 (k1.trans (Kp.same (G:=G) (s18.trans s9))) hl9 ?_ (h8.cl l nl) (k1.dom l (j5 s18 nl))
  ·rcases qQ5.mp hx with hx | hx
   ·exact List.mem_of_mem_drop hx
   ·exact List.mem_of_mem_take hx
  ·rw[qQ6,List.map_drop,List.getElem?_append_left (by rw[List.length_drop,qQ0];omega),List.getElem?_drop];simpa using hj
  ·have tk:∀(n:Nat) {ls:List Lk} {xs:List V},v7 H8 ls xs→v7 H8 (ls.take n) (xs.take n):=by
    intro n
    induction n with
    | zero=>intro ls xs _;exact .nil
    | succ n ih=>intro ls xs z;cases z with
     | nil=>exact .nil
     | cons a b=>exact .cons a (ih b)
   exact(v7.append (tk j Lr) (Lr.drop j)).tupK s9.tupK
def O2(g:Str):Prop:=PyData.strOk g=true∧g.length≤200
inductive i7 where
 | begin
 | look (n:Int) (g:Str)
 | put (n:Int) (g:Str) (a:Int)
 | fin (n:Int)
 | leave (n:Int)
 | sweep
def dv:i7→List V
 | .begin=>[.str "begin"]
 | .look n g=>[.str "look",.int n,.str g]
 | .put n g a=>[.str "put",.int n,.str g,.int a]
 | .fin n=>[.str "end",.int n]
 | .leave n=>[.str "leave",.int n]
 | .sweep=>[.str "sweep"]
def S1:i7→Prop
 | .look _ g=>O2 g
 | .put _ g _=>O2 g
 | _=>True
def a5l(H:Hp)(d:i7)(x:V):Prop:=∃p,x=.ref p∧H p=some (.tup (dv d))
def y0(H:Hp)(ds:List i7)(xs:List V):Prop:=Paired (a5l H) ds xs
theorem y0.tupK{H H':Hp}(k:r9 H H'):∀{ds:List i7} {xs:List V},y0 H ds xs→y0 H' ds xs
 | _,_,.nil=>.nil
 | _,_,.cons ⟨p,e,h⟩ t=>.cons ⟨p,e,k.1 _ _ h⟩ (y0.tupK k t)
theorem y0.snoc{H:Hp}{d:i7}{x:V}(h:a5l H d x):∀{ds:List i7} {xs:List V},y0 H ds xs→y0 H (ds++[d]) (xs++[x])
 | _,_,.nil=>.cons h .nil
 | _,_,.cons a t=>.cons a (y0.snoc h t)
theorem y0.len{H:Hp}{ds:List i7}{xs:List V}(h:y0 H ds xs):xs.length=ds.length:=by
 induction h with
 | nil=>rfl
 | cons _ _ ih=>simp[ih]
inductive t7 where
 | num (i:Int)
 | word (x:Str)
 | non
 | ring (rg:List Lk)
def numOf:i7→Option Int
 | .look n _=>some n
 | .put n _ _=>some n
 | .fin n=>some n
 | .leave n=>some n
 | _=>none
inductive Step:j0→i7→t7→j0→Prop
 | begin {st:j0}:Step st .begin (.num (st.begun:Int)) (a7f st)
 | sweep {st:j0} {m:Int}:a9M st m→Step st .sweep (.num (a4c st.vers m)) { st with vers:=Q4 st.vers m }
 | none {st:j0} {d:i7} {n:Int}:numOf d=some n→n∉st.under.map (·.num)→Step st d .non st
 | own {st:j0} {d:Dl} {g:Str} {a:Int}:d∈st.under→p9 d.aside g=some a→Step st (.look d.num g) (.num a) st
 | look {st:j0} {d:Dl} {g:Str}:d∈st.under→p9 d.aside g=none→Step st (.look d.num g) (.num (valueAt (v8 st.vers g) d.beg)) (a1Y st d.num g)
 | put {st:j0} {d:Dl} {g:Str} {a:Int}:d∈st.under→Step st (.put d.num g a) (.word "put") (putSt st d.num g a)
 | leave {st:j0} {d:Dl}:d∈st.under→Step st (.leave d.num) (.word "left") (u9 st d.num)
 | ended {st:j0} {d:Dl} {r:Rec} {cs:List (List Lk)} {row:List Int}:d∈st.under→a8I st d r cs row→Step st (.fin d.num) (.word "ended") (a2h st d r cs row)
 | ring {st:j0} {d:Dl} {r:Rec} {cs:List (List Lk)} {rg:List Lk}:d∈st.under→a0D st d r cs rg→Step st (.fin d.num) (.ring rg) (u9 st d.num)
inductive Run(s0:j0):List i7→List t7→j0→Prop
 | nil:Run s0 [] [] s0
 | snoc {ds:List i7} {as:List t7} {st st':j0} {d:i7} {a:t7}:Run s0 ds as st→Step st d a st'→Run s0 (ds++[d]) (as++[a]) st'
theorem C8{ds:List Dl}{n:Int}{f:Dl→Dl}{d:Dl}(h:d∈A6 ds n f):∃e∈ds,d=e∨d=f e:=by
 obtain⟨e,he,rfl⟩:=qQ3.mp h
 refine⟨e,he,?_⟩
 split
 ·exact .inr rfl
 ·exact .inl rfl
theorem a5F{α:Type}[DecidableEq α]{a b b':List α}(h:(a++b).Nodup)(s:b'.Sublist b):(a++b').Nodup:=h.sublist ((List.Sublist.refl a).append s)
theorem a1U{st st':j0}{d:i7}{a:t7}(h:C2 st)(s:Step st d a st'):C2 st':=by
 have leave:∀n,C2 (u9 st n):=fun n=>by
  have sb:((K3 st.under n).map (·.num)).Sublist (st.under.map (·.num)):=by unfold K3;exact(List.filter_sublist).map _
  exact⟨a5F h.un sb,h.row,h.mem,fun m hm=>h.lt m (by
   rcases qQ5.mp hm with z | z
   ·exact List.mem_append_left _ z
   ·exact List.mem_append_right _ (sb.subset z))⟩
 cases s with
 | begin=>
  refine⟨?_,h.row,h.mem,fun n hn=>?_⟩
  ·show(nums st++(st.under++([⟨(st.begun:Int),(st.recs.length:Int),[],[]⟩]:List Dl)).map (·.num)).Nodup
   rw[qQ6,←List.append_assoc,List.nodup_append]
   refine⟨h.un,by simp,fun x hx y hy e=>?_⟩
   have:y=(st.begun:Int):=by simpa using hy
   have:=h.lt x hx
   omega
  ·have hn:n∈nums st++(st.under++([⟨(st.begun:Int),(st.recs.length:Int),[],[]⟩]:List Dl)).map (·.num):=hn
   rw[qQ6,←List.append_assoc]at hn
   show 0≤n∧n<((st.begun+1:Nat):Int)
   rcases qQ5.mp hn with hn | hn
   ·have:=h.lt n hn;omega
   ·have:n=(st.begun:Int):=by simpa using hn
    omega
 | sweep _=>exact⟨h.un,h.row,h.mem,h.lt⟩
 | none _ _=>exact h
 | own _ _=>exact h
 | @look d g _ _=>
  have e:(A6 st.under d.num (P1 g)).map (·.num)=st.under.map (·.num):=J7 fun _=>rfl
  exact⟨by show(nums st++(A6 st.under d.num (P1 g)).map (·.num)).Nodup;rw[e];exact h.un,h.row,h.mem,fun n hn=>h.lt n (by have hn:n∈nums st++(A6 st.under d.num (P1 g)).map (·.num):=hn;rw[e]at hn;exact hn)⟩
 | @put d g a _=>
  have e:(A6 st.under d.num (P3 g a)).map (·.num)=st.under.map (·.num):=J7 fun _=>rfl
  exact⟨by show(nums st++(A6 st.under d.num (P3 g a)).map (·.num)).Nodup;rw[e];exact h.un,h.row,h.mem,fun n hn=>h.lt n (by have hn:n∈nums st++(A6 st.under d.num (P3 g a)).map (·.num):=hn;rw[e]at hn;exact hn)⟩
 | leave _=>exact leave _
 | ring _ _=>exact leave _
 | @ended d r cs row hd E=>
  have en:nums (a2h st d r cs row)=nums st++[d.num]:=by
   show(st.recs++[r]).map (·.num)=_
   rw[qQ6];show _++[r.num]=_;rw[E.rc.1];rfl
  have sb:((K3 st.under d.num).map (·.num)).Sublist (st.under.map (·.num)):=by unfold K3;exact(List.filter_sublist).map _
  have nin:d.num∉(K3 st.under d.num).map (·.num):=fun z=>by
   obtain⟨e,he,w⟩:=qQ3.mp z
   simpa [w] using (qW0.mp he).2
  have dn:d.num∈st.under.map (·.num):=qQ3.mpr ⟨d,hd,rfl⟩
  refine⟨?_,by rw[en];exact E.row,fun l=>?_,fun n hn=>?_⟩
  ·rw[en]
   show(nums st++[d.num]++(K3 st.under d.num).map (·.num)).Nodup
   rw[List.append_assoc]
   have hh:=List.nodup_append.mp h.un
   rw[List.nodup_append]
   refine⟨hh.1,?_,fun x hx y hy=>?_⟩
   ·rw[List.singleton_append,List.nodup_cons];exact⟨nin,hh.2.1.sublist sb⟩
   ·rcases qQ5.mp hy with hy | hy
    ·rw[qQ2.mp hy];exact hh.2.2 x hx _ dn
    ·exact hh.2.2 x hx y (sb.subset hy)
  ·show l∈st.links++cs.flatten↔∃r'∈st.recs++[r],∃o∈st.recs++[r],r'.num≠o.num∧a0m r' o l
   have ne:∀o∈st.recs,o.num≠r.num:=fun o ho e=>(List.nodup_append.mp h.un).2.2 o.num (qQ3.mpr ⟨o,ho,rfl⟩) d.num dn (by rw[e,E.rc.1])
   rw[qQ5,h.mem,E.lw.mem]
   constructor
   ·rintro(⟨a,ha,b,hb,c,k⟩ | ⟨o,ho,k | k⟩)
    ·exact⟨a,List.mem_append_left _ ha,b,List.mem_append_left _ hb,c,k⟩
    ·exact⟨r,by simp,o,List.mem_append_left _ ho,(ne o ho).symm,k⟩
    ·exact⟨o,List.mem_append_left _ ho,r,by simp,ne o ho,k⟩
   ·rintro⟨a,ha,b,hb,c,k⟩
    rcases qQ5.mp ha with u | u<;>rcases qQ5.mp hb with v | v
    ·exact .inl ⟨a,u,b,v,c,k⟩
    ·rw[qQ2.mp v]at k;exact .inr ⟨a,u,.inr k⟩
    ·rw[qQ2.mp u]at k;exact .inr ⟨b,v,.inl k⟩
    ·rw[qQ2.mp u,qQ2.mp v]at c;exact absurd rfl c
  ·rw[en]at hn
   have hn:n∈nums st++[d.num]++(K3 st.under d.num).map (·.num):=hn
   refine h.lt n ?_
   rcases qQ5.mp hn with hn | hn
   ·rcases qQ5.mp hn with hn | hn
    ·exact List.mem_append_left _ hn
    ·rw[qQ2.mp hn];exact List.mem_append_right _ dn
   ·exact List.mem_append_right _ (sb.subset hn)
theorem b6j(ks:List Str)(g:Str):(L8 ks g).length≤ks.length+1:=by unfold L8;split<;>simp
theorem b2s(k:Nat):(k+1)*(k+1)=k*k+2*k+1:=by rw[Nat.add_mul,Nat.mul_add];omega
theorem b7p{k k':Nat}{st:j0}(h:Bd k st)(le:k≤k'):Bd k' st:=by
 have sq:k*k≤k'*k':=Nat.mul_le_mul le le
 exact⟨Nat.le_trans h.un le,Nat.le_trans h.rc le,fun d hd=>⟨Nat.le_trans (h.dl d hd).1 le,Nat.le_trans (h.dl d hd).2 le⟩,fun r hr=>⟨Nat.le_trans (h.rs r hr).1 le,Nat.le_trans (h.rs r hr).2 le⟩,Nat.le_trans h.ve sq,fun q hq=>Nat.le_trans (h.vl q hq) sq,Nat.le_trans h.ln (Nat.mul_le_mul_left _ sq)⟩
theorem a3V{st st':j0}{d:i7}{a:t7}{k:Nat}(hk:k≤63)(ok:(st.vers.map (·.1)).Nodup)(h:Bd k st)(s:Step st d a st'):Bd (k+1) st':=by
 have up:Bd (k+1) st:=b7p h (Nat.le_succ k)
 have leave:∀n,Bd (k+1) (u9 st n):=fun n=>⟨Nat.le_trans (List.length_filter_le _ _) up.un,up.rc,fun d hd=>up.dl d (qW0.mp hd).1,up.rs,up.ve,up.vl,up.ln⟩
 have sq:=b2s k
 cases s with
 | begin=>
  refine⟨?_,up.rc,fun d hd=>?_,up.rs,up.ve,up.vl,up.ln⟩
  ·show(st.under++_).length≤_
   rw[qQ4,List.length_singleton];have:=h.un;omega
  ·rcases qQ5.mp hd with hd | hd
   ·exact up.dl d hd
   ·rw[qQ2.mp hd];simp
 | @sweep m _=>
  refine⟨up.un,up.rc,up.dl,up.rs,?_,fun q hq=>?_,up.ln⟩
  ·show(Q4 st.vers m).length≤_
   unfold Q4;rw[qQ0];exact up.ve
  ·obtain⟨r,hr,rfl⟩:=qQ3.mp hq
   show(swL r.2 m).length≤_
   unfold swL;rw[List.length_drop]
   have:=up.vl r hr;omega
 | none _ _=>exact up
 | own _ _=>exact up
 | @look d g _ _=>
  refine⟨by show(A6 st.under d.num (P1 g)).length≤_;unfold A6;rw[qQ0];exact up.un,up.rc,fun e he=>?_,up.rs,up.ve,up.vl,up.ln⟩
  obtain⟨e',he',rfl | rfl⟩:=C8 he
  ·exact up.dl _ he'
  ·have:=h.dl e' he'
   have:=b6j e'.looked g
   exact⟨by show(L8 e'.looked g).length≤_;omega,by show e'.aside.length≤_;omega⟩
 | @put d g a _=>
  refine⟨by show(A6 st.under d.num (P3 g a)).length≤_;unfold A6;rw[qQ0];exact up.un,up.rc,fun e he=>?_,up.rs,up.ve,up.vl,up.ln⟩
  obtain⟨e',he',rfl | rfl⟩:=C8 he
  ·exact up.dl _ he'
  ·have:=h.dl e' he'
   have:=a8O e'.aside g a
   exact⟨by show e'.looked.length≤_;omega,by show(C1 e'.aside g a).length≤_;omega⟩
 | leave _=>exact leave _
 | ring _ _=>exact leave _
 | @ended d r cs row hd E=>
  have hd':=h.dl d hd
  have lr1:r.looked.length≤k:=by rw[E.rc.2.2.2.1.length_eq];exact hd'.1
  have lr2:r.put.length≤k:=by rw[E.rc.2.2.2.2.1.length_eq,qQ0];exact hd'.2
  have hrc:=h.rc
  refine⟨Nat.le_trans (List.length_filter_le _ _) up.un,?_,fun e he=>up.dl e (qW0.mp he).1,fun o ho=>?_,?_,fun q hq=>?_,?_⟩
  ·show(st.recs++[r]).length≤_
   rw[qQ4,List.length_singleton];omega
  ·rcases qQ5.mp ho with ho | ho
   ·exact up.rs o ho
   ·rw[qQ2.mp ho];omega
  ·show(B8 st.vers d.aside _).length≤_
   have:=a2F st.vers ((st.recs.length:Int)+1) d.aside
   have:=h.ve
   omega
  ·have:=a5y ok (fun q hq=>h.vl q hq) q hq
   omega
  ·have:=a5B E.lw fun o ho=>by
    rcases qQ9.mp ho with e | ho
    ·rw[e];exact⟨Nat.le_trans lr2 hk,Nat.le_trans lr1 hk⟩
    ·exact⟨Nat.le_trans (h.rs o ho).1 hk,Nat.le_trans (h.rs o ho).2 hk⟩
   have hl:=h.ln
   show(st.links++cs.flatten).length≤_
   rw[qQ4,sq,Nat.mul_add,Nat.mul_add]
   omega
theorem a2B{s0 st:j0}{ds:List i7}{as:List t7}(h:Run s0 ds as st):as.length=ds.length:=by
 induction h with
 | nil=>rfl
 | snoc _ _ ih=>rw[qQ4,qQ4,ih];rfl
theorem Paired.mapI{α β:Type}{F F':α→β→Prop}{l:List α}{m:List β}(h:Paired F l m):(∀a b,b∈m→F a b→F' a b)→Paired F' l m:=by
 induction h with
 | nil=>intro _;exact .nil
 | cons x t ih=>intro g;exact .cons (g _ _ List.mem_cons_self x) (ih fun a b hb=>g a b (List.mem_cons_of_mem _ hb))
def C0(rl:Addr→Role)(H:Hp):t7→V→Prop
 | .num i,x=>x=.int i
 | .word s,x=>x=.str s
 | .non,x=>x=.non
 | .ring rg,x=>∃l zs,x=.ref l∧H l=some (.lst zs)∧v7 H rg zs∧rl l=.free
theorem C0.kp{G G':Gh}{H H':Hp}(k:Kp G H G' H'){a:t7}{x:V}(h:C0 G.rl H a x):C0 G'.rl H' a x:=by
 cases a with
 | num i=>exact h
 | word s=>exact h
 | non=>exact h
 | ring rg=>
  obtain⟨l,zs,e,h1,h2,h3⟩:=h
  exact⟨l,zs,e,k.keep _ _ h3 h1,h2.tupK k.tup,k.out _ _ h3 h1⟩
theorem C0.upd{G:Gh}{H:Hp}{c:Addr}{o:HO}(t:r9 H (L2.upd H c o)){a:t7}{x:V}(n:x≠.ref c)(h:C0 G.rl H a x):C0 G.rl (L2.upd H c o) a x:=by
 cases a with
 | num i=>exact h
 | word s=>exact h
 | non=>exact h
 | ring rg=>
  obtain⟨l,zs,e,h1,h2,h3⟩:=h
  exact⟨l,zs,e,by rw[b7 fun z=>n (by rw[e,z])];exact h1,h2.tupK t,h3⟩
def a5Y(t:B4)(G:Gh)(H:Hp)(p:Addr)(st:j0)(d:i7)(Q:V→Hp→Prop):Prop:=
 ∀a st',Step st d a st'→∀(x:V) (G':Gh) (H':Hp),TA t.C_Tally t.C_Dealing G' H' p st'→Kp G H G' H'→C0 G'.rl H' a x→(∀c,x=.ref c→H c=none)→Q x H'
section
variable{CT CD p:Addr}{G:Gh}{H:Hp}{st:j0}
theorem TA.freeU(h:TA CT CD G H p st){a:Addr}{o:HO}(ha:G.rl a=.free)(t:r9 H (upd H a o)):TA CT CD G (upd H a o) p st:=by
 refine⟨d6 h.ob h.r0 ha (by simp),d6 h.un h.r1 ha (by simp),d6 h.ve h.r2 ha (by simp),?_,?_,d6 h.rw h.r5 ha (by simp),fun e he=>?_,fun q hq=>?_,h.r0,h.r1,h.r2,h.r3,h.r4,h.r5,h.nd,h.vd,fun b e=>h.cl b (n6 e)⟩
 ·obtain⟨xs,h1,h2⟩:=h.rc
  exact⟨xs,d6 h1 h.r3 ha (by simp),Paired.mapP h2 fun _ _ z=>z.upd ha (by simp) t⟩
 ·obtain⟨xs,h1,h2⟩:=h.ln
  exact⟨xs,d6 h1 h.r4 ha (by simp),h2.tupK t⟩
 ·have E:=h.dl e he
  exact⟨d6 E.ob E.r1 ha (by simp),d6 E.lk E.r2 ha (by simp),d6 E.as E.r3 ha (by simp),E.r1,E.r2,E.r3⟩
 ·obtain⟨xs,h1,h2,h3⟩:=h.vl q hq
  exact⟨xs,d6 h1 h3 ha (by simp),A8 t h2,h3⟩
end
inductive a9p(t:B4)(K:PySem.W.Frag)(vs:List V)(H:Hp)(Q:VK):Prop
 | mk (G:Gh) (p:Addr) (st:j0) (d:Dl) (x0:vs=[.ref p,.int d.num]) (x1:TA t.C_Tally t.C_Dealing G H p st) (x2:d∈st.under) (x3:C2 st) (x4:Bd 63 st) (xq:a5Y t G H p st (.fin d.num) Q)
def a3t(t:B4)(K:PySem.W.Frag):Sp:=fun vs H Q _=>a9p t K vs H Q
theorem a1t(T:A1 K mg t):g8 P w K mg base x9 5 t.f_answer_to_end t.d_answer_to_end ["tally","number"] (a3t t K):=by
 refine T.F_answer_to_end.ok a0a (fun vs H Q E h=>?_) (fun cdv A outer s H vs Q E hr h=>?_)
 ·obtain⟨G,p,st,d,rfl,_⟩:=h
  rfl
 obtain⟨G,p,st,d,rfl,h,hd,ok,bd,q⟩:=h
 refine⟨_,(b8 (g7 (i:=2) a0a.nd rfl (Or.inl rfl) (Z5 (pv 0) T.cl_Tally T.M_Tally_end (g8.mono (k:=4) (a5L T) (by decide)) hr T.F_Tally_end.b .nil l4 (a6 (pv 1) b6)))
 (b8 (k7 (f7 z6 (f6 g9 rfl T.m_len PySem.boot_len (a6 (pv 2) b6)) d5 (i5 _))
 (c9 (i3 l8))
 i9)
 (c9 (i3 (pv 2))))),?_⟩
 refine⟨_,rfl,p,_,_,rfl,h.ob,rfl,_,rfl,G,p,st,d,rfl,h,hd,ok,bd,fun r cs row E l G' H' h1 k1 hl fl nl=>?_,fun r cs rg E l zs G' H' h1 k1 hl Lz fl nl=>?_⟩
 ·refine⟨_,rfl,l,_,rfl,.inl (d7.of hl),rfl,_,rfl,l5 ?_⟩
  exact q _ _ (.ended hd E) _ G' H' h1 k1 rfl (fun c e=>nomatch e)
 ·have ne:(zs.length:Int)≠0:=by
   have:=E.ring.ne
   have:=Lz.len
   intro z
   have:rg=[]:=List.length_eq_zero_iff.mp (by omega)
   contradiction
  refine⟨_,rfl,l,_,rfl,.inl (d7.of hl),rfl,_,rfl,?_⟩
  rw[show decide (V.int (zs.length:Int)=V.int 0)=false from decide_eq_false fun e=>ne (V.int.inj e)]
  refine d9 ?_
  exact⟨_,rfl,q _ _ (.ring hd E) _ G' H' h1 k1 ⟨l,zs,rfl,hl,Lz,fl⟩ (fun c e=>by cases e;exact nl)⟩
inductive a5g(t:B4)(K:PySem.W.Frag)(vs:List V)(H:Hp)(Q:VK):Prop
 | mk (G:Gh) (p b:Addr) (st:j0) (d:Dl) (e:i7) (x0:vs=[.ref p,.ref b]) (x1:TA t.C_Tally t.C_Dealing G H p st) (x2:H b=some (.tup (dv e))) (x3:numOf e=some d.num) (x4:d∈st.under) (x5:C2 st) (x6:Bd 63 st) (xq:a5Y t G H p st e Q)
def a8j(t:B4)(K:PySem.W.Frag):Sp:=fun vs H Q _=>a5g t K vs H Q
set_option maxHeartbeats 0 in
theorem a6j(T:A1 K mg t):g8 P w K mg base x9 6 t.f_answer_under_way t.d_answer_under_way ["tally","deed"] (a8j t K):=by
 refine T.F_answer_under_way.ok T4 (fun vs H Q E h=>?_) (fun cdv A outer s H vs Q E hr h=>?_)
 ·obtain⟨G,p,b,st,d,e,rfl,_⟩:=h
  rfl
 obtain⟨G,p,b,st,d,e,rfl,h,hb,hn,hd,ok,bd,q⟩:=h
 refine⟨_,(b8 (g7 (i:=2) T4.nd rfl (Or.inl rfl) (d8 h7 (pv 1) d5 (fun _ _=>rfl)))
 (b8 (k7 (f7 z6 (d8 h7 (pv 1) d5 (fun _ _=>rfl)) l8 (i5 _))
 (c9 (i3 (Z5 (pv 0) T.cl_Tally T.M_Tally_look (g8.mono (k:=5) (a2I T) (by decide)) hr T.F_Tally_look.b .nil l4 (a6 (pv 2) (a6 (d8 h7 (pv 1) d5 (fun _ _=>rfl)) b6)))))
 i9)
 (b8 (k7 (f7 z6 (d8 h7 (pv 1) d5 (fun _ _=>rfl)) l8 (i5 _))
 (b8 (l6 (Z5 (pv 0) T.cl_Tally T.M_Tally_put (g8.mono (k:=5) (a4O T) (by decide)) hr T.F_Tally_put.b .nil l4 (a6 (pv 2) (a6 (d8 h7 (pv 1) d5 (fun _ _=>rfl)) (a6 (d8 h7 (pv 1) d5 (fun _ _=>rfl)) b6)))))
 (c9 (i3 l8)))
 i9)
 (b8 (k7 (f7 z6 (d8 h7 (pv 1) d5 (fun _ _=>rfl)) l8 (i5 _))
 (c9 (i3 (j9 (g8.mono (k:=5) (a1t T) (by decide)) hr rfl T.m_answer_to_end T.F_answer_to_end.kp T.F_answer_to_end.b .nil l4 (a6 (pv 0) (a6 (pv 2) b6)))))
 i9)
 (b8 (l6 (Z5 (pv 0) T.cl_Tally T.M_Tally_leave (g8.mono (k:=5) (a6z T) (by decide)) hr T.F_Tally_leave.b .nil l4 (a6 (pv 2) b6)))
 (c9 (i3 l8))))))),?_⟩
 have b1:=bd.dl d hd
 cases e with
 | begin=>cases hn
 | sweep=>cases hn
 | look n g=>
  cases hn
  refine⟨_,rfl,b,_,1,_,rfl,rfl,i4.of hb,rfl,?_⟩
  refine⟨_,rfl,b,_,0,_,rfl,rfl,i4.of hb,rfl,rfl,_,rfl,l5 ?_⟩
  refine⟨_,rfl,p,_,_,rfl,h.ob,rfl,_,rfl,_,rfl,b,_,2,_,rfl,rfl,i4.of hb,rfl,G,p,st,d,g,rfl,h,hd,by omega,fun x hx=>Nat.le_trans (bd.vl x hx) (by decide),fun a ha=>?_,fun ha G' H' h1 k1=>?_⟩
  ·exact q _ _ (.own hd ha) _ G H h (Kp.refl G H) rfl (fun c e=>nomatch e)
  ·exact q _ _ (.look hd ha) _ G' H' h1 k1 rfl (fun c e=>nomatch e)
 | put n g a=>
  cases hn
  refine⟨_,rfl,b,_,1,_,rfl,rfl,i4.of hb,rfl,?_⟩
  refine⟨_,rfl,b,_,0,_,rfl,rfl,i4.of hb,rfl,rfl,_,rfl,d9 ?_⟩
  refine⟨_,rfl,b,_,0,_,rfl,rfl,i4.of hb,rfl,rfl,_,rfl,l5 ?_⟩
  refine⟨_,rfl,p,_,_,rfl,h.ob,rfl,_,rfl,_,rfl,b,_,2,_,rfl,rfl,i4.of hb,rfl,_,rfl,b,_,3,_,rfl,rfl,i4.of hb,rfl,G,p,st,d,g,a,rfl,h,hd,by omega,fun G' H' h1 k1=>?_⟩
  exact q _ _ (.put hd) _ G' H' h1 k1 rfl (fun c e=>nomatch e)
 | fin n=>
  cases hn
  refine⟨_,rfl,b,_,1,_,rfl,rfl,i4.of hb,rfl,?_⟩
  refine⟨_,rfl,b,_,0,_,rfl,rfl,i4.of hb,rfl,rfl,_,rfl,d9 ?_⟩
  refine⟨_,rfl,b,_,0,_,rfl,rfl,i4.of hb,rfl,rfl,_,rfl,d9 ?_⟩
  refine⟨_,rfl,b,_,0,_,rfl,rfl,i4.of hb,rfl,rfl,_,rfl,l5 ?_⟩
  exact⟨_,rfl,_,rfl,G,p,st,d,rfl,h,hd,ok,bd,q⟩
 | leave n=>
  cases hn
  refine⟨_,rfl,b,_,1,_,rfl,rfl,i4.of hb,rfl,?_⟩
  refine⟨_,rfl,b,_,0,_,rfl,rfl,i4.of hb,rfl,rfl,_,rfl,d9 ?_⟩
  refine⟨_,rfl,b,_,0,_,rfl,rfl,i4.of hb,rfl,rfl,_,rfl,d9 ?_⟩
  refine⟨_,rfl,b,_,0,_,rfl,rfl,i4.of hb,rfl,rfl,_,rfl,d9 ?_⟩
  refine⟨_,rfl,p,_,_,rfl,h.ob,rfl,_,rfl,G,p,st,d,rfl,h,hd,fun G' H' h1 k1=>?_⟩
  exact q _ _ (.leave hd) _ G' H' h1 k1 rfl (fun c e=>nomatch e)
inductive a4H(t:B4)(K:PySem.W.Frag)(vs:List V)(H:Hp)(Q:VK):Prop
 | mk (G:Gh) (p b:Addr) (st:j0) (e:i7) (x0:vs=[.ref p,.ref b]) (x1:TA t.C_Tally t.C_Dealing G H p st) (x2:H b=some (.tup (dv e))) (x3:C2 st) (x4:Bd 63 st) (xq:a5Y t G H p st e Q)
def a5M(t:B4)(K:PySem.W.Frag):Sp:=fun vs H Q _=>a4H t K vs H Q
theorem C2.new{st:j0}(ok:C2 st):∀d∈st.under,d.num≠(st.begun:Int):=fun d hd e=>by
 have:=(ok.lt d.num (List.mem_append_right _ (qQ3.mpr ⟨d,hd,rfl⟩))).2
 omega
set_option maxHeartbeats 0 in
theorem a1M(T:A1 K mg t):g8 P w K mg base x9 7 t.f_answer_to t.d_answer_to ["tally","deed"] (a5M t K):=by
 refine T.F_answer_to.ok a6J (fun vs H Q E h=>?_) (fun cdv A outer s H vs Q E hr h=>?_)
 ·obtain⟨G,p,b,st,e,rfl,_⟩:=h
  rfl
 obtain⟨G,p,b,st,e,rfl,h,hb,ok,bd,q⟩:=h
 have hu:=K9 hr
 refine⟨_,(b8 (k7 (f7 z6 (d8 h7 (pv 1) d5 (fun _ _=>rfl)) l8 (i5 _))
 (c9 (i3 (O5 (pv 0) T.cl_Tally T.M_Tally_begin (g8.mono (k:=6) (a5z T) (by decide)) hr T.F_Tally_begin.b .nil l4)))
 i9)
 (b8 (k7 (f7 z6 (d8 h7 (pv 1) d5 (fun _ _=>rfl)) l8 (i5 _))
 (c9 (i3 (O5 (pv 0) T.cl_Tally T.M_Tally_sweep (g8.mono (k:=6) (a6y T) (by decide)) hr T.F_Tally_sweep.b .nil l4)))
 i9)
 (b8 (k7 (f7 (X0 hu) (d8 h7 (pv 1) d5 (fun _ _=>rfl)) (q5 (pv 0) rfl) (by with_unfolding_all rfl))
 (c9 (i3 O8))
 i9)
 (c9 (i3 (j9 (g8.mono (k:=6) (a6j T) (by decide)) hr rfl T.m_answer_under_way T.F_answer_under_way.kp T.F_answer_under_way.b .nil l4 (a6 (pv 0) (a6 (pv 1) b6)))))))),?_⟩
 have go:∀n,(dv e)[1]?=some (.int n)→numOf e=some n→(dv e)[0]?≠some (.str "begin")→(dv e)[0]?≠some (.str "sweep")→∃z0 zs,dv e=.str z0::zs:=fun n _ h _ _=>by
  cases e with
  | begin=>cases h
  | sweep=>cases h
  | look n g=>exact⟨_,_,rfl⟩
  | put n g a=>exact⟨_,_,rfl⟩
  | fin n=>exact⟨_,_,rfl⟩
  | leave n=>exact⟨_,_,rfl⟩
 clear go
 have bun:=bd.un
 have dg:=fun n=>t9.k (k:=Sum.inl n) h.un
 have fin:∀n,numOf e=some n→n∈st.under.map (·.num)→∃d,numOf e=some d.num∧d∈st.under:=fun n hn hm=>by
  obtain⟨d,hd,rfl⟩:=qQ3.mp hm
  exact⟨d,hn,hd⟩
 cases e with
 | begin=>
  refine⟨_,rfl,b,_,0,_,rfl,rfl,i4.of hb,rfl,rfl,_,rfl,l5 ?_⟩
  refine⟨_,rfl,p,_,_,rfl,h.ob,rfl,G,p,st,rfl,h,ok.new,by omega,fun G' H' h1 k1=>?_⟩
  exact q _ _ .begin _ G' H' h1 k1 rfl (fun c e=>nomatch e)
 | sweep=>
  refine⟨_,rfl,b,_,0,_,rfl,rfl,i4.of hb,rfl,rfl,_,rfl,d9 ?_⟩
  refine⟨_,rfl,b,_,0,_,rfl,rfl,i4.of hb,rfl,rfl,_,rfl,l5 ?_⟩
  refine⟨_,rfl,p,_,_,rfl,h.ob,rfl,G,p,st,rfl,h,by omega,Nat.le_trans bd.ve (by decide),fun x hx=>Nat.le_trans (bd.vl x hx) (by decide),fun m hm G' H' h1 k1=>?_⟩
  exact q _ _ (.sweep hm) _ G' H' h1 k1 rfl (fun c e=>nomatch e)
 | look n g=>
  refine⟨_,rfl,b,_,0,_,rfl,rfl,i4.of hb,rfl,rfl,_,rfl,d9 ?_⟩
  refine⟨_,rfl,b,_,0,_,rfl,rfl,i4.of hb,rfl,rfl,_,rfl,d9 ?_⟩
  have dg:=dg n
  rw[p6]at dg
  refine⟨_,rfl,b,_,1,_,rfl,rfl,i4.of hb,rfl,_,rfl,p,_,_,_,_,rfl,h.ob,T.cl_Tally,T.n_Tally_under_way,rfl,G.U,_,rfl,dg,_,rfl,?_⟩
  by_cases c:n∈st.under.map (·.num)
  ·rw[if_pos c]
   obtain⟨d,hn,hd⟩:=fin n rfl c
   exact d9 ⟨_,rfl,_,rfl,G,p,b,st,d,_,rfl,h,hb,hn,hd,ok,bd,q⟩
  ·rw[if_neg c]
   exact l5 (q _ _ (.none rfl c) _ G H h (Kp.refl G H) rfl (fun c e=>nomatch e))
 | put n g a=>
  refine⟨_,rfl,b,_,0,_,rfl,rfl,i4.of hb,rfl,rfl,_,rfl,d9 ?_⟩
  refine⟨_,rfl,b,_,0,_,rfl,rfl,i4.of hb,rfl,rfl,_,rfl,d9 ?_⟩
  have dg:=dg n
  rw[p6]at dg
  refine⟨_,rfl,b,_,1,_,rfl,rfl,i4.of hb,rfl,_,rfl,p,_,_,_,_,rfl,h.ob,T.cl_Tally,T.n_Tally_under_way,rfl,G.U,_,rfl,dg,_,rfl,?_⟩
  by_cases c:n∈st.under.map (·.num)
  ·rw[if_pos c]
   obtain⟨d,hn,hd⟩:=fin n rfl c
   exact d9 ⟨_,rfl,_,rfl,G,p,b,st,d,_,rfl,h,hb,hn,hd,ok,bd,q⟩
  ·rw[if_neg c]
   exact l5 (q _ _ (.none rfl c) _ G H h (Kp.refl G H) rfl (fun c e=>nomatch e))
 | fin n=>
  refine⟨_,rfl,b,_,0,_,rfl,rfl,i4.of hb,rfl,rfl,_,rfl,d9 ?_⟩
  refine⟨_,rfl,b,_,0,_,rfl,rfl,i4.of hb,rfl,rfl,_,rfl,d9 ?_⟩
  have dg:=dg n
  rw[p6]at dg
  refine⟨_,rfl,b,_,1,_,rfl,rfl,i4.of hb,rfl,_,rfl,p,_,_,_,_,rfl,h.ob,T.cl_Tally,T.n_Tally_under_way,rfl,G.U,_,rfl,dg,_,rfl,?_⟩
  by_cases c:n∈st.under.map (·.num)
  ·rw[if_pos c]
   obtain⟨d,hn,hd⟩:=fin n rfl c
   exact d9 ⟨_,rfl,_,rfl,G,p,b,st,d,_,rfl,h,hb,hn,hd,ok,bd,q⟩
  ·rw[if_neg c]
   exact l5 (q _ _ (.none rfl c) _ G H h (Kp.refl G H) rfl (fun c e=>nomatch e))
 | leave n=>
  refine⟨_,rfl,b,_,0,_,rfl,rfl,i4.of hb,rfl,rfl,_,rfl,d9 ?_⟩
  refine⟨_,rfl,b,_,0,_,rfl,rfl,i4.of hb,rfl,rfl,_,rfl,d9 ?_⟩
  have dg:=dg n
  rw[p6]at dg
  refine⟨_,rfl,b,_,1,_,rfl,rfl,i4.of hb,rfl,_,rfl,p,_,_,_,_,rfl,h.ob,T.cl_Tally,T.n_Tally_under_way,rfl,G.U,_,rfl,dg,_,rfl,?_⟩
  by_cases c:n∈st.under.map (·.num)
  ·rw[if_pos c]
   obtain⟨d,hn,hd⟩:=fin n rfl c
   exact d9 ⟨_,rfl,_,rfl,G,p,b,st,d,_,rfl,h,hb,hn,hd,ok,bd,q⟩
  ·rw[if_neg c]
   exact l5 (q _ _ (.none rfl c) _ G H h (Kp.refl G H) rfl (fun c e=>nomatch e))
theorem ok0:C2 O1 where
 un:=List.nodup_nil
 row:=⟨List.Perm.nil,List.nodup_nil,(fun l h=>nomatch h)⟩
 mem:=fun l=>⟨(fun h=>nomatch h),fun⟨r,hr,_⟩=>nomatch hr⟩
 lt:=fun n h=>nomatch h
theorem bd0:Bd 0 O1:=⟨qQ7 _,qQ7 _,(fun d h=>nomatch h),(fun r h=>nomatch h),qQ7 _,(fun q h=>nomatch h),qQ7 _⟩
def Told(t:B4)(G:Gh)(H:Hp)(p:Addr)(ds:List i7)(Q:V→Hp→Prop):Prop:=
 ∀(as:List t7) (st:j0) (G':Gh) (H':Hp) (r:Addr) (ys:List V),Run O1 ds as st→TA t.C_Tally t.C_Dealing G' H' p st→C2 st→Bd ds.length st→Kp G H G' H'→H' r=some (.lst ys)→Paired (C0 G'.rl H') as ys→G'.rl r=.free→H r=none→Q (.ref r) H'
inductive a4z(t:B4)(K:PySem.W.Frag)(vs:List V)(H:Hp)(Q:VK):Prop
 | mk (G:Gh) (p l:Addr) (ds:List i7) (xs:List V) (x0:vs=[.ref p,.ref l]) (x1:TA t.C_Tally t.C_Dealing G H p O1) (x2:H l=some (.lst xs)) (x3:G.rl l=.free) (x4:y0 H ds xs) (x5:ds.length≤63) (xq:Told t G H p ds Q)
def a4I(t:B4)(K:PySem.W.Frag):Sp:=fun vs H Q _=>a4z t K vs H Q
set_option maxHeartbeats 0 in
theorem a1j(T:A1 K mg t):g8 P w K mg base x9 8 t.f_answers_at t.d_answers_at ["tally","deeds"] (a4I t K):=by
 refine T.F_answers_at.ok X3 (fun vs H Q E h=>?_) (fun cdv A outer s H vs Q E hr h=>?_)
 ·obtain⟨G,p,l,ds,xs,rfl,_⟩:=h
  rfl
 obtain⟨G,p,l,ds,xs,rfl,h,hl,fl,hd,bn,q⟩:=h
 refine⟨_,(b8 (g7 (i:=2) X3.nd rfl (Or.inl rfl) (m4 b6))
 (b8 (A9 PassesOwn.never rfl (t6 (pv 1)) (m5 (i:=3) X3.nd rfl (Or.inl rfl))
 (c9 (l6 (p8 PySem.F.plainAttrs_list PySem.F.slot_list_append PySem.F.type_list_append m7 (pv 2) (a6 (j9 (g8.mono (k:=7) (a1M T) (by decide)) hr rfl T.m_answer_to T.F_answer_to.kp T.F_answer_to.b .nil l4 (a6 (pv 0) (a6 (pv 3) b6))) b6)))))
 (c9 (i3 (pv 2))))),?_⟩
 refine⟨(by show 0≤sizeLine;decide),fun r hr0=>?_⟩
 have s0:=b9 (o:=.lst []) hr0
 have lx:xs.length=ds.length:=hd.len
 have fr:G.rl r=.free:=h.cl r hr0
 have nlr:l≠r:=e7 hl hr0
 refine⟨_,rfl,l,rfl,⟨_,d7.of (s0 _ _ hl)⟩,?_⟩
 refine G0 (xs:=xs) (fun i σ' Hc=>∃(o3:Option V) (G':Gh) (as:List t7) (st:j0) (ys:List V),σ'=[some (.ref p),some (.ref l),some (.ref r),o3]∧Run O1 (ds.take i) as st∧TA t.C_Tally t.C_Dealing G' Hc p st∧C2 st∧Bd i st∧Kp G H G' Hc∧Hc r=some (.lst ys)∧G'.rl r=.free∧Paired (C0 G'.rl Hc) as ys∧∀y∈ys,y≠.ref r)
  ⟨none,G,[],O1,[],rfl,.nil,h.same s0,ok0,bd0,Kp.same s0,b0,fr,.nil,(fun y hy=>nomatch hy)⟩ (fun i σ' Hc _ z=>?_) (fun i x σ' Hc hx z=>?_) (fun σ' Hc z=>?_)
 ·obtain⟨_,_,_,_,_,_,_,_,_,_,k,_⟩:=z
  exact d7.of (k.keep _ _ fl hl)
 ·obtain⟨o3,G',as,st,ys,rfl,R,h1,ok,bd,k1,hr1,fr1,pa,ny⟩:=z
  obtain⟨d,hdi,b,rfl,hb⟩:=v5 hd hx
  have li:=(qQ1.mp hdi).1
  have la:=n5 pa
  have lr:=a2B R
  rw[List.length_take]at lr
  have hb1:=k1.tup.1 _ _ hb
  refine⟨_,rfl,.inl ⟨rfl,_,d7.of hr1⟩,_,rfl,_,rfl,G',p,b,st,d,rfl,h1,hb1,ok,b7p bd (by omega),fun a st' S x G2 H2 h2 k2 A2 nx=>?_⟩
  have hr2:=k2.keep _ _ fr1 hr1
  have fr2:=k2.out _ _ fr1 hr1
  have t2:r9 H2 (upd H2 r (.lst (ys++[x]))):=n9 hr2
  have xr:x≠.ref r:=fun e=>by rw[nx r e]at hr1;cases hr1
  refine⟨r,ys,_,rfl,rfl,hr2,m9 (by omega),?_⟩
  have k3:Kp G H G2 (upd H2 r (.lst (ys++[x]))):=by
   have kk:=k1.trans k2
   refine⟨fun b o f e=>?_,kk.tup.trans t2,kk.out,fun b e=>kk.dom b (n6 e)⟩
   rw[b7 (e7 e hr0)]
   exact kk.keep b o f e
  refine⟨_,G2,as++[a],st',ys++[x],rfl,?_,h2.freeU fr2 t2,a1U ok S,a3V (by omega) h1.vd bd S,k3,b0,fr2,?_,fun y hy=>?_⟩
  ·rw[List.take_add_one,hdi];exact .snoc R S
  ·refine Paired.snoc ?_ (A2.upd t2 xr)
   have pa2:Paired (C0 G2.rl H2) as ys:=Paired.mapP pa fun _ _ z=>z.kp k2
   exact Paired.mapI pa2 fun a y hy z=>z.upd t2 (ny y hy)
  ·rcases qQ5.mp hy with hy | hy
   ·exact ny y hy
   ·rw[qQ2.mp hy];exact xr
 ·obtain⟨o3,G',as,st,ys,rfl,R,h1,ok,bd,k1,hr1,fr1,pa,ny⟩:=z
  rw[lx,List.take_length]at R
  rw[lx]at bd
  exact⟨_,rfl,q as st G' Hc r ys R h1 ok bd k1 hr1 pa fr1 hr0⟩
inductive a8S(t:B4)(K:PySem.W.Frag)(vs:List V)(H:Hp)(Q:VK):Prop
 | mk (l:Addr) (ds:List i7) (xs:List V) (x0:vs=[.ref l]) (x1:H l=some (.lst xs)) (x2:y0 H ds xs) (x3:ds.length≤63) (xq:∀(as:List t7) (st:j0) (rl:Addr→Role) (H':Hp) (r:Addr) (ys:List V),Run O1 ds as st→g6 H H'→H' r=some (.lst ys)→Paired (C0 rl H') as ys→H r=none→Q (.ref r) H')
def a2Z(t:B4)(K:PySem.W.Frag):Sp:=fun vs H Q _=>a8S t K vs H Q
theorem a5v(T:A1 K mg t):g8 P w K mg base x9 9 t.f_answers t.d_answers ["deeds"] (a2Z t K):=by
 refine T.F_answers.ok a4W (fun vs H Q E h=>?_) (fun cdv A outer s H vs Q E hr h=>?_)
 ·obtain⟨l,ds,xs,rfl,_⟩:=h
  rfl
 obtain⟨l,ds,xs,rfl,hl,hd,bn,q⟩:=h
 refine⟨_,(c9 (i3 (j9 (g8.mono (k:=8) (a1j T) (by decide)) hr rfl T.m_answers_at T.F_answers_at.kp T.F_answers_at.b .nil l4 (a6 (a0P T.K_Tally (g8.mono (k:=7) (Y2 T) (by decide)) hr rfl T.mg_Tally T.F_Tally___init__.b .nil l4) (a6 (pv 0) b6))))),?_⟩
 intro x dx nx ndx nxd
 have s0:g6 H (upd (upd H dx (.own x)) x (.ins t.C_Tally dx [])):=j7 (b9 ndx) nx
 refine⟨x,dx,rfl,b0,fun G H1 h1 b1 g1=>⟨rfl,?_⟩⟩
 have s1:g6 H H1:=fun c o e=>b1 c o (e7 e nx) (s0 c o e)
 have gf:∀c o,H c=some o→G.rl c=.free:=fun c o e=>g1 c o (e7 e nx) (s0 c o e)
 refine⟨_,rfl,G,x,l,ds,xs,rfl,h1,s1 _ _ hl,gf _ _ hl,hd.tupK s1.tupK,bn,fun as st G' H' r ys R h2 ok bd k hr pa fr nr=>?_⟩
 exact q as st G'.rl H' r ys R (fun c o e=>k.keep c o (gf c o e) (s1 c o e)) hr pa (j5 s1 nr)
inductive a7z(K:PySem.W.Frag)(vs:List V)(H:Hp)(Q:VK):Prop
 | mk (x T) (x0:vs=[x]) (x1:TyV K H x T) (xq:Q (.bl (T=="int")) H)
def a0H(K:PySem.W.Frag):Sp:=fun vs H Q _=>a7z K vs H Q
theorem Q5(T:A1 K mg t):g8 P w K mg base x9 1 t.f__law_whole t.d__law_whole ["_law_found"] (a0H K):=by
 refine T.F__law_whole.ok a1I (fun vs H Q E h=>?_) (fun cdv A outer s H vs Q E hr h=>?_)
 ·obtain⟨x,T,rfl,_⟩:=h
  rfl
 obtain⟨x,Ty,rfl,hT,q⟩:=h
 refine⟨_,(c9 (i3 (W4 (f6 t8 rfl T.m_isinstance boot_isinstance (a6 (pv 0) (a6 (r8 (v:=.ty "int") rfl T.m_int boot_int rfl) b6))) (a2f (b6x (f6 t8 rfl T.m_isinstance boot_isinstance (a6 (pv 0) (a6 (r8 (v:=.ty "bool") rfl T.m_bool boot_bool rfl) b6)))))))),?_⟩
 refine⟨_,rfl,x,Ty,"int",rfl,hT,by decide,_,rfl,?_⟩
 refine G9 (fun c=>?_) (fun c=>?_)
 ·refine⟨_,rfl,x,Ty,"bool",rfl,hT,by decide,_,rfl,?_⟩
  have e:(!Y6 Ty "bool")=(Ty=="int"):=by
   have:=hT.mem
   simp only[tys,qQ9,List.not_mem_nil,or_false]at this
   rcases this with rfl | rfl | rfl | rfl | rfl | rfl | rfl<;>revert c<;>decide
  rw[e];exact q
 ·have e:false=(Ty=="int"):=by
   have:=hT.mem
   simp only[tys,qQ9,List.not_mem_nil,or_false]at this
   rcases this with rfl | rfl | rfl | rfl | rfl | rfl | rfl<;>revert c<;>decide
  rw[←e]at q;exact q
theorem a4N(c:Array Nat):∀(n:Nat) (acc:Array Nat),((List.replicate n c).foldl (·++·) acc).size=acc.size+n*c.size
 | 0,acc=>by simp
 | n+1,acc=>by
  rw[List.replicate_succ,List.foldl_cons,a4N c n,Array.size_append,Nat.succ_mul];omega
theorem a5u(z:Str)(n:Nat):(M6 z n).length=n*z.length:=by
 show((List.replicate n z.cps).foldl (·++·) #[]).size=n*z.cps.size
 rw[a4N];simp
theorem a7U(p:Nat→Bool)(c:Array Nat)(h:c.all p=true):∀(n:Nat) (acc:Array Nat),acc.all p=true→((List.replicate n c).foldl (·++·) acc).all p=true
 | 0,acc,ha=>by simpa using ha
 | n+1,acc,ha=>by
  rw[List.replicate_succ,List.foldl_cons]
  exact a7U p c h n _ (by rw[Array.all_append,ha,h];rfl)
theorem a0z{z:Str}(h:PyData.strOk z=true)(n:Nat):PyData.strOk (M6 z n)=true:=a7U _ z.cps h n #[] (by simp)
theorem b9f{x y:Str}(h:PyData.strOk x=true)(k:PyData.strOk y=true):PyData.strOk (x++y)=true:=by
 show(x.cps++y.cps).all _=true
 rw[Array.all_append]
 have h:x.cps.all (·<0x110000)=true:=h
 have k:y.cps.all (·<0x110000)=true:=k
 rw[h,k];rfl
theorem a5o(x y:Str):(x++y).length=x.length+y.length:=by
 show(x.cps++y.cps).size=_
 rw[Array.size_append];rfl
theorem b5s(i:Int)(h1:0≤i)(h2:i<12):O2 (("good ":Str)++(toString i:String)):=by
 rcases(show i=0∨i=1∨i=2∨i=3∨i=4∨i=5∨i=6∨i=7∨i=8∨i=9∨i=10∨i=11 by omega) with rfl | rfl | rfl | rfl | rfl | rfl | rfl | rfl | rfl | rfl | rfl | rfl<;>(unfold O2;decide +kernel)
inductive a3H(K:PySem.W.Frag)(vs:List V)(H:Hp)(Q:VK):Prop
 | mk (i pl:Int) (x0:vs=[.int i,.int pl]) (x1:0≤i) (x2:i<12) (x3:0≤pl) (x4:pl≤39) (xq:∀g H',g6 H H'→O2 g→Q (.str g) H')
def a1Q(K:PySem.W.Frag):Sp:=fun vs H Q _=>a3H K vs H Q
set_option maxHeartbeats 0 in
theorem a3N(T:A1 K mg t):g8 P w K mg base x9 1 t.f__law_ware t.d__law_ware ["_law_spot","_law_place"] (a1Q K):=by
 refine T.F__law_ware.ok a2n (fun vs H Q E h=>?_) (fun cdv A outer s H vs Q E hr h=>?_)
 ·obtain⟨i,pl,rfl,_⟩:=h
  rfl
 obtain⟨i,pl,rfl,i0,i1,p0,p1,q⟩:=h
 refine⟨_,(b8 (g7 (i:=2) a2n.nd rfl (Or.inl rfl) (m4 (a6 l8 (a6 l8 (a6 l8 (a6 (j6 a5x l8 d5) (a6 (j6 a1g (j6 a1g (j6 a1r l8 (pv 1)) l8) (j6 a1r l8 (j6 O7 d5 (pv 1)))) (a6 l8 b6))))))))
 (c9 (i3 (d8 k8 (j6 a3c (pv 2) (j6 b7u (m4 (a6 (j6 a1g l8 (D9 a3P rfl T.m_str boot_str (a6 (pv 0) b6))) b6)) d5)) (j6 J5 (pv 0) d5) (fun _ _=>rfl))))),?_⟩
 have lone:("a":Str).length=1:=by decide
 have oka:PyData.strOk "a"=true:=by decide +kernel
 have okb:PyData.strOk "b"=true:=by decide +kernel
 have l1:(M6 "a" pl.toNat).length≤39:=by rw[a5u,lone];omega
 have l2:(M6 "a" (39-pl).toNat).length≤39:=by rw[a5u,lone];omega
 have l3:(M6 "a" pl.toNat++"b").length≤40:=by
  rw[a5o]
  have:("b":Str).length=1:=by decide
  omega
 refine⟨_,_,rfl,rfl,(by decide),(by decide),(by decide),(by decide),(by decide),?_⟩
 refine⟨_,rfl,_,_,rfl,rfl,by omega,by omega,(by decide),(by decide),by rw[sizeLine_eq];omega,?_⟩
 refine⟨_,_,rfl,rfl,by rw[sizeLine_eq,←a5o];omega,?_⟩
 refine⟨_,rfl,_,_,rfl,rfl,_,_,rfl,rfl,by omega,by omega,(by decide),(by decide),by rw[sizeLine_eq];omega,?_⟩
 refine⟨_,_,rfl,rfl,by rw[sizeLine_eq];omega,(by show 6≤sizeLine;decide),fun e he=>?_⟩
 have w40:O2 (M6 "a" (Int.toNat 40)):=⟨a0z oka _,by rw[a5u,lone];decide⟩
 have wmx:O2 (M6 "a" pl.toNat++"b"++M6 "a" (39-pl).toNat):=⟨b9f (b9f (a0z oka _) okb) (a0z oka _),by rw[a5o];omega⟩
 have wnm:=b5s i i0 i1
 have lnm:(("good ":Str)++(toString i:String)).length≤200:=wnm.2
 refine⟨_,rfl,_,rfl,i,rfl,?_,_,_,rfl,rfl,by rw[←a5o,sizeLine_eq];omega,(by show 1≤sizeLine;decide),fun e2 he2=>?_⟩
 ·have:=Nat.log2_le_self i.natAbs
  omega
 generalize (("good ":Str)++(toString i:String))=nm at wnm he2 ⊢
 have s1:=b9 (o:=.lst [.str nm]) he2
 refine⟨e2,6,_,rfl,rfl,b0,by decide,by decide,(by show 1*6≤sizeLine;decide),fun e3 he3=>?_⟩
 have s2:=b9 (o:=.lst (List.replicate (Int.toNat 6) [V.str nm]).flatten) he3
 refine⟨e,e3,_,_,rfl,rfl,s2 _ _ (s1 _ _ b0),b0,(by show 6+6≤sizeLine;decide),fun e4 he4=>?_⟩
 refine⟨_,rfl,_,_,rfl,rfl,(by show(0:Int)<12;decide),?_⟩
 dsimp only
 rw[show i % 12=i by omega]
 have get:∃g,D6 ([V.str "a",V.str "",V.str "A b~",V.str (M6 "a" (Int.toNat 40)),V.str (M6 "a" pl.toNat++"b"++M6 "a" (39-pl).toNat),V.str "good"]++(List.replicate (Int.toNat 6) [V.str nm]).flatten) i=some (.str g)∧O2 g:=by
  obtain⟨n,rfl⟩:=Int.eq_ofNat_of_zero_le i0
  rcases(show n=0∨n=1∨n=2∨n=3∨n=4∨n=5∨n=6∨n=7∨n=8∨n=9∨n=10∨n=11 by omega) with rfl | rfl | rfl | rfl | rfl | rfl | rfl | rfl | rfl | rfl | rfl | rfl
  ·exact⟨_,i8 rfl,by unfold O2;decide +kernel⟩
  ·exact⟨_,i8 rfl,by unfold O2;decide +kernel⟩
  ·exact⟨_,i8 rfl,by unfold O2;decide +kernel⟩
  ·exact⟨_,i8 rfl,w40⟩
  ·exact⟨_,i8 rfl,wmx⟩
  ·exact⟨_,i8 rfl,by unfold O2;decide +kernel⟩
  ·exact⟨_,i8 rfl,wnm⟩
  ·exact⟨_,i8 rfl,wnm⟩
  ·exact⟨_,i8 rfl,wnm⟩
  ·exact⟨_,i8 rfl,wnm⟩
  ·exact⟨_,i8 rfl,wnm⟩
  ·exact⟨_,i8 rfl,wnm⟩
 obtain⟨g,hg,wg⟩:=get
 exact⟨e4,_,_,_,rfl,rfl,d7.of b0,hg,q g _ ((((b9 he).trans s1).trans s2).trans (b9 he4)) wg⟩
structure DS(H:Hp)(r u o:Addr)(ds:List i7)(us os:List Int)(H':Hp):Prop where
 sm:g6 H H'
 nr:H r=none
 nu:H u=none
 no:H o=none
 ru:r≠u
 ro:r≠o
 uo:u≠o
 made:∃xs,H' r=some (.lst xs)∧y0 H' ds xs
 und:H' u=some (.lst (us.map V.int))
 ove:H' o=some (.lst (os.map V.int))
 ok:∀d∈ds,S1 d
theorem DS.new{H H1 H2:Hp}{r u o:Addr}{ds:List i7}{us os:List Int}(d:DS H r u o ds us os H1)(s:g6 H1 H2):DS H r u o ds us os H2:=by
 obtain⟨xs,h1,h2⟩:=d.made
 exact⟨d.sm.trans s,d.nr,d.nu,d.no,d.ru,d.ro,d.uo,⟨xs,s _ _ h1,h2.tupK s.tupK⟩,s _ _ d.und,s _ _ d.ove,d.ok⟩
theorem DS.setU{H H1:Hp}{r u o:Addr}{ds:List i7}{us os:List Int}(d:DS H r u o ds us os H1)(ws:List Int):DS H r u o ds ws os (upd H1 u (.lst (ws.map V.int))):=by
 obtain⟨xs,h1,h2⟩:=d.made
 exact⟨j7 d.sm d.nu,d.nr,d.nu,d.no,d.ru,d.ro,d.uo,⟨xs,by rw[b7 d.ru];exact h1,h2.tupK (n9 d.und)⟩,b0,by rw[b7 (Ne.symm d.uo)];exact d.ove,d.ok⟩
theorem DS.setO{H H1:Hp}{r u o:Addr}{ds:List i7}{us os:List Int}(d:DS H r u o ds us os H1)(ws:List Int):DS H r u o ds us ws (upd H1 o (.lst (ws.map V.int))):=by
 obtain⟨xs,h1,h2⟩:=d.made
 exact⟨j7 d.sm d.no,d.nr,d.nu,d.no,d.ru,d.ro,d.uo,⟨xs,by rw[b7 d.ro];exact h1,h2.tupK (n9 d.ove)⟩,by rw[b7 d.uo];exact d.und,b0,d.ok⟩
theorem DS.oth{H H1:Hp}{r u o b:Addr}{ds:List i7}{us os:List Int}{ys zs:List V}(d:DS H r u o ds us os H1)(hb:H b=none)(n1:r≠b)(n2:u≠b)(n3:o≠b)(hl:H1 b=some (.lst ys)):DS H r u o ds us os (upd H1 b (.lst zs)):=by
 obtain⟨xs,h1,h2⟩:=d.made
 exact⟨j7 d.sm hb,d.nr,d.nu,d.no,d.ru,d.ro,d.uo,⟨xs,by rw[b7 n1];exact h1,h2.tupK (n9 hl)⟩,by rw[b7 n2];exact d.und,by rw[b7 n3];exact d.ove,d.ok⟩
theorem DS.apart{H H1:Hp}{r u o b:Addr}{ds:List i7}{us os:List Int}(d:DS H r u o ds us os H1)(hb:H1 b=none):H b=none∧r≠b∧u≠b∧o≠b:=by
 obtain⟨xs,h1,h2⟩:=d.made
 refine⟨?_,(fun z=>by rw[←z,h1]at hb;cases hb),(fun z=>by rw[←z,d.und]at hb;cases hb),(fun z=>by rw[←z,d.ove]at hb;cases hb)⟩
 cases z:H b with
 | none=>rfl
 | some o=>rw[d.sm _ _ z]at hb;cases hb
theorem DS.add{H H1:Hp}{r u o:Addr}{ds:List i7}{us os:List Int}(d:DS H r u o ds us os H1){e:i7}{x:V}(hx:a5l H1 e x)(he:S1 e)(hz:ds.length≤1000)(Q:VK)(q:∀H2,DS H r u o (ds++[e]) us os H2→Q .non H2) :
  b0l (.ref r) [x] H1 Q:=by
 obtain⟨xs,h1,h2⟩:=d.made
 have k:=n9 (o:=.lst (xs++[x])) h1
 refine⟨r,xs,x,rfl,rfl,h1,by rw[h2.len];exact W3 hz,q _ ⟨j7 d.sm d.nr,d.nr,d.nu,d.no,d.ru,d.ro,d.uo,⟨_,b0,?_⟩,by rw[b7 (Ne.symm d.ru)];exact d.und,by rw[b7 (Ne.symm d.ro)];exact d.ove,fun z hz=>?_⟩⟩
 ·obtain⟨p,e1,e2⟩:=hx
  exact(h2.tupK k).snoc ⟨p,e1,k.1 _ _ e2⟩
 ·rcases qQ5.mp hz with hz | hz
  ·exact d.ok z hz
  ·rw[qQ2.mp hz];exact he
theorem cut{E G:Prop}(f:E→G)(h:E):G:=f h
theorem a0o{ns:List Int}(h:0<ns.length)(c:Int):∃z,D6 (ns.map V.int) (c % (((ns.map V.int).length:Nat):Int))=some (.int z)∧z∈ns:=by
 rw[qQ0]
 obtain⟨j,hj,e⟩:=a1n h c
 rw[e]
 exact⟨ns[j],i8 (by rw[qQ8,List.getElem?_eq_getElem hj];rfl),List.getElem_mem hj⟩
theorem b0v(x y:Int)(k:Bool):∃z,D6 [V.int x,V.int y] (if k=true then 1 else 0)=some (.int z):=by
 cases k
 ·exact⟨x,i8 (j:=0) rfl⟩
 ·exact⟨y,i8 (j:=1) rfl⟩
theorem b0m(x y z:Int)(c:Int):∃v,D6 [V.int x,V.int y,V.int z] (c % 3)=some (.int v)∧(v=x∨v=y∨v=z):=by
 obtain⟨j,hj,e⟩:=a1n (n:=3) (by decide) c
 have e:c % 3=(j:Int):=e
 rw[e]
 rcases(show j=0∨j=1∨j=2 by omega) with rfl | rfl | rfl
 ·exact⟨x,i8 rfl,.inl rfl⟩
 ·exact⟨y,i8 rfl,.inr (.inl rfl)⟩
 ·exact⟨z,i8 rfl,.inr (.inr rfl)⟩
theorem a8E{K:PySem.W.Frag}{H:Hp}:∀ns:List Int,p5 K H (ns.map PyData.int) (ns.map V.int)
 | []=>rfl
 | n::ns=>⟨_,_,rfl,by unfold Rep;rfl,a8E ns⟩
theorem a2K:∀ns:List Int,PyData.canLayAll0 (ns.map PyData.int)=true
 | []=>by rw[List.map_nil,PyData.canLayAll0]
 | n::ns=>by rw[List.map_cons,PyData.canLayAll0,a2K ns];simp[PyData.canLay0]
theorem a9w:∀ns:List Int,PyData.depthAll (ns.map PyData.int)≤1
 | []=>by rw[List.map_nil,PyData.depthAll];omega
 | n::ns=>by rw[List.map_cons,PyData.depthAll];have:=a9w ns;simp[PyData.depth];omega
theorem b2j(c:Int):∃z,D6 [V.int 0,V.int 0,V.int 0,V.int 1,V.int 2,V.int 4,V.int 3] (c % 7)=some (.int z)∧0≤z∧z<5:=by
 obtain⟨j,hj,e⟩:=a1n (n:=7) (by decide) c
 have e:c % 7=(j:Int):=e
 rw[e]
 rcases(show j=0∨j=1∨j=2∨j=3∨j=4∨j=5∨j=6 by omega) with rfl | rfl | rfl | rfl | rfl | rfl | rfl<;>exact⟨_,i8 rfl,by decide,by decide⟩
inductive a7y(K:PySem.W.Frag)(vs:List V)(H:Hp)(Q:VK):Prop
 | mk (a:Addr) (ns:List Int) (x0:vs=[.ref a]) (x1:d7 K H a (ns.map V.int)) (x2:ns.length≤200) (xq:∀(r:Addr) (xs:List V) (ds:List i7) (H':Hp),g6 H H'→H' r=some (.lst xs)→y0 H' ds xs→ds.length=ns.length→(∀d∈ds,S1 d)→H r=none→Q (.ref r) H')
def a1H(K:PySem.W.Frag):Sp:=fun vs H Q _=>a7y K vs H Q
set_option maxHeartbeats 0 in
theorem a6G(T:A1 K mg t):g8 P w K mg base x9 2 t.f__law_deeds t.d__law_deeds ["_law_cells"] (a1H K):=by
 refine T.F__law_deeds.ok m8 (fun vs H Q E h=>?_) (fun cdv A outer s H vs Q E hr h=>?_)
 ·obtain⟨a,ns,rfl,_⟩:=h
  rfl
 obtain⟨a,ns,rfl,hS,hl,q⟩:=h
 refine⟨_,(b8 (g7 (i:=1) m8.nd rfl (Or.inl rfl) (m4 b6))
 (b8 (g7 (i:=2) m8.nd rfl (Or.inl rfl) (m4 b6))
 (b8 (g7 (i:=3) m8.nd rfl (Or.inl rfl) (m4 b6))
 (b8 (g7 (i:=4) m8.nd rfl (Or.inl rfl) d5)
 (b8 (g7 (i:=5) m8.nd rfl (Or.inl rfl) (d8 k8 (m4 (a6 d5 (a6 (d8 k8 (m4 (a6 d5 (a6 d5 b6))) (D9 a6E rfl T.m_int boot_int (a6 (P0 a4y (f6 g9 rfl T.m_len PySem.boot_len (a6 (pv 0) b6)) d5 (i5 _)) b6)) (fun _ _=>rfl)) b6))) (j6 J5 (f6 g9 rfl T.m_len PySem.boot_len (a6 (pv 0) b6)) d5) (fun _ _=>rfl)))
 (b8 (g7 (i:=6) m8.nd rfl (Or.inl rfl) (d8 k8 (m4 (a6 d5 (a6 d5 (a6 d5 b6)))) (j6 J5 (j6 a1o (f6 (a8J rfl) rfl T.m_sum boot_sum (a6 (R3 U7 (pv 0) U9 (T8 d5)) b6)) d5) d5) (fun _ _=>rfl)))
 (b8 (A9 PassesOwn.never rfl (M9 rfl T.m_range (a6 (f6 g9 rfl T.m_len PySem.boot_len (a6 (pv 0) b6)) b6)) (m5 (i:=7) m8.nd rfl (Or.inl rfl))
 (b8 (g7 (i:=8) m8.nd rfl (Or.inl rfl) (j6 J5 (j6 G4 (d8 k8 (pv 0) (pv 7) (fun _ _=>rfl)) (j6 b2g d5 (pv 7))) d5))
 (b8 (g7 (i:=9) m8.nd rfl (Or.inl rfl) (j6 a1o (d8 k8 (pv 0) (pv 7) (fun _ _=>rfl)) d5))
 (b8 (g7 (i:=10) m8.nd rfl (Or.inl rfl) (d8 k8 (pv 0) (j6 J5 (j6 G4 (pv 7) d5) (f6 g9 rfl T.m_len PySem.boot_len (a6 (pv 0) b6))) (fun _ _=>rfl)))
 (b8 (g7 (i:=11) m8.nd rfl (Or.inl rfl) (j9 (g8.mono (k:=1) (a3N T) (by decide)) hr rfl T.m__law_ware T.F__law_ware.kp T.F__law_ware.b .nil l4 (a6 (j6 J5 (j6 G4 (pv 10) (pv 7)) (pv 6)) (a6 (j6 J5 (j6 a1o (f6 (a8J rfl) rfl T.m_sum boot_sum (a6 (R3 U7 (pv 0) U9 (T8 d5)) b6)) d5) d5) b6))))
 (c9 (k7 (PW.pt (Q2 (f7 a4y (pv 8) d5 (i5 _)) (N5 (f7 z6 (j6 J5 (j6 G4 (pv 8) (pv 9)) d5) d5 (i5 _)))))
 (c9 (l6 (p8 PySem.F.plainAttrs_list PySem.F.slot_list_append PySem.F.type_list_append m7 (pv 1) (a6 (u6 (a6 l8 b6)) b6))))
 (c9 (k7 (f7 z6 (pv 8) d5 (i5 _))
 (b8 (g7 (i:=12) m8.nd rfl (Or.inl rfl) (j6 a3c (m4 (a6 (pv 4) (a6 (j6 G4 (pv 4) d5) (a6 (a9Z a7K d5) (a6 (j6 a5f d5 d5) (a6 (j6 O7 (a9Z a7K d5) (j6 J5 (pv 10) (j6 a5f d5 d5))) b6)))))) (pv 3)))
 (b8 (g7 (i:=13) m8.nd rfl (Or.inl rfl) (d8 k8 (pv 12) (j6 J5 (j6 a1o (pv 10) d5) (f6 g9 rfl T.m_len PySem.boot_len (a6 (pv 12) b6))) (fun _ _=>rfl)))
 (b8 (g7 (i:=14) m8.nd rfl (Or.inl rfl) (m4 (a6 (u6 (a6 l8 (a6 (pv 13) (a6 (pv 11) b6)))) (a6 (u6 (a6 l8 (a6 (pv 13) b6))) (a6 (u6 (a6 l8 (a6 (pv 13) b6))) b6)))))
 (b8 (l6 (p8 PySem.F.plainAttrs_list PySem.F.slot_list_append PySem.F.type_list_append m7 (pv 14) (a6 (u6 (a6 l8 (a6 (pv 13) (a6 (pv 11) (a6 d5 b6))))) b6)))
 (c9 (l6 (p8 PySem.F.plainAttrs_list PySem.F.slot_list_append PySem.F.type_list_append m7 (pv 1) (a6 (d8 k8 (pv 14) (j6 J5 (d8 k8 (pv 0) (j6 J5 (j6 G4 (pv 7) d5) (f6 g9 rfl T.m_len PySem.boot_len (a6 (pv 0) b6))) (fun _ _=>rfl)) d5) (fun _ _=>rfl)) b6))))))))
 (c9 (k7 (PW.pt (J9 (f7 (b0w hr.units) (pv 2) (m4 b6) (i5 _)) (D7 (PW.pt (Q2 (f7 Z0 (pv 8) d5 (i5 _)) (N5 (f7 Z0 (f6 g9 rfl T.m_len PySem.boot_len (a6 (pv 2) b6)) (pv 5) (i5 _))))))))
 (b8 (l6 (p8 PySem.F.plainAttrs_list PySem.F.slot_list_append PySem.F.type_list_append m7 (pv 1) (a6 (u6 (a6 l8 b6)) b6)))
 (b8 (l6 (p8 PySem.F.plainAttrs_list PySem.F.slot_list_append PySem.F.type_list_append m7 (pv 2) (a6 (pv 4) b6)))
 (c9 (g7 (i:=4) m8.nd rfl (Or.inl rfl) (j6 G4 (pv 4) d5)))))
 (b8 (g7 (i:=15) m8.nd rfl (Or.inl rfl) (d8 k8 (pv 2) (j6 J5 (j6 G4 (pv 9) (pv 7)) (f6 g9 rfl T.m_len PySem.boot_len (a6 (pv 2) b6))) (fun _ _=>rfl)))
 (c9 (k7 (f7 Z0 (pv 8) d5 (i5 _))
 (c9 (l6 (p8 PySem.F.plainAttrs_list PySem.F.slot_list_append PySem.F.type_list_append m7 (pv 1) (a6 (u6 (a6 l8 (a6 (pv 15) (a6 (pv 11) b6)))) b6))))
 (c9 (k7 (f7 Z0 (pv 8) d5 (i5 _))
 (b8 (g7 (i:=16) m8.nd rfl (Or.inl rfl) (m4 (a6 (j6 O7 (j6 b2g d5 (pv 7)) d5) (a6 d5 (a6 (j6 G4 (j6 a5f d5 d5) (pv 7)) (a6 (j6 O7 (a9Z a7K (j6 a5f d5 d5)) (pv 7)) b6))))))
 (b8 (l6 (p8 PySem.F.plainAttrs_list PySem.F.slot_list_append PySem.F.type_list_append m7 (pv 16) (a6 (j6 J5 (pv 10) (j6 O7 (j6 b9t (j6 a5f d5 d5) (j6 a5f d5 d5)) d5)) b6)))
 (b8 (g7 (i:=17) m8.nd rfl (Or.inl rfl) (d8 k8 (pv 16) (d8 k8 (m4 (a6 d5 (a6 d5 (a6 d5 (a6 d5 (a6 d5 (a6 d5 (a6 d5 b6)))))))) (j6 J5 (j6 G4 (pv 9) (pv 7)) d5) (fun _ _=>rfl)) (fun _ _=>rfl)))
 (c9 (l6 (p8 PySem.F.plainAttrs_list PySem.F.slot_list_append PySem.F.type_list_append m7 (pv 1) (a6 (u6 (a6 l8 (a6 (pv 15) (a6 (pv 11) (a6 (pv 17) b6))))) b6)))))))
 (b8 (l6 (p8 PySem.F.plainAttrs_list PySem.F.slot_list_append PySem.F.type_list_append m7 (pv 1) (a6 (u6 (a6 (d8 k8 (m4 (a6 l8 (a6 l8 b6))) (D9 a6E rfl T.m_int boot_int (a6 (P0 z6 (pv 8) d5 (i5 _)) b6)) (fun _ _=>rfl)) (a6 (pv 15) b6))) b6)))
 (b8 (l6 (p8 PySem.F.plainAttrs_list PySem.F.slot_list_remove PySem.F.type_list_remove a1l (pv 2) (a6 (pv 15) b6)))
 (c9 (l6 (p8 PySem.F.plainAttrs_list PySem.F.slot_list_append PySem.F.type_list_append m7 (pv 3) (a6 (pv 15) b6))))))))))))))))))))))
 (c9 (i3 (pv 1)))))))))),?_⟩
 have ln:(ns.map V.int).length=ns.length:=qQ0 _
 refine⟨(by show 0≤sizeLine;decide),fun r hr0=>⟨(by show 0≤sizeLine;decide),fun u hu0=>⟨(by show 0≤sizeLine;decide),fun o ho0=>?_⟩⟩⟩
 have s1:=b9 (o:=.lst []) hr0
 have s2:=b9 (o:=.lst []) hu0
 have s3:=b9 (o:=.lst []) ho0
 have back:∀{H1:Hp} {b:Addr},g6 H H1→H1 b=none→H b=none:=fun {H1 b} s h=>by
  cases z:H b with
  | none=>rfl
  | some o=>rw[s _ _ z]at h;cases h
 have D0:DS H r u o [] [] [] (upd (upd (upd H r (.lst [])) u (.lst [])) o (.lst [])):=
  ⟨(s1.trans s2).trans s3,hr0,back s1 hu0,back (s1.trans s2) ho0,(fun z=>by rw[←z,b0]at hu0;cases hu0),(fun z=>by rw[←z,s2 _ _ b0]at ho0;cases ho0),(fun z=>by rw[←z,b0]at ho0;cases ho0),
   ⟨[],s3 _ _ (s2 _ _ b0),.nil⟩,s3 _ _ b0,b0,fun d h=>by simp at h⟩
 generalize upd (upd (upd H r (.lst [])) u (.lst [])) o (.lst [])=H1 at D0 ⊢
 have hS1:=hS.same D0.sm
 refine⟨(by show 2≤sizeLine;decide),fun e1 he1=>?_⟩
 have D1:=D0.new (b9 (o:=.lst [.int 9,.int 200]) he1)
 obtain⟨m1,hm1⟩:=b0v 9 200 (decide ((63:Int)<(((ns.map V.int).length:Nat):Int)))
 refine⟨_,rfl,a,_,rfl,.inl (hS.same D1.sm),_,_,rfl,rfl,.inr ⟨_,rfl,e1,_,_,_,rfl,rfl,d7.of b0,hm1,(by show 2≤sizeLine;decide),fun e2 he2=>?_⟩⟩
 have D2:=D1.new (b9 (o:=.lst [.int 4,.int m1]) he2)
 obtain⟨m2,hm2⟩:∃z,D6 [V.int 4,V.int m1] ((((ns.map V.int).length:Nat):Int) % 2)=some (.int z):=by
  obtain⟨j,hj,e⟩:=a1n (n:=2) (by decide) (((ns.map V.int).length:Nat):Int)
  have e:(((ns.map V.int).length:Nat):Int) % 2=(j:Int):=e
  rw[e]
  rcases(show j=0∨j=1 by omega) with rfl | rfl
  ·exact⟨_,i8 rfl⟩
  ·exact⟨_,i8 rfl⟩
 refine⟨_,rfl,a,_,rfl,.inl (hS.same D2.sm),_,_,rfl,rfl,(by show(0:Int)<2;decide),e2,_,_,_,rfl,rfl,d7.of b0,hm2,?_⟩
 generalize upd (upd H1 e1 (.lst [.int 9,.int 200])) e2 (.lst [.int 4,.int m1])=H2 at D2 ⊢
 have ec:a3e (ns.map V.int) none (some 1)=(ns.take 1).map V.int:=by rw[show(1:Int)=((1:Nat):Int) from rfl,a0L,List.map_take]
 refine⟨(by show 3≤sizeLine;decide),fun e3 he3=>?_⟩
 have D3:=D2.new (b9 (o:=.lst [.int 3,.int 3,.int 12]) he3)
 refine⟨_,rfl,_,rfl,a,_,rfl,hS.same D3.sm,fun c hc=>?_⟩
 rw[ec]
 have D4:=D3.new (b9 (o:=.lst ((ns.take 1).map V.int)) hc)
 obtain⟨sz,hsz,hsv⟩:=b0m 3 3 12 (a0B (ns.take 1)/16)
 have hsz0:0<sz∧sz≤12:=by rcases hsv with rfl | rfl | rfl<;>decide
 refine⟨c,_,rfl,d7.of b0,_,_,rfl,rfl,⟨by decide,by decide⟩,_,_,rfl,rfl,(by show(0:Int)<3;decide),e3,_,_,_,rfl,rfl,d7.of (b9 hc _ _ b0),hsz,?_⟩
 generalize upd (upd H2 e3 (.lst [.int 3,.int 3,.int 12])) c (.lst ((ns.take 1).map V.int))=H3 at D4 ⊢
 refine⟨_,rfl,a,_,rfl,.inl (hS.same D4.sm),_,rfl,by omega,by omega,?_⟩
 have en:((((ns.map V.int).length:Nat):Int)).toNat=ns.length:=by omega
 rw[en]
 refine K5 (fun i σ' H'=>∃(bg:Int) (ds:List i7) (us os:List Int) (o7 o8 o9 oA oB oC oD oE oF oG oH:Option V),σ'=[some (.ref a),some (.ref r),some (.ref u),some (.ref o),some (.int bg),some (.int m2),some (.int sz),o7,o8,o9,oA,oB,oC,oD,oE,oF,oG,oH] ∧
   DS H r u o ds us os H'∧ds.length=i∧us.length≤i∧os.length≤i)
  ⟨0,[],[],[],none,none,none,none,none,none,none,none,none,none,none,rfl,D4,rfl,qQ7 _,qQ7 _⟩ (fun i σ' H' hi h=>?_) (fun σ' H' h=>?_)
 ·obtain⟨bg,ds,us,os,o7,o8,o9,oA,oB,oC,oD,oE,oF,oG,oH,rfl,D,lds,lus,los⟩:=h
  have np:0<ns.length:=by omega
  have npi:(0:Int)<(((ns.map V.int).length:Nat):Int):=by omega
  have hSd:=hS.same D.sm
  have e0:(0:Int)+(i:Int)=((i:Nat):Int):=by omega
  have ax:D6 (ns.map V.int) ((0:Int)+(i:Int))=some (.int ns[i]):=by rw[e0];exact i8 (by rw[qQ8,List.getElem?_eq_getElem hi];rfl)
  refine⟨_,rfl,_,rfl,a,_,_,_,rfl,rfl,hSd,ax,_,rfl,_,_,rfl,rfl,.inl ⟨by decide,by decide⟩,_,_,rfl,rfl,_,_,rfl,rfl,(by show(0:Int)<16;decide),?_⟩
  refine⟨_,rfl,_,rfl,a,_,_,_,rfl,rfl,hSd,ax,_,_,rfl,rfl,⟨by decide,by decide⟩,?_⟩
  obtain⟨near,hnear,_⟩:=a0o np (0+(i:Int)+1)
  refine⟨_,rfl,_,rfl,_,_,rfl,rfl,_,rfl,a,_,rfl,.inl hSd,_,_,rfl,rfl,npi,a,_,_,_,rfl,rfl,hSd,hnear,?_⟩
  have m40:=Int.emod_nonneg (a0B (ns.take 1)/48) (show(40:Int)≠0 by decide)
  have m40':=Int.emod_lt_of_pos (a0B (ns.take 1)/48) (show(0:Int)<40 by decide)
  have msz:=Int.emod_nonneg (near+(0+(i:Int))) (show sz≠0 by omega)
  have msz':=Int.emod_lt_of_pos (near+(0+(i:Int))) hsz0.1
  refine⟨_,rfl,_,rfl,_,_,rfl,rfl,_,rfl,_,_,rfl,rfl,hsz0.1,_,rfl,_,rfl,a,_,rfl,hSd,fun cc hcc=>?_⟩
  rw[ec]
  refine⟨cc,_,rfl,d7.of b0,_,_,rfl,rfl,⟨by decide,by decide⟩,_,_,rfl,rfl,(by show(0:Int)<40;decide),_,_,rfl,msz,by omega,m40,by omega,fun g H4 s4 wg=>?_⟩
  have E4:=(D.new (b9 (o:=.lst ((ns.take 1).map V.int)) hcc)).new s4
  generalize (ns[i]+5*(0+(i:Int))) % 16=pick
  generalize ns[i]/16=rest
  refine⟨_,rfl,_,_,rfl,rfl,_,rfl,?_⟩
  refine cut (fun hE=>G9 (fun c1=>⟨_,rfl,_,rfl,_,_,rfl,rfl,_,_,rfl,rfl,(by show(0:Int)<2;decide),rfl,_,rfl,G9 (fun c2=>?swC) (fun c2=>hE)⟩) (fun c1=>d9 hE)) ?_
  case swC=>
   refine⟨_,rfl,.inl ⟨rfl,_,d7.of E4.made.choose_spec.1⟩,(by show 1≤sizeLine;decide),fun p hp=>?_⟩
   have E5:=E4.new (b9 (o:=.tup [.str "sweep"]) hp)
   exact E5.add (e:=.sweep) ⟨p,rfl,b0⟩ trivial (by omega) _ fun H6 D'=>⟨_,_,_,_,_,_,_,_,_,_,_,_,_,_,_,rfl,D',by rw[qQ4,lds];rfl,by omega,by omega⟩
  refine⟨_,rfl,rfl,_,rfl,G9 (fun c3=>?_) (fun c3=>?_)⟩
  ·
   refine⟨_,rfl,_,rfl,_,_,rfl,rfl,_,rfl,_,_,rfl,rfl,⟨by decide,by decide,by decide⟩,_,rfl,_,rfl,_,_,rfl,rfl,⟨by decide,by decide,by decide⟩,_,_,rfl,rfl,(by show(0:Int)<10 ^ Int.toNat 30;decide),_,_,rfl,rfl,(by show 5≤sizeLine;decide),fun e5 he5=>?_⟩
   refine⟨_,rfl,e5,o,_,_,rfl,rfl,b0,(E4.new (b9 he5)).ove,(by show 5+(os.map V.int).length≤sizeLine;rw[qQ0,sizeLine_eq];omega),fun e6 he6=>?_⟩
   have E6:=fun ob=>(E4.new (b9 he5)).new (b9 (o:=ob) he6)
   obtain⟨bad,hbad,_⟩:=a0o (ns:=[bg,bg+1,-1,10 ^ (9:Int).toNat,-2-near % 10 ^ (30:Int).toNat]++os) (by simp) (near/3)
   have hodd:∀Hx:Hp,d7 K (upd Hx e6 (.lst (([bg,bg+1,-1,10 ^ (9:Int).toNat,-2-near % 10 ^ (30:Int).toNat]++os).map V.int))) e6 (([bg,bg+1,-1,10 ^ (9:Int).toNat,-2-near % 10 ^ (30:Int).toNat]++os).map V.int):=fun Hx=>d7.of b0
   refine⟨_,rfl,_,rfl,_,_,rfl,rfl,⟨by decide,by decide⟩,_,rfl,e6,_,rfl,.inl (hodd _),_,_,rfl,rfl,(by rw[qQ0,qQ4];simp;omega),e6,_,_,_,rfl,rfl,hodd _,hbad,?_⟩
   refine⟨_,rfl,_,rfl,(by show 3≤sizeLine;decide),fun p1 hp1=>⟨_,rfl,(by show 2≤sizeLine;decide),fun p2 hp2=>⟨_,rfl,(by show 2≤sizeLine;decide),fun p3 hp3=>⟨(by show 3≤sizeLine;decide),fun em hem=>?_⟩⟩⟩⟩
   have E7:=(((E6 _).new (b9 hp1)).new (b9 hp2)).new (b9 (o:=.tup [.str "leave",.int bad]) hp3)
   obtain⟨a0,a1,a2,a3⟩:=E7.apart hem
   have E8:=E7.new (b9 (o:=.lst [.ref p1,.ref p2,.ref p3]) hem)
   refine⟨_,rfl,.inl ⟨rfl,_,d7.of b0⟩,_,rfl,_,rfl,(by show 4≤sizeLine;decide),fun p4 hp4=>?_⟩
   have E9:=E8.new (b9 (o:=.tup [.str "put",.int bad,.str g,.int 7]) hp4)
   have hm9:=b9 (o:=.tup [.str "put",.int bad,.str g,.int 7]) hp4 _ _ (b0 (H:=_) (a:=em) (o:=.lst [.ref p1,.ref p2,.ref p3]))
   refine⟨em,_,_,rfl,rfl,hm9,(by show 3<sizeLine;decide),?_⟩
   have EA:=E9.oth (zs:=[.ref p1,.ref p2,.ref p3]++[.ref p4]) a0 a1 a2 a3 hm9
   obtain⟨c2,hc2,_⟩:=a0o np (0+(i:Int)+2)
   have d1:=(n9 (o:=.lst ([.ref p1,.ref p2,.ref p3]++[.ref p4])) hm9).1 _ _ ((C6 (o:=.tup [.str "put",.int bad,.str g,.int 7]) hp4).1 _ _ ((C6 hem).1 _ _ ((C6 hp3).1 _ _ ((C6 hp2).1 p1 [.str "look",.int bad,.str g] b0))))
   have d2:=(n9 (o:=.lst ([.ref p1,.ref p2,.ref p3]++[.ref p4])) hm9).1 _ _ ((C6 (o:=.tup [.str "put",.int bad,.str g,.int 7]) hp4).1 _ _ ((C6 hem).1 _ _ ((C6 hp3).1 p2 [.str "end",.int bad] b0)))
   have d3:=(n9 (o:=.lst ([.ref p1,.ref p2,.ref p3]++[.ref p4])) hm9).1 _ _ ((C6 (o:=.tup [.str "put",.int bad,.str g,.int 7]) hp4).1 _ _ ((C6 hem).1 p3 [.str "leave",.int bad] b0))
   have d4:=(n9 (o:=.lst ([.ref p1,.ref p2,.ref p3]++[.ref p4])) hm9).1 p4 [.str "put",.int bad,.str g,.int 7] b0
   have pk:∃(dd:i7) (b:Addr),D6 ([V.ref p1,V.ref p2,V.ref p3]++[V.ref p4]) (c2 % 4)=some (.ref b)∧((b=p1∧dd=.look bad g)∨(b=p2∧dd=.fin bad)∨(b=p3∧dd=.leave bad)∨(b=p4∧dd=.put bad g 7)):=by
    obtain⟨j,hj,e⟩:=a1n (n:=4) (by decide) c2
    have e:c2 % 4=(j:Int):=e
    rw[e]
    rcases(show j=0∨j=1∨j=2∨j=3 by omega) with rfl | rfl | rfl | rfl
    ·exact⟨.look bad g,_,i8 rfl,.inl ⟨rfl,rfl⟩⟩
    ·exact⟨.fin bad,_,i8 rfl,.inr (.inl ⟨rfl,rfl⟩)⟩
    ·exact⟨.leave bad,_,i8 rfl,.inr (.inr (.inl ⟨rfl,rfl⟩))⟩
    ·exact⟨.put bad g 7,_,i8 rfl,.inr (.inr (.inr ⟨rfl,rfl⟩))⟩
   obtain⟨dd,b,hx,hw⟩:=pk
   refine⟨_,rfl,.inl ⟨rfl,_,d7.of EA.made.choose_spec.1⟩,_,rfl,_,rfl,_,rfl,_,_,rfl,rfl,_,rfl,a,_,rfl,.inl (hS.same EA.sm),_,_,rfl,rfl,npi,a,_,_,_,rfl,rfl,hS.same EA.sm,hc2,_,_,rfl,rfl,(by show(0:Int)<4;decide),em,_,_,_,rfl,rfl,d7.of b0,hx,?_⟩
   refine EA.add (e:=dd) (x:=.ref b) ?_ ?_ (by omega) _ fun H6 D'=>⟨_,_,_,_,_,_,_,_,_,_,_,_,_,_,_,rfl,D',by rw[qQ4,lds];rfl,by omega,by omega⟩
   ·rcases hw with ⟨rfl,rfl⟩ | ⟨rfl,rfl⟩ | ⟨rfl,rfl⟩ | ⟨rfl,rfl⟩
    ·exact⟨_,rfl,d1⟩
    ·exact⟨_,rfl,d2⟩
    ·exact⟨_,rfl,d3⟩
    ·exact⟨_,rfl,d4⟩
   ·rcases hw with ⟨rfl,rfl⟩ | ⟨rfl,rfl⟩ | ⟨rfl,rfl⟩ | ⟨rfl,rfl⟩
    ·exact wg
    ·trivial
    ·trivial
    ·exact wg
  ·
   refine⟨_,rfl,(by show 0≤sizeLine;decide),fun e5 he5=>?_⟩
   have s5:=b9 (o:=.lst []) he5
   have E5:=E4.new s5
   refine⟨.list (us.map PyData.int),.list [],by unfold Rep;exact⟨u,_,rfl,d7.of E5.und,a8E us⟩,by unfold Rep;exact⟨e5,[],rfl,d7.of b0,rfl⟩,?_,?_,?_,?_⟩
   ·unfold PyData.canLay0;exact a2K us
   ·simp[PyData.canLay0,PyData.canLayAll0]
   ·have:=a9w us;unfold PyData.depth;omega
   refine⟨_,rfl,?_⟩
   generalize upd H4 e5 (.lst [])=H5 at E5 ⊢
   refine cut (fun hB=>G9 (fun c4=>l5 hB) (fun c4=>cut (fun hE=>⟨_,rfl,_,_,rfl,rfl,_,rfl,G9 (fun c5=>⟨_,rfl,u,_,rfl,.inl (d7.of E5.und),_,rfl,_,_,rfl,rfl,_,rfl,G9 (fun c6=>hB) (fun c6=>hE)⟩) (fun c5=>d9 hE)⟩) ?els)) ?_
   case els=>
    have hus:0<us.length:=by
     rcases us with _ | ⟨z,us⟩
     ·simp[PyData.eqv,PyData.eqvAll]at c4
     ·simp
    obtain⟨who,hwho,hin⟩:=a0o hus (rest+(0+(i:Int)))
    refine⟨_,rfl,_,rfl,_,rfl,_,_,rfl,rfl,_,rfl,u,_,rfl,.inl (d7.of E5.und),_,_,rfl,rfl,(by rw[qQ0];omega),u,_,_,_,rfl,rfl,d7.of E5.und,hwho,?_⟩
    refine⟨_,rfl,_,_,rfl,rfl,_,rfl,G9 (fun c7=>?_) (fun c7=>?_)⟩
    ·refine⟨_,rfl,.inl ⟨rfl,_,d7.of E5.made.choose_spec.1⟩,_,rfl,_,rfl,(by show 3≤sizeLine;decide),fun p hp=>?_⟩
     exact(E5.new (b9 (o:=.tup [.str "look",.int who,.str g]) hp)).add (e:=.look who g) ⟨p,rfl,b0⟩ wg (by omega) _ fun H6 D'=>⟨_,_,_,_,_,_,_,_,_,_,_,_,_,_,_,rfl,D',by rw[qQ4,lds];rfl,by omega,by omega⟩
    refine⟨_,rfl,_,_,rfl,rfl,_,rfl,G9 (fun c8=>?_) (fun c8=>?_)⟩
    ·refine⟨_,rfl,_,_,rfl,rfl,.inl ⟨by decide,by decide⟩,_,_,rfl,rfl,_,_,rfl,rfl,⟨by decide,by decide,by decide⟩,_,rfl,_,_,rfl,rfl,_,_,rfl,rfl,⟨by decide,by decide,by decide⟩,_,rfl,_,rfl,_,_,rfl,rfl,(by show 4≤sizeLine;decide),fun ea hea=>?_⟩
     obtain⟨a0,a1,a2,a3⟩:=E5.apart hea
     have E6:=fun ob=>E5.new (b9 (o:=ob) hea)
     refine⟨_,rfl,.inl ⟨rfl,_,d7.of b0⟩,_,rfl,_,_,rfl,rfl,⟨by decide,by decide,by decide⟩,_,_,rfl,rfl,⟨by decide,by decide,by decide⟩,_,_,rfl,rfl,b7y,_,_,rfl,rfl,_,_,rfl,rfl,(by show(0:Int)<10 ^ (50:Int).toNat*10 ^ (50:Int).toNat-1;decide +kernel),ea,_,_,rfl,rfl,b0,(by show 4<sizeLine;decide),?_⟩
     have E7:=fun(ys zs:List V)=>(E6 (.lst ys)).oth (zs:=zs) a0 a1 a2 a3 b0
     obtain⟨z7,hz7,z70,z75⟩:=b2j (rest+(0+(i:Int)))
     refine⟨_,rfl,(by show 7≤sizeLine;decide),fun eb heb=>?_⟩
     have am:∃am,D6 ([3*(0+(i:Int))-40,0,10 ^ (30:Int).toNat+(0+(i:Int)),-10 ^ (30:Int).toNat-(0+(i:Int)),near % (10 ^ (50:Int).toNat*10 ^ (50:Int).toNat-1)].map V.int) z7=some (.int am):=by
      obtain⟨j,rfl⟩:=Int.eq_ofNat_of_zero_le z70
      have hj:j<5:=by omega
      exact⟨_,i8 (by rw[qQ8,List.getElem?_eq_getElem (by simpa using hj)];rfl)⟩
     obtain⟨am,ham⟩:=am
     have E8:=fun ob=>(E7 _ _).new (b9 (o:=ob) heb)
     refine⟨_,rfl,_,rfl,_,_,rfl,rfl,_,_,rfl,rfl,(by show(0:Int)<7;decide),eb,_,_,_,rfl,rfl,d7.of b0,hz7,ea,_,_,_,rfl,rfl,d7.of (b9 heb _ _ b0),ham,?_⟩
     refine⟨_,rfl,.inl ⟨rfl,_,d7.of (E8 _).made.choose_spec.1⟩,_,rfl,_,rfl,_,rfl,(by show 4≤sizeLine;decide),fun p hp=>?_⟩
     exact((E8 _).new (b9 (o:=.tup [.str "put",.int who,.str g,.int am]) hp)).add (e:=.put who g am) ⟨p,rfl,b0⟩ wg (by omega) _ fun H6 D'=>⟨_,_,_,_,_,_,_,_,_,_,_,_,_,_,_,rfl,D',by rw[qQ4,lds];rfl,by omega,by omega⟩
    ·refine⟨_,rfl,.inl ⟨rfl,_,d7.of E5.made.choose_spec.1⟩,(by show 2≤sizeLine;decide),fun el hel=>?_⟩
     have E6:=E5.new (b9 (o:=.lst [.str "end",.str "leave"]) hel)
     obtain⟨wd,hwd,hdd⟩:∃wd:Str,D6 [V.str "end",V.str "leave"] (if decide (V.int pick=V.int 14)=true then 1 else 0)=some (.str wd)∧∃dd:i7,dv dd=[.str wd,.int who]∧S1 dd:=by
      cases decide (V.int pick=V.int 14)
      ·exact⟨_,i8 (j:=0) rfl,.fin who,rfl,trivial⟩
      ·exact⟨_,i8 (j:=1) rfl,.leave who,rfl,trivial⟩
     obtain⟨dd,edd,okdd⟩:=hdd
     refine⟨_,rfl,rfl,.inr ⟨_,rfl,el,_,_,_,rfl,rfl,d7.of b0,hwd,_,rfl,(by show 2≤sizeLine;decide),fun p hp=>?_⟩⟩
     refine(E6.new (b9 (o:=.tup [.str wd,.int who]) hp)).add (e:=dd) (x:=.ref p) ⟨p,rfl,by rw[edd];exact b0⟩ okdd (by omega) _ fun H6 D'=>?_
     obtain⟨j,hj,hf⟩:=a2a hin
     have le:=List.length_eraseIdx_le us j
     refine⟨_,rfl,.inl ⟨rfl,_,d7.of D'.und⟩,_,rfl,u,us,who,j,rfl,rfl,D'.und,hj,hf,?_⟩
     have DU:=D'.setU (us.eraseIdx j)
     refine⟨_,rfl,.inl ⟨rfl,_,d7.of DU.ove⟩,_,rfl,o,_,_,rfl,rfl,DU.ove,W3 (by rw[qQ0];omega),?_⟩
     rw[show os.map V.int++[V.int who]=(os++[who]).map V.int by simp]
     exact⟨_,_,_,_,_,_,_,_,_,_,_,_,_,_,_,rfl,DU.setO (os++[who]),by rw[qQ4,lds];rfl,by omega,by rw[qQ4];simp;omega⟩
   refine⟨_,rfl,.inl ⟨rfl,_,d7.of E5.made.choose_spec.1⟩,(by show 1≤sizeLine;decide),fun p hp=>?_⟩
   refine(E5.new (b9 (o:=.tup [.str "begin"]) hp)).add (e:=.begin) ⟨p,rfl,b0⟩ trivial (by omega) _ fun H6 D'=>?_
   refine⟨_,rfl,.inl ⟨rfl,_,d7.of D'.und⟩,_,rfl,u,_,_,rfl,rfl,D'.und,W3 (by rw[qQ0];omega),?_⟩
   rw[show us.map V.int++[V.int bg]=(us++[bg]).map V.int by simp]
   exact⟨_,rfl,_,_,rfl,rfl,⟨_,_,_,_,_,_,_,_,_,_,_,_,_,_,_,rfl,D'.setU (us++[bg]),by rw[qQ4,lds];rfl,by rw[qQ4];simp;omega,by omega⟩⟩
 ·obtain⟨bg,ds,us,os,o7,o8,o9,oA,oB,oC,oD,oE,oF,oG,oH,rfl,D,lds,lus,los⟩:=h
  obtain⟨xs,h1,h2⟩:=D.made
  exact⟨_,rfl,q r xs ds H' D.sm h1 h2 lds D.ok D.nr⟩
def dD:i7→PyData
 | .begin=>.tuple [.str "begin"]
 | .look n g=>.tuple [.str "look",.int n,.str g]
 | .put n g a=>.tuple [.str "put",.int n,.str g,.int a]
 | .fin n=>.tuple [.str "end",.int n]
 | .leave n=>.tuple [.str "leave",.int n]
 | .sweep=>.tuple [.str "sweep"]
theorem a5l.rep{K:PySem.W.Frag}{H:Hp}{d:i7}{x:V}(h:a5l H d x):Rep K H (dD d) x:=by
 obtain⟨p,rfl,h⟩:=h
 cases d with
 | begin=>unfold dD;simp only[Rep,p5];exact⟨p,_,rfl,i4.of h,_,_,rfl,rfl,rfl⟩
 | sweep=>unfold dD;simp only[Rep,p5];exact⟨p,_,rfl,i4.of h,_,_,rfl,rfl,rfl⟩
 | fin n=>unfold dD;simp only[Rep,p5];exact⟨p,_,rfl,i4.of h,_,_,rfl,rfl,_,_,rfl,rfl,rfl⟩
 | leave n=>unfold dD;simp only[Rep,p5];exact⟨p,_,rfl,i4.of h,_,_,rfl,rfl,_,_,rfl,rfl,rfl⟩
 | look n g=>unfold dD;simp only[Rep,p5];exact⟨p,_,rfl,i4.of h,_,_,rfl,rfl,_,_,rfl,rfl,_,_,rfl,rfl,rfl⟩
 | put n g a=>unfold dD;simp only[Rep,p5];exact⟨p,_,rfl,i4.of h,_,_,rfl,rfl,_,_,rfl,rfl,_,_,rfl,rfl,_,_,rfl,rfl,rfl⟩
theorem y0.reps{K:PySem.W.Frag}{H:Hp}:∀{ds:List i7} {xs:List V},y0 H ds xs→p5 K H (ds.map dD) xs
 | _,_,.nil=>rfl
 | _,_,.cons h t=>⟨_,_,rfl,h.rep,y0.reps t⟩
theorem Run.trace{s0 st:j0}{ds:List i7}{as:List t7}(h:Run s0 ds as st):∃f:Nat→j0,f 0=s0∧f ds.length=st∧∀i d a,ds[i]?=some d→as[i]?=some a→Step (f i) d a (f (i+1)):=by
 induction h with
 | nil=>exact⟨fun _=>s0,rfl,rfl,fun i d a h=>by simp at h⟩
 | @snoc ds as st st' d a R S ih=>
  obtain⟨f,f0,f1,fs⟩:=ih
  have la:=a2B R
  refine⟨fun i=>if i=ds.length+1 then st' else f i,?_,?_,fun i e b he hb=>?_⟩
  ·show(if 0=ds.length+1 then _ else _)=_
   rw[if_neg (by omega)];exact f0
  ·show(if (ds++[d]).length=ds.length+1 then _ else _)=_
   rw[if_pos (by simp)]
  ·have li:i<ds.length+1:=by have:=(qQ1.mp he).1;simpa using this
   show Step (if i=_ then _ else _) e b (if i+1=_ then _ else _)
   rw[if_neg (by omega)]
   by_cases c:i=ds.length
   ·subst c
    rw[if_pos rfl]
    rw[List.getElem?_append_right (qQ7 _)]at he
    rw[List.getElem?_append_right (by omega)]at hb
    simp at he
    rw[la]at hb;simp at hb
    subst he;subst hb
    rw[f1];exact S
   ·rw[if_neg (by omega)]
    rw[List.getElem?_append_left (by omega)]at he
    rw[List.getElem?_append_left (by omega)]at hb
    exact fs i e b he hb
theorem Run.oks{s0 st:j0}{ds:List i7}{as:List t7}{f:Nat→j0}(f0:f 0=s0)(o:C2 s0)(la:as.length=ds.length)(fs:∀i d a,ds[i]?=some d→as[i]?=some a→Step (f i) d a (f (i+1))):∀i,i≤ds.length→C2 (f i):=by
 intro i
 induction i with
 | zero=>intro _;rw[f0];exact o
 | succ i ih=>
  intro h
  have hd:=List.getElem?_eq_getElem (l:=ds) (i:=i) (by omega)
  have ha:=List.getElem?_eq_getElem (l:=as) (i:=i) (by omega)
  exact a1U (ih (by omega)) (fs i _ _ hd ha)
theorem C0.same{rl:Addr→Role}{H H':Hp}(s:g6 H H'){a:t7}{x:V}(h:C0 rl H a x):C0 rl H' a x:=by
 cases a with
 | num i=>exact h
 | word s=>exact h
 | non=>exact h
 | ring rg=>
  obtain⟨l,zs,e,h1,h2,h3⟩:=h
  exact⟨l,zs,e,s _ _ h1,h2.tupK s.tupK,h3⟩
def una(st:j0):List Int:=st.under.map (·.num)
theorem erase_filter{n:Int}:∀{ns:List Int} {j:Nat},ns.Nodup→ns[j]?=some n→ns.eraseIdx j=ns.filter fun k=>decide (k≠n)
 | [],j,_,h=>by simp at h
 | m::ns,0,nd,h=>by
  have e:m=n:=by simpa using h
  subst e
  rw[List.nodup_cons]at nd
  rw[List.filter_cons]
  simp only[ne_eq,not_true_eq_false,decide_false,Bool.false_eq_true,if_false,List.eraseIdx_zero,List.tail_cons]
  exact(List.filter_eq_self.mpr fun k hk=>by
   have:k≠m:=fun z=>nd.1 (by rw[←z];exact hk)
   simpa using this).symm
 | m::ns,j+1,nd,h=>by
  rw[List.nodup_cons]at nd
  have h:ns[j]?=some n:=by simpa using h
  have:m≠n:=fun z=>nd.1 (by rw[z];exact List.mem_of_getElem? h)
  rw[List.eraseIdx_cons_succ,List.filter_cons,erase_filter nd.2 h]
  simp[this]
theorem Z2(n:Int)(ks:List Int):inV (.int n) (ks.map V.int)=decide (n∈ks):=by
 unfold inV
 induction ks with
 | nil=>rfl
 | cons k ks ih=>
  rw[List.map_cons,List.any_cons,ih]
  have e:eqV (.int k) (.int n)=decide (k=n):=by
   show(k==n)=_
   by_cases z:k=n
   ·subst z;simp
   ·rw[decide_eq_false z];simpa using z
  rw[e]
  by_cases z:k=n
  ·subst z;simp
  ·have z':¬n=k:=fun w=>z w.symm
   simp[z,z']
theorem a7c(ks:List Int):(ks.map V.int).all V4=true:=by
 induction ks with
 | nil=>rfl
 | cons k ks ih=>rw[List.map_cons,List.all_cons,ih];rfl
structure Gd(st:j0):Prop where
 lk:∀d∈st.under,∀g∈d.looked,O2 g
 as:∀d∈st.under,∀p∈d.aside,O2 p.1
 rl:∀r∈st.recs,∀g∈r.looked,O2 g
 rp:∀r∈st.recs,∀g∈r.put,O2 g
theorem gd0:Gd O1:=⟨(fun d h=>nomatch h),(fun d h=>nomatch h),(fun d h=>nomatch h),(fun d h=>nomatch h)⟩
theorem b8k{ks:List Str}{g h:Str}(z:h∈L8 ks g):h∈ks∨h=g:=by
 unfold L8 at z
 split at z
 ·exact .inl z
 ·rcases qQ5.mp z with z | z
  ·exact .inl z
  ·exact .inr (qQ2.mp z)
theorem a7O{m:Am}{g:Str}{a:Int}{p:Str×Int}(z:p∈C1 m g a):(∃q∈m,q.1=p.1)∨p.1=g:=by
 unfold C1 at z
 split at z
 ·obtain⟨q,hq,rfl⟩:=qQ3.mp z
  refine .inl ⟨q,hq,?_⟩
  split<;>rfl
 ·rcases qQ5.mp z with z | z
  ·exact .inl ⟨p,z,rfl⟩
  ·rw[qQ2.mp z];exact .inr rfl
theorem M0.good{st:j0}(h:Gd st){d:Dl}(hd:d∈st.under){e:Int}{r:Rec}(k:M0 d e r):(∀g∈r.looked,O2 g)∧∀g∈r.put,O2 g:=by
 obtain⟨_,_,_,p1,p2,_⟩:=k
 refine⟨fun g hg=>h.lk d hd g (p1.mem_iff.mp hg),fun g hg=>?_⟩
 obtain⟨p,hp,rfl⟩:=qQ3.mp (p2.mem_iff.mp hg)
 exact h.as d hd p hp
theorem b3r{st st':j0}{d:i7}{a:t7}(h:Gd st)(ok:S1 d)(s:Step st d a st'):Gd st':=by
 have leave:∀n,Gd (u9 st n):=fun n=>⟨fun d hd=>h.lk d (qW0.mp hd).1,fun d hd=>h.as d (qW0.mp hd).1,h.rl,h.rp⟩
 cases s with
 | begin=>
  refine⟨fun d hd=>?_,fun d hd=>?_,h.rl,h.rp⟩
  ·rcases qQ5.mp hd with hd | hd
   ·exact h.lk d hd
   ·rw[qQ2.mp hd];exact fun g z=>nomatch z
  ·rcases qQ5.mp hd with hd | hd
   ·exact h.as d hd
   ·rw[qQ2.mp hd];exact fun g z=>nomatch z
 | sweep _=>exact⟨h.lk,h.as,h.rl,h.rp⟩
 | none _ _=>exact h
 | own _ _=>exact h
 | @look d g _ _=>
  refine⟨fun e he=>?_,fun e he=>?_,h.rl,h.rp⟩
  ·obtain⟨e',he',rfl | rfl⟩:=C8 he
   ·exact h.lk _ he'
   ·intro k hk
    rcases b8k hk with hk | rfl
    ·exact h.lk _ he' k hk
    ·exact ok
  ·obtain⟨e',he',rfl | rfl⟩:=C8 he
   ·exact h.as _ he'
   ·exact h.as e' he'
 | @put d g a _=>
  refine⟨fun e he=>?_,fun e he=>?_,h.rl,h.rp⟩
  ·obtain⟨e',he',rfl | rfl⟩:=C8 he
   ·exact h.lk _ he'
   ·exact h.lk e' he'
  ·obtain⟨e',he',rfl | rfl⟩:=C8 he
   ·exact h.as _ he'
   ·intro p hp
    rcases a7O hp with ⟨q,hq,e⟩ | e
    ·rw[←e];exact h.as _ he' q hq
    ·rw[e];exact ok
 | leave _=>exact leave _
 | ring _ _=>exact leave _
 | @ended d r cs row hd E=>
  have g:=E.rc.good h hd
  refine⟨fun d hd=>h.lk d (qW0.mp hd).1,fun d hd=>h.as d (qW0.mp hd).1,fun o ho=>?_,fun o ho=>?_⟩
  ·rcases qQ5.mp ho with ho | ho
   ·exact h.rl o ho
   ·rw[qQ2.mp ho];exact g.1
  ·rcases qQ5.mp ho with ho | ho
   ·exact h.rp o ho
   ·rw[qQ2.mp ho];exact g.2
theorem Run.gds{s0:j0}{ds:List i7}{as:List t7}{f:Nat→j0}(f0:f 0=s0)(o:Gd s0)(la:as.length=ds.length)(okd:∀d∈ds,S1 d)(fs:∀i d a,ds[i]?=some d→as[i]?=some a→Step (f i) d a (f (i+1))):∀i,i≤ds.length→Gd (f i):=by
 intro i
 induction i with
 | zero=>intro _;rw[f0];exact o
 | succ i ih=>
  intro h
  have hd:=List.getElem?_eq_getElem (l:=ds) (i:=i) (by omega)
  have ha:=List.getElem?_eq_getElem (l:=as) (i:=i) (by omega)
  exact b3r (ih (by omega)) (okd _ (List.mem_of_getElem? hd)) (fs i _ _ hd ha)
theorem F9{A:(L2.St→Hp→Prop)→Prop}{R:L2.St→Hp→Prop}{σ:L2.St}{H:Hp}(h:A fun σ' H'=>σ'=σ∧H'=H)(r:R σ H):∃M,A M∧∀σ' H',M σ' H'→R σ' H':=
 ⟨_,h,fun _ _ z=>by rw[z.1,z.2];exact r⟩
theorem Z1{A:(L2.St→Hp→Prop)→Prop}{R:L2.St→Hp→Prop}{σ:L2.St}(Pr:Hp→Prop)(h:A fun σ' H'=>σ'=σ∧Pr H')(r:∀H',Pr H'→R σ H'):∃M,A M∧∀σ' H',M σ' H'→R σ' H':=
 ⟨_,h,fun _ _ z=>by rw[z.1];exact r _ z.2⟩
theorem b0e(d:i7):d=.begin∨d=.sweep∨∃w n ws,dv d=.str w::.int n::ws∧numOf d=some n∧w≠"begin"∧w≠"sweep":=by
 cases d with
 | begin=>exact .inl rfl
 | sweep=>exact .inr (.inl rfl)
 | _=>exact .inr (.inr ⟨_,_,_,rfl,rfl,by decide,by decide⟩)
theorem b8a{st st':j0}{d:i7}{a:t7}{n:Int}(s:Step st d a st')(hn:numOf d=some n)(h:n∉una st):st'=st:=by
 have no:∀{x:Dl},x∈st.under→x.num=n→False:=fun {x} hx e=>h (by rw[←e];exact qQ3.mpr ⟨x,hx,rfl⟩)
 cases s with
 | none _ _=>rfl
 | begin=>cases hn
 | sweep _=>cases hn
 | own hd _=>rfl
 | look hd _=>exact(no hd (qW1 hn)).elim
 | put hd=>exact(no hd (qW1 hn)).elim
 | leave hd=>exact(no hd (qW1 hn)).elim
 | ended hd _=>exact(no hd (qW1 hn)).elim
 | ring hd _=>exact(no hd (qW1 hn)).elim
abbrev Try:=Nat×Rec×List Rec
structure WG where
 rl:Addr→Role
 lk:Int→Addr
 as:Int→Addr
 bg:Int→Int
def gOf(rl:Addr→Role):Gh:=⟨rl,0,0,0,0,0,0,fun _=>0,fun _=>0,fun _=>0,fun _=>0,fun _=>0⟩
theorem ur{rl:Addr→Role}{H:Hp}{a b:Addr}{o u:HO}{ρ σ:Role}(e:H b=some u)(h:rl b=σ)(k:rl a=ρ)(n:σ≠ρ):upd H a o b=some u:=d6 (G:=gOf rl) e h k n
def nat(n:Nat):List Int:=(List.range n).map Int.ofNat
theorem a8o{n:Nat}{i:Int}:i∈nat n↔0≤i∧i<(n:Int):=by
 unfold nat
 rw[qQ3]
 constructor
 ·rintro⟨k,hk,rfl⟩
  rw[List.mem_range]at hk
  exact⟨Int.natCast_nonneg k,Int.ofNat_lt.mpr hk⟩
 ·rintro⟨h1,h2⟩
  exact⟨i.toNat,List.mem_range.mpr (by omega),Int.toNat_of_nonneg h1⟩
theorem a8s(n:Nat):nat (n+1)=nat n++[(n:Int)]:=by
 unfold nat;rw[List.range_succ,qQ6];rfl
theorem a8f(n:Nat):(nat n).length=n:=by unfold nat;simp
def P6(rl:Addr→Role)(H:Hp)(y:Try)(x:V):Prop:=∃b lb v zs,x=.ref b∧H b=some (.tup [.int (y.1:Int),v,.ref lb])∧RcAt rl H y.2.1 v∧H lb=some (.lst zs)∧rl lb=.fz∧Paired (RcAt rl H) y.2.2 zs
theorem P6.same{rl:Addr→Role}{H H':Hp}{y:Try}{x:V}(s:g6 H H')(h:P6 rl H y x):P6 rl H' y x:=
 let ⟨b,lb,v,zs,e,h1,h2,h3,h4,h5⟩:=h;⟨b,lb,v,zs,e,s _ _ h1,h2.same s,s _ _ h3,h4,Paired.mapP h5 fun _ _ z=>z.same s⟩
theorem RcAt.updR{rl:Addr→Role}{H:Hp}{a:Addr}{o:HO}{ρ:Role}{r:Rec}{x:V}(h:RcAt rl H r x)(k:rl a=ρ)(n:Role.fz≠ρ)(t:r9 H (L2.upd H a o)):RcAt rl (L2.upd H a o) r x:=RcAt.upd (G:=gOf rl) h k n t
theorem P6.upd{rl:Addr→Role}{H:Hp}{a:Addr}{o:HO}{ρ:Role}{y:Try}{x:V}(h:P6 rl H y x)(k:rl a=ρ)(n:Role.fz≠ρ)(t:r9 H (L2.upd H a o)):P6 rl (L2.upd H a o) y x:=
 let ⟨b,lb,v,zs,e,h1,h2,h3,h4,h5⟩:=h;⟨b,lb,v,zs,e,t.1 _ _ h1,h2.updR k n t,ur h3 h4 k n,h4,Paired.mapP h5 fun _ _ z=>z.updR k n t⟩
theorem RcAt.rl{rl rl':Addr→Role}{H:Hp}(e:∀b,rl b=.fz→rl' b=.fz){r:Rec}{x:V}(h:RcAt rl H r x):RcAt rl' H r x:=
 let ⟨b,la,pa,x,h1,h2,h3,h4,h5⟩:=h;⟨b,la,pa,x,h1,h2,h3,e _ h4,e _ h5⟩
theorem P6.rl{rl rl':Addr→Role}{H:Hp}(g:∀b,rl b=.fz→rl' b=.fz){y:Try}{x:V}(h:P6 rl H y x):P6 rl' H y x:=
 let ⟨b,lb,v,zs,e,h1,h2,h3,h4,h5⟩:=h;⟨b,lb,v,zs,e,h1,h2.rl g,h3,g _ h4,Paired.mapP h5 fun _ _ z=>z.rl g⟩
theorem a6h(m:Am)(g:Str)(a:Int):(C1 m g a).map (·.1)=if g∈m.map (·.1) then m.map (·.1) else m.map (·.1)++[g]:=by
 rw[b1f]
 have e:((m.any fun p=>decide (p.1=g))=true)↔g∈m.map (·.1):=by
  rw[List.any_eq_true,qQ3]
  exact⟨fun⟨p,h,e⟩=>⟨p,h,by simpa using e⟩,fun⟨p,h,e⟩=>⟨p,h,by simpa using e⟩⟩
 by_cases c:g∈m.map (·.1)
 ·rw[if_pos c,if_pos (e.mpr c)]
 ·rw[if_neg c,if_neg fun z=>c (e.mp z)]
structure WD(W:WG)(H:Hp)(d:Dl):Prop where
 lk:H (W.lk d.num)=some (.lst (d.looked.map V.str))
 as:H (W.as d.num)=some (.lst ((d.aside.map (·.1)).map V.str))
 bg:W.bg d.num=d.beg
 r2:W.rl (W.lk d.num)=.look d.num
 r3:W.rl (W.as d.num)=.side d.num
structure WA(S L M R Y:Addr)(W:WG)(H0 H:Hp)(st:j0)(tr:List Try):Prop where
 sm:g6 H0 H
 nw:∀b,W.rl b≠.free→H0 b=none
 sn:H S=some (.dK (l7 (una st) fun n=>.int (W.bg n)))
 lo:H L=some (.dK (l7 (nat st.begun) fun n=>.ref (W.lk n)))
 la:H M=some (.dK (l7 (nat st.begun) fun n=>.ref (W.as n)))
 rc:∃xs,H R=some (.lst xs)∧Paired (RcAt W.rl H) st.recs xs
 ty:∃ys,H Y=some (.lst ys)∧Paired (P6 W.rl H) tr ys
 dl:∀d∈st.under,WD W H d
 r1:W.rl S=.under
 r2:W.rl L=.vers
 r3:W.rl M=.tally
 r4:W.rl R=.recs
 r5:W.rl Y=.deal 0
 cl:∀b,H b=none→W.rl b=.free
section
variable{S L M R Y:Addr}{W:WG}{H0 H:Hp}{st:j0}{tr:List Try}
theorem WA.new{H':Hp}(h:WA S L M R Y W H0 H st tr)(s:g6 H H'):WA S L M R Y W H0 H' st tr where
 sm:=h.sm.trans s
 nw:=h.nw
 sn:=s _ _ h.sn
 lo:=s _ _ h.lo
 la:=s _ _ h.la
 rc:=let ⟨xs,a,b⟩:=h.rc;⟨xs,s _ _ a,Paired.mapP b fun _ _ z=>z.same s⟩
 ty:=let ⟨xs,a,b⟩:=h.ty;⟨xs,s _ _ a,Paired.mapP b fun _ _ z=>z.same s⟩
 dl:=fun d hd=>let D:=h.dl d hd;⟨s _ _ D.lk,s _ _ D.as,D.bg,D.r2,D.r3⟩
 r1:=h.r1
 r2:=h.r2
 r3:=h.r3
 r4:=h.r4
 r5:=h.r5
 cl:=fun b e=>h.cl b (j5 s e)
theorem WA.cong{st':j0}(h:WA S L M R Y W H0 H st tr)(e1:st'.begun=st.begun)(e2:st'.under=st.under)(e3:st'.recs=st.recs):WA S L M R Y W H0 H st' tr:=
 ⟨h.sm,h.nw,by unfold una;rw[e2];exact h.sn,by rw[e1];exact h.lo,by rw[e1];exact h.la,by rw[e3];exact h.rc,h.ty,by rw[e2];exact h.dl,h.r1,h.r2,h.r3,h.r4,h.r5,h.cl⟩
def wfz(W:WG)(as:List Addr):WG:={ W with rl:=fun b=>if b∈as then .fz else W.rl b }
theorem a4J{as:List Addr}{a:Addr}(h:a∈as):(wfz W as).rl a=.fz:=if_pos h
theorem b0b{as:List Addr}(b:Addr)(h:W.rl b=.fz):(wfz W as).rl b=.fz:=by
 show(if b∈as then _ else _)=_
 split
 ·rfl
 ·exact h
theorem WA.fz(h:WA S L M R Y W H0 H st tr){as:List Addr}(ha:∀a∈as,W.rl a=.free∧H0 a=none∧∃o,H a=some o):WA S L M R Y (wfz W as) H0 H st tr:=by
 have kp:∀b ρ,W.rl b=ρ→ρ≠.free→(wfz W as).rl b=ρ:=fun b ρ e n=>by
  show(if b∈as then _ else _)=_
  rw[if_neg fun z=>n (by rw[←e,(ha b z).1])];exact e
 refine⟨h.sm,fun b hb=>?_,h.sn,h.lo,h.la,?_,?_,fun d hd=>?_,kp _ _ h.r1 (by simp),kp _ _ h.r2 (by simp),kp _ _ h.r3 (by simp),kp _ _ h.r4 (by simp),kp _ _ h.r5 (by simp),fun b e=>?_⟩
 ·by_cases c:b∈as
  ·exact(ha b c).2.1
  ·refine h.nw b fun z=>hb ?_
   show(if b∈as then _ else _)=_
   rw[if_neg c];exact z
 ·obtain⟨xs,a,b⟩:=h.rc
  exact⟨xs,a,Paired.mapP b fun _ _ z=>z.rl b0b⟩
 ·obtain⟨xs,a,b⟩:=h.ty
  exact⟨xs,a,Paired.mapP b fun _ _ z=>z.rl b0b⟩
 ·have D:=h.dl d hd
  exact⟨D.lk,D.as,D.bg,kp _ _ D.r2 (by simp),kp _ _ D.r3 (by simp)⟩
 ·show(if b∈as then _ else _)=_
  rw[if_neg fun z=>by obtain⟨_,_,o,w⟩:=ha b z;rw[e]at w;cases w]
  exact h.cl b e
theorem WA.smU(h:WA S L M R Y W H0 H st tr){a:Addr}(k:W.rl a≠.free)(o:HO):g6 H0 (upd H a o):=j7 h.sm (h.nw a k)
theorem a4u{n:Int}{f:Dl→Dl}(hf:∀d,(f d).num=d.num):una { st with under:=A6 st.under n f }=una st:=J7 hf
theorem WA.setLk(h:WA S L M R Y W H0 H st tr)(nd:(una st).Nodup){d:Dl}(hd:d∈st.under){g:Str}(hg:g∉d.looked) :
  WA S L M R Y W H0 (upd H (W.lk d.num) (.lst (d.looked.map V.str++[.str g]))) { st with under:=A6 st.under d.num (P1 g) } tr:=by
 have D:=h.dl d hd
 have t:r9 H (upd H (W.lk d.num) (.lst (d.looked.map V.str++[.str g]))):=n9 D.lk
 refine⟨h.smU (by rw[D.r2];simp) _,h.nw,?_,ur h.lo h.r2 D.r2 (by simp),ur h.la h.r3 D.r2 (by simp),?_,?_,fun e he=>?_,h.r1,h.r2,h.r3,h.r4,h.r5,fun b e=>h.cl b (n6 e)⟩
 ·rw[a4u (f:=P1 g) fun _=>rfl];exact ur h.sn h.r1 D.r2 (by simp)
 ·obtain⟨xs,a,b⟩:=h.rc
  exact⟨xs,ur a h.r4 D.r2 (by simp),Paired.mapP b fun _ _ z=>z.updR D.r2 (by simp) t⟩
 ·obtain⟨xs,a,b⟩:=h.ty
  exact⟨xs,ur a h.r5 D.r2 (by simp),Paired.mapP b fun _ _ z=>z.upd D.r2 (by simp) t⟩
 ·obtain⟨e',he',rfl⟩:=qQ3.mp he
  have E:=h.dl e' he'
  by_cases c:e'.num=d.num
  ·have:e'=d:=L1 nd he' hd c
   subst this
   rw[if_pos rfl]
   refine⟨?_,ur E.as E.r3 E.r2 (by simp),E.bg,E.r2,E.r3⟩
   rw[show(P1 g e').num=e'.num from rfl,b0]
   show _=some (HO.lst ((L8 e'.looked g).map V.str))
   unfold L8
   rw[if_neg hg,qQ6];rfl
  ·rw[if_neg c]
   exact⟨ur E.lk E.r2 D.r2 (by simpa using c),ur E.as E.r3 D.r2 (by simp),E.bg,E.r2,E.r3⟩
theorem WA.setAs(h:WA S L M R Y W H0 H st tr)(nd:(una st).Nodup){d:Dl}(hd:d∈st.under){g:Str}{x:Int}(hg:g∉d.aside.map (·.1)) :
  WA S L M R Y W H0 (upd H (W.as d.num) (.lst ((d.aside.map (·.1)).map V.str++[.str g]))) { st with under:=A6 st.under d.num (P3 g x) } tr:=by
 have D:=h.dl d hd
 have t:r9 H (upd H (W.as d.num) (.lst ((d.aside.map (·.1)).map V.str++[.str g]))):=n9 D.as
 refine⟨h.smU (by rw[D.r3];simp) _,h.nw,?_,ur h.lo h.r2 D.r3 (by simp),ur h.la h.r3 D.r3 (by simp),?_,?_,fun e he=>?_,h.r1,h.r2,h.r3,h.r4,h.r5,fun b e=>h.cl b (n6 e)⟩
 ·rw[a4u (f:=P3 g x) fun _=>rfl];exact ur h.sn h.r1 D.r3 (by simp)
 ·obtain⟨xs,a,b⟩:=h.rc
  exact⟨xs,ur a h.r4 D.r3 (by simp),Paired.mapP b fun _ _ z=>z.updR D.r3 (by simp) t⟩
 ·obtain⟨xs,a,b⟩:=h.ty
  exact⟨xs,ur a h.r5 D.r3 (by simp),Paired.mapP b fun _ _ z=>z.upd D.r3 (by simp) t⟩
 ·obtain⟨e',he',rfl⟩:=qQ3.mp he
  have E:=h.dl e' he'
  by_cases c:e'.num=d.num
  ·have:e'=d:=L1 nd he' hd c
   subst this
   rw[if_pos rfl]
   refine⟨ur E.lk E.r2 E.r3 (by simp),?_,E.bg,E.r2,E.r3⟩
   rw[show(P3 g x e').num=e'.num from rfl,b0]
   show _=some (HO.lst (((C1 e'.aside g x).map (·.1)).map V.str))
   rw[a6h,if_neg hg,qQ6];rfl
  ·rw[if_neg c]
   exact⟨ur E.lk E.r2 D.r3 (by simp),ur E.as E.r3 D.r3 (by simpa using c),E.bg,E.r2,E.r3⟩
theorem WA.mod(h:WA S L M R Y W H0 H st tr){n:Int}{f:Dl→Dl}(hf:∀d,(f d).num=d.num∧(f d).beg=d.beg)(hk:∀d∈st.under,d.num=n→(f d).looked=d.looked∧(f d).aside.map (·.1)=d.aside.map (·.1)):WA S L M R Y W H0 H { st with under:=A6 st.under n f } tr:=by
 refine⟨h.sm,h.nw,?_,h.lo,h.la,h.rc,h.ty,fun e he=>?_,h.r1,h.r2,h.r3,h.r4,h.r5,h.cl⟩
 ·rw[a4u fun d=>(hf d).1];exact h.sn
 ·obtain⟨e',he',rfl⟩:=qQ3.mp he
  have E:=h.dl e' he'
  by_cases c:e'.num=n
  ·rw[if_pos c]
   obtain⟨k1,k2⟩:=hk e' he' c
   have n1:=(hf e').1
   exact⟨by rw[n1,k1];exact E.lk,by rw[n1,k2];exact E.as,by rw[n1,(hf e').2];exact E.bg,by rw[n1];exact E.r2,by rw[n1];exact E.r3⟩
  ·rw[if_neg c];exact E
theorem WA.drop(h:WA S L M R Y W H0 H st tr)(n:Int):WA S L M R Y W H0 (upd H S (.dK (F7 (l7 (una st) fun n=>.int (W.bg n)) (Sum.inl n)))) (u9 st n) tr:=by
 have t:∀o,r9 H (upd H S o):=fun o=>M4 h.sn
 refine⟨h.smU (by rw[h.r1];simp) _,h.nw,?_,ur h.lo h.r2 h.r1 (by simp),ur h.la h.r3 h.r1 (by simp),?_,?_,fun e he=>?_,h.r1,h.r2,h.r3,h.r4,h.r5,fun b e=>h.cl b (n6 e)⟩
 ·rw[b0,a7J]
  show some (HO.dK (l7 _ _))=some (HO.dK (l7 ((K3 st.under n).map (·.num)) _))
  rw[U6];rfl
 ·obtain⟨xs,a,b⟩:=h.rc
  exact⟨xs,ur a h.r4 h.r1 (by simp),Paired.mapP b fun _ _ z=>z.updR h.r1 (by simp) (t _)⟩
 ·obtain⟨xs,a,b⟩:=h.ty
  exact⟨xs,ur a h.r5 h.r1 (by simp),Paired.mapP b fun _ _ z=>z.upd h.r1 (by simp) (t _)⟩
 ·have E:=h.dl e (qW0.mp he).1
  exact⟨ur E.lk E.r2 h.r1 (by simp),ur E.as E.r3 h.r1 (by simp),E.bg,E.r2,E.r3⟩
theorem WA.addY(h:WA S L M R Y W H0 H st tr){y:Try}{x:V}{ys:List V}(hy:H Y=some (.lst ys))(hx:P6 W.rl H y x):WA S L M R Y W H0 (upd H Y (.lst (ys++[x]))) st (tr++[y]):=by
 have t:∀o,r9 H (upd H Y o):=fun o=>n9 hy
 obtain⟨zs,z1,z2⟩:=h.ty
 rw[hy]at z1;cases z1
 refine⟨h.smU (by rw[h.r5];simp) _,h.nw,ur h.sn h.r1 h.r5 (by simp),ur h.lo h.r2 h.r5 (by simp),ur h.la h.r3 h.r5 (by simp),?_,⟨_,b0,Paired.snoc (Paired.mapP z2 fun _ _ z=>z.upd h.r5 (by simp) (t _)) (hx.upd h.r5 (by simp) (t _))⟩,fun e he=>?_,h.r1,h.r2,h.r3,h.r4,h.r5,fun b e=>h.cl b (n6 e)⟩
 ·obtain⟨xs,a,b⟩:=h.rc
  exact⟨xs,ur a h.r4 h.r5 (by simp),Paired.mapP b fun _ _ z=>z.updR h.r5 (by simp) (t _)⟩
 ·have E:=h.dl e he
  exact⟨ur E.lk E.r2 h.r5 (by simp),ur E.as E.r3 h.r5 (by simp),E.bg,E.r2,E.r3⟩
theorem WA.addR(h:WA S L M R Y W H0 H st tr){r:Rec}{x:V}{xs:List V}(hR:H R=some (.lst xs))(hx:RcAt W.rl H r x):WA S L M R Y W H0 (upd H R (.lst (xs++[x]))) { st with recs:=st.recs++[r] } tr:=by
 have t:∀o,r9 H (upd H R o):=fun o=>n9 hR
 obtain⟨zs,z1,z2⟩:=h.rc
 rw[hR]at z1;cases z1
 refine⟨h.smU (by rw[h.r4];simp) _,h.nw,ur h.sn h.r1 h.r4 (by simp),ur h.lo h.r2 h.r4 (by simp),ur h.la h.r3 h.r4 (by simp),⟨_,b0,Paired.snoc (Paired.mapP z2 fun _ _ z=>z.updR h.r4 (by simp) (t _)) (hx.updR h.r4 (by simp) (t _))⟩,?_,fun e he=>?_,h.r1,h.r2,h.r3,h.r4,h.r5,fun b e=>h.cl b (n6 e)⟩
 ·obtain⟨xs,a,b⟩:=h.ty
  exact⟨xs,ur a h.r5 h.r4 (by simp),Paired.mapP b fun _ _ z=>z.upd h.r4 (by simp) (t _)⟩
 ·have E:=h.dl e he
  exact⟨ur E.lk E.r2 h.r4 (by simp),ur E.as E.r3 h.r4 (by simp),E.bg,E.r2,E.r3⟩
def a9m(W:WG)(n b:Int)(l1 l2:Addr):WG:=⟨fun x=>if x=l1 then .look n else if x=l2 then .side n else W.rl x,fun m=>if m=n then l1 else W.lk m,fun m=>if m=n then l2 else W.as m,fun m=>if m=n then b else W.bg m⟩
theorem a6m{ks:List Int}{f g:Int→V}(h:∀k∈ks,f k=g k):l7 ks f=l7 ks g:=List.map_congr_left fun k hk=>by rw[h k hk]
theorem WA.begin(h:WA S L M R Y W H0 H st tr)(ok:C2 st){l1 l2:Addr}{H1:Hp}(n1:H l1=none)(n2:H l2=none)(n12:l1≠l2)(g1:H1 l1=some (.lst []))(g2:H1 l2=some (.lst []))
  (bt:∀b o,b≠S→b≠L→b≠M→H b=some o→H1 b=some o) (tk:r9 H H1)
  (hs:H1 S=some (.dK (putK (l7 (una st) fun n=>.int (W.bg n)) (Sum.inl (st.begun:Int)) (.int (st.recs.length:Int)))))
  (hl:H1 L=some (.dK (putK (l7 (nat st.begun) fun n=>.ref (W.lk n)) (Sum.inl (st.begun:Int)) (.ref l1))))
  (hm:H1 M=some (.dK (putK (l7 (nat st.begun) fun n=>.ref (W.as n)) (Sum.inl (st.begun:Int)) (.ref l2)))) :
  WA S L M R Y (a9m W (st.begun:Int) (st.recs.length:Int) l1 l2) H0 H1 (a7f st) tr:=by
 have new:∀d∈st.under,d.num≠(st.begun:Int):=ok.new
 have nin:(st.begun:Int)∉una st:=fun z=>by obtain⟨d,hd,e⟩:=qQ3.mp z;exact new d hd e
 have nin2:(st.begun:Int)∉nat st.begun:=fun z=>by have:=(a8o.mp z).2;omega
 have f1:=h.cl l1 n1
 have f2:=h.cl l2 n2
 have kp:∀b ρ,W.rl b=ρ→ρ≠.free→(a9m W (st.begun:Int) (st.recs.length:Int) l1 l2).rl b=ρ:=fun b ρ e n=>by
  show(if b=l1 then _ else if b=l2 then _ else _)=_
  rw[if_neg fun z=>n (by rw[←e,z,f1]),if_neg fun z=>n (by rw[←e,z,f2])];exact e
 have off:∀b o ρ,H b=some o→W.rl b=ρ→ρ≠.under→ρ≠.vers→ρ≠.tally→H1 b=some o:=fun b o ρ e r a1 a2 a3=>bt b o (fun z=>a1 (by rw[←r,z,h.r1])) (fun z=>a2 (by rw[←r,z,h.r2])) (fun z=>a3 (by rw[←r,z,h.r3])) e
 have rcK:∀{r:Rec} {x:V},RcAt W.rl H r x→RcAt (a9m W (st.begun:Int) (st.recs.length:Int) l1 l2).rl H1 r x:=fun {r x} ⟨b,la,pa,e,a1,a2,a3,a4,a5⟩=>
  ⟨b,la,pa,e,tk.1 _ _ a1,off _ _ _ a2 a4 (by simp) (by simp) (by simp),off _ _ _ a3 a5 (by simp) (by simp) (by simp),kp _ _ a4 (by simp),kp _ _ a5 (by simp)⟩
 have h0:∀b,H b=none→H0 b=none:=fun b e=>j5 h.sm e
 refine⟨fun b o e=>?_,fun b hb=>?_,?_,?_,?_,?_,?_,fun d hd=>?_,kp _ _ h.r1 (by simp),kp _ _ h.r2 (by simp),kp _ _ h.r3 (by simp),kp _ _ h.r4 (by simp),kp _ _ h.r5 (by simp),fun b e=>?_⟩
 ·have nn:∀c ρ,W.rl c=ρ→ρ≠.free→b≠c:=fun c ρ r n z=>by rw[z,h.nw c (by rw[r];exact n)] at e;cases e
  exact bt b o (nn S _ h.r1 (by simp)) (nn L _ h.r2 (by simp)) (nn M _ h.r3 (by simp)) (h.sm _ _ e)
 ·by_cases c1:b=l1
  ·rw[c1];exact h0 _ n1
  by_cases c2:b=l2
  ·rw[c2];exact h0 _ n2
  refine h.nw b fun z=>hb ?_
  show(if b=l1 then _ else if b=l2 then _ else _)=_
  rw[if_neg c1,if_neg c2];exact z
 ·rw[hs,L6,if_neg nin]
  show some (HO.dK (l7 _ _))=some (HO.dK (l7 ((st.under++([⟨(st.begun:Int),(st.recs.length:Int),[],[]⟩]:List Dl)).map (·.num)) _))
  rw[qQ6]
  congr 2
  refine a6m fun k _=>?_
  show(if k=_ then _ else _)=V.int (if k=_ then _ else _)
  split<;>rfl
 ·rw[hl,L6,if_neg nin2]
  show some (HO.dK (l7 _ _))=some (HO.dK (l7 (nat (st.begun+1)) _))
  rw[a8s]
  congr 2
  refine a6m fun k _=>?_
  show(if k=_ then _ else _)=V.ref (if k=_ then _ else _)
  split<;>rfl
 ·rw[hm,L6,if_neg nin2]
  show some (HO.dK (l7 _ _))=some (HO.dK (l7 (nat (st.begun+1)) _))
  rw[a8s]
  congr 2
  refine a6m fun k _=>?_
  show(if k=_ then _ else _)=V.ref (if k=_ then _ else _)
  split<;>rfl
 ·obtain⟨xs,a,b⟩:=h.rc
  exact⟨xs,off _ _ _ a h.r4 (by simp) (by simp) (by simp),Paired.mapP b fun _ _ z=>rcK z⟩
 ·obtain⟨xs,a,b⟩:=h.ty
  refine⟨xs,off _ _ _ a h.r5 (by simp) (by simp) (by simp),Paired.mapP b fun _ _ ⟨b,lb,v,zs,e,z1,z2,z3,z4,z5⟩=>⟨b,lb,v,zs,e,tk.1 _ _ z1,rcK z2,off _ _ _ z3 z4 (by simp) (by simp) (by simp),kp _ _ z4 (by simp),Paired.mapP z5 fun _ _ z=>rcK z⟩⟩
 ·rcases qQ5.mp hd with hd | hd
  ·have D:=h.dl d hd
   have nn:=new d hd
   have e1:(a9m W (st.begun:Int) (st.recs.length:Int) l1 l2).lk d.num=W.lk d.num:=if_neg nn
   have e2:(a9m W (st.begun:Int) (st.recs.length:Int) l1 l2).as d.num=W.as d.num:=if_neg nn
   have e3:(a9m W (st.begun:Int) (st.recs.length:Int) l1 l2).bg d.num=W.bg d.num:=if_neg nn
   exact⟨by rw[e1];exact off _ _ _ D.lk D.r2 (by simp) (by simp) (by simp),by rw[e2];exact off _ _ _ D.as D.r3 (by simp) (by simp) (by simp),by rw[e3];exact D.bg,by rw[e1];exact kp _ _ D.r2 (by simp),by rw[e2];exact kp _ _ D.r3 (by simp)⟩
  ·rw[qQ2.mp hd]
   have e1:(a9m W (st.begun:Int) (st.recs.length:Int) l1 l2).lk (st.begun:Int)=l1:=if_pos rfl
   have e2:(a9m W (st.begun:Int) (st.recs.length:Int) l1 l2).as (st.begun:Int)=l2:=if_pos rfl
   refine⟨by show H1 (WG.lk _ _)=_;rw[e1];exact g1,by show H1 (WG.as _ _)=_;rw[e2];exact g2,if_pos rfl,by show WG.rl _ (WG.lk _ _)=_;rw[e1];exact if_pos rfl,?_⟩
   show WG.rl _ (WG.as _ _)=_
   rw[e2]
   show(if l2=l1 then _ else if l2=l2 then _ else _)=_
   rw[if_neg (Ne.symm n12),if_pos rfl]
 ·have hb:H b=none:=by
   cases z:H b with
   | none=>rfl
   | some o=>
    by_cases c1:b=S
    ·rw[c1,hs]at e;cases e
    by_cases c2:b=L
    ·rw[c2,hl]at e;cases e
    by_cases c3:b=M
    ·rw[c3,hm]at e;cases e
    rw[bt b o c1 c2 c3 z]at e;cases e
  show(if b=l1 then _ else if b=l2 then _ else _)=_
  rw[if_neg (fun z=>by rw[z,g1]at e;cases e),if_neg (fun z=>by rw[z,g2]at e;cases e)]
  exact h.cl b hb
end
def both(ks ms:List Str):List Str:=ks.filter fun g=>decide (g∈ms)
theorem a0v(ks ms:List Str):(both ks ms).length≤ks.length:=List.length_filter_le _ _
theorem R7(ks ms:List Str)(g:Str):both (ks++[g]) ms=if g∈ms then both ks ms++[g] else both ks ms:=by
 unfold both
 rw[List.filter_append]
 by_cases c:g∈ms
 ·rw[if_pos c];simp[c]
 ·rw[if_neg c];simp[c]
theorem Z7(g:Str)(ks:List Str):inV (.str g) (ks.map V.str)=decide (g∈ks):=by
 unfold inV
 induction ks with
 | nil=>rfl
 | cons k ks ih=>
  rw[List.map_cons,List.any_cons,ih]
  have e:eqV (.str k) (.str g)=decide (k=g):=by
   show(k==g)=_
   by_cases z:k=g
   ·subst z;simp
   ·rw[decide_eq_false z];simpa using z
  rw[e]
  by_cases z:k=g
  ·subst z;simp
  ·have z':¬g=k:=fun w=>z w.symm
   simp[z,z']
theorem R8(ks:List Str):(ks.map V.str).all V4=true:=by
 induction ks with
 | nil=>rfl
 | cons k ks ih=>rw[List.map_cons,List.all_cons,ih];rfl
theorem a6c{K:PySem.W.Frag}{H:Hp}:∀ks:List Str,p5 K H (ks.map PyData.str) (ks.map V.str)
 | []=>rfl
 | _::ks=>⟨_,_,rfl,rfl,a6c ks⟩
theorem U4:∀{ks:List Str},(∀g∈ks,O2 g)→PyData.canLayAll0 (ks.map PyData.str)=true
 | [],_=>by rw[List.map_nil,PyData.canLayAll0]
 | k::ks,h=>by rw[List.map_cons,PyData.canLayAll0,U4 fun g hg=>h g (List.mem_cons_of_mem _ hg),PyData.canLay0,(h k List.mem_cons_self).1];rfl
theorem P2:∀ks:List Str,PyData.depthAll (ks.map PyData.str)≤1
 | []=>by simp[PyData.depthAll]
 | k::ks=>by
  rw[List.map_cons,PyData.depthAll]
  have:=P2 ks
  have:(PyData.str k).depth≤1:=by simp[PyData.depth]
  omega
theorem a9r(ks:List Str):(if true=true then !PyData.eqv (.list (ks.map PyData.str)) (.list []) else PyData.eqv (.list (ks.map PyData.str)) (.list []))=!ks.isEmpty:=by
 rw[if_pos rfl]
 cases ks<;>simp[PyData.eqv,PyData.eqvAll]
def a7u(o r:Rec):Bool:=decide (o.fin<r.fin)&&!(both o.put r.put).isEmpty
def a5r(o r:Rec):Bool:=decide (o.fin≤r.beg)&&!(both o.put r.looked).isEmpty
def a4L(o r:Rec):Bool:=decide (o.beg<r.fin)&&!(both o.looked r.put).isEmpty
def lnk(o r:Rec):Bool:=a7u o r||(a5r o r||a4L o r)
theorem a4D{ks ms:List Str}:(!(both ks ms).isEmpty)=true↔∃g,g∈ks∧g∈ms:=by
 unfold both
 constructor
 ·intro h
  cases e:ks.filter fun g=>decide (g∈ms) with
  | nil=>rw[e]at h;cases h
  | cons g t=>
   have:g∈ks.filter fun g=>decide (g∈ms):=by rw[e];exact List.mem_cons_self
   obtain⟨a,b⟩:=qW0.mp this
   exact⟨g,a,by simpa using b⟩
 ·rintro⟨g,a,b⟩
  have:g∈ks.filter fun g=>decide (g∈ms):=qW0.mpr ⟨a,by simpa using b⟩
  cases e:ks.filter fun g=>decide (g∈ms) with
  | nil=>rw[e]at this;cases this
  | cons g t=>rfl
theorem a1V{o r:Rec}:lnk o r=true↔∃l,a0m o r l:=by
 unfold lnk a7u a5r a4L
 rw[Bool.or_eq_true,Bool.or_eq_true,Bool.and_eq_true,Bool.and_eq_true,Bool.and_eq_true,a4D,a4D,a4D,decide_eq_true_iff,decide_eq_true_iff,decide_eq_true_iff]
 constructor
 ·rintro(⟨a,g,b,c⟩ | ⟨a,g,b,c⟩ | ⟨a,g,b,c⟩)
  ·exact⟨(o.num,r.num,g,"over"),rfl,rfl,.inl ⟨rfl,a,b,c⟩⟩
  ·exact⟨(o.num,r.num,g,"saw"),rfl,rfl,.inr (.inl ⟨rfl,a,b,c⟩)⟩
  ·exact⟨(o.num,r.num,g,"missed"),rfl,rfl,.inr (.inr ⟨rfl,a,b,c⟩)⟩
 ·rintro⟨l,_,_,⟨_,a,b,c⟩ | ⟨_,a,b,c⟩ | ⟨_,a,b,c⟩⟩
  ·exact .inl ⟨a,_,b,c⟩
  ·exact .inr (.inl ⟨a,_,b,c⟩)
  ·exact .inr (.inr ⟨a,_,b,c⟩)
def a0J(r:Rec):Prop:=(∀g∈r.looked,O2 g)∧∀g∈r.put,O2 g
inductive a3w(K:PySem.W.Frag)(vs:List V)(H:Hp)(Q:VK):Prop
 | mk (o r:Rec) (x y:V) (x0:vs=[x,y]) (x1:RecAt K H o x) (x2:RecAt K H r y) (x3:a0J o) (x4:o.looked.length≤1000) (x5:o.put.length≤1000) (xq:∀H',g6 H H'→Q (.bl (lnk o r)) H')
def a3C(K:PySem.W.Frag):Sp:=fun vs H Q _=>a3w K vs H Q
set_option maxHeartbeats 0 in
theorem a1D(T:A1 K mg t):g8 P w K mg base x9 1 t.f__law_linked t.d__law_linked ["_law_one","_law_other"] (a3C K):=by
 refine T.F__law_linked.ok a2z (fun vs H Q E h=>?_) (fun cdv A outer s H vs Q E hr h=>?_)
 ·obtain⟨o,r,x,y,rfl,_⟩:=h
  rfl
 obtain⟨o,r,x,y,rfl,⟨p1,la,pa,rfl,hx,laS,paS⟩,⟨p2,lb,pb,rfl,hy,lbS,pbS⟩,gd,z1,z2,q⟩:=h
 refine⟨_,(b8 (L7 (k7 (PW.pt (Q2 (f7 Z0 (d8 h7 (pv 0) d5 (fun _ _=>rfl)) (d8 h7 (pv 1) d5 (fun _ _=>rfl)) (i5 _)) (N5 (f7 (a0l hr.units) (N6 rfl (t6 (d8 h7 (pv 0) d5 (fun _ _=>rfl))) (C5.mk (own:=["_law_good"]) (tl:=["_law_one","_law_other"]) rfl rfl rfl (fun _ _ _ _ _=>(m5 (i:=0) (R6) rfl (Or.inl rfl))) (fun _ _ _ _ _=>(U5 (f7 a5h (pv 0) (d8 N9 (pv 2) d5 (fun _ _=>rfl)) (by with_unfolding_all rfl)))) (fun _ _ _ _ _=>(pv 0)))) (m4 b6) (i5 _)))))
 (c9 (i3 y6))
 i9))
 (b8 (L7 (k7 (PW.pt (Q2 (f7 a0Y (d8 h7 (pv 0) d5 (fun _ _=>rfl)) (d8 h7 (pv 1) d5 (fun _ _=>rfl)) (i5 _)) (N5 (f7 (a0l hr.units) (N6 rfl (t6 (d8 h7 (pv 0) d5 (fun _ _=>rfl))) (C5.mk (own:=["_law_good"]) (tl:=["_law_one","_law_other"]) rfl rfl rfl (fun _ _ _ _ _=>(m5 (i:=0) (R6) rfl (Or.inl rfl))) (fun _ _ _ _ _=>(U5 (f7 a5h (pv 0) (d8 N9 (pv 2) d5 (fun _ _=>rfl)) (by with_unfolding_all rfl)))) (fun _ _ _ _ _=>(pv 0)))) (m4 b6) (i5 _)))))
 (c9 (i3 y6))
 i9))
 (c9 (i3 (W4 (P0 Z0 (d8 h7 (pv 0) d5 (fun _ _=>rfl)) (d8 h7 (pv 1) d5 (fun _ _=>rfl)) (i5 _)) (a2f (P0 (a0l hr.units) (N6 rfl (t6 (d8 h7 (pv 0) d5 (fun _ _=>rfl))) (C5.mk (own:=["_law_good"]) (tl:=["_law_one","_law_other"]) rfl rfl rfl (fun _ _ _ _ _=>(m5 (i:=0) (R6) rfl (Or.inl rfl))) (fun _ _ _ _ _=>(U5 (f7 a5h (pv 0) (d8 N9 (pv 2) d5 (fun _ _=>rfl)) (by with_unfolding_all rfl)))) (fun _ _ _ _ _=>(pv 0)))) (m4 b6) (i5 _)))))))),?_⟩
 have rf:=g6.refl H
 refine⟨fun σ' H'=>σ'=[some (.ref p1),some (.ref p2)]∧g6 H H'∧a7u o r=false,?_,fun σ' H' hM=>?_⟩
 ·refine⟨_,rfl,p1,_,2,_,rfl,rfl,hx,rfl,_,rfl,p2,_,2,_,rfl,rfl,hy,rfl,_,_,rfl,rfl,_,rfl,?_⟩
  by_cases c0:o.fin<r.fin
  ·rw[decide_eq_true c0]
   refine l5 ?_
   refine⟨_,rfl,p1,_,4,_,rfl,rfl,hx.same rf,rfl,pa,rfl,⟨_,paS.same rf⟩,fun acc hacc=>?_⟩
   refine B7 (xs:=(o.put).map V.str) (fun i Hc=>g6 H Hc∧Hc acc=some (.lst ((both ((o.put).take i) (r.put)).map V.str))) ⟨(rf).trans (b9 hacc),b0⟩ (fun i Hc _ z=>paS.same z.1) (fun i v Hc hv z=>?_) (fun Hc z=>?_)
   ·obtain⟨sc,a1⟩:=z
    rw[qQ8]at hv
    obtain⟨g,hg,rfl⟩:=Option.map_eq_some_iff.mp hv
    have li:=(qQ1.mp hg).1
    have tk:(o.put).take (i+1)=(o.put).take i++[g]:=by rw[List.take_add_one,hg];rfl
    have bl:=a0v ((o.put).take i) (r.put)
    rw[List.length_take]at bl
    refine⟨_,rfl,_,rfl,p2,_,4,_,rfl,rfl,hy.same sc,rfl,pb,_,rfl,.inl (pbS.same sc),rfl,R8 _,_,rfl,?_⟩
    rw[if_neg (by decide:¬false=true),Z7]
    by_cases c:g∈r.put
    ·rw[decide_eq_true c]
     refine l5 ⟨_,rfl,_,a1,m9 (by rw[qQ0];omega),?_,?_⟩
     ·exact j7 sc (j5 (rf) hacc)
     ·rw[b0,tk,R7,if_pos c,qQ6];rfl
    ·rw[decide_eq_false c]
     refine d9 ⟨sc,?_⟩
     rw[tk,R7,if_neg c];exact a1
   obtain⟨sc,a1⟩:=z
   rw[qQ0,List.take_length]at a1
   refine⟨(by show 0≤sizeLine;decide),fun e he=>?_⟩
   have se:=b9 (o:=.lst []) he
   have lay:∀g∈both (o.put) (r.put),O2 g:=fun g hg=>gd.2 g (qW0.mp hg).1
   refine⟨.list ((both (o.put) (r.put)).map PyData.str),.list [],by unfold Rep;exact⟨acc,_,rfl,d7.of (se _ _ a1),a6c _⟩,by unfold Rep;exact⟨e,[],rfl,d7.of b0,rfl⟩,by unfold PyData.canLay0;exact U4 lay,by simp[PyData.canLay0,PyData.canLayAll0],by have:=P2 (both (o.put) (r.put));unfold PyData.depth;omega,?_⟩
   have sf:=sc.trans se
   generalize upd Hc e (.lst [])=Hf at sf ⊢
   rw[a9r]
   refine⟨_,rfl,?_⟩
   cases cb:(both o.put r.put).isEmpty with
   | false=>
    have e1:a7u o r=true:=by unfold a7u;rw[decide_eq_true c0,cb];rfl
    have:=q Hf sf
    unfold lnk at this
    rw[e1]at this
    exact l5 this
   | true=>exact d9 ⟨rfl,sf,by unfold a7u;rw[cb,Bool.not_true,Bool.and_false]⟩
  ·rw[decide_eq_false c0]
   exact d9 ⟨rfl,rf,by unfold a7u;rw[decide_eq_false c0];rfl⟩
 obtain⟨rfl,s1,e1⟩:=hM
 refine⟨fun σ' H'=>σ'=[some (.ref p1),some (.ref p2)]∧g6 H H'∧a5r o r=false,?_,fun σ' H' hM=>?_⟩
 ·refine⟨_,rfl,p1,_,2,_,rfl,rfl,hx.same s1,rfl,_,rfl,p2,_,1,_,rfl,rfl,hy.same s1,rfl,_,_,rfl,rfl,_,rfl,?_⟩
  by_cases c0:o.fin≤r.beg
  ·rw[decide_eq_true c0]
   refine l5 ?_
   refine⟨_,rfl,p1,_,4,_,rfl,rfl,hx.same s1,rfl,pa,rfl,⟨_,paS.same s1⟩,fun acc hacc=>?_⟩
   refine B7 (xs:=(o.put).map V.str) (fun i Hc=>g6 H Hc∧Hc acc=some (.lst ((both ((o.put).take i) (r.looked)).map V.str))) ⟨(s1).trans (b9 hacc),b0⟩ (fun i Hc _ z=>paS.same z.1) (fun i v Hc hv z=>?_) (fun Hc z=>?_)
   ·obtain⟨sc,a1⟩:=z
    rw[qQ8]at hv
    obtain⟨g,hg,rfl⟩:=Option.map_eq_some_iff.mp hv
    have li:=(qQ1.mp hg).1
    have tk:(o.put).take (i+1)=(o.put).take i++[g]:=by rw[List.take_add_one,hg];rfl
    have bl:=a0v ((o.put).take i) (r.looked)
    rw[List.length_take]at bl
    refine⟨_,rfl,_,rfl,p2,_,3,_,rfl,rfl,hy.same sc,rfl,lb,_,rfl,.inl (lbS.same sc),rfl,R8 _,_,rfl,?_⟩
    rw[if_neg (by decide:¬false=true),Z7]
    by_cases c:g∈r.looked
    ·rw[decide_eq_true c]
     refine l5 ⟨_,rfl,_,a1,m9 (by rw[qQ0];omega),?_,?_⟩
     ·exact j7 sc (j5 (s1) hacc)
     ·rw[b0,tk,R7,if_pos c,qQ6];rfl
    ·rw[decide_eq_false c]
     refine d9 ⟨sc,?_⟩
     rw[tk,R7,if_neg c];exact a1
   obtain⟨sc,a1⟩:=z
   rw[qQ0,List.take_length]at a1
   refine⟨(by show 0≤sizeLine;decide),fun e he=>?_⟩
   have se:=b9 (o:=.lst []) he
   have lay:∀g∈both (o.put) (r.looked),O2 g:=fun g hg=>gd.2 g (qW0.mp hg).1
   refine⟨.list ((both (o.put) (r.looked)).map PyData.str),.list [],by unfold Rep;exact⟨acc,_,rfl,d7.of (se _ _ a1),a6c _⟩,by unfold Rep;exact⟨e,[],rfl,d7.of b0,rfl⟩,by unfold PyData.canLay0;exact U4 lay,by simp[PyData.canLay0,PyData.canLayAll0],by have:=P2 (both (o.put) (r.looked));unfold PyData.depth;omega,?_⟩
   have sf:=sc.trans se
   generalize upd Hc e (.lst [])=Hf at sf ⊢
   rw[a9r]
   refine⟨_,rfl,?_⟩
   cases cb:(both o.put r.looked).isEmpty with
   | false=>
    have e2:a5r o r=true:=by unfold a5r;rw[decide_eq_true c0,cb];rfl
    have:=q Hf sf
    unfold lnk at this
    rw[e1,e2]at this
    exact l5 this
   | true=>exact d9 ⟨rfl,sf,by unfold a5r;rw[cb,Bool.not_true,Bool.and_false]⟩
  ·rw[decide_eq_false c0]
   exact d9 ⟨rfl,s1,by unfold a5r;rw[decide_eq_false c0];rfl⟩
 obtain⟨rfl,s2,e2⟩:=hM
 have q:∀H',g6 H H'→Q (.bl (a4L o r)) H':=fun H' s=>by
  have:=q H' s
  unfold lnk at this
  rw[e1,e2]at this
  exact this
 refine⟨_,rfl,p1,_,1,_,rfl,rfl,hx.same s2,rfl,_,rfl,p2,_,2,_,rfl,rfl,hy.same s2,rfl,_,_,rfl,rfl,_,rfl,?_⟩
 by_cases c0:o.beg<r.fin
 ·rw[decide_eq_true c0]
  refine l5 ?_
  refine⟨_,rfl,p1,_,3,_,rfl,rfl,hx.same s2,rfl,la,rfl,⟨_,laS.same s2⟩,fun acc hacc=>?_⟩
  refine B7 (xs:=(o.looked).map V.str) (fun i Hc=>g6 H Hc∧Hc acc=some (.lst ((both ((o.looked).take i) (r.put)).map V.str))) ⟨(s2).trans (b9 hacc),b0⟩ (fun i Hc _ z=>laS.same z.1) (fun i v Hc hv z=>?_) (fun Hc z=>?_)
  ·obtain⟨sc,a1⟩:=z
   rw[qQ8]at hv
   obtain⟨g,hg,rfl⟩:=Option.map_eq_some_iff.mp hv
   have li:=(qQ1.mp hg).1
   have tk:(o.looked).take (i+1)=(o.looked).take i++[g]:=by rw[List.take_add_one,hg];rfl
   have bl:=a0v ((o.looked).take i) (r.put)
   rw[List.length_take]at bl
   refine⟨_,rfl,_,rfl,p2,_,4,_,rfl,rfl,hy.same sc,rfl,pb,_,rfl,.inl (pbS.same sc),rfl,R8 _,_,rfl,?_⟩
   rw[if_neg (by decide:¬false=true),Z7]
   by_cases c:g∈r.put
   ·rw[decide_eq_true c]
    refine l5 ⟨_,rfl,_,a1,m9 (by rw[qQ0];omega),?_,?_⟩
    ·exact j7 sc (j5 (s2) hacc)
    ·rw[b0,tk,R7,if_pos c,qQ6];rfl
   ·rw[decide_eq_false c]
    refine d9 ⟨sc,?_⟩
    rw[tk,R7,if_neg c];exact a1
  obtain⟨sc,a1⟩:=z
  rw[qQ0,List.take_length]at a1
  refine⟨(by show 0≤sizeLine;decide),fun e he=>?_⟩
  have se:=b9 (o:=.lst []) he
  have lay:∀g∈both (o.looked) (r.put),O2 g:=fun g hg=>gd.1 g (qW0.mp hg).1
  refine⟨.list ((both (o.looked) (r.put)).map PyData.str),.list [],by unfold Rep;exact⟨acc,_,rfl,d7.of (se _ _ a1),a6c _⟩,by unfold Rep;exact⟨e,[],rfl,d7.of b0,rfl⟩,by unfold PyData.canLay0;exact U4 lay,by simp[PyData.canLay0,PyData.canLayAll0],by have:=P2 (both (o.looked) (r.put));unfold PyData.depth;omega,?_⟩
  have sf:=sc.trans se
  generalize upd Hc e (.lst [])=Hf at sf ⊢
  rw[a9r]
  have:=q Hf sf
  unfold a4L at this
  rw[decide_eq_true c0]at this
  exact this
 ·rw[decide_eq_false c0]
  have:=q _ s2
  unfold a4L at this
  rw[decide_eq_false c0]at this
  exact d9 this
inductive Rch(rs:List Rec)(r:Rec):Rec→Prop
 | base:Rch rs r r
 | step {o p:Rec}:Rch rs r o→p∈rs++[r]→o.num≠p.num→lnk o p=true→p.num≠r.num→Rch rs r p
def a7I(rs:List Rec)(r:Rec):Prop:=∃o,Rch rs r o∧o.num≠r.num∧lnk o r=true
theorem b4v{o p:Rec}(h:rd o=rd p):o=p:=by
 unfold rd at h
 cases o;cases p
 simp only[PyData.tuple.injEq,List.cons.injEq,PyData.int.injEq,PyData.list.injEq,and_true]at h
 obtain⟨a,b,c,d,e⟩:=h
 have inj:∀{k m:List Str},k.map PyData.str=m.map PyData.str→k=m:=fun {k m} e=>List.map_inj_right (fun a b e=>PyData.str.inj e) |>.mp e
 rw[a,b,c,inj d,inj e]
theorem a0N:∀ks:List Str,z8 (ks.map PyData.str)=true
 | []=>by rw[List.map_nil,z8]
 | k::ks=>by rw[List.map_cons,z8,a0N ks];simp[u5]
theorem a1K(r:Rec):u5 (rd r)=true:=by unfold rd;simp[u5,z8,a0N]
theorem b4f{r:Rec}(h:a0J r):(rd r).canLay0=true:=by unfold rd;simp[PyData.canLay0,PyData.canLayAll0,U4 h.1,U4 h.2]
theorem a5U:∀{rs:List Rec},(∀r∈rs,a0J r)→PyData.canLayAll0 (rs.map rd)=true
 | [],_=>by rw[List.map_nil,PyData.canLayAll0]
 | r::rs,h=>by rw[List.map_cons,PyData.canLayAll0,a5U fun o ho=>h o (List.mem_cons_of_mem _ ho),b4f (h r List.mem_cons_self)];rfl
theorem b8o(r:Rec):(rd r).depth≤10:=by
 unfold rd
 simp only[PyData.depth,PyData.depthAll]
 have:=P2 r.looked
 have:=P2 r.put
 omega
theorem b1c(p:Rec)(seen:List Rec):((seen.map rd).any fun e=>PyData.eqv e (rd p))=true↔p∈seen:=by
 rw[List.any_map,List.any_eq_true]
 constructor
 ·rintro⟨o,ho,e⟩
  have:=b4v (b9a (rd o) (rd p) (a1K o) (a1K p) e)
  rw[←this];exact ho
 ·intro h
  exact⟨p,h,a6u (rd p) (a1K p)⟩
theorem a5e{all:List Rec}(nd:(all.map (·.num)).Nodup){o p:Rec}(ho:o∈all)(hp:p∈all)(e:o.num=p.num):o=p:=by
 obtain⟨i,hi⟩:=List.mem_iff_getElem?.mp ho
 obtain⟨j,hj⟩:=List.mem_iff_getElem?.mp hp
 have li:=(qQ1.mp hi).1
 have:i=j:=(List.getElem?_inj (l:=all.map (·.num)) (by rw[qQ0];exact li) nd).mp (by rw[qQ8,qQ8,hi,hj];simp[e])
 subst this
 rw[hi]at hj;exact qW1 hj
structure a8e(rs:List Rec)(r:Rec)(seen:List Rec):Prop where
 nd:(seen.map (·.num)).Nodup
 mem:∀o∈seen,o∈rs++[r]∧Rch rs r o
 me:r∈seen
def Cl(rs:List Rec)(r s:Rec)(ps seen:List Rec):Prop:=∀p∈ps,s.num≠p.num→lnk s p=true→p.num≠r.num∧p∈seen
theorem a8e.len{rs:List Rec}{r:Rec}{seen:List Rec}(h:a8e rs r seen):seen.length≤rs.length+1:=by
 have:=u7 (l:=seen.map (·.num)) (m:=(rs++[r]).map (·.num)) h.nd fun x hx=>by
  obtain⟨o,ho,e⟩:=qQ3.mp hx
  exact qQ3.mpr ⟨o,(h.mem o ho).1,e⟩
 simpa using this
inductive a6v(K:PySem.W.Frag)(vs:List V)(H:Hp)(Q:VK):Prop
 | mk (a:Addr) (x:V) (us:List V) (rs:List Rec) (r:Rec) (rl:Addr→Role) (x0:vs=[.ref a,x]) (x1:H a=some (.lst us)) (x2:Paired (RcAt rl H) rs us) (x3:RcAt rl H r x) (x4:((rs++[r]).map (·.num)).Nodup) (x5:(∀o∈rs++[r],a0J o∧o.looked.length≤63∧o.put.length≤63)) (x6:rs.length≤63) (x7:(∀H',g6 H H'→a7I rs r→Q (.bl true) H')) (xq:(∀H',g6 H H'→¬a7I rs r→Q (.bl false) H'))
def a2A(K:PySem.W.Frag):Sp:=fun vs H Q _=>a6v K vs H Q
set_option maxHeartbeats 0 in
theorem a7B(T:A1 K mg t):g8 P w K mg base x9 2 t.f__law_ringed t.d__law_ringed ["_law_records","_law_record"] (a2A K):=by
 refine T.F__law_ringed.ok M8 (fun vs H Q E h=>?_) (fun cdv A outer s H vs Q E hr h=>?_)
 ·obtain⟨a,x,us,rs,r,rl,rfl,_⟩:=h
  rfl
 obtain⟨a,x,us,rs,r,rl,rfl,ha,pu,hx,nd,gd,bn,qT,qF⟩:=h
 refine⟨_,(b8 (g7 (i:=2) M8.nd rfl (Or.inl rfl) (m4 (a6 (pv 1) b6)))
 (b8 (g7 (i:=3) M8.nd rfl (Or.inl rfl) d5)
 (b8 (a0h PassesOwn.never (f7 Z0 (pv 3) (f6 g9 rfl T.m_len PySem.boot_len (a6 (pv 2) b6)) (i5 _))
 (b8 (A9 PassesOwn.never rfl (t6 (j6 a3c (pv 0) (m4 (a6 (pv 1) b6)))) (m5 (i:=4) M8.nd rfl (Or.inl rfl))
 (c9 (k7 (PW.pt (Q2 (f7 N0 (d8 h7 (pv 4) d5 (fun _ _=>rfl)) (d8 h7 (d8 k8 (pv 2) (pv 3) (fun _ _=>rfl)) d5 (fun _ _=>rfl)) (i5 _)) (N5 (A5 (j9 (g8.mono (k:=1) (a1D T) (by decide)) hr rfl T.m__law_linked T.F__law_linked.kp T.F__law_linked.b .nil l4 (a6 (d8 k8 (pv 2) (pv 3) (fun _ _=>rfl)) (a6 (pv 4) b6)))))))
 (b8 (k7 (f7 z6 (d8 h7 (pv 4) d5 (fun _ _=>rfl)) (d8 h7 (pv 1) d5 (fun _ _=>rfl)) (i5 _))
 (c9 (i3 y6))
 i9)
 (c9 (k7 (f7 (b5d hr.units) (pv 4) (pv 2) (by with_unfolding_all rfl))
 (c9 (l6 (p8 PySem.F.plainAttrs_list PySem.F.slot_list_append PySem.F.type_list_append m7 (pv 2) (a6 (pv 4) b6))))
 i9)))
 i9)))
 (c9 (g7 (i:=3) M8.nd rfl (Or.inl rfl) (j6 G4 (pv 3) d5)))))
 (c9 (i3 y6))))),?_⟩
 have lu:=n5 pu
 have pall:Paired (RcAt rl H) (rs++[r]) (us++[x]):=Paired.snoc pu hx
 have lall:=n5 pall
 rw[qQ4,qQ4]at lall
 obtain⟨bx,lax,pax,ex,hbx,_⟩:=hx
 have hx:RcAt rl H r x:=⟨bx,lax,pax,ex,hbx,‹_›⟩
 refine⟨_,rfl,(by show 1≤sizeLine;decide),fun sl hsl=>?_⟩
 have s0:=b9 (o:=.lst [x]) hsl
 refine⟨fun m σ' Hc=>∃(sp:Nat) (o4:Option V) (seen:List Rec) (zs:List V),m+sp=rs.length+1∧sp≤seen.length∧σ'=[some (.ref a),some x,some (.ref sl),some (.int (sp:Int)),o4]∧g6 H Hc∧Hc sl=some (.lst zs)∧Paired (RcAt rl H) seen zs∧a8e rs r seen∧∀k,k<sp→∀o,seen[k]?=some o→Cl rs r o (rs++[r]) seen,⟨rs.length+1,0,none,[r],[x],rfl,Nat.zero_le _,rfl,s0,b0,.cons hx .nil,⟨by simp,fun o ho=>?_,by simp⟩,fun k hk=>absurd hk (Nat.not_lt_zero _)⟩,fun m σ' Hc hW=>?_⟩
 ·rw[qQ2.mp ho];exact⟨by simp,.base⟩
 obtain⟨sp,o4,seen,zs,hm,hsp,rfl,sc,hz,pz,sk,cl⟩:=hW
 have lz:=n5 pz
 have ls:=sk.len
 refine⟨_,rfl,_,rfl,sl,zs,rfl,.inl (d7.of hz),_,_,rfl,rfl,_,rfl,?_⟩
 by_cases c0:sp<seen.length
 ·rw[show decide ((sp:Int)<(zs.length:Int))=true from decide_eq_true (by omega)]
  refine G9 (fun _=>?_) (fun z=>absurd rfl z)
  obtain⟨sr,hsr⟩:∃sr,seen[sp]?=some sr:=⟨_,List.getElem?_eq_getElem c0⟩
  refine⟨fun σ' Hc=>∃(o4:Option V) (seen:List Rec) (zs:List V),sp+1≤seen.length∧σ'=[some (.ref a),some x,some (.ref sl),some (.int ((sp:Int)+1)),o4]∧g6 H Hc∧Hc sl=some (.lst zs)∧Paired (RcAt rl H) seen zs∧a8e rs r seen∧∀k,k<sp+1→∀o,seen[k]?=some o→Cl rs r o (rs++[r]) seen,fun σ' Hc hN=>?_,?_⟩
  ·obtain⟨o4,seen,zs,h1,h2,h3⟩:=hN
   exact⟨m-1,by omega,sp+1,o4,seen,zs,by omega,h1,h2,h3⟩
  refine⟨_,rfl,_,rfl,(by show 1≤sizeLine;decide),fun e1 he1=>?_⟩
  have s1:=b9 (o:=.lst [x]) he1
  refine⟨a,e1,us,[x],rfl,rfl,s1 _ _ (sc _ _ ha),b0,(by rw[lu,sizeLine_eq];simp;omega),fun c hc=>?_⟩
  have s2:=b9 (o:=.lst (us++[x])) hc
  have hc2:(upd (upd Hc e1 (.lst [x])) c (.lst (us++[x]))) c=some (.lst (us++[x])):=b0
  have sc2:=(sc.trans s1).trans s2
  have hz2:=s2 _ _ (s1 _ _ hz)
  generalize upd (upd Hc e1 (.lst [x])) c (.lst (us++[x]))=H2 at hc2 sc2 hz2 ⊢
  have ncs:c≠sl:=fun z=>by rw[z,s1 _ _ hz]at hc;cases hc
  refine⟨c,rfl,⟨_,d7.of hc2⟩,?_⟩
  refine G0 (xs:=us++[x]) (fun j σ' Hd=>∃(o4:Option V) (seen:List Rec) (zs:List V),σ'=[some (.ref a),some x,some (.ref sl),some (.int (sp:Int)),o4]∧g6 H Hd∧Hd c=some (.lst (us++[x]))∧Hd sl=some (.lst zs)∧Paired (RcAt rl H) seen zs∧a8e rs r seen∧seen[sp]?=some sr∧Cl rs r sr ((rs++[r]).take j) seen∧∀k,k<sp→∀o,seen[k]?=some o→Cl rs r o (rs++[r]) seen)
   ⟨o4,seen,zs,rfl,sc2,hc2,hz2,pz,sk,hsr,(fun p hp=>by rw[List.take_zero]at hp;cases hp),cl⟩ (fun j σ' Hd _ z=>?_) (fun j v σ' Hd hv z=>?_) (fun σ' Hd z=>?_)
  ·obtain⟨_,_,_,_,_,h1,_⟩:=z
   exact d7.of h1
  ·clear hz pz sk cl lz ls hsp c0 hsr hz2
   obtain⟨o4,seen,zs,rfl,sd,hcd,hz,pz,sk,hsr,clj,cl⟩:=z
   have lz:=n5 pz
   have ls:=sk.len
   obtain⟨p,hp,b,la,pa,rfl,hb,hla,hpa,f1,f2⟩:=v5 pall hv
   have hpm:=List.mem_of_getElem? hp
   have rp:RcAt rl H p (.ref b):=⟨b,la,pa,rfl,hb,hla,hpa,f1,f2⟩
   have lsp:=(qQ1.mp hsr).1
   have hzi:=List.getElem?_eq_getElem (show sp<zs.length by omega)
   obtain⟨s',hs',rs'⟩:=v5 pz hzi
   rw[hsr]at hs';cases hs'
   have az:D6 zs (sp:Int)=some zs[sp]:=i8 hzi
   generalize zs[sp]=zv at az rs' hzi
   obtain⟨bs,las,pas,rfl,hbs,h21,h22,h23,h24⟩:=rs'
   have rsr:RcAt rl H sr (.ref bs):=⟨bs,las,pas,rfl,hbs,h21,h22,h23,h24⟩
   have tk:(rs++[r]).take (j+1)=(rs++[r]).take j++[p]:=by rw[List.take_add_one,hp];rfl
   have srm:=(sk.mem sr (List.mem_of_getElem? hsr))
   have keep:∀(Hn:Hp),g6 Hd Hn→(sr.num≠p.num→lnk sr p=true→p.num≠r.num∧p∈seen)→∃(o4':Option V) (seen:List Rec) (zs:List V),[some (.ref a),some x,some (.ref sl),some (.int (sp:Int)),some (.ref b)]=[some (.ref a),some x,some (.ref sl),some (.int (sp:Int)),o4']∧g6 H Hn∧Hn c=some (.lst (us++[x]))∧Hn sl=some (.lst zs)∧Paired (RcAt rl H) seen zs∧a8e rs r seen∧seen[sp]?=some sr∧Cl rs r sr ((rs++[r]).take (j+1)) seen∧∀k,k<sp→∀o,seen[k]?=some o→Cl rs r o (rs++[r]) seen:=fun Hn sn hn=>
    ⟨_,seen,zs,rfl,sd.trans sn,sn _ _ hcd,sn _ _ hz,pz,sk,hsr,fun q hq=>by
     rw[tk]at hq
     rcases qQ5.mp hq with hq | hq
     ·exact clj q hq
     ·rw[qQ2.mp hq];exact hn,cl⟩
   refine⟨_,rfl,b,_,0,_,rfl,rfl,i4.of (sd _ _ hb),rfl,_,rfl,_,rfl,sl,_,_,_,rfl,rfl,d7.of hz,az,bs,_,0,_,rfl,rfl,i4.of (sd _ _ hbs),rfl,rfl,_,rfl,?_⟩
   by_cases c1:p.num=sr.num
   ·refine V5 (by rw[c1]) (d9 ?_)
    exact keep Hd (g6.refl Hd) fun z=>absurd c1.symm z
   rw[show(!decide (V.int p.num=V.int sr.num))=true by rw[decide_eq_false fun z=>c1 (V.int.inj z)];rfl]
   refine l5 ?_
   obtain⟨g1,g2,g3⟩:=gd sr srm.1
   refine⟨_,rfl,_,rfl,sl,_,_,_,rfl,rfl,d7.of hz,az,_,rfl,sr,p,_,_,rfl,(rsr.same sd).rec,(rp.same sd).rec,g1,by omega,by omega,fun H3 s3=>⟨_,rfl,?_⟩⟩
   cases cl0:lnk sr p with
   | false=>exact d9 (keep H3 s3 fun _ z=>by rw[cl0]at z;cases z)
   | true=>
    refine l5 ?_
    have sd3:=sd.trans s3
    subst ex
    refine⟨_,rfl,b,_,0,_,rfl,rfl,i4.of (sd3 _ _ hb),rfl,_,rfl,bx,_,0,_,rfl,rfl,i4.of (sd3 _ _ hbx),rfl,rfl,_,rfl,?_⟩
    by_cases c2:p.num=r.num
    ·rw[show decide (V.int p.num=V.int r.num)=true from decide_eq_true (by rw[c2])]
     refine l5 (qT _ sd3 ⟨sr,srm.2,fun z=>c1 (by rw[z,c2]),?_⟩)
     rw[←a5e nd hpm (by simp) c2];exact cl0
    rw[show decide (V.int p.num=V.int r.num)=false from decide_eq_false fun z=>c2 (V.int.inj z)]
    refine d9 ?_
    refine⟨_,rfl,_,rfl,rd p,sl,zs,seen.map rd,a4e.mpr (rp.same sd3).rec,rfl,.inl (d7.of (s3 _ _ hz)),a5t (Paired.mapP pz fun _ _ z=>z.same sd3),b4f (gd p hpm).1,a5U (fun o ho=>(gd o (sk.mem o ho).1).1),Nat.le_trans (b8o p) (by decide),_,rfl,?_⟩
    by_cases c3:p∈seen
    ·rw[if_pos rfl,(b1c p seen).mpr c3]
     exact d9 (keep H3 s3 fun _ _=>⟨c2,c3⟩)
    ·rw[if_pos rfl,show((seen.map rd).any fun e=>PyData.eqv e (rd p))=false from Bool.eq_false_iff.mpr fun z=>c3 ((b1c p seen).mp z)]
     refine l5 ?_
     have ncs':c≠sl:=ncs
     refine⟨_,rfl,.inl ⟨rfl,_,d7.of (s3 _ _ hz)⟩,_,rfl,sl,zs,_,rfl,rfl,s3 _ _ hz,m9 (by omega),?_⟩
     have up:∀o∈seen,o∈seen++[p]:=fun o ho=>List.mem_append_left _ ho
     refine⟨_,seen++[p],zs++[.ref b],rfl,j7 sd3 hsl,(b7 ncs).trans (s3 _ _ hcd),b0,Paired.snoc pz rp,⟨?_,fun o ho=>?_,up _ sk.me⟩,?_,fun q hq=>?_,fun k hk o ho=>?_⟩
     ·rw[qQ6,List.nodup_append]
      refine⟨sk.nd,by simp,fun x hx y hy e=>?_⟩
      have hy:y=p.num:=by simpa using hy
      obtain⟨o,ho,eo⟩:=qQ3.mp hx
      exact c3 (by rw[←a5e nd (sk.mem o ho).1 hpm (by rw[eo,e,hy])];exact ho)
     ·rcases qQ5.mp ho with ho | ho
      ·exact sk.mem o ho
      ·rw[qQ2.mp ho];exact⟨hpm,.step srm.2 hpm (fun z=>c1 z.symm) cl0 c2⟩
     ·rw[List.getElem?_append_left lsp];exact hsr
     ·rw[tk]at hq
      rcases qQ5.mp hq with hq | hq
      ·exact fun a1 a2=>let ⟨b1,b2⟩:=clj q hq a1 a2;⟨b1,up _ b2⟩
      ·rw[qQ2.mp hq];exact fun _ _=>⟨c2,by simp⟩
     ·rw[List.getElem?_append_left (by omega)]at ho
      exact fun q hq a1 a2=>let ⟨b1,b2⟩:=cl k hk o ho q hq a1 a2;⟨b1,up _ b2⟩
  ·clear hz pz sk cl lz ls hsp hsr hz2
   obtain⟨o4,seen,zs,rfl,sd,hcd,hz,pz,sk,hsr,clj,cl⟩:=z
   have lsp:=(qQ1.mp hsr).1
   rw[show(us++[x]).length=(rs++[r]).length by rw[qQ4,qQ4,lu];rfl,List.take_length] at clj
   refine⟨_,rfl,_,_,rfl,rfl,o4,seen,zs,lsp,rfl,sd,hz,pz,sk,fun k hk o ho=>?_⟩
   rcases Nat.lt_or_ge k sp with lt | ge
   ·exact cl k lt o ho
   ·have:k=sp:=by omega
    subst this
    rw[hsr]at ho;cases ho;exact clj
 ·rw[show decide ((sp:Int)<(zs.length:Int))=false from decide_eq_false (by omega)]
  refine d9 (qF _ sc fun⟨o,ro,no,lo⟩=>?_)
  have all:∀o,Rch rs r o→o∈seen:=fun o ro=>by
   induction ro with
   | base=>exact sk.me
   | @step o p h1 hp hn hl hr ih=>
    obtain⟨k,hk⟩:=List.mem_iff_getElem?.mp ih
    have lk:=(qQ1.mp hk).1
    exact(cl k (by omega) o hk p hp hn hl).2
  obtain⟨k,hk⟩:=List.mem_iff_getElem?.mp (all o ro)
  have lk:=(qQ1.mp hk).1
  exact(cl k (by omega) o hk r (by simp) no lo).1 rfl
def Z9:t7→Bool
 | .word s=>decide (s="ended")
 | _=>false
inductive a4A(K:PySem.W.Frag)(vs:List V)(H:Hp)(Q:VK):Prop
 | mk (rl:Addr→Role) (a:t7) (x:V) (x0:vs=[x]) (x1:C0 rl H a x) (xq:Q (.bl (Z9 a)) H)
def a7H(K:PySem.W.Frag):Sp:=fun vs H Q _=>a4A K vs H Q
theorem Q6(T:A1 K mg t):g8 P w K mg base x9 1 t.f__law_ended t.d__law_ended ["_law_found"] (a7H K):=by
 refine T.F__law_ended.ok a8G (fun vs H Q E h=>?_) (fun cdv A outer s H vs Q E hr h=>?_)
 ·obtain⟨rl,a,x,rfl,_⟩:=h
  rfl
 obtain⟨rl,a,x,rfl,ha,q⟩:=h
 refine⟨_,(c9 (i3 (W4 (f6 t8 rfl T.m_isinstance boot_isinstance (a6 (pv 0) (a6 (r8 (v:=.ty "str") rfl T.m_str boot_str rfl) b6))) (a2f (P0 z6 (pv 0) l8 (i5 _)))))),?_⟩
 cases a with
 | num i=>
  obtain rfl:=ha
  exact⟨_,rfl,_,"int","str",rfl,rfl,by decide,_,rfl,d9 q⟩
 | non=>
  obtain rfl:=ha
  exact⟨_,rfl,_,"NoneType","str",rfl,rfl,by decide,_,rfl,d9 q⟩
 | ring rg=>
  obtain⟨l,zs,rfl,hl,_⟩:=ha
  exact⟨_,rfl,_,"list","str",rfl,.inl ⟨rfl,_,d7.of hl⟩,by decide,_,rfl,d9 q⟩
 | word z=>
  obtain rfl:=ha
  refine⟨_,rfl,_,"str","str",rfl,rfl,by decide,_,rfl,l5 ⟨_,rfl,rfl,?_⟩⟩
  have e:decide (V.str z=V.str "ended")=Z9 (.word z):=by
   show _=decide (z="ended")
   by_cases c:z="ended"
   ·subst c;simp
   ·rw[decide_eq_false c,decide_eq_false fun w=>c (V.str.inj w)]
  rw[e];exact q
structure a7Y(f:Nat→j0)(ds:List i7)(as:List t7)(y:Try):Prop where
 ex:∃(d:Dl) (a:t7),ds[y.1]?=some (.fin d.num)∧as[y.1]?=some a∧d∈(f y.1).under∧Step (f y.1) (.fin d.num) a (f (y.1+1))∧M0 d (((f y.1).recs.length:Int)+1) y.2.1∧y.2.2=(f y.1).recs
structure Trace(f:Nat→j0)(ds:List i7)(as:List t7):Prop where
 zero:f 0=O1
 step:∀i d a,ds[i]?=some d→as[i]?=some a→Step (f i) d a (f (i+1))
 len:as.length=ds.length
 oks:∀i,i≤ds.length→C2 (f i)
 gds:∀i,i≤ds.length→Gd (f i)
 bds:∀i,i≤ds.length→Bd i (f i)
theorem b8n{m:Am}{g:Str}{a:Int}(h:p9 m g=some a):g∈m.map (·.1):=by
 unfold p9 at h
 obtain⟨p,hp,_⟩:=Option.map_eq_some_iff.mp h
 have:=List.find?_some hp
 exact qQ3.mpr ⟨p,List.mem_of_find?_eq_some hp,by simpa using this⟩
theorem a0M{m:Am}{g:Str}(h:p9 m g=none):g∉m.map (·.1):=fun z=>by
 unfold p9 at h
 obtain⟨p,hp,e⟩:=qQ3.mp z
 have:=List.find?_eq_none.mp (Option.map_eq_none_iff.mp h) p hp
 simp[e]at this
theorem a5W{st st':j0}{d:i7}{a:t7}(s:Step st d a st'):st'.begun≤st.begun+1:=by
 cases s<;>first | exact qQ7 _ | exact Nat.le_succ _
theorem a9t{f:Nat→j0}{ds:List i7}{as:List t7}(F:Trace f ds as):∀i,i≤ds.length→(f i).begun≤i
 | 0,_=>by rw[F.zero];exact qQ7 _
 | i+1,h=>by
  have hd:=List.getElem?_eq_getElem (l:=ds) (i:=i) (by omega)
  have ha:=List.getElem?_eq_getElem (l:=as) (i:=i) (by have:=F.len;omega)
  have:=a5W (F.step i _ _ hd ha)
  have:=a9t F i (by omega)
  omega
theorem Z4{d:Dl}{e:Int}{r o:Rec}(h:M0 d e r)(k:M0 d e o):r=o:=by
 obtain⟨n1,b1,f1,l1,p1,s1,t1⟩:=h
 obtain⟨n2,b2,f2,l2,p2,s2,t2⟩:=k
 have inj:∀{ks ms:List Str},ks.Perm ms→U2 ks→U2 ms→ks=ms:=fun {ks ms} p h k=>by
  unfold U2 at h k
  have:=a0e h k (p.map _)
  exact List.map_inj_right (fun a b e=>by
   have e:[(Sum.inr a.cps.toList:Atom)]=[Sum.inr b.cps.toList]:=e
   have e:=Sum.inr.inj (List.cons.inj e).1
   cases a;cases b
   exact congrArg Str.mk (Array.ext' e)) |>.mp this
 have e1:=inj (l1.trans l2.symm) s1 s2
 have e2:=inj (p1.trans p2.symm) t1 t2
 cases r;cases o
 simp only at n1 b1 f1 n2 b2 f2 e1 e2
 simp only[n1,b1,f1,n2,b2,f2,e1,e2]
theorem b1h{st st':j0}{d:i7}{a:t7}(s:Step st d a st'):(∃e∈st.under,d=.fin e.num∧((Z9 a=true∧∃r cs row,a8I st e r cs row∧st'=a2h st e r cs row)∨(Z9 a=false∧st'=u9 st e.num)))∨∀e∈st.under,d≠.fin e.num:=by
 cases s with
 | ended hd E=>exact .inl ⟨_,hd,rfl,.inl ⟨rfl,_,_,_,E,rfl⟩⟩
 | ring hd _=>exact .inl ⟨_,hd,rfl,.inr ⟨rfl,rfl⟩⟩
 | none h1 h2=>exact .inr fun e he z=>by subst z;cases h1;exact h2 (qQ3.mpr ⟨e,he,rfl⟩)
 | _=>exact .inr fun e he z=>nomatch z
inductive a2w(K:PySem.W.Frag)(vs:List V)(H:Hp)(Q:VK):Prop
 | mk (A Tl:Addr) (xs ys:List V) (ds:List i7) (as:List t7) (rl0:Addr→Role) (f:Nat→j0) (x0:vs=[.ref A,.ref Tl]) (x1:H A=some (.lst xs)) (x2:y0 H ds xs) (x3:H Tl=some (.lst ys)) (x4:Paired (C0 rl0 H) as ys) (x5:Trace f ds as) (x6:ds.length≤63) (xq:∀(p R Y:Addr) (us ws:List V) (tr:List Try) (rl:Addr→Role) (H':Hp),g6 H H'→H' p=some (.tup [.ref R,.ref Y])→H' R=some (.lst us)→Paired (RcAt rl H') (f ds.length).recs us→H' Y=some (.lst ws)→Paired (P6 rl H') tr ws→(∀y∈tr,a7Y f ds as y)→Q (.ref p) H')
def a6C(K:PySem.W.Frag):Sp:=fun vs H Q _=>a2w K vs H Q
set_option maxHeartbeats 0 in
theorem a7C(T:A1 K mg t):g8 P w K mg base x9 2 t.f__law_walked t.d__law_walked ["_law_asked","_law_told"] (a6C K):=by
 refine T.F__law_walked.ok u3 (fun vs H Q E h=>?_) (fun cdv A outer s H vs Q E hr h=>?_)
 ·obtain⟨A,Tl,xs,ys,ds,as,rl0,f,rfl,_⟩:=h
  rfl
 obtain⟨A,Tl,xs,ys,ds,as,rl0,f,rfl,hA,hD,hT,pa,F,bn,q⟩:=h
 have hu:=K9 hr
 refine⟨_,(b8 (g7 (i:=2) u3.nd rfl (Or.inl rfl) C3)
 (b8 (g7 (i:=3) u3.nd rfl (Or.inl rfl) C3)
 (b8 (g7 (i:=4) u3.nd rfl (Or.inl rfl) C3)
 (b8 (g7 (i:=5) u3.nd rfl (Or.inl rfl) (m4 b6))
 (b8 (g7 (i:=6) u3.nd rfl (Or.inl rfl) (m4 b6))
 (b8 (A9 PassesOwn.never rfl (M9 rfl T.m_range (a6 (f6 g9 rfl T.m_len PySem.boot_len (a6 (pv 0) b6)) b6)) (m5 (i:=7) u3.nd rfl (Or.inl rfl))
 (b8 (g7 (i:=8) u3.nd rfl (Or.inl rfl) (d8 k8 (pv 0) (pv 7) (fun _ _=>rfl)))
 (c9 (k7 (f7 z6 (d8 h7 (pv 8) d5 (fun _ _=>rfl)) l8 (i5 _))
 (b8 (F6 hu (pv 3) (f6 a4l rfl T.m_len PySem.boot_len (a6 (pv 3) b6)) (m4 b6) rfl)
 (b8 (F6 hu (pv 2) (j6 O7 (f6 a4l rfl T.m_len PySem.boot_len (a6 (pv 3) b6)) d5) (f6 g9 rfl T.m_len PySem.boot_len (a6 (pv 5) b6)) rfl)
 (c9 (F6 hu (pv 4) (j6 O7 (f6 a4l rfl T.m_len PySem.boot_len (a6 (pv 3) b6)) d5) (m4 b6) rfl))))
 (c9 (k7 (PW.pt (Q2 (f7 N0 (d8 h7 (pv 8) d5 (fun _ _=>rfl)) l8 (i5 _)) (N5 (f7 (a8w hu) (d8 h7 (pv 8) d5 (fun _ _=>rfl)) (pv 2) (by with_unfolding_all rfl)))))
 (b8 (g7 (i:=9) u3.nd rfl (Or.inl rfl) (d8 h7 (pv 8) d5 (fun _ _=>rfl)))
 (b8 (L7 (k7 (PW.pt (Q2 (f7 z6 (d8 h7 (pv 8) d5 (fun _ _=>rfl)) l8 (i5 _)) (N5 (f7 a3a (d8 h7 (pv 8) d5 (fun _ _=>rfl)) (j6 a3c (u4 hu (pv 3) (pv 9) (fun _ _=>rfl)) (u4 hu (pv 4) (pv 9) (fun _ _=>rfl))) (by with_unfolding_all rfl)))))
 (c9 (l6 (p8 PySem.F.plainAttrs_list PySem.F.slot_list_append PySem.F.type_list_append m7 (u4 hu (pv 3) (pv 9) (fun _ _=>rfl)) (a6 (d8 h7 (pv 8) d5 (fun _ _=>rfl)) b6))))
 i9))
 (b8 (L7 (k7 (PW.pt (Q2 (f7 z6 (d8 h7 (pv 8) d5 (fun _ _=>rfl)) l8 (i5 _)) (N5 (f7 a3a (d8 h7 (pv 8) d5 (fun _ _=>rfl)) (u4 hu (pv 4) (pv 9) (fun _ _=>rfl)) (by with_unfolding_all rfl)))))
 (c9 (l6 (p8 PySem.F.plainAttrs_list PySem.F.slot_list_append PySem.F.type_list_append m7 (u4 hu (pv 4) (pv 9) (fun _ _=>rfl)) (a6 (d8 h7 (pv 8) d5 (fun _ _=>rfl)) b6))))
 i9))
 (b8 (L7 (k7 (f7 z6 (d8 h7 (pv 8) d5 (fun _ _=>rfl)) l8 (i5 _))
 (c9 (l6 (a2g (pv 2) (pv 9) ⟨rfl,rfl,rfl,rfl⟩)))
 i9))
 (c9 (k7 (f7 z6 (d8 h7 (pv 8) d5 (fun _ _=>rfl)) l8 (i5 _))
 (b8 (g7 (i:=10) u3.nd rfl (Or.inl rfl) (u6 (a6 (pv 9) (a6 (a2g (pv 2) (pv 9) ⟨rfl,rfl,rfl,rfl⟩) (a6 (j6 G4 (f6 g9 rfl T.m_len PySem.boot_len (a6 (pv 5) b6)) d5) b6)))))
 (b8 (g7 (i:=11) u3.nd rfl (Or.inl rfl) (j6 b9r (pv 10) (u6 (a6 (f6 a2e rfl T.m_sorted boot_sorted (a6 (u4 hu (pv 3) (pv 9) (fun _ _=>rfl)) b6)) (a6 (f6 a2e rfl T.m_sorted boot_sorted (a6 (u4 hu (pv 4) (pv 9) (fun _ _=>rfl)) b6)) b6)))))
 (b8 (l6 (p8 PySem.F.plainAttrs_list PySem.F.slot_list_append PySem.F.type_list_append m7 (pv 6) (a6 (u6 (a6 (pv 7) (a6 (pv 11) (a6 (D9 S3 rfl T.m_list boot_list (a6 (pv 5) b6)) b6)))) b6)))
 (c9 (k7 (A5 (j9 (g8.mono (k:=1) (Q6 T) (by decide)) hr rfl T.m__law_ended T.F__law_ended.kp T.F__law_ended.b .nil l4 (a6 (d8 k8 (pv 1) (pv 7) (fun _ _=>rfl)) b6)))
 (c9 (l6 (p8 PySem.F.plainAttrs_list PySem.F.slot_list_append PySem.F.type_list_append m7 (pv 5) (a6 (pv 11) b6))))
 i9)))))
 i9))))))
 i9))))))
 (c9 (i3 (u6 (a6 (pv 5) (a6 (pv 6) b6))))))))))),?_⟩
 refine fun S hS=>fun L hL=>fun M hM=>⟨(by show 0≤sizeLine;decide),fun R hR=>⟨(by show 0≤sizeLine;decide),fun Y hY=>?_⟩⟩
 have s1:=b9 (o:=.dK []) hS
 have s2:=b9 (o:=.dK []) hL
 have s3:=b9 (o:=.dK []) hM
 have s4:=b9 (o:=.lst []) hR
 have s5:=b9 (o:=.lst []) hY
 have W0:∃W,WA S L M R Y W H (upd (upd (upd (upd (upd H S (.dK [])) L (.dK [])) M (.dK [])) R (.lst [])) Y (.lst [])) O1 []:=by
  have g1:=s5 _ _ (s4 _ _ (s3 _ _ (s2 _ _ (b0 (H:=H) (a:=S) (o:=.dK [])))))
  have g2:=s5 _ _ (s4 _ _ (s3 _ _ (b0 (H:=upd H S (.dK [])) (a:=L) (o:=.dK []))))
  have g3:=s5 _ _ (s4 _ _ (b0 (H:=upd (upd H S (.dK [])) L (.dK [])) (a:=M) (o:=.dK [])))
  have g4:=s5 _ _ (b0 (H:=upd (upd (upd H S (.dK [])) L (.dK [])) M (.dK [])) (a:=R) (o:=.lst []))
  have g5:=b0 (H:=upd (upd (upd (upd H S (.dK [])) L (.dK [])) M (.dK [])) R (.lst [])) (a:=Y) (o:=.lst [])
  have a12:S≠L:=e7 b0 hL
  have a13:S≠M:=e7 (s2 _ _ b0) hM
  have a14:S≠R:=e7 (s3 _ _ (s2 _ _ b0)) hR
  have a15:S≠Y:=e7 (s4 _ _ (s3 _ _ (s2 _ _ b0))) hY
  have a23:L≠M:=e7 b0 hM
  have a24:L≠R:=e7 (s3 _ _ b0) hR
  have a25:L≠Y:=e7 (s4 _ _ (s3 _ _ b0)) hY
  have a34:M≠R:=e7 b0 hR
  have a35:M≠Y:=e7 (s4 _ _ b0) hY
  have a45:R≠Y:=e7 b0 hY
  have b2:=j5 s1 hL
  have b3:=j5 (s1.trans s2) hM
  have b4:=j5 ((s1.trans s2).trans s3) hR
  have b5:=j5 (((s1.trans s2).trans s3).trans s4) hY
  have sall:=(((s1.trans s2).trans s3).trans s4).trans s5
  generalize upd (upd (upd (upd (upd H S (.dK [])) L (.dK [])) M (.dK [])) R (.lst [])) Y (.lst [])=HZ at g1 g2 g3 g4 g5 sall ⊢
  refine⟨⟨fun b=>if b=S then .under else if b=L then .vers else if b=M then .tally else if b=R then .recs else if b=Y then .deal 0 else .free,fun _=>0,fun _=>0,fun _=>0⟩,⟨sall,fun b hb=>?_,g1,g2,g3,⟨[],g4,.nil⟩,⟨[],g5,.nil⟩,(fun d hd=>nomatch hd),if_pos rfl,?_,?_,?_,?_,fun b e=>?_⟩⟩
  ·by_cases c1:b=S
   ·rw[c1];exact hS
   by_cases c2:b=L
   ·rw[c2];exact b2
   by_cases c3:b=M
   ·rw[c3];exact b3
   by_cases c4:b=R
   ·rw[c4];exact b4
   by_cases c5:b=Y
   ·rw[c5];exact b5
   refine absurd ?_ hb
   show(if b=S then _ else if b=L then _ else if b=M then _ else if b=R then _ else if b=Y then _ else _)=_
   rw[if_neg c1,if_neg c2,if_neg c3,if_neg c4,if_neg c5]
  ·show(if L=S then _ else if L=L then _ else _)=_
   rw[if_neg (Ne.symm a12),if_pos rfl]
  ·show(if M=S then _ else if M=L then _ else if M=M then _ else _)=_
   rw[if_neg (Ne.symm a13),if_neg (Ne.symm a23),if_pos rfl]
  ·show(if R=S then _ else if R=L then _ else if R=M then _ else if R=R then _ else _)=_
   rw[if_neg (Ne.symm a14),if_neg (Ne.symm a24),if_neg (Ne.symm a34),if_pos rfl]
  ·show(if Y=S then _ else if Y=L then _ else if Y=M then _ else if Y=R then _ else if Y=Y then _ else _)=_
   rw[if_neg (Ne.symm a15),if_neg (Ne.symm a25),if_neg (Ne.symm a35),if_neg (Ne.symm a45),if_pos rfl]
  ·show(if b=S then _ else if b=L then _ else if b=M then _ else if b=R then _ else if b=Y then _ else _)=_
   rw[if_neg (fun z=>by rw[z,g1]at e;cases e),if_neg (fun z=>by rw[z,g2]at e;cases e),if_neg (fun z=>by rw[z,g3]at e;cases e),if_neg (fun z=>by rw[z,g4]at e;cases e),if_neg (fun z=>by rw[z,g5]at e;cases e)]
 obtain⟨W0,w0⟩:=W0
 generalize upd (upd (upd (upd (upd H S (.dK [])) L (.dK [])) M (.dK [])) R (.lst [])) Y (.lst [])=HZ at w0 ⊢
 have lx:=hD.len
 have ly:=n5 pa
 have la:=F.len
 refine⟨_,rfl,A,xs,rfl,.inl (d7.of (w0.sm _ _ hA)),_,rfl,by omega,by omega,?_⟩
 have en:(((xs.length:Nat):Int)).toNat=ds.length:=by omega
 rw[en]
 refine K5 (fun i σ' Hc=>∃(o7 o8 o9 oA oB:Option V) (W:WG) (tr:List Try),σ'=[some (.ref A),some (.ref Tl),some (.ref S),some (.ref L),some (.ref M),some (.ref R),some (.ref Y),o7,o8,o9,oA,oB]∧WA S L M R Y W H Hc (f i) tr∧tr.length≤i∧∀y∈tr,a7Y f ds as y) ⟨none,none,none,none,none,W0,[],rfl,by rw[F.zero];exact w0,qQ7 _,(fun y hy=>nomatch hy)⟩ (fun i σ' Hc hi z=>?_) (fun σ' Hc z=>?_)
 ·obtain⟨o7,o8,o9,oA,oB,W,tr,rfl,w,ltr,oktr⟩:=z
  have hxi:=List.getElem?_eq_getElem (show i<xs.length by omega)
  have hyi:=List.getElem?_eq_getElem (show i<ys.length by omega)
  obtain⟨d,hd,b,eb,hb⟩:=v5 hD hxi
  obtain⟨an,han,hy⟩:=v5 pa hyi
  have St:=F.step i d an hd han
  have ok:=F.oks i (by omega)
  have bd:=F.bds i (by omega)
  have e0:(0:Int)+(i:Int)=((i:Nat):Int):=by omega
  have ax:D6 xs ((0:Int)+(i:Int))=some (.ref b):=by rw[e0,←eb];exact i8 hxi
  generalize ys[i]=y at hyi hy
  have ay:D6 ys ((0:Int)+(i:Int))=some y:=by rw[e0];exact i8 hyi
  have nd:(una (f i)).Nodup:=(List.nodup_append.mp ok.un).2.1
  refine⟨_,rfl,_,rfl,A,_,_,_,rfl,rfl,d7.of (w.sm _ _ hA),ax,?_⟩
  have St0:=St
  have rS:=w.r1
  have hyc:=hy.same w.sm
  obtain⟨xr,hR,pR⟩:=w.rc
  obtain⟨yt,hY,pY⟩:=w.ty
  have lR:=n5 pR
  have lY:=n5 pY
  have brc:=bd.rc
  have bun:=bd.un
  have hT':=w.sm _ _ hT
  have inl:∀n∈una (f i),n∈nat (f i).begun:=fun n hn=>a8o.mpr (ok.lt n (List.mem_append_right _ hn))
  have dS:=fun(Hx:Hp) (hx:Hx S=some (.dK (l7 (una (f i)) fun n=>.int (W.bg n)))) (n:Int)=>t9.k (k:=Sum.inl n) hx
  have dL:∀(Hx:Hp),Hx L=some (.dK (l7 (nat (f i).begun) fun n=>.ref (W.lk n)))→∀n∈una (f i),t9 Hx L (.int n) (some (.ref (W.lk n))):=fun Hx hx n hn=>by
   have:=t9.k (k:=Sum.inl n) hx
   rw[p6,if_pos (inl n hn)]at this
   exact this
  have dM:∀(Hx:Hp),Hx M=some (.dK (l7 (nat (f i).begun) fun n=>.ref (W.as n)))→∀n∈una (f i),t9 Hx M (.int n) (some (.ref (W.as n))):=fun Hx hx n hn=>by
   have:=t9.k (k:=Sum.inl n) hx
   rw[p6,if_pos (inl n hn)]at this
   exact this
  generalize hz:f (i+1)=st1 at St ⊢
  rcases b1h St with ⟨d,hd2,rfl,fin⟩ | nofin
  ·have hin:d.num∈una (f i):=qQ3.mpr ⟨d,hd2,rfl⟩
   have Dl0:=w.dl d hd2
   have bl:=bd.dl d hd2
   have dg:=dS Hc w.sn d.num
   rw[p6,if_pos hin]at dg
   refine⟨_,rfl,b,_,0,_,rfl,rfl,i4.of (w.sm _ _ hb),rfl,rfl,_,rfl,d9 ?_⟩
   refine⟨_,rfl,b,_,0,_,rfl,rfl,i4.of (w.sm _ _ hb),rfl,rfl,_,rfl,l5 ?_⟩
   refine⟨_,rfl,b,_,1,_,rfl,rfl,i4.of (w.sm _ _ hb),rfl,_,rfl,S,_,rfl,dg,_,rfl,l5 ?_⟩
   refine⟨_,rfl,b,_,1,_,rfl,rfl,i4.of (w.sm _ _ hb),rfl,?_⟩
   refine F9 ⟨_,rfl,b,_,0,_,rfl,rfl,i4.of (w.sm _ _ hb),rfl,rfl,_,rfl,d9 (d9 ⟨rfl,rfl⟩)⟩ ?_
   refine F9 ⟨_,rfl,b,_,0,_,rfl,rfl,i4.of (w.sm _ _ hb),rfl,rfl,_,rfl,d9 (d9 ⟨rfl,rfl⟩)⟩ ?_
   refine F9 ⟨_,rfl,b,_,0,_,rfl,rfl,i4.of (w.sm _ _ hb),rfl,rfl,_,rfl,d9 ⟨rfl,rfl⟩⟩ ?_
   refine⟨_,rfl,b,_,0,_,rfl,rfl,i4.of (w.sm _ _ hb),rfl,rfl,_,rfl,l5 ?_⟩
   have Dl0:=w.dl d hd2
   obtain⟨zb1,zb2⟩:=(F.bds i (by omega)).dl d hd2
   obtain⟨xr,hR,pR⟩:=w.rc
   have lR:=n5 pR
   have w1:=w.drop d.num
   have k2:(upd Hc S (.dK (F7 (l7 (una (f i)) fun n=>.int (W.bg n)) (Sum.inl d.num)))) (W.lk d.num)=_:=ur Dl0.lk Dl0.r2 w.r1 (by simp)
   have k3:(upd Hc S (.dK (F7 (l7 (una (f i)) fun n=>.int (W.bg n)) (Sum.inl d.num)))) (W.as d.num)=_:=ur Dl0.as Dl0.r3 w.r1 (by simp)
   have hR1:(upd Hc S (.dK (F7 (l7 (una (f i)) fun n=>.int (W.bg n)) (Sum.inl d.num)))) R=_:=ur hR w.r4 w.r1 (by simp)
   refine⟨_,rfl,_,rfl,S,rfl,.inl ⟨_,.inl w.sn⟩,_,rfl,_,Sum.inl d.num,.int (W.bg d.num),w.sn,rfl,?_,_,rfl,R,_,rfl,.inl (d7.of hR1),_,_,rfl,rfl,(by show 3≤sizeLine;decide),fun p1 hp1=>?_⟩
   ·rw[p6,if_pos hin]
   have s2:=b9 (o:=.tup [.int d.num,.int (W.bg d.num),.int ((xr.length:Int)+1)]) hp1
   have hp2:(upd (upd Hc S (.dK (F7 (l7 (una (f i)) fun n=>.int (W.bg n)) (Sum.inl d.num)))) p1 (.tup [.int d.num,.int (W.bg d.num),.int ((xr.length:Int)+1)])) p1=_:=b0
   have w2:=w1.new s2
   have k2:=s2 _ _ k2
   have k3:=s2 _ _ k3
   generalize upd (upd Hc S (.dK (F7 (l7 (una (f i)) fun n=>.int (W.bg n)) (Sum.inl d.num)))) p1 (.tup [.int d.num,.int (W.bg d.num),.int ((xr.length:Int)+1)])=H2 at s2 hp2 w2 k2 k3 ⊢
   refine⟨_,rfl,_,rfl,_,rfl,L,_,rfl,dL _ w2.lo _ hin,W.lk d.num,_,rfl,d7.of k2,⟨by simp only[qQ0];omega,fun v hv=>by obtain⟨z,_,rfl⟩:=qQ3.mp hv;exact⟨z,rfl⟩⟩,fun la ys' hla pm1 io1=>?_⟩
   obtain⟨ys1,rfl,py⟩:=J3 pm1
   have s3:=b9 (o:=.lst (ys1.map V.str)) hla
   have w3:=w2.new s3
   refine⟨_,rfl,_,rfl,M,_,rfl,dM _ w3.la _ hin,W.as d.num,_,rfl,d7.of (s3 _ _ k3),⟨by simp only[qQ0];omega,fun v hv=>by obtain⟨z,_,rfl⟩:=qQ3.mp hv;exact⟨z,rfl⟩⟩,fun pp zs' hpp pm2 io2=>?_⟩
   obtain⟨zs1,rfl,pz⟩:=J3 pm2
   have s4:=b9 (o:=.lst (zs1.map V.str)) hpp
   have w4:=w3.new s4
   unfold N8 at io1 io2
   rw[List.map_map]at io1 io2
   have hla4:=s4 _ _ (b0 (H:=H2) (a:=la) (o:=.lst (ys1.map V.str)))
   have hpp4:(upd (upd H2 la (.lst (ys1.map V.str))) pp (.lst (zs1.map V.str))) pp=_:=b0
   have hp4:=s4 _ _ (s3 _ _ hp2)
   have nla:=j5 w2.sm hla
   have npp:=j5 w3.sm hpp
   have fla:=w2.cl la hla
   have fpp:=w3.cl pp hpp
   generalize upd (upd H2 la (.lst (ys1.map V.str))) pp (.lst (zs1.map V.str))=H4 at w4 hla4 hpp4 hp4 s4 ⊢
   refine⟨(by show 2≤sizeLine;decide),fun p2 hp2'=>?_⟩
   have s5:=b9 (o:=.tup [.ref la,.ref pp]) hp2'
   refine⟨p1,p2,_,_,rfl,rfl,i4.of (s5 _ _ hp4),i4.of b0,by simp,(by show 5≤sizeLine;decide),(fun z=>by simp at z),fun _ p3 hp3=>?_⟩
   have s6:=b9 (o:=.tup ([.int d.num,.int (W.bg d.num),.int ((xr.length:Int)+1)]++[.ref la,.ref pp])) hp3
   have w6:=(w4.new s5).new s6
   have hp6:(upd (upd H4 p2 (.tup [.ref la,.ref pp])) p3 (.tup ([.int d.num,.int (W.bg d.num),.int ((xr.length:Int)+1)]++[.ref la,.ref pp]))) p3=_:=b0
   have hla6:=s6 _ _ (s5 _ _ hla4)
   have hpp6:=s6 _ _ (s5 _ _ hpp4)
   generalize upd (upd H4 p2 (.tup [.ref la,.ref pp])) p3 (.tup ([.int d.num,.int (W.bg d.num),.int ((xr.length:Int)+1)]++[.ref la,.ref pp]))=H6 at w6 hp6 hla6 hpp6 ⊢
   obtain⟨yt,hY,pY⟩:=w6.ty
   have lY:=n5 pY
   obtain⟨xr6,hR6,pR6⟩:=w6.rc
   have lR6:xr6.length=(f i).recs.length:=n5 pR6
   refine⟨_,rfl,.inl ⟨rfl,_,d7.of hY⟩,_,rfl,_,rfl,_,rfl,R,_,rfl,.inl (d7.of hR6),fun lb hlb=>?_⟩
   have s7:=b9 (o:=.lst xr6) hlb
   have nlb:=j5 w6.sm hlb
   have flb:=w6.cl lb hlb
   refine⟨(by show 3≤sizeLine;decide),fun p4 hp4'=>?_⟩
   have s8:=b9 (o:=.tup [.int (0+(i:Int)),.ref p3,.ref lb]) hp4'
   have s68:=s7.trans s8
   have w8:=w6.new s68
   have hlb8:=s8 _ _ (b0 (H:=H6) (a:=lb) (o:=.lst xr6))
   have hp8:(upd (upd H6 lb (.lst xr6)) p4 (.tup [.int (0+(i:Int)),.ref p3,.ref lb])) p4=_:=b0
   generalize upd (upd H6 lb (.lst xr6)) p4 (.tup [.int (0+(i:Int)),.ref p3,.ref lb])=H8 at w8 hlb8 hp8 s68 ⊢
   have w9:=w8.fz (as:=[la,pp,lb]) (fun v hv=>by
    simp only[qQ9,List.not_mem_nil,or_false]at hv
    rcases hv with rfl | rfl | rfl
    ·exact⟨fla,nla,_,s68 _ _ hla6⟩
    ·exact⟨fpp,npp,_,s68 _ _ hpp6⟩
    ·exact⟨flb,nlb,_,hlb8⟩)
   let r0:Rec:=⟨d.num,d.beg,((f i).recs.length:Int)+1,ys1,zs1⟩
   have isr:M0 d (((f i).recs.length:Int)+1) r0:=⟨rfl,rfl,rfl,py,pz,io1,io2⟩
   have rc9:RcAt (wfz W [la,pp,lb]).rl H8 r0 (.ref p3):=by
    refine⟨p3,la,pp,rfl,?_,s68 _ _ hla6,s68 _ _ hpp6,a4J (by simp),a4J (by simp)⟩
    rw[s68 _ _ hp6,lR,Dl0.bg];rfl
   obtain⟨xr9,hR9,pR9⟩:=w9.rc
   have eq9:xr9=xr6:=by rw[s68 _ _ hR6]at hR9;cases hR9;rfl
   subst eq9
   have ty9:P6 (wfz W [la,pp,lb]).rl H8 (i,r0,(f i).recs) (.ref p4):=⟨p4,lb,.ref p3,_,rfl,by rw[hp8,e0],rc9,hlb8,a4J (by simp),pR9⟩
   have hY9:=s68 _ _ hY
   refine⟨Y,yt,_,rfl,rfl,hY9,m9 (by omega),?_⟩
   have wA:=w9.addY hY9 ty9
   have tkA:r9 H8 (upd H8 Y (.lst (yt++[.ref p4]))):=n9 hY9
   have rcA:=rc9.updR (o:=.lst (yt++[.ref p4])) w9.r5 (by simp) tkA
   have okA:∀y∈tr++[(i,r0,(f i).recs)],a7Y f ds as y:=fun y hy=>by
    rcases qQ5.mp hy with hy | hy
    ·exact oktr y hy
    ·rw[qQ2.mp hy];exact⟨⟨d,_,hd,han,hd2,St0,isr,rfl⟩⟩
   have ltA:(tr++[(i,r0,(f i).recs)]).length≤i+1:=by rw[qQ4];simp;omega
   generalize upd H8 Y (.lst (yt++[.ref p4]))=HA at wA rcA ⊢
   have hyA:=hy.same wA.sm
   have RD:=fun(x:Hp) (sx:g6 H x)=>d7.of (K:=K) (sx _ _ hT)
   refine⟨_,rfl,_,rfl,Tl,_,_,_,rfl,rfl,RD _ wA.sm,ay,rl0,_,_,rfl,hyA,?_⟩
   rcases fin with ⟨ea,r,cs,row,E,rfl⟩ | ⟨ea,rfl⟩
   ·rw[ea]
    have er:r0=r:=Z4 isr E.rc
    obtain⟨xrA,hRA,pRA⟩:=wA.rc
    have lRA:xrA.length=(f i).recs.length:=n5 pRA
    refine⟨_,rfl,l5 ⟨_,rfl,.inl ⟨rfl,_,d7.of hRA⟩,_,rfl,R,_,_,rfl,rfl,hRA,m9 (by omega),?_⟩⟩
    exact⟨_,_,_,_,_,_,_,rfl,(wA.addR hRA rcA).cong rfl rfl (by show(f i).recs++[r]=(f i).recs++[r0];rw[er]),ltA,okA⟩
   ·rw[ea]
    exact⟨_,rfl,d9 ⟨_,_,_,_,_,_,_,rfl,wA,ltA,okA⟩⟩
  cases St with
  | begin=>
   refine⟨_,rfl,b,_,0,_,rfl,rfl,i4.of (w.sm _ _ hb),rfl,rfl,_,rfl,l5 ?_⟩
   have el:(l7 (nat (f i).begun) fun n=>V.ref (W.lk n)).length=(f i).begun:=by rw[K2,a8f]
   have bb:=a9t F i (by omega)
   refine⟨(by show 0≤sizeLine;decide),fun l1 hl1=>?_⟩
   have s1:=b9 (o:=.lst []) hl1
   have aSL:S≠L:=P4 (G:=gOf W.rl) w.r1 w.r2 (by simp)
   have aSM:S≠M:=P4 (G:=gOf W.rl) w.r1 w.r3 (by simp)
   have aLM:L≠M:=P4 (G:=gOf W.rl) w.r2 w.r3 (by simp)
   have aLR:R≠L:=P4 (G:=gOf W.rl) w.r4 w.r2 (by simp)
   have n1S:l1≠S:=fun z=>by rw[z,w.sn]at hl1;cases hl1
   have n1L:l1≠L:=fun z=>by rw[z,w.lo]at hl1;cases hl1
   have n1M:l1≠M:=fun z=>by rw[z,w.la]at hl1;cases hl1
   have lo1:=s1 _ _ w.lo
   refine⟨_,rfl,_,rfl,L,_,rfl,lo1,L,_,rfl,M5.k (k:=Sum.inl _) lo1 (m9 (by rw[el];omega)),?_⟩
   rw[el]
   have lo2:(upd (upd Hc l1 (.lst [])) L (.dK (putK (l7 (nat (f i).begun) fun n=>.ref (W.lk n)) (Sum.inl ((f i).begun:Int)) (.ref l1)))) L=some (.dK (putK (l7 (nat (f i).begun) fun n=>.ref (W.lk n)) (Sum.inl ((f i).begun:Int)) (.ref l1))):=b0
   have sn2:(upd (upd Hc l1 (.lst [])) L (.dK (putK (l7 (nat (f i).begun) fun n=>.ref (W.lk n)) (Sum.inl ((f i).begun:Int)) (.ref l1)))) S=_:=(b7 aSL).trans (s1 _ _ w.sn)
   have la2:(upd (upd Hc l1 (.lst [])) L (.dK (putK (l7 (nat (f i).begun) fun n=>.ref (W.lk n)) (Sum.inl ((f i).begun:Int)) (.ref l1)))) M=_:=(b7 (Ne.symm aLM)).trans (s1 _ _ w.la)
   have hR2:(upd (upd Hc l1 (.lst [])) L (.dK (putK (l7 (nat (f i).begun) fun n=>.ref (W.lk n)) (Sum.inl ((f i).begun:Int)) (.ref l1)))) R=_:=(b7 aLR).trans (s1 _ _ hR)
   have g1:(upd (upd Hc l1 (.lst [])) L (.dK (putK (l7 (nat (f i).begun) fun n=>.ref (W.lk n)) (Sum.inl ((f i).begun:Int)) (.ref l1)))) l1=some (.lst []):=(b7 n1L).trans b0
   have bt2:∀c o,c≠L→Hc c=some o→(upd (upd Hc l1 (.lst [])) L (.dK (putK (l7 (nat (f i).begun) fun n=>.ref (W.lk n)) (Sum.inl ((f i).begun:Int)) (.ref l1)))) c=some o:=fun c o nc e=>(b7 nc).trans (s1 _ _ e)
   have tk2:=s1.tupK.trans (M4 (o:=.dK (putK (l7 (nat (f i).begun) fun n=>.ref (W.lk n)) (Sum.inl ((f i).begun:Int)) (.ref l1))) lo1)
   have nn2:∀c,(upd (upd Hc l1 (.lst [])) L (.dK (putK (l7 (nat (f i).begun) fun n=>.ref (W.lk n)) (Sum.inl ((f i).begun:Int)) (.ref l1)))) c=none→Hc c=none:=fun c e=>n6 (n6 e)
   generalize upd (upd Hc l1 (.lst [])) L (.dK (putK (l7 (nat (f i).begun) fun n=>.ref (W.lk n)) (Sum.inl ((f i).begun:Int)) (.ref l1)))=H2 at lo2 sn2 la2 hR2 g1 bt2 tk2 nn2 ⊢
   have el2:(((putK (l7 (nat (f i).begun) fun n=>V.ref (W.lk n)) (Sum.inl ((f i).begun:Int)) (.ref l1)).length:Nat):Int)-1=((f i).begun:Int):=by
    rw[L6,if_neg (fun z=>by have:=(a8o.mp z).2;omega),K2,qQ4,a8f];simp
   have eR:(xr.length:Int)=((f i).recs.length:Int):=by rw[lR]
   refine⟨_,rfl,R,_,rfl,.inl (d7.of hR2),_,rfl,_,rfl,L,_,rfl,lo2,_,_,rfl,rfl,S,_,rfl,M5.k (k:=Sum.inl _) sn2 (m9 (by rw[K2];unfold una;rw[qQ0];omega)),?_⟩
   rw[el2,eR]
   have lo3:(upd H2 S (.dK (putK (l7 (una (f i)) fun n=>.int (W.bg n)) (Sum.inl ((f i).begun:Int)) (.int ((f i).recs.length:Int))))) L=_:=(b7 (Ne.symm aSL)).trans lo2
   have la3:(upd H2 S (.dK (putK (l7 (una (f i)) fun n=>.int (W.bg n)) (Sum.inl ((f i).begun:Int)) (.int ((f i).recs.length:Int))))) M=_:=(b7 (Ne.symm aSM)).trans la2
   have sn3:(upd H2 S (.dK (putK (l7 (una (f i)) fun n=>.int (W.bg n)) (Sum.inl ((f i).begun:Int)) (.int ((f i).recs.length:Int))))) S=_:=b0
   have g13:(upd H2 S (.dK (putK (l7 (una (f i)) fun n=>.int (W.bg n)) (Sum.inl ((f i).begun:Int)) (.int ((f i).recs.length:Int))))) l1=_:=(b7 n1S).trans g1
   have bt3:∀c o,c≠S→c≠L→Hc c=some o→(upd H2 S (.dK (putK (l7 (una (f i)) fun n=>.int (W.bg n)) (Sum.inl ((f i).begun:Int)) (.int ((f i).recs.length:Int))))) c=some o:=fun c o n1 n2 e=>(b7 n1).trans (bt2 c o n2 e)
   have tk3:=tk2.trans (M4 (o:=.dK (putK (l7 (una (f i)) fun n=>.int (W.bg n)) (Sum.inl ((f i).begun:Int)) (.int ((f i).recs.length:Int)))) sn2)
   have nn3:∀c,(upd H2 S (.dK (putK (l7 (una (f i)) fun n=>.int (W.bg n)) (Sum.inl ((f i).begun:Int)) (.int ((f i).recs.length:Int))))) c=none→Hc c=none:=fun c e=>nn2 c (n6 e)
   generalize upd H2 S (.dK (putK (l7 (una (f i)) fun n=>.int (W.bg n)) (Sum.inl ((f i).begun:Int)) (.int ((f i).recs.length:Int))))=H3 at lo3 la3 sn3 g13 bt3 tk3 nn3 ⊢
   refine⟨(by show 0≤sizeLine;decide),fun l2 hl2=>?_⟩
   have s4:=b9 (o:=.lst []) hl2
   have n12:l1≠l2:=e7 g13 hl2
   have n2S:S≠l2:=e7 sn3 hl2
   have n2L:L≠l2:=e7 lo3 hl2
   have n2M:M≠l2:=e7 la3 hl2
   refine⟨_,rfl,_,rfl,L,_,rfl,s4 _ _ lo3,_,_,rfl,rfl,M,_,rfl,M5.k (k:=Sum.inl _) (s4 _ _ la3) (m9 (by rw[K2,a8f];omega)),?_⟩
   rw[el2]
   refine⟨_,_,_,_,_,_,tr,rfl,w.begin ok (l1:=l1) (l2:=l2) hl1 (nn3 _ hl2) n12 ((b7 n1M).trans (s4 _ _ g13)) ((b7 (Ne.symm n2M)).trans b0) (fun c o c1 c2 c3 e=>(b7 c3).trans (s4 _ _ (bt3 c o c1 c2 e))) ((tk3.trans s4.tupK).trans (M4 (s4 _ _ la3))) ((b7 aSM).trans (s4 _ _ sn3)) ((b7 aLM).trans (s4 _ _ lo3)) b0,by omega,oktr⟩
  | @sweep m mb=>
   refine⟨_,rfl,b,_,0,_,rfl,rfl,i4.of (w.sm _ _ hb),rfl,rfl,_,rfl,d9 ?_⟩
   refine⟨_,rfl,b,_,0,_,rfl,rfl,i4.of (w.sm _ _ hb),rfl,rfl,_,rfl,d9 ?_⟩
   exact d9 ⟨_,_,_,_,_,W,tr,rfl,w.cong rfl rfl rfl,by omega,oktr⟩
  | @none _ n hno hn=>
   have hn:n∉una (f i):=hn
   cases d with
   | begin=>cases hno
   | sweep=>cases hno
   | look n g=>
    cases hno
    refine⟨_,rfl,b,_,0,_,rfl,rfl,i4.of (w.sm _ _ hb),rfl,rfl,_,rfl,d9 ?_⟩
    refine⟨_,rfl,b,_,0,_,rfl,rfl,i4.of (w.sm _ _ hb),rfl,rfl,_,rfl,l5 ?_⟩
    have dg:=dS Hc w.sn n
    rw[p6,if_neg hn]at dg
    exact⟨_,rfl,b,_,1,_,rfl,rfl,i4.of (w.sm _ _ hb),rfl,_,rfl,S,_,rfl,dg,_,rfl,d9 ⟨_,_,_,_,_,W,tr,rfl,w,by omega,oktr⟩⟩
   | put n g x=>
    cases hno
    refine⟨_,rfl,b,_,0,_,rfl,rfl,i4.of (w.sm _ _ hb),rfl,rfl,_,rfl,d9 ?_⟩
    refine⟨_,rfl,b,_,0,_,rfl,rfl,i4.of (w.sm _ _ hb),rfl,rfl,_,rfl,l5 ?_⟩
    have dg:=dS Hc w.sn n
    rw[p6,if_neg hn]at dg
    exact⟨_,rfl,b,_,1,_,rfl,rfl,i4.of (w.sm _ _ hb),rfl,_,rfl,S,_,rfl,dg,_,rfl,d9 ⟨_,_,_,_,_,W,tr,rfl,w,by omega,oktr⟩⟩
   | fin n=>
    cases hno
    refine⟨_,rfl,b,_,0,_,rfl,rfl,i4.of (w.sm _ _ hb),rfl,rfl,_,rfl,d9 ?_⟩
    refine⟨_,rfl,b,_,0,_,rfl,rfl,i4.of (w.sm _ _ hb),rfl,rfl,_,rfl,l5 ?_⟩
    have dg:=dS Hc w.sn n
    rw[p6,if_neg hn]at dg
    exact⟨_,rfl,b,_,1,_,rfl,rfl,i4.of (w.sm _ _ hb),rfl,_,rfl,S,_,rfl,dg,_,rfl,d9 ⟨_,_,_,_,_,W,tr,rfl,w,by omega,oktr⟩⟩
   | leave n=>
    cases hno
    refine⟨_,rfl,b,_,0,_,rfl,rfl,i4.of (w.sm _ _ hb),rfl,rfl,_,rfl,d9 ?_⟩
    refine⟨_,rfl,b,_,0,_,rfl,rfl,i4.of (w.sm _ _ hb),rfl,rfl,_,rfl,l5 ?_⟩
    have dg:=dS Hc w.sn n
    rw[p6,if_neg hn]at dg
    exact⟨_,rfl,b,_,1,_,rfl,rfl,i4.of (w.sm _ _ hb),rfl,_,rfl,S,_,rfl,dg,_,rfl,d9 ⟨_,_,_,_,_,W,tr,rfl,w,by omega,oktr⟩⟩
  | @own d g x hd2 hg=>
   have hin:d.num∈una (f i):=qQ3.mpr ⟨d,hd2,rfl⟩
   have Dl0:=w.dl d hd2
   have bl:=bd.dl d hd2
   have dg:=dS Hc w.sn d.num
   rw[p6,if_pos hin]at dg
   refine⟨_,rfl,b,_,0,_,rfl,rfl,i4.of (w.sm _ _ hb),rfl,rfl,_,rfl,d9 ?_⟩
   refine⟨_,rfl,b,_,0,_,rfl,rfl,i4.of (w.sm _ _ hb),rfl,rfl,_,rfl,l5 ?_⟩
   refine⟨_,rfl,b,_,1,_,rfl,rfl,i4.of (w.sm _ _ hb),rfl,_,rfl,S,_,rfl,dg,_,rfl,l5 ?_⟩
   refine⟨_,rfl,b,_,1,_,rfl,rfl,i4.of (w.sm _ _ hb),rfl,?_⟩
   refine⟨fun σ' H'=>σ'=[some (.ref A),some (.ref Tl),some (.ref S),some (.ref L),some (.ref M),some (.ref R),some (.ref Y),some (.int (0+(i:Int))),some (.ref b),some (.int d.num),oA,oB]∧WA S L M R Y W H H' (f i) tr,?_,fun σ' H' hM=>?_⟩
   ·refine⟨_,rfl,b,_,0,_,rfl,rfl,i4.of (w.sm _ _ hb),rfl,rfl,_,rfl,l5 ?_⟩
    refine⟨_,rfl,b,_,2,_,rfl,rfl,i4.of (w.sm _ _ hb),rfl,_,rfl,_,rfl,L,_,rfl,dL _ w.lo _ hin,_,rfl,_,rfl,M,_,rfl,dM _ w.la _ hin,W.lk d.num,W.as d.num,_,_,rfl,rfl,Dl0.lk,Dl0.as,(by rw[qQ0,qQ0,qQ0,sizeLine_eq];omega),fun c hc=>?_⟩
    rw[←qQ6]
    have s1:=b9 (o:=.lst ((d.looked++d.aside.map (·.1)).map V.str)) hc
    refine⟨c,_,rfl,.inl (d7.of b0),rfl,R8 _,_,rfl,?_⟩
    rw[if_pos rfl,Z7]
    rw[decide_eq_true (List.mem_append_right _ (b8n hg))]
    exact d9 ⟨rfl,w.new s1⟩
   obtain⟨rfl,w⟩:=hM
   refine F9 ⟨_,rfl,b,_,0,_,rfl,rfl,i4.of (w.sm _ _ hb),rfl,rfl,_,rfl,d9 (d9 ⟨rfl,rfl⟩)⟩ ?_
   refine F9 ⟨_,rfl,b,_,0,_,rfl,rfl,i4.of (w.sm _ _ hb),rfl,rfl,_,rfl,d9 ⟨rfl,rfl⟩⟩ ?_
   exact⟨_,rfl,b,_,0,_,rfl,rfl,i4.of (w.sm _ _ hb),rfl,rfl,_,rfl,d9 ⟨_,_,_,_,_,W,tr,rfl,w,by omega,oktr⟩⟩
  | @look d g hd2 hg=>
   have hin:d.num∈una (f i):=qQ3.mpr ⟨d,hd2,rfl⟩
   have Dl0:=w.dl d hd2
   have bl:=bd.dl d hd2
   have dg:=dS Hc w.sn d.num
   rw[p6,if_pos hin]at dg
   refine⟨_,rfl,b,_,0,_,rfl,rfl,i4.of (w.sm _ _ hb),rfl,rfl,_,rfl,d9 ?_⟩
   refine⟨_,rfl,b,_,0,_,rfl,rfl,i4.of (w.sm _ _ hb),rfl,rfl,_,rfl,l5 ?_⟩
   refine⟨_,rfl,b,_,1,_,rfl,rfl,i4.of (w.sm _ _ hb),rfl,_,rfl,S,_,rfl,dg,_,rfl,l5 ?_⟩
   refine⟨_,rfl,b,_,1,_,rfl,rfl,i4.of (w.sm _ _ hb),rfl,?_⟩
   refine⟨fun σ' H'=>σ'=[some (.ref A),some (.ref Tl),some (.ref S),some (.ref L),some (.ref M),some (.ref R),some (.ref Y),some (.int (0+(i:Int))),some (.ref b),some (.int d.num),oA,oB]∧WA S L M R Y W H H' (a1Y (f i) d.num g) tr,?_,fun σ' H' hM=>?_⟩
   ·refine⟨_,rfl,b,_,0,_,rfl,rfl,i4.of (w.sm _ _ hb),rfl,rfl,_,rfl,l5 ?_⟩
    refine⟨_,rfl,b,_,2,_,rfl,rfl,i4.of (w.sm _ _ hb),rfl,_,rfl,_,rfl,L,_,rfl,dL _ w.lo _ hin,_,rfl,_,rfl,M,_,rfl,dM _ w.la _ hin,W.lk d.num,W.as d.num,_,_,rfl,rfl,Dl0.lk,Dl0.as,(by rw[qQ0,qQ0,qQ0,sizeLine_eq];omega),fun c hc=>?_⟩
    rw[←qQ6]
    have s1:=b9 (o:=.lst ((d.looked++d.aside.map (·.1)).map V.str)) hc
    refine⟨c,_,rfl,.inl (d7.of b0),rfl,R8 _,_,rfl,?_⟩
    rw[if_pos rfl,Z7]
    have ng:=a0M hg
    have w1:=w.new s1
    by_cases c1:g∈d.looked
    ·rw[decide_eq_true (List.mem_append_left _ c1)]
     refine d9 ⟨rfl,w1.mod (fun _=>⟨rfl,rfl⟩) fun e he en=>⟨?_,rfl⟩⟩
     rw[L1 nd he hd2 en]
     show L8 d.looked g=_
     unfold L8;rw[if_pos c1]
    ·rw[decide_eq_false fun z=>(qQ5.mp z).elim c1 ng]
     have D1:=w1.dl d hd2
     refine l5 ⟨_,rfl,_,rfl,L,_,rfl,dL _ w1.lo _ hin,.inl ⟨rfl,_,d7.of D1.lk⟩,_,rfl,b,_,2,_,rfl,rfl,i4.of (w1.sm _ _ hb),rfl,W.lk d.num,_,_,rfl,rfl,D1.lk,m9 (by rw[qQ0];omega),rfl,w1.setLk nd hd2 c1⟩
   obtain⟨rfl,w⟩:=hM
   refine F9 ⟨_,rfl,b,_,0,_,rfl,rfl,i4.of (w.sm _ _ hb),rfl,rfl,_,rfl,d9 (d9 ⟨rfl,rfl⟩)⟩ ?_
   refine F9 ⟨_,rfl,b,_,0,_,rfl,rfl,i4.of (w.sm _ _ hb),rfl,rfl,_,rfl,d9 ⟨rfl,rfl⟩⟩ ?_
   exact⟨_,rfl,b,_,0,_,rfl,rfl,i4.of (w.sm _ _ hb),rfl,rfl,_,rfl,d9 ⟨_,_,_,_,_,W,tr,rfl,w,by omega,oktr⟩⟩
  | @put d g x hd2=>
   have hin:d.num∈una (f i):=qQ3.mpr ⟨d,hd2,rfl⟩
   have Dl0:=w.dl d hd2
   have bl:=bd.dl d hd2
   have dg:=dS Hc w.sn d.num
   rw[p6,if_pos hin]at dg
   refine⟨_,rfl,b,_,0,_,rfl,rfl,i4.of (w.sm _ _ hb),rfl,rfl,_,rfl,d9 ?_⟩
   refine⟨_,rfl,b,_,0,_,rfl,rfl,i4.of (w.sm _ _ hb),rfl,rfl,_,rfl,l5 ?_⟩
   refine⟨_,rfl,b,_,1,_,rfl,rfl,i4.of (w.sm _ _ hb),rfl,_,rfl,S,_,rfl,dg,_,rfl,l5 ?_⟩
   refine⟨_,rfl,b,_,1,_,rfl,rfl,i4.of (w.sm _ _ hb),rfl,?_⟩
   refine F9 ⟨_,rfl,b,_,0,_,rfl,rfl,i4.of (w.sm _ _ hb),rfl,rfl,_,rfl,d9 (d9 ⟨rfl,rfl⟩)⟩ ?_
   have Dl0:=w.dl d hd2
   refine⟨fun σ' H'=>σ'=[some (.ref A),some (.ref Tl),some (.ref S),some (.ref L),some (.ref M),some (.ref R),some (.ref Y),some (.int (0+(i:Int))),some (.ref b),some (.int d.num),oA,oB]∧WA S L M R Y W H H' (putSt (f i) d.num g x) tr,?_,fun σ' H' hM=>?_⟩
   ·refine⟨_,rfl,b,_,0,_,rfl,rfl,i4.of (w.sm _ _ hb),rfl,rfl,_,rfl,l5 ?_⟩
    refine⟨_,rfl,b,_,2,_,rfl,rfl,i4.of (w.sm _ _ hb),rfl,_,rfl,_,rfl,M,_,rfl,dM _ w.la _ hin,W.as d.num,_,rfl,.inl (d7.of Dl0.as),rfl,R8 _,_,rfl,?_⟩
    rw[if_pos rfl,Z7]
    by_cases c1:g∈d.aside.map (·.1)
    ·rw[decide_eq_true c1]
     refine d9 ⟨rfl,w.mod (fun _=>⟨rfl,rfl⟩) fun e he en=>⟨rfl,?_⟩⟩
     rw[L1 nd he hd2 en]
     show(C1 d.aside g x).map (·.1)=_
     rw[a6h,if_pos c1]
    ·rw[decide_eq_false c1]
     exact l5 ⟨_,rfl,_,rfl,M,_,rfl,dM _ w.la _ hin,.inl ⟨rfl,_,d7.of Dl0.as⟩,_,rfl,b,_,2,_,rfl,rfl,i4.of (w.sm _ _ hb),rfl,W.as d.num,_,_,rfl,rfl,Dl0.as,m9 (by rw[qQ0,qQ0];omega),rfl,w.setAs nd hd2 c1⟩
   obtain⟨rfl,w⟩:=hM
   refine F9 ⟨_,rfl,b,_,0,_,rfl,rfl,i4.of (w.sm _ _ hb),rfl,rfl,_,rfl,d9 ⟨rfl,rfl⟩⟩ ?_
   exact⟨_,rfl,b,_,0,_,rfl,rfl,i4.of (w.sm _ _ hb),rfl,rfl,_,rfl,d9 ⟨_,_,_,_,_,W,tr,rfl,w,by omega,oktr⟩⟩
  | @leave d hd2=>
   have hin:d.num∈una (f i):=qQ3.mpr ⟨d,hd2,rfl⟩
   have Dl0:=w.dl d hd2
   have bl:=bd.dl d hd2
   have dg:=dS Hc w.sn d.num
   rw[p6,if_pos hin]at dg
   refine⟨_,rfl,b,_,0,_,rfl,rfl,i4.of (w.sm _ _ hb),rfl,rfl,_,rfl,d9 ?_⟩
   refine⟨_,rfl,b,_,0,_,rfl,rfl,i4.of (w.sm _ _ hb),rfl,rfl,_,rfl,l5 ?_⟩
   refine⟨_,rfl,b,_,1,_,rfl,rfl,i4.of (w.sm _ _ hb),rfl,_,rfl,S,_,rfl,dg,_,rfl,l5 ?_⟩
   refine⟨_,rfl,b,_,1,_,rfl,rfl,i4.of (w.sm _ _ hb),rfl,?_⟩
   refine F9 ⟨_,rfl,b,_,0,_,rfl,rfl,i4.of (w.sm _ _ hb),rfl,rfl,_,rfl,d9 (d9 ⟨rfl,rfl⟩)⟩ ?_
   refine F9 ⟨_,rfl,b,_,0,_,rfl,rfl,i4.of (w.sm _ _ hb),rfl,rfl,_,rfl,d9 (d9 ⟨rfl,rfl⟩)⟩ ?_
   refine⟨fun σ' H'=>σ'=[some (.ref A),some (.ref Tl),some (.ref S),some (.ref L),some (.ref M),some (.ref R),some (.ref Y),some (.int (0+(i:Int))),some (.ref b),some (.int d.num),oA,oB]∧WA S L M R Y W H H' (u9 (f i) d.num) tr,?_,fun σ' H' hM=>?_⟩
   ·refine⟨_,rfl,b,_,0,_,rfl,rfl,i4.of (w.sm _ _ hb),rfl,rfl,_,rfl,l5 ?_⟩
    refine⟨_,rfl,S,rfl,.inl ⟨_,.inl w.sn⟩,_,rfl,_,Sum.inl d.num,.int (W.bg d.num),w.sn,rfl,?_,rfl,w.drop d.num⟩
    rw[p6,if_pos hin]
   obtain⟨rfl,w⟩:=hM
   exact⟨_,rfl,b,_,0,_,rfl,rfl,i4.of (w.sm _ _ hb),rfl,rfl,_,rfl,d9 ⟨_,_,_,_,_,W,tr,rfl,w,by omega,oktr⟩⟩
  | ended hd2 _=>exact absurd rfl (nofin _ hd2)
  | ring hd2 _=>exact absurd rfl (nofin _ hd2)
 ·obtain⟨o7,o8,o9,oA,oB,W,tr,rfl,w,ltr,oktr⟩:=z
  obtain⟨us,u1,u2⟩:=w.rc
  obtain⟨ws,y1,y2⟩:=w.ty
  refine⟨_,rfl,_,rfl,(by show 2≤sizeLine;decide),fun p hp=>?_⟩
  have sp:=b9 (o:=.tup [.ref R,.ref Y]) hp
  exact q p R Y us ws tr W.rl _ (w.sm.trans sp) b0 (sp _ _ u1) (Paired.mapP u2 fun _ _ z=>z.same sp) (sp _ _ y1) (Paired.mapP y2 fun _ _ z=>z.same sp) oktr
theorem b4o{v:G3}{m:Int}{am:Am}(nd:(v.map (·.1)).Nodup):((B8 v am m).map (·.1)).Nodup:=by
 induction am generalizing v with
 | nil=>exact nd
 | cons a am ih=>
  refine ih (v:=C4 v a.1 (m,a.2)) ?_
  rw[W7];split
  ·exact nd
  ·rename_i z
   rw[List.nodup_append]
   refine⟨nd,by simp,fun x hx y hy e=>z ?_⟩
   rw[qQ2.mp hy]at e
   rw[←e];exact hx
theorem a9J{st st':j0}{d:i7}{a:t7}(h:(st.vers.map (·.1)).Nodup)(s:Step st d a st'):(st'.vers.map (·.1)).Nodup:=by
 cases s with
 | @sweep m _=>
  show((Q4 st.vers m).map (·.1)).Nodup
  unfold Q4
  rw[List.map_map];exact h
 | ended _ _=>exact b4o h
 | _=>exact h
theorem Run.to{ds:List i7}{as:List t7}{st:j0}(R:Run O1 ds as st)(okd:∀d∈ds,S1 d)(bn:ds.length≤63):∃f,Trace f ds as∧f ds.length=st:=by
 obtain⟨f,f0,f1,fs⟩:=R.trace
 have la:=a2B R
 have vb:∀i,i≤ds.length→((f i).vers.map (·.1)).Nodup∧Bd i (f i):=by
  intro i
  induction i with
  | zero=>intro _;rw[f0];exact⟨List.nodup_nil,bd0⟩
  | succ i ih=>
   intro h
   have hd:=List.getElem?_eq_getElem (l:=ds) (i:=i) (by omega)
   have ha:=List.getElem?_eq_getElem (l:=as) (i:=i) (by omega)
   obtain⟨v,b⟩:=ih (by omega)
   exact⟨a9J v (fs i _ _ hd ha),a3V (by omega) v b (fs i _ _ hd ha)⟩
 exact⟨f,⟨f0,fs,la,Run.oks (st:=st) f0 ok0 la fs,Run.gds f0 gd0 la okd fs,fun i h=>(vb i h).2⟩,f1⟩
theorem a4E{st:j0}(ok:C2 st){d:Dl}(hd:d∈st.under){e:Int}{r:Rec}(rc:M0 d e r){cs:List (List Lk)}(lw:LWs r st.recs cs)(l:Lk) :
  l∈st.links++cs.flatten↔∃o∈st.recs++[r],∃p∈st.recs++[r],o.num≠p.num∧a0m o p l:=by
 have dn:d.num∈st.under.map (·.num):=qQ3.mpr ⟨d,hd,rfl⟩
 have ne:∀o∈st.recs,o.num≠r.num:=fun o ho e=>(List.nodup_append.mp ok.un).2.2 o.num (qQ3.mpr ⟨o,ho,rfl⟩) d.num dn (by rw[e,rc.1])
 rw[qQ5,ok.mem,lw.mem]
 constructor
 ·rintro(⟨a,ha,b,hb,c,k⟩ | ⟨o,ho,k | k⟩)
  ·exact⟨a,List.mem_append_left _ ha,b,List.mem_append_left _ hb,c,k⟩
  ·exact⟨r,by simp,o,List.mem_append_left _ ho,(ne o ho).symm,k⟩
  ·exact⟨o,List.mem_append_left _ ho,r,by simp,ne o ho,k⟩
 ·rintro⟨a,ha,b,hb,c,k⟩
  rcases qQ5.mp ha with u | u<;>rcases qQ5.mp hb with v | v
  ·exact .inl ⟨a,u,b,v,c,k⟩
  ·rw[qQ2.mp v]at k;exact .inr ⟨a,u,.inr k⟩
  ·rw[qQ2.mp u]at k;exact .inr ⟨b,v,.inl k⟩
  ·rw[qQ2.mp u,qQ2.mp v]at c;exact absurd rfl c
theorem a4V{st:j0}(ok:C2 st){d:Dl}(hd:d∈st.under){r:Rec}(e:r.num=d.num):((st.recs++[r]).map (·.num)).Nodup:=by
 have u:=List.nodup_append.mp ok.un
 rw[qQ6,List.nodup_append]
 refine⟨u.1,by simp,fun x hx y hy z=>?_⟩
 have:y=r.num:=by simpa using hy
 exact u.2.2 x hx d.num (qQ3.mpr ⟨d,hd,rfl⟩) (by rw[z,this,e])
theorem a5k{st:j0}(ok:C2 st){d:Dl}(hd:d∈st.under){r:Rec}{cs:List (List Lk)}{row:List Int}(E:a8I st d r cs row):¬a7I st.recs r:=by
 have lead:∀{o p:Rec},o∈st.recs++[r]→p∈st.recs++[r]→o.num≠p.num→lnk o p=true→ahead row o.num p.num:=fun {o p} ho hp hn hl=>by
  obtain⟨l,hl⟩:=a1V.mp hl
  have:=E.row.keeps l ((a4E ok hd E.rc E.lw l).mpr ⟨o,ho,p,hp,hn,hl⟩)
  rw[hl.1,hl.2.1]at this;exact this
 have uniq:∀(i j:Nat) (x:Int),row[i]?=some x→row[j]?=some x→i=j:=fun i j x hi hj=>(List.getElem?_inj (qQ1.mp hi).1 E.row.nd).mp (by rw[hi,hj])
 have tr:∀{x y z:Int},ahead row x y→ahead row y z→ahead row x z:=fun {x y z} ⟨i,j,a,b,c⟩ ⟨k,m,a',b',c'⟩=>by
  have:=uniq j k y c b'
  exact⟨i,m,by omega,b,c'⟩
 have far:∀o,Rch st.recs r o→o∈st.recs++[r]∧(o=r∨ahead row r.num o.num):=fun o h=>by
  induction h with
  | base=>exact⟨by simp,.inl rfl⟩
  | @step o p h1 hp hn hl hr ih=>
   have a:=lead ih.1 hp hn hl
   refine⟨hp,.inr ?_⟩
   rcases ih.2 with e | b
   ·rw[←e];exact a
   ·exact tr b a
 rintro⟨o,ro,no,lo⟩
 obtain⟨m,e | a⟩:=far o ro
 ·exact no (by rw[e])
 ·obtain⟨i,j,lt,b,c⟩:=tr a (lead m (by simp) no lo)
  have:=uniq i j _ b c
  omega
theorem a4i{st:j0}(ok:C2 st){d:Dl}(hd:d∈st.under){r:Rec}{cs:List (List Lk)}{rg:List Lk}(E:a0D st d r cs rg):a7I st.recs r:=by
 have nd:=a4V ok hd E.rc.1
 have ends:∀l∈rg,∃o∈st.recs++[r],∃p∈st.recs++[r],o.num≠p.num∧lnk o p=true∧o.num=l.1∧p.num=l.2.1:=fun l hl=>by
  obtain⟨o,ho,p,hp,hn,k⟩:=(a4E ok hd E.rc E.lw l).mp (E.sub l hl)
  exact⟨o,ho,p,hp,hn,a1V.mpr ⟨l,k⟩,k.1.symm,k.2.1.symm⟩
 have lp:0<rg.length:=by
  cases hrg:rg with
  | nil=>exact absurd hrg E.ring.ne
  | cons a b=>simp
 have h0:(rg[0]).1=r.num:=by
  have:=E.hd
  rw[qQ8,List.getElem?_eq_getElem lp]at this
  have:(rg[0]).1=d.num:=qW1 this
  rw[this,E.rc.1]
 have go:∀i,(hi:i<rg.length)→∃o,Rch st.recs r o∧o∈st.recs++[r]∧o.num=(rg[i]).1:=by
  intro i
  induction i with
  | zero=>intro _;exact⟨r,.base,by simp,h0.symm⟩
  | succ i ih=>
   intro hi
   obtain⟨o,ro,mo,no⟩:=ih (by omega)
   obtain⟨o',ho',p,hp,hn,hl,e1,e2⟩:=ends _ (List.getElem_mem (show i<rg.length by omega))
   have:o'=o:=a5e nd ho' mo (by rw[e1,no])
   subst this
   obtain⟨m,hm,e⟩:=E.ring.next (i+1) _ (List.getElem?_eq_getElem hi)
   rw[if_neg (by omega),show i+1-1=i by omega,List.getElem?_eq_getElem (show i<rg.length by omega)]at hm
   rw[←qW1 hm]at e
   have pn:p.num≠r.num:=fun z=>by
    have a1:(rg.map (·.1))[i+1]?=some r.num:=by rw[qQ8,List.getElem?_eq_getElem hi];show some (rg[i+1]).1=_;rw[e,←e2,z]
    have a2:(rg.map (·.1))[0]?=some r.num:=by rw[qQ8,List.getElem?_eq_getElem lp];show some (rg[0]).1=_;rw[h0]
    have:=(List.getElem?_inj (l:=rg.map (·.1)) (i:=i+1) (j:=0) (by rw[qQ0];exact hi) E.ring.nd).mp (by rw[a1,a2])
    omega
   exact⟨p,.step ro hp hn hl pn,hp,by rw[e,e2]⟩
 obtain⟨o,ro,mo,no⟩:=go (rg.length-1) (by omega)
 obtain⟨o',ho',p,hp,hn,hl,e1,e2⟩:=ends _ (List.getElem_mem (show rg.length-1<rg.length by omega))
 have:o'=o:=a5e nd ho' mo (by rw[e1,no])
 subst this
 obtain⟨m,hm,e⟩:=E.ring.next 0 _ (List.getElem?_eq_getElem lp)
 rw[if_pos rfl,List.getElem?_eq_getElem (show rg.length-1<rg.length by omega)]at hm
 rw[←qW1 hm]at e
 have pr:p=r:=a5e nd hp (by simp) (by rw[e2,←e,h0])
 subst pr
 exact⟨o',ro,hn,hl⟩
structure O0(s t:j0):Prop where
 bg:s.begun=t.begun
 un:s.under=t.under
 ve:s.vers=t.vers
 rc:s.recs=t.recs
def a9I:t7→t7→Prop
 | .num i,.num j=>i=j
 | .word x,.word y=>x=y
 | .non,.non=>True
 | .ring _,.ring _=>True
 | _,_=>False
theorem b3s{s t:j0}(h:O0 s t){m k:Int}(a:a9M s m)(b:a9M t k):m=k:=by
 obtain⟨a1,a2⟩:=a
 obtain⟨b1,b2⟩:=b
 rw[←h.un]at b1 b2
 rw[←h.rc]at b1
 by_cases c:s.under=[]
 ·rw[a1 c,b1 c]
 ·obtain⟨a3,a4⟩:=a2 c
  obtain⟨b3,b4⟩:=b2 c
  obtain⟨x,hx,ex⟩:=qQ3.mp a3
  obtain⟨y,hy,ey⟩:=qQ3.mp b3
  have:=a4 y hy
  have:=b4 x hx
  omega
theorem a7F{s t s' t':j0}{d:i7}{a b:t7}(h:O0 s t)(os:C2 s)(ot:C2 t)(p:Step s d a s')(q:Step t d b t'):O0 s' t'∧a9I a b:=by
 have nd:(s.under.map (·.num)).Nodup:=(List.nodup_append.mp os.un).2.1
 obtain⟨hb,hu,hv,hr⟩:=h
 have same:∀{x y:Dl},x∈s.under→y∈t.under→x.num=y.num→x=y:=fun {x y} hx hy e=>L1 nd hx (by rw[hu];exact hy) e
 cases p with
 | begin=>
  cases q with
  | begin=>exact⟨⟨by show s.begun+1=t.begun+1;rw[hb],by show s.under++_=t.under++_;rw[hu,hb,hr],hv,hr⟩,by show((s.begun:Int))=(t.begun:Int);rw[hb]⟩
  | none h1 _=>cases h1
 | @sweep m mb=>
  cases q with
  | @sweep k kb=>
   have:=b3s ⟨hb,hu,hv,hr⟩ mb kb
   subst this
   exact⟨⟨hb,hu,by show Q4 s.vers m=Q4 t.vers m;rw[hv],hr⟩,by show a4c s.vers m=a4c t.vers m;rw[hv]⟩
  | none h1 _=>cases h1
 | @none _ n h1 h2=>
  have no:∀{x:Dl},x∈t.under→x.num=n→False:=fun {x} hx e=>h2 (by rw[hu,←e];exact qQ3.mpr ⟨x,hx,rfl⟩)
  cases q with
  | begin=>cases h1
  | sweep _=>cases h1
  | none _ _=>exact⟨⟨hb,hu,hv,hr⟩,trivial⟩
  | own hd _=>exact(no hd (qW1 h1)).elim
  | look hd _=>exact(no hd (qW1 h1)).elim
  | put hd=>exact(no hd (qW1 h1)).elim
  | leave hd=>exact(no hd (qW1 h1)).elim
  | ended hd _=>exact(no hd (qW1 h1)).elim
  | ring hd _=>exact(no hd (qW1 h1)).elim
 | @own d g x hd hg=>
  generalize e:i7.look d.num g=dd at q
  cases q with
  | none h1 h2=>subst e;cases h1;exact(h2 (by rw[←hu];exact qQ3.mpr ⟨d,hd,rfl⟩)).elim
  | own hd' hg'=>
   injection e with e1 e2
   have:=same hd hd' e1
   subst this;subst e2
   rw[hg]at hg';cases hg'
   exact⟨⟨hb,hu,hv,hr⟩,rfl⟩
  | look hd' hg'=>
   injection e with e1 e2
   have:=same hd hd' e1
   subst this;subst e2
   rw[hg]at hg';cases hg'
  | _=>cases e
 | @look d g hd hg=>
  generalize e:i7.look d.num g=dd at q
  cases q with
  | none h1 h2=>subst e;cases h1;exact(h2 (by rw[←hu];exact qQ3.mpr ⟨d,hd,rfl⟩)).elim
  | own hd' hg'=>
   injection e with e1 e2
   have:=same hd hd' e1
   subst this;subst e2
   rw[hg]at hg';cases hg'
  | look hd' hg'=>
   injection e with e1 e2
   have:=same hd hd' e1
   subst this;subst e2
   exact⟨⟨hb,by show A6 s.under _ _=A6 t.under _ _;rw[hu],hv,hr⟩,by show valueAt _ _=valueAt _ _;rw[hv]⟩
  | _=>cases e
 | @put d g x hd=>
  generalize e:i7.put d.num g x=dd at q
  cases q with
  | none h1 h2=>subst e;cases h1;exact(h2 (by rw[←hu];exact qQ3.mpr ⟨d,hd,rfl⟩)).elim
  | put hd'=>
   injection e with e1 e2 e3
   have:=same hd hd' e1
   subst this;subst e2;subst e3
   exact⟨⟨hb,by show A6 s.under _ _=A6 t.under _ _;rw[hu],hv,hr⟩,rfl⟩
  | _=>cases e
 | @leave d hd=>
  generalize e:i7.leave d.num=dd at q
  cases q with
  | none h1 h2=>subst e;cases h1;exact(h2 (by rw[←hu];exact qQ3.mpr ⟨d,hd,rfl⟩)).elim
  | leave hd'=>
   injection e with e1
   have:=same hd hd' e1
   subst this
   exact⟨⟨hb,by show K3 s.under _=K3 t.under _;rw[hu],hv,hr⟩,rfl⟩
  | _=>cases e
 | @ended d r cs row hd E=>
  generalize e:i7.fin d.num=dd at q
  cases q with
  | none h1 h2=>subst e;cases h1;exact(h2 (by rw[←hu];exact qQ3.mpr ⟨d,hd,rfl⟩)).elim
  | @ended d' r' cs' row' hd' E'=>
   injection e with e1
   have:=same hd hd' e1
   subst this
   have er:r=r':=Z4 E.rc (by rw[hr];exact E'.rc)
   subst er
   exact⟨⟨hb,by show K3 s.under _=K3 t.under _;rw[hu],by show B8 s.vers _ _=B8 t.vers _ _;rw[hv,hr],by show s.recs++_=t.recs++_;rw[hr]⟩,rfl⟩
  | @ring d' r' cs' rg hd' E'=>
   injection e with e1
   have:=same hd hd' e1
   subst this
   have er:r=r':=Z4 E.rc (by rw[hr];exact E'.rc)
   subst er
   have:=a4i ot hd' E'
   rw[←hr]at this
   exact absurd this (a5k os hd E)
  | _=>cases e
 | @ring d r cs rg hd E=>
  generalize e:i7.fin d.num=dd at q
  cases q with
  | none h1 h2=>subst e;cases h1;exact(h2 (by rw[←hu];exact qQ3.mpr ⟨d,hd,rfl⟩)).elim
  | @ended d' r' cs' row' hd' E'=>
   injection e with e1
   have:=same hd hd' e1
   subst this
   have er:r=r':=Z4 E.rc (by rw[hr];exact E'.rc)
   subst er
   have:=a4i os hd E
   rw[hr]at this
   exact absurd this (a5k ot hd' E')
  | @ring d' r' cs' rg' hd' E'=>
   injection e with e1
   have:=same hd hd' e1
   subst this
   exact⟨⟨hb,by show K3 s.under _=K3 t.under _;rw[hu],hv,hr⟩,trivial⟩
  | _=>cases e
theorem a8i{f g:Nat→j0}{ds:List i7}{as bs:List t7}(F:Trace f ds as)(G:Trace g ds bs):∀i,i≤ds.length→O0 (f i) (g i)
 | 0,_=>by rw[F.zero,G.zero];exact⟨rfl,rfl,rfl,rfl⟩
 | i+1,h=>by
  have hd:=List.getElem?_eq_getElem (l:=ds) (i:=i) (by omega)
  have ha:=List.getElem?_eq_getElem (l:=as) (i:=i) (by have:=F.len;omega)
  have hb:=List.getElem?_eq_getElem (l:=bs) (i:=i) (by have:=G.len;omega)
  exact(a7F (a8i F G i (by omega)) (F.oks i (by omega)) (G.oks i (by omega)) (F.step i _ _ hd ha) (G.step i _ _ hd hb)).1
inductive a2k(K:PySem.W.Frag)(vs:List V)(H:Hp)(Q:VK):Prop
 | mk (A Tl:Addr) (xs ys:List V) (ds:List i7) (as:List t7) (rl0:Addr→Role) (f:Nat→j0) (x0:vs=[.ref A,.ref Tl]) (x1:H A=some (.lst xs)) (x2:y0 H ds xs) (x3:H Tl=some (.lst ys)) (x4:Paired (C0 rl0 H) as ys) (x5:Trace f ds as) (x6:ds.length≤63) (xq:∀H',g6 H H'→Q (.bl true) H')
def a2l(K:PySem.W.Frag):Sp:=fun vs H Q _=>a2k K vs H Q
set_option maxHeartbeats 0 in
theorem a6l(T:A1 K mg t):g8 P w K mg base x9 3 t.f__law_ends_right t.d__law_ends_right ["_law_asked","_law_told"] (a2l K):=by
 refine T.F__law_ends_right.ok K4 (fun vs H Q E h=>?_) (fun cdv A outer s H vs Q E hr h=>?_)
 ·obtain⟨A,Tl,xs,ys,ds,as,rl0,f,rfl,_⟩:=h
  rfl
 obtain⟨A,Tl,xs,ys,ds,as,rl0,f,rfl,hA,hD,hT,pa,F,bn,q⟩:=h
 refine⟨_,(b8 (A9 PassesOwn.never rfl (t6 (d8 h7 (j9 (g8.mono (k:=2) (a7C T) (by decide)) hr rfl T.m__law_walked T.F__law_walked.kp T.F__law_walked.b .nil l4 (a6 (pv 0) (a6 (pv 1) b6))) d5 (fun _ _=>rfl))) (a8Q rfl (Q9 (m5 (i:=2) K4.nd rfl (Or.inl rfl)) (Q9 (m5 (i:=3) K4.nd rfl (Or.inl rfl)) (Q9 (m5 (i:=4) K4.nd rfl (Or.inl rfl)) a8y))))
 (c9 (k7 (f7 z6 (j9 (g8.mono (k:=2) (Q6 T) (by decide)) hr rfl T.m__law_ended T.F__law_ended.kp T.F__law_ended.b .nil l4 (a6 (d8 k8 (pv 1) (pv 2) (fun _ _=>rfl)) b6)) (j9 (g8.mono (k:=2) (a7B T) (by decide)) hr rfl T.m__law_ringed T.F__law_ringed.kp T.F__law_ringed.b .nil l4 (a6 (pv 4) (a6 (pv 3) b6))) (i5 _))
 (c9 (i3 y6))
 i9)))
 (c9 (i3 y6))),?_⟩
 have la:=F.len
 have ly:=n5 pa
 refine⟨_,rfl,_,rfl,A,Tl,xs,ys,ds,as,rl0,f,rfl,hA,hD,hT,pa,F,bn,fun p R Y us ws tr rl H1 s1 hp hR pR hY pY okt=>⟨p,_,1,_,rfl,rfl,i4.of hp,rfl,Y,rfl,⟨_,d7.of hY⟩,?_⟩⟩
 refine G0 (xs:=ws) (fun j σ' Hc=>∃o2 o3 o4:Option V,σ'=[some (.ref A),some (.ref Tl),o2,o3,o4]∧g6 H1 Hc) ⟨none,none,none,rfl,g6.refl H1⟩ (fun j σ' Hc _ z=>?_) (fun j v σ' Hc hv z=>?_) (fun σ' Hc z=>?_)
 ·obtain⟨_,_,_,_,sc⟩:=z
  exact d7.of (sc _ _ hY)
 ·obtain⟨o2,o3,o4,rfl,sc⟩:=z
  obtain⟨⟨k,r,rs⟩,hy,b,lb,x,zs,rfl,hb,hx,hlb,_,pz⟩:=v5 pY hv
  obtain⟨d,a,hd,ha,hu,S,isr,ers⟩:=(okt _ (List.mem_of_getElem? hy)).ex
  have ers:rs=(f k).recs:=ers
  subst ers
  have S:Step (f k) (.fin d.num) a (f (k+1)):=S
  have isr:M0 d (((f k).recs.length:Int)+1) r:=isr
  have hu:d∈(f k).under:=hu
  have lk:k<as.length:=(qQ1.mp ha).1
  have hyi:=List.getElem?_eq_getElem (show k<ys.length by omega)
  obtain⟨a',ha',hya⟩:=v5 pa hyi
  have ha:as[k]?=some a:=ha
  rw[ha]at ha';cases ha'
  have ay:D6 ys (k:Int)=some ys[k]:=i8 hyi
  generalize ys[k]=y at ay hya hyi
  have ok:=F.oks k (by omega)
  have gd:=F.gds k (by omega)
  have bd:=F.bds k (by omega)
  have s2:=s1.trans sc
  have gr:=isr.good gd hu
  have l1:r.looked.length≤63:=by rw[isr.2.2.2.1.length_eq];have:=(bd.dl d hu).1;omega
  have l2:r.put.length≤63:=by rw[isr.2.2.2.2.1.length_eq,qQ0];have:=(bd.dl d hu).2;omega
  refine⟨b,_,rfl,i4.of (sc _ _ hb),rfl,_,_,rfl,_,_,rfl,_,_,rfl,rfl,?_⟩
  refine⟨_,rfl,_,rfl,Tl,_,_,_,rfl,rfl,d7.of (s2 _ _ hT),ay,rl0,a,y,rfl,hya.same s2,_,rfl,_,rfl,lb,x,zs,(f k).recs,r,rl,rfl,sc _ _ hlb,Paired.mapP pz fun _ _ z=>z.same sc,hx.same sc,a4V ok hu isr.1,fun o ho=>?_,by have:=bd.rc;omega,fun H3 s3 lo=>?_,fun H3 s3 lo=>?_⟩
  ·rcases qQ5.mp ho with ho | ho
   ·exact⟨⟨gd.rl o ho,gd.rp o ho⟩,by have:=(bd.rs o ho).2;omega,by have:=(bd.rs o ho).1;omega⟩
   ·rw[qQ2.mp ho];exact⟨gr,l1,l2⟩
  ·have ea:Z9 a=false:=by
    generalize e:i7.fin d.num=dd at S
    generalize f (k+1)=st1 at S
    cases S with
    | @ended d' r' cs' row' hd' E'=>
     injection e with e1
     have:=L1 (List.nodup_append.mp ok.un).2.1 hu hd' e1
     subst this
     have er:r=r':=Z4 isr E'.rc
     subst er
     exact absurd lo (a5k ok hu E')
    | ring _ _=>rfl
    | none _ _=>rfl
    | own _ _=>cases e
    | look _ _=>cases e
    | put _=>cases e
    | leave _=>cases e
    | begin=>cases e
    | sweep _=>cases e
   rw[ea]
   exact⟨rfl,_,rfl,d9 ⟨_,_,_,rfl,sc.trans s3⟩⟩
  ·have ea:Z9 a=true:=by
    generalize e:i7.fin d.num=dd at S
    generalize f (k+1)=st1 at S
    cases S with
    | ended _ _=>rfl
    | @ring d' r' cs' rg' hd' E'=>
     injection e with e1
     have:=L1 (List.nodup_append.mp ok.un).2.1 hu hd' e1
     subst this
     have er:r=r':=Z4 isr E'.rc
     subst er
     exact absurd (a4i ok hu E') lo
    | @none _ n h1 h2=>subst e;cases h1;exact absurd (qQ3.mpr ⟨d,hu,rfl⟩) h2
    | own _ _=>cases e
    | look _ _=>cases e
    | put _=>cases e
    | leave _=>cases e
    | begin=>cases e
    | sweep _=>cases e
   rw[ea]
   exact⟨rfl,_,rfl,d9 ⟨_,_,_,rfl,sc.trans s3⟩⟩
 ·obtain⟨_,_,_,rfl,sc⟩:=z
  exact q _ (s1.trans sc)
theorem a4U(ps qs:List (Int×Int))(t:Int):cnt (ps++qs) t=cnt ps t+cnt qs t:=by
 unfold cnt;rw[List.filter_append,qQ4]
theorem a5i{ps:List (Int×Int)}{t:Int}(h:∀p∈ps,p.1≤t):cnt ps t=ps.length:=by
 unfold cnt;rw[List.filter_eq_self.mpr fun p hp=>decide_eq_true (h p hp)]
theorem b4j(ps:List (Int×Int)){s t:Int}(h:s≤t):cnt ps s≤cnt ps t:=by
 induction ps with
 | nil=>exact qQ7 _
 | cons p ps ih=>
  have e:∀u,cnt (p::ps) u=(if p.1≤u then 1 else 0)+cnt ps u:=fun u=>by
   unfold cnt;rw[List.filter_cons]
   split
   ·rename_i c;rw[if_pos (of_decide_eq_true c),List.length_cons,Nat.add_comm]
   ·rename_i c;rw[if_neg (fun z=>c (decide_eq_true z)),Nat.zero_add]
  rw[e,e]
  split
  ·rw[if_pos (by omega)];omega
  ·split<;>omega
theorem a9K:∀{ps:List (Int×Int)} {t:Int},ps.Pairwise (fun p q=>p.1<q.1)→∀p∈ps.take (cnt ps t),p.1≤t
 | [],_,_,p,h=>by simp at h
 | q::ps,t,hp,p,h=>by
  obtain⟨h1,h2⟩:=List.pairwise_cons.mp hp
  by_cases c:q.1≤t
  ·have e:cnt (q::ps) t=cnt ps t+1:=by unfold cnt;rw[List.filter_cons,if_pos (decide_eq_true c),List.length_cons]
   rw[e,List.take_succ_cons]at h
   rcases qQ9.mp h with rfl | h
   ·exact c
   ·exact a9K h2 p h
  ·have e:cnt (q::ps) t=0:=by
    unfold cnt
    rw[List.length_eq_zero_iff,List.filter_eq_nil_iff]
    intro r hr
    simp only[decide_eq_true_eq]
    rcases qQ9.mp hr with rfl | hr
    ·exact c
    ·have:=h1 r hr;omega
   rw[e]at h;simp at h
theorem b5u{ps:List (Int×Int)}{m x t:Int}(h:t<m):valueAt (ps++[(m,x)]) t=valueAt ps t:=by
 have e:cnt (ps++[(m,x)]) t=cnt ps t:=by
  rw[a4U]
  have:cnt [(m,x)] t=0:=by unfold cnt;rw[List.filter_cons,if_neg (by simp;omega)];rfl
  omega
 unfold valueAt
 rw[e]
 split
 ·rfl
 ·have:=a3y ps t
  rw[List.getD_eq_getElem?_getD,List.getD_eq_getElem?_getD,List.getElem?_append_left (by omega)]
theorem b9q{ps:List (Int×Int)}{m x:Int}(h:∀p∈ps,p.1≤m):valueAt (ps++[(m,x)]) m=x:=by
 have e:cnt (ps++[(m,x)]) m=ps.length+1:=by
  rw[a5i fun p hp=>?_,qQ4];rfl
  rcases qQ5.mp hp with z | z
  ·exact h p z
  ·rw[qQ2.mp z];exact Int.le_refl _
 unfold valueAt
 rw[e,if_neg (by omega),List.getD_eq_getElem?_getD,show ps.length+1-1=ps.length by omega,List.getElem?_append_right (qQ7 _)]
 simp
theorem b2o{ps:List (Int×Int)}{s t:Int}(h:∀p∈ps,p.1≤s)(le:s≤t):valueAt ps t=valueAt ps s:=by
 unfold valueAt
 rw[a5i h,a5i fun p hp=>Int.le_trans (h p hp) le]
theorem b9b{ps:List (Int×Int)}{m t:Int}(hp:ps.Pairwise fun p q=>p.1<q.1)(le:m≤t):valueAt (swL ps m) t=valueAt ps t:=by
 unfold swL
 generalize hk:cnt ps m-1=k
 have lk:k≤cnt ps m:=by omega
 have lm:=a3y ps m
 have mt:=b4j ps le
 have split1:cnt ps t=k+cnt (ps.drop k) t:=by
  conv=>lhs;rw[←List.take_append_drop k ps,a4U]
  rw[a5i fun p h=>?_,List.length_take,Nat.min_eq_left (by omega)]
  have:p∈ps.take (cnt ps m):=List.take_subset_take_left _ lk h
  exact Int.le_trans (a9K hp p this) le
 unfold valueAt
 by_cases c:cnt ps m=0
 ·have:k=0:=by omega
  subst this
  rw[List.drop_zero]
 ·rw[if_neg (by omega),if_neg (by omega),List.getD_eq_getElem?_getD,List.getD_eq_getElem?_getD,List.getElem?_drop,show k+(cnt (ps.drop k) t-1)=cnt ps t-1 by omega]
theorem b6r(v:G3)(g h:Str)(x:Int×Int):v8 (C4 v g x) h=if h=g then v8 v h++[x] else v8 v h:=by
 unfold C4
 by_cases m:g∈v.map (·.1)
 ·rw[if_pos m]
  induction v with
  | nil=>simp at m
  | cons q v ih=>
   rw[List.map_cons]
   unfold v8
   by_cases e:q.1=h
   ·subst e
    rw[List.find?_cons_of_pos (by split<;>simp),List.find?_cons_of_pos (by simp)]
    by_cases e2:q.1=g
    ·simp[e2]
    ·simp[e2]
   ·rw[List.find?_cons_of_neg (by split<;>simpa using e),List.find?_cons_of_neg (by simpa using e)]
    by_cases m2:g∈v.map (·.1)
    ·exact ih m2
    ·have eg:q.1=g:=by
      rw[List.map_cons]at m
      rcases qQ9.mp m with z | z
      ·exact z.symm
      ·exact absurd z m2
     rw[if_neg (fun z=>e (by rw[eg,z]))]
     have:(v.map fun q=>if q.1=g then(q.1,q.2++[x]) else q)=v:=by
      conv=>rhs;rw[←List.map_id v]
      exact List.map_congr_left fun p hp=>by
       rw[if_neg fun z=>m2 (qQ3.mpr ⟨p,hp,z⟩)];rfl
     rw[this]
 ·rw[if_neg m]
  unfold v8
  rw[List.find?_append]
  by_cases e:h=g
  ·subst e
   have:(v.find? fun q=>decide (q.1=h))=none:=List.find?_eq_none.mpr fun q hq=>by
    simp only[decide_eq_true_eq];exact fun z=>m (qQ3.mpr ⟨q,hq,z⟩)
   rw[this,if_pos rfl];simp
  ·rw[if_neg e,List.find?_cons_of_neg (by simpa using Ne.symm e)]
   cases (v.find? fun q=>decide (q.1=h))<;>rfl
theorem a2c{m:Int}(h:Str):∀(am:Am) (v:G3),(am.map (·.1)).Nodup→v8 (B8 v am m) h=match p9 am h with | some x=>v8 v h++[(m,x)] | none=>v8 v h
 | [],v,_=>rfl
 | q::am,v,nd=>by
  rw[List.map_cons,List.nodup_cons]at nd
  show v8 (B8 (C4 v q.1 (m,q.2)) am m) h=_
  rw[a2c h am _ nd.2,b6r]
  by_cases e:q.1=h
  ·subst e
   have n:p9 am q.1=none:=by
    unfold p9
    rw[List.find?_eq_none.mpr fun p hp=>?_];rfl
    simp only[decide_eq_true_eq];exact fun z=>nd.1 (qQ3.mpr ⟨p,hp,z⟩)
   rw[n,if_pos rfl]
   have:p9 (q::am) q.1=some q.2:=by unfold p9;rw[List.find?_cons_of_pos (by simp)];rfl
   rw[this]
  ·rw[if_neg (Ne.symm e)]
   have:p9 (q::am) h=p9 am h:=by unfold p9;rw[List.find?_cons_of_neg (by simpa using e)]
   rw[this]
theorem a0R(v:G3)(m:Int)(h:Str):v8 (Q4 v m) h=swL (v8 v h) m:=by
 unfold Q4
 induction v with
 | nil=>rfl
 | cons q v ih=>
  rw[List.map_cons]
  unfold v8
  by_cases e:q.1=h
  ·rw[List.find?_cons_of_pos (by simpa using e),List.find?_cons_of_pos (by simpa using e)];rfl
  ·rw[List.find?_cons_of_neg (by simpa using e),List.find?_cons_of_neg (by simpa using e)];exact ih
structure Vs(st:j0):Prop where
 up:∀g,(v8 st.vers g).Pairwise fun p q=>p.1<q.1
 le:∀g,∀p∈v8 st.vers g,p.1≤(st.recs.length:Int)
 bg:∀d∈st.under,d.beg≤(st.recs.length:Int)
 nd:∀d∈st.under,(d.aside.map (·.1)).Nodup
theorem vs0:Vs O1:=⟨fun g=>.nil,(fun g p h=>nomatch h),(fun d h=>nomatch h),(fun d h=>nomatch h)⟩
theorem a5V{m:Am}{g:Str}{a:Int}(h:(m.map (·.1)).Nodup):((C1 m g a).map (·.1)).Nodup:=by
 unfold C1
 split
 ·have:(m.map fun p=>if p.1=g then(p.1,a) else p).map (·.1)=m.map (·.1):=by
   rw[List.map_map];exact List.map_congr_left fun p _=>by show(if p.1=g then(p.1,a) else p).1=p.1;split<;>rfl
  rw[this];exact h
 ·rename_i c
  rw[qQ6,List.nodup_append]
  refine⟨h,by simp,fun x hx y hy z=>c ?_⟩
  obtain⟨p,hp,e⟩:=qQ3.mp hx
  rw[List.any_eq_true]
  refine⟨p,hp,decide_eq_true ?_⟩
  have:y=g:=by simpa using hy
  rw[e,z,this]
def valOf(st:j0)(g:Str)(t:Int):Int:=valueAt (v8 st.vers g) t
theorem a8V{st st':j0}{d:i7}{a:t7}(h:Vs st)(s:Step st d a st'):Vs st'∧((st'.recs=st.recs∧∀g t,(t=(st.recs.length:Int)∨∃d∈st.under,t=d.beg)→valOf st' g t=valOf st g t) ∨
  ∃e∈st.under,d=.fin e.num∧a=.word "ended"∧st'.recs.length=st.recs.length+1∧st'.under=K3 st.under e.num∧(∀g t,t≤(st.recs.length:Int)→valOf st' g t=valOf st g t)∧∀g,valOf st' g (st'.recs.length:Int)=(p9 e.aside g).getD (valOf st g (st.recs.length:Int))):=by
 have leave:∀n,Vs (u9 st n):=fun n=>⟨h.up,h.le,fun d hd=>h.bg d (qW0.mp hd).1,fun d hd=>h.nd d (qW0.mp hd).1⟩
 cases s with
 | begin=>
  refine⟨⟨h.up,h.le,fun d hd=>?_,fun d hd=>?_⟩,.inl ⟨rfl,fun _ _ _=>rfl⟩⟩
  ·rcases qQ5.mp hd with z | z
   ·exact h.bg d z
   ·rw[qQ2.mp z];exact Int.le_refl _
  ·rcases qQ5.mp hd with z | z
   ·exact h.nd d z
   ·rw[qQ2.mp z];exact List.nodup_nil
 | @sweep m mb=>
  have ml:∀t,(t=(st.recs.length:Int)∨∃d∈st.under,t=d.beg)→m≤t:=fun t ht=>by
   obtain⟨b1,b2⟩:=mb
   by_cases c:st.under=[]
   ·rcases ht with e | ⟨d,hd,_⟩
    ·rw[b1 c,e];exact Int.le_refl _
    ·rw[c]at hd;cases hd
   ·obtain⟨b3,b4⟩:=b2 c
    rcases ht with e | ⟨d,hd,e⟩
    ·obtain⟨x,hx,ex⟩:=qQ3.mp b3
     rw[e,←ex];exact h.bg x hx
    ·rw[e];exact b4 d hd
  refine⟨⟨fun g=>?_,fun g p hp=>?_,h.bg,h.nd⟩,.inl ⟨rfl,fun g t ht=>?_⟩⟩
  ·show(v8 (Q4 st.vers m) g).Pairwise _
   rw[a0R];exact(h.up g).drop
  ·have hp:p∈v8 (Q4 st.vers m) g:=hp
   rw[a0R]at hp
   exact h.le g p (List.mem_of_mem_drop hp)
  ·show valueAt (v8 (Q4 st.vers m) g) t=_
   rw[a0R]
   exact b9b (h.up g) (ml t ht)
 | none _ _=>exact⟨h,.inl ⟨rfl,fun _ _ _=>rfl⟩⟩
 | own _ _=>exact⟨h,.inl ⟨rfl,fun _ _ _=>rfl⟩⟩
 | look _ _=>
  refine⟨⟨h.up,h.le,fun d hd=>?_,fun d hd=>?_⟩,.inl ⟨rfl,fun _ _ _=>rfl⟩⟩
  ·obtain⟨e,he,z | z⟩:=C8 hd
   ·rw[z];exact h.bg e he
   ·rw[z];exact h.bg e he
  ·obtain⟨e,he,z | z⟩:=C8 hd
   ·rw[z];exact h.nd e he
   ·rw[z];exact h.nd e he
 | put _=>
  refine⟨⟨h.up,h.le,fun d hd=>?_,fun d hd=>?_⟩,.inl ⟨rfl,fun _ _ _=>rfl⟩⟩
  ·obtain⟨e,he,z | z⟩:=C8 hd
   ·rw[z];exact h.bg e he
   ·rw[z];exact h.bg e he
  ·obtain⟨e,he,z | z⟩:=C8 hd
   ·rw[z];exact h.nd e he
   ·rw[z];exact a5V (h.nd e he)
 | leave _=>exact⟨leave _,.inl ⟨rfl,fun _ _ _=>rfl⟩⟩
 | ring _ _=>exact⟨leave _,.inl ⟨rfl,fun _ _ _=>rfl⟩⟩
 | @ended e r cs row he E=>
  have nd:=h.nd e he
  have lr:(st.recs++[r]).length=st.recs.length+1:=by rw[qQ4];rfl
  refine⟨⟨fun g=>?_,fun g p hp=>?_,fun d hd=>?_,fun d hd=>h.nd d (qW0.mp hd).1⟩,.inr ⟨e,he,rfl,rfl,lr,rfl,fun g t ht=>?_,fun g=>?_⟩⟩
  ·show(v8 (B8 st.vers e.aside _) g).Pairwise _
   rw[a2c g _ _ nd]
   split
   ·rw[List.pairwise_append]
    refine⟨h.up g,by simp,fun p hp q hq=>?_⟩
    rw[qQ2.mp hq]
    have:=h.le g p hp
    show p.1<(st.recs.length:Int)+1
    omega
   ·exact h.up g
  ·have hp:p∈v8 (B8 st.vers e.aside ((st.recs.length:Int)+1)) g:=hp
   rw[a2c g _ _ nd]at hp
   show p.1≤(((st.recs++[r]).length:Nat):Int)
   rw[lr]
   split at hp
   ·rcases qQ5.mp hp with z | z
    ·have:=h.le g p z;omega
    ·rw[qQ2.mp z];exact Int.le_refl _
   ·have:=h.le g p hp;omega
  ·have:=h.bg d (qW0.mp hd).1
   show d.beg≤(((st.recs++[r]).length:Nat):Int)
   rw[lr];omega
  ·show valueAt (v8 (B8 st.vers e.aside ((st.recs.length:Int)+1)) g) t=_
   rw[a2c g _ _ nd]
   split
   ·exact b5u (by omega)
   ·rfl
  ·show valueAt (v8 (B8 st.vers e.aside ((st.recs.length:Int)+1)) g) (((st.recs++[r]).length:Nat):Int)=_
   rw[a2c g _ _ nd,lr,show((st.recs.length+1:Nat):Int)=(st.recs.length:Int)+1 by omega]
   split
   ·rename_i x hx
    rw[hx]
    exact b9q fun p hp=>by have:=h.le g p hp;omega
   ·rename_i hx
    rw[hx]
    exact b2o (h.le g) (by omega)
def a9a(m am:Am):Am:=am.foldl (fun m p=>C1 m p.1 p.2) m
theorem a5T:∀(am m:Am),a5b (y8 m) (y8 am)=y8 (a9a m am)
 | [],m=>rfl
 | p::am,m=>by
  show a5b (putK (y8 m) (Sum.inr p.1) (V.int p.2)) (y8 am)=_
  rw[a8n];exact a5T am _
theorem a5J:∀(am m:Am),(a9a m am).length≤m.length+am.length
 | [],m=>qQ7 _
 | p::am,m=>by
  have a:=a5J am (C1 m p.1 p.2)
  have b:=a8O m p.1 p.2
  show(a9a (C1 m p.1 p.2) am).length≤_
  rw[List.length_cons];omega
theorem b8i(m:Am)(g h:Str)(a:Int):p9 (C1 m g a) h=if h=g then some a else p9 m h:=by
 have e1:(p9 (C1 m g a) h).map V.int=(if h=g then some a else p9 m h).map V.int:=by
  rw[←U8,←a8n,b6n,U8]
  by_cases c:h=g
  ·subst c;rw[if_pos rfl,if_pos rfl];rfl
  ·rw[if_neg (fun z=>c (Sum.inr.inj z)),if_neg c]
 generalize p9 (C1 m g a) h=x at e1 ⊢
 generalize (if h=g then some a else p9 m h)=y at e1 ⊢
 cases x<;>cases y<;>first | rfl | (simp at e1;rw[e1]) | (simp at e1)
theorem a7M(h:Str):∀(am m:Am),(am.map (·.1)).Nodup→p9 (a9a m am) h=(p9 am h).or (p9 m h)
 | [],m,_=>rfl
 | p::am,m,nd=>by
  rw[List.map_cons,List.nodup_cons]at nd
  show p9 (a9a (C1 m p.1 p.2) am) h=_
  rw[a7M h am _ nd.2,b8i]
  by_cases e:h=p.1
  ·subst e
   have n:p9 am p.1=none:=by
    unfold p9
    rw[List.find?_eq_none.mpr fun q hq=>?_];rfl
    simp only[decide_eq_true_eq];exact fun z=>nd.1 (qQ3.mpr ⟨q,hq,z⟩)
   have:p9 (p::am) p.1=some p.2:=by unfold p9;rw[List.find?_cons_of_pos (by simp)];rfl
   rw[n,if_pos rfl,this];rfl
  ·have:p9 (p::am) h=p9 am h:=by unfold p9;rw[List.find?_cons_of_neg (by simpa using Ne.symm e)]
   rw[if_neg e,this]
inductive a7s(t:B4)(K:PySem.W.Frag)(vs:List V)(H:Hp)(Q:VK):Prop
 | mk (l:Addr) (ds:List i7) (xs:List V) (x0:vs=[.ref l]) (x1:H l=some (.lst xs)) (x2:y0 H ds xs) (x3:ds.length≤63) (xq:∀(as:List t7) (st:j0) (G:Gh) (H':Hp) (p:Addr),Run O1 ds as st→g6 H H'→TA t.C_Tally t.C_Dealing G H' p st→Bd ds.length st→Q (.ref p) H')
def a2y(t:B4)(K:PySem.W.Frag):Sp:=fun vs H Q _=>a7s t K vs H Q
theorem a1x(T:A1 K mg t):g8 P w K mg base x9 9 t.f_tally_behind t.d_tally_behind ["deeds"] (a2y t K):=by
 refine T.F_tally_behind.ok a8c (fun vs H Q E h=>?_) (fun cdv A outer s H vs Q E hr h=>?_)
 ·obtain⟨l,ds,xs,rfl,_⟩:=h
  rfl
 obtain⟨l,ds,xs,rfl,hl,hd,bn,q⟩:=h
 refine⟨_,(b8 (g7 (i:=1) a8c.nd rfl (Or.inl rfl) (a0P T.K_Tally (g8.mono (k:=7) (Y2 T) (by decide)) hr rfl T.mg_Tally T.F_Tally___init__.b .nil l4))
 (b8 (l6 (j9 (g8.mono (k:=8) (a1j T) (by decide)) hr rfl T.m_answers_at T.F_answers_at.kp T.F_answers_at.b .nil l4 (a6 (pv 1) (a6 (pv 0) b6))))
 (c9 (i3 (pv 1))))),?_⟩
 intro x dx nx ndx nxd
 have s0:g6 H (upd (upd H dx (.own x)) x (.ins t.C_Tally dx [])):=j7 (b9 ndx) nx
 refine⟨x,dx,rfl,b0,fun G H1 h1 b1 g1=>⟨rfl,?_⟩⟩
 have s1:g6 H H1:=fun c o e=>b1 c o (e7 e nx) (s0 c o e)
 have gf:∀c o,H c=some o→G.rl c=.free:=fun c o e=>g1 c o (e7 e nx) (s0 c o e)
 refine⟨_,rfl,_,rfl,G,x,l,ds,xs,rfl,h1,s1 _ _ hl,gf _ _ hl,hd.tupK s1.tupK,bn,fun as st G' H' r ys R h2 ok bd k hr pa fr nr=>?_⟩
 exact⟨_,rfl,q as st G' H' x R (fun c o e=>k.keep c o (gf c o e) (s1 c o e)) h2 bd⟩
def a6n(st:j0)(ks:List Str):Am:=ks.map fun g=>(g,valOf st g (st.recs.length:Int))
def Amt(st:j0)(H':Hp)(r:Addr):Prop:=∃(xs:List V) (ks:List Str),H' r=some (.lst xs)∧Prs H' (a6n st ks) xs∧ks.Perm (st.vers.map (·.1))∧U2 ks
inductive a3p(t:B4)(K:PySem.W.Frag)(vs:List V)(H:Hp)(Q:VK):Prop
 | mk (G:Gh) (p:Addr) (st:j0) (x0:vs=[.ref p]) (x1:TA t.C_Tally t.C_Dealing G H p st) (x2:st.vers.length≤63) (x3:(∀q∈st.vers,q.2.length≤100000)) (xq:∀(r:Addr) (H':Hp),g6 H H'→Amt st H' r→Q (.ref r) H')
def a8u(t:B4)(K:PySem.W.Frag):Sp:=fun vs H Q _=>a3p t K vs H Q
set_option maxHeartbeats 0 in
theorem a9s(T:A1 K mg t):g8 P w K mg base x9 3 t.f_Tally_amounts t.d_Tally_amounts ["self"] (a8u t K):=by
 refine T.F_Tally_amounts.ok a3u (fun vs H Q E h=>?_) (fun cdv A outer s H vs Q E hr h=>?_)
 ·obtain⟨G,p,st,rfl,_⟩:=h
  rfl
 obtain⟨G,p,st,rfl,h,z1,z2,q⟩:=h
 have hu:=K9 hr
 refine⟨_,(c9 (i3 (N6 rfl (t6 (f6 (Q8 rfl) rfl T.m_sorted boot_sorted (a6 (q5 (pv 0) rfl) b6))) (C5.mk (own:=["good"]) (tl:=["self"]) rfl rfl rfl (fun _ _ _ _ _=>(m5 (i:=0) (a6k) rfl (Or.inl rfl))) (fun _ _ _ _ _=>V0) (fun _ _ _ _ _=>(u6 (a6 (pv 0) (a6 (j9 (g8.mono (k:=2) (a5q T) (by decide)) hr rfl T.m_value_at T.F_value_at.kp T.F_value_at.b .nil l4 (a6 (u4 hu (a3U (pv 1) rfl) (pv 0) (fun _ _=>rfl)) (a6 (O5 (pv 1) T.cl_Tally T.M_Tally_moment (g8.mono (k:=2) (K6 T) (by decide)) hr T.F_Tally_moment.b .nil l4) b6))) b6)))))))),?_⟩
 have ek:((st.vers.map fun q=>((Sum.inr q.1:Key),V.ref (G.vl q.1))).map fun q=>kV q.1)=(st.vers.map (·.1)).map V.str:=by rw[List.map_map,List.map_map];rfl
 refine⟨_,rfl,p,_,_,_,_,rfl,h.ob,T.cl_Tally,T.n_Tally_versions,rfl,G.Vd,_,rfl,.inl h.ve,?_,fun l ys hl pm io=>?_⟩
 ·rw[ek];exact⟨by simp only[qQ0];omega,fun x hx=>by obtain⟨z,_,rfl⟩:=qQ3.mp hx;exact⟨z,rfl⟩⟩
 rw[ek]at pm
 obtain⟨ks,rfl,pk⟩:=J3 pm
 unfold N8 at io
 rw[List.map_map]at io
 have s1:=b9 (o:=.lst (ks.map V.str)) hl
 have hl1:(upd H l (.lst (ks.map V.str))) l=_:=b0
 have lk:ks.length≤63:=by rw[pk.length_eq,qQ0];exact z1
 generalize upd H l (.lst (ks.map V.str))=H1 at s1 hl1 ⊢
 refine⟨l,rfl,⟨_,d7.of hl1⟩,fun acc hacc=>?_⟩
 have nac:=j5 s1 hacc
 refine B7 (xs:=ks.map V.str) (fun i H'=>∃xs,g6 H1 H'∧H' acc=some (.lst xs)∧Prs H' (a6n st (ks.take i)) xs) ⟨[],b9 hacc,b0,.nil⟩ (fun i H' _ h=>d7.of (h.choose_spec.1 _ _ hl1)) (fun i x H' hx h'=>?_) (fun H2 h'=>?_)
 ·obtain⟨xs,sm,h1,h2⟩:=h'
  rw[qQ8]at hx
  obtain⟨g,hg,rfl⟩:=Option.map_eq_some_iff.mp hx
  have c:g∈st.vers.map (·.1):=pk.mem_iff.mp (List.mem_of_getElem? hg)
  have hc:=h.same (s1.trans sm)
  have dv2:=t9.k (k:=Sum.inr g) hc.ve
  rw[a4f st.vers (fun g=>V.ref (G.vl g)),if_pos c]at dv2
  obtain⟨qq,hqq,rfl⟩:=qQ3.mp c
  obtain⟨zs,x1,x2,_⟩:=hc.vl qq hqq
  obtain⟨xr,hR,pR⟩:=hc.rc
  have lR:=n5 pR
  refine⟨_,rfl,_,rfl,p,_,_,_,_,rfl,hc.ob,T.cl_Tally,T.n_Tally_versions,rfl,_,rfl,G.Vd,_,rfl,dv2,_,rfl,p,_,_,rfl,hc.ob,rfl,p,_,_,_,_,_,_,_,xr,rfl,hc.ob,hR,G.vl qq.1,qq.2,_,rfl,⟨zs,d7.of x1,a6i x2⟩,z2 qq hqq,fun H3 s3=>?_⟩
  refine⟨(by show 2≤sizeLine;decide),fun b hb=>?_⟩
  have s4:=b9 (o:=.tup [V.str qq.1,V.int (valueAt qq.2 (xr.length:Int))]) hb
  have nb:acc≠b:=e7 (s3 _ _ h1) hb
  refine⟨xs,s4 _ _ (s3 _ _ h1),m9 (by rw[n5 h2];unfold a6n;rw[qQ0,List.length_take];omega),xs++[.ref b],j7 ((sm.trans s3).trans s4) hacc,b0,?_⟩
  have et:a6n st (ks.take (i+1))=a6n st (ks.take i)++[(qq.1,valueAt qq.2 (xr.length:Int))]:=by
   unfold a6n
   rw[List.take_add_one,hg,Option.toList_some,qQ6]
   unfold valOf
   rw[List.map_singleton,a7h h.vd hqq,lR]
  rw[et]
  have k4:=n9 (o:=.lst (xs++[V.ref b])) (s4 _ _ (s3 _ _ h1))
  exact Paired.snoc ((h2.tupK (s3.trans s4).tupK).tupK k4) ⟨b,rfl,k4.1 _ _ b0⟩
 obtain⟨xs,sm,h1,h2⟩:=h'
 rw[qQ0,List.take_length]at h2
 exact q acc H2 (s1.trans sm) ⟨xs,ks,h1,h2,pk,io⟩
def a9v:i7→Option Str
 | .put _ g _=>some g
 | _=>none
structure Kin(L:List Str)(st:j0):Prop where
 asd:∀d∈st.under,∀p∈d.aside,p.1∈L
 ver:∀q∈st.vers,q.1∈L
theorem a4w{L:List Str}{m:Int}:∀(am:Am) (v:G3),(∀q∈v,q.1∈L)→(∀p∈am,p.1∈L)→∀q∈B8 v am m,q.1∈L
 | [],_,h,_=>h
 | a::am,v,h,k=>by
  refine a4w am (C4 v a.1 (m,a.2)) (fun q hq=>?_) fun p hp=>k p (List.mem_cons_of_mem _ hp)
  have:q.1∈(C4 v a.1 (m,a.2)).map (·.1):=qQ3.mpr ⟨q,hq,rfl⟩
  rw[W7]at this
  have old:∀{x},x∈v.map (·.1)→x∈L:=fun {x} hx=>by obtain⟨r,hr,rfl⟩:=qQ3.mp hx;exact h r hr
  split at this
  ·exact old this
  ·rcases qQ5.mp this with z | z
   ·exact old z
   ·rw[qQ2.mp z];exact k a List.mem_cons_self
theorem b1i{L:List Str}{st st':j0}{d:i7}{a:t7}(h:Kin L st)(hd:∀g,a9v d=some g→g∈L)(s:Step st d a st'):Kin L st':=by
 have leave:∀n,Kin L (u9 st n):=fun n=>⟨fun d hd=>h.asd d (qW0.mp hd).1,h.ver⟩
 cases s with
 | begin=>
  refine⟨fun d hd=>?_,h.ver⟩
  rcases qQ5.mp hd with hd | hd
  ·exact h.asd d hd
  ·rw[qQ2.mp hd];intro p hp;simp at hp
 | @sweep m _=>
  refine⟨h.asd,fun q hq=>?_⟩
  obtain⟨r,hr,rfl⟩:=qQ3.mp hq
  exact h.ver r hr
 | none _ _=>exact h
 | own _ _=>exact h
 | @look d g _ _=>
  refine⟨fun e he=>?_,h.ver⟩
  obtain⟨x,hx,z | z⟩:=C8 he
  ·rw[z];exact h.asd x hx
  ·rw[z];exact h.asd x hx
 | @put d g a _=>
  refine⟨fun e he p hp=>?_,h.ver⟩
  obtain⟨x,hx,z | z⟩:=C8 he
  ·rw[z]at hp;exact h.asd x hx p hp
  ·rw[z]at hp
   rcases a7O hp with ⟨r,hr,e⟩ | e
   ·rw[←e];exact h.asd x hx r hr
   ·rw[e];exact hd g rfl
 | leave _=>exact leave _
 | ring _ _=>exact leave _
 | @ended d r cs row hu E=>exact⟨fun e he=>h.asd e (qW0.mp he).1,a4w _ _ h.ver (h.asd d hu)⟩
theorem a4B{ds:List i7}{as:List t7}{st:j0}(R:Run O1 ds as st):Kin (ds.filterMap a9v) st∧(st.vers.map (·.1)).Nodup:=by
 induction R with
 | nil=>exact⟨⟨(fun d h=>nomatch h),(fun d h=>nomatch h)⟩,List.nodup_nil⟩
 | @snoc ds as st st' d a R S ih=>
  have up:Kin ((ds++[d]).filterMap a9v) st:=by
   rw[List.filterMap_append]
   exact⟨fun e he p hp=>List.mem_append_left _ (ih.1.asd e he p hp),fun q hq=>List.mem_append_left _ (ih.1.ver q hq)⟩
  refine⟨b1i up (fun g hg=>?_) S,a9J ih.2 S⟩
  rw[List.filterMap_append]
  exact List.mem_append_right _ (List.mem_filterMap.mpr ⟨d,by simp,hg⟩)
theorem a4M{ds:List i7}{as:List t7}{st:j0}(R:Run O1 ds as st):st.vers.length≤ds.length:=by
 have k:=a4B R
 have:=u7 (m:=ds.filterMap a9v) k.2 fun x hx=>by obtain⟨q,hq,rfl⟩:=qQ3.mp hx;exact k.1.ver q hq
 rw[qQ0]at this
 exact Nat.le_trans this (List.length_filterMap_le _ _)
inductive a8W(K:PySem.W.Frag)(vs:List V)(H:Hp)(Q:VK):Prop
 | mk (l:Addr) (ds:List i7) (xs:List V) (x0:vs=[.ref l]) (x1:H l=some (.lst xs)) (x2:y0 H ds xs) (x3:ds.length≤63) (xq:∀(as:List t7) (st:j0) (p W r:Addr) (H':Hp),Run O1 ds as st→g6 H H'→H' p=some (.tup [.ref W,.ref r])→H' W=some (.lst (st.row.map V.int))→Amt st H' r→Q (.ref p) H')
def b0g(K:PySem.W.Frag):Sp:=fun vs H Q _=>a8W K vs H Q
theorem b1d(T:A1 K mg t):g8 P w K mg base x9 10 t.f_ending t.d_ending ["deeds"] (b0g K):=by
 refine T.F_ending.ok a8F (fun vs H Q E h=>?_) (fun cdv A outer s H vs Q E hr h=>?_)
 ·obtain⟨l,ds,xs,rfl,_⟩:=h
  rfl
 obtain⟨l,ds,xs,rfl,hl,hd,bn,q⟩:=h
 refine⟨_,(b8 (g7 (i:=1) a8F.nd rfl (Or.inl rfl) (j9 (g8.mono (k:=9) (a1x T) (by decide)) hr rfl T.m_tally_behind T.F_tally_behind.kp T.F_tally_behind.b .nil l4 (a6 (pv 0) b6)))
 (c9 (i3 (u6 (a6 (q5 (pv 1) rfl) (a6 (O5 (pv 1) T.cl_Tally T.M_Tally_amounts (g8.mono (k:=9) (a9s T) (by decide)) hr T.F_Tally_amounts.b .nil l4) b6)))))),?_⟩
 refine⟨_,rfl,l,ds,xs,rfl,hl,hd,bn,fun as st G H' p R s1 h bd=>?_⟩
 have sq:ds.length*ds.length≤63*63:=Nat.mul_le_mul bn bn
 refine⟨_,rfl,p,_,_,_,_,rfl,h.ob,T.cl_Tally,T.n_Tally_row,rfl,_,rfl,p,_,_,rfl,h.ob,rfl,G,p,st,rfl,h,Nat.le_trans (a4M R) bn,fun x hx=>by have:=bd.vl x hx;omega,fun r H2 s2 am=>?_⟩
 refine⟨(by show 2≤sizeLine;decide),fun b hb=>?_⟩
 have s3:=b9 (o:=.tup [.ref G.W,.ref r]) hb
 obtain⟨xs',ks,h1,h2,h3,h4⟩:=am
 exact q as st b G.W r _ R ((s1.trans s2).trans s3) b0 (s3 _ _ (s2 _ _ h.rw)) ⟨xs',ks,s3 _ _ h1,h2.tupK s3.tupK,h3,h4⟩
inductive a9G(K:PySem.W.Frag)(vs:List V)(H:Hp)(Q:VK):Prop
 | mk (a:Addr) (ns:List Int) (m b:V) (x0:vs=[.ref a,m,b]) (x1:d7 K H a (ns.map V.int)) (x2:ns.length≤63) (xq:Q m H)
def a6L(K:PySem.W.Frag):Sp:=fun vs H Q _=>a9G K vs H Q
theorem a9N(T:A1 K mg t):g8 P w K mg base x9 1 t.f__law_room t.d__law_room ["_law_script","_law_most","_law_bound"] (a6L K):=by
 refine T.F__law_room.ok a5O (fun vs H Q E h=>?_) (fun cdv A outer s H vs Q E hr h=>?_)
 ·obtain⟨a,ns,m,b,rfl,_⟩:=h
  rfl
 obtain⟨a,ns,m,b,rfl,hS,hl,q⟩:=h
 refine⟨_,(b8 (k7 (f7 a4y (f6 g9 rfl T.m_len PySem.boot_len (a6 (pv 0) b6)) d5 (i5 _))
 (c9 (i3 (pv 2)))
 i9)
 (c9 (i3 (pv 1)))),?_⟩
 refine⟨_,rfl,a,_,rfl,.inl hS,_,_,rfl,rfl,_,rfl,?_⟩
 refine G9 (fun c=>?_) (fun c=>?_)
 ·have c':(63:Int)<(((ns.map V.int).length:Nat):Int):=of_decide_eq_true c
  rw[qQ0]at c'
  omega
 ·exact⟨_,rfl,q⟩
mutual
def P7:PyData→Nat
 | .list ds=>B6 ds+1
 | .tuple ds=>B6 ds+1
 | _=>1
def B6:List PyData→Nat
 | []=>0
 | d::ds=>P7 d+B6 ds
end
theorem N3:∀(a b:List PyData),B6 (a++b)=B6 a+B6 b
 | [],b=>by rw[List.nil_append,B6,Nat.zero_add]
 | d::a,b=>by rw[List.cons_append,B6,B6,N3 a b];omega
theorem a2U:∀d:PyData,1≤P7 d
 | .list ds=>by unfold P7;omega
 | .tuple ds=>by unfold P7;omega
 | .none=>by unfold P7;omega
 | .bool _=>by unfold P7;omega
 | .int _=>by unfold P7;omega
 | .str _=>by unfold P7;omega
 | .dict _=>by unfold P7;omega
theorem a1h:∀ds:List PyData,ds.length≤B6 ds
 | []=>Nat.zero_le _
 | d::ds=>by have:=a2U d;have:=a1h ds;rw[List.length_cons,B6];omega
def V2(d:PyData):Prop:=u5 d=true∧d.canLay0=true∧d.depth≤50
theorem a7V{es:List PyData}(h1:z8 es=true)(h2:PyData.canLayAll0 es=true)(h3:PyData.depthAll es≤50):∀d∈es,V2 d:=by
 induction es with
 | nil=>intro d hd;simp at hd
 | cons e es ih=>
  rw[z8,Bool.and_eq_true]at h1
  rw[PyData.canLayAll0,Bool.and_eq_true]at h2
  rw[PyData.depthAll]at h3
  intro d hd
  rcases qQ9.mp hd with rfl | hd
  ·exact⟨h1.1,h2.1,by omega⟩
  ·exact ih h1.2 h2.2 (by omega) d hd
theorem b8c{es:List PyData}(h:V2 (.list es)):∀d∈es,V2 d:=by
 obtain⟨h1,h2,h3⟩:=h
 unfold u5 at h1
 unfold PyData.canLay0 at h2
 unfold PyData.depth at h3
 exact a7V h1 h2 (by omega)
theorem b5h{es:List PyData}(h:V2 (.tuple es)):∀d∈es,V2 d:=by
 obtain⟨h1,h2,h3⟩:=h
 unfold u5 at h1
 unfold PyData.canLay0 at h2
 unfold PyData.depth at h3
 exact a7V h1 h2 (by omega)
def Td(K:PySem.W.Frag)(H H':Hp)(ds:List PyData)(xs:List V):Prop:=Paired (fun d x=>∃p u v,x=.ref p∧H' p=some (.tup [u,v])∧Rep K H d u∧Rep K H d v) ds xs
theorem Td.tupK{K:PySem.W.Frag}{H H1 H2:Hp}(k:r9 H1 H2):∀{ds:List PyData} {xs:List V},Td K H H1 ds xs→Td K H H2 ds xs
 | _,_,.nil=>.nil
 | _,_,.cons ⟨p,u,v,e,h,r⟩ t=>.cons ⟨p,u,v,e,k.1 _ _ h,r⟩ (Td.tupK k t)
theorem Td.append{K:PySem.W.Frag}{H H1:Hp}{es:List PyData}{ys:List V}(h:Td K H H1 es ys):∀{ds:List PyData} {xs:List V},Td K H H1 ds xs→Td K H H1 (ds++es) (xs++ys)
 | _,_,.nil=>h
 | _,_,.cons r t=>.cons r (Td.append h t)
theorem Td.len{K:PySem.W.Frag}{H H1:Hp}{ds:List PyData}{xs:List V}(h:Td K H H1 ds xs):xs.length=ds.length:=by
 induction h with
 | nil=>rfl
 | cons _ _ ih=>simp[ih]
def dd(d:PyData):PyData:=.tuple [d,d]
theorem Td.reps{K:PySem.W.Frag}{H H1:Hp}(s:g6 H H1):∀{ds:List PyData} {xs:List V},Td K H H1 ds xs→p5 K H1 (ds.map dd) xs
 | _,_,.nil=>rfl
 | _,_,.cons ⟨p,u,v,e,h,r1,r2⟩ t=>by
  rw[List.map_cons]
  unfold p5
  refine⟨_,_,rfl,?_,Td.reps s t⟩
  unfold dd
  simp only[Rep,p5]
  exact⟨p,_,e,i4.of h,u,_,rfl,r1.same s,v,_,rfl,r2.same s,rfl⟩
theorem b3g:∀{ds:List PyData},(∀d∈ds,V2 d)→PyData.canLayAll0 (ds.map dd)=true
 | [],_=>by rw[List.map_nil,PyData.canLayAll0]
 | d::ds,h=>by
  rw[List.map_cons,PyData.canLayAll0,b3g fun e he=>h e (List.mem_cons_of_mem _ he)]
  simp[dd,PyData.canLay0,PyData.canLayAll0,(h d List.mem_cons_self).2.1]
theorem a3Q:∀{ds:List PyData},(∀d∈ds,V2 d)→PyData.depthAll (ds.map dd)≤51
 | [],_=>by rw[List.map_nil,PyData.depthAll];omega
 | d::ds,h=>by
  rw[List.map_cons,PyData.depthAll]
  have:=a3Q fun e he=>h e (List.mem_cons_of_mem _ he)
  have z:=(h d List.mem_cons_self).2.2
  simp only[dd,PyData.depth,PyData.depthAll]
  omega
theorem a8q{α β:Type}{F:α→β→Prop}:∀{l:List α} {m:List β} {x:α},Paired F (l++[x]) m→∃m' y,m=m'++[y]∧Paired F l m'∧F x y
 | [],_,_,.cons r .nil=>⟨[],_,rfl,.nil,r⟩
 | a::l,_,_,.cons r t=>by
  obtain⟨m',y,e,h1,h2⟩:=a8q (l:=l) t
  exact⟨_::m',y,by rw[e];rfl,.cons r h1,h2⟩
inductive a4p(K:PySem.W.Frag)(vs:List V)(H:Hp)(Q:VK):Prop
 | mk (x y:V) (d:PyData) (x0:vs=[x,y]) (x1:Rep K H d x) (x2:Rep K H d y) (x3:V2 d) (x4:P7 d≤1000000) (xq:∀H',g6 H H'→Q (.bl true) H')
def a2t(K:PySem.W.Frag):Sp:=fun vs H Q _=>a4p K vs H Q
theorem a7t(T:A1 K mg t):g8 P w K mg base x9 1 t.f__law_unturned t.d__law_unturned ["_law_found","_law_due"] (a2t K):=by
 refine T.F__law_unturned.ok J1 (fun vs H Q E h=>?_) (fun cdv A outer s H vs Q E hr h=>?_)
 ·obtain⟨x,y,d,rfl,_⟩:=h
  rfl
 obtain⟨x,y,d,rfl,rx,ry,fd,zd,q⟩:=h
 refine⟨_,(b8 (g7 (i:=2) J1.nd rfl (Or.inl rfl) (m4 (a6 (u6 (a6 (pv 0) (a6 (pv 1) b6))) b6)))
 (b8 (a0h PassesOwn.never (f7 (a0l hr.units) (pv 2) (m4 b6) (i5 _))
 (b8 (b5x (a4Q PySem.F.plainAttrs_list PySem.F.slot_list_pop PySem.F.type_list_pop b4g (pv 2)) (a8Q rfl (Q9 (m5 (i:=3) J1.nd rfl (Or.inl rfl)) (Q9 (m5 (i:=4) J1.nd rfl (Or.inl rfl)) a8y))))
 (c9 (k7 (A5 (f6 a7l rfl T.m_isinstance boot_isinstance (a6 (pv 4) (a6 (u6 (a6 (r8 (v:=.ty "list") rfl T.m_list boot_list rfl) (a6 (r8 (v:=.ty "tuple") rfl T.m_tuple boot_tuple rfl) b6))) b6))))
 (b8 (k7 (f7 N0 (f6 t8 rfl T.m_isinstance boot_isinstance (a6 (pv 3) (a6 (r8 (v:=.ty "list") rfl T.m_list boot_list rfl) b6))) (f6 t8 rfl T.m_isinstance boot_isinstance (a6 (pv 4) (a6 (r8 (v:=.ty "list") rfl T.m_list boot_list rfl) b6))) (i5 _))
 (c9 (i3 y6))
 i9)
 (b8 (k7 (PW.pt (J9 (J8 (A5 (f6 a7l rfl T.m_isinstance boot_isinstance (a6 (pv 3) (a6 (u6 (a6 (r8 (v:=.ty "list") rfl T.m_list boot_list rfl) (a6 (r8 (v:=.ty "tuple") rfl T.m_tuple boot_tuple rfl) b6))) b6))))) (D7 (f7 N0 (f6 g9 rfl T.m_len PySem.boot_len (a6 (pv 3) b6)) (f6 g9 rfl T.m_len PySem.boot_len (a6 (pv 4) b6)) (i5 _)))))
 (c9 (i3 y6))
 i9)
 (c9 (A9 PassesOwn.never rfl (M9 rfl T.m_range (a6 (f6 g9 rfl T.m_len PySem.boot_len (a6 (pv 4) b6)) b6)) (m5 (i:=5) J1.nd rfl (Or.inl rfl))
 (c9 (l6 (p8 PySem.F.plainAttrs_list PySem.F.slot_list_append PySem.F.type_list_append m7 (pv 2) (a6 (u6 (a6 (d8 b8d (pv 3) (pv 5) (fun _ _=>rfl)) (a6 (d8 b8d (pv 4) (pv 5) (fun _ _=>rfl)) b6))) b6))))))))
 (c9 (k7 (PW.pt (J9 (f7 a1b (pv 3) O8 (i5 _)) (D7 (f7 a1b (pv 4) O8 (i5 _)))))
 (c9 (k7 (PW.pt (J9 (f7 a6V (pv 3) O8 (i5 _)) (D7 (f7 a6V (pv 4) O8 (i5 _)))))
 (c9 (i3 y6))
 i9))
 (c9 (k7 (f7 N0 (f6 t8 rfl T.m_isinstance boot_isinstance (a6 (pv 3) (a6 (r8 (v:=.ty "bool") rfl T.m_bool boot_bool rfl) b6))) (f6 t8 rfl T.m_isinstance boot_isinstance (a6 (pv 4) (a6 (r8 (v:=.ty "bool") rfl T.m_bool boot_bool rfl) b6))) (i5 _))
 (c9 (i3 y6))
 (c9 (k7 (f7 N0 (f6 t8 rfl T.m_isinstance boot_isinstance (a6 (pv 3) (a6 (r8 (v:=.ty "str") rfl T.m_str boot_str rfl) b6))) (f6 t8 rfl T.m_isinstance boot_isinstance (a6 (pv 4) (a6 (r8 (v:=.ty "str") rfl T.m_str boot_str rfl) b6))) (i5 _))
 (c9 (i3 y6))
 (c9 (k7 (PW.pt (J9 (J8 (A5 (f6 a7l rfl T.m_isinstance boot_isinstance (a6 (pv 3) (a6 (u6 (a6 (r8 (v:=.ty "str") rfl T.m_str boot_str rfl) (a6 (r8 (v:=.ty "int") rfl T.m_int boot_int rfl) b6))) b6))))) (D7 (f7 N0 (pv 3) (pv 4) (i5 _)))))
 (c9 (i3 y6))
 i9))))))))))))
 (c9 (i3 y6)))),?_⟩
 refine⟨_,rfl,_,rfl,(by show 2≤sizeLine;decide),fun p hp=>⟨(by show 1≤sizeLine;decide),fun l hl=>?_⟩⟩
 have hlH:H l=none:=by
  cases z:H l with
  | none=>rfl
  | some o=>rw[b9 hp _ _ z]at hl;cases hl
 refine⟨fun m σ' H'=>∃o1 o2 o3 xs ds,σ'=[some x,some y,some (.ref l),o1,o2,o3]∧g6 H H'∧H' l=some (.lst xs)∧Td K H H' ds xs∧(∀d∈ds,V2 d)∧B6 ds=m∧m≤1000000,
  ⟨P7 d,none,none,none,[.ref p],[d],rfl,(b9 hp).trans (b9 hl),b0,.cons ⟨p,x,y,rfl,b9 hl _ _ b0,rx,ry⟩ .nil,fun e he=>by rw[qQ2.mp he];exact fd,by simp[B6],zd⟩,?_⟩
 rintro m σ' H' ⟨o1,o2,o3,xs,ds,rfl,sm,hx,td,fn,rfl,zm⟩
 refine⟨_,rfl,(by show 0≤sizeLine;decide),fun e he=>?_⟩
 have s1:g6 H' (upd H' e (.lst [])):=b9 he
 refine⟨.list (ds.map dd),.list [],by unfold Rep;exact⟨l,xs,rfl,d7.of (s1 _ _ hx),(td.reps sm).same s1⟩,?_,?_,?_,?_,?_⟩
 ·unfold Rep;exact⟨e,[],rfl,d7.of b0,rfl⟩
 ·unfold PyData.canLay0;exact b3g fn
 ·simp[PyData.canLay0,PyData.canLayAll0]
 ·have:=a3Q fn;unfold PyData.depth;omega
 have ec:∀{es:List PyData} {e:PyData},PyData.eqv (.list ((es++[e]).map dd)) (.list [])=false:=fun {es e}=>by
  cases es<;>simp[PyData.eqv,PyData.eqvAll]
 refine⟨_,rfl,?_⟩
 rcases List.eq_nil_or_concat ds with rfl | ⟨ds',d',rfl⟩
 ·refine G9 (fun c=>?_) (fun c=>?_)
  ·simp[PyData.eqv,PyData.eqvAll]at c
  ·exact q _ (sm.trans s1)
 rw[List.concat_eq_append]at td fn zm ⊢
 refine G9 (fun c=>?_) (fun c=>by exfalso;rw[ec]at c;simp at c)
 obtain⟨xs',y',rfl,td',p',u,v,rfl,hp',ru,rv⟩:=a8q td
 have fd':=fn d' (by simp)
 have fn':∀e∈ds',V2 e:=fun e he=>fn e (by simp[he])
 have dz:B6 (ds'++[d'])=B6 ds'+P7 d':=by rw[N3];simp[B6]
 have dl:=a1h (ds'++[d'])
 refine⟨fun σ2 H2=>∃m',m'<B6 (ds'++[d'])∧∃o1 o2 o3 zs es,σ2=[some x,some y,some (.ref l),o1,o2,o3]∧g6 H H2∧H2 l=some (.lst zs)∧Td K H H2 es zs∧(∀e∈es,V2 e)∧B6 es=m'∧m'≤1000000,fun _ _ z=>z,?_⟩
 have hx1:(upd H' e (.lst [])) l=some (.lst (xs'++[.ref p'])):=s1 _ _ hx
 refine⟨_,rfl,.inl ⟨rfl,_,d7.of hx1⟩,l,_,.ref p',rfl,rfl,hx1,by simp,?_⟩
 rw[List.dropLast_concat]
 generalize hH1:upd (upd H' e (.lst [])) l (.lst xs')=H1
 have k1:r9 H' H1:=by rw[←hH1];exact s1.tupK.trans (n9 hx1)
 have sm1:g6 H H1:=by rw[←hH1];exact j7 (sm.trans s1) hlH
 have hl1:H1 l=some (.lst xs'):=by rw[←hH1];exact b0
 have td1:Td K H H1 ds' xs':=Td.tupK k1 td'
 refine⟨p',_,rfl,i4.of (k1.1 _ _ hp'),rfl,u,_,rfl,v,_,rfl,rfl,?_⟩
 refine⟨_,rfl,(by show 2≤sizeLine;decide),fun g hg=>⟨v,tyD d',"list","tuple",g,rfl,b0,((rv.same sm1).same (b9 hg)).ty,by decide,by decide,_,rfl,?_⟩⟩
 have sg:g6 H1 (upd H1 g (.tup [.ty "list",.ty "tuple"])):=b9 hg
 generalize hH2:upd H1 g (.tup [.ty "list",.ty "tuple"])=H2 at sg ⊢
 have sm2:=sm1.trans sg
 have hl2:H2 l=some (.lst xs'):=sg _ _ hl1
 have td2:=td1.tupK sg.tupK
 have leaf:∀o3 H3,g6 H2 H3→∃m',m'<B6 (ds'++[d'])∧∃o1 o2 o3' zs es,[some x,some y,some (.ref l),some u,some v,o3]=[some x,some y,some (.ref l),o1,o2,o3']∧g6 H H3∧H3 l=some (.lst zs)∧Td K H H3 es zs∧(∀e∈es,V2 e)∧B6 es=m'∧m'≤1000000:=fun o3 H3 s3=>
  ⟨B6 ds',by rw[dz];have:=a2U d';omega,_,_,_,xs',ds',rfl,sm2.trans s3,s3 _ _ hl2,td2.tupK s3.tupK,fn',rfl,by omega⟩
 cases d' with
 | bool b=>exact absurd fd'.1 (by simp[u5])
 | dict _=>exact absurd fd'.1 (by simp[u5])
 | list es=>
  unfold Rep at ru rv
  obtain⟨pu,us,rfl,hu,rus⟩:=ru
  obtain⟨pv',ws,rfl,hv,rvs⟩:=rv
  have lu:=rus.len
  have lv:=rvs.len
  have es0:P7 (.list es)=B6 es+1:=by unfold P7;rfl
  have le:=a1h es
  have fe:=b8c fd'
  refine l5 ?_
  refine⟨_,rfl,.ref pu,"list","list",rfl,.inl ⟨rfl,_,hu.same sm2⟩,by decide,_,rfl,.ref pv',"list","list",rfl,.inl ⟨rfl,_,hv.same sm2⟩,by decide,rfl,_,rfl,d9 ?_⟩
  refine⟨_,rfl,(by show 2≤sizeLine;decide),fun g2 hg2=>⟨.ref pu,"list","list","tuple",g2,rfl,b0,.inl ⟨rfl,_,(hu.same sm2).same (b9 hg2)⟩,by decide,by decide,_,rfl,?_⟩⟩
  have sg2:g6 H2 (upd H2 g2 (.tup [.ty "list",.ty "tuple"])):=b9 hg2
  generalize hH3:upd H2 g2 (.tup [.ty "list",.ty "tuple"])=H3 at sg2 ⊢
  have sm3:=sm2.trans sg2
  refine d9 ?_
  refine⟨_,rfl,pu,us,rfl,.inl (hu.same sm3),_,rfl,pv',ws,rfl,.inl (hv.same sm3),rfl,_,rfl,V5 (by rw[←lu,←lv]) ?_⟩
  refine⟨_,rfl,pv',ws,rfl,.inl (hv.same sm3),?_⟩
  refine⟨_,rfl,by omega,by omega,?_⟩
  have en:(((ws.length:Nat):Int)).toNat=es.length:=by omega
  rw[en]
  refine K5 (fun i σ2 Hx=>∃o zs,σ2=[some x,some y,some (.ref l),some (.ref pu),some (.ref pv'),o]∧g6 H Hx∧Hx l=some (.lst zs)∧Td K H Hx (ds'++es.take i) zs)
   ⟨o3,xs',rfl,sm3,sg2 _ _ hl2,by rw[List.take_zero,List.append_nil];exact td2.tupK sg2.tupK⟩ (fun i σ2 Hx hi h=>?_) (fun σ2 Hx h=>?_)
  ·obtain⟨o,zs,rfl,smx,hlx,tdx⟩:=h
   obtain⟨a1,ha1,r1⟩:=rus.at (List.getElem?_eq_getElem hi)
   obtain⟨a2,ha2,r2⟩:=rvs.at (List.getElem?_eq_getElem hi)
   have e0:(0:Int)+(i:Int)=((i:Nat):Int):=by omega
   have ax1:D6 us ((0:Int)+(i:Int))=some a1:=by rw[e0];exact i8 ha1
   have ax2:D6 ws ((0:Int)+(i:Int))=some a2:=by rw[e0];exact i8 ha2
   refine⟨_,rfl,.inl ⟨rfl,_,d7.of hlx⟩,_,rfl,_,rfl,.inl ⟨pu,us,_,a1,rfl,rfl,hu.same smx,ax1,_,rfl,_,rfl,.inl ⟨pv',ws,_,a2,rfl,rfl,hv.same smx,ax2,(by show 2≤sizeLine;decide),fun pn hpn=>?_⟩⟩⟩
   have hn:pn≠l:=fun z=>by rw[z,hlx]at hpn;cases hpn
   have hlp:=b9 (o:=.tup [a1,a2]) hpn _ _ hlx
   refine⟨l,zs,.ref pn,rfl,rfl,hlp,?_,?_⟩
   ·rw[tdx.len,qQ4,List.length_take,sizeLine_eq]
    rw[qQ4]at dl
    rw[dz]at dl zm
    omega
   ·refine⟨_,_,rfl,j7 (smx.trans (b9 hpn)) hlH,b0,?_⟩
    rw[List.take_add_one,List.getElem?_eq_getElem hi,←List.append_assoc]
    have k3:=(C6 (o:=.tup [a1,a2]) hpn).trans (n9 (o:=.lst (zs++[.ref pn])) hlp)
    exact Td.append (.cons ⟨pn,a1,a2,rfl,by rw[b7 hn];exact b0,r1,r2⟩ .nil) (tdx.tupK k3)
  ·obtain⟨o,zs,rfl,smx,hlx,tdx⟩:=h
   rw[List.take_length]at tdx
   refine⟨B6 (ds'++es),by rw[dz,N3,es0];omega,_,_,_,zs,ds'++es,rfl,smx,hlx,tdx,fun e he=>(qQ5.mp he).elim (fun z=>fn' e z) fun z=>fe e z,rfl,?_⟩
   rw[N3]
   rw[dz,es0]at zm
   omega
 | tuple es=>
  unfold Rep at ru rv
  obtain⟨pu,us,rfl,hu,rus⟩:=ru
  obtain⟨pv',ws,rfl,hv,rvs⟩:=rv
  have lu:=rus.len
  have lv:=rvs.len
  have es0:P7 (.tuple es)=B6 es+1:=by unfold P7;rfl
  have le:=a1h es
  have fe:=b5h fd'
  refine l5 ?_
  refine⟨_,rfl,.ref pu,"tuple","list",rfl,.inr (.inl ⟨rfl,_,hu.same sm2⟩),by decide,_,rfl,.ref pv',"tuple","list",rfl,.inr (.inl ⟨rfl,_,hv.same sm2⟩),by decide,rfl,_,rfl,d9 ?_⟩
  refine⟨_,rfl,(by show 2≤sizeLine;decide),fun g2 hg2=>⟨.ref pu,"tuple","list","tuple",g2,rfl,b0,.inr (.inl ⟨rfl,_,(hu.same sm2).same (b9 hg2)⟩),by decide,by decide,_,rfl,?_⟩⟩
  have sg2:g6 H2 (upd H2 g2 (.tup [.ty "list",.ty "tuple"])):=b9 hg2
  generalize hH3:upd H2 g2 (.tup [.ty "list",.ty "tuple"])=H3 at sg2 ⊢
  have sm3:=sm2.trans sg2
  refine d9 ?_
  refine⟨_,rfl,pu,us,rfl,.inr (hu.same sm3),_,rfl,pv',ws,rfl,.inr (hv.same sm3),rfl,_,rfl,V5 (by rw[←lu,←lv]) ?_⟩
  refine⟨_,rfl,pv',ws,rfl,.inr (hv.same sm3),?_⟩
  refine⟨_,rfl,by omega,by omega,?_⟩
  have en:(((ws.length:Nat):Int)).toNat=es.length:=by omega
  rw[en]
  refine K5 (fun i σ2 Hx=>∃o zs,σ2=[some x,some y,some (.ref l),some (.ref pu),some (.ref pv'),o]∧g6 H Hx∧Hx l=some (.lst zs)∧Td K H Hx (ds'++es.take i) zs)
   ⟨o3,xs',rfl,sm3,sg2 _ _ hl2,by rw[List.take_zero,List.append_nil];exact td2.tupK sg2.tupK⟩ (fun i σ2 Hx hi h=>?_) (fun σ2 Hx h=>?_)
  ·obtain⟨o,zs,rfl,smx,hlx,tdx⟩:=h
   obtain⟨a1,ha1,r1⟩:=rus.at (List.getElem?_eq_getElem hi)
   obtain⟨a2,ha2,r2⟩:=rvs.at (List.getElem?_eq_getElem hi)
   have e0:(0:Int)+(i:Int)=((i:Nat):Int):=by omega
   have ax1:D6 us ((0:Int)+(i:Int))=some a1:=by rw[e0];exact i8 ha1
   have ax2:D6 ws ((0:Int)+(i:Int))=some a2:=by rw[e0];exact i8 ha2
   refine⟨_,rfl,.inl ⟨rfl,_,d7.of hlx⟩,_,rfl,_,rfl,.inr (.inl ⟨pu,us,_,a1,rfl,rfl,hu.same smx,ax1,_,rfl,_,rfl,.inr (.inl ⟨pv',ws,_,a2,rfl,rfl,hv.same smx,ax2,(by show 2≤sizeLine;decide),fun pn hpn=>?_⟩)⟩)⟩
   have hn:pn≠l:=fun z=>by rw[z,hlx]at hpn;cases hpn
   have hlp:=b9 (o:=.tup [a1,a2]) hpn _ _ hlx
   refine⟨l,zs,.ref pn,rfl,rfl,hlp,?_,?_⟩
   ·rw[tdx.len,qQ4,List.length_take,sizeLine_eq]
    rw[qQ4]at dl
    rw[dz]at dl zm
    omega
   ·refine⟨_,_,rfl,j7 (smx.trans (b9 hpn)) hlH,b0,?_⟩
    rw[List.take_add_one,List.getElem?_eq_getElem hi,←List.append_assoc]
    have k3:=(C6 (o:=.tup [a1,a2]) hpn).trans (n9 (o:=.lst (zs++[.ref pn])) hlp)
    exact Td.append (.cons ⟨pn,a1,a2,rfl,by rw[b7 hn];exact b0,r1,r2⟩ .nil) (tdx.tupK k3)
  ·obtain⟨o,zs,rfl,smx,hlx,tdx⟩:=h
   rw[List.take_length]at tdx
   refine⟨B6 (ds'++es),by rw[dz,N3,es0];omega,_,_,_,zs,ds'++es,rfl,smx,hlx,tdx,fun e he=>(qQ5.mp he).elim (fun z=>fn' e z) fun z=>fe e z,rfl,?_⟩
   rw[N3]
   rw[dz,es0]at zm
   omega
 | none=>
  unfold Rep at ru rv
  subst ru;subst rv
  refine d9 ?_
  refine⟨_,rfl,rfl,_,rfl,l5 ?_⟩
  refine l5 ?_
  refine⟨_,rfl,rfl,_,rfl,d9 ?_⟩
  refine⟨_,rfl,rfl,_,rfl,d9 ?_⟩
  exact leaf _ _ (g6.refl _)
 | int i=>
  unfold Rep at ru rv
  subst ru;subst rv
  refine d9 ?_
  refine⟨_,rfl,rfl,_,rfl,d9 ?_⟩
  refine⟨_,rfl,rfl,_,rfl,d9 ?_⟩
  refine⟨_,rfl,.int i,"int","bool",rfl,rfl,by decide,_,rfl,.int i,"int","bool",rfl,rfl,by decide,rfl,_,rfl,d9 ?_⟩
  refine⟨_,rfl,.int i,"int","str",rfl,rfl,by decide,_,rfl,.int i,"int","str",rfl,rfl,by decide,rfl,_,rfl,d9 ?_⟩
  refine⟨_,rfl,(by show 2≤sizeLine;decide),fun g2 hg2=>⟨.int i,"int","str","int",g2,rfl,b0,rfl,by decide,by decide,_,rfl,d9 ?_⟩⟩
  refine⟨_,rfl,_,rfl,rfl,_,rfl,V5 rfl ?_⟩
  exact leaf _ _ (b9 hg2)
 | str i=>
  unfold Rep at ru rv
  subst ru;subst rv
  refine d9 ?_
  refine⟨_,rfl,rfl,_,rfl,d9 ?_⟩
  refine⟨_,rfl,rfl,_,rfl,d9 ?_⟩
  refine⟨_,rfl,.str i,"str","bool",rfl,rfl,by decide,_,rfl,.str i,"str","bool",rfl,rfl,by decide,rfl,_,rfl,d9 ?_⟩
  refine⟨_,rfl,.str i,"str","str",rfl,rfl,by decide,_,rfl,.str i,"str","str",rfl,rfl,by decide,rfl,_,rfl,d9 ?_⟩
  refine⟨_,rfl,(by show 2≤sizeLine;decide),fun g2 hg2=>⟨.str i,"str","str","int",g2,rfl,b0,rfl,by decide,by decide,_,rfl,d9 ?_⟩⟩
  refine⟨_,rfl,_,rfl,rfl,_,rfl,V5 rfl ?_⟩
  exact leaf _ _ (b9 hg2)
inductive a6B(K:PySem.W.Frag)(vs:List V)(H:Hp)(Q:VK):Prop
 | mk (a b:Addr) (xs ys:List V) (tb:Am) (x0:vs=[.ref a,.ref b]) (x1:d7 K H a xs) (x2:d7 K H b ys) (x3:Prs H tb xs) (x4:Prs H tb ys) (x5:tb.length≤100000) (x6:(∀p∈tb,PyData.strOk p.1=true)) (xq:Q (.bl true) H)
def a3I(K:PySem.W.Frag):Sp:=fun vs H Q _=>a6B K vs H Q
theorem a6H(T:A1 K mg t):g8 P w K mg base x9 2 t.f__law_table t.d__law_table ["_law_found","_law_due"] (a3I K):=by
 refine T.F__law_table.ok a3j (fun vs H Q E h=>?_) (fun cdv A outer s H vs Q E hr h=>?_)
 ·obtain⟨a,b,xs,ys,tb,rfl,_⟩:=h
  rfl
 obtain⟨a,b,xs,ys,tb,rfl,hA,hB,pA,pB,hl,hok,q⟩:=h
 refine⟨_,(b8 (k7 (PW.pt (J9 (J8 (A5 (f6 t8 rfl T.m_isinstance boot_isinstance (a6 (pv 0) (a6 (r8 (v:=.ty "list") rfl T.m_list boot_list rfl) b6))))) (D7 (f7 N0 (f6 g9 rfl T.m_len PySem.boot_len (a6 (pv 0) b6)) (f6 g9 rfl T.m_len PySem.boot_len (a6 (pv 1) b6)) (i5 _)))))
 (c9 (i3 y6))
 i9)
 (b8 (A9 PassesOwn.never rfl (M9 rfl T.m_range (a6 (f6 g9 rfl T.m_len PySem.boot_len (a6 (pv 1) b6)) b6)) (m5 (i:=2) a3j.nd rfl (Or.inl rfl))
 (b8 (k7 (PW.pt (J9 (J8 (A5 (f6 t8 rfl T.m_isinstance boot_isinstance (a6 (d8 k8 (pv 0) (pv 2) (fun _ _=>rfl)) (a6 (r8 (v:=.ty "tuple") rfl T.m_tuple boot_tuple rfl) b6))))) (D7 (f7 N0 (f6 g9 rfl T.m_len PySem.boot_len (a6 (d8 k8 (pv 0) (pv 2) (fun _ _=>rfl)) b6)) d5 (i5 _)))))
 (c9 (i3 y6))
 i9)
 (b8 (k7 (PW.pt (J9 (J8 (A5 (f6 t8 rfl T.m_isinstance boot_isinstance (a6 (d8 h7 (d8 k8 (pv 0) (pv 2) (fun _ _=>rfl)) d5 (fun _ _=>rfl)) (a6 (r8 (v:=.ty "str") rfl T.m_str boot_str rfl) b6))))) (D7 (J8 (A5 (j9 (g8.mono (k:=1) (Q5 T) (by decide)) hr rfl T.m__law_whole T.F__law_whole.kp T.F__law_whole.b .nil l4 (a6 (d8 h7 (d8 k8 (pv 0) (pv 2) (fun _ _=>rfl)) d5 (fun _ _=>rfl)) b6)))))))
 (c9 (i3 y6))
 i9)
 (c9 (k7 (f7 (a0l hr.units) (d8 k8 (pv 0) (pv 2) (fun _ _=>rfl)) (d8 k8 (pv 1) (pv 2) (fun _ _=>rfl)) (i5 _))
 (c9 (i3 y6))
 i9)))))
 (c9 (i3 y6)))),?_⟩
 have lx:=n5 pA
 have ly:=n5 pB
 refine⟨_,rfl,.ref a,"list","list",rfl,.inl ⟨rfl,_,hA⟩,by decide,_,rfl,d9 ?_⟩
 refine⟨_,rfl,a,_,rfl,.inl hA,_,rfl,b,_,rfl,.inl hB,rfl,_,rfl,V5 (by rw[lx,ly]) ?_⟩
 refine⟨_,rfl,b,_,rfl,.inl hB,_,rfl,by omega,by omega,?_⟩
 have en:(((ys.length:Nat):Int)).toNat=tb.length:=by omega
 rw[en]
 refine K5 (fun i σ' H'=>H'=H∧∃o,σ'=[some (.ref a),some (.ref b),o]) ⟨rfl,_,rfl⟩ (fun i σ' H' hi h=>?_) (fun σ' H' h=>?_)
 ·obtain⟨rfl,o,rfl⟩:=h
  have e0:(0:Int)+(i:Int)=((i:Nat):Int):=by omega
  have hd:=List.getElem?_eq_getElem hi
  obtain⟨x,hx,r1⟩:=a4o pA hd
  obtain⟨y,hy,r2⟩:=a4o pB hd
  have ok:=hok _ (List.getElem_mem hi)
  generalize tb[i]=pr at r1 r2 ok
  obtain⟨p,rfl,hp⟩:=id r1
  have ax:D6 xs ((0:Int)+(i:Int))=some (.ref p):=by rw[e0];exact i8 hx
  have ay:D6 ys ((0:Int)+(i:Int))=some y:=by rw[e0];exact i8 hy
  have tp:=i4.of (K:=K) hp
  refine⟨_,rfl,_,rfl,a,_,_,_,rfl,rfl,hA,ax,_,"tuple","tuple",rfl,.inr (.inl ⟨rfl,_,tp⟩),by decide,_,rfl,d9 ?_⟩
  refine⟨_,rfl,_,rfl,a,_,_,_,rfl,rfl,hA,ax,p,_,rfl,.inr tp,rfl,_,rfl,d9 ?_⟩
  refine⟨_,rfl,_,rfl,a,_,_,_,rfl,rfl,hA,ax,p,_,0,_,rfl,rfl,tp,rfl,_,"str","str",rfl,rfl,by decide,_,rfl,d9 ?_⟩
  refine⟨_,rfl,_,rfl,a,_,_,_,rfl,rfl,hA,ax,p,_,1,_,rfl,rfl,tp,rfl,_,"int",rfl,rfl,_,rfl,d9 ?_⟩
  refine⟨_,rfl,_,rfl,a,_,_,_,rfl,rfl,hA,ax,_,rfl,_,rfl,b,_,_,_,rfl,rfl,hB,ay,prD pr,prD pr,r1.rep,r2.rep,a8T ok,a8T ok,b6c pr,_,rfl,?_⟩
  have ev:PyData.eqv (prD pr) (prD pr)=true:=a6u _ rfl
  rw[show(if true=true then !(prD pr).eqv (prD pr) else(prD pr).eqv (prD pr))=false by rw[ev];rfl]
  exact d9 ⟨rfl,_,rfl⟩
 ·obtain⟨rfl,_⟩:=h
  exact q
structure LG where
 rl:Addr→Role
 ba:Int→Addr
 la:Int→Addr
 bm:Int→Am
structure LD(W:LG)(H:Hp)(d:Dl):Prop where
 hb:H (W.ba d.num)=some (.dK (y8 (W.bm d.num)))
 hl:H (W.la d.num)=some (.dK (y8 d.aside))
 r5:W.rl (W.ba d.num)=.look d.num
 r6:W.rl (W.la d.num)=.side d.num
structure LA(ta bl ll ul:Addr)(W:LG)(H0 H:Hp)(st:j0)(tm:Am):Prop where
 sm:g6 H0 H
 nw:∀b,W.rl b≠.free→H0 b=none
 ht:H ta=some (.dK (y8 tm))
 hb:H bl=some (.lst ((nat st.begun).map fun n=>.ref (W.ba n)))
 hl:H ll=some (.lst ((nat st.begun).map fun n=>.ref (W.la n)))
 hu:H ul=some (.lst ((una st).map V.int))
 dl:∀d∈st.under,LD W H d
 r1:W.rl ta=.tally
 r2:W.rl bl=.recs
 r3:W.rl ll=.vers
 r4:W.rl ul=.under
 cl:∀b,H b=none→W.rl b=.free
 tv:∀g,(p9 tm g).getD 0=valOf st g (st.recs.length:Int)
 bv:∀d∈st.under,∀g,(p9 (W.bm d.num) g).getD 0=valOf st g d.beg
 tk:∀g,g∈tm.map (·.1)↔g∈st.vers.map (·.1)
 tn:(tm.map (·.1)).Nodup
theorem b4h{m:Am}{g h:Str}{a:Int}:h∈(C1 m g a).map (·.1)↔h∈m.map (·.1)∨h=g:=by
 rw[a6h]
 by_cases c:g∈m.map (·.1)
 ·rw[if_pos c];exact⟨.inl,fun z=>z.elim id fun e=>by rw[e];exact c⟩
 ·rw[if_neg c,qQ5,qQ2]
theorem a1P{h:Str}:∀{am m:Am},h∈(a9a m am).map (·.1)↔h∈m.map (·.1)∨h∈am.map (·.1)
 | [],m=>⟨.inl,fun z=>z.elim id fun e=>nomatch e⟩
 | p::am,m=>by
  show h∈(a9a (C1 m p.1 p.2) am).map (·.1)↔_
  rw[a1P,b4h,List.map_cons,qQ9,or_assoc]
theorem a1T:∀{am m:Am},(m.map (·.1)).Nodup→((a9a m am).map (·.1)).Nodup
 | [],m,h=>h
 | p::am,m,h=>a1T (am:=am) (m:=C1 m p.1 p.2) (a5V h)
theorem a6D{h:Str}{t:Int}:∀{am:Am} {v:G3},h∈(B8 v am t).map (·.1)↔h∈v.map (·.1)∨h∈am.map (·.1)
 | [],v=>⟨.inl,fun z=>z.elim id fun e=>nomatch e⟩
 | p::am,v=>by
  show h∈(B8 (C4 v p.1 (t,p.2)) am t).map (·.1)↔_
  rw[a6D,W7,List.map_cons,qQ9,←or_assoc]
  refine or_congr ?_ Iff.rfl
  by_cases c:p.1∈v.map (·.1)
  ·rw[if_pos c];exact⟨.inl,fun z=>z.elim id fun e=>by rw[e];exact c⟩
  ·rw[if_neg c,qQ5,qQ2]
section
variable{ta bl ll ul:Addr}{W:LG}{H0 H:Hp}{st st':j0}{tm:Am}
theorem LA.new{H':Hp}(h:LA ta bl ll ul W H0 H st tm)(s:g6 H H'):LA ta bl ll ul W H0 H' st tm:=
 ⟨h.sm.trans s,h.nw,s _ _ h.ht,s _ _ h.hb,s _ _ h.hl,s _ _ h.hu,fun d hd=>let D:=h.dl d hd;⟨s _ _ D.hb,s _ _ D.hl,D.r5,D.r6⟩,h.r1,h.r2,h.r3,h.r4,fun b e=>h.cl b (j5 s e),h.tv,h.bv,h.tk,h.tn⟩
theorem LA.smU(h:LA ta bl ll ul W H0 H st tm){a:Addr}(n:W.rl a≠.free)(o:HO):g6 H0 (upd H a o):=j7 h.sm (h.nw a n)
theorem LA.cong(h:LA ta bl ll ul W H0 H st tm)(e1:st'.begun=st.begun)(e2:una st'=una st)(e3:st'.recs=st.recs)(e4:∀d∈st'.under,∃e∈st.under,e.num=d.num∧e.aside=d.aside∧e.beg=d.beg)
  (ev:∀g t,(t=(st.recs.length:Int)∨∃d∈st.under,t=d.beg)→valOf st' g t=valOf st g t) (ek:st'.vers.map (·.1)=st.vers.map (·.1)):LA ta bl ll ul W H0 H st' tm:=by
 refine⟨h.sm,h.nw,h.ht,by rw[e1];exact h.hb,by rw[e1];exact h.hl,by rw[e2];exact h.hu,fun d hd=>?_,h.r1,h.r2,h.r3,h.r4,h.cl,fun g=>?_,fun d hd g=>?_,by rw[ek];exact h.tk,h.tn⟩
 ·obtain⟨e,he,n,a,b⟩:=e4 d hd
  have E:=h.dl e he
  obtain⟨E1,E2,E3,E4⟩:=E
  rw[n]at E1 E2 E3 E4
  rw[a]at E2
  exact⟨E1,E2,E3,E4⟩
 ·rw[e3,ev g _ (.inl rfl)];exact h.tv g
 ·obtain⟨e,he,n,a,b⟩:=e4 d hd
  rw[←b,←n,ev g _ (.inr ⟨e,he,rfl⟩)];exact h.bv e he g
theorem LA.drop(h:LA ta bl ll ul W H0 H st tm)(n:Int):LA ta bl ll ul W H0 (upd H ul (.lst ((una (u9 st n)).map V.int))) (u9 st n) tm:=by
 have sub:∀d∈(u9 st n).under,d∈st.under:=fun d hd=>(qW0.mp hd).1
 refine⟨h.smU (by rw[h.r4];simp) _,h.nw,ur h.ht h.r1 h.r4 (by simp),ur h.hb h.r2 h.r4 (by simp),ur h.hl h.r3 h.r4 (by simp),b0,fun d hd=>?_,h.r1,h.r2,h.r3,h.r4,fun b e=>h.cl b (n6 e),h.tv,fun d hd=>h.bv d (sub d hd),h.tk,h.tn⟩
 have D:=h.dl d (sub d hd)
 exact⟨ur D.hb D.r5 h.r4 (by simp),ur D.hl D.r6 h.r4 (by simp),D.r5,D.r6⟩
theorem LA.put(h:LA ta bl ll ul W H0 H st tm){d:Dl}(hd:d∈st.under)(nd:(una st).Nodup){g:Str}{a:Int}:LA ta bl ll ul W H0 (upd H (W.la d.num) (.dK (y8 (C1 d.aside g a)))) (putSt st d.num g a) tm:=by
 have D:=h.dl d hd
 have eu:una (putSt st d.num g a)=una st:=J7 fun _=>rfl
 refine⟨h.smU (by rw[D.r6];simp) _,h.nw,ur h.ht h.r1 D.r6 (by simp),ur h.hb h.r2 D.r6 (by simp),ur h.hl h.r3 D.r6 (by simp),by rw[eu];exact ur h.hu h.r4 D.r6 (by simp),fun e he=>?_,h.r1,h.r2,h.r3,h.r4,fun b e=>h.cl b (n6 e),h.tv,fun e he=>?_,h.tk,h.tn⟩
 ·obtain⟨x,hx,rfl⟩:=qQ3.mp he
  have X:=h.dl x hx
  by_cases c:x.num=d.num
  ·have:=L1 nd hx hd c
   subst this
   rw[if_pos rfl]
   exact⟨ur X.hb X.r5 X.r6 (by simp),b0,X.r5,X.r6⟩
  ·rw[if_neg c]
   exact⟨ur X.hb X.r5 D.r6 (by simp),ur X.hl X.r6 D.r6 (by simpa using c),X.r5,X.r6⟩
 ·obtain⟨x,hx,rfl⟩:=qQ3.mp he
  by_cases c:x.num=d.num
  ·rw[if_pos c];exact h.bv x hx
  ·rw[if_neg c];exact h.bv x hx
theorem LA.take{d:Dl}(h:LA ta bl ll ul W H0 H (u9 st d.num) tm)(nd:(d.aside.map (·.1)).Nodup)(bg:∀e∈st.under,e.beg≤(st.recs.length:Int))(e1:st'.begun=st.begun)(e2:st'.under=K3 st.under d.num)
  (v1:∀g t,t≤(st.recs.length:Int)→valOf st' g t=valOf st g t) (v2:∀g,valOf st' g (st'.recs.length:Int)=(p9 d.aside g).getD (valOf st g (st.recs.length:Int))) (k1:∀g,g∈st'.vers.map (·.1)↔g∈st.vers.map (·.1)∨g∈d.aside.map (·.1)) :
  LA ta bl ll ul W H0 (upd H ta (.dK (y8 (a9a tm d.aside)))) st' (a9a tm d.aside):=by
 have sub:∀e∈st'.under,e∈(u9 st d.num).under:=fun e he=>by rw[e2]at he;exact he
 refine⟨h.smU (by rw[h.r1];simp) _,h.nw,b0,by rw[e1];exact ur h.hb h.r2 h.r1 (by simp),by rw[e1];exact ur h.hl h.r3 h.r1 (by simp),?_,fun e he=>?_,h.r1,h.r2,h.r3,h.r4,fun b e=>h.cl b (n6 e),fun g=>?_,fun e he g=>?_,fun g=>a1P.trans ((or_congr (h.tk g) Iff.rfl).trans (k1 g).symm),a1T h.tn⟩
 ·have:=ur (o:=.dK (y8 (a9a tm d.aside))) h.hu h.r4 h.r1 (by simp)
  have eu:una st'=una (u9 st d.num):=by unfold una;rw[e2];rfl
  rw[eu];exact this
 ·have E:=h.dl e (sub e he)
  exact⟨ur E.hb E.r5 h.r1 (by simp),ur E.hl E.r6 h.r1 (by simp),E.r5,E.r6⟩
 ·rw[a7M g _ _ nd,v2 g]
  have t:(p9 tm g).getD 0=valOf st g (st.recs.length:Int):=h.tv g
  cases p9 d.aside g with
  | none=>exact t
  | some x=>rfl
 ·have hm:=qW0.mp (sub e he)
  rw[v1 g _ (bg e hm.1)]
  exact h.bv e (sub e he) g
def lnew(W:LG)(n:Int)(b1 l1:Addr)(m:Am):LG:=⟨fun x=>if x=b1 then .look n else if x=l1 then .side n else W.rl x,fun k=>if k=n then b1 else W.ba k,fun k=>if k=n then l1 else W.la k,fun k=>if k=n then m else W.bm k⟩
theorem LA.begin(h:LA ta bl ll ul W H0 H st tm)(ok:C2 st){b1 l1:Addr}{H1:Hp}(n1:H b1=none)(n2:H l1=none)(n12:b1≠l1)(g1:H1 b1=some (.dK (y8 tm)))(g2:H1 l1=some (.dK (y8 [])))
  (bt:∀b o,b≠ul→b≠bl→b≠ll→H b=some o→H1 b=some o)
  (hu:H1 ul=some (.lst ((una st).map V.int++[.int (st.begun:Int)])))
  (hb:H1 bl=some (.lst (((nat st.begun).map fun n=>V.ref (W.ba n))++[.ref b1])))
  (hl:H1 ll=some (.lst (((nat st.begun).map fun n=>V.ref (W.la n))++[.ref l1]))) :
  LA ta bl ll ul (lnew W (st.begun:Int) b1 l1 tm) H0 H1 (a7f st) tm:=by
 have new:∀d∈st.under,d.num≠(st.begun:Int):=ok.new
 have f1:=h.cl b1 n1
 have f2:=h.cl l1 n2
 have kp:∀b ρ,W.rl b=ρ→ρ≠.free→(lnew W (st.begun:Int) b1 l1 tm).rl b=ρ:=fun b ρ e n=>by
  show(if b=b1 then _ else if b=l1 then _ else _)=_
  rw[if_neg fun z=>n (by rw[←e,z,f1]),if_neg fun z=>n (by rw[←e,z,f2])];exact e
 have off:∀b o ρ,H b=some o→W.rl b=ρ→ρ≠.under→ρ≠.recs→ρ≠.vers→H1 b=some o:=fun b o ρ e r a1 a2 a3=>bt b o (fun z=>a1 (by rw[←r,z,h.r4])) (fun z=>a2 (by rw[←r,z,h.r2])) (fun z=>a3 (by rw[←r,z,h.r3])) e
 have h0:∀b,H b=none→H0 b=none:=fun b e=>j5 h.sm e
 have lists:∀(q:Int→Addr) (x:Addr),((nat st.begun).map fun n=>V.ref (q n))++[.ref x]=(nat (st.begun+1)).map fun k=>V.ref (if k=(st.begun:Int) then x else q k):=fun q x=>by
  rw[a8s,qQ6,List.map_singleton,if_pos rfl]
  congr 1
  refine List.map_congr_left fun k hk=>?_
  rw[if_neg (by have:=(a8o.mp hk).2;omega)]
 refine⟨fun b o e=>?_,fun b hb=>?_,off _ _ _ h.ht h.r1 (by simp) (by simp) (by simp),by rw[hb,lists];rfl,by rw[hl,lists];rfl,?_,fun d hd=>?_,kp _ _ h.r1 (by simp),kp _ _ h.r2 (by simp),kp _ _ h.r3 (by simp),kp _ _ h.r4 (by simp),fun b e=>?_,h.tv,fun d hd g=>?_,h.tk,h.tn⟩
 ·have nn:∀c ρ,W.rl c=ρ→ρ≠.free→b≠c:=fun c ρ r n z=>by rw[z,h.nw c (by rw[r];exact n)] at e;cases e
  exact bt b o (nn ul _ h.r4 (by simp)) (nn bl _ h.r2 (by simp)) (nn ll _ h.r3 (by simp)) (h.sm _ _ e)
 ·by_cases c1:b=b1
  ·rw[c1];exact h0 _ n1
  by_cases c2:b=l1
  ·rw[c2];exact h0 _ n2
  refine h.nw b fun z=>hb ?_
  show(if b=b1 then _ else if b=l1 then _ else _)=_
  rw[if_neg c1,if_neg c2];exact z
 ·rw[hu]
  show _=some (HO.lst (((st.under++([⟨(st.begun:Int),(st.recs.length:Int),[],[]⟩]:List Dl)).map (·.num)).map V.int))
  rw[qQ6,qQ6];rfl
 ·rcases qQ5.mp hd with hd | hd
  ·have D:=h.dl d hd
   have nn:=new d hd
   have e1:(lnew W (st.begun:Int) b1 l1 tm).ba d.num=W.ba d.num:=if_neg nn
   have e2:(lnew W (st.begun:Int) b1 l1 tm).la d.num=W.la d.num:=if_neg nn
   have e3:(lnew W (st.begun:Int) b1 l1 tm).bm d.num=W.bm d.num:=if_neg nn
   exact⟨by rw[e1,e3];exact off _ _ _ D.hb D.r5 (by simp) (by simp) (by simp),by rw[e2];exact off _ _ _ D.hl D.r6 (by simp) (by simp) (by simp),by rw[e1];exact kp _ _ D.r5 (by simp),by rw[e2];exact kp _ _ D.r6 (by simp)⟩
  ·rw[qQ2.mp hd]
   have e1:(lnew W (st.begun:Int) b1 l1 tm).ba (st.begun:Int)=b1:=if_pos rfl
   have e2:(lnew W (st.begun:Int) b1 l1 tm).la (st.begun:Int)=l1:=if_pos rfl
   have e3:(lnew W (st.begun:Int) b1 l1 tm).bm (st.begun:Int)=tm:=if_pos rfl
   refine⟨by show H1 (LG.ba _ _)=some (.dK (y8 (LG.bm _ _)));rw[e1,e3];exact g1,by show H1 (LG.la _ _)=_;rw[e2];exact g2,by show LG.rl _ (LG.ba _ _)=_;rw[e1];exact if_pos rfl,?_⟩
   show LG.rl _ (LG.la _ _)=_
   rw[e2]
   show(if l1=b1 then _ else if l1=l1 then _ else _)=_
   rw[if_neg (Ne.symm n12),if_pos rfl]
 ·have hb':H b=none:=by
   cases z:H b with
   | none=>rfl
   | some o=>
    by_cases c1:b=ul
    ·rw[c1,hu]at e;cases e
    by_cases c2:b=bl
    ·rw[c2,hb]at e;cases e
    by_cases c3:b=ll
    ·rw[c3,hl]at e;cases e
    rw[bt b o c1 c2 c3 z]at e;cases e
  show(if b=b1 then _ else if b=l1 then _ else _)=_
  rw[if_neg (fun z=>by rw[z,g1]at e;cases e),if_neg (fun z=>by rw[z,g2]at e;cases e)]
  exact h.cl b hb'
 ·rcases qQ5.mp hd with hd | hd
  ·have e3:(lnew W (st.begun:Int) b1 l1 tm).bm d.num=W.bm d.num:=if_neg (new d hd)
   rw[e3];exact h.bv d hd g
  ·rw[qQ2.mp hd]
   have e3:(lnew W (st.begun:Int) b1 l1 tm).bm (st.begun:Int)=tm:=if_pos rfl
   show(p9 (LG.bm _ (st.begun:Int)) g).getD 0=_
   rw[e3];exact h.tv g
end
theorem a6O{k:Nat}{f:Int→V}{n:Int}(h0:0≤n)(h:n<(k:Int)):D6 ((nat k).map f) n=some (f n):=by
 have e:n=((n.toNat:Nat):Int):=(Int.toNat_of_nonneg h0).symm
 conv=>lhs;rw[e]
 refine i8 ?_
 unfold nat
 rw[List.map_map,qQ8,List.getElem?_range (by omega)]
 show some (f (Int.ofNat n.toNat))=_
 rw[show Int.ofNat n.toNat=n from Int.toNat_of_nonneg h0]
def b9w(d:i7)(u:List Int)(b:Nat):List Int:=
 match d with
 | .begin=>u++[(b:Int)]
 | .fin n=>u.filter fun k=>decide (k≠n)
 | .leave n=>u.filter fun k=>decide (k≠n)
 | _=>u
def b8m(d:i7)(b:Nat):Nat:=
 match d with
 | .begin=>b+1
 | _=>b
theorem a9i{u:List Int}{n:Int}(h:n∉u):(u.filter fun k=>decide (k≠n))=u:=
 List.filter_eq_self.mpr fun k hk=>decide_eq_true fun e=>h (by rw[←e];exact hk)
theorem b9h{st st':j0}{d:i7}{a:t7}(s:Step st d a st'):una st'=b9w d (una st) st.begun∧st'.begun=b8m d st.begun:=by
 cases s with
 | begin=>exact⟨by show(st.under++_).map _=_;rw[qQ6];rfl,rfl⟩
 | sweep _=>exact⟨rfl,rfl⟩
 | @none _ n h1 h2=>
  cases d<;>cases h1<;>first | exact⟨rfl,rfl⟩ | exact⟨(a9i h2).symm,rfl⟩
 | own _ _=>exact⟨rfl,rfl⟩
 | look _ _=>exact⟨J7 fun _=>rfl,rfl⟩
 | put _=>exact⟨J7 fun _=>rfl,rfl⟩
 | leave _=>exact⟨U6 _ _,rfl⟩
 | ended _ _=>exact⟨U6 _ _,rfl⟩
 | ring _ _=>exact⟨U6 _ _,rfl⟩
theorem a6T(d:i7)(b:Nat):b≤b8m d b:=by cases d<;>first | exact qQ7 _ | exact Nat.le_succ _
section
variable{f:Nat→j0}{ds:List i7}{as:List t7}
theorem Trace.una(F:Trace f ds as){i:Nat}{d:i7}(hd:ds[i]?=some d):My.una (f (i+1))=b9w d (My.una (f i)) (f i).begun∧(f (i+1)).begun=b8m d (f i).begun:=by
 have li:=(qQ1.mp hd).1
 exact b9h (F.step i _ _ hd (List.getElem?_eq_getElem (l:=as) (i:=i) (by have:=F.len;omega)))
theorem Trace.gone(F:Trace f ds as){n:Int}{i:Nat}(h1:n<((f i).begun:Int))(h2:n∉My.una (f i)):∀j,i+j≤ds.length→n<((f (i+j)).begun:Int)∧n∉My.una (f (i+j))
 | 0,_=>⟨h1,h2⟩
 | j+1,hj=>by
  obtain⟨a,b⟩:=Trace.gone F h1 h2 j (by omega)
  obtain⟨u,v⟩:=F.una (List.getElem?_eq_getElem (l:=ds) (i:=i+j) (by omega))
  have:=a6T ds[i+j] (f (i+j)).begun
  rw[←Nat.add_assoc,u,v]
  refine⟨by omega,fun z=>b ?_⟩
  generalize ds[i+j]=d at z
  cases d with
  | begin=>
   rcases qQ5.mp z with z | z
   ·exact z
   ·have:=qQ2.mp z;omega
  | fin m=>exact(qW0.mp z).1
  | leave m=>exact(qW0.mp z).1
  | _=>exact z
theorem Trace.once(F:Trace f ds as){n:Int}{i j:Nat}{d:i7}(hd:ds[i]?=some d)(hn:d=.fin n∨d=.leave n)(hi:n∈My.una (f i))(lt:i<j)(hj:j≤ds.length):n∉My.una (f j):=by
 have li:=(qQ1.mp hd).1
 obtain⟨u,v⟩:=F.una hd
 have l:=((F.oks i (by omega)).lt n (List.mem_append_right _ hi)).2
 have:=a6T d (f i).begun
 have h:=F.gone (n:=n) (i:=i+1) (by rw[v];omega) (by
  rw[u]
  rcases hn with rfl | rfl
  ·intro z;simpa using (qW0.mp z).2
  ·intro z;simpa using (qW0.mp z).2) (j-(i+1)) (by omega)
 rw[show i+1+(j-(i+1))=j by omega]at h
 exact h.2
end
def K1(B:List Int)(st:j0):j0:={ st with under:=st.under.filter fun d=>decide (d.num∉B) }
theorem a3L{B:List Int}{st:j0}(h:C2 st):C2 (K1 B st):=by
 have sb:(((st.under.filter fun d=>decide (d.num∉B))).map (·.num)).Sublist (st.under.map (·.num)):=(List.filter_sublist).map _
 exact⟨a5F h.un sb,h.row,h.mem,fun m hm=>h.lt m (by
  rcases qQ5.mp hm with z | z
  ·exact List.mem_append_left _ z
  ·exact List.mem_append_right _ (sb.subset z))⟩
theorem a1v{B:List Int}{n:Int}{f:Dl→Dl}(hf:∀d,(f d).num=d.num)(u:List Dl):((A6 u n f).filter fun d=>decide (d.num∉B))=A6 (u.filter fun d=>decide (d.num∉B)) n f:=by
 unfold A6
 rw[List.filter_map]
 congr 1
 refine List.filter_congr fun d _=>?_
 show decide ((if d.num=n then f d else d).num∉B)=_
 split
 ·rw[hf]
 ·rfl
theorem a5E{B:List Int}{n:Int}{f:Dl→Dl}(hf:∀d,(f d).num=d.num)(hn:n∈B)(u:List Dl):((A6 u n f).filter fun d=>decide (d.num∉B))=u.filter fun d=>decide (d.num∉B):=by
 rw[a1v hf]
 unfold A6
 refine(List.map_congr_left fun d hd=>?_).trans (List.map_id _)
 have:d.num∉B:=by simpa using (qW0.mp hd).2
 exact if_neg fun e=>this (by rw[e];exact hn)
theorem a9n{B:List Int}{n:Int}(u:List Dl):((K3 u n).filter fun d=>decide (d.num∉B))=K3 (u.filter fun d=>decide (d.num∉B)) n:=by
 unfold K3
 rw[List.filter_filter,List.filter_filter]
 exact List.filter_congr fun d _=>Bool.and_comm _ _
theorem a7L{B:List Int}{n:Int}(hn:n∈B)(u:List Dl):((K3 u n).filter fun d=>decide (d.num∉B))=u.filter fun d=>decide (d.num∉B):=by
 rw[a9n]
 unfold K3
 refine List.filter_eq_self.mpr fun d hd=>?_
 have:d.num∉B:=by simpa using (qW0.mp hd).2
 exact decide_eq_true fun e=>this (by rw[e];exact hn)
theorem O0.refl(s:j0):O0 s s:=⟨rfl,rfl,rfl,rfl⟩
theorem O0.trans{s t u:j0}(a:O0 s t)(b:O0 t u):O0 s u:=⟨a.bg.trans b.bg,a.un.trans b.un,a.ve.trans b.ve,a.rc.trans b.rc⟩
theorem a7x{B:List Int}{st st':j0}{d:i7}{a:t7}{n:Int}(s:Step st d a st')(hn:numOf d=some n)(hB:n∉B):∃s',Step (K1 B st) d a s'∧O0 s' (K1 B st'):=by
 have hin:∀{x:Dl},x∈st.under→x.num=n→x∈(K1 B st).under:=fun {x} hx e=>qW0.mpr ⟨hx,decide_eq_true (by rw[e];exact hB)⟩
 cases s with
 | begin=>cases hn
 | sweep _=>cases hn
 | @none _ m h1 h2=>
  exact⟨_,.none h1 (fun z=>h2 (by obtain⟨x,hx,e⟩:=qQ3.mp z;exact qQ3.mpr ⟨x,(qW0.mp hx).1,e⟩)),.refl _⟩
 | own hd hg=>exact⟨_,.own (hin hd (qW1 hn)) hg,.refl _⟩
 | @look d g hd hg=>exact⟨_,.look (hin hd (qW1 hn)) hg,rfl,(a1v (f:=P1 g) (fun _=>rfl) _).symm,rfl,rfl⟩
 | @put d g x hd=>exact⟨_,.put (hin hd (qW1 hn)),rfl,(a1v (f:=P3 g x) (fun _=>rfl) _).symm,rfl,rfl⟩
 | leave hd=>exact⟨_,.leave (hin hd (qW1 hn)),rfl,(a9n _).symm,rfl,rfl⟩
 | ended hd E=>exact⟨_,.ended (hin hd (qW1 hn)) ⟨E.rc,E.lw,E.row⟩,rfl,(a9n _).symm,rfl,rfl⟩
 | ring hd E=>exact⟨_,.ring (hin hd (qW1 hn)) ⟨E.rc,E.lw,E.ring,E.sub,E.hd⟩,rfl,(a9n _).symm,rfl,rfl⟩
theorem a1W{B:List Int}{st st':j0}{d:i7}{a:t7}{n:Int}(s:Step st d a st')(hn:numOf d=some n)(hB:n∈B)(ne:Z9 a=false):O0 (K1 B st') (K1 B st):=by
 cases s with
 | begin=>cases hn
 | sweep _=>cases hn
 | none _ _=>exact .refl _
 | own _ _=>exact .refl _
 | @look d g _ _=>cases hn;exact⟨rfl,a5E (f:=P1 g) (fun _=>rfl) hB _,rfl,rfl⟩
 | @put d g x _=>cases hn;exact⟨rfl,a5E (f:=P3 g x) (fun _=>rfl) hB _,rfl,rfl⟩
 | leave _=>cases hn;exact⟨rfl,a7L hB _,rfl,rfl⟩
 | ended _ _=>simp[Z9]at ne
 | ring _ _=>cases hn;exact⟨rfl,a7L hB _,rfl,rfl⟩
theorem a0S{B:List Int}{s t:j0}(h:O0 (K1 B s) (K1 B t)):O0 (K1 B (a7f s)) (K1 B (a7f t)):=by
 obtain⟨a,b,c,d⟩:=h
 have a:s.begun=t.begun:=a
 have d:s.recs=t.recs:=d
 refine⟨congrArg (·+1) a,?_,c,d⟩
 show(s.under++_).filter _=(t.under++_).filter _
 rw[List.filter_append,List.filter_append,a,d]
 exact congrArg (·++_) b
theorem b7o{B:List Int}{s t s' t':j0}{d:i7}{a b:t7}(h:O0 (K1 B s) (K1 B t))(os:C2 s)(ot:C2 t)(p:Step s d a s')(q:Step t d b t')(hd:∀n,numOf d=some n→n∉B)(nw:d≠.sweep):O0 (K1 B s') (K1 B t')∧a9I a b:=by
 cases hn:numOf d with
 | some n=>
  obtain⟨s1,p1,l1⟩:=a7x p hn (hd n hn)
  obtain⟨t1,q1,k1⟩:=a7x q hn (hd n hn)
  obtain⟨l,al⟩:=a7F h (a3L os) (a3L ot) p1 q1
  exact⟨⟨l1.bg.symm.trans (l.bg.trans k1.bg),l1.un.symm.trans (l.un.trans k1.un),l1.ve.symm.trans (l.ve.trans k1.ve),l1.rc.symm.trans (l.rc.trans k1.rc)⟩,al⟩
 | none=>
  cases d with
  | sweep=>exact absurd rfl nw
  | begin=>
   cases p with
   | begin=>
    cases q with
    | begin=>exact⟨a0S h,by show((s.begun:Nat):Int)=_;rw[show s.begun=t.begun from h.bg]⟩
    | none z _=>cases z
   | none z _=>cases z
  | _=>cases hn
def Q3(f:Nat→j0)(ds:List i7)(as:List t7)(j:Nat):Option Int:=
 match ds[j]?,as[j]? with
 | some (.leave n),_=>if n∈una (f j) then some n else none
 | some (.fin n),some a=>if n∈una (f j)∧Z9 a=false then some n else none
 | _,_=>none
def V3(f:Nat→j0)(ds:List i7)(as:List t7)(i:Nat):List Int:=(List.range i).filterMap (Q3 f ds as)
theorem b2e(f:Nat→j0)(ds:List i7)(as:List t7)(i:Nat):V3 f ds as (i+1)=V3 f ds as i++(Q3 f ds as i).toList:=by
 unfold V3
 rw[List.range_succ,List.filterMap_append]
 cases h:Q3 f ds as i<;>simp[h]
def kp(B:List Int)(d:i7):Bool:=
 match numOf d with
 | some n=>decide (n∉B)
 | none=>true
def A7(B:List Int)(ds:List i7)(i:Nat):List Nat:=(List.range i).filter fun k=>match ds[k]? with | some d=>kp B d | none=>false
theorem a3n{B:List Int}{ds:List i7}{i:Nat}{d:i7}(h:ds[i]?=some d):A7 B ds (i+1)=if kp B d=true then A7 B ds i++[i] else A7 B ds i:=by
 unfold A7
 rw[List.range_succ,List.filter_append]
 cases hk:kp B d<;>simp[h,hk]
theorem a9V{B:List Int}{ds:List i7}{i k:Nat}(h:k∈A7 B ds i):k<i:=List.mem_range.mp (qW0.mp h).1
theorem a9P(B:List Int)(ds:List i7)(i:Nat):(A7 B ds i).length≤i:=by
 unfold A7;have:=List.length_filter_le (fun k=>match ds[k]? with | some d=>kp B d | none=>false) (List.range i);rw[List.length_range]at this;exact this
theorem b9j{B:List Int}{ds:List i7}{i j:Nat}(h:i≤j):∃z,A7 B ds j=A7 B ds i++z:=by
 refine⟨((List.range j).drop i).filter fun k=>match ds[k]? with | some d=>kp B d | none=>false,?_⟩
 unfold A7
 rw[←List.filter_append]
 have:List.range i=(List.range j).take i:=by rw[List.take_range,Nat.min_eq_left h]
 rw[this,List.take_append_drop]
theorem a7T{B:List Int}{ds:List i7}{k n:Nat}{d:i7}(hd:ds[k]?=some d)(c:kp B d=true)(lt:k<n):(A7 B ds n)[(A7 B ds k).length]?=some k:=by
 obtain⟨z,hz⟩:=b9j (B:=B) (ds:=ds) (show k+1≤n from lt)
 rw[a3n hd,if_pos c]at hz
 rw[hz,List.append_assoc,List.getElem?_append_right (qQ7 _)];simp
theorem b6s{B:List Int}{ds:List i7}{i k n:Nat}{d:i7}(h:(A7 B ds n)[i]?=some k)(hd:ds[k]?=some d):kp B d=true∧(A7 B ds k).length=i:=by
 have hm:=List.mem_of_getElem? h
 have c:kp B d=true:=by have:=(qW0.mp hm).2;rw[hd]at this;exact this
 have nd:(A7 B ds n).Nodup:=List.nodup_range.filter _
 exact⟨c,((List.getElem?_inj (qQ1.mp h).1 nd).mp (h.trans (a7T hd c (a9V hm)).symm)).symm⟩
section
variable{f g:Nat→j0}{ds es:List i7}{as bs:List t7}
theorem b4p(j:Nat){n:Int}(h:Q3 f ds as j=some n):n∈una (f j)∧∃d,ds[j]?=some d∧(d=.leave n∨d=.fin n∧∃a,as[j]?=some a∧Z9 a=false):=by
 unfold Q3 at h
 split at h
 ·rename_i m hd
  split at h
  ·cases h;rename_i hm;exact⟨hm,_,hd,.inl rfl⟩
  ·cases h
 ·rename_i m a hd ha
  split at h
  ·cases h;rename_i hm;exact⟨hm.1,_,hd,.inr ⟨rfl,_,ha,hm.2⟩⟩
  ·cases h
 ·cases h
theorem b4u(F:Trace f ds as){i:Nat}{n:Int}{a:t7}(hd:ds[i]?=some (.fin n))(ha:as[i]?=some a)(hu:n∈una (f i))(he:Z9 a=true):n∉V3 f ds as ds.length:=fun z=>by
 obtain⟨j,hj,e⟩:=List.mem_filterMap.mp z
 have hj:=List.mem_range.mp hj
 have li:=(qQ1.mp hd).1
 obtain⟨hm,d,hd',c⟩:=b4p j e
 have cd:d=.fin n∨d=.leave n:=c.symm.imp And.left id
 rcases Nat.lt_trichotomy i j with lt | eq | gt
 ·exact F.once hd (.inl rfl) hu lt (by omega) hm
 ·subst eq
  rw[hd]at hd';cases hd'
  rcases c with c | ⟨_,b,hb,eb⟩
  ·cases c
  ·rw[ha]at hb;cases hb;rw[he]at eb;cases eb
 ·exact F.once hd' cd hm gt (by omega) hu
theorem b7n{st st':j0}{d:i7}{a:t7}(s:Step st d a st')(he:Z9 a=true):∃n,d=.fin n∧n∈una st:=by
 cases s with
 | ended hd _=>exact⟨_,rfl,qQ3.mpr ⟨_,hd,rfl⟩⟩
 | put _=>exact absurd (show decide (("put":Str)="ended")=true from he) (by decide)
 | leave _=>exact absurd (show decide (("left":Str)="ended")=true from he) (by decide)
 | _=>cases he
theorem b2n(F:Trace f ds as){i:Nat}{d:i7}{rg:List Lk}(hd:ds[i]?=some d)(ha:as[i]?=some (.ring rg)):∃n,numOf d=some n∧n∈V3 f ds as ds.length:=by
 have S:=F.step i d _ hd ha
 have li:=(qQ1.mp hd).1
 generalize e:t7.ring rg=a at S
 generalize f (i+1)=s1 at S
 cases S with
 | @ring d' r cs rg' hu E=>
  refine⟨d'.num,rfl,List.mem_filterMap.mpr ⟨i,List.mem_range.mpr li,?_⟩⟩
  unfold Q3
  rw[hd,ha]
  exact if_pos ⟨qQ3.mpr ⟨d',hu,rfl⟩,rfl⟩
 | _=>cases e
theorem a7N(F:Trace f ds as)(G:Trace g es bs)(nw:∀d∈ds,d≠.sweep)(B:List Int)(hB:B=V3 f ds as ds.length)
  (he:∀(j k:Nat),(A7 B ds ds.length)[j]?=some k→es[j]?=ds[k]?) (le:es.length=(A7 B ds ds.length).length) :
  ∀i,i≤ds.length→O0 (K1 B (f i)) (K1 B (g (A7 B ds i).length))∧∀k d,k<i→ds[k]?=some d→kp B d=true→∃a b,as[k]?=some a∧bs[(A7 B ds k).length]?=some b∧a9I a b∧∀rg,a≠.ring rg
 | 0,_=>by
  have e0:A7 B ds 0=[]:=rfl
  rw[F.zero,e0]
  show O0 (K1 B O1) (K1 B (g 0))∧_
  rw[G.zero]
  exact⟨.refl _,fun k d h=>absurd h (Nat.not_lt_zero _)⟩
 | i+1,hi=>by
  obtain⟨L,old⟩:=a7N F G nw B hB he le i (by omega)
  have hd:=List.getElem?_eq_getElem (l:=ds) (i:=i) (by omega)
  have ha:=List.getElem?_eq_getElem (l:=as) (i:=i) (by have:=F.len;omega)
  generalize as[i]'(by have:=F.len;omega)=a at ha
  generalize ds[i]=d at hd
  have S:=F.step i d a hd ha
  rw[a3n hd]
  by_cases c:kp B d=true
  ·rw[if_pos c]
   have hk:=a7T (n:=ds.length) hd c (by omega)
   have hes:=(he _ _ hk).trans hd
   have lj:=(qQ1.mp hes).1
   have hb:=List.getElem?_eq_getElem (l:=bs) (i:=(A7 B ds i).length) (by have:=G.len;omega)
   have T:=G.step _ d _ hes hb
   have hn:∀n,numOf d=some n→n∉B:=fun n e=>by unfold kp at c;rw[e]at c;simpa using c
   obtain⟨L',al⟩:=b7o L (F.oks i (by omega)) (G.oks _ (by omega)) S T hn (nw d (List.mem_of_getElem? hd))
   rw[qQ4,List.length_singleton]
   refine⟨L',fun k e hk' hdk ck=>?_⟩
   rcases Nat.lt_succ_iff_lt_or_eq.mp hk' with lt | rfl
   ·exact old k e lt hdk ck
   ·rw[hd]at hdk;cases hdk
    refine⟨a,_,ha,hb,al,fun rg z=>?_⟩
    subst z
    obtain⟨n,h1,h2⟩:=b2n F hd ha
    exact hn n h1 (by rw[hB];exact h2)
  ·rw[if_neg c]
   have ⟨n,hn,hb⟩:∃n,numOf d=some n∧n∈B:=by
    unfold kp at c
    split at c
    ·rename_i n e;exact⟨n,e,by simpa using c⟩
    ·exact absurd rfl c
   have ne:Z9 a=false:=by
    cases h:Z9 a with
    | false=>rfl
    | true=>
     obtain⟨m,rfl,hm⟩:=b7n S h
     cases hn
     rw[hB]at hb
     exact absurd hb (b4u F hd ha hm h)
   refine⟨(a1W S hn hb ne).trans L,fun k e hk' hdk ck=>?_⟩
   rcases Nat.lt_succ_iff_lt_or_eq.mp hk' with lt | rfl
   ·exact old k e lt hdk ck
   ·rw[hd]at hdk;cases hdk;exact absurd ck c
end
theorem a8L{f:Nat→j0}{ds:List i7}{as:List t7}(F:Trace f ds as):∀i,i≤ds.length→Vs (f i)
 | 0,_=>by rw[F.zero];exact vs0
 | i+1,h=>by
  have hd:=List.getElem?_eq_getElem (l:=ds) (i:=i) (by omega)
  have ha:=List.getElem?_eq_getElem (l:=as) (i:=i) (by have:=F.len;omega)
  exact(a8V (a8L F i (by omega)) (F.step i _ _ hd ha)).1
theorem LA.zero{H:Hp}{ta bl ll ul:Addr}(h1:H ta=none)(h2:(upd H ta (.dK [])) bl=none)(h3:(upd (upd H ta (.dK [])) bl (.lst [])) ll=none)(h4:(upd (upd (upd H ta (.dK [])) bl (.lst [])) ll (.lst [])) ul=none) :
  ∃W,LA ta bl ll ul W H (upd (upd (upd (upd H ta (.dK [])) bl (.lst [])) ll (.lst [])) ul (.lst [])) O1 []:=by
 have s1:=b9 (o:=.dK []) h1
 have s2:=b9 (o:=.lst []) h2
 have s3:=b9 (o:=.lst []) h3
 have s4:=b9 (o:=.lst []) h4
 have g1:=s4 _ _ (s3 _ _ (s2 _ _ (b0 (H:=H) (a:=ta) (o:=.dK []))))
 have g2:=s4 _ _ (s3 _ _ (b0 (H:=upd H ta (.dK [])) (a:=bl) (o:=.lst [])))
 have g3:=s4 _ _ (b0 (H:=upd (upd H ta (.dK [])) bl (.lst [])) (a:=ll) (o:=.lst []))
 have g4:=b0 (H:=upd (upd (upd H ta (.dK [])) bl (.lst [])) ll (.lst [])) (a:=ul) (o:=.lst [])
 have a12:ta≠bl:=e7 b0 h2
 have a13:ta≠ll:=e7 (s2 _ _ b0) h3
 have a14:ta≠ul:=e7 (s3 _ _ (s2 _ _ b0)) h4
 have a23:bl≠ll:=e7 b0 h3
 have a24:bl≠ul:=e7 (s3 _ _ b0) h4
 have a34:ll≠ul:=e7 b0 h4
 have b2:=j5 s1 h2
 have b3:=j5 (s1.trans s2) h3
 have b4:=j5 ((s1.trans s2).trans s3) h4
 have sall:=((s1.trans s2).trans s3).trans s4
 generalize upd (upd (upd (upd H ta (.dK [])) bl (.lst [])) ll (.lst [])) ul (.lst [])=HZ at g1 g2 g3 g4 sall ⊢
 refine⟨⟨fun b=>if b=ta then .tally else if b=bl then .recs else if b=ll then .vers else if b=ul then .under else .free,fun _=>0,fun _=>0,fun _=>[]⟩,sall,fun b hb=>?_,g1,g2,g3,g4,(fun d hd=>nomatch hd),if_pos rfl,?_,?_,?_,fun b e=>?_,fun g=>rfl,(fun d hd=>nomatch hd),(fun g=>Iff.rfl),List.nodup_nil⟩
 ·by_cases c1:b=ta
  ·rw[c1];exact h1
  by_cases c2:b=bl
  ·rw[c2];exact b2
  by_cases c3:b=ll
  ·rw[c3];exact b3
  by_cases c4:b=ul
  ·rw[c4];exact b4
  refine absurd ?_ hb
  show(if b=ta then _ else if b=bl then _ else if b=ll then _ else if b=ul then _ else _)=_
  rw[if_neg c1,if_neg c2,if_neg c3,if_neg c4]
 ·show(if bl=ta then _ else if bl=bl then _ else _)=_
  rw[if_neg (Ne.symm a12),if_pos rfl]
 ·show(if ll=ta then _ else if ll=bl then _ else if ll=ll then _ else _)=_
  rw[if_neg (Ne.symm a13),if_neg (Ne.symm a23),if_pos rfl]
 ·show(if ul=ta then _ else if ul=bl then _ else if ul=ll then _ else if ul=ul then _ else _)=_
  rw[if_neg (Ne.symm a14),if_neg (Ne.symm a24),if_neg (Ne.symm a34),if_pos rfl]
 ·show(if b=ta then _ else if b=bl then _ else if b=ll then _ else if b=ul then _ else _)=_
  rw[if_neg (fun z=>by rw[z,g1]at e;cases e),if_neg (fun z=>by rw[z,g2]at e;cases e),if_neg (fun z=>by rw[z,g3]at e;cases e),if_neg (fun z=>by rw[z,g4]at e;cases e)]
inductive a4r(K:PySem.W.Frag)(vs:List V)(H:Hp)(Q:VK):Prop
 | mk (A Tl:Addr) (xs ys:List V) (ds:List i7) (as:List t7) (rl:Addr→Role) (f:Nat→j0) (x0:vs=[.ref A,.ref Tl]) (x1:H A=some (.lst xs)) (x2:y0 H ds xs) (x3:H Tl=some (.lst ys)) (x4:Paired (C0 rl H) as ys) (x5:Trace f ds as) (x6:ds.length≤63) (xq:∀(ta:Addr) (tm:Am) (H':Hp),g6 H H'→H' ta=some (.dK (y8 tm))→(tm.map (·.1)).Nodup→(∀g,g∈tm.map (·.1)↔g∈(f ds.length).vers.map (·.1))→(∀g,(p9 tm g).getD 0=valOf (f ds.length) g ((f ds.length).recs.length:Int))→tm.length≤63*63→Q (.ref ta) H')
def a5w(K:PySem.W.Frag):Sp:=fun vs H Q _=>a4r K vs H Q
set_option maxHeartbeats 0 in
theorem a8v(T:A1 K mg t):g8 P w K mg base x9 2 t.f__law_tallied t.d__law_tallied ["_law_asked","_law_told"] (a5w K):=by
 refine T.F__law_tallied.ok y9 (fun vs H Q E h=>?_) (fun cdv A outer s H vs Q E hr h=>?_)
 ·obtain⟨A,Tl,xs,ys,ds,as,rl,f,rfl,_⟩:=h
  rfl
 obtain⟨A,Tl,xs,ys,ds,as,rl,f,rfl,hA,hD,hT,pa,F,lds,q⟩:=h
 have hu:=K9 hr
 refine⟨_,(b8 (g7 (i:=2) y9.nd rfl (Or.inl rfl) C3)
 (b8 (g7 (i:=3) y9.nd rfl (Or.inl rfl) (m4 b6))
 (b8 (g7 (i:=4) y9.nd rfl (Or.inl rfl) (m4 b6))
 (b8 (g7 (i:=5) y9.nd rfl (Or.inl rfl) (m4 b6))
 (b8 (A9 PassesOwn.never rfl (M9 rfl T.m_range (a6 (f6 g9 rfl T.m_len PySem.boot_len (a6 (pv 0) b6)) b6)) (m5 (i:=6) y9.nd rfl (Or.inl rfl))
 (b8 (g7 (i:=7) y9.nd rfl (Or.inl rfl) (d8 k8 (pv 0) (pv 6) (fun _ _=>rfl)))
 (c9 (k7 (f7 z6 (d8 h7 (pv 7) d5 (fun _ _=>rfl)) l8 (i5 _))
 (b8 (l6 (p8 PySem.F.plainAttrs_list PySem.F.slot_list_append PySem.F.type_list_append m7 (pv 5) (a6 (f6 g9 rfl T.m_len PySem.boot_len (a6 (pv 3) b6)) b6)))
 (b8 (l6 (p8 PySem.F.plainAttrs_list PySem.F.slot_list_append PySem.F.type_list_append m7 (pv 3) (a6 (a4Q PySem.F.plainAttrs_dict PySem.F.slot_dict_copy PySem.F.type_dict_copy b1s (pv 2)) b6)))
 (c9 (l6 (p8 PySem.F.plainAttrs_list PySem.F.slot_list_append PySem.F.type_list_append m7 (pv 4) (a6 C3 b6))))))
 (c9 (k7 (PW.pt (Q2 (f7 N0 (d8 h7 (pv 7) d5 (fun _ _=>rfl)) l8 (i5 _)) (N5 (f7 W2 (d8 h7 (pv 7) d5 (fun _ _=>rfl)) (pv 5) (by with_unfolding_all rfl)))))
 (b8 (g7 (i:=8) y9.nd rfl (Or.inl rfl) (d8 k8 (pv 4) (d8 h7 (pv 7) d5 (fun _ _=>rfl)) (fun _ _=>rfl)))
 (b8 (L7 (k7 (f7 W2 (d8 h7 (pv 7) d5 (fun _ _=>rfl)) (m4 (a6 l8 (a6 l8 b6))) (by with_unfolding_all rfl))
 (c9 (l6 (p8 PySem.F.plainAttrs_list PySem.F.slot_list_remove PySem.F.type_list_remove a1l (pv 5) (a6 (d8 h7 (pv 7) d5 (fun _ _=>rfl)) b6))))
 i9))
 (b8 (L7 (k7 (f7 z6 (d8 h7 (pv 7) d5 (fun _ _=>rfl)) l8 (i5 _))
 (c9 (F6 hu (pv 8) (d8 h7 (pv 7) d5 (fun _ _=>rfl)) (d8 h7 (pv 7) d5 (fun _ _=>rfl)) rfl))
 i9))
 (b8 (L7 (k7 (f7 z6 (d8 h7 (pv 7) d5 (fun _ _=>rfl)) l8 (i5 _))
 (b8 (g7 (i:=9) y9.nd rfl (Or.inl rfl) (a4s hu (pv 8) (d8 h7 (pv 7) d5 (fun _ _=>rfl)) (a4s hu (d8 k8 (pv 3) (d8 h7 (pv 7) d5 (fun _ _=>rfl)) (fun _ _=>rfl)) (d8 h7 (pv 7) d5 (fun _ _=>rfl)) d5 ⟨rfl,rfl,rfl,rfl⟩) ⟨rfl,rfl,rfl,rfl⟩))
 (c9 (k7 (PW.pt (J9 (J8 (A5 (j9 (g8.mono (k:=1) (Q5 T) (by decide)) hr rfl T.m__law_whole T.F__law_whole.kp T.F__law_whole.b .nil l4 (a6 (d8 k8 (pv 1) (pv 6) (fun _ _=>rfl)) b6)))) (D7 (f7 N0 (d8 k8 (pv 1) (pv 6) (fun _ _=>rfl)) (pv 9) (i5 _)))))
 (c9 (i3 O8))
 i9)))
 i9))
 (c9 (k7 (A5 (j9 (g8.mono (k:=1) (Q6 T) (by decide)) hr rfl T.m__law_ended T.F__law_ended.kp T.F__law_ended.b .nil l4 (a6 (d8 k8 (pv 1) (pv 6) (fun _ _=>rfl)) b6)))
 (c9 (l6 (p8 PySem.F.plainAttrs_dict PySem.F.slot_dict_update PySem.F.type_dict_update b5e (pv 2) (a6 (pv 8) b6))))
 i9))))))
 i9))))))
 (c9 (i3 (pv 2)))))))),?_⟩
 have lx:=hD.len
 have la:=F.len
 have ly:=n5 pa
 refine fun ta hta=>⟨(by show 0≤sizeLine;decide),fun bl hbl=>⟨(by show 0≤sizeLine;decide),fun ll hll=>⟨(by show 0≤sizeLine;decide),fun ul hul=>?_⟩⟩⟩
 obtain⟨W0,w0⟩:=LA.zero hta hbl hll hul
 generalize upd (upd (upd (upd H ta (.dK [])) bl (.lst [])) ll (.lst [])) ul (.lst [])=HZ at w0 ⊢
 refine⟨_,rfl,A,xs,rfl,.inl (d7.of (w0.sm _ _ hA)),_,rfl,by omega,by omega,?_⟩
 have en:(((xs.length:Nat):Int)).toNat=ds.length:=by omega
 rw[en]
 refine K5 (fun i σ' Hc=>∃(o7 o8 o9 oA:Option V) (W:LG) (tm:Am),σ'=[some (.ref A),some (.ref Tl),some (.ref ta),some (.ref bl),some (.ref ll),some (.ref ul),o7,o8,o9,oA]∧LA ta bl ll ul W H Hc (f i) tm∧tm.length≤63*i) ⟨none,none,none,none,W0,[],rfl,by rw[F.zero];exact w0,Nat.zero_le _⟩ (fun i σ' Hc hi z=>?_) (fun σ' Hc z=>?_)
 ·obtain⟨o7,o8,o9,oA,W,tm,rfl,h,ltm⟩:=z
  have hxi:=List.getElem?_eq_getElem (show i<xs.length by omega)
  have hyi:=List.getElem?_eq_getElem (show i<ys.length by omega)
  obtain⟨d,hd,b,eb,hb⟩:=v5 hD hxi
  obtain⟨an,han,hy⟩:=v5 pa hyi
  have St:=F.step i d an hd han
  have ok:=F.oks i (by omega)
  have bd:=F.bds i (by omega)
  have vs:=a8L F i (by omega)
  have sv:=(a8V vs St).2
  have e0:(0:Int)+(i:Int)=((i:Nat):Int):=by omega
  have ax:D6 xs ((0:Int)+(i:Int))=some (.ref b):=by rw[e0,←eb];exact i8 hxi
  generalize ys[i]=y at hyi hy
  have ay:D6 ys ((0:Int)+(i:Int))=some y:=by rw[e0];exact i8 hyi
  have nd:(una (f i)).Nodup:=(List.nodup_append.mp ok.un).2.1
  have bb:=a9t F i (by omega)
  have bun:(una (f i)).length≤i:=by have:=bd.un;unfold una;rw[qQ0];exact this
  refine⟨_,rfl,_,rfl,A,_,_,_,rfl,rfl,d7.of (h.sm _ _ hA),ax,?_⟩
  have TB:∀Hx,g6 H Hx→i4 K Hx b (dv d):=fun Hx sx=>i4.of (sx _ _ hb)
  have TT:∀Hx,g6 H Hx→d7 K Hx Tl ys:=fun Hx sx=>d7.of (sx _ _ hT)
  have word:=fun(e:Addr) (Hx:Hp)=>d7.of (K:=K) (b0 (H:=Hx) (a:=e) (o:=.lst [V.str "end",V.str "leave"]))
  have num:∀e∈(f i).under,0≤e.num∧e.num<((f i).begun:Int):=fun e he=>ok.lt _ (List.mem_append_right _ (qQ3.mpr ⟨e,he,rfl⟩))
  have leav:∀n∈una (f i),∃j,(una (f i))[j]?=some n∧(∀k,k<j→(una (f i))[k]?≠some n)∧(una (f i)).eraseIdx j=una (u9 (f i) n):=fun n hn=>by
   obtain⟨j,h1,h2⟩:=a2a hn
   refine⟨j,h1,h2,?_⟩
   rw[erase_filter nd h1]
   exact(U6 (f i).under n).symm
  rcases b0e d with rfl | rfl | ⟨w,n,ws,ed,hn,nb,nw⟩
  ·generalize f (i+1)=st1 at St ⊢
   cases St with
   | none z _=>cases z
   | begin=>
    have hbc:=TB _ h.sm
    refine⟨_,rfl,b,_,0,_,rfl,rfl,hbc,rfl,rfl,_,rfl,l5 ?_⟩
    have nbu:bl≠ul:=P4 (G:=gOf W.rl) h.r2 h.r4 (by simp)
    have nlu:ll≠ul:=P4 (G:=gOf W.rl) h.r3 h.r4 (by simp)
    have nlb:ll≠bl:=P4 (G:=gOf W.rl) h.r3 h.r2 (by simp)
    have ntu:ta≠ul:=P4 (G:=gOf W.rl) h.r1 h.r4 (by simp)
    have ntb:ta≠bl:=P4 (G:=gOf W.rl) h.r1 h.r2 (by simp)
    have lb:((nat (f i).begun).map fun n=>V.ref (W.ba n)).length=(f i).begun:=by rw[qQ0,a8f]
    have ll':((nat (f i).begun).map fun n=>V.ref (W.la n)).length=(f i).begun:=by rw[qQ0,a8f]
    refine⟨_,rfl,.inl ⟨rfl,_,d7.of h.hu⟩,_,rfl,bl,_,rfl,.inl (d7.of h.hb),ul,_,_,rfl,rfl,h.hu,m9 (by rw[qQ0];omega),?_⟩
    rw[lb]
    have u1:(upd Hc ul (.lst ((una (f i)).map V.int++[.int ((f i).begun:Int)]))) ul=_:=b0
    have t1:(upd Hc ul (.lst ((una (f i)).map V.int++[.int ((f i).begun:Int)]))) ta=_:=(b7 ntu).trans h.ht
    have b1:(upd Hc ul (.lst ((una (f i)).map V.int++[.int ((f i).begun:Int)]))) bl=_:=(b7 nbu).trans h.hb
    have l1:(upd Hc ul (.lst ((una (f i)).map V.int++[.int ((f i).begun:Int)]))) ll=_:=(b7 nlu).trans h.hl
    have k1:∀c o,c≠ul→Hc c=some o→(upd Hc ul (.lst ((una (f i)).map V.int++[.int ((f i).begun:Int)]))) c=some o:=fun c o n e=>(b7 n).trans e
    have z1:∀c,(upd Hc ul (.lst ((una (f i)).map V.int++[.int ((f i).begun:Int)]))) c=none→Hc c=none:=fun c e=>n6 e
    generalize upd Hc ul (.lst ((una (f i)).map V.int++[.int ((f i).begun:Int)]))=Ha at u1 t1 b1 l1 k1 z1 ⊢
    refine⟨_,rfl,.inl ⟨rfl,_,d7.of b1⟩,_,rfl,.inr (.inr (.inl ⟨rfl,.inl ⟨_,t1⟩⟩)),ta,_,rfl,rfl,t1,fun nb hnb=>?_⟩
    have s5:=b9 (o:=.dK (y8 tm)) hnb
    refine⟨bl,_,_,rfl,rfl,s5 _ _ b1,m9 (by rw[lb];omega),?_⟩
    have n1:=z1 _ hnb
    have nbb:nb≠bl:=(e7 b1 hnb).symm
    have g1:(upd (upd Ha nb (.dK (y8 tm))) bl (.lst (((nat (f i).begun).map fun n=>V.ref (W.ba n))++[.ref nb]))) nb=_:=(b7 nbb).trans b0
    have u2:(upd (upd Ha nb (.dK (y8 tm))) bl (.lst (((nat (f i).begun).map fun n=>V.ref (W.ba n))++[.ref nb]))) ul=_:=(b7 (Ne.symm nbu)).trans (s5 _ _ u1)
    have b2:(upd (upd Ha nb (.dK (y8 tm))) bl (.lst (((nat (f i).begun).map fun n=>V.ref (W.ba n))++[.ref nb]))) bl=_:=b0
    have l2:(upd (upd Ha nb (.dK (y8 tm))) bl (.lst (((nat (f i).begun).map fun n=>V.ref (W.ba n))++[.ref nb]))) ll=_:=(b7 nlb).trans (s5 _ _ l1)
    have k2:∀c o,c≠ul→c≠bl→Hc c=some o→(upd (upd Ha nb (.dK (y8 tm))) bl (.lst (((nat (f i).begun).map fun n=>V.ref (W.ba n))++[.ref nb]))) c=some o:=fun c o n m e=>(b7 m).trans (s5 _ _ (k1 c o n e))
    have z2:∀c,(upd (upd Ha nb (.dK (y8 tm))) bl (.lst (((nat (f i).begun).map fun n=>V.ref (W.ba n))++[.ref nb]))) c=none→Hc c=none:=fun c e=>z1 c (n6 (n6 e))
    generalize upd (upd Ha nb (.dK (y8 tm))) bl (.lst (((nat (f i).begun).map fun n=>V.ref (W.ba n))++[.ref nb]))=Hb at g1 u2 b2 l2 k2 z2 ⊢
    refine⟨_,rfl,.inl ⟨rfl,_,d7.of l2⟩,fun nl hnl=>?_⟩
    have s6':=b9 (o:=.dK []) hnl
    have n2:=z2 _ hnl
    have n12:nb≠nl:=e7 g1 hnl
    have nll:nl≠ll:=(e7 l2 hnl).symm
    have nbl:nb≠ll:=fun z=>by rw[z,h.hl]at n1;cases n1
    refine⟨ll,_,_,rfl,rfl,s6' _ _ l2,m9 (by rw[ll'];omega),?_⟩
    exact⟨_,_,_,_,_,tm,rfl,h.begin ok n1 n2 n12 ((b7 nbl).trans (s6' _ _ g1)) ((b7 nll).trans b0) (fun c o c1 c2 c3 e=>(b7 c3).trans (s6' _ _ (k2 c o c1 c2 e))) ((b7 (Ne.symm nlu)).trans (s6' _ _ u2)) ((b7 (Ne.symm nlb)).trans (s6' _ _ b2)) b0,by omega⟩
  ·generalize f (i+1)=st1 at St sv ⊢
   cases St with
   | none z _=>cases z
   | @sweep m mb=>
    have hbc:=TB _ h.sm
    refine⟨_,rfl,b,_,0,_,rfl,rfl,hbc,rfl,rfl,_,rfl,d9 ?_⟩
    refine⟨_,rfl,b,_,0,_,rfl,rfl,hbc,rfl,rfl,_,rfl,d9 ?_⟩
    rcases sv with ⟨_,sv⟩ | ⟨e,_,z,_⟩
    ·exact d9 ⟨_,_,_,_,W,tm,rfl,h.cong rfl rfl rfl (fun d hd=>⟨d,hd,rfl,rfl,rfl⟩) sv (by show(Q4 (f i).vers m).map (·.1)=_;unfold Q4;rw[List.map_map];rfl),by omega⟩
    ·cases z
  have hbc:=TB _ h.sm
  rw[ed]at hbc
  refine⟨_,rfl,b,_,0,.str w,rfl,rfl,hbc,i8 (j:=0) rfl,rfl,_,rfl,?_⟩
  rw[decide_eq_false fun z=>nb (V.str.inj z)]
  refine d9 ⟨_,rfl,b,_,0,.str w,rfl,rfl,hbc,i8 (j:=0) rfl,rfl,_,rfl,?_⟩
  rw[decide_eq_false fun z=>nw (V.str.inj z)]
  refine l5 ⟨_,rfl,b,_,1,.int n,rfl,rfl,hbc,i8 (j:=1) rfl,_,rfl,ul,_,rfl,.inl (d7.of h.hu),rfl,a7c _,_,rfl,?_⟩
  rw[Z2]
  by_cases hin:n∈una (f i)
  case neg=>
   rw[decide_eq_false hin,b8a St hn hin]
   exact d9 ⟨_,_,_,_,W,tm,rfl,h,by omega⟩
  rw[decide_eq_true hin]
  obtain⟨m0,m1⟩:0≤n∧n<((f i).begun:Int):=ok.lt _ (List.mem_append_right _ hin)
  refine l5 ⟨_,rfl,_,rfl,b,_,1,.int n,rfl,rfl,hbc,i8 (j:=1) rfl,ll,_,_,_,rfl,rfl,d7.of h.hl,a6O m0 m1,?_⟩
  clear hbc
  have word:=fun(e:Addr) (Hx:Hp)=>d7.of (K:=K) (b0 (H:=Hx) (a:=e) (o:=.lst [V.str "end",V.str "leave"]))
  generalize f (i+1)=st1 at St sv ⊢
  cases St with
  | begin=>cases hn
  | sweep _=>cases hn
  | none z1 z2=>rw[hn]at z1;cases z1;exact absurd hin z2
  | @own d g x hdu hg=>
   cases ed
   obtain rfl:=hy
   refine Z1 (fun H'=>LA ta bl ll ul W H H' (f i) tm) ⟨_,rfl,b,_,0,_,rfl,rfl,TB _ h.sm,rfl,(by show 2≤sizeLine;decide),fun e he=>⟨e,_,rfl,.inl (word e _),rfl,rfl,_,rfl,d9 ⟨rfl,h.new (b9 he)⟩⟩⟩ fun H1 h=>?_
   have D:=h.dl d hdu
   refine F9 ⟨_,rfl,b,_,0,_,rfl,rfl,TB _ h.sm,rfl,rfl,_,rfl,d9 ⟨rfl,rfl⟩⟩ ?_
   refine Z1 (σ:=[some (.ref A),some (.ref Tl),some (.ref ta),some (.ref bl),some (.ref ll),some (.ref ul),some (.int (0+(i:Int))),some (.ref b),some (.ref (W.la d.num)),some (.int x)]) (fun H'=>H'=H1) ⟨_,rfl,b,_,0,_,rfl,rfl,TB _ h.sm,rfl,rfl,_,rfl,l5 ⟨_,rfl,W.la d.num,rfl,.inl ⟨_,.inl D.hl⟩,_,rfl,b,_,2,_,rfl,rfl,TB _ h.sm,rfl,_,rfl,_,rfl,b,_,1,_,rfl,rfl,TB _ h.sm,rfl,bl,_,_,_,rfl,rfl,d7.of h.hb,a6O m0 m1,W.ba d.num,rfl,.inl ⟨_,.inl D.hb⟩,_,rfl,b,_,2,_,rfl,rfl,TB _ h.sm,rfl,_,t9.k (k:=Sum.inr g) D.hb,_,t9.k (k:=Sum.inr g) D.hl,?_⟩⟩ fun H2 e2=>?_
   ·rw[U8 d.aside,hg]
    exact⟨_,rfl,_,rfl,Tl,_,_,_,rfl,rfl,TT _ h.sm,ay,_,"int",rfl,rfl,_,rfl,d9 ⟨_,rfl,_,rfl,Tl,_,_,_,rfl,rfl,TT _ h.sm,ay,_,rfl,rfl,_,rfl,V5 rfl ⟨rfl,rfl⟩⟩⟩
   subst e2
   exact⟨_,rfl,_,rfl,Tl,_,_,_,rfl,rfl,TT _ h.sm,ay,rl,.num x,_,rfl,rfl,_,rfl,d9 ⟨_,_,_,_,W,tm,rfl,h,by omega⟩⟩
  | @look d g hdu hg=>
   cases ed
   obtain rfl:=hy
   refine Z1 (fun H'=>LA ta bl ll ul W H H' (f i) tm) ⟨_,rfl,b,_,0,_,rfl,rfl,TB _ h.sm,rfl,(by show 2≤sizeLine;decide),fun e he=>⟨e,_,rfl,.inl (word e _),rfl,rfl,_,rfl,d9 ⟨rfl,h.new (b9 he)⟩⟩⟩ fun H1 h=>?_
   have D:=h.dl d hdu
   refine F9 ⟨_,rfl,b,_,0,_,rfl,rfl,TB _ h.sm,rfl,rfl,_,rfl,d9 ⟨rfl,rfl⟩⟩ ?_
   refine Z1 (σ:=[some (.ref A),some (.ref Tl),some (.ref ta),some (.ref bl),some (.ref ll),some (.ref ul),some (.int (0+(i:Int))),some (.ref b),some (.ref (W.la d.num)),some (.int (valueAt (v8 (f i).vers g) d.beg))]) (fun H'=>H'=H1) ⟨_,rfl,b,_,0,_,rfl,rfl,TB _ h.sm,rfl,rfl,_,rfl,l5 ⟨_,rfl,W.la d.num,rfl,.inl ⟨_,.inl D.hl⟩,_,rfl,b,_,2,_,rfl,rfl,TB _ h.sm,rfl,_,rfl,_,rfl,b,_,1,_,rfl,rfl,TB _ h.sm,rfl,bl,_,_,_,rfl,rfl,d7.of h.hb,a6O m0 m1,W.ba d.num,rfl,.inl ⟨_,.inl D.hb⟩,_,rfl,b,_,2,_,rfl,rfl,TB _ h.sm,rfl,_,t9.k (k:=Sum.inr g) D.hb,_,t9.k (k:=Sum.inr g) D.hl,?_⟩⟩ fun H2 e2=>?_
   ·have ev:((p9 (W.bm d.num) g).map V.int).getD (V.int 0)=.int (valueAt (v8 (f i).vers g) d.beg):=by
     have:=h.bv d hdu g
     cases z:p9 (W.bm d.num) g with
     | none=>rw[z]at this;exact congrArg V.int this
     | some x=>rw[z]at this;exact congrArg V.int this
    rw[U8 d.aside,hg,U8,ev]
    exact⟨_,rfl,_,rfl,Tl,_,_,_,rfl,rfl,TT _ h.sm,ay,_,"int",rfl,rfl,_,rfl,d9 ⟨_,rfl,_,rfl,Tl,_,_,_,rfl,rfl,TT _ h.sm,ay,_,rfl,rfl,_,rfl,V5 rfl ⟨rfl,rfl⟩⟩⟩
   subst e2
   refine⟨_,rfl,_,rfl,Tl,_,_,_,rfl,rfl,TT _ h.sm,ay,rl,.num _,_,rfl,rfl,_,rfl,d9 ⟨_,_,_,_,W,tm,rfl,h.cong rfl (J7 fun _=>rfl) rfl (fun e he=>?_) (fun _ _ _=>rfl) rfl,by omega⟩⟩
   obtain⟨x,hx,z | z⟩:=C8 he
   ·rw[z];exact⟨x,hx,rfl,rfl,rfl⟩
   ·rw[z];exact⟨x,hx,rfl,rfl,rfl⟩
  | @put d g x hdu=>
   cases ed
   obtain rfl:=hy
   have bas:=(bd.dl d hdu).2
   refine Z1 (fun H'=>LA ta bl ll ul W H H' (f i) tm) ⟨_,rfl,b,_,0,_,rfl,rfl,TB _ h.sm,rfl,(by show 2≤sizeLine;decide),fun e he=>⟨e,_,rfl,.inl (word e _),rfl,rfl,_,rfl,d9 ⟨rfl,h.new (b9 he)⟩⟩⟩ fun H1 h=>?_
   refine Z1 (fun H'=>LA ta bl ll ul W H H' (putSt (f i) d.num g x) tm) ⟨_,rfl,b,_,0,_,rfl,rfl,TB _ h.sm,rfl,rfl,_,rfl,l5 ⟨_,rfl,b,_,3,_,rfl,rfl,TB _ h.sm,rfl,_,rfl,_,rfl,b,_,2,_,rfl,rfl,TB _ h.sm,rfl,W.la d.num,_,rfl,M5.k (k:=Sum.inr g) (h.dl d hdu).hl (m9 (by rw[a3f];omega)),rfl,by rw[a8n];exact h.put hdu nd⟩⟩ fun H1 h=>?_
   refine F9 ⟨_,rfl,b,_,0,_,rfl,rfl,TB _ h.sm,rfl,rfl,_,rfl,d9 ⟨rfl,rfl⟩⟩ ?_
   exact⟨_,rfl,_,rfl,Tl,_,_,_,rfl,rfl,TT _ h.sm,ay,rl,.word "put",_,rfl,rfl,_,rfl,d9 ⟨_,_,_,_,W,tm,rfl,h,by omega⟩⟩
  | @leave d hdu=>
   cases ed
   obtain rfl:=hy
   obtain⟨j,j1,j2,j3⟩:=leav d.num hin
   refine Z1 (fun H'=>LA ta bl ll ul W H H' (u9 (f i) d.num) tm) ⟨_,rfl,b,_,0,_,rfl,rfl,TB _ h.sm,rfl,(by show 2≤sizeLine;decide),fun e he=>⟨e,_,rfl,.inl (word e _),rfl,rfl,_,rfl,l5 ⟨_,rfl,.inl ⟨rfl,_,d7.of (h.new (b9 he)).hu⟩,_,rfl,b,_,1,_,rfl,rfl,TB _ (h.new (b9 he)).sm,rfl,ul,_,_,j,rfl,rfl,(h.new (b9 he)).hu,j1,j2,rfl,by rw[j3];exact(h.new (b9 he)).drop d.num⟩⟩⟩ fun H1 h=>?_
   refine F9 ⟨_,rfl,b,_,0,_,rfl,rfl,TB _ h.sm,rfl,rfl,_,rfl,d9 ⟨rfl,rfl⟩⟩ (F9 ⟨_,rfl,b,_,0,_,rfl,rfl,TB _ h.sm,rfl,rfl,_,rfl,d9 ⟨rfl,rfl⟩⟩ ?_)
   exact⟨_,rfl,_,rfl,Tl,_,_,_,rfl,rfl,TT _ h.sm,ay,rl,.word "left",_,rfl,rfl,_,rfl,d9 ⟨_,_,_,_,W,tm,rfl,h,by omega⟩⟩
  | @ring d r cs rg hdu E0=>
   cases ed
   obtain⟨j,j1,j2,j3⟩:=leav d.num hin
   refine Z1 (fun H'=>LA ta bl ll ul W H H' (u9 (f i) d.num) tm) ⟨_,rfl,b,_,0,_,rfl,rfl,TB _ h.sm,rfl,(by show 2≤sizeLine;decide),fun e he=>⟨e,_,rfl,.inl (word e _),rfl,rfl,_,rfl,l5 ⟨_,rfl,.inl ⟨rfl,_,d7.of (h.new (b9 he)).hu⟩,_,rfl,b,_,1,_,rfl,rfl,TB _ (h.new (b9 he)).sm,rfl,ul,_,_,j,rfl,rfl,(h.new (b9 he)).hu,j1,j2,rfl,by rw[j3];exact(h.new (b9 he)).drop d.num⟩⟩⟩ fun H1 h=>?_
   refine F9 ⟨_,rfl,b,_,0,_,rfl,rfl,TB _ h.sm,rfl,rfl,_,rfl,d9 ⟨rfl,rfl⟩⟩ (F9 ⟨_,rfl,b,_,0,_,rfl,rfl,TB _ h.sm,rfl,rfl,_,rfl,d9 ⟨rfl,rfl⟩⟩ ?_)
   exact⟨_,rfl,_,rfl,Tl,_,_,_,rfl,rfl,TT _ h.sm,ay,rl,.ring rg,_,rfl,hy.same h.sm,_,rfl,d9 ⟨_,_,_,_,W,tm,rfl,h,by omega⟩⟩
  | @ended d r cs row hdu E0=>
   cases ed
   obtain rfl:=hy
   have bas:=(bd.dl d hdu).2
   have D:=h.dl d hdu
   obtain⟨j,j1,j2,j3⟩:=leav d.num hin
   refine Z1 (fun H'=>LA ta bl ll ul W H H' (u9 (f i) d.num) tm∧H' (W.la d.num)=some (.dK (y8 d.aside))) ⟨_,rfl,b,_,0,_,rfl,rfl,TB _ h.sm,rfl,(by show 2≤sizeLine;decide),fun e he=>⟨e,_,rfl,.inl (word e _),rfl,rfl,_,rfl,l5 ⟨_,rfl,.inl ⟨rfl,_,d7.of (h.new (b9 he)).hu⟩,_,rfl,b,_,1,_,rfl,rfl,TB _ (h.new (b9 he)).sm,rfl,ul,_,_,j,rfl,rfl,(h.new (b9 he)).hu,j1,j2,rfl,by rw[j3];exact⟨(h.new (b9 he)).drop d.num,ur (b9 he _ _ D.hl) D.r6 h.r4 (by simp)⟩⟩⟩⟩ fun H1 ⟨h,hla⟩=>?_
   refine F9 ⟨_,rfl,b,_,0,_,rfl,rfl,TB _ h.sm,rfl,rfl,_,rfl,d9 ⟨rfl,rfl⟩⟩ (F9 ⟨_,rfl,b,_,0,_,rfl,rfl,TB _ h.sm,rfl,rfl,_,rfl,d9 ⟨rfl,rfl⟩⟩ ?_)
   refine⟨_,rfl,_,rfl,Tl,_,_,_,rfl,rfl,TT _ h.sm,ay,rl,.word "ended",_,rfl,rfl,_,rfl,l5 ?_⟩
   have ne:ta≠W.la d.num:=P4 (G:=gOf W.rl) h.r1 D.r6 (by simp)
   refine⟨_,rfl,.inr (.inr (.inl ⟨rfl,.inl ⟨_,h.ht⟩⟩)),_,rfl,ta,W.la d.num,_,_,rfl,rfl,ne,h.ht,hla,Nat.le_of_lt (m9 (by rw[a3f,a3f];omega)),?_⟩
   rw[a5T]
   rcases sv with ⟨z,_⟩ | ⟨e,he,z,_,_,zu,v1,v2⟩
   ·have:=congrArg List.length z
    have e9:(a2h (f i) d r cs row).recs.length=(f i).recs.length+1:=by unfold a2h;simp
    omega
   injection z with z
   have:=L1 nd hdu he z
   subst this
   exact⟨_,_,_,_,W,_,rfl,h.take (vs.nd d hdu) vs.bg rfl zu v1 v2 (fun g=>a6D),Nat.le_trans (a5J _ _) (by omega)⟩
 ·obtain⟨_,_,_,_,W,tm,rfl,h,ltm⟩:=z
  exact⟨_,rfl,q ta tm Hc h.sm h.ht h.tn h.tk h.tv (by omega)⟩
theorem a4P(f:Nat→j0)(ds:List i7)(as:List t7)(i:Nat):(V3 f ds as i).length≤i:=by
 unfold V3;have:=List.length_filterMap_le (Q3 f ds as) (List.range i);rw[List.length_range]at this;exact this
def ixV(ks:List Nat):List V:=ks.map fun(k:Nat)=>V.int (k:Int)
theorem b6b(d:i7):(numOf d=none∧∃w,dv d=[.str w])∨∃w n ws,dv d=.str w::.int n::ws∧numOf d=some n:=by
 cases d with
 | begin=>exact .inl ⟨rfl,_,rfl⟩
 | sweep=>exact .inl ⟨rfl,_,rfl⟩
 | _=>exact .inr ⟨_,_,_,rfl,rfl⟩
inductive a2p(K:PySem.W.Frag)(vs:List V)(H:Hp)(Q:VK):Prop
 | mk (A Tl:Addr) (xs ys:List V) (ds:List i7) (as:List t7) (rl:Addr→Role) (f:Nat→j0) (x0:vs=[.ref A,.ref Tl]) (x1:H A=some (.lst xs)) (x2:y0 H ds xs) (x3:H Tl=some (.lst ys)) (x4:Paired (C0 rl H) as ys) (x5:Trace f ds as) (x6:ds.length≤63) (xq:∀(r:Addr) (H':Hp),g6 H H'→H' r=some (.lst (ixV (A7 (V3 f ds as ds.length) ds ds.length)))→Q (.ref r) H')
def a7r(K:PySem.W.Frag):Sp:=fun vs H Q _=>a2p K vs H Q
set_option maxHeartbeats 0 in
theorem a9u(T:A1 K mg t):g8 P w K mg base x9 2 t.f__law_filtered t.d__law_filtered ["_law_asked","_law_told"] (a7r K):=by
 refine T.F__law_filtered.ok A0 (fun vs H Q E h=>?_) (fun cdv A outer s H vs Q E hr h=>?_)
 ·obtain⟨A,Tl,xs,ys,ds,as,rl,f,rfl,_⟩:=h
  rfl
 obtain⟨A,Tl,xs,ys,ds,as,rl,f,rfl,hA,hD,hT,pa,F,bn,q⟩:=h
 have hu:=K9 hr
 refine⟨_,(b8 (g7 (i:=2) A0.nd rfl (Or.inl rfl) (m4 b6))
 (b8 (g7 (i:=3) A0.nd rfl (Or.inl rfl) (m4 b6))
 (b8 (g7 (i:=4) A0.nd rfl (Or.inl rfl) d5)
 (b8 (A9 PassesOwn.never rfl (M9 rfl T.m_range (a6 (f6 g9 rfl T.m_len PySem.boot_len (a6 (pv 0) b6)) b6)) (m5 (i:=5) A0.nd rfl (Or.inl rfl))
 (b8 (L7 (k7 (f7 z6 (d8 h7 (d8 k8 (pv 0) (pv 5) (fun _ _=>rfl)) d5 (fun _ _=>rfl)) l8 (i5 _))
 (b8 (l6 (p8 PySem.F.plainAttrs_list PySem.F.slot_list_append PySem.F.type_list_append m7 (pv 3) (a6 (pv 4) b6)))
 (c9 (g7 (i:=4) A0.nd rfl (Or.inl rfl) (j6 G4 (pv 4) d5))))
 i9))
 (c9 (k7 (PW.pt (Q2 (f7 W2 (d8 h7 (d8 k8 (pv 0) (pv 5) (fun _ _=>rfl)) d5 (fun _ _=>rfl)) (m4 (a6 l8 (a6 l8 b6))) (by with_unfolding_all rfl)) (N5 (f7 W2 (d8 h7 (d8 k8 (pv 0) (pv 5) (fun _ _=>rfl)) d5 (fun _ _=>rfl)) (pv 3) (by with_unfolding_all rfl)))))
 (b8 (l6 (p8 PySem.F.plainAttrs_list PySem.F.slot_list_remove PySem.F.type_list_remove a1l (pv 3) (a6 (d8 h7 (d8 k8 (pv 0) (pv 5) (fun _ _=>rfl)) d5 (fun _ _=>rfl)) b6)))
 (c9 (k7 (PW.pt (J9 (f7 z6 (d8 h7 (d8 k8 (pv 0) (pv 5) (fun _ _=>rfl)) d5 (fun _ _=>rfl)) l8 (i5 _)) (D7 (J8 (A5 (j9 (g8.mono (k:=1) (Q6 T) (by decide)) hr rfl T.m__law_ended T.F__law_ended.kp T.F__law_ended.b .nil l4 (a6 (d8 k8 (pv 1) (pv 5) (fun _ _=>rfl)) b6)))))))
 (c9 (l6 (p8 PySem.F.plainAttrs_list PySem.F.slot_list_append PySem.F.type_list_append m7 (pv 2) (a6 (d8 h7 (d8 k8 (pv 0) (pv 5) (fun _ _=>rfl)) d5 (fun _ _=>rfl)) b6))))
 i9)))
 i9))))
 (b8 (g7 (i:=6) A0.nd rfl (Or.inl rfl) (m4 b6))
 (b8 (A9 PassesOwn.never rfl (M9 rfl T.m_range (a6 (f6 g9 rfl T.m_len PySem.boot_len (a6 (pv 0) b6)) b6)) (m5 (i:=5) A0.nd rfl (Or.inl rfl))
 (c9 (k7 (PW.pt (J9 (f7 Z0 (f6 g9 rfl T.m_len PySem.boot_len (a6 (d8 k8 (pv 0) (pv 5) (fun _ _=>rfl)) b6)) d5 (i5 _)) (D7 (f7 a3a (d8 h7 (d8 k8 (pv 0) (pv 5) (fun _ _=>rfl)) d5 (fun _ _=>rfl)) (pv 2) (by with_unfolding_all rfl)))))
 (c9 (l6 (p8 PySem.F.plainAttrs_list PySem.F.slot_list_append PySem.F.type_list_append m7 (pv 6) (a6 (pv 5) b6))))
 i9)))
 (c9 (i3 (pv 6))))))))),?_⟩
 have lx:=hD.len
 have la:=F.len
 have ly:=n5 pa
 have SA:∀Hx,g6 H Hx→d7 K Hx A xs:=fun Hx sx=>d7.of (sx _ _ hA)
 have en:(((xs.length:Nat):Int)).toNat=ds.length:=by omega
 refine⟨(by show 0≤sizeLine;decide),fun bl hbl=>⟨(by show 0≤sizeLine;decide),fun ul hul=>?_⟩⟩
 have s1:=b9 (o:=.lst []) hbl
 have s2:=b9 (o:=.lst []) hul
 have nul:=j5 s1 hul
 have nbu:bl≠ul:=e7 b0 hul
 have hb2:=s2 _ _ (b0 (H:=H) (a:=bl) (o:=.lst []))
 refine⟨_,rfl,A,xs,rfl,.inl (SA _ (s1.trans s2)),_,rfl,by omega,by omega,?_⟩
 rw[en]
 have word:=fun(e:Addr) (Hx:Hp)=>d7.of (K:=K) (b0 (H:=Hx) (a:=e) (o:=.lst [V.str "end",V.str "leave"]))
 refine K5 (fun i σ' Hc=>∃o5 o6,σ'=[some (.ref A),some (.ref Tl),some (.ref bl),some (.ref ul),some (.int ((f i).begun:Int)),o5,o6]∧g6 H Hc∧Hc bl=some (.lst ((V3 f ds as i).map V.int))∧Hc ul=some (.lst ((una (f i)).map V.int))) ⟨none,none,by rw[F.zero];rfl,s1.trans s2,hb2,by rw[F.zero];exact b0⟩ (fun i σ' Hc hi z=>?_) (fun σ' Hc z=>?_)
 ·obtain⟨o5,o6,rfl,sc,hB,hU⟩:=z
  have hxi:=List.getElem?_eq_getElem (show i<xs.length by omega)
  have hyi:=List.getElem?_eq_getElem (show i<ys.length by omega)
  obtain⟨d,hd,b,eb,hb⟩:=v5 hD hxi
  obtain⟨an,han,hy⟩:=v5 pa hyi
  have e0:(0:Int)+(i:Int)=((i:Nat):Int):=by omega
  have ax:D6 xs ((0:Int)+(i:Int))=some (.ref b):=by rw[e0,←eb];exact i8 hxi
  generalize ys[i]=y at hyi hy
  have ay:D6 ys ((0:Int)+(i:Int))=some y:=by rw[e0];exact i8 hyi
  obtain⟨u1,v1⟩:=F.una hd
  have ok:=F.oks i (by omega)
  have nd:(una (f i)).Nodup:=(List.nodup_append.mp ok.un).2.1
  have bun:(una (f i)).length≤i:=by have:=(F.bds i (by omega)).un;unfold una;rw[qQ0];exact this
  have TB:∀Hx,g6 H Hx→i4 K Hx b (dv d):=fun Hx sx=>i4.of (sx _ _ hb)
  have lb:=a4P f ds as i
  have bs:=b2e f ds as i
  have TT:∀Hx,g6 H Hx→d7 K Hx Tl ys:=fun Hx sx=>d7.of (sx _ _ hT)
  have out:∀{n:Int},n∈una (f i)→∃j,(una (f i))[j]?=some n∧(∀k,k<j→(una (f i))[k]?≠some n)∧(una (f i)).eraseIdx j=(una (f i)).filter fun k=>decide (k≠n):=fun {n} hn=>by
   obtain⟨j,h1,h2⟩:=a2a hn
   exact⟨j,h1,h2,erase_filter nd h1⟩
  cases d with
  | begin=>
   have e:Q3 f ds as i=none:=by unfold Q3;rw[hd,han]
   rw[u1,v1,bs,e]
   refine⟨fun σ' H'=>σ'=[some (.ref A),some (.ref Tl),some (.ref bl),some (.ref ul),some (.int (((f i).begun:Int)+1)),some (.int (0+(i:Int))),o6]∧g6 H H'∧H' bl=some (.lst ((V3 f ds as i).map V.int))∧H' ul=some (.lst ((una (f i)++[((f i).begun:Int)]).map V.int)),?_,fun σ' H' hM=>?_⟩
   ·refine⟨_,rfl,_,rfl,A,_,_,_,rfl,rfl,SA _ sc,ax,b,_,0,_,rfl,rfl,TB _ sc,rfl,rfl,_,rfl,l5 ?_⟩
    refine⟨_,rfl,.inl ⟨rfl,_,d7.of hU⟩,_,rfl,ul,_,_,rfl,rfl,hU,m9 (by rw[qQ0];omega),?_⟩
    refine⟨_,rfl,_,_,rfl,rfl,rfl,j7 sc nul,by rw[b7 nbu];exact hB,?_⟩
    rw[b0,qQ6];rfl
   ·obtain⟨rfl,sm,h1,h2⟩:=hM
    refine⟨_,rfl,_,rfl,A,_,_,_,rfl,rfl,SA _ sm,ax,b,_,0,_,rfl,rfl,TB _ sm,rfl,(by show 2≤sizeLine;decide),fun e he=>⟨e,_,rfl,.inl (word e _),rfl,rfl,_,rfl,d9 ?_⟩⟩
    have s5:=b9 (o:=.lst [V.str "end",V.str "leave"]) he
    exact⟨_,_,rfl,sm.trans s5,by rw[Option.toList_none,List.append_nil];exact s5 _ _ h1,s5 _ _ h2⟩
  | leave n=>
   rw[u1,v1,bs]
   refine⟨fun σ' H'=>σ'=[some (.ref A),some (.ref Tl),some (.ref bl),some (.ref ul),some (.int ((f i).begun:Int)),some (.int (0+(i:Int))),o6]∧H'=Hc,?_,fun σ' H' hM=>?_⟩
   ·exact⟨_,rfl,_,rfl,A,_,_,_,rfl,rfl,SA _ sc,ax,b,_,0,_,rfl,rfl,TB _ sc,rfl,rfl,_,rfl,d9 ⟨rfl,rfl⟩⟩
   obtain⟨rfl,rfl⟩:=hM
   refine⟨_,rfl,_,rfl,A,_,_,_,rfl,rfl,SA _ sc,ax,b,_,0,_,rfl,rfl,TB _ sc,rfl,(by show 2≤sizeLine;decide),fun e he=>⟨e,_,rfl,.inl (word e _),rfl,rfl,_,rfl,l5 ?_⟩⟩
   have s5:=b9 (o:=.lst [V.str "end",V.str "leave"]) he
   have sm:=sc.trans s5
   have hB5:=s5 _ _ hB
   have hU5:=s5 _ _ hU
   generalize upd H' e (.lst [V.str "end",V.str "leave"])=H5 at s5 sm hB5 hU5 ⊢
   refine⟨_,rfl,_,rfl,A,_,_,_,rfl,rfl,SA _ sm,ax,b,_,1,_,rfl,rfl,TB _ sm,rfl,_,rfl,ul,_,rfl,.inl (d7.of hU5),rfl,a7c _,_,rfl,?_⟩
   by_cases c:n∈una (f i)
   ·have el:Q3 f ds as i=some n:=by unfold Q3;rw[hd];exact if_pos c
    rw[Z2,decide_eq_true c,el]
    refine l5 ?_
    obtain⟨j,j1,j2,j3⟩:=out c
    refine⟨_,rfl,.inl ⟨rfl,_,d7.of hU5⟩,_,rfl,_,rfl,A,_,_,_,rfl,rfl,SA _ sm,ax,b,_,1,_,rfl,rfl,TB _ sm,rfl,ul,_,_,j,rfl,rfl,hU5,j1,j2,?_⟩
    rw[j3]
    have s6:=j7 (o:=.lst (((una (f i)).filter fun k=>decide (k≠n)).map V.int)) sm nul
    have hB6:(upd H5 ul (.lst (((una (f i)).filter fun k=>decide (k≠n)).map V.int))) bl=_:=(b7 nbu).trans hB5
    have hU6:(upd H5 ul (.lst (((una (f i)).filter fun k=>decide (k≠n)).map V.int))) ul=_:=b0
    generalize upd H5 ul (.lst (((una (f i)).filter fun k=>decide (k≠n)).map V.int))=H6 at s6 hB6 hU6 ⊢
    refine⟨_,rfl,_,rfl,A,_,_,_,rfl,rfl,SA _ s6,ax,b,_,0,_,rfl,rfl,TB _ s6,rfl,rfl,_,rfl,l5 ?_⟩
    refine⟨_,rfl,.inl ⟨rfl,_,d7.of hB6⟩,_,rfl,_,rfl,A,_,_,_,rfl,rfl,SA _ s6,ax,b,_,1,_,rfl,rfl,TB _ s6,rfl,bl,_,_,rfl,rfl,hB6,m9 (by rw[qQ0];omega),?_⟩
    refine⟨_,_,rfl,j7 s6 hbl,?_,by rw[b7 (Ne.symm nbu)];exact hU6⟩
    rw[b0,Option.toList_some,qQ6];rfl
   ·have el:Q3 f ds as i=none:=by unfold Q3;rw[hd];exact if_neg c
    rw[Z2,decide_eq_false c,el]
    exact d9 ⟨_,_,rfl,sm,by rw[Option.toList_none,List.append_nil];exact hB5,by show _=some (HO.lst (((una (f i)).filter _).map V.int));rw[a9i c];exact hU5⟩
  | fin n=>
   rw[u1,v1,bs]
   refine⟨fun σ' H'=>σ'=[some (.ref A),some (.ref Tl),some (.ref bl),some (.ref ul),some (.int ((f i).begun:Int)),some (.int (0+(i:Int))),o6]∧H'=Hc,?_,fun σ' H' hM=>?_⟩
   ·exact⟨_,rfl,_,rfl,A,_,_,_,rfl,rfl,SA _ sc,ax,b,_,0,_,rfl,rfl,TB _ sc,rfl,rfl,_,rfl,d9 ⟨rfl,rfl⟩⟩
   obtain⟨rfl,rfl⟩:=hM
   refine⟨_,rfl,_,rfl,A,_,_,_,rfl,rfl,SA _ sc,ax,b,_,0,_,rfl,rfl,TB _ sc,rfl,(by show 2≤sizeLine;decide),fun e he=>⟨e,_,rfl,.inl (word e _),rfl,rfl,_,rfl,l5 ?_⟩⟩
   have s5:=b9 (o:=.lst [V.str "end",V.str "leave"]) he
   have sm:=sc.trans s5
   have hB5:=s5 _ _ hB
   have hU5:=s5 _ _ hU
   generalize upd H' e (.lst [V.str "end",V.str "leave"])=H5 at s5 sm hB5 hU5 ⊢
   refine⟨_,rfl,_,rfl,A,_,_,_,rfl,rfl,SA _ sm,ax,b,_,1,_,rfl,rfl,TB _ sm,rfl,_,rfl,ul,_,rfl,.inl (d7.of hU5),rfl,a7c _,_,rfl,?_⟩
   by_cases c:n∈una (f i)
   ·rw[Z2,decide_eq_true c]
    refine l5 ?_
    obtain⟨j,j1,j2,j3⟩:=out c
    refine⟨_,rfl,.inl ⟨rfl,_,d7.of hU5⟩,_,rfl,_,rfl,A,_,_,_,rfl,rfl,SA _ sm,ax,b,_,1,_,rfl,rfl,TB _ sm,rfl,ul,_,_,j,rfl,rfl,hU5,j1,j2,?_⟩
    rw[j3]
    have s6:=j7 (o:=.lst (((una (f i)).filter fun k=>decide (k≠n)).map V.int)) sm nul
    have hB6:(upd H5 ul (.lst (((una (f i)).filter fun k=>decide (k≠n)).map V.int))) bl=_:=(b7 nbu).trans hB5
    have hU6:(upd H5 ul (.lst (((una (f i)).filter fun k=>decide (k≠n)).map V.int))) ul=_:=b0
    generalize upd H5 ul (.lst (((una (f i)).filter fun k=>decide (k≠n)).map V.int))=H6 at s6 hB6 hU6 ⊢
    refine⟨_,rfl,_,rfl,A,_,_,_,rfl,rfl,SA _ s6,ax,b,_,0,_,rfl,rfl,TB _ s6,rfl,rfl,_,rfl,d9 ?_⟩
    refine⟨_,rfl,_,rfl,Tl,_,_,_,rfl,rfl,TT _ s6,ay,rl,an,y,rfl,hy.same s6,?_⟩
    cases ea:Z9 an with
    | true=>
     have el:Q3 f ds as i=none:=by unfold Q3;rw[hd,han];exact if_neg fun z=>by rw[ea]at z;cases z.2
     rw[el]
     exact⟨_,rfl,d9 ⟨_,_,rfl,s6,by rw[Option.toList_none,List.append_nil];exact hB6,hU6⟩⟩
    | false=>
     have el:Q3 f ds as i=some n:=by unfold Q3;rw[hd,han];exact if_pos ⟨c,ea⟩
     rw[el]
     refine⟨_,rfl,l5 ?_⟩
     refine⟨_,rfl,.inl ⟨rfl,_,d7.of hB6⟩,_,rfl,_,rfl,A,_,_,_,rfl,rfl,SA _ s6,ax,b,_,1,_,rfl,rfl,TB _ s6,rfl,bl,_,_,rfl,rfl,hB6,m9 (by rw[qQ0];omega),?_⟩
     refine⟨_,_,rfl,j7 s6 hbl,?_,by rw[b7 (Ne.symm nbu)];exact hU6⟩
     rw[b0,Option.toList_some,qQ6];rfl
   ·have el:Q3 f ds as i=none:=by unfold Q3;rw[hd,han];exact if_neg fun z=>c z.1
    rw[Z2,decide_eq_false c,el]
    exact d9 ⟨_,_,rfl,sm,by rw[Option.toList_none,List.append_nil];exact hB5,by show _=some (HO.lst (((una (f i)).filter _).map V.int));rw[a9i c];exact hU5⟩
  | _=>
   have e:Q3 f ds as i=none:=by unfold Q3;rw[hd,han]
   rw[u1,v1,bs,e]
   refine⟨fun σ' H'=>σ'=[some (.ref A),some (.ref Tl),some (.ref bl),some (.ref ul),some (.int ((f i).begun:Int)),some (.int (0+(i:Int))),o6]∧H'=Hc,?_,fun σ' H' hM=>?_⟩
   ·exact⟨_,rfl,_,rfl,A,_,_,_,rfl,rfl,SA _ sc,ax,b,_,0,_,rfl,rfl,TB _ sc,rfl,rfl,_,rfl,d9 ⟨rfl,rfl⟩⟩
   obtain⟨rfl,rfl⟩:=hM
   refine⟨_,rfl,_,rfl,A,_,_,_,rfl,rfl,SA _ sc,ax,b,_,0,_,rfl,rfl,TB _ sc,rfl,(by show 2≤sizeLine;decide),fun e he=>⟨e,_,rfl,.inl (word e _),rfl,rfl,_,rfl,d9 ?_⟩⟩
   have s5:=b9 (o:=.lst [V.str "end",V.str "leave"]) he
   exact⟨_,_,rfl,sc.trans s5,by rw[Option.toList_none,List.append_nil];exact s5 _ _ hB,s5 _ _ hU⟩
 obtain⟨o5,o6,rfl,sc,hB,_⟩:=z
 refine⟨(by show 0≤sizeLine;decide),fun th hth=>?_⟩
 have s3:=b9 (o:=.lst []) hth
 have nth:=j5 sc hth
 have nbt:bl≠th:=e7 hB hth
 refine⟨_,rfl,A,xs,rfl,.inl (SA _ (sc.trans s3)),_,rfl,by omega,by omega,?_⟩
 rw[en]
 have lb:=a4P f ds as ds.length
 generalize hBB:V3 f ds as ds.length=B at hB lb q
 refine K5 (fun i σ' Hc=>∃o5,σ'=[some (.ref A),some (.ref Tl),some (.ref bl),some (.ref ul),some (.int ((f ds.length).begun:Int)),o5,some (.ref th)]∧g6 H Hc∧Hc bl=some (.lst (B.map V.int))∧Hc th=some (.lst (ixV (A7 B ds i)))) ⟨_,rfl,sc.trans s3,s3 _ _ hB,b0⟩ (fun i σ' Hc hi z=>?_) (fun σ' Hc z=>?_)
 ·obtain⟨o5,rfl,sc,hB,hK⟩:=z
  have hxi:=List.getElem?_eq_getElem (show i<xs.length by omega)
  obtain⟨d,hd,b,eb,hb⟩:=v5 hD hxi
  have e0:(0:Int)+(i:Int)=((i:Nat):Int):=by omega
  have ax:D6 xs ((0:Int)+(i:Int))=some (.ref b):=by rw[e0,←eb];exact i8 hxi
  have TB:i4 K Hc b (dv d):=i4.of (sc _ _ hb)
  have lk:=a9P B ds i
  rw[a3n hd]
  have add:∀(k:kp B d=true),b0l (.ref th) [.int (0+(i:Int))] Hc fun _ H'=>∃o5,[some (V.ref A),some (.ref Tl),some (.ref bl),some (.ref ul),some (.int ((f ds.length).begun:Int)),some (.int (0+(i:Int))),some (.ref th)]=[some (.ref A),some (.ref Tl),some (.ref bl),some (.ref ul),some (.int ((f ds.length).begun:Int)),o5,some (.ref th)]∧g6 H H'∧H' bl=some (.lst (B.map V.int))∧H' th=some (.lst (ixV (if kp B d=true then A7 B ds i++[i] else A7 B ds i))):=fun k=>by
   refine⟨th,_,_,rfl,rfl,hK,m9 (by unfold ixV;rw[qQ0];omega),_,rfl,j7 sc nth,by rw[b7 nbt];exact hB,?_⟩
   rw[b0,if_pos k];unfold ixV;rw[qQ6,e0];rfl
  rcases b6b d with ⟨hn,w,ed⟩ | ⟨w,n,ws,ed,hn⟩
  ·have k:kp B d=true:=by unfold kp;rw[hn]
   rw[ed]at TB
   exact⟨_,rfl,_,rfl,A,_,_,_,rfl,rfl,SA _ sc,ax,b,_,rfl,.inr TB,_,_,rfl,rfl,_,rfl,l5 ⟨_,rfl,.inl ⟨rfl,_,d7.of hK⟩,_,rfl,add k⟩⟩
  ·have k:kp B d=decide (n∉B):=by unfold kp;rw[hn]
   rw[ed]at TB
   refine⟨_,rfl,_,rfl,A,_,_,_,rfl,rfl,SA _ sc,ax,b,_,rfl,.inr TB,_,_,rfl,rfl,_,rfl,G9 (fun c=>absurd (of_decide_eq_true c) (by simp only[List.length_cons];omega)) fun _=>?_⟩
   refine⟨_,rfl,_,rfl,A,_,_,_,rfl,rfl,SA _ sc,ax,b,_,1,.int n,rfl,rfl,TB,i8 (j:=1) rfl,_,rfl,bl,_,rfl,.inl (d7.of hB),rfl,a7c _,_,rfl,?_⟩
   rw[Z2]
   by_cases c:n∈B
   ·rw[decide_eq_true c]
    refine d9 ⟨_,rfl,sc,hB,?_⟩
    rw[if_neg (by rw[k];simpa using c)];exact hK
   ·rw[decide_eq_false c]
    exact l5 ⟨_,rfl,.inl ⟨rfl,_,d7.of hK⟩,_,rfl,add (by rw[k];simpa using c)⟩
 ·obtain⟨o5,rfl,sc,hB,hK⟩:=z
  exact⟨_,rfl,q th Hc sc hK⟩
inductive a1A(K:PySem.W.Frag)(vs:List V)(H:Hp)(Q:VK):Prop
 | mk (rl rl':Addr→Role) (a b:t7) (x y:V) (x0:vs=[x,y]) (x1:C0 rl H a x) (x2:C0 rl' H b y) (x3:a9I a b) (x4:(∀rg,a≠.ring rg)) (xq:Q (.bl true) H)
def a9H(K:PySem.W.Frag):Sp:=fun vs H Q _=>a1A K vs H Q
theorem a2H(T:A1 K mg t):g8 P w K mg base x9 2 t.f__law_alike t.d__law_alike ["_law_one","_law_two"] (a9H K):=by
 refine T.F__law_alike.ok a0I (fun vs H Q E h=>?_) (fun cdv A outer s H vs Q E hr h=>?_)
 ·obtain⟨rl,rl',a,b,x,y,rfl,_⟩:=h
  rfl
 obtain⟨rl,rl',a,b,x,y,rfl,ha,hb,al,nr,q⟩:=h
 refine⟨_,(b8 (k7 (PW.pt (J9 (A5 (f6 t8 rfl T.m_isinstance boot_isinstance (a6 (pv 0) (a6 (r8 (v:=.ty "list") rfl T.m_list boot_list rfl) b6)))) (D7 (A5 (f6 t8 rfl T.m_isinstance boot_isinstance (a6 (pv 1) (a6 (r8 (v:=.ty "list") rfl T.m_list boot_list rfl) b6)))))))
 (c9 (i3 y6))
 i9)
 (b8 (k7 (PW.pt (J9 (f7 a1b (pv 0) O8 (i5 _)) (D7 (f7 a1b (pv 1) O8 (i5 _)))))
 (c9 (i3 (W4 (P0 a1b (pv 0) O8 (i5 _)) (a2f (P0 a1b (pv 1) O8 (i5 _))))))
 i9)
 (b8 (k7 (PW.pt (J9 (A5 (f6 t8 rfl T.m_isinstance boot_isinstance (a6 (pv 0) (a6 (r8 (v:=.ty "str") rfl T.m_str boot_str rfl) b6)))) (D7 (A5 (f6 t8 rfl T.m_isinstance boot_isinstance (a6 (pv 1) (a6 (r8 (v:=.ty "str") rfl T.m_str boot_str rfl) b6)))))))
 (c9 (i3 (W4 (f6 t8 rfl T.m_isinstance boot_isinstance (a6 (pv 0) (a6 (r8 (v:=.ty "str") rfl T.m_str boot_str rfl) b6))) (W4 (f6 t8 rfl T.m_isinstance boot_isinstance (a6 (pv 1) (a6 (r8 (v:=.ty "str") rfl T.m_str boot_str rfl) b6))) (a2f (P0 z6 (pv 0) (pv 1) (i5 _)))))))
 i9)
 (c9 (i3 (W4 (j9 (g8.mono (k:=1) (Q5 T) (by decide)) hr rfl T.m__law_whole T.F__law_whole.kp T.F__law_whole.b .nil l4 (a6 (pv 0) b6)) (W4 (j9 (g8.mono (k:=1) (Q5 T) (by decide)) hr rfl T.m__law_whole T.F__law_whole.kp T.F__law_whole.b .nil l4 (a6 (pv 1) b6)) (a2f (P0 z6 (pv 0) (pv 1) (i5 _)))))))))),?_⟩
 cases a with
 | ring rg=>exact absurd rfl (nr rg)
 | num i=>
  cases b<;>try cases al
  obtain rfl:=ha
  obtain rfl:=hb
  refine⟨_,rfl,.int i,"int","list",rfl,rfl,by decide,_,rfl,d9 ⟨_,rfl,.int i,"int","list",rfl,rfl,by decide,_,rfl,d9 ?_⟩⟩
  refine⟨_,rfl,rfl,_,rfl,d9 ⟨_,rfl,rfl,_,rfl,d9 ?_⟩⟩
  refine⟨_,rfl,.int i,"int","str",rfl,rfl,by decide,_,rfl,d9 ⟨_,rfl,.int i,"int","str",rfl,rfl,by decide,_,rfl,d9 ?_⟩⟩
  refine⟨_,rfl,.int i,"int",rfl,rfl,_,rfl,l5 ⟨_,rfl,.int i,"int",rfl,rfl,_,rfl,l5 ⟨_,rfl,_,rfl,rfl,?_⟩⟩⟩
  rw[decide_eq_true rfl];exact q
 | word w=>
  cases b<;>try cases al
  obtain rfl:=ha
  obtain rfl:=hb
  refine⟨_,rfl,.str w,"str","list",rfl,rfl,by decide,_,rfl,d9 ⟨_,rfl,.str w,"str","list",rfl,rfl,by decide,_,rfl,d9 ?_⟩⟩
  refine⟨_,rfl,rfl,_,rfl,d9 ⟨_,rfl,rfl,_,rfl,d9 ?_⟩⟩
  refine⟨_,rfl,.str w,"str","str",rfl,rfl,by decide,_,rfl,l5 ?_⟩
  refine⟨_,rfl,.str w,"str","str",rfl,rfl,by decide,_,rfl,l5 ⟨_,rfl,.str w,"str","str",rfl,rfl,by decide,_,rfl,l5 ⟨_,rfl,_,rfl,rfl,?_⟩⟩⟩
  rw[decide_eq_true rfl];exact q
 | non=>
  cases b<;>try cases al
  obtain rfl:=ha
  obtain rfl:=hb
  refine⟨_,rfl,.non,"NoneType","list",rfl,rfl,by decide,_,rfl,d9 ⟨_,rfl,.non,"NoneType","list",rfl,rfl,by decide,_,rfl,d9 ?_⟩⟩
  refine⟨_,rfl,rfl,_,rfl,l5 ⟨_,rfl,rfl,_,rfl,l5 ⟨_,rfl,rfl,?_⟩⟩⟩
  rw[decide_eq_true rfl];exact q
theorem b3h{ks ms:List Str}(p:ks.Perm ms)(h:U2 ks)(k:U2 ms):ks=ms:=by
 unfold U2 at h k
 have:=a0e h k (p.map _)
 exact List.map_inj_right (fun a b e=>by
  have e:[(Sum.inr a.cps.toList:Atom)]=[Sum.inr b.cps.toList]:=e
  have e:=Sum.inr.inj (List.cons.inj e).1
  cases a;cases b
  exact congrArg Str.mk (Array.ext' e)) |>.mp this
def a7i(tm:Am)(js:List Str):Am:=js.map fun g=>(g,(p9 tm g).getD 0)
theorem b1l{st s:j0}{tm:Am}{ks js:List Str}(ev:s.vers=st.vers)(er:s.recs=st.recs)(pk:ks.Perm (s.vers.map (·.1)))(sk:U2 ks)(pj:js.Perm (tm.map (·.1)))(sj:U2 js)(tn:(tm.map (·.1)).Nodup)(vd:(s.vers.map (·.1)).Nodup)
  (tk:∀g,g∈tm.map (·.1)↔g∈st.vers.map (·.1)) (tv:∀g,(p9 tm g).getD 0=valOf st g (st.recs.length:Int)):a6n s ks=a7i tm js:=by
 rw[ev]at pk vd
 have:ks=js:=b3h (pk.trans ((a2i tn vd tk).symm.trans pj.symm)) sk sj
 subst this
 unfold a6n a7i
 refine List.map_congr_left fun g _=>?_
 rw[tv g]
 unfold valOf
 rw[ev,er]
theorem b6e{ds:List i7}{as:List t7}{st:j0}(R:Run O1 ds as st)(ok:∀d∈ds,S1 d){g:Str}(h:g∈st.vers.map (·.1)):PyData.strOk g=true:=by
 obtain⟨q,hq,rfl⟩:=qQ3.mp h
 obtain⟨d,hd,e⟩:=List.mem_filterMap.mp ((a4B R).1.ver q hq)
 have:=ok d hd
 cases d with
 | put n g a=>cases e;exact this.1
 | _=>cases e
theorem b2u{d:i7}(h:S1 d):u5 (dD d)=true∧(dD d).canLay0=true∧(dD d).depth≤3∧P7 (dD d)≤10:=by
 have s1:PyData.strOk ("begin":Str)=true:=by decide +kernel
 have s2:PyData.strOk ("look":Str)=true:=by decide +kernel
 have s3:PyData.strOk ("put":Str)=true:=by decide +kernel
 have s4:PyData.strOk ("end":Str)=true:=by decide +kernel
 have s5:PyData.strOk ("leave":Str)=true:=by decide +kernel
 have s6:PyData.strOk ("sweep":Str)=true:=by decide +kernel
 cases d with
 | look n g=>have:=h.1;simp[dD,u5,z8,PyData.canLay0,PyData.canLayAll0,PyData.depth,PyData.depthAll,P7,B6,s2,this]
 | put n g a=>have:=h.1;simp[dD,u5,z8,PyData.canLay0,PyData.canLayAll0,PyData.depth,PyData.depthAll,P7,B6,s3,this]
 | _=>simp[dD,u5,z8,PyData.canLay0,PyData.canLayAll0,PyData.depth,PyData.depthAll,P7,B6,s1,s4,s5,s6]
theorem a1R:∀{ds:List i7},(∀d∈ds,S1 d)→z8 (ds.map dD)=true∧PyData.canLayAll0 (ds.map dD)=true∧PyData.depthAll (ds.map dD)≤3∧B6 (ds.map dD)≤10*ds.length
 | [],_=>by simp[z8,PyData.canLayAll0,PyData.depthAll,B6]
 | d::ds,h=>by
  obtain⟨a1,a2,a3,a4⟩:=b2u (h d List.mem_cons_self)
  obtain⟨b1,b2,b3,b4⟩:=a1R fun e he=>h e (List.mem_cons_of_mem _ he)
  rw[List.map_cons,z8,PyData.canLayAll0,PyData.depthAll,B6,a1,b1,a2,b2,List.length_cons]
  exact⟨rfl,rfl,by omega,by omega⟩
theorem b8l{ds:List i7}(h:∀d∈ds,S1 d)(l:ds.length≤1000):V2 (.list (ds.map dD))∧P7 (.list (ds.map dD))≤1000000:=by
 obtain⟨b1,b2,b3,b4⟩:=a1R h
 refine⟨⟨by unfold u5;exact b1,by unfold PyData.canLay0;exact b2,by unfold PyData.depth;omega⟩,by unfold P7;omega⟩
def a1C:i7→Bool
 | .sweep=>false
 | _=>true
theorem b5t{d:i7}(h:d≠.sweep):a1C d=true:=by cases d<;>first | rfl | exact absurd rfl h
theorem b4t{d:i7}(h:a1C d=true):d≠.sweep:=by rintro rfl;cases h
inductive b2r(K:PySem.W.Frag)(vs:List V)(H:Hp)(Q:VK):Prop
 | mk (a:Addr) (ns:List Int) (x0:vs=[.ref a]) (x1:d7 K H a (ns.map V.int)) (x2:ns.length≤63) (xq:∀H',Q (.bl true) H')
def b7a(K:PySem.W.Frag):Sp:=fun vs H Q _=>b2r K vs H Q
set_option maxHeartbeats 0 in
theorem b9v(T:A1 K mg t):g8 P w K mg base x9 11 t.f_law t.d_law ["_law_script"] (b7a K):=by
 refine T.F_law.ok N2 (fun vs H Q E h=>?_) (fun cdv A outer s H vs Q E hr h=>?_)
 ·obtain⟨a,ns,rfl,_⟩:=h
  rfl
 obtain⟨a,ns,rfl,hS,hl,q⟩:=h
 have hu:=K9 hr
 refine⟨_,(b8 (g7 (i:=1) N2.nd rfl (Or.inr rfl) (N6 rfl (t6 (j9 (g8.mono (k:=10) (a6G T) (by decide)) hr rfl T.m__law_deeds T.F__law_deeds.kp T.F__law_deeds.b .nil l4 (a6 (R3 U7 (pv 0) U9 (T8 (j9 (g8.mono (k:=10) (a9N T) (by decide)) hr rfl T.m__law_room T.F__law_room.kp T.F__law_room.b .nil l4 (a6 (pv 0) (a6 d5 (a6 d5 b6)))))) b6))) (C5.mk (own:=["_law_deed"]) (tl:=["_law_script","_law_asked","_law_told","_law_kept","_law_fewer","_law_again","_law_k","_law_tally","_law_due","_law_rows","_law_handed","_law_found"]) rfl rfl rfl (fun _ _ _ _ _=>(m5 (i:=0) (b9o) rfl (Or.inl rfl))) (fun _ _ _ _ _=>(U5 (f7 N0 (d8 N9 (pv 0) d5 (fun _ _=>rfl)) l8 (i5 _)))) (fun _ _ _ _ _=>(pv 0)))))
 (b8 (g7 (i:=2) N2.nd rfl (Or.inl rfl) (j9 (g8.mono (k:=10) (a5v T) (by decide)) hr rfl T.m_answers T.F_answers.kp T.F_answers.b .nil l4 (a6 (D9 S3 rfl T.m_list boot_list (a6 (pv 1) b6)) b6)))
 (b8 (k7 (PW.pt (J9 (J8 (A5 (f6 t8 rfl T.m_isinstance boot_isinstance (a6 (pv 2) (a6 (r8 (v:=.ty "list") rfl T.m_list boot_list rfl) b6))))) (D7 (f7 N0 (f6 g9 rfl T.m_len PySem.boot_len (a6 (pv 2) b6)) (f6 g9 rfl T.m_len PySem.boot_len (a6 (pv 1) b6)) (i5 _)))))
 (c9 (i3 y6))
 i9)
 (b8 (k7 (J8 (A5 (j9 (g8.mono (k:=10) (a6l T) (by decide)) hr rfl T.m__law_ends_right T.F__law_ends_right.kp T.F__law_ends_right.b .nil l4 (a6 (pv 1) (a6 (pv 2) b6)))))
 (c9 (i3 y6))
 i9)
 (b8 (g7 (i:=3) N2.nd rfl (Or.inl rfl) (j9 (g8.mono (k:=10) (a9u T) (by decide)) hr rfl T.m__law_filtered T.F__law_filtered.kp T.F__law_filtered.b .nil l4 (a6 (pv 1) (a6 (pv 2) b6))))
 (b8 (a9o (i:=4) N2.nd rfl rfl rfl (t6 (pv 3)) (C5.mk (own:=["_law_k"]) (tl:=["_law_script","_law_asked","_law_told","_law_kept","_law_fewer","_law_again",".","_law_tally","_law_due","_law_rows","_law_handed","_law_found"]) rfl rfl rfl (fun _ _ _ _ _=>(m5 (i:=0) (b9l) rfl (Or.inl rfl))) (fun _ _ _ _ _=>V0) (fun _ _ _ _ _=>(d8 b6o (pv 2) (pv 0) (fun _ _=>rfl)))))
 (b8 (g7 (i:=5) N2.nd rfl (Or.inl rfl) (j9 (g8.mono (k:=10) (a5v T) (by decide)) hr rfl T.m_answers T.F_answers.kp T.F_answers.b .nil l4 (a6 (D9 S3 rfl T.m_list boot_list (a6 (pv 4) b6)) b6)))
 (b8 (k7 (PW.pt (J9 (J8 (A5 (f6 t8 rfl T.m_isinstance boot_isinstance (a6 (pv 5) (a6 (r8 (v:=.ty "list") rfl T.m_list boot_list rfl) b6))))) (D7 (f7 N0 (f6 g9 rfl T.m_len PySem.boot_len (a6 (pv 5) b6)) (f6 g9 rfl T.m_len PySem.boot_len (a6 (pv 4) b6)) (i5 _)))))
 (c9 (i3 y6))
 i9)
 (b8 (A9 PassesOwn.never rfl (M9 rfl T.m_range (a6 (f6 g9 rfl T.m_len PySem.boot_len (a6 (pv 3) b6)) b6)) (m5 (i:=6) N2.nd rfl (Or.inl rfl))
 (c9 (k7 (J8 (A5 (j9 (g8.mono (k:=10) (a2H T) (by decide)) hr rfl T.m__law_alike T.F__law_alike.kp T.F__law_alike.b .nil l4 (a6 (d8 k8 (pv 2) (d8 k8 (pv 3) (pv 6) (fun _ _=>rfl)) (fun _ _=>rfl)) (a6 (d8 k8 (pv 5) (pv 6) (fun _ _=>rfl)) b6)))))
 (c9 (i3 y6))
 i9)))
 (b8 (g7 (i:=7) N2.nd rfl (Or.inr rfl) (j9 (g8.mono (k:=10) (a8v T) (by decide)) hr rfl T.m__law_tallied T.F__law_tallied.kp T.F__law_tallied.b .nil l4 (a6 (pv 4) (a6 (pv 5) b6))))
 (b8 (k7 (f7 a1b (pv 7) O8 (i5 _))
 (c9 (i3 y6))
 i9)
 (b8 (a9o (i:=8) N2.nd rfl rfl rfl (t6 (f6 a2e rfl T.m_sorted boot_sorted (a6 (D9 (a0f rfl) rfl T.m_list boot_list (a6 (pv 7) b6)) b6))) (C5.mk (own:=["_law_good"]) (tl:=["_law_script","_law_asked","_law_told","_law_kept","_law_fewer","_law_again","_law_k","_law_tally","_law_due","_law_rows","_law_handed","_law_found"]) rfl rfl rfl (fun _ _ _ _ _=>(m5 (i:=0) (b5j) rfl (Or.inl rfl))) (fun _ _ _ _ _=>V0) (fun _ _ _ _ _=>(u6 (a6 (pv 0) (a6 (u4 hu (pv 8) (pv 0) (fun _ _=>rfl)) b6))))))
 (b8 (A9 PassesOwn.never rfl (t6 (m4 (a6 (pv 1) (a6 (pv 4) b6)))) (m5 (i:=9) N2.nd rfl (Or.inl rfl))
 (b8 (g7 (i:=10) N2.nd rfl (Or.inl rfl) (D9 S3 rfl T.m_list boot_list (a6 (pv 9) b6)))
 (b8 (g7 (i:=11) N2.nd rfl (Or.inl rfl) (j9 (g8.mono (k:=10) (b1d T) (by decide)) hr rfl T.m_ending T.F_ending.kp T.F_ending.b .nil l4 (a6 (pv 10) b6)))
 (b8 (k7 (PW.pt (J9 (J8 (A5 (j9 (g8.mono (k:=10) (a7t T) (by decide)) hr rfl T.m__law_unturned T.F__law_unturned.kp T.F__law_unturned.b .nil l4 (a6 (pv 10) (a6 (pv 9) b6))))) (J9 (J8 (A5 (f6 t8 rfl T.m_isinstance boot_isinstance (a6 (pv 11) (a6 (r8 (v:=.ty "tuple") rfl T.m_tuple boot_tuple rfl) b6))))) (D7 (f7 N0 (f6 g9 rfl T.m_len PySem.boot_len (a6 (pv 11) b6)) d5 (i5 _))))))
 (c9 (i3 y6))
 i9)
 (c9 (k7 (J8 (A5 (j9 (g8.mono (k:=10) (a6H T) (by decide)) hr rfl T.m__law_table T.F__law_table.kp T.F__law_table.b .nil l4 (a6 (d8 h7 (pv 11) d5 (fun _ _=>rfl)) (a6 (pv 8) b6)))))
 (c9 (i3 y6))
 i9))))))
 (c9 (i3 y6))))))))))))))),?_⟩
 have ec:a3e (ns.map V.int) none (some 44)=(ns.take 44).map V.int:=by rw[show(44:Int)=((44:Nat):Int) from rfl,a0L,List.map_take]
 refine⟨_,rfl,_,rfl,a,ns,_,_,rfl,hS,hl,_,rfl,a,_,rfl,hS,fun c hc=>?_⟩
 rw[ec]
 refine⟨c,ns.take 44,rfl,d7.of b0,by rw[List.length_take];omega,fun L us ls H1 s1 hL hDL lls okl _=>?_⟩
 have lls:ls.length≤63:=by rw[lls,List.length_take];omega
 refine⟨L,rfl,⟨_,d7.of hL⟩,fun A hA0=>?_⟩
 refine B7 (xs:=us) (fun i H'=>g6 H1 H'∧∃xs,H' A=some (.lst xs)∧y0 H' ((ls.take i).filter a1C) xs) ⟨b9 hA0,[],b0,.nil⟩ (fun i H' _ h=>d7.of (h.1 _ _ hL)) (fun i x H' hx h=>?_) (fun H2 h=>?_)
 ·obtain⟨sm,xs,h1,h2⟩:=h
  obtain⟨d,hd,b,rfl,hb⟩:=v5 hDL hx
  have hb:=sm _ _ hb
  have li:=(qQ1.mp hd).1
  have tk:ls.take (i+1)=ls.take i++[d]:=by rw[List.take_add_one,hd];rfl
  have lxs:=h2.len
  have:=List.length_filter_le (a1C) (ls.take i)
  rw[List.length_take]at this
  have add:∀(_:d≠.sweep),∃ys,H' A=some (.lst ys)∧ys.length<sizeLine∧g6 H1 (upd H' A (.lst (ys++[V.ref b])))∧∃xs,(upd H' A (.lst (ys++[V.ref b]))) A=some (.lst xs)∧y0 (upd H' A (.lst (ys++[V.ref b]))) ((ls.take (i+1)).filter a1C) xs:=fun nw=>by
   have k:=n9 (o:=.lst (xs++[V.ref b])) h1
   refine⟨xs,h1,m9 (by omega),j7 sm hA0,_,b0,?_⟩
   rw[tk,List.filter_append,List.filter_cons,if_pos (b5t nw)]
   exact y0.snoc ⟨b,rfl,k.1 _ _ hb⟩ (h2.tupK k)
  cases d with
  | sweep=>
   refine⟨_,rfl,b,_,0,_,rfl,rfl,i4.of hb,rfl,rfl,_,rfl,d9 ⟨sm,xs,h1,?_⟩⟩
   rw[tk,List.filter_append,List.filter_cons,if_neg (by intro z;cases z)]
   simpa using h2
  | _=>exact⟨_,rfl,b,_,0,_,rfl,rfl,i4.of hb,rfl,rfl,_,rfl,l5 ⟨_,rfl,add (by simp)⟩⟩
 obtain⟨s2,xs,hA,hD⟩:=h
 rw[hDL.len,List.take_length]at hD
 generalize hds:(ls.filter a1C)=ds at hD
 have nw:∀d∈ds,d≠.sweep:=fun d hd=>by rw[←hds]at hd;exact b4t (qW0.mp hd).2
 have okd:∀d∈ds,S1 d:=fun d hd=>by rw[←hds]at hd;exact okl d (qW0.mp hd).1
 have lds:ds.length≤63:=by rw[←hds];exact Nat.le_trans (List.length_filter_le _ _) lls
 clear hds
 have lx:=hD.len
 refine⟨_,rfl,A,_,rfl,.inl (d7.of hA),fun h0 hh0=>?_⟩
 have s3:=b9 (o:=.lst xs) hh0
 refine⟨h0,ds,xs,rfl,b0,hD.tupK s3.tupK,by omega,fun as st rl H3 Tl ys R s4 hT pa nr=>?_⟩
 have s24:=s3.trans s4
 have hA3:=s24 _ _ hA
 have hD3:=hD.tupK s24.tupK
 obtain⟨f,F,f1⟩:=R.to okd (by omega)
 have la:=F.len
 have ly:=n5 pa
 refine⟨_,rfl,.ref Tl,"list","list",rfl,.inl ⟨rfl,_,d7.of hT⟩,by decide,_,rfl,d9 ?_⟩
 refine⟨_,rfl,Tl,ys,rfl,.inl (d7.of hT),_,rfl,A,xs,rfl,.inl (d7.of hA3),rfl,_,rfl,V5 (by rw[ly,la,lx]) ?_⟩
 refine⟨_,rfl,_,rfl,A,Tl,xs,ys,ds,as,rl,f,rfl,hA3,hD3,hT,pa,F,by omega,fun H6 s6=>⟨_,rfl,d9 ?_⟩⟩
 refine⟨_,rfl,_,rfl,A,Tl,xs,ys,ds,as,rl,f,rfl,s6 _ _ hA3,hD3.tupK s6.tupK,s6 _ _ hT,Paired.mapP pa fun _ _ z=>z.same s6,F,by omega,fun Kp H7 s7 hK=>?_⟩
 have s37:=s6.trans s7
 have hA7:=s37 _ _ hA3
 have hD7:=hD3.tupK s37.tupK
 have hT7:=s37 _ _ hT
 have pa7:Paired (C0 rl H7) as ys:=Paired.mapP pa fun _ _ z=>z.same s37
 generalize hB:V3 f ds as ds.length=B at hK
 generalize hks:A7 B ds ds.length=ks at hK
 have lks:ks.length≤ds.length:=by rw[←hks];exact a9P _ _ _
 have klt:∀k∈ks,k<ds.length:=fun k hk=>by rw[←hks]at hk;exact a9V hk
 refine⟨_,rfl,Kp,rfl,⟨_,d7.of hK⟩,fun A2 hA2=>?_⟩
 refine B7 (xs:=ixV ks) (fun i H'=>g6 H7 H'∧∃zs es,H' A2=some (.lst zs)∧y0 H' es zs∧es.length=(ks.take i).length∧∀(j k:Nat),(ks.take i)[j]?=some k→es[j]?=ds[k]?) ⟨b9 hA2,[],[],b0,.nil,rfl,fun j k h=>by rw[List.take_zero]at h;simp at h⟩ (fun i H' _ h=>d7.of (h.1 _ _ hK)) (fun i x H' hx h=>?_) (fun H8 h=>?_)
 ·obtain⟨sm,zs,es,h1,h2,h3,h4⟩:=h
  unfold ixV at hx
  rw[qQ8]at hx
  obtain⟨k,hk,rfl⟩:=Option.map_eq_some_iff.mp hx
  have lt:=klt k (List.mem_of_getElem? hk)
  have li:=(qQ1.mp hk).1
  have hxk:=List.getElem?_eq_getElem (show k<xs.length by omega)
  obtain⟨d,hd,b,eb,hb⟩:=v5 hD7 hxk
  have kk:=n9 (o:=.lst (zs++[xs[k]])) h1
  have lzs:=h2.len
  rw[List.length_take]at h3
  refine⟨_,rfl,_,rfl,A,_,_,_,rfl,rfl,d7.of (sm _ _ hA7),i8 hxk,zs,h1,m9 (by omega),j7 sm hA2,_,es++[d],b0,y0.snoc ⟨b,eb,kk.1 _ _ (sm _ _ hb)⟩ (h2.tupK kk),?_,fun j k' hj=>?_⟩
  ·rw[qQ4,h3,List.length_take];simp only[List.length_singleton];omega
  ·rw[List.take_add_one,hk,Option.toList_some]at hj
   have lt:(ks.take i).length=es.length:=by rw[List.length_take,h3]
   rcases Nat.lt_or_ge j es.length with l | g
   ·rw[List.getElem?_append_left (by omega)]at hj
    rw[List.getElem?_append_left l];exact h4 j k' hj
   ·rw[List.getElem?_append_right (by omega),lt]at hj
    rw[List.getElem?_append_right g]
    have e:j-es.length=0:=by
     have:=(qQ1.mp hj).1
     simp only[List.length_singleton]at this;omega
    rw[e]at hj ⊢
    cases hj;exact hd.symm
 obtain⟨s8,zs,es,hA28,hE,le,he⟩:=h
 have lik:(ixV ks).length=ks.length:=qQ0 _
 rw[lik,List.take_length]at le he
 have oke:∀d∈es,S1 d:=fun d hd=>by
  obtain⟨j,hj⟩:=List.mem_iff_getElem?.mp hd
  have lj:=(qQ1.mp hj).1
  have hk:=List.getElem?_eq_getElem (l:=ks) (i:=j) (by omega)
  rw[he j _ hk]at hj
  exact okd d (List.mem_of_getElem? hj)
 have lz:=hE.len
 refine⟨_,rfl,A2,_,rfl,.inl (d7.of hA28),fun h1 hh1=>?_⟩
 have s9:=b9 (o:=.lst zs) hh1
 refine⟨h1,es,zs,rfl,b0,hE.tupK s9.tupK,by omega,fun bs st2 rl2 H9 T2 ws R2 sA hT2 pb nr2=>?_⟩
 have s89:=s9.trans sA
 have s79:=s8.trans s89
 have hA29:=s89 _ _ hA28
 have hE9:=hE.tupK s89.tupK
 have hK9:=s79 _ _ hK
 have hT9:=s79 _ _ hT7
 have pa9:Paired (C0 rl H9) as ys:=Paired.mapP pa7 fun _ _ z=>z.same s79
 obtain⟨g,G,g1⟩:=R2.to oke (by omega)
 have lb:=G.len
 have lw:=n5 pb
 refine⟨_,rfl,.ref T2,"list","list",rfl,.inl ⟨rfl,_,d7.of hT2⟩,by decide,_,rfl,d9 ?_⟩
 refine⟨_,rfl,T2,ws,rfl,.inl (d7.of hT2),_,rfl,A2,zs,rfl,.inl (d7.of hA29),rfl,_,rfl,V5 (by rw[lw,lb,lz]) ?_⟩
 have two:=a7N F G nw B hB.symm (by rw[hks];exact he) (by rw[hks];exact le)
 refine⟨_,rfl,Kp,_,rfl,.inl (d7.of hK9),_,rfl,by rw[lik];omega,by rw[lik];omega,?_⟩
 have en:((((ixV ks).length:Nat):Int)).toNat=ks.length:=by rw[lik];omega
 rw[en]
 refine K5 (fun i σ' Hc=>∃o6,σ'=[some (.ref a),some (.ref A),some (.ref Tl),some (.ref Kp),some (.ref A2),some (.ref T2),o6,none,none,none,none,none]∧Hc=H9) ⟨none,rfl,rfl⟩ (fun i σ' Hc hi z=>?_) (fun σ' Hc z=>?_)
 ·obtain⟨o6,rfl,rfl⟩:=z
  have e0:(0:Int)+(i:Int)=((i:Nat):Int):=by omega
  have hk:=List.getElem?_eq_getElem hi
  have lt:=klt ks[i] (List.mem_of_getElem? hk)
  generalize ks[i]=k at hk lt
  have ak:D6 (ixV ks) ((0:Int)+(i:Int))=some (.int (k:Int)):=by rw[e0];exact i8 (by unfold ixV;rw[qQ8,hk];rfl)
  have hyk:=List.getElem?_eq_getElem (show k<ys.length by omega)
  have hwi:=List.getElem?_eq_getElem (show i<ws.length by omega)
  obtain⟨an,han,hy⟩:=v5 pa9 hyk
  obtain⟨bn,hbn,hw⟩:=v5 pb hwi
  have aw:D6 ws ((0:Int)+(i:Int))=some ws[i]:=by rw[e0];exact i8 hwi
  have hd:=List.getElem?_eq_getElem lt
  have kk:kp B ds[k]=true∧(A7 B ds k).length=i:=by
   rw[←hks]at hk
   exact b6s hk hd
  obtain⟨a',b',ea,eb,al,nr'⟩:=(two ds.length (qQ7 _)).2 k _ lt hd kk.1
  rw[kk.2]at eb
  rw[han]at ea;cases ea
  rw[hbn]at eb;cases eb
  refine⟨_,rfl,_,rfl,_,rfl,Kp,_,_,_,rfl,rfl,d7.of hK9,ak,Tl,_,_,_,rfl,rfl,d7.of hT9,i8 hyk,_,rfl,_,rfl,T2,_,_,_,rfl,rfl,d7.of hT2,aw,rl,rl2,an,bn,_,_,rfl,hy,hw,al,nr',_,rfl,d9 ⟨_,rfl,rfl⟩⟩
 obtain⟨o6,rfl,rfl⟩:=z
 refine⟨_,rfl,_,rfl,A2,T2,zs,ws,es,bs,rl2,g,rfl,hA29,hE9,hT2,pb,G,by omega,fun ta tm HA sB hta tn tk tv ltm=>?_⟩
 refine⟨_,rfl,rfl,_,rfl,d9 ?_⟩
 have ltv:tm.length≤63:=by
  have:=u7 (m:=(g es.length).vers.map (·.1)) tn fun x hx=>(tk x).mp hx
  rw[qQ0,qQ0,g1]at this
  have:=a4M R2
  omega
 refine⟨_,rfl,ta,_,rfl,.inl hta,fun l1 hl1=>?_⟩
 rw[a6s]
 have sC:=b9 (o:=.lst ((tm.map (·.1)).map V.str)) hl1
 refine⟨l1,_,rfl,d7.of b0,⟨by rw[qQ0,qQ0];omega,fun x hx=>by obtain⟨z,_,rfl⟩:=qQ3.mp hx;exact⟨z,rfl⟩⟩,fun l2 js' hl2 pm io=>?_⟩
 obtain⟨js,rfl,pj⟩:=J3 pm
 unfold N8 at io
 rw[List.map_map]at io
 have sD:=b9 (o:=.lst (js.map V.str)) hl2
 have hl3:(upd (upd HA l1 (.lst ((tm.map (·.1)).map V.str))) l2 (.lst (js.map V.str))) l2=_:=b0
 have sBD:=(sB.trans sC).trans sD
 have htD:=sD _ _ (sC _ _ hta)
 generalize upd (upd HA l1 (.lst ((tm.map (·.1)).map V.str))) l2 (.lst (js.map V.str))=HD at hl3 sBD htD ⊢
 have ljs:js.length≤63:=by rw[pj.length_eq,qQ0];exact ltv
 refine⟨l2,rfl,⟨_,d7.of hl3⟩,fun du hdu=>?_⟩
 refine B7 (xs:=js.map V.str) (fun i H'=>g6 HD H'∧∃ps,H' du=some (.lst ps)∧Prs H' (a7i tm (js.take i)) ps) ⟨b9 hdu,[],b0,.nil⟩ (fun i H' _ h=>d7.of (h.1 _ _ hl3)) (fun i x H' hx h=>?_) (fun HF h=>?_)
 ·obtain⟨sm,ps,h1,h2⟩:=h
  rw[qQ8]at hx
  obtain⟨z,hz,rfl⟩:=Option.map_eq_some_iff.mp hx
  have dg:=t9.k (k:=Sum.inr z) (sm _ _ htD)
  rw[U8]at dg
  have hin:z∈tm.map (·.1):=pj.mem_iff.mp (List.mem_of_getElem? hz)
  cases hg:p9 tm z with
  | none=>exact absurd hin (a0M hg)
  | some x=>
   rw[hg]at dg
   refine⟨_,rfl,_,rfl,_,rfl,ta,_,rfl,dg,(by show 2≤sizeLine;decide),fun b hb=>?_⟩
   have s4:=b9 (o:=.tup [V.str z,V.int x]) hb
   have k4:=n9 (o:=.lst (ps++[V.ref b])) (s4 _ _ h1)
   refine⟨ps,s4 _ _ h1,m9 (by rw[n5 h2];unfold a7i;rw[qQ0,List.length_take];omega),j7 (sm.trans s4) hdu,_,b0,?_⟩
   have et:a7i tm (js.take (i+1))=a7i tm (js.take i)++[(z,x)]:=by
    unfold a7i
    rw[List.take_add_one,hz,Option.toList_some,qQ6,List.map_singleton,hg];rfl
   rw[et]
   exact Paired.snoc ((h2.tupK s4.tupK).tupK k4) ⟨b,rfl,k4.1 _ _ b0⟩
 obtain⟨sE,ps,hdu1,hps⟩:=h
 rw[qQ0,List.take_length]at hps
 have sF:=sBD.trans sE
 have row:∀v,v∈[V.ref A,V.ref A2]→∃(X:Addr) (cs:List V) (ds':List i7),v=.ref X∧HF X=some (.lst cs)∧y0 HF ds' cs∧ds'.length≤63∧(∀d∈ds',S1 d)∧∀as st,Run O1 ds' as st→st.vers=(g es.length).vers∧st.recs=(g es.length).recs:=fun v hv=>by
  rcases qQ9.mp hv with rfl | hv
  ·refine⟨A,xs,ds,rfl,sF _ _ (s79 _ _ hA7),(hD7.tupK s79.tupK).tupK sF.tupK,by omega,okd,fun as' st' R'=>?_⟩
   obtain⟨f',F',f1'⟩:=R'.to okd (by omega)
   have lk:=a8i F' F ds.length (qQ7 _)
   rw[f1']at lk
   have L:=(two ds.length (qQ7 _)).1
   rw[hks,←le]at L
   exact⟨lk.ve.trans L.ve,lk.rc.trans L.rc⟩
  ·have hv:=qQ2.mp hv
   subst hv
   refine⟨A2,zs,es,rfl,sF _ _ hA29,hE9.tupK sF.tupK,by omega,oke,fun as' st' R'=>?_⟩
   obtain⟨f',F',f1'⟩:=R'.to oke (by omega)
   have lk:=a8i F' G es.length (qQ7 _)
   rw[f1']at lk
   exact⟨lk.ve,lk.rc⟩
 refine⟨_,rfl,_,rfl,(by show 2≤sizeLine;decide),fun rw0 hrw=>?_⟩
 have sG:=b9 (o:=.lst [V.ref A,V.ref A2]) hrw
 have hr1:(upd HF rw0 (.lst [V.ref A,V.ref A2])) rw0=_:=b0
 generalize upd HF rw0 (.lst [V.ref A,V.ref A2])=HG at sG hr1 ⊢
 refine⟨rw0,rfl,⟨_,d7.of hr1⟩,?_⟩
 refine G0 (xs:=[V.ref A,V.ref A2]) (fun j σ' Hc=>∃o6 o9 oA oB:Option V,σ'=[some (.ref a),some (.ref A),some (.ref Tl),some (.ref Kp),some (.ref A2),some (.ref T2),o6,some (.ref ta),some (.ref du),o9,oA,oB]∧g6 HG Hc) ⟨_,none,none,none,rfl,g6.refl HG⟩ (fun j σ' Hc _ z=>?_) (fun j v σ' Hc hv z=>?_) (fun σ' Hc z=>?_)
 ·obtain⟨_,_,_,_,_,sc⟩:=z
  exact d7.of (sc _ _ hr1)
 ·obtain⟨o6,o9,oA,oB,rfl,sc⟩:=z
  obtain⟨X,cs,ds',rfl,hX,hDX,lX,okX,rX⟩:=row v (List.mem_of_getElem? hv)
  have sc':=sG.trans sc
  refine⟨_,rfl,X,_,rfl,.inl (d7.of (sc' _ _ hX)),fun hh hhh=>?_⟩
  have sH:=b9 (o:=.lst cs) hhh
  refine⟨_,rfl,hh,ds',cs,rfl,b0,(hDX.tupK sc'.tupK).tupK sH.tupK,lX,fun as' st' p W r HI R' sI hp hW am=>?_⟩
  obtain⟨ev,er⟩:=rX as' st' R'
  have sHI:=sH.trans sI
  have dI:=(hDX.tupK sc'.tupK).tupK sHI.tupK
  obtain⟨fin,siz⟩:=b8l okX (by omega)
  refine⟨_,rfl,_,rfl,.ref hh,.ref X,.list (ds'.map dD),rfl,by unfold Rep;exact⟨hh,_,rfl,d7.of (sI _ _ b0),dI.reps⟩,by unfold Rep;exact⟨X,_,rfl,d7.of (sHI _ _ (sc' _ _ hX)),dI.reps⟩,fin,siz,fun HJ sJ=>⟨_,rfl,d9 ?_⟩⟩
  obtain⟨xs',ks',a1,a2,a3,a4⟩:=am
  have td:=b1l ev er a3 a4 pj io tn (a4B R').2 tk tv
  rw[td]at a2
  have hpJ:=sJ _ _ hp
  have sIJ:=sHI.trans sJ
  refine⟨_,rfl,.ref p,"tuple","tuple",rfl,.inr (.inl ⟨rfl,_,i4.of hpJ⟩),by decide,_,rfl,d9 ?_⟩
  refine⟨_,rfl,p,_,rfl,.inr (i4.of hpJ),rfl,_,rfl,d9 ?_⟩
  refine⟨_,rfl,p,_,1,_,rfl,rfl,i4.of hpJ,rfl,_,rfl,r,du,xs',ps,a7i tm js,rfl,d7.of (sJ _ _ a1),d7.of ((sc'.trans sIJ) _ _ hdu1),a2.tupK sJ.tupK,hps.tupK (sc'.trans sIJ).tupK,by unfold a7i;rw[qQ0];omega,fun pr hpr=>?_,_,rfl,d9 ⟨_,_,_,_,rfl,sc.trans sIJ⟩⟩
  obtain⟨z,hz,rfl⟩:=qQ3.mp hpr
  have hz:z∈(g es.length).vers.map (·.1):=(tk z).mp (pj.mem_iff.mp hz)
  rw[g1]at hz
  exact b6e R2 oke hz
 ·exact q _
end
noncomputable section
theorem hM{P:Params}{f:Addr}{n q:Str}{s:Stmt}{m:Str}{t c:Nat}{ps:List Str}(h:((KK P).lookup f,PySem.W.codeIn (KK P) (.ref c) q,PySem.W.keepIn (KK P) (.ref f))=(some (hO (hF n q s m t c)),true,true))
  (b:∀us:List Value,us.length=ps.length→bindArgs (hF n q s m t c) ⟨us,[]⟩=pure (ps.zip us)):FB (KK P) n q s f (hF n q s m t c) ps:=by
 injection h with h1 h2
 injection h2 with h2 h3
 exact⟨b5v h1 h2 h3,.all b⟩
set_option maxHeartbeats 0 in
theorem all_mk{P:Params}{h:Heap}{mg:Str→Option Value}(X:(KK P).In h)(G:h.Ns mainGlobals mg):A1 (KK P) mg hT:=⟨hM (by kernel_rfl) (fun u h=>match u,h with | [_,_],_=>rfl),PySem.W.mg_of X G (by kernel_rfl),
 hM (by kernel_rfl) (fun u h=>match u,h with | [_,_,_,_],_=>rfl),PySem.W.mg_of X G (by kernel_rfl),
 hM (by kernel_rfl) (fun u h=>match u,h with | [_,_],_=>rfl),PySem.W.mg_of X G (by kernel_rfl),
 hM (by kernel_rfl) (fun u h=>match u,h with | [_,_],_=>rfl),PySem.W.mg_of X G (by kernel_rfl),
 hM (by kernel_rfl) (fun u h=>match u,h with | [_,_,_],_=>rfl),PySem.W.mg_of X G (by kernel_rfl),
 hM (by kernel_rfl) (fun u h=>match u,h with | [_,_],_=>rfl),PySem.W.mg_of X G (by kernel_rfl),
 hM (by kernel_rfl) (fun u h=>match u,h with | [_],_=>rfl),PySem.W.mg_of X G (by kernel_rfl),
 hM (by kernel_rfl) (fun u h=>match u,h with | [_,_],_=>rfl),PySem.W.mg_of X G (by kernel_rfl),
 hM (by kernel_rfl) (fun u h=>match u,h with | [_,_],_=>rfl),PySem.W.mg_of X G (by kernel_rfl),
 hM (by kernel_rfl) (fun u h=>match u,h with | [_,_],_=>rfl),PySem.W.mg_of X G (by kernel_rfl),
 hM (by kernel_rfl) (fun u h=>match u,h with | [_,_],_=>rfl),PySem.W.mg_of X G (by kernel_rfl),
 hM (by kernel_rfl) (fun u h=>match u,h with | [_,_],_=>rfl),PySem.W.mg_of X G (by kernel_rfl),
 hM (by kernel_rfl) (fun u h=>match u,h with | [_,_,_],_=>rfl),⟨(by kernel_rfl),(by kernel_rfl),(by kernel_rfl),(by kernel_rfl)⟩,
 hM (by kernel_rfl) (fun u h=>match u,h with | [_,_],_=>rfl),⟨(by kernel_rfl),(by kernel_rfl),(by kernel_rfl)⟩,
 hM (by kernel_rfl) (fun u h=>match u,h with | [_],_=>rfl),⟨(by kernel_rfl),(by kernel_rfl),(by kernel_rfl),(by kernel_rfl)⟩,
 hM (by kernel_rfl) (fun u h=>match u,h with | [_],_=>rfl),⟨(by kernel_rfl),(by kernel_rfl),(by kernel_rfl)⟩,
 hM (by kernel_rfl) (fun u h=>match u,h with | [_],_=>rfl),⟨(by kernel_rfl),(by kernel_rfl),(by kernel_rfl)⟩,
 hM (by kernel_rfl) (fun u h=>match u,h with | [_,_,_],_=>rfl),⟨(by kernel_rfl),(by kernel_rfl),(by kernel_rfl)⟩,
 hM (by kernel_rfl) (fun u h=>match u,h with | [_,_,_,_],_=>rfl),⟨(by kernel_rfl),(by kernel_rfl),(by kernel_rfl)⟩,
 hM (by kernel_rfl) (fun u h=>match u,h with | [_,_],_=>rfl),⟨(by kernel_rfl),(by kernel_rfl),(by kernel_rfl)⟩,
 hM (by kernel_rfl) (fun u h=>match u,h with | [_,_],_=>rfl),⟨(by kernel_rfl),(by kernel_rfl),(by kernel_rfl)⟩,
 hM (by kernel_rfl) (fun u h=>match u,h with | [_,_],_=>rfl),⟨(by kernel_rfl),(by kernel_rfl),(by kernel_rfl)⟩,
 hM (by kernel_rfl) (fun u h=>match u,h with | [_],_=>rfl),⟨(by kernel_rfl),(by kernel_rfl),(by kernel_rfl)⟩,
 hM (by kernel_rfl) (fun u h=>match u,h with | [_],_=>rfl),⟨(by kernel_rfl),(by kernel_rfl),(by kernel_rfl)⟩,
 hM (by kernel_rfl) (fun u h=>match u,h with | [_,_],_=>rfl),PySem.W.mg_of X G (by kernel_rfl),
 hM (by kernel_rfl) (fun u h=>match u,h with | [_,_],_=>rfl),PySem.W.mg_of X G (by kernel_rfl),
 hM (by kernel_rfl) (fun u h=>match u,h with | [_,_],_=>rfl),PySem.W.mg_of X G (by kernel_rfl),
 hM (by kernel_rfl) (fun u h=>match u,h with | [_,_],_=>rfl),PySem.W.mg_of X G (by kernel_rfl),
 hM (by kernel_rfl) (fun u h=>match u,h with | [_],_=>rfl),PySem.W.mg_of X G (by kernel_rfl),
 hM (by kernel_rfl) (fun u h=>match u,h with | [_],_=>rfl),PySem.W.mg_of X G (by kernel_rfl),
 hM (by kernel_rfl) (fun u h=>match u,h with | [_],_=>rfl),PySem.W.mg_of X G (by kernel_rfl),
 hM (by kernel_rfl) (fun u h=>match u,h with | [_,_],_=>rfl),PySem.W.mg_of X G (by kernel_rfl),
 hM (by kernel_rfl) (fun u h=>match u,h with | [_,_,_],_=>rfl),PySem.W.mg_of X G (by kernel_rfl),
 hM (by kernel_rfl) (fun u h=>match u,h with | [_],_=>rfl),PySem.W.mg_of X G (by kernel_rfl),
 hM (by kernel_rfl) (fun u h=>match u,h with | [_,_],_=>rfl),PySem.W.mg_of X G (by kernel_rfl),
 hM (by kernel_rfl) (fun u h=>match u,h with | [_,_],_=>rfl),PySem.W.mg_of X G (by kernel_rfl),
 hM (by kernel_rfl) (fun u h=>match u,h with | [_],_=>rfl),PySem.W.mg_of X G (by kernel_rfl),
 hM (by kernel_rfl) (fun u h=>match u,h with | [_],_=>rfl),PySem.W.mg_of X G (by kernel_rfl),
 hM (by kernel_rfl) (fun u h=>match u,h with | [_,_],_=>rfl),PySem.W.mg_of X G (by kernel_rfl),
 hM (by kernel_rfl) (fun u h=>match u,h with | [_,_],_=>rfl),PySem.W.mg_of X G (by kernel_rfl),
 hM (by kernel_rfl) (fun u h=>match u,h with | [_,_],_=>rfl),PySem.W.mg_of X G (by kernel_rfl),
 hM (by kernel_rfl) (fun u h=>match u,h with | [_,_],_=>rfl),PySem.W.mg_of X G (by kernel_rfl),
 hM (by kernel_rfl) (fun u h=>match u,h with | [_,_],_=>rfl),PySem.W.mg_of X G (by kernel_rfl),
 hM (by kernel_rfl) (fun u h=>match u,h with | [_,_],_=>rfl),PySem.W.mg_of X G (by kernel_rfl),
 hM (by kernel_rfl) (fun u h=>match u,h with | [_,_],_=>rfl),PySem.W.mg_of X G (by kernel_rfl),
 hM (by kernel_rfl) (fun u h=>match u,h with | [_],_=>rfl),PySem.W.mg_of X G (by kernel_rfl),
 ⟨(by kernel_rfl),(by kernel_rfl),(by kernel_rfl),(by kernel_rfl)⟩,PySem.W.mg_of X G (by kernel_rfl),
 (by unfold v3;kernel_rfl),
 (by unfold v3;kernel_rfl),
 (by unfold v3;kernel_rfl),
 (by unfold v3;kernel_rfl),
 ⟨(by kernel_rfl),(by kernel_rfl),(by kernel_rfl),(by kernel_rfl)⟩,PySem.W.mg_of X G (by kernel_rfl),
 (by unfold v3;kernel_rfl),
 (by unfold v3;kernel_rfl),
 (by unfold v3;kernel_rfl),
 (by unfold v3;kernel_rfl),
 (by unfold v3;kernel_rfl),
 (by unfold v3;kernel_rfl),
 PySem.W.mg_none_of X G (by kernel_rfl),
 PySem.W.mg_none_of X G (by kernel_rfl),
 PySem.W.mg_none_of X G (by kernel_rfl),
 PySem.W.mg_none_of X G (by kernel_rfl),
 PySem.W.mg_none_of X G (by kernel_rfl),
 PySem.W.mg_none_of X G (by kernel_rfl),
 PySem.W.mg_none_of X G (by kernel_rfl),
 PySem.W.mg_none_of X G (by kernel_rfl),
 PySem.W.mg_none_of X G (by kernel_rfl),
 PySem.W.mg_none_of X G (by kernel_rfl),
 PySem.W.mg_none_of X G (by kernel_rfl),
 PySem.W.mg_none_of X G (by kernel_rfl),
 PySem.W.mg_none_of X G (by kernel_rfl),
 PySem.W.mg_none_of X G (by kernel_rfl),
 PySem.W.mg_of X G (by kernel_rfl),⟨_,rfl⟩,
 PySem.W.mg_of X G (by kernel_rfl),⟨_,rfl⟩,
 PySem.W.mg_of X G (by kernel_rfl),⟨_,rfl⟩,
 PySem.W.mg_of X G (by kernel_rfl),⟨_,rfl⟩,
 PySem.W.mg_of X G (by kernel_rfl),⟨_,rfl⟩,
 PySem.W.mg_of X G (by kernel_rfl),⟨_,rfl⟩,
 PySem.W.mg_of X G (by kernel_rfl),⟨_,rfl⟩⟩
theorem hD0:PySem.W.defOf hQ (PySem.W.OpenLaw.row PySem.Challenge.rw_tallyhall_k10_whole_nothing_left).name=some (⟨"law",Z8 Q7,T7 Q7,i6 Q7,(b4e Q7)⟩,[]):=by kernel_rfl
theorem hW:PySem.W.WalkO hQ hL (PySem.W.XL hQ []) (PySem.W.Hook.says hH) (PySem.W.OpenRow.toRowW (PySem.W.OpenLaw.row PySem.Challenge.rw_tallyhall_k10_whole_nothing_left)) ⟨"law",Z8 Q7,T7 Q7,i6 Q7,(b4e Q7)⟩ [] (fun f vs=>PySem.call f vs):=
 L2.b8r (l:=PySem.Challenge.rw_tallyhall_k10_whole_nothing_left) (n:=63) (k:=11) (x:="_law_script") (K:=KK) (CX:=fun _=>x9) (sp:=fun w=>b7a (KK w.params)) rfl (by decide) rfl ⟨rfl,by decide,by decide⟩ (fun w h Y=>PySem.W.kIn_of Y)
  (fun w mg fa h X G e=>by
   have e1:=e.symm.trans (PySem.W.mg_of X G (v:=.ref 344) (by kernel_rfl))
   cases e1
   exact⟨hT.d_law,fun s v=>.of_eq rfl,fun base _ _=>b9v (all_mk X G)⟩)
  (fun _ _ a ns hl _ hS=>⟨a,ns,rfl,hS,hl,fun _=>rfl⟩) fun _ _ _ _ _ z=>z
end
end My
open PySem PySem.W PyProof.Rows
set_option maxRecDepth 100000 in
set_option maxHeartbeats 0 in
theorem PySem.Challenge.cw_tallyhall_k10_whole_nothing_left_holds : PySem.Challenge.rw_tallyhall_k10_whole_nothing_left.Holds := by
 refine PySem.W.holds_law (by kernel_rfl) fun said=>?_
 refine PySem.W.holds_open (q:=My.hQ) (loose:=My.hL) (Xt:=My.hX) (XP:=XL My.hQ []) (Yf:=Hook.obs My.hH) (Ya:=Hook.val My.hH) (YP:=Hook.says My.hH) My.b0C (Hook.of My.hH) (Hook.keeps My.hH) (fun s e=>xl_of s (Bool.and_eq_true_iff.mp e).1) XL.keeps My.hD0 (by kernel_rfl) rfl (fun s e=>recFacts_of (Bool.and_eq_true_iff.mp e).2) rfl said (by kernel_rfl) ⟨rfl,rfl,rfl,rfl,rfl,by decide +kernel⟩ ?hw My.hW
 case hw=>w_witness2
