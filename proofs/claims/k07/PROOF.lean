import PyProof.Rows.All
import Wide.All
import OpenK.AllK
import Wide.FinOn
import Lean
import PyProof.EqAt
import PyProof.EqKinds
import PyProof.TupleCall
import PyProof.Rows.SortStr
import OpenK.KMore
import PyProof.Rows.SetFrom
import PyProof.CollectWalk
import KE.KDictList
import PyProof.SumAny
import KE.KItemsList
import KE.KRevIter
import KE.KDictLaws
import PyProof.DictCopy
import PyProof.DictUpdate
import PySem.Challenge.RW_tallyhall_k07_whole_in_a_row
set_option Elab.async false
set_option linter.all false
set_option Elab.async false
set_option linter.all false
set_option maxRecDepth 100000
set_option maxHeartbeats 0
open List renaming length_map→aA0
open PySem renaming wpAny_bind→aA1
open List renaming getElem?_eq_some_iff→aA2,mem_singleton→aA3,length_append→aA4,mem_map→aA5
open PySem renaming wpAny_pure→aA6
open PySem.Heap renaming get?_push_of_some→aA7
abbrev aA8.{u}:=@if_neg.{u}
open List renaming mem_append→aA9
open PySem.F renaming plainAttrs_list→aB0
open List renaming getElem?_map→aB1
abbrev aB2:=@decide_eq_false
open Nat renaming le_refl→aB3
abbrev aB4.{u}:=@if_pos.{u}
open List renaming map_append→aB5
open PySem.F renaming slot_list_append→aB6
open List renaming mem_cons→aB7
open PySem.F renaming type_list_append→aB8
open List renaming mem_cons_self→aB9
open Option.some renaming inj→aC0
open List renaming mem_cons_of_mem→aC1
open PySem.Heap renaming lt_size→aC2
open List renaming map_cons→aC3
abbrev aC4:=@decide_eq_true
open PySem.Heap renaming get?_push_size→aC5
open PySem renaming boot_len→aC6
open PySem.W renaming mg_of→aC7
open List renaming mem_of_getElem?→aC8
open Bool renaming false_ne_true→aC9
open List renaming length_take→aD0,size_toArray→aD1,mem_filter→aD2,take_add_one→aD3,nodup_append→aD4,take_length→aD5
open Nat renaming ne_of_lt→aD6,le_trans→aD7
open Option renaming map_eq_some_iff→aD8
open List renaming mem_iff_getElem?→aD9,getElem?_append_left→aE0
open PySem.PassesOwn renaming never→aE1
open List renaming mem_append_right→aE2,mem_append_left→aE3,length_cons→aE4,map_congr_left→aE5,length_singleton→aE6
open Nat renaming lt_of_lt_of_le→aE7
open List renaming map_map→aE8
open Bool renaming and_eq_true→aE9
open List renaming getElem?_append_right→aF0,getD_eq_getElem?_getD→aF1
abbrev aF2:=@of_decide_eq_true
open Array renaming length_toList→aF3
open List renaming getElem?_inj→aF4
open PyProof.Rows renaming boot_isinstance→aF5
open PySem.W renaming mg_none_of→aF6
open List renaming not_mem_nil→aF7
open PySem.Heap renaming get?_update_other→aF8
open List renaming getElem_mem→aF9,append_assoc→aG0
open PySem.Around renaming under_plainId→aG1
open PySem renaming sizeLine_eq→aG2
open Nat renaming zero_le→aG3
open List renaming nodup_cons→aG4
open Option renaming toList_some→aG5
open PySem renaming wpAny_setState_of→aG6
abbrev aG7.{u}:=@beq_eq_false_iff_ne.{u}
open PySem.Heap renaming get?_update_self→aG8
open PySem renaming wpAny_newObj_type→aG9
open List renaming getElem?_take_of_lt→aH0,length_filter_le→aH1
open PySem renaming codeAny_builtin→aH2
abbrev aH3:=@of_decide_eq_false
open PySem renaming mem_of_lookup→aH4
open PySem.Heap.SameBut renaming update→aH5
open PySem renaming wpAny_mono→aH6
open List renaming find?_cons→aH7,length_drop→aH8,filter_cons→aH9
open PySem.Calls renaming spliced_cons→aI0
open List renaming find?_cons_of_neg→aI1
open PySem renaming wpAny_call_entry→aI2
open Classical renaming byContradiction→aI3
open PySem.Calls renaming callWith_builtin→aI4
open List renaming foldl_cons→aI5,append_nil→aI6,getElem?_drop→aI7
open Bool renaming false_eq_true→aI8
open PySem renaming wpAny_holding→aI9
open List renaming eq_nil_of_length_eq_zero→aJ0
open Nat renaming lt_irrefl→aJ1
open PySem renaming wpAny_Call_Name_kw→aJ2
open PySem.F renaming slot_list_extend→aJ3
open List renaming map_nil→aJ4,replicate_succ→aJ5,take_of_length_le→aJ6,find?_cons_of_pos→aJ7
open PySem renaming plainId_quiet→aJ8
open PySem.Heap renaming size_push→aJ9
open PySem.Paired renaming snoc→aK0
open Nat renaming ne_of_gt→aK1
open List renaming pairwise_cons→aK2,map_singleton→aK3
open PySem.F renaming type_list_extend→aK4
open List renaming take_sublist→aK5,flatten_cons→aK6
open Bool renaming eq_false_iff→aK7
open Nat renaming le_of_lt→aK8
open PySem.F renaming plainAttrs_dict→aK9
open List renaming eraseIdx_cons_succ→aL0,any_cons→aL1
open PySem.Calls renaming spliced_nil→aL2
open List renaming nodup_nil→aL3
abbrev aL4:=@or_false
open PySem renaming wpAny_callSpecial?_slot→aL5
open PySem.F renaming plain_min_loop→aL6
open PyProof.Rows renaming callWith_type1→aL7
open Nat renaming le_succ→aL8
open List renaming getElem?_eq_none→aL9
open Array renaming getElem?_toList→aM0
open PyProof.Rows renaming slot_tuple_getitem→aM1
abbrev aM2:=@decide_eq_true_eq
open Nat renaming lt_succ_of_lt→aM3
open Int renaming toNat_natCast→aM4
open List renaming mem_of_mem_take→aM5
open PySem renaming wpAny_passesOwn→aM6
open List renaming pairwise_iff_getElem→aM7
open PyProof.Rows renaming boot_list→aM8
open Nat renaming lt_succ_self→aM9
open PySem renaming wpAny_truthy_bool→aN0,fits_of_scanBound→aN1
open PySem.F renaming plain_extend_loop→aN2
open List renaming length_reverse→aN3,find?_eq_none→aN4
open PySem.F renaming called_set→aN5
open Sum.inr renaming inj→aN6
open PySem renaming tupleKind_room_in1→aN7
open List renaming take_append_drop→aN8
open Array renaming size_eq_one_iff→aN9
open List renaming lookup_cons→aO0,any_eq_true→aO1
open PyProof.Rows renaming boot_sorted→aO2
open List renaming getElem_toArray→aO3
abbrev aO4.{u}:=@if_false.{u}
open PySem.Heap.SameBut renaming refl→aO5
open PySem renaming wpAny_setField→aO6,wpAny_seqItems→aO7,call_meetsIn→aO8
open PySem.F renaming plain_list_iadd→aO9
open List renaming nil_append→aP0
open Int renaming le_refl→aP1
open PySem renaming wpAny_isInstance→aP2,wpAny_askSetting→aP3
open PySem.Calls renaming evalArgs_plain→aP4
open List renaming mem_filterMap→aP5,filter_append→aP6
abbrev aP7.{u}:=@beq_iff_eq.{u}
open PySem renaming wpAny_updateSeq→aP8
open List renaming reverse_cons→aP9,pairwise_map→aQ0
abbrev aQ1.{u}:=@if_true.{u}
abbrev aQ2:=@decide_eq_false_iff_not
open List renaming map_take→aQ3,getElem?_cons_succ→aQ4
open PySem renaming codeAny_mono→aQ5
open List renaming all_eq_true→aQ6
open PySem renaming wpAny_tryCatch→aQ7,wpAny_setEpoch_of→aQ8,wpAny_pyIter_list→aQ9,call_meets→aR0
open PySem.W renaming methodCall_KW→aR1
open PySem.F renaming slot_list_remove→aR2,slot_dict_get→aR3
open Option renaming map_some→aR4
open Nat renaming sub_self→aR5
open List renaming length_replicate→aR6,forIn_cons→aR7
open Bool renaming eq_iff_iff→aR8
open PySem renaming wpAny_Call_method0_late→aR9
open PySem.Paired renaming length→aS0
open List renaming mem_of_mem_drop→aS1,take_zero→aS2,mem_range→aS3
open Bool renaming and_false→aS4
open PySem renaming evalArgs_none→aS5
open PySem.W renaming plainGet_of→aS6
open PySem.F renaming slot_dict_itemiterator_iter→aS7
open List renaming map_id→aS8,filter_eq_self→aS9,filterMap_cons→aT0
open Int renaming toNat_of_nonneg→aT1
abbrev aT2:=@decide_eq_true_iff
open PySem renaming wpAny_specialOf→aT3,wpAny_execs_nil→aT4,builtinLookup_eq_fast→aT5
open PySem.W renaming callWith_K→aT6
open PySem.F renaming slot_list_pop→aT7
open Nat renaming lt_of_le_of_lt→aT8
open List renaming map_inj_right→aT9,foldlM_append→aU0,all_cons→aU1
open Int renaming emod_lt_of_pos→aU2
theorem l8(n:Nat)(h:n≤63:=by decide):n≤PySem.sizeLine:=aD7 h (by decide)
theorem zT_(n:Nat)(h:n≤63:=by decide):n<PySem.sizeLine:=aT8 h (by decide)
namespace L2
open PySem PySem.Spec PyProof.Rows
def inClass(s:Stmt)(j:Nat):Stmt:=match s with
 | .ClassDef _ _ _ body _ _ _ _ _ _ _=>body.getD j (.Pass ⟨0,0,0,0⟩)
 | _=>.Pass ⟨0,0,0,0⟩
def a7c(s:Stmt):Arguments:=match s with
 | .FunctionDef _ a _ _ _ _ _ _ _ _=>a
 | _=>{ posonlyargs:=[],args:=[],vararg:=none,kwonlyargs:=[],kw_defaults:=[],kwarg:=none,defaults:=[] }
def Y5(s:Stmt):List Stmt:=match s with
 | .FunctionDef _ _ b _ _ _ _ _ _ _=>b
 | _=>[]
def i6(s:Stmt):Scope:=match s with
 | .FunctionDef _ _ _ _ _ _ sc _ _ _=>sc
 | _=>{ kind:=.function,names:=[],isGenerator:=false,isCoroutine:=false }
end L2
namespace My
open PySem PySem.Spec PyProof.Rows L2
set_option maxRecDepth 100000
def top(i:Nat):Stmt:=PySem.Challenge.pw_tallyhall_k07_whole_in_a_row.main.body.getD i (.Pass ⟨0,0,0,0⟩)
abbrev a9q:Stmt:=top 6
abbrev a3g:Stmt:=top 7
abbrev W6:Stmt:=top 8
abbrev a8e:Stmt:=top 9
abbrev a4j:Stmt:=top 13
abbrev a1a:Stmt:=top 14
abbrev Z8:Stmt:=top 15
abbrev Z9:Stmt:=top 16
abbrev a7o:Stmt:=top 18
abbrev a4l:Stmt:=top 19
abbrev a6D:Stmt:=top 20
abbrev a1y:Stmt:=top 22
abbrev R4:Stmt:=inClass (top 23) 0
abbrev V7:Stmt:=inClass (top 23) 1
abbrev V2:Stmt:=inClass (top 24) 0
abbrev X9:Stmt:=inClass (top 24) 1
abbrev a6a:Stmt:=inClass (top 24) 2
abbrev a9c:Stmt:=inClass (top 24) 3
abbrev a5g:Stmt:=inClass (top 24) 4
abbrev a0a:Stmt:=inClass (top 24) 5
abbrev a8g:Stmt:=inClass (top 24) 6
abbrev U3:Stmt:=inClass (top 24) 7
abbrev a1b:Stmt:=inClass (top 24) 8
abbrev W9:Stmt:=inClass (top 24) 9
abbrev X1:Stmt:=top 26
abbrev R5:Stmt:=top 27
abbrev a9g:Stmt:=top 28
abbrev a7d:Stmt:=top 29
abbrev Y1:Stmt:=top 30
abbrev a3n:Stmt:=top 31
abbrev a0x:Stmt:=top 32
abbrev W2:Stmt:=top 34
abbrev a4d:Stmt:=top 35
abbrev Y2:Stmt:=top 36
abbrev a1d:Stmt:=top 37
abbrev a7f:Stmt:=top 38
abbrev a1e:Stmt:=top 39
abbrev a7e:Stmt:=top 40
abbrev a7a:Stmt:=top 41
abbrev a7g:Stmt:=top 42
abbrev U1:Stmt:=top 43
abbrev a9f:Stmt:=top 44
abbrev a5d:Stmt:=top 45
abbrev V3:Stmt:=top 46
abbrev a2d:Stmt:=top 47
abbrev a4a:Stmt:=top 48
abbrev a0b:Stmt:=top 49
abbrev U2:Stmt:=top 50
abbrev U7:Stmt:=top 51
set_option genInjectivity false in
set_option genSizeOf false in
structure E1 where
 f_in_both:Addr
 d_in_both:FuncData
 f_links_for:Addr
 d_links_for:FuncData
 f_links_between:Addr
 d_links_between:FuncData
 f_links_with:Addr
 d_links_with:FuncData
 f_links_by:Addr
 d_links_by:FuncData
 f_longest_row:Addr
 d_longest_row:FuncData
 f_ring_behind:Addr
 d_ring_behind:FuncData
 f_row_or_ring:Addr
 d_row_or_ring:FuncData
 f_reached:Addr
 d_reached:FuncData
 f_value_at:Addr
 d_value_at:FuncData
 f_swept:Addr
 d_swept:FuncData
 f_turned:Addr
 d_turned:FuncData
 f_Dealing___init__:Addr
 d_Dealing___init__:FuncData
 f_Dealing_record:Addr
 d_Dealing_record:FuncData
 f_Tally___init__:Addr
 d_Tally___init__:FuncData
 f_Tally_moment:Addr
 d_Tally_moment:FuncData
 f_Tally_begin:Addr
 d_Tally_begin:FuncData
 f_Tally_look:Addr
 d_Tally_look:FuncData
 f_Tally_put:Addr
 d_Tally_put:FuncData
 f_Tally_leave:Addr
 d_Tally_leave:FuncData
 f_Tally_end:Addr
 d_Tally_end:FuncData
 f_Tally_take_over:Addr
 d_Tally_take_over:FuncData
 f_Tally_sweep:Addr
 d_Tally_sweep:FuncData
 f_Tally_amounts:Addr
 d_Tally_amounts:FuncData
 f_answer_to_end:Addr
 d_answer_to_end:FuncData
 f_answer_under_way:Addr
 d_answer_under_way:FuncData
 f_answer_to:Addr
 d_answer_to:FuncData
 f_answers_at:Addr
 d_answers_at:FuncData
 f_tally_behind:Addr
 d_tally_behind:FuncData
 f_answers:Addr
 d_answers:FuncData
 f_ending:Addr
 d_ending:FuncData
 f__law_unturned:Addr
 d__law_unturned:FuncData
 f__law_whole:Addr
 d__law_whole:FuncData
 f__law_figures:Addr
 d__law_figures:FuncData
 f__law_table:Addr
 d__law_table:FuncData
 f__law_ware:Addr
 d__law_ware:FuncData
 f__law_deeds:Addr
 d__law_deeds:FuncData
 f__law_ended:Addr
 d__law_ended:FuncData
 f__law_walked:Addr
 d__law_walked:FuncData
 f__law_true:Addr
 d__law_true:FuncData
 f__law_links_kept:Addr
 d__law_links_kept:FuncData
 f__law_acts:Addr
 d__law_acts:FuncData
 f__law_alone:Addr
 d__law_alone:FuncData
 f__law_in_a_ring:Addr
 d__law_in_a_ring:FuncData
 f__law_mixed:Addr
 d__law_mixed:FuncData
 f__law_linked:Addr
 d__law_linked:FuncData
 f__law_ringed:Addr
 d__law_ringed:FuncData
 f__law_ends_right:Addr
 d__law_ends_right:FuncData
 f_law:Addr
 d_law:FuncData
 v_NUMBER:Value
 v_BEGAN:Value
 v_ENDED:Value
 v_LOOKED:Value
 v_PUT:Value
 v_ONE:Value
 v_OTHER:Value
 C_Dealing:Addr
 C_Tally:Addr
noncomputable section
def b5l(s:Stmt):Pos:=match s with
 | .FunctionDef _ _ _ _ _ _ _ _ _ p=>p
 | _=>⟨0,0,0,0⟩
abbrev hF(n q:Str)(s:Stmt)(m:Str)(t c:Nat):FuncData:=PySem.W.fnOf n q (a7c s) (Y5 s) (i6 s) .none .none .none (.str m t) none (.ref c) .none
noncomputable def hO(d:FuncData):Obj:=⟨.type "function",none,.func d,#[]⟩
noncomputable def hC(n q:Str)(t l a f r k r2:Nat)(x y:Value)(r3 i j:Nat):Obj:=⟨.type "code",none,.fields ⟨[.str n t,.str q (t+1),.str "/claim/cut.py" (t+2),.int l 0,.int a 0,.int 0 0,.int 0 0,.int f 0,.ref r,.bool true,.int k 0,.ref r2,.none,x,y,.ref r3,.int i 0,.int l 0,.str "/claim/cut.py" j]⟩,#[]⟩
noncomputable def hI(n:Str)(t:Nat)(v:Value):Str×Nat×Value:=(n,t,v)
noncomputable def hD(P:Params)(e:Nat)(l:List (Str×Nat×Value)):Obj:=⟨.type "dict",none,.dict ⟨l.map fun x=>⟨PyData.keyHash P x.1,.str x.1 x.2.1,x.2.2⟩⟩ e,#[]⟩
noncomputable def hK(n:Str)(a s t u:Nat):Obj:=⟨.type "type",none,.cls { name:=n,bases:=[.type "object"],mro:=[.ref a,.type "object"],ns:=s,qualname:=n },⟨[none,none,some (.str n t),some (.str n u),some (.builtin "object.__new__"),some (.bool true)]⟩⟩
noncomputable def hT:E1:=⟨21,hF "in_both" "in_both" a9q "tallyhall.links" 187 20,
 26,hF "links_for" "links_for" a3g "tallyhall.links" 187 25,
 33,hF "links_between" "links_between" W6 "tallyhall.links" 187 32,
 40,hF "links_with" "links_with" a8e "tallyhall.links" 187 39,
 47,hF "links_by" "links_by" a4j "tallyhall.rows" 232 46,
 52,hF "longest_row" "longest_row" a1a "tallyhall.rows" 232 51,
 59,hF "ring_behind" "ring_behind" Z8 "tallyhall.rows" 232 58,
 64,hF "row_or_ring" "row_or_ring" Z9 "tallyhall.rows" 232 63,
 69,hF "reached" "reached" a7o "tallyhall.versions" 274 68,
 76,hF "value_at" "value_at" a4l "tallyhall.versions" 274 75,
 83,hF "swept" "swept" a6D "tallyhall.versions" 274 82,
 88,hF "turned" "turned" a1y "tallyhall.tally" 300 87,
 102,hF "__init__" "Dealing.__init__" R4 "tallyhall.tally" 300 101,
 109,hF "record" "Dealing.record" V7 "tallyhall.tally" 300 108,
 130,hF "__init__" "Tally.__init__" V2 "tallyhall.tally" 300 129,
 137,hF "moment" "Tally.moment" X9 "tallyhall.tally" 300 136,
 144,hF "begin" "Tally.begin" a6a "tallyhall.tally" 300 143,
 151,hF "look" "Tally.look" a9c "tallyhall.tally" 300 150,
 158,hF "put" "Tally.put" a5g "tallyhall.tally" 300 157,
 165,hF "leave" "Tally.leave" a0a "tallyhall.tally" 300 164,
 170,hF "end" "Tally.end" a8g "tallyhall.tally" 300 169,
 177,hF "take_over" "Tally.take_over" U3 "tallyhall.tally" 300 176,
 182,hF "sweep" "Tally.sweep" a1b "tallyhall.tally" 300 181,
 187,hF "amounts" "Tally.amounts" W9 "tallyhall.tally" 300 186,
 201,hF "answer_to_end" "answer_to_end" X1 "tallyhall.day" 454 200,
 208,hF "answer_under_way" "answer_under_way" R5 "tallyhall.day" 454 207,
 215,hF "answer_to" "answer_to" a9g "tallyhall.day" 454 214,
 222,hF "answers_at" "answers_at" a7d "tallyhall.day" 454 221,
 229,hF "tally_behind" "tally_behind" Y1 "tallyhall.day" 454 228,
 236,hF "answers" "answers" a3n "tallyhall.day" 454 235,
 243,hF "ending" "ending" a0x "tallyhall.day" 454 242,
 250,hF "_law_unturned" "_law_unturned" W2 "law_tallyhall_k07_whole_in_a_row" 515 249,
 257,hF "_law_whole" "_law_whole" a4d "law_tallyhall_k07_whole_in_a_row" 515 256,
 264,hF "_law_figures" "_law_figures" Y2 "law_tallyhall_k07_whole_in_a_row" 515 263,
 271,hF "_law_table" "_law_table" a1d "law_tallyhall_k07_whole_in_a_row" 515 270,
 278,hF "_law_ware" "_law_ware" a7f "law_tallyhall_k07_whole_in_a_row" 515 277,
 285,hF "_law_deeds" "_law_deeds" a1e "law_tallyhall_k07_whole_in_a_row" 515 284,
 292,hF "_law_ended" "_law_ended" a7e "law_tallyhall_k07_whole_in_a_row" 515 291,
 299,hF "_law_walked" "_law_walked" a7a "law_tallyhall_k07_whole_in_a_row" 515 298,
 306,hF "_law_true" "_law_true" a7g "law_tallyhall_k07_whole_in_a_row" 515 305,
 313,hF "_law_links_kept" "_law_links_kept" U1 "law_tallyhall_k07_whole_in_a_row" 515 312,
 320,hF "_law_acts" "_law_acts" a9f "law_tallyhall_k07_whole_in_a_row" 515 319,
 327,hF "_law_alone" "_law_alone" a5d "law_tallyhall_k07_whole_in_a_row" 515 326,
 334,hF "_law_in_a_ring" "_law_in_a_ring" V3 "law_tallyhall_k07_whole_in_a_row" 515 333,
 341,hF "_law_mixed" "_law_mixed" a2d "law_tallyhall_k07_whole_in_a_row" 515 340,
 346,hF "_law_linked" "_law_linked" a4a "law_tallyhall_k07_whole_in_a_row" 515 345,
 353,hF "_law_ringed" "_law_ringed" a0b "law_tallyhall_k07_whole_in_a_row" 515 352,
 360,hF "_law_ends_right" "_law_ends_right" U2 "law_tallyhall_k07_whole_in_a_row" 515 359,
 365,hF "law" "law" U7 "law_tallyhall_k07_whole_in_a_row" 515 364,
 (.int 0 189),
 (.int 1 191),
 (.int 2 193),
 (.int 3 195),
 (.int 4 197),
 (.int 0 234),
 (.int 1 236),
 112,
 190⟩
noncomputable def hAS:List Nat:=[3,20,21,25,26,32,33,39,40,46,47,51,52,58,59,63,64,68,69,75,76,82,83,87,88,101,102,108,109,111,112,129,130,136,137,143,144,150,151,157,158,164,165,169,170,176,177,181,182,186,187,189,190,200,201,207,208,214,215,221,222,228,229,235,236,242,243,249,250,256,257,263,264,270,271,277,278,284,285,291,292,298,299,305,306,312,313,319,320,326,327,333,334,340,341,345,346,352,353,359,360,364,365]
noncomputable def KK(P:Params):PySem.W.Frag:=[(3,hD P 55 [hI "__name__" 165 (.str "law_tallyhall_k07_whole_in_a_row" 515),hI "__doc__" 166 .none,hI "__package__" 167 .none,hI "__loader__" 168 (.builtin "__main__.__loader__#opaque"),hI "__spec__" 169 .none,hI "__annotations__" 170 (.ref 6),hI "__builtins__" 171 (.ref 4),hI "__file__" 173 (.str "/claim/cut.py" 172),hI "__cached__" 174 .none,hI "NUMBER" 190 (.int 0 189),hI "BEGAN" 192 (.int 1 191),hI "ENDED" 194 (.int 2 193),hI "LOOKED" 196 (.int 3 195),hI "PUT" 198 (.int 4 197),hI "in_both" 206 (.ref 21),hI "links_for" 212 (.ref 26),hI "links_between" 221 (.ref 33),hI "links_with" 231 (.ref 40),hI "ONE" 235 (.int 0 234),hI "OTHER" 237 (.int 1 236),hI "links_by" 249 (.ref 47),hI "longest_row" 255 (.ref 52),hI "ring_behind" 267 (.ref 59),hI "row_or_ring" 273 (.ref 64),hI "reached" 281 (.ref 69),hI "value_at" 290 (.ref 76),hI "swept" 299 (.ref 83),hI "turned" 307 (.ref 88),hI "Dealing" 348 (.ref 112),hI "Tally" 453 (.ref 190),hI "answer_to_end" 464 (.ref 201),hI "answer_under_way" 473 (.ref 208),hI "answer_to" 481 (.ref 215),hI "answers_at" 491 (.ref 222),hI "tally_behind" 499 (.ref 229),hI "answers" 506 (.ref 236),hI "ending" 514 (.ref 243),hI "_law_unturned" 528 (.ref 250),hI "_law_whole" 535 (.ref 257),hI "_law_figures" 544 (.ref 264),hI "_law_table" 553 (.ref 271),hI "_law_ware" 562 (.ref 278),hI "_law_deeds" 586 (.ref 285),hI "_law_ended" 593 (.ref 292),hI "_law_walked" 611 (.ref 299),hI "_law_true" 621 (.ref 306),hI "_law_links_kept" 636 (.ref 313),hI "_law_acts" 648 (.ref 320),hI "_law_alone" 658 (.ref 327),hI "_law_in_a_ring" 669 (.ref 334),hI "_law_mixed" 678 (.ref 341),hI "_law_linked" 684 (.ref 346),hI "_law_ringed" 695 (.ref 353),hI "_law_ends_right" 706 (.ref 360),hI "law" 712 (.ref 365)]),
 (20,hC "in_both" "in_both" 199 7 2 3 15 181 16 (.ref 17) (.ref 18) 19 204 205),
 (21,hO hT.d_in_both),
 (25,hC "links_for" "links_for" 207 9 4 3 22 181 23 .none .none 24 210 211),
 (26,hO hT.d_links_for),
 (32,hC "links_between" "links_between" 213 11 2 3 27 181 28 (.ref 29) (.ref 30) 31 219 220),
 (33,hO hT.d_links_between),
 (39,hC "links_with" "links_with" 222 20 2 3 34 181 35 (.ref 36) (.ref 37) 38 229 230),
 (40,hO hT.d_links_with),
 (46,hC "links_by" "links_by" 238 29 3 3 41 181 42 (.ref 43) (.ref 44) 45 247 248),
 (47,hO hT.d_links_by),
 (51,hC "longest_row" "longest_row" 250 36 2 3 48 181 49 .none .none 50 253 254),
 (52,hO hT.d_longest_row),
 (58,hC "ring_behind" "ring_behind" 256 53 1 3 53 181 54 (.ref 55) (.ref 56) 57 265 266),
 (59,hO hT.d_ring_behind),
 (63,hC "row_or_ring" "row_or_ring" 268 65 2 3 60 181 61 .none .none 62 271 272),
 (64,hO hT.d_row_or_ring),
 (68,hC "reached" "reached" 276 74 2 3 65 181 66 .none .none 67 279 280),
 (69,hO hT.d_reached),
 (75,hC "value_at" "value_at" 282 76 2 3 70 181 71 (.ref 72) (.ref 73) 74 288 289),
 (76,hO hT.d_value_at),
 (82,hC "swept" "swept" 291 81 2 3 77 181 78 (.ref 79) (.ref 80) 81 297 298),
 (83,hO hT.d_swept),
 (87,hC "turned" "turned" 302 85 2 3 84 181 85 .none .none 86 305 306),
 (88,hO hT.d_turned),
 (101,hC "__init__" "Dealing.__init__" 320 90 3 3 96 181 97 (.ref 98) (.ref 99) 100 326 327),
 (102,hO hT.d_Dealing___init__),
 (108,hC "record" "Dealing.record" 329 96 2 3 103 181 104 (.ref 105) (.ref 106) 107 334 335),
 (109,hO hT.d_Dealing_record),
 (111,hD P 4 [hI "__module__" 315 (.str "tallyhall.tally" 300),hI "__firstlineno__" 319 (.int 88 318),hI "__init__" 328 (.ref 102),hI "record" 336 (.ref 109),hI "__static_attributes__" 341 (.ref 110),hI "__dict__" 343 (.ref 113),hI "__weakref__" 345 (.ref 114),hI "__doc__" 346 .none]),
 (112,hK "Dealing" 112 111 308 316),
 (129,hC "__init__" "Tally.__init__" 361 100 1 3 124 181 125 (.ref 126) (.ref 127) 128 365 366),
 (130,hO hT.d_Tally___init__),
 (136,hC "moment" "Tally.moment" 368 108 1 3 131 181 132 (.ref 133) (.ref 134) 135 372 373),
 (137,hO hT.d_Tally_moment),
 (143,hC "begin" "Tally.begin" 375 111 1 3 138 181 139 (.ref 140) (.ref 141) 142 380 381),
 (144,hO hT.d_Tally_begin),
 (150,hC "look" "Tally.look" 383 117 3 3 145 181 146 (.ref 147) (.ref 148) 149 390 391),
 (151,hO hT.d_Tally_look),
 (157,hC "put" "Tally.put" 393 124 4 3 152 181 153 (.ref 154) (.ref 155) 156 401 402),
 (158,hO hT.d_Tally_put),
 (164,hC "leave" "Tally.leave" 404 128 2 3 159 181 160 (.ref 161) (.ref 162) 163 409 410),
 (165,hO hT.d_Tally_leave),
 (169,hC "end" "Tally.end" 412 131 2 3 166 181 167 .none .none 168 415 416),
 (170,hO hT.d_Tally_end),
 (176,hC "take_over" "Tally.take_over" 418 144 2 3 171 181 172 (.ref 173) (.ref 174) 175 425 426),
 (177,hO hT.d_Tally_take_over),
 (181,hC "sweep" "Tally.sweep" 428 148 1 3 178 181 179 .none .none 180 431 432),
 (182,hO hT.d_Tally_sweep),
 (186,hC "amounts" "Tally.amounts" 434 158 1 3 183 181 184 .none .none 185 437 438),
 (187,hO hT.d_Tally_amounts),
 (189,hD P 4 [hI "__module__" 356 (.str "tallyhall.tally" 300),hI "__firstlineno__" 360 (.int 98 359),hI "__init__" 367 (.ref 130),hI "moment" 374 (.ref 137),hI "begin" 382 (.ref 144),hI "look" 392 (.ref 151),hI "put" 403 (.ref 158),hI "leave" 411 (.ref 165),hI "end" 417 (.ref 170),hI "take_over" 427 (.ref 177),hI "sweep" 433 (.ref 182),hI "amounts" 439 (.ref 187),hI "__static_attributes__" 446 (.ref 188),hI "__dict__" 448 (.ref 191),hI "__weakref__" 450 (.ref 192),hI "__doc__" 451 .none]),
 (190,hK "Tally" 190 189 349 357),
 (200,hC "answer_to_end" "answer_to_end" 456 161 2 3 195 181 196 (.ref 197) (.ref 198) 199 462 463),
 (201,hO hT.d_answer_to_end),
 (207,hC "answer_under_way" "answer_under_way" 465 166 2 3 202 181 203 (.ref 204) (.ref 205) 206 471 472),
 (208,hO hT.d_answer_under_way),
 (214,hC "answer_to" "answer_to" 474 177 2 3 209 181 210 (.ref 211) (.ref 212) 213 479 480),
 (215,hO hT.d_answer_to),
 (221,hC "answers_at" "answers_at" 482 185 2 3 216 181 217 (.ref 218) (.ref 219) 220 489 490),
 (222,hO hT.d_answers_at),
 (228,hC "tally_behind" "tally_behind" 492 190 1 3 223 181 224 (.ref 225) (.ref 226) 227 497 498),
 (229,hO hT.d_tally_behind),
 (235,hC "answers" "answers" 500 194 1 3 230 181 231 (.ref 232) (.ref 233) 234 504 505),
 (236,hO hT.d_answers),
 (242,hC "ending" "ending" 507 196 1 3 237 181 238 (.ref 239) (.ref 240) 241 512 513),
 (243,hO hT.d_ending),
 (249,hC "_law_unturned" "_law_unturned" 517 200 2 3 244 181 245 (.ref 246) (.ref 247) 248 526 527),
 (250,hO hT.d__law_unturned),
 (256,hC "_law_whole" "_law_whole" 529 221 1 3 251 181 252 (.ref 253) (.ref 254) 255 533 534),
 (257,hO hT.d__law_whole),
 (263,hC "_law_figures" "_law_figures" 536 223 2 3 258 181 259 (.ref 260) (.ref 261) 262 542 543),
 (264,hO hT.d__law_figures),
 (270,hC "_law_table" "_law_table" 545 230 2 3 265 181 266 (.ref 267) (.ref 268) 269 551 552),
 (271,hO hT.d__law_table),
 (277,hC "_law_ware" "_law_ware" 554 241 2 3 272 181 273 (.ref 274) (.ref 275) 276 560 561),
 (278,hO hT.d__law_ware),
 (284,hC "_law_deeds" "_law_deeds" 563 244 1 3 279 181 280 (.ref 281) (.ref 282) 283 584 585),
 (285,hO hT.d__law_deeds),
 (291,hC "_law_ended" "_law_ended" 587 282 1 3 286 181 287 (.ref 288) (.ref 289) 290 591 592),
 (292,hO hT.d__law_ended),
 (298,hC "_law_walked" "_law_walked" 594 284 2 3 293 181 294 (.ref 295) (.ref 296) 297 609 610),
 (299,hO hT.d__law_walked),
 (305,hC "_law_true" "_law_true" 612 311 3 3 300 181 301 (.ref 302) (.ref 303) 304 619 620),
 (306,hO hT.d__law_true),
 (312,hC "_law_links_kept" "_law_links_kept" 622 320 2 3 307 181 308 (.ref 309) (.ref 310) 311 634 635),
 (313,hO hT.d__law_links_kept),
 (319,hC "_law_acts" "_law_acts" 637 332 2 3 314 181 315 (.ref 316) (.ref 317) 318 646 647),
 (320,hO hT.d__law_acts),
 (326,hC "_law_alone" "_law_alone" 649 345 2 3 321 181 322 (.ref 323) (.ref 324) 325 656 657),
 (327,hO hT.d__law_alone),
 (333,hC "_law_in_a_ring" "_law_in_a_ring" 659 353 1 3 328 181 329 (.ref 330) (.ref 331) 332 667 668),
 (334,hO hT.d__law_in_a_ring),
 (340,hC "_law_mixed" "_law_mixed" 670 363 1 3 335 181 336 (.ref 337) (.ref 338) 339 676 677),
 (341,hO hT.d__law_mixed),
 (345,hC "_law_linked" "_law_linked" 679 372 2 3 342 181 343 .none .none 344 682 683),
 (346,hO hT.d__law_linked),
 (352,hC "_law_ringed" "_law_ringed" 685 378 2 3 347 181 348 (.ref 349) (.ref 350) 351 693 694),
 (353,hO hT.d__law_ringed),
 (359,hC "_law_ends_right" "_law_ends_right" 696 390 2 3 354 181 355 (.ref 356) (.ref 357) 358 704 705),
 (360,hO hT.d__law_ends_right),
 (364,hC "law" "law" 707 395 1 3 361 181 362 .none .none 363 710 711),
 (365,hO hT.d_law)]
noncomputable def hQ:Program:={ PySem.Challenge.pw_tallyhall_k07_whole_in_a_row with main:={ PySem.Challenge.pw_tallyhall_k07_whole_in_a_row.main with body:=[U7] } }
noncomputable def hL:List Str:=(["__name__","NUMBER","BEGAN","ENDED","LOOKED","PUT","in_both","links_for","links_between","links_with","ONE","OTHER","links_by","longest_row","ring_behind","row_or_ring","reached","value_at","swept","turned","Dealing","Tally","answer_to_end","answer_under_way","answer_to","answers_at","tally_behind","answers","ending","_law_unturned","_law_whole","_law_figures","_law_table","_law_ware","_law_deeds","_law_ended","_law_walked","_law_true","_law_links_kept","_law_acts","_law_alone","_law_in_a_ring","_law_mixed","_law_linked","_law_ringed","_law_ends_right"]:List String).map Str.ofString
theorem hE:∀P,hAS=(KK P).map (·.1):=fun _=>rfl
noncomputable def hH:PySem.W.Hook:=PySem.W.kHook KK hAS hE
noncomputable def hX(s:Shared):Bool:=PySem.W.xlAt hQ [] s&&PySem.W.recOk (PySem.W.RowW.records (PySem.W.OpenRow.toRowW (PySem.W.OpenLaw.row PySem.Challenge.rw_tallyhall_k07_whole_in_a_row))) s
theorem b2H:PySem.W.LeftO PySem.Challenge.pw_tallyhall_k07_whole_in_a_row hQ hL hX (PySem.W.Hook.obs hH) (PySem.W.Hook.val hH) 4200:=fun w=>by kernel_rfl
end
end My
namespace L2
open PySem PySem.Spec PyProof.Rows
abbrev Key:=Sum Int Str
def a6j:Key→Value→Bool
 | .inl k,v=>Value.isInt k v
 | .inr x,v=>Value.isStrOf x v
def b1F(w:World):Key→Int
 | .inl k=>hashInt k
 | .inr x=>hashStr w x
theorem F8:∀{k:Key} {v:Value},a6j k v=true→(∃i t,k=Sum.inl i∧v=Value.int i t)∨(∃x t,k=Sum.inr x∧v=Value.str x t)
 | .inl i,v,h=>by
  obtain⟨t,e⟩:=Value.isInt_shape (k:=i) (v:=v) h
  exact .inl ⟨i,t,rfl,e⟩
 | .inr x,v,h=>by
  obtain⟨t,e⟩:=Value.isStrOf_shape (x:=x) (v:=v) h
  exact .inr ⟨x,t,rfl,e⟩
theorem b2j(i:Int)(t:Tok):a6j (.inl i) (.int i t)=true:=by simp[a6j,Value.isInt]
theorem b8f(x:Str)(t:Tok):a6j (.inr x) (.str x t)=true:=by simp[a6j,Value.isStrOf]
theorem b7z(a b:Int):decide ((Sum.inl a:Key)=Sum.inl b)=(a==b):=by
 by_cases e:a=b
 ·subst e;simp
 ·have h:¬(Sum.inl a:Key)=Sum.inl b:=fun q=>e (Sum.inl.inj q)
  rw[aB2 h]
  exact(aG7.mpr e).symm
theorem b4z(a b:Str):decide ((Sum.inr a:Key)=Sum.inr b)=decide (a=b):=by
 by_cases e:a=b
 ·subst e;simp
 ·have h:¬(Sum.inr a:Key)=Sum.inr b:=fun q=>e (aN6 q)
  rw[aB2 h,aB2 e]
theorem b9B(a:Int)(b:Str):decide ((Sum.inl a:Key)=Sum.inr b)=false:=aB2 (fun q=>nomatch q)
theorem b0B(a:Str)(b:Int):decide ((Sum.inr a:Key)=Sum.inl b)=false:=aB2 (fun q=>nomatch q)
def v7(prog:Program)(w:World):PySem.KeyKind prog w Key where
 is:=a6j
 hash:=b1F w
 inj:=fun v a b ha hb=>by
  rcases F8 ha with ⟨i,t,rfl,rfl⟩ | ⟨x,t,rfl,rfl⟩
  ·rcases F8 hb with ⟨j,u,rfl,e⟩ | ⟨y,u,rfl,e⟩
   ·injection e with e1 _;rw[e1]
   ·exact nomatch e
  ·rcases F8 hb with ⟨j,u,rfl,e⟩ | ⟨y,u,rfl,e⟩
   ·exact nomatch e
   ·injection e with e1 _;rw[e1]
 byValue:=fun k v h=>by
  rcases F8 h with ⟨i,t,rfl,rfl⟩ | ⟨x,t,rfl,rfl⟩<;>rfl
 pyHash:=fun hv h=>by
  rcases F8 hv with ⟨i,t,rfl,rfl⟩ | ⟨x,t,rfl,rfl⟩
  ·exact wpAny_pyHash_int h
  ·exact wpAny_pyHash_str h
 eqBool:=fun hu hv h=>by
  rcases F8 hu with ⟨i,t,rfl,rfl⟩ | ⟨x,t,rfl,rfl⟩
  ·rcases F8 hv with ⟨j,u,rfl,rfl⟩ | ⟨y,u,rfl,rfl⟩
   ·rw[b7z]at h;exact wpAny_eqBool_int h
   ·rw[b9B]at h;exact SeqAt.EqAt.int_str i t y u _ _ _ _ h
  ·rcases F8 hv with ⟨j,u,rfl,rfl⟩ | ⟨y,u,rfl,rfl⟩
   ·rw[b0B]at h;exact SeqAt.EqAt.str_int x t j u _ _ _ _ h
   ·rw[b4z]at h;exact wpAny_eqBool_str h
 «strs»:=fun k x t v h=>by
  rcases F8 h with ⟨i,u,rfl,e⟩ | ⟨y,u,rfl,e⟩
  ·exact nomatch e
  ·injection e with e1 _
   subst e1
   cases v<;>rfl
theorem a2W(prog:Program)(w:World)(i:Int)(t:Tok):(v7 prog w).is (.inl i) (.int i t)=true:=b2j i t
theorem a4V(prog:Program)(w:World)(x:Str)(t:Tok):(v7 prog w).is (.inr x) (.str x t)=true:=b8f x t
open PySem PySem.Spec PyProof.Rows
inductive V where
 | non | bl (b:Bool) | int (i:Int) | str (x:Str) | byt (b:Array UInt8) | flt (b:UInt64) | ref (a:Addr) | ty (n:String)
 deriving DecidableEq
def RelV:V→Value→Prop
 | .non,u=>u=Value.none
 | .bl b,u=>u=Value.bool b
 | .int i,u=>∃t,u=Value.int i t
 | .str x,u=>∃t,u=Value.str x t
 | .byt b,u=>∃t,u=Value.bytes b t
 | .flt b,u=>∃t,u=Value.float b t
 | .ref a,u=>u=Value.ref a
 | .ty n,u=>u=Value.type n
abbrev j6:List V→List Value→Prop:=Paired RelV
theorem j6.length{xs:List V}{us:List Value}(r:j6 xs us):xs.length=us.length:=aS0 r
theorem j6.get:∀{xs:List V} {us:List Value} {i:Nat} {x:V},j6 xs us→xs[i]?=some x→∃u,us[i]?=some u∧RelV x u
 | _,_,_,_,.nil,e=>by simp at e
 | _,_,0,_,.cons r _,e=>by simp at e;subst e;exact⟨_,rfl,r⟩
 | _,_,i+1,x,.cons _ t,e=>by
  obtain⟨u,h1,h2⟩:=j6.get (i:=i) (x:=x) t (by simpa using e)
  exact⟨u,by simpa using h1,h2⟩
theorem j6.set{x:V}{u:Value}(r:RelV x u):∀{xs:List V} {us:List Value} (i:Nat),j6 xs us→j6 (xs.set i x) (us.set i u)
 | _,_,_,.nil=>.nil
 | _,_,0,.cons _ t=>.cons r t
 | _,_,i+1,.cons q t=>.cons q (j6.set r i t)
theorem j6.append:∀{xs ys:List V} {us ws:List Value},j6 xs us→j6 ys ws→j6 (xs++ys) (us++ws)
 | _,_,_,_,.nil,s=>s
 | _,_,_,_,.cons r t,s=>.cons r (j6.append t s)
theorem j6.take:∀{xs:List V} {us:List Value} (n:Nat),j6 xs us→j6 (xs.take n) (us.take n)
 | _,_,0,_=>.nil
 | _,_,_+1,.nil=>.nil
 | _,_,n+1,.cons r t=>.cons r (j6.take n t)
theorem j6.drop:∀{xs:List V} {us:List Value} (n:Nat),j6 xs us→j6 (xs.drop n) (us.drop n)
 | _,_,0,r=>r
 | _,_,_+1,.nil=>.nil
 | _,_,n+1,.cons _ t=>j6.drop n t
def P4:Option V→Option Value→Prop
 | some v,some u=>RelV v u
 | none,none=>True
 | _,_=>False
def KV{κ:Type}:List (κ×V)→List (κ×Value)→Prop:=Paired fun(p:κ×V) (q:κ×Value)=>p.1=q.1∧RelV p.2 q.2
def kV:Key→V
 | .inl i=>.int i
 | .inr x=>.str x
inductive HO where
 | lst (xs:List V)
 | tup (xs:List V)
 | dK (kvs:List (Key×V)) | dT (kvs:List (List Key×V))
 | set (S:Int→Bool) (n:Nat)
 | ins (C dx:Addr) (fs:List (Str×V))
 | own (x:Addr)
 | xd (fs:List (Str×V))
 | met (f x:Addr)
 | rng (lo hi:Int)
 | frz (o:Obj) (u:HO)
 | tbl (ps:Array Value)
 | ext (φ:Heap→Prop)
abbrev Hp:=Addr→Option HO
def upd(H:Hp)(a:Addr)(o:HO):Hp:=fun b=>if b=a then some o else H b
theorem b6{H:Hp}{a:Addr}{o:HO}:upd H a o a=some o:=by unfold upd;rw[aB4 rfl]
theorem c9{H:Hp}{a b:Addr}{o:HO}(h:b≠a):upd H a o b=H b:=by unfold upd;rw[aA8 h]
theorem a1Y{H:Hp}{a:Addr}{o u:HO}:upd (upd H a o) a u=upd H a u:=by
 funext b;unfold upd;split<;>rfl
theorem a3A{H:Hp}{a b:Addr}{o u:HO}(h:H a=some o)(h':H b=some u)(d:o≠u):a≠b:=by
 intro e;subst e;rw[h]at h';exact d (aC0 h')
theorem g6{H:Hp}{a b:Addr}{o:HO}(h:H a=some o)(h':H b=none):a≠b:=by
 intro e;subst e;rw[h]at h';cases h'
section
variable(P:Program)(w:World)
def C0(H:Hp)(h:Heap)(a:Addr):HO→Prop
 | .lst xs=>xs.length≤sizeLine∧∃(its:List Value) (n:Nat),j6 xs its∧h.get? a=some { cls:=.type "list",data:=.seq its.toArray n }
 | .tup xs=>xs.length≤sizeLine∧∃its:List Value,j6 xs its∧IsTup h a its.toArray
 | .dK kvs=>kvs.length≤sizeLine∧(a==sysModules)=false∧∃vs,KV kvs vs∧h.DictOf (v7 P w) a vs
 | .dT kvs=>kvs.length≤sizeLine∧(a==sysModules)=false∧∃xs:List (List Key×Addr×Value),
   Paired (fun(p:List Key×V) (q:List Key×Addr×Value)=>p.1=q.1∧H q.2.1=some (.tup (p.1.map kV))∧RelV p.2 q.2.2) kvs xs ∧
   ∃o es ep,h.get? a=some o∧o.ExactDict∧o.data=.dict es ep∧es.toList=xs.map (entryOfKey (tupleKind (v7 P w)))∧(xs.map (·.1)).Nodup
 | .set S n=>h.SetOf (intKind P w) a S n
 | .ins C dx fs=>H dx=some (.own a)∧fs.length≤1000∧dx≠a∧h.get? a=some (PySem.W.instObj C dx) ∧
   ∃mA,h.Ns1 dx mA∧(∀f,P4 (fs.lookup f) (mA f))∧PySem.Within mA (fs.map (·.1))
 | .own _=>∃o,h.get? a=some o
 | .xd fs=>∃mA,h.Ns1 a mA∧∀f,P4 (fs.lookup f) (mA f)
 | .rng lo hi=>∃t u v,h.get? a=some { cls:=.type "range",data:=.fields #[.int lo t,.int hi u,.int 1 v] }
 | .frz o u=>h.get? a=some o∧C0 H h a u
 | .tbl ps=>h.get? a=some { cls:=.none,data:=.fields ps }
 | .met f x=>h.get? a=some (PySem.W.methodObj (.ref f) (.ref x))
 | .ext φ=>φ h∧(∃o,h.get? a=some o)∧∀h1 h2:Heap,φ h1→(∀o,h1.get? a=some o→h2.get? a=some o)→φ h2
def M5(H:Hp)(h:Heap):Prop:=∀a o,H a=some o→C0 P w H h a o
end
section
variable{P:Program}{w:World}{H H':Hp}{h h':Heap}{a:Addr}{o:HO}
theorem C0.lt(x:C0 P w H h a o):a<h.objs.size:=by
 cases o with
 | lst xs=>obtain⟨_,_,_,_,e⟩:=x;exact aC2 e
 | tup xs=>obtain⟨_,_,_,p⟩:=x;exact p.lt
 | dK kvs=>obtain⟨_,_,_,_,o,_,_,e,_⟩:=x;exact aC2 e
 | dT kvs=>obtain⟨_,_,_,_,o,_,_,e,_⟩:=x;exact aC2 e
 | set S n=>obtain⟨o,_,_,_,e,_⟩:=x;exact aC2 e
 | ins C dx fs=>obtain⟨_,_,_,e,_⟩:=x;exact aC2 e
 | own y=>obtain⟨_,e⟩:=x;exact aC2 e
 | xd fs=>obtain⟨_,⟨_,_,_,e,_⟩,_⟩:=x;exact aC2 e
 | rng lo hi=>obtain⟨_,_,_,e⟩:=x;exact aC2 e
 | frz ob u=>obtain⟨e,_⟩:=x;exact aC2 e
 | tbl ps=>exact aC2 (show h.get? a=some _ from x)
 | met f y=>exact aC2 (show h.get? a=some _ from x)
 | ext φ=>obtain⟨_,⟨_,e⟩,_⟩:=x;exact aC2 e
theorem Paired.mapP{α β:Type}{F G:α→β→Prop}:∀{l₁:List α} {l₂:List β},Paired F l₁ l₂→(∀a b,F a b→G a b)→Paired G l₁ l₂
 | _,_,.nil,_=>.nil
 | _,_,.cons r t,f=>.cons (f _ _ r) (Paired.mapP t f)
theorem C0.stay(x:C0 P w H h a o)(k:∀b u,(b=a∨H b=some (.own a))→h.get? b=some u→h'.get? b=some u)
  (ho:∀b,H b=some (.own a)→H' b=some (.own a)) (ht:∀b xs,H b=some (.tup xs)→H' b=some (.tup xs)):C0 P w H' h' a o:=by
 induction o with
 | lst xs=>obtain⟨z,its,n,r,e⟩:=x;exact⟨z,its,n,r,k _ _ (.inl rfl) e⟩
 | tup xs=>obtain⟨z,its,r,ob,e,c⟩:=x;exact⟨z,its,r,ob,k _ _ (.inl rfl) e,c⟩
 | dK kvs=>obtain⟨z,y,vs,r,ob,es,ep,e,c⟩:=x;exact⟨z,y,vs,r,ob,es,ep,k _ _ (.inl rfl) e,c⟩
 | dT kvs=>
  obtain⟨z,y,xs,r,ob,es,ep,e,c⟩:=x
  exact⟨z,y,xs,Paired.mapP r fun p q z=>⟨z.1,ht _ _ z.2.1,z.2.2⟩,ob,es,ep,k _ _ (.inl rfl) e,c⟩
 | set S n=>obtain⟨ob,es,ep,t,e,c⟩:=x;exact⟨ob,es,ep,t,k _ _ (.inl rfl) e,c⟩
 | ins C dx fs=>
  obtain⟨d,z,ne,e,mA,⟨od,es,ep,e2,c⟩,r⟩:=x
  exact⟨ho _ d,z,ne,k _ _ (.inl rfl) e,mA,⟨od,es,ep,k _ _ (.inr d) e2,c⟩,r⟩
 | own y=>obtain⟨ob,e⟩:=x;exact⟨ob,k _ _ (.inl rfl) e⟩
 | xd fs=>obtain⟨mA,⟨od,es,ep,e,c⟩,r⟩:=x;exact⟨mA,⟨od,es,ep,k _ _ (.inl rfl) e,c⟩,r⟩
 | rng lo hi=>obtain⟨t,u,v,e⟩:=x;exact⟨t,u,v,k _ _ (.inl rfl) e⟩
 | frz ob u ih=>obtain⟨e,q⟩:=x;exact⟨k _ _ (.inl rfl) e,ih q⟩
 | tbl ps=>
  have e:h.get? a=some { cls:=.none,data:=.fields ps }:=x
  show h'.get? a=some { cls:=.none,data:=.fields ps }
  exact k a _ (.inl rfl) e
 | met f y=>
  have e:h.get? a=some (PySem.W.methodObj (.ref f) (.ref y)):=x
  show h'.get? a=some (PySem.W.methodObj (.ref f) (.ref y))
  exact k a _ (.inl rfl) e
 | ext φ=>obtain⟨p,⟨o,e⟩,st⟩:=x;exact⟨st _ _ p fun o q=>k _ _ (.inl rfl) q,⟨o,k _ _ (.inl rfl) e⟩,st⟩
theorem M5.lt(x:M5 P w H h)(e:H a=some o):a<h.objs.size:=(x a o e).lt
theorem M5.fresh(x:M5 P w H h)(e:h.objs.size≤a):H a=none:=by
 cases q:H a with
 | none=>rfl
 | some u=>exact absurd (aE7 (x.lt q) e) (aJ1 _)
theorem M5.kept(x:M5 P w H h)(k:∀b u,h.get? b=some u→h'.get? b=some u):M5 P w H h':=fun a o e=>
 (x a o e).stay (fun b u _ q=>k b u q) (fun _ q=>q) fun _ _ q=>q
theorem M5.laid(x:M5 P w H h)(k:∀b u,h.get? b=some u→h'.get? b=some u)(hp:h.objs.size≤a)(new:C0 P w (upd H a o) h' a o):M5 P w (upd H a o) h':=fun b u e=>by
 have hn:=x.fresh hp
 by_cases hb:b=a
 ·subst hb;rw[b6]at e;cases e;exact new
 ·rw[c9 hb]at e
  exact(x b u e).stay (fun c v _ q=>k c v q) (fun c q=>by rw[c9 (g6 q hn)];exact q) fun c xs q=>by rw[c9 (g6 q hn)];exact q
end
def Rd(H:Hp)(a:Addr)(u:HO):Prop:=H a=some u∨∃o,H a=some (.frz o u)
theorem Rd.of{H:Hp}{a:Addr}{u:HO}(h:H a=some u):Rd H a u:=.inl h
theorem Rd.ok{P:Program}{w:World}{H:Hp}{h:Heap}{a:Addr}{u:HO}(r:Rd H a u)(x:M5 P w H h):C0 P w H h a u:=by
 rcases r with r | ⟨o,r⟩
 ·exact x a u r
 ·obtain⟨_,q⟩:=x a _ r
  exact q
def Mut:Option HO→Prop
 | some (.lst _)=>True
 | some (.dK _)=>True
 | some (.dT _)=>True
 | some (.set _ _)=>True
 | some (.ins _ _ _)=>True
 | some (.ext _)=>True
 | _=>False
section
variable{P:Program}{w:World}{H:Hp}{h h':Heap}{x e:Addr}{o':HO}
theorem M5.write(ok:M5 P w H h)(mu:Mut (H x))(he:e=x∨H e=some (.own x))(k:∀b u,b≠e→h.get? b=some u→h'.get? b=some u)(heo:∃u,h'.get? e=some u)
  (new:C0 P w (upd H x o') h' x o'):M5 P w (upd H x o') h':=fun b u q=>by
 have nown:∀c y,H c=some (.own y)→c≠x:=fun c y r z=>by subst z;rw[r]at mu;exact mu
 have ntup:∀c xs,H c=some (.tup xs)→c≠x:=fun c xs r z=>by subst z;rw[r]at mu;exact mu
 by_cases hb:b=x
 ·subst hb;rw[b6]at q;cases q;exact new
 ·rw[c9 hb]at q
  by_cases hbe:b=e
  ·have q':H b=some (.own x):=by
    rcases he with z | z
    ·exact absurd (hbe.trans z) hb
    ·rw[hbe];exact z
   rw[q]at q';cases q'
   obtain⟨v,hv⟩:=heo
   exact⟨v,by rw[hbe];exact hv⟩
  ·refine(ok b u q).stay (fun c v hc r=>k c v ?_ r) (fun c r=>by rw[c9 (nown c b r)];exact r) fun c xs r=>by rw[c9 (ntup c xs r)];exact r
   rcases hc with rfl | hc
   ·exact hbe
   ·rintro rfl
    rcases he with z | z
    ·exact nown c b hc z
    ·rw[hc]at z;cases z;exact hb rfl
end
structure Un(fs ex:List Addr)(H H':Hp)(h h':Heap):Prop where
 keep:∀b o,h.get? b=some o→H b=none→b∉fs→b∉ex→h'.get? b=some o
 slot:∀b o,h.get? b=some o→H b=none→b∈fs→b∉ex→∃sl,h'.get? b=some { o with slots:=sl }
 free:∀b o,h.get? b=some o→H b=none→b∉ex→H' b=none
 there:∀b o,h.get? b=some o→b∉ex→∃o',h'.get? b=some o'
 tups:∀b xs,H b=some (.tup xs)→H' b=some (.tup xs)
 frzs:∀b o u,H b=some (.frz o u)→H' b=some (.frz o u)
 tbls:∀b ps,H b=some (.tbl ps)→∃more,H' b=some (.tbl (ps++more))
section
variable{fs fs' ex ex':List Addr}{H H1 H2:Hp}{h h1 h2 h':Heap}{a x e:Addr}{o:HO}
theorem Un.any(u:Un fs ex H H1 h h1){b:Addr}{ob:Obj}(q:h.get? b=some ob)(n:H b=none)(hx:b∉ex):∃sl,h1.get? b=some { ob with slots:=sl }:=by
 by_cases hb:b∈fs
 ·exact u.slot b ob q n hb hx
 ·exact⟨ob.slots,u.keep b ob q n hb hx⟩
theorem Un.trans(a:Un fs ex H H1 h h1)(b:Un fs ex H1 H2 h1 h2):Un fs ex H H2 h h2 where
 keep:=fun c ob q n hc hx=>b.keep c ob (a.keep c ob q n hc hx) (a.free c ob q n hx) hc hx
 slot:=fun c ob q n hc hx=>by
  obtain⟨sl,e1⟩:=a.slot c ob q n hc hx
  obtain⟨sl',e2⟩:=b.slot c _ e1 (a.free c ob q n hx) hc hx
  exact⟨sl',e2⟩
 free:=fun c ob q n hx=>by
  obtain⟨o',e1⟩:=a.there c ob q hx
  exact b.free c o' e1 (a.free c ob q n hx) hx
 there:=fun c ob q hx=>by
  obtain⟨o',e1⟩:=a.there c ob q hx
  exact b.there c o' e1 hx
 tups:=fun c xs q=>b.tups c xs (a.tups c xs q)
 frzs:=fun c ob xs q=>b.frzs c ob xs (a.frzs c ob xs q)
 tbls:=fun c ps q=>by
  obtain⟨m1,e1⟩:=a.tbls c ps q
  obtain⟨m2,e2⟩:=b.tbls c _ e1
  exact⟨m1++m2,by rw[e2,Array.append_assoc]⟩
theorem Un.kept(k:∀b u,h.get? b=some u→h'.get? b=some u):Un fs ex H H h h':=
 ⟨fun b ob q _ _ _=>k b ob q,fun b ob q _ _ _=>⟨ob.slots,k b ob q⟩,fun _ _ _ n _=>n,fun b ob q _=>⟨ob,k b ob q⟩,fun _ _ q=>q,fun _ _ _ q=>q,fun _ ps q=>⟨#[],by rw[q];simp⟩⟩
theorem Un.refl:Un fs ex H H h h:=Un.kept fun _ _ q=>q
theorem Un.laid(k:∀b u,h.get? b=some u→h'.get? b=some u)(hp:h.objs.size≤a)(hn:H a=none):Un fs ex H (upd H a o) h h' where
 keep:=fun b u q _ _ _=>k b u q
 slot:=fun b u q _ _ _=>⟨u.slots,k b u q⟩
 free:=fun b u q n _=>by rw[c9 (aD6 (aE7 (aC2 q) hp))];exact n
 there:=fun b u q _=>⟨u,k b u q⟩
 tups:=fun b xs q=>by rw[c9 (g6 q hn)];exact q
 frzs:=fun b u xs q=>by rw[c9 (g6 q hn)];exact q
 tbls:=fun b ps q=>⟨#[],by rw[c9 (g6 q hn),q];simp⟩
theorem Un.write(mu:Mut (H x))(he:e=x∨H e=some (.own x))(k:∀b u,b≠e→h.get? b=some u→h'.get? b=some u)(heo:∃u,h'.get? e=some u):Un fs ex H (upd H x o) h h':=by
 have hx:∀b,H b=none→b≠x:=fun b n z=>by subst z;rw[n]at mu;exact mu
 have hb:∀b,H b=none→b≠e:=fun b n z=>by
  subst z
  rcases he with r | r
  ·exact hx b n r
  ·rw[n]at r;cases r
 have hm:∀b u,H b=some u→¬Mut (some u)→b≠x:=fun b u q nm z=>by subst z;rw[q]at mu;exact nm mu
 refine⟨fun b u q n _ _=>k b u (hb b n) q,fun b u q n _ _=>⟨u.slots,k b u (hb b n) q⟩,fun b u q n _=>by rw[c9 (hx b n)];exact n,fun b u q _=>?_,
  fun b xs q=>by rw[c9 (hm b _ q fun z=>z)];exact q,fun b u xs q=>by rw[c9 (hm b _ q fun z=>z)];exact q,fun b ps q=>⟨#[],by rw[c9 (hm b _ q fun z=>z),q];simp⟩⟩
 by_cases hbe:b=e
 ·subst hbe;exact heo
 ·exact⟨u,k b u hbe q⟩
end
def trk(h:Heap)(H:Hp):List Addr:=(List.range h.objs.size).filter fun a=>(H a).isSome
def a5j(h:Heap)(H:Hp):Heap:=PySem.W.hideAll h (trk h H)
theorem b3h(h:Heap)(H:Hp):(a5j h H).objs.size=h.objs.size:=PySem.W.hideAll_size _ _
theorem b8n{h:Heap}{H:Hp}{b:Addr}{o:Obj}(e:h.get? b=some o)(n:H b=none):(a5j h H).get? b=some o:=
 PySem.W.hideAll_get _ e fun hm=>by
  have q:(H b).isSome=true:=(aD2.mp hm).2
  rw[n]at q;simp at q
theorem b5v{h:Heap}{H:Hp}{b:Addr}{o:Obj}(e:(a5j h H).get? b=some o):h.get? b=some o∧H b=none:=by
 have e':h.get? b=some o:=PySem.W.of_hideAll (trk h H) e
 refine⟨e',?_⟩
 cases q:H b with
 | none=>rfl
 | some x=>
  have hm:b∈trk h H:=aD2.mpr ⟨aS3.mpr (aC2 e'),by simp[q]⟩
  have z:(a5j h H).get? b=none:=PySem.W.hideAll_none (trk h H) hm
  rw[z]at e;cases e
def b1y(g h:Heap)(L:Addr):List (Addr×Obj):=(List.range h.objs.size).filterMap fun a=>if a=L∨(g.get? a).isSome=true then none else(h.get? a).map fun o=>(a,o)
def rest(g h:Heap)(L d:Addr):List (Addr×Obj):=(b1y g h L).filter fun p=>decide (p.1≠d)
open PySem PySem.Spec PyProof.Rows
structure Mod(K:PySem.W.Frag)(mg:Str→Option Value)(base:Heap):Prop where
 kin:K.In base
 glob:base.Ns mainGlobals mg
 blt:∃mb,base.Ns builtinsNs mb∧∀x:Str,x≠"__name__"→mb x=bootBuiltins x
 nolimit:base.NoLimit
structure Cx where
 prog:Program
 w:World
 K:PySem.W.Frag
 mg:Str→Option Value
 base:Heap
 A:Around
 N:List Str
 s₀:Shared
 H₀:Hp
 env:Env
 outer:List Env
 stack:List Env
 ex:List Addr
 fn:Str→Bool
 calm:Bool
 pn:List (Addr×Obj)
 xe:Value→Shared→Prop
def frs(l:List Env):List Addr:=l.filterMap (·.frame)
abbrev Cx.fs(X:Cx):List Addr:=frs X.outer
def Vis(sc:Scope)(x:Str):Prop:=sc.names.lookup x=some .local∨sc.names.lookup x=some .cell∨sc.names.lookup x=some .free
def Loc(sc:Scope)(x:Str):Prop:=sc.names.lookup x=some .local∨sc.names.lookup x=some .cell
def Look(env:Env)(h:Heap)(m:Str→Option Value)(x:Str)(u:Value):Prop:=
 (env.kindOf x=some .local∧m x=some u)∨((env.kindOf x=some .cell∨env.kindOf x=some .free)∧∃c,env.cells.lookup x=some c∧h.IsCell c (some u))
structure Cx.Ok(X:Cx):Prop where
 mod:Mod X.K X.mg X.base
 kind:X.env.scope.kind=.function
 glob:X.env.globals=mainGlobals
 blt:X.env.builtins=builtinsNs
 above:X.s₀.heap.objs.size≤X.env.locals
 inj:∀x y c,X.env.cells.lookup x=some c→X.env.cells.lookup y=some c→x=y
 has:∀x,(X.env.kindOf x=some .cell∨X.env.kindOf x=some .free)→∃c,X.env.cells.lookup x=some c
 cab:∀x c,X.fn x=true→X.env.cells.lookup x=some c→X.s₀.heap.objs.size≤c
 hd:X.calm=true→X.A.handled=none
 frames:X.A.frames=some X.stack
 stk:X.stack=X.outer∨(X.stack=X.env::X.outer∧X.env.frame=some X.env.locals)
 exf:∀b∈X.ex,b≠X.env.locals∧∀x c,X.env.cells.lookup x=some c→c≠b
 bs:∀b o,X.base.get? b=some o→X.s₀.heap.get? b=some o∧X.H₀ b=none
 bsz:X.base.objs.size≤X.s₀.heap.objs.size
 noex:∀b o,X.base.get? b=some o→b∉X.ex
 exfs:∀b∈X.ex,b∉X.fs
 funs:X.s₀.heap.FunFrames X.base X.outer
 frf:∀b∈X.fs,X.H₀ b=none
structure Inv(X:Cx)(pins:List (Addr×Obj))(σ:List (Option V))(H:Hp)(s:Shared):Prop where
 ok:X.Ok
 os:s.os=X.s₀.os
 bare:AllBare s.gens
 base:Un X.fs X.ex X.H₀ H X.s₀.heap s.heap
 loc:∃m,s.heap.Ns X.env.locals m∧∀(i:Nat) (x:Str) (v:V),X.N[i]?=some x→σ[i]?=some (some v)→Vis X.env.scope x→∃u,RelV v u∧Look X.env s.heap m x u
 cell:∀x c,X.env.cells.lookup x=some c→∃v,s.heap.IsCell c v
 free:H X.env.locals=none
 freeC:∀x c,X.env.cells.lookup x=some c→H c=none
 pin:∀p∈X.pn++pins,s.heap.get? p.1=some p.2∧H p.1=none∧p.1≠X.env.locals∧p.1∉X.fs∧∀v,p.2.data≠.cell v
 hok:M5 X.prog X.w H s.heap
 len:σ.length=X.N.length
section
variable{X:Cx}{pins:List (Addr×Obj)}{σ:List (Option V)}{H H':Hp}{s:Shared}{h':Heap}
theorem Cx.Ok.nofr(ok:X.Ok){b:Addr}{o:Obj}(e:X.base.get? b=some o):b∉X.fs:=fun hb=>by
 have:=(ok.funs.mem hb).1
 rw[e]at this;cases this
theorem Inv.bs(I:Inv X pins σ H s):∀b o,X.base.get? b=some o→s.heap.get? b=some o∧H b=none:=fun b o e=>
 ⟨I.base.keep b o (I.ok.bs b o e).1 (I.ok.bs b o e).2 (I.ok.nofr e) (I.ok.noex b o e),I.base.free b o (I.ok.bs b o e).1 (I.ok.bs b o e).2 (I.ok.noex b o e)⟩
theorem Inv.bk(I:Inv X pins σ H s):∀b o,X.base.get? b=some o→s.heap.get? b=some o:=fun b o e=>(I.bs b o e).1
theorem Inv.mod(I:Inv X pins σ H s):Mod X.K X.mg X.base:=I.ok.mod
theorem Inv.kIn(I:Inv X pins σ H s):X.K.In s.heap:=I.ok.mod.kin.keeps I.bk
theorem Inv.lt(I:Inv X pins σ H s):X.env.locals<s.heap.objs.size:=let ⟨_,hn,_⟩:=I.loc;hn.lt
theorem Inv.sz(I:Inv X pins σ H s):X.s₀.heap.objs.size≤s.heap.objs.size:=aD7 I.ok.above (aK8 I.lt)
theorem Inv.nofs(I:Inv X pins σ H s){a:Addr}(h:s.heap.objs.size≤a):a∉X.fs:=fun hb=>by
 obtain⟨_,o,ho,_⟩:=I.ok.funs.mem hb
 exact absurd (aE7 (aC2 ho) (aD7 I.sz h)) (aJ1 _)
theorem Inv.cne(I:Inv X pins σ H s):∀x c,X.env.cells.lookup x=some c→c≠X.env.locals:=fun x c e z=>by
 obtain⟨v,o,ho,hd⟩:=I.cell x c e
 obtain⟨m,⟨o',es,ep,ho',hd',_⟩,_⟩:=I.loc
 rw[z,ho']at ho;cases ho;rw[hd']at hd;cases hd
theorem Inv.funs(I:Inv X pins σ H s):s.heap.FunFrames X.base X.outer:=by
 have all:∀(l:List Env),(∀b∈frs l,b∈X.fs)→X.s₀.heap.FunFrames X.base l→s.heap.FunFrames X.base l:=by
  intro l
  induction l with
  | nil=>intro _ _;trivial
  | cons env r ih=>
   intro hs hl
   obtain⟨hk,⟨L,o,hf,hn,ho,hd⟩,hr⟩:=hl
   have hL:L∈X.fs:=hs L (by unfold frs;rw[aT0,hf];exact aB9)
   obtain⟨sl,e⟩:=I.base.slot L o ho (I.ok.frf L hL) hL fun z=>I.ok.exfs L z hL
   exact⟨hk,⟨L,_,hf,hn,e,hd⟩,ih (fun b hb=>hs b (by unfold frs;rw[aT0,hf];exact aC1 _ hb)) hr⟩
 exact all X.outer (fun _ hb=>hb) I.ok.funs
theorem Inv.stack(I:Inv X pins σ H s):s.heap.FunFrames X.base X.stack:=by
 rcases I.ok.stk with e | ⟨e,hf⟩
 ·rw[e];exact I.funs
 ·rw[e]
  obtain⟨m,hn,_⟩:=I.loc
  refine .cons (by rw[I.ok.kind];decide) hf hn ?_ I.funs
  exact Heap.get?_none_of_le (aD7 I.ok.bsz I.ok.above)
theorem Inv.stkSub(I:Inv X pins σ H s):∀b∈frs X.stack,b∈X.env.locals::X.fs:=fun b hb=>by
 rcases I.ok.stk with e | ⟨e,hf⟩
 ·rw[e]at hb;exact aC1 _ hb
 ·rw[e]at hb
  unfold frs at hb
  rw[aT0,hf]at hb
  exact hb
theorem Inv.stkFree(I:Inv X pins σ H s):∀b∈frs X.stack,H b=none:=fun b hb=>by
 rcases aB7.mp (I.stkSub b hb) with e | hb
 ·rw[e];exact I.free
 ·obtain⟨_,o,ho,_⟩:=I.ok.funs.mem hb
  exact I.base.free b o ho (I.ok.frf b hb) fun z=>I.ok.exfs b z hb
theorem Inv.step{g':Array GenState}{t':Nat}{d':Drawn}{ch:List Addr}(I:Inv X pins σ H s)
  (hch:∀b∈ch,(b∈X.ex∨X.s₀.heap.objs.size≤b)∧b≠X.env.locals∧(∀x c,X.env.cells.lookup x=some c→c≠b)∧∀p∈X.pn++pins,p.1≠b)
  (keep:∀b o,b≠X.env.locals→b∉X.fs→b∉ch→s.heap.get? b=some o→H b=none→h'.get? b=some o)
  (slot:∀b o,b≠X.env.locals→b∈X.fs→b∉ch→s.heap.get? b=some o→H b=none→∃sl,h'.get? b=some { o with slots:=sl }) (free:∀b o,b∉ch→s.heap.get? b=some o→H b=none→H' b=none)
  (there:∀b o,b∉ch→s.heap.get? b=some o→∃o',h'.get? b=some o')
  (tups:∀b xs,H b=some (.tup xs)→H' b=some (.tup xs)) (frzs:∀b o u,H b=some (.frz o u)→H' b=some (.frz o u)) (tbls:∀b ps,H b=some (.tbl ps)→∃more,H' b=some (.tbl (ps++more)))
  (ns:∀m,s.heap.Ns X.env.locals m→h'.Ns X.env.locals m) (hok:M5 X.prog X.w H' h') (hg:AllBare g') :
  Inv X pins σ H' { s with heap:=h',gens:=g',drawn:=d',toks:=t' }:=by
 have neL:∀b o,X.s₀.heap.get? b=some o→b≠X.env.locals:=fun b o e=>aD6 (aE7 (aC2 e) I.ok.above)
 have neC:∀b o,X.s₀.heap.get? b=some o→b∉X.ex→b∉ch:=fun b o e hx hb=>by
  rcases(hch b hb).1 with z | z
  ·exact hx z
  ·exact absurd (aE7 (aC2 e) z) (aJ1 _)
 have cellK:∀x c,X.env.cells.lookup x=some c→∀v,s.heap.IsCell c v→h'.IsCell c v:=fun x c e v ⟨o,ho,hd⟩=>by
  have nch:c∉ch:=fun z=>(hch c z).2.2.1 x c e rfl
  by_cases hc:c∈X.fs
  ·obtain⟨sl,q⟩:=slot c o (I.cne x c e) hc nch ho (I.freeC x c e)
   exact⟨_,q,hd⟩
  ·exact⟨o,keep c o (I.cne x c e) hc nch ho (I.freeC x c e),hd⟩
 refine⟨I.ok,I.os,hg,⟨fun b o e n hb hx=>?_,fun b o e n hb hx=>?_,fun b o e n hx=>?_,fun b o e hx=>?_,fun b xs e=>tups b xs (I.base.tups b xs e),fun b o xs e=>frzs b o xs (I.base.frzs b o xs e),fun b ps e=>?_⟩,?_,fun x c e=>?_,?_,fun x c e=>?_,fun p hp=>?_,hok,I.len⟩
 ·exact keep b o (neL b o e) hb (neC b o e hx) (I.base.keep b o e n hb hx) (I.base.free b o e n hx)
 ·obtain⟨sl,e1⟩:=I.base.slot b o e n hb hx
  obtain⟨sl',e2⟩:=slot b _ (neL b o e) hb (neC b o e hx) e1 (I.base.free b o e n hx)
  exact⟨sl',e2⟩
 ·obtain⟨o',e1⟩:=I.base.there b o e hx
  exact free b o' (neC b o e hx) e1 (I.base.free b o e n hx)
 ·obtain⟨o',e1⟩:=I.base.there b o e hx
  exact there b o' (neC b o e hx) e1
 ·obtain⟨m1,e1⟩:=I.base.tbls b ps e
  obtain⟨m2,e2⟩:=tbls b _ e1
  exact⟨m1++m2,by rw[e2,Array.append_assoc]⟩
 ·obtain⟨m,hn,hl⟩:=I.loc
  refine⟨m,ns m hn,fun i x v e1 e2 e3=>?_⟩
  obtain⟨u,r,l⟩:=hl i x v e1 e2 e3
  refine⟨u,r,?_⟩
  rcases l with l | ⟨k,c,e,z⟩
  ·exact .inl l
  ·exact .inr ⟨k,c,e,cellK x c e _ z⟩
 ·obtain⟨v,z⟩:=I.cell x c e
  exact⟨v,cellK x c e v z⟩
 ·obtain⟨m,⟨o,_,_,ho,_⟩,_⟩:=I.loc
  exact free _ o (fun z=>(hch _ z).2.1 rfl) ho I.free
 ·obtain⟨v,o,ho,hd⟩:=I.cell x c e
  exact free c o (fun z=>(hch c z).2.2.1 x c e rfl) ho (I.freeC x c e)
 ·obtain⟨e,n,ne,nf,d⟩:=I.pin p hp
  have nch:p.1∉ch:=fun z=>(hch p.1 z).2.2.2 p hp rfl
  exact⟨keep p.1 p.2 ne nf nch e n,free p.1 p.2 nch e n,ne,nf,d⟩
theorem Inv.un{t':Nat}(I:Inv X pins σ H s)(u:Un X.fs [] H H' s.heap h')(hok:M5 X.prog X.w H' h'):Inv X pins σ H' { s with heap:=h',toks:=t' }:=by
 obtain⟨m,⟨o,es,ep,ho,r⟩,_⟩:=id I.loc
 obtain⟨sl,hL⟩:=u.any ho I.free (by simp)
 exact I.step (g':=s.gens) (d':=s.drawn) (ch:=[]) (fun _ z=>nomatch z) (fun b o _ hb _ e n=>u.keep b o e n hb (by simp)) (fun b o _ hb _ e n=>u.slot b o e n hb (by simp)) (fun b o _ e n=>u.free b o e n (by simp)) (fun b o _ e=>u.there b o e (by simp)) u.tups u.frzs u.tbls (fun m' hm=>by
  obtain⟨o',es',ep',ho',r'⟩:=hm
  rw[ho]at ho';cases ho'
  exact⟨_,es',ep',hL,r'⟩) hok I.bare
theorem Inv.call{g':Array GenState}{t':Nat}{d':Drawn}{ch:List Addr}(I:Inv X pins σ H s)(u:Un (frs X.stack) ch H H' s.heap h')(hok:M5 X.prog X.w H' h')(hg:AllBare g')
  (hch:∀b∈ch,(b∈X.ex∨X.s₀.heap.objs.size≤b)∧b≠X.env.locals∧(∀x c,X.env.cells.lookup x=some c→c≠b)∧∀p∈X.pn++pins,p.1≠b) :
  Inv X pins σ H' { s with heap:=h',gens:=g',drawn:=d',toks:=t' }:=by
 obtain⟨m,⟨o,es,ep,ho,r⟩,_⟩:=id I.loc
 obtain⟨sl,hL⟩:=u.any ho I.free fun z=>(hch _ z).2.1 rfl
 exact I.step (ch:=ch) hch (fun b o hL hb hc e n=>u.keep b o e n (fun z=>(aB7.mp (I.stkSub b z)).elim hL hb) hc) (fun b o _ _ hc e n=>u.any e n hc) (fun b o hc e n=>u.free b o e n hc) (fun b o hc e=>u.there b o e hc) u.tups u.frzs u.tbls (fun m' hm=>by
  obtain⟨o',es',ep',ho',r'⟩:=hm
  rw[ho]at ho';cases ho'
  exact⟨_,es',ep',hL,r'⟩) hok hg
theorem Inv.turned{t':Nat}{it:Addr}(I:Inv X pins σ H s)(k:∀b o,b≠it→s.heap.get? b=some o→h'.get? b=some o)(hn:H it=none)(hL:it≠X.env.locals)
  (h1:it∈X.ex∨X.s₀.heap.objs.size≤it) (h2:∀x c,X.env.cells.lookup x=some c→c≠it) (h3:∀p∈X.pn++pins,p.1≠it):Inv X pins σ H { s with heap:=h',toks:=t' }:=by
 have nit:∀b u,H b=some u→b≠it:=fun b u e z=>by rw[z,hn]at e;cases e
 refine I.step (g':=s.gens) (d':=s.drawn) (ch:=[it]) (fun b hb=>?_) (fun b o _ _ hc e _=>k b o (fun z=>hc (by simp[z])) e) (fun b o _ _ hc e _=>⟨o.slots,k b o (fun z=>hc (by simp[z])) e⟩) (fun _ _ _ _ n=>n)
  (fun b o hc e=>⟨o,k b o (fun z=>hc (by simp[z])) e⟩) (fun _ _ e=>e) (fun _ _ _ e=>e) (fun b ps e=>⟨#[],by rw[e];simp⟩) (fun m hm=>?_) (fun b u e=>?_) I.bare
 ·have e:b=it:=by simpa using hb
  subst e
  exact⟨h1,hL,h2,h3⟩
 ·obtain⟨o,es,ep,ho,r⟩:=hm
  exact⟨o,es,ep,k _ o (Ne.symm hL) ho,r⟩
 ·refine(I.hok b u e).stay (fun c v hc q=>k c v ?_ q) (fun _ q=>q) fun _ _ q=>q
  rcases hc with z | z
  ·rw[z];exact nit b u e
  ·exact nit c _ z
theorem Inv.tok(I:Inv X pins σ H s)(t:Nat):Inv X pins σ H { s with toks:=t }:=I.un (h':=s.heap) (t':=t) Un.refl I.hok
theorem Inv.kept{t':Nat}(I:Inv X pins σ H s)(k:∀b u,s.heap.get? b=some u→h'.get? b=some u):Inv X pins σ H { s with heap:=h',toks:=t' }:=I.un (Un.kept k) (I.hok.kept k)
theorem Inv.laid{a:Addr}{o:HO}{t':Nat}(I:Inv X pins σ H s)(k:∀b u,s.heap.get? b=some u→h'.get? b=some u)(hp:s.heap.objs.size≤a)(new:C0 X.prog X.w (upd H a o) h' a o) :
  Inv X pins σ (upd H a o) { s with heap:=h',toks:=t' }:=I.un (Un.laid k hp (I.hok.fresh hp)) (I.hok.laid k hp new)
theorem Inv.write{x e:Addr}{o:HO}{t':Nat}(I:Inv X pins σ H s)(mu:Mut (H x))(he:e=x∨H e=some (.own x))(k:∀b u,b≠e→s.heap.get? b=some u→h'.get? b=some u)(heo:∃u,h'.get? e=some u)
  (new:C0 X.prog X.w (upd H x o) h' x o):Inv X pins σ (upd H x o) { s with heap:=h',toks:=t' }:=I.un (Un.write mu he k heo) (I.hok.write mu he k heo new)
theorem Inv.pins_of{pins':List (Addr×Obj)}(I:Inv X pins σ H s)(h:∀p∈pins',s.heap.get? p.1=some p.2∧H p.1=none∧p.1≠X.env.locals∧p.1∉X.fs∧∀v,p.2.data≠.cell v):Inv X pins' σ H s:=
 ⟨I.ok,I.os,I.bare,I.base,I.loc,I.cell,I.free,I.freeC,fun p hp=>(aA9.mp hp).elim (fun z=>I.pin p (aE3 _ z)) (h p),I.hok,I.len⟩
theorem a5R{N:List Str}(hN:N.Nodup){i j:Nat}{x:Str}(a:N[i]?=some x)(b:N[j]?=some x):i=j:=by
 obtain⟨h1,e1⟩:=aA2.mp a
 obtain⟨h2,e2⟩:=aA2.mp b
 exact(List.getElem_inj hN).mp (e1.trans e2.symm)
theorem a2J{M:Model}{A:Around}{E:Value→Shared→Prop}{i:Nat}{x:Str}{v:V}{u:Value}{Q:Unit→Shared→Prop}(I:Inv X pins σ H s)(hN:X.N.Nodup)(hi:X.N[i]?=some x)(hx:Loc X.env.scope x)(r:RelV v u)
  (h:∀s',Inv X pins (σ.set i (some v)) H s'→(∃a,Heap.SameBut a s.heap s'.heap∧(a=X.env.locals∨X.env.cells.lookup x=some a))→Q () s') (hf:X.fn x=true∨X.env.scope.names.lookup x=some .local:=by first | exact .inl rfl | exact .inr rfl | assumption):wpAny M A (storeName X.env x u) Q E s:=by
 obtain⟨m,hn,hl⟩:=id I.loc
 have hcls:(X.env.scope.kind==.class||(X.env.scope.kind==.module&&X.env.locals != X.env.globals))=false:=by rw[I.ok.kind];rfl
 have hiσ:i<σ.length:=by rw[I.len];exact(aA2.mp hi).1
 have cne:=I.cne
 have tracked:∀{a:Addr} {h':Heap},(∃o,s.heap.get? a=some o∧H a=none)→Heap.SameBut a s.heap h'→M5 X.prog X.w H h':=fun {a h'} ha hs b ob e=>by
  obtain⟨_,_,hfree⟩:=ha
  refine(I.hok b ob e).stay (fun c w' hc q=>(hs.2 c ?_).trans q) (fun _ q=>q) fun _ _ q=>q
  rintro rfl
  rcases hc with rfl | hc
  ·rw[hfree]at e;cases e
  ·rw[hfree]at hc;cases hc
 rcases hx with hk | hk
 ·refine wpAny_storeName_local hk hn (fun h' hn' hs=>?_) hcls
  obtain⟨oL,_,_,hoL,_⟩:=id hn
  refine h _ ⟨I.ok,I.os,I.bare,⟨fun b o e n hb hx=>?_,fun b o e n hb hx=>?_,I.base.free,fun b o e hx=>?_,I.base.tups,I.base.frzs,I.base.tbls⟩,⟨_,hn',fun j y v' e1 e2 e3=>?_⟩,fun y c e=>?_,I.free,I.freeC,fun p hp=>?_,tracked ⟨oL,hoL,I.free⟩ hs,by simpa using I.len⟩ ⟨_,hs,.inl rfl⟩
  ·exact(hs.2 b (aD6 (aE7 (aC2 e) I.ok.above))).trans (I.base.keep b o e n hb hx)
  ·obtain⟨sl,e1⟩:=I.base.slot b o e n hb hx
   exact⟨sl,(hs.2 b (aD6 (aE7 (aC2 e) I.ok.above))).trans e1⟩
  ·obtain⟨o',e1⟩:=I.base.there b o e hx
   exact⟨o',(hs.2 b (aD6 (aE7 (aC2 e) I.ok.above))).trans e1⟩
  ·by_cases hj:j=i
   ·subst hj
    rw[hi]at e1;cases e1
    rw[List.getElem?_set_self hiσ]at e2
    cases e2
    exact⟨u,r,.inl ⟨hk,by simp⟩⟩
   ·rw[List.getElem?_set_ne (Ne.symm hj)]at e2
    obtain⟨u',r',q⟩:=hl j y v' e1 e2 e3
    refine⟨u',r',?_⟩
    rcases q with ⟨k,e⟩ | ⟨k,c,e,z⟩
    ·refine .inl ⟨k,?_⟩
     have:y≠x:=fun e=>hj (a5R hN e1 (e▸hi))
     simp[this,e]
    ·exact .inr ⟨k,c,e,z.sameBut hs (cne y c e)⟩
  ·obtain⟨w',z⟩:=I.cell y c e
   exact⟨w',z.sameBut hs (cne y c e)⟩
  ·obtain⟨e,n,ne,nf,d⟩:=I.pin p hp
   exact⟨(hs.2 p.1 ne).trans e,n,ne,nf,d⟩
 ·have hfn:X.fn x=true:=by
   rcases hf with z | z
   ·exact z
   ·rw[z]at hk;cases hk
  obtain⟨c,hc⟩:=I.ok.has x (.inl hk)
  obtain⟨w',z⟩:=I.cell x c hc
  refine wpAny_storeName_cell I.ok.kind hk hc z (fun h' hc' hs=>?_)
  obtain⟨oc,hoc,hocd⟩:=id z
  refine h { s with heap:=h' } ⟨I.ok,I.os,I.bare,⟨fun b o e n hb hx=>?_,fun b o e n hb hx=>?_,I.base.free,fun b o e hx=>?_,I.base.tups,I.base.frzs,I.base.tbls⟩,⟨m,hn.sameBut hs (Ne.symm (cne x c hc)),fun j y v' e1 e2 e3=>?_⟩,fun y c' e=>?_,I.free,I.freeC,fun p hp=>?_,tracked ⟨oc,hoc,I.freeC x c hc⟩ hs,by simpa using I.len⟩ ⟨c,hs,.inr hc⟩
  ·exact(hs.2 b (aD6 (aE7 (aC2 e) (I.ok.cab x c hfn hc)))).trans (I.base.keep b o e n hb hx)
  ·obtain⟨sl,e1⟩:=I.base.slot b o e n hb hx
   exact⟨sl,(hs.2 b (aD6 (aE7 (aC2 e) (I.ok.cab x c hfn hc)))).trans e1⟩
  ·obtain⟨o',e1⟩:=I.base.there b o e hx
   exact⟨o',(hs.2 b (aD6 (aE7 (aC2 e) (I.ok.cab x c hfn hc)))).trans e1⟩
  ·by_cases hj:j=i
   ·subst hj
    rw[hi]at e1;cases e1
    rw[List.getElem?_set_self hiσ]at e2
    cases e2
    exact⟨u,r,.inr ⟨.inl hk,c,hc,hc'⟩⟩
   ·rw[List.getElem?_set_ne (Ne.symm hj)]at e2
    obtain⟨u',r',q⟩:=hl j y v' e1 e2 e3
    refine⟨u',r',?_⟩
    rcases q with q | ⟨k,c',e,z'⟩
    ·exact .inl q
    ·refine .inr ⟨k,c',e,z'.sameBut hs ?_⟩
     rintro rfl
     exact hj (a5R hN e1 (I.ok.inj _ _ _ e hc▸hi))
  ·by_cases hcc:c'=c
   ·subst hcc;exact⟨_,hc'⟩
   ·obtain⟨w2,z2⟩:=I.cell y c' e
    exact⟨w2,z2.sameBut hs hcc⟩
  ·obtain⟨e,n,ne,nf,d⟩:=I.pin p hp
   refine⟨(hs.2 p.1 ?_).trans e,n,ne,nf,d⟩
   intro q
   rw[q,hoc]at e
   have q':oc=p.2:=aC0 e
   exact d w' (by rw[←q'];exact hocd)
theorem a6P{M:Model}{A:Around}{E:Value→Shared→Prop}{i:Nat}{x:Str}{v:V}{u:Value}{Q:Unit→Shared→Prop}(I:Inv X pins σ H s)(hN:X.N.Nodup)(hi:X.N[i]?=some x)(hx:Loc X.env.scope x)(r:RelV v u)
  (h:∀s',Inv X pins (σ.set i (some v)) H s'→Q () s') (hf:X.fn x=true∨X.env.scope.names.lookup x=some .local:=by first | exact .inl rfl | exact .inr rfl | assumption):wpAny M A (storeName X.env x u) Q E s:=
 a2J I hN hi hx r (fun s' I' _=>h s' I') hf
theorem Inv.call'{s':Shared}{ch:List Addr}(I:Inv X pins σ H s)(ho:s'.os=s.os)(u:Un (frs X.stack) ch H H' s.heap s'.heap)(hok:M5 X.prog X.w H' s'.heap)(hg:AllBare s'.gens)
  (hch:∀b∈ch,(b∈X.ex∨X.s₀.heap.objs.size≤b)∧b≠X.env.locals∧(∀x c,X.env.cells.lookup x=some c→c≠b)∧∀p∈X.pn++pins,p.1≠b):Inv X pins σ H' s':=by
 obtain⟨h',g',d',t',o'⟩:=s'
 have e:o'=s.os:=ho
 subst e
 exact I.call (g':=g') (t':=t') (d':=d') u hok hg hch
end
abbrev XK:=Value→Option Addr→Hp→Prop
abbrev St:=List (Option V)
abbrev VK:=V→Hp→Prop
abbrev TE:=St→Hp→VK→Prop
abbrev TT:=St→Hp→(Bool→Hp→Prop)→Prop
abbrev TA:=St→Hp→(List V→Hp→Prop)→Prop
structure Ends where
 nx:St→Hp→Prop
 rt:VK
 bk:St→Hp→Prop:=fun _ _=>False
 ct:St→Hp→Prop:=fun _ _=>False
abbrev TS:=Ends→St→Hp→Prop
def EP(X:Cx)(pins:List (Addr×Obj))(σ:St)(Q:VK)(u:Value)(s':Shared):Prop:=∃v H',Inv X pins σ H' s'∧RelV v u∧Q v H'
def TP(X:Cx)(pins:List (Addr×Obj))(σ:St)(Q:Bool→Hp→Prop)(b:Bool)(s':Shared):Prop:=∃H',Inv X pins σ H' s'∧Q b H'
def AP(X:Cx)(pins:List (Addr×Obj))(σ:St)(Q:List V→Hp→Prop)(us:List Value)(s':Shared):Prop:=∃vs H',Inv X pins σ H' s'∧j6 vs us∧Q vs H'
def SP(X:Cx)(pins:List (Addr×Obj))(D:Ends)(f:Flow)(s':Shared):Prop:=
 match f with
 | .next=>∃σ' H',Inv X pins σ' H' s'∧D.nx σ' H'
 | .brk=>∃σ' H',Inv X pins σ' H' s'∧D.bk σ' H'
 | .cont=>∃σ' H',Inv X pins σ' H' s'∧D.ct σ' H'
 | .ret u=>∃v σ' H',Inv X pins σ' H' s'∧RelV v u∧D.rt v H'
def PE(X:Cx)(e:Expr)(t:TE):Prop:=
 ∀(pins:List (Addr×Obj)) (s:Shared) (σ:St) (H:Hp) (Q:VK),Inv X pins σ H s→t σ H Q→wpAny (model X.prog X.w) X.A (eval e X.env) (EP X pins σ Q) X.xe s
def PT(X:Cx)(e:Expr)(t:TT):Prop:=
 ∀(pins:List (Addr×Obj)) (s:Shared) (σ:St) (H:Hp) (Q:Bool→Hp→Prop),Inv X pins σ H s→t σ H Q→wpAny (model X.prog X.w) X.A (isTrue e X.env (eval e X.env)) (TP X pins σ Q) X.xe s
def PW(X:Cx)(e:Expr)(t:TT):Prop:=
 ∀(whole:Sem Value) (pins:List (Addr×Obj)) (s:Shared) (σ:St) (H:Hp) (Q:Bool→Hp→Prop),Inv X pins σ H s→t σ H Q→wpAny (model X.prog X.w) X.A (isTrue e X.env whole) (TP X pins σ Q) X.xe s
theorem PW.pt{X:Cx}{e:Expr}{t:TT}(h:PW X e t):PT X e t:=h _
def PA(X:Cx)(es:List Expr)(t:TA):Prop:=
 ∀(pos:Pos) (pins:List (Addr×Obj)) (s:Shared) (σ:St) (H:Hp) (Q:List V→Hp→Prop),Inv X pins σ H s→t σ H Q→wpAny (model X.prog X.w) X.A (spliced (backTo pos (starEach es X.env))) (AP X pins σ Q) X.xe s
def PS(X:Cx)(st:Stmt)(t:TS):Prop:=
 ∀(pins:List (Addr×Obj)) (s:Shared) (σ:St) (H:Hp) (D:Ends),Inv X pins σ H s→t D σ H→wpAny (model X.prog X.w) X.A (exec st X.env) (SP X pins D) X.xe s
def PSs(X:Cx)(st:List Stmt)(t:TS):Prop:=
 ∀(pins:List (Addr×Obj)) (s:Shared) (σ:St) (H:Hp) (D:Ends),Inv X pins σ H s→t D σ H→wpAny (model X.prog X.w) X.A (execs st X.env) (SP X pins D) X.xe s
theorem n5{α:Type}{t:Sem α}{Q Q':α→Shared→Prop}{M:Model}{A:Around}{E:Value→Shared→Prop}{s:Shared}(h:wpAny M A t Q E s)(hQ:∀a s,Q a s→Q' a s):wpAny M A t Q' E s:=aH6 h hQ fun _ _ x=>x
open PySem PySem.Spec PyProof.Rows
section
variable{X:Cx}
theorem bin{a b:Expr}{ta tb:TE}(ha:PE X a ta)(hb:PE X b tb){pins:List (Addr×Obj)}{s:Shared}{σ:St}{H:Hp}{R:V→V→Hp→Prop}(I:Inv X pins σ H s)(h:ta σ H fun x H1=>tb σ H1 fun y H2=>R x y H2)
  {α:Type} {Q:α→Shared→Prop} {f:Value→Value→Sem α}
  (hf:∀v u s2 x y H2,Inv X pins σ H2 s2→RelV x v→RelV y u→R x y H2→wpAny (model X.prog X.w) X.A (f v u) Q X.xe s2) :
  wpAny (model X.prog X.w) X.A (eval a X.env) (fun v s₁=>wpAny (model X.prog X.w) X.A (eval b X.env) (fun u s₂=>wpAny (model X.prog X.w) X.A (f v u) Q X.xe s₂) X.xe s₁) X.xe s:=by
 refine n5 (ha pins s σ H _ I h) fun v s1 ⟨x,H1,I1,r1,q1⟩=>?_
 refine n5 (hb pins s1 σ H1 _ I1 q1) fun u s2 ⟨y,H2,I2,r2,q2⟩=>?_
 exact hf v u s2 x y H2 I2 r1 r2 q2
inductive b0F(σ:St)(i:Nat)(H:Hp)(Q:VK):Prop
 | mk (v:V) (e:σ[i]?=some (some v)) (q:Q v H)
def b1C(i:Nat):TE:=fun σ H Q=>b0F σ i H Q
inductive IBl(x:V)(Q:Bool→Prop):Prop
 | mk (c:Bool) (e:x=.bl c) (q:Q c)
def tC(v:V):TE:=fun _ H Q=>Q v H
theorem b4C{i:Nat}{x:Str}{pos:Pos}(hN:X.N[i]?=some x)(hv:Vis X.env.scope x)(hd:(x==("__debug__":Str))=false:=by decide)(hcd:(x==("__classdict__":Str))=false:=by decide):PE X (.Name x pos) (b1C i):=by
 intro pins s σ H Q I h
 obtain⟨v,e,h⟩:=h
 obtain⟨m,hn,hl⟩:=I.loc
 obtain⟨u,r,l⟩:=hl i x v hN e hv
 have fin:EP X pins σ Q u s:=⟨v,H,I,r,h⟩
 rcases l with ⟨hk,hm⟩ | ⟨hk,c,hc,hcell⟩
 ·exact wpAny_Name (wpAny_loadName_local I.ok.kind hk hn hm fin) hd
 ·rcases hk with hk | hk
  ·exact wpAny_Name (wpAny_loadName_cell I.ok.kind hk hc hcell fin) hd
  ·exact wpAny_Name (wpAny_loadName_free I.ok.kind hk hc hcell fin hcd) hd
theorem d5{i j pos}:PE X (.Constant (.int i) j pos) (tC (.int i)):=fun _ _ _ H _ I h=>wpAny_Constant_int ⟨.int i,H,I.tok _,⟨_,rfl⟩,h⟩
theorem y0{b j pos}:PE X (.Constant (.bool b) j pos) (tC (.bl b)):=fun _ _ _ H _ I h=>Constant_bool ⟨.bl b,H,I,rfl,h⟩
theorem a8p{j pos}:PE X (.Constant .none j pos) (tC .non):=fun _ _ _ H _ I h=>Constant_none ⟨.non,H,I,rfl,h⟩
theorem i8{x j pos}:PE X (.Constant (.str x) j pos) (tC (.str x)):=fun _ _ _ H _ I h=>Calls.Constant_str ⟨.str x,H,I.tok _,⟨_,rfl⟩,h⟩
def Gl(X:Cx)(x:Str):Prop:=X.env.kindOf x=some .globalImplicit
theorem a9r{E:Value→Shared→Prop}{pins:List (Addr×Obj)}{s:Shared}{σ:St}{H:Hp}{x:Str}{u:Value}{pos:Pos}{Q:Value→Shared→Prop}(I:Inv X pins σ H s)(hg:Gl X x)(hm:X.mg x=some u)(h:Q u s)
  (hd:(x==("__debug__":Str))=false:=by decide):wpAny (model X.prog X.w) X.A (eval (.Name x pos) X.env) Q E s:=
 Calls.Name_function_global I.ok.kind hg (Calls.loadGlobal_global (by rw[I.ok.glob];exact I.mod.glob.keeps I.bk) hm h) hd
theorem a4e{E:Value→Shared→Prop}{pins:List (Addr×Obj)}{s:Shared}{σ:St}{H:Hp}{x:Str}{u:Value}{pos:Pos}{Q:Value→Shared→Prop}(I:Inv X pins σ H s)(hg:Gl X x)(hm:X.mg x=none)(hv:bootBuiltins x=some u)(h:Q u s)
  (hn:x≠"__name__":=by decide) (hd:(x==("__debug__":Str))=false:=by decide):wpAny (model X.prog X.w) X.A (eval (.Name x pos) X.env) Q E s:=by
 obtain⟨mb,h1,h2⟩:=I.mod.blt
 exact Calls.Name_function_global I.ok.kind hg (Calls.loadGlobal_builtin (by rw[I.ok.glob];exact I.mod.glob.keeps I.bk) hm (by rw[I.ok.blt];exact h1.keeps I.bk) ((h2 x hn).trans hv) h) hd
theorem y9{x:Str}{v:V}{u:Value}{pos:Pos}(hg:Gl X x)(hm:X.mg x=some u)(r:RelV v u)(hd:(x==("__debug__":Str))=false:=by decide):PE X (.Name x pos) (tC v):=
 fun _ _ _ H _ I h=>a9r I hg hm ⟨v,H,I,r,h⟩ hd
theorem A5{x:Str}{v:V}{u:Value}{pos:Pos}(hg:Gl X x)(hm:X.mg x=none)(hv:bootBuiltins x=some u)(r:RelV v u)(hn:x≠"__name__":=by decide)(hd:(x==("__debug__":Str))=false:=by decide):PE X (.Name x pos) (tC v):=
 fun _ _ _ H _ I h=>a4e I hg hm hv ⟨v,H,I,r,h⟩ hn hd
variable{a b:Expr}{ta tb:TE}{pos:Pos}
def PC(X:Cx)(op:CmpOp)(a b:Expr)(t:TE):Prop:=
 ∀(pins:List (Addr×Obj)) (s:Shared) (σ:St) (H:Hp) (Q:VK),Inv X pins σ H s→t σ H Q →
  wpAny (model X.prog X.w) X.A (eval a X.env) (fun v s₁=>wpAny (model X.prog X.w) X.A (eval b X.env) (fun u s₂=>wpAny (model X.prog X.w) X.A (compareOp op v u) (EP X pins σ Q) X.xe s₂) X.xe s₁) X.xe s
theorem b1m(b:Expr){op:CmpOp}(h:op≠.In)(h2:op≠.NotIn):behindInMarks op b=false:=by
 have e1:(op==CmpOp.In)=false:=by cases op<;>first | rfl | exact absurd rfl h
 have e2:(op==CmpOp.NotIn)=false:=by cases op<;>first | rfl | exact absurd rfl h2
 cases b<;>simp[behindInMarks,e1,e2]
def tB(t:TE):TT:=fun σ H Q=>t σ H fun x H1=>IBl x fun c=>Q c H1
theorem b7I{op:CmpOp}{t:TE}(h:PC X op a b t)(h1:behindInMarks op b=false:=by first | exact b1m _ (by decide) (by decide) | rfl):PT X (.Compare a [op] [b] pos) (tB t):=by
 intro pins s σ H Q I hw
 refine wpAny_isTrue_Compare1 (n5 (h pins s σ H _ I hw) fun v s1 h1=>n5 h1 fun u s2 h2=>n5 h2 fun c s3 ⟨x,H1,I1,r1,q1⟩=>?_) h1
 obtain⟨d,rfl,q⟩:=q1
 cases r1
 exact aN0 ⟨H1,I1,q⟩
theorem C4{e:Expr}{t:TE}(h:PE X e t)(he:∀whole,isTrue e X.env whole=(do let v ←whole;standAt e.pos;holding [v] (truthy v)):=by intro _;rfl):PT X e (tB t):=by
 intro pins s σ H Q I hw
 refine isTrue_plain (n5 (h pins s σ H _ I hw) fun v s1 ⟨x,H1,I1,r1,q1⟩=>?_) (he _)
 obtain⟨d,rfl,q⟩:=q1
 cases r1
 exact aN0 ⟨H1,I1,q⟩
variable{tA tB':TT}{rest:List Expr}
def b7F(t u:TT):TT:=fun σ H Q=>t σ H fun c H1=>if c=true then u σ H1 Q else Q false H1
def tOr(t u:TT):TT:=fun σ H Q=>t σ H fun c H1=>if c=true then Q true H1 else u σ H1 Q
def b0G(t:TT):TT:=fun σ H Q=>t σ H fun c H1=>Q (!c) H1
theorem O9(ha:PT X a tA):PW X (.BoolOp .And [a] pos) tA:=by
 intro wh pins s σ H Q I h
 refine isTrue_and (n5 (ha pins s σ H Q I h) fun c s1 e=>?_)
 cases c with
 | true=>exact isTrue_and_nil e
 | false=>exact e
theorem L1(ha:PT X a tA):PW X (.BoolOp .Or [a] pos) tA:=by
 intro wh pins s σ H Q I h
 refine isTrue_or (n5 (ha pins s σ H Q I h) fun c s1 e=>?_)
 cases c with
 | false=>exact isTrue_or_nil e
 | true=>exact e
theorem R6(ha:PT X a tA)(hb:PW X (.BoolOp .And (b::rest) pos) tB'):PW X (.BoolOp .And (a::b::rest) pos) (b7F tA tB'):=by
 intro wh pins s σ H Q I h
 refine isTrue_and (n5 (ha pins s σ H _ I h) fun c s1 ⟨H1,I1,q1⟩=>?_)
 cases c with
 | true=>exact hb wh pins s1 σ H1 Q I1 q1
 | false=>exact⟨H1,I1,q1⟩
theorem N9(ha:PT X a tA)(hb:PW X (.BoolOp .Or (b::rest) pos) tB'):PW X (.BoolOp .Or (a::b::rest) pos) (tOr tA tB'):=by
 intro wh pins s σ H Q I h
 refine isTrue_or (n5 (ha pins s σ H _ I h) fun c s1 ⟨H1,I1,q1⟩=>?_)
 cases c with
 | true=>exact⟨H1,I1,q1⟩
 | false=>exact hb wh pins s1 σ H1 Q I1 q1
theorem G8(ha:PT X a tA):PT X (.UnaryOp .Not a pos) (b0G tA):=by
 intro pins s σ H Q I h
 exact isTrue_not (ha pins s σ H (fun c H1=>Q (!c) H1) I h)
def b6C(ta tb:TE):TE:=fun σ H Q=>ta σ H fun x H1=>IBl x fun c=>if c=true then tb σ H1 Q else Q (.bl false) H1
def b8D(ta:TE):TE:=fun σ H Q=>ta σ H fun x H1=>IBl x fun c=>Q (.bl (!c)) H1
theorem a5h{op}{t:TE}(h:PE X a t):PE X (.BoolOp op [a] pos) t:=fun pins s σ H Q I hw=>BoolOp_one (h pins s σ H Q I hw)
theorem Z3(ha:PE X a ta)(hb:PE X (.BoolOp .And (b::rest) pos) tb):PE X (.BoolOp .And (a::b::rest) pos) (b6C ta tb):=by
 intro pins s σ H Q I h
 refine BoolOp_and (n5 (ha pins s σ H _ I h) fun v s1 ⟨x,H1,I1,r1,q1⟩=>?_)
 obtain⟨c,rfl,q1⟩:=q1
 cases r1
 refine aN0 ?_
 cases c with
 | true=>exact hb pins s1 σ H1 Q I1 q1
 | false=>exact⟨.bl false,H1,I1,rfl,q1⟩
theorem b4A(ha:PE X a ta):PE X (.UnaryOp .Not a pos) (b8D ta):=by
 intro pins s σ H Q I h
 refine UnaryOp_ (n5 (ha pins s σ H _ I h) fun v s1 ⟨x,H1,I1,r1,q1⟩=>?_)
 obtain⟨c,rfl,q1⟩:=q1
 cases r1
 exact not_of (aN0 ⟨.bl (!c),H1,I1,rfl,q1⟩)
end
open PySem PySem.Spec PyProof.Rows
def d8(K:PySem.W.Frag)(H:Hp)(a:Addr)(xs:List V):Prop:=
 Rd H a (.lst xs) ∨
  ∃(o:Obj) (its:Array Value) (n:Nat),K.lookup a=some o∧o.cls=.type "list"∧o.dict=none∧o.data=.seq its n∧its.size≤sizeLine∧j6 xs its.toList
def i3(K:PySem.W.Frag)(H:Hp)(a:Addr)(xs:List V):Prop:=
 Rd H a (.tup xs) ∨
  ∃(o:Obj) (its:Array Value) (n:Nat),K.lookup a=some o∧o.cls=.type "tuple"∧o.data=.seq its n∧its.size≤sizeLine∧j6 xs its.toList
def b8F:Value→Option V
 | .none=>some .non
 | .bool b=>some (.bl b)
 | .int i _=>some (.int i)
 | .str x _=>some (.str x)
 | .bytes b _=>some (.byt b)
 | .float b _=>some (.flt b)
 | .ref a=>some (.ref a)
 | .type n=>some (.ty n)
 | _=>none
theorem RelV.abs{x:V}{u:Value}(r:RelV x u):b8F u=some x:=by
 cases x with
 | non=>cases r;rfl
 | bl _=>cases r;rfl
 | int _=>obtain⟨t,rfl⟩:=r;rfl
 | str _=>obtain⟨t,rfl⟩:=r;rfl
 | byt _=>obtain⟨t,rfl⟩:=r;rfl
 | flt _=>obtain⟨t,rfl⟩:=r;rfl
 | ref _=>cases r;rfl
 | ty _=>cases r;rfl
theorem RelV.inj{x y:V}{u:Value}(r:RelV x u)(q:RelV y u):x=y:=aC0 (r.abs.symm.trans q.abs)
theorem j6.inj:∀{xs ys:List V} {us:List Value},j6 xs us→j6 ys us→xs=ys
 | _,_,_,.nil,.nil=>rfl
 | _,_,_,.cons r t,.cons r' t'=>by rw[r.inj r',j6.inj t t']
section
variable{X:Cx}{pins:List (Addr×Obj)}{σ:St}{H:Hp}{s:Shared}{a:Addr}{xs ys:List V}
theorem d8.of{K:PySem.W.Frag}(h:H a=some (.lst xs)):d8 K H a xs:=.inl (.inl h)
theorem i3.of{K:PySem.W.Frag}(h:H a=some (.tup xs)):i3 K H a xs:=.inl (.inl h)
theorem Inv.list(I:Inv X pins σ H s)(h:d8 X.K H a xs):∃its:List Value,j6 xs its∧PlainL s.heap a its.toArray∧xs.length≤sizeLine:=by
 rcases h with h | ⟨o,its,n,hk,hc,hd,hs,hz,r⟩
 ·obtain⟨z,its,n,r,e⟩:=h.ok I.hok
  exact⟨its,r,⟨_,n,e,rfl,rfl,rfl⟩,z⟩
 ·refine⟨its.toList,r,⟨o,n,I.kIn a o hk,hc,hd,by simpa using hs⟩,?_⟩
  have e:=r.length
  simp only[aF3]at e
  omega
theorem Inv.tuple(I:Inv X pins σ H s)(h:i3 X.K H a xs):∃its:List Value,j6 xs its∧IsTup s.heap a its.toArray∧xs.length≤sizeLine:=by
 rcases h with h | ⟨o,its,n,hk,hc,hs,hz,r⟩
 ·obtain⟨z,its,r,p⟩:=h.ok I.hok
  exact⟨its,r,p,z⟩
 ·refine⟨its.toList,r,⟨o,I.kIn a o hk,hc,n,by simpa using hs⟩,?_⟩
  have e:=r.length
  simp only[aF3]at e
  omega
theorem Inv.list_inj(I:Inv X pins σ H s)(h:d8 X.K H a xs)(h':d8 X.K H a ys):xs=ys:=by
 obtain⟨its,r,⟨o,n,e,_,_,d⟩,_⟩:=I.list h
 obtain⟨its',r',⟨o',n',e',_,_,d'⟩,_⟩:=I.list h'
 rw[e]at e';cases e'
 rw[d]at d'
 injection d' with d1 _
 have:its=its':=by simpa using congrArg Array.toList d1
 subst this
 exact r.inj r'
end
abbrev Cx.wish(X:Cx)(E:Value→Shared→Prop):Cx:={ X with xe:=E }
abbrev Cx.nox(X:Cx):Cx:=X.wish fun _ _=>False
theorem Cx.Ok.wish{X:Cx}(ok:X.Ok)(E:Value→Shared→Prop):(X.wish E).Ok:=
 ⟨ok.mod,ok.kind,ok.glob,ok.blt,ok.above,ok.inj,ok.has,ok.cab,ok.hd,ok.frames,ok.stk,ok.exf,ok.bs,ok.bsz,ok.noex,ok.exfs,ok.funs,ok.frf⟩
theorem Cx.Ok.unwish{X:Cx}{E:Value→Shared→Prop}(ok:(X.wish E).Ok):X.Ok:=
 ⟨ok.mod,ok.kind,ok.glob,ok.blt,ok.above,ok.inj,ok.has,ok.cab,ok.hd,ok.frames,ok.stk,ok.exf,ok.bs,ok.bsz,ok.noex,ok.exfs,ok.funs,ok.frf⟩
section
variable{X:Cx}{pins:List (Addr×Obj)}{σ:St}{H:Hp}{s:Shared}{E:Value→Shared→Prop}
theorem Inv.wish(I:Inv X pins σ H s)(E:Value→Shared→Prop):Inv (X.wish E) pins σ H s:=⟨I.ok.wish E,I.os,I.bare,I.base,I.loc,I.cell,I.free,I.freeC,I.pin,I.hok,I.len⟩
theorem Inv.unwish(I:Inv (X.wish E) pins σ H s):Inv X pins σ H s:=⟨I.ok.unwish,I.os,I.bare,I.base,I.loc,I.cell,I.free,I.freeC,I.pin,I.hok,I.len⟩
theorem SP.unwish{D:Ends}{f:Flow}{s':Shared}(h:SP (X.wish E) pins D f s'):SP X pins D f s':=by
 cases f with
 | next=>obtain⟨σ',H',I,q⟩:=h;exact⟨σ',H',I.unwish,q⟩
 | brk=>obtain⟨σ',H',I,q⟩:=h;exact⟨σ',H',I.unwish,q⟩
 | cont=>obtain⟨σ',H',I,q⟩:=h;exact⟨σ',H',I.unwish,q⟩
 | ret u=>obtain⟨v,σ',H',I,r,q⟩:=h;exact⟨v,σ',H',I.unwish,r,q⟩
theorem PSs.nox{st:List Stmt}{t:TS}(h:PSs X.nox st t):PSs X st t:=fun pins s σ H D I hw=>
 aH6 (h pins s σ H D (I.wish _) hw) (fun _ _ q=>q.unwish) fun _ _ z=>False.elim z
end
section
variable{X:Cx}{st:Stmt}{rest:List Stmt}{t u:TS}{e:Expr}{te:TE}{pos:Pos}
def b3E:TS:=fun D σ H=>D.nx σ H
def b5G(t u:TS):TS:=fun D σ H=>t { D with nx:=u D } σ H
theorem j4:PSs X [] b3E:=fun _ _ σ H _ I h=>aT4 ⟨σ,H,I,h⟩
theorem b9(h1:PS X st t)(h2:PSs X rest u):PSs X (st::rest) (b5G t u):=by
 intro pins s σ H D I h
 refine wpAny_execs_cons (n5 (h1 pins s σ H { D with nx:=u D } I h) fun f s1 q=>?_)
 cases f with
 | next=>
  obtain⟨σ',H',I',q⟩:=q
  exact h2 pins s1 σ' H' D I' q
 | ret v=>exact q
 | brk=>exact q
 | cont=>exact q
theorem d6(h1:PS X st t):PSs X [st] t:=by
 intro pins s σ H D I h
 refine wpAny_execs_cons (n5 (h1 pins s σ H D I h) fun f s1 q=>?_)
 cases f with
 | next=>exact aT4 q
 | ret v=>exact q
 | brk=>exact q
 | cont=>exact q
theorem Inv.quiet{pins:List (Addr×Obj)}{σ:St}{H:Hp}{s:Shared}(I:Inv X pins σ H s):interactive X.env=false:=by simp[interactive,I.ok.kind]
def b9D(te:TE):TS:=fun D σ H=>te σ H fun _ H1=>D.nx σ H1
theorem m8(he:PE X e te)(hs:swapsWith e none pos.line X.env=pure false:=by rfl):PS X (.Expr e pos) (b9D te):=by
 intro pins s σ H D I h
 exact wpAny_Expr_any (n5 (he pins s σ H _ I h) fun v s1 ⟨x,H1,I1,r1,q1⟩=>⟨σ,H1,I1,q1⟩) I.quiet hs
def b9H(te:TE):TS:=fun D σ H=>te σ H D.rt
theorem i4(he:PE X e te):PS X (.Return (some e) pos) (b9H te):=by
 intro pins s σ H D I h
 exact wpAny_Return_some (n5 (he pins s σ H _ I h) fun v s1 ⟨x,H1,I1,r1,q1⟩=>⟨x,σ,H1,I1,r1,q1⟩)
def b5I(c:TT)(t u:TS):TS:=fun D σ H=>c σ H fun b H1=>if b=true then t D σ H1 else u D σ H1
theorem l4{c:Expr}{a b:List Stmt}{tc:TT}(hc:PT X c tc)(ha:PSs X a t)(hb:PSs X b u):PS X (.If c a b pos) (b5I tc t u):=by
 intro pins s σ H D I h
 refine wpAny_If (n5 (hc pins s σ H _ I h) fun d s1 ⟨H1,I1,q1⟩=>?_)
 cases d with
 | true=>exact ha pins s1 σ H1 D I1 q1
 | false=>exact hb pins s1 σ H1 D I1 q1
end
abbrev TG:=V→St→Hp→(St→Hp→Prop)→Prop
abbrev TGs:=List V→St→Hp→(St→Hp→Prop)→Prop
def PG(X:Cx)(target:Expr)(t:TG):Prop:=
 ∀(pins:List (Addr×Obj)) (s:Shared) (σ:St) (H:Hp) (v:V) (u:Value) (Q:St→Hp→Prop),Inv X pins σ H s→RelV v u→t v σ H Q →
  wpAny (model X.prog X.w) X.A (assign target X.env u) (fun _ s'=>∃σ' H',Inv X pins σ' H' s'∧Q σ' H') X.xe s
def PGs(X:Cx)(ts:List Expr)(t:TGs):Prop:=
 ∀(pins:List (Addr×Obj)) (s:Shared) (σ:St) (H:Hp) (vs:List V) (us:List Value) (Q:St→Hp→Prop),Inv X pins σ H s→j6 vs us→t vs σ H Q →
  wpAny (model X.prog X.w) X.A (assignInOrder ((assignEach ts X.env).map (·.2)) us) (fun _ s'=>∃σ' H',Inv X pins σ' H' s'∧Q σ' H') X.xe s
section
variable{X:Cx}{pos:Pos}
def a8A(i:Nat):TG:=fun v σ H Q=>Q (σ.set i (some v)) H
theorem l6{i:Nat}{x:Str}(hN:X.N.Nodup)(hi:X.N[i]?=some x)(hx:Loc X.env.scope x)(hf:X.fn x=true∨X.env.scope.names.lookup x=some .local:=by first | exact .inl rfl | exact .inr rfl | assumption):PG X (.Name x pos) (a8A i):=by
 intro pins s σ H v u Q I r h
 exact wpAny_assign_Name (a6P I hN hi hx r (fun s' I'=>⟨_,H,I',h⟩) hf)
def b7H:TGs:=fun vs σ H Q=>vs=[]∧Q σ H
def b8E(t:TG)(u:TGs):TGs:=fun vs σ H Q=>∃v r,vs=v::r∧t v σ H fun σ' H'=>u r σ' H' Q
theorem a6s:PGs X [] b7H:=by
 intro pins s σ H vs us Q I r h
 obtain⟨e,h⟩:=h
 subst e
 cases r
 exact assignInOrder_nil ⟨σ,H,I,h⟩
theorem P3{e:Expr}{es:List Expr}{t:TG}{u:TGs}(h1:PG X e t)(h2:PGs X es u)
  (hs:(assignEach (e::es) X.env).map (·.2)=assign e X.env::(assignEach es X.env).map (·.2):=by rfl):PGs X (e::es) (b8E t u):=by
 intro pins s σ H vs us Q I r h
 obtain⟨v,vr,e1,h⟩:=h
 subst e1
 cases r with
 | cons r rr=>
  rw[hs]
  refine assignInOrder_cons (n5 (h1 pins s σ H _ _ _ I r h) fun _ s1 ⟨σ1,H1,I1,q1⟩=>?_)
  exact h2 pins s1 σ1 H1 _ _ Q I1 rr q1
def b2G(K:PySem.W.Frag)(n:Nat)(t:TGs):TG:=fun v σ H Q=>∃a xs,v=.ref a∧i3 K H a xs∧xs.length=n∧t xs σ H Q
theorem a6A{es:List Expr}{k:Nat}{t:TGs}{n:Nat}(hc:X.calm=true)(h:PGs X es t)
  (hn:(assignEach es X.env).length=n:=by rfl) (hst:(assignEach es X.env).findIdx? (·.1)=none:=by rfl):PG X (.Tuple es k pos) (b2G X.K n t):=by
 intro pins s σ H v u Q I r hw
 obtain⟨a,xs,e1,hq,hl,hw⟩:=hw
 subst e1
 cases r
 obtain⟨its,rv,ht,hz⟩:=I.tuple hq
 refine assign_Tuple_tuple (I.ok.hd hc) ht (by simp[hn,←hl,rv.length]) hst fun h' hx=>?_
 have I1:Inv X pins σ H { s with heap:=h' }:=I.kept (t':=s.toks) fun b o e=>hx b o (aD6 (aC2 e)) e
 exact h pins _ σ H xs _ Q I1 (by simpa using rv) hw
def b7s(te:TE)(g:TG):TS:=fun D σ H=>te σ H fun x H1=>g x σ H1 D.nx
theorem b0A{tg e:Expr}{te:TE}{g:TG}(he:PE X e te)(hg:PG X tg g)(hs:swapsWithSole [tg] e pos.line X.env=pure false:=by rfl)(hw:swappedStores [tg] e X.env=pure none:=by rfl)
  (h1:(assignEach [tg] X.env).map (·.2)=[assign tg X.env]:=by rfl):PS X (.Assign [tg] e pos) (b7s te g):=by
 intro pins s σ H D I h
 refine wpAny_Assign_stores (n5 (he pins s σ H _ I h) fun v s1 ⟨x,H1,I1,r1,q1⟩=>?_) hs hw
 rw[h1]
 exact n5 (hg pins s1 σ H1 x v _ I1 r1 q1) fun _ s2 q=>q
theorem g8{i:Nat}{x:Str}{e:Expr}{te:TE}{pos':Pos}(hN:X.N.Nodup)(hi:X.N[i]?=some x)(hx:Loc X.env.scope x)(he:PE X e te)(hs:swapsWith e (some (.Name x pos')) pos.line X.env=pure false:=by rfl)(hf:X.fn x=true∨X.env.scope.names.lookup x=some .local:=by first | exact .inl rfl | exact .inr rfl | assumption) :
  PS X (.Assign [.Name x pos'] e pos) (b7s te (a8A i)):=by
 intro pins s σ H D I h
 refine wpAny_Assign_Name (n5 (he pins s σ H _ I h) fun v s1 ⟨y,H1,I1,r1,q1⟩=>?_) hs
 exact a6P I1 hN hi hx r1 (fun s2 I2=>⟨_,H1,I2,q1⟩) hf
end
section
variable{X:Cx}{pos:Pos}
def b3A(c:TT)(tb:TS):TS:=fun D σ H=>∃W:Nat→St→Hp→Prop,(∃m,W m σ H)∧∀m σ H,W m σ H →
 c σ H fun b H1=>if b=true then ∃N:St→Hp→Prop,(∀σ' H',N σ' H'→∃m',m'<m∧W m' σ' H')∧tb { D with nx:=N,ct:=N,bk:=D.nx } σ H1 else D.nx σ H1
theorem a7l{c:Expr}{body:List Stmt}{tc:TT}{tb:TS}(hp:PassesOwn (model X.prog X.w) X.A X.env X.xe)(hc:PT X c tc)(hb:PSs X body tb):PS X (.While c body [] pos) (b3A tc tb):=by
 intro pins s σ H D I h
 obtain⟨W,⟨m0,w0⟩,turn⟩:=h
 refine wpAny_While (codeAny_whileLoop (fun n s'=>∃σ' H',Inv X pins σ' H' s'∧W n σ' H') ?_ m0 ⟨σ,H,I,w0⟩)
 rintro n s1 ⟨σ1,H1,I1,w1⟩
 refine aM6 hp (n5 (hc pins s1 σ1 H1 _ I1 (turn n σ1 H1 w1)) fun b s2 ⟨H2,I2,q2⟩=>?_)
 cases b with
 | true=>
  obtain⟨N,hN,q2⟩:=q2
  rw[aB4 rfl]
  refine aM6 hp (n5 (hb pins s2 σ1 H2 _ I2 q2) fun f s3 q3=>?_)
  cases f with
  | next=>
   obtain⟨σ3,H3,I3,n3⟩:=q3
   obtain⟨m',hm,w3⟩:=hN σ3 H3 n3
   exact⟨m',hm,σ3,H3,I3,w3⟩
  | cont=>
   obtain⟨σ3,H3,I3,n3⟩:=q3
   obtain⟨m',hm,w3⟩:=hN σ3 H3 n3
   exact⟨m',hm,σ3,H3,I3,w3⟩
  | brk=>exact q3
  | ret v=>exact q3
 | false=>
  rw[aA8 aC9]
  exact aT4 ⟨σ1,H2,I2,q2⟩
end
structure It where
 go:Nat→Hp→Prop
 yld:Nat→Hp→V→Hp→Prop
 stop:Nat→Hp→Prop
def a5a(X:Cx)(pins:List (Addr×Obj))(H:Hp)(b:Addr):Prop:=
 H b=none∧b≠X.env.locals∧b∉X.fs∧(b∈X.ex∨X.s₀.heap.objs.size≤b)∧(∀x c,X.env.cells.lookup x=some c→c≠b)∧∀p∈X.pn++pins,p.1≠b
theorem Inv.fpOk{X:Cx}{pins:List (Addr×Obj)}{σ:St}{H H':Hp}{s:Shared}{b:Addr}(I:Inv X pins σ H s)(hb:s.heap.objs.size≤b)(hn:H' b=none):a5a X pins H' b:=by
 refine⟨hn,aK1 (aE7 I.lt hb),I.nofs hb,.inr (aD7 I.sz hb),fun x c e z=>?_,fun p hp z=>?_⟩
 ·obtain⟨v,q⟩:=I.cell x c e
  exact absurd (aE7 q.lt (by rw[z];exact hb)) (aJ1 _)
 ·exact absurd (aE7 (aC2 (I.pin p hp).1) (by rw[z];exact hb)) (aJ1 _)
structure Turn(P:Program)(w:World)(K:PySem.W.Frag)(tg:Expr)(J:It)(fp:List Addr)(it:Addr)(tn:Nat→Heap→Prop):Prop where
 mem:it∈fp
 obj:∀i h,tn i h→∀b∈fp,∃o,h.get? b=some o∧∀v,o.data≠.cell v
 keep:∀i h h',tn i h→(∀b∈fp,∀o,h.get? b=some o→h'.get? b=some o)→tn i h'
 item:∀(X:Cx),X.prog=P→X.w=w→X.K=K→X.calm=true→∀(i:Nat) (pins:List (Addr×Obj)) (s:Shared) (σ:St) (H:Hp) (E:Value→Shared→Prop),Inv X pins σ H s→(∀b∈fp,a5a X pins H b)→tn i s.heap→J.go i H →
  wpAny (model P w) X.A (pyNext (.ref it)) (fun r s1=>∃u,r=some u ∧
   wpAny (model P w) X.A (letOwnedTupleGo tg (.ref it) u) (fun _ s2=>∃x H',Inv X pins σ H' s2∧RelV x u∧J.yld i H x H'∧tn (i+1) s2.heap∧∀b∈fp,H' b=none) E s1) E s
 done:∀(X:Cx),X.prog=P→X.w=w→X.K=K→X.calm=true→∀(i:Nat) (pins:List (Addr×Obj)) (s:Shared) (σ:St) (H:Hp) (E:Value→Shared→Prop),Inv X pins σ H s→(∀b∈fp,a5a X pins H b)→tn i s.heap→J.stop i H →
  wpAny (model P w) X.A (pyNext (.ref it)) (fun r s1=>r=none∧Inv X pins σ H s1) E s
 self:∀(A:Around) (i:Nat) (s:Shared) (Q:Value→Shared→Prop) (E:Value→Shared→Prop),tn i s.heap→Q (.ref it) s→wpAny (model P w) A (pyIter (.ref it)) Q E s
abbrev TI:=St→Hp→(It→Hp→Prop)→Prop
def PIE(X:Cx)(pins:List (Addr×Obj))(σ:St)(tg:Expr)(R:It→Hp→Prop)(itv:Value)(s2:Shared):Prop:=
 ∃(it:Addr) (fp:List Addr) (tn:Nat→Heap→Prop) (J:It) (H':Hp),itv=.ref it∧Inv X pins σ H' s2∧Turn X.prog X.w X.K tg J fp it tn∧tn 0 s2.heap∧(∀b∈fp,a5a X pins H' b)∧R J H'
def PI(X:Cx)(tg iter:Expr)(wi:TI):Prop:=
 ∀(pins:List (Addr×Obj)) (s:Shared) (σ:St) (H:Hp) (R:It→Hp→Prop),Inv X pins σ H s→wi σ H R →
  wpAny (model X.prog X.w) X.A (eval iter X.env) (fun v s1=>wpAny (model X.prog X.w) X.A (pyIter v) (PIE X pins σ tg R) X.xe s1) X.xe s
theorem b2e{M:Model}{A:Around}{E:Value→Shared→Prop}{s:Shared}{tg:Expr}{it:Addr}{u:Value}{o:Obj}{n:String}{vs:Array Value}{Q:Unit→Shared→Prop}(ho:s.heap.get? it=some o)(hc:o.cls=.type n)(hd:o.data=.fields vs)
  (hn:["enumerate","zip","dict_itemiterator","dict_reverseitemiterator","odict_iterator","itertools.zip_longest","itertools.pairwise"].contains n=false) (hQ:Q () s):wpAny M A (letOwnedTupleGo tg (.ref it) u) Q E s:=by
 unfold letOwnedTupleGo
 cases tg<;>first
  | exact aA6 hQ
  | (cases u<;>first
    | exact aA6 hQ
    | (refine aA1 (wpAny_load ho ?_);rw[hc,hd];show wpAny M A (if (["enumerate","zip","dict_itemiterator","dict_reverseitemiterator","odict_iterator","itertools.zip_longest","itertools.pairwise"].contains n&&vs[0]?==some (rawInt _))=true then _ else _) Q E s;rw[aA8 (by intro h;rw[hn,Bool.false_and]at h;cases h)];exact aA6 hQ))
def Itl(K:PySem.W.Frag)(a:Addr):It:=
 ⟨fun i H=>∃xs x,d8 K H a xs∧xs[i]?=some x,fun i H x H'=>H'=H∧∀xs,d8 K H a xs→xs[i]?=some x,fun i H=>∃xs,d8 K H a xs∧xs.length≤i⟩
def Itr(lo:Int)(n:Nat):It:=⟨fun i _=>i<n,fun i H x H'=>H'=H∧x=.int (lo+i),fun i _=>n≤i⟩
theorem b8j{P:Program}{w:World}{K:PySem.W.Frag}{tg:Expr}(a it:Addr):Turn P w K tg (Itl K a) [it] it (fun i h=>h.IsListIter it a i) where
 mem:=by simp
 obj:=fun i h st b hb=>by
  have e:b=it:=by simpa using hb
  subst e
  obtain⟨o,e,c,d⟩:=st
  exact⟨o,e,fun v z=>by rw[d]at z;cases z⟩
 keep:=fun i h h' st k=>st.at fun o e=>k it (by simp) o e
 item:=by
  intro X hP hw hK hc i pins s σ H E I hf st hg
  subst hP hw hK
  obtain⟨xs,x,hq,hx⟩:=hg
  obtain⟨its,rv,p,hz⟩:=I.list hq
  obtain⟨u,hu,ru⟩:=rv.get hx
  obtain⟨f0,f1,f2,f3,f4,f5⟩:=hf it (by simp)
  refine wpAny_pyNext_list_item st p.isList (x:=u) (by simpa using hu) fun h' st' sb=>?_
  have I1:Inv X pins σ H { s with heap:=h' }:=I.turned (t':=s.toks) (fun b o hb e=>(sb.2 b hb).trans e) f0 f1 f3 f4 f5
  obtain⟨o,e,c,d⟩:=id st'
  exact⟨u,rfl,b2e (s:={ s with heap:=h' }) e c d (by decide) ⟨x,H,I1,ru,⟨rfl,fun ys hy=>by rw[I.list_inj hy hq];exact hx⟩,st',fun b hb=>(hf b hb).1⟩⟩
 done:=by
  intro X hP hw hK hc i pins s σ H E I hf st hg
  subst hP hw hK
  obtain⟨xs,hq,hx⟩:=hg
  obtain⟨its,rv,p,hz⟩:=I.list hq
  obtain⟨f0,f1,f2,f3,f4,f5⟩:=hf it (by simp)
  have hl:=rv.length
  exact wpAny_pyNext_list_end (I.ok.hd hc) st p.isList (by simp;omega) fun h' eb=>⟨rfl,I.turned (t':=s.toks) (fun b o hb e=>eb b o hb e) f0 f1 f3 f4 f5⟩
 self:=fun _ _ _ _ _ st h=>wpAny_pyIter_listiter st h
theorem b1c{P:Program}{w:World}{K:PySem.W.Frag}{tg:Expr}(it:Addr)(lo:Int)(n:Nat):Turn P w K tg (Itr lo n) [it] it (fun i h=>IsRangeIter h it (lo+(i:Nat)*1) ((n:Int)-(i:Nat)) 1) where
 mem:=by simp
 obj:=fun i h st b hb=>by
  have e:b=it:=by simpa using hb
  subst e
  exact⟨_,st,fun v z=>by
   have z':Data.fields _=Data.cell v:=z
   cases z'⟩
 keep:=fun i h h' st k=>k it (by simp) _ st
 item:=by
  intro X hP hw hK hc i pins s σ H E I hf st hg
  subst hP hw hK
  obtain⟨f0,f1,f2,f3,f4,f5⟩:=hf it (by simp)
  have W:=Walks.range (prog:=X.prog) (w:=X.w) (I.ok.hd hc) it lo 1 n
  refine W.item i s _ _ hg st fun v h' tk hv st' kk=>?_
  obtain⟨t,rfl⟩:=hv
  have I1:Inv X pins σ H { s with heap:=h',toks:=tk }:=I.turned (fun b o hb e=>kk b o (by simpa using hb) e) f0 f1 f3 f4 f5
  refine⟨_,rfl,b2e (s:={ s with heap:=h',toks:=tk }) (n:="range_iterator") st' rfl rfl (by decide) ⟨.int (lo+i),H,I1,⟨t,?_⟩,⟨rfl,rfl⟩,st',fun b hb=>(hf b hb).1⟩⟩
  rw[Int.mul_one]
 done:=by
  intro X hP hw hK hc i pins s σ H E I hf st hg
  subst hP hw hK
  obtain⟨f0,f1,f2,f3,f4,f5⟩:=hf it (by simp)
  exact wpAny_pyNext_range_end (I.ok.hd hc) st (by have:n≤i:=hg;omega) fun h' eb=>⟨rfl,I.turned (t':=s.toks) (fun b o hb e=>eb b o hb e) f0 f1 f3 f4 f5⟩
 self:=fun _ _ _ _ _ st h=>wpAny_pyIter_rangeiter st h
open PySem PySem.Spec PyProof.Rows
section
variable{X:Cx}{tg:Expr}
def b4D(K:PySem.W.Frag)(tl:TE):TI:=fun σ H R=>tl σ H fun x H1=>∃a,x=.ref a∧(∃xs,d8 K H1 a xs)∧R (Itl K a) H1
theorem u6{l:Expr}{tl:TE}(hl:PE X l tl):PI X tg l (b4D X.K tl):=by
 intro pins s σ H R I h
 refine n5 (hl pins s σ H _ I h) fun v s1 ⟨x,H1,I1,r1,q1⟩=>?_
 obtain⟨a,e,⟨xs,hq⟩,q⟩:=q1
 subst e
 cases r1
 obtain⟨its,rv,p,hz⟩:=I1.list hq
 refine aQ9 p.isList ?_
 refine⟨s1.heap.objs.size,[s1.heap.objs.size],_,_,H1,rfl,I1.kept (t':=s1.toks) fun b o e=>aA7 _ e,b8j a _,⟨_,aC5 _ rfl,rfl,rfl⟩,fun b hb=>?_,q⟩
 have e:b=s1.heap.objs.size:=by simpa using hb
 subst e
 exact I1.fpOk (aB3 _) (I1.hok.fresh (aB3 _))
theorem b6s{pins:List (Addr×Obj)}{σ:St}{H:Hp}{s:Shared}{R:It→Hp→Prop}{E:Value→Shared→Prop}{lo hi:Int}{t u v:Tok}{tk:Nat}(I:Inv X pins σ H s)(h1:-(2 ^ 62)≤lo)(h2:lo<2 ^ 62)(h3:-(2 ^ 62)≤hi)(h4:hi<2 ^ 62)
  (q:R (Itr lo (hi-lo).toNat) H):wpAny (model X.prog X.w) X.A (pyIter (.ref s.heap.objs.size)) (PIE X pins σ tg R) E { s with heap:=s.heap.push { cls:=.type "range",data:=.fields #[.int lo t,.int hi u,.int 1 v] },toks:=tk }:=by
 refine wpAny_pyIter_range (IsRange.new ..) (small_one h1 h2 h3 h4) ?_
 have I1:Inv X pins σ H { s with heap:=s.heap.push { cls:=.type "range",data:=.fields #[.int lo t,.int hi u,.int 1 v] },toks:=tk }:=I.kept fun b o e=>aA7 _ e
 refine⟨(s.heap.push { cls:=.type "range",data:=.fields #[.int lo t,.int hi u,.int 1 v] }).objs.size,[(s.heap.push { cls:=.type "range",data:=.fields #[.int lo t,.int hi u,.int 1 v] }).objs.size],_,_,H,rfl,
  I1.kept (t':=tk) fun b o e=>aA7 _ e,b1c _ lo (hi-lo).toNat,?_,fun b hb=>?_,q⟩
 ·have e1:lo+((0:Nat):Int)*1=lo:=by simp
  have e2:(((hi-lo).toNat:Nat):Int)-((0:Nat):Int)=Builtin.Range.rangeSize lo hi 1:=by rw[rangeSize_one];split<;>omega
  show IsRangeIter _ _ (lo+((0:Nat):Int)*1) ((((hi-lo).toNat:Nat):Int)-((0:Nat):Int)) 1
  rw[e1,e2]
  exact aC5 _ rfl
 ·have e:b=(s.heap.push { cls:=.type "range",data:=.fields #[.int lo t,.int hi u,.int 1 v] }).objs.size:=by simpa using hb
  subst e
  exact I1.fpOk (aB3 _) (I1.hok.fresh (aB3 _))
def b5E(ta:TA):TI:=fun σ H R=>ta σ H fun vs H1=>∃j:Int,vs=[.int j]∧-(2 ^ 62)≤j∧j<2 ^ 62∧R (Itr 0 j.toNat) H1
theorem P2{a:Expr}{ta:TA}{p pos:Pos}(hg:Gl X "range")(hm:X.mg "range"=none)(ha:PA X [a] ta)(hs:starEach [a] X.env=[(false,eval a X.env)]:=by rfl):PI X tg (.Call (.Name "range" p) [a] [] pos) (b5E ta):=by
 intro pins s σ H R I h
 refine Call_ (a4e I hg hm boot_range (aL7 (n5 (ha pos pins s σ H _ I h) fun us s1 ⟨vs,H1,I1,r1,q1⟩=>?_) hs rfl))
 obtain⟨j,e,q1,q2,q⟩:=q1
 subst e
 cases r1 with
 | cons r rr=>
  cases rr
  obtain⟨t,rfl⟩:=r
  exact call_range_1 (b6s I1 (by omega) (by omega) q1 q2 (by simpa using q))
def b3H(wi:TI)(g:TG)(tb:TS):TS:=fun D σ H=>wi σ H fun J H1=>∃W:Nat→Nat→St→Hp→Prop,(∃m,W 0 m σ H1)∧∀i m σ H,W i m σ H →
 (J.stop i H∧D.nx σ H)∨(J.go i H∧∃N:St→Hp→Prop,(∀σ' H',N σ' H'→∃m',m'<m∧W (i+1) m' σ' H')∧∀x H',J.yld i H x H'→g x σ H' fun σ2 H2=>tb { D with nx:=N,ct:=N,bk:=D.nx } σ2 H2)
def a0o(fp:List Addr)(h:Heap):List (Addr×Obj):=fp.filterMap fun b=>(h.get? b).map fun o=>(b,o)
theorem a7b{fp:List Addr}{h:Heap}{b:Addr}{o:Obj}(hb:b∈fp)(e:h.get? b=some o):(b,o)∈a0o fp h:=aP5.mpr ⟨b,hb,by rw[e];rfl⟩
theorem b3g{fp:List Addr}{h:Heap}{p:Addr×Obj}(hp:p∈a0o fp h):p.1∈fp∧h.get? p.1=some p.2:=by
 obtain⟨b,hb,e⟩:=aP5.mp hp
 cases q:h.get? b with
 | none=>rw[q]at e;cases e
 | some o=>
  rw[q]at e
  have e':(b,o)=p:=aC0 e
  subst e'
  exact⟨hb,q⟩
theorem Inv.pinned{pins:List (Addr×Obj)}{σ:St}{H:Hp}{s:Shared}{fp:List Addr}(I:Inv X pins σ H s)(hf:∀b∈fp,a5a X pins H b)(ho:∀b∈fp,∃o,s.heap.get? b=some o∧∀v,o.data≠.cell v):Inv X (pins++a0o fp s.heap) σ H s:=
 I.pins_of fun p hp=>(aA9.mp hp).elim (fun z=>I.pin p (aE2 _ z)) fun z=>by
  obtain⟨hb,e⟩:=b3g z
  obtain⟨f0,f1,f2,_⟩:=hf p.1 hb
  obtain⟨o,e',d⟩:=ho p.1 hb
  rw[e]at e';cases e'
  exact⟨e,f0,f1,f2,d⟩
theorem Inv.unpinned{pins pl:List (Addr×Obj)}{σ:St}{H:Hp}{s:Shared}(I:Inv X (pins++pl) σ H s):Inv X pins σ H s:=I.pins_of fun p hp=>I.pin p (aE2 _ (aE3 _ hp))
theorem y6{iter:Expr}{body:List Stmt}{wi:TI}{g:TG}{tb:TS}{pos:Pos}(hp:PassesOwn (model X.prog X.w) X.A X.env X.xe)(hc:X.calm=true)(hi:PI X tg iter wi)(hg:PG X tg g)(hb:PSs X body tb)
  (hs:∀x,foldedSetIterable iter X.env x=pure x:=by intro _;rfl):PS X (.For tg iter body [] pos) (b3H wi g tb):=by
 intro pins s σ H D I h
 refine wpAny_For (n5 (hi pins s σ H _ I h) fun v s1 h1=>n5 h1 fun itv s2 h2=>?_) hs
 obtain⟨it,fp,tn,J,H2,e,I2,T,st2,f2,W,⟨m0,w0⟩,turn⟩:=h2
 subst e
 have stat:∀{H':Hp},(∀b∈fp,H' b=none)→∀b∈fp,a5a X pins H' b:=fun hn b hb=>⟨hn b hb,(f2 b hb).2⟩
 refine codeAny_forLoop_any (fun n s'=>∃i σ' H',Inv X pins σ' H' s'∧tn i s'.heap∧(∀b∈fp,H' b=none)∧W i n σ' H') ?_ m0 ⟨0,σ,H2,I2,st2,fun b hb=>(f2 b hb).1,w0⟩
 rintro n s3 ⟨i,σ3,H3,I3,st3,fr3,w3⟩
 rcases turn i n σ3 H3 w3 with ⟨stop,qn⟩ | ⟨go,N,hN,step⟩
 ·refine aM6 hp (n5 (T.done X rfl rfl rfl hc i pins s3 σ3 H3 X.xe I3 (stat fr3) st3 stop) fun r s4 ⟨hr,I4⟩=>?_)
  subst hr
  exact aT4 ⟨σ3,H3,I4,qn⟩
 ·refine aM6 hp (n5 (T.item X rfl rfl rfl hc i pins s3 σ3 H3 X.xe I3 (stat fr3) st3 go) fun r s4 ⟨u,hr,h4⟩=>?_)
  subst hr
  refine aM6 hp (n5 h4 fun _ s5 ⟨x,H5,I5,r5,y5,st5,fr5⟩=>?_)
  have I5':=I5.pinned (stat fr5) (T.obj _ _ st5)
  refine aM6 hp (n5 (hg _ s5 σ3 H5 x u _ I5' r5 (step x H5 y5)) fun _ s6 ⟨σ6,H6,I6,q6⟩=>?_)
  refine aM6 hp (n5 (hb _ s6 σ6 H6 _ I6 q6) fun f s7 q7=>?_)
  have again:∀{σ7:St} {H7:Hp},Inv X (pins++a0o fp s5.heap) σ7 H7 s7→N σ7 H7→∃m,m<n∧∃i σ' H',Inv X pins σ' H' s7∧tn i s7.heap∧(∀b∈fp,H' b=none)∧W i m σ' H':=fun {σ7 H7} I7 n7=>by
   obtain⟨m',hm,w7⟩:=hN σ7 H7 n7
   refine⟨m',hm,i+1,σ7,H7,I7.unpinned,T.keep _ _ _ st5 fun b hb o e=>(I7.pin (b,o) (aE2 _ (aE2 _ (a7b hb e)))).1,fun b hb=>?_,w7⟩
   obtain⟨o,e,d⟩:=T.obj _ _ st5 b hb
   exact(I7.pin (b,o) (aE2 _ (aE2 _ (a7b hb e)))).2.1
  cases f with
  | next=>obtain⟨σ7,H7,I7,n7⟩:=q7;exact again I7 n7
  | cont=>obtain⟨σ7,H7,I7,n7⟩:=q7;exact again I7 n7
  | brk=>obtain⟨σ7,H7,I7,q7⟩:=q7;exact⟨σ7,H7,I7.unpinned,q7⟩
  | ret v=>obtain⟨x7,σ7,H7,I7,r7,q7⟩:=q7;exact⟨x7,σ7,H7,I7.unpinned,r7,q7⟩
end
theorem A7{K:PySem.W.Frag}{a:Addr}{xs:List V}{g:TG}{tb:TS}{D:Ends}{σ:St}{H:Hp}(Pv:Nat→St→Hp→Prop)(h0:Pv 0 σ H)(hl:∀i σ H,i≤xs.length→Pv i σ H→d8 K H a xs)
  (hs:∀i x σ H,xs[i]?=some x→Pv i σ H→g x σ H fun σ2 H2=>tb { D with nx:=Pv (i+1),ct:=Pv (i+1),bk:=D.nx } σ2 H2) (hd:∀σ H,Pv xs.length σ H→D.nx σ H) :
  ∃W:Nat→Nat→St→Hp→Prop,(∃m,W 0 m σ H)∧∀i m σ H,W i m σ H →
   ((Itl K a).stop i H∧D.nx σ H)∨((Itl K a).go i H∧∃N:St→Hp→Prop,(∀σ' H',N σ' H'→∃m',m'<m∧W (i+1) m' σ' H')∧∀x H',(Itl K a).yld i H x H'→g x σ H' fun σ2 H2=>tb { D with nx:=N,ct:=N,bk:=D.nx } σ2 H2):=by
 refine⟨fun i m σ H=>m=xs.length-i∧i≤xs.length∧Pv i σ H,⟨xs.length,by simp,aG3 _,h0⟩,?_⟩
 rintro i m σ H ⟨rfl,hi,p⟩
 have q:=hl i σ H hi p
 by_cases hlt:i<xs.length
 ·refine .inr ⟨⟨xs,xs[i],q,by simp[hlt]⟩,Pv (i+1),fun σ' H' p'=>⟨xs.length-(i+1),by omega,rfl,hlt,p'⟩,fun x H' y=>?_⟩
  obtain⟨e,y⟩:=y
  subst e
  exact hs i x σ _ (y xs q) p
 ·have e:i=xs.length:=by omega
  subst e
  exact .inl ⟨⟨xs,q,aB3 _⟩,hd σ H p⟩
theorem N4{lo:Int}{n:Nat}{g:TG}{tb:TS}{D:Ends}{σ:St}{H:Hp}(Pv:Nat→St→Hp→Prop)(h0:Pv 0 σ H)
  (hs:∀i σ H,i<n→Pv i σ H→g (.int (lo+i)) σ H fun σ2 H2=>tb { D with nx:=Pv (i+1),ct:=Pv (i+1),bk:=D.nx } σ2 H2) (hd:∀σ H,Pv n σ H→D.nx σ H) :
  ∃W:Nat→Nat→St→Hp→Prop,(∃m,W 0 m σ H)∧∀i m σ H,W i m σ H →
   ((Itr lo n).stop i H∧D.nx σ H)∨((Itr lo n).go i H∧∃N:St→Hp→Prop,(∀σ' H',N σ' H'→∃m',m'<m∧W (i+1) m' σ' H')∧∀x H',(Itr lo n).yld i H x H'→g x σ H' fun σ2 H2=>tb { D with nx:=N,ct:=N,bk:=D.nx } σ2 H2):=by
 refine⟨fun i m σ H=>m=n-i∧i≤n∧Pv i σ H,⟨n,by simp,aG3 _,h0⟩,?_⟩
 rintro i m σ H ⟨rfl,hi,p⟩
 by_cases hlt:i<n
 ·refine .inr ⟨hlt,Pv (i+1),fun σ' H' p'=>⟨n-(i+1),by omega,rfl,hlt,p'⟩,fun x H' y=>?_⟩
  obtain⟨e,y⟩:=y
  subst e y
  exact hs i σ _ hlt p
 ·have e:i=n:=by omega
  subst e
  exact .inl ⟨aB3 _,hd σ H p⟩
open PySem PySem.Spec PyProof.Rows
abbrev R2:=V→V→Hp→VK→Prop
def G7(X:Cx)(f:Value→Value→Sem Value)(r:R2):Prop:=
 ∀(pins:List (Addr×Obj)) (s:Shared) (σ:St) (H:Hp) (x y:V) (v u:Value) (Q:VK),Inv X pins σ H s→RelV x v→RelV y u→r x y H Q →
  wpAny (model X.prog X.w) X.A (f v u) (EP X pins σ Q) X.xe s
def UnR(X:Cx)(f:Value→Sem Value)(r:V→Hp→VK→Prop):Prop:=
 ∀(pins:List (Addr×Obj)) (s:Shared) (σ:St) (H:Hp) (x:V) (v:Value) (Q:VK),Inv X pins σ H s→RelV x v→r x H Q →
  wpAny (model X.prog X.w) X.A (f v) (EP X pins σ Q) X.xe s
def N5(X:Cx)(f:Value)(r:List V→Hp→VK→Prop):Prop:=
 ∀(pins:List (Addr×Obj)) (s:Shared) (σ:St) (H:Hp) (xs:List V) (us:List Value) (Q:VK),Inv X pins σ H s→j6 xs us→r xs H Q →
  wpAny (model X.prog X.w) X.A (call f us) (EP X pins σ Q) X.xe s
def tOp(r:R2)(ta tb:TE):TE:=fun σ H Q=>ta σ H fun x H1=>tb σ H1 fun y H2=>r x y H2 Q
def tUn(r:V→Hp→VK→Prop)(ta:TE):TE:=fun σ H Q=>ta σ H fun x H1=>r x H1 Q
inductive b4I(C:Int→Int→Prop)(g:Int→Int→V)(x y:V)(H:Hp)(Q:VK):Prop
 | mk (i j:Int) (e1:x=.int i) (e2:y=.int j) (c:C i j) (q:Q (g i j) H)
inductive IIn(g:Int→Int→V)(x y:V)(H:Hp)(Q:VK):Prop
 | mk (i j:Int) (e1:x=.int i) (e2:y=.int j) (q:Q (g i j) H)
def rI(C:Int→Int→Prop)(g:Int→Int→V):R2:=b4I C g
def rI0(g:Int→Int→V):R2:=IIn g
def rU(g:Int→V):V→Hp→VK→Prop:=fun x H Q=>∃i,x=.int i∧Q (g i) H
section
variable{X:Cx}{a b c:Expr}{ta tb tc:TE}{pos:Pos}
theorem b4q(ha:PE X a ta)(hb:PE X b tb){pins:List (Addr×Obj)}{s:Shared}{σ:St}{H:Hp}{R:V→V→Hp→Prop}(I:Inv X pins σ H s)
  (h:ta σ H fun x H1=>tb σ H1 fun y H2=>R x y H2) {Q:Value→Shared→Prop} {f:Value→Value→Sem Value}
  (hf:∀v u s2 x y H2,Inv X pins σ H2 s2→RelV x v→RelV y u→R x y H2→wpAny (model X.prog X.w) X.A (f v u) Q X.xe s2) :
  wpAny (model X.prog X.w) X.A (eval a X.env) (fun v s₁=>wpAny (model X.prog X.w) X.A (eval b X.env) (fun u s₂=>wpAny (model X.prog X.w) X.A (f v u) Q X.xe s₂) X.xe s₁) X.xe s:=by
 refine n5 (ha pins s σ H _ I h) fun v s1 ⟨x,H1,I1,r1,q1⟩=>?_
 refine n5 (hb pins s1 σ H1 _ I1 q1) fun u s2 ⟨y,H2,I2,r2,q2⟩=>?_
 exact hf v u s2 x y H2 I2 r1 r2 q2
theorem j5{op:Operator}{r:R2}(ho:G7 X (binaryOp op) r)(ha:PE X a ta)(hb:PE X b tb):PE X (.BinOp a op b pos) (tOp r ta tb):=by
 intro pins s σ H Q I h
 exact wpAny_BinOp (b4q ha hb I h fun v u s2 x y H2 I2 rx ry q=>ho pins s2 σ H2 x y v u Q I2 rx ry q)
theorem b2a{op:UnaryOp}{r:V→Hp→VK→Prop}(ho:UnR X (unaryOp op) r)(ha:PE X a ta):PE X (.UnaryOp op a pos) (tUn r ta):=by
 intro pins s σ H Q I h
 exact UnaryOp_ (n5 (ha pins s σ H _ I h) fun v s1 ⟨x,H1,I1,r1,q1⟩=>ho pins s1 σ H1 x v Q I1 r1 q1)
theorem opI{f:Value→Value→Sem Value}{C:Int→Int→Prop}{g:Int→Int→Int}
  (rule:∀(i j:Int) (t u:Tok) (s:Shared) (Q:Value→Shared→Prop) (E:Value→Shared→Prop),C i j→Q (.int (g i j) s.toks) { s with toks:=s.toks+1 }→wpAny (model X.prog X.w) X.A (f (.int i t) (.int j u)) Q E s) :
  G7 X f (rI C fun i j=>.int (g i j)):=by
 intro pins s σ H x y v u Q I rx ry h
 obtain⟨i,j,rfl,rfl,hc,q⟩:=h
 obtain⟨t,rfl⟩:=rx
 obtain⟨t',rfl⟩:=ry
 exact rule i j t t' s _ _ hc ⟨.int (g i j),H,I.tok _,⟨_,rfl⟩,q⟩
theorem b9y{f:Value→Value→Sem Value}{g:Int→Int→Int}
  (rule:∀(i j:Int) (t u:Tok) (s:Shared) (Q:Value→Shared→Prop) (E:Value→Shared→Prop),Q (.int (g i j) s.toks) { s with toks:=s.toks+1 }→wpAny (model X.prog X.w) X.A (f (.int i t) (.int j u)) Q E s) :
  G7 X f (rI0 fun i j=>.int (g i j)):=by
 intro pins s σ H x y v u Q I rx ry h
 obtain⟨i,j,rfl,rfl,q⟩:=h
 obtain⟨t,rfl⟩:=rx
 obtain⟨t',rfl⟩:=ry
 exact rule i j t t' s _ _ ⟨.int (g i j),H,I.tok _,⟨_,rfl⟩,q⟩
theorem b6a{f:Value→Value→Sem Value}{g:Int→Int→Bool}
  (rule:∀(i j:Int) (t u:Tok) (s:Shared) (Q:Value→Shared→Prop) (E:Value→Shared→Prop),Q (.bool (g i j)) s→wpAny (model X.prog X.w) X.A (f (.int i t) (.int j u)) Q E s) :
  G7 X f (rI0 fun i j=>.bl (g i j)):=by
 intro pins s σ H x y v u Q I rx ry h
 obtain⟨i,j,rfl,rfl,q⟩:=h
 obtain⟨t,rfl⟩:=rx
 obtain⟨t',rfl⟩:=ry
 exact rule i j t t' s _ _ ⟨.bl (g i j),H,I,rfl,q⟩
def b1G(i j:Int):Prop:=0<j∧j<1073741824
def b8G(i j:Int):Prop:=0≤j∧j≤1000000∧i.natAbs<2 ^ 64
def b1r(i j:Int):Prop:=(-(2 ^ 64)<i∧i<2 ^ 64)∨(-(2 ^ 64)<j∧j<2 ^ 64)
theorem b1r.ok{i j:Int}(h:b1r i j):IntMulOk i j:=by
 rcases h with ⟨h1,h2⟩ | ⟨h1,h2⟩
 ·exact .of_left (intBits_le_64 h1 h2)
 ·exact .of_right (intBits_le_64 h1 h2)
theorem K1:G7 X (binaryOp .Add) (rI0 fun i j=>.int (i+j)):=b9y fun _ _ _ _ _ _ _ q=>add_int q
theorem Q8:G7 X (binaryOp .Sub) (rI0 fun i j=>.int (i-j)):=b9y fun _ _ _ _ _ _ _ q=>sub_int q
theorem b4h:G7 X (binaryOp .Mult) (rI b1r fun i j=>.int (i*j)):=opI fun _ _ _ _ _ _ _ hc q=>mul_int q hc.ok
theorem a4c:G7 X (binaryOp .FloorDiv) (rI b1G fun i j=>.int (i/j)):=opI fun i j _ _ _ _ _ hc q=>by
 have h1:(0:Int)<j:=hc.1
 have h2:j<1073741824:=hc.2
 exact floordiv_int (by omega) (by rw[Int.fdiv_eq_ediv_of_nonneg i (by omega)];exact q) (.inl (PyProof.noPylong_small (by omega)))
theorem G6:G7 X (binaryOp .Mod) (rI (fun _ j=>0<j) fun i j=>.int (i % j)):=opI fun i j _ _ _ _ _ hc q=>by
 have h1:(0:Int)<j:=hc
 exact mod_int' (by omega) (by rw[Int.fmod_eq_emod_of_nonneg i (by omega)];exact q)
theorem a0h:G7 X (binaryOp .Pow) (rI b8G fun i j=>.int (i ^ j.toNat)):=opI fun _ _ _ _ _ _ _ hc q=>pow_int_small hc.1 hc.2.1 hc.2.2 q
theorem unI{f:Value→Sem Value}{g:Int→Int}
  (rule:∀(i:Int) (t:Tok) (s:Shared) (Q:Value→Shared→Prop) (E:Value→Shared→Prop),Q (.int (g i) s.toks) { s with toks:=s.toks+1 }→wpAny (model X.prog X.w) X.A (f (.int i t)) Q E s) :
  UnR X f (rU fun i=>.int (g i)):=by
 intro pins s σ H x v Q I rx h
 obtain⟨i,rfl,q⟩:=h
 obtain⟨t,rfl⟩:=rx
 exact rule i t s _ _ ⟨.int (g i),H,I.tok _,⟨_,rfl⟩,q⟩
theorem a7R:UnR X (unaryOp .USub) (rU fun i=>.int (-i)):=unI fun _ _ _ _ _ q=>neg_int q
end
def b7y:V→V→Bool
 | .non,.non=>true | .non,.int _=>true | .int _,.non=>true | .non,.bl _=>true | .bl _,.non=>true | .non,.str _=>true | .str _,.non=>true
 | .int _,.int _=>true | .bl _,.bl _=>true | .str _,.str _=>true | .byt _,.byt _=>true
 | .int _,.str _=>true | .str _,.int _=>true | .bl _,.str _=>true | .str _,.bl _=>true
 | _,_=>false
def rEq:R2:=fun x y H Q=>b7y x y=true∧Q (.bl (decide (x=y))) H
def rNe:R2:=fun x y H Q=>b7y x y=true∧Q (.bl (!decide (x=y))) H
theorem a3X{i j:Int}:decide (V.int i=V.int j)=(i==j):=by
 rw[aR8]
 simp
theorem b8g{i j:Bool}:decide (V.bl i=V.bl j)=(i==j):=by
 rw[aR8]
 simp
theorem a2Y{i j:Str}:decide (V.str i=V.str j)=(i==j):=by
 rw[aR8]
 simp
theorem a0Y{i j:Array UInt8}:decide (V.byt i=V.byt j)=(i.toList==j.toList):=by
 rw[aR8]
 cases i
 cases j
 simp
section
variable{X:Cx}{a b c:Expr}{ta tb tc:TE}{pos:Pos}
theorem r8{pins:List (Addr×Obj)}{σ:St}{H:Hp}{s:Shared}{Q:VK}{k k':Bool}(I:Inv X pins σ H s)(q:Q (.bl k) H)(e:k=k'):EP X pins σ Q (.bool k') s:=by
 subst e
 exact⟨.bl k,H,I,rfl,q⟩
theorem A9:G7 X (compareOp .Eq) rEq:=by
 intro pins s σ H x y v u Q I rx ry h
 obtain⟨hs,q⟩:=h
 cases x with
 | non=>
  cases rx
  cases y with
  | non=>cases ry;exact PySem.EqNone.eq_none_none (r8 I q (by simp))
  | bl j=>cases ry;exact PySem.EqNone.eq_none_bool (r8 I q (by simp))
  | int j=>obtain⟨t',rfl⟩:=ry;exact PySem.EqNone.eq_none_int (r8 I q (by simp))
  | str j=>obtain⟨t',rfl⟩:=ry;exact PySem.EqNone.eq_none_str (r8 I q (by simp))
  | _=>exact absurd (show false=true from hs) aC9
 | bl i=>
  cases rx
  cases y with
  | non=>cases ry;exact PySem.EqNone.eq_bool_none (r8 I q (by simp))
  | bl j=>cases ry;exact eq_bool (r8 I q b8g)
  | str j=>obtain⟨t',rfl⟩:=ry;exact PySem.EqMixed.eq_bool_str (r8 I q (by simp))
  | _=>exact absurd (show false=true from hs) aC9
 | int i=>
  obtain⟨t,rfl⟩:=rx
  cases y with
  | non=>cases ry;exact PySem.EqNone.eq_int_none (r8 I q (by simp))
  | int j=>obtain⟨t',rfl⟩:=ry;exact eq_int (r8 I q a3X)
  | str j=>obtain⟨t',rfl⟩:=ry;exact PySem.EqMixed.eq_int_str (r8 I q (by simp))
  | _=>exact absurd (show false=true from hs) aC9
 | str i=>
  obtain⟨t,rfl⟩:=rx
  cases y with
  | non=>cases ry;exact PySem.EqNone.eq_str_none (r8 I q (by simp))
  | bl j=>cases ry;exact PySem.EqMixed.eq_str_bool (r8 I q (by simp))
  | int j=>obtain⟨t',rfl⟩:=ry;exact PySem.EqMixed.eq_str_int (r8 I q (by simp))
  | str j=>obtain⟨t',rfl⟩:=ry;exact eq_str (r8 I q a2Y)
  | _=>exact absurd (show false=true from hs) aC9
 | byt i=>
  obtain⟨t,rfl⟩:=rx
  cases y with
  | byt j=>obtain⟨t',rfl⟩:=ry;exact PySem.W.eq_bytes (r8 I q a0Y)
  | _=>exact absurd (show false=true from hs) aC9
 | _=>cases y<;>exact absurd (show false=true from hs) aC9
theorem N3:G7 X (compareOp .NotEq) rNe:=by
 intro pins s σ H x y v u Q I rx ry h
 obtain⟨hs,q⟩:=h
 cases x with
 | non=>
  cases rx
  cases y with
  | non=>cases ry;exact PySem.EqNone.ne_none_none (r8 I q (by simp))
  | bl j=>cases ry;exact PySem.EqNone.ne_none_bool (r8 I q (by simp))
  | int j=>obtain⟨t',rfl⟩:=ry;exact PySem.EqNone.ne_none_int (r8 I q (by simp))
  | str j=>obtain⟨t',rfl⟩:=ry;exact PySem.EqNone.ne_none_str (r8 I q (by simp))
  | _=>exact absurd (show false=true from hs) aC9
 | bl i=>
  cases rx
  cases y with
  | non=>cases ry;exact PySem.EqNone.ne_bool_none (r8 I q (by simp))
  | bl j=>cases ry;exact ne_bool (r8 I q (congrArg not b8g))
  | str j=>obtain⟨t',rfl⟩:=ry;exact PySem.EqMixed.ne_bool_str (r8 I q (by simp))
  | _=>exact absurd (show false=true from hs) aC9
 | int i=>
  obtain⟨t,rfl⟩:=rx
  cases y with
  | non=>cases ry;exact PySem.EqNone.ne_int_none (r8 I q (by simp))
  | int j=>obtain⟨t',rfl⟩:=ry;exact ne_int (r8 I q (congrArg not a3X))
  | str j=>obtain⟨t',rfl⟩:=ry;exact PySem.EqMixed.ne_int_str (r8 I q (by simp))
  | _=>exact absurd (show false=true from hs) aC9
 | str i=>
  obtain⟨t,rfl⟩:=rx
  cases y with
  | non=>cases ry;exact PySem.EqNone.ne_str_none (r8 I q (by simp))
  | bl j=>cases ry;exact PySem.EqMixed.ne_str_bool (r8 I q (by simp))
  | int j=>obtain⟨t',rfl⟩:=ry;exact PySem.EqMixed.ne_str_int (r8 I q (by simp))
  | str j=>obtain⟨t',rfl⟩:=ry;exact ne_str (r8 I q (congrArg not a2Y))
  | _=>exact absurd (show false=true from hs) aC9
 | byt i=>
  obtain⟨t,rfl⟩:=rx
  cases y with
  | byt j=>obtain⟨t',rfl⟩:=ry;exact PySem.W.ne_bytes (r8 I q (congrArg not a0Y))
  | _=>exact absurd (show false=true from hs) aC9
 | _=>cases y<;>exact absurd (show false=true from hs) aC9
theorem a9b:G7 X (compareOp .Lt) (rI0 fun i j=>.bl (decide (i<j))):=b6a fun _ _ _ _ _ _ _ q=>lt_int q
theorem a4N:G7 X (compareOp .LtE) (rI0 fun i j=>.bl (decide (i≤j))):=b6a fun _ _ _ _ _ _ _ q=>le_int q
theorem a4B:G7 X (compareOp .Gt) (rI0 fun i j=>.bl (decide (j<i))):=b6a fun _ _ _ _ _ _ _ q=>gt_int q
theorem b9t:G7 X (compareOp .GtE) (rI0 fun i j=>.bl (decide (j≤i))):=b6a fun _ _ _ _ _ _ _ q=>ge_int q
theorem b5g:G7 X (compareOp .Is) (fun x y H Q=>y=.non∧Q (.bl (decide (x=.non))) H):=by
 intro pins s σ H x y v u Q I rx ry h
 obtain⟨rfl,q⟩:=h
 cases ry
 refine is_none_gen (r8 I q ?_)
 cases x<;>first
  | (cases rx;rfl)
  | (obtain⟨t,rfl⟩:=rx;rfl)
theorem a5Y:G7 X (compareOp .IsNot) (fun x y H Q=>y=.non∧Q (.bl (!decide (x=.non))) H):=by
 intro pins s σ H x y v u Q I rx ry h
 obtain⟨rfl,q⟩:=h
 cases ry
 refine isnot_none_gen (r8 I q ?_)
 cases x<;>first
  | (cases rx;rfl)
  | (obtain⟨t,rfl⟩:=rx;rfl)
theorem i7(b:Expr){op:CmpOp}(h:op≠.In:=by decide)(h2:op≠.NotIn:=by decide):behindInMarks op b=false:=by
 have e1:(op==CmpOp.In)=false:=by cases op<;>first | rfl | exact absurd rfl h
 have e2:(op==CmpOp.NotIn)=false:=by cases op<;>first | rfl | exact absurd rfl h2
 cases b<;>simp[behindInMarks,e1,e2]
theorem K9{op:CmpOp}{r:R2}(ho:G7 X (compareOp op) r)(ha:PE X a ta)(hb:PE X b tb)(hm:behindInMarks op b=false):PE X (.Compare a [op] [b] pos) (tOp r ta tb):=by
 intro pins s σ H Q I h
 exact wpAny_Compare1 (b4q ha hb I h fun v u s2 x y H2 I2 rx ry q=>ho pins s2 σ H2 x y v u Q I2 rx ry q) hm
def b9C(t:TE):TT:=fun σ H Q=>t σ H fun x H'=>IBl x fun k=>Q k H'
theorem g7{op:CmpOp}{r:R2}(ho:G7 X (compareOp op) r)(ha:PE X a ta)(hb:PE X b tb)(hm:behindInMarks op b=false):PT X (.Compare a [op] [b] pos) (b9C (tOp r ta tb)):=by
 intro pins s σ H Q I h
 refine wpAny_isTrue_Compare1 (n5 (ha pins s σ H _ I h) fun v s1 ⟨x,H1,I1,r1,q1⟩=>n5 (hb pins s1 σ H1 _ I1 q1) fun u s2 ⟨y,H2,I2,r2,q2⟩=>
  n5 (ho pins s2 σ H2 x y v u _ I2 r1 r2 q2) fun c s3 ⟨z,H3,I3,r3,k,e,q3⟩=>?_) hm
 subst e
 cases r3
 exact aN0 ⟨H3,I3,q3⟩
theorem a5A:(sizeLine:Nat)<2 ^ 63:=by rw[aG2];decide
theorem a2j:G7 X (binaryOp .Add) (fun x y H Q=>∃i j,x=.str i∧y=.str j∧i.length+j.length≤sizeLine∧Q (.str (i++j)) H):=by
 intro pins s σ H x y v u Q I rx ry h
 obtain⟨i,j,rfl,rfl,hz,q⟩:=h
 obtain⟨t,rfl⟩:=rx
 obtain⟨t',rfl⟩:=ry
 exact add_str (fun t' tk=>⟨.str (i++j),H,I.tok _,⟨_,rfl⟩,q⟩) hz
theorem vals1{x:V}{us:List Value}(r:j6 [x] us):∃u,us=[u]∧RelV x u:=by
 cases r with
 | cons r1 r2=>cases r2;exact⟨_,rfl,r1⟩
theorem vals2{x y:V}{us:List Value}(r:j6 [x,y] us):∃u w',us=[u,w']∧RelV x u∧RelV y w':=by
 cases r with
 | cons r1 r2=>
  cases r2 with
  | cons r3 r4=>cases r4;exact⟨_,_,rfl,r1,r3⟩
theorem b0j(hc:X.calm=true):N5 X (.builtin "max") (fun xs H Q=>∃i j,xs=[.int i,.int j]∧Q (.int (if j>i then j else i)) H):=by
 intro pins s σ H xs us Q I r h
 obtain⟨i,j,rfl,q⟩:=h
 obtain⟨u,w',rfl,⟨t,rfl⟩,⟨t',rfl⟩⟩:=vals2 r
 refine max_two_ints (I.ok.hd hc) fun h' tk k=>⟨_,H,I.kept k,?_,q⟩
 by_cases hj:j>i
 ·rw[aB4 hj,aB4 hj];exact⟨_,rfl⟩
 ·rw[aA8 hj,aA8 hj];exact⟨_,rfl⟩
theorem a6J:N5 X (.type "int") (fun xs H Q=>(∃i,xs=[.int i]∧Q (.int i) H)∨∃k,xs=[.bl k]∧Q (.int (if k then 1 else 0)) H):=by
 intro pins s σ H xs us Q I r h
 rcases h with ⟨i,rfl,q⟩ | ⟨k,rfl,q⟩
 ·obtain⟨u,rfl,t,rfl⟩:=vals1 r
  exact call_int_int ⟨.int i,H,I,⟨_,rfl⟩,q⟩
 ·obtain⟨u,rfl,r1⟩:=vals1 r
  cases r1
  exact call_int_bool ⟨.int (if k then 1 else 0),H,I.tok _,⟨_,rfl⟩,q⟩
theorem a5Q:N5 X (.type "str") (fun xs H Q=>∃i,xs=[.int i]∧i.natAbs.log2<1920∧Q (.str (toString i)) H):=by
 intro pins s σ H xs us Q I r h
 obtain⟨i,rfl,hz,q⟩:=h
 obtain⟨u,rfl,t,rfl⟩:=vals1 r
 exact PySem.P.str_of_int hz ⟨.str _,H,I.tok _,⟨_,rfl⟩,q⟩
end
open PySem PySem.Spec PyProof.Rows
structure a1z(h:Heap)(x dx C:Addr)(mA:Str→Option Value):Prop where
 obj:h.get? x=some (PySem.W.instObj C dx)
 ns:h.Ns1 dx mA
 ne:dx≠x
theorem b3l{h:Heap}{dx:Addr}{mA:Str→Option Value}(n:h.Ns1 dx mA):∃od,h.get? dx=some od∧∀name,PySem.W.lookIn name od=some (mA name):=by
 obtain⟨o,es,ep,ho,hd,hk,_,hm⟩:=n
 refine⟨o,ho,fun name=>?_⟩
 have e:=hm name
 unfold nsFind findBy at e
 rw[←Array.find?_toList]at e
 unfold PySem.W.lookIn
 rw[hd]
 dsimp only
 split
 ·rename_i y q
  rw[q]at e
  exact congrArg some e
 ·rename_i q
  rw[q]at e
  have a:es.toList.any (·.refKey)=false:=by
   rw[List.any_eq_false]
   intro y hy
   obtain⟨z,t,hkey⟩:=hk y (Array.mem_toList_iff.mp hy)
   simp[DictEntry.refKey,hkey]
  have a':¬es.toList.any (·.refKey)=true:=by rw[a];exact aC9
  rw[aA8 a']
  exact congrArg some e
theorem a1z.look{h:Heap}{x dx C:Addr}{mA:Str→Option Value}(I:a1z h x dx C mA):∃od,PySem.W.InstAt h x (PySem.W.instObj C dx) C (some od)∧∀name,PySem.W.lookIn name od=some (mA name):=
 let ⟨od,ho,hl⟩:=b3l I.ns
 ⟨od,⟨I.obj,rfl,rfl,ho⟩,hl⟩
section
variable{prog:Program}{w:World}{A:Around}{E:Value→Shared→Prop}{s:Shared}{K:PySem.W.Frag}{x dx C f:Addr}{mA:Str→Option Value}{name:Str}{v:Value}
theorem get_map{expr:Bool}{Q:Value→Shared→Prop}(X:K.In s.heap)(I:a1z s.heap x dx C mA)(hg:PySem.W.plainGet K C name=true)(hh:PySem.W.hasDictIn K C=true)
  (ha:PySem.W.findIn K (.ref C) name=some none) (hv:mA name=some v) (hv':PySem.W.handedIn v=true) (h:Q v { s with toks:=s.toks+1 }) :
  wpAny (model prog w) A (getAttr (.ref x) name expr) Q E s:=by
 obtain⟨od,J,hl⟩:=I.look
 exact PySem.W.get_value X J (aS6 hg).1 (PySem.W.findObj_own hh ha rfl (by rw[hl,hv])) hv' h
theorem b0r{pl:Sem Bool}{Q:Value×List Value→Shared→Prop}(X:K.In s.heap)(I:a1z s.heap x dx C mA)(hg:PySem.W.plainGet K C name=true)
  (hf:PySem.W.findIn K (.ref C) name=some (some (.ref f))) (ht:PySem.W.isFn K (.ref f)=true) (hv:mA name=none) (h:Q (.ref f,[.ref x]) s) :
  wpAny (model prog w) A (getMethod (.ref x) name pl) Q E s:=by
 obtain⟨od,J,hl⟩:=I.look
 exact PySem.W.method_fn X J (aS6 hg).1 (aS6 hg).2 hf (aP7.mp ht) (by show(PySem.W.lookIn name od).map (·.isSome)=some false;rw[hl,hv];rfl) h
theorem b5w{ns:List Str}{Q:Unit→Shared→Prop}(X:K.In s.heap)(I:a1z s.heap x dx C mA)
  (hs:PySem.W.findIn K (.ref C) "__setattr__"=some (some (.builtin "object.__setattr__"))) (hp:PySem.W.plainOver K C=true) (ht:PySem.W.takerIn K C name=some none) (hh:PySem.W.hasDictIn K C=true)
  (hw:PySem.Within mA ns) (hsz:ns.length≤sizeLine)
  (h:∀h',a1z h' x dx C (fun y=>if y=name then some v else mA y)→Heap.SameBut dx s.heap h'→Q () { s with heap:=h',toks:=s.toks+2 }) :
  wpAny (model prog w) A (setAttr (.ref x) name v) Q E s:=by
 obtain⟨od,J,hl⟩:=I.look
 refine PySem.W.set_plain X J hs (PySem.W.osa_open (s:={ s with toks:=s.toks+1 }) (r:=none) X J hp ht fun b=>?_)
 obtain⟨cd,hc,hd'⟩:=PySem.W.any_some hh
 have hx:s.heap.get? x=some ⟨.ref C,some dx,.plain,#[]⟩:=I.obj
 refine aA1 (aA6 (aA1 (aA1 (wpAny_loadPart hx (aA1 (PySem.W.Looks.here (s:={ s with toks:=s.toks+1 }) (PySem.W.looks_clsIn X hc) ?_))))))
 rw[hd']
 refine aA6 (a:=some dx) (aA1 (aA6 (aA1 ?_)))
 refine wpAny_nsSet1 (s:={ s with toks:=s.toks+1 }) I.ns fun h' hn2 hs2=>?_
 obtain⟨oD,esD,epD,hoD,hdD,hcD⟩:=hn2.count (PySem.Within.cons name v hw)
 refine aA1 (wpAny_lookBehind hoD (by rw[hdD];exact pastItsLine_dict (aD7 hcD (by rw[aE4];omega))) ?_)
 exact aA6 (h _ ⟨(hs2.2 _ (Ne.symm I.ne)).trans I.obj,hn2,I.ne⟩ hs2)
theorem b3o{R:Result→Shared→Prop}{vs:List Value}{kw:List (Str×Value)}(X:K.In s.heap)(hm:PySem.W.makesIn K C=true)
  (hi:PySem.W.findIn K (.ref C) "__init__"=some (some (.ref f))) (hf:PySem.W.typeIn K (.ref f)=some (.type "function"))
  (h:codeAny (model prog w) (A.under (.builtin "type.__call__" ⟨.ref C::vs,kw⟩)) (.call (.ref f) ⟨.ref (s.heap.objs.size+1)::vs,kw⟩) (PySem.W.InitBack (s.heap.objs.size+1) R)
   { s with heap:=(s.heap.push PySem.W.emptyDict).push (PySem.W.instObj C s.heap.objs.size) }) :
  codeAny (model prog w) A (.call (.ref C) ⟨vs,kw⟩) R s:=by
 obtain⟨hh,g,d,t,os⟩:=s
 exact PySem.W.make_core (PySem.W.makes_of X hm) (PySem.W.looks_findIn X hi) (fun self=>PySem.W.bind_fn X self hf) (.inl rfl) h
end
def O5(f:Str)(v:V):List (Str×V)→List (Str×V)
 | []=>[(f,v)]
 | (g,x)::r=>if g=f then(g,v)::r else(g,x)::O5 f v r
theorem a9t(f g:Str)(v:V):∀fs:List (Str×V),(O5 f v fs).lookup g=if g=f then some v else fs.lookup g
 | []=>by
  show List.lookup g [(f,v)]=_
  by_cases h:g=f
  ·have hb:(g==f)=true:=aP7.mpr h
   simp only[List.lookup,hb,aB4 h]
  ·have hb:(g==f)=false:=aG7.mpr h
   simp only[List.lookup,hb,aA8 h]
 | (k,x)::r=>by
  have ih:=a9t f g v r
  rw[show O5 f v ((k,x)::r)=(if k=f then(k,v)::r else(k,x)::O5 f v r) from rfl]
  by_cases hk:k=f
  ·rw[aB4 hk]
   by_cases h:g=k
   ·have hb:(g==k)=true:=aP7.mpr h
    simp only[List.lookup,hb,aB4 (h.trans hk)]
   ·have hb:(g==k)=false:=aG7.mpr h
    simp only[List.lookup,hb,aA8 (fun e:g=f=>h (e.trans hk.symm))]
  ·rw[aA8 hk]
   by_cases h:g=k
   ·have hb:(g==k)=true:=aP7.mpr h
    simp only[List.lookup,hb,aA8 (fun e:g=f=>hk (h.symm.trans e))]
   ·have hb:(g==k)=false:=aG7.mpr h
    simp only[List.lookup,hb]
    exact ih
theorem a9n(f:Str)(v:V):∀fs:List (Str×V),f∈(O5 f v fs).map (·.1)∧∀g,g∈fs.map (·.1)→g∈(O5 f v fs).map (·.1)
 | []=>⟨by simp[O5],fun g h=>by simp at h⟩
 | (k,x)::r=>by
  obtain⟨i1,i2⟩:=a9n f v r
  rw[show O5 f v ((k,x)::r)=(if k=f then(k,v)::r else(k,x)::O5 f v r) from rfl]
  by_cases hk:k=f
  ·rw[aB4 hk]
   subst hk
   exact⟨by simp,fun g h=>by simpa using h⟩
  ·rw[aA8 hk]
   refine⟨?_,fun g h=>?_⟩
   ·rw[aC3]
    exact aC1 _ i1
   ·rw[aC3]at h ⊢
    rcases aB7.mp h with e | e
    ·exact aB7.mpr (.inl e)
    ·exact aC1 _ (i2 g e)
theorem a9u(f:Str)(v:V):∀fs:List (Str×V),(O5 f v fs).length≤fs.length+1
 | []=>by simp[O5]
 | (k,x)::r=>by
  have ih:=a9u f v r
  rw[show O5 f v ((k,x)::r)=(if k=f then(k,v)::r else(k,x)::O5 f v r) from rfl]
  by_cases hk:k=f
  ·rw[aB4 hk,aE4,aE4];omega
  ·rw[aA8 hk,aE4,aE4];omega
theorem P4.some_of{v:V}{o:Option Value}(r:P4 (some v) o):∃u,o=some u∧RelV v u:=by
 cases o with
 | none=>exact(show False from r).elim
 | some u=>exact⟨u,rfl,r⟩
theorem P4.none_of{o:Option Value}(r:P4 none o):o=none:=by
 cases o with
 | none=>rfl
 | some u=>exact(show False from r).elim
theorem b4g{v:V}{u:Value}(r:RelV v u):PySem.W.handedIn u=true:=by
 cases v with
 | non=>cases (show u=Value.none from r);rfl
 | bl b=>cases (show u=Value.bool b from r);rfl
 | int i=>obtain⟨t,e⟩:=(show ∃t,u=Value.int i t from r);cases e;rfl
 | str x=>obtain⟨t,e⟩:=(show ∃t,u=Value.str x t from r);cases e;rfl
 | byt b=>obtain⟨t,e⟩:=(show ∃t,u=Value.bytes b t from r);cases e;rfl
 | flt b=>obtain⟨t,e⟩:=(show ∃t,u=Value.float b t from r);cases e;rfl
 | ref a=>cases (show u=Value.ref a from r);rfl
 | ty n=>cases (show u=Value.type n from r);rfl
section
variable{P:Program}{w:World}{H H':Hp}{h h':Heap}{a C dx:Addr}{fs fs':List (Str×V)}
theorem a2G(hok:M5 P w H h)(e:H a=some (.ins C dx fs)):∃mA,a1z h a dx C mA∧(∀f,P4 (fs.lookup f) (mA f))∧PySem.Within mA (fs.map (·.1))∧fs.length≤1000∧H dx=some (.own a):=by
 obtain⟨d,z,ne,ob,mA,n,r,q⟩:=(show C0 P w H h a (.ins C dx fs) from hok a _ e)
 exact⟨mA,⟨ob,n,ne⟩,r,q,z,d⟩
end
structure Cls(K:PySem.W.Frag)(C:Addr):Prop where
 pg:PySem.W.plainGet K C Str.empty=true
 hd:PySem.W.hasDictIn K C=true
 po:PySem.W.plainOver K C=true
 sa:PySem.W.findIn K (.ref C) "__setattr__"=some (some (.builtin "object.__setattr__"))
theorem Cls.get{K:PySem.W.Frag}{C:Addr}(c:Cls K C)(f:Str):PySem.W.plainGet K C f=true:=c.pg
def A0(K:PySem.W.Frag)(C:Addr)(f:Str):Prop:=PySem.W.findIn K (.ref C) f=some none
theorem A0.taker{K:PySem.W.Frag}{C:Addr}{f:Str}(n:A0 K C f):PySem.W.takerIn K C f=some none:=by
 unfold PySem.W.takerIn
 rw[show PySem.W.findIn K (.ref C) f=some none from n]
 rfl
structure W1(K:PySem.W.Frag)(C:Addr)(m:Str)(f:Addr):Prop where
 at_:PySem.W.findIn K (.ref C) m=some (some (.ref f))
 fn:PySem.W.isFn K (.ref f)=true
 kp:PySem.W.keepIn K (.ref f)=true
section
variable{X:Cx}{pins:List (Addr×Obj)}{σ:St}{H:Hp}{s:Shared}{a C dx:Addr}{fs:List (Str×V)}{f:Str}{v:V}{A:Around}{E:Value→Shared→Prop}
theorem b7d{b:Bool}{Q:Value→Shared→Prop}(I:Inv X pins σ H s)(e:H a=some (.ins C dx fs))(c:Cls X.K C)(n:A0 X.K C f)(l:fs.lookup f=some v)
  (h:∀u s',Inv X pins σ H s'→RelV v u→Q u s'):wpAny (model X.prog X.w) A (getAttr (.ref a) f b) Q E s:=by
 obtain⟨mA,O,r,_,_,_⟩:=a2G I.hok e
 obtain⟨u,hu,ru⟩:=P4.some_of (v:=v) (o:=mA f) (by rw[←l];exact r f)
 exact get_map I.kIn O (c.get f) c.hd n hu (b4g ru) (h u _ (I.tok _) ru)
theorem a6k{m:Str}{g:Addr}{pl:Sem Bool}{Q:Value×List Value→Shared→Prop}(I:Inv X pins σ H s)(e:H a=some (.ins C dx fs))(c:Cls X.K C)(k:W1 X.K C m g)(l:fs.lookup m=none)
  (h:Q (.ref g,[.ref a]) s):wpAny (model X.prog X.w) A (getMethod (.ref a) m pl) Q E s:=by
 obtain⟨mA,O,r,_,_,_⟩:=a2G I.hok e
 have hn:mA m=none:=P4.none_of (by rw[←l];exact r m)
 exact b0r I.kIn O (c.get m) k.at_ k.fn hn h
theorem b9a{y:V}{u:Value}{Q:Unit→Shared→Prop}(I:Inv X pins σ H s)(e:H a=some (.ins C dx fs))(c:Cls X.K C)(n:A0 X.K C f)(hl:fs.length<1000)(ry:RelV y u)
  (h:∀s',Inv X pins σ (upd H a (.ins C dx (O5 f y fs))) s'→Q () s'):wpAny (model X.prog X.w) A (setAttr (.ref a) f u) Q E s:=by
 obtain⟨mA,O,r,wi,_,ho⟩:=a2G I.hok e
 have hz:(fs.map (·.1)).length≤sizeLine:=by rw[aA0,aG2];omega
 refine b5w I.kIn O c.sa c.po n.taker c.hd wi hz fun h' O' sb=>h _ ?_
 have hd:∃o,h'.get? dx=some o:=let ⟨o,_,_,e',_⟩:=O'.ns;⟨o,e'⟩
 refine I.write (x:=a) (e:=dx) (by rw[e];exact True.intro) (.inr ho) (fun b q hb z=>(sb.2 b hb).trans z) hd ?_
 refine⟨by rw[c9 O.ne];exact ho,?_,O.ne,O'.obj,_,O'.ns,fun g=>?_,fun g hg=>?_⟩
 ·have:=a9u f y fs;omega
 ·show P4 ((O5 f y fs).lookup g) (if g=f then some u else mA g)
  rw[a9t]
  by_cases q:g=f
  ·rw[aB4 q,aB4 q];exact ry
  ·rw[aA8 q,aA8 q];exact r g
 ·by_cases q:g=f
  ·rw[q];exact(a9n f y fs).1
  ·refine(a9n f y fs).2 g (wi g fun z=>hg ?_)
   show(if g=f then some u else mA g)=none
   rw[aA8 q];exact z
theorem Inv.made(I:Inv X pins σ H s):Inv X pins σ (upd (upd H s.heap.objs.size (.own (s.heap.objs.size+1))) (s.heap.objs.size+1) (.ins C s.heap.objs.size []))
  { s with heap:=(s.heap.push PySem.W.emptyDict).push (PySem.W.instObj C s.heap.objs.size) }:=by
 have e1:(s.heap.push PySem.W.emptyDict).get? s.heap.objs.size=some PySem.W.emptyDict:=aC5 s.heap rfl
 have e2:((s.heap.push PySem.W.emptyDict).push (PySem.W.instObj C s.heap.objs.size)).get? (s.heap.objs.size+1)=some (PySem.W.instObj C s.heap.objs.size):=by
  have:=aC5 (s.heap.push PySem.W.emptyDict) (o:=PySem.W.instObj C s.heap.objs.size) rfl
  rwa [aJ9] at this
 have e3:(s.heap.push PySem.W.emptyDict).Ns s.heap.objs.size (fun _=>none):=⟨PySem.W.emptyDict,#[],_,e1,rfl,(fun e he=>absurd he (by simp)),fun _=>rfl⟩
 have I1:=I.laid (a:=s.heap.objs.size) (o:=.own (s.heap.objs.size+1)) (h':=s.heap.push PySem.W.emptyDict) (t':=s.toks) (fun b u q=>aA7 _ q) (aB3 _) ⟨_,e1⟩
 refine I1.laid (a:=s.heap.objs.size+1) (o:=.ins C s.heap.objs.size []) (t':=s.toks) (fun b u q=>aA7 _ q) (Nat.le_of_eq (aJ9 _ _)) ?_
 have ne:s.heap.objs.size≠s.heap.objs.size+1:=aD6 (aM9 _)
 refine⟨by rw[c9 ne,b6],aG3 _,ne,e2,fun _=>none,(Heap.Ns1.of_empty e3).at fun o q=>aA7 _ q,fun _=>True.intro,fun y hy=>absurd rfl hy⟩
theorem b4y{prog:Program}{w:World}{env:Env}{e:Expr}{f:Str}{pos:Pos}{s:Shared}{Q:Value→Shared→Prop}(hb:attributeBase e f env (eval e env)=eval e env)
  (h:wpAny (model prog w) A (eval e env) (fun o s₁=>wpAny (model prog w) A (getAttr o f true) Q E s₁) E s):wpAny (model prog w) A (eval (.Attribute e f pos) env) Q E s:=
 Attribute_any_ h (by rw[arm_eval_Attribute,hb])
end
inductive b8H(K:PySem.W.Frag)(f:Str)(x:V)(H:Hp)(Q:VK):Prop
 | mk (a C dx:Addr) (fs:List (Str×V)) (v:V) (e:x=.ref a) (h:H a=some (.ins C dx fs)) (c:Cls K C) (n:A0 K C f) (l:fs.lookup f=some v) (q:Q v H)
def b7B(K:PySem.W.Frag)(ta:TE)(f:Str):TE:=fun σ H Q=>ta σ H fun x H1=>b8H K f x H1 Q
def b1I(K:PySem.W.Frag)(ta tv:TE)(f:Str):TS:=fun D σ H=>tv σ H fun y H1=>ta σ H1 fun x H2=>∃a C dx fs,x=.ref a∧H2 a=some (.ins C dx fs)∧Cls K C∧A0 K C f∧fs.length<1000 ∧
 D.nx σ (upd H2 a (.ins C dx (O5 f y fs)))
section
variable{X:Cx}{o e value:Expr}{f:Str}{pos pos' tpos:Pos}{ta tv:TE}
theorem v5(he:PE X e ta)(hb:attributeBase e f X.env (eval e X.env)=eval e X.env):PE X (.Attribute e f pos) (b7B X.K ta f):=by
 intro pins s σ H Q I h
 refine b4y hb (n5 (he pins s σ H _ I h) fun u s1 ⟨x,H1,I1,rx,a,C,dx,fs,v,ex,ea,c,n,l,q⟩=>?_)
 subst ex
 obtain rfl:u=Value.ref a:=rx
 exact b7d I1 ea c n l fun u' s2 I2 ru=>⟨v,H1,I2,ru,q⟩
theorem O4(ha:PE X o ta)(hv:PE X value tv)(hs:swapsWith value (some (.Attribute o f pos')) pos.line X.env=pure false):PS X (.Assign [.Attribute o f pos'] value pos) (b1I X.K ta tv f):=by
 intro pins s σ H D I h
 refine plainObj_wpAny_Assign_Attribute (n5 (hv pins s σ H _ I h) fun u s1 ⟨y,H1,I1,ry,q⟩=>n5 (ha pins s1 σ H1 _ I1 q) fun ov s2 ⟨x,H2,I2,rx,a,C,dx,fs,ex,ea,c,n,l,q2⟩=>?_) hs
 subst ex
 obtain rfl:ov=Value.ref a:=rx
 exact b9a I2 ea c n l ry fun s3 I3=>⟨σ,_,I3,q2⟩
theorem b5C{pl:Sem Bool}{m:Str}{apos:Pos}{args:List Expr}{pins:List (Addr×Obj)}{s:Shared}{σ:St}{H:Hp}{Q:Value→Shared→Prop}{te:TE}(he:PE X e te)(I:Inv X pins σ H s)
  (h:te σ H fun x H1=>∃a C dx fs g,x=.ref a∧H1 a=some (.ins C dx fs)∧Cls X.K C∧W1 X.K C m g∧fs.lookup m=none ∧
   ∀s1,Inv X pins σ H1 s1→wpAny (model X.prog X.w) X.A (callWith pos (.ref g) [.ref a] (backTo pos (starEach args X.env)) (backToKw pos (keywordEach [] X.env))) Q X.xe s1)
  (ht:eval (.Call (.Attribute e m apos) args [] pos) X.env=(do
   let ov ←eval e X.env
   standAt apos.atName
   let (f,first) ←holding [ov] (getMethod ov m pl)
   callWith pos f first (backTo pos (starEach args X.env)) (backToKw pos (keywordEach [] X.env)))) :
  wpAny (model X.prog X.w) X.A (eval (.Call (.Attribute e m apos) args [] pos) X.env) Q X.xe s:=by
 refine aR1 (pl:=pl) (n5 (he pins s σ H _ I h) fun u s1 ⟨x,H1,I1,rx,a,C,dx,fs,g,ex,ea,c,k,l,q⟩=>?_) ht
 subst ex
 obtain rfl:u=Value.ref a:=rx
 exact a6k I1 ea c k l (q s1 I1)
end
section
variable{X:Cx}{pins:List (Addr×Obj)}{σ:St}{H:Hp}{s:Shared}{A:Around}{E:Value→Shared→Prop}{Q:Value→Shared→Prop}{c:Value}{b:Bool}
end
open PySem PySem.Spec PyProof.Rows
structure J4(k:Nat)(A:Around):Prop where
 hd:A.handled=none
 dp:A.depth+3*k+5<recursionLimit
 un:A.units+16*k+200<cLine
theorem J4.mono{j k:Nat}{A:Around}(r:J4 k A)(h:j≤k):J4 j A:=⟨r.hd,by have:=r.dp;omega,by have:=r.un;omega⟩
theorem J4.deeper{k:Nat}{A:Around}(r:J4 (k+1) A)(env:Env):J4 k (A.deeper env):=
 ⟨r.hd,by have:=r.dp;show A.depth+1+3*k+5<_;omega,by have:=r.un;show A.units+3+16*k+200<_;omega⟩
theorem b5c{A:Around}{C:Addr}{us:List Value}{kw:List (Str×Value)}:(A.under (.builtin "type.__call__" ⟨.ref C::us,kw⟩)).depth=A.depth+1:=by
 first | rfl | simp[Around.under,Code.weight,Code.isCreation,Code.isGuard,Code.isCaller,Code.frames,Code.isFrame,guardIds]
theorem b5d{A:Around}{C:Addr}{us:List Value}{kw:List (Str×Value)}:(A.under (.builtin "type.__call__" ⟨.ref C::us,kw⟩)).units=A.units+1:=by
 first | rfl | simp[Around.under,Code.cUnits,Code.frames,Code.isFrame]
theorem J4.make{k:Nat}{A:Around}(r:J4 (k+1) A)(C:Addr)(us:List Value)(kw:List (Str×Value)):J4 k (A.under (.builtin "type.__call__" ⟨.ref C::us,kw⟩)):=
 ⟨r.hd,by have:=r.dp;rw[b5c];omega,by have:=r.un;rw[b5d];omega⟩
theorem J4.depth{k:Nat}{A:Around}(r:J4 k A):A.depth<recursionLimit:=by have:=r.dp;omega
theorem J4.units{k:Nat}{A:Around}(r:J4 k A):A.units+64<cLine:=by have:=r.un;omega
def a7Z:TA:=fun _ H Q=>Q [] H
def b2u(ta:TE)(tr:TA):TA:=fun σ H Q=>ta σ H fun x H1=>tr σ H1 fun xs H2=>Q (x::xs) H2
section
variable{X:Cx}{e:Expr}{es:List Expr}{te:TE}{t:TA}{pos:Pos}
theorem b7:PA X [] a7Z:=fun _ _ _ _ H Q I h=>aL2 ⟨[],H,I,.nil,h⟩
theorem b0(ha:PE X e te)(hr:PA X es t)(hs:starEach (e::es) X.env=(false,eval e X.env)::starEach es X.env:=by rfl):PA X (e::es) (b2u te t):=by
 intro pos pins s σ H Q I h
 rw[hs]
 show wpAny _ _ (spliced ((false,eval e X.env)::backTo pos (starEach es X.env))) _ _ s
 refine aI0 (n5 (ha pins s σ H _ I h) fun u s1 ⟨x,H1,I1,r1,q1⟩=>?_)
 exact n5 (hr pos pins s1 σ H1 _ I1 q1) fun us s2 ⟨xs,H2,I2,r2,q2⟩=>⟨x::xs,H2,I2,.cons r1 r2,q2⟩
def b2F(t:TA):TE:=fun σ H Q=>t σ H fun xs H1=>xs.length≤sizeLine∧∀p,H1 p=none→Q (.ref p) (upd H1 p (.tup xs))
def b3F(t:TA):TE:=fun σ H Q=>t σ H fun xs H1=>xs.length≤sizeLine∧∀p,H1 p=none→Q (.ref p) (upd H1 p (.lst xs))
theorem q5{x1}(h:PA X es t):PE X (.Tuple es x1 pos) (b2F t):=by
 intro pins s σ H Q I hq
 refine wpAny_Tuple_spliced (n5 (h pos pins s σ H _ I hq) fun us s1 ⟨xs,H1,I1,r,z,q⟩=>⟨by rw[←r.length];exact z,?_⟩)
 have hf:H1 s1.heap.objs.size=none:=I1.hok.fresh (aB3 _)
 refine⟨.ref s1.heap.objs.size,upd H1 s1.heap.objs.size (.tup xs),I1.laid (t':=s1.toks) (fun b u e=>aA7 _ e) (aB3 _) ?_,rfl,q _ hf⟩
 exact⟨z,us,r,⟨_,aC5 _ rfl,rfl,_,rfl⟩⟩
theorem m6(h:PA X es t):PE X (.List es pos) (b3F t):=by
 intro pins s σ H Q I hq
 refine wpAny_List_spliced (n5 (h pos pins s σ H _ I hq) fun us s1 ⟨xs,H1,I1,r,z,q⟩=>⟨by rw[←r.length];exact z,?_⟩)
 have hf:H1 s1.heap.objs.size=none:=I1.hok.fresh (aB3 _)
 refine⟨.ref s1.heap.objs.size,upd H1 s1.heap.objs.size (.lst xs),I1.laid (t':=s1.toks) (fun b u e=>aA7 _ e) (aB3 _) ?_,rfl,q _ hf⟩
 exact⟨z,us,0,r,aC5 _ rfl⟩
end
abbrev Sp:=List V→Hp→VK→XK→Prop
abbrev CXT:=List Env→Hp→Shared→XK→Value→Shared→Prop
structure a5y(P:Program)(w:World)(K:PySem.W.Frag)(mg:Str→Option Value)(base:Heap)(A:Around)(outer:List Env)(s:Shared)(H:Hp):Prop where
 frames:A.frames=some outer
 mod:Mod K mg base
 bs:∀b o,base.get? b=some o→s.heap.get? b=some o∧H b=none
 bsz:base.objs.size≤s.heap.objs.size
 funs:s.heap.FunFrames base outer
 frf:∀b∈frs outer,H b=none
 hok:M5 P w H s.heap
 bare:AllBare s.gens
def CE(outer:List Env)(P:Program)(w:World)(H:Hp)(s:Shared)(Q:VK)(u:Value)(s':Shared):Prop:=
 ∃v H',s'.os=s.os∧AllBare s'.gens∧Un (frs outer) [] H H' s.heap s'.heap∧M5 P w H' s'.heap∧RelV v u∧Q v H'
def CR(CX:CXT)(outer:List Env)(P:Program)(w:World)(H:Hp)(s:Shared)(Q:VK)(E:XK)(r:Result)(s':Shared):Prop:=
 match r with
 | .ok (.ret u)=>CE outer P w H s Q u s'
 | .ok _=>False
 | .error e=>CX outer H s E e s'
structure g9(P:Program)(w:World)(K:PySem.W.Frag)(mg:Str→Option Value)(base:Heap)(CX:CXT)(k:Nat)(f:Addr)(fd:FuncData)(ps:List Str)(sp:Sp):Prop where
 len:∀vs H Q E,sp vs H Q E→vs.length=ps.length
 run:∀(A:Around) (outer:List Env) (s:Shared) (H:Hp) (args:Args) (us:List Value) (vs:List V) (Q:VK) (E:XK),J4 k A→a5y P w K mg base A outer s H→BindsTo s fd args (ps.zip us)→j6 vs us→sp vs H Q E →
  codeAny (model P w) A (.call (.ref f) args) (CR CX outer P w H s Q E) s
theorem g9.mono{P:Program}{w:World}{K:PySem.W.Frag}{mg:Str→Option Value}{base:Heap}{CX:CXT}{j k:Nat}{f:Addr}{fd:FuncData}{ps:List Str}{sp:Sp}(F:g9 P w K mg base CX j f fd ps sp)(h:j≤k) :
  g9 P w K mg base CX k f fd ps sp:=⟨F.len,fun A outer s H args us vs Q E hr=>F.run A outer s H args us vs Q E (hr.mono h)⟩
theorem a5y.make{P:Program}{w:World}{K:PySem.W.Frag}{mg:Str→Option Value}{base:Heap}{A:Around}{outer:List Env}{s:Shared}{H:Hp}(e:a5y P w K mg base A outer s H)(C:Addr)(us:List Value)(kw:List (Str×Value)) :
  a5y P w K mg base (A.under (.builtin "type.__call__" ⟨.ref C::us,kw⟩)) outer s H:=⟨by first | exact e.frames | (simpa [Around.under,Code.envs,Code.isFrame,pushEnvs] using e.frames),e.mod,e.bs,e.bsz,e.funs,e.frf,e.hok,e.bare⟩
section
variable{X:Cx}{pins:List (Addr×Obj)}{σ:St}{H:Hp}{s s':Shared}
theorem Inv.env0(I:Inv X pins σ H s):a5y X.prog X.w X.K X.mg X.base X.A X.stack s H:=
 ⟨I.ok.frames,I.ok.mod,I.bs,aD7 I.ok.bsz I.sz,I.stack,I.stkFree,I.hok,I.bare⟩
theorem Inv.after{Q:VK}{u:Value}(I:Inv X pins σ H s)(h:CE X.stack X.prog X.w H s Q u s'):EP X pins σ Q u s':=by
 obtain⟨v,H',os,bare,un,hok,r,q⟩:=h
 obtain⟨hh,g,d,t,os'⟩:=s'
 obtain rfl:os'=s.os:=os
 exact⟨v,H',I.call (h':=hh) (g':=g) (d':=d) (t':=t) (ch:=[]) un hok bare (fun b z=>absurd z (by simp)),r,q⟩
end
def b0D(sp:Sp)(dvs:List V)(E:XK)(t:TA):TE:=fun σ H Q=>t σ H fun vs H1=>sp (vs++dvs) H1 Q E
def b0u(C:Addr)(m:Str)(sp:Sp)(dvs:List V)(E:XK)(ta:TE)(t:TA):TE:=fun σ H Q=>ta σ H fun x H1=>∃a dx fs,x=.ref a∧H1 a=some (.ins C dx fs)∧fs.lookup m=none ∧
 t σ H1 fun vs H2=>sp (x::(vs++dvs)) H2 Q E
def b7t(C:Addr)(sp:Sp)(dvs:List V)(E:XK)(t:TA):TE:=fun σ H Q=>t σ H fun vs H1=>∀x dx,H1 x=none→H1 dx=none→dx≠x →
 sp (.ref x::(vs++dvs)) (upd (upd H1 dx (.own x)) x (.ins C dx [])) (fun v H2=>v=.non∧Q (.ref x) H2) E
def Binds(K:PySem.W.Frag)(fd:FuncData)(ps:List Str)(ds:List Value):Prop:=
 ∀(s:Shared) (us:List Value),K.In s.heap→(us++ds).length=ps.length→BindsTo s fd ⟨us,[]⟩ (ps.zip (us++ds))
theorem Binds.all{K:PySem.W.Frag}{fd:FuncData}{ps:List Str}(h:∀us:List Value,us.length=ps.length→bindArgs fd ⟨us,[]⟩=pure (ps.zip us)):Binds K fd ps []:=fun s us _ hl=>by
 rw[aI6]at hl ⊢
 exact .of_eq (h us hl)
def Z5(CX:CXT)(X:Cx)(E:XK):Prop:=∀(pins:List (Addr×Obj)) (σ:St) (H:Hp) (s:Shared) (e:Value) (s':Shared),Inv X pins σ H s→CX X.stack H s E e s'→X.xe e s'
section
variable{X:Cx}{CX:CXT}{k:Nat}{f C:Addr}{fd:FuncData}{ps:List Str}{sp:Sp}{dvs:List V}{ds:List Value}{E:XK}{x m:Str}{p pos apos:Pos}{e o:Expr}{es:List Expr}{ta:TE}{t:TA}
theorem a3O{pins:List (Addr×Obj)}{σ:St}{H:Hp}{s:Shared}{Q:VK}{us:List Value}{vs:List V}(F:g9 X.prog X.w X.K X.mg X.base CX k f fd ps sp)(hr:J4 k X.A)(hb:Binds X.K fd ps ds)(hd:j6 dvs ds)(hx:Z5 CX X E)
  (I:Inv X pins σ H s) (r:j6 vs us) (h:sp (vs++dvs) H Q E):wpAny (model X.prog X.w) X.A (call (.ref f) us) (EP X pins σ Q) X.xe s:=by
 have r2:j6 (vs++dvs) (us++ds):=r.append hd
 have hl:(us++ds).length=ps.length:=by rw[←r2.length];exact F.len _ _ _ _ h
 refine wpAny_call (aQ5 (F.run X.A X.stack s H ⟨us,[]⟩ (us++ds) (vs++dvs) Q E hr I.env0 (hb s us I.kIn hl) r2 h) fun r s' hq=>?_)
 cases r with
 | error e=>exact hx pins σ H s e s' I hq
 | ok fl=>
  cases fl with
  | ret u=>exact I.after hq
  | next=>exact False.elim hq
  | brk=>exact False.elim hq
  | cont=>exact False.elim hq
theorem k7(F:g9 X.prog X.w X.K X.mg X.base CX k f fd ps sp)(hr:J4 k X.A)(hg:Gl X x)(hm:X.mg x=some (.ref f))(hk:PySem.W.keepIn X.K (.ref f)=true)(hb:Binds X.K fd ps ds)(hd:j6 dvs ds)(hx:Z5 CX X E)
  (ha:PA X (e::es) t) (hdb:(x==("__debug__":Str))=false:=by decide) (he:starEach (e::es) X.env=(false,eval e X.env)::starEach es X.env:=by rfl) (hpl:(backTo pos (starEach es X.env)).any (·.1)=false:=by rfl) :
  PE X (.Call (.Name x p) (e::es) [] pos) (b0D sp dvs E t):=by
 intro pins s σ H Q I h
 refine aJ2 (a9r I hg hm ?_ hdb)
 refine aT6 (h₀:=X.base) I.ok.mod.kin hk (n5 (ha pos pins s σ H _ I h) fun us s1 ⟨vs,H1,I1,r,q⟩=>⟨I1.kIn,?_⟩) he hpl
 exact a3O F hr hb hd hx I1 r q
theorem a6c{pl:Sem Bool}(he:PE X o ta)(c:Cls X.K C)(hm:W1 X.K C m f)(F:g9 X.prog X.w X.K X.mg X.base CX k f fd ps sp)(hr:J4 k X.A)(hb:Binds X.K fd ps ds)(hd:j6 dvs ds)(hx:Z5 CX X E)(ha:PA X (e::es) t)
  (hst:starEach (e::es) X.env=(false,eval e X.env)::starEach es X.env:=by rfl) (hpl:(backTo pos (starEach es X.env)).any (·.1)=false:=by rfl)
  (ht:eval (.Call (.Attribute o m apos) (e::es) [] pos) X.env=(do
   let ov ←eval o X.env
   standAt apos.atName
   let (f,first) ←holding [ov] (getMethod ov m pl)
   callWith pos f first (backTo pos (starEach (e::es) X.env)) (backToKw pos (keywordEach [] X.env))):=by rfl) :
  PE X (.Call (.Attribute o m apos) (e::es) [] pos) (b0u C m sp dvs E ta t):=by
 intro pins s σ H Q I h
 refine aR1 (pl:=pl) (n5 (he pins s σ H _ I h) fun u s1 ⟨x,H1,I1,rx,a,dx,fs,ex,ea,l,q⟩=>?_) ht
 subst ex
 obtain rfl:u=Value.ref a:=rx
 refine a6k I1 ea c hm l ?_
 refine aT6 (first:=[.ref a]) (h₀:=X.base) I.ok.mod.kin hm.kp (n5 (ha pos pins s1 σ H1 _ I1 q) fun us s2 ⟨vs,H2,I2,r,q2⟩=>⟨I2.kIn,?_⟩) hst hpl
 exact a3O (us:=.ref a::us) (vs:=.ref a::vs) F hr hb hd hx I2 (.cons rfl r) q2
theorem Q6{pl:Sem Bool}(he:PE X o ta)(c:Cls X.K C)(hm:W1 X.K C m f)(F:g9 X.prog X.w X.K X.mg X.base CX k f fd ps sp)(hr:J4 k X.A)(hb:Binds X.K fd ps ds)(hd:j6 dvs ds)(hx:Z5 CX X E)
  (ht:eval (.Call (.Attribute o m apos) [] [] pos) X.env=(do
   let ov ←eval o X.env
   standAt apos.atName
   let (f,first) ←holding [ov] (getMethod ov m pl)
   callWith pos f first (backTo pos (starEach [] X.env)) (backToKw pos (keywordEach [] X.env))):=by rfl) :
  PE X (.Call (.Attribute o m apos) [] [] pos) (b0u C m sp dvs E ta a7Z):=by
 intro pins s σ H Q I h
 refine aR1 (pl:=pl) (n5 (he pins s σ H _ I h) fun u s1 ⟨x,H1,I1,rx,a,dx,fs,ex,ea,l,q⟩=>?_) ht
 subst ex
 obtain rfl:u=Value.ref a:=rx
 refine a6k I1 ea c hm l ?_
 exact PySem.W.callWith_K0 (first:=[.ref a]) I1.kIn hm.kp (a3O (us:=[.ref a]) (vs:=[.ref a]) F hr hb hd hx I1 (.cons rfl .nil) q)
structure Mk(K:PySem.W.Frag)(C f:Addr):Prop where
 makes:PySem.W.makesIn K C=true
 init:PySem.W.findIn K (.ref C) "__init__"=some (some (.ref f))
 fn:PySem.W.isFn K (.ref f)=true
 kp:PySem.W.keepIn K (.ref C)=true
theorem a4P{pins:List (Addr×Obj)}{σ:St}{H:Hp}{s:Shared}{Q:VK}{us:List Value}{vs:List V}(M:Mk X.K C f)(F:g9 X.prog X.w X.K X.mg X.base CX k f fd ps sp)(hr:J4 (k+1) X.A)(hb:Binds X.K fd ps ds)(hd:j6 dvs ds)
  (hx:Z5 CX X E) (I:Inv X pins σ H s) (r:j6 vs us)
  (h:∀x dx,H x=none→H dx=none→dx≠x→sp (.ref x::(vs++dvs)) (upd (upd H dx (.own x)) x (.ins C dx [])) (fun v H2=>v=.non∧Q (.ref x) H2) E) :
  wpAny (model X.prog X.w) X.A (call (.ref C) us) (EP X pins σ Q) X.xe s:=by
 have hq:=h (s.heap.objs.size+1) s.heap.objs.size (I.hok.fresh (aL8 _)) (I.hok.fresh (aB3 _)) (aD6 (aM9 _))
 have I2:=Inv.made (C:=C) I
 have r2:j6 (V.ref (s.heap.objs.size+1)::(vs++dvs)) (Value.ref (s.heap.objs.size+1)::(us++ds)):=.cons rfl (r.append hd)
 have hl:(Value.ref (s.heap.objs.size+1)::us++ds).length=ps.length:=by
  have e:=r2.length
  rw[F.len _ _ _ _ hq]at e
  exact e.symm
 refine wpAny_call (b3o (f:=f) I.kIn M.makes M.init (aP7.mp M.fn) (aQ5 (F.run _ X.stack _ _ ⟨Value.ref (s.heap.objs.size+1)::us,[]⟩ (Value.ref (s.heap.objs.size+1)::(us++ds)) _ _ E (hr.make C us [])
  (I2.env0.make C us []) (hb _ (Value.ref (s.heap.objs.size+1)::us) I2.kIn hl) r2 hq) fun r s' hq'=>?_))
 cases r with
 | error e=>exact hx pins σ _ _ e s' I2 hq'
 | ok fl=>
  cases fl with
  | ret u=>
   obtain⟨v,H',I3,rv,ev,q3⟩:=I2.after hq'
   subst ev
   exact⟨rv,⟨V.ref (s.heap.objs.size+1),H',I3,rfl,q3⟩⟩
  | next=>exact False.elim hq'
  | brk=>exact False.elim hq'
  | cont=>exact False.elim hq'
theorem b6v(M:Mk X.K C f)(F:g9 X.prog X.w X.K X.mg X.base CX k f fd ps sp)(hr:J4 (k+1) X.A)(hg:Gl X x)(hm:X.mg x=some (.ref C))(hb:Binds X.K fd ps ds)(hd:j6 dvs ds)(hx:Z5 CX X E)
  (ha:PA X (e::es) t) (hdb:(x==("__debug__":Str))=false:=by decide) (he:starEach (e::es) X.env=(false,eval e X.env)::starEach es X.env:=by rfl) (hpl:(backTo pos (starEach es X.env)).any (·.1)=false:=by rfl) :
  PE X (.Call (.Name x p) (e::es) [] pos) (b7t C sp dvs E t):=by
 intro pins s σ H Q I h
 refine aJ2 (a9r I hg hm ?_ hdb)
 refine aT6 (h₀:=X.base) I.ok.mod.kin M.kp (n5 (ha pos pins s σ H _ I h) fun us s1 ⟨vs,H1,I1,r,q⟩=>⟨I1.kIn,?_⟩) he hpl
 exact a4P M F hr hb hd hx I1 r q
theorem a0U(M:Mk X.K C f)(F:g9 X.prog X.w X.K X.mg X.base CX k f fd ps sp)(hr:J4 (k+1) X.A)(hg:Gl X x)(hm:X.mg x=some (.ref C))(hb:Binds X.K fd ps ds)(hd:j6 dvs ds)(hx:Z5 CX X E)
  (hdb:(x==("__debug__":Str))=false:=by decide):PE X (.Call (.Name x p) [] [] pos) (b7t C sp dvs E a7Z):=by
 intro pins s σ H Q I h
 refine aJ2 (a9r I hg hm ?_ hdb)
 exact PySem.W.callWith_K0 I.kIn M.kp (a4P (us:=[]) M F hr hb hd hx I .nil h)
end
def PK(X:Cx)(kws:List Keyword)(t:TA):Prop:=
 ∀(pos:Pos) (pins:List (Addr×Obj)) (s:Shared) (σ:St) (H:Hp) (Q:List V→Hp→Prop),Inv X pins σ H s→t σ H Q→wpAny (model X.prog X.w) X.A (evalAll ((backToKw pos (keywordEach kws X.env)).map (·.2))) (AP X pins σ Q) X.xe s
section
variable{X:Cx}{CX:CXT}{k:Nat}{f C:Addr}{fd:FuncData}{ps ks:List Str}{sp:Sp}{E:XK}{x m:Str}{p pos apos kpos:Pos}{e o:Expr}{es:List Expr}{kws:List Keyword}{te ta:TE}{t tk:TA}{nm:Option Str}
theorem b9A:PK X [] a7Z:=fun _ _ _ _ H Q I h=>wpAny_evalAll_nil ⟨[],H,I,.nil,h⟩
theorem b0x(ha:PE X e te)(hr:PK X kws t):PK X (⟨nm,e,kpos⟩::kws) (b2u te t):=by
 intro pos pins s σ H Q I h
 show wpAny _ _ (evalAll ((do let v ←eval e X.env;standAt pos;pure v)::(backToKw pos (keywordEach kws X.env)).map (·.2))) _ _ s
 refine wpAny_evalAll_cons (aA1 (n5 (ha pins s σ H _ I h) fun u s1 ⟨x,H1,I1,r1,q1⟩=>aA1 (wpAny_standAt (aA6 ?_))))
 exact n5 (hr pos pins s1 σ H1 _ I1 q1) fun us s2 ⟨xs,H2,I2,r2,q2⟩=>⟨x::xs,H2,I2,.cons r1 r2,q2⟩
variable{g:List Value→List Value→List Value}{gV:List V→List V→List V}
end
structure j9(N P:List Str)(sc:Scope):Prop where
 kind:sc.kind=.function
 co:sc.isCoroutine=false
 gen:sc.isGenerator=false
 nd:N.Nodup
 pre:N.take P.length=P
 par:∀x∈P,sc.names.lookup x=some .local∨sc.names.lookup x=some .cell
 nofree:∀y∈sc.names,y.2≠.free
theorem a5K{kindOf:Str→Option NameKind}{x:Str}:∀{binds:List (Str×Value)} {m:Str→Option Value},(∀v,(x,v)∉binds)→bindL kindOf binds m x=m x
 | [],_,_=>rfl
 | (n,v)::r,m,h=>by
  unfold bindL
  rw[a5K fun w hw=>h w (aC1 _ hw)]
  split
  ·have:x≠n:=by rintro rfl;exact h v aB9
   simp[this]
  ·rfl
theorem a3I{kindOf:Str→Option NameKind}{x:Str}:∀{binds:List (Str×Value)} {m:Str→Option Value},(∀v,(x,v)∉binds)→bindC kindOf binds m x=m x
 | [],_,_=>rfl
 | (n,v)::r,m,h=>by
  unfold bindC
  rw[a3I fun w hw=>h w (aC1 _ hw)]
  split
  ·rfl
  ·have:x≠n:=by rintro rfl;exact h v aB9
   simp[this]
theorem a0J{kindOf:Str→Option NameKind}{x:Str}{v:Value}:∀{P:List Str} {vs:List Value} {i:Nat} {m:Str→Option Value},P.Nodup→P[i]?=some x→vs[i]?=some v→kindOf x=some .local →
  bindL kindOf (P.zip vs) m x=some v
 | [],_,_,_,_,h,_,_=>by simp at h
 | _::_,[],_,_,_,_,h,_=>by simp at h
 | p::P,w::vs,0,m,nd,h1,h2,hk=>by
  simp at h1 h2;subst h1;subst h2
  show bindL kindOf ((p,w)::P.zip vs) m p=_
  unfold bindL
  rw[a5K fun v hv=>(aG4.mp nd).1 (List.of_mem_zip hv).1,aB4 hk]
  simp
 | p::P,w::vs,i+1,m,nd,h1,h2,hk=>by
  show bindL kindOf ((p,w)::P.zip vs) m x=_
  unfold bindL
  exact a0J (i:=i) (aG4.mp nd).2 (by simpa using h1) (by simpa using h2) hk
theorem a1K{kindOf:Str→Option NameKind}{x:Str}{v:Value}:∀{P:List Str} {vs:List Value} {i:Nat} {m:Str→Option Value},P.Nodup→P[i]?=some x→vs[i]?=some v→kindOf x≠some .local →
  bindC kindOf (P.zip vs) m x=some v
 | [],_,_,_,_,h,_,_=>by simp at h
 | _::_,[],_,_,_,_,h,_=>by simp at h
 | p::P,w::vs,0,m,nd,h1,h2,hk=>by
  simp at h1 h2;subst h1;subst h2
  show bindC kindOf ((p,w)::P.zip vs) m p=_
  unfold bindC
  rw[a3I fun v hv=>(aG4.mp nd).1 (List.of_mem_zip hv).1,aA8 hk]
  simp
 | p::P,w::vs,i+1,m,nd,h1,h2,hk=>by
  show bindC kindOf ((p,w)::P.zip vs) m x=_
  unfold bindC
  exact a1K (i:=i) (aG4.mp nd).2 (by simpa using h1) (by simpa using h2) hk
def start(N:List Str)(vs:List V):St:=vs.map some++List.replicate (N.length-vs.length) none
def a3G(CX:CXT)(P:Program)(w:World)(K:PySem.W.Frag)(mg:Str→Option Value)(base:Heap)(N:List Str)(qual:Str)(scope:Scope)(f:Addr)(cd:Value)(A:Around)(outer:List Env)(s:Shared)(H:Hp)(E:XK):Cx where
 prog:=P
 w:=w
 K:=K
 mg:=mg
 base:=base
 A:=A.deeper (envOfC qual scope s.heap.objs.size f cd)
 N:=N
 s₀:=s
 H₀:=H
 env:=envOfC qual scope s.heap.objs.size f cd
 outer:=outer
 stack:=envOfC qual scope s.heap.objs.size f cd::outer
 ex:=[]
 calm:=true
 fn:=fun _=>true
 pn:=[]
 xe:=fun e s'=>wpAny (model P w) (A.deeper (envOfC qual scope s.heap.objs.size f cd)) (leaving (envOfC qual scope s.heap.objs.size f cd) e) (fun _ s''=>CX outer H s E e s'') (fun e' s''=>CX outer H s E e' s'') s'
theorem a8P{sc:Scope}{n:Nat}{x:Str}(h:sc.names.lookup x=some .cell):∃c,(cellsFrom n sc.names []).lookup x=some c:=by
 have q:=PySem.W.cellsFrom_some sc.names n [] (.inl h)
 exact Option.isSome_iff_exists.mp q
theorem b0g{CX:CXT}{P:Program}{w:World}{K:PySem.W.Frag}{mg:Str→Option Value}{base:Heap}{N ps:List Str}{qual:Str}{scope:Scope}{f:Addr}{cd:Value}{A:Around}{outer:List Env}{s s1:Shared}{H:Hp}{E:XK}{us:List Value}{vs:List V}
  (S:j9 N ps scope) (hd:A.handled=none) (e0:a5y P w K mg base A outer s H) (hl:vs.length=ps.length) (r:j6 vs us)
  (x:InCallC s s.heap.objs.size (bindL (envOfC qual scope s.heap.objs.size f cd).kindOf (ps.zip us) fun _=>none) (cellsFrom (s.heap.objs.size+1) scope.names []) (bindC (envOfC qual scope s.heap.objs.size f cd).kindOf (ps.zip us) fun _=>none) s1) :
  Inv (a3G CX P w K mg base N qual scope f cd A outer s H E) [] (start N vs) H s1:=by
 have hpl:ps.length≤N.length:=by have:=congrArg List.length S.pre;rw[aD0]at this;omega
 obtain⟨h1,tk,rfl,hk⟩:=x.done
 have noA:∀b:Addr,b∉(a3G CX P w K mg base N qual scope f cd A outer s H E).ex:=fun b z=>absurd (show b∈([]:List Addr) from z) (by simp)
 refine⟨⟨e0.mod,S.kind,rfl,rfl,aB3 _,fun y z c h1 h2=>?_,fun y hy=>?_,fun y c _ h=>?_,fun _=>hd,Around.frames_deeper e0.frames,.inr ⟨rfl,rfl⟩,fun b z=>absurd z (noA b),e0.bs,e0.bsz,fun b _ _=>noA b,fun b z=>absurd z (noA b),e0.funs,e0.frf⟩,
  rfl,e0.bare,Un.kept hk,⟨_,x.toInCall.ns,fun i y v h1 h2 h3=>?_⟩,fun y c h=>⟨_,x.cell y c h⟩,e0.hok.fresh (aB3 _),fun y c h=>?_,fun p hp=>absurd (show p∈([]:List (Addr×Obj)) from hp) (by simp),e0.hok.kept hk,?_⟩
 ·exact name_of_addr x.apart (aH4 h1) (aH4 h2)
 ·have hy:scope.names.lookup y=some .cell∨scope.names.lookup y=some .free:=hy
  rcases hy with hy | hy
  ·exact a8P hy
  ·exact absurd rfl (S.nofree _ (aH4 hy))
 ·exact aK8 (x.above y c (aH4 h))
 ·have hi:i<vs.length:=by
   unfold start at h2
   by_cases hi:i<vs.length
   ·exact hi
   ·rw[aF0 (by simpa using hi)]at h2
    rw[List.getElem?_replicate]at h2
    split at h2<;>cases h2
  have ha:vs[i]?=some v:=by
   unfold start at h2
   rw[aE0 (by simpa using hi),aB1]at h2
   cases e:vs[i]? with
   | none=>rw[e]at h2;cases h2
   | some a=>rw[e]at h2;cases h2;rfl
  obtain⟨u,hu,rv⟩:=r.get ha
  have hp:ps[i]?=some y:=by
   rw[←S.pre,aH0 (by omega)];exact h1
  have ndP:ps.Nodup:=by rw[←S.pre];exact S.nd.sublist (aK5 _ _)
  refine⟨u,rv,?_⟩
  rcases S.par y (aC8 hp) with k | k
  ·exact .inl ⟨k,a0J ndP hp hu k⟩
  ·obtain⟨c,e⟩:=a8P (n:=s.heap.objs.size+1) k
   refine .inr ⟨.inl k,c,e,?_⟩
   have q:=x.cell y c e
   rw[a1K ndP hp hu (by show scope.names.lookup y≠_;rw[k];decide)] at q
   exact q
 ·exact e0.hok.fresh (aK8 (x.above y c (aH4 h)))
 ·unfold start
  show _=N.length
  rw[aA4,aA0,aR6]
  omega
theorem b1D{CX:CXT}{P:Program}{w:World}{K:PySem.W.Frag}{mg:Str→Option Value}{base:Heap}{k:Nat}{f:Addr}{name qual:Str}{params:Arguments}{body:List Stmt}{scope:Scope}{dV kV doc pm cdv ct oc:Value}{an od:Option Addr}
  {osl:Array (Option Value)} {N ps:List Str} {sp:Sp} (lk:K.lookup f=some ⟨oc,od,.func (PySem.W.fnOf name qual params body scope dV kV doc pm an cdv ct),osl⟩) (hcd:PySem.W.codeIn K cdv qual=true) (S:j9 N ps scope)
  (len:∀vs H Q E,sp vs H Q E→vs.length=ps.length)
  (hbody:∀(A:Around) (outer:List Env) (s:Shared) (H:Hp) (vs:List V) (Q:VK) (E:XK),J4 k (A.deeper (envOfC qual scope s.heap.objs.size f cdv))→sp vs H Q E →
   ∃t,PSs (a3G CX P w K mg base N qual scope f cdv A outer s H E) body t∧t { nx:=fun _ H'=>Q .non H',rt:=Q } (start N vs) H) :
  g9 P w K mg base CX (k+1) f (PySem.W.fnOf name qual params body scope dV kV doc pm an cdv ct) ps sp:=by
 refine⟨len,fun A outer s H args us vs Q E hr e0 hb r hsp=>?_⟩
 have hl:=len _ _ _ _ hsp
 have KX:K.In s.heap:=e0.mod.kin.keeps fun b o e=>(e0.bs b o e).1
 have lim:s.heap.NoLimit:=e0.mod.nolimit.keeps fun b o e=>(e0.bs b o e).1
 have hkind:∀y∈ps.zip us,scope.names.lookup y.1=some .local∨(scope.names.lookup y.1=some .cell∧((cellsFrom (s.heap.objs.size+1) scope.names []).lookup y.1).isSome=true):=fun⟨n,v⟩ hy=>by
  rcases S.par n (List.of_mem_zip hy).1 with q | q
  ·exact .inl q
  ·exact .inr ⟨q,PySem.W.cellsFrom_some _ _ _ (.inl q)⟩
 refine codeAny_call_function hr.depth (KX _ _ lk) rfl S.co S.gen rfl (PySem.W.codeRec_of KX hcd) (hb _ _ _ _ ?_)
 refine wpAny_newFunctionEnv_cells S.kind hkind fun env he s1 x=>?_
 subst he
 refine⟨lim.keeps x.toInCall.keep,codeAny_func ?_⟩
 obtain⟨t,ht,hq⟩:=hbody A outer s H vs Q E (hr.deeper _) hsp
 have I:Inv (a3G CX P w K mg base N qual scope f cdv A outer s H E) [] (start N vs) H s1:=b0g S hr.hd e0 hl r x
 refine aH6 (ht [] s1 (start N vs) H _ I hq) (fun fl s' hs=>?_) fun e s' hs=>hs
 have fin:∀{σ':St} {H':Hp} {v:V} {u:Value},Inv (a3G CX P w K mg base N qual scope f cdv A outer s H E) [] σ' H' s'→RelV v u→Q v H'→CE outer P w H s Q u s':=
  fun {σ' H' v u} J rv q=>⟨v,H',J.os,J.bare,J.base,J.hok,rv,q⟩
 cases fl with
 | ret u=>
  obtain⟨v,σ',H',J,rv,q⟩:=hs
  exact fin J rv q
 | next=>
  obtain⟨σ',H',J,q⟩:=hs
  exact fin (v:=V.non) (u:=Value.none) J rfl q
 | brk=>
  obtain⟨_,_,_,q⟩:=hs
  exact False.elim q
 | cont=>
  obtain⟨_,_,_,q⟩:=hs
  exact False.elim q
open PySem PySem.Spec PyProof.Rows
section
variable{X:Cx}{x:Str}{p pos:Pos}{e:Expr}{es:List Expr}{t:TA}{id T:String}{r:List V→Hp→VK→Prop}
def tCB(r:List V→Hp→VK→Prop)(t:TA):TE:=fun σ H Q=>t σ H fun vs H1=>r vs H1 Q
theorem e7(hc:N5 X (.builtin id) r)(hg:Gl X x)(hm:X.mg x=none)(hv:bootBuiltins x=some (.builtin id))(ha:PA X (e::es) t)(hn:x≠"__name__":=by decide)(hdb:(x==("__debug__":Str))=false:=by decide)
  (he:starEach (e::es) X.env=(false,eval e X.env)::starEach es X.env:=by rfl) (hpl:(backTo pos (starEach es X.env)).any (·.1)=false:=by rfl):PE X (.Call (.Name x p) (e::es) [] pos) (tCB r t):=by
 intro pins s σ H Q I h
 refine aJ2 (a4e I hg hm hv ?_ hn hdb)
 exact PyProof.Rows.callWith_builtin1 (n5 (ha pos pins s σ H _ I h) fun us s1 ⟨vs,H1,I1,r1,q1⟩=>hc pins s1 σ H1 vs us Q I1 r1 q1) he hpl
theorem K7(hc:N5 X (.type T) r)(hg:Gl X x)(hm:X.mg x=none)(hv:bootBuiltins x=some (.type T))(ha:PA X (e::es) t)(hn:x≠"__name__":=by decide)(hdb:(x==("__debug__":Str))=false:=by decide)
  (he:starEach (e::es) X.env=(false,eval e X.env)::starEach es X.env:=by rfl) (hpl:(backTo pos (starEach es X.env)).any (·.1)=false:=by rfl):PE X (.Call (.Name x p) (e::es) [] pos) (tCB r t):=by
 intro pins s σ H Q I h
 refine aJ2 (a4e I hg hm hv ?_ hn hdb)
 exact aL7 (n5 (ha pos pins s σ H _ I h) fun us s1 ⟨vs,H1,I1,r1,q1⟩=>hc pins s1 σ H1 vs us Q I1 r1 q1) he hpl
end
end L2
namespace HT
open PySem PyProof.Rows
section
open PySem.SeqAt
open PySem.AutoSeq1 (wpAny_loadPart')
open PySem.MeetsSeq PySem.MeetsSeq2 PySem.MeetsSeq3
end
section
variable{prog:Program}{w:World}{A:Around}{E:Value→Shared→Prop}{s:Shared}
theorem b1w{t b:Addr}{vs ws:List Value}{Q:Value→Shared→Prop}(ht:IsTup s.heap t vs.toArray)(hb:IsTup s.heap b ws.toArray)(hv:vs≠[])
  (h1:ws=[]→Q (.ref t) s) (h2:ws≠[]→Q (.ref s.heap.objs.size) { s with heap:=s.heap.push { cls:=.type "tuple",data:=.seq (vs++ws).toArray } })
  (hsz:vs.length+ws.length≤sizeLine):wpAny (model prog w) A (binaryOp .Add (.ref t) (.ref b)) Q E s:=by
 obtain⟨⟨cls,dd,data,sl⟩,ho,hc,n,hd⟩:=id ht
 obtain⟨⟨cls2,dd2,data2,sl2⟩,ho2,hc2,n2,hd2⟩:=id hb
 simp only at hc hd hc2 hd2
 subst hc hd hc2 hd2
 have e:vs.toArray++ws.toArray=(vs++ws).toArray:=by simp
 by_cases hw:ws=[]
 ·exact concat_meets ⟨_,ho,rfl⟩ ⟨_,ho2,rfl⟩ noFill_tuple_add seq_tuple_add PySem.F.slot_tuple_add PySem.F.entry_tuple_add (PySem.F.args_tuple_add_2 _ _)
   (tuple_addW1 t b vs.toArray ws.toArray n n2 dd dd2 sl sl2 (by simpa using hv) (by simp[hw])) ⟨ho,ho2,h1 hw⟩
 ·refine concat_meets ⟨_,ho,rfl⟩ ⟨_,ho2,rfl⟩ noFill_tuple_add seq_tuple_add PySem.F.slot_tuple_add PySem.F.entry_tuple_add (PySem.F.args_tuple_add_2 _ _)
   (tuple_addW2 t b vs.toArray ws.toArray n n2 dd dd2 sl sl2 (by simpa using hv) (by simpa using hw) (by rw[aD1,aD1];exact hsz)) ⟨ho,ho2,?_⟩
  rw[e]
  exact h2 hw
def z9(n d:Nat):Option Int→Nat
 | none=>d
 | some v=>if v<0 then(v+(n:Int)).toNat else min v.toNat n
theorem a4R(n d:Nat):z9 n d none=d:=rfl
theorem a6H(n d k:Nat):z9 n d (some (k:Int))=min k n:=by
 show(if (k:Int)<0 then((k:Int)+(n:Int)).toNat else min (k:Int).toNat n)=min k n
 rw[aA8 (by omega),aM4]
theorem b9z(n d:Nat)(hd:d≤n)(o:Option Int):z9 n d o≤n:=by
 cases o with
 | none=>exact hd
 | some v=>
  show(if v<0 then(v+(n:Int)).toNat else min v.toNat n)≤n
  by_cases hv:v<0
  ·rw[aB4 hv];omega
  ·rw[aA8 hv];exact Nat.min_le_right _ _
theorem a6X(v:Int)(n d:Nat):(if v<0 then max (v+(n:Int)) 0 else min v (n:Int))=((z9 n d (some v):Nat):Int):=by
 show(if v<0 then max (v+(n:Int)) 0 else min v (n:Int))=(((if v<0 then(v+(n:Int)).toNat else min v.toNat n):Nat):Int)
 by_cases hv:v<0
 ·simp only[aB4 hv];omega
 ·simp only[aA8 hv];omega
theorem b6c(lo hi:Option Int)(n:Nat):Builtin.Slice.sliceAdjust lo hi 1 (n:Int)=(((z9 n 0 lo:Nat):Int),((z9 n n hi:Nat):Int)):=by
 have h1:¬((1:Int)<0):=by omega
 unfold Builtin.Slice.sliceAdjust
 simp only[h1,aO4]
 refine Prod.ext ?_ ?_
 ·cases lo with
  | none=>rfl
  | some v=>exact a6X v n 0
 ·cases hi with
  | none=>rfl
  | some v=>exact a6X v n n
theorem b3e(i j:Nat):Builtin.Slice.slicePlaces (i:Int) (j:Int) 1=j-i:=by
 unfold Builtin.Slice.slicePlaces
 have h1:(1:Int)>0:=by omega
 simp only[h1,aQ1,Int.ediv_one]
 split<;>omega
theorem a1C{v:Value}{o:Option Int}{Q:Option Int→Shared→Prop}(p:IsPart v o)(h:Q o s):wpAny (model prog w) A (Builtin.Slice.slicePartIndex v) Q E s:=by
 cases p with
 | none=>exact slicePart_none h
 | int i t=>exact slicePart_int h
theorem a1x{sl:Addr}{vl vu:Value}{lo hi:Option Int}{n:Nat}{Q:Int×Int×Nat→Shared→Prop}(hs:s.heap.IsSliceOf sl vl vu .none)(pl:IsPart vl lo)(pu:IsPart vu hi)
  (h:Q (((z9 n 0 lo:Nat):Int),1,z9 n n hi-z9 n 0 lo) s):wpAny (model prog w) A (Builtin.Slice.sliceApplied (.ref sl) (pure (n:Int))) Q E s:=by
 obtain⟨os,hos,hcs,hds⟩:=id hs
 unfold Builtin.Slice.sliceApplied Builtin.Slice.sliceFields
 refine aA1 (aA1 (wpAny_field hos hds (x:=vl) rfl (aA1 (wpAny_field hos hds (x:=vu) rfl (aA1 (wpAny_field hos hds (x:=.none) rfl (aA6 ?_)))))))
 refine aA1 (slicePart_none ?_)
 show wpAny _ _ (if ((1:Int)==0)=true then _ else _) _ _ s
 rw[aA8 (by decide)]
 refine aA1 (a1C pl (aA1 (a1C pu (aA1 (aA6 ?_)))))
 show wpAny _ _ (match Builtin.Slice.sliceAdjust lo hi 1 (n:Int) with | (lo,hi)=>pure (lo,(1:Int),Builtin.Slice.slicePlaces lo hi 1)) _ _ s
 rw[b6c lo hi n]
 show wpAny _ _ (pure (((z9 n 0 lo:Nat):Int),(1:Int),Builtin.Slice.slicePlaces ((z9 n 0 lo:Nat):Int) ((z9 n n hi:Nat):Int) 1)) _ _ s
 rw[b3e]
 exact aA6 h
theorem b5m(xs:Array Value)(i k:Nat):((List.range k).filterMap fun(m:Nat)=>xs[((i:Int)+(m:Int)*1).toNat]?).toArray=((xs.toList.drop i).take k).toArray:=by
 have e:(fun(m:Nat)=>xs[((i:Int)+(m:Int)*1).toNat]?)=fun m=>xs[i+m]?:=by
  funext m
  have:((i:Int)+(m:Int)*1).toNat=i+m:=by omega
  rw[this]
 rw[e]
 have:=pick_run xs i k
 rw[List.filterMap_map]at this
 have e2:((fun x=>xs[x]?)∘fun x=>i+x)=fun m=>xs[i+m]?:=rfl
 rw[e2]at this
 rw[this]
theorem a7t{t sl:Addr}{items:Array Value}{vl vu:Value}{lo hi:Option Int}{Q:Value→Shared→Prop}(ht:IsTup s.heap t items)(hs:s.heap.IsSliceOf sl vl vu .none)(pl:IsPart vl lo)(pu:IsPart vu hi)
  (hw:¬(z9 items.size 0 lo=0∧z9 items.size items.size hi=items.size))
  (h:Q (.ref s.heap.objs.size) { s with heap:=s.heap.push { cls:=.type "tuple",data:=.seq ((items.toList.drop (z9 items.size 0 lo)).take (z9 items.size items.size hi-z9 items.size 0 lo)).toArray } })
  (hsz:items.size≤sizeLine):wpAny (model prog w) A (getItem (.ref t) (.ref sl)) Q E s:=by
 have htake:sizeOk (.seq ((items.toList.drop (z9 items.size 0 lo)).take (z9 items.size items.size hi-z9 items.size 0 lo)).toArray):=by
  show((items.toList.drop (z9 items.size 0 lo)).take (z9 items.size items.size hi-z9 items.size 0 lo)).toArray.size≤sizeLine
  rw[aD1,aD0,aH8,aF3]
  omega
 have hj:z9 items.size items.size hi≤items.size:=b9z _ _ (aB3 _) hi
 obtain⟨os,hos,hcs,hds⟩:=id hs
 have hTs:s.TypeIs (.ref sl) "slice":=⟨os,hos,hcs⟩
 unfold getItem
 try with_reducible refine aI9 ?_
 first | refine aA1 (aA6 ?_) | skip
 refine aA1 (wpAny_sequenceKey ht.typeIs (by decide) ?_)
 refine aA1 (aL5 (name:=Str.ofString "__getitem__") ht.typeIs aM1
  (aI2 aM1 ht.typeIs entry_tuple_getitem ?_ (args_tuple_getitem _ _)))
 show wpAny _ _ (Builtin.Tuple.tupleItemsOf (.ref t) >>= _) _ _ s
 refine aA1 (tupleItemsOf_ ht ?_)
 refine aA1 (wpAny_typeOf hTs ?_)
 rw[aB4 (by decide)]
 refine aA1 (a1x hs pl pu ?_)
 have hno:¬((((z9 items.size 0 lo:Nat):Int)==0&&(1:Int)==1&&(z9 items.size items.size hi-z9 items.size 0 lo)==items.size)=true):=by
  intro q
  rw[aE9,aE9]at q
  have q1:((z9 items.size 0 lo:Nat):Int)=0:=eq_of_beq q.1.1
  have q2:z9 items.size items.size hi-z9 items.size 0 lo=items.size:=eq_of_beq q.2
  exact hw ⟨by omega,by omega⟩
 show wpAny _ _ (if (((z9 items.size 0 lo:Nat):Int)==0&&(1:Int)==1&&(z9 items.size items.size hi-z9 items.size 0 lo)==items.size)=true then _ else _) _ _ s
 rw[aA8 hno,b5m]
 first
  | exact aA1 (m:=Builtin.Tuple.tupleExact _) (aG9 (aA6 ⟨_,rfl,aA6 h⟩) htake)
  | exact aA1 (m:=Builtin.Tuple.tupleExact _) (aG9 (aA1 (aA6 (aA6 ⟨_,rfl,aA6 h⟩))) htake)
  | exact aA1 (aA1 (m:=Builtin.Tuple.tupleExact _) (aG9 (aA6 (aA6 ⟨_,rfl,aA6 h⟩)) htake))
  | exact aA1 (aA1 (m:=Builtin.Tuple.tupleExact _) (aG9 (aA6 ⟨_,rfl,aA6 h⟩) htake))
end
end HT
namespace L2
open PySem PySem.Spec PyProof.Rows
abbrev TO:=St→Hp→(Option Int→Hp→Prop)→Prop
def PO(X:Cx)(e:Option Expr)(t:TO):Prop:=
 ∀(pins:List (Addr×Obj)) (s:Shared) (σ:St) (H:Hp) (Q:Option Int→Hp→Prop),Inv X pins σ H s→t σ H Q →
  wpAny (model X.prog X.w) X.A (evalPart e X.env) (fun u s'=>∃o H',Inv X pins σ H' s'∧IsPart u o∧Q o H') X.xe s
def b8w:TO:=fun _ H Q=>Q none H
def b7E(t:TE):TO:=fun σ H Q=>t σ H fun x H1=>∃i,x=.int i∧Q (some i) H1
section
variable{X:Cx}{e:Expr}{te:TE}{lo hi:Option Expr}{tl th:TO}{pos p2:Pos}
theorem P8:PO X none b8w:=by
 intro pins s σ H Q I h
 rw[evalPart_none]
 exact aA6 ⟨none,H,I,.none,h⟩
theorem Q2(h:PE X e te):PO X (some e) (b7E te):=by
 intro pins s σ H Q I hw
 rw[evalPart_some]
 refine n5 (h pins s σ H _ I hw) fun u s1 ⟨x,H1,I1,r1,q1⟩=>?_
 obtain⟨i,rfl,q⟩:=q1
 obtain⟨t,rfl⟩:=r1
 exact⟨some i,H1,I1,.int i t,q⟩
def SlR(X:Cx)(r:V→Option Int→Option Int→Hp→VK→Prop):Prop:=
 ∀(pins:List (Addr×Obj)) (s:Shared) (σ:St) (H:Hp) (x:V) (v vl vu:Value) (lo hi:Option Int) (sl:Addr) (Q:VK),Inv X pins σ H s→RelV x v→s.heap.IsSliceOf sl vl vu .none→IsPart vl lo→IsPart vu hi→r x lo hi H Q →
  ∃T id,typeLookup (.type T) "__getitem__"=pure (some (.builtin id))∧s.TypeIs v T∧wpAny (model X.prog X.w) X.A (getItem v (.ref sl)) (EP X pins σ Q) X.xe s
def tSl(r:V→Option Int→Option Int→Hp→VK→Prop)(te:TE)(tl th:TO):TE:=fun σ H Q=>te σ H fun x H1=>tl σ H1 fun l H2=>th σ H2 fun u H3=>r x l u H3 Q
theorem N7{r:V→Option Int→Option Int→Hp→VK→Prop}(hr:SlR X r)(he:PE X e te)(hl:PO X lo tl)(hu:PO X hi th):PE X (.Subscript e (.Slice lo hi none p2) pos) (tSl r te tl th):=by
 intro pins s σ H Q I h
 refine Subscript_ (n5 (he pins s σ H _ I h) fun v s1 ⟨x,H1,I1,r1,q1⟩=>?_)
 refine wpAny_Slice (n5 (hl pins s1 σ H1 _ I1 q1) fun vl s2 ⟨l,H2,I2,pl,q2⟩=>n5 (hu pins s2 σ H2 _ I2 q2) fun vu s3 ⟨u,H3,I3,pu,q3⟩=>?_)
 rw[evalPart_none]
 refine aA6 ?_
 have I4:Inv X pins σ H3 { s3 with heap:=s3.heap.push { cls:=.type "slice",data:=.fields #[vl,vu,.none] } }:=I3.kept (t':=s3.toks) fun b ob q=>aA7 _ q
 obtain⟨T,id,hT,ht,hg⟩:=hr pins { s3 with heap:=s3.heap.push { cls:=.type "slice",data:=.fields #[vl,vu,.none] } } σ H3 x v vl vu l u s3.heap.objs.size Q I4 r1 (Heap.IsSliceOf.new ..) pl pu q3
 show wpAny (model X.prog X.w) X.A (subscriptTail e (.Slice lo hi none p2) v (.ref s3.heap.objs.size)) (EP X pins σ Q) X.xe { s3 with heap:=s3.heap.push { cls:=.type "slice",data:=.fields #[vl,vu,.none] } }
 exact tail_any (ops:=[.ref s3.heap.objs.size,v]) ht hT hg (by with_unfolding_all rfl)
def W4(xs:List V)(lo hi:Option Int):List V:=(xs.drop (HT.z9 xs.length 0 lo)).take (HT.z9 xs.length xs.length hi-HT.z9 xs.length 0 lo)
theorem a6u(xs:List V)(lo hi:Option Int):(W4 xs lo hi).length≤xs.length:=by
 unfold W4
 rw[aD0,aH8]
 omega
def b4F(K:PySem.W.Frag):V→Option Int→Option Int→Hp→VK→Prop:=fun x lo hi H Q=>∃a xs,x=.ref a∧i3 K H a xs ∧
 ¬(HT.z9 xs.length 0 lo=0∧HT.z9 xs.length xs.length hi=xs.length)∧∀p,H p=none→Q (.ref p) (upd H p (.tup (W4 xs lo hi)))
theorem b3z:SlR X (b4F X.K):=by
 intro pins s σ H x v vl vu lo hi sl Q I rx hs pl pu h
 obtain⟨a,xs,rfl,hx,hw,q⟩:=h
 cases rx
 obtain⟨its,r,ht,hz⟩:=I.tuple hx
 have hlen:its.toArray.size=xs.length:=by rw[aD1];exact r.length.symm
 refine⟨"tuple",_,aM1.lookup,ht.typeIs,?_⟩
 refine HT.a7t ht hs pl pu (by rw[hlen];exact hw) ?_ (by rw[hlen];exact hz)
 rw[hlen]
 refine⟨.ref s.heap.objs.size,_,I.laid (t':=s.toks) (o:=.tup (W4 xs lo hi)) (fun b ob q=>aA7 _ q) (aB3 _) ?_,rfl,q _ (I.hok.fresh (aB3 _))⟩
 exact⟨aD7 (a6u xs lo hi) hz,_,(r.drop (HT.z9 xs.length 0 lo)).take (HT.z9 xs.length xs.length hi-HT.z9 xs.length 0 lo),IsTup.new _ _⟩
def b1E(K:PySem.W.Frag):R2:=fun x y H Q=>∃a b xs ys,x=.ref a∧y=.ref b∧i3 K H a xs∧i3 K H b ys∧xs≠[]∧xs.length+ys.length≤sizeLine ∧
 (ys=[]→Q (.ref a) H)∧(ys≠[]→∀p,H p=none→Q (.ref p) (upd H p (.tup (xs++ys))))
theorem j6.nil_iff{xs:List V}{us:List Value}(r:j6 xs us):us=[]↔xs=[]:=by
 cases r with
 | nil=>simp
 | cons _ _=>simp
theorem a5X:G7 X (binaryOp .Add) (b1E X.K):=by
 intro pins s σ H x y v u Q I rx ry h
 obtain⟨a,b,xs,ys,rfl,rfl,ha,hb,hx,hz,q1,q2⟩:=h
 cases rx
 cases ry
 obtain⟨its,r1,p1,_⟩:=I.tuple ha
 obtain⟨its2,r2,p2,_⟩:=I.tuple hb
 refine HT.b1w p1 p2 (fun z=>hx (r1.nil_iff.mp z)) (fun z=>⟨.ref a,H,I,rfl,q1 (r2.nil_iff.mp z)⟩) (fun z=>?_) (by rw[←r1.length,←r2.length];exact hz)
 refine⟨.ref s.heap.objs.size,_,I.laid (t':=s.toks) (o:=.tup (xs++ys)) (fun b ob q=>aA7 _ q) (aB3 _) ?_,rfl,q2 (fun w=>z (r2.nil_iff.mpr w)) _ (I.hok.fresh (aB3 _))⟩
 exact⟨by rw[aA4];exact hz,_,r1.append r2,IsTup.new _ _⟩
end
open PySem PySem.Spec PyProof.Rows
def ixN(n:Nat)(i:Int):Option Nat:=if 0≤i then(if i<n then some i.toNat else none) else if -(n:Int)≤i then some (i+n).toNat else none
def F7{α:Type}(xs:List α)(i:Int):Option α:=(ixN xs.length i).bind fun j=>xs[j]?
theorem b4w{n:Nat}{i:Int}{j:Nat}(h:ixN n i=some j):seqIndex? i n=some j∧j<n∧-(n:Int)≤i∧i<n:=by
 unfold ixN at h
 by_cases h0:0≤i
 ·rw[aB4 h0]at h
  by_cases h1:i<n
  ·rw[aB4 h1]at h
   have e:i.toNat=j:=aC0 h
   exact⟨by rw[seqIndex_of h0 h1,e],by omega,by omega,h1⟩
  ·rw[aA8 h1]at h;cases h
 ·rw[aA8 h0]at h
  by_cases h1:-(n:Int)≤i
  ·rw[aB4 h1]at h
   have e:(i+n).toNat=j:=aC0 h
   exact⟨by rw[seqIndex_neg (by omega) h1,e],by omega,h1,by omega⟩
  ·rw[aA8 h1]at h;cases h
theorem a1D{α:Type}{xs:List α}{i:Int}{v:α}(h:F7 xs i=some v):∃j,seqIndex? i xs.length=some j∧xs[j]?=some v∧j<xs.length∧-(xs.length:Int)≤i∧i<xs.length:=by
 unfold F7 at h
 cases e:ixN xs.length i with
 | none=>rw[e]at h;cases h
 | some j=>
  rw[e]at h
  obtain⟨h1,h2,h3,h4⟩:=b4w e
  exact⟨j,h1,h,h2,h3,h4⟩
theorem j0{α:Type}{xs:List α}{j:Nat}{v:α}(h:xs[j]?=some v):F7 xs (j:Int)=some v:=by
 have hj:j<xs.length:=(aA2.mp h).1
 have e:ixN xs.length (j:Int)=some j:=by
  unfold ixN
  rw[aB4 (by omega),aB4 (by omega)];simp
 unfold F7;rw[e];exact h
def b0v(b:Expr):Prop:=∀o i,subscripted b false o i=operate [o,i] (getItem o i)
def IxR(X:Cx)(r:R2):Prop:=
 ∀(value slice:Expr) (pins:List (Addr×Obj)) (s:Shared) (σ:St) (H:Hp) (x y:V) (v u:Value) (Q:VK),Inv X pins σ H s→RelV x v→RelV y u→r x y H Q →
  subscripted slice false v u=operate [v,u] (getItem v u)→wpAny (model X.prog X.w) X.A (subscriptTail value slice v u) (EP X pins σ Q) X.xe s
def MtR(X:Cx)(id:String)(r:V→List V→Hp→VK→Prop):Prop:=
 ∀(pins:List (Addr×Obj)) (s:Shared) (σ:St) (H:Hp) (x:V) (xs:List V) (v:Value) (us:List Value) (Q:VK),Inv X pins σ H s→RelV x v→j6 xs us→r x xs H Q →
  wpAny (model X.prog X.w) X.A (call (.builtin id) (v::us)) (EP X pins σ Q) X.xe s
section
variable{X:Cx}{a b:Expr}{ta tb:TE}{pos:Pos}
theorem IxR.or{r r':R2}(h:IxR X r)(h':IxR X r'):IxR X (fun x y H Q=>r x y H Q∨r' x y H Q):=by
 intro value slice pins s σ H x y v u Q I rx ry q hs
 rcases q with q | q
 ·exact h value slice pins s σ H x y v u Q I rx ry q hs
 ·exact h' value slice pins s σ H x y v u Q I rx ry q hs
theorem d7{r:R2}(hr:IxR X r)(ha:PE X a ta)(hb:PE X b tb)(hs:b0v b):PE X (.Subscript a b pos) (tOp r ta tb):=by
 intro pins s σ H Q I h
 exact Subscript_ (b4q ha hb I h fun v u s2 x y H2 I2 rx ry q=>hr a b pins s2 σ H2 x y v u Q I2 rx ry q (hs _ _))
inductive b6H(K:PySem.W.Frag)(x y:V)(H:Hp)(Q:VK):Prop
 | mk (p:Addr) (xs:List V) (i:Int) (v:V) (e1:x=.ref p) (e2:y=.int i) (s:d8 K H p xs) (a:F7 xs i=some v) (q:Q v H)
inductive b4H(K:PySem.W.Frag)(x y:V)(H:Hp)(Q:VK):Prop
 | mk (p:Addr) (xs:List V) (i:Int) (v:V) (e1:x=.ref p) (e2:y=.int i) (s:i3 K H p xs) (a:F7 xs i=some v) (q:Q v H)
def b1A(K:PySem.W.Frag):R2:=b6H K
def b1s(K:PySem.W.Frag):R2:=b4H K
def b3B:R2:=fun x y H Q=>∃z i c,x=.str z∧y=.int i∧z.length≤sizeLine∧F7 z.cps.toList i=some c∧Q (.str ⟨#[c]⟩) H
theorem l5:IxR X (b1A X.K):=by
 intro value slice pins s σ H x y v u Q I rx ry h hs
 obtain⟨p,xs,i,z,rfl,rfl,hq,he,q⟩:=h
 cases rx
 obtain⟨t,rfl⟩:=ry
 obtain⟨its,r,pl,hz⟩:=I.list hq
 obtain⟨j,h1,h2,h3,h4,h5⟩:=a1D he
 obtain⟨w,ew,rw'⟩:=r.get h2
 have hl:=r.length
 have hn:=a5A
 have fin:EP X pins σ Q w s:=⟨z,H,I,rw',q⟩
 by_cases h0:0≤i
 ·have hj:i.toNat=j:=by
   rw[seqIndex_of h0 h5]at h1
   exact aC0 h1
  exact item_listR pl.isList h0 (by omega) (by rw[hj];simpa using ew) fin hs
 ·have hj:(i+(its.toArray.size:Int)).toNat=j:=by
   rw[seqIndex_neg (by omega) h4]at h1
   rw[aD1,←hl]
   exact aC0 h1
  exact subscriptTail_builtinR (x:=w) pl.isList.typeIs slot_list_getitem.lookup
   (wpAny_getItem_list_neg (Q:=fun r s'=>r=w∧EP X pins σ Q r s') pl.isList (by omega) (by rw[aD1]<;>omega) (by omega) (by rw[hj];simpa using ew) ⟨rfl,fin⟩) hs
theorem f6:IxR X (b1s X.K):=by
 intro value slice pins s σ H x y v u Q I rx ry h hs
 obtain⟨p,xs,i,z,rfl,rfl,hq,he,q⟩:=h
 cases rx
 obtain⟨t,rfl⟩:=ry
 obtain⟨its,r,pl,hz⟩:=I.tuple hq
 obtain⟨j,h1,h2,h3,h4,h5⟩:=a1D he
 obtain⟨w,ew,rw'⟩:=r.get h2
 have hl:=r.length
 have hn:=a5A
 have fin:EP X pins σ Q w s:=⟨z,H,I,rw',q⟩
 exact subscriptTail_builtinR (x:=w) pl.typeIs aM1.lookup
  (getItem_tuple (j:=j) (Q:=fun r s'=>r=w∧EP X pins σ Q r s') pl (by omega) (by omega) (by rw[aD1,←hl];exact h1) (by simpa using ew) ⟨rfl,fin⟩) hs
theorem b8B:IxR X b3B:=by
 intro value slice pins s σ H x y v u Q I rx ry h hs
 obtain⟨z,i,c,rfl,rfl,hz,he,q⟩:=h
 obtain⟨t,rfl⟩:=rx
 obtain⟨t',rfl⟩:=ry
 obtain⟨j,h1,h2,h3,h4,h5⟩:=a1D he
 have hl:z.cps.toList.length=z.length:=by simp[Str.length]
 rw[hl]at h1 h4 h5
 have hn:=a5A
 exact tail_any (typeIs_str s z t) slot_str_getitem.lookup (getItem_str (c:=c) (by
  have e1:decide (i< -(2 ^ 63:Int))=false:=aB2 (by omega)
  have e2:decide (i≥2 ^ 63)=false:=aB2 (by omega)
  rw[e1,e2,Bool.or_false]) (by rw[h1];simpa using h2) ⟨.str ⟨#[c]⟩,H,I.tok _,⟨_,rfl⟩,q⟩) hs
def rIx(K:PySem.W.Frag):R2:=fun x y H Q=>b1A K x y H Q∨b1s K x y H Q∨b3B x y H Q
theorem b8h:IxR X (rIx X.K):=l5.or (f6.or b8B)
theorem a7S(lo hi:Option Int)(n:Nat):(sliceBounds lo hi none n).1=((HT.z9 n 0 lo:Nat):Int)∧(sliceBounds lo hi none n).2.1=((HT.z9 n n hi:Nat):Int)∧(sliceBounds lo hi none n).2.2=1:=by
 refine⟨?_,?_,rfl⟩
 ·cases lo with
  | none=>simp[sliceBounds,HT.z9]
  | some i=>
   simp only[sliceBounds,HT.z9,Option.getD_none,show(1:Int)>0 by decide,aQ1]
   by_cases h:i<0
   ·simp only[h,aQ1]<;>omega
   ·simp only[h,aO4]<;>omega
 ·cases hi with
  | none=>simp[sliceBounds,HT.z9]
  | some i=>
   simp only[sliceBounds,HT.z9,Option.getD_none,show(1:Int)>0 by decide,aQ1]
   by_cases h:i<0
   ·simp only[h,aQ1]<;>omega
   ·simp only[h,aO4]<;>omega
theorem a7L(its:List Value)(lo hi:Option Int):slicePick its.toArray lo hi none=((its.drop (HT.z9 its.length 0 lo)).take (HT.z9 its.length its.length hi-HT.z9 its.length 0 lo)).toArray:=by
 obtain⟨h1,h2,h3⟩:=a7S lo hi its.toArray.size
 unfold slicePick
 rw[h1,h2,h3]
 simp only[sliceRange_one,pick_run,aD1]<;>rfl
def b5H(K:PySem.W.Frag):V→Option Int→Option Int→Hp→VK→Prop:=fun x lo hi H Q=>∃a xs,x=.ref a∧d8 K H a xs∧∀p,H p=none→Q (.ref p) (upd H p (.lst (W4 xs lo hi)))
theorem R7:SlR X (b5H X.K):=by
 intro pins s σ H x v vl vu lo hi sl Q I rx hs pl pu h
 obtain⟨a,xs,rfl,hx,q⟩:=h
 cases rx
 obtain⟨its,r,ht,hz⟩:=I.list hx
 have hlen:=r.length
 refine⟨"list",_,slot_list_getitem.lookup,ht.isList.typeIs,?_⟩
 refine wpAny_getItem_list_slice ht.isList hs pl pu .none (by simp) ?_ (by rw[aD1]<;>omega)
 rw[a7L,←hlen]
 refine⟨.ref s.heap.objs.size,_,I.laid (t':=s.toks) (o:=.lst (W4 xs lo hi)) (fun b ob q=>aA7 _ q) (aB3 _) ?_,rfl,q _ (I.hok.fresh (aB3 _))⟩
 exact⟨aD7 (a6u xs lo hi) hz,_,0,(r.drop (HT.z9 xs.length 0 lo)).take (HT.z9 xs.length xs.length hi-HT.z9 xs.length 0 lo),aC5 _ rfl⟩
def Y6:V→Bool
 | .non=>true
 | .bl _=>true
 | .int _=>true
 | .str _=>true
 | _=>false
def eqV:V→V→Bool
 | .non,.non=>true
 | .bl a,.bl b=>a==b
 | .bl a,.int b=>(if a then 1 else 0)==b
 | .int a,.bl b=>a==(if b then 1 else 0)
 | .int a,.int b=>a==b
 | .str a,.str b=>a==b
 | _,_=>false
theorem b3C{A:Around}{s:Shared}{y x:V}{u v:Value}(ry:RelV y u)(rx:RelV x v)(fy:Y6 y=true)(fx:Y6 x=true):SeqAt.EqAt A s u v (eqV y x):=by
 cases y with
 | non=>
  cases ry
  cases x with
  | non=>cases rx;exact SeqAt.EqAt.same _
  | bl b=>cases rx;exact SeqAt.EqAt.none_bool b
  | int b=>obtain⟨t,rfl⟩:=rx;exact SeqAt.EqAt.none_int b t
  | str b=>obtain⟨t,rfl⟩:=rx;exact SeqAt.EqAt.none_str b t
  | _=>exact absurd (show false=true from fx) aC9
 | bl a=>
  cases ry
  cases x with
  | non=>cases rx;exact SeqAt.EqAt.bool_none a
  | bl b=>cases rx;exact SeqAt.EqAt.bool_bool a b
  | int b=>obtain⟨t,rfl⟩:=rx;exact SeqAt.EqAt.bool_int a b t
  | str b=>obtain⟨t,rfl⟩:=rx;exact SeqAt.EqAt.bool_str a b t
  | _=>exact absurd (show false=true from fx) aC9
 | int a=>
  obtain⟨t',rfl⟩:=ry
  cases x with
  | non=>cases rx;exact SeqAt.EqAt.int_none a t'
  | bl b=>cases rx;exact SeqAt.EqAt.int_bool a t' b
  | int b=>obtain⟨t,rfl⟩:=rx;exact SeqAt.EqAt.int_int a t' b t
  | str b=>obtain⟨t,rfl⟩:=rx;exact SeqAt.EqAt.int_str a t' b t
  | _=>exact absurd (show false=true from fx) aC9
 | str a=>
  obtain⟨t',rfl⟩:=ry
  cases x with
  | non=>cases rx;exact SeqAt.EqAt.str_none a t'
  | bl b=>cases rx;exact SeqAt.EqAt.str_bool a t' b
  | int b=>obtain⟨t,rfl⟩:=rx;exact SeqAt.EqAt.str_int a t' b t
  | str b=>obtain⟨t,rfl⟩:=rx;exact SeqAt.EqAt.str_str a t' b t
  | _=>exact absurd (show false=true from fx) aC9
 | _=>exact absurd (show false=true from fy) aC9
def eqU(x:V)(u:Value):Bool:=match u with
 | .none=>eqV .non x
 | .bool b=>eqV (.bl b) x
 | .int i _=>eqV (.int i) x
 | .str z _=>eqV (.str z) x
 | _=>false
theorem b7e{x y:V}{u:Value}(r:RelV y u)(f:Y6 y=true):eqU x u=eqV y x:=by
 cases y with
 | non=>cases r;rfl
 | bl b=>cases r;rfl
 | int i=>obtain⟨t,rfl⟩:=r;rfl
 | str z=>obtain⟨t,rfl⟩:=r;rfl
 | _=>exact absurd (show false=true from f) aC9
theorem a0i{x:V}:∀{xs:List V} {us:List Value},j6 xs us→xs.all Y6=true→us.any (eqU x)=xs.any fun y=>eqV y x
 | _,_,.nil,_=>rfl
 | y::xs,u::us,.cons r t,f=>by
  rw[aU1,aE9]at f
  rw[aL1,aL1,b7e r f.1,a0i t f.2]
theorem a5e{A:Around}{s:Shared}{x:V}{v:Value}(rx:RelV x v)(fx:Y6 x=true):∀{xs:List V} {us:List Value},j6 xs us→xs.all Y6=true→∀u∈us,SeqAt.EqAt A s u v (eqU x u)
 | _,_,.nil,_=>fun u hu=>by cases hu
 | y::xs,u::us,.cons r t,f=>fun u' hu=>by
  rw[aU1,aE9]at f
  rcases aB7.mp hu with rfl | hu
  ·rw[b7e r f.1];exact b3C r rx f.1 fx
  ·exact a5e rx fx t f.2 u' hu
def inV(x:V)(xs:List V):Bool:=xs.any fun y=>eqV y x
inductive b0H(K:PySem.W.Frag)(xs:List V)(H:Hp)(Q:VK):Prop
 | mk (p:Addr) (ys:List V) (e:xs=[.ref p]) (s:d8 K H p ys∨i3 K H p ys) (q:Q (.int ys.length) H)
inductive IIs(K:PySem.W.Frag)(neg:Bool)(x y:V)(H:Hp)(Q:VK):Prop
 | mk (p:Addr) (xs:List V) (e:y=.ref p) (s:d8 K H p xs∨i3 K H p xs) (f:Y6 x=true) (g:xs.all Y6=true) (q:Q (.bl (if neg then !inV x xs else inV x xs)) H)
def rIn(K:PySem.W.Frag)(neg:Bool):R2:=IIs K neg
theorem N2:G7 X (compareOp .In) (rIn X.K false):=by
 intro pins s σ H x y v u Q I rx ry h
 obtain⟨p,xs,rfl,hq,fx,fs,q⟩:=h
 cases ry
 rcases hq with hq | hq
 ·obtain⟨its,r,pl,hz⟩:=I.list hq
  refine SeqAt.in_listAt (eqU x) pl.isList (fun w hw=>a5e rx fx r fs w (by simpa using hw)) ⟨.bl _,H,I,rfl,?_⟩
  rw[show its.toArray.any (eqU x)=its.any (eqU x) by simp,a0i r fs]
  exact q
 ·obtain⟨its,r,pl,hz⟩:=I.tuple hq
  refine SeqAt.in_tupleAt (eqU x) pl (fun w hw=>a5e rx fx r fs w (by simpa using hw)) ⟨.bl _,H,I,rfl,?_⟩
  rw[show its.toArray.any (eqU x)=its.any (eqU x) by simp,a0i r fs]
  exact q
theorem a4n:G7 X (compareOp .NotIn) (rIn X.K true):=by
 intro pins s σ H x y v u Q I rx ry h
 obtain⟨p,xs,rfl,hq,fx,fs,q⟩:=h
 cases ry
 rcases hq with hq | hq
 ·obtain⟨its,r,pl,hz⟩:=I.list hq
  refine SeqAt.notIn_listAt (eqU x) pl.isList (fun w hw=>a5e rx fx r fs w (by simpa using hw)) ⟨.bl _,H,I,rfl,?_⟩
  rw[show its.toArray.any (eqU x)=its.any (eqU x) by simp,a0i r fs]
  exact q
 ·obtain⟨its,r,pl,hz⟩:=I.tuple hq
  refine SeqAt.notIn_tupleAt (eqU x) pl (fun w hw=>a5e rx fx r fs w (by simpa using hw)) ⟨.bl _,H,I,rfl,?_⟩
  rw[show its.toArray.any (eqU x)=its.any (eqU x) by simp,a0i r fs]
  exact q
theorem i5:N5 X (.builtin "len") (b0H X.K):=by
 intro pins s σ H xs us Q I r h
 obtain⟨p,ys,rfl,hq,q⟩:=h
 obtain⟨u,rfl,rx⟩:=vals1 r
 cases rx
 have hn:=a5A
 rcases hq with hq | hq
 ·obtain⟨its,r',pl,hz⟩:=I.list hq
  have hlen:=r'.length
  exact Calls.call_len_list pl.isList (by simp only[aD1]<;>omega) ⟨.int ys.length,H,I.tok _,⟨s.toks+1,by rw[aD1,hlen]⟩,q⟩
 ·obtain⟨its,r',pl,hz⟩:=I.tuple hq
  have hlen:=r'.length
  exact len_tuple pl (by simp only[aD1]<;>omega) ⟨.int ys.length,H,I.tok _,⟨s.toks+1,by rw[aD1,hlen]⟩,q⟩
theorem a8d:N5 X (.type "list") (fun xs H Q=>∃p ys,xs=[.ref p]∧(d8 X.K H p ys∨i3 X.K H p ys)∧∀l,H l=none→Q (.ref l) (upd H l (.lst ys))):=by
 intro pins s σ H xs us Q I r h
 obtain⟨p,ys,rfl,hq,q⟩:=h
 obtain⟨u,rfl,rx⟩:=vals1 r
 cases rx
 have fin:∀(its:List Value),j6 ys its→ys.length≤sizeLine→∀(h':Heap) (c':Nat),(∀b o',s.heap.get? b=some o'→h'.get? b=some o') →
   h'.get? s.heap.objs.size=some { cls:=.type "list",dict:=none,data:=.seq its.toArray c',slots:=#[] }→EP X pins σ Q (.ref s.heap.objs.size) { s with heap:=h' }:=fun its r' hz h' c' kp e=>
  ⟨.ref s.heap.objs.size,_,I.laid (t':=s.toks) kp (aB3 _) (show C0 X.prog X.w _ h' _ (.lst ys) from⟨hz,its,c',r',e⟩),rfl,q _ (I.hok.fresh (aB3 _))⟩
 rcases hq with hq | hq
 ·obtain⟨its,r',pl,hz⟩:=I.list hq
  have hlen:=r'.length
  obtain⟨o,ho,hc,n,hd⟩:=pl.isList
  exact call_list_seq p (.inl rfl) ho hc hd (fun h' c' kp e=>fin its r' hz h' c' kp e) (by simp only[aD1]<;>omega)
 ·obtain⟨its,r',pl,hz⟩:=I.tuple hq
  have hlen:=r'.length
  obtain⟨o,ho,hc,n,hd⟩:=pl
  exact call_list_seq p (.inr rfl) ho hc hd (fun h' c' kp e=>fin its r' hz h' c' kp e) (by simp only[aD1]<;>omega)
def tyV(K:PySem.W.Frag)(T:String)(x:V)(H:Hp):Prop:=match x with
 | .str _=>T="str"
 | .int _=>T="int"
 | .ref p=>(T="list"∧∃xs,d8 K H p xs)∨(T="tuple"∧∃o,K.lookup p=some o∧o.cls=.type "tuple"∧o.dict=none) ∨
   (T="dict"∧((∃kvs,H p=some (.dK kvs))∨∃kvs,H p=some (.dT kvs)))∨(T="set"∧∃S n,H p=some (.set S n))
 | _=>False
theorem b7j{pins:List (Addr×Obj)}{σ:St}{H:Hp}{s:Shared}{T:String}{x:V}{v:Value}(I:Inv X pins σ H s)(r:RelV x v)(ty:tyV X.K T x H) :
  s.TypeIs v T∧∀a,v=.ref a→∃ob,s.heap.get? a=some ob∧ob.dict=none:=by
 cases x with
 | str z=>
  obtain⟨t,rfl⟩:=r
  cases (show T="str" from ty)
  exact⟨typeIs_str s z t,fun _ e=>nomatch e⟩
 | int i=>
  obtain⟨t,rfl⟩:=r
  cases (show T="int" from ty)
  exact⟨typeIs_int s i t,fun _ e=>nomatch e⟩
 | ref p=>
  cases r
  rcases ty with ⟨rfl,xs,hq⟩ | ⟨rfl,o,hk,hc,hd⟩ | ⟨rfl,hk⟩ | ⟨rfl,S,n,hk⟩
  ·obtain⟨its,_,pl,_⟩:=I.list hq
   refine⟨pl.isList.typeIs,fun a e=>?_⟩
   cases e
   obtain⟨o,n,e,c,hd,_⟩:=pl
   exact⟨o,e,hd⟩
  ·refine⟨⟨o,I.kIn p o hk,hc⟩,fun a e=>?_⟩
   cases e
   exact⟨o,I.kIn _ o hk,hd⟩
  ·have z:∃o,s.heap.get? p=some o∧o.ExactDict:=by
    rcases hk with ⟨kvs,hk⟩ | ⟨kvs,hk⟩
    ·obtain⟨_,_,_,_,o,_,_,e,ex,_⟩:=I.hok p _ hk
     exact⟨o,e,ex⟩
    ·obtain⟨_,_,_,_,o,_,_,e,ex,_⟩:=I.hok p _ hk
     exact⟨o,e,ex⟩
   obtain⟨o,e,ex⟩:=z
   refine⟨⟨o,e,ex.1⟩,fun a e2=>?_⟩
   cases e2
   exact⟨o,e,ex.2.1⟩
  ·obtain⟨o,_,_,_,e,ex,_⟩:=I.hok p _ hk
   refine⟨⟨o,e,ex.1⟩,fun a e2=>?_⟩
   cases e2
   exact⟨o,e,ex.2.1⟩
 | _=>exact False.elim ty
def b7G(K:PySem.W.Frag)(T:String)(r:V→List V→Hp→VK→Prop)(to:TE):TE:=fun σ H Q=>to σ H fun x H1=>tyV K T x H1∧r x [] H1 Q
def tBM(K:PySem.W.Frag)(T:String)(r:V→List V→Hp→VK→Prop)(to:TE)(t:TA):TE:=fun σ H Q=>to σ H fun x H1=>tyV K T x H1∧t σ H1 fun xs H2=>r x xs H2 Q
variable{o e:Expr}{es:List Expr}{to:TE}{t:TA}{name:Str}{apos cpos:Pos}{T id:String}{r:V→List V→Hp→VK→Prop}
theorem b4l(pa:PlainAttrs T)(slot:Slot T name id)(hty:typeOf (.builtin id)=pure (.type "method_descriptor"))(hm:MtR X id r)(ho:PE X o to)
  (hbase:attributeBase o name X.env (eval o X.env)=eval o X.env:=by rfl) (hline:(apos.endLine==cpos.line)=true:=by rfl):PE X (.Call (.Attribute o name apos) [] [] cpos) (b7G X.K T r to):=by
 intro pins s σ H Q I h
 refine aR9 hbase hline (n5 (ho pins s σ H _ I h) fun v s1 ⟨x,H1,I1,r1,ty,q1⟩=>?_)
 obtain⟨h1,h2⟩:=b7j I1 r1 ty
 exact⟨T,id,pa,slot,hty,h1,h2,aI4 rfl (aS5 (hm pins s1 σ H1 x [] v [] Q I1 r1 .nil q1))⟩
theorem v9(pa:PlainAttrs T)(slot:Slot T name id)(hty:typeOf (.builtin id)=pure (.type "method_descriptor"))(hm:MtR X id r)(ho:PE X o to)(ha:PA X (e::es) t)
  (hbase:attributeBase o name X.env (eval o X.env)=eval o X.env:=by rfl)
  (hfew:((backTo cpos (starEach (e::es) X.env)).all (fun x=>!x.1)&&(backToKw cpos (keywordEach [] X.env)).all (fun x=>x.1.isSome)
   && decide ((e::es).length+([]:List Keyword).length+(if ([]:List Keyword).isEmpty then 0 else 1)<30))=true:=by rfl)
  (hline:(apos.endLine==cpos.line)=true:=by rfl) (hs:starEach (e::es) X.env=(false,eval e X.env)::starEach es X.env:=by rfl) (hplain:(backTo cpos (starEach es X.env)).any (·.1)=false:=by rfl) :
  PE X (.Call (.Attribute o name apos) (e::es) [] cpos) (tBM X.K T r to t):=by
 intro pins s σ H Q I h
 refine wpAny_Call_method_late hbase hfew hline rfl (n5 (ho pins s σ H _ I h) fun v s1 ⟨x,H1,I1,r1,ty,q1⟩=>?_)
 obtain⟨h1,h2⟩:=b7j I1 r1 ty
 refine⟨T,id,pa,slot,hty,h1,h2,?_⟩
 have hA:=ha cpos pins s1 σ H1 _ I1 q1
 rw[hs]at hA ⊢
 refine aI4 (by show(false||(backTo cpos (starEach es X.env)).any (·.1))=false;rw[hplain]<;>rfl) (aP4 ?_)
 exact n5 hA fun us s2 ⟨vs,H2,I2,r2,q2⟩=>hm pins s2 σ H2 x vs v us Q I2 r1 r2 q2
end
open PySem PySem.Spec PyProof.Rows
def MtM(X:Cx)(id:String)(r:V→List V→Hp→VK→Prop):Prop:=
 ∀(pins:List (Addr×Obj)) (s:Shared) (σ:St) (H:Hp) (x:V) (xs:List V) (v:Value) (us:List Value) (Q:VK),Inv X pins σ H s→RelV x v→j6 xs us→r x xs H Q →
  wpAny (model X.prog X.w) X.A (call (.builtin id) (v::us)) (EP X pins σ Q) X.xe s
theorem j6.one:∀{x:V} {us:List Value},j6 [x] us→∃u,us=[u]∧RelV x u
 | _,_,.cons r .nil=>⟨_,rfl,r⟩
theorem j6.zero:∀{us:List Value},j6 [] us→us=[]
 | _,.nil=>rfl
theorem j6.dropLast{xs:List V}{us:List Value}(h:j6 xs us):j6 xs.dropLast us.dropLast:=by
 induction h with
 | nil=>exact .nil
 | cons r t ih=>
  cases t with
  | nil=>exact .nil
  | cons q t'=>exact .cons r ih
theorem j6.eraseIdx:∀{xs:List V} {us:List Value} (i:Nat),j6 xs us→j6 (xs.eraseIdx i) (us.eraseIdx i)
 | _,_,_,.nil=>.nil
 | _,_,0,.cons _ t=>t
 | _,_,i+1,.cons r t=>.cons r (j6.eraseIdx i t)
theorem j6.rep{xs:List V}{us:List Value}(h:j6 xs us):∀k:Nat,j6 (List.replicate k xs).flatten (List.replicate k us).flatten
 | 0=>.nil
 | k+1=>by
  rw[aJ5,aJ5,aK6,aK6]
  exact j6.append h (j6.rep h k)
theorem a9Z{α:Type}(l:List α):l.eraseIdx (l.length-1)=l.dropLast:=by
 induction l with
 | nil=>rfl
 | cons a r ih=>
  cases r with
  | nil=>rfl
  | cons b r=>
   have e:(a::b::r).length-1=((b::r).length-1)+1:=by
    have h1:(a::b::r).length=r.length+2:=rfl
    have h2:(b::r).length=r.length+1:=rfl
    omega
   rw[e,aL0,ih]
   all_goals rfl
theorem foldl_rep(its:List Value):∀(k:Nat) (acc:List Value),
  List.foldl (fun x1 x2=>x1++x2) acc.toArray (List.replicate k its.toArray)=(acc++(List.replicate k its).flatten).toArray
 | 0,acc=>by simp
 | k+1,acc=>by
  have e:acc.toArray++its.toArray=(acc++its).toArray:=by simp
  have e2:(acc++its)++(List.replicate k its).flatten=acc++(List.replicate (k+1) its).flatten:=by
   rw[aJ5,aK6,aG0]
  rw[←e2,←foldl_rep its k (acc++its),←e,aJ5,aI5]
section
variable{X:Cx}{pins:List (Addr×Obj)}{σ:St}{H:Hp}{s:Shared}{l b:Addr}{xs ys zs:List V}
theorem Inv.lset{its its':List Value}{n:Nat}{f:Array Value→Array Value}{t':Nat}(I:Inv X pins σ H s)(hH:H l=some (.lst xs))
  (e:s.heap.get? l=some { cls:=.type "list",data:=.seq its.toArray n }) (hf:f its.toArray=its'.toArray) (hv:j6 ys its') (hz:ys.length≤sizeLine) :
  Inv X pins σ (upd H l (.lst ys)) { s with heap:=s.heap.update l (Obj.mapSeq f),toks:=t' }:=by
 have q:=PySem.IsL.update e f
 rw[hf]at q
 refine I.write (x:=l) (e:=l) (by rw[hH];exact trivial) (.inl rfl) (fun b' u hb hu=>(aF8 s.heap (Obj.mapSeq f) (Ne.symm hb)).trans hu) ⟨_,q⟩ ?_
 exact⟨hz,its',_,hv,q⟩
theorem Inv.lnew{its:List Value}{t':Nat}(I:Inv X pins σ H s)(hv:j6 ys its)(hz:ys.length≤sizeLine) :
  Inv X pins σ (upd H s.heap.objs.size (.lst ys)) { s with heap:=s.heap.push { cls:=.type "list",data:=.seq its.toArray },toks:=t' }:=
 I.laid (fun _ _ q=>aA7 _ q) (aB3 _) ⟨hz,its,0,hv,aC5 _ rfl⟩
theorem Inv.fresh(I:Inv X pins σ H s):H s.heap.objs.size=none:=I.hok.fresh (aB3 _)
theorem Inv.lstM(I:Inv X pins σ H s)(hH:H l=some (.lst xs)):xs.length≤sizeLine∧∃(its:List Value) (n:Nat),j6 xs its∧xs.length=its.length∧s.heap.get? l=some { cls:=.type "list",data:=.seq its.toArray n }:=by
 obtain⟨z,its,n,r,e⟩:=I.hok l _ hH
 exact⟨z,its,n,r,r.length,e⟩
theorem a2R{n:Nat}(h:n≤sizeLine):Builtin.List.listTooLong n=false:=by
 unfold Builtin.List.listTooLong
 exact aB2 (by omega)
end
section
variable{X:Cx}
inductive b6y(x:V)(vs:List V)(H:Hp)(Q:VK):Prop
 | mk (l:Addr) (xs:List V) (y:V) (e1:x=.ref l) (e2:vs=[y]) (h:H l=some (.lst xs)) (z:xs.length<sizeLine) (q:Q .non (upd H l (.lst (xs++[y]))))
def b6x:V→List V→Hp→VK→Prop:=b6y
theorem n6:MtM X "list.append" b6x:=by
 intro pins s σ H x vs v us Q I rx rv h
 obtain⟨l,xs,y,rfl,rfl,hH,hz,q⟩:=h
 cases rx
 obtain⟨u,rfl,ru⟩:=rv.one
 obtain⟨z,its,n,r,hl,e⟩:=I.lstM hH
 refine aR0 aB6 ⟨_,e,rfl⟩ F.entry_list_append (F.args_list_append_2 _ _) (PySem.list_append l its.toArray n u (by rw[aD1];omega)) ⟨e,?_⟩
 refine⟨.non,_,I.lset (its':=its++[u]) hH e (by simp) (r.append (.cons ru .nil)) ?_,rfl,q⟩
 rw[aA4,aE6]
 omega
def b2y:V→List V→Hp→VK→Prop:=fun x vs H Q=>∃l b xs zs,x=.ref l∧vs=[.ref b]∧H l=some (.lst xs)∧H b=some (.lst zs)∧xs.length+zs.length≤sizeLine∧Q .non (upd H l (.lst (xs++zs)))
theorem Z1:MtM X "list.extend" b2y:=by
 intro pins s σ H x vs v us Q I rx rv h
 obtain⟨l,b,xs,zs,rfl,rfl,hH,hB,hz,q⟩:=h
 cases rx
 obtain⟨u,rfl,ru⟩:=rv.one
 cases ru
 obtain⟨z,its,n,r,hl,e⟩:=I.lstM hH
 obtain⟨z2,its2,n2,r2,hl2,e2⟩:=I.lstM hB
 have hsz:its.toArray.size+its2.toArray.size≤sizeLine:=by rw[aD1,aD1];omega
 have hlong:¬(!its.toArray.isEmpty&&Builtin.List.listTooLong (its.toArray.size+its2.toArray.size))=true:=by
  rw[a2R hsz,aS4]
  exact aC9
 refine aR0 aJ3 ⟨_,e,rfl⟩ F.entry_list_extend (F.args_list_extend_2 _ _)
  (AutoSeq1.list_extend_list_list_0 l its.toArray n b its2.toArray n2 hlong (by rw[aD1];omega) (by omega)) ⟨e,e2,?_⟩
 refine⟨.non,_,I.lset (its':=its++its2) hH e (by simp) (r.append r2) ?_,rfl,q⟩
 rw[aA4]
 omega
def b1H:V→List V→Hp→VK→Prop:=fun x vs H Q=>∃l xs y,x=.ref l∧vs=[]∧H l=some (.lst xs)∧xs[xs.length-1]?=some y∧Q y (upd H l (.lst xs.dropLast))
theorem b9i:MtM X "list.pop" b1H:=by
 intro pins s σ H x vs v us Q I rx rv h
 obtain⟨l,xs,y,rfl,rfl,hH,hy,q⟩:=h
 cases rx
 have hus:=rv.zero
 subst hus
 obtain⟨z,its,n,r,hl,e⟩:=I.lstM hH
 obtain⟨u,hu,ru⟩:=r.get hy
 have hy':its.toArray[its.toArray.size-1]?=some u:=by
  show its.toArray[its.length-1]?=some u
  rw[←aM0,←hl]
  exact hu
 refine aR0 aT7 ⟨_,e,rfl⟩ F.entry_list_pop (F.args_list_pop_1 _) (MeetsSeq.list_pop_last l its.toArray n u hy' (by rw[aD1];omega)) ⟨e,?_⟩
 refine⟨y,_,I.lset (its':=its.dropLast) hH e ?_ r.dropLast ?_,ru,q⟩
 ·show its.toArray.eraseIdxIfInBounds (its.toArray.size-1)=its.dropLast.toArray
  rw[aD1,List.eraseIdxIfInBounds_toArray,a9Z]
 ·rw[List.length_dropLast]
  omega
def b5F:R2:=fun x y H Q=>∃l b xs zs,x=.ref l∧y=.ref b∧H l=some (.lst xs)∧H b=some (.lst zs)∧xs.length+zs.length≤sizeLine∧∀p,H p=none→Q (.ref p) (upd H p (.lst (xs++zs)))
theorem Q9:G7 X (binaryOp .Add) b5F:=by
 intro pins s σ H x y v u Q I rx ry h
 obtain⟨l,b,xs,zs,rfl,rfl,hH,hB,hz,q⟩:=h
 cases rx
 cases ry
 obtain⟨z,its,n,r,hl,e⟩:=I.lstM hH
 obtain⟨z2,its2,n2,r2,hl2,e2⟩:=I.lstM hB
 refine PySem.P.add_list e e2 ?_ (by rw[aD1,aD1];omega)
 have ea:its.toArray++its2.toArray=(its++its2).toArray:=by simp
 rw[ea]
 exact⟨.ref _,_,I.lnew (t':=s.toks) (r.append r2) (by rw[aA4];omega),rfl,q _ I.fresh⟩
def b2I:R2:=fun x y H Q=>∃l k xs,x=.ref l∧y=.int k∧H l=some (.lst xs)∧-(2 ^ 63)≤k∧k<2 ^ 63∧xs.length*k.toNat≤sizeLine ∧
 ∀p,H p=none→Q (.ref p) (upd H p (.lst (List.replicate k.toNat xs).flatten))
theorem len_rep{α:Type}(xs:List α)(k:Nat):(List.replicate k xs).flatten.length=k*xs.length:=by
 induction k with
 | zero=>simp
 | succ k ih=>rw[aJ5,aK6,aA4,ih,Nat.succ_mul,Nat.add_comm]
theorem b6z:G7 X (binaryOp .Mult) b2I:=by
 intro pins s σ H x y v u Q I rx ry h
 obtain⟨l,k,xs,rfl,rfl,hH,h1,h2,hz,q⟩:=h
 cases rx
 obtain⟨t,rfl⟩:=ry
 obtain⟨z,its,n,r,hl,e⟩:=I.lstM hH
 have hlen:its.toArray.size*k.toNat≤sizeLine:=by rw[aD1,←hl];exact hz
 have hcap:¬its.toArray.size*k.toNat>(2 ^ 63-1)/8:=by
  have:(sizeLine:Nat)≤(2 ^ 63-1)/8:=by decide
  omega
 have hfit:¬(!Builtin.List.listFitsIndex k)=true:=by
  rw[fitsIndex_both h1 h2]
  exact aC9
 have hlong:¬Builtin.List.listTooLong (its.toArray.size*k.toNat)=true:=by
  rw[a2R hlen]
  exact aC9
 have hnew:List.foldl (fun x1 x2=>x1++x2) #[] (List.replicate (if its.toArray.isEmpty=true then 0 else k.toNat) its.toArray)=(List.replicate k.toNat its).flatten.toArray:=by
  have f0:∀m:Nat,List.foldl (fun x1 x2=>x1++x2) #[] (List.replicate m its.toArray)=(List.replicate m its).flatten.toArray:=fun m=>by
   have:=foldl_rep its m []
   rw[aP0]at this
   exact this
  rw[f0]
  cases its with
  | nil=>simp
  | cons a r'=>rw[aA8 (by simp)]
 refine wpAny_binaryOp_repeat_ref (T:="list") (U:="int") (by decide) ⟨_,e,rfl⟩ (fun s'=>typeIs_int s' k t) noFill_list_mul F.fills_int_mul F.slot_int_rmul repeat_list F.slot_int_index.lookup
  (aR0 F.slot_int_rmul (typeIs_int s k t) F.entry_int_rmul (F.args_int_rmul_2 _ _) (int___rmul___int_list k t l its.toArray n)
   ⟨e,rfl,⟨_,e,rfl⟩,aR0 F.slot_list_mul ⟨_,e,rfl⟩ F.entry_list_mul (F.args_list_mul_2 _ _) (AutoListH.list___mul___list_int_3 l its.toArray n k t hfit hcap hlong) ⟨e,?_⟩⟩)
 rw[hnew]
 exact⟨.ref _,_,I.lnew (t':=s.toks) (r.rep k.toNat) (by rw[len_rep,Nat.mul_comm];exact hz),rfl,q _ I.fresh⟩
end
section
variable{prog:Program}{w:World}{A:Around}{E:Value→Shared→Prop}{s:Shared}
end
section
variable{X:Cx}
end
open PySem PySem.Spec PyProof.Rows
section
variable{κ:Type}[DecidableEq κ]
def C1(kvs:List (κ×V))(k:κ):Option V:=(kvs.find? fun kv=>decide (kv.1=k)).map (·.2)
def putK(kvs:List (κ×V))(k:κ)(v:V):List (κ×V):=
 if (kvs.any fun kv=>decide (kv.1=k))=true then kvs.map (fun kv=>if kv.1=k then(kv.1,v) else kv) else kvs++[(k,v)]
def J6(kvs:List (κ×V))(k:κ):List (κ×V):=kvs.filter fun kv=>decide (kv.1≠k)
theorem M0{p:κ×V}{r:List (κ×V)}{k:κ}(e:p.1=k):C1 (p::r) k=some p.2:=by simp[C1,aH7,e]
theorem L7{p:κ×V}{r:List (κ×V)}{k:κ}(e:¬p.1=k):C1 (p::r) k=C1 r k:=by simp[C1,aH7,e]
theorem a8i(k:κ):∀kvs:List (κ×V),(kvs.any fun kv=>decide (kv.1=k))=(C1 kvs k).isSome
 | []=>rfl
 | p::r=>by
  rw[aL1]
  by_cases e:p.1=k
  ·simp only[M0 e,aC4 e,Bool.true_or,Option.isSome_some]
  ·rw[L7 e,aB2 e,Bool.false_or];exact a8i k r
theorem a1V(k j:κ)(y:V):∀kvs:List (κ×V),C1 (kvs.map fun kv=>if kv.1=k then(kv.1,y) else kv) j=(C1 kvs j).map fun x=>if j=k then y else x
 | []=>rfl
 | p::r=>by
  have ih:=a1V k j y r
  rw[aC3]
  by_cases h:p.1=k
  ·rw[aB4 h]
   by_cases e:p.1=j
   ·rw[M0 (p:=(p.1,y)) e,M0 e,aR4,aB4 (e.symm.trans h)]
   ·rw[L7 (p:=(p.1,y)) e,L7 e,ih]
  ·rw[aA8 h]
   by_cases e:p.1=j
   ·rw[M0 (p:=p) e,M0 e,aR4,aA8 (fun z=>h (e.trans z))]
   ·rw[L7 (p:=p) e,L7 e,ih]
theorem a6K(k j:κ)(y:V):∀kvs:List (κ×V),C1 kvs k=none→C1 (kvs++[(k,y)]) j=if j=k then some y else C1 kvs j
 | [],_=>by
  by_cases e:k=j
  ·rw[aB4 e.symm];exact M0 (p:=(k,y)) e
  ·rw[aA8 (fun z=>e z.symm)];exact L7 (p:=(k,y)) e
 | p::r,hn=>by
  rw[List.cons_append]
  have hk:¬p.1=k:=fun z=>by rw[M0 z]at hn;cases hn
  rw[L7 hk]at hn
  have ih:=a6K k j y r hn
  by_cases e:p.1=j
  ·rw[M0 e,M0 e,aA8 (fun z=>hk (e.trans z))]
  ·rw[L7 e,L7 e,ih]
theorem b5r(kvs:List (κ×V))(k j:κ)(y:V):C1 (putK kvs k y) j=if j=k then some y else C1 kvs j:=by
 unfold putK
 by_cases a:(kvs.any fun kv=>decide (kv.1=k))=true
 ·rw[aB4 a,a1V]
  rw[a8i]at a
  by_cases e:j=k
  ·obtain⟨x,hx⟩:=Option.isSome_iff_exists.mp a
   rw[aB4 e,e,hx,aR4,aB4 rfl]
  ·rw[aA8 e]
   cases C1 kvs j with
   | none=>rfl
   | some x=>rw[aR4,aA8 e]
 ·rw[aA8 a]
  refine a6K k j y kvs ?_
  rw[a8i]at a
  cases q:C1 kvs k with
  | none=>rfl
  | some x=>rw[q]at a;exact(a rfl).elim
theorem a2g(kvs:List (κ×V))(k:κ)(v:V):(putK kvs k v).length≤kvs.length+1:=by
 unfold putK
 split
 ·rw[aA0];omega
 ·rw[aA4,aE4,List.length_nil];omega
theorem P4.isSome_eq{o:Option V}{u:Option Value}(r:P4 o u):o.isSome=u.isSome:=by
 cases o with
 | none=>cases u with
  | none=>rfl
  | some _=>exact(show False from r).elim
 | some _=>cases u with
  | none=>exact(show False from r).elim
  | some _=>rfl
theorem P4.getD{o:Option V}{u:Option Value}{d:V}{d':Value}(r:P4 o u)(rd:RelV d d'):RelV (o.getD d) (u.getD d'):=by
 cases o with
 | none=>cases u with
  | none=>exact rd
  | some _=>exact(show False from r).elim
 | some _=>cases u with
  | none=>exact(show False from r).elim
  | some _=>exact r
theorem KV.val{kvs:List (κ×V)}{vs:List (κ×Value)}(r:KV kvs vs)(k:κ):P4 (C1 kvs k) (valueAt vs k):=by
 unfold KV at r
 induction r with
 | nil=>exact True.intro
 | @cons p q ps qs h t ih=>
  obtain⟨h1,h2⟩:=h
  by_cases e:p.1=k
  ·have e':q.1=k:=h1.symm.trans e
   have b:valueAt (q::qs) k=some q.2:=by simp[valueAt,aH7,e']
   rw[M0 e,b];exact h2
  ·have e':¬q.1=k:=fun z=>e (h1.trans z)
   have b:valueAt (q::qs) k=valueAt qs k:=by simp[valueAt,aH7,e']
   rw[L7 e,b];exact ih
theorem KV.any{kvs:List (κ×V)}{vs:List (κ×Value)}(r:KV kvs vs)(k:κ):(kvs.any fun kv=>decide (kv.1=k))=vs.any fun kv=>decide (kv.1=k):=by
 unfold KV at r
 induction r with
 | nil=>rfl
 | cons h t ih=>rw[aL1,aL1,ih,h.1]
theorem KV.repl{kvs:List (κ×V)}{vs:List (κ×Value)}(r:KV kvs vs)(k:κ){y:V}{u:Value}(ry:RelV y u) :
  KV (kvs.map fun kv=>if kv.1=k then(kv.1,y) else kv) (vs.map fun kv=>if kv.1=k then(kv.1,u) else kv):=by
 unfold KV at r ⊢
 induction r with
 | nil=>exact .nil
 | @cons p q ps qs h t ih=>
  rw[aC3,aC3]
  refine .cons ?_ ih
  obtain⟨h1,h2⟩:=h
  by_cases e:p.1=k
  ·rw[aB4 e,aB4 (h1.symm.trans e)];exact⟨h1,ry⟩
  ·rw[aA8 e,aA8 (fun z=>e (h1.trans z))];exact⟨h1,h2⟩
theorem KV.put{kvs:List (κ×V)}{vs:List (κ×Value)}(r:KV kvs vs)(k:κ){y:V}{u:Value}(ry:RelV y u):KV (putK kvs k y) (stored vs k u):=by
 unfold putK stored
 rw[r.any k]
 by_cases e:(vs.any fun kv=>decide (kv.1=k))=true
 ·rw[aB4 e,aB4 e];exact r.repl k ry
 ·rw[aA8 e,aA8 e];exact aK0 r ⟨rfl,ry⟩
theorem KV.drop{kvs:List (κ×V)}{vs:List (κ×Value)}(r:KV kvs vs)(k:κ):KV (J6 kvs k) (without vs k):=by
 unfold KV at r ⊢
 unfold J6 without
 induction r with
 | nil=>exact .nil
 | @cons p q ps qs h t ih=>
  obtain⟨h1,h2⟩:=h
  rw[aH9,aH9]
  by_cases e:p.1=k
  ·have a:¬decide (p.1≠k)=true:=by simp[e]
   have b:¬decide (q.1≠k)=true:=by simp[h1.symm.trans e]
   rw[aA8 a,aA8 b];exact ih
  ·have e':¬q.1=k:=fun z=>e (h1.trans z)
   have a:decide (p.1≠k)=true:=by simp[e]
   have b:decide (q.1≠k)=true:=by simp[e']
   rw[aB4 a,aB4 b];exact .cons ⟨h1,h2⟩ ih
theorem KV.keys{kvs:List (κ×V)}{vs:List (κ×Value)}(r:KV kvs vs):kvs.map (·.1)=vs.map (·.1):=by
 unfold KV at r
 induction r with
 | nil=>rfl
 | cons h t ih=>rw[aC3,aC3,ih,h.1]
theorem KV.length{kvs:List (κ×V)}{vs:List (κ×Value)}(r:KV kvs vs):kvs.length=vs.length:=aS0 r
theorem a5U(kvs:List (κ×V))(k:κ):(J6 kvs k).length≤kvs.length:=aH1 _ _
end
theorem a8b{P:Program}{w:World}{k:Key}{u:Value}(r:RelV (kV k) u):(v7 P w).is k u=true:=by
 cases k with
 | inl i=>obtain⟨t,e⟩:=(show ∃t,u=Value.int i t from r);subst e;exact a2W P w i t
 | inr x=>obtain⟨t,e⟩:=(show ∃t,u=Value.str x t from r);subst e;exact a4V P w x t
theorem a8K{P:Program}{w:World}:∀{ks:List Key} {us:List Value},j6 (ks.map kV) us→ItemsAre (v7 P w) ks us
 | [],_,r=>by rw[aJ4]at r;cases r;exact .nil
 | k::ks,_,r=>by
  rw[aC3]at r
  cases r with
  | cons h t=>exact .cons (a8b h) (a8K t)
abbrev KT(H:Hp):List (List Key×V)→List (List Key×Addr×Value)→Prop:=Paired fun p q=>p.1=q.1∧H q.2.1=some (.tup (p.1.map kV))∧RelV p.2 q.2.2
theorem KT.val{H:Hp}{kvs:List (List Key×V)}{xs:List (List Key×Addr×Value)}(r:KT H kvs xs)(k:List Key):P4 (C1 kvs k) ((atKey xs k).map (·.2)):=by
 induction r with
 | nil=>exact True.intro
 | @cons p q ps qs h t ih=>
  obtain⟨h1,_,h2⟩:=h
  by_cases e:p.1=k
  ·have e':q.1=k:=h1.symm.trans e
   have b:atKey (q::qs) k=some q.2:=by simp[atKey,aH7,e']
   rw[M0 e,b];exact h2
  ·have e':¬q.1=k:=fun z=>e (h1.trans z)
   have b:atKey (q::qs) k=atKey qs k:=by simp[atKey,aH7,e']
   rw[L7 e,b];exact ih
theorem KT.repl{H:Hp}{kvs:List (List Key×V)}{xs:List (List Key×Addr×Value)}(r:KT H kvs xs)(k:List Key){y:V}{u:Value}(ry:RelV y u) :
  KT H (kvs.map fun kv=>if kv.1=k then(kv.1,y) else kv) (xs.map (putAt k u)):=by
 induction r with
 | nil=>exact .nil
 | @cons p q ps qs h t ih=>
  rw[aC3,aC3]
  refine .cons ?_ ih
  obtain⟨h1,h2,h3⟩:=h
  unfold putAt
  by_cases e:p.1=k
  ·rw[aB4 e,aB4 (h1.symm.trans e)];exact⟨h1,h2,ry⟩
  ·rw[aA8 e,aA8 (fun z=>e (h1.trans z))];exact⟨h1,h2,h3⟩
theorem KT.put{H:Hp}{kvs:List (List Key×V)}{xs:List (List Key×Addr×Value)}(r:KT H kvs xs)(k:List Key){b:Addr}{y:V}{u:Value}(hb:H b=some (.tup (k.map kV)))(ry:RelV y u) :
  KT H (putK kvs k y) (storedH xs k b u):=by
 have e:(kvs.any fun kv=>decide (kv.1=k))=(atKey xs k).isSome:=by
  rw[a8i,(r.val k).isSome_eq,Option.isSome_map]
 unfold putK storedH
 rw[e]
 by_cases q:(atKey xs k).isSome=true
 ·rw[aB4 q,aB4 q];exact r.repl k ry
 ·rw[aA8 q,aA8 q];exact aK0 r ⟨rfl,hb,ry⟩
theorem KT.keeps{H H':Hp}{kvs:List (List Key×V)}{xs:List (List Key×Addr×Value)}(r:KT H kvs xs)(ht:∀b ys,H b=some (.tup ys)→H' b=some (.tup ys)):KT H' kvs xs:=
 Paired.mapP r fun _ _ z=>⟨z.1,ht _ _ z.2.1,z.2.2⟩
section
variable{P:Program}{w:World}{H:Hp}{h:Heap}{a:Addr}
theorem b5t{u:HO}(ok:M5 P w H h)(e:Rd H a u):C0 P w H h a u:=e.ok ok
theorem Y7{kvs:List (Key×V)}(ok:M5 P w H h)(e:Rd H a (.dK kvs)):kvs.length≤sizeLine∧(a==sysModules)=false∧∃vs,KV kvs vs∧h.DictOf (v7 P w) a vs:=
 show C0 P w H h a (.dK kvs) from b5t ok e
theorem a5r{kvs:List (Key×V)}(ok:M5 P w H h)(e:H a=some (.dK kvs)):kvs.length≤sizeLine∧(a==sysModules)=false∧∃vs,KV kvs vs∧h.DictOf (v7 P w) a vs:=Y7 ok (.inl e)
theorem a1h{ks:List Key}(ok:M5 P w H h)(e:H a=some (.tup (ks.map kV))):(tupleKind (v7 P w)).is h ks a:=by
 obtain⟨_,its,r,o,h1,h2,n,h3⟩:=(show C0 P w H h a (.tup (ks.map kV)) from ok a _ e)
 exact⟨o,its.toArray,n,h1,h2,h3,by simpa using a8K r⟩
theorem a3k{kvs:List (List Key×V)}(ok:M5 P w H h)(e:Rd H a (.dT kvs)):kvs.length≤sizeLine∧(a==sysModules)=false ∧
  ∃xs,KT H kvs xs∧h.DictOfH (tupleKind (v7 P w)) a xs:=by
 obtain⟨z,y,xs,r,o,es,ep,h1,h2,h3,h4,h5⟩:=(show C0 P w H h a (.dT kvs) from b5t ok e)
 refine⟨z,y,xs,r,o,es,ep,h1,h2,h3,h4,fun x hx=>?_,h5⟩
 have all:∀{l:List (List Key×V)} {m:List (List Key×Addr×Value)},KT H l m→∀x∈m,(tupleKind (v7 P w)).is h x.1 x.2.1:=by
  intro l m q
  induction q with
  | nil=>intro x hx;exact nomatch hx
  | @cons p q ps qs hq t ih=>
   intro x hx
   rcases aB7.mp hx with e | hx
   ·subst e
    exact a1h ok (by rw[←hq.1];exact hq.2.1)
   ·exact ih x hx
 exact all r x hx
theorem b5D{kvs:List (List Key×V)}(ok:M5 P w H h)(e:H a=some (.dT kvs)):kvs.length≤sizeLine∧(a==sysModules)=false ∧
  ∃xs,KT H kvs xs∧h.DictOfH (tupleKind (v7 P w)) a xs:=a3k ok (.inl e)
end
def z6(H:Hp)(a:Addr)(y:V)(r:Option V):Prop:=
 (∃kvs k,Rd H a (.dK kvs)∧y=kV k∧r=C1 kvs k)∨∃kvs k b,Rd H a (.dT kvs)∧y=.ref b∧H b=some (.tup (k.map kV))∧r=C1 kvs k
def N6(H:Hp)(a:Addr)(y v:V)(H':Hp):Prop:=
 (∃kvs k,H a=some (.dK kvs)∧y=kV k∧kvs.length<sizeLine∧H'=upd H a (.dK (putK kvs k v))) ∨
 ∃kvs k b,H a=some (.dT kvs)∧y=.ref b∧H b=some (.tup (k.map kV))∧kvs.length<sizeLine∧H'=upd H a (.dT (putK kvs k v))
theorem z6.k{H:Hp}{a:Addr}{kvs:List (Key×V)}{k:Key}(e:H a=some (.dK kvs)):z6 H a (kV k) (C1 kvs k):=.inl ⟨kvs,k,.inl e,rfl,rfl⟩
theorem z6.t{H:Hp}{a b:Addr}{kvs:List (List Key×V)}{k:List Key}(e:H a=some (.dT kvs))(eb:H b=some (.tup (k.map kV))):z6 H a (.ref b) (C1 kvs k):=.inr ⟨kvs,k,b,.inl e,rfl,eb,rfl⟩
theorem N6.k{H:Hp}{a:Addr}{kvs:List (Key×V)}{k:Key}{v:V}(e:H a=some (.dK kvs))(hl:kvs.length<sizeLine):N6 H a (kV k) v (upd H a (.dK (putK kvs k v))):=.inl ⟨kvs,k,e,rfl,hl,rfl⟩
theorem N6.t{H:Hp}{a b:Addr}{kvs:List (List Key×V)}{k:List Key}{v:V}(e:H a=some (.dT kvs))(eb:H b=some (.tup (k.map kV)))(hl:kvs.length<sizeLine) :
  N6 H a (.ref b) v (upd H a (.dT (putK kvs k v))):=.inr ⟨kvs,k,b,e,rfl,eb,hl,rfl⟩
section
variable{X:Cx}{pins:List (Addr×Obj)}{σ:St}{H:Hp}{s:Shared}{a:Addr}{y v:V}{u r:Value}{o:Option V}{A:Around}{E:Value→Shared→Prop}
theorem Inv.big(I:Inv X pins σ H s):sysModules<s.heap.objs.size:=by
 have h:mainGlobals<s.heap.objs.size:=(I.mod.glob.keeps I.bk).lt
 exact Nat.lt_trans (by decide) h
theorem b9k{Q:Value→Shared→Prop}(hu:A.units+1<cLine)(I:Inv X pins σ H s)(g:z6 H a y (some v))(ry:RelV y u)(h:∀w' s',Inv X pins σ H s'→RelV v w'→Q w' s') :
  wpAny (model X.prog X.w) A (getItem (.ref a) u) Q E s:=by
 rcases g with ⟨kvs,k,e,ey,l⟩ | ⟨kvs,k,b,e,ey,eb,l⟩
 ·subst ey
  obtain⟨z,hd,vs,rel,dd⟩:=Y7 I.hok e
  obtain⟨w',hw,rw'⟩:=P4.some_of (v:=v) (o:=valueAt vs k) (by rw[l];exact rel.val k)
  exact wpAny_getItem_of (a8b ry) dd.mapOf hw (h w' _ (I.tok _) rw')
 ·subst ey
  cases (show u=Value.ref b from ry)
  obtain⟨z,hd,xs,rel,dd⟩:=a3k I.hok e
  obtain⟨w',hw,rw'⟩:=P4.some_of (v:=v) (o:=(atKey xs k).map (·.2)) (by rw[l];exact rel.val k)
  obtain⟨p,hp,hp2⟩:=aD8.mp hw
  refine wpAny_getItem_heap (aN7 hu) (a1h I.hok eb) dd hp ?_
  rw[hp2]
  exact h w' _ (I.tok _) rw'
theorem b6F{Q:Value→Shared→Prop}(hu:A.units+1<cLine)(I:Inv X pins σ H s)(g:z6 H a y o)(ry:RelV y u)(h:∀s',Inv X pins σ H s'→Q (.bool o.isSome) s') :
  wpAny (model X.prog X.w) A (compareOp .In u (.ref a)) Q E s:=by
 rcases g with ⟨kvs,k,e,ey,l⟩ | ⟨kvs,k,b,e,ey,eb,l⟩
 ·subst ey
  obtain⟨z,hd,vs,rel,dd⟩:=Y7 I.hok e
  refine wpAny_in_of (a8b ry) hd dd.mapOf ?_
  rw[←(rel.val k).isSome_eq,←l]
  exact h _ (I.tok _)
 ·subst ey
  cases (show u=Value.ref b from ry)
  obtain⟨z,hd,xs,rel,dd⟩:=a3k I.hok e
  refine wpAny_in_heap (aN7 hu) (a1h I.hok eb) hd dd ?_
  have q:=(rel.val k).isSome_eq
  rw[Option.isSome_map]at q
  rw[←q,←l]
  exact h _ (I.tok _)
theorem b3w{Q:Value→Shared→Prop}(hu:A.units+1<cLine)(I:Inv X pins σ H s)(g:z6 H a y o)(ry:RelV y u)(h:∀s',Inv X pins σ H s'→Q (.bool (!o.isSome)) s') :
  wpAny (model X.prog X.w) A (compareOp .NotIn u (.ref a)) Q E s:=by
 rcases g with ⟨kvs,k,e,ey,l⟩ | ⟨kvs,k,b,e,ey,eb,l⟩
 ·subst ey
  obtain⟨z,hd,vs,rel,dd⟩:=Y7 I.hok e
  refine wpAny_notIn_of (a8b ry) hd dd.mapOf ?_
  rw[←(rel.val k).isSome_eq,←l]
  exact h _ (I.tok _)
 ·subst ey
  cases (show u=Value.ref b from ry)
  obtain⟨z,hd,xs,rel,dd⟩:=a3k I.hok e
  refine wpAny_notIn_heap (aN7 hu) (a1h I.hok eb) hd dd ?_
  have q:=(rel.val k).isSome_eq
  rw[Option.isSome_map]at q
  rw[←q,←l]
  exact h _ (I.tok _)
theorem a3h{h':Heap}{t':Nat}{ob:HO}(I:Inv X pins σ H s)(mu:Mut (H a))(hs:Heap.SameBut a s.heap h')(he:∃q,h'.get? a=some q)(new:C0 X.prog X.w (upd H a ob) h' a ob) :
  Inv X pins σ (upd H a ob) { s with heap:=h',toks:=t' }:=
 I.write (x:=a) (e:=a) mu (.inl rfl) (fun b q hb z=>(hs.2 b hb).trans z) he new
theorem a0B{P:Program}{w:World}{H':Hp}{h':Heap}{kvs:List (Key×V)}{vs:List (Key×Value)}(z:kvs.length≤sizeLine)(hd:(a==sysModules)=false)(rel:KV kvs vs)(dd:h'.DictOf (v7 P w) a vs) :
  C0 P w H' h' a (.dK kvs):=⟨z,hd,vs,rel,dd⟩
theorem b5f{H':Hp}{Q:Unit→Shared→Prop}(hu:A.units+1<cLine)(I:Inv X pins σ H s)(g:N6 H a y v H')(ry:RelV y u)(rv:RelV v r)(h:∀s',Inv X pins σ H' s'→Q () s') :
  wpAny (model X.prog X.w) A (setItem (.ref a) u r) Q E s:=by
 rcases g with ⟨kvs,k,e,ey,l,eH⟩ | ⟨kvs,k,b,e,ey,eb,l,eH⟩
 ·subst ey eH
  obtain⟨z,hd,vs,rel,dd⟩:=a5r I.hok e
  have hz:vs.length≤sizeLine:=by rw[←rel.length];exact z
  have hl:(putK kvs k v).length≤sizeLine:=by have:=a2g kvs k v;omega
  refine wpAny_setItem_pairs (hsz:=hz) (a8b ry) dd fun h' dd' hs=>h _ ?_
  have he:∃q,h'.get? a=some q:=let ⟨q,_,_,hq,_⟩:=dd';⟨q,hq⟩
  exact a3h I (by rw[e];exact True.intro) hs he (a0B hl hd (rel.put k rv) dd')
 ·subst ey eH
  cases (show u=Value.ref b from ry)
  obtain⟨z,hd,xs,rel,dd⟩:=b5D I.hok e
  have hz:xs.length≤sizeLine:=by rw[←aS0 rel];exact z
  have hl:(putK kvs k v).length≤sizeLine:=by have:=a2g kvs k v;omega
  refine wpAny_setItem_heap (hsz:=hz) (aN7 hu) (a1h I.hok eb) dd fun h' dd' hs=>h _ ?_
  obtain⟨q,es,ep,hq,h2,h3,h4,_,h5⟩:=dd'
  refine a3h I (by rw[e];exact True.intro) hs ⟨q,hq⟩ ⟨hl,hd,_,(rel.put k eb rv).keeps fun c ys ec=>?_,q,es,ep,hq,h2,h3,h4,h5⟩
  rw[c9 (a3A ec e (fun z=>nomatch z))]
  exact ec
end
section
variable{X:Cx}{pins:List (Addr×Obj)}{σ:St}{H:Hp}{s:Shared}{a:Addr}{kvs:List (Key×V)}{k:Key}{u:Value}{A:Around}{E:Value→Shared→Prop}
theorem b9E{Q:Unit→Shared→Prop}(I:Inv X pins σ H s)(e:H a=some (.dK kvs))(ry:RelV (kV k) u)(l:(C1 kvs k).isSome=true)(h:∀s',Inv X pins σ (upd H a (.dK (J6 kvs k))) s'→Q () s') :
  wpAny (model X.prog X.w) A (delItem (.ref a) u) Q E s:=by
 obtain⟨z,hd,vs,rel,dd⟩:=a5r I.hok e
 refine wpAny_delItem_slot dd.typeIs (by decide) PySem.F.slot_dict_delitem
  (aO8 PySem.F.slot_dict_delitem dd.typeIs PySem.F.entry_dict_delitem (PySem.F.args_dict_delitem_2 _ _) (meets_dict_delitem_pairs (v7 X.prog X.w) a (a8b ry)) ⟨vs,dd,by rw[←rel.length];exact z,by rw[←(rel.val k).isSome_eq];exact l,fun h' dd' hs=>h _ ?_⟩)
 have he:∃q,h'.get? a=some q:=let ⟨q,_,_,hq,_⟩:=dd';⟨q,hq⟩
 exact a3h I (by rw[e];exact True.intro) hs he (a0B (aD7 (a5U kvs k) z) hd (rel.drop k) dd')
theorem b2E{v:V}{more:List Value}{Q:Value→Shared→Prop}(I:Inv X pins σ H s)(e:H a=some (.dK kvs))(ry:RelV (kV k) u)(l:C1 kvs k=some v)(hm:more=[]∨∃x,more=[x])
  (h:∀w' s',Inv X pins σ (upd H a (.dK (J6 kvs k))) s'→RelV v w'→Q w' s'):wpAny (model X.prog X.w) A (call (.builtin "dict.pop") (.ref a::u::more)) Q E s:=by
 obtain⟨z,hd,vs,rel,dd⟩:=a5r I.hok e
 obtain⟨w',hw,rw'⟩:=P4.some_of (v:=v) (o:=valueAt vs k) (by rw[←l];exact rel.val k)
 have hp:(keyPart u).isSome=true:=by
  cases k with
  | inl i=>obtain⟨t,q⟩:=(show ∃t,u=Value.int i t from ry);subst q;rfl
  | inr x=>obtain⟨t,q⟩:=(show ∃t,u=Value.str x t from ry);subst q;rfl
 have ha:argsOk "dict.pop" ⟨.ref a::u::more,[]⟩:=by
  rcases hm with q | ⟨x,q⟩
  ·subst q;exact PySem.F.args_dict_pop_2 _ _
  ·subst q;exact PySem.F.args_dict_pop_3 _ _ _
 refine aO8 PySem.F.slot_dict_pop dd.typeIs PySem.F.entry_dict_pop ha (meets_dict_pop_there (v7 X.prog X.w) a (a8b ry) more hm hp)
  ⟨vs,w',dd,by rw[←rel.length];exact z,hw,fun h' dd' hs=>h w' _ ?_ rw'⟩
 have he:∃q,h'.get? a=some q:=let ⟨q,_,_,hq,_⟩:=dd';⟨q,hq⟩
 exact a3h I (by rw[e];exact True.intro) hs he (a0B (aD7 (a5U kvs k) z) hd (rel.drop k) dd')
theorem b6D{Q:Value→Shared→Prop}(I:Inv X pins σ H s)(e:Rd H a (.dK kvs))(h:∀t s',Inv X pins σ H s'→Q (.int kvs.length t) s'):wpAny (model X.prog X.w) A (call (.builtin "len") [.ref a]) Q E s:=by
 obtain⟨z,hd,vs,rel,dd⟩:=Y7 I.hok e
 refine call_len_dict hd dd (by rw[←rel.length];rw[aG2]at z;omega) ?_
 rw[←rel.length]
 exact h _ _ (I.tok _)
end
def b7A(i:Expr):Prop:=∀ov iv,subscripted i false ov iv=operate [ov,iv] (getItem ov iv)
theorem b4u{prog:Program}{w:World}{A:Around}{E:Value→Shared→Prop}{s:Shared}{env:Env}{value slice:Expr}{pos:Pos}{T id:String}{Q:Value→Shared→Prop}
  (hl:typeLookup (.type T) "__getitem__"=pure (some (.builtin id))) (hs:b7A slice)
  (h:wpAny (model prog w) A (eval value env) (fun o s₁=>wpAny (model prog w) A (eval slice env) (fun i s₂=>s₂.TypeIs o T∧wpAny (model prog w) A (getItem o i) Q E s₂) E s₁) E s) :
  wpAny (model prog w) A (eval (.Subscript value slice pos) env) Q E s:=by
 refine Subscript_ (aH6 h (fun o s₁ h₁=>aH6 h₁ (fun i s₂ h₂=>?_) fun _ _ x=>x) fun _ _ x=>x)
 obtain⟨hT,h₂⟩:=h₂
 unfold subscriptTail
 refine aA1 ?_
 rw[getitemInPython_of_ne hT.not_modules]
 refine aA1 (aT3 hT hl ?_)
 have fin:wpAny (model prog w) A (subscripted slice false o i) (fun r s₃=>wpAny (model prog w) A (letTemporaryGo value o r >>= fun _=>pure r) Q E s₃) E s₂:=by
  rw[hs o i]
  exact wpAny_operating (aH6 h₂ (fun r s₃ h₃=>aA1 (wpAny_letTemporaryGo (aA6 h₃))) fun _ _ x=>x)
 first
  | exact aA6 (aA1 fin)
  | exact aA1 (aA6 (aA1 fin))
  | exact aA1 fin
theorem a7W{X:Cx}{pins:List (Addr×Obj)}{σ:St}{H:Hp}{s:Shared}{a:Addr}{y:V}{o:Option V}(I:Inv X pins σ H s)(g:z6 H a y o):s.TypeIs (.ref a) "dict":=by
 rcases g with ⟨kvs,k,e,_,_⟩ | ⟨kvs,k,b,e,_,_,_⟩
 ·obtain⟨_,_,vs,_,dd⟩:=Y7 I.hok e
  exact dd.typeIs
 ·obtain⟨_,_,xs,_,dd⟩:=a3k I.hok e
  exact dd.typeIs
inductive IDg(x y:V)(H:Hp)(Q:VK):Prop
 | mk (a:Addr) (v:V) (e:x=.ref a) (g:z6 H a y (some v)) (q:Q v H)
def b7C(td ty:TE):TE:=fun σ H Q=>td σ H fun x H1=>ty σ H1 fun y H2=>IDg x y H2 Q
def b3D(td ty tv:TE):TS:=fun D σ H=>tv σ H fun v H1=>td σ H1 fun x H2=>ty σ H2 fun y H3=>∃a H4,x=.ref a∧N6 H3 a y v H4∧D.nx σ H4
section
variable{X:Cx}{o i e value:Expr}{pos pos' tpos:Pos}{td ty tv:TE}
theorem v8(hu:X.A.units+1<cLine)(ho:PE X o td)(hi:PE X i ty)(hs:b7A i):PE X (.Subscript o i pos) (b7C td ty):=by
 intro pins s σ H Q I h
 refine b4u PySem.F.slot_dict_getitem.lookup hs (n5 (ho pins s σ H _ I h) fun u s1 ⟨x,H1,I1,rx,q1⟩=>n5 (hi pins s1 σ H1 _ I1 q1) fun iv s2 ⟨y,H2,I2,ry,a,v,ex,g,q2⟩=>?_)
 subst ex
 obtain rfl:u=Value.ref a:=rx
 exact⟨a7W I2 g,b9k hu I2 g ry fun w' s3 I3 rw'=>⟨v,H2,I3,rw',q2⟩⟩
theorem J2(hu:X.A.units+1<cLine)(ho:PE X o td)(hi:PE X i ty)(hv:PE X value tv)(hs:swapsWith value (some (.Subscript o i pos')) pos.line X.env=pure false) :
  PS X (.Assign [.Subscript o i pos'] value pos) (b3D td ty tv):=by
 intro pins s σ H D I h
 refine wpAny_Assign_Subscript (n5 (hv pins s σ H _ I h) fun r s1 ⟨v,H1,I1,rv,q1⟩=>n5 (ho pins s1 σ H1 _ I1 q1) fun u s2 ⟨x,H2,I2,rx,q2⟩=>n5 (hi pins s2 σ H2 _ I2 q2) fun iv s3 ⟨y,H3,I3,ry,a,H4,ex,g,q3⟩=>?_) hs
 subst ex
 obtain rfl:u=Value.ref a:=rx
 exact b5f hu I3 g ry rv fun s4 I4=>⟨σ,H4,I4,q3⟩
end
theorem b7r{P:Program}{w:World}{H:Hp}(h:Heap)(hb:sysModules<h.objs.size):C0 P w H (h.push { cls:=.type "dict",data:=.dict #[] }) h.objs.size (.dK []):=
 ⟨aG3 _,aG7.mpr (Ne.symm (aD6 hb)),[],.nil,Heap.DictOf.new h⟩
def b2B:TE:=fun _ H Q=>∀p,H p=none→Q (.ref p) (upd H p (.dK []))
section
variable{X:Cx}{pos:Pos}
theorem G0:PE X (.Dict [] [] pos) b2B:=fun pins s σ H Q I h=>
 wpAny_Dict_empty ⟨.ref s.heap.objs.size,_,I.laid (a:=s.heap.objs.size) (o:=.dK []) (t':=s.toks) (fun _ _ q=>aA7 _ q) (aB3 _) (b7r s.heap I.big),rfl,h _ (I.hok.fresh (aB3 _))⟩
end
structure M1(X:Cx)(o:Expr)(m:Str)(apos:Pos)(e:Expr)(cpos:Pos):Prop where
 base:attributeBase o m X.env (eval o X.env)=eval o X.env
 few:((backTo cpos (starEach [e] X.env)).all (fun x=>!x.1)&&(backToKw cpos (keywordEach [] X.env)).all (fun x=>x.1.isSome)
  && decide (([e]:List Expr).length+([]:List Keyword).length+(if ([]:List Keyword).isEmpty then 0 else 1)<30))=true
 line:(apos.endLine==cpos.line)=true
 trees:backTo cpos (starEach [e] X.env)=[(false,eval e X.env)]
structure M2(X:Cx)(o:Expr)(m:Str)(apos:Pos)(e f:Expr)(cpos:Pos):Prop where
 base:attributeBase o m X.env (eval o X.env)=eval o X.env
 few:((backTo cpos (starEach [e,f] X.env)).all (fun x=>!x.1)&&(backToKw cpos (keywordEach [] X.env)).all (fun x=>x.1.isSome)
  && decide (([e,f]:List Expr).length+([]:List Keyword).length+(if ([]:List Keyword).isEmpty then 0 else 1)<30))=true
 line:(apos.endLine==cpos.line)=true
 trees:backTo cpos (starEach [e,f] X.env)=[(false,eval e X.env),(false,eval f X.env)]
def IsD(H:Hp)(a:Addr):Prop:=(∃kvs,Rd H a (.dK kvs))∨∃kvs,Rd H a (.dT kvs)
theorem a3p{X:Cx}{pins:List (Addr×Obj)}{σ:St}{H:Hp}{s:Shared}{a:Addr}(I:Inv X pins σ H s)(d:IsD H a) :
  s.TypeIs (.ref a) "dict"∧(∀b,Value.ref a=.ref b→∃ob,s.heap.get? b=some ob∧ob.dict=none)∧(a==sysModules)=false:=by
 rcases d with ⟨kvs,e⟩ | ⟨kvs,e⟩
 ·obtain⟨_,hd,vs,_,dd⟩:=Y7 I.hok e
  refine⟨dd.typeIs,fun b q=>?_,hd⟩
  cases q
  obtain⟨ob,_,_,h1,h2,_⟩:=dd
  exact⟨ob,h1,h2.2.1⟩
 ·obtain⟨_,hd,xs,_,dd⟩:=a3k I.hok e
  refine⟨dd.typeIs,fun b q=>?_,hd⟩
  cases q
  obtain⟨ob,_,_,h1,h2,_⟩:=dd
  exact⟨ob,h1,h2.2.1⟩
section
variable{X:Cx}{pins:List (Addr×Obj)}{σ:St}{H:Hp}{s:Shared}{a:Addr}{y d:V}{u r:Value}{o:Option V}{A:Around}{E:Value→Shared→Prop}
theorem b1B{Q:Value→Shared→Prop}(hu:A.units+1<cLine)(I:Inv X pins σ H s)(g:z6 H a y o)(ry:RelV y u)(rd:RelV d r)(h:∀w' s',Inv X pins σ H s'→RelV (o.getD d) w'→Q w' s') :
  wpAny (model X.prog X.w) A (call (.builtin "dict.get") [.ref a,u,r]) Q E s:=by
 rcases g with ⟨kvs,k,e,ey,l⟩ | ⟨kvs,k,b,e,ey,eb,l⟩
 ·subst ey
  obtain⟨z,hd,vs,rel,dd⟩:=Y7 I.hok e
  refine aO8 aR3 dd.typeIs PySem.F.entry_dict_get (PySem.F.args_dict_get_3 _ _ _) (meets_dict_get_default (v7 X.prog X.w) a (a8b ry) hd r) ⟨_,dd.mapOf,h _ _ (I.tok _) ?_⟩
  rw[l]
  exact(rel.val k).getD rd
 ·subst ey
  cases (show u=Value.ref b from ry)
  obtain⟨z,hd,xs,rel,dd⟩:=a3k I.hok e
  refine aO8 aR3 dd.typeIs PySem.F.entry_dict_get (PySem.F.args_dict_get_3 _ _ _) (meetsH_dict_get_default (tupleKind (v7 X.prog X.w)) a b hd r) ⟨aN7 hu,k,xs,a1h I.hok eb,dd,h _ _ (I.tok _) ?_⟩
  rw[l]
  exact(rel.val k).getD rd
end
def b6A(td ty tx:TE):TE:=fun σ H Q=>td σ H fun x H1=>∃a,x=.ref a∧IsD H1 a∧ty σ H1 fun y H2=>tx σ H2 fun z H3=>∃o,z6 H3 a y o∧Q (o.getD z) H3
def b8z(td ty:TE):TE:=fun σ H Q=>td σ H fun x H1=>∃a,x=.ref a∧IsD H1 a∧ty σ H1 fun y H2=>∃kvs k v,H2 a=some (.dK kvs)∧y=kV k∧C1 kvs k=some v∧Q v (upd H2 a (.dK (J6 kvs k)))
section
variable{X:Cx}{o e f:Expr}{apos cpos:Pos}{td ty tx:TE}
theorem a6T(hu:X.A.units+1<cLine)(ho:PE X o td)(he:PE X e ty)(hf:PE X f tx)(m:M2 X o "get" apos e f cpos):PE X (.Call (.Attribute o "get" apos) [e,f] [] cpos) (b6A td ty tx):=by
 intro pins s σ H Q I h
 refine wpAny_Call_method m.base m.few m.line aK9 aR3 PySem.F.type_dict_get (n5 (ho pins s σ H _ I h) fun u s1 ⟨x,H1,I1,rx,a,ex,d,q1⟩=>?_)
 subst ex
 obtain rfl:u=Value.ref a:=rx
 obtain⟨t1,t2,_⟩:=a3p I1 d
 refine⟨t1,t2,?_⟩
 rw[m.trees]
 refine aI4 rfl (aP4 (aI0 (n5 (he pins s1 σ H1 _ I1 q1) fun iv s2 ⟨y,H2,I2,ry,q2⟩=>
  aI0 (n5 (hf pins s2 σ H2 _ I2 q2) fun fv s3 ⟨z,H3,I3,rz,ov,g,q3⟩=>aL2 ?_))))
 exact b1B hu I3 g ry rz fun w' s4 I4 rw'=>⟨_,H3,I4,rw',q3⟩
theorem a1l(ho:PE X o td)(he:PE X e ty)(m:M1 X o "pop" apos e cpos):PE X (.Call (.Attribute o "pop" apos) [e] [] cpos) (b8z td ty):=by
 intro pins s σ H Q I h
 refine wpAny_Call_method m.base m.few m.line aK9 PySem.F.slot_dict_pop PySem.F.type_dict_pop (n5 (ho pins s σ H _ I h) fun u s1 ⟨x,H1,I1,rx,a,ex,d,q1⟩=>?_)
 subst ex
 obtain rfl:u=Value.ref a:=rx
 obtain⟨t1,t2,_⟩:=a3p I1 d
 refine⟨t1,t2,?_⟩
 rw[m.trees]
 refine aI4 rfl (aP4 (aI0 (n5 (he pins s1 σ H1 _ I1 q1) fun iv s2 ⟨y,H2,I2,ry,kvs,k,v,ea,ey,l,q2⟩=>aL2 ?_)))
 subst ey
 exact b2E I2 ea ry l (.inl rfl) fun w' s3 I3 rw'=>⟨v,_,I3,rw',q2⟩
end
section
variable{X:Cx}{pins:List (Addr×Obj)}{σ:St}{H:Hp}{s:Shared}{a:Addr}{kvs:List (Key×V)}{A:Around}{E:Value→Shared→Prop}
end
section
variable{X:Cx}{pins:List (Addr×Obj)}{σ:St}{H:Hp}{s:Shared}{a:Addr}{y:V}{u:Value}{A:Around}{E:Value→Shared→Prop}
end
end L2
namespace Att
open PySem PySem.W PySem.Calls PyProof.Rows
theorem a2A{P:Params}{h:Heap}:∀(ns:List Int) (vs:List Value),WellAll P h vs (ns.map WData.int)→IntsAre vs ns:=by
 intro ns
 induction ns with
 | nil=>
  intro vs w
  rw[aJ4]at w
  cases w
  exact .nil
 | cons n ns ih=>
  intro vs w
  rw[aC3]at w
  cases w with
  | cons a b=>
   cases a
   exact .cons _ _ (ih _ b)
theorem b1k{l:OpenLaw}{n:Nat}(hn:l.most=some n){P:Params}{h:Heap}{args:List WData}{vals:List Value}
  (hpre:l.row.toRowW.claim.pre args=true) (hwl:WellAll P h vals args) :
  ∃a vs ns,vals=[Value.ref a]∧args=[WData.list (ns.map WData.int)]∧h.get? a=some { cls:=.type "list",data:=.seq vs.toArray }∧IntsAre vs ns∧ns.length≤n:=by
 have hsh:WShape.hasAll [] args [.list .int]=true:=(pre_splitW hpre).1
 have hc:l.pre.holds [] { args:=args }=true:=(pre_splitW hpre).2
 obtain⟨d,r,rfl,h1,h2⟩:=hasAllW_cons hsh
 obtain rfl:=hasAllW_nil h2
 obtain⟨xs,rfl,h3⟩:=hasW_list h1
 obtain⟨ns,rfl⟩:=items_int h3
 have hlen:ns.length≤n:=by
  unfold OpenLaw.pre at hc
  have h4:(WTm.not (.lt (.lit (.int (n:Int))) (.len (.arg 0)))).holds [] { args:=[.list (ns.map .int)] }=true:=by
   have h4:=(holds_andW hc).1
   rw[hn]at h4
   exact h4
  have h5:=condW_of h4 (w_not (w_lt w_lit (w_len_list (w_arg rfl))))
  rw[aA0]at h5
  refine Nat.le_of_not_lt fun q=>?_
  have q':(n:Int)<((ns.length:Nat):Int):=by omega
  first
   | (rw[aC4 q']at h5;exact absurd h5 (by decide))
   | (simp at h5;omega)
 cases hwl with
 | cons w1 w2=>
  cases w2
  cases w1 with
  | list ho hall=>exact⟨_,_,ns,rfl,rfl,ho,a2A ns _ hall,hlen⟩
theorem b9f(l:OpenLaw)(args:List WData):l.row.toRowW.claim.post args (.bool true) args=true:=
 postW_of (r:=l.row.toRowW) (X:=(true==true))
  (show WShape.has [] (.bool true) .bool=true by first | rfl | decide | simp[WShape.has,WShape.arms,WShape.armsAll])
  (show(WTm.eq .res (.lit (.bool true))).value [] { args:=args,res:=some (.bool true),after:=args }=some (.bool (true==true)) from w_eq_bool (w_res rfl) w_lit) rfl
theorem a4W{l:OpenLaw}{n:Nat}{q:Program}{loose:List Str}{XP:(Str→Option Value)→Heap→Prop}{YP:World→Heap→Prop}{d:DefRec}
  (hn:l.most=some n) (hdf:d.params.defaults=[])
  (call:∀(w:World) (s₀ s₁:Shared) (mg mb:Str→Option Value) (fa:Addr) (o:Obj) (pm cd doc:Value) (a:Addr) (vs:List Value) (ns:List Int),
   Ground q loose [] XP w s₀ mg mb s₁.heap→YP w s₁.heap →
   s₁.heap.get? fa=some o→o.data=.func (docDef d.name d.params d.body d.scope pm cd doc)→s₁.heap.CodeRec cd d.name→mg d.name=some (.ref fa) →
   s₁.heap.get? a=some { cls:=.type "list",data:=.seq vs.toArray }→IntsAre vs ns→ns.length≤n→s₁.gens=#[] →
   codeAny (model l.prog w) callerA (.call (.ref fa) ⟨[.ref a],[]⟩) (fun r s'=>r=.ok (.ret (.bool true))∧OldK s₁.heap s'.heap∧s'.os=s₁.os∧AllBare s'.gens) s₁) :
  WalkO q loose XP YP l.row.toRowW d [] (fun f vs=>PySem.call f vs):=by
 intro w s₀ s₁ mg mb G Y fa o pm cd doc dV kV ho hd hcd hD hmg hg args vals as hpre hlay hrd hwl hlo
 obtain rfl:dV=.none:=Dflts.none hD hdf
 obtain rfl:kV=.none:=Dflts.noKw hD
 obtain⟨a,vs,ns,rfl,rfl,hobj,hints,hlen⟩:=b1k hn hpre hwl
 refine enter_call (aQ5 (call w s₀ s₁ mg mb fa o pm cd doc a vs ns G Y ho (fd_plain hd) hcd hmg hobj hints hlen hg) fun r s' hq=>?_)
 obtain⟨rfl,h2,h3,h4⟩:=hq
 exact⟨.inl ⟨.bool true,.bool true,[],rfl,fun _=>rfl,.bool true,b9f l _,fun _=>⟨List.Pairwise.nil,fun _ hm=>(nomatch hm)⟩⟩,h2,h3,h4⟩
section
variable{prog:Program}{w:World}{A:Around}{E:Value→Shared→Prop}{s:Shared}{K:Frag}
end
end Att
namespace L2
open PySem PySem.Spec PyProof.Rows
theorem a4J:∀{vs:List Value} {ns:List Int},IntsAre vs ns→j6 (ns.map V.int) vs
 | _,_,.nil=>.nil
 | _,_,.cons n t h=>.cons ⟨t,rfl⟩ (a4J h)
def b0n(H:Hp):Prop:=∀b,H b=none∨∃o xs,H b=some (.frz o (.lst xs))
theorem b2r{P:Program}{w:World}{K:PySem.W.Frag}{mg mb:Str→Option Value}{CX:CXT}{k:Nat}{fa a:Addr}{fd:FuncData}{x:Str}{sp:Sp}{s₁:Shared}{vs:List Value}{ns:List Int}
  (KX:K.In s₁.heap) (hns:s₁.heap.Ns mainGlobals mg) (hb:s₁.heap.Ns builtinsNs mb) (hbb:∀x:Str,x≠"__name__"→mb x=bootBuiltins x) (hlim:s₁.heap.NoLimit) (hg:s₁.gens=#[])
  (ha:s₁.heap.get? a=some { cls:=.type "list",data:=.seq vs.toArray }) (hi:IntsAre vs ns) (hl:ns.length≤sizeLine) (hr:J4 k callerA)
  (F:∀base:Heap,K.In base→base.Ns mainGlobals mg→g9 P w K mg base CX k fa fd [x] sp) (hbind:∀(s:Shared) (u:Value),BindsTo s fd ⟨[u],[]⟩ [(x,u)])
  (hsp:∀H:Hp,b0n H→d8 K H a (ns.map V.int)→sp [.ref a] H (fun v _=>v=.bl true) fun _ _ _=>False)
  (hCX:∀H e s',CX [] H s₁ (fun _ _ _=>False) e s'→False) :
  codeAny (model P w) callerA (.call (.ref fa) ⟨[.ref a],[]⟩) (fun r s'=>r=.ok (.ret (.bool true))∧OldK s₁.heap s'.heap∧s'.os=s₁.os∧AllBare s'.gens) s₁:=by
 have rv:=a4J hi
 have lenV:=hi.length
 have core:∀H:Hp,b0n H→d8 K H a (ns.map V.int)→M5 P w H s₁.heap→(∀b,H b≠none→b=a)→(H a≠none→K.lookup a=none) →
   codeAny (model P w) callerA (.call (.ref fa) ⟨[.ref a],[]⟩) (fun r s'=>r=.ok (.ret (.bool true))∧OldK s₁.heap s'.heap∧s'.os=s₁.os∧AllBare s'.gens) s₁:=by
  intro H hO hS hok hA hK
  have base_of:∀{b:Addr} {o:Obj},s₁.heap.get? b=some o→H b=none→(a5j s₁.heap H).get? b=some o:=fun e n=>b8n e n
  have noA:∀{b:Addr} {o:Obj} {es:Array DictEntry} {ep:Nat},s₁.heap.get? b=some o→o.data=.dict es ep→H b=none:=fun {b o es ep} e d=>by
   cases q:H b with
   | none=>rfl
   | some u=>
    have e':b=a:=hA b (by rw[q];simp)
    subst e'
    rw[ha]at e;cases e
    have d':Data.seq vs.toArray _=Data.dict es ep:=d
    cases d'
  have nsK:∀{b:Addr} {m:Str→Option Value},s₁.heap.Ns b m→(a5j s₁.heap H).Ns b m:=fun {b m} ⟨o,es,ep,e,d,r⟩=>⟨o,es,ep,base_of e (noA e d),d,r⟩
  have hKb:K.In (a5j s₁.heap H):=fun b o e=>base_of (KX b o e) (by
   cases q:H b with
   | none=>rfl
   | some u=>
    have e':b=a:=hA b (by rw[q];simp)
    subst e'
    rw[hK (by rw[q];simp)] at e;cases e)
  have hM:Mod K mg (a5j s₁.heap H):=⟨hKb,nsK hns,⟨mb,nsK hb,hbb⟩,let ⟨mc,h1,h2⟩:=hlim;⟨mc,nsK h1,h2⟩⟩
  have e0:a5y P w K mg (a5j s₁.heap H) callerA [] s₁ H:=⟨rfl,hM,fun b o e=>b5v e,Nat.le_of_eq (b3h _ _),trivial,fun b hb=>absurd (show b∈([]:List Addr) from hb) (by simp),hok,.of_eq hg⟩
  refine aQ5 ((F _ hKb (nsK hns)).run callerA [] s₁ H ⟨[.ref a],[]⟩ [.ref a] [.ref a] _ _ hr e0 (hbind s₁ (.ref a)) (.cons rfl .nil) (hsp H hO hS)) fun r s' h=>?_
  cases r with
  | error e=>exact(hCX H e s' h).elim
  | ok fl=>
   cases fl with
   | next=>exact False.elim h
   | brk=>exact False.elim h
   | cont=>exact False.elim h
   | ret u=>
    obtain⟨v,H',os,bare,un,hok',r',q⟩:=h
    have q':v=.bl true:=q
    subst q'
    obtain rfl:u=Value.bool true:=r'
    refine⟨rfl,OldK.of_keep fun b o e=>?_,os,bare⟩
    cases q:H b with
    | none=>exact un.keep b o e q (by intro z;exact absurd (show b∈([]:List Addr) from z) (by simp)) (by simp)
    | some u=>
     rcases hO b with z | ⟨ob,xs,z⟩
     ·rw[q]at z;cases z
     ·have z2:=un.frzs b ob _ z
      obtain⟨e1,_⟩:=hok b _ z
      obtain⟨e2,_⟩:=hok' b _ z2
      rw[e]at e1;cases e1
      exact e2
 cases hk:K.lookup a with
 | some o=>
  have e:=KX a o hk
  rw[ha]at e
  cases e
  refine core (fun _=>none) (fun _=>.inl rfl) (.inr ⟨_,vs.toArray,_,hk,rfl,rfl,rfl,by rw[aD1,lenV];exact hl,by simpa using rv⟩) (fun b u z=>by have z':(none:Option HO)=some u:=z;cases z') (fun b z=>absurd rfl z) fun z=>absurd rfl z
 | none=>
  refine core (fun b=>if b=a then some (.frz { cls:=.type "list",data:=.seq vs.toArray } (.lst (ns.map V.int))) else none) (fun b=>?_) (.inl (.inr ⟨{ cls:=.type "list",data:=.seq vs.toArray },aB4 rfl⟩)) (fun b u z=>?_) (fun b z=>?_) fun _=>hk
  ·by_cases hb:b=a
   ·exact .inr ⟨_,_,aB4 hb⟩
   ·exact .inl (aA8 hb)
  ·by_cases hb:b=a
   ·have z':=(aB4 hb).symm.trans z
    cases z'
    subst hb
    exact⟨ha,by rw[aA0];exact hl,vs,_,rv,ha⟩
   ·have z':=(aA8 hb).symm.trans z
    cases z'
  ·by_cases hb:b=a
   ·exact hb
   ·exact absurd (aA8 hb) z
open PySem PySem.Spec PyProof.Rows
theorem b5y{l:PySem.W.OpenLaw}{n k:Nat}{q:Program}{loose:List Str}{XP:(Str→Option Value)→Heap→Prop}{YP:World→Heap→Prop}{d:DefRec}{K:Params→PySem.W.Frag}{CX:World→CXT}{sp:World→Sp}{x:Str}
  (hn:l.most=some n) (hn2:n≤sizeLine) (hdf:d.params.defaults=[]) (hr:J4 k callerA)
  (hY:∀(w:World) (h:Heap),YP w h→(K w.params).In h)
  (F:∀(w:World) (mg:Str→Option Value) (fa:Addr) (h:Heap),(K w.params).In h→h.Ns mainGlobals mg→mg d.name=some (.ref fa) →
   ∃fd:FuncData,(∀(s:Shared) (u:Value),BindsTo s fd ⟨[u],[]⟩ [(x,u)]) ∧
    ∀base:Heap,(K w.params).In base→base.Ns mainGlobals mg→g9 l.prog w (K w.params) mg base (CX w) k fa fd [x] (sp w))
  (hsp:∀(w:World) (H:Hp) (a:Addr) (ns:List Int),ns.length≤n→b0n H→d8 (K w.params) H a (ns.map V.int)→sp w [.ref a] H (fun v _=>v=.bl true) fun _ _ _=>False)
  (hCX:∀(w:World) (H:Hp) (s:Shared) (e:Value) (s':Shared),CX w [] H s (fun _ _ _=>False) e s'→False) :
  PySem.W.WalkO q loose XP YP l.row.toRowW d [] (fun f vs=>PySem.call f vs):=by
 refine Att.a4W hn hdf fun w s₀ s₁ mg mb fa o pm cd doc a vs ns G Y ho hd hcd hmg hobj hints hlen hg=>?_
 have KX:=hY w _ Y
 obtain⟨fd,hb,hF⟩:=F w mg fa _ KX G.T.g hmg
 exact b2r KX G.T.g G.T.b G.T.builtins G.T.nolimit hg hobj hints (aD7 hlen hn2) hr hF hb (fun H hO hS=>hsp w H a ns hlen hO hS) fun H e s'=>hCX w H s₁ e s'
open PySem PySem.Spec PyProof.Rows
abbrev A3:CXT:=fun _ _ _ _ _ _=>False
abbrev E0:XK:=fun _ _ _=>False
theorem k8{X:Cx}:Z5 A3 X E0:=fun _ _ _ _ _ _ _ h=>h.elim
structure Fun(K:PySem.W.Frag)(x qual:Str)(st:Stmt)(f:Addr)(fd:FuncData):Prop where
 ex:∃(oc:Value) (od:Option Addr) (kV doc pm:Value) (an:Option Addr) (cdv ct:Value) (osl:Array (Option Value)),
  fd=PySem.W.fnOf x qual (a7c st) (Y5 st) (i6 st) .none kV doc pm an cdv ct∧K.lookup f=some ⟨oc,od,.func fd,osl⟩∧PySem.W.codeIn K cdv qual=true
 kp:PySem.W.keepIn K (.ref f)=true
section
variable{P:Program}{w:World}{K:PySem.W.Frag}{mg:Str→Option Value}{base:Heap}
theorem Fun.ok{x qual:Str}{st:Stmt}{f:Addr}{fd:FuncData}{N ps:List Str}{k:Nat}{sp:Sp}(F:Fun K x qual st f fd)(S:j9 N ps (i6 st))(len:∀vs H Q E,sp vs H Q E→vs.length=ps.length)
  (hbody:∀(cdv:Value) (A:Around) (outer:List Env) (s:Shared) (H:Hp) (vs:List V) (Q:VK) (E:XK),J4 k (A.deeper (envOfC qual (i6 st) s.heap.objs.size f cdv))→sp vs H Q E →
   ∃t,PSs (a3G A3 P w K mg base N qual (i6 st) f cdv A outer s H E).nox (Y5 st) t∧t { nx:=fun _ H'=>Q .non H',rt:=Q } (start N vs) H):g9 P w K mg base A3 (k+1) f fd ps sp:=by
 obtain⟨oc,od,kV,doc,pm,an,cdv,ct,osl,rfl,lk,hcd⟩:=F.ex
 refine b1D lk hcd S len fun A outer s H vs Q E hr hsp=>?_
 obtain⟨t,h,q⟩:=hbody cdv A outer s H vs Q E hr hsp
 exact⟨t,h.nox,q⟩
theorem b0C{x qual:Str}{st:Stmt}{f:Addr}{oc:Value}{od an:Option Addr}{osl:Array (Option Value)}{kV doc pm cdv ct:Value}(l:K.lookup f=some ⟨oc,od,.func (PySem.W.fnOf x qual (a7c st) (Y5 st) (i6 st) .none kV doc pm an cdv ct),osl⟩)
  (c:PySem.W.codeIn K cdv qual=true) (k:PySem.W.keepIn K (.ref f)=true):Fun K x qual st f (PySem.W.fnOf x qual (a7c st) (Y5 st) (i6 st) .none kV doc pm an cdv ct):=⟨⟨oc,od,kV,doc,pm,an,cdv,ct,osl,rfl,l,c⟩,k⟩
end
theorem O0{A:Around}{k:Nat}(hr:J4 k A):A.units+1<cLine:=aT8 (Nat.add_le_add_left (by decide:1≤64) _) hr.units
theorem Q5{n:Nat}(h:n≤1000):n<sizeLine:=aT8 h (by decide)
section
variable{X:Cx}
theorem pv(i:Nat){x:Str}{pos:Pos}(hN:X.N[i]?=some x:=by rfl)(hv:Vis X.env.scope x:=by first | exact Or.inl rfl | exact Or.inr (Or.inl rfl) | exact Or.inr (Or.inr rfl))(hd:(x==("__debug__":Str))=false:=by decide)
  (hcd:(x==("__classdict__":Str))=false:=by decide):PE X (.Name x pos) (b1C i):=b4C hN hv hd hcd
theorem a2r:N5 X (.builtin "len") (fun xs H Q=>∃a kvs,xs=[V.ref a]∧H a=some (.dK kvs)∧Q (.int kvs.length) H):=by
 intro pins s σ H xs us Q I r h
 obtain⟨a,kvs,rfl,ha,q⟩:=h
 obtain⟨u,rfl,ru⟩:=vals1 r
 cases ru
 exact b6D I (.inl ha) fun t s' I'=>⟨.int kvs.length,H,I',⟨t,rfl⟩,q⟩
end
theorem e9{A B:Prop}(h:B):if false=true then A else B:=by
 rw[aA8 aC9]
 exact h
theorem m9{A B:Prop}(h:A):if true=true then A else B:=by
 rw[aB4 rfl]
 exact h
theorem K3{c A B:Prop}[Decidable c](h1:c→A)(h2:¬c→B):if c then A else B:=by
 by_cases h:c
 ·rw[aB4 h]
  exact h1 h
 ·rw[aA8 h]
  exact h2 h
theorem U8{c A B:Prop}[Decidable c](hc:c)(h:B):if (!decide c)=true then A else B:=by
 rw[aC4 hc]
 exact e9 h
def f7(H H':Hp):Prop:=∀b o,H b=some o→H' b=some o
theorem f7.refl(H:Hp):f7 H H:=fun _ _ h=>h
theorem f7.trans{H H1 H2:Hp}(a:f7 H H1)(b:f7 H1 H2):f7 H H2:=fun c o h=>b c o (a c o h)
section
variable{κ:Type}[DecidableEq κ]
end
open PySem PySem.Spec PyProof.Rows
def X5(X:Cx)(own tl:List Str)(scope:Scope)(cl:List (Str×Addr))(C:Addr)(s₀:Shared)(H₀:Hp)(ex:List Addr):Cx where
 prog:=X.prog
 w:=X.w
 K:=X.K
 mg:=X.mg
 base:=X.base
 A:=X.A
 N:=own++tl
 s₀:=s₀
 H₀:=H₀
 env:=compEnvC scope cl C X.env
 outer:=X.stack
 stack:=X.stack
 ex:=ex
 fn:=fun _=>false
 calm:=X.calm
 pn:=[]
 xe:=fun _ _=>False
def a4g(names:List (Str×NameKind)):List Str→List Str→Bool
 | [],[]=>true
 | n::r,m::q=>(match names.lookup n with
  | some .local=>false
  | some .cell=>false
  | some .free=>decide (n=m)
  | _=>true)&&a4g names r q
 | _,_=>false
theorem a7P{names:List (Str×NameKind)}:∀{a b:List Str},a4g names a b=true→a.length=b.length
 | [],[],_=>rfl
 | [],_::_,h=>by simp[a4g]at h
 | _::_,[],h=>by simp[a4g]at h
 | n::r,m::q,h=>by
  unfold a4g at h
  rw[aE9]at h
  simp[a7P h.2]
theorem a8X{names:List (Str×NameKind)}:∀{a b:List Str} {i:Nat} {x:Str},a4g names a b=true→a[i]?=some x →
  names.lookup x≠some .local∧names.lookup x≠some .cell∧(names.lookup x=some .free→b[i]?=some x)
 | [],_,_,_,_,e=>by simp at e
 | _::_,[],_,_,h,_=>by simp[a4g]at h
 | n::r,m::q,0,x,h,e=>by
  unfold a4g at h
  rw[aE9]at h
  have e':n=x:=by simpa using e
  subst e'
  have h1:=h.1
  refine⟨fun z=>by rw[z]at h1;simp at h1,fun z=>by rw[z]at h1;simp at h1,fun z=>?_⟩
  rw[z]at h1
  have h2:n=m:=by simpa using h1
  simp[h2]
 | n::r,m::q,i+1,x,h,e=>by
  unfold a4g at h
  rw[aE9]at h
  have r:=a8X (i:=i) h.2 (by simpa using e)
  simpa using r
def Y0(X:Cx)(scope:Scope):Bool:=
 (scope.names.all fun y=>y.2 != .cell)&&(scope.names.all fun y=>y.2 != .local||scope.names.lookup y.1==some .local) &&
 (scope.names.all fun y=>y.2 != .free||(X.env.scope.names.lookup y.1==some .cell||X.env.scope.names.lookup y.1==some .free)) &&
 (scope.names.all fun y=>y.2 != .free||scope.names.lookup y.1==some .free)
theorem a3o{X:Cx}{scope:Scope}(h:Y0 X scope=true):∀y∈scope.names,y.2≠.cell:=by
 unfold Y0 at h
 simp only[aE9,aQ6]at h
 intro y hy z
 have:=h.1.1.1 y hy
 rw[z]at this
 simp at this
theorem a3m{X:Cx}{scope:Scope}(h:Y0 X scope=true):∀y∈scope.names,y.2=.local→scope.names.lookup y.1=some .local:=by
 unfold Y0 at h
 simp only[aE9,aQ6]at h
 intro y hy z
 have:=h.1.1.2 y hy
 rw[z]at this
 simpa using this
theorem a6d{X:Cx}{scope:Scope}(h:Y0 X scope=true):∀y∈scope.names,y.2=.free→X.env.scope.names.lookup y.1=some .cell∨X.env.scope.names.lookup y.1=some .free:=by
 unfold Y0 at h
 simp only[aE9,aQ6]at h
 intro y hy z
 have:=h.1.2 y hy
 rw[z]at this
 simpa using this
theorem a2e{env:Env}:∀(names:List (Str×NameKind)) (cs:List (Str×Addr)),(∀y∈names,y.2=.free→∃c,env.cells.lookup y.1=some c) →
  ∃cl,(forIn names cs (fun(x:Str×NameKind) (r:List (Str×Addr))=>match x with
   | (name,kind)=>if (kind==NameKind.free)=true then(do let a ←cellOf env name;pure (ForInStep.yield ((name,a)::r))) else pure (ForInStep.yield r)):Sem (List (Str×Addr)))=pure cl ∧
   (∀n c,cl.lookup n=some c→env.cells.lookup n=some c∨cs.lookup n=some c)∧(∀y∈names,y.2=.free→∃c,cl.lookup y.1=some c)∧(∀n c,cs.lookup n=some c→∃c',cl.lookup n=some c')
 | [],cs,_=>⟨cs,by rw[List.forIn_nil],fun n c h=>.inr h,fun y hy=>by simp at hy,fun n c h=>⟨c,h⟩⟩
 | (n,k)::r,cs,h=>by
  have hr:∀y∈r,y.2=.free→∃c,env.cells.lookup y.1=some c:=fun y hy=>h y (aC1 _ hy)
  rw[aR7]
  by_cases hk:k=.free
  ·subst hk
   obtain⟨c,hc⟩:=h (n,.free) aB9 rfl
   have ec:cellOf env n=pure c:=by unfold cellOf;rw[show env.cells.lookup n=some c from hc]
   obtain⟨cl,e,a1,a2,a3⟩:=a2e (env:=env) r ((n,c)::cs) hr
   have up:∃c',cl.lookup n=some c':=a3 n c (by simp[aO0])
   refine⟨cl,?_,fun m c' q=>?_,fun y hy z=>?_,fun m c' q=>?_⟩
   ·simp only[beq_self_eq_true,aQ1,ec,pure_bind]
    exact e
   ·rcases a1 m c' q with z | z
    ·exact .inl z
    ·rw[aO0]at z
     cases hm:m==n with
     | true=>
      have:m=n:=by simpa using hm
      subst this
      simp only[beq_self_eq_true]at z
      cases z
      exact .inl hc
     | false=>
      rw[hm]at z
      exact .inr z
   ·rcases aB7.mp hy with rfl | hy
    ·exact up
    ·exact a2 y hy z
   ·by_cases hm:m=n
    ·subst hm;exact up
    ·refine a3 m c' ?_
     rw[aO0]
     have:(m==n)=false:=by simpa using hm
     rw[this];exact q
  ·have hb:(k==NameKind.free)=false:=by simpa using hk
   obtain⟨cl,e,a1,a2,a3⟩:=a2e (env:=env) r cs hr
   refine⟨cl,?_,a1,fun y hy z=>?_,a3⟩
   ·simp only[hb,aI8,aO4,pure_bind]
    exact e
   ·rcases aB7.mp hy with rfl | hy
    ·exact absurd z hk
    ·exact a2 y hy z
theorem a2u{scope:Scope}{env:Env}(h:∀y∈scope.names,y.2=.free→∃c,env.cells.lookup y.1=some c) :
  ∃cl,closureFor scope env=pure cl∧(∀n c,cl.lookup n=some c→env.cells.lookup n=some c)∧∀y∈scope.names,y.2=.free→∃c,cl.lookup y.1=some c:=by
 obtain⟨cl,e,a1,a2,_⟩:=a2e scope.names [] h
 refine⟨cl,?_,fun n c q=>(a1 n c q).resolve_right fun z=>by simp at z,a2⟩
 simp only[closureFor]
 rw[e]
 rfl
theorem O8{env:Env}:∀{names:List (Str×NameKind)} {x:Str} {k:NameKind},
  (names.map fun(n,k)=>if (k==NameKind.free&&env.scope.kind==.function&&env.kindOf n==some .cell) then(n,NameKind.cell) else(n,k)).lookup x=some k →
  names.lookup x=some k∨(k=.cell∧names.lookup x=some .free)
 | [],_,_,h=>by simp at h
 | (n,k')::r,x,k,h=>by
  have ih:=@O8 env r x k
  rw[aC3]at h
  by_cases hc:(k'==NameKind.free&&env.scope.kind==.function&&env.kindOf n==some .cell)=true
  ·simp only[hc,aQ1]at h
   rw[aO0]at h ⊢
   cases hx:x==n with
   | true=>
    rw[hx]at h
    have hk:k'=.free:=by
     simp only[aE9]at hc
     simpa using hc.1.1
    injection h with h
    subst h hk
    exact .inr ⟨rfl,rfl⟩
   | false=>
    rw[hx]at h
    exact ih h
  ·simp only[Bool.not_eq_true]at hc
   simp only[hc,aI8,aO4]at h
   rw[aO0]at h ⊢
   cases hx:x==n with
   | true=>rw[hx]at h;exact .inl h
   | false=>rw[hx]at h;exact ih h
def PIf(X:Cx)(ifs:List Expr)(t:TT):Prop:=
 ∀(pins:List (Addr×Obj)) (s:Shared) (σ:St) (H:Hp) (Q:Bool→Hp→Prop),Inv X pins σ H s→t σ H Q →
  wpAny (model X.prog X.w) X.A (forIn ifs true fun c r=>if r=true then do let ok ←isTrue c X.env (eval c X.env);pure (ForInStep.yield ok) else pure (ForInStep.yield r)) (TP X pins σ Q) X.xe s
def b7D:TT:=fun _ H Q=>Q true H
theorem a3c{X:Cx}:PIf X [] b7D:=fun _ _ _ H _ I h=>wpAny_tests_nil ⟨H,I,h⟩
theorem a2c{X:Cx}{c:Expr}{t:TT}(h:PT X c t):PIf X [c] t:=fun pins s σ H Q I q=>wpAny_tests_one (h pins s σ H Q I q)
structure K2(X:Cx)(own tl:List Str)(scope:Scope)(target elt:Expr)(ifs:List Expr)(g:TG)(tc:TT)(te:TE):Prop where
 kind:scope.kind=.function
 ok:Y0 X scope=true
 nm:a4g scope.names tl X.N=true
 tg:∀cl C s₀ H₀ ex,PG (X5 X own tl scope cl C s₀ H₀ ex) target g
 ti:∀cl C s₀ H₀ ex,PIf (X5 X own tl scope cl C s₀ H₀ ex) ifs tc
 te:∀cl C s₀ H₀ ex,PE (X5 X own tl scope cl C s₀ H₀ ex) elt te
def a7N(k:Nat)(g:TG)(tc:TT)(te:TE)(J:It)(acc:Addr)(σ:St)(H1:Hp)(Q:Hp→Prop):Prop:=
 ∃W:Nat→Nat→Hp→Prop,(∃m,W 0 m (upd H1 acc (.lst [])))∧∀i m H,W i m H →
  (J.stop i H∧Q H)∨(J.go i H∧∃N:Hp→Prop,(∀H',N H'→∃m',m'<m∧W (i+1) m' H') ∧
   ∀(os:St) x H',os.length=k→J.yld i H x H'→g x (os++σ) H' fun σ2 H2=>(∃os2:St,os2.length=k∧σ2=os2++σ) ∧
    tc σ2 H2 fun b H3=>if b=true then te σ2 H3 fun y H4=>∃ys,H4 acc=some (.lst ys)∧ys.length<sizeLine∧N (upd H4 acc (.lst (ys++[y]))) else N H3)
def b1u(k:Nat)(wi:TI)(g:TG)(tc:TT)(te:TE):TE:=fun σ H Q=>wi σ H fun J H1=>∀acc,H1 acc=none→a7N k g tc te J acc σ H1 fun H'=>Q (.ref acc) H'
theorem Un.off{fs ex:List Addr}{H H1:Hp}{h h1 h':Heap}{C:Addr}(u:Un fs ex H H1 h h1)(hs:Heap.SameBut C h1 h')(hC:h.objs.size≤C):Un fs ex H H1 h h':=by
 have ne:∀b o,h.get? b=some o→b≠C:=fun b o e z=>absurd (aC2 e) (by rw[z];exact Nat.not_lt.mpr hC)
 exact⟨fun b o e n hb hx=>(hs.2 b (ne b o e)).trans (u.keep b o e n hb hx),fun b o e n hb hx=>let ⟨sl,q⟩:=u.slot b o e n hb hx;⟨sl,(hs.2 b (ne b o e)).trans q⟩,u.free,
  fun b o e hx=>let ⟨o',q⟩:=u.there b o e hx;⟨o',(hs.2 b (ne b o e)).trans q⟩,u.tups,u.frzs,u.tbls⟩
section
variable{prog:Program}{w:World}{A:Around}{R:Result→Shared→Prop}{s:Shared}
theorem b6f{elt target iter:Expr}{ifs:List Expr}{scope:Scope}{pos:Pos}{it acc:Value}{env:Env}(Iv:Nat→Shared→Prop)
  (each:∀n s,Iv n s→wpAny (model prog w) A (pyNext it) (fun r t1=>match r with
   | none=>R (.ok .next) t1
   | some v=>wpAny (model prog w) A (letOwnedTupleGo target it v) (fun _ t1=>wpAny (model prog w) A (assign target env v) (fun _ t2=>
     wpAny (model prog w) A (forIn ifs true fun c r=>if r=true then do let okay ←isTrue c env (eval c env);pure (ForInStep.yield okay) else pure (ForInStep.yield r)) (fun okay t3=>
      if okay=true then wpAny (model prog w) A (eval elt env) (fun x t4=>
       wpAny (model prog w) A (call (.builtin "list.append") [acc,x]) (fun _ t5=>∃m,m<n∧Iv m t5) (fun _ _=>False) t4) (fun _ _=>False) t3
      else ∃m,m<n∧Iv m t3) (fun _ _=>False) t2) (fun _ _=>False) t1) (fun _ _=>False) t1) (fun _ _=>False) s)
  (n:Nat) (h:Iv n s) :
  codeAny (model prog w) A (.compLoop (.ListComp elt [⟨target,iter,ifs,0⟩] scope pos) 0 it acc env) R s:=by
 refine codeAny_loop rfl Iv (fun n s hIv=>?_) n h
 show wpAny (model prog w) A ((compTurn (.ListComp elt [⟨target,iter,ifs,0⟩] scope pos) 0 it acc env).onRaise (fun x=>do noteFrame x env;theTreesLotGoes x)) _ _ s
 refine wpAny_noted ?_
 rw[compTurn_list]
 refine aA1 (wpAny_standAt (aA1 (aH6 (each n s hIv) (fun r t1 g1=>?_) fun _ _ h'=>h'.elim)))
 cases r with
 | none=>exact aA6 g1
 | some v=>
  refine aA1 (aH6 g1 (fun _ t1' g1=>?_) fun _ _ h'=>h'.elim)
  refine aA1 (aH6 g1 (fun _ t2 g2=>aA1 (aH6 g2 (fun okay t3 g3=>?_) fun _ _ h'=>h'.elim)) fun _ _ h'=>h'.elim)
  cases okay with
  | false=>exact aA6 ⟨rfl,g3⟩
  | true=>
   exact aA1 (aA1 (aH6 g3 (fun x t4 g4=>aA1 (aH6 g4 (fun _ t5 g5=>aA6 (aA6 ⟨rfl,g5⟩)) fun _ _ h'=>h'.elim)) fun _ _ h'=>h'.elim))
end
section
variable{X:Cx}{own tl:List Str}{scope:Scope}{target elt:Expr}{ifs:List Expr}{g:TG}{tc:TT}{te:TE}
theorem b0q{pins:List (Addr×Obj)}{σ:St}{H:Hp}{s:Shared}{cl:List (Str×Addr)}{fp:List Addr}{h₁:Heap}{m:Str→Option Value}{os:St}{t':Nat}(ci:K2 X own tl scope target elt ifs g tc te)(I:Inv X pins σ H s)
  (c1:∀n c,cl.lookup n=some c→X.env.cells.lookup n=some c) (c2:∀y∈scope.names,y.2=.free→∃c,cl.lookup y.1=some c)
  (hf:∀b∈fp,a5a X pins H b) (hfo:∀b∈fp,∃o,s.heap.get? b=some o) (hk:∀b o,s.heap.get? b=some o→h₁.get? b=some o) (hns:h₁.Ns s.heap.objs.size m) (hos:os=List.replicate own.length none) :
  Inv (X5 X own tl scope cl s.heap.objs.size s H fp) [] (os++σ) H { s with heap:=h₁,toks:=t' }:=by
 have lt:∀b∈fp,b<s.heap.objs.size:=fun b hb=>let ⟨o,e⟩:=hfo b hb;aC2 e
 have clt:∀n c,cl.lookup n=some c→c<s.heap.objs.size:=fun n c e=>by
  obtain⟨v,o,ho,_⟩:=I.cell n c (c1 n c e)
  exact aC2 ho
 have seen:∀x,(X5 X own tl scope cl s.heap.objs.size s H fp).env.kindOf x=some .cell∨(X5 X own tl scope cl s.heap.objs.size s H fp).env.kindOf x=some .free→scope.names.lookup x=some .free:=fun x hx=>by
  have nc:scope.names.lookup x≠some .cell:=fun z=>a3o ci.ok _ (aH4 z) rfl
  rcases hx with hx | hx
  ·rcases O8 (names:=scope.names) (x:=x) hx with z | ⟨_,z⟩
   ·exact absurd z nc
   ·exact z
  ·rcases O8 (names:=scope.names) (x:=x) hx with z | ⟨z,_⟩
   ·exact z
   ·cases z
 refine⟨⟨I.ok.mod,ci.kind,I.ok.glob,I.ok.blt,aB3 _,fun x y c e1 e2=>I.ok.inj x y c (c1 x c e1) (c1 y c e2),fun x hx=>?_,fun x c z=>(nomatch z),I.ok.hd,I.ok.frames,.inl rfl,fun b hb=>⟨aD6 (lt b hb),fun x c e=>(hf b hb).2.2.2.2.1 x c (c1 x c e)⟩,I.bs,
   aD7 I.ok.bsz I.sz,fun b o e hb=>?_,fun b hb hb'=>?_,I.stack,I.stkFree⟩,
  rfl,I.bare,Un.kept hk,⟨m,hns,fun i x v e1 e2 e3=>?_⟩,fun x c e=>?_,I.hok.fresh (aB3 _),fun x c e=>I.freeC x c (c1 x c e),fun p hp=>absurd (show p∈([]:List (Addr×Obj)) from hp) (by simp),I.hok.kept hk,?_⟩
 ·exact c2 _ (aH4 (seen x hx)) rfl
 ·rcases(hf b hb).2.2.2.1 with z | z
  ·exact I.ok.noex b o e z
  ·exact absurd (aE7 (aC2 (I.ok.bs b o e).1) z) (aJ1 _)
 ·rcases aB7.mp (I.stkSub b hb') with z | z
  ·exact(hf b hb).2.1 z
  ·exact(hf b hb).2.2.1 z
 ·have hge:own.length≤i:=by
   rcases Nat.lt_or_ge i own.length with z | z
   ·rw[hos,aE0 (by simpa using z),List.getElem?_replicate]at e2
    simp[z]at e2
   ·exact z
  have e1':tl[i-own.length]?=some x:=by
   have e1:(own++tl)[i]?=some x:=e1
   rwa [aF0 hge] at e1
  have e2':σ[i-own.length]?=some (some v):=by
   rw[hos,aF0 (by simpa using hge)]at e2
   simpa using e2
  obtain⟨n1,n2,n3⟩:=a8X ci.nm e1'
  have hfree:scope.names.lookup x=some .free:=by
   rcases e3 with z | z | z
   ·rcases O8 (names:=scope.names) (x:=x) z with z' | ⟨z',_⟩
    ·exact absurd z' n1
    ·cases z'
   ·exact seen x (.inl z)
   ·exact seen x (.inr z)
  have hXN:=n3 hfree
  have hout:=a6d ci.ok _ (aH4 hfree) rfl
  obtain⟨mX,hmX,hl⟩:=I.loc
  obtain⟨u,ru,lk⟩:=hl _ x v hXN e2' (hout.elim (fun z=>.inr (.inl z)) fun z=>.inr (.inr z))
  refine⟨u,ru,?_⟩
  obtain⟨c,hc⟩:=c2 _ (aH4 hfree) rfl
  have hin:(X5 X own tl scope cl s.heap.objs.size s H fp).env.kindOf x=some .cell∨(X5 X own tl scope cl s.heap.objs.size s H fp).env.kindOf x=some .free:=by
   rcases e3 with z | z | z
   ·rcases O8 (names:=scope.names) (x:=x) z with z' | ⟨z',_⟩
    ·exact absurd z' n1
    ·cases z'
   ·exact .inl z
   ·exact .inr z
  rcases lk with ⟨k,_⟩ | ⟨k,c',e,z⟩
  ·have k:X.env.scope.names.lookup x=some .local:=k
   rcases hout with q | q<;>(rw[k]at q;cases q)
  ·have hcc:c'=c:=by
    have:=c1 x c hc
    rw[e]at this
    exact aC0 this
   subst hcc
   exact .inr ⟨hin,c',hc,let ⟨o,ho,hd⟩:=z;⟨o,hk _ _ ho,hd⟩⟩
 ·obtain⟨v,o,ho,hd⟩:=I.cell x c (c1 x c e)
  exact⟨v,o,hk _ _ ho,hd⟩
 ·show(os++σ).length=(own++tl).length
  rw[hos,aA4,aA4,aR6,I.len,a7P ci.nm]
theorem a0R{pins:List (Addr×Obj)}{σ σ':St}{H H':Hp}{s s':Shared}{cl:List (Str×Addr)}{fp:List Addr}{h':Heap}(I:Inv X pins σ H s)(hf:∀b∈fp,a5a X pins H b)
  (J:Inv (X5 X own tl scope cl s.heap.objs.size s H fp) [] σ' H' s') (hs:Heap.SameBut s.heap.objs.size s'.heap h'):Inv X pins σ H' { s' with heap:=h' }:=by
 refine I.call' (s':={ s' with heap:=h' }) (ch:=fp) J.os (J.base.off hs (aB3 _)) (fun b ob e=>?_) J.bare fun b hb=>⟨(hf b hb).2.2.2.1,(hf b hb).2.1,(hf b hb).2.2.2.2.1,(hf b hb).2.2.2.2.2⟩
 refine(J.hok b ob e).stay (fun c w' hc q=>(hs.2 c ?_).trans q) (fun _ q=>q) fun _ _ q=>q
 have hfree:H' s.heap.objs.size=none:=J.free
 rintro rfl
 rcases hc with rfl | hc
 ·rw[hfree]at e;cases e
 ·rw[hfree]at hc;cases hc
theorem a2z{pins:List (Addr×Obj)}{σ:St}{H2:Hp}{s2:Shared}{cl:List (Str×Addr)}{iter:Expr}{pos:Pos}{it:Addr}{fp:List Addr}{tn:Nat→Heap→Prop}{Jt:It}{Q:Addr→Hp→Prop}{RR:Value→Addr→Result→Shared→Prop}{E:Value→Shared→Prop}
  (ci:K2 X own tl scope target elt ifs g tc te) (hc:X.calm=true) (I2:Inv X pins σ H2 s2) (T:Turn X.prog X.w X.K target Jt fp it tn) (st2:tn 0 s2.heap) (f2:∀b∈fp,a5a X pins H2 b)
  (c1:∀n c,cl.lookup n=some c→X.env.cells.lookup n=some c) (c2:∀y∈scope.names,y.2=.free→∃c,cl.lookup y.1=some c)
  (q:∀acc,H2 acc=none→a7N own.length g tc te Jt acc σ H2 (Q acc))
  (hRR:∀(acc C:Addr) (s3 s':Shared) (σ':St) (H':Hp) (m:Str→Option Value),C=s3.heap.objs.size→Inv X pins σ (upd H2 acc (.lst [])) s3→(∀b∈fp,a5a X pins (upd H2 acc (.lst [])) b) →
   Inv (X5 X own tl scope cl s3.heap.objs.size s3 (upd H2 acc (.lst [])) fp) [] σ' H' s'→s'.heap.Ns C m→Q acc H'→RR (.ref acc) C (.ok .next) s') :
  wpAny (model X.prog X.w) X.A (newList []) (fun acc s₃=>wpAny (model X.prog X.w) X.A (newFunctionEnv scope X.env.globals cl [] X.env.qual none .none (some X.env)) (fun cenv s₄=>
   codeAny (model X.prog X.w) X.A (.compStart (.ListComp elt [⟨target,iter,ifs,0⟩] scope pos) 0 (.ref it) acc { cenv with scope:=relabel scope X.env }) (RR acc cenv.locals) s₄) E s₃) E s2:=by
 have I3:=I2.lnew (t':=s2.toks) (ys:=[]) (its:=[]) .nil (aG3 _)
 have hacc:H2 s2.heap.objs.size=none:=I2.fresh
 refine aG9 (wpAny_newFunctionEnv (a3o ci.ok) (by intro y hy;simp at hy) (fun h₁ hns₁ hsb₁=>?_) ci.kind)
 dsimp only at hns₁ hsb₁ ⊢
 generalize hs3:({ s2 with heap:=s2.heap.push { cls:=.type "list",dict:=none,data:=.seq ([]:List Value).toArray } }:Shared)=s3 at *
 have es3:s2.heap.push { cls:=.type "list",dict:=none,data:=.seq ([]:List Value).toArray }=s3.heap:=by rw[←hs3]
 rw[es3]at hns₁ hsb₁ ⊢
 have hk:∀b o,s3.heap.get? b=some o→h₁.get? b=some o:=fun b o e=>hsb₁.extBut b o (aD6 (aC2 e)) (aA7 _ e)
 have fpO:∀b∈fp,∃o,s2.heap.get? b=some o:=fun b hb=>let ⟨o,e,_⟩:=T.obj 0 _ st2 b hb;⟨o,e⟩
 have k23:∀b o,s2.heap.get? b=some o→s3.heap.get? b=some o:=fun b o e=>by rw[←es3];exact aA7 _ e
 have fpne:∀b∈fp,b≠s2.heap.objs.size:=fun b hb=>let ⟨o,e⟩:=fpO b hb;aD6 (aC2 e)
 have f3:∀b∈fp,a5a X pins (upd H2 s2.heap.objs.size (.lst [])) b:=fun b hb=>⟨by rw[c9 (fpne b hb)];exact(f2 b hb).1,(f2 b hb).2⟩
 have st3:tn 0 h₁:=T.keep 0 s2.heap h₁ st2 fun b hb o e=>hk b o (k23 b o e)
 have f3o:∀b∈fp,∃o,s3.heap.get? b=some o:=fun b hb=>let ⟨o,e⟩:=fpO b hb;⟨o,k23 b o e⟩
 have I4:=b0q (t':=s3.toks) (os:=List.replicate own.length none) ci I3 c1 c2 f3 f3o hk hns₁ rfl
 generalize hX:X5 X own tl scope cl s3.heap.objs.size s3 (upd H2 s2.heap.objs.size (.lst [])) fp=XC at I4
 have env0:XC.env=compEnvC scope cl s3.heap.objs.size X.env:=by rw[←hX];rfl
 obtain⟨W,⟨m0,w0⟩,turn⟩:=q _ hacc
 have ltf:∀b∈fp,b≠s3.heap.objs.size:=fun b hb=>let ⟨o,e⟩:=f3o b hb;aD6 (aC2 e)
 have stat:∀{H':Hp},(∀b∈fp,H' b=none)→∀b∈fp,a5a XC [] H' b:=fun hn b hb=>by
  subst hX
  refine⟨hn b hb,ltf b hb,fun z=>?_,.inl hb,fun x c e=>(f2 b hb).2.2.2.2.1 x c (c1 x c e),fun p hp=>absurd (show p∈([]:List (Addr×Obj)) from hp) (by simp)⟩
  rcases aB7.mp (I2.stkSub b z) with z | z
  ·exact(f2 b hb).2.1 z
  ·exact(f2 b hb).2.2.1 z
 have loop:∀s4:Shared,s4={ s3 with heap:=h₁,toks:=s3.toks } →
   codeAny (model X.prog X.w) X.A (.compLoop (.ListComp elt [⟨target,iter,ifs,0⟩] scope pos) 0 (.ref it) (.ref s2.heap.objs.size) (compEnvC scope cl s3.heap.objs.size X.env)) (RR (.ref s2.heap.objs.size) s3.heap.objs.size) s4:=by
  rintro s4 rfl
  have fr0:∀b∈fp,(upd H2 s2.heap.objs.size (.lst [])) b=none:=fun b hb=>(f3 b hb).1
  refine b6f (fun n s'=>∃(i:Nat) (os:St) (H':Hp),os.length=own.length∧Inv XC [] (os++σ) H' s'∧tn i s'.heap∧(∀b∈fp,H' b=none)∧W i n H') ?_ m0 ⟨0,_,_,aR6,I4,st3,fr0,w0⟩
  rintro n s5 ⟨i,os,H5,hos,I5,st5,fr5,w5⟩
  have eP:XC.prog=X.prog:=by rw[←hX];rfl
  have eW:XC.w=X.w:=by rw[←hX];rfl
  have eK:XC.K=X.K:=by rw[←hX];rfl
  have eA:XC.A=X.A:=by rw[←hX];rfl
  have eC:XC.calm=true:=by rw[←hX];exact hc
  rcases turn i n H5 w5 with ⟨stop,qn⟩ | ⟨go,N,hN,step⟩
  ·have done:=T.done XC eP eW eK eC i [] s5 (os++σ) H5 (fun _ _=>False) I5 (stat fr5) st5 stop
   rw[eA]at done
   refine n5 done fun r s6 ⟨hr,I6⟩=>?_
   subst hr
   obtain⟨mm,hmm,_⟩:=id I6.loc
   have hmm:s6.heap.Ns s3.heap.objs.size mm:=by rw[env0]at hmm;exact hmm
   subst hX
   exact hRR _ _ s3 s6 _ H5 mm rfl I3 f3 I6 hmm qn
  ·have item:=T.item XC eP eW eK eC i [] s5 (os++σ) H5 (fun _ _=>False) I5 (stat fr5) st5 go
   rw[eA]at item
   refine n5 item fun r s6 ⟨u,hr,h6⟩=>?_
   subst hr
   refine n5 h6 fun _ s7 ⟨x,H7,I7,r7,y7,st7,fr7⟩=>?_
   have I7':=I7.pinned (stat fr7) (T.obj _ _ st7)
   have tg:=ci.tg cl s3.heap.objs.size s3 (upd H2 s2.heap.objs.size (.lst [])) fp
   have ti:=ci.ti cl s3.heap.objs.size s3 (upd H2 s2.heap.objs.size (.lst [])) fp
   have te':=ci.te cl s3.heap.objs.size s3 (upd H2 s2.heap.objs.size (.lst [])) fp
   rw[hX]at tg ti te'
   have a7:=tg _ s7 (os++σ) H7 x u _ I7' r7 (step os x H7 hos y7)
   have again:∀{os8:St} {H8:Hp} {s8:Shared},os8.length=own.length→Inv XC ([]++a0o fp s7.heap) (os8++σ) H8 s8→N H8→∃m,m<n∧∃(i:Nat) (os:St) (H':Hp),os.length=own.length∧Inv XC [] (os++σ) H' s8∧tn i s8.heap∧(∀b∈fp,H' b=none)∧W i m H':=fun {os8 H8 s8} ho8 I8 n8=>by
    obtain⟨m',hm,w8⟩:=hN H8 n8
    refine⟨m',hm,i+1,os8,H8,ho8,I8.unpinned,T.keep _ _ _ st7 fun b hb o e=>(I8.pin (b,o) (aE2 _ (aE2 _ (a7b hb e)))).1,fun b hb=>?_,w8⟩
    obtain⟨o,e,d⟩:=T.obj _ _ st7 b hb
    exact(I8.pin (b,o) (aE2 _ (aE2 _ (a7b hb e)))).2.1
   have exc:XC.xe=fun _ _=>False:=by rw[←hX];rfl
   rw[eP,eW,eA,env0,exc]at a7
   refine n5 a7 fun _ s8 ⟨σ8,H8,I8,⟨os8,ho8,e8⟩,q8⟩=>?_
   subst e8
   have a8:=ti _ s8 (os8++σ) H8 _ I8 q8
   rw[eP,eW,eA,env0,exc]at a8
   refine n5 a8 fun b s9 ⟨H9,I9,q9⟩=>?_
   cases b with
   | false=>
    simp only[aI8,aO4]at q9 ⊢
    exact again ho8 I9 q9
   | true=>
    simp only[aQ1]at q9 ⊢
    have a9:=te' _ s9 (os8++σ) H9 _ I9 q9
    rw[eP,eW,eA,env0,exc]at a9
    refine n5 a9 fun y s10 ⟨yv,H10,I10,ry,ys,hys,hlen,qN⟩=>?_
    have a10:=n6 (X:=XC) _ s10 (os8++σ) H10 (.ref s2.heap.objs.size) [yv] (.ref s2.heap.objs.size) [y] (fun _ H'=>N H') I10 rfl (.cons ry .nil) ⟨_,ys,yv,rfl,rfl,hys,hlen,qN⟩
    rw[eP,eW,eA,exc]at a10
    exact n5 a10 fun _ s11 ⟨_,H11,I11,_,q11⟩=>again ho8 I11 q11
 have e34:({ s2 with heap:=h₁,toks:=s2.toks+([]:List (Str×Value)).length }:Shared)={ s3 with heap:=h₁,toks:=s3.toks }:=by rw[←hs3];rfl
 exact codeAny_compStart_list (loop _ e34) (T.self _ 0 _ _ _ st3 (loop _ e34))
end
open PySem PySem.Spec PyProof.Rows
section
variable{X:Cx}{own tl:List Str}{scope:Scope}{target elt iter:Expr}{ifs:List Expr}{g:TG}{tc:TT}{te:TE}{wi:TI}
theorem R9{pos:Pos}(hc:X.calm=true)(hi:PI X target iter wi)(ci:K2 X own tl scope target elt ifs g tc te)(hs:∀x,foldedSetIterable iter X.env x=pure x:=by intro _;rfl) :
  PE X (.ListComp elt [⟨target,iter,ifs,0⟩] scope pos) (b1u own.length wi g tc te):=by
 intro pins s σ H Q I h
 obtain⟨cl,hcl,c1,c2⟩:=a2u (scope:=scope) (env:=X.env) fun y hy z=>I.ok.has y.1 (a6d ci.ok y hy z)
 rw[eval_ListComp]
 refine wpAny_comprehension_free (use:=none) rfl hs hcl ci.kind (a3m ci.ok) (n5 (hi pins s σ H _ I h) fun xv s1 h1=>n5 h1 fun itv s2 h2=>?_)
 obtain⟨it,fp,tn,J,H2,rfl,I2,T,st2,f2,q⟩:=h2
 refine a2z (RR:=fun acc C=>compPost (model X.prog X.w) X.A X.xe none (EP X pins σ Q) acc C) (Q:=fun acc H'=>Q (.ref acc) H') ci hc I2 T st2 f2 c1 c2 q ?_
 intro acc C s3 s' σ' H' m hC I3 f3 IC hns hq
 subst hC
 exact⟨m,hns,fun h' hs'=>⟨.ref acc,H',a0R I3 f3 IC hs',rfl,hq⟩⟩
theorem a5D{i:Nat}{x:Str}{pos cpos pos':Pos}(hN:X.N.Nodup)(hi':X.N[i]?=some x)(hx:X.env.scope.names.lookup x=some .local)(hc:X.calm=true)(hi:PI X target iter wi)(ci:K2 X own tl scope target elt ifs g tc te)
  (hsw:swapsWith (.ListComp elt [⟨target,iter,ifs,0⟩] scope cpos) (some (.Name x pos')) pos.line X.env=pure true:=by rfl) (hs:∀x,foldedSetIterable iter X.env x=pure x:=by intro _;rfl) :
  PS X (.Assign [.Name x pos'] (.ListComp elt [⟨target,iter,ifs,0⟩] scope cpos) pos) (b7s (b1u own.length wi g tc te) (a8A i)):=by
 intro pins s σ H D I h
 obtain⟨cl,hcl,c1,c2⟩:=a2u (scope:=scope) (env:=X.env) fun y hy z=>I.ok.has y.1 (a6d ci.ok y hy z)
 rw[exec_Assign_Name_used _ _ _ _ hsw]
 refine aA1 (wpAny_standAt (aA1 ?_))
 show wpAny _ _ (do let _ ←comprehension (.ListComp elt [⟨target,iter,ifs,0⟩] scope cpos) scope X.env _ (newList []) false (eval iter X.env) (some (assign (.Name x pos') X.env))) _ _ s
 refine aA1 (aH6 (wpAny_comprehension_free (use:=some (assign (.Name x pos') X.env)) (Q:=fun _ s'=>SP X pins D .next s') rfl hs hcl ci.kind (a3m ci.ok)
  (n5 (hi pins s σ H _ I h) fun xv s1 h1=>n5 h1 fun itv s2 h2=>?_)) (fun _ s' hq=>aA6 (aA6 hq)) fun _ _ e=>e)
 obtain⟨it,fp,tn,J,H2,rfl,I2,T,st2,f2,q⟩:=h2
 refine a2z (RR:=fun acc C=>compPost (model X.prog X.w) X.A X.xe (some (assign (.Name x pos') X.env)) (fun _ s'=>SP X pins D .next s') acc C) (Q:=fun acc H'=>D.nx (σ.set i (some (.ref acc))) H') ci hc I2 T st2 f2 c1 c2 q ?_
 intro acc C s3 s' σ' H' m hC I3 f3 IC hns hq
 subst hC
 have I':Inv X pins σ H' s':=a0R I3 f3 IC ⟨rfl,fun _ _=>rfl⟩
 have hL:s3.heap.objs.size≠X.env.locals:=aK1 I3.lt
 have hCe:∀y c,X.env.cells.lookup y=some c→c≠s3.heap.objs.size:=fun y c e=>by
  obtain⟨v,o,ho,_⟩:=I3.cell y c e
  exact aD6 (aC2 ho)
 show wpAny _ _ (assign (.Name x pos') X.env (.ref acc)) _ _ s'
 refine wpAny_assign_Name (a2J I' hN hi' (.inl hx) (v:=.ref acc) rfl (fun s'' I'' ⟨a,hsb,ha⟩=>?_) (.inr hx))
 have hne:s3.heap.objs.size≠a:=by
  rcases ha with e | e
  ·rw[e];exact hL
  ·exact Ne.symm (hCe x a e)
 refine⟨m,hns.sameBut hsb hne,fun h' hs'=>?_⟩
 refine⟨σ.set i (some (.ref acc)),H',I''.turned (t':=s''.toks) (it:=s3.heap.objs.size) (fun b o hb e=>(hs'.2 b hb).trans e) IC.free hL (.inr I3.sz) hCe (fun p hp z=>?_),hq⟩
 exact absurd (aC2 (I3.pin p hp).1) (by rw[z];exact aJ1 _)
end
theorem J3{K:PySem.W.Frag}{a acc:Addr}{xs:List V}{tc:TT}{te:TE}{σ:St}{H1:Hp}{Q:Hp→Prop}(Pv:Nat→Hp→Prop)(h0:Pv 0 (upd H1 acc (.lst [])))(hl:∀i H,i≤xs.length→Pv i H→d8 K H a xs)
  (hs:∀i x H,xs[i]?=some x→Pv i H→tc (some x::σ) H fun b H3=>if b=true then te (some x::σ) H3 fun y H4=>∃ys,H4 acc=some (.lst ys)∧ys.length<sizeLine∧Pv (i+1) (upd H4 acc (.lst (ys++[y]))) else Pv (i+1) H3)
  (hd:∀H,Pv xs.length H→Q H):a7N 1 (a8A 0) tc te (Itl K a) acc σ H1 Q:=by
 refine⟨fun i m H=>i≤xs.length∧m=xs.length-i∧Pv i H,⟨_,aG3 _,rfl,h0⟩,fun i m H ⟨hi,hm,hp⟩=>?_⟩
 rcases Nat.lt_or_ge i xs.length with lt | ge
 ·refine .inr ⟨⟨xs,xs[i],hl i H hi hp,List.getElem?_eq_getElem lt⟩,Pv (i+1),fun H' h'=>⟨xs.length-(i+1),by omega,by omega,rfl,h'⟩,fun os x H' ho hy=>?_⟩
  obtain⟨rfl,hy⟩:=hy
  have hx:=hy xs (hl i _ hi hp)
  obtain⟨o,rfl⟩:∃o,os=[o]:=by
   match os,ho with
   | [o],_=>exact⟨o,rfl⟩
  exact⟨⟨[some x],rfl,rfl⟩,hs i x H' hx hp⟩
 ·have e:i=xs.length:=by omega
  subst e
  exact .inl ⟨⟨xs,hl _ H (aB3 _) hp,aB3 _⟩,hd H hp⟩
open PySem PySem.Spec PyProof.Rows
def b0I(t:TS):TS:=fun D σ H=>∃M:St→Hp→Prop,t { D with nx:=M } σ H∧∀σ' H',M σ' H'→D.nx σ' H'
theorem P6{X:Cx}{st:Stmt}{t:TS}(h:PS X st t):PS X st (b0I t):=by
 intro pins s σ H D I ⟨M,ht,hM⟩
 refine n5 (h pins s σ H { D with nx:=M } I ht) fun f s' q=>?_
 cases f with
 | next=>obtain⟨σ',H',I',q⟩:=q;exact⟨σ',H',I',hM σ' H' q⟩
 | brk=>exact q
 | cont=>exact q
 | ret u=>exact q
open PySem PySem.Spec PyProof.Rows
mutual
def Rep(K:PySem.W.Frag)(H:Hp):PyData→V→Prop
 | .none,v=>v=.non
 | .bool b,v=>v=.bl b
 | .int i,v=>v=.int i
 | .str x,v=>v=.str x
 | .list ds,v=>∃a xs,v=.ref a∧d8 K H a xs∧u0 K H ds xs
 | .tuple ds,v=>∃a xs,v=.ref a∧i3 K H a xs∧u0 K H ds xs
 | .dict _,_=>False
def u0(K:PySem.W.Frag)(H:Hp):List PyData→List V→Prop
 | [],xs=>xs=[]
 | d::ds,xs=>∃y ys,xs=y::ys∧Rep K H d y∧u0 K H ds ys
end
mutual
theorem M4{X:Cx}{pins:List (Addr×Obj)}{σ:St}{H:Hp}{s:Shared}(I:Inv X pins σ H s):∀(d:PyData) {v:V} {u:Value},Rep X.K H d v→RelV v u→∃as,Reads s.heap u d as
 | .none,v,u,r,e=>by unfold Rep at r;subst r;cases e;exact⟨_,.none⟩
 | .bool b,v,u,r,e=>by unfold Rep at r;subst r;cases e;exact⟨_,.bool b⟩
 | .int i,v,u,r,e=>by unfold Rep at r;subst r;obtain⟨t,rfl⟩:=(show ∃t,u=Value.int i t from e);exact⟨_,.int i t⟩
 | .str x,v,u,r,e=>by unfold Rep at r;subst r;obtain⟨t,rfl⟩:=(show ∃t,u=Value.str x t from e);exact⟨_,.str x t⟩
 | .list ds,v,u,r,e=>by
  unfold Rep at r
  obtain⟨a,xs,rfl,hq,rs⟩:=r
  cases (show u=Value.ref a from e)
  obtain⟨its,rv,p,hz⟩:=I.list hq
  obtain⟨as,ra⟩:=a0g I ds rs rv
  obtain⟨o,h1,h2,n,h3⟩:=p.isList
  exact⟨_,.list h1 h2 h3 (by simpa using ra)⟩
 | .tuple ds,v,u,r,e=>by
  unfold Rep at r
  obtain⟨a,xs,rfl,hq,rs⟩:=r
  cases (show u=Value.ref a from e)
  obtain⟨its,rv,p,hz⟩:=I.tuple hq
  obtain⟨as,ra⟩:=a0g I ds rs rv
  obtain⟨o,h1,h2,n,h3⟩:=(show s.heap.IsTuple a its.toArray from p)
  exact⟨_,.tuple h1 h2 h3 (by simpa using ra)⟩
 | .dict _,v,u,r,e=>by unfold Rep at r;exact r.elim
theorem a0g{X:Cx}{pins:List (Addr×Obj)}{σ:St}{H:Hp}{s:Shared}(I:Inv X pins σ H s):∀(ds:List PyData) {xs:List V} {us:List Value},u0 X.K H ds xs→j6 xs us→∃as,ReadsAll s.heap us ds as
 | [],xs,us,r,e=>by unfold u0 at r;subst r;cases e;exact⟨_,.nil⟩
 | d::ds,xs,us,r,e=>by
  unfold u0 at r
  obtain⟨y,ys,rfl,r1,r2⟩:=r
  cases e with
  | cons e1 e2=>
   obtain⟨as,h1⟩:=M4 I d r1 e1
   obtain⟨bs,h2⟩:=a0g I ds r2 e2
   exact⟨_,.cons h1 h2⟩
end
theorem Rd.same{H H':Hp}{a:Addr}{u:HO}(e:f7 H H')(h:Rd H a u):Rd H' a u:=h.elim (fun z=>.inl (e _ _ z)) fun⟨o,z⟩=>.inr ⟨o,e _ _ z⟩
theorem d8.same{K:PySem.W.Frag}{H H':Hp}{a:Addr}{xs:List V}(e:f7 H H')(h:d8 K H a xs):d8 K H' a xs:=h.elim (fun z=>.inl (z.same e)) .inr
theorem i3.same{K:PySem.W.Frag}{H H':Hp}{a:Addr}{xs:List V}(e:f7 H H')(h:i3 K H a xs):i3 K H' a xs:=h.elim (fun z=>.inl (z.same e)) .inr
mutual
theorem Rep.same{K:PySem.W.Frag}{H H':Hp}(e:f7 H H'):∀{d:PyData} {v:V},Rep K H d v→Rep K H' d v
 | .none,v,r=>by unfold Rep at r ⊢;exact r
 | .bool b,v,r=>by unfold Rep at r ⊢;exact r
 | .int i,v,r=>by unfold Rep at r ⊢;exact r
 | .str x,v,r=>by unfold Rep at r ⊢;exact r
 | .list ds,v,r=>by unfold Rep at r ⊢;obtain⟨a,xs,e1,hq,rs⟩:=r;exact⟨a,xs,e1,hq.same e,u0.same e rs⟩
 | .tuple ds,v,r=>by unfold Rep at r ⊢;obtain⟨a,xs,e1,hq,rs⟩:=r;exact⟨a,xs,e1,hq.same e,u0.same e rs⟩
 | .dict _,v,r=>by unfold Rep at r;exact r.elim
theorem u0.same{K:PySem.W.Frag}{H H':Hp}(e:f7 H H'):∀{ds:List PyData} {xs:List V},u0 K H ds xs→u0 K H' ds xs
 | [],xs,r=>by unfold u0 at r ⊢;exact r
 | d::ds,xs,r=>by unfold u0 at r ⊢;obtain⟨y,ys,e1,r1,r2⟩:=r;exact⟨y,ys,e1,Rep.same e r1,u0.same e r2⟩
end
def u5(H H':Hp):Prop:=(∀b xs,H b=some (.tup xs)→H' b=some (.tup xs))∧∀b o xs,H b=some (.frz o (.tup xs))→H' b=some (.frz o (.tup xs))
theorem f7.tupK{H H':Hp}(e:f7 H H'):u5 H H':=⟨fun b xs h=>e b _ h,fun b o xs h=>e b _ h⟩
theorem u5.refl(H:Hp):u5 H H:=⟨fun _ _ h=>h,fun _ _ _ h=>h⟩
theorem u5.trans{H H1 H2:Hp}(a:u5 H H1)(b:u5 H1 H2):u5 H H2:=⟨fun c xs h=>b.1 c xs (a.1 c xs h),fun c o xs h=>b.2 c o xs (a.2 c o xs h)⟩
theorem a9Q{H:Hp}{a:Addr}{o:HO}(h:H a=none∨∃xs,H a=some (.lst xs)):u5 H (upd H a o):=by
 have ne:∀b u,H b=some u→(∀xs,u≠.lst xs)→b≠a:=fun b u e hn z=>by
  subst z
  rcases h with q | ⟨xs,q⟩
  ·rw[q]at e;cases e
  ·rw[q]at e;exact hn xs (aC0 e).symm
 exact⟨fun b xs e=>by rw[c9 (ne b _ e fun _ z=>nomatch z)];exact e,fun b o' xs e=>by rw[c9 (ne b _ e fun _ z=>nomatch z)];exact e⟩
theorem J0{H:Hp}{a:Addr}{o:HO}(h:H a=none):u5 H (upd H a o):=a9Q (.inl h)
theorem n4{H:Hp}{a:Addr}{o:HO}{xs:List V}(h:H a=some (.lst xs)):u5 H (upd H a o):=a9Q (.inr ⟨xs,h⟩)
theorem b8{H:Hp}{p:Addr}{o:HO}(h:H p=none):f7 H (upd H p o):=fun b u q=>by rw[c9 (g6 q h)];exact q
mutual
def fixed:PyData→Bool
 | .none | .bool _ | .int _ | .str _=>true
 | .list _=>false
 | .tuple ds=>b1h ds
 | .dict _=>false
def b1h:List PyData→Bool
 | []=>true
 | d::ds=>fixed d&&b1h ds
end
theorem u0.len{K:PySem.W.Frag}{H:Hp}:∀{ds:List PyData} {xs:List V},u0 K H ds xs→ds.length=xs.length
 | [],xs,r=>by unfold u0 at r;subst r;rfl
 | d::ds,xs,r=>by unfold u0 at r;obtain⟨y,ys,rfl,r1,r2⟩:=r;simp[u0.len r2]
theorem u0.at{K:PySem.W.Frag}{H:Hp}:∀{ds:List PyData} {xs:List V} {i:Nat} {d:PyData},u0 K H ds xs→ds[i]?=some d→∃x,xs[i]?=some x∧Rep K H d x
 | [],xs,i,d,r,e=>by simp at e
 | d::ds,xs,0,e,r,q=>by unfold u0 at r;obtain⟨y,ys,rfl,r1,r2⟩:=r;simp at q;subst q;exact⟨y,rfl,r1⟩
 | d::ds,xs,i+1,e,r,q=>by unfold u0 at r;obtain⟨y,ys,rfl,r1,r2⟩:=r;obtain⟨x,h1,h2⟩:=u0.at (i:=i) r2 (by simpa using q);exact⟨x,by simpa using h1,h2⟩
theorem u0.at'{K:PySem.W.Frag}{H:Hp}:∀{ds:List PyData} {xs:List V} {i:Nat} {x:V},u0 K H ds xs→xs[i]?=some x→∃d,ds[i]?=some d∧Rep K H d x
 | [],xs,i,x,r,e=>by unfold u0 at r;subst r;simp at e
 | d::ds,xs,0,e,r,q=>by unfold u0 at r;obtain⟨y,ys,rfl,r1,r2⟩:=r;simp at q;subst q;exact⟨d,rfl,r1⟩
 | d::ds,xs,i+1,e,r,q=>by unfold u0 at r;obtain⟨y,ys,rfl,r1,r2⟩:=r;obtain⟨x,h1,h2⟩:=u0.at' (i:=i) r2 (by simpa using q);exact⟨x,by simpa using h1,h2⟩
mutual
def z8:PyData→Bool
 | .none | .int _ | .str _=>true
 | .bool _=>false
 | .list ds=>B9 ds
 | .tuple ds=>B9 ds
 | .dict _=>false
def B9:List PyData→Bool
 | []=>true
 | d::ds=>z8 d&&B9 ds
end
mutual
theorem b7k:∀(d e:PyData),z8 d=true→z8 e=true→PyData.eqv d e=true→d=e
 | .none,e,_,he,h=>by cases e<;>simp_all [PyData.eqv]
 | .int i,e,_,he,h=>by cases e<;>simp_all [PyData.eqv,z8]
 | .str i,e,_,he,h=>by cases e<;>simp_all [PyData.eqv,z8]
 | .bool b,e,hd,_,_=>by simp[z8]at hd
 | .dict _,e,hd,_,_=>by simp[z8]at hd
 | .list ds,e,hd,he,h=>by
  cases e with
  | list es=>
   unfold z8 at hd he
   unfold PyData.eqv at h
   rw[a9F ds es hd he h]
  | _=>simp[PyData.eqv]at h
 | .tuple ds,e,hd,he,h=>by
  cases e with
  | tuple es=>
   unfold z8 at hd he
   unfold PyData.eqv at h
   rw[a9F ds es hd he h]
  | _=>simp[PyData.eqv]at h
theorem a9F:∀(ds es:List PyData),B9 ds=true→B9 es=true→PyData.eqvAll ds es=true→ds=es
 | [],[],_,_,_=>rfl
 | [],_::_,_,_,h=>by simp[PyData.eqvAll]at h
 | _::_,[],_,_,h=>by simp[PyData.eqvAll]at h
 | d::ds,e::es,hd,he,h=>by
  unfold B9 at hd he
  unfold PyData.eqvAll at h
  rw[aE9]at hd he h
  rw[b7k d e hd.1 he.1 h.1,a9F ds es hd.2 he.2 h.2]
end
mutual
theorem a3x:∀(d:PyData),z8 d=true→PyData.eqv d d=true
 | .none,_=>by simp[PyData.eqv]
 | .int i,_=>by simp[PyData.eqv]
 | .str i,_=>by simp[PyData.eqv]
 | .bool b,hd=>by simp[z8]at hd
 | .dict _,hd=>by simp[z8]at hd
 | .list ds,hd=>by unfold z8 at hd;unfold PyData.eqv;exact a6q ds hd
 | .tuple ds,hd=>by unfold z8 at hd;unfold PyData.eqv;exact a6q ds hd
theorem a6q:∀(ds:List PyData),B9 ds=true→PyData.eqvAll ds ds=true
 | [],_=>by simp[PyData.eqvAll]
 | d::ds,hd=>by
  unfold B9 at hd
  rw[aE9]at hd
  unfold PyData.eqvAll
  rw[aE9]
  exact⟨a3x d hd.1,a6q ds hd.2⟩
end
def b5B(K:PySem.W.Frag)(neg:Bool):R2:=fun x y H Q=>∃d e,Rep K H d x∧Rep K H e y∧d.canLay0=true∧e.canLay0=true∧d.depth≤60∧Q (.bl (if neg then !PyData.eqv d e else PyData.eqv d e)) H
def b0z(K:PySem.W.Frag)(neg:Bool):R2:=fun x y H Q=>∃d p xs ds,Rep K H d x∧y=.ref p∧(d8 K H p xs∨i3 K H p xs)∧u0 K H ds xs∧d.canLay0=true∧PyData.canLayAll0 ds=true∧d.depth≤60 ∧
 Q (.bl (if neg then !(ds.any fun e=>PyData.eqv e d) else ds.any fun e=>PyData.eqv e d)) H
section
variable{X:Cx}
theorem b6B(hu:X.A.units+64<cLine):G7 X (compareOp .Eq) (b5B X.K false):=by
 intro pins s σ H x y v u Q I rx ry h
 obtain⟨d,e,rd,re,hd,he,hz,q⟩:=h
 obtain⟨as,r1⟩:=M4 I d rd rx
 obtain⟨bs,r2⟩:=M4 I e re ry
 exact PySem.SeqAt.compareEq_reads r1 r2 hd he (by omega) (r8 I q rfl)
theorem a6n(hu:X.A.units+64<cLine):G7 X (compareOp .NotEq) (b5B X.K true):=by
 intro pins s σ H x y v u Q I rx ry h
 obtain⟨d,e,rd,re,hd,he,hz,q⟩:=h
 obtain⟨as,r1⟩:=M4 I d rd rx
 obtain⟨bs,r2⟩:=M4 I e re ry
 exact PySem.SeqAt.compareNe_reads r1 r2 hd he (by omega) (r8 I q rfl)
theorem b6I(hu:X.A.units+64<cLine):G7 X (compareOp .In) (b0z X.K false):=by
 intro pins s σ H x y v u Q I rx ry h
 obtain⟨d,p,xs,ds,rd,rfl,hq,rs,hd,hds,hz,q⟩:=h
 obtain⟨as,r1⟩:=M4 I d rd rx
 rcases hq with hq | hq
 ·obtain⟨bs,r2⟩:=M4 I (.list ds) (show Rep X.K H (.list ds) (.ref p) from by unfold Rep;exact⟨p,xs,rfl,hq,rs⟩) ry
  exact PySem.SeqAt.in_list_reads r2 r1 hds hd (by omega) (r8 I q rfl)
 ·obtain⟨bs,r2⟩:=M4 I (.tuple ds) (show Rep X.K H (.tuple ds) (.ref p) from by unfold Rep;exact⟨p,xs,rfl,hq,rs⟩) ry
  exact PySem.SeqAt.in_tuple_reads r2 r1 hds hd (by omega) (r8 I q rfl)
theorem b6k(hu:X.A.units+64<cLine):G7 X (compareOp .NotIn) (b0z X.K true):=by
 intro pins s σ H x y v u Q I rx ry h
 obtain⟨d,p,xs,ds,rd,rfl,hq,rs,hd,hds,hz,q⟩:=h
 obtain⟨as,r1⟩:=M4 I d rd rx
 rcases hq with hq | hq
 ·obtain⟨bs,r2⟩:=M4 I (.list ds) (show Rep X.K H (.list ds) (.ref p) from by unfold Rep;exact⟨p,xs,rfl,hq,rs⟩) ry
  exact PySem.SeqAt.notIn_list_reads r2 r1 hds hd (by omega) (r8 I q rfl)
 ·obtain⟨bs,r2⟩:=M4 I (.tuple ds) (show Rep X.K H (.tuple ds) (.ref p) from by unfold Rep;exact⟨p,xs,rfl,hq,rs⟩) ry
  exact PySem.SeqAt.notIn_tuple_reads r2 r1 hds hd (by omega) (r8 I q rfl)
end
def TyV(K:PySem.W.Frag)(H:Hp)(x:V)(T:String):Prop:=match x with
 | .non=>T="NoneType"
 | .bl _=>T="bool"
 | .int _=>T="int"
 | .str _=>T="str"
 | .ref a=>(T="list"∧∃xs,d8 K H a xs)∨(T="tuple"∧∃xs,i3 K H a xs)∨(T="dict"∧∃kvs,H a=some (.dK kvs))
 | _=>False
def tyD:PyData→String
 | .none=>"NoneType"
 | .bool _=>"bool"
 | .int _=>"int"
 | .str _=>"str"
 | .list _=>"list"
 | .tuple _=>"tuple"
 | .dict _=>"dict"
theorem Rep.ty{K:PySem.W.Frag}{H:Hp}{d:PyData}{x:V}(r:Rep K H d x):TyV K H x (tyD d):=by
 cases d with
 | none=>unfold Rep at r;subst r;rfl
 | bool b=>unfold Rep at r;subst r;rfl
 | int i=>unfold Rep at r;subst r;rfl
 | str y=>unfold Rep at r;subst r;rfl
 | list ds=>unfold Rep at r;obtain⟨a,xs,rfl,hq,_⟩:=r;exact .inl ⟨rfl,xs,hq⟩
 | tuple ds=>unfold Rep at r;obtain⟨a,xs,rfl,hq,_⟩:=r;exact .inr (.inl ⟨rfl,xs,hq⟩)
 | dict _=>unfold Rep at r;exact r.elim
def a0c(T c:String):Bool:=T==c||(T=="bool"&&c=="int")
def tys:List String:=["NoneType","bool","int","str","list","tuple","dict"]
def a7v:List String:=["int","bool","str","list","tuple"]
theorem a5F(K:PySem.W.Frag):∀T∈tys,∀c∈a7v,PySem.W.kitOne K (.type T) (.type c)=some (a0c T c):=by
 intro T hT c hc
 simp only[tys,aB7,aF7,aL4]at hT
 simp only[a7v,aB7,aF7,aL4]at hc
 rcases hT with rfl | rfl | rfl | rfl | rfl | rfl | rfl<;>rcases hc with rfl | rfl | rfl | rfl | rfl<;>first | rfl | with_unfolding_all rfl
inductive b9G(K:PySem.W.Frag)(xs:List V)(H:Hp)(Q:VK):Prop
 | mk (x:V) (T c:String) (e:xs=[x,.ty c]) (t:TyV K H x T) (m:c∈a7v) (q:Q (.bl (a0c T c)) H)
section
variable{X:Cx}{pins:List (Addr×Obj)}{σ:St}{H:Hp}{s:Shared}
theorem TyV.mem{K:PySem.W.Frag}{x:V}{T:String}(t:TyV K H x T):T∈tys:=by
 cases x<;>simp only[TyV]at t
 case ref a=>rcases t with ⟨rfl,_⟩ | ⟨rfl,_⟩ | ⟨rfl,_⟩<;>decide
 all_goals first | (subst t;decide) | exact t.elim
theorem a2Z(I:Inv X pins σ H s){x:V}{u:Value}{T:String}(rx:RelV x u)(t:TyV X.K H x T):∃φ:Heap→Prop,PySem.W.KitX X.K u (.type T) φ∧φ s.heap∧u≠.builtin "__main__.__loader__#opaque":=by
 cases x<;>simp only[TyV]at t
 case non=>subst t;cases (show u=Value.none from rx);exact⟨_,PySem.W.kitx_none,True.intro,fun z=>nomatch z⟩
 case bl b=>subst t;cases (show u=Value.bool b from rx);exact⟨_,PySem.W.kitx_bool,True.intro,fun z=>nomatch z⟩
 case int i=>subst t;obtain⟨k,rfl⟩:=(show ∃k,u=Value.int i k from rx);exact⟨_,PySem.W.kitx_int,True.intro,fun z=>nomatch z⟩
 case str i=>subst t;obtain⟨k,rfl⟩:=(show ∃k,u=Value.str i k from rx);exact⟨_,PySem.W.kitx_str,True.intro,fun z=>nomatch z⟩
 case ref a=>
  cases (show u=Value.ref a from rx)
  rcases t with ⟨rfl,xs,hq⟩ | ⟨rfl,xs,hq⟩ | ⟨rfl,kvs,hq⟩
  ·obtain⟨its,rv,p,hz⟩:=I.list hq
   obtain⟨o,h1,h2,_⟩:=p.isList
   exact⟨_,PySem.W.kitx_list,⟨o,h1,h2⟩,fun z=>nomatch z⟩
  ·obtain⟨its,rv,p,hz⟩:=I.tuple hq
   obtain⟨o,h1,h2,_⟩:=p
   exact⟨_,PySem.W.kitx_tuple,⟨o,h1,h2⟩,fun z=>nomatch z⟩
  ·obtain⟨_,_,vs,_,p⟩:=(show C0 X.prog X.w H s.heap a (.dK kvs) from I.hok a _ hq)
   obtain⟨o,es,ep,h1,h2,_⟩:=p
   exact⟨_,PySem.W.kitx_dict,⟨o,h1,h2.1⟩,fun z=>nomatch z⟩
 all_goals exact t.elim
theorem C7:N5 X (.builtin "isinstance") (b9G X.K):=by
 intro pins s σ H xs us Q I r h
 obtain⟨x,T,c,rfl,ty,hc,q⟩:=h
 obtain⟨u,v,rfl,ru,rv⟩:=vals2 r
 cases (show v=Value.type c from rv)
 obtain⟨φ,Z,p,ne⟩:=a2Z I ru ty
 exact PySem.W.kia_one Z I.kIn p (a5F X.K T ty.mem c hc) ne fun tk=>r8 (I.tok tk) q rfl
theorem b7q(K:PySem.W.Frag){T c d:String}(hT:T∈tys)(hc:c∈a7v)(hd:d∈a7v):PySem.W.kitAny K (.type T) [.type c,.type d]=some (a0c T c||a0c T d):=by
 unfold PySem.W.kitAny
 rw[a5F K T hT c hc]
 cases a0c T c with
 | true=>rfl
 | false=>
  show PySem.W.kitAny K (.type T) [.type d]=_
  unfold PySem.W.kitAny
  rw[a5F K T hT d hd]
  cases a0c T d<;>rfl
theorem a4o:N5 X (.builtin "isinstance") (fun xs H Q=>∃x T c d p,xs=[x,.ref p]∧H p=some (.tup [.ty c,.ty d])∧TyV X.K H x T∧c∈a7v∧d∈a7v∧Q (.bl (a0c T c||a0c T d)) H):=by
 intro pins s σ H xs us Q I r h
 obtain⟨x,T,c,d,tp,rfl,hp,ty,hc,hd,q⟩:=h
 obtain⟨u,v,rfl,ru,rv⟩:=vals2 r
 cases (show v=Value.ref tp from rv)
 obtain⟨φ,Z,p,ne⟩:=a2Z I ru ty
 obtain⟨its,rvs,ht,hz⟩:=I.tuple (i3.of hp)
 obtain⟨⟨cls,dd,data,sl⟩,h1,h2,n,h3⟩:=(show s.heap.IsTuple tp its.toArray from ht)
 simp only at h2 h3
 subst h2 h3
 have e:its=[.type c,.type d]:=by
  cases rvs with
  | cons a b=>
   cases b with
   | cons a' b'=>
    cases b'
    rw[show _=Value.type c from a,show _=Value.type d from a']
 subst e
 exact PySem.W.kia_tup Z I.kIn p h1 (b7q X.K ty.mem hc hd) ne fun tk=>r8 (I.tok tk) q rfl
end
open PySem PySem.Spec PyProof.Rows
section
variable{X:Cx}{own tl:List Str}{scope:Scope}{cl:List (Str×Addr)}{C:Addr}{s₀:Shared}{H₀:Hp}{ex:List Addr}
theorem T3:IxR (X5 X own tl scope cl C s₀ H₀ ex) (b1s X.K):=f6
theorem a1j:G7 (X5 X own tl scope cl C s₀ H₀ ex) (compareOp .In) (rIn X.K false):=N2
end
end L2
namespace Srt
open PySem PyProof.Rows
structure Sortable(prog:Program)(w:World)(h:Heap)(vs:List Value)(O:KeyOrd)(key:Keyed→O.α):Prop where
 tx:∀v∈vs,∃x t,v=.str x t
 short:vs.length<64
 ord:∀(x y:Str) (t u:Tok),decide (y.cps.toList<x.cps.toList)=false→O.kle (key (.str x t,.str x t)) (key (.str y u,.str y u))
theorem outs{prog:Program}{w:World}{h:Heap}{vs:List Value}{O:KeyOrd}{key:Keyed→O.α}(S:Sortable prog w h vs O key){xs:Array Keyed}(hp:xs.Perm (pairsOf vs))(hs:SortedToK strKind xs (pairsOf vs).size) :
  (xs.toList.map (·.2)).Perm vs∧(xs.toList.map (·.2)).Pairwise (fun x y=>O.kle (key (x,x)) (key (y,y))):=by
 have hl:xs.toList.Perm (vs.zip vs):=by rw[←pairsOf_toList];exact Array.perm_iff_toList_perm.mp hp
 have hm:∀p∈xs.toList,p.1=p.2∧p.1∈vs:=fun p h'=>mem_zip_self (hl.mem_iff.mp h')
 refine⟨?_,?_⟩
 ·have:=hl.map (·.2)
  rwa [show(vs.zip vs).map (·.2)=vs from List.map_snd_zip (aB3 _)] at this
 ·rw[aQ0,aM7]
  intro i j hi hj hij
  have hi':i<xs.size:=by simpa using hi
  have hj':j<xs.size:=by simpa using hj
  have h1:=hs i j (aK8 hij) (by rw[←hp.size_eq];exact hj')
  obtain⟨a1,a2⟩:=hm xs[i] (by simp)
  obtain⟨b1,b2⟩:=hm xs[j] (by simp)
  obtain⟨x,t,ex⟩:=S.tx _ a2
  obtain⟨y,u,ey⟩:=S.tx _ b2
  rw[KK_str hi' (x:=x) (t:=t) (q:=xs[i].2) (Prod.ext ex rfl),KK_str hj' (x:=y) (t:=u) (q:=xs[j].2) (Prod.ext ey rfl)] at h1
  rw[Array.getElem_toList,Array.getElem_toList,←a1,←b1,ex,ey]
  exact S.ord x y t u h1
theorem arr2(xs:Array Keyed):xs.map (·.2)=(xs.toList.map (·.2)).toArray:=by apply Array.toList_inj.mp;simp
section
variable{prog:Program}{w:World}{A:Around}{E:Value→Shared→Prop}{s:Shared}
theorem sort_any{O:KeyOrd}{key:Keyed→O.α}(d:O.α){a:Addr}{vs:List Value}{n:Nat}{P:Fin→Shared→Prop}{h₀:Heap}(oa:s.heap.get? a=some (seqObj "list" vs.toArray n))(hz:vs.length≤sizeLine)(S:Sortable prog w h₀ vs O key)
  (hk:∀b o,h₀.get? b=some o→b≠a∧s.heap.get? b=some o)
  (h:∀out:List Value,out.Perm vs→out.Pairwise (fun x y=>O.kle (key (x,x)) (key (y,y)))→P (.done (.ret .none)) { s with heap:=sortedHeap s.heap a vs out.toArray }) :
  wpAny (model prog w) A (Builtin.«list.sort» ⟨[.ref a],[]⟩) P E s:=by
 have hS:=strsAre_map vs S.tx
 refine list_sort_treeK strKind_oneLt oa hS.keysOf (fun v₁ v₂ rest e=>keyKind_strs (by rw[←e];exact hS)) S.short fun st' hp hs=>?_
 rw[arr2]
 exact h _ (outs S hp hs).1 (outs S hp hs).2
theorem sorted_list{O:KeyOrd}{key:Keyed→O.α}(d:O.α){lst:Addr}{vs:List Value}{Qr:Value→Shared→Prop}(isl:s.heap.IsList lst vs.toArray)(hz:vs.length≤sizeLine)(S:Sortable prog w s.heap vs O key)
  (h:∀out:List Value,out.Perm vs→out.Pairwise (fun x y=>O.kle (key (x,x)) (key (y,y)))→Qr (.ref (s.heap.objs.size+1)) { s with heap:=sortedAll s.heap vs out.toArray }) :
  wpAny (model prog w) A (call (.builtin "sorted") [.ref lst]) Qr E s:=by
 have hS:=strsAre_map vs S.tx
 refine sortedK strKind_oneLt isl hS.keysOf (fun v₁ v₂ rest e=>keyKind_strs (by rw[←e];exact hS)) S.short fun st' hp hs=>?_
 rw[arr2]
 exact h _ (outs S hp hs).1 (outs S hp hs).2
end
end Srt
namespace L2
open PySem PySem.Spec PyProof.Rows Srt
abbrev Atom:=Sum Int (List Nat)
def a9o:Atom→Atom→Bool
 | .inl a,.inl b=>decide (a<b)
 | .inl _,.inr _=>true
 | .inr _,.inl _=>false
 | .inr a,.inr b=>decide (a<b)
theorem a0v:∀a:Atom,a9o a a=false
 | .inl a=>aB2 (Int.lt_irrefl a)
 | .inr a=>aB2 (List.lt_irrefl a)
theorem a2B:∀{a b c:Atom},a9o a b=true→a9o b c=true→a9o a c=true
 | .inl a,.inl b,.inl c,h1,h2=>aC4 (Int.lt_trans (aF2 h1) (aF2 h2))
 | .inl _,.inl _,.inr _,_,_=>rfl
 | .inl _,.inr _,.inl _,_,h2=>by cases h2
 | .inl _,.inr _,.inr _,_,_=>rfl
 | .inr _,.inl _,_,h1,_=>by cases h1
 | .inr _,.inr _,.inl _,_,h2=>by cases h2
 | .inr a,.inr b,.inr c,h1,h2=>aC4 (List.lt_trans (aF2 h1) (aF2 h2))
theorem b4a:∀{a b:Atom},a9o a b=false→a9o b a=false→a=b
 | .inl a,.inl b,h1,h2=>by
  have q1:=aH3 h1
  have q2:=aH3 h2
  rw[show a=b by omega]
 | .inl _,.inr _,h1,_=>by cases h1
 | .inr _,.inl _,_,h2=>by cases h2
 | .inr a,.inr b,h1,h2=>by
  have q1:=aH3 h1
  have q2:=aH3 h2
  rw[List.le_antisymm (List.not_lt.mp q2) (List.not_lt.mp q1)]
def U0:List Atom→List Atom→Bool
 | [],[]=>false
 | [],_::_=>true
 | _::_,[]=>false
 | x::xs,y::ys=>if x=y then U0 xs ys else a9o x y
theorem a3u:∀a:List Atom,U0 a a=false
 | []=>rfl
 | x::xs=>by rw[U0,aB4 rfl];exact a3u xs
theorem a5b:∀{a b:List Atom},U0 a b=false→U0 b a=false→a=b
 | [],[],_,_=>rfl
 | [],_::_,h,_=>by cases h
 | _::_,[],_,h=>by cases h
 | x::xs,y::ys,h1,h2=>by
  rw[U0]at h1 h2
  by_cases e:x=y
  ·subst e
   rw[aB4 rfl]at h1 h2
   rw[a5b h1 h2]
  ·rw[aA8 e]at h1
   rw[aA8 (Ne.symm e)]at h2
   exact absurd (b4a h1 h2) e
theorem a2l:∀{a b c:List Atom},U0 a b=true→U0 b c=true→U0 a c=true
 | [],[],_,h,_=>by cases h
 | [],_::_,[],_,h=>by cases h
 | [],_::_,_::_,_,_=>rfl
 | _::_,[],_,h,_=>by cases h
 | _::_,_::_,[],_,h=>by cases h
 | x::xs,y::ys,z::zs,h1,h2=>by
  rw[U0]at h1 h2 ⊢
  by_cases e1:x=y
  ·subst e1
   rw[aB4 rfl]at h1
   by_cases e2:x=z
   ·subst e2
    rw[aB4 rfl]at h2 ⊢
    exact a2l h1 h2
   ·rw[aA8 e2]at h2 ⊢
    exact h2
  ·rw[aA8 e1]at h1
   by_cases e2:y=z
   ·subst e2
    rw[aA8 e1]
    exact h1
   ·rw[aA8 e2]at h2
    by_cases e3:x=z
    ·subst e3
     have:=a2B h1 h2
     rw[a0v]at this
     cases this
    ·rw[aA8 e3]
     exact a2B h1 h2
@[reducible] def a2y:KeyOrd where
 α:=List Atom
 blt:=U0
 irrefl:=a3u
 trans:=fun _ _ _=>a2l
 negTrans:=fun a b c h=>by
  cases h1:U0 a b with
  | true=>exact .inl rfl
  | false=>
   refine .inr ?_
   cases h2:U0 b a with
   | true=>exact a2l h2 h
   | false=>rw[←a5b h1 h2];exact h
 total:=fun _ _=>a5b
theorem b2q(x y:Atom):U0 [x] [y]=a9o x y:=by
 rw[U0]
 by_cases e:x=y
 ·subst e;rw[aB4 rfl,a0v];rfl
 ·rw[aA8 e]
def aU:Value→Atom
 | .int i _=>.inl i
 | .str x _=>.inr x.cps.toList
 | _=>.inl 0
def aV:V→Atom
 | .int i=>.inl i
 | .str x=>.inr x.cps.toList
 | _=>.inl 0
def a5S(_:Heap)(v:Value):List Atom:=[aU v]
def b1n(_:Hp)(v:V):List Atom:=[aV v]
def a3H(_:Hp)(xs:List V):Prop:=xs.length<64∧∀x∈xs,∃z,x=.str z
section
variable{X:Cx}{pins:List (Addr×Obj)}{σ:St}{H:Hp}{s:Shared}
theorem b9s{xs:List V}(S:a3H H xs){x:V}(hx:x∈xs){u:Value}(r:RelV x u):a5S s.heap u=b1n H x:=by
 obtain⟨z,rfl⟩:=S.2 x hx;obtain⟨t,rfl⟩:=r;rfl
theorem a8f(_:Inv X pins σ H s){xs:List V}{us:List Value}(S:a3H H xs)(r:j6 xs us):Sortable X.prog X.w s.heap us a2y (fun p=>a5S s.heap p.1):=by
 refine⟨fun u hu=>?_,by rw[←r.length];exact S.1,fun x y t u h=>?_⟩
 ·have back:∃x∈xs,RelV x u:=by
   clear S
   induction r with
   | nil=>simp at hu
   | cons q t ih=>
    rcases aB7.mp hu with rfl | hu
    ·exact⟨_,aB9,q⟩
    ·obtain⟨x,h1,h2⟩:=ih hu;exact⟨x,aC1 _ h1,h2⟩
  obtain⟨x,hx,rx⟩:=back
  obtain⟨z,rfl⟩:=S.2 x hx
  obtain⟨t,rfl⟩:=rx
  exact⟨z,t,rfl⟩
 ·show U0 [Sum.inr y.cps.toList] [Sum.inr x.cps.toList]=false
  rw[b2q];exact h
theorem j6.perm{us ws:List Value}(p:ws.Perm us):∀{xs:List V},j6 xs us→∃ys,ys.Perm xs∧j6 ys ws:=by
 induction p with
 | nil=>exact fun h=>⟨_,List.Perm.refl _,h⟩
 | cons u _ ih=>
  intro xs h
  cases h with
  | cons r t=>obtain⟨ys,h1,h2⟩:=ih t;exact⟨_,List.Perm.cons _ h1,.cons r h2⟩
 | swap u w l=>
  intro xs h
  cases h with
  | cons r t=>cases t with
   | cons r' t'=>exact⟨_,List.Perm.swap _ _ _,.cons r' (.cons r t')⟩
 | trans _ _ ih1 ih2=>
  intro xs h
  obtain⟨ys,h1,h2⟩:=ih2 h
  obtain⟨zs,h3,h4⟩:=ih1 h2
  exact⟨zs,h3.trans h1,h4⟩
theorem a0f(I:Inv X pins σ H s){xs:List V}(S:a3H H xs):∀{ys:List V} {us:List Value},j6 ys us→(∀y∈ys,y∈xs)→us.map (a5S s.heap)=ys.map (b1n H)
 | _,_,.nil,_=>rfl
 | _,_,.cons r t,h=>by
  rw[aC3,aC3,b9s S (h _ aB9) r,a0f I S t fun y hy=>h y (aC1 _ hy)]
def P9(H:Hp)(ys:List V):Prop:=(ys.map (b1n H)).Pairwise a2y.kle
theorem a6g:N5 X (.builtin "sorted") (fun as H Q=>∃p xs,as=[.ref p]∧d8 X.K H p xs∧a3H H xs∧∀l ys,H l=none→ys.Perm xs→P9 H ys→Q (.ref l) (upd H l (.lst ys))):=by
 intro pins s σ H as us Q I r h
 obtain⟨p,xs,rfl,hq,S,q⟩:=h
 obtain⟨u,rfl,ru⟩:=vals1 r
 cases (show u=Value.ref p from ru)
 obtain⟨its,rv,pl,hz⟩:=I.list hq
 refine sorted_list ([]:List Atom) (vs:=its) pl.isList (by rw[←rv.length];exact hz) (a8f I S rv) fun out op os=>?_
 obtain⟨ys,y1,y2⟩:=j6.perm op rv
 obtain⟨e,he⟩:=sortedAll_at s.heap its out.toArray
 have hn:H (s.heap.objs.size+1)=none:=I.hok.fresh (aL8 _)
 refine⟨.ref (s.heap.objs.size+1),_,I.laid (t':=s.toks) (o:=.lst ys) (fun b o e=>sortedAll_old e) (aL8 _) ⟨?_,out,e,y2,he⟩,rfl,q _ ys hn y1 ?_⟩
 ·rw[y1.length_eq];exact hz
 ·unfold P9
  rw[←a0f I S y2 fun y hy=>y1.mem_iff.mp hy,aQ0]
  exact os
end
end L2
namespace TS
open PySem PySem.Spec PyProof.Rows
set_option maxRecDepth 100000
def X4(w:World):Bool:=w.params.followText "set-order"
def txE(e:Int×Value):Str:=match e.2 with
 | .str x _=>x
 | _=>Str.ofString ""
def V5(w:World)(es:List (Int×Value)):Prop:=∀e∈es,∃k t,e=(hashStr w k,Value.str k t)
def IsT(w:World)(h:Heap)(a:Addr)(ks:List Str):Prop:=
 ∃(o:Obj) (es:Array (Int×Value)) (ep:Nat) (t:SetTable),h.get? a=some o∧o.ExactSet∧o.data=.set es ep t∧V5 w es.toList∧(es.toList.map txE).Perm ks∧ks.Nodup∧es.size<scanBound∧t.fits es.size=true∧t.led=!X4 w∧(es.size=0∨t.plain=false)
section
variable{prog:Program}{w:World}{A:Around}{E:Value→Shared→Prop}{s:Shared}
theorem IsT.at{h h':Heap}{a:Addr}{ks:List Str}(x:IsT w h a ks)(k:∀o,h.get? a=some o→h'.get? a=some o):IsT w h' a ks:=by
 obtain⟨o,es,ep,t,q,r⟩:=x
 exact⟨o,es,ep,t,k o q,r⟩
theorem IsT.ty{a:Addr}{ks:List Str}(x:IsT w s.heap a ks):s.TypeIs (.ref a) "set":=by
 obtain⟨o,es,ep,t,q,r,_⟩:=x
 exact⟨o,q,r.1⟩
theorem IsT.nodup{h:Heap}{a:Addr}{ks:List Str}(x:IsT w h a ks):ks.Nodup:=by
 obtain⟨o,es,ep,t,q,r,_,_,_,n,_⟩:=x;exact n
theorem IsT.len{h:Heap}{a:Addr}{ks:List Str}(x:IsT w h a ks):ks.length<scanBound:=by
 obtain⟨o,es,ep,t,q,r,_,_,p,n,b,_⟩:=x
 rw[←p.length_eq,aA0,aF3];exact b
theorem V5.elems{es:List (Int×Value)}(x:V5 w es):ElemsOf (PySem.strKind prog w) es:=fun e he=>by
 obtain⟨k,t,rfl⟩:=x e he
 exact⟨⟨k,strKind_is prog w k t,rfl⟩,rfl⟩
theorem V5.of_perm{es ds:List (Int×Value)}(x:V5 w es)(p:ds.Perm es):V5 w ds:=fun e he=>x e (p.mem_iff.mp he)
theorem b8e{k:Str}{e:Int×Value}{t:Tok}{j:Str}(he:e=(hashStr w j,Value.str j t)):(PySem.strKind prog w).is k e.2=true↔txE e=k:=by
 subst he
 show Value.isStrOf k (Value.str j t)=true↔j=k
 constructor
 ·intro q
  obtain⟨u,z⟩:=Value.isStrOf_shape q
  injection z
 ·rintro rfl;simp[Value.isStrOf]
theorem a4T{es:Array (Int×Value)}(x:V5 w es.toList){ks:List Str}(p:(es.toList.map txE).Perm ks)(k:Str) :
  (es.toList.findIdx? (fun e=>(PySem.strKind prog w).is k e.2)).isSome=decide (k∈ks):=by
 have key:(∃e∈es.toList,(PySem.strKind prog w).is k e.2=true)↔k∈ks:=by
  rw[←p.mem_iff,aA5]
  constructor
  ·rintro⟨e,he,q⟩
   obtain⟨j,t,z⟩:=x e he
   exact⟨e,he,(b8e z).mp q⟩
  ·rintro⟨e,he,q⟩
   obtain⟨j,t,z⟩:=x e he
   exact⟨e,he,(b8e z).mpr q⟩
 cases hr:es.toList.findIdx? (fun e=>(PySem.strKind prog w).is k e.2) with
 | none=>
  symm
  rw[Option.isSome_none,aQ2,←key]
  rintro⟨e,he,q⟩
  have:=List.findIdx?_eq_none_iff.mp hr e he
  rw[q]at this;cases this
 | some j=>
  symm
  rw[Option.isSome_some,aM2,←key]
  obtain⟨hj,q,_⟩:=List.findIdx?_eq_some_iff_getElem.mp hr
  exact⟨es.toList[j],aF9 hj,q⟩
theorem K4{Q:Bool→Shared→Prop}(h:Q (X4 w) s):wpAny (model prog w) A setsByText Q E s:=aA1 (aP3 (aA6 h))
theorem b9b{m f v:Nat}{l p:Bool}{hs:Array Int}{t:SetTable}{r:Array Nat}(e:SetTable.laid m f v l p hs=some (t,r)):t.plain=p:=by
 unfold SetTable.laid at e
 cases hc:SetTable.layClean m hs with
 | none=>rw[hc]at e;cases e
 | some z=>rw[hc]at e;injection e with e;injection e with e _;rw[←e]
theorem a1W(t:SetTable)(es:Array (Int×Value))(n:Nat)(z:t.plain=false):(relayAll t es n).2.1.plain=false:=by
 unfold relayAll
 split
 ·rename_i t' r e
  dsimp only
  split
  ·exact(b9b e).trans z
  ·rfl
 ·rfl
theorem b0f(t:SetTable)(es:Array (Int×Value))(h:Int)(x:Value)(z:t.plain=false):(layNew t es h x).2.1.plain=false:=by
 unfold layNew
 split
 ·dsimp only
  unfold SetTable.orStandIn
  split
  ·exact z
  ·rfl
 ·rfl
theorem b4m{m f v:Nat}{l p:Bool}{hs:Array Int}{t:SetTable}{r:Array Nat}(e:SetTable.laid m f v l p hs=some (t,r)):t.led=l:=by
 unfold SetTable.laid at e
 cases hc:SetTable.layClean m hs with
 | none=>rw[hc]at e;cases e
 | some z=>rw[hc]at e;injection e with e;injection e with e _;rw[←e]
theorem b6h(t:SetTable)(es:Array (Int×Value))(n:Nat):(relayAll t es n).2.1.led=t.led:=by
 unfold relayAll
 split
 ·rename_i t' r e
  dsimp only
  split
  ·exact b4m e
  ·rfl
 ·rfl
theorem b6u(t:SetTable)(es:Array (Int×Value))(h:Int)(x:Value):(layNew t es h x).2.1.led=t.led:=by
 unfold layNew
 split
 ·dsimp only
  unfold SetTable.orStandIn
  split<;>rfl
 ·rfl
theorem a0T{b:Bool}{s₁:Shared}{Q:Unit→Shared→Prop}(q:Q () s₁):wpAny (model prog w) A (match b with | true=>rule "set.scan.the-table-gave-way" | false=>pure ()) Q E s₁:=by
 cases b
 ·exact aA6 q
 ·exact wpAny_rule q
theorem IsT.put{h:Heap}{a:Addr}{o:Obj}{es:Array (Int×Value)}{ep:Nat}{t:SetTable}(ho:h.get? a=some o)(hx:o.ExactSet)(hd:o.data=.set es ep t)
  {ds:Array (Int×Value)} {u:SetTable} {ks:List Str} (e:V5 w ds.toList) (p:(ds.toList.map txE).Perm ks) (n:ks.Nodup) (b:ds.size<scanBound) (f:u.fits ds.size=true) (l:u.led=!X4 w) (c:ds.size=0∨u.plain=false) :
  ∃o',(h.update a (Obj.putSet ds u)).get? a=some o'∧o'.ExactSet∧o'.data=.set ds (ep+1) u∧IsT w (h.update a (Obj.putSet ds u)) a ks:=by
 have g:(h.update a (Obj.putSet ds u)).get? a=some (Obj.putSet ds u o):=aG8 _ ho (by rw[putSet_of ds u hd];rfl)
 rw[putSet_of ds u hd]at g
 exact⟨_,g,hx,rfl,_,ds,ep+1,u,g,hx,rfl,e,p,n,b,f,l,c⟩
end
open PySem PySem.Spec PyProof.Rows
set_option maxRecDepth 100000
section
variable{prog:Program}{w:World}{A:Around}{E:Value→Shared→Prop}{s:Shared}
theorem b2t{a:Addr}{ks:List Str}{k:Str}{tk:Tok}{Q:Option Nat→Shared→Prop}(I:IsT w s.heap a ks)
  (h:∀r:Option Nat,r.isSome=decide (k∈ks)→Q r s):wpAny (model prog w) A (setFind a (.str k tk) (hashStr w k)) Q E s:=by
 obtain⟨o,es,ep,t,ho,hx,hd,he,hp,hn,hb,hf,hl,hc⟩:=I
 unfold setFind setFindIn
 refine aA1 (aG6 ho hd hf ?_)
 dsimp only
 rw[byScan_of (knd:=PySem.strKind prog w) (x:=.str k tk) rfl hb he.elems,aB4 rfl]
 refine aA1 (wpAny_rule (aA1 (wpAny_setScan_of (knd:=PySem.strKind prog w) (strKind_is prog w k tk) ho hd hf he.elems ?_)))
 have m:=a4T (prog:=prog) he hp k
 cases hr:es.toList.findIdx? (fun e=>(PySem.strKind prog w).is k e.2) with
 | none=>rw[hr]at m;exact aA6 (h none m)
 | some j=>rw[hr]at m;exact aA6 (h (some (0+j)) m)
def N8(ks:List Str)(k:Str):List Str:=if k∈ks then ks else ks++[k]
theorem b8a{ks:List Str}(n:ks.Nodup)(k:Str):(N8 ks k).Nodup:=by
 unfold N8
 split
 ·exact n
 ·rename_i z
  refine aD4.mpr ⟨n,by simp,fun x hx y hy e=>?_⟩
  rw[aA3]at hy
  exact z (by rw[←hy,←e];exact hx)
theorem a7Q{ks:List Str}{k x:Str}:x∈N8 ks k↔x∈ks∨x=k:=by
 unfold N8
 split
 ·rename_i z;exact⟨.inl,fun q=>q.elim id fun e=>e▸z⟩
 ·rw[aA9,aA3]
theorem a2P(ks:List Str)(k:Str):(N8 ks k).length≤ks.length+1:=by
 unfold N8;split<;>simp
theorem a8Y{a:Addr}{ks:List Str}{k:Str}{tk:Tok}{Q:Bool→Shared→Prop}(I:IsT w s.heap a ks)(room:ks.length+1<scanBound)
  (h:∀h',Heap.SameBut a s.heap h'→IsT w h' a (N8 ks k)→Q (!decide (k∈ks)) { s with heap:=h' }) :
  wpAny (model prog w) A (setAddHashed a (.str k tk) (hashStr w k)) Q E s:=by
 obtain⟨o,es,ep,t,ho,hx,hd,he,hp,hn,hb,hf,hl,hc⟩:=id I
 have sz:es.size=ks.length:=by rw[←hp.length_eq,aA0,aF3]
 unfold setAddHashed setAddHashedIn
 refine aI9 (aA1 (aG6 ho hd hf ?_))
 dsimp only
 rw[byScan_of (knd:=PySem.strKind prog w) (x:=.str k tk) rfl hb he.elems,aB4 rfl]
 unfold setAddByScan
 refine aA1 (aA1 (wpAny_rule (aA1 (wpAny_setScan_of (knd:=PySem.strKind prog w) (strKind_is prog w k tk) ho hd hf he.elems ?_))))
 have m:=a4T (prog:=prog) he hp k
 cases hr:es.toList.findIdx? (fun e=>(PySem.strKind prog w).is k e.2) with
 | some j=>
  rw[hr]at m
  have mk:k∈ks:=aF2 m.symm
  refine aA6 (aA6 ?_)
  have q:=h s.heap (aO5 a s.heap)
  unfold N8 at q
  rw[aB4 mk,aC4 mk]at q
  exact q I
 | none=>
  rw[hr]at m
  have mk:k∉ks:=aH3 m.symm
  have hadd:N8 ks k=ks++[k]:=aA8 mk
  have nd:=b8a hn k
  rw[hadd]at h nd
  rw[aB2 mk]at h
  dsimp only
  have lp:=layNew_perm t es (hashStr w k) (.str k tk)
  have lf:=layNew_fits t es (hashStr w k) (.str k tk)
  have ll:=b6u t es (hashStr w k) (.str k tk)
  have lq:=b0f t es (hashStr w k) (.str k tk)
  generalize layNew t es (hashStr w k) (.str k tk)=L at lp lf ll lq ⊢
  obtain⟨ds,u,dum,gv⟩:=L
  dsimp only at lp lf ll lq ⊢
  rw[Array.toList_push]at lp
  have e1:V5 w ds.toList:=fun e q=>by
   rcases aA9.mp (lp.mem_iff.mp q) with q | q
   ·exact he e q
   ·rw[aA3]at q;exact⟨k,tk,q⟩
  have p1:(ds.toList.map txE).Perm (ks++[k]):=(lp.map txE).trans (by rw[aB5];exact hp.append_right _)
  have b1:ds.size<scanBound:=by
   rw[←aF3,←aA0 (f:=txE),p1.length_eq,aA4];exact room
  have hz:ds.size≤sizeLine:=aN1 b1
  refine aA1 (a0T ?_)
  have tail:∀u':SetTable,u'.fits ds.size=true→u'.led=!X4 w→u'.plain=false→wpAny (model prog w) A (do
    storeSet a ds u'
    if (!dum&&u'.tooFull)=true then do
      (match (relayAll u' ds (SetTable.grown ds.size)).2.2 with | true=>rule "set.scan.the-table-gave-way" | false=>pure ())
      storeSet a (relayAll u' ds (SetTable.grown ds.size)).1 (relayAll u' ds (SetTable.grown ds.size)).2.1
      pure (some true)
     else pure (some true)) (fun r s'=>r=some true∧Q true s') E s:=by
   intro u' f' l' c'
   refine aA1 (wpAny_storeSet_of ho hd ?_ hz)
   obtain⟨o',g1,g2,g3,g4⟩:=IsT.put ho hx hd e1 p1 nd b1 f' l' (.inr c')
   have sb:=aH5 s.heap a (Obj.putSet ds u')
   split
   ·have rp:=relayAll_perm u' ds (SetTable.grown ds.size)
    have rf:=relayAll_fits u' ds (SetTable.grown ds.size)
    have rq:=a1W u' ds (SetTable.grown ds.size) c'
    have rl:=b6h u' ds (SetTable.grown ds.size)
    generalize relayAll u' ds (SetTable.grown ds.size)=R at rp rf rl rq ⊢
    obtain⟨cs,v,gv'⟩:=R
    dsimp only at rp rf rl rq ⊢
    have zc:cs.size=ds.size:=by rw[←aF3,rp.length_eq,aF3]
    refine aA1 (a0T ?_)
    refine aA1 (wpAny_storeSet_of g1 g3 ?_ (by rw[zc];exact hz))
    obtain⟨o'',_,_,_,y⟩:=IsT.put g1 g2 g3 (e1.of_perm rp) ((rp.map txE).trans p1) nd (by rw[zc];exact b1) rf (rl.trans l') (.inr rq)
    exact aA6 ⟨rfl,h _ (sb.trans (aH5 _ a _)) y⟩
   ·exact aA6 ⟨rfl,h _ sb g4⟩
  have fin:∀(r:Option Bool) (s':Shared),(r=some true∧Q true s')→wpAny (model prog w) A (match r with
    | some added=>pure added
    | none=>setAddHashedIn a (.str k tk) (hashStr w k) 99999) Q E s':=fun r s' q=>by
   obtain⟨rfl,q⟩:=q;exact aA6 q
  split
  ·refine aA1 ?_
   rw[hashByValue_scannable 8 (x:=.str k tk) rfl]
   refine aA6 ?_
   show wpAny _ _ (do
    storeSet a ds { u with plain:=false }
    _) _ _ _
   refine aH6 (tail { u with plain:=false } (SetTable.fits_plain_off lf) (ll.trans hl) rfl) (fun r s' q=>?_) fun _ _ x=>x
   obtain⟨rfl,q⟩:=q;exact aA6 q
  ·refine aA1 (aA6 ?_)
   simp only[↓reduceIte]
   refine aH6 (tail u lf (ll.trans hl) (by rename_i z;exact aK7.mpr z)) (fun r s' q=>?_) fun _ _ x=>x
   obtain⟨rfl,q⟩:=q;exact aA6 q
theorem b8v{Q:Value→Shared→Prop} (h:IsT w (s.heap.push { cls:=.type "set",dict:=none,data:=.set #[] 0 (.fresh 0 0 (!X4 w)) }) s.heap.objs.size [] →
   Q (.ref s.heap.objs.size) { s with heap:=s.heap.push { cls:=.type "set",dict:=none,data:=.set #[] 0 (.fresh 0 0 (!X4 w)) } }) :
  wpAny (model prog w) A (newSet (.type "set")) Q E s:=by
 unfold newSet
 refine aA1 (K4 ?_)
 simp only[newObj]
 refine aA1 (wpAny_alloc (aA6 (h ?_)))
 exact⟨_,#[],0,.fresh 0 0 (!X4 w),aC5 _ rfl,⟨rfl,rfl,rfl⟩,rfl,fun e q=>by simp at q,by simp,by simp,by decide,rfl,rfl,.inl rfl⟩
end
open PySem PySem.Spec PyProof.Rows
set_option maxRecDepth 100000
def W7(vs:List Value)(ks:List Str):Prop:=Paired (fun v k=>∃t,v=Value.str k t) vs ks
theorem W7.at:∀{vs:List Value} {ks:List Str},W7 vs ks→∀(i:Nat) (v:Value),vs[i]?=some v→∃k t,ks[i]?=some k∧v=.str k t
 | _,_,.nil,i,v,h=>by simp at h
 | _,_,.cons ⟨t,q⟩ r,0,v,h=>by
  simp at h
  exact⟨_,t,by simp,h▸q⟩
 | _,_,.cons _ r,i+1,v,h=>by
  simp only[aQ4]at h
  obtain⟨k,t,a,b⟩:=W7.at r i v h
  exact⟨k,t,by simpa using a,b⟩
theorem W7.len{vs:List Value}{ks:List Str}(h:W7 vs ks):vs.length=ks.length:=by
 induction h with
 | nil=>rfl
 | cons _ _ ih=>simp[ih]
def once(ks:List Str):List Str:=ks.foldl N8 []
theorem b2h(ks:List Str)(k:Str):once (ks++[k])=N8 (once ks) k:=by unfold once;rw[List.foldl_append];rfl
theorem a8J:∀(ks acc:List Str) (x:Str),x∈ks.foldl N8 acc↔x∈acc∨x∈ks
 | [],acc,x=>by simp
 | k::ks,acc,x=>by
  rw[aI5,a8J ks,a7Q,aB7]
  constructor
  ·rintro((h | h) | h)
   ·exact .inl h
   ·exact .inr (.inl h)
   ·exact .inr (.inr h)
  ·rintro(h | h | h)
   ·exact .inl (.inl h)
   ·exact .inl (.inr h)
   ·exact .inr h
theorem a7w{ks:List Str}{x:Str}:x∈once ks↔x∈ks:=by unfold once;rw[a8J];simp
theorem a7J:∀(ks acc:List Str),(ks.foldl N8 acc).length≤acc.length+ks.length
 | [],acc=>aB3 _
 | k::ks,acc=>by
  have a:=a7J ks (N8 acc k)
  have b:=a2P acc k
  rw[aI5,aE4];omega
theorem a5x(ks:List Str):(once ks).length≤ks.length:=by have:=a7J ks [];simpa [once] using this
section
variable{prog:Program}{w:World}{A:Around}{E:Value→Shared→Prop}{s:Shared}{R:Result→Shared→Prop}
theorem b9l(hh:A.handled=none){S I l:Addr}{vs:List Value}{ks:List Str}(tx:W7 vs ks)(hb:ks.length+1<scanBound)(n1:S≠I)(n2:S≠l)(n3:l≠I) :
  ∀(d i:Nat) (s:Shared),vs.length-i=d→i≤vs.length→s.heap.IsListIter I l i→s.heap.IsList l vs.toArray→IsT w s.heap S (once (ks.take i)) →
   (∀h' tk,(∀b o,b≠S→b≠I→s.heap.get? b=some o→h'.get? b=some o)→IsT w h' S (once ks)→R (.ok (.ret .none)) { s with heap:=h',toks:=tk }) →
   codeAny (model prog w) A (.builtin "set.update.loop" ⟨[.ref S,.ref I],[]⟩) R s:=by
 intro d
 induction d with
 | zero=>
  intro i s e1 e2 hit hl hS hR
  have en:i=vs.length:=by omega
  refine aH2 F.entry_set_update_loop ?_
  rw[aG1 F.plain_set_update_loop _]
  show wpAny _ A.in1 (pyNext (.ref I) >>= _) _ _ s
  refine aA1 (wpAny_pyNext_list_end (A:=A.in1) (by simpa using hh) hit hl (by simp;omega) fun h' eb=>?_)
  refine aA6 (hR h' s.toks (fun b o _ hb q=>eb b o hb q) (IsT.at ?_ fun o q=>eb S o n1 q))
  rw[aJ6 (by rw[←tx.len];omega)] at hS
  exact hS
 | succ d ih=>
  intro i s e1 e2 hit hl hS hR
  have lt:i<vs.length:=by omega
  refine aH2 F.entry_set_update_loop ?_
  rw[aG1 F.plain_set_update_loop _]
  show wpAny _ A.in1 (pyNext (.ref I) >>= _) _ _ s
  have gx:vs.toArray[i]?=some vs[i]:=by simp[lt]
  obtain⟨k,t,q1,q2⟩:=tx.at i vs[i] (by simp[lt])
  refine aA1 (wpAny_pyNext_list_item (A:=A.in1) hit hl gx fun h1 hit1 sb1=>?_)
  rw[q2]
  show wpAny _ A.in1 (holding [Value.str k t] (setAdd S (.str k t)) >>= _) _ _ _
  refine aA1 (aI9 ?_)
  unfold setAdd
  refine aI9 (aA1 ((PySem.strKind prog w).pyHash (strKind_is prog w k t) ?_))
  have hS1:IsT w h1 S (once (ks.take i)):=hS.at fun o q=>(sb1.2 S n1).trans q
  have rm:(once (ks.take i)).length+1<scanBound:=by
   have a:=a5x (ks.take i)
   have b:(ks.take i).length≤ks.length:=by simp;omega
   omega
  refine a8Y (s:={ s with heap:=h1,toks:=s.toks+1 }) hS1 rm fun h2 sb2 hS2=>?_
  have tk1:ks.take (i+1)=ks.take i++[k]:=by
   rw[aD3,q1];rfl
  refine aA6 ⟨aJ8 F.plain_set_update_loop _,ih (i+1) _ (by omega) lt ?_ ?_ ?_ fun h' tk kp hS'=>?_⟩
  ·exact hit1.at fun o q=>(sb2.2 I (Ne.symm n1)).trans q
  ·exact hl.at fun o q=>(sb2.2 l (Ne.symm n2)).trans ((sb1.2 l n3).trans q)
  ·rw[tk1,b2h];exact hS2
  ·exact hR h' tk (fun b o a1 a2 q=>kp b o a1 a2 ((sb2.2 b a1).trans ((sb1.2 b a2).trans q))) hS'
def freshT(w:World):Obj:={ cls:=.type "set",dict:=none,data:=.set #[] 0 (.fresh 0 0 (!X4 w)) }
theorem b2f{h:Heap}{a:Addr}(e:h.get? a=some (freshT w)):IsT w h a []:=
 ⟨_,#[],0,.fresh 0 0 (!X4 w),e,⟨rfl,rfl,rfl⟩,rfl,fun e q=>by simp at q,by simp,by simp,by decide,rfl,rfl,.inl rfl⟩
theorem b4v{x:Value}{Q:Value→Shared→Prop}(h:Q (.ref s.heap.objs.size) { s with heap:=s.heap.push (freshT w) }) :
  codeAny (model prog w) A (.call (.builtin "set.__new__") ⟨[.type "set",x],[]⟩) (wants Q E) s:=by
 refine codeAny_of_tree ?_
 show wpAny _ A.in1 (do checkBuiltinCall "set.__new__" ⟨[.type "set",x],[]⟩;again (.builtin "set.__new__" ⟨[.type "set",x],[]⟩)) _ _ s
 refine aA1 (wpAny_of_eq (F.newCall_set_1 x) (aA6 ⟨aJ8 F.plain_set_new _,aH2 F.entry_set_new ?_⟩))
 rw[aG1 F.plain_set_new _]
 unfold Builtin.«set.__new__» Builtin.Frozenset.newClass
 have sb:=sub_set_self
 obtain⟨hp,g,d,tk,os⟩:=s
 dsimp only
 wp_walk
 refine aP3 (aA6 ?_)
 dsimp only
 simp only[newObj]
 exact aA1 (wpAny_alloc (aA6 (aA6 h)))
end
open PySem PySem.Spec PyProof.Rows
set_option maxRecDepth 100000
section
variable{prog:Program}{w:World}{A:Around}{E:Value→Shared→Prop}{s:Shared}
theorem a0W{l:Addr}{vs:List Value}{ks:List Str}{Q:Value→Shared→Prop}(hh:A.handled=none)(isL:s.heap.IsList l vs.toArray)(tx:W7 vs ks)(hb:ks.length+1<scanBound)
  (h:∀(h':Heap) (tk:Nat),IsT w h' s.heap.objs.size (once ks)→(∀b o,s.heap.get? b=some o→h'.get? b=some o)→Q (.ref s.heap.objs.size) { s with heap:=h',toks:=tk }) :
  wpAny (model prog w) A (call (.type "set") [.ref l]) Q E s:=by
 obtain⟨c,tl,mroS⟩:=aN5.mro
 have madeS:=aN5.made
 have subS:=aN5.sub
 refine wpAny_call (codeAny_of_tree ?_)
 show wpAny _ _ (callAny (.type "set") _) _ _ _
 refine aA6 ⟨Code.quiet_builtin _ (by decide +kernel),aH2 F.entry_type_call ?_⟩
 rw[Around.under_plain (weight_type_call_type "set" [.ref l] []) rfl]
 have notT:=aN5.notType
 have canC:=aN5.canCreate
 have callOk:=F.typeCall_set_1 (.ref l)
 repeat (any_goals (first | assumption | wp_step))
 refine aQ5 (b4v (x:=.ref l) (E:=E) (Q:=fun obj sa=>obj=.ref s.heap.objs.size∧sa={ s with heap:=s.heap.push (freshT w) }) ⟨rfl,rfl⟩) fun r sa ra=>?_
 cases r with
 | error e=>exact ra
 | ok flo=>
  cases flo with
  | ret obj=>
   obtain⟨rfl,rfl⟩:=ra
   have atS:(s.heap.push (freshT w)).get? s.heap.objs.size=some (freshT w):=aC5 _ rfl
   have tyS:Shared.TypeIs { s with heap:=s.heap.push (freshT w) } (.ref s.heap.objs.size) "set":=⟨_,atS,rfl⟩
   have lookI:=aN5.init.lookup
   have bindI:=aN5.init.bind (.ref s.heap.objs.size)
   repeat (any_goals (first | assumption | wp_step))
   refine aQ5 (codeAny_call_builtin (R:=wants (fun r st=>r=.none∧∃h' tk,st={ s with heap:=h',toks:=tk }∧IsT w h' s.heap.objs.size (once ks) ∧
     (∀b o,s.heap.get? b=some o→h'.get? b=some o)) E) aN5.init.plain F.entry_set_init (check_set_init_1 tyS ?_)) fun res st rb=>?_
   ·obtain⟨lo,getL,clsL,epL,datL⟩:=isL
    obtain⟨c0,d0,x0,s0⟩:=lo
    simp only at clsL datL
    subst clsL;subst datL
    have getL':(s.heap.push (freshT w)).get? l=some { cls:=.type "list",dict:=d0,data:=.seq vs.toArray epL,slots:=s0 }:=aA7 _ getL
    have noS:=F.sub_list_set
    have noF:=F.sub_list_frozenset
    have noD:(Value.type "list"==Value.type "dict")=false:=by decide
    have isL1:(s.heap.push (freshT w)).IsList l vs.toArray:=⟨_,getL',rfl,epL,rfl⟩
    unfold Builtin.«set.__init__» noKeywords Builtin.Frozenset.updateFrom
    generalize keepPI:pyIter=PI
    wp_walk
    subst keepPI
    refine aQ9 isL1 ?_
    refine aA1 (wpAny_runValue ?_)
    have lS:l<s.heap.objs.size:=aC2 getL
    have h3:A.in1.in1.in1.handled=none:=by simp[hh]
    have zI:(s.heap.push (freshT w)).objs.size=s.heap.objs.size+1:=aJ9 ..
    refine b9l (S:=s.heap.objs.size) (by simp[hh]) tx hb (by rw[zI];exact aD6 (aM9 _)) (aK1 lS) (by rw[zI];exact aD6 (aM3 lS))
     (vs.length-0) 0 _ rfl (aG3 _) ⟨_,aC5 _ rfl,rfl,rfl⟩ (isL1.push _) ?hS0 ?hR
    case hS0=>exact b2f (aA7 _ atS)
    case hR=>
     intro h' tk' kp isS
     show wpAny _ _ _ _ _ _
     refine aA6 ?_
     show wpAny _ _ (ret Value.none) _ _ _
     refine aA6 ⟨rfl,h',tk',rfl,isS,fun b o e=>?_⟩
     have bl:=aC2 e
     exact kp b o (aD6 bl) (by rw[zI];exact aD6 (aM3 bl)) (aA7 _ (aA7 _ e))
   ·cases res with
    | error e=>exact rb
    | ok flow=>
     cases flow with
     | ret r=>
      obtain⟨rfl,h',tk,rfl,isS,old⟩:=rb
      repeat (any_goals (first | assumption | wp_step))
      exact h _ _ isS old
     | _=>exact rb.elim
  | _=>exact ra.elim
end
open PySem PySem.Spec PyProof.Rows
set_option maxRecDepth 100000
theorem a5l{α:Type}:∀(l:List α) (i:Nat) (h:i<l.length),(l[i]::l.eraseIdx i).Perm l
 | x::l,0,_=>List.Perm.refl _
 | x::l,i+1,h=>by
  have ih:=a5l l i (by simpa using h)
  rw[List.getElem_cons_succ,aL0]
  exact(List.Perm.swap _ _ _).trans (ih.cons x)
theorem a4X{α:Type}(nx:Nat→Nat):∀(n k:Nat) (l:List α) (out:Array α),n=l.length→(pickOrder.go nx n k l out).toList.Perm (out.toList++l)
 | 0,k,l,out,e=>by
  have:l=[]:=aJ0 e.symm
  subst this;rw[pickOrder.go,aI6]
 | n+1,k,l,out,e=>by
  rw[pickOrder.go]
  have lt:nx k % l.length<l.length:=Nat.mod_lt _ (by omega)
  rw[List.getElem?_eq_getElem lt]
  dsimp only
  refine(a4X nx n (k+1) _ _ (by rw[List.length_eraseIdx_of_lt lt];omega)).trans ?_
  rw[Array.toList_push,aG0]
  refine List.Perm.append_left _ ?_
  exact a5l l _ lt
theorem a9e{α:Type}(nx:Nat→Nat)(xs:Array α):(pickOrder nx xs).toList.Perm xs.toList:=by
 have:=a4X nx xs.size 0 xs.toList #[] (by simp)
 simpa [pickOrder] using this
section
variable{prog:Program}{w:World}{A:Around}{E:Value→Shared→Prop}{s:Shared}
theorem b9q{es:Array (Int×Value)}(e:V5 w es.toList){β:Type}{f:Int×Value→β→Sem (ForInStep β)}{b:β}(hf:∀x∈es.toList,f x b=pure (.yield b)) :
  (forIn es b f:Sem β)=pure b:=by
 rw[←Array.forIn_toList]
 generalize es.toList=l at hf
 clear e
 induction l with
 | nil=>rfl
 | cons x l ih=>
  rw[aR7,hf x aB9]
  exact ih fun y hy=>hf y (aC1 _ hy)
theorem Q0{a:Addr}{ks:List Str}{Q:Array (Int×Value)→Shared→Prop}(I:IsT w s.heap a ks)(h:∀es:Array (Int×Value),V5 w es.toList→es.size=ks.length→Q es s) :
  wpAny (model prog w) A (setEntries a) Q E s:=by
 obtain⟨o,es,ep,t,ho,hx,hd,he,hp,hn,hb,hf,hl,hc⟩:=I
 unfold setEntries
 exact aA1 (aG6 ho hd hf (aA6 (h es he (by rw[←hp.length_eq,aA0,aF3]))))
theorem b5j:∀{l:List Addr} {Q:Bool→Shared→Prop},(∀a∈l,∃ks,IsT w s.heap a ks)→Q true s→wpAny (model prog w) A (setsQuiet l) Q E s:=by
 intro l Q hl h
 unfold setsQuiet
 induction l with
 | nil=>exact aA6 h
 | cons a l ih=>
  obtain⟨ks,I⟩:=hl a aB9
  have ih':=ih fun b hb=>hl b (aC1 _ hb)
  dsimp only at ih' ⊢
  rw[aR7,bind_assoc]
  refine aA1 (aA1 (Q0 I fun es he _=>?_))
  rw[b9q he (fun x hx=>by obtain⟨k,t,rfl⟩:=he x hx;rfl)]
  refine aA1 (aA6 ?_)
  exact aA6 ih'
end
open PySem PySem.Spec PyProof.Rows
set_option maxRecDepth 100000
section
variable{prog:Program}{w:World}{A:Around}{E:Value→Shared→Prop}{s:Shared}
theorem b7f{ds es:Array (Int×Value)}{ks:List Str}(p:ds.toList.Perm es.toList)(q:(es.toList.map txE).Perm ks):(ds.toList.map txE).Perm ks:=(p.map txE).trans q
theorem b0d{a b r:Addr}{ks js rs:List Str}{Q:Array (Int×Value)→Shared→Prop}(Ia:IsT w s.heap a ks)(Ib:IsT w s.heap b js)(Ir:IsT w s.heap r rs)
  (h:∀(ds:Array (Int×Value)) h',V5 w ds.toList→(ds.toList.map txE).Perm ks→Heap.SameBut r s.heap h'→IsT w h' r rs→Q ds { s with heap:=h' }) :
  wpAny (model prog w) A (setWalkUnseen a [b,r] (some r)) Q E s:=by
 obtain⟨o,es,ep,t,ho,hx,hd,he,hp,hn,hb,hf,hl,hc⟩:=id Ia
 have same:∀ds:Array (Int×Value),V5 w ds.toList→(ds.toList.map txE).Perm ks→Q ds s:=fun ds e1 p1=>h ds s.heap e1 p1 (aO5 _ _) Ir
 unfold setWalkUnseen
 refine aA1 (aG6 ho hd hf ?_)
 dsimp only
 refine aA1 (K4 ?_)
 by_cases c:(X4 w||(t.led&&t.plain)||decide (es.size≤1))=true
 ·rw[aB4 c]
  unfold setWalk
  refine aA1 (aG6 ho hd hf ?_)
  dsimp only
  refine aA1 (K4 ?_)
  cases hbt:X4 w with
  | true=>
   rw[aB4 rfl]
   refine aA1 (aP3 (aA6 ?_))
   exact same _ (he.of_perm (a9e _ _)) (b7f (a9e _ _) hp)
  | false=>
   rw[aA8 aC9]
   rw[hbt]at hl c
   have hl':t.led=true:=hl
   have nd:(!t.plain&&decide (es.size>1))=false:=by
    rw[hl']at c
    cases hpl:t.plain with
    | true=>rfl
    | false=>rw[hpl]at c;simp at c ⊢;exact c
   show wpAny _ _ (if (!t.plain&&decide (es.size>1))=true then _ else _) _ _ _
   rw[aA8 (by rw[nd];exact aC9)]
   show wpAny _ _ ((if (!t.led&&decide (es.size>1))=true then unsupported "set:maker-not-led" else pure ()) >>= _) _ _ _
   rw[aA8 (by rw[hl'];simp)]
   exact aA1 (aA6 (aA6 (same es he hp)))
 ·rw[aA8 c]
  refine aA1 (b5j (fun x hx=>?_) ?_)
  ·simp only[aB7,aF7,aL4]at hx
   rcases hx with rfl | rfl | rfl
   ·exact⟨_,Ia⟩
   ·exact⟨_,Ib⟩
   ·exact⟨_,Ir⟩
  ·simp only[Bool.not_true,aI8,aO4]
   refine aA1 (wpAny_rule ?_)
   obtain⟨o',es',ep',t',ho',hx',hd',he',hp',hn',hb',hf',hl',hc'⟩:=id Ir
   refine aA1 (aG6 ho' hd' hf' ?_)
   dsimp only
   split
   ·refine aA1 (wpAny_storeSet_of ho' hd' ?_ (aN1 hb'))
    have f2:({ t' with led:=t'.led&&t.led,plain:=t'.plain&&t.plain }:SetTable).fits es'.size=true:=by cases t';exact hf'
    have l2:({ t' with led:=t'.led&&t.led,plain:=t'.plain&&t.plain }:SetTable).led=!X4 w:=by
     show(t'.led&&t.led)=_
     rw[hl',hl,Bool.and_self]
    obtain⟨_,_,_,_,y⟩:=IsT.put ho' hx' hd' he' hp' hn' hb' f2 l2 (hc'.imp id fun z=>by show(t'.plain&&t.plain)=false;rw[z];rfl)
    exact aA6 (h es _ he hp (aH5 ..) y)
   ·exact aA6 (same es he hp)
def a8N(js:List Str)(ds:List Str)(rs:List Str):List Str:=ds.foldl (fun r k=>if k∈js then N8 r k else r) rs
theorem a7I{id:String}{wk b r:Addr}{js:List Str}(n1:b≠r)(n2:wk≠r)(nn:wk≠r):∀(ds:List (Int×Value)) (rs ks:List Str) (ep:Nat) (s:Shared) {Q:PUnit→Shared→Prop},
  V5 w ds→IsT w s.heap b js→IsT w s.heap wk ks→(∃o es t,s.heap.get? wk=some o∧o.data=.set es ep t∧t.fits es.size=true)→IsT w s.heap r rs→rs.length+ds.length+1<scanBound →
  (∀h',Heap.SameBut r s.heap h'→IsT w h' r (a8N js (ds.map txE) rs)→Q ⟨⟩ { s with heap:=h' }) →
  wpAny (model prog w) A (forIn ds PUnit.unit fun(e:Int×Value) (_:PUnit)=>do
    holding [e.2] do
     let f ←setFind b e.2 e.1
     if f.isSome=true then do
       let _ ←setAddHashed r e.2 e.1
       pure ()
      else pure ()
    Builtin.Frozenset.unchanged id wk ep
    pure (ForInStep.yield PUnit.unit)) Q E s
 | [],rs,ks,ep,s,Q,_,_,_,_,Ir,_,h=>aA6 (h s.heap (aO5 _ _) Ir)
 | e::ds,rs,ks,ep,s,Q,he,Ib,Iw,⟨ow,ew,tw,g1,g2,g3⟩,Ir,room,h=>by
  rw[aR7]
  obtain⟨k,tk,rfl⟩:=he e aB9
  have go:∀h1,Heap.SameBut r s.heap h1→IsT w h1 r (if k∈js then N8 rs k else rs) →
    wpAny (model prog w) A (Builtin.Frozenset.unchanged id wk ep >>= fun _=>pure (ForInStep.yield PUnit.unit)) (fun st s'=>st=ForInStep.yield PUnit.unit∧s'={ s with heap:=h1 }) E { s with heap:=h1 }:=fun h1 sb1 _=>by
   unfold Builtin.Frozenset.unchanged
   refine aA1 (aA1 (aQ8 ((sb1.2 wk n2).trans g1) g2 g3 ?_))
   rw[aA8 (by simp)]
   exact aA6 (aA6 ⟨rfl,rfl⟩)
  have rest:∀h1,Heap.SameBut r s.heap h1→IsT w h1 r (if k∈js then N8 rs k else rs)→wpAny (model prog w) A (forIn ds PUnit.unit fun(e:Int×Value) (_:PUnit)=>do
    holding [e.2] do
     let f ←setFind b e.2 e.1
     if f.isSome=true then do
       let _ ←setAddHashed r e.2 e.1
       pure ()
      else pure ()
    Builtin.Frozenset.unchanged id wk ep
    pure (ForInStep.yield PUnit.unit)) Q E { s with heap:=h1 }:=fun h1 sb1 I1=>by
   refine a7I n1 n2 nn ds _ ks ep _ (fun x hx=>he x (aC1 _ hx)) (Ib.at fun o q=>(sb1.2 b n1).trans q) (Iw.at fun o q=>(sb1.2 wk n2).trans q) ⟨ow,ew,tw,(sb1.2 wk n2).trans g1,g2,g3⟩ I1 ?_ fun h' sb' I'=>?_
   ·have a:=a2P rs k
    rw[aE4]at room
    split<;>omega
   ·exact h h' (sb1.trans sb') I'
  refine aA1 (aA1 (aI9 (aA1 (b2t Ib fun f hf=>?_))))
  by_cases hk:k∈js
  ·rw[hf,aC4 hk,aB4 rfl]
   rw[aE4]at room
   refine aA1 (a8Y Ir (by omega) fun h1 sb1 I1=>aA6 ?_)
   have I1':IsT w h1 r (if k∈js then N8 rs k else rs):=by rw[aB4 hk];exact I1
   refine aH6 (go h1 sb1 I1') (fun st s' q=>?_) fun _ _ x=>x
   obtain⟨rfl,rfl⟩:=q
   exact rest h1 sb1 I1'
  ·rw[hf,aB2 hk,aA8 aC9]
   have I1':IsT w s.heap r (if k∈js then N8 rs k else rs):=by rw[aA8 hk];exact Ir
   refine aA6 (aH6 (go s.heap (aO5 _ _) I1') (fun st s' q=>?_) fun _ _ x=>x)
   obtain⟨rfl,rfl⟩:=q
   exact rest s.heap (aO5 _ _) I1'
end
open PySem PySem.Spec PyProof.Rows
set_option maxRecDepth 100000
theorem b3j:entryFor table "set.__and__"=some Builtin.«frozenset.__and__»:=
 entryFor_alias (id':="frozenset.__and__") (by kernel_rfl) rfl (by decide +kernel) (by kernel_rfl)
theorem a3K:∀(js ds rs:List Str) (x:Str),x∈a8N js ds rs↔x∈rs∨(x∈ds∧x∈js)
 | js,[],rs,x=>by simp[a8N]
 | js,d::ds,rs,x=>by
  have ih:=a3K js ds (if d∈js then N8 rs d else rs) x
  show x∈a8N js ds (if d∈js then N8 rs d else rs)↔_
  rw[ih,aB7]
  by_cases hd:d∈js
  ·rw[aB4 hd,a7Q]
   constructor
   ·rintro((h | rfl) | ⟨h,k⟩)
    ·exact .inl h
    ·exact .inr ⟨.inl rfl,hd⟩
    ·exact .inr ⟨.inr h,k⟩
   ·rintro(h | ⟨rfl | h,k⟩)
    ·exact .inl (.inl h)
    ·exact .inl (.inr rfl)
    ·exact .inr ⟨h,k⟩
  ·rw[aA8 hd]
   constructor
   ·rintro(h | ⟨h,k⟩)
    ·exact .inl h
    ·exact .inr ⟨.inr h,k⟩
   ·rintro(h | ⟨rfl | h,k⟩)
    ·exact .inl h
    ·exact absurd k hd
    ·exact .inr ⟨h,k⟩
section
variable{prog:Program}{w:World}{A:Around}{E:Value→Shared→Prop}{s:Shared}
theorem a3F{v:Value}{Q:Bool→Shared→Prop}(hT:s.TypeIs v "set")(h:Q true s):wpAny (model prog w) A (Builtin.Frozenset.isAnySet v) Q E s:=by
 unfold Builtin.Frozenset.isAnySet
 refine aA1 (aP2 hT sub_set_self ?_)
 exact aA6 h
theorem a8x{a:Addr}{ks:List Str}{Q:Nat→Shared→Prop}(I:IsT w s.heap a ks)(h:Q ks.length s):wpAny (model prog w) A (Builtin.Frozenset.sizeOf a) Q E s:=by
 unfold Builtin.Frozenset.sizeOf
 exact aA1 (Q0 I fun es _ e=>aA6 (by rw[e];exact h))
theorem b7m{id:String}{a b:Addr}{ks js:List Str}{Q:Value→Shared→Prop}(ne:b≠a)(Ia:IsT w s.heap a ks)(Ib:IsT w s.heap b js)(ra:ks.length+1<scanBound)(rb:js.length+1<scanBound)
  (h:∀h' rs,(∀x o,s.heap.get? x=some o→h'.get? x=some o)→IsT w h' s.heap.objs.size rs→(∀x,x∈rs↔x∈ks∧x∈js)→Q (.ref s.heap.objs.size) { s with heap:=h' }) :
  wpAny (model prog w) A (Builtin.Frozenset.intersection id a (.ref b)) Q E s:=by
 have nb:(Value.ref b==Value.ref a)=false:=by
  rw[aG7];intro z;injection z with z;exact ne z
 unfold Builtin.Frozenset.intersection
 rw[aA8 (by rw[nb];exact aC9)]
 unfold Builtin.Frozenset.baseOf
 refine aA1 (aA1 (aP2 Ia.ty sub_set_self (aA6 ?_)))
 rw[aB4 rfl]
 refine aA1 (b8v fun I0=>?_)
 refine aA1 (aA6 (aA1 (aI9 ?_)))
 generalize hh0:s.heap.push { cls:=.type "set",dict:=none,data:=.set #[] 0 (.fresh 0 0 (!X4 w)) }=h0 at I0 ⊢
 have k0:∀x o,s.heap.get? x=some o→h0.get? x=some o:=fun x o q=>by rw[←hh0];exact aA7 _ q
 have Ia0:IsT w h0 a ks:=Ia.at fun o q=>k0 a o q
 have Ib0:IsT w h0 b js:=Ib.at fun o q=>k0 b o q
 have la:a<s.heap.objs.size:=let ⟨_,_,_,_,q,_⟩:=Ia;aC2 q
 have lb:b<s.heap.objs.size:=let ⟨_,_,_,_,q,_⟩:=Ib;aC2 q
 have na:a≠s.heap.objs.size:=aD6 la
 have nb':b≠s.heap.objs.size:=aD6 lb
 refine aA1 (a3F (s:={ s with heap:=h0 }) Ib0.ty ?_)
 rw[aB4 rfl]
 refine aA1 (aA6 ?_)
 refine aA1 (a8x (s:={ s with heap:=h0 }) Ib0 ?_)
 refine aA1 (a8x (s:={ s with heap:=h0 }) Ia0 ?_)
 have both:∀(asked walked:Addr) (as ws:List Str),asked≠s.heap.objs.size→walked≠s.heap.objs.size→IsT w h0 asked as→IsT w h0 walked ws→ws.length+1<scanBound→(∀x,x∈as∧x∈ws↔x∈ks∧x∈js) →
   wpAny (model prog w) A (do
    let was ←setEpoch walked
    let es ←setWalkUnseen walked [asked,s.heap.objs.size] (some s.heap.objs.size)
    forIn es PUnit.unit fun(e:Int×Value) (_:PUnit)=>do
     holding [e.2] do
      let f ←setFind asked e.2 e.1
      if f.isSome=true then do
        let _ ←setAddHashed s.heap.objs.size e.2 e.1
        pure ()
       else pure ()
     Builtin.Frozenset.unchanged id walked was
     pure (ForInStep.yield PUnit.unit)
    pure ()) (fun _ s'=>Q (.ref s.heap.objs.size) s') E { s with heap:=h0 }:=by
  intro asked walked as ws n1 n2 Is Iw rw' hm
  obtain⟨o,es,ep,t,ho,hx,hd,he,hp,hn,hb,hf,hl,hc⟩:=(show IsT w h0 walked ws from Iw)
  refine aA1 (aQ8 (s:={ s with heap:=h0 }) ho hd hf ?_)
  refine aA1 (b0d (s:={ s with heap:=h0 }) Iw Is I0 fun ds h1 e1 p1 sb1 I1=>?_)
  rw[←Array.forIn_toList]
  have dl:ds.toList.length=ws.length:=by rw[←p1.length_eq,aA0]
  refine aA1 (a7I (js:=as) n1 n2 n2 ds.toList [] ws ep { s with heap:=h1 } e1 (Is.at fun o q=>(sb1.2 _ n1).trans q) (Iw.at fun o q=>(sb1.2 _ n2).trans q)
   ⟨o,es,t,(sb1.2 _ n2).trans ho,hd,hf⟩ I1 (by rw[dl];simpa using rw') fun h2 sb2 I2=>aA6 ?_)
  refine h h2 _ (fun x o q=>?_) I2 fun x=>?_
  ·have nx:x≠s.heap.objs.size:=aD6 (aC2 q)
   exact(sb2.2 x nx).trans ((sb1.2 x nx).trans (k0 x o q))
  ·rw[a3K,p1.mem_iff,←hm x]
   constructor
   ·rintro(z | ⟨z1,z2⟩)
    ·cases z
    ·exact⟨z2,z1⟩
   ·rintro⟨z1,z2⟩;exact .inr ⟨z2,z1⟩
 by_cases c:js.length>ks.length
 ·rw[aB4 c]
  refine aH6 (both b a js ks nb' na Ib0 Ia0 ra fun x=>And.comm) (fun _ s' q=>?_) fun _ _ x=>x
  exact aA6 q
 ·rw[aA8 c]
  refine aH6 (both a b ks js na nb' Ia0 Ib0 rb fun x=>Iff.rfl) (fun _ s' q=>?_) fun _ _ x=>x
  exact aA6 q
theorem b2v{a b:Addr}{ks js:List Str}{Q:Value→Shared→Prop}(ne:b≠a)(Ia:IsT w s.heap a ks)(Ib:IsT w s.heap b js)(ra:ks.length+1<scanBound)(rb:js.length+1<scanBound)
  (h:∀h' rs,(∀x o,s.heap.get? x=some o→h'.get? x=some o)→IsT w h' s.heap.objs.size rs→(∀x,x∈rs↔x∈ks∧x∈js)→Q (.ref s.heap.objs.size) { s with heap:=h' }) :
  wpAny (model prog w) A (binaryOp .BitAnd (.ref a) (.ref b)) Q E s:=by
 refine wpAny_binaryOp_same Ia.ty Ib.ty F.fills_set_and F.slot_set_and (aI2 F.slot_set_and Ia.ty b3j ?_ (F.args_set_and_2 _ _))
 show wpAny _ _ (do
  let (self,other) ←Builtin.Frozenset.slot1 "__and__" ⟨[.ref a,.ref b],[]⟩
  let (l,r):=if false then(other,self) else(self,other)
  if !(←Builtin.Frozenset.isAnySet l <&&> Builtin.Frozenset.isAnySet r) then rule s!"frozenset.{"__and__"}.declined";return ←ret .notImplemented
  ret (←Builtin.Frozenset.intersection s!"frozenset.{"__and__"}" (←Builtin.Frozenset.addrOf l) r)) _ _ _
 refine aA1 (aA6 ?_)
 dsimp only
 rw[aA8 aC9]
 refine aA1 (aA1 (a3F Ia.ty ?_))
 refine a3F Ib.ty ?_
 rw[aA8 (by decide)]
 refine aA1 (aA6 (aA1 (b7m ne Ia Ib ra rb fun h' rs k I m=>?_)))
 exact aA6 ⟨_,rfl,(fun z=>nomatch z),h h' rs k I m⟩
end
open PySem PySem.Spec PyProof.Rows
set_option maxRecDepth 100000
theorem b7n:Manifest.owners.lookup (String.ofList ['r','o','t','a','r','e','t','i','_','t','e','s'].reverse)=some Manifest.sig_set_iterator:=by kernel_rfl
theorem Q1:Slot "set_iterator" "__next__" "set_iterator.__next__":=
 .of (owner:="set_iterator") (n:="__next__") (by rw[typeLookup_type,aT5];kernel_rfl) (by decide +kernel)
  (by decide +kernel) (by decide +kernel) (.inl (by decide +kernel)) (by rw[isSubtype_type];kernel_rfl)
theorem a8j:entryFor table "set_iterator.__next__"=some Builtin.«set_iterator.__next__»:=entryFor_of_tree (by kernel_rfl)
theorem a0s(a:Value):argsOk "set_iterator.__next__" ⟨[a],[]⟩:=by
 unfold argsOk
 rw[signature?_of (id:="set_iterator.__next__") (n:=['_','_','t','x','e','n','_','_']) (o:=['r','o','t','a','r','e','t','i','_','t','e','s']) (by kernel_rfl) b7n]
 kernel_rfl
theorem a2V:entryFor table "set.__iter__"=some Builtin.«frozenset.__iter__»:=
 entryFor_alias (id':="frozenset.__iter__") (by kernel_rfl) rfl (by decide +kernel) (by kernel_rfl)
def itO(first:Value)(i:Nat)(a:Addr)(n ep:Nat):Obj:={ cls:=.type "set_iterator",data:=.fields #[first,rawInt i,.ref a,rawInt n,rawInt ep] }
section
variable{prog:Program}{w:World}{A:Around}{E:Value→Shared→Prop}{s:Shared}
theorem a3P{Q:Option Value→Shared→Prop}{s₁:Shared}(hh:A.handled=none)(q:∀h',(∀b o,s₁.heap.get? b=some o→h'.get? b=some o)→Q none { s₁ with heap:=h' }) :
  wpAny (model prog w) A.in1 (do raiseNew (←newExc (.type "StopIteration") []):Sem Fin)
   (fun fin s'=>∃r,fin=Fin.done (.ret r)∧wpAny (model prog w) A (pure (some r)) Q E s')
   (fun e s'=>wpAny (model prog w) A (do if ←isInstance e (.type "StopIteration") then pure none else throw e) Q E s') s₁:=by
 refine aA1 ?_
 simp only[newExc,newTuple]
 refine aA1 (aG9 ?_ (by size_fits))
 refine aA1 (m:=firstArgMember _ _) (wpAny_of_eq (a:=Value.none) (by first | rfl | (simp only[firstArgMember];rfl)) ?_)
 refine aG9 ?_ (by size_fits)
 simp only[raiseNew]
 refine aA1 (wpAny_handled ?_)
 rw[show A.in1.handled=none from hh]
 refine aA1 (aA6 (wpAny_throw ?_))
 refine aA1 (aP2 (T:="StopIteration") (b:=true) ⟨_,aC5 _ rfl,rfl⟩ isSubtype_stop ?_)
 exact aA6 (q _ fun b o e=>aA7 _ (aA7 _ e))
theorem b6l{h:Heap}{I:Addr}{first x:Value}{i a n ep:Nat}(e:h.get? I=some (itO first i a n ep))(j:Nat) :
  (h.update I (Obj.mapFields (·.setIfInBounds j x))).get? I=some { cls:=.type "set_iterator",data:=.fields (#[first,rawInt i,.ref a,rawInt n,rawInt ep].setIfInBounds j x) }:=
 aG8 _ e rfl
theorem a1J{I a:Addr}{sl i n ep nx:Nat}{x:Value}{Q:Option Value→Shared→Prop}(hi:s.heap.get? I=some (itO (rawInt sl) i a n ep)){ks:List Str}(Ia:IsT w s.heap a ks)(hn:ks.length=n)
  (hnx:∀(A:Around) (Q:Option (Value×Nat)→Shared→Prop) (E:Value→Shared→Prop),Q (some (x,nx)) s→wpAny (model prog w) A (setNext a sl i ep) Q E s)
  (h:∀h',Heap.SameBut I s.heap h'→h'.get? I=some (itO (rawInt nx) (i+1) a n ep)→Q (some x) { s with heap:=h' }):wpAny (model prog w) A (pyNext (.ref I)) Q E s:=by
 have ty:s.TypeIs (.ref I) "set_iterator":=⟨_,hi,rfl⟩
 unfold pyNext
 refine aA1 (wpAny_attempt (aL5 (name:=Str.ofString "__next__") ty Q1 (aI2 Q1 ty a8j ?_ (a0s _))))
 unfold Builtin.«set_iterator.__next__»
 refine aA1 (m:=slotArgs "__next__" 0 _) (aA6 ?_)
 refine aA1 (wpAny_fieldsOf hi rfl ?_)
 dsimp only[rawInt]
 refine aA1 (Q0 Ia fun es _ sz=>?_)
 rw[aA8 (by rw[sz,hn];simp)]
 refine aA1 ?_
 simp only[aM4]
 refine hnx _ _ _ ?_
 dsimp only
 refine aA1 (aO6 hi rfl (by simp) ?_)
 have g1:=b6l (x:=rawInt nx) hi 0
 refine aA1 (aO6 (s:={ s with heap:=s.heap.update I (Obj.mapFields (·.setIfInBounds 0 (rawInt nx))) }) g1 rfl (by simp) ?_)
 refine aA6 ⟨x,rfl,aA6 (h _ ((aH5 ..).trans (aH5 ..)) ?_)⟩
 exact aG8 _ g1 rfl
theorem a2m{I a:Addr}{sl i n ep:Nat}{Q:Option Value→Shared→Prop}(hh:A.handled=none)(hi:s.heap.get? I=some (itO (rawInt sl) i a n ep)){ks:List Str}(Ia:IsT w s.heap a ks)(hn:ks.length=n)
  (hnx:∀(A:Around) (Q:Option (Value×Nat)→Shared→Prop) (E:Value→Shared→Prop),Q none s→wpAny (model prog w) A (setNext a sl i ep) Q E s)
  (h:∀h',Heap.ExtBut I s.heap h'→Q none { s with heap:=h' }):wpAny (model prog w) A (pyNext (.ref I)) Q E s:=by
 have ty:s.TypeIs (.ref I) "set_iterator":=⟨_,hi,rfl⟩
 unfold pyNext
 refine aA1 (wpAny_attempt (aL5 (name:=Str.ofString "__next__") ty Q1 (aI2 Q1 ty a8j ?_ (a0s _))))
 unfold Builtin.«set_iterator.__next__»
 refine aA1 (m:=slotArgs "__next__" 0 _) (aA6 ?_)
 refine aA1 (wpAny_fieldsOf hi rfl ?_)
 dsimp only[rawInt]
 refine aA1 (Q0 Ia fun es _ sz=>?_)
 rw[aA8 (by rw[sz,hn];simp)]
 refine aA1 ?_
 simp only[aM4]
 refine hnx _ _ _ ?_
 dsimp only
 refine aA1 (aO6 hi rfl (by simp) ?_)
 refine a3P (s₁:={ s with heap:=s.heap.update I _ }) hh fun h' k=>?_
 exact h h' fun b o hb e=>k b o ((aH5 ..).extBut b o hb e)
theorem b1b{I a P:Addr}{i n ep p:Nat}{x:Value}{hs:Int}{ps:List Nat}{Q:Option Value→Shared→Prop}(hi:s.heap.get? I=some (itO (.ref P) i a n ep)){ks:List Str}(Ia:IsT w s.heap a ks)(hn:ks.length=n)
  {oP:Obj} {nP:Nat} (hP:s.heap.get? P=some oP) (hd:oP.data=.seq (ps.map fun(j:Nat)=>rawInt j).toArray nP) (hp:ps[i]?=some p)
  {o:Obj} {es:Array (Int×Value)} {t:SetTable} (ho:s.heap.get? a=some o) (hod:o.data=.set es ep t) (hf:t.fits es.size=true) (hx:es[p]?=some (hs,x))
  (h:∀h',Heap.SameBut I s.heap h'→h'.get? I=some (itO (.ref P) (i+1) a n ep)→Q (some x) { s with heap:=h' }):wpAny (model prog w) A (pyNext (.ref I)) Q E s:=by
 have ty:s.TypeIs (.ref I) "set_iterator":=⟨_,hi,rfl⟩
 unfold pyNext
 refine aA1 (wpAny_attempt (aL5 (name:=Str.ofString "__next__") ty Q1 (aI2 Q1 ty a8j ?_ (a0s _))))
 unfold Builtin.«set_iterator.__next__»
 refine aA1 (m:=slotArgs "__next__" 0 _) (aA6 ?_)
 refine aA1 (wpAny_fieldsOf hi rfl ?_)
 dsimp only[rawInt]
 refine aA1 (Q0 Ia fun es _ sz=>?_)
 rw[aA8 (by rw[sz,hn];simp)]
 refine aA1 (aO7 hP hd ?_)
 simp only[aM4]
 have e1:(ps.map fun(j:Nat)=>rawInt j).toArray[i]?=some (Value.int (p:Int) 0):=by simp[hp,rawInt]
 rw[e1]
 dsimp only
 unfold setNextDrawn
 refine aA1 (aA1 (aG6 ho hod hf ?_))
 dsimp only
 rw[aA8 (by simp)]
 simp only[aM4,hx]
 refine aA6 ?_
 refine aA1 (aO6 hi rfl (by simp) ?_)
 refine aA6 ⟨x,rfl,aA6 (h _ (aH5 ..) ?_)⟩
 exact aG8 _ hi rfl
theorem a8D{I a P:Addr}{i n ep:Nat}{ps:List Nat}{Q:Option Value→Shared→Prop}(hh:A.handled=none)(hi:s.heap.get? I=some (itO (.ref P) i a n ep)){ks:List Str}(Ia:IsT w s.heap a ks)(hn:ks.length=n)
  {oP:Obj} {nP:Nat} (hP:s.heap.get? P=some oP) (hd:oP.data=.seq (ps.map fun(j:Nat)=>rawInt j).toArray nP) (hp:ps.length≤i)
  (h:∀h',Heap.ExtBut I s.heap h'→Q none { s with heap:=h' }):wpAny (model prog w) A (pyNext (.ref I)) Q E s:=by
 have ty:s.TypeIs (.ref I) "set_iterator":=⟨_,hi,rfl⟩
 unfold pyNext
 refine aA1 (wpAny_attempt (aL5 (name:=Str.ofString "__next__") ty Q1 (aI2 Q1 ty a8j ?_ (a0s _))))
 unfold Builtin.«set_iterator.__next__»
 refine aA1 (m:=slotArgs "__next__" 0 _) (aA6 ?_)
 refine aA1 (wpAny_fieldsOf hi rfl ?_)
 dsimp only[rawInt]
 refine aA1 (Q0 Ia fun es _ sz=>?_)
 rw[aA8 (by rw[sz,hn];simp)]
 refine aA1 (aO7 hP hd ?_)
 simp only[aM4]
 have e1:(ps.map fun(j:Nat)=>rawInt j).toArray[i]?=none:=by simp[hp]
 rw[e1]
 dsimp only
 refine aA1 (aO6 hi rfl (by simp) ?_)
 have g1:=b6l (x:=rawInt 0) hi 0
 refine aA1 (aO6 (s:={ s with heap:=s.heap.update I (Obj.mapFields (·.setIfInBounds 0 (rawInt 0))) }) g1 rfl (by simp) ?_)
 refine a3P (s₁:={ s with heap:=(s.heap.update I _).update I _ }) hh fun h' k=>?_
 exact h h' fun b o hb e=>k b o (((aH5 ..).trans (aH5 ..)).extBut b o hb e)
end
open PySem PySem.Spec PyProof.Rows
set_option maxRecDepth 100000
structure Nx(prog:Program)(w:World)(I:Addr)(fp:List Addr)(vs:List Value)(St:Nat→Heap→Prop):Prop where
 frame:∀i h h',St i h→(∀b∈I::fp,∀o,h.get? b=some o→h'.get? b=some o)→St i h'
 item:∀(A:Around) (i:Nat) (s:Shared) (Q:Option Value→Shared→Prop) (E:Value→Shared→Prop) (lt:i<vs.length),St i s.heap →
  (∀h',Heap.SameBut I s.heap h'→St (i+1) h'→Q (some vs[i]) { s with heap:=h' })→wpAny (model prog w) A (pyNext (.ref I)) Q E s
 done:∀(A:Around) (s:Shared) (Q:Option Value→Shared→Prop) (E:Value→Shared→Prop),A.handled=none→St vs.length s.heap →
  (∀h',Heap.ExtBut I s.heap h'→Q none { s with heap:=h' })→wpAny (model prog w) A (pyNext (.ref I)) Q E s
section
variable{prog:Program}{w:World}{A:Around}{E:Value→Shared→Prop}{s:Shared}
theorem b1e{src:Source}{n:Nat}{Q:Nat→Shared→Prop}(hn:n≠0)(h:∀k d',k<n→Q k { s with drawn:=d' }):wpAny (model prog w) A (choose src n) Q E s:=
 fun _ _ _=>⟨hn,h _ _ (Nat.mod_lt _ (Nat.pos_of_ne_zero hn))⟩
theorem a1R{α:Type}:∀(n:Nat) (xs:List α) (s:Shared) {Q:List α→Shared→Prop},n=xs.length→(∀ys d',ys.Perm xs→Q ys { s with drawn:=d' })→wpAny (model prog w) A (drawOrder n xs) Q E s
 | 0,xs,s,Q,e,h=>by
  have:xs=[]:=aJ0 e.symm
  subst this
  exact aA6 (h [] s.drawn (List.Perm.refl _))
 | n+1,[],s,Q,e,h=>by simp at e
 | n+1,x::xs,s,Q,e,h=>by
  unfold drawOrder
  refine aA1 (b1e (by simp) fun k d hk=>?_)
  rw[List.getElem?_eq_getElem hk]
  dsimp only
  refine aA1 (a1R n _ _ (by rw[List.length_eraseIdx_of_lt hk];omega) fun ys d' p=>?_)
  exact aA6 (h _ d' ((p.cons _).trans (a5l (x::xs) k hk)))
theorem b8u{I a:Addr}{o:Obj}{es:Array (Int×Value)}{ep:Nat}{t:SetTable}{ks:List Str}(hb:X4 w=true)(hd:o.data=.set es ep t)(hf:t.fits es.size=true)(mk:∀h:Heap,h.get? a=some o→IsT w h a ks)(hn:ks.length=es.size)(ne:a≠I) :
  Nx prog w I [a] ((pickOrder (w.params.setOrder a ep) es).toList.map (·.2)) (fun i h=>h.get? I=some (itO (rawInt (0:Nat)) i a es.size ep)∧h.get? a=some o) where
 frame:=fun i h h' st k=>⟨k I (by simp) _ st.1,k a (by simp) _ st.2⟩
 item:=fun A i s Q E lt st q=>by
  rw[aA0]at lt
  refine a1J (nx:=0) (x:=((pickOrder (w.params.setOrder a ep) es).toList[i]).2) st.1 (mk _ st.2) hn (fun A' Q' E' q'=>?_) fun h' sb g=>?_
  ·unfold setNext
   refine aA1 (aG6 st.2 hd hf ?_)
   dsimp only
   refine aA1 (K4 ?_)
   rw[hb,aB4 rfl,aA8 (by simp)]
   unfold setWalk
   refine aA1 (aA1 (aG6 st.2 hd hf ?_))
   dsimp only
   refine aA1 (K4 ?_)
   rw[hb,aB4 rfl]
   refine aA1 (aP3 (aA6 (aA6 ?_)))
   have e:(pickOrder (w.params.setOrder a ep) es)[i]?=some ((pickOrder (w.params.setOrder a ep) es).toList[i]):=by
    rw[←aM0];exact List.getElem?_eq_getElem lt
   show Q' (((pickOrder (w.params.setOrder a ep) es)[i]?).map fun e=>(e.2,0)) s
   rw[e];exact q'
  ·have:=q h' sb ⟨g,(sb.2 a ne).trans st.2⟩
   rw[List.getElem_map]at this
   exact this
 done:=fun A s Q E hh st q=>by
  rw[aA0]at st
  refine a2m hh st.1 (mk _ st.2) hn (fun A' Q' E' q'=>?_) fun h' eb=>q h' eb
  unfold setNext
  refine aA1 (aG6 st.2 hd hf ?_)
  dsimp only
  refine aA1 (K4 ?_)
  rw[hb,aB4 rfl,aA8 (by simp)]
  unfold setWalk
  refine aA1 (aA1 (aG6 st.2 hd hf ?_))
  dsimp only
  refine aA1 (K4 ?_)
  rw[hb,aB4 rfl]
  refine aA1 (aP3 (aA6 (aA6 ?_)))
  show Q' (((pickOrder (w.params.setOrder a ep) es)[(pickOrder (w.params.setOrder a ep) es).toList.length]?).map fun e=>(e.2,0)) s
  rw[show(pickOrder (w.params.setOrder a ep) es)[(pickOrder (w.params.setOrder a ep) es).toList.length]?=none by simp]
  exact q'
theorem b9r{I a P:Addr}{o oP:Obj}{es:Array (Int×Value)}{ep nP:Nat}{t:SetTable}{ks:List Str}{ps:List Nat}(hd:o.data=.set es ep t)(hf:t.fits es.size=true)(mk:∀h:Heap,h.get? a=some o→IsT w h a ks)(hn:ks.length=es.size)(ne:a≠I)(np:P≠I)
  (hP:oP.data=.seq (ps.map fun(j:Nat)=>rawInt j).toArray nP) (hps:∀p∈ps,p<es.size) :
  Nx prog w I [a,P] (ps.map fun p=>(es.getD p (0,.none)).2) (fun i h=>h.get? I=some (itO (.ref P) i a es.size ep)∧h.get? a=some o∧h.get? P=some oP) where
 frame:=fun i h h' st k=>⟨k I (by simp) _ st.1,k a (by simp) _ st.2.1,k P (by simp) _ st.2.2⟩
 item:=fun A i s Q E lt st q=>by
  rw[aA0]at lt
  have lp:=hps ps[i] (aF9 lt)
  refine b1b (x:=(es.getD ps[i] (0,.none)).2) (hs:=(es.getD ps[i] (0,.none)).1) (p:=ps[i]) st.1 (mk _ st.2.1) hn st.2.2 hP (List.getElem?_eq_getElem lt) st.2.1 hd hf (by simp[Array.getD,lp]) fun h' sb g=>?_
  have:=q h' sb ⟨g,(sb.2 a ne).trans st.2.1,(sb.2 P np).trans st.2.2⟩
  rw[List.getElem_map]at this
  exact this
 done:=fun A s Q E hh st q=>by
  rw[aA0]at st
  exact a8D hh st.1 (mk _ st.2.1) hn st.2.2 hP (aB3 _) fun h' eb=>q h' eb
theorem a8I(j sl:Nat):SetTable.below #[j] sl=if j<sl then 1 else 0:=by
 unfold SetTable.below
 show SetTable.below.go #[j] sl 1 0 1=_
 unfold SetTable.below.go
 simp only[Nat.zero_lt_one,aQ1]
 show(if j<sl then SetTable.below.go #[j] sl 0 1 1 else SetTable.below.go #[j] sl 0 0 0)=_
 split<;>rfl
theorem b8r{I a:Addr}{o:Obj}{es:Array (Int×Value)}{ep:Nat}{t:SetTable}{ks:List Str}(hb:X4 w=false)(hd:o.data=.set es ep t)(hf:t.fits es.size=true)(hl:t.led=true)(sm:es.size≤1)(mk:∀h:Heap,h.get? a=some o→IsT w h a ks)(hn:ks.length=es.size)(ne:a≠I) :
  Nx prog w I [a] (es.toList.map (·.2)) (fun i h=>h.get? I=some (itO (rawInt (if i=0 then 0 else t.place.getD 0 0+1:Nat)) i a es.size ep)∧h.get? a=some o):=by
 have pz:t.place.size=es.size:=by simp only[SetTable.fits,aE9,aP7]at hf;exact hf.1
 have pre:∀(sl i:Nat) (s:Shared) (r:Option (Value×Nat)) (A':Around) (Q':Option (Value×Nat)→Shared→Prop) (E':Value→Shared→Prop),s.heap.get? a=some o →
   (match es[SetTable.below t.place sl]?,t.place[SetTable.below t.place sl]? with | some (_,x),some j=>some (x,j+1) | _,_=>none)=r→Q' r s→wpAny (model prog w) A' (setNext a sl i ep) Q' E' s:=by
  intro sl i s r A' Q' E' ho e q'
  unfold setNext
  refine aA1 (aG6 ho hd hf ?_)
  dsimp only
  refine aA1 (K4 ?_)
  rw[hb,aA8 aC9]
  show wpAny _ _ (if (!t.plain&&decide (es.size>1))=true then _ else _) _ _ _
  rw[aA8 (by simp;intro _;exact sm)]
  show wpAny _ _ ((if (!t.led&&!es.isEmpty)=true then unsupported "set:maker-not-led" else pure ()) >>= _) _ _ _
  rw[aA8 (by rw[hl];simp)]
  refine aA1 (aA6 (aA6 ?_))
  rw[←e]at q'
  exact q'
 refine⟨fun i h h' st k=>⟨k I (by simp) _ st.1,k a (by simp) _ st.2⟩,fun A i s Q E lt st q=>?_,fun A s Q E hh st q=>?_⟩
 ·rw[aA0,aF3]at lt
  have i0:i=0:=by omega
  have z1:es.size=1:=by omega
  subst i0
  obtain⟨e0,he0⟩:∃e0,es=#[e0]:=aN9.mp z1
  obtain⟨j,hj⟩:∃j,t.place=#[j]:=aN9.mp (pz.trans z1)
  subst he0
  refine a1J (nx:=j+1) (x:=e0.2) st.1 (mk _ st.2) hn (fun A' Q' E' q'=>?_) fun h' sb g=>?_
  ·refine pre _ _ s _ A' Q' E' st.2 ?_ q'
   rw[hj,aB4 rfl,a8I,aA8 (Nat.not_lt_zero _)]
   rfl
  ·refine q h' sb ⟨?_,(sb.2 a ne).trans st.2⟩
   rw[hj,aA8 (by omega)]
   exact g
 ·rw[aA0,aF3]at st
  refine a2m hh st.1 (mk _ st.2) hn (fun A' Q' E' q'=>?_) fun h' eb=>q h' eb
  refine pre _ _ s _ A' Q' E' st.2 ?_ q'
  by_cases z:es.size=0
  ·rw[aB4 z]
   have e0:es=#[]:=Array.size_eq_zero_iff.mp z
   have p0:t.place=#[]:=Array.size_eq_zero_iff.mp (pz.trans z)
   rw[e0,p0];rfl
  ·rw[aA8 z]
   have z1:es.size=1:=by omega
   obtain⟨e0,he0⟩:∃e0,es=#[e0]:=aN9.mp z1
   obtain⟨j,hj⟩:∃j,t.place=#[j]:=aN9.mp (pz.trans z1)
   rw[hj,he0]
   show(match #[e0][SetTable.below #[j] (j+1)]?,#[j][SetTable.below #[j] (j+1)]? with | some (_,x),some j=>some (x,j+1) | _,_=>none)=none
   rw[a8I,aB4 (aM9 _)]
   rfl
end
open PySem PySem.Spec PyProof.Rows
set_option maxRecDepth 100000
def Tells(vs:List Value)(ks:List Str):Prop:=∃us,W7 vs us∧us.Perm ks
theorem tells_of{w:World}:∀{es:List (Int×Value)},V5 w es→W7 (es.map (·.2)) (es.map txE)
 | [],_=>.nil
 | e::es,h=>by
  obtain⟨k,t,q⟩:=h e aB9
  exact .cons ⟨t,by subst q;rfl⟩ (tells_of fun x hx=>h x (aC1 _ hx))
theorem a7E{es:Array (Int×Value)}:(List.range es.size).map (fun p=>es.getD p (0,.none))=es.toList:=by
 apply List.ext_getElem
 ·simp
 ·intro i h1 h2
  simp at h1
  simp[Array.getD,h1]
section
variable{prog:Program}{w:World}{A:Around}{E:Value→Shared→Prop}{s:Shared}
theorem b5s{a:Addr}{ks:List Str}{Q:Value→Shared→Prop}(Ia:IsT w s.heap a ks)
  (h:∀(I:Addr) (fp:List Addr) (vs:List Value) (St:Nat→Heap→Prop) (h':Heap) (d':Drawn),Nx prog w I fp vs St→St 0 h'→(∀b o,s.heap.get? b=some o→h'.get? b=some o)→s.heap.objs.size≤I→(∀b∈fp,b=a∨s.heap.objs.size≤b)→Tells vs ks →
   Q (.ref I) { s with heap:=h',drawn:=d' }):wpAny (model prog w) A (pyIter (.ref a)) Q E s:=by
 obtain⟨o,es,ep,t,ho,hx,hd,he,hp,hn,hb,hf,hl,hc⟩:=id Ia
 have mk:∀h1:Heap,h1.get? a=some o→IsT w h1 a ks:=fun h1 e=>⟨o,es,ep,t,e,hx,hd,he,hp,hn,hb,hf,hl,hc⟩
 have sz:ks.length=es.size:=by rw[←hp.length_eq,aA0,aF3]
 have la:a<s.heap.objs.size:=aC2 ho
 refine wpAny_pyIter_slot Ia.ty F.slot_set_iter (aI2 F.slot_set_iter Ia.ty a2V ?_ (F.args_set_iter_1 _))
 unfold Builtin.«frozenset.__iter__» Builtin.Frozenset.slot0
 refine aA1 (aA1 (m:=slotArgs "__iter__" 0 _) (aA6 (aA6 ?_)))
 refine aA1 (a8x Ia ?_)
 unfold setDrawn
 refine aA1 (aA1 (aG6 ho hd hf ?_))
 dsimp only
 refine aA1 (K4 (aA6 ?_))
 show wpAny _ _ (if (!X4 w&&(!t.plain&&decide (es.size>1)))=true then _ else _) _ _ _
 by_cases c:(!X4 w&&(!t.plain&&decide (es.size>1)))=true
 ·rw[aB4 c]
  refine aA1 (a1R _ _ _ (by simp) fun ps d' pp=>?_)
  have psz:ps.length=es.size:=by rw[pp.length_eq,List.length_range,sz]
  have zl:(ps.map fun(i:Nat)=>rawInt i).length≤sizeLine:=by rw[aA0,psz];exact aN1 hb
  refine aA1 (wpAny_newTuple ?_ zl)
  generalize hh1:s.heap.push { cls:=.type "tuple",data:=.seq (ps.map fun(i:Nat)=>rawInt i).toArray }=h1
  have k1:∀b o,s.heap.get? b=some o→h1.get? b=some o:=fun b o e=>by rw[←hh1];exact aA7 _ e
  have g1:h1.get? s.heap.objs.size=some { cls:=.type "tuple",data:=.seq (ps.map fun(i:Nat)=>rawInt i).toArray }:=by rw[←hh1];exact aC5 _ rfl
  have z1:h1.objs.size=s.heap.objs.size+1:=by rw[←hh1];exact aJ9 ..
  refine aA1 (aQ8 (s:={ s with heap:=h1,drawn:=d' }) (k1 a o ho) hd hf ?_)
  refine aA1 (aG9 (aA6 ⟨_,rfl,"set_iterator",_,⟨_,aC5 _ rfl,rfl⟩,Q1.lookup,?_⟩))
  refine h h1.objs.size _ _ _ _ d' (b9r (P:=s.heap.objs.size) (ps:=ps) (oP:={ cls:=.type "tuple",data:=.seq (ps.map fun(i:Nat)=>rawInt i).toArray }) (nP:=0) hd hf mk sz (by rw[z1];exact aD6 (aM3 la)) (by rw[z1];exact aD6 (aM9 _)) rfl fun p hp'=>?_) ⟨?_,?_,?_⟩ (fun b o e=>aA7 _ (k1 b o e)) (by rw[z1];exact aL8 _) (fun b hb'=>?_) ?_
  ·have:=pp.mem_iff.mp hp'
   rw[aS3,sz]at this
   exact this
  ·rw[←sz];exact aC5 _ rfl
  ·exact aA7 _ (k1 a o ho)
  ·exact aA7 _ g1
  ·simp only[aB7,aF7,aL4]at hb'
   exact hb'.imp id fun e=>by rw[e];exact aB3 _
  ·have q:(ps.map fun p=>es.getD p (0,.none)).Perm es.toList:=by
    have:=pp.map (fun p=>es.getD p (0,Value.none))
    rw[sz,a7E]at this
    exact this
   have q2:(ps.map fun p=>(es.getD p (0,.none)).2)=(ps.map fun p=>es.getD p (0,.none)).map (·.2):=by rw[aE8];rfl
   rw[q2]
   exact⟨_,tells_of (he.of_perm q),(q.map txE).trans hp⟩
 ·rw[aA8 c]
  refine aA1 (aA6 ?_)
  refine aA1 (aQ8 ho hd hf ?_)
  refine aA1 (aG9 (aA6 ⟨_,rfl,"set_iterator",_,⟨_,aC5 _ rfl,rfl⟩,Q1.lookup,?_⟩))
  cases hbt:X4 w with
  | true=>
   refine h s.heap.objs.size _ _ _ _ s.drawn (b8u hbt hd hf mk sz (aD6 la)) ⟨?_,aA7 _ ho⟩ (fun b o e=>aA7 _ e) (aB3 _) (fun b hb'=>.inl (by simpa using hb')) ?_
   ·rw[←sz];exact aC5 _ rfl
   ·exact⟨_,tells_of (he.of_perm (a9e _ _)),b7f (a9e _ _) hp⟩
  | false=>
   rw[hbt]at c hl
   have sm:es.size≤1:=by
    rcases hc with z | z
    ·omega
    ·rw[z]at c;simp at c;exact c
   refine h s.heap.objs.size _ _ _ _ s.drawn (b8r hbt hd hf hl sm mk sz (aD6 la)) ⟨?_,aA7 _ ho⟩ (fun b o e=>aA7 _ e) (aB3 _) (fun b hb'=>.inl (by simpa using hb')) ?_
   ·rw[←sz];exact aC5 _ rfl
   ·exact⟨_,tells_of he,hp⟩
theorem b6m{R:Result→Shared→Prop}(hh:A.handled=none){S I:Addr}{fp:List Addr}{vs:List Value}{St:Nat→Heap→Prop}(W:Nx prog w I fp vs St)(hz:vs.length≤sizeLine)(n1:S≠I)(n2:S∉fp)(res:Value) :
  ∀(d i:Nat) (s:Shared) (c:Nat),vs.length-i=d→i≤vs.length→St i s.heap→s.heap.get? S=some { cls:=.type "list",data:=.seq (vs.take i).toArray c } →
   (∀h' c',(∀b o,b≠S→b≠I→s.heap.get? b=some o→h'.get? b=some o)→h'.get? S=some { cls:=.type "list",data:=.seq vs.toArray c' }→R (.ok (.ret res)) { s with heap:=h' }) →
   codeAny (model prog w) A (.builtin "list.extend.loop" ⟨[.ref S,.ref I,res],[]⟩) R s:=by
 intro d
 induction d with
 | zero=>
  intro i s c e1 e2 st hS hR
  have en:i=vs.length:=by omega
  subst en
  refine aH2 F.entry_extend_loop ?_
  rw[aG1 aN2 _]
  show wpAny _ A.in1 (pyNext (.ref I) >>= _) _ _ s
  refine aA1 (W.done A.in1 s _ _ (by simpa using hh) st fun h' eb=>?_)
  refine aA6 (hR h' c (fun b o _ hb q=>eb b o hb q) ?_)
  rw[aD5]at hS
  exact eb S _ n1 hS
 | succ d ih=>
  intro i s c e1 e2 st hS hR
  have lt:i<vs.length:=by omega
  refine aH2 F.entry_extend_loop ?_
  rw[aG1 aN2 _]
  show wpAny _ A.in1 (pyNext (.ref I) >>= _) _ _ s
  refine aA1 (W.item A.in1 i s _ _ lt st fun h1 sb st1=>?_)
  have hS1:h1.get? S=some { cls:=.type "list",data:=.seq (vs.take i).toArray c }:=(sb.2 S n1).trans hS
  show wpAny _ A.in1 (updateSeq S (·.push vs[i]) >>= _) _ _ _
  refine aA1 (aP8 hS1 rfl (aA6 ⟨aJ8 aN2 _,ih (i+1) _ (if ((vs.take i).toArray.push vs[i]).size==(vs.take i).toArray.size then c else c+1) (by omega) lt (W.frame _ _ _ st1 fun b hb o q=>?_) (aG8 _ hS1 rfl |>.trans ?_) fun h' c' kp g=>?_⟩) ?_ ?_)
  ·have nb:b≠S:=fun e=>by
    rw[e]at hb
    rcases aB7.mp hb with hb | hb
    ·exact n1 hb
    ·exact n2 hb
   exact(aF8 _ _ (Ne.symm nb)).trans q
  ·have:(vs.take i).toArray.push vs[i]=(vs.take (i+1)).toArray:=by
    rw[aD3,List.getElem?_eq_getElem lt];simp
   rw[←this];rfl
  ·exact hR h' c' (fun b o a1 a2 q=>kp b o a1 a2 ((aF8 _ _ (Ne.symm a1)).trans ((sb.2 b a2).trans q))) g
  ·simp;omega
  ·show((vs.take i).toArray.push vs[i]).size≤sizeLine+1
   simp;omega
end
open PySem PySem.Spec PyProof.Rows Srt
set_option maxRecDepth 100000
theorem b4d:typeLookup (.type "set") "__len__"=pure (some (.builtin "set.__len__")):=F.slot_set_len.lookup
section
variable{prog:Program}{w:World}{A:Around}{E:Value→Shared→Prop}{s:Shared}
theorem a6W{a:Addr}{ks:List Str}{Q:List Value→Shared→Prop}(hh:A.handled=none)(Ia:IsT w s.heap a ks)
  (h:∀(vs:List Value) (h':Heap) (d':Drawn),Tells vs ks→s.heap.objs.size<h'.objs.size→(∀b o,s.heap.get? b=some o→h'.get? b=some o)→Q vs { s with heap:=h',drawn:=d' }) :
  wpAny (model prog w) A (collect (.ref a)) Q E s:=by
 have la:a<s.heap.objs.size:=let ⟨_,_,_,_,q,_⟩:=Ia;aC2 q
 have zk:ks.length≤sizeLine:=aN1 Ia.len
 unfold collect
 refine aA1 (wpAny_runValue (aH2 F.entry_proto_collect ?_))
 rw[aG1 F.plain_proto_collect _]
 show wpAny _ A.in1 (newList [] >>= fun l=>again (.builtin "list.__iadd__" ⟨[l,.ref a],[]⟩)) _ _ s
 refine aA1 (aG9 ?_)
 refine aA6 ⟨aJ8 aO9 _,aH2 F.entry_list_iadd ?_⟩
 rw[aG1 aO9 _]
 generalize hh1:s.heap.push { cls:=.type "list",data:=.seq ([]:List Value).toArray }=h1
 have k1:∀b o,s.heap.get? b=some o→h1.get? b=some o:=fun b o e=>by rw[←hh1];exact aA7 _ e
 have g1:h1.get? s.heap.objs.size=some { cls:=.type "list",data:=.seq #[] 0 }:=by rw[←hh1];exact aC5 _ rfl
 have z1:h1.objs.size=s.heap.objs.size+1:=by rw[←hh1];exact aJ9 ..
 have I1:IsT w h1 a ks:=Ia.at fun o e=>k1 a o e
 show wpAny _ A.in1 (Builtin.List.listExtendWith (.ref s.heap.objs.size) (.ref a) (.ref s.heap.objs.size)) _ _ { s with heap:=h1 }
 unfold Builtin.List.listExtendWith
 refine aA1 (wpAny_typeOf (s:={ s with heap:=h1 }) I1.ty ?_)
 have nsr:Builtin.List.listSameRef (.ref s.heap.objs.size) (.ref a)=false:=by
  simp only[Builtin.List.listSameRef,aG7];exact aK1 la
 rw[aA8 (by rw[nsr];decide)]
 refine aA1 (b5s (s:={ s with heap:=h1 }) I1 fun I fp vs St h2 d' W st k2 hI hfp T=>?_)
 have I2:IsT w h2 a ks:=I1.at fun o e=>k2 a o e
 have g2:=k2 _ _ g1
 refine aA1 (aI9 ?_)
 unfold Builtin.List.listLengthHint
 refine aA1 (aT3 (s:={ s with heap:=h2,drawn:=d' }) I2.ty b4d ?_)
 generalize hid:("set.__len__":String)=id0
 dsimp only
 rw[show splitId id0=some ("set","__len__") from by subst hid;decide +kernel]
 subst hid
 dsimp only
 refine aA1 (aP2 (b:=true) (s:={ s with heap:=h2,drawn:=d' }) I2.ty sub_set_self ?_)
 rw[aA8 (by decide),aB4 (by decide +kernel)]
 refine aA1 (wpAny_typeOf (s:={ s with heap:=h2,drawn:=d' }) I2.ty ?_)
 refine aA6 ?_
 rw[aB4 (by decide +kernel)]
 refine aA1 (wpAny_rule ?_)
 unfold Builtin.List.listTouch
 obtain⟨us,tx,pu⟩:=id T
 have zv:vs.length≤sizeLine:=by rw[tx.len,pu.length_eq];exact zk
 refine aA1 (aA1 (listUpdate_at (s:={ s with heap:=h2,drawn:=d' }) g2 rfl ?_ (aG3 _) (by show(#[].push Value.none).size≤_;rw[aG2];decide)))
 have g3:(h2.update s.heap.objs.size (Obj.mapSeq (·.push .none))).get? s.heap.objs.size=some { cls:=.type "list",data:=.seq #[Value.none] 1 }:=aG8 _ g2 rfl
 refine listUpdate_at (s:={ s with heap:=h2.update s.heap.objs.size (Obj.mapSeq (·.push .none)),drawn:=d' }) g3 rfl ?_ (by show(1:Nat)≤_;rw[aG2];decide) (aG3 _)
 generalize hh4:(h2.update s.heap.objs.size (Obj.mapSeq (·.push .none))).update s.heap.objs.size (Obj.mapSeq (·.pop))=h4
 have g4:h4.get? s.heap.objs.size=some { cls:=.type "list",data:=.seq #[] 2 }:=by rw[←hh4];exact aG8 _ g3 rfl
 have k4:∀b o,b≠s.heap.objs.size→h2.get? b=some o→h4.get? b=some o:=fun b o hb e=>by
  rw[←hh4,aF8 _ _ (Ne.symm hb),aF8 _ _ (Ne.symm hb)];exact e
 have nI:s.heap.objs.size≠I:=by
  have q:h1.objs.size≤I:=hI
  rw[z1]at q;exact aD6 q
 have nf:s.heap.objs.size∉fp:=fun hm=>by
  rcases hfp _ hm with e | e
  ·exact aK1 la e
  ·have e:h1.objs.size≤s.heap.objs.size:=e
   rw[z1]at e;exact aJ1 _ e
 refine aA6 ⟨aJ8 aN2 _,b6m (by simpa using hh) W zv nI nf _ (vs.length-0) 0 { s with heap:=h4,drawn:=d' } 2 rfl (aG3 _) ?_ g4 fun h5 c5 k5 g5=>?_⟩
 ·refine W.frame 0 h2 h4 st fun b hb o e=>k4 b o (fun z=>?_) e
  rw[z]at hb
  rcases aB7.mp hb with hb | hb
  ·exact nI hb
  ·exact nf hb
 ·show wpAny _ A (load s.heap.objs.size >>= _) _ _ _
  refine aA1 (wpAny_load g5 ?_)
  refine aA6 (h vs h5 d' T (aC2 g5) fun b o e=>?_)
  have lb:=aC2 e
  refine k5 b o (aD6 lb) (fun z=>?_) (k4 b o (aD6 lb) (k2 b o (k1 b o e)))
  have q:h1.objs.size≤I:=hI
  rw[z1,←z]at q
  exact aJ1 _ (Nat.lt_trans lb q)
theorem b9d{O:KeyOrd}{key:Keyed→O.α}(d:O.α){a:Addr}{ks:List Str}{Q:Value→Shared→Prop}(hh:A.handled=none)(Ia:IsT w s.heap a ks)
  (S:∀vs,Tells vs ks→Sortable prog w s.heap vs O key)
  (h:∀(vs out:List Value) (l:Addr) (h':Heap) (d':Drawn) (e:Nat),Tells vs ks→out.Perm vs→out.Pairwise (fun x y=>O.kle (key (x,x)) (key (y,y)))→s.heap.objs.size≤l→(∀b o,s.heap.get? b=some o→h'.get? b=some o) →
   h'.get? l=some (seqObj "list" out.toArray e)→Q (.ref l) { s with heap:=h',drawn:=d' }) :
  wpAny (model prog w) A (call (.builtin "sorted") [.ref a]) Q E s:=by
 refine Calls.call_function_entry kind_sorted plain_sorted entry_sorted (args_sorted1 _) ?_
 unfold Builtin.«sorted»
 refine aA1 (m:=checkCount "sorted" 1 1 _) (aA6 ?_)
 refine aA1 (a6W (by simpa using hh) Ia fun vs h1 d' T l1 k1=>?_)
 obtain⟨us,tx,pu⟩:=id T
 have zv:vs.length≤sizeLine:=by rw[tx.len,pu.length_eq];exact aN1 Ia.len
 refine aA1 (wpAny_newList ?_ zv)
 have lo:∀b o,s.heap.get? b=some o→b<h1.objs.size:=fun b o e=>aC2 (k1 b o e)
 have sl:s.heap.objs.size≤h1.objs.size:=aK8 l1
 have oL:(h1.push (seqObj "list" vs.toArray 0)).get? h1.objs.size=some (seqObj "list" vs.toArray 0):=aC5 _ rfl
 have keep:∀b o,s.heap.get? b=some o→b≠h1.objs.size∧(h1.push (seqObj "list" vs.toArray 0)).get? b=some o:=fun b o e=>
  ⟨aD6 (lo b o e),aA7 _ (k1 b o e)⟩
 refine aA1 (aI9 (aI2 slot_list_sort (s:={ s with heap:=h1.push (seqObj "list" vs.toArray 0),drawn:=d' }) ⟨_,oL,rfl⟩ entry_list_sort (sort_any d oL zv (S vs T) keep fun out a1 a2=>⟨_,rfl,?_⟩) (args_list_sort _)))
 obtain⟨e,he⟩:=sortedHeap_at (out:=out.toArray) oL
 refine aA6 ⟨_,rfl,h vs out _ _ d' e T a1 a2 sl (fun b o q=>?_) he⟩
 rw[sortedHeap_old (keep b o q).1 (aC2 (keep b o q).2)]
 exact(keep b o q).2
end
end TS
namespace L2
open PySem PySem.Spec PyProof.Rows Srt TS
def tso(w:World)(a:Addr)(ks:List Str):HO:=.ext fun h=>IsT w h a ks
section
variable{X:Cx}{pins:List (Addr×Obj)}{σ:St}{H:Hp}{s:Shared}
theorem b4i{h:Heap}{a:Addr}{ks:List Str}(x:IsT X.w h a ks):C0 X.prog X.w H h a (tso X.w a ks):=
 ⟨x,let ⟨o,_,_,_,q,_⟩:=x;⟨o,q⟩,fun _ _ y k=>y.at k⟩
theorem Inv.isT(I:Inv X pins σ H s){a:Addr}{ks:List Str}(e:H a=some (tso X.w a ks)):IsT X.w s.heap a ks:=(I.hok a _ e).1
theorem Inv.draw(I:Inv X pins σ H s)(d:Drawn):Inv X pins σ H { s with drawn:=d }:=⟨I.ok,I.os,I.bare,I.base,I.loc,I.cell,I.free,I.freeC,I.pin,I.hok,I.len⟩
theorem b8t:∀{ks:List Str} {us:List Value},j6 (ks.map V.str) us→W7 us ks
 | [],_,.nil=>.nil
 | _::_,_,.cons r t=>.cons r (b8t t)
theorem a5G:∀{ks:List Str} {us:List Value},W7 us ks→j6 (ks.map V.str) us
 | _,_,.nil=>.nil
 | _,_,.cons r t=>.cons r (a5G t)
theorem a9O(hc:X.calm=true):N5 X (.type "set") (fun as H Q=>∃p ks,as=[.ref p]∧d8 X.K H p (ks.map V.str)∧ks.length+1<scanBound∧∀l,H l=none→Q (.ref l) (upd H l (tso X.w l (once ks)))):=by
 intro pins s σ H as us Q I r h
 obtain⟨p,ks,rfl,hq,hb,q⟩:=h
 obtain⟨u,rfl,ru⟩:=vals1 r
 cases (show u=Value.ref p from ru)
 obtain⟨its,rv,pl,hz⟩:=I.list hq
 refine a0W (vs:=its) (I.ok.hd hc) pl.isList (b8t rv) hb fun h' tk I' k=>?_
 exact⟨.ref s.heap.objs.size,_,I.laid (t':=tk) k (aB3 _) (b4i I'),rfl,q _ (I.hok.fresh (aB3 _))⟩
def b3G(w:World):R2:=fun x y H Q=>∃a b ks js,x=.ref a∧y=.ref b∧b≠a∧H a=some (tso w a ks)∧H b=some (tso w b js)∧ks.length+1<scanBound∧js.length+1<scanBound ∧
 ∀l rs,H l=none→rs.Nodup→(∀x,x∈rs↔x∈ks∧x∈js)→Q (.ref l) (upd H l (tso w l rs))
theorem b6d:G7 X (binaryOp .BitAnd) (b3G X.w):=by
 intro pins s σ H x y u v Q I rx ry h
 obtain⟨a,b,ks,js,rfl,rfl,ne,ha,hb,la,lb,q⟩:=h
 cases (show u=Value.ref a from rx)
 cases (show v=Value.ref b from ry)
 refine b2v ne (I.isT ha) (I.isT hb) la lb fun h' rs k I' m=>?_
 exact⟨.ref s.heap.objs.size,_,I.laid (t':=s.toks) k (aB3 _) (b4i I'),rfl,q _ rs (I.hok.fresh (aB3 _)) I'.nodup m⟩
theorem a8B(hc:X.calm=true):N5 X (.builtin "sorted") (fun as H Q=>∃p ks,as=[.ref p]∧H p=some (tso X.w p ks)∧ks.length<64∧∀l ys,H l=none→ys.Perm (ks.map V.str)→P9 H ys→Q (.ref l) (upd H l (.lst ys))):=by
 intro pins s σ H as us Q I r h
 obtain⟨p,ks,rfl,hp,h64,q⟩:=h
 obtain⟨u,rfl,ru⟩:=vals1 r
 cases (show u=Value.ref p from ru)
 have J:=I.isT hp
 have srt:∀us:List Str,us.length<64→a3H H (us.map V.str):=fun us l=>⟨by rw[aA0];exact l,fun x hx=>by obtain⟨z,_,rfl⟩:=aA5.mp hx;exact⟨z,rfl⟩⟩
 refine b9d (O:=a2y) (key:=fun p=>a5S s.heap p.1) ([]:List Atom) (I.ok.hd hc) J (fun vs T=>?_) fun vs out l h' d' e T op os hl k hg=>?_
 ·obtain⟨us,tx,pu⟩:=T
  exact a8f I (srt us (by rw[pu.length_eq];exact h64)) (a5G tx)
 ·obtain⟨us,tx,pu⟩:=T
  obtain⟨ys,y1,y2⟩:=j6.perm op (a5G tx)
  have hn:H l=none:=I.hok.fresh hl
  have py:ys.Perm (ks.map V.str):=y1.trans (pu.map _)
  refine⟨.ref l,_,(I.laid (t':=s.toks) (o:=.lst ys) k hl ⟨?_,out,e,y2,hg⟩).draw d',rfl,q _ ys hn py ?_⟩
  ·rw[py.length_eq,aA0];exact aN1 J.len
  ·unfold P9
   rw[←a0f I (srt us (by rw[pu.length_eq];exact h64)) y2 fun y hy=>y1.mem_iff.mp hy,aQ0]
   exact os
end
open PySem PySem.Spec PyProof.Rows Srt
def O6(x:Str)(n:Nat):Str:=⟨(List.replicate n x.cps).foldl (·++·) #[]⟩
section
variable{X:Cx}
theorem a1B:G7 X (binaryOp .Mult) (fun x y H Q=>∃z n,x=.str z∧y=.int n∧2≤n∧n≤1000∧1≤z.length∧z.length≤1000∧(O6 z n.toNat).length≤sizeLine∧Q (.str (O6 z n.toNat)) H):=by
 intro pins s σ H x y v u Q I rx ry h
 obtain⟨z,n,rfl,rfl,h1,h2,h3,h4,h5,q⟩:=h
 obtain⟨t,rfl⟩:=rx
 obtain⟨t',rfl⟩:=ry
 have e2:(n==1||z.length==0)=false:=by
  rw[Bool.or_eq_false_iff,aG7,aG7];omega
 refine PySem.P.mul_str ?_ (fun _ _=>?_) (fun _ _=>?_) ?_
 ·rw[Bool.or_eq_false_iff,aQ2,aQ2];omega
 ·have a1:(1000:Int)≤(2 ^ 63-1)/n:=by
   rw[Int.le_ediv_iff_mul_le (by omega)];omega
  omega
 ·have b1:z.length*n.toNat≤1000*1000:=Nat.mul_le_mul h4 (by omega)
  have:=aG2
  exact aB2 (by omega)
 ·rw[aA8 (by omega),aA8 (by rw[e2];exact aC9)]
  exact⟨h5,⟨.str (O6 z n.toNat),H,I.tok _,⟨_,rfl⟩,q⟩⟩
end
section
variable{X:Cx}{own tl:List Str}{scope:Scope}{cl:List (Str×Addr)}{C:Addr}{s₀:Shared}{H₀:Hp}{ex:List Addr}
end
theorem A4{α:Type}[DecidableEq α]:∀{l m:List α},l.Nodup→(∀x∈l,x∈m)→l.length≤m.length
 | [],m,_,_=>aG3 _
 | x::l,m,n,h=>by
  have hx:=h x aB9
  have p:=List.perm_cons_erase hx
  rw[p.length_eq,aE4,aE4]
  have n':=aG4.mp n
  refine Nat.succ_le_succ (A4 n'.2 fun y hy=>?_)
  have hm:=p.mem_iff.mp (h y (aC1 _ hy))
  rcases aB7.mp hm with e | e
  ·subst e;exact absurd hy n'.1
  ·exact e
theorem a6i{α:Type}[DecidableEq α]:∀{l m:List α},l.Nodup→m.Nodup→(∀x,x∈l↔x∈m)→l.Perm m
 | [],m,_,_,h=>by
  have:m=[]:=List.eq_nil_iff_forall_not_mem.mpr fun x hx=>by have:=(h x).mpr hx;simp at this
  subst this;exact List.Perm.nil
 | x::l,m,n,k,h=>by
  have hx:=(h x).mp aB9
  have p:=List.perm_cons_erase hx
  have n':=aG4.mp n
  have k':=aG4.mp (p.nodup_iff.mp k)
  refine((a6i n'.2 k'.2 fun y=>?_).cons x).trans p.symm
  constructor
  ·intro hy
   rcases aB7.mp (p.mem_iff.mp ((h y).mp (aC1 _ hy))) with e | e
   ·subst e;exact absurd hy n'.1
   ·exact e
  ·intro hy
   rcases aB7.mp ((h y).mpr (p.mem_iff.mpr (aC1 _ hy))) with e | e
   ·subst e;exact absurd hy k'.1
   ·exact e
theorem a6f:∀{l m:List (List Atom)},l.Pairwise a2y.kle→m.Pairwise a2y.kle→l.Perm m→l=m
 | [],m,_,_,p=>(List.nil_perm.mp p).symm▸rfl
 | x::l,[],_,_,p=>by have:=p.length_eq;simp at this
 | x::l,y::m,hl,hm,p=>by
  have a:=aK2.mp hl
  have b:=aK2.mp hm
  have e:x=y:=by
   rcases aB7.mp (p.mem_iff.mp (aB9:x∈x::l)) with e | hx
   ·exact e
   ·rcases aB7.mp (p.mem_iff.mpr (aB9:y∈y::m)) with e | hy
    ·exact e.symm
    ·exact a5b (b.1 x hx) (a.1 y hy)
  subst e
  rw[a6f a.2 b.2 (List.Perm.cons_inv p)]
theorem l7{H H':Hp}{a:Addr}{o:HO}(e:f7 H H')(h:H a=none):f7 H (upd H' a o):=fun b u q=>by
 rw[c9 (g6 q h)];exact e b u q
theorem L8{ys:List V}{ks:List Str}(p:ys.Perm (ks.map V.str)):∃js:List Str,ys=js.map V.str∧js.Perm ks:=by
 let f:V→Str:=fun v=>match v with | .str x=>x | _=>Str.ofString ""
 have e:ks=(ks.map V.str).map f:=by rw[aE8];exact(aS8 _).symm
 refine⟨ys.map f,?_,?_⟩
 ·rw[aE8]
  have:∀y∈ys,(V.str∘f) y=y:=fun y hy=>by
   obtain⟨k,_,rfl⟩:=aA5.mp (p.mem_iff.mp hy);rfl
  exact(aS8 ys).symm.trans (aE5 fun y hy=>(this y hy).symm)
 ·have q:=p.map f
  rw[←e]at q
  exact q
open PySem PySem.Spec PyProof.Rows Srt TS
theorem a7X{k:Key}{v:Value}(h:a6j k v=true):RelV (kV k) v:=by
 rcases F8 h with ⟨i,t,rfl,rfl⟩ | ⟨x,t,rfl,rfl⟩
 ·exact⟨t,rfl⟩
 ·exact⟨t,rfl⟩
theorem a0p{P:Program}{w:World}:∀{kvs:List (Key×V)} {vs:List (Key×Value)} {us:List Value},KV kvs vs→us.length=vs.length →
  (∀(j:Nat) (v:Value),us[j]?=some v→∃k x,vs[j]?=some (k,x)∧(v7 P w).is k v=true)→j6 (kvs.map fun q=>kV q.1) us
 | _,_,us,.nil,hl,_=>by
  have:us=[]:=aJ0 hl
  subst this;exact .nil
 | _,_,us,.cons (a:=p) (b:=q) r t,hl,h=>by
  match us,hl,h with
  | u::us,hl,h=>
   obtain⟨k,x,e,hk⟩:=h 0 u rfl
   have e:q=(k,x):=by simpa using e
   have r1:p.1=q.1:=r.1
   refine .cons ?_ (a0p t (by simpa using hl) fun j v hv=>by simpa using h (j+1) v (by simpa using hv))
   show RelV (kV p.1) u
   rw[r1,e]
   exact a7X hk
section
variable{X:Cx}{pins:List (Addr×Obj)}{σ:St}{H:Hp}{s:Shared}
theorem a0A(hu:X.A.units+1<cLine):G7 X (compareOp .In) (fun x y H Q=>∃a o,y=.ref a∧z6 H a x o∧Q (.bl o.isSome) H):=by
 intro pins s σ H x y u v Q I rx ry h
 obtain⟨a,o,rfl,g,q⟩:=h
 cases (show v=Value.ref a from ry)
 exact b6F hu I g rx fun s' I'=>⟨.bl o.isSome,H,I',rfl,q⟩
theorem a9a(hu:X.A.units+1<cLine):G7 X (compareOp .NotIn) (fun x y H Q=>∃a o,y=.ref a∧z6 H a x o∧Q (.bl (!o.isSome)) H):=by
 intro pins s σ H x y u v Q I rx ry h
 obtain⟨a,o,rfl,g,q⟩:=h
 cases (show v=Value.ref a from ry)
 exact b3w hu I g rx fun s' I'=>⟨.bl (!o.isSome),H,I',rfl,q⟩
theorem a8h{h:Heap}{P:Program}{w:World}{a:Addr}{vs:List (Key×Value)}(d:h.DictOf (v7 P w) a vs):∃ep,h.DictAt (v7 P w) a vs ep:=by
 obtain⟨o,es,ep,r⟩:=d
 obtain⟨h1,h2,h3,h4⟩:=r
 exact⟨ep,o,es,h1,h2,h3,h4⟩
theorem a2i(hc:X.calm=true):N5 X (.type "list") (fun as H Q=>∃p kvs,as=[.ref p]∧Rd H p (.dK kvs)∧∀l,H l=none→Q (.ref l) (upd H l (.lst (kvs.map fun q=>kV q.1)))):=by
 intro pins s σ H as us Q I r h
 obtain⟨p,kvs,rfl,hq,q⟩:=h
 obtain⟨u,rfl,ru⟩:=vals1 r
 cases (show u=Value.ref p from ru)
 obtain⟨z,hd,vs,rel,dd⟩:=Y7 I.hok hq
 obtain⟨ep,da⟩:=a8h dd
 have lv:vs.length=kvs.length:=by have:=congrArg List.length rel.keys;simpa using this.symm
 refine PySem.W.kdl_call (PySem.W.kdl_dict (knd:=v7 X.prog X.w) (kvs:=vs) (ep:=ep) hd) (I.ok.hd hc) da (by rw[lv];exact z) fun h' tk acc c k hg hi=>?_
 have va:j6 (kvs.map fun q=>kV q.1) acc.toList:=a0p (P:=X.prog) (w:=X.w) rel (by rw[aF3];exact hi.1) fun j v e=>hi.2 j v (by rw[←aM0];exact e)
 refine⟨.ref s.heap.objs.size,_,I.laid (t':=tk) (o:=.lst (kvs.map fun q=>kV q.1)) k (aB3 _) ⟨by rw[aA0];exact z,acc.toList,c,va,by simpa using hg⟩,rfl,q _ (I.hok.fresh (aB3 _))⟩
end
end L2
namespace TS
open PySem PySem.Spec PyProof.Rows Srt
section
variable{prog:Program}{w:World}{A:Around}{E:Value→Shared→Prop}{s:Shared}{T:String}{r d:Addr}{n:Nat}{P:Nat→Value→Prop}{OK:Heap→Prop}
theorem a5W{Q:List Value→Shared→Prop}(K:PySem.W.KdlSrc prog w T r d n P OK)(hh:A.handled=none)(hok:OK s.heap)(hn:n≤sizeLine)
  (h:∀(vs:List Value) (h':Heap) (tk:Nat),s.heap.objs.size<h'.objs.size→(∀b o,s.heap.get? b=some o→h'.get? b=some o)→vs.length=n→(∀(j:Nat) (v:Value),vs[j]?=some v→P j v)→Q vs { s with heap:=h',toks:=tk }) :
  wpAny (model prog w) A (collect (.ref r)) Q E s:=by
 have lt:=K.there _ hok
 unfold collect
 refine aA1 (wpAny_runValue (aH2 PySem.F.entry_proto_collect ?_))
 rw[aG1 PySem.F.plain_proto_collect _]
 show wpAny _ A.in1 (newList [] >>= fun l=>again (.builtin "list.__iadd__" ⟨[l,.ref r],[]⟩)) _ _ s
 refine aA1 (aG9 ?_)
 refine aA6 ⟨aJ8 aO9 _,aH2 PySem.F.entry_list_iadd ?_⟩
 rw[aG1 aO9 _]
 show wpAny _ A.in1 (Builtin.List.listExtendWith (.ref s.heap.objs.size) (.ref r) (.ref s.heap.objs.size)) _ _ _
 refine PySem.W.kdl_extend (A:=A) (R:=fun r s'=>match r with
  | .ok (.ret v)=>wpAny (model prog w) A (match v with
   | .ref a=>do
    match (←load a).data with
    | .seq xs _=>pure xs.toList
    | _=>unsupported "internal:collect"
   | _=>unsupported "internal:collect") Q E s'
  | .ok _=>False
  | .error e=>E e s') (s:={ s with heap:=s.heap.push { cls:=.type "list",data:=.seq ([]:List Value).toArray } }) K (by simpa using hh) (K.keep _ _ hok fun b _ o e=>aA7 _ e) s.heap.objs.size (aK1 lt.1) (aK1 lt.2) (.ref s.heap.objs.size) 0 (aC5 _ rfl) (fun h' tk acc c k hg hi=>?_) hn
 show wpAny _ A (load s.heap.objs.size >>= _) _ _ _
 refine aA1 (wpAny_load hg ?_)
 refine aA6 (h acc.toList h' tk (aC2 hg) (fun b o e=>k b o (aD6 (aC2 e)) (aA7 _ e)) (by rw[aF3];exact hi.1) fun j v e=>hi.2 j v (by rw[←aM0];exact e))
theorem b0b{O:KeyOrd}{key:Keyed→O.α}(dd:O.α){Q:Value→Shared→Prop}(K:PySem.W.KdlSrc prog w T r d n P OK)(hh:A.handled=none)(hok:OK s.heap)(hn:n≤sizeLine)
  (S:∀vs:List Value,vs.length=n→(∀(j:Nat) (v:Value),vs[j]?=some v→P j v)→Sortable prog w s.heap vs O key)
  (h:∀(vs out:List Value) (l:Addr) (h':Heap) (tk e:Nat),vs.length=n→(∀(j:Nat) (v:Value),vs[j]?=some v→P j v)→out.Perm vs→out.Pairwise (fun x y=>O.kle (key (x,x)) (key (y,y)))→s.heap.objs.size≤l→(∀b o,s.heap.get? b=some o→h'.get? b=some o) →
   h'.get? l=some (seqObj "list" out.toArray e)→Q (.ref l) { s with heap:=h',toks:=tk }) :
  wpAny (model prog w) A (call (.builtin "sorted") [.ref r]) Q E s:=by
 refine Calls.call_function_entry kind_sorted plain_sorted entry_sorted (args_sorted1 _) ?_
 unfold Builtin.«sorted»
 refine aA1 (m:=checkCount "sorted" 1 1 _) (aA6 ?_)
 refine aA1 (a5W K (by simpa using hh) hok hn fun vs h1 tk l1 k1 lv pv=>?_)
 have zv:vs.length≤sizeLine:=by rw[lv];exact hn
 refine aA1 (wpAny_newList ?_ zv)
 have oL:(h1.push (seqObj "list" vs.toArray 0)).get? h1.objs.size=some (seqObj "list" vs.toArray 0):=aC5 _ rfl
 have keep:∀b o,s.heap.get? b=some o→b≠h1.objs.size∧(h1.push (seqObj "list" vs.toArray 0)).get? b=some o:=fun b o e=>
  ⟨aD6 (aC2 (k1 b o e)),aA7 _ (k1 b o e)⟩
 refine aA1 (aI9 (aI2 slot_list_sort (s:={ s with heap:=h1.push (seqObj "list" vs.toArray 0),toks:=tk }) ⟨_,oL,rfl⟩ entry_list_sort (sort_any dd oL zv (S vs lv pv) keep fun out a1 a2=>⟨_,rfl,?_⟩) (args_list_sort _)))
 obtain⟨e,he⟩:=sortedHeap_at (out:=out.toArray) oL
 refine aA6 ⟨_,rfl,h vs out _ _ tk e lv pv a1 a2 (aK8 l1) (fun b o q=>?_) he⟩
 rw[sortedHeap_old (keep b o q).1 (aC2 (keep b o q).2)]
 exact(keep b o q).2
end
end TS
namespace L2
open PySem PySem.Spec PyProof.Rows Srt TS
section
variable{X:Cx}
theorem V6(hc:X.calm=true):N5 X (.builtin "sorted") (fun as H Q=>∃p kvs,as=[.ref p]∧Rd H p (.dK kvs)∧a3H H (kvs.map fun q=>kV q.1) ∧
  ∀l ys,H l=none→ys.Perm (kvs.map fun q=>kV q.1)→P9 H ys→Q (.ref l) (upd H l (.lst ys))):=by
 intro pins s σ H as us Q I r h
 obtain⟨p,kvs,rfl,hq,sb,q⟩:=h
 obtain⟨u,rfl,ru⟩:=vals1 r
 cases (show u=Value.ref p from ru)
 obtain⟨z,hd,vs,rel,dd⟩:=Y7 I.hok hq
 obtain⟨ep,da⟩:=a8h dd
 have lv:vs.length=kvs.length:=by have:=congrArg List.length rel.keys;simpa using this.symm
 have vls:∀us:List Value,us.length=vs.length→(∀(j:Nat) (v:Value),us[j]?=some v→∃k x,vs[j]?=some (k,x)∧(v7 X.prog X.w).is k v=true)→j6 (kvs.map fun q=>kV q.1) us:=fun us a b=>a0p rel a b
 refine b0b (O:=a2y) (key:=fun p=>a5S s.heap p.1) ([]:List Atom) (PySem.W.kdl_dict (knd:=v7 X.prog X.w) (kvs:=vs) (ep:=ep) hd) (I.ok.hd hc) da (by rw[lv];exact z)
  (fun us a b=>a8f I sb (vls us a b)) fun us out l h' tk e a b op os hl k hg=>?_
 obtain⟨ys,y1,y2⟩:=j6.perm op (vls us a b)
 have hn:H l=none:=I.hok.fresh hl
 refine⟨.ref l,_,I.laid (t':=tk) (o:=.lst ys) k hl ⟨?_,out,e,y2,hg⟩,rfl,q _ ys hn y1 ?_⟩
 ·rw[y1.length_eq,aA0];exact z
 ·unfold P9
  rw[←a0f I sb y2 fun y hy=>y1.mem_iff.mp hy,aQ0]
  exact os
end
open PySem PySem.Spec PyProof.Rows Srt TS
theorem b9o(z:Str):O6 z 1=z:=by unfold O6;simp
theorem a8c:∀{ns:List Int} {us:List Value},j6 (ns.map V.int) us→∀(i:Nat) (v:Value),us[i]?=some v→∃t,v=.int (ns.getD i 0) t
 | [],_,.nil,i,v,h=>by simp at h
 | n::ns,_,.cons ⟨t,e⟩ r,0,v,h=>by simp at h;exact⟨t,by rw[←h];exact e⟩
 | n::ns,_,.cons _ r,i+1,v,h=>by
  obtain⟨t,e⟩:=a8c r i v (by simpa using h)
  exact⟨t,by rw[e];rfl⟩
def a0H(ns:List Int):Int:=preSum (fun j=>ns.getD j 0) ns.length
section
variable{X:Cx}
theorem a3U(hc:X.calm=true):N5 X (.builtin "sum") (fun as H Q=>∃p ns,as=[.ref p]∧d8 X.K H p (ns.map V.int)∧Q (.int (a0H ns)) H):=by
 intro pins s σ H as us Q I r h
 obtain⟨p,ns,rfl,hq,q⟩:=h
 obtain⟨u,rfl,ru⟩:=vals1 r
 cases (show u=Value.ref p from ru)
 obtain⟨its,rv,pl,hz⟩:=I.list hq
 have ln:its.length=ns.length:=by rw[←rv.length,aA0]
 have lt:p<s.heap.objs.size:=let ⟨_,e,_⟩:=pl.isList;aC2 e
 refine call_sum_walkAnyS (aQ9 pl.isList ?_)
 refine⟨s.heap.objs.size,_,_,_,_,_,_,fun j=>ns.getD j 0,rfl,(Walks.list (A:=X.A.in1) (by simpa using I.ok.hd hc) s.heap.objs.size p (aD6 lt) its.toArray).toS,⟨⟨_,aC5 _ rfl,rfl,rfl⟩,pl.isList.push _⟩,fun b hb=>?_,fun i v hv=>a8c rv i v (by simpa using hv),fun s' t' m=>?_⟩
 ·have z:(s.heap.push { cls:=.type "list_iterator",data:=.fields #[.ref p,.int 0 0] }).objs.size=s.heap.objs.size+1:=aJ9 ..
  simp only[aB7,aF7,aL4]at hb
  show b<(s.heap.push { cls:=.type "list_iterator",data:=.fields #[.ref p,.int 0 0] }).objs.size
  rw[z]
  rcases hb with rfl | rfl
  ·exact aM9 _
  ·exact aM3 lt
 ·have k:∀b o,s.heap.get? b=some o→s'.heap.get? b=some o:=fun b o e=>m.heap b o (fun z=>by
   have:=aC2 e
   rw[aA3.mp z]at this
   exact aJ1 _ this) (aA7 _ e)
  obtain⟨h',g',d',tk',os'⟩:=s'
  have e1:g'=s.gens:=m.gens
  have e2:d'=s.drawn:=m.drawn
  have e3:os'=s.os:=m.os
  subst e1;subst e2;subst e3
  refine⟨.int (a0H ns),H,I.kept (t':=tk') k,⟨t',?_⟩,q⟩
  unfold a0H
  rw[←ln,aD1]
theorem a7u:G7 X (binaryOp .Mult) (fun x y H Q=>∃z n,x=.str z∧y=.int n∧-1000≤n∧n≤1000∧1≤z.length∧z.length≤1000∧(O6 z n.toNat).length≤sizeLine∧Q (.str (O6 z n.toNat)) H):=by
 intro pins s σ H x y v u Q I rx ry h
 obtain⟨z,n,rfl,rfl,h1,h2,h3,h4,h5,q⟩:=h
 by_cases c:2≤n
 ·exact a1B pins s σ H _ _ v u Q I rx ry ⟨z,n,rfl,rfl,c,h2,h3,h4,h5,q⟩
 obtain⟨t,rfl⟩:=rx
 obtain⟨t',rfl⟩:=ry
 by_cases c0:n<1
 ·refine PySem.P.mul_str_none c0 (by omega) ⟨.str (O6 z n.toNat),H,I.tok _,?_,q⟩
  rw[show n.toNat=0 by omega]
  exact⟨_,rfl⟩
 ·have e1:n=1:=by omega
  subst e1
  refine PySem.P.mul_str (by decide) (fun _ w=>by simp at w) (fun _ w=>by simp at w) ?_
  rw[aA8 (by decide),aB4 (by simp)]
  refine⟨.str z,H,I,⟨t,rfl⟩,?_⟩
  have e:O6 z (1:Int).toNat=z:=b9o z
  rw[e]at q
  exact q
end
open PySem PySem.Spec PyProof.Rows Srt TS
theorem a9J{α β:Type}(f:α→β):∀(l:List α) (j:Nat),(l.map f).eraseIdx j=(l.eraseIdx j).map f
 | [],_=>rfl
 | a::l,0=>rfl
 | a::l,j+1=>by
  rw[aC3,aL0,aL0,aC3,a9J f l j]
section
variable{X:Cx}
theorem b9w:G7 X (binaryOp .Mult) (rI IntMulOk fun i j=>.int (i*j)):=opI fun _ _ _ _ _ _ _ hc q=>mul_int q hc
def b9u:V→List V→Hp→VK→Prop:=fun x vs H Q=>∃(l:Addr) (ns:List Int) (n:Int) (j:Nat),x=.ref l∧vs=[.int n]∧H l=some (.lst (ns.map V.int))∧ns[j]?=some n∧(∀i,i<j→ns[i]?≠some n)∧Q .non (upd H l (.lst ((ns.eraseIdx j).map V.int)))
theorem a5I:MtM X "list.remove" b9u:=by
 intro pins s σ H x vs v us Q I rx rv h
 obtain⟨l,ns,n,j,rfl,rfl,hH,hj,hf,q⟩:=h
 cases rx
 obtain⟨u,rfl,⟨t,rfl⟩⟩:=vals1 rv
 obtain⟨z,its,c,r,hl,e⟩:=I.lstM hH
 have lj:j<ns.length:=(aA2.mp hj).1
 have li:its.length=ns.length:=by rw[←hl,aA0]
 have at':∀i,i<its.length→∃t,its[i]?=some (.int (ns.getD i 0) t):=fun i hi=>by
  obtain⟨t,e⟩:=a8c r i its[i] (List.getElem?_eq_getElem hi)
  exact⟨t,by rw[List.getElem?_eq_getElem hi,e]⟩
 let ev:Value→Bool:=fun y=>match y with | .int i _=>i==n | _=>false
 have ej:∀i,(hi:i<its.toArray.size)→ev its.toArray[i]=(ns.getD i 0==n):=fun i hi=>by
  have hi':i<its.length:=by simpa using hi
  obtain⟨t,e⟩:=at' i hi'
  rw[List.getElem?_eq_getElem hi']at e
  have e:its[i]=Value.int (ns.getD i 0) t:=aC0 e
  show ev its.toArray[i]=_
  rw[aO3,e]
 have lj':j<its.toArray.size:=by rw[aD1,li];exact lj
 refine aR0 aR2 ⟨_,e,rfl⟩ F.entry_list_remove (F.args_list_remove_2 _ _) (MeetsSeq.list_remove l its.toArray c (.int n t) ev (fun y hy=>?_) j lj' ?_ (fun m hm lt=>?_) (by rw[aD1,li];rw[aA0]at z;exact z)) ⟨e,?_⟩
 ·obtain⟨i,hi,rfl⟩:=Array.mem_iff_getElem.mp hy
  have hi':i<its.length:=by simpa using hi
  obtain⟨t',e'⟩:=at' i hi'
  rw[List.getElem?_eq_getElem hi']at e'
  have e':its[i]=Value.int (ns.getD i 0) t':=aC0 e'
  rw[ej i hi,aO3,e']
  exact MeetsSeq.EqGives.int _ _ _ _
 ·rw[ej j lj',aF1,hj];simp
 ·have hm':m<ns.length:=by rw[←li];simpa using hm
  rw[ej m hm,aF1,List.getElem?_eq_getElem hm',Option.getD_some,aG7]
  intro w
  exact hf m lt (by rw[List.getElem?_eq_getElem hm',w])
 ·have re:j6 ((ns.eraseIdx j).map V.int) (its.eraseIdx j):=by
   have:=r.eraseIdx j
   rwa [a9J] at this
  refine⟨.non,_,I.lset (its':=its.eraseIdx j) hH e ?_ re ?_,rfl,q⟩
  ·show its.toArray.eraseIdxIfInBounds j=(its.eraseIdx j).toArray
   rw[List.eraseIdxIfInBounds_toArray]
  ·have:=List.length_eraseIdx_le ns j
   rw[aA0]at z ⊢
   omega
end
open PySem PySem.Spec PyProof.Rows Srt TS
section
variable{X:Cx}{pins:List (Addr×Obj)}{σ:St}{H:Hp}{s:Shared}{h':Heap}
end
theorem b7b:∀{kvs:List (Key×V)} {vs:List (Key×Value)} {j:Nat} {k:Key} {u:Value},KV kvs vs→vs[j]?=some (k,u)→∃x,kvs[j]?=some (k,x)∧RelV x u
 | _,_,j,k,u,.nil,e=>by simp at e
 | _,_,0,k,u,.cons (a:=p) r t,e=>by
  have e:_=(k,u):=aC0 e
  refine⟨p.2,?_,?_⟩
  ·have:p.1=k:=r.1.trans (congrArg Prod.fst e)
   rw[←this];rfl
  ·have:=r.2
   rw[e]at this
   exact this
 | _,_,j+1,k,u,.cons r t,e=>by
  obtain⟨x,e1,r1⟩:=b7b t (by simpa using e)
  exact⟨x,by simpa using e1,r1⟩
theorem a7h{kvs:List (Key×V)}{vs:List (Key×Value)}(r:KV kvs vs):vs.length=kvs.length:=(aS0 r).symm
section
variable{X:Cx}
end
end L2
namespace TS
open PySem PySem.Spec PyProof.Rows Srt
theorem b8i:typeLookup (.type "list_reverseiterator") "__len__"=pure none:=by rw[typeLookup_type,aT5];kernel_rfl
theorem b3i:typeLookup (.type "list_reverseiterator") "__length_hint__"=pure (some (.builtin "list_reverseiterator.__length_hint__")):=by rw[typeLookup_type,aT5];kernel_rfl
section
variable{prog:Program}{w:World}{A:Around}{E:Value→Shared→Prop}{s:Shared}{it l:Addr}{items:Array Value}
theorem b3t{Q:Bool→Shared→Prop}(hT:s.TypeIs (.ref it) "list_reverseiterator")(h:Q false s):wpAny (model prog w) A (Builtin.List.listLengthHint (.ref it)) Q E s:=by
 unfold Builtin.List.listLengthHint
 refine aA1 (aT3 hT b8i ?_)
 show wpAny _ A (specialOf (Value.ref it) (Str.ofString "__length_hint__") >>= _) _ _ _
 refine aA1 (aT3 hT b3i ?_)
 generalize hid:("list_reverseiterator.__length_hint__":String)=id0
 wp_delta
 rw[show splitId id0=some ("list_reverseiterator","__length_hint__") from by subst hid;decide +kernel]
 subst hid
 refine aA1 (aP2 (T:="list_reverseiterator") (b:=true) hT (by rw[isSubtype_type];kernel_rfl) ?_)
 exact aA6 h
abbrev Rvs(items:Array Value)(i:Nat)(v:Value):Prop:=items[items.size-1-i]?=some v
theorem b2d{R:Result→Shared→Prop}(hh:A.handled=none)(hit:s.heap.IsRevIter it l ((items.size:Int)-1))(hl:s.heap.IsList l items)(hne:l≠it)(S:Addr)(nSi:S≠it)(nSl:S≠l)(res:Value)(c₀:Nat)(hS:s.heap.get? S=some { cls:=.type "list",data:=.seq #[] c₀ })
  (hR:∀h' tk acc' c',(∀b o,b≠S→b≠it→s.heap.get? b=some o→h'.get? b=some o)→h'.get? S=some { cls:=.type "list",dict:=none,data:=.seq acc' c',slots:=#[] }→ItemsOf (Rvs items) acc' items.size→R (.ok (.ret res)) { s with heap:=h',toks:=tk }) (hn:items.size≤sizeLine) :
  wpAny (model prog w) A.in1 (Builtin.List.listExtendWith (.ref S) (.ref it) res)
   (fun fin s'=>match fin with | .done f=>R (.ok f) s' | .again c'=>c'.quiet=true∧codeAny (model prog w) A c' R s') (fun e s'=>R (.error e) s') s:=by
 have hSf:S∉[it,l]:=by simp only[aB7,aF7,aL4,not_or];exact⟨nSi,nSl⟩
 have W:=Walks.listRev (prog:=prog) (w:=w) (A:=A.in1) hh it l hne items
 have hit0:s.heap.IsRevIter it l ((items.size:Int)-1-((0:Nat):Int)):=by simpa using hit
 unfold Builtin.List.listExtendWith
 refine aA1 (wpAny_typeOf (T:="list_reverseiterator") hit.typeIs ?_)
 have h1:Builtin.List.listSameRef (.ref S) (.ref it)=false:=by simp[Builtin.List.listSameRef,nSi]
 have h2:(Value.type "list_reverseiterator"==Value.type "list")=false:=by decide
 have h3:(Value.type "list_reverseiterator"==Value.type "tuple")=false:=by decide
 simp only[h1,h2,h3,Bool.or_false,aI8,aO4]
 refine aA1 (wpAny_pyIter_revIter hit ?_)
 refine aA1 (aI9 (b3t hit.typeIs ?_))
 refine wpAny_ite_split (fun hab=>absurd hab (by decide)) (fun _=>?_)
 refine aA6 ⟨aJ8 aN2 _,codeAny_extend_loopS W.toS hn S hSf res items.size 0 _ #[] c₀ rfl (aG3 _) ⟨aG3 _,hit0,hl⟩ hS (ItemsOf.nil _) fun s' acc' c' hm hS' hacc=>?_⟩
 rw[Moved.eq_with hm]
 refine hR s'.heap s'.toks acc' c' (fun b o hb hb2 e=>hm.heap b o (fun hmem=>?_) e) hS' hacc
 rcases aB7.mp hmem with e' | hmem
 ·exact hb e'
 ·exact hb2 (aA3.mp hmem)
theorem b2o{R:Result→Shared→Prop}(hh:A.handled=none)(hit:s.heap.IsRevIter it l ((items.size:Int)-1))(hl:s.heap.IsList l items)(hne:l≠it)(S:Addr)(nSi:S≠it)(nSl:S≠l)(hS:s.heap.get? S=some { cls:=.type "list",data:=.seq #[] })
  (hR:∀h' tk acc' c',(∀b o,b≠S→b≠it→s.heap.get? b=some o→h'.get? b=some o)→h'.get? S=some { cls:=.type "list",dict:=none,data:=.seq acc' c',slots:=#[] }→ItemsOf (Rvs items) acc' items.size→R (.ok (.ret .none)) { s with heap:=h',toks:=tk }) (hn:items.size≤sizeLine) :
  wpAny (model prog w) A.in1 (Builtin.«list.__init__» ⟨[.ref S,.ref it],[]⟩)
   (fun fin s'=>match fin with | .done f=>R (.ok f) s' | .again c'=>c'.quiet=true∧codeAny (model prog w) A c' R s') (fun e s'=>R (.error e) s') s:=by
 show wpAny _ _ (do let old ←Builtin.List.listItems (.ref S);Builtin.List.listUpdate (.ref S) (fun _=>#[]);letGo old.toList.reverse;Builtin.List.listExtendWith (.ref S) (.ref it) .none) _ _ s
 refine aA1 ?_
 unfold Builtin.List.listItems
 refine aA1 (aO7 hS rfl (aA6 ?_))
 show wpAny _ _ (updateSeq S (fun _=>#[]) >>= fun _=>letGo (#[]:Array Value).toList.reverse >>= fun _=>Builtin.List.listExtendWith (.ref S) (.ref it) .none) _ _ s
 refine aA1 (aP8 hS rfl ?_)
 have S2:=aG8 (Obj.mapSeq (fun _=>(#[]:Array Value))) hS rfl
 have keeps:∀b o,b≠S→s.heap.get? b=some o→(s.heap.update S (Obj.mapSeq (fun _=>(#[]:Array Value)))).get? b=some o:=
  fun b o hb e=>(aF8 _ _ (Ne.symm hb)).trans e
 refine aA1 (wpAny_letGo ?_)
 refine b2d hh (hit.at fun o e=>keeps _ o (Ne.symm nSi) e) (hl.at fun o e=>keeps _ o (Ne.symm nSl) e) hne S nSi nSl .none _ S2 (fun h' tk acc' c' hk hS' hacc=>?_) hn
 exact hR h' tk acc' c' (fun b o hb hb2 e=>hk b o hb hb2 (keeps b o hb e)) hS' hacc
theorem b2n{Q:Value→Shared→Prop}(hh:A.handled=none)(hit:s.heap.IsRevIter it l ((items.size:Int)-1))(hl:s.heap.IsList l items)(hne:l≠it)(hn:items.size≤sizeLine)
  (hQ:∀h' tk acc' c',(∀b o,b≠it→s.heap.get? b=some o→h'.get? b=some o)→h'.get? s.heap.objs.size=some { cls:=.type "list",dict:=none,data:=.seq acc' c',slots:=#[] }→ItemsOf (Rvs items) acc' items.size→Q (.ref s.heap.objs.size) { s with heap:=h',toks:=tk }) :
  wpAny (model prog w) A (call (.type "list") [.ref it]) Q E s:=by
 have l1:it<s.heap.objs.size:=let ⟨o,ho,_⟩:=hit;aC2 ho
 have l2:l<s.heap.objs.size:=let ⟨o,ho,_⟩:=hl;aC2 ho
 refine callType_codes (Q₁:=fun obj s₁=>obj=.ref s.heap.objs.size∧s₁={ s with heap:=s.heap.push { cls:=.type "list",data:=.seq #[] } }) PySem.F.called_list (PySem.F.typeCall_list_1 _) PySem.F.entry_list_init
  (code_list_new _ ⟨rfl,rfl⟩) fun obj s₁ h₁=>?_
 obtain⟨rfl,rfl⟩:=h₁
 have hS:(s.heap.push { cls:=.type "list",data:=.seq #[] }).get? s.heap.objs.size=some { cls:=.type "list",data:=.seq #[] }:=aC5 _ rfl
 refine⟨⟨_,hS,rfl⟩,PySem.F.args_list_init_2 _ _,b2o (A:=A.in1) hh (hit.at fun o e=>aA7 _ e) (hl.at fun o e=>aA7 _ e) hne _ (aK1 l1) (aK1 l2) hS (fun h' tk acc' c' hk hS' hacc=>?_) hn⟩
 exact⟨rfl,hQ h' tk acc' c' (fun b o hb e=>hk b o (aD6 (aC2 e)) hb (aA7 _ e)) hS' hacc⟩
end
end TS
namespace L2
open PySem PySem.Spec PyProof.Rows Srt TS
theorem b3m{xs:List V}{us:List Value}(r:j6 xs us):j6 xs.reverse us.reverse:=by
 induction r with
 | nil=>exact .nil
 | cons h _ ih=>rw[aP9,aP9];exact j6.append ih (.cons h .nil)
theorem b4k{us:List Value}{acc:Array Value}(h:ItemsOf (Rvs us.toArray) acc us.toArray.size):acc.toList=us.reverse:=by
 refine List.ext_getElem? fun i=>?_
 have lz:acc.size=us.length:=by have:=h.1;simpa using this
 by_cases hi:i<us.length
 ·have hi':i<acc.size:=by omega
  have e:=h.2 i acc[i] (Array.getElem?_eq_getElem hi')
  unfold Rvs at e
  rw[List.getElem?_toArray,aD1]at e
  rw[aM0,Array.getElem?_eq_getElem hi',List.getElem?_reverse hi,e]
 ·rw[aL9 (by rw[aF3];omega),aL9 (by rw[aN3];omega)]
def tLR(K:PySem.W.Frag)(te:TE):TE:=fun σ H Q=>te σ H fun x H1=>∃p xs,x=.ref p∧d8 K H1 p xs∧∀l,H1 l=none→Q (.ref l) (upd H1 l (.lst xs.reverse))
section
variable{X:Cx}{e:Expr}{te:TE}{p p2 pos pos2:Pos}
theorem b3b(hc:X.calm=true)(hg:Gl X "list")(hm:X.mg "list"=none)(hg2:Gl X "reversed")(hm2:X.mg "reversed"=none)(ha:PE X e te)
  (s1:starEach [Expr.Call (.Name "reversed" p2) [e] [] pos2] X.env=[(false,eval (Expr.Call (.Name "reversed" p2) [e] [] pos2) X.env)]:=by rfl) (s2:starEach [e] X.env=[(false,eval e X.env)]:=by rfl) :
  PE X (.Call (.Name "list" p) [.Call (.Name "reversed" p2) [e] [] pos2] [] pos) (tLR X.K te):=by
 intro pins s σ H Q I h
 refine aJ2 (a4e I hg hm aM8 ?_ (by decide) (by decide))
 refine aL7 ?_ s1 rfl
 rw[s1]
 show wpAny _ _ (spliced ((false,eval _ X.env)::backTo pos [])) _ _ s
 refine aI0 ?_
 refine aJ2 (a4e I hg2 hm2 boot_reversed ?_ (by decide) (by decide))
 refine aL7 ?_ s2 rfl
 rw[s2]
 show wpAny _ _ (spliced ((false,eval _ X.env)::backTo pos2 [])) _ _ s
 refine aI0 (n5 (ha pins s σ H _ I h) fun u s1 ⟨x,H1,I1,r1,q1⟩=>aL2 ?_)
 obtain⟨p,xs,rfl,hq,q⟩:=q1
 cases (show u=Value.ref p from r1)
 obtain⟨its,rv,pl,hz⟩:=I1.list hq
 have lt:p<s1.heap.objs.size:=let ⟨_,e,_⟩:=pl.isList;aC2 e
 refine call_reversed_list pl.isList ?_
 refine aL2 ?_
 have pl2:(s1.heap.push (revObj p ((its.toArray.size:Int)-1))).IsList p its.toArray:=pl.isList.push _
 refine b2n (s:={ s1 with heap:=s1.heap.push (revObj p ((its.toArray.size:Int)-1)) }) (I.ok.hd hc) ⟨_,aC5 _ rfl,rfl,rfl⟩ pl2 (aD6 lt) (by rw[aD1,←rv.length];exact hz) fun h' tk acc c k hg hi=>?_
 have sz:(s1.heap.push (revObj p ((its.toArray.size:Int)-1))).objs.size=s1.heap.objs.size+1:=aJ9 ..
 refine⟨.ref (s1.heap.push (revObj p ((its.toArray.size:Int)-1))).objs.size,_,I1.laid (t':=tk) (o:=.lst xs.reverse) (fun b o e=>k b o (aD6 (aC2 e)) (aA7 _ e)) (by rw[sz];omega) ⟨by rw[aN3];exact hz,its.reverse,c,b3m rv,?_⟩,rfl,q _ (I1.hok.fresh (by rw[sz];omega))⟩
 rw[←b4k hi]
 simpa using hg
end
open PySem PySem.Spec PyProof.Rows Srt TS
def b5z(td ty tx:TE):TE:=fun σ H Q=>td σ H fun x H1=>∃a,x=.ref a∧IsD H1 a∧ty σ H1 fun y H2=>tx σ H2 fun z H3=>∃kvs k,H3 a=some (.dK kvs)∧y=kV k∧kvs.length<sizeLine ∧
 (∀v,C1 kvs k=some v→Q v H3)∧(C1 kvs k=none→Q z (upd H3 a (.dK (putK kvs k z))))
section
variable{X:Cx}{o e f:Expr}{apos cpos:Pos}{td ty tx:TE}
theorem b9m(hu:X.A.units+1<cLine)(ho:PE X o td)(he:PE X e ty)(hf:PE X f tx)(m:M2 X o "setdefault" apos e f cpos):PE X (.Call (.Attribute o "setdefault" apos) [e,f] [] cpos) (b5z td ty tx):=by
 intro pins s σ H Q I h
 refine wpAny_Call_method m.base m.few m.line aK9 PySem.F.slot_dict_setdefault PySem.F.type_dict_setdefault (n5 (ho pins s σ H _ I h) fun u s1 ⟨x,H1,I1,rx,a,ex,d,q1⟩=>?_)
 subst ex
 obtain rfl:u=Value.ref a:=rx
 obtain⟨t1,t2,_⟩:=a3p I1 d
 refine⟨t1,t2,?_⟩
 rw[m.trees]
 refine aI4 rfl (aP4 (aI0 (n5 (he pins s1 σ H1 _ I1 q1) fun iv s2 ⟨y,H2,I2,ry,q2⟩=>
  aI0 (n5 (hf pins s2 σ H2 _ I2 q2) fun fv s3 ⟨z,H3,I3,rz,kvs,k,ea,ey,lz,q3,q4⟩=>aL2 ?_))))
 subst ey
 obtain⟨zz,hd,vs,rel,dd⟩:=a5r I3.hok ea
 refine aO8 PySem.F.slot_dict_setdefault dd.typeIs PySem.F.entry_dict_setdefault (PySem.F.args_dict_setdefault_3 _ _ _) (kt_meets_setdefault (v7 X.prog X.w) a (a8b ry) hd fv) ⟨vs,dd,by rw[←rel.length];exact zz,fun v hv=>?_,fun hn h' dd' hs=>?_⟩
 ·have rv:=rel.val k
  rw[hv]at rv
  cases hk:C1 kvs k with
  | none=>rw[hk]at rv;exact rv.elim
  | some w=>
   rw[hk]at rv
   exact⟨w,H3,I3.tok _,rv,q3 w hk⟩
 ·have rv:=rel.val k
  rw[hn]at rv
  have hk:C1 kvs k=none:=by
   cases hk:C1 kvs k with
   | none=>rfl
   | some w=>rw[hk]at rv;exact rv.elim
  have hl:(putK kvs k z).length≤sizeLine:=by have:=a2g kvs k z;omega
  have he':∃q,h'.get? a=some q:=let ⟨q,_,_,hq,_⟩:=dd';⟨q,hq⟩
  exact⟨z,_,a3h I3 (by rw[ea];exact True.intro) hs he' (a0B hl hd (rel.put k rz) dd'),rz,q4 hk⟩
end
section
variable{X:Cx}
def b2z(K:PySem.W.Frag):V→List V→Hp→VK→Prop:=fun x vs H Q=>∃(l:Addr) (ns:List Int) (n:Int) (j:Nat),x=.ref l∧vs=[.int n]∧H l=some (.lst (ns.map V.int))∧ns[j]?=some n∧(∀i,i<j→ns[i]?≠some n)∧Q (.int (j:Int)) H
theorem b5p:MtM X "list.index" (b2z X.K):=by
 intro pins s σ H x vs v us Q I rx rv h
 obtain⟨l,ns,n,j,rfl,rfl,hH,hj,hf,q⟩:=h
 cases rx
 obtain⟨u,rfl,⟨t,rfl⟩⟩:=vals1 rv
 obtain⟨z,its,c,r,hl,e⟩:=I.lstM hH
 have lj:j<ns.length:=(aA2.mp hj).1
 have li:its.length=ns.length:=by rw[←hl,aA0]
 have at':∀i,i<its.length→∃t,its[i]?=some (.int (ns.getD i 0) t):=fun i hi=>by
  obtain⟨t,e⟩:=a8c r i its[i] (List.getElem?_eq_getElem hi)
  exact⟨t,by rw[List.getElem?_eq_getElem hi,e]⟩
 let ev:Value→Bool:=fun y=>match y with | .int i _=>i==n | _=>false
 have ej:∀i,(hi:i<its.toArray.size)→ev its.toArray[i]=(ns.getD i 0==n):=fun i hi=>by
  have hi':i<its.length:=by simpa using hi
  obtain⟨t,e⟩:=at' i hi'
  rw[List.getElem?_eq_getElem hi']at e
  have e:its[i]=Value.int (ns.getD i 0) t:=aC0 e
  show ev its.toArray[i]=_
  rw[aO3,e]
 have lj':j<its.toArray.size:=by rw[aD1,li];exact lj
 have small:(j:Int)<2 ^ 63-1:=by
  rw[aA0]at z
  rw[aG2]at z
  omega
 refine aR0 F.slot_list_index ⟨_,e,rfl⟩ F.entry_list_index (F.args_list_index_2 _ _) (MeetsSeq.list_index l its.toArray c (.int n t) ev (fun y hy=>?_) j lj' small ?_ (fun m hm lt=>?_)) ⟨e,?_⟩
 ·obtain⟨i,hi,rfl⟩:=Array.mem_iff_getElem.mp hy
  have hi':i<its.length:=by simpa using hi
  obtain⟨t',e'⟩:=at' i hi'
  rw[List.getElem?_eq_getElem hi']at e'
  have e':its[i]=Value.int (ns.getD i 0) t':=aC0 e'
  rw[ej i hi,aO3,e']
  exact MeetsSeq.EqGives.int _ _ _ _
 ·rw[ej j lj',aF1,hj];simp
 ·have hm':m<ns.length:=by rw[←li];simpa using hm
  rw[ej m hm,aF1,List.getElem?_eq_getElem hm',Option.getD_some,aG7]
  intro w
  exact hf m lt (by rw[List.getElem?_eq_getElem hm',w])
 ·exact⟨.int (j:Int),H,I.tok _,⟨_,rfl⟩,q⟩
end
open PySem PySem.Spec PyProof.Rows Srt TS
section
variable{X:Cx}{pins:List (Addr×Obj)}{σ:St}{H:Hp}{s:Shared}
theorem Inv.freeze{d:Addr}{o:Obj}{kvs:List (Key×V)}(I:Inv X pins σ H s)(hd:H d=some (.dK kvs))(ho:s.heap.get? d=some o):Inv X pins σ (upd H d (.frz o (.dK kvs))) s:=by
 have dk:C0 X.prog X.w H s.heap d (.dK kvs):=I.hok d _ hd
 have:=I.write (t':=s.toks) (h':=s.heap) (x:=d) (e:=d) (o:=.frz o (.dK kvs)) (by rw[hd];exact True.intro) (.inl rfl) (fun b u _ q=>q) ⟨o,ho⟩ ⟨ho,dk⟩
 exact this
theorem Inv.thaw{d:Addr}{o:Obj}{kvs:List (Key×V)}(I:Inv X pins σ H s)(h0:∀o u,X.H₀ d≠some (.frz o u))(hd:H d=some (.frz o (.dK kvs))):Inv X pins σ (upd H d (.dK kvs)) s:=by
 have dk:C0 X.prog X.w H s.heap d (.dK kvs):=(show C0 X.prog X.w H s.heap d (.frz o (.dK kvs)) from I.hok d _ hd).2
 have ne:∀{b:Addr} {u:HO},H b=some u→u≠.frz o (.dK kvs)→b≠d:=fun h k z=>by rw[z,hd]at h;cases h;exact k rfl
 refine⟨I.ok,I.os,I.bare,⟨I.base.keep,I.base.slot,fun b u q n hx=>?_,I.base.there,fun b xs q=>?_,fun b u xs q=>?_,fun b ps q=>?_⟩,I.loc,I.cell,?_,fun x c e=>?_,fun p hp=>?_,fun b u q=>?_,I.len⟩
 ·have:=I.base.free b u q n hx
  rw[c9 fun z=>by rw[z,hd]at this;cases this]
  exact this
 ·have:=I.base.tups b xs q
  rw[c9 (ne this (by intro z;cases z))];exact this
 ·have:=I.base.frzs b u xs q
  rw[c9 fun z=>h0 u xs (by rw[←z];exact q)];exact this
 ·obtain⟨more,e⟩:=I.base.tbls b ps q
  exact⟨more,by rw[c9 (ne e (by intro z;cases z))];exact e⟩
 ·rw[c9 fun z=>by have:=I.free;rw[z,hd]at this;cases this];exact I.free
 ·rw[c9 fun z=>by have:=I.freeC x c e;rw[z,hd]at this;cases this];exact I.freeC x c e
 ·obtain⟨e,n,r⟩:=I.pin p hp
  exact⟨e,by rw[c9 fun z=>by rw[z,hd]at n;cases n];exact n,r⟩
 ·have own:∀c y,H c=some (.own y)→upd H d (.dK kvs) c=some (.own y):=fun c y e=>by rw[c9 (ne e (by intro z;cases z))];exact e
  have tup:∀c xs,H c=some (.tup xs)→upd H d (.dK kvs) c=some (.tup xs):=fun c y e=>by rw[c9 (ne e (by intro z;cases z))];exact e
  by_cases hb:b=d
  ·subst hb
   rw[b6]at q;cases q
   exact dk.stay (fun _ _ _ e=>e) (fun c e=>own c _ e) fun c xs e=>tup c xs e
  ·rw[c9 hb]at q
   exact(I.hok b u q).stay (fun _ _ _ e=>e) (fun c e=>own c _ e) fun c xs e=>tup c xs e
theorem Inv.nofrz{d:Addr}{kvs:List (Key×V)}(I:Inv X pins σ H s)(hd:H d=some (.dK kvs)):∀o u,X.H₀ d≠some (.frz o u):=fun o u e=>by
 have:=I.base.frzs d o u e
 rw[hd]at this;cases this
end
theorem Inv.track{X:Cx}{pins:List (Addr×Obj)}{σ:St}{H:Hp}{s s':Shared}{a:Addr}{o:HO}(I:Inv X pins σ H s)(J:Inv X pins σ H s')(ha:s.heap.objs.size≤a)(new:C0 X.prog X.w (upd H a o) s'.heap a o):Inv X pins σ (upd H a o) s':=by
 have hn:H a=none:=I.hok.fresh ha
 have lt:∀{b:Addr} {u:Obj},s.heap.get? b=some u→b≠a:=fun e=>aD6 (aE7 (aC2 e) ha)
 refine⟨J.ok,J.os,J.bare,⟨J.base.keep,J.base.slot,fun b u q n hx=>?_,J.base.there,fun b xs q=>?_,fun b u xs q=>?_,fun b ps q=>?_⟩,J.loc,J.cell,?_,fun x c e=>?_,fun p hp=>?_,fun b u q=>?_,J.len⟩
 ·rw[c9 (aD6 (aE7 (aC2 q) (aD7 I.sz ha)))]
  exact J.base.free b u q n hx
 ·have:=J.base.tups b xs q
  rw[c9 (g6 this hn)];exact this
 ·have:=J.base.frzs b u xs q
  rw[c9 (g6 this hn)];exact this
 ·obtain⟨more,e⟩:=J.base.tbls b ps q
  exact⟨more,by rw[c9 (g6 e hn)];exact e⟩
 ·rw[c9 (aD6 (aE7 I.lt ha))];exact J.free
 ·obtain⟨v,q⟩:=I.cell x c e
  rw[c9 (aD6 (aE7 q.lt ha))];exact J.freeC x c e
 ·obtain⟨e,n,r⟩:=J.pin p hp
  exact⟨e,by rw[c9 (lt (I.pin p hp).1)];exact n,r⟩
 ·have own:∀c y,H c=some (.own y)→upd H a o c=some (.own y):=fun c y e=>by rw[c9 (g6 e hn)];exact e
  have tup:∀c xs,H c=some (.tup xs)→upd H a o c=some (.tup xs):=fun c y e=>by rw[c9 (g6 e hn)];exact e
  by_cases hb:b=a
  ·subst hb
   rw[b6]at q;cases q
   exact new
  ·rw[c9 hb]at q
   exact(J.hok b u q).stay (fun _ _ _ e=>e) (fun c e=>own c _ e) fun c xs e=>tup c xs e
def Thw(H H':Hp)(Q:Hp→Prop):Prop:=∃d o kvs,H d=some (.dK kvs)∧H' d=some (.frz o (.dK kvs))∧Q (upd H' d (.dK kvs))
def b2D(t:TS):TS:=fun D σ H=>t { D with nx:=fun σ' H'=>Thw H H' (D.nx σ') } σ H
theorem a3Z{X:Cx}{st:Stmt}{t:TS}(h:PS X st t):PS X st (b2D t):=by
 intro pins s σ H D I ht
 refine n5 (h pins s σ H _ I ht) fun f s' q=>?_
 cases f with
 | next=>
  obtain⟨σ',H',I',d,o,kvs,h1,h2,q⟩:=q
  exact⟨σ',_,I'.thaw (I.nofrz h1) h2,q⟩
 | brk=>exact q
 | cont=>exact q
 | ret u=>exact q
def Itv(d:Addr)(o:Obj)(kvs:List (Key×V)):It:=
 ⟨fun i H=>H d=some (.frz o (.dK kvs))∧i<kvs.length,fun i H x H'=>H'=H∧∃k,kvs[i]?=some (k,x),fun i H=>H d=some (.frz o (.dK kvs))∧kvs.length≤i⟩
def Itm(d:Addr)(o:Obj)(kvs:List (Key×V)):It:=
 ⟨fun i H=>H d=some (.frz o (.dK kvs))∧i<kvs.length,fun i H x H'=>∃t k v,kvs[i]?=some (k,v)∧x=.ref t∧H t=none∧H'=upd H t (.tup [kV k,v]),fun i H=>H d=some (.frz o (.dK kvs))∧kvs.length≤i⟩
theorem a5k{P:Program}{w:World}{H:Hp}{h:Heap}{d:Addr}{o:Obj}{kvs:List (Key×V)}{es:Array DictEntry}{ep:Nat}(x:M5 P w H h)(e:H d=some (.frz o (.dK kvs)))(hd:o.data=.dict es ep) :
  ∃vs,KV kvs vs∧h.DictAt (v7 P w) d vs ep∧h.get? d=some o:=by
 obtain⟨h1,h2⟩:=(show C0 P w H h d (.frz o (.dK kvs)) from x d _ e)
 obtain⟨_,_,vs,r,dd⟩:=h2
 obtain⟨ep',da⟩:=a8h dd
 obtain⟨o',es',q1,q2,q3,q4⟩:=id da
 rw[h1]at q1;cases q1
 rw[hd]at q3;cases q3
 exact⟨vs,r,da,h1⟩
theorem a9V{P:Program}{w:World}{K:PySem.W.Frag}{tg:Expr}(d it:Addr)(o:Obj)(kvs:List (Key×V))(es:Array DictEntry)(ep:Nat)(hd:o.data=.dict es ep)(hne:d≠it) :
  Turn P w K tg (Itv d o kvs) [it] it (fun i h=>h.IsValIter it d i kvs.length ep) where
 mem:=by simp
 obj:=fun i h st b hb=>by
  have e:b=it:=by simpa using hb
  subst e
  obtain⟨o,e,c,d⟩:=st
  exact⟨o,e,fun v z=>by rw[d]at z;cases z⟩
 keep:=fun i h h' st k=>st.at fun o e=>k it (by simp) o e
 item:=by
  intro X hP hw hK hc i pins s σ H E I hf st hg
  subst hP hw hK
  obtain⟨hz,hi⟩:=hg
  obtain⟨vs,r,da,_⟩:=a5k I.hok hz hd
  have lv:=a7h r
  obtain⟨f0,f1,f2,f3,f4,f5⟩:=hf it (by simp)
  have hv:=List.getElem?_eq_getElem (l:=vs) (i:=i) (by omega)
  obtain⟨x,hx,rx⟩:=b7b r (k:=vs[i].1) (u:=vs[i].2) hv
  rw[←lv]at st
  refine wpAny_pyNext_values_item st da hv fun h' st' sb=>?_
  have I1:Inv X pins σ H { s with heap:=h' }:=I.turned (t':=s.toks) (fun b o hb e=>(sb.2 b hb).trans e) f0 f1 f3 f4 f5
  obtain⟨oi,e,c,dd⟩:=id st'
  refine⟨_,rfl,b2e (s:={ s with heap:=h' }) e c dd (by decide) ⟨x,H,I1,rx,⟨rfl,_,hx⟩,?_,fun b hb=>(hf b hb).1⟩⟩
  rw[←lv];exact st'
 done:=by
  intro X hP hw hK hc i pins s σ H E I hf st hg
  subst hP hw hK
  obtain⟨hz,hi⟩:=hg
  obtain⟨vs,r,da,_⟩:=a5k I.hok hz hd
  have lv:=a7h r
  obtain⟨f0,f1,f2,f3,f4,f5⟩:=hf it (by simp)
  rw[←lv]at st
  exact wpAny_pyNext_values_end (I.ok.hd hc) st da (aL9 (by omega)) fun h' eb=>⟨rfl,I.turned (t':=s.toks) (fun b o hb e=>eb b o hb e) f0 f1 f3 f4 f5⟩
 self:=fun _ _ _ _ _ st h=>wpAny_pyIter_valiter st h
theorem b9h:entryFor table "dict_itemiterator.__iter__"=some Builtin.«dict_keyiterator.__iter__»:=by
 refine entryFor_alias (id':="dict_keyiterator.__iter__") ?_ rfl ?_ ?_
 ·kernel_rfl
 ·decide +kernel
 ·kernel_rfl
theorem b3d{P:Program}{w:World}{K:PySem.W.Frag}{elts:List Expr}{x1:Nat}{ps:Pos}(d it:Addr)(o:Obj)(kvs:List (Key×V))(es:Array DictEntry)(ep:Nat)(hd:o.data=.dict es ep)(hne:d≠it) :
  Turn P w K (.Tuple elts x1 ps) (Itm d o kvs) [it] it (fun i h=>∃ok ov,IsItemIter h it d i kvs.length ep ok ov) where
 mem:=by simp
 obj:=fun i h st b hb=>by
  have e:b=it:=by simpa using hb
  subst e
  obtain⟨ok,ov,st⟩:=st
  exact⟨_,st,fun v z=>by
   have z':Data.fields _=Data.cell v:=z
   cases z'⟩
 keep:=fun i h h' st k=>let ⟨ok,ov,st⟩:=st;⟨ok,ov,k it (by simp) _ st⟩
 item:=by
  intro X hP hw hK hc i pins s σ H E I hf st hg
  subst hP hw hK
  obtain⟨hz,hi⟩:=hg
  obtain⟨ok,ov,st⟩:=st
  obtain⟨vs,r,da,_⟩:=a5k I.hok hz hd
  have lv:=a7h r
  obtain⟨f0,f1,f2,f3,f4,f5⟩:=hf it (by simp)
  have hv:=List.getElem?_eq_getElem (l:=vs) (i:=i) (by omega)
  obtain⟨x,hx,rx⟩:=b7b r (k:=vs[i].1) (u:=vs[i].2) hv
  have itl:it<s.heap.objs.size:=aC2 st
  rw[←lv]at st
  refine wpAny_pyNext_items_item st da hv fun key h' hkey st' tp hz' k'=>⟨_,rfl,?_⟩
  refine wpAny_letOwnedTupleGo_items (s:={ s with heap:=h' }) st' fun h'' st'' sb=>?_
  have I1:Inv X pins σ H { s with heap:=h'' }:=I.turned (t':=s.toks) (fun b o hb e=>(sb.2 b hb).trans (k' b o hb e)) f0 f1 f3 f4 f5
  have tp':h''.get? s.heap.objs.size=some { cls:=.type "tuple",data:=.seq #[key,vs[i].2] }:=(sb.2 _ (aK1 itl)).trans tp
  have hn:H s.heap.objs.size=none:=I.hok.fresh (aB3 _)
  have I2:=I.track I1 (o:=.tup [kV vs[i].1,x]) (aB3 _) ⟨by show 2≤sizeLine;rw[aG2];decide,[key,vs[i].2],.cons (a7X hkey) (.cons rx .nil),_,tp',rfl,0,rfl⟩
  refine⟨.ref s.heap.objs.size,_,I2,rfl,⟨_,_,_,hx,rfl,hn,rfl⟩,?_,fun b hb=>?_⟩
  ·rw[←lv];exact⟨_,_,st''⟩
  ·have e:b=it:=by simpa using hb
   rw[e,c9 (aD6 itl)];exact f0
 done:=by
  intro X hP hw hK hc i pins s σ H E I hf st hg
  subst hP hw hK
  obtain⟨hz,hi⟩:=hg
  obtain⟨ok,ov,st⟩:=st
  obtain⟨vs,r,da,_⟩:=a5k I.hok hz hd
  have lv:=a7h r
  obtain⟨f0,f1,f2,f3,f4,f5⟩:=hf it (by simp)
  rw[←lv]at st
  exact wpAny_pyNext_items_end (I.ok.hd hc) st da (aL9 (by omega)) fun h' eb=>⟨rfl,I.turned (t':=s.toks) (fun b o hb e=>eb b o hb e) f0 f1 f3 f4 f5⟩
 self:=fun A i s Q E st h=>by
  obtain⟨ok,ov,st⟩:=st
  have hT:s.TypeIs (.ref it) "dict_itemiterator":=⟨_,st,rfl⟩
  refine wpAny_pyIter_slot hT aS7 (aI2 aS7 hT b9h ?_ (PySem.F.args_dict_itemiterator_iter_1 _))
  show wpAny _ _ (ret (.ref it)) _ _ s
  exact aA6 ⟨_,rfl,"dict_itemiterator",_,hT,PySem.F.slot_dict_itemiterator_next.lookup,h⟩
def b9F(td:TE):TI:=fun σ H R=>td σ H fun x H1=>∃d kvs,x=.ref d∧H1 d=some (.dK kvs)∧∀o,R (Itv d o kvs) (upd H1 d (.frz o (.dK kvs)))
def b6G(td:TE):TI:=fun σ H R=>td σ H fun x H1=>∃d kvs,x=.ref d∧H1 d=some (.dK kvs)∧∀o,R (Itm d o kvs) (upd H1 d (.frz o (.dK kvs)))
section
variable{X:Cx}{tg e:Expr}{elts:List Expr}{x1:Nat}{td:TE}{ps apos cpos:Pos}
theorem b0h(he:PE X e td)(hbase:attributeBase e "values" X.env (eval e X.env)=eval e X.env:=by rfl)(hline:(apos.endLine==cpos.line)=true:=by rfl):PI X tg (.Call (.Attribute e "values" apos) [] [] cpos) (b9F td):=by
 intro pins s σ H R I h
 refine aR9 hbase hline (n5 (he pins s σ H _ I h) fun v s1 ⟨x,H1,I1,r1,d,kvs,ex,hd,q⟩=>?_)
 subst ex
 cases (show v=Value.ref d from r1)
 obtain⟨z,hs,vs,rel,dd⟩:=a5r I1.hok hd
 obtain⟨t1,t2,_⟩:=a3p I1 (.inl ⟨kvs,.inl hd⟩)
 refine⟨"dict",_,aK9,PySem.F.slot_dict_values,PySem.F.type_dict_values,t1,t2,aI4 rfl (aS5 ?_)⟩
 refine aO8 PySem.F.slot_dict_values dd.typeIs PySem.F.entry_dict_values (PySem.F.args_dict_values_1 _) (meets_dict_values (v7 X.prog X.w) d hs) ⟨⟨vs,dd⟩,?_⟩
 obtain⟨ep,da⟩:=a8h dd
 have k1:∀b u,s1.heap.get? b=some u→(s1.heap.push { cls:=.type "dict_values",data:=.fields #[.ref d] }).get? b=some u:=fun b u e=>aA7 _ e
 have I2:=I1.kept (t':=s1.toks) k1
 obtain⟨o,es,ho,hc,hdat,_⟩:=id da
 have I3:=I2.freeze hd (k1 _ _ ho)
 refine wpAny_pyIter_values (s:={ s1 with heap:=s1.heap.push { cls:=.type "dict_values",data:=.fields #[.ref d] } }) ⟨_,aC5 _ rfl,rfl,rfl⟩ (da.push _) ?_
 have lt:d<s1.heap.objs.size:=aC2 ho
 have lv:=a7h rel
 refine⟨(s1.heap.push { cls:=.type "dict_values",data:=.fields #[.ref d] }).objs.size,[(s1.heap.push { cls:=.type "dict_values",data:=.fields #[.ref d] }).objs.size],_,_,_,rfl,I3.kept (t':=s1.toks) fun b u e=>aA7 _ e,a9V d _ o kvs es ep hdat ?_,?_,fun b hb=>?_,q o⟩
 ·have sz:(s1.heap.push { cls:=.type "dict_values",data:=.fields #[.ref d] }).objs.size=s1.heap.objs.size+1:=aJ9 ..
  exact aD6 (aE7 lt (by rw[sz];exact aL8 _))
 ·rw[←lv];exact⟨_,aC5 _ rfl,rfl,rfl⟩
 ·have e:b=(s1.heap.push { cls:=.type "dict_values",data:=.fields #[.ref d] }).objs.size:=aA3.mp hb
  subst e
  exact I3.fpOk (aB3 _) (I3.hok.fresh (aB3 _))
theorem b6r(he:PE X e td)(hbase:attributeBase e "items" X.env (eval e X.env)=eval e X.env:=by rfl)(hline:(apos.endLine==cpos.line)=true:=by rfl):PI X (.Tuple elts x1 ps) (.Call (.Attribute e "items" apos) [] [] cpos) (b6G td):=by
 intro pins s σ H R I h
 refine aR9 hbase hline (n5 (he pins s σ H _ I h) fun v s1 ⟨x,H1,I1,r1,d,kvs,ex,hd,q⟩=>?_)
 subst ex
 cases (show v=Value.ref d from r1)
 obtain⟨z,hs,vs,rel,dd⟩:=a5r I1.hok hd
 obtain⟨t1,t2,_⟩:=a3p I1 (.inl ⟨kvs,.inl hd⟩)
 refine⟨"dict",_,aK9,PySem.F.slot_dict_items,PySem.F.type_dict_items,t1,t2,aI4 rfl (aS5 ?_)⟩
 refine aO8 PySem.F.slot_dict_items dd.typeIs PySem.F.entry_dict_items (PySem.F.args_dict_items_1 _) (meets_dict_items (v7 X.prog X.w) d hs) ⟨⟨vs,dd⟩,?_⟩
 obtain⟨ep,da⟩:=a8h dd
 have k1:∀b u,s1.heap.get? b=some u→(s1.heap.push { cls:=.type "dict_items",data:=.fields #[.ref d] }).get? b=some u:=fun b u e=>aA7 _ e
 have I2:=I1.kept (t':=s1.toks) k1
 obtain⟨o,es,ho,hc,hdat,_⟩:=id da
 have I3:=I2.freeze hd (k1 _ _ ho)
 refine wpAny_pyIter_items (s:={ s1 with heap:=s1.heap.push { cls:=.type "dict_items",data:=.fields #[.ref d] } }) ⟨_,aC5 _ rfl,rfl,rfl⟩ (da.push _) ?_
 have lt:d<s1.heap.objs.size:=aC2 ho
 have lv:=a7h rel
 refine⟨(s1.heap.push { cls:=.type "dict_items",data:=.fields #[.ref d] }).objs.size,[(s1.heap.push { cls:=.type "dict_items",data:=.fields #[.ref d] }).objs.size],_,_,_,rfl,I3.kept (t':=s1.toks) fun b u e=>aA7 _ e,b3d d _ o kvs es ep hdat ?_,?_,fun b hb=>?_,q o⟩
 ·have sz:(s1.heap.push { cls:=.type "dict_items",data:=.fields #[.ref d] }).objs.size=s1.heap.objs.size+1:=aJ9 ..
  exact aD6 (aE7 lt (by rw[sz];exact aL8 _))
 ·rw[←lv];exact⟨_,_,aC5 _ rfl⟩
 ·have e:b=(s1.heap.push { cls:=.type "dict_items",data:=.fields #[.ref d] }).objs.size:=aA3.mp hb
  subst e
  exact I3.fpOk (aB3 _) (I3.hok.fresh (aB3 _))
end
end L2
namespace TS
open PySem PySem.Spec PyProof.Rows Srt
section
variable{prog:Program}{w:World}{A:Around}{R:Result→Shared→Prop}{J:Addr}{fq wq:List Addr}{n:Nat}{Pn:Nat→Value→Prop}{Sn:Nat→Heap→Prop}{kw:List (Str×Value)}
theorem b0k(W:Walks prog w A.in1 J fq wq n Pn Sn)(lss:Nat→Nat→Bool)(cmp:CmpOf prog w A.in1 .Lt Pn lss)(B:Addr)(bq:B∉fq) :
  ∀(k j:Nat) (s:Shared) (best:Value) (c:Nat),n-(j+1)=k→j+1≤n→Sn (j+1) s.heap→Pn (argBest lss j) best →
  s.heap.get? B=some { cls:=.type "list",dict:=none,data:=.seq #[best,best] c,slots:=#[] } →
  (∀v h' tk,Pn (argBest lss (n-1)) v→(∀b o,b∉wq→b≠B→s.heap.get? b=some o→h'.get? b=some o)→R (.ok (.ret v)) { s with heap:=h',toks:=tk }) →
  codeAny (model prog w) A (.builtin "min.loop" ⟨[.ref J,.none,.ref B],kw⟩) R s:=by
 have bw:B∉wq:=fun h=>bq (W.sub _ h)
 have nam:(toString "min"++toString ".loop":String)="min.loop":=by decide
 intro k
 induction k with
 | zero=>
  intro j s best c hk hj st pb hB hR
  have jn:j+1=n:=by omega
  refine aH2 F.entry_min_loop (Eq.mpr (by rw[aG1 aL6 _]) ?_)
  show wpAny (model prog w) A.in1 (seqItems? (.ref B) >>= _) _ _ s
  refine aA1 (aO7 hB rfl ?_)
  show wpAny (model prog w) A.in1 (tryCatch (pyNext (.ref J)) _ >>= _) _ _ s
  refine aA1 (aQ7 (W.done s _ _ (jn▸st) fun h' tk kp=>?_))
  have hB':=kp B _ bw hB
  show wpAny (model prog w) A.in1 (updateSeq B (fun _=>#[]) >>= _) _ _ _
  refine aA1 (aP8 hB' rfl (aA1 (wpAny_letGo (aA6 ?_))))
  exact hR best _ tk (by rw[←jn];exact pb) fun b o hb hb2 e=>(aF8 _ _ (Ne.symm hb2)).trans (kp b o hb e)
 | succ k ih=>
  intro j s best c hk hj st pb hB hR
  have jlt:j+1<n:=by omega
  refine aH2 F.entry_min_loop (Eq.mpr (by rw[aG1 aL6 _]) ?_)
  show wpAny (model prog w) A.in1 (seqItems? (.ref B) >>= _) _ _ s
  refine aA1 (aO7 hB rfl ?_)
  show wpAny (model prog w) A.in1 (tryCatch (pyNext (.ref J)) _ >>= _) _ _ s
  refine aA1 (aQ7 (W.item (j+1) s _ _ jlt st fun v h' tk pv st' kp=>?_))
  have hB':=kp B _ bw hB
  show wpAny (model prog w) A.in1 (tryCatch (holding [v,v] (richCompare .Lt v best >>= _)) _ >>= _) _ _ _
  refine aA1 (aQ7 (aI9 (aA1 (cmp (j+1) (argBest lss j) v best _ _ _ pv pb ?_))))
  refine aA1 (aI9 (aN0 (aA1 (wpAny_letGo (aA6 ?_)))))
  cases hb:lss (j+1) (argBest lss j) with
  | true=>
   simp only[aQ1]
   refine aA1 (aP8 hB' rfl (aA1 (wpAny_letGo ?_)))
   rw[nam]
   refine aA6 ⟨aJ8 aL6 _,ih (j+1) _ v _ (by omega) jlt (W.frame _ _ _ st' fun b hbf o e=>(aF8 _ _ (fun h:B=b=>bq (by rw[h];exact hbf))).trans e) (by simp only[argBest,hb,aQ1];exact pv) (aG8 _ hB' rfl)
    fun v' h2 tk2 pv' kp2=>hR v' h2 tk2 pv' fun b o hb1 hb2 e=>kp2 b o hb1 hb2 ((aF8 _ _ (Ne.symm hb2)).trans (kp b o hb1 e))⟩
  | false=>
   simp only[aI8,aO4]
   refine aA1 (wpAny_letGo ?_)
   rw[nam]
   exact aA6 ⟨aJ8 aL6 _,ih (j+1) _ best c (by omega) jlt st' (by simp only[argBest,hb,aI8,aO4];exact pb) hB' fun v' h2 tk2 pv' kp2=>hR v' h2 tk2 pv' fun b o hb1 hb2 e=>kp2 b o hb1 hb2 (kp b o hb1 e)⟩
theorem b0e(W:Walks prog w A.in1 J fq wq n Pn Sn)(lss:Nat→Nat→Bool)(cmp:CmpOf prog w A.in1 .Lt Pn lss)(B:Addr)(bq:B∉fq){s:Shared}{c:Nat}(st:Sn 0 s.heap){d:Value}{kn:Str}
  (hB:s.heap.get? B=some { cls:=.type "list",dict:=none,data:=.seq #[] c,slots:=#[] })
  (h0:n=0→∀h' tk,(∀b o,b∉wq→b≠B→s.heap.get? b=some o→h'.get? b=some o)→R (.ok (.ret d)) { s with heap:=h',toks:=tk })
  (hR:0<n→∀v h' tk,Pn (argBest lss (n-1)) v→(∀b o,b∉wq→b≠B→s.heap.get? b=some o→h'.get? b=some o)→R (.ok (.ret v)) { s with heap:=h',toks:=tk }) :
  codeAny (model prog w) A (.builtin "min.loop" ⟨[.ref J,.none,.ref B],[(kn,d)]⟩) R s:=by
 have bw:B∉wq:=fun h=>bq (W.sub _ h)
 have nam:(toString "min"++toString ".loop":String)="min.loop":=by decide
 refine aH2 F.entry_min_loop (Eq.mpr (by rw[aG1 aL6 _]) ?_)
 show wpAny (model prog w) A.in1 (seqItems? (.ref B) >>= _) _ _ s
 refine aA1 (aO7 hB rfl ?_)
 show wpAny (model prog w) A.in1 (tryCatch (pyNext (.ref J)) _ >>= _) _ _ s
 by_cases c0:n=0
 ·subst c0
  refine aA1 (aQ7 (W.done s _ _ st fun h' tk kp=>?_))
  refine aA1 (wpAny_rule (aA6 ?_))
  exact h0 rfl h' tk fun b o hb _ e=>kp b o hb e
 ·have np:0<n:=by omega
  refine aA1 (aQ7 (W.item 0 s _ _ np st fun v h' tk pv st' kp=>?_))
  have hB':=kp B _ bw hB
  show wpAny (model prog w) A.in1 (updateSeq B (fun _=>#[v,v]) >>= _) _ _ _
  refine aA1 (aP8 hB' rfl ?_)
  rw[nam]
  refine aA6 ⟨aJ8 aL6 _,b0k W lss cmp B bq _ 0 _ v _ rfl np (W.frame _ _ _ st' fun b hbf o e=>(aF8 _ _ (fun h:B=b=>bq (by rw[h];exact hbf))).trans e) pv (aG8 _ hB' rfl) fun v' h2 tk2 pv' kp2=>?_⟩
  exact hR np v' h2 tk2 pv' fun b o hb1 hb2 e=>kp2 b o hb1 hb2 ((aF8 _ _ (Ne.symm hb2)).trans (kp b o hb1 e))
end
theorem b6e(a v:Value):argsOk "min" ⟨[a],[(Str.ofString "default",v)]⟩:=by unfold argsOk;kernel_rfl
end TS
namespace L2
open PySem PySem.Spec PyProof.Rows Srt TS
def ltI(ns:List Int)(i j:Nat):Bool:=decide (ns.getD i 0<ns.getD j 0)
theorem b4j(ns:List Int):∀k,k<ns.length→argBest (ltI ns) k≤k∧∀j,j≤k→ns.getD (argBest (ltI ns) k) 0≤ns.getD j 0
 | 0,_=>by
  refine⟨aB3 _,fun j hj=>?_⟩
  have e:j=0:=by omega
  subst e
  exact aP1 _
 | k+1,hk=>by
  obtain⟨a,b⟩:=b4j ns k (by omega)
  show(if ltI ns (k+1) (argBest (ltI ns) k)=true then k+1 else argBest (ltI ns) k)≤k+1∧∀j,j≤k+1→ns.getD (if ltI ns (k+1) (argBest (ltI ns) k)=true then k+1 else argBest (ltI ns) k) 0≤ns.getD j 0
  by_cases c:ltI ns (k+1) (argBest (ltI ns) k)=true
  ·rw[aB4 c]
   have c':ns.getD (k+1) 0<ns.getD (argBest (ltI ns) k) 0:=aF2 c
   refine⟨aB3 _,fun j hj=>?_⟩
   by_cases e:j=k+1
   ·subst e;exact aP1 _
   ·have:=b j (by omega);omega
  ·rw[aA8 c]
   have c':¬ns.getD (k+1) 0<ns.getD (argBest (ltI ns) k) 0:=fun z=>c (aC4 z)
   refine⟨by omega,fun j hj=>?_⟩
   by_cases e:j=k+1
   ·subst e;omega
   ·exact b j (by omega)
theorem b1g{X:Cx}{pins:List (Addr×Obj)}{σ:St}{H:Hp}{s:Shared}{Q:VK}{p:Addr}{ns:List Int}{y:V}{d:Value}(hc:X.calm=true)(I:Inv X pins σ H s)(hq:d8 X.K H p (ns.map V.int))(rd:RelV y d)(q3:ns=[]→Q y H)(q4:∀m,m∈ns→(∀n∈ns,m≤n)→Q (.int m) H) :
  wpAny (model X.prog X.w) X.A (call (.builtin "min") [.ref p] [(Str.ofString "default",d)]) (EP X pins σ Q) X.xe s:=by
 obtain⟨its,rv,pl,hz⟩:=I.list hq
 have ln:its.length=ns.length:=by rw[←rv.length,aA0]
 have lt:p<s.heap.objs.size:=let ⟨_,e,_⟩:=pl.isList;aC2 e
 have nam:(toString "min"++toString ".loop":String)="min.loop":=by decide
 refine wpAny_call (codeAny_call_builtin F.plain_min F.entry_min ?_)
 have body:wpAny (model X.prog X.w) X.A.in1 (Builtin.«min» ⟨[.ref p],[(Str.ofString "default",d)]⟩) (fun fin s'=>match fin with
   | .done f=>(match (Except.ok f:Result) with | .ok (.ret v)=>EP X pins σ Q v s' | .ok _=>False | .error e=>X.xe e s')
   | .again c'=>c'.quiet=true∧codeAny (model X.prog X.w) X.A c' (fun r s'=>match r with | .ok (.ret v)=>EP X pins σ Q v s' | .ok _=>False | .error e=>X.xe e s') s') X.xe s:=by
  show wpAny _ X.A.in1 (Builtin.Builtins.bindParams "min" ["key","default"] 0 ⟨[],[(Str.ofString "default",d)]⟩ >>= _) _ _ s
  refine aA1 (wpAny_of_eq (show Builtin.Builtins.bindParams "min" ["key","default"] 0 ⟨[],[(Str.ofString "default",d)]⟩=pure [none,some d] from rfl) ?_)
  refine aA1 (aA6 ?_)
  refine aA1 (aQ9 pl.isList ?_)
  refine aA1 (aG9 ?_)
  rw[nam]
  have W:=Walks.list (prog:=X.prog) (w:=X.w) (A:=X.A.in1) (by simpa using I.ok.hd hc) s.heap.objs.size p (aD6 lt) its.toArray
  have z1:(s.heap.push { cls:=.type "list_iterator",data:=.fields #[.ref p,.int 0 0] }).objs.size=s.heap.objs.size+1:=aJ9 ..
  have bq:(s.heap.push { cls:=.type "list_iterator",data:=.fields #[.ref p,.int 0 0] }).objs.size∉[s.heap.objs.size,p]:=by
   rw[z1]
   simp only[aB7,aF7,aL4,not_or]
   exact⟨Nat.succ_ne_self _,aK1 (aM3 lt)⟩
  have old:∀(h':Heap) (b:Addr) (o:Obj),(∀b o,b∉[s.heap.objs.size]→b≠(s.heap.push { cls:=.type "list_iterator",data:=.fields #[.ref p,.int 0 0] }).objs.size→((s.heap.push { cls:=.type "list_iterator",data:=.fields #[.ref p,.int 0 0] }).push { cls:=.type "list",data:=.seq ([]:List Value).toArray }).get? b=some o→h'.get? b=some o) →
    s.heap.get? b=some o→h'.get? b=some o:=fun h' b o k e=>by
   have lb:=aC2 e
   exact k b o (fun z=>by rw[aA3.mp z]at lb;exact aJ1 _ lb) (by rw[z1];exact aD6 (aM3 lb)) (aA7 _ (aA7 _ e))
  have sz:its.toArray.size=ns.length:=by rw[aD1,ln]
  refine aA6 ⟨aJ8 aL6 _,b0e W (ltI ns) (CmpOf.ints_lt (fun j=>ns.getD j 0) fun i v hv=>a8c rv i v (by simpa using hv)) _ bq (W.frame 0 _ _ ⟨⟨_,aC5 _ rfl,rfl,rfl⟩,pl.isList.push _⟩ fun b _ o e=>aA7 _ e) (aC5 _ rfl) (fun n0 h' tk k=>?_) fun n0 v h' tk pv k=>?_⟩
  ·have e0:ns=[]:=aJ0 (by omega)
   exact⟨y,H,I.kept (t':=tk) fun b o e=>old h' b o k e,rd,q3 e0⟩
  ·obtain⟨t,rfl⟩:=a8c rv _ v (by simpa using pv)
   rw[sz]at n0
   have en:its.length-1=ns.length-1:=by rw[ln]
   rw[en]
   obtain⟨a1,a2⟩:=b4j ns (ns.length-1) (by omega)
   have at':argBest (ltI ns) (ns.length-1)<ns.length:=by omega
   refine⟨.int (ns.getD (argBest (ltI ns) (ns.length-1)) 0),H,I.kept (t':=tk) fun b o e=>old h' b o k e,⟨t,rfl⟩,q4 _ ?_ fun m hm=>?_⟩
   ·rw[aF1,List.getElem?_eq_getElem at']
    exact aF9 at'
   ·obtain⟨j,hj⟩:=aD9.mp hm
    have lj:=(aA2.mp hj).1
    have:=a2 j (by omega)
    rw[aF1 (l:=ns) (i:=j),hj]at this
    exact this
 simp only[checkBuiltinCall,F.kind_min]
 cases hsig:Manifest.signature? "min" with
 | none=>exact aA6 body
 | some sig=>
  have ok:Bind.checkArgs "min" sig ⟨[.ref p],[(Str.ofString "default",d)]⟩=pure ():=by have:=b6e (.ref p) d;simpa only [argsOk,hsig] using this
  simp only[ok]
  exact aA6 body
def b0E(K:PySem.W.Frag)(te td:TE):TE:=fun σ H Q=>te σ H fun x H1=>td σ H1 fun y H2=>∃p ns,x=.ref p∧d8 K H2 p (ns.map V.int)∧(ns=[]→Q y H2)∧(∀m,m∈ns→(∀n∈ns,m≤n)→Q (.int m) H2)
section
variable{X:Cx}{e f:Expr}{te td:TE}{p kp pos:Pos}
theorem b5a(hc:X.calm=true)(hg:Gl X "min")(hm:X.mg "min"=none)(ha:PE X e te)(hf:PE X f td)
  (h1:starEach [e] X.env=[(false,eval e X.env)]:=by rfl) (h2:keywordEach [⟨some "default",f,kp⟩] X.env=[(some (Str.ofString "default"),eval f X.env)]:=by rfl) :
  PE X (.Call (.Name "min" p) [e] [⟨some "default",f,kp⟩] pos) (b0E X.K te td):=by
 intro pins s σ H Q I h
 refine aJ2 (a4e I hg hm boot_min ?_ (by decide) (by decide))
 refine PyProof.Rows.callWith_kw ?_ (by rw[h1];rfl) (by rw[h1];rfl) (by rw[h2];rfl) (by rw[h2];rfl)
 rw[h1]
 show wpAny _ _ (spliced ((false,eval e X.env)::backTo pos [])) _ _ s
 refine aI0 (n5 (ha pins s σ H _ I h) fun u s1 ⟨x,H1,I1,r1,q1⟩=>aL2 ?_)
 refine n5 (b0x hf b9A pos pins s1 σ H1 (fun zs H2=>match zs with
  | [y]=>∃p ns,x=.ref p∧d8 X.K H2 p (ns.map V.int)∧(ns=[]→Q y H2)∧(∀m,m∈ns→(∀n∈ns,m≤n)→Q (.int m) H2)
  | _=>False) I1 q1) fun ws s2 ⟨zs,H2,I2,rz,q2⟩=>?_
 match zs,ws,rz,q2 with
 | [y],_,.cons (b:=d) rd .nil,q2=>
  obtain⟨p,ns,rfl,hq,q3,q4⟩:=q2
  cases (show u=Value.ref p from r1)
  rw[h2]
  exact b1g hc I2 hq rd q3 q4
end
open PySem PySem.Spec PyProof.Rows Srt TS
section
variable{X:Cx}{own tl:List Str}{scope:Scope}{cl:List (Str×Addr)}{C:Addr}{s₀:Shared}{H₀:Hp}{ex:List Addr}{e:Expr}{ta:TE}{f:Str}{pos:Pos}
theorem a9W(he:PE (X5 X own tl scope cl C s₀ H₀ ex) e ta)(hb:attributeBase e f (X5 X own tl scope cl C s₀ H₀ ex).env (eval e (X5 X own tl scope cl C s₀ H₀ ex).env)=eval e (X5 X own tl scope cl C s₀ H₀ ex).env):PE (X5 X own tl scope cl C s₀ H₀ ex) (.Attribute e f pos) (b7B X.K ta f):=v5 he hb
end
theorem b3v{d:Addr}{o:Obj}{kvs:List (Key×V)}{g:TG}{tb:TS}{D:Ends}{σ:St}{H:Hp}(Pv:Nat→St→Hp→Prop)(h0:Pv 0 σ H)(hl:∀i σ H,i≤kvs.length→Pv i σ H→H d=some (.frz o (.dK kvs)))
  (hs:∀i k v σ H t,kvs[i]?=some (k,v)→Pv i σ H→H t=none→g (.ref t) σ (upd H t (.tup [kV k,v])) fun σ2 H2=>tb { D with nx:=Pv (i+1),ct:=Pv (i+1),bk:=D.nx } σ2 H2) (hd:∀σ H,Pv kvs.length σ H→D.nx σ H) :
  ∃W:Nat→Nat→St→Hp→Prop,(∃m,W 0 m σ H)∧∀i m σ H,W i m σ H →
   ((Itm d o kvs).stop i H∧D.nx σ H)∨((Itm d o kvs).go i H∧∃N:St→Hp→Prop,(∀σ' H',N σ' H'→∃m',m'<m∧W (i+1) m' σ' H')∧∀x H',(Itm d o kvs).yld i H x H'→g x σ H' fun σ2 H2=>tb { D with nx:=N,ct:=N,bk:=D.nx } σ2 H2):=by
 refine⟨fun i m σ H=>m=kvs.length-i∧i≤kvs.length∧Pv i σ H,⟨kvs.length,by simp,aG3 _,h0⟩,?_⟩
 rintro i m σ H ⟨rfl,hi,p⟩
 have q:=hl i σ H hi p
 by_cases lt:i<kvs.length
 ·refine .inr ⟨⟨q,lt⟩,Pv (i+1),fun σ' H' p'=>⟨kvs.length-(i+1),by omega,rfl,lt,p'⟩,fun x H' y=>?_⟩
  obtain⟨t,k,v,e,ex,ht,eH⟩:=y
  subst ex eH
  exact hs i k v σ H t e p ht
 ·have e:i=kvs.length:=by omega
  subst e
  exact .inl ⟨⟨q,aB3 _⟩,hd σ H p⟩
theorem b6n{d:Addr}{o:Obj}{kvs:List (Key×V)}{acc:Addr}{tc:TT}{te:TE}{σ:St}{H1:Hp}{Q:Hp→Prop}(Pv:Nat→Hp→Prop)(h0:Pv 0 (upd H1 acc (.lst [])))(hl:∀i H,i≤kvs.length→Pv i H→H d=some (.frz o (.dK kvs)))
  (hs:∀i k x H,kvs[i]?=some (k,x)→Pv i H→tc (some x::σ) H fun b H3=>if b=true then te (some x::σ) H3 fun y H4=>∃ys,H4 acc=some (.lst ys)∧ys.length<sizeLine∧Pv (i+1) (upd H4 acc (.lst (ys++[y]))) else Pv (i+1) H3)
  (hd:∀H,Pv kvs.length H→Q H):a7N 1 (a8A 0) tc te (Itv d o kvs) acc σ H1 Q:=by
 refine⟨fun i m H=>i≤kvs.length∧m=kvs.length-i∧Pv i H,⟨_,aG3 _,rfl,h0⟩,fun i m H ⟨hi,hm,hp⟩=>?_⟩
 have q:=hl i H hi hp
 rcases Nat.lt_or_ge i kvs.length with lt | ge
 ·refine .inr ⟨⟨q,lt⟩,Pv (i+1),fun H' h'=>⟨kvs.length-(i+1),by omega,by omega,rfl,h'⟩,fun os x H' ho hy=>?_⟩
  obtain⟨rfl,k,hx⟩:=hy
  obtain⟨z,rfl⟩:∃z,os=[z]:=by
   match os,ho with
   | [z],_=>exact⟨z,rfl⟩
  exact⟨⟨[some x],rfl,rfl⟩,hs i k x H' hx hp⟩
 ·have e:i=kvs.length:=by omega
  subst e
  exact .inl ⟨⟨q,aB3 _⟩,hd H hp⟩
open PySem PySem.Spec PyProof.Rows Srt TS
section
variable{X:Cx}
end
open PySem PySem.Spec PyProof.Rows Srt
theorem a3Y:∀{ns:List Int} {us:List Value},j6 (ns.map V.int) us→IntsAre us ns
 | [],_,.nil=>.nil
 | n::ns,_,.cons ⟨t,e⟩ r=>by subst e;exact .cons n t (a3Y r)
theorem a7Y:∀{ns:List Int} {us:List Value},IntsAre us ns→j6 (ns.map V.int) us
 | _,_,.nil=>.nil
 | _,_,.cons n t r=>.cons ⟨t,rfl⟩ (a7Y r)
section
variable{X:Cx}{pins:List (Addr×Obj)}{σ:St}{H:Hp}{s:Shared}
theorem a3q:N5 X (.builtin "sorted") (fun as H Q=>∃p,∃ns:List Int,as=[.ref p]∧d8 X.K H p (ns.map V.int)∧ns.length<64∧∀l,∀ms:List Int,H l=none→ms.Perm ns→ms.Pairwise (·≤·)→Q (.ref l) (upd H l (.lst (ms.map V.int)))):=by
 intro pins s σ H as us Q I r h
 obtain⟨p,ns,rfl,hq,hl,q⟩:=h
 obtain⟨u,rfl,ru⟩:=vals1 r
 cases (show u=Value.ref p from ru)
 obtain⟨its,rv,pl,hz⟩:=I.list hq
 have lv:=rv.length
 rw[aA0]at lv
 refine sorted_ints (vs:=its) pl.isList (a3Y rv) (by omega) fun out ms hI hp hs=>?_
 obtain⟨e,he⟩:=sortedAll_at s.heap its out
 have hn:H (s.heap.objs.size+1)=none:=I.hok.fresh (aL8 _)
 refine⟨.ref (s.heap.objs.size+1),_,I.laid (t':=s.toks) (o:=.lst (ms.map V.int)) (fun b o e=>sortedAll_old e) (aL8 _) ⟨?_,out.toList,e,a7Y hI,?_⟩,rfl,q _ ms hn hp hs⟩
 ·rw[aA0,hp.length_eq,←aA0 (f:=V.int)];exact hz
 ·simpa using he
end
end L2
namespace My
open PySem PySem.Spec PyProof.Rows L2
set_option maxRecDepth 100000
theorem B7{N P:List Str}{sc:Scope}(h:(decide (sc.kind=.function)&&(!sc.isCoroutine&&!sc.isGenerator)&&decide N.Nodup&&decide (N.take P.length=P)&&P.all (fun x=>sc.names.lookup x==some .local||sc.names.lookup x==some .cell)&&sc.names.all fun y=>y.2 != .free)=true):j9 N P sc:=by
 simp only[aE9,aM2,Bool.not_eq_true',aQ6,Bool.or_eq_true,aP7,bne_iff_ne]at h
 obtain⟨⟨⟨⟨⟨h1,h2,h3⟩,h4⟩,h5⟩,h6⟩,h7⟩:=h
 exact⟨h1,h2,h3,h4,h5,h6,h7⟩
theorem b8c:j9 ["goods","others"] ["goods","others"] (i6 a9q):=B7 (by decide +kernel)
theorem a2O:j9 ["one","other","goods","why"] ["one","other","goods","why"] (i6 a3g):=B7 (by decide +kernel)
theorem a0d:j9 ["one","other","links"] ["one","other"] (i6 W6):=B7 (by decide +kernel)
theorem Z7:j9 ["record","others","links","other"] ["record","others"] (i6 a8e):=B7 (by decide +kernel)
theorem Y8:j9 ["place","numbers","links","found","number","link"] ["place","numbers","links"] (i6 a4j):=B7 (by decide +kernel)
theorem B4:j9 ["numbers","links","links_from","links_to","unkept","number","ready","row","link","other"] ["numbers","links"] (i6 a1a):=B7 (by decide +kernel)
theorem J1:j9 ["links","link_to","link","number","met","walked"] ["links"] (i6 Z8):=B7 (by decide +kernel)
theorem T2:j9 ["numbers","links","row","placed","number"] ["numbers","links"] (i6 Z9):=B7 (by decide +kernel)
theorem b3c:j9 ["versions","moment"] ["versions","moment"] (i6 a7o):=B7 (by decide +kernel)
theorem a1v:j9 ["versions","moment","count"] ["versions","moment"] (i6 a4l):=B7 (by decide +kernel)
theorem a2T:j9 ["versions","moment","gone"] ["versions","moment"] (i6 a6D):=B7 (by decide +kernel)
theorem a7K:j9 ["ring","number","place"] ["ring","number"] (i6 a1y):=B7 (by decide +kernel)
theorem a2n:j9 ["self","number","began"] ["self","number","began"] (i6 R4):=B7 (by decide +kernel)
theorem a5t:j9 ["self","ended"] ["self","ended"] (i6 V7):=B7 (by decide +kernel)
theorem a4t:j9 ["self"] ["self"] (i6 V2):=B7 (by decide +kernel)
theorem a6z:j9 ["self"] ["self"] (i6 X9):=B7 (by decide +kernel)
theorem a3i:j9 ["self","number"] ["self"] (i6 a6a):=B7 (by decide +kernel)
theorem a0m:j9 ["self","number","good","dealing"] ["self","number","good"] (i6 a9c):=B7 (by decide +kernel)
theorem a2q:j9 ["self","number","good","amount","dealing"] ["self","number","good","amount"] (i6 a5g):=B7 (by decide +kernel)
theorem a8H:j9 ["self","number"] ["self","number"] (i6 a0a):=B7 (by decide +kernel)
theorem Q4:j9 ["self","number","dealing","record","links","found"] ["self","number"] (i6 a8g):=B7 (by decide +kernel)
theorem Q7:j9 ["self","aside","good","amount"] ["self","aside"] (i6 U3):=B7 (by decide +kernel)
theorem G9:j9 ["self","beginnings","moment","gone","good","left"] ["self"] (i6 a1b):=B7 (by decide +kernel)
theorem a2w:j9 ["self"] ["self"] (i6 W9):=B7 (by decide +kernel)
theorem a3d:j9 ["tally","number","ring"] ["tally","number"] (i6 X1):=B7 (by decide +kernel)
theorem X3:j9 ["tally","deed","number"] ["tally","deed"] (i6 R5):=B7 (by decide +kernel)
theorem a0S:j9 ["tally","deed"] ["tally","deed"] (i6 a9g):=B7 (by decide +kernel)
theorem a2a:j9 ["tally","deeds","told","deed"] ["tally","deeds"] (i6 a7d):=B7 (by decide +kernel)
theorem a4f:j9 ["deeds","tally"] ["deeds"] (i6 Y1):=B7 (by decide +kernel)
theorem b5b:j9 ["deeds"] ["deeds"] (i6 a3n):=B7 (by decide +kernel)
theorem a9I:j9 ["deeds","tally"] ["deeds"] (i6 a0x):=B7 (by decide +kernel)
theorem L0:j9 ["_law_found","_law_due","_law_todo","_law_left","_law_right","_law_k"] ["_law_found","_law_due"] (i6 W2):=B7 (by decide +kernel)
theorem a9M:j9 ["_law_found"] ["_law_found"] (i6 a4d):=B7 (by decide +kernel)
theorem a3f:j9 ["_law_found","_law_due","_law_k"] ["_law_found","_law_due"] (i6 Y2):=B7 (by decide +kernel)
theorem a4m:j9 ["_law_found","_law_due","_law_k"] ["_law_found","_law_due"] (i6 a1d):=B7 (by decide +kernel)
theorem a4p:j9 ["_law_spot","_law_place","_law_goods"] ["_law_spot","_law_place"] (i6 a7f):=B7 (by decide +kernel)
theorem r6:j9 ["_law_cells","_law_made","_law_under","_law_over","_law_begun","_law_most","_law_size","_law_k","_law_pick","_law_rest","_law_near","_law_good","_law_odd","_law_bad","_law_menu","_law_who","_law_amounts","_law_amount"] ["_law_cells"] (i6 a1e):=B7 (by decide +kernel)
theorem a7M:j9 ["_law_found"] ["_law_found"] (i6 a7e):=B7 (by decide +kernel)
theorem y8:j9 ["_law_asked","_law_told","_law_since","_law_looked","_law_laid","_law_records","_law_tries","_law_k","_law_deed","_law_who","_law_ends","_law_record"] ["_law_asked","_law_told"] (i6 a7a):=B7 (by decide +kernel)
theorem a5p:j9 ["_law_link","_law_one","_law_other","_law_good"] ["_law_link","_law_one","_law_other"] (i6 a7g):=B7 (by decide +kernel)
theorem A1:j9 ["_law_row","_law_records","_law_known","_law_record","_law_k","_law_early","_law_name","_law_why","_law_link"] ["_law_row","_law_records"] (i6 U1):=B7 (by decide +kernel)
theorem R0:j9 ["_law_asked","_law_told","_law_steps","_law_under","_law_k","_law_deed"] ["_law_asked","_law_told"] (i6 a9f):=B7 (by decide +kernel)
theorem a3a:j9 ["_law_steps","_law_amounts","_law_deed","_law_seen"] ["_law_steps","_law_amounts"] (i6 a5d):=B7 (by decide +kernel)
theorem C6:j9 ["_law_seed","_law_goods","_law_one","_law_other","_law_made"] ["_law_seed"] (i6 V3):=B7 (by decide +kernel)
theorem U5:j9 ["_law_script","_law_made","_law_deed"] ["_law_script"] (i6 a2d):=B7 (by decide +kernel)
theorem a6F:j9 ["_law_one","_law_other"] ["_law_one","_law_other"] (i6 a4a):=B7 (by decide +kernel)
theorem P0:j9 ["_law_records","_law_record","_law_seen","_law_spot","_law_other"] ["_law_records","_law_record"] (i6 a0b):=B7 (by decide +kernel)
theorem N1:j9 ["_law_asked","_law_told","_law_k","_law_record","_law_records"] ["_law_asked","_law_told"] (i6 U2):=B7 (by decide +kernel)
theorem O1:j9 ["_law_script","_law_asked","_law_told","_law_handed","_law_found","_law_those","_law_k","_law_row","_law_number","_law_steps","_law_amounts","_law_due"] ["_law_script"] (i6 U7):=B7 (by decide +kernel)
theorem a7F:(["good","one","other","goods","why"]:List Str).Nodup:=by decide +kernel
theorem a4v:(["number","numbers","links","links_from","links_to","unkept",".","ready","row","link","other"]:List Str).Nodup:=by decide +kernel
theorem a9v:(["link","numbers","links","row","placed","number"]:List Str).Nodup:=by decide +kernel
theorem a6O:(["version","versions","moment"]:List Str).Nodup:=by decide +kernel
theorem a7V:(["link","ring","number","place"]:List Str).Nodup:=by decide +kernel
theorem a9H:(["ended","self","number","dealing","record","links","found"]:List Str).Nodup:=by decide +kernel
theorem a4w:(["dealing","self","beginnings","moment","gone","good","left"]:List Str).Nodup:=by decide +kernel
theorem a0q:(["good","self"]:List Str).Nodup:=by decide +kernel
theorem V1:(["_law_good","_law_one","_law_other"]:List Str).Nodup:=by decide +kernel
theorem b8m:(["_law_name","_law_script","_law_asked","_law_told","_law_handed","_law_found","_law_those","_law_k","_law_row","_law_number","_law_steps","_law_amounts","_law_due"]:List Str).Nodup:=by decide +kernel
structure FB(K:PySem.W.Frag)(n q:Str)(s:Stmt)(f:Addr)(d:FuncData)(ps:List Str):Prop extends Fun K n q s f d where
 b:Binds K d ps []
structure B6(K:PySem.W.Frag)(mg:Str→Option Value)(t:E1):Prop where
 F_in_both:FB K "in_both" "in_both" a9q t.f_in_both t.d_in_both ["goods","others"]
 m_in_both:mg "in_both"=some (.ref t.f_in_both)
 F_links_for:FB K "links_for" "links_for" a3g t.f_links_for t.d_links_for ["one","other","goods","why"]
 m_links_for:mg "links_for"=some (.ref t.f_links_for)
 F_links_between:FB K "links_between" "links_between" W6 t.f_links_between t.d_links_between ["one","other"]
 m_links_between:mg "links_between"=some (.ref t.f_links_between)
 F_links_with:FB K "links_with" "links_with" a8e t.f_links_with t.d_links_with ["record","others"]
 m_links_with:mg "links_with"=some (.ref t.f_links_with)
 F_links_by:FB K "links_by" "links_by" a4j t.f_links_by t.d_links_by ["place","numbers","links"]
 m_links_by:mg "links_by"=some (.ref t.f_links_by)
 F_longest_row:FB K "longest_row" "longest_row" a1a t.f_longest_row t.d_longest_row ["numbers","links"]
 m_longest_row:mg "longest_row"=some (.ref t.f_longest_row)
 F_ring_behind:FB K "ring_behind" "ring_behind" Z8 t.f_ring_behind t.d_ring_behind ["links"]
 m_ring_behind:mg "ring_behind"=some (.ref t.f_ring_behind)
 F_row_or_ring:FB K "row_or_ring" "row_or_ring" Z9 t.f_row_or_ring t.d_row_or_ring ["numbers","links"]
 m_row_or_ring:mg "row_or_ring"=some (.ref t.f_row_or_ring)
 F_reached:FB K "reached" "reached" a7o t.f_reached t.d_reached ["versions","moment"]
 m_reached:mg "reached"=some (.ref t.f_reached)
 F_value_at:FB K "value_at" "value_at" a4l t.f_value_at t.d_value_at ["versions","moment"]
 m_value_at:mg "value_at"=some (.ref t.f_value_at)
 F_swept:FB K "swept" "swept" a6D t.f_swept t.d_swept ["versions","moment"]
 m_swept:mg "swept"=some (.ref t.f_swept)
 F_turned:FB K "turned" "turned" a1y t.f_turned t.d_turned ["ring","number"]
 m_turned:mg "turned"=some (.ref t.f_turned)
 F_Dealing___init__:FB K "__init__" "Dealing.__init__" R4 t.f_Dealing___init__ t.d_Dealing___init__ ["self","number","began"]
 K_Dealing:Mk K t.C_Dealing t.f_Dealing___init__
 F_Dealing_record:FB K "record" "Dealing.record" V7 t.f_Dealing_record t.d_Dealing_record ["self","ended"]
 M_Dealing_record:W1 K t.C_Dealing "record" t.f_Dealing_record
 F_Tally___init__:FB K "__init__" "Tally.__init__" V2 t.f_Tally___init__ t.d_Tally___init__ ["self"]
 K_Tally:Mk K t.C_Tally t.f_Tally___init__
 F_Tally_moment:FB K "moment" "Tally.moment" X9 t.f_Tally_moment t.d_Tally_moment ["self"]
 M_Tally_moment:W1 K t.C_Tally "moment" t.f_Tally_moment
 F_Tally_begin:FB K "begin" "Tally.begin" a6a t.f_Tally_begin t.d_Tally_begin ["self"]
 M_Tally_begin:W1 K t.C_Tally "begin" t.f_Tally_begin
 F_Tally_look:FB K "look" "Tally.look" a9c t.f_Tally_look t.d_Tally_look ["self","number","good"]
 M_Tally_look:W1 K t.C_Tally "look" t.f_Tally_look
 F_Tally_put:FB K "put" "Tally.put" a5g t.f_Tally_put t.d_Tally_put ["self","number","good","amount"]
 M_Tally_put:W1 K t.C_Tally "put" t.f_Tally_put
 F_Tally_leave:FB K "leave" "Tally.leave" a0a t.f_Tally_leave t.d_Tally_leave ["self","number"]
 M_Tally_leave:W1 K t.C_Tally "leave" t.f_Tally_leave
 F_Tally_end:FB K "end" "Tally.end" a8g t.f_Tally_end t.d_Tally_end ["self","number"]
 M_Tally_end:W1 K t.C_Tally "end" t.f_Tally_end
 F_Tally_take_over:FB K "take_over" "Tally.take_over" U3 t.f_Tally_take_over t.d_Tally_take_over ["self","aside"]
 M_Tally_take_over:W1 K t.C_Tally "take_over" t.f_Tally_take_over
 F_Tally_sweep:FB K "sweep" "Tally.sweep" a1b t.f_Tally_sweep t.d_Tally_sweep ["self"]
 M_Tally_sweep:W1 K t.C_Tally "sweep" t.f_Tally_sweep
 F_Tally_amounts:FB K "amounts" "Tally.amounts" W9 t.f_Tally_amounts t.d_Tally_amounts ["self"]
 M_Tally_amounts:W1 K t.C_Tally "amounts" t.f_Tally_amounts
 F_answer_to_end:FB K "answer_to_end" "answer_to_end" X1 t.f_answer_to_end t.d_answer_to_end ["tally","number"]
 m_answer_to_end:mg "answer_to_end"=some (.ref t.f_answer_to_end)
 F_answer_under_way:FB K "answer_under_way" "answer_under_way" R5 t.f_answer_under_way t.d_answer_under_way ["tally","deed"]
 m_answer_under_way:mg "answer_under_way"=some (.ref t.f_answer_under_way)
 F_answer_to:FB K "answer_to" "answer_to" a9g t.f_answer_to t.d_answer_to ["tally","deed"]
 m_answer_to:mg "answer_to"=some (.ref t.f_answer_to)
 F_answers_at:FB K "answers_at" "answers_at" a7d t.f_answers_at t.d_answers_at ["tally","deeds"]
 m_answers_at:mg "answers_at"=some (.ref t.f_answers_at)
 F_tally_behind:FB K "tally_behind" "tally_behind" Y1 t.f_tally_behind t.d_tally_behind ["deeds"]
 m_tally_behind:mg "tally_behind"=some (.ref t.f_tally_behind)
 F_answers:FB K "answers" "answers" a3n t.f_answers t.d_answers ["deeds"]
 m_answers:mg "answers"=some (.ref t.f_answers)
 F_ending:FB K "ending" "ending" a0x t.f_ending t.d_ending ["deeds"]
 m_ending:mg "ending"=some (.ref t.f_ending)
 F__law_unturned:FB K "_law_unturned" "_law_unturned" W2 t.f__law_unturned t.d__law_unturned ["_law_found","_law_due"]
 m__law_unturned:mg "_law_unturned"=some (.ref t.f__law_unturned)
 F__law_whole:FB K "_law_whole" "_law_whole" a4d t.f__law_whole t.d__law_whole ["_law_found"]
 m__law_whole:mg "_law_whole"=some (.ref t.f__law_whole)
 F__law_figures:FB K "_law_figures" "_law_figures" Y2 t.f__law_figures t.d__law_figures ["_law_found","_law_due"]
 m__law_figures:mg "_law_figures"=some (.ref t.f__law_figures)
 F__law_table:FB K "_law_table" "_law_table" a1d t.f__law_table t.d__law_table ["_law_found","_law_due"]
 m__law_table:mg "_law_table"=some (.ref t.f__law_table)
 F__law_ware:FB K "_law_ware" "_law_ware" a7f t.f__law_ware t.d__law_ware ["_law_spot","_law_place"]
 m__law_ware:mg "_law_ware"=some (.ref t.f__law_ware)
 F__law_deeds:FB K "_law_deeds" "_law_deeds" a1e t.f__law_deeds t.d__law_deeds ["_law_cells"]
 m__law_deeds:mg "_law_deeds"=some (.ref t.f__law_deeds)
 F__law_ended:FB K "_law_ended" "_law_ended" a7e t.f__law_ended t.d__law_ended ["_law_found"]
 m__law_ended:mg "_law_ended"=some (.ref t.f__law_ended)
 F__law_walked:FB K "_law_walked" "_law_walked" a7a t.f__law_walked t.d__law_walked ["_law_asked","_law_told"]
 m__law_walked:mg "_law_walked"=some (.ref t.f__law_walked)
 F__law_true:FB K "_law_true" "_law_true" a7g t.f__law_true t.d__law_true ["_law_link","_law_one","_law_other"]
 m__law_true:mg "_law_true"=some (.ref t.f__law_true)
 F__law_links_kept:FB K "_law_links_kept" "_law_links_kept" U1 t.f__law_links_kept t.d__law_links_kept ["_law_row","_law_records"]
 m__law_links_kept:mg "_law_links_kept"=some (.ref t.f__law_links_kept)
 F__law_acts:FB K "_law_acts" "_law_acts" a9f t.f__law_acts t.d__law_acts ["_law_asked","_law_told"]
 m__law_acts:mg "_law_acts"=some (.ref t.f__law_acts)
 F__law_alone:FB K "_law_alone" "_law_alone" a5d t.f__law_alone t.d__law_alone ["_law_steps","_law_amounts"]
 m__law_alone:mg "_law_alone"=some (.ref t.f__law_alone)
 F__law_in_a_ring:FB K "_law_in_a_ring" "_law_in_a_ring" V3 t.f__law_in_a_ring t.d__law_in_a_ring ["_law_seed"]
 m__law_in_a_ring:mg "_law_in_a_ring"=some (.ref t.f__law_in_a_ring)
 F__law_mixed:FB K "_law_mixed" "_law_mixed" a2d t.f__law_mixed t.d__law_mixed ["_law_script"]
 m__law_mixed:mg "_law_mixed"=some (.ref t.f__law_mixed)
 F__law_linked:FB K "_law_linked" "_law_linked" a4a t.f__law_linked t.d__law_linked ["_law_one","_law_other"]
 m__law_linked:mg "_law_linked"=some (.ref t.f__law_linked)
 F__law_ringed:FB K "_law_ringed" "_law_ringed" a0b t.f__law_ringed t.d__law_ringed ["_law_records","_law_record"]
 m__law_ringed:mg "_law_ringed"=some (.ref t.f__law_ringed)
 F__law_ends_right:FB K "_law_ends_right" "_law_ends_right" U2 t.f__law_ends_right t.d__law_ends_right ["_law_asked","_law_told"]
 m__law_ends_right:mg "_law_ends_right"=some (.ref t.f__law_ends_right)
 F_law:FB K "law" "law" U7 t.f_law t.d_law ["_law_script"]
 m_law:mg "law"=some (.ref t.f_law)
 cl_Dealing:Cls K t.C_Dealing
 mg_Dealing:mg "Dealing"=some (.ref t.C_Dealing)
 n_Dealing_number:A0 K t.C_Dealing "number"
 n_Dealing_began:A0 K t.C_Dealing "began"
 n_Dealing_looked:A0 K t.C_Dealing "looked"
 n_Dealing_aside:A0 K t.C_Dealing "aside"
 cl_Tally:Cls K t.C_Tally
 mg_Tally:mg "Tally"=some (.ref t.C_Tally)
 n_Tally_begun:A0 K t.C_Tally "begun"
 n_Tally_under_way:A0 K t.C_Tally "under_way"
 n_Tally_versions:A0 K t.C_Tally "versions"
 n_Tally_records:A0 K t.C_Tally "records"
 n_Tally_links:A0 K t.C_Tally "links"
 n_Tally_row:A0 K t.C_Tally "row"
 m_bool:mg "bool"=none
 m_int:mg "int"=none
 m_isinstance:mg "isinstance"=none
 m_len:mg "len"=none
 m_list:mg "list"=none
 m_max:mg "max"=none
 m_min:mg "min"=none
 m_range:mg "range"=none
 m_reversed:mg "reversed"=none
 m_set:mg "set"=none
 m_sorted:mg "sorted"=none
 m_str:mg "str"=none
 m_sum:mg "sum"=none
 m_tuple:mg "tuple"=none
 m_NUMBER:mg "NUMBER"=some t.v_NUMBER
 r_NUMBER:RelV (.int 0) t.v_NUMBER
 m_BEGAN:mg "BEGAN"=some t.v_BEGAN
 r_BEGAN:RelV (.int 1) t.v_BEGAN
 m_ENDED:mg "ENDED"=some t.v_ENDED
 r_ENDED:RelV (.int 2) t.v_ENDED
 m_LOOKED:mg "LOOKED"=some t.v_LOOKED
 r_LOOKED:RelV (.int 3) t.v_LOOKED
 m_PUT:mg "PUT"=some t.v_PUT
 r_PUT:RelV (.int 4) t.v_PUT
 m_ONE:mg "ONE"=some t.v_ONE
 r_ONE:RelV (.int 0) t.v_ONE
 m_OTHER:mg "OTHER"=some t.v_OTHER
 r_OTHER:RelV (.int 1) t.v_OTHER
section
variable{P:Program}{w:World}{K:PySem.W.Frag}{mg:Str→Option Value}{base:Heap}{t:E1}
theorem a9j(xs:List V)(k:Nat):W4 xs (some (k:Int)) none=xs.drop k:=by
 unfold W4
 rw[HT.a4R,HT.a6H]
 rcases Nat.le_total k xs.length with h | h
 ·rw[Nat.min_eq_left h,aJ6 (by rw[aH8];omega)]
 ·rw[Nat.min_eq_right h,aR5,aS2,List.drop_eq_nil_of_le h]
theorem a5n(xs:List V)(k:Nat):W4 xs none (some (k:Int))=xs.take k:=by
 unfold W4
 rw[HT.a4R,HT.a6H,List.drop_zero,Nat.sub_zero]
 rcases Nat.le_total k xs.length with h | h
 ·rw[Nat.min_eq_left h]
 ·rw[Nat.min_eq_right h,aJ6 (aB3 _),aJ6 h]
theorem a5q{n:Nat}(h:0<n)(c:Int):∃j:Nat,j<n∧c % (n:Int)=(j:Int):=by
 have h0:=Int.emod_nonneg c (show(n:Int)≠0 by omega)
 have h1:=aU2 c (show(0:Int)<n by omega)
 exact⟨(c % n).toNat,by omega,by omega⟩
theorem b8C:IntMulOk (10 ^ (50:Int).toNat) (10 ^ (50:Int).toNat):=by unfold IntMulOk;decide +kernel
theorem a0j:∀{ns:List Int} {n:Int},n∈ns→∃j:Nat,ns[j]?=some n∧∀i,i<j→ns[i]?≠some n
 | m::ns,n,h=>by
  by_cases e:m=n
  ·exact⟨0,by simp[e],fun i hi=>by omega⟩
  ·rcases aB7.mp h with h | h
   ·exact absurd h.symm e
   ·obtain⟨j,h1,h2⟩:=a0j h
    refine⟨j+1,by simpa using h1,fun i hi=>?_⟩
    cases i with
    | zero=>simp[e]
    | succ i=>simpa using h2 i (by omega)
def pd(p:Int×Int):PyData:=.tuple [.int p.1,.int p.2]
def Ver(K:PySem.W.Frag)(H:Hp)(a:Addr)(ps:List (Int×Int)):Prop:=∃xs,d8 K H a xs∧u0 K H (ps.map pd) xs
theorem b5h{K:PySem.W.Frag}{H:Hp}{ps:List (Int×Int)}{xs:List V}{i:Nat}{x:V}(r:u0 K H (ps.map pd) xs)(e:xs[i]?=some x):∃p b,ps[i]?=some p∧x=.ref b∧i3 K H b [.int p.1,.int p.2]:=by
 obtain⟨d,h1,h2⟩:=r.at' e
 rw[aB1]at h1
 cases hp:ps[i]? with
 | none=>rw[hp]at h1;cases h1
 | some p=>
  rw[hp]at h1
  cases h1
  unfold pd Rep at h2
  obtain⟨b,ys,rfl,hq,rs⟩:=h2
  simp only[u0,Rep]at rs
  obtain⟨y1,z1,rfl,rfl,y2,z2,rfl,rfl,rfl⟩:=rs
  exact⟨p,b,rfl,rfl,hq⟩
theorem b6w{K:PySem.W.Frag}{H:Hp}{ps:List (Int×Int)}{xs:List V}{i:Nat}{p:Int×Int}(r:u0 K H (ps.map pd) xs)(e:ps[i]?=some p):∃b,xs[i]?=some (.ref b)∧i3 K H b [.int p.1,.int p.2]:=by
 obtain⟨x,h1,h2⟩:=r.at (i:=i) (d:=pd p) (by rw[aB1,e];rfl)
 obtain⟨p',b,h3,h4,h5⟩:=b5h r h1
 rw[e]at h3
 cases h3
 subst h4
 exact⟨b,h1,h5⟩
theorem b5x{K:PySem.W.Frag}{H:Hp}{ps:List (Int×Int)}{xs:List V}(r:u0 K H (ps.map pd) xs):xs.length=ps.length:=by
 have:=r.len;rw[aA0]at this;exact this.symm
theorem b5A{K:PySem.W.Frag}{H:Hp}{b:Addr}{p:Int×Int}(h:i3 K H b [.int p.1,.int p.2]):Rep K H (pd p) (.ref b):=by
 unfold pd;simp only[Rep,u0]
 exact⟨b,_,rfl,h,_,_,rfl,rfl,_,_,rfl,rfl,rfl⟩
theorem b8s:∀ps:List (Int×Int),PyData.depthAll (ps.map pd)≤1
 | []=>by rw[aJ4,PyData.depthAll];omega
 | p::r=>by rw[aC3,PyData.depthAll];have:=b8s r;simp[pd,PyData.depth,PyData.depthAll];omega
def cnt(ps:List (Int×Int))(m:Int):Nat:=(ps.filter fun p=>decide (p.1≤m)).length
theorem a7U{ps:List (Int×Int)}{i:Nat}{p:Int×Int}{m:Int}(h:ps[i]?=some p):cnt (ps.take (i+1)) m=cnt (ps.take i) m+if p.1≤m then 1 else 0:=by
 unfold cnt
 rw[PySem.take_succ_filter _ _ i p h,aA4]
 by_cases c:p.1≤m<;>simp[c]
theorem a8z(ps:List (Int×Int))(m:Int):cnt ps m≤ps.length:=aH1 _ _
theorem small{n:Nat}(h:n≤1000):n≤sizeLine:=aK8 (Q5 h)
structure Rec where
 num:Int
 beg:Int
 fin:Int
 looked:List Str
 put:List Str
def rd(r:Rec):PyData:=.tuple [.int r.num,.int r.beg,.int r.fin,.list (r.looked.map PyData.str),.list (r.put.map PyData.str)]
theorem V9{K:PySem.W.Frag}{H:Hp}:∀{ks:List Str} {xs:List V},u0 K H (ks.map PyData.str) xs↔xs=ks.map V.str
 | [],xs=>by simp[u0]
 | k::ks,xs=>by
  simp only[aC3,u0,Rep]
  constructor
  ·rintro⟨y,ys,rfl,rfl,h⟩;rw[V9.mp h]
  ·rintro rfl;exact⟨_,_,rfl,rfl,V9.mpr rfl⟩
def RecAt(K:PySem.W.Frag)(H:Hp)(r:Rec)(x:V):Prop:=∃b la pa,x=.ref b∧i3 K H b [.int r.num,.int r.beg,.int r.fin,.ref la,.ref pa]∧d8 K H la (r.looked.map V.str)∧d8 K H pa (r.put.map V.str)
theorem a2h{K:PySem.W.Frag}{H:Hp}{r:Rec}{x:V}:Rep K H (rd r) x↔RecAt K H r x:=by
 unfold rd RecAt
 simp only[Rep,u0]
 constructor
 ·rintro⟨b,xs,rfl,hq,y1,z1,rfl,rfl,y2,z2,rfl,rfl,y3,z3,rfl,rfl,y4,z4,rfl,⟨la,us,rfl,hl,rl⟩,y5,z5,rfl,⟨pa,ws,rfl,hp,rp⟩,rfl⟩
  rw[V9.mp rl]at hl
  rw[V9.mp rp]at hp
  exact⟨b,la,pa,rfl,hq,hl,hp⟩
 ·rintro⟨b,la,pa,rfl,hq,hl,hp⟩
  exact⟨b,_,rfl,hq,_,_,rfl,rfl,_,_,rfl,rfl,_,_,rfl,rfl,_,_,rfl,⟨la,_,rfl,hl,V9.mpr rfl⟩,_,_,rfl,⟨pa,_,rfl,hp,V9.mpr rfl⟩,rfl⟩
theorem b2x{K:PySem.W.Frag}{H:Hp}{rs:List Rec}{xs:List V}{i:Nat}{x:V}(h:u0 K H (rs.map rd) xs)(e:xs[i]?=some x):∃r,rs[i]?=some r∧RecAt K H r x:=by
 obtain⟨d,h1,h2⟩:=h.at' e
 rw[aB1]at h1
 cases hr:rs[i]? with
 | none=>rw[hr]at h1;cases h1
 | some r=>rw[hr]at h1;cases h1;exact⟨r,rfl,a2h.mp h2⟩
theorem RecAt.same{K:PySem.W.Frag}{H H':Hp}{r:Rec}{x:V}(s:f7 H H')(h:RecAt K H r x):RecAt K H' r x:=a2h.mp ((a2h.mpr h).same s)
abbrev Lk:=Int×Int×Str×Str
def ld(l:Lk):PyData:=.tuple [.int l.1,.int l.2.1,.str l.2.2.1,.str l.2.2.2]
def a9C(H:Hp)(l:Lk)(x:V):Prop:=∃a,x=.ref a∧H a=some (.tup [.int l.1,.int l.2.1,.str l.2.2.1,.str l.2.2.2])
def A8(H:Hp)(ls:List Lk)(xs:List V):Prop:=Paired (a9C H) ls xs
theorem A8.tupK{H H':Hp}(k:u5 H H'):∀{ls:List Lk} {xs:List V},A8 H ls xs→A8 H' ls xs
 | _,_,.nil=>.nil
 | _,_,.cons ⟨a,e,h⟩ t=>.cons ⟨a,e,k.1 _ _ h⟩ (A8.tupK k t)
theorem A8.append{H:Hp}{ms:List Lk}{ys:List V}(h:A8 H ms ys):∀{ls:List Lk} {xs:List V},A8 H ls xs→A8 H (ls++ms) (xs++ys)
 | _,_,.nil=>h
 | _,_,.cons r t=>.cons r (A8.append h t)
theorem A8.snoc{H:Hp}{l:Lk}{x:V}{ls:List Lk}{xs:List V}(t:A8 H ls xs)(h:a9C H l x):A8 H (ls++[l]) (xs++[x]):=A8.append (.cons h .nil) t
theorem A8.len{H:Hp}{ls:List Lk}{xs:List V}(h:A8 H ls xs):xs.length=ls.length:=by
 induction h with
 | nil=>rfl
 | cons _ _ ih=>simp[ih]
def part(n m:Int)(why:Str)(gs:List Str):List Lk:=gs.map fun x=>(n,m,x,why)
theorem a6x{n m:Int}{why:Str}{gs:List Str}{l:Lk}:l∈part n m why gs↔l.1=n∧l.2.1=m∧l.2.2.2=why∧l.2.2.1∈gs:=by
 unfold part
 rw[aA5]
 constructor
 ·rintro⟨x,hx,rfl⟩;exact⟨rfl,rfl,rfl,hx⟩
 ·rintro⟨rfl,rfl,rfl,h⟩;exact⟨_,h,rfl⟩
def Z4(c:Prop)(as bs gs:List Str):Prop:=gs.Nodup∧∀x,x∈gs↔c∧x∈as∧x∈bs
structure LB(one other:Rec)(ls:List Lk):Prop where
 parts:∃g1 g2 g3,ls=part one.num other.num "over" g1++part one.num other.num "saw" g2++part one.num other.num "missed" g3 ∧
  Z4 (one.fin<other.fin) one.put other.put g1∧Z4 (one.fin≤other.beg) one.put other.looked g2∧Z4 (one.beg<other.fin) one.looked other.put g3
def a7k(one other:Rec)(l:Lk):Prop:=l.1=one.num∧l.2.1=other.num ∧
 ((l.2.2.2="over"∧one.fin<other.fin∧l.2.2.1∈one.put∧l.2.2.1∈other.put)∨(l.2.2.2="saw"∧one.fin≤other.beg∧l.2.2.1∈one.put∧l.2.2.1∈other.looked)∨(l.2.2.2="missed"∧one.beg<other.fin∧l.2.2.1∈one.looked∧l.2.2.1∈other.put))
theorem LB.mem{one other:Rec}{ls:List Lk}(h:LB one other ls)(l:Lk):l∈ls↔a7k one other l:=by
 obtain⟨g1,g2,g3,rfl,⟨_,m1⟩,⟨_,m2⟩,⟨_,m3⟩⟩:=h.parts
 rw[aA9,aA9,a6x,a6x,a6x,m1,m2,m3]
 unfold a7k
 constructor
 ·rintro((⟨a,b,c,d⟩ | ⟨a,b,c,d⟩) | ⟨a,b,c,d⟩)
  ·exact⟨a,b,.inl ⟨c,d⟩⟩
  ·exact⟨a,b,.inr (.inl ⟨c,d⟩)⟩
  ·exact⟨a,b,.inr (.inr ⟨c,d⟩)⟩
 ·rintro⟨a,b,⟨c,d⟩ | ⟨c,d⟩ | ⟨c,d⟩⟩
  ·exact .inl (.inl ⟨a,b,c,d⟩)
  ·exact .inl (.inr ⟨a,b,c,d⟩)
  ·exact .inr ⟨a,b,c,d⟩
theorem LB.len{one other:Rec}{ls:List Lk}(h:LB one other ls):ls.length≤one.put.length+one.put.length+one.looked.length:=by
 obtain⟨g1,g2,g3,rfl,⟨n1,m1⟩,⟨n2,m2⟩,⟨n3,m3⟩⟩:=h.parts
 have l1:=A4 n1 fun x hx=>((m1 x).mp hx).2.1
 have l2:=A4 n2 fun x hx=>((m2 x).mp hx).2.1
 have l3:=A4 n3 fun x hx=>((m3 x).mp hx).2.1
 simp only[aA4,part,aA0]
 omega
theorem a5s{α β:Type}{F:α→β→Prop}:∀{l:List α} {m:List β} {i:Nat} {a:α},Paired F l m→l[i]?=some a→∃b,m[i]?=some b∧F a b
 | _,_,i,a,.nil,e=>by simp at e
 | _,_,0,a,.cons r t,e=>by simp at e;subst e;exact⟨_,rfl,r⟩
 | _,_,i+1,a,.cons r t,e=>by
  obtain⟨b,h1,h2⟩:=a5s t (by simpa using e)
  exact⟨b,by simpa using h1,h2⟩
theorem C2{α β:Type}{F:α→β→Prop}:∀{l:List α} {m:List β} {i:Nat} {b:β},Paired F l m→m[i]?=some b→∃a,l[i]?=some a∧F a b
 | _,_,i,a,.nil,e=>by simp at e
 | _,_,0,a,.cons r t,e=>by simp at e;subst e;exact⟨_,rfl,r⟩
 | _,_,i+1,a,.cons r t,e=>by
  obtain⟨b,h1,h2⟩:=C2 t (by simpa using e)
  exact⟨b,by simpa using h1,h2⟩
theorem p6{α β:Type}{F:α→β→Prop}{l:List α}{m:List β}(h:Paired F l m):m.length=l.length:=(aS0 h).symm
abbrev Am:=List (Str×Int)
def L5(m:Am):List (Key×V):=m.map fun p=>(Sum.inr p.1,V.int p.2)
def n9(m:Am)(g:Str):Option Int:=(m.find? fun p=>decide (p.1=g)).map (·.2)
def G3(m:Am)(g:Str)(a:Int):Am:=if (m.any fun p=>decide (p.1=g))=true then m.map (fun p=>if p.1=g then(p.1,a) else p) else m++[(g,a)]
theorem a1s(g k:Str):decide ((Sum.inr g:Key)=Sum.inr k)=decide (g=k):=by
 by_cases e:g=k
 ·subst e;simp
 ·rw[aB2 e,aB2 fun z=>e (aN6 z)]
theorem a4i(m:Am)(g:Str):C1 (L5 m) (Sum.inr g)=(n9 m g).map V.int:=by
 unfold C1 L5 n9
 induction m with
 | nil=>rfl
 | cons p m ih=>
  rw[aC3,aH7,aH7,a1s]
  by_cases e:p.1=g
  ·rw[aC4 e];rfl
  ·rw[aB2 e];exact ih
theorem a2I(m:Am)(g:Str)(a:Int):putK (L5 m) (Sum.inr g) (V.int a)=L5 (G3 m g a):=by
 unfold putK G3
 have e:(L5 m).any (fun kv=>decide (kv.1=(Sum.inr g:Key)))=m.any fun p=>decide (p.1=g):=by
  unfold L5
  rw[List.any_map]
  congr 1;funext p;exact a1s p.1 g
 rw[e]
 split
 ·unfold L5
  rw[aE8,aE8]
  refine aE5 fun p _=>?_
  show(if (Sum.inr p.1:Key)=Sum.inr g then _ else _)=_
  by_cases z:p.1=g
  ·rw[aB4 (by rw[z])];simp only[Function.comp,aB4 z]
  ·rw[aA8 fun w=>z (aN6 w)];simp only[Function.comp,aA8 z]
 ·unfold L5
  rw[aB5];rfl
theorem a9T(m:Am)(g:Str)(a:Int):(G3 m g a).length≤m.length+1:=by
 unfold G3;split<;>simp
theorem b9e(m:Am)(g:Str)(a:Int):(G3 m g a).map (·.1)=if (m.any fun p=>decide (p.1=g))=true then m.map (·.1) else m.map (·.1)++[g]:=by
 unfold G3;split
 ·rw[aE8]
  refine aE5 fun p _=>?_
  by_cases z:p.1=g
  ·simp only[Function.comp,aB4 z]
  ·simp only[Function.comp,aA8 z]
 ·rw[aB5];rfl
def Z0(m:Addr)(H H':Hp):Prop:=∀b o,b≠m→H b=some o→H' b=some o
theorem Z0.refl(m:Addr)(H:Hp):Z0 m H H:=fun _ _ _ h=>h
theorem Z0.trans{m:Addr}{H H1 H2:Hp}(a:Z0 m H H1)(b:Z0 m H1 H2):Z0 m H H2:=fun c o n h=>b c o n (a c o n h)
theorem Z0.same{m:Addr}{H H1 H2:Hp}(a:Z0 m H H1)(b:f7 H1 H2):Z0 m H H2:=fun c o n h=>b c o (a c o n h)
theorem Z0.upd{m:Addr}{H H1:Hp}{o:HO}(a:Z0 m H H1):Z0 m H (upd H1 m o):=fun c u n h=>by rw[c9 n];exact a c u n h
def b4r(H:Hp)(p:Str×Int)(x:V):Prop:=∃a,x=.ref a∧H a=some (.tup [.str p.1,.int p.2])
def Prs(H:Hp)(tb:Am)(xs:List V):Prop:=Paired (b4r H) tb xs
theorem Prs.tupK{H H':Hp}(k:u5 H H'){tb:Am}{xs:List V}(h:Prs H tb xs):Prs H' tb xs:=Paired.mapP h fun _ _ ⟨p,e,h⟩=>⟨p,e,k.1 _ _ h⟩
def prD(p:Str×Int):PyData:=.tuple [.str p.1,.int p.2]
theorem b4r.rep{K:PySem.W.Frag}{H:Hp}{p:Str×Int}{x:V}(h:b4r H p x):Rep K H (prD p) x:=by
 obtain⟨a,rfl,h⟩:=h
 unfold prD;simp only[Rep,u0]
 exact⟨a,_,rfl,i3.of h,_,_,rfl,rfl,_,_,rfl,rfl,rfl⟩
theorem a0Z{p:Str×Int}(h:PyData.strOk p.1=true):(prD p).canLay0=true:=by
 unfold prD;simp[PyData.canLay0,PyData.canLayAll0];exact h
theorem b7h(p:Str×Int):(prD p).depth≤60:=by
 unfold prD;simp[PyData.depth,PyData.depthAll]
def m7(ks:List Int)(g:Int→V):List (Key×V):=ks.map fun n=>(Sum.inl n,g n)
theorem a9R(n m:Int):decide ((Sum.inl n:Key)=Sum.inl m)=decide (n=m):=by
 by_cases e:n=m
 ·subst e;simp
 ·rw[aB2 e,aB2 fun z=>e (Sum.inl.inj z)]
theorem u3{ks:List Int}{g:Int→V}{n:Int}:C1 (m7 ks g) (Sum.inl n)=if n∈ks then some (g n) else none:=by
 unfold C1 m7
 induction ks with
 | nil=>rfl
 | cons k ks ih=>
  rw[aC3,aH7,a9R]
  by_cases e:k=n
  ·subst e;simp
  ·rw[aB2 e]
   have:(n∈k::ks)↔n∈ks:=by
    rw[aB7];exact⟨fun z=>z.elim (fun w=>absurd w.symm e) id,.inr⟩
   simp only[this];exact ih
theorem V4{ks:List Int}{g g':Int→V}(h:∀n∈ks,g n=g' n):m7 ks g=m7 ks g':=by
 unfold m7;exact aE5 fun n hn=>by rw[h n hn]
def a3b(g:Int→V)(n:Int)(v:V):Int→V:=fun m=>if m=n then v else g m
theorem a2f{g:Int→V}{n:Int}{v:V}:a3b g n v n=v:=aB4 rfl
theorem a7r{g:Int→V}{n m:Int}{v:V}(h:m≠n):a3b g n v m=g m:=aA8 h
theorem M7{ks:List Int}{g:Int→V}{n:Int}{v:V}:putK (m7 ks g) (Sum.inl n) v=m7 (if n∈ks then ks else ks++[n]) (a3b g n v):=by
 unfold putK
 have e:(m7 ks g).any (fun kv=>decide (kv.1=(Sum.inl n:Key)))=decide (n∈ks):=by
  unfold m7
  rw[List.any_map]
  induction ks with
  | nil=>rfl
  | cons k ks ih=>
   rw[aL1,ih]
   show(decide ((Sum.inl k:Key)=Sum.inl n)||_)=_
   rw[a9R]
   by_cases z:k=n
   ·subst z;simp
   ·have z':¬n=k:=fun w=>z w.symm
    simp[z,z']
 rw[e]
 by_cases hn:n∈ks
 ·rw[aB4 (by simpa using hn),aB4 hn]
  unfold m7
  rw[aE8]
  refine aE5 fun m _=>?_
  show(if (Sum.inl m:Key)=Sum.inl n then _ else _)=_
  by_cases z:m=n
  ·rw[aB4 (by rw[z]),z,a2f]
  ·rw[aA8 fun w=>z (Sum.inl.inj w),a7r z]
 ·rw[aA8 (by simpa using hn),aA8 hn]
  unfold m7
  rw[aB5]
  congr 1
  ·exact aE5 fun m hm=>by rw[a7r fun z:m=n=>hn (by rw[←z];exact hm)]
  ·show [(Sum.inl n,v)]=[(Sum.inl n,a3b g n v n)]
   rw[a2f]
theorem K8(ks:List Int)(g:Int→V):(m7 ks g).length=ks.length:=aA0 _
def a2b(ls:List Lk)(row:List Int)(n:Int):Nat:=ls.countP fun l=>decide (l.2.1=n)&&decide (l.1∉row)
def K5(fs:List Lk)(n:Int):Nat:=fs.countP fun l=>decide (l.2.1=n)
theorem a1k{row:List Int}{m:Int}(hm:m∉row)(n:Int):∀ls:List Lk,a2b ls row n=a2b ls (row++[m]) n+K5 (ls.filter fun l=>decide (l.1=m)) n
 | []=>rfl
 | l::ls=>by
  have ih:=a1k hm n ls
  unfold a2b K5 at ih ⊢
  rw[List.countP_cons,List.countP_cons,ih]
  by_cases e:l.1=m
  ·rw[List.filter_cons_of_pos (by simpa using e),List.countP_cons]
   have h1:decide (l.1∉row)=true:=aC4 (by rw[e];exact hm)
   have h2:decide (l.1∉row++[m])=false:=aB2 fun z=>z (by rw[e];simp)
   rw[h1,h2,Bool.and_true,aS4]
   have h3:(if (false:Bool)=true then 1 else 0)=0:=rfl
   rw[h3]
   omega
  ·rw[List.filter_cons_of_neg (by simpa using e)]
   have h1:decide (l.1∉row++[m])=decide (l.1∉row):=by
    by_cases z:l.1∈row
    ·rw[aB2 fun w=>w (aE3 _ z),aB2 fun w=>w z]
    ·rw[aC4 z,aC4]
     intro w
     rcases aA9.mp w with w | w
     ·exact z w
     ·exact e (aA3.mp w)
   rw[h1]
   omega
theorem a8C{fs:List Lk}{j:Nat}{l:Lk}(h:fs[j]?=some l)(n:Int):K5 (fs.take (j+1)) n=K5 (fs.take j) n+if l.2.1=n then 1 else 0:=by
 unfold K5
 rw[aD3,h,aG5,List.countP_append,List.countP_singleton]
 by_cases e:l.2.1=n
 ·simp[e]
 ·simp[e]
theorem b7o(fs:List Lk)(j:Nat)(n:Int):K5 (fs.take j) n≤K5 fs n:=(aK5 j fs).countP_le
theorem b9j{ls:List Lk}{row:List Int}{n:Int}(h:a2b ls row n=0){l:Lk}(hl:l∈ls)(e:l.2.1=n):l.1∈row:=by
 unfold a2b at h
 rw[List.countP_eq_zero]at h
 have:=h l hl
 simp[e]at this
 exact this
theorem b3s{ls:List Lk}{row:List Int}{n:Int}(h:a2b ls row n≠0):∃l∈ls,l.2.1=n∧l.1∉row:=by
 unfold a2b at h
 obtain⟨l,hl,e⟩:=List.countP_pos_iff.mp (Nat.pos_of_ne_zero h)
 simp at e
 exact⟨l,hl,e.1,e.2⟩
def ahead(row:List Int)(x y:Int):Prop:=∃i j:Nat,i<j∧row[i]?=some x∧row[j]?=some y
theorem b8d{row:List Int}{x y:Int}(h:ahead row x y)(r:List Int):ahead (row++r) x y:=by
 obtain⟨i,j,a,b,c⟩:=h
 have hi:=(aA2.mp b).1
 have hj:=(aA2.mp c).1
 exact⟨i,j,a,by rw[aE0 hi];exact b,by rw[aE0 hj];exact c⟩
theorem b1a{row:List Int}{x y:Int}(h:x∈row):ahead (row++[y]) x y:=by
 obtain⟨i,hi⟩:=aD9.mp h
 have lt:=(aA2.mp hi).1
 exact⟨i,row.length,lt,by rw[aE0 lt];exact hi,by simp⟩
structure RI(ns:List Int)(ls:List Lk)(row ready:List Int)(f:Int→Int):Prop where
 nd:(row++ready).Nodup
 sub:∀n∈row++ready,n∈ns
 cl:∀l∈ls,l.2.1∈row→ahead row l.1 l.2.1
 fv:∀n∈ns,f n=(a2b ls row n:Int)
 z:∀n∈ns,n∈row++ready↔f n=0
structure RJ(ns:List Int)(ls:List Lk)(row:List Int)(m:Int)(ready:List Int)(f:Int→Int)(j:Nat):Prop where
 nm:m∉row
 nd:(row++[m]++ready).Nodup
 sub:∀n∈row++[m]++ready,n∈ns
 cl:∀l∈ls,l.2.1∈row++[m]→ahead (row++[m]) l.1 l.2.1
 fv:∀n∈ns,f n+(K5 ((ls.filter fun l=>decide (l.1=m)).take j) n:Int)=(a2b ls row n:Int)
 z:∀n∈ns,n∈row++[m]++ready↔f n=0
theorem RI.start{ns:List Int}{ls:List Lk}{f:Int→Int}(hn:ns.Nodup)(hf:∀n∈ns,f n=(K5 ls n:Int)):RI ns ls [] (ns.filter fun n=>decide (f n=0)) f:=by
 refine⟨by rw[aP0];exact hn.filter _,fun n h=>by rw[aP0]at h;exact(aD2.mp h).1,fun l _ h=>by simp at h,fun n h=>?_,fun n h=>?_⟩
 ·rw[hf n h];unfold a2b K5;simp
 ·rw[aP0,aD2];simp[h]
theorem RI.pop{ns:List Int}{ls:List Lk}{row ready:List Int}{f:Int→Int}{m:Int}(h:RI ns ls row (ready++[m]) f):RJ ns ls row m ready f 0:=by
 have p:(row++(ready++[m])).Perm (row++[m]++ready):=by
  rw[aG0]
  exact(List.perm_append_comm).append_left row
 have nd:=p.nodup_iff.mp h.nd
 have nm:m∉row:=fun z=>by
  have:=(aD4.mp (aD4.mp nd).1).2.2 m z m (by simp)
  exact this rfl
 have zm:f m=0:=(h.z m (h.sub m (by simp))).mp (by simp)
 have cm:a2b ls row m=0:=by have:=h.fv m (h.sub m (by simp));omega
 refine⟨nm,nd,fun n hn=>h.sub n (p.mem_iff.mpr hn),fun l hl e=>?_,fun n hn=>by rw[h.fv n hn];simp[K5],fun n hn=>by rw[←h.z n hn];exact p.mem_iff.symm⟩
 rcases aA9.mp e with e | e
 ·exact b8d (h.cl l hl e) _
 ·have e:=aA3.mp e
  rw[e]
  exact b1a (b9j cm hl e)
theorem RJ.done{ns:List Int}{ls:List Lk}{row ready:List Int}{f:Int→Int}{m:Int}{j:Nat}(h:RJ ns ls row m ready f j)(hj:(ls.filter fun l=>decide (l.1=m)).length≤j):RI ns ls (row++[m]) ready f:=by
 refine⟨h.nd,h.sub,h.cl,fun n hn=>?_,h.z⟩
 have a:=h.fv n hn
 rw[aJ6 hj]at a
 have b:=a1k h.nm n ls
 omega
def a2p(f:Int→Int)(n:Int)(v:Int):Int→Int:=fun m=>if m=n then v else f m
theorem RJ.step{ns:List Int}{ls:List Lk}{row ready:List Int}{f:Int→Int}{m:Int}{j:Nat}{l:Lk}(h:RJ ns ls row m ready f j)(hl:(ls.filter fun l=>decide (l.1=m))[j]?=some l)(hin:l.2.1∈ns) :
  RJ ns ls row m (if f l.2.1-1=0 then ready++[l.2.1] else ready) (a2p f l.2.1 (f l.2.1-1)) (j+1):=by
 have a:=h.fv _ hin
 have b:=a1k h.nm l.2.1 ls
 have c:=a8C hl l.2.1
 rw[aB4 rfl]at c
 have d:=b7o (ls.filter fun l=>decide (l.1=m)) (j+1) l.2.1
 have fp:f l.2.1≠0:=by omega
 have nin:l.2.1∉row++[m]++ready:=fun z=>fp ((h.z _ hin).mp z)
 have ff:∀n∈ns,a2p f l.2.1 (f l.2.1-1) n+(K5 ((ls.filter fun l=>decide (l.1=m)).take (j+1)) n:Int)=(a2b ls row n:Int):=fun n hn=>by
  have a:=h.fv n hn
  have c:=a8C hl n
  unfold a2p
  by_cases e:n=l.2.1
  ·subst e;rw[aB4 rfl];rw[aB4 rfl]at c;omega
  ·rw[aA8 e];rw[aA8 fun z=>e z.symm]at c;omega
 by_cases e:f l.2.1-1=0
 ·rw[aB4 e]
  refine⟨h.nm,?_,fun n hn=>?_,h.cl,ff,fun n hn=>?_⟩
  ·rw[←aG0,aD4]
   refine⟨h.nd,by simp,fun x hx y hy=>?_⟩
   rw[aA3.mp hy]
   rintro rfl
   exact nin hx
  ·rw[←aG0]at hn
   rcases aA9.mp hn with hn | hn
   ·exact h.sub n hn
   ·rw[aA3.mp hn];exact hin
  ·rw[←aG0,aA9,aA3]
   unfold a2p
   by_cases en:n=l.2.1
   ·subst en;rw[aB4 rfl];exact⟨fun _=>e,fun _=>.inr rfl⟩
   ·rw[aA8 en,←h.z n hn];exact⟨fun w=>w.elim id fun w=>absurd w en,.inl⟩
 ·rw[aA8 e]
  refine⟨h.nm,h.nd,h.sub,h.cl,ff,fun n hn=>?_⟩
  unfold a2p
  by_cases en:n=l.2.1
  ·subst en;rw[aB4 rfl];exact⟨fun w=>absurd w nin,fun w=>absurd w e⟩
  ·rw[aA8 en];exact h.z n hn
structure b3a(ns:List Int)(ls:List Lk)(row:List Int):Prop where
 nd:row.Nodup
 sub:∀n∈row,n∈ns
 cl:∀l∈ls,l.2.1∈row→ahead row l.1 l.2.1
 out:∀n∈ns,n∉row→∃l∈ls,l.2.1=n∧l.1∉row
theorem RI.row{ns:List Int}{ls:List Lk}{row:List Int}{f:Int→Int}(h:RI ns ls row [] f):b3a ns ls row:=by
 refine⟨by simpa using h.nd,fun n hn=>h.sub n (by simpa using hn),h.cl,fun n hn ho=>?_⟩
 refine b3s fun z=>ho ?_
 have:=(h.z n hn).mpr (by rw[h.fv n hn,z];rfl)
 simpa using this
theorem RJ.len{ns:List Int}{ls:List Lk}{row ready:List Int}{f:Int→Int}{m:Int}{j:Nat}(h:RJ ns ls row m ready f j):row.length+1+ready.length≤ns.length:=by
 have:=A4 h.nd h.sub
 simp only[aA4,aE6]at this;omega
structure a7q(ns:List Int)(ls:List Lk)(row:List Int):Prop where
 perm:row.Perm ns
 nd:row.Nodup
 keeps:∀l∈ls,ahead row l.1 l.2.1
theorem b3a.all{ns:List Int}{ls:List Lk}{row:List Int}(h:b3a ns ls row)(hn:ns.Nodup)(hl:row.length=ns.length)(hin:∀l∈ls,l.2.1∈ns):a7q ns ls row:=by
 have all:∀n∈ns,n∈row:=fun n hns=>aI3 fun z=>by
  have:=A4 (l:=n::row) (m:=ns) (aG4.mpr ⟨z,h.nd⟩) fun x hx=>by
   rcases aB7.mp hx with e | e
   ·rw[e];exact hns
   ·exact h.sub x e
  rw[aE4]at this;omega
 exact⟨a6i h.nd hn fun x=>⟨h.sub x,all x⟩,h.nd,fun l hl=>h.cl l hl (all _ (hin l hl))⟩
structure Ring(rg:List Lk):Prop where
 ne:rg≠[]
 nd:(rg.map (·.1)).Nodup
 next:∀(i:Nat) l,rg[i]?=some l→∃m,rg[if i=0 then rg.length-1 else i-1]?=some m∧l.1=m.2.1
structure Wk(L:List Lk)(W:List Lk)(n:Int):Prop where
 sub:∀l∈W,l∈L
 nd:(W.map fun l=>l.2.1).Nodup
 chain:∀(i:Nat) l m,W[i]?=some l→W[i+1]?=some m→m.2.1=l.1
 last:∀l,W[W.length-1]?=some l→n=l.1
 on:∃l∈L,l.2.1=n
theorem Wk.len{L W:List Lk}{n:Int}(h:Wk L W n):W.length≤L.length:=by
 have:=A4 (l:=W.map fun l=>l.2.1) (m:=L.map fun l=>l.2.1) h.nd fun x hx=>by
  obtain⟨l,hl,e⟩:=aA5.mp hx
  exact aA5.mpr ⟨l,h.sub l hl,e⟩
 simpa using this
theorem Wk.step{L W:List Lk}{n:Int}{l:Lk}(h:Wk L W n)(hn:n∉W.map fun l=>l.2.1)(hl:l∈L)(e:l.2.1=n)(ho:∃m∈L,m.2.1=l.1):Wk L (W++[l]) l.1:=by
 refine⟨fun m hm=>?_,?_,fun i a b ha hb=>?_,fun m hm=>?_,ho⟩
 ·rcases aA9.mp hm with hm | hm
  ·exact h.sub m hm
  ·rw[aA3.mp hm];exact hl
 ·rw[aB5,aD4]
  refine⟨h.nd,by simp,fun x hx y hy=>?_⟩
  have hy:y=l.2.1:=by simpa using hy
  rw[hy,e]
  rintro rfl
  exact hn hx
 ·have lt:=(aA2.mp hb).1
  rw[aA4,aE6]at lt
  by_cases c:i+1<W.length
  ·rw[aE0 (by omega)]at ha
   rw[aE0 c]at hb
   exact h.chain i a b ha hb
  ·have ei:i+1=W.length:=by omega
   rw[aE0 (by omega)]at ha
   rw[aF0 (by omega),show i+1-W.length=0 by omega]at hb
   have hb:l=b:=by simpa using hb
   rw[←hb,e]
   exact h.last a (by rw[←ei];simpa using ha)
 ·rw[aA4,aE6,show W.length+1-1=W.length by omega,aF0 (aB3 _),aR5]at hm
  have hm:l=m:=by simpa using hm
  rw[hm]
theorem b5o{l:List Int}(h:∀a b:Nat,a<b→b<l.length→l[a]?≠l[b]?):l.Nodup:=
 aM7.mpr fun i j hi hj hij e=>h i j hij hj (by rw[List.getElem?_eq_getElem hi,List.getElem?_eq_getElem hj,e])
theorem Wk.ring{L W:List Lk}{n:Int}{i:Nat}{l:Lk}(h:Wk L W n)(hi:W[i]?=some l)(e:l.2.1=n):Ring (W.drop i).reverse∧∀m∈(W.drop i).reverse,m∈L:=by
 have li:=(aA2.mp hi).1
 have ld:(W.drop i).length=W.length-i:=aH8
 have rat:∀j,j<W.length-i→(W.drop i).reverse[j]?=W[W.length-1-j]?:=fun j hj=>by
  rw[List.getElem?_reverse (by rw[ld];exact hj),aI7,ld]
  congr 1;omega
 refine⟨⟨fun z=>?_,?_,fun j m hm=>?_⟩,fun m hm=>h.sub m (aS1 (List.mem_reverse.mp hm))⟩
 ·have:=congrArg List.length z
  rw[aN3,ld]at this
  simp at this;omega
 ·
  rw[List.map_reverse,(List.reverse_perm _).nodup_iff]
  refine b5o fun a b hab hb=>?_
  rw[aA0,ld]at hb
  rw[aB1,aB1,aI7,aI7]
  have nx:∀k,i≤k→k<W.length→∃x y,W[k]?=some x∧W[if k+1=W.length then i else k+1]?=some y∧x.1=y.2.1:=fun k _ hk=>by
   refine⟨W[k],?_⟩
   by_cases c:k+1=W.length
   ·rw[aB4 c]
    refine⟨l,List.getElem?_eq_getElem hk,hi,?_⟩
    rw[e]
    exact(h.last _ (by rw[←c];simpa using List.getElem?_eq_getElem hk)).symm
   ·rw[aA8 c]
    have hk1:k+1<W.length:=by omega
    exact⟨W[k+1],List.getElem?_eq_getElem hk,List.getElem?_eq_getElem hk1,(h.chain k _ _ (List.getElem?_eq_getElem hk) (List.getElem?_eq_getElem hk1)).symm⟩
  obtain⟨x,y,h1,h2,h3⟩:=nx (i+a) (by omega) (by omega)
  obtain⟨x',y',h1',h2',h3'⟩:=nx (i+b) (by omega) (by omega)
  rw[h1,h1']
  intro z
  have z:x.1=x'.1:=by simpa using z
  rw[h3,h3']at z
  have inj:∀(p q:Nat) (u v:Lk),W[p]?=some u→W[q]?=some v→u.2.1=v.2.1→p=q:=fun p q u v hu hv huv=>by
   refine(aF4 (l:=W.map fun l=>l.2.1) (by rw[aA0];exact(aA2.mp hu).1) h.nd).mp ?_
   rw[aB1,aB1,hu,hv];simpa using huv
  have:=inj _ _ _ _ h2 h2' z
  split at this<;>split at this<;>omega
 ·have lj:=(aA2.mp hm).1
  rw[aN3,ld]at lj
  rw[aN3,ld]
  rw[rat j lj]at hm
  by_cases c:j=0
  ·subst c
   rw[aB4 rfl,rat _ (by omega)]
   refine⟨l,?_,?_⟩
   ·rw[show W.length-1-(W.length-i-1)=i by omega];exact hi
   ·rw[e];exact(h.last m (by simpa using hm)).symm
  ·rw[aA8 c,rat _ (by omega)]
   have hk:W.length-1-(j-1)<W.length:=by omega
   refine⟨W[W.length-1-(j-1)],List.getElem?_eq_getElem hk,?_⟩
   have e1:W.length-1-(j-1)=(W.length-1-j)+1:=by omega
   exact(h.chain (W.length-1-j) m _ hm (by rw[←e1];exact List.getElem?_eq_getElem hk)).symm
theorem r9{n:Nat}(h:n≤10000000):n<sizeLine:=by rw[aG2];omega
def lat(pl:Nat)(l:Lk):Int:=if pl=0 then l.1 else l.2.1
def lkV(l:Lk):List V:=[.int l.1,.int l.2.1,.str l.2.2.1,.str l.2.2.2]
theorem b8y{pl:Nat}(h:pl≤1)(l:Lk):F7 (lkV l) (pl:Int)=some (.int (lat pl l)):=by
 rcases(show pl=0∨pl=1 by omega) with rfl | rfl
 ·exact j0 rfl
 ·exact j0 rfl
theorem A8.get{H:Hp}{ls:List Lk}{xs:List V}{i:Nat}{x:V}(h:A8 H ls xs)(e:xs[i]?=some x):∃l,ls[i]?=some l∧a9C H l x:=C2 h e
structure By(H:Hp)(d:Addr)(pl:Nat)(ns:List Int)(ls:List Lk)(ps:Int→Addr)(H':Hp):Prop where
 sm:f7 H H'
 no:H d=none
 fr:∀n∈ns,H (ps n)=none∧ps n≠d
 inj:∀n∈ns,∀m∈ns,ps n=ps m→n=m
 at':H' d=some (.dK (m7 ns fun n=>.ref (ps n)))
 ls:∀n∈ns,∃ys,H' (ps n)=some (.lst ys)∧A8 H' (ls.filter fun l=>decide (lat pl l=n)) ys
theorem By.new{H H1 H2:Hp}{d:Addr}{pl:Nat}{ns:List Int}{ls:List Lk}{ps:Int→Addr}(b:By H d pl ns ls ps H1)(s:f7 H1 H2):By H d pl ns ls ps H2:=
 ⟨b.sm.trans s,b.no,b.fr,b.inj,s _ _ b.at',fun n hn=>let ⟨ys,h1,h2⟩:=b.ls n hn;⟨ys,s _ _ h1,h2.tupK s.tupK⟩⟩
theorem P1{H:Hp}{a:Addr}{o:HO}{kvs:List (Key×V)}(h:H a=some (.dK kvs)):u5 H (upd H a o):=
 ⟨fun b xs e=>by rw[c9 (a3A e h (by intro z;cases z))];exact e,fun b o xs e=>by rw[c9 (a3A e h (by intro z;cases z))];exact e⟩
theorem By.add{H H1:Hp}{d p:Addr}{pl:Nat}{ns:List Int}{ps:Int→Addr}{n:Int}(b:By H d pl ns [] ps H1)(hn:n∉ns)(hp:H1 p=none) :
  By H d pl (ns++[n]) [] (fun m=>if m=n then p else ps m) (upd (upd H1 p (.lst [])) d (.dK (putK (m7 ns fun n=>.ref (ps n)) (Sum.inl n) (.ref p)))):=by
 have pd:p≠d:=fun z=>by rw[z,b.at']at hp;cases hp
 have hpH:H p=none:=by
  cases z:H p with
  | none=>rfl
  | some o=>rw[b.sm _ _ z]at hp;cases hp
 have off:∀m∈ns,m≠n:=fun m hm z=>hn (z▸hm)
 have npm:∀m∈ns,ps m≠p:=fun m hm z=>by obtain⟨ys,h1,_⟩:=b.ls m hm;rw[z,hp]at h1;cases h1
 refine⟨l7 (b.sm.trans (b8 hp)) b.no,b.no,fun m hm=>?_,fun m hm k hk e=>?_,?_,fun m hm=>?_⟩
 ·rcases aA9.mp hm with hm | hm
  ·rw[aA8 (off m hm)];exact b.fr m hm
  ·rw[aB4 (aA3.mp hm)];exact⟨hpH,pd⟩
 ·rcases aA9.mp hm with hm | hm<;>rcases aA9.mp hk with hk | hk
  ·rw[aA8 (off m hm),aA8 (off k hk)]at e;exact b.inj m hm k hk e
  ·rw[aA8 (off m hm),aB4 (aA3.mp hk)]at e;exact absurd e (npm m hm)
  ·rw[aB4 (aA3.mp hm),aA8 (off k hk)]at e;exact absurd e.symm (npm k hk)
  ·rw[aA3.mp hm,aA3.mp hk]
 ·rw[b6,M7,aA8 hn]
  congr 2
  refine V4 fun m _=>?_
  unfold a3b
  by_cases e:m=n
  ·rw[aB4 e,aB4 e]
  ·rw[aA8 e,aA8 e]
 ·rcases aA9.mp hm with hm | hm
  ·obtain⟨ys,h1,h2⟩:=b.ls m hm
   refine⟨ys,?_,(h2.tupK (J0 hp)).tupK (P1 (b8 hp _ _ b.at'))⟩
   rw[aA8 (off m hm),c9 (b.fr m hm).2]
   exact b8 hp _ _ h1
  ·rw[aB4 (aA3.mp hm)]
   exact⟨[],by rw[c9 pd];exact b6,.nil⟩
theorem By.push{H H1:Hp}{d:Addr}{pl:Nat}{ns:List Int}{ls:List Lk}{ps:Int→Addr}{l:Lk}{x:V}{ys:List V}(b:By H d pl ns ls ps H1)(hl:lat pl l∈ns)(hx:a9C H1 l x)(hy:H1 (ps (lat pl l))=some (.lst ys)) :
  By H d pl ns (ls++[l]) ps (upd H1 (ps (lat pl l)) (.lst (ys++[x]))):=by
 have f:=b.fr _ hl
 have k:=n4 (o:=.lst (ys++[x])) hy
 refine⟨l7 b.sm f.1,b.no,b.fr,b.inj,by rw[c9 (Ne.symm f.2)];exact b.at',fun n hn=>?_⟩
 obtain⟨zs,h1,h2⟩:=b.ls n hn
 rw[aP6]
 by_cases e:lat pl l=n
 ·subst e
  rw[hy]at h1;cases h1
  refine⟨_,b6,?_⟩
  rw[aH9,aB4 (aC4 rfl),List.filter_nil]
  obtain⟨a,e1,e2⟩:=hx
  exact(h2.tupK k).snoc ⟨a,e1,k.1 _ _ e2⟩
 ·refine⟨zs,by rw[c9 fun z=>e (b.inj _ hl _ hn z.symm)];exact h1,?_⟩
  rw[aH9,aA8 (by simpa using e),List.filter_nil,aI6]
  exact h2.tupK k
inductive a0V(K:PySem.W.Frag)(vs:List V)(H:Hp)(Q:VK):Prop
 | mk (pl:Nat) (a b:Addr) (ns:List Int) (ls:List Lk) (xs:List V) (x0:vs=[.int (pl:Int),.ref a,.ref b]) (x1:pl≤1) (x2:d8 K H a (ns.map V.int)) (x3:ns.Nodup) (x4:d8 K H b xs) (x5:A8 H ls xs) (x6:(∀l∈ls,lat pl l∈ns)) (x7:ns.length≤10000) (x8:ls.length≤10000000) (xq:∀(d:Addr) (ps:Int→Addr) (H':Hp),By H d pl ns ls ps H'→Q (.ref d) H')
def a3W(K:PySem.W.Frag):Sp:=fun vs H Q _=>a0V K vs H Q
theorem a1u(T:B6 K mg t):g9 P w K mg base A3 1 t.f_links_by t.d_links_by ["place","numbers","links"] (a3W K):=by
 refine T.F_links_by.ok Y8 (fun vs H Q E h=>?_) (fun cdv A outer s H vs Q E hr h=>?_)
 ·obtain⟨pl,a,b,ns,ls,xs,rfl,_⟩:=h
  rfl
 obtain⟨pl,a,b,ns,ls,xs,rfl,hpl,hA,nd,hB,hL,hin,z1,z2,q⟩:=h
 have hu:=O0 hr
 refine⟨_,(b9 (g8 (i:=3) Y8.nd rfl (Or.inl rfl) G0)
 (b9 (y6 aE1 rfl (u6 (pv 1)) (l6 (i:=4) Y8.nd rfl (Or.inl rfl))
 (d6 (J2 hu (pv 3) (pv 4) (m6 b7) rfl)))
 (b9 (y6 aE1 rfl (u6 (pv 2)) (l6 (i:=5) Y8.nd rfl (Or.inl rfl))
 (d6 (m8 (v9 aB0 aB6 aB8 n6 (v8 hu (pv 3) (d7 f6 (pv 5) (pv 0) (fun _ _=>rfl)) (fun _ _=>rfl)) (b0 (pv 5) b7)))))
 (d6 (i4 (pv 3)))))),?_⟩
 refine fun d hd=>?_
 refine⟨_,rfl,a,rfl,⟨_,hA.same (b8 hd)⟩,?_⟩
 have ln:(ns.map V.int).length=ns.length:=aA0 _
 refine A7 (xs:=ns.map V.int) (fun i σ' H'=>∃o4 ps,σ'=[some (.int (pl:Int)),some (.ref a),some (.ref b),some (.ref d),o4,none]∧By H d pl (ns.take i) [] ps H')
  ⟨none,fun _=>d,rfl,b8 hd,hd,(fun n h=>by simp at h),(fun n h=>by simp at h),b6,fun n h=>by simp at h⟩ (fun i σ' H' _ h=>?_) (fun i x σ' H' hx h=>?_) (fun σ' H' h=>?_)
 ·obtain⟨o4,ps,rfl,B⟩:=h
  exact hA.same B.sm
 ·obtain⟨o4,ps,rfl,B⟩:=h
  rw[aB1]at hx
  obtain⟨n,hn,rfl⟩:=aD8.mp hx
  have li:=(aA2.mp hn).1
  have tk:ns.take (i+1)=ns.take i++[n]:=by rw[aD3,hn];rfl
  have nn:n∉ns.take i:=fun z=>by
   have nd':(ns.take (i+1)).Nodup:=nd.sublist (aK5 _ _)
   rw[tk,aD4]at nd'
   exact nd'.2.2 n z n (by simp) rfl
  refine⟨(l8 0),fun p hp=>?_⟩
  refine⟨_,rfl,_,rfl,d,_,rfl,N6.k (k:=Sum.inl n) (b8 hp _ _ B.at') (r9 (by rw[K8,aD0];omega)),?_⟩
  refine⟨_,(fun m=>if m=n then p else ps m),rfl,?_⟩
  rw[tk]
  exact B.add nn hp
 ·obtain⟨o4,ps,rfl,B⟩:=h
  rw[ln,aD5]at B
  refine⟨_,rfl,b,rfl,⟨_,hB.same B.sm⟩,?_⟩
  have lx:=hL.len
  refine A7 (xs:=xs) (fun i σ2 H2=>∃o5,σ2=[some (.int (pl:Int)),some (.ref a),some (.ref b),some (.ref d),o4,o5]∧By H d pl ns (ls.take i) ps H2)
   ⟨none,rfl,B⟩ (fun i σ2 H2 _ h=>?_) (fun i x σ2 H2 hx h=>?_) (fun σ2 H2 h=>?_)
  ·obtain⟨o5,rfl,B2⟩:=h
   exact hB.same B2.sm
  ·obtain⟨o5,rfl,B2⟩:=h
   obtain⟨l,hl,hlx⟩:=hL.get hx
   have hm:=aC8 hl
   have hi:=hin l hm
   have li:=(aA2.mp hl).1
   have tk:ls.take (i+1)=ls.take i++[l]:=by rw[aD3,hl];rfl
   obtain⟨ys,hy,Ly⟩:=B2.ls _ hi
   obtain⟨c,rfl,hc⟩:=hlx
   have hc2:=B2.sm _ _ hc
   have dg:=z6.k (k:=Sum.inl (lat pl l)) B2.at'
   rw[u3,aB4 hi]at dg
   have ly:ys.length≤i:=by
    rw[Ly.len]
    refine aD7 (aH1 _ _) ?_
    rw[aD0];omega
   refine⟨_,rfl,_,rfl,_,rfl,c,_,_,_,rfl,rfl,i3.of hc2,b8y hpl l,d,_,rfl,dg,.inl ⟨rfl,_,d8.of hy⟩,_,rfl,ps (lat pl l),ys,_,rfl,rfl,hy,r9 (by omega),?_⟩
   refine⟨_,rfl,?_⟩
   rw[tk]
   exact B2.push hi ⟨c,rfl,hc2⟩ hy
  ·obtain⟨o5,rfl,B2⟩:=h
   rw[lx,aD5]at B2
   exact⟨_,rfl,q d ps H2 B2⟩
inductive a5B(K:PySem.W.Frag)(vs:List V)(H:Hp)(Q:VK):Prop
 | mk (a b:Addr) (ns:List Int) (ls:List Lk) (xs:List V) (x0:vs=[.ref a,.ref b]) (x1:d8 K H a (ns.map V.int)) (x2:ns.Nodup) (x3:d8 K H b xs) (x4:A8 H ls xs) (x5:(∀l∈ls,l.1∈ns∧l.2.1∈ns)) (x6:ns.length≤10000) (x7:ls.length≤10000000) (xq:∀(r:Addr) (row:List Int) (H':Hp),f7 H H'→H r=none→H' r=some (.lst (row.map V.int))→b3a ns ls row→Q (.ref r) H')
def a7G(K:PySem.W.Frag):Sp:=fun vs H Q _=>a5B K vs H Q
theorem a0u{α:Type}{p:α→Bool}{l:List α}{i:Nat}{x:α}(h:l[i]?=some x):(l.take (i+1)).filter p=(l.take i).filter p++if p x=true then [x] else []:=by
 rw[aD3,h,aG5,aP6,aH9,List.filter_nil]
theorem C3{H H':Hp}{b:Addr}(s:f7 H H')(h:H' b=none):H b=none:=by
 cases z:H b with
 | none=>rfl
 | some o=>rw[s _ _ z]at h;cases h
theorem b2p{ms:List Int}(h:0<ms.length):∃ini m,ms=ini++[m]:=by
 rcases List.eq_nil_or_concat ms with rfl | ⟨ini,m,rfl⟩
 ·simp at h
 ·exact⟨ini,m,by simp⟩
theorem a2H(T:B6 K mg t):g9 P w K mg base A3 2 t.f_longest_row t.d_longest_row ["numbers","links"] (a7G K):=by
 refine T.F_longest_row.ok B4 (fun vs H Q E h=>?_) (fun cdv A outer s H vs Q E hr h=>?_)
 ·obtain⟨a,b,ns,ls,xs,rfl,_⟩:=h
  rfl
 obtain⟨a,b,ns,ls,xs,rfl,hA,nd,hB,hL,hin,z1,z2,q⟩:=h
 have hu:=O0 hr
 refine⟨_,(b9 (g8 (i:=2) B4.nd rfl (Or.inl rfl) (k7 (g9.mono (k:=1) (a1u T) (by decide)) hr rfl T.m_links_by T.F_links_by.kp T.F_links_by.b .nil k8 (b0 (y9 rfl T.m_ONE T.r_ONE) (b0 (pv 0) (b0 (pv 1) b7)))))
 (b9 (g8 (i:=3) B4.nd rfl (Or.inl rfl) (k7 (g9.mono (k:=1) (a1u T) (by decide)) hr rfl T.m_links_by T.F_links_by.kp T.F_links_by.b .nil k8 (b0 (y9 rfl T.m_OTHER T.r_OTHER) (b0 (pv 0) (b0 (pv 1) b7)))))
 (b9 (g8 (i:=4) B4.nd rfl (Or.inr rfl) G0)
 (b9 (y6 aE1 rfl (u6 (pv 0)) (l6 (i:=5) B4.nd rfl (Or.inl rfl))
 (d6 (J2 hu (pv 4) (pv 5) (e7 i5 rfl T.m_len aC6 (b0 (v8 hu (pv 3) (pv 5) (fun _ _=>rfl)) b7)) rfl)))
 (b9 (a5D (i:=6) B4.nd rfl rfl rfl (u6 (pv 0)) (K2.mk (own:=["number"]) (tl:=["numbers","links","links_from","links_to","unkept",".","ready","row","link","other"]) rfl rfl rfl (fun _ _ _ _ _=>(l6 (i:=0) (a4v) rfl (Or.inl rfl))) (fun _ _ _ _ _=>(a2c (g7 A9 (v8 hu (pv 5) (pv 0) (fun _ _=>rfl)) d5 (i7 _)))) (fun _ _ _ _ _=>(pv 0))))
 (b9 (g8 (i:=7) B4.nd rfl (Or.inl rfl) (m6 b7))
 (b9 (a7l aE1 (g7 a4B (e7 i5 rfl T.m_len aC6 (b0 (pv 6) b7)) d5 (i7 _))
 (b9 (g8 (i:=5) B4.nd rfl (Or.inl rfl) (b4l aB0 aT7 PySem.F.type_list_pop b9i (pv 6)))
 (b9 (m8 (v9 aB0 aB6 aB8 n6 (pv 7) (b0 (pv 5) b7)))
 (d6 (y6 aE1 rfl (u6 (v8 hu (pv 2) (pv 5) (fun _ _=>rfl))) (l6 (i:=8) B4.nd rfl (Or.inl rfl))
 (b9 (g8 (i:=9) B4.nd rfl (Or.inl rfl) (d7 f6 (pv 8) (y9 rfl T.m_OTHER T.r_OTHER) (fun _ _=>rfl)))
 (b9 (J2 hu (pv 4) (pv 9) (j5 Q8 (v8 hu (pv 4) (pv 9) (fun _ _=>rfl)) d5) rfl)
 (d6 (l4 (g7 A9 (v8 hu (pv 4) (pv 9) (fun _ _=>rfl)) d5 (i7 _))
 (d6 (m8 (v9 aB0 aB6 aB8 n6 (pv 6) (b0 (pv 9) b7))))
 j4)))))))))
 (d6 (i4 (pv 7)))))))))),?_⟩
 have ln:(ns.map V.int).length=ns.length:=aA0 _
 refine⟨_,rfl,_,rfl,0,a,b,ns,ls,xs,rfl,by omega,hA,nd,hB,hL,fun l hl=>(hin l hl).1,z1,z2,fun df pf H1 B1=>?_⟩
 refine⟨_,rfl,_,rfl,1,a,b,ns,ls,xs,rfl,by omega,hA.same B1.sm,nd,hB.same B1.sm,hL.tupK B1.sm.tupK,fun l hl=>(hin l hl).2,z1,z2,fun dt pt H2 B2=>?_⟩
 have F:=B1.new B2.sm
 have hA2:=hA.same F.sm
 refine fun u hu0=>?_
 refine⟨_,rfl,a,rfl,⟨_,hA2.same (b8 hu0)⟩,?_⟩
 refine A7 (xs:=ns.map V.int) (fun i σ' H'=>∃o5,σ'=[some (.ref a),some (.ref b),some (.ref df),some (.ref dt),some (.ref u),o5,none,none,none,none]∧f7 H2 H'∧H' u=some (.dK (m7 (ns.take i) fun n=>.int (K5 ls n:Int))))
  ⟨none,rfl,b8 hu0,b6⟩ (fun i σ' H' _ h=>?_) (fun i x σ' H' hx h=>?_) (fun σ' H3 h=>?_)
 ·obtain⟨o5,rfl,sm,_⟩:=h
  exact hA2.same sm
 ·obtain⟨o5,rfl,sm,hu1⟩:=h
  rw[aB1]at hx
  obtain⟨n,hn,rfl⟩:=aD8.mp hx
  have li:=(aA2.mp hn).1
  have hm:=aC8 hn
  have tk:ns.take (i+1)=ns.take i++[n]:=by rw[aD3,hn];rfl
  have nn:n∉ns.take i:=fun z=>by
   have nd':(ns.take (i+1)).Nodup:=nd.sublist (aK5 _ _)
   rw[tk,aD4]at nd'
   exact nd'.2.2 n z n (by simp) rfl
  have dg:=z6.k (k:=Sum.inl n) (sm _ _ B2.at')
  rw[u3,aB4 hm]at dg
  obtain⟨ys,hy,Ly⟩:=B2.ls n hm
  have ey:ys.length=K5 ls n:=by
   rw[Ly.len];unfold K5;rw[List.countP_eq_length_filter];rfl
  refine⟨_,rfl,_,rfl,dt,_,rfl,dg,pt n,ys,rfl,.inl (d8.of (sm _ _ hy)),_,rfl,_,rfl,u,_,rfl,N6.k (k:=Sum.inl n) hu1 (r9 (by rw[K8,aD0];omega)),?_⟩
  refine⟨_,rfl,l7 sm hu0,?_⟩
  rw[b6,M7,aA8 nn,tk,ey]
  congr 2
  refine V4 fun m _=>?_
  unfold a3b
  by_cases e:m=n
  ·rw[aB4 e,e]
  ·rw[aA8 e]
 obtain⟨o5,rfl,sm3,hu3⟩:=h
 rw[ln,aD5]at hu3
 refine⟨_,rfl,a,rfl,⟨_,hA2.same sm3⟩,fun rd hrd=>?_⟩
 refine J3 (xs:=ns.map V.int) (fun i Hc=>f7 H3 Hc∧Hc rd=some (.lst (((ns.take i).filter fun n=>decide ((K5 ls n:Int)=0)).map V.int))) ⟨b8 hrd,b6⟩ (fun i Hc _ h=>(hA2.same sm3).same h.1) (fun i x Hc hx h=>?_) (fun H4 h=>?_)
 ·obtain⟨sm,h1⟩:=h
  rw[aB1]at hx
  obtain⟨n,hn,rfl⟩:=aD8.mp hx
  have li:=(aA2.mp hn).1
  have hm:=aC8 hn
  have dg:=z6.k (k:=Sum.inl n) (sm _ _ hu3)
  rw[u3,aB4 hm]at dg
  rw[a0u hn]
  refine⟨_,rfl,_,rfl,u,_,rfl,dg,rfl,_,rfl,K3 (fun c=>?_) (fun c=>?_)⟩
  ·have c':(K5 ls n:Int)=0:=by simpa using c
   refine⟨_,rfl,_,h1,r9 ?_,l7 sm hrd,?_⟩
   ·rw[aA0]
    refine aD7 (aH1 _ _) ?_
    rw[aD0];omega
   ·rw[b6,aB4 (aC4 c'),aB5];rfl
  ·have c':¬(K5 ls n:Int)=0:=by simpa using c
   refine⟨sm,?_⟩
   rw[aA8 (by simpa using c'),aI6];exact h1
 obtain⟨sm4,hrd4⟩:=h
 rw[ln,aD5]at hrd4
 refine⟨(l8 0),fun r hr0=>?_⟩
 have ur:u≠rd:=g6 hu3 hrd
 have rr:rd≠r:=g6 hrd4 hr0
 have ur':u≠r:=g6 (sm4 _ _ hu3) hr0
 have nrd:H2 rd=none:=C3 sm3 hrd
 have nr:H2 r=none:=C3 (sm3.trans sm4) hr0
 have s5:=(sm3.trans sm4).trans (b8 (o:=.lst []) hr0)
 refine⟨fun m σ' H'=>∃(row ready:List Int) (f:Int→Int) (o5 o8 o9:Option V),σ'=[some (.ref a),some (.ref b),some (.ref df),some (.ref dt),some (.ref u),o5,some (.ref rd),some (.ref r),o8,o9] ∧
   m=ns.length-row.length∧RI ns ls row ready f∧f7 H2 H'∧H' rd=some (.lst (ready.map V.int))∧H' r=some (.lst (row.map V.int))∧H' u=some (.dK (m7 ns fun n=>.int (f n))),
  ⟨_,[],_,fun n=>(K5 ls n:Int),o5,none,none,rfl,rfl,RI.start nd fun n _=>rfl,s5,b8 hr0 _ _ hrd4,b6,b8 hr0 _ _ (sm4 _ _ hu3)⟩,fun mm σ' H' h=>?_⟩
 obtain⟨row,ready,f,o5,o8,o9,rfl,rfl,R,sm,h1,h2,h3⟩:=h
 refine⟨_,rfl,rd,_,rfl,.inl (d8.of h1),_,_,rfl,rfl,_,rfl,K3 (fun c=>?_) (fun c=>?_)⟩
 ·have c':(0:Int)<(((ready.map V.int).length:Nat):Int):=aF2 c
  rw[aA0]at c'
  obtain⟨ini,m,rfl⟩:=b2p (ms:=ready) (by omega)
  have J:=R.pop
  have ml:=J.len
  have hmn:m∈ns:=J.sub m (by simp)
  refine⟨fun σ'' H''=>∃(ready:List Int) (f:Int→Int) (o8 o9:Option V),σ''=[some (.ref a),some (.ref b),some (.ref df),some (.ref dt),some (.ref u),some (.int m),some (.ref rd),some (.ref r),o8,o9] ∧
   RI ns ls (row++[m]) ready f∧f7 H2 H''∧H'' rd=some (.lst (ready.map V.int))∧H'' r=some (.lst ((row++[m]).map V.int))∧H'' u=some (.dK (m7 ns fun n=>.int (f n))),fun σ'' H'' h=>?_,?_⟩
  ·obtain⟨ready,f,o8,o9,e,R',w⟩:=h
   exact⟨ns.length-(row++[m]).length,by rw[aA4,aE6];omega,row++[m],ready,f,_,o8,o9,e,rfl,R',w⟩
  refine⟨_,rfl,.inl ⟨rfl,_,d8.of h1⟩,rd,_,.int m,rfl,rfl,h1,by simp,?_⟩
  have ed:((ini++[m]).map V.int).dropLast=ini.map V.int:=by rw[aB5];simp
  rw[ed]
  refine⟨_,rfl,.inl ⟨rfl,_,d8.of (by rw[c9 (Ne.symm rr)];exact h2)⟩,_,rfl,r,_,_,rfl,rfl,by rw[c9 (Ne.symm rr)];exact h2,r9 (by rw[aA0];omega),?_⟩
  have sm6:f7 H2 (upd (upd H' rd (.lst (ini.map V.int))) r (.lst (row.map V.int++[.int m]))):=l7 (l7 sm nrd) nr
  have g1:(upd (upd H' rd (.lst (ini.map V.int))) r (.lst (row.map V.int++[.int m]))) rd=some (.lst (ini.map V.int)):=by rw[c9 rr];exact b6
  have g2:(upd (upd H' rd (.lst (ini.map V.int))) r (.lst (row.map V.int++[.int m]))) r=some (.lst ((row++[m]).map V.int)):=by rw[b6,aB5];rfl
  have g3:(upd (upd H' rd (.lst (ini.map V.int))) r (.lst (row.map V.int++[.int m]))) u=some (.dK (m7 ns fun n=>.int (f n))):=by rw[c9 ur',c9 ur];exact h3
  generalize upd (upd H' rd (.lst (ini.map V.int))) r (.lst (row.map V.int++[.int m]))=H6 at sm6 g1 g2 g3 ⊢
  obtain⟨ys,hy,Ly⟩:=F.ls m hmn
  have dg:=z6.k (k:=Sum.inl m) (sm6 _ _ F.at')
  rw[u3,aB4 hmn]at dg
  have lf:ls.filter (fun l=>decide (lat 0 l=m))=ls.filter fun l=>decide (l.1=m):=rfl
  rw[lf]at Ly
  refine⟨_,rfl,_,rfl,df,_,rfl,dg,pf m,rfl,⟨_,d8.of (sm6 _ _ hy)⟩,?_⟩
  refine A7 (xs:=ys) (fun j σ'' H''=>∃(ready:List Int) (f:Int→Int) (o8 o9:Option V),σ''=[some (.ref a),some (.ref b),some (.ref df),some (.ref dt),some (.ref u),some (.int m),some (.ref rd),some (.ref r),o8,o9] ∧
   RJ ns ls row m ready f j∧f7 H2 H''∧H'' rd=some (.lst (ready.map V.int))∧H'' r=some (.lst ((row++[m]).map V.int))∧H'' u=some (.dK (m7 ns fun n=>.int (f n))))
   ⟨ini,f,o8,o9,rfl,J,sm6,g1,g2,g3⟩ (fun j σ'' H'' _ h=>?_) (fun j x σ'' H'' hx h=>?_) (fun σ'' H'' h=>?_)
  ·obtain⟨_,_,_,_,rfl,_,sm,_⟩:=h
   exact d8.of (sm _ _ hy)
  ·obtain⟨ready,f,o8,o9,rfl,J,sm,k1,k2,k3⟩:=h
   obtain⟨l,hl,c,rfl,hc⟩:=Ly.get hx
   have hc:=sm _ _ hc
   have hlm:=(hin l (aD2.mp (aC8 hl)).1).2
   have S:=J.step hl hlm
   have lr:=J.len
   refine⟨_,rfl,c,_,1,_,rfl,rfl,i3.of hc,rfl,?_⟩
   have dg:=z6.k (k:=Sum.inl l.2.1) k3
   rw[u3,aB4 hlm]at dg
   refine⟨_,rfl,_,rfl,u,_,rfl,dg,_,_,rfl,rfl,_,rfl,_,rfl,u,_,rfl,N6.k (k:=Sum.inl l.2.1) k3 (r9 (by rw[K8];omega)),?_⟩
   have k4:(upd H'' u (.dK (putK (m7 ns fun n=>.int (f n)) (Sum.inl l.2.1) (.int (f l.2.1-1))))) u=some (.dK (m7 ns fun n=>.int (a2p f l.2.1 (f l.2.1-1) n))):=by
    rw[b6,M7,aB4 hlm]
    congr 2
    refine V4 fun n _=>?_
    unfold a3b a2p
    split<;>rfl
   have sm7:f7 H2 (upd H'' u (.dK (putK (m7 ns fun n=>.int (f n)) (Sum.inl l.2.1) (.int (f l.2.1-1))))):=l7 sm hu0
   have k5:(upd H'' u (.dK (putK (m7 ns fun n=>.int (f n)) (Sum.inl l.2.1) (.int (f l.2.1-1))))) rd=some (.lst (ready.map V.int)):=by rw[c9 (Ne.symm ur)];exact k1
   have k6:(upd H'' u (.dK (putK (m7 ns fun n=>.int (f n)) (Sum.inl l.2.1) (.int (f l.2.1-1))))) r=some (.lst ((row++[m]).map V.int)):=by rw[c9 (Ne.symm ur')];exact k2
   generalize upd H'' u (.dK (putK (m7 ns fun n=>.int (f n)) (Sum.inl l.2.1) (.int (f l.2.1-1))))=H7 at k4 sm7 k5 k6 ⊢
   have dg2:=z6.k (k:=Sum.inl l.2.1) k4
   have e0:a2p f l.2.1 (f l.2.1-1) l.2.1=f l.2.1-1:=aB4 rfl
   rw[u3,aB4 hlm,e0]at dg2
   refine⟨_,rfl,_,rfl,u,_,rfl,dg2,rfl,_,rfl,K3 (fun c=>?_) (fun c=>?_)⟩
   ·have c':f l.2.1-1=0:=by simpa using c
    rw[aB4 c']at S
    refine⟨_,rfl,.inl ⟨rfl,_,d8.of k5⟩,_,rfl,rd,_,_,rfl,rfl,k5,r9 (by rw[aA0];omega),?_⟩
    refine⟨_,_,_,_,rfl,S,l7 sm7 nrd,?_,?_,?_⟩
    ·rw[b6,aB5];rfl
    ·rw[c9 (Ne.symm rr)];exact k6
    ·rw[c9 ur];exact k4
   ·have c':¬f l.2.1-1=0:=by simpa using c
    rw[aA8 c']at S
    exact⟨_,_,_,_,rfl,S,sm7,k5,k6,k4⟩
  ·obtain⟨ready,f,o8,o9,rfl,J,w⟩:=h
   exact⟨ready,f,o8,o9,rfl,J.done (Nat.le_of_eq Ly.len.symm),w⟩
 ·have c':¬(0:Int)<(((ready.map V.int).length:Nat):Int):=aH3 (aK7.mpr c)
  rw[aA0]at c'
  have e:ready=[]:=aJ0 (by omega)
  subst e
  exact⟨_,rfl,q r row H' (F.sm.trans sm) (C3 F.sm nr) h2 R.row⟩
inductive a4C(K:PySem.W.Frag)(vs:List V)(H:Hp)(Q:VK):Prop
 | mk (a:Addr) (L:List Lk) (xs:List V) (x0:vs=[.ref a]) (x1:d8 K H a xs) (x2:A8 H L xs) (x3:L≠[]) (x4:(∀l∈L,∃m∈L,m.2.1=l.1)) (x5:L.length≤10000000) (xq:∀(r:Addr) (zs:List V) (rg:List Lk) (H':Hp),f7 H H'→H r=none→H' r=some (.lst zs)→A8 H' rg zs→Ring rg→(∀l∈rg,l∈L)→Q (.ref r) H')
def a6G(K:PySem.W.Frag):Sp:=fun vs H Q _=>a4C K vs H Q
theorem A8.reverse{H:Hp}{ls:List Lk}{xs:List V}(h:A8 H ls xs):A8 H ls.reverse xs.reverse:=by
 induction h with
 | nil=>exact .nil
 | cons r _ ih=>rw[aP9,aP9];exact ih.snoc r
theorem A8.drop{H:Hp}:∀(n:Nat) {ls:List Lk} {xs:List V},A8 H ls xs→A8 H (ls.drop n) (xs.drop n)
 | 0,_,_,h=>h
 | n+1,_,_,.nil=>.nil
 | n+1,_,_,.cons _ t=>A8.drop n t
theorem a0I(T:B6 K mg t):g9 P w K mg base A3 1 t.f_ring_behind t.d_ring_behind ["links"] (a6G K):=by
 refine T.F_ring_behind.ok J1 (fun vs H Q E h=>?_) (fun cdv A outer s H vs Q E hr h=>?_)
 ·obtain⟨a,L,xs,rfl,_⟩:=h
  rfl
 obtain⟨a,L,xs,rfl,hA,hL,ne,hin,z1,q⟩:=h
 have hu:=O0 hr
 refine⟨_,(b9 (g8 (i:=1) J1.nd rfl (Or.inl rfl) G0)
 (b9 (y6 aE1 rfl (u6 (pv 0)) (l6 (i:=2) J1.nd rfl (Or.inl rfl))
 (d6 (J2 hu (pv 1) (d7 f6 (pv 2) (y9 rfl T.m_OTHER T.r_OTHER) (fun _ _=>rfl)) (pv 2) rfl)))
 (b9 (g8 (i:=3) J1.nd rfl (Or.inl rfl) (d7 f6 (d7 l5 (pv 0) d5 (fun _ _=>rfl)) (y9 rfl T.m_OTHER T.r_OTHER) (fun _ _=>rfl)))
 (b9 (g8 (i:=4) J1.nd rfl (Or.inl rfl) G0)
 (b9 (g8 (i:=5) J1.nd rfl (Or.inl rfl) (m6 b7))
 (b9 (a7l aE1 (g7 (a9a hu) (pv 3) (pv 4) (by with_unfolding_all rfl))
 (b9 (J2 hu (pv 4) (pv 3) (e7 i5 rfl T.m_len aC6 (b0 (pv 5) b7)) rfl)
 (b9 (m8 (v9 aB0 aB6 aB8 n6 (pv 5) (b0 (v8 hu (pv 1) (pv 3) (fun _ _=>rfl)) b7)))
 (d6 (g8 (i:=3) J1.nd rfl (Or.inl rfl) (d7 f6 (v8 hu (pv 1) (pv 3) (fun _ _=>rfl)) (y9 rfl T.m_ONE T.r_ONE) (fun _ _=>rfl)))))))
 (d6 (i4 (b3b rfl rfl T.m_list rfl T.m_reversed (N7 R7 (pv 5) (Q2 (v8 hu (pv 4) (pv 3) (fun _ _=>rfl))) P8)))))))))),?_⟩
 have lx:=hL.len
 refine fun d hd=>?_
 refine⟨_,rfl,a,rfl,⟨_,hA.same (b8 hd)⟩,?_⟩
 refine A7 (xs:=xs) (fun i σ' H'=>∃(o2:Option V) (ks:List Int) (g:Int→V),σ'=[some (.ref a),some (.ref d),o2,none,none,none]∧f7 H H'∧H' d=some (.dK (m7 ks g))∧ks.length≤i∧(∀n,n∈ks↔∃l∈L.take i,l.2.1=n)∧∀n∈ks,∃l∈L,l.2.1=n∧a9C H l (g n))
  ⟨none,[],fun _=>.non,rfl,b8 hd,b6,aB3 _,by simp,by simp⟩ (fun i σ' H' _ h=>?_) (fun i x σ' H' hx h=>?_) (fun σ' H1 h=>?_)
 ·obtain⟨o2,ks,g,rfl,sm,_⟩:=h
  exact hA.same sm
 ·obtain⟨o2,ks,g,rfl,sm,h1,lk,hk,hg⟩:=h
  obtain⟨l,hl,c,rfl,hc⟩:=hL.get hx
  have li:=(aA2.mp hl).1
  refine⟨_,rfl,_,rfl,_,rfl,c,_,1,_,rfl,rfl,i3.of (sm _ _ hc),rfl,d,_,rfl,N6.k (k:=Sum.inl l.2.1) h1 (r9 (by rw[K8];omega)),?_⟩
  refine⟨_,_,_,rfl,l7 sm hd,by rw[b6,M7],?_,fun n=>?_,fun n hn=>?_⟩
  ·split
   ·omega
   ·rw[aA4,aE6];omega
  ·rw[aD3,hl,aG5]
   have e1:(∃m∈L.take i++[l],m.2.1=n)↔(∃m∈L.take i,m.2.1=n)∨l.2.1=n:=by
    constructor
    ·rintro⟨m,hm,e⟩
     rcases aA9.mp hm with hm | hm
     ·exact .inl ⟨m,hm,e⟩
     ·rw[aA3.mp hm]at e;exact .inr e
    ·rintro(⟨m,hm,e⟩ | e)
     ·exact⟨m,aE3 _ hm,e⟩
     ·exact⟨l,by simp,e⟩
   rw[e1,←hk]
   split
   ·rename_i c
    exact⟨.inl,fun w=>w.elim id fun w=>w▸c⟩
   ·rw[aA9,aA3]
    exact⟨fun w=>w.imp id fun w=>w.symm,fun w=>w.imp id fun w=>w.symm⟩
  ·by_cases e:n=l.2.1
   ·subst e
    exact⟨l,aC8 hl,rfl,by rw[a2f];exact⟨c,rfl,hc⟩⟩
   ·rw[a7r e]
    refine hg n ?_
    split at hn
    ·exact hn
    ·rcases aA9.mp hn with hn | hn
     ·exact hn
     ·exact absurd (aA3.mp hn) e
 obtain⟨o2,ks,g,rfl,sm1,hd1,lk,hk,hg⟩:=h
 rw[lx,aD5]at hk
 obtain⟨l0,hl0⟩:∃l0,L[0]?=some l0:=by
  cases L with
  | nil=>exact absurd rfl ne
  | cons l L=>exact⟨l,rfl⟩
 obtain⟨x0,hx0,c0,rfl,hc0⟩:=a5s hL hl0
 refine⟨_,rfl,a,_,0,_,rfl,rfl,hA.same sm1,j0 (j:=0) hx0,c0,_,1,_,rfl,rfl,i3.of (sm1 _ _ hc0),rfl,?_⟩
 refine fun mt hmt=>⟨(l8 0),fun wk hwk=>?_⟩
 have mw:mt≠wk:=g6 b6 hwk
 have nmt:H mt=none:=C3 sm1 hmt
 have nwk:H wk=none:=C3 (sm1.trans (b8 hmt)) hwk
 have md:d≠mt:=g6 hd1 hmt
 have wd:d≠wk:=g6 (b8 hmt _ _ hd1) hwk
 refine⟨fun m σ' H'=>∃(W:List Lk) (ys:List V) (n:Int) (g':Int→V),σ'=[some (.ref a),some (.ref d),o2,some (.int n),some (.ref mt),some (.ref wk)]∧m=L.length-W.length∧Wk L W n∧f7 H H'∧H' d=some (.dK (m7 ks g))∧H' wk=some (.lst ys)∧A8 H W ys ∧
   H' mt=some (.dK (m7 (W.map fun l=>l.2.1) g'))∧∀(i:Nat) l,W[i]?=some l→g' l.2.1=.int (i:Int),
  ⟨_,[],[],l0.2.1,fun _=>.non,rfl,rfl,⟨by simp,by simp,by simp,by simp,l0,aC8 hl0,rfl⟩,(sm1.trans (b8 hmt)).trans (b8 hwk),b8 hwk _ _ (b8 hmt _ _ hd1),b6,.nil,by rw[c9 mw];exact b6,by simp⟩,fun m σ' H' h=>?_⟩
 obtain⟨W,ys,n,g',rfl,rfl,wk',sm,k1,k2,Ly,k3,hg'⟩:=h
 refine⟨_,rfl,_,rfl,mt,_,rfl,z6.k (k:=Sum.inl n) k3,_,rfl,?_⟩
 rw[u3]
 by_cases hn:n∈W.map fun l=>l.2.1
 ·rw[aB4 hn]
  refine e9 ?_
  obtain⟨i,hi⟩:=aD9.mp hn
  rw[aB1]at hi
  obtain⟨l,hi,e⟩:=aD8.mp hi
  have dg:=z6.k (k:=Sum.inl n) k3
  rw[u3,aB4 hn,←e,hg' i l hi,e]at dg
  have li:=(aA2.mp hi).1
  refine⟨_,rfl,_,rfl,_,rfl,mt,_,rfl,dg,_,rfl,wk,_,rfl,d8.of k2,fun sl hsl=>?_⟩
  rw[a9j]
  refine⟨sl,_,rfl,d8.of b6,fun r hr0=>?_⟩
  have s8:=(sm.trans (b8 (o:=.lst (ys.drop i)) hsl)).trans (b8 (o:=.lst (ys.drop i).reverse) hr0)
  obtain⟨rg,sub⟩:=wk'.ring hi e
  exact q r _ _ _ s8 (C3 (sm.trans (b8 (o:=.lst (ys.drop i)) hsl)) hr0) b6 (((Ly.drop i).reverse).tupK s8.tupK) rg sub
 ·rw[aA8 hn]
  refine m9 ?_
  have hnk:n∈ks:=(hk n).mpr wk'.on
  obtain⟨l,hl,e,c,eg,hc⟩:=hg n hnk
  have dg:=fun(Hx:Hp) (hx:Hx d=some (.dK (m7 ks g)))=>z6.k (k:=Sum.inl n) hx
  have dg':∀(Hx:Hp),Hx d=some (.dK (m7 ks g))→z6 Hx d (.int n) (some (.ref c)):=fun Hx hx=>by
   have:=dg Hx hx
   rw[u3,aB4 hnk,eg]at this
   exact this
  have S:=wk'.step hn hl e (hin l hl)
  have sl:=S.len
  rw[aA4,aE6]at sl
  refine⟨fun σ'' H''=>∃(ys:List V) (g':Int→V),σ''=[some (.ref a),some (.ref d),o2,some (.int l.1),some (.ref mt),some (.ref wk)]∧f7 H H''∧H'' d=some (.dK (m7 ks g))∧H'' wk=some (.lst ys)∧A8 H (W++[l]) ys ∧
   H'' mt=some (.dK (m7 ((W++[l]).map fun l=>l.2.1) g'))∧∀(i:Nat) l',(W++[l])[i]?=some l'→g' l'.2.1=.int (i:Int),fun σ'' H'' h=>?_,?_⟩
  ·obtain⟨ys,g',e1,w1,w2,w3,w4,w5,w6⟩:=h
   exact⟨L.length-(W++[l]).length,by rw[aA4,aE6];omega,W++[l],ys,l.1,g',e1,rfl,S,w1,w2,w3,w4,w5,w6⟩
  refine⟨_,rfl,wk,_,rfl,.inl (d8.of k2),_,rfl,_,rfl,mt,_,rfl,N6.k (k:=Sum.inl n) k3 (r9 (by rw[K8,aA0];omega)),?_⟩
  rw[M7,aA8 hn]
  have p1:∀o,upd H' mt o d=some (.dK (m7 ks g)):=fun o=>by rw[c9 md];exact k1
  have p2:∀o,upd H' mt o wk=some (.lst ys):=fun o=>by rw[c9 (Ne.symm mw)];exact k2
  refine⟨_,rfl,.inl ⟨rfl,_,d8.of (p2 _)⟩,_,rfl,_,rfl,d,_,rfl,dg' _ (p1 _),wk,_,_,rfl,rfl,p2 _,r9 (by rw[Ly.len];omega),?_⟩
  have sm9:∀o o',f7 H (upd (upd H' mt o) wk o'):=fun o o'=>l7 (l7 sm nmt) nwk
  have p3:∀o o',upd (upd H' mt o) wk o' d=some (.dK (m7 ks g)):=fun o o'=>by rw[c9 wd];exact p1 o
  refine⟨_,rfl,_,rfl,d,_,rfl,dg' _ (p3 _ _),c,_,0,_,rfl,rfl,i3.of (sm9 _ _ _ _ hc),rfl,?_⟩
  refine⟨_,a3b g' n (.int (ys.length:Int)),rfl,sm9 _ _,p3 _ _,b6,Ly.snoc ⟨c,rfl,hc⟩,?_,fun i l' hi=>?_⟩
  ·rw[c9 mw,b6,aB5,aK3,e]
  ·by_cases ci:i<W.length
   ·rw[aE0 ci]at hi
    rw[a7r fun z=>hn (by rw[←z];exact aA5.mpr ⟨l',aC8 hi,rfl⟩)]
    exact hg' i l' hi
   ·have li:=(aA2.mp hi).1
    rw[aA4,aE6]at li
    have ei:i=W.length:=by omega
    subst ei
    rw[aF0 (aB3 _),aR5]at hi
    have hi:l=l':=by simpa using hi
    subst hi
    rw[e,a2f,Ly.len]
inductive a1A(K:PySem.W.Frag)(vs:List V)(H:Hp)(Q:VK):Prop
 | mk (a b:Addr) (ns:List Int) (ls:List Lk) (xs:List V) (x0:vs=[.ref a,.ref b]) (x1:d8 K H a (ns.map V.int)) (x2:ns.Nodup) (x3:d8 K H b xs) (x4:A8 H ls xs) (x5:(∀l∈ls,l.1∈ns∧l.2.1∈ns)) (x6:ns.length≤10000) (x7:ls.length≤10000000) (x8:(∀(p r:Addr) (row:List Int) (H':Hp),f7 H H'→H r=none→H' p=some (.tup [.str "row",.ref r])→H' r=some (.lst (row.map V.int))→a7q ns ls row→Q (.ref p) H')) (xq:∀(p r:Addr) (zs:List V) (rg:List Lk) (H':Hp),f7 H H'→H r=none→H' p=some (.tup [.str "ring",.ref r])→H' r=some (.lst zs)→A8 H' rg zs→Ring rg→(∀l∈rg,l∈ls)→Q (.ref p) H')
def a1I(K:PySem.W.Frag):Sp:=fun vs H Q _=>a1A K vs H Q
theorem a8F(T:B6 K mg t):g9 P w K mg base A3 3 t.f_row_or_ring t.d_row_or_ring ["numbers","links"] (a1I K):=by
 refine T.F_row_or_ring.ok T2 (fun vs H Q E h=>?_) (fun cdv A outer s H vs Q E hr h=>?_)
 ·obtain⟨a,b,ns,ls,xs,rfl,_⟩:=h
  rfl
 obtain⟨a,b,ns,ls,xs,rfl,hA,nd,hB,hL,hin,z1,z2,q1,q2⟩:=h
 have hu:=O0 hr
 refine⟨_,(b9 (g8 (i:=2) T2.nd rfl (Or.inl rfl) (k7 (g9.mono (k:=2) (a2H T) (by decide)) hr rfl T.m_longest_row T.F_longest_row.kp T.F_longest_row.b .nil k8 (b0 (pv 0) (b0 (pv 1) b7))))
 (b9 (l4 (g7 A9 (e7 i5 rfl T.m_len aC6 (b0 (pv 2) b7)) (e7 i5 rfl T.m_len aC6 (b0 (pv 0) b7)) (i7 _))
 (d6 (i4 (q5 (b0 i8 (b0 (pv 2) b7)))))
 j4)
 (b9 (g8 (i:=3) T2.nd rfl (Or.inr rfl) G0)
 (b9 (y6 aE1 rfl (u6 (pv 2)) (l6 (i:=4) T2.nd rfl (Or.inl rfl))
 (d6 (J2 hu (pv 3) (pv 4) y0 rfl)))
 (d6 (i4 (q5 (b0 i8 (b0 (k7 (g9.mono (k:=2) (a0I T) (by decide)) hr rfl T.m_ring_behind T.F_ring_behind.kp T.F_ring_behind.b .nil k8 (b0 (R9 rfl (u6 (pv 1)) (K2.mk (own:=["link"]) (tl:=["numbers","links","row","placed","number"]) rfl rfl rfl (fun _ _ _ _ _=>(l6 (i:=0) (a9v) rfl (Or.inl rfl))) (fun _ _ _ _ _=>(a2c (g7 (a9a hu) (d7 T3 (pv 0) (y9 rfl T.m_ONE T.r_ONE) (fun _ _=>rfl)) (pv 4) (by with_unfolding_all rfl)))) (fun _ _ _ _ _=>(pv 0)))) b7)) b7))))))))),?_⟩
 have ln:(ns.map V.int).length=ns.length:=aA0 _
 have lx:=hL.len
 refine⟨_,rfl,_,rfl,a,b,ns,ls,xs,rfl,hA,nd,hB,hL,hin,z1,z2,fun r row H1 s1 nr1 hr1 R=>?_⟩
 have lr:(row.map V.int).length=row.length:=aA0 _
 have ll:=A4 R.nd R.sub
 refine⟨_,rfl,r,_,rfl,.inl (d8.of hr1),_,rfl,a,_,rfl,.inl (hA.same s1),rfl,_,rfl,K3 (fun c=>?_) (fun c=>?_)⟩
 ·have c':row.length=ns.length:=by have c':=c;simp at c';omega
  refine⟨_,rfl,(l8 2),fun p hp=>?_⟩
  have s2:=b8 (o:=.tup [.str "row",.ref r]) hp
  exact q1 p r row _ (s1.trans s2) nr1 b6 (s2 _ _ hr1) (R.all nd c' fun l hl=>(hin l hl).2)
 ·have c':¬row.length=ns.length:=by have c':=c;simp at c';omega
  refine fun d hd=>?_
  refine⟨_,rfl,r,rfl,⟨_,d8.of (b8 hd _ _ hr1)⟩,?_⟩
  refine A7 (xs:=row.map V.int) (fun i σ' H'=>∃o4,σ'=[some (.ref a),some (.ref b),some (.ref r),some (.ref d),o4]∧f7 H1 H'∧H' d=some (.dK (m7 (row.take i) fun _=>.bl true)))
   ⟨none,rfl,b8 hd,b6⟩ (fun i σ' H' _ h=>?_) (fun i x σ' H' hx h=>?_) (fun σ' H2 h=>?_)
  ·obtain⟨o4,rfl,sm,_⟩:=h
   exact d8.of (sm _ _ hr1)
  ·obtain⟨o4,rfl,sm,h1⟩:=h
   rw[aB1]at hx
   obtain⟨n,hn,rfl⟩:=aD8.mp hx
   have li:=(aA2.mp hn).1
   have tk:row.take (i+1)=row.take i++[n]:=by rw[aD3,hn];rfl
   have nn:n∉row.take i:=fun z=>by
    have nd':(row.take (i+1)).Nodup:=R.nd.sublist (aK5 _ _)
    rw[tk,aD4]at nd'
    exact nd'.2.2 n z n (by simp) rfl
   refine⟨_,rfl,_,rfl,d,_,rfl,N6.k (k:=Sum.inl n) h1 (r9 (by rw[K8,aD0];omega)),?_⟩
   refine⟨_,rfl,l7 sm hd,?_⟩
   rw[b6,M7,aA8 nn,tk]
   congr 2
   refine V4 fun m _=>?_
   unfold a3b
   split<;>rfl
  obtain⟨o4,rfl,sm2,hd2⟩:=h
  rw[lr,aD5]at hd2
  have s12:=s1.trans sm2
  refine⟨_,rfl,b,rfl,⟨_,hB.same s12⟩,fun acc hacc=>?_⟩
  refine J3 (xs:=xs) (fun i Hc=>f7 H2 Hc∧∃ys,Hc acc=some (.lst ys)∧A8 H2 ((ls.take i).filter fun l=>decide (l.1∉row)) ys) ⟨b8 hacc,[],b6,.nil⟩ (fun i Hc _ h=>(hB.same s12).same h.1) (fun i x Hc hx h=>?_) (fun H3 h=>?_)
  ·obtain⟨sc,ys,h1,Ly⟩:=h
   obtain⟨l,hl,e,rfl,he⟩:=hL.get hx
   have he2:=s12 _ _ he
   have li:=(aA2.mp hl).1
   rw[a0u hl]
   refine⟨_,rfl,e,_,0,_,rfl,rfl,i3.of (sc _ _ he2),rfl,_,rfl,d,_,rfl,z6.k (k:=Sum.inl l.1) (sc _ _ hd2),_,rfl,?_⟩
   rw[u3]
   by_cases hr2:l.1∈row
   ·rw[aB4 hr2,aA8 (by simpa using hr2),aI6]
    refine e9 ?_
    exact⟨sc,ys,h1,Ly⟩
   ·rw[aA8 hr2,aB4 (by simpa using hr2)]
    refine m9 ?_
    have ly:ys.length≤i:=by
     rw[Ly.len]
     refine aD7 (aH1 _ _) ?_
     rw[aD0];omega
    exact⟨_,rfl,ys,h1,r9 (by omega),l7 sc hacc,_,b6,Ly.snoc ⟨e,rfl,he2⟩⟩
  obtain⟨s3,ys,h3,Ly⟩:=h
  rw[lx,aD5]at Ly
  have outs:∀n∈ns,n∉row→∃l∈ls.filter (fun l=>decide (l.1∉row)),l.2.1=n:=fun n hn ho=>by
   obtain⟨l,hl,e1,e2⟩:=R.out n hn ho
   exact⟨l,aD2.mpr ⟨hl,by simpa using e2⟩,e1⟩
  have some1:∃n∈ns,n∉row:=aI3 fun z=>c' (by
   have all:∀n∈ns,n∈row:=fun n hn=>aI3 fun w=>z ⟨n,hn,w⟩
   exact Nat.le_antisymm ll (A4 nd all))
  refine⟨acc,_,ys,rfl,d8.of h3,Ly.tupK s3.tupK,fun z=>?_,fun l hl=>?_,aD7 (aH1 _ _) z2,fun rr zs rg H4 s4 nr4 hr4 L4 RG sub=>?_⟩
  ·obtain⟨n,hn,ho⟩:=some1
   obtain⟨l,hl,_⟩:=outs n hn ho
   rw[z]at hl;simp at hl
  ·obtain⟨hl1,hl2⟩:=aD2.mp hl
   exact outs l.1 (hin l hl1).1 (by simpa using hl2)
  ·refine⟨(l8 2),fun p hp=>?_⟩
   have s5:=b8 (o:=.tup [.str "ring",.ref rr]) hp
   exact q2 p rr zs rg _ (((s12.trans s3).trans s4).trans s5) (C3 (s12.trans s3) nr4) b6 (s5 _ _ hr4) (L4.tupK s5.tupK) RG fun l hl=>(aD2.mp (sub l hl)).1
inductive a3V(K:PySem.W.Frag)(vs:List V)(H:Hp)(Q:VK):Prop
 | mk (a:Addr) (ps:List (Int×Int)) (m:Int) (x0:vs=[.ref a,.int m]) (x1:Ver K H a ps) (x2:ps.length≤100000) (xq:∀H',f7 H H'→Q (.int (cnt ps m:Nat)) H')
def b1d(K:PySem.W.Frag):Sp:=fun vs H Q _=>a3V K vs H Q
theorem a5z(T:B6 K mg t):g9 P w K mg base A3 1 t.f_reached t.d_reached ["versions","moment"] (b1d K):=by
 refine T.F_reached.ok b3c (fun vs H Q E h=>?_) (fun cdv A outer s H vs Q E hr h=>?_)
 ·obtain⟨a,ps,m,rfl,_⟩:=h
  rfl
 obtain⟨a,ps,m,rfl,⟨xs,hS,hR⟩,hl,q⟩:=h
 refine⟨_,(d6 (i4 (e7 i5 rfl T.m_len aC6 (b0 (R9 rfl (u6 (pv 0)) (K2.mk (own:=["version"]) (tl:=["versions","moment"]) rfl rfl rfl (fun _ _ _ _ _=>(l6 (i:=0) (a6O) rfl (Or.inl rfl))) (fun _ _ _ _ _=>(a2c (g7 a4N (d7 T3 (pv 0) d5 (fun _ _=>rfl)) (pv 2) (i7 _)))) (fun _ _ _ _ _=>(pv 0)))) b7)))),?_⟩
 refine⟨_,rfl,a,rfl,⟨xs,hS⟩,fun acc hacc=>?_⟩
 have sm:∀ys,f7 H (upd H acc (.lst ys)):=fun ys=>b8 hacc
 refine J3 (xs:=xs) (fun i H'=>∃ys,H'=upd H acc (.lst ys)∧ys.length=cnt (ps.take i) m) ⟨[],rfl,rfl⟩ (fun i H' _ h=>?_) (fun i x H' hx h=>?_) (fun H' h=>?_)
 ·obtain⟨ys,rfl,_⟩:=h
  exact hS.same (sm ys)
 ·obtain⟨ys,rfl,hy⟩:=h
  obtain⟨p,b,hp,rfl,hT⟩:=b5h hR hx
  have hi:i<ps.length:=(aA2.mp hp).1
  have hc:=a8z (ps.take i) m
  rw[aD0]at hc
  refine⟨_,rfl,b,_,0,.int p.1,rfl,rfl,hT.same (sm ys),rfl,_,rfl,_,_,rfl,rfl,_,rfl,?_⟩
  refine K3 (fun c=>?_) (fun c=>?_)
  ·have c':p.1≤m:=aF2 c
   refine⟨_,rfl,ys,b6,r9 (by omega),_,a1Y,?_⟩
   rw[a7U hp,aB4 c',aA4,hy]
   rfl
  ·have c':¬p.1≤m:=aH3 (aK7.mpr c)
   refine⟨ys,rfl,?_⟩
   rw[a7U hp,aA8 c',hy]
   rfl
 ·obtain⟨ys,rfl,hy⟩:=h
  rw[b5x hR,aD5]at hy
  refine⟨acc,ys,rfl,.inl (d8.of b6),?_⟩
  rw[hy]
  exact q _ (sm ys)
def valueAt(ps:List (Int×Int))(m:Int):Int:=if cnt ps m=0 then 0 else(ps.getD (cnt ps m-1) (0,0)).2
inductive a2U(K:PySem.W.Frag)(vs:List V)(H:Hp)(Q:VK):Prop
 | mk (a:Addr) (ps:List (Int×Int)) (m:Int) (x0:vs=[.ref a,.int m]) (x1:Ver K H a ps) (x2:ps.length≤100000) (xq:∀H',f7 H H'→Q (.int (valueAt ps m)) H')
def a8V(K:PySem.W.Frag):Sp:=fun vs H Q _=>a2U K vs H Q
theorem a5u(T:B6 K mg t):g9 P w K mg base A3 2 t.f_value_at t.d_value_at ["versions","moment"] (a8V K):=by
 refine T.F_value_at.ok a1v (fun vs H Q E h=>?_) (fun cdv A outer s H vs Q E hr h=>?_)
 ·obtain⟨a,ps,m,rfl,_⟩:=h
  rfl
 obtain⟨a,ps,m,rfl,hV,hl,q⟩:=h
 refine⟨_,(b9 (g8 (i:=2) a1v.nd rfl (Or.inl rfl) (k7 (g9.mono (k:=1) (a5z T) (by decide)) hr rfl T.m_reached T.F_reached.kp T.F_reached.b .nil k8 (b0 (pv 0) (b0 (pv 1) b7))))
 (b9 (l4 (g7 A9 (pv 2) d5 (i7 _))
 (d6 (i4 d5))
 j4)
 (d6 (i4 (d7 f6 (d7 l5 (pv 0) (j5 Q8 (pv 2) d5) (fun _ _=>rfl)) d5 (fun _ _=>rfl)))))),?_⟩
 refine⟨_,rfl,_,rfl,a,ps,m,rfl,hV,hl,fun H1 g1=>?_⟩
 refine⟨_,rfl,rfl,_,rfl,?_⟩
 refine K3 (fun c=>?_) (fun c=>?_)
 ·have c':cnt ps m=0:=by have:=aF2 c;injection this with z;exact Int.ofNat.inj z
  have e:valueAt ps m=0:=by unfold valueAt;rw[aB4 c']
  have:=q H1 g1
  rw[e]at this
  exact this
 ·have c':¬cnt ps m=0:=fun z=>c (aC4 (by rw[z];rfl))
  have hc:=a8z ps m
  have hlt:cnt ps m-1<ps.length:=by omega
  have hp:ps[cnt ps m-1]?=some ps[cnt ps m-1]:=List.getElem?_eq_getElem hlt
  obtain⟨xs,hS,hR⟩:=hV
  obtain⟨b,hb,hT⟩:=b6w hR hp
  have ei:((cnt ps m:Nat):Int)-1=((cnt ps m-1:Nat):Int):=by omega
  have e:valueAt ps m=(ps[cnt ps m-1]).2:=by
   unfold valueAt;rw[aA8 c',aF1,hp];rfl
  refine⟨_,rfl,_,rfl,_,_,rfl,rfl,a,xs,_,.ref b,rfl,rfl,hS.same g1,?_,b,_,1,.int (ps[cnt ps m-1]).2,rfl,rfl,hT.same g1,rfl,?_⟩
  ·rw[ei];exact j0 hb
  ·rw[←e];exact q H1 g1
inductive b1i(K:PySem.W.Frag)(vs:List V)(H:Hp)(Q:VK):Prop
 | mk (a:Addr) (xs:List V) (ps:List (Int×Int)) (m:Int) (x0:vs=[.ref a,.int m]) (x1:d8 K H a xs) (x2:u0 K H (ps.map pd) xs) (x3:ps.length≤100000) (xq:∀(r:Addr) (H':Hp),f7 H H'→H r=none→H' r=some (.lst (xs.drop (cnt ps m-1)))→Q (.ref r) H')
def b1t(K:PySem.W.Frag):Sp:=fun vs H Q _=>b1i K vs H Q
theorem b5q(T:B6 K mg t):g9 P w K mg base A3 2 t.f_swept t.d_swept ["versions","moment"] (b1t K):=by
 refine T.F_swept.ok a2T (fun vs H Q E h=>?_) (fun cdv A outer s H vs Q E hr h=>?_)
 ·obtain⟨a,xs,ps,m,rfl,_⟩:=h
  rfl
 obtain⟨a,xs,ps,m,rfl,hS,hR,hl,q⟩:=h
 refine⟨_,(b9 (g8 (i:=2) a2T.nd rfl (Or.inl rfl) (e7 (b0j rfl) rfl T.m_max boot_max (b0 (j5 Q8 (k7 (g9.mono (k:=1) (a5z T) (by decide)) hr rfl T.m_reached T.F_reached.kp T.F_reached.b .nil k8 (b0 (pv 0) (b0 (pv 1) b7))) d5) (b0 d5 b7))))
 (d6 (i4 (N7 R7 (pv 0) (Q2 (pv 2)) P8)))),?_⟩
 refine⟨_,rfl,_,rfl,a,ps,m,rfl,⟨xs,hS,hR⟩,hl,fun H1 g1=>?_⟩
 refine⟨_,_,rfl,rfl,_,_,rfl,?_⟩
 have e:(if (0:Int)>((cnt ps m:Nat):Int)-1 then(0:Int) else((cnt ps m:Nat):Int)-1)=((cnt ps m-1:Nat):Int):=by split<;>omega
 rw[e]
 refine⟨_,rfl,_,rfl,_,rfl,a,xs,rfl,hS.same g1,fun r hr0=>?_⟩
 rw[a9j]
 exact q r _ (g1.trans (b8 hr0)) (C3 g1 hr0) b6
inductive a5V(K:PySem.W.Frag)(vs:List V)(H:Hp)(Q:VK):Prop
 | mk (a b:Addr) (ks js:List Str) (x0:vs=[.ref a,.ref b]) (x1:d8 K H a (ks.map V.str)) (x2:d8 K H b (js.map V.str)) (x3:ks.length≤63) (x4:js.length≤63) (xq:∀(r:Addr) (rs:List Str) (H':Hp),f7 H H'→H' r=some (.lst (rs.map V.str))→rs.Nodup→(∀x,x∈rs↔x∈ks∧x∈js)→Q (.ref r) H')
def b0a(K:PySem.W.Frag):Sp:=fun vs H Q _=>a5V K vs H Q
theorem a2s{ks:List Str}(h:ks.length≤63):ks.length+1<scanBound:=by unfold scanBound;omega
theorem a2k(T:B6 K mg t):g9 P w K mg base A3 1 t.f_in_both t.d_in_both ["goods","others"] (b0a K):=by
 refine T.F_in_both.ok b8c (fun vs H Q E h=>?_) (fun cdv A outer s H vs Q E hr h=>?_)
 ·obtain⟨a,b,ks,js,rfl,_⟩:=h
  rfl
 obtain⟨a,b,ks,js,rfl,hA,hB,la,lb,q⟩:=h
 refine⟨_,(d6 (i4 (e7 (a8B rfl) rfl T.m_sorted aO2 (b0 (j5 b6d (K7 (a9O rfl) rfl T.m_set boot_set (b0 (pv 0) b7)) (K7 (a9O rfl) rfl T.m_set boot_set (b0 (pv 1) b7))) b7)))),?_⟩
 refine⟨_,rfl,a,ks,rfl,hA,a2s la,fun l hl=>?_⟩
 have s1:=b8 (o:=tso w l (TS.once ks)) hl
 refine⟨_,rfl,b,js,rfl,hB.same s1,a2s lb,fun m hm=>?_⟩
 have s2:=b8 (o:=tso w m (TS.once js)) hm
 have hne:m≠l:=fun e=>by rw[e,b6]at hm;cases hm
 refine⟨l,m,TS.once ks,TS.once js,rfl,rfl,hne,s2 _ _ b6,b6,a2s (aD7 (TS.a5x ks) la),a2s (aD7 (TS.a5x js) lb),fun n rs hn nd mem=>?_⟩
 have s3:=b8 (o:=tso w n rs) hn
 refine⟨n,rs,rfl,b6,?_,fun r ys hr0 py _=>?_⟩
 ·have:=A4 nd fun x hx=>(TS.a7w.mp ((mem x).mp hx).1:x∈ks)
  omega
 obtain⟨zs,rfl,pz⟩:=L8 py
 refine q r zs _ (((s1.trans s2).trans s3).trans (b8 hr0)) b6 (pz.nodup_iff.mpr nd) fun x=>?_
 rw[pz.mem_iff,mem,TS.a7w,TS.a7w]
inductive a3L(K:PySem.W.Frag)(vs:List V)(H:Hp)(Q:VK):Prop
 | mk (one other:Rec) (x y:V) (g:Addr) (gs:List Str) (why:Str) (x0:vs=[x,y,.ref g,.str why]) (x1:RecAt K H one x) (x2:RecAt K H other y) (x3:d8 K H g (gs.map V.str)) (x4:gs.length≤900) (xq:∀(r:Addr) (ys:List V) (H':Hp),f7 H H'→H' r=some (.lst ys)→A8 H' (part one.num other.num why gs) ys→Q (.ref r) H')
def a4O(K:PySem.W.Frag):Sp:=fun vs H Q _=>a3L K vs H Q
theorem a3e(T:B6 K mg t):g9 P w K mg base A3 1 t.f_links_for t.d_links_for ["one","other","goods","why"] (a4O K):=by
 refine T.F_links_for.ok a2O (fun vs H Q E h=>?_) (fun cdv A outer s H vs Q E hr h=>?_)
 ·obtain⟨one,other,x,y,g,gs,why,rfl,_⟩:=h
  rfl
 obtain⟨one,other,x,y,g,gs,why,rfl,⟨b1,la1,pa1,rfl,t1,_,_⟩,⟨b2,la2,pa2,rfl,t2,_,_⟩,hG,lg,q⟩:=h
 refine⟨_,(d6 (i4 (R9 rfl (u6 (pv 2)) (K2.mk (own:=["good"]) (tl:=["one","other","goods","why"]) rfl rfl rfl (fun _ _ _ _ _=>(l6 (i:=0) (a7F) rfl (Or.inl rfl))) (fun _ _ _ _ _=>a3c) (fun _ _ _ _ _=>(q5 (b0 (d7 T3 (pv 1) (y9 rfl T.m_NUMBER T.r_NUMBER) (fun _ _=>rfl)) (b0 (d7 T3 (pv 2) (y9 rfl T.m_NUMBER T.r_NUMBER) (fun _ _=>rfl)) (b0 (pv 0) (b0 (pv 4) b7)))))))))),?_⟩
 refine⟨_,rfl,g,rfl,⟨_,hG⟩,fun acc hacc=>?_⟩
 refine J3 (xs:=gs.map V.str) (fun i H'=>f7 H H'∧∃ys,H' acc=some (.lst ys)∧A8 H' (part one.num other.num why (gs.take i)) ys) ⟨b8 hacc,[],b6,.nil⟩ (fun i H' _ h=>?_) (fun i x H' hx h=>?_) (fun H' h=>?_)
 ·exact hG.same h.1
 ·obtain⟨sm,ys,ha,hL⟩:=h
  rw[aB1]at hx
  obtain⟨gd,hgd,rfl⟩:=aD8.mp hx
  have hi:i<gs.length:=(aA2.mp hgd).1
  refine⟨_,rfl,b1,_,0,.int one.num,rfl,rfl,t1.same sm,rfl,_,rfl,b2,_,0,.int other.num,rfl,rfl,t2.same sm,rfl,_,rfl,_,rfl,(l8 4),fun p hp=>?_⟩
  have ly:ys.length≤i:=by rw[hL.len];simp only[part,aA0,aD0];omega
  have npa:p≠acc:=fun e=>by rw[e,ha]at hp;cases hp
  have ha2:upd H' p (.tup [.int one.num,.int other.num,.str gd,.str why]) acc=some (.lst ys):=b8 hp _ _ ha
  refine⟨ys,ha2,Q5 (by omega),l7 (sm.trans (b8 hp)) hacc,_,b6,?_⟩
  have e:part one.num other.num why (gs.take (i+1))=part one.num other.num why (gs.take i)++[(one.num,other.num,gd,why)]:=by
   rw[aD3,hgd]
   simp only[part,aG5,aB5,aC3,aJ4]
  rw[e]
  have k1:u5 H' (upd (upd H' p (.tup [.int one.num,.int other.num,.str gd,.str why])) acc (.lst (ys++[.ref p]))):=(J0 hp).trans (n4 ha2)
  exact(hL.tupK k1).snoc ⟨p,rfl,by rw[c9 npa];exact b6⟩
 ·obtain⟨sm,ys,ha,hL⟩:=h
  rw[aA0,aD5]at hL
  exact q acc ys H' sm ha hL
inductive a7s(K:PySem.W.Frag)(vs:List V)(H:Hp)(Q:VK):Prop
 | mk (one other:Rec) (x y:V) (x0:vs=[x,y]) (x1:RecAt K H one x) (x2:RecAt K H other y) (x3:one.put.length≤63) (x4:one.looked.length≤63) (x5:other.put.length≤63) (x6:other.looked.length≤63) (xq:∀(r:Addr) (ys:List V) (ls:List Lk) (H':Hp),f7 H H'→H' r=some (.lst ys)→A8 H' ls ys→LB one other ls→Q (.ref r) H')
def a0y(K:PySem.W.Frag):Sp:=fun vs H Q _=>a7s K vs H Q
def Btw(H:Hp)(l:Addr)(ls:List Lk)(H':Hp):Prop:=f7 H H'∧∃ys,H' l=some (.lst ys)∧A8 H' ls ys
theorem Btw.grow{H H1 H2:Hp}{l r:Addr}{ls ms:List Lk}{ys:List V}(hl:H l=none)(b:Btw H l ls H1)(s:f7 H1 H2)(hr:H2 r=some (.lst ys))(hm:A8 H2 ms ys)(hz:ls.length+ms.length≤100000)(Q:Hp→Prop)(q:∀H3,Btw H l (ls++ms) H3→Q H3) :
  ∃l' b' xs zs,V.ref l=V.ref l'∧[V.ref r]=[V.ref b']∧H2 l'=some (.lst xs)∧H2 b'=some (.lst zs)∧xs.length+zs.length≤sizeLine∧Q (upd H2 l' (.lst (xs++zs))):=by
 obtain⟨s1,xs,h1,h2⟩:=b
 have e1:H2 l=some (.lst xs):=s _ _ h1
 refine⟨l,r,xs,ys,rfl,rfl,e1,hr,?_,q _ ⟨l7 (s1.trans s) hl,_,b6,?_⟩⟩
 ·rw[h2.len,hm.len,aG2];omega
 ·exact A8.append (hm.tupK (n4 e1)) ((h2.tupK s.tupK).tupK (n4 e1))
theorem a1g{c:Prop}(h:¬c)(as bs:List Str):Z4 c as bs []:=⟨by simp,fun x=>⟨fun z=>by simp at z,fun z=>absurd z.1 h⟩⟩
theorem a8l{c:Prop}(h:c){as bs gs:List Str}(n:gs.Nodup)(m:∀x,x∈gs↔x∈as∧x∈bs):Z4 c as bs gs:=⟨n,fun x=>⟨fun z=>⟨h,(m x).mp z⟩,fun z=>(m x).mpr z.2⟩⟩
theorem a1Q(n m:Int)(why:Str):part n m why []=[]:=rfl
theorem a9d(T:B6 K mg t):g9 P w K mg base A3 2 t.f_links_between t.d_links_between ["one","other"] (a0y K):=by
 refine T.F_links_between.ok a0d (fun vs H Q E h=>?_) (fun cdv A outer s H vs Q E hr h=>?_)
 ·obtain⟨one,other,x,y,rfl,_⟩:=h
  rfl
 obtain⟨one,other,x,y,rfl,R1,R2,p1,k1,p2,k2,q⟩:=h
 obtain⟨b1,la1,pa1,rfl,t1,l1,u1⟩:=id R1
 obtain⟨b2,la2,pa2,rfl,t2,l2,u2⟩:=id R2
 refine⟨_,(b9 (g8 (i:=2) a0d.nd rfl (Or.inl rfl) (m6 b7))
 (b9 (P6 (l4 (g7 a9b (d7 f6 (pv 0) (y9 rfl T.m_ENDED T.r_ENDED) (fun _ _=>rfl)) (d7 f6 (pv 1) (y9 rfl T.m_ENDED T.r_ENDED) (fun _ _=>rfl)) (i7 _))
 (d6 (m8 (v9 aB0 aJ3 aK4 Z1 (pv 2) (b0 (k7 (g9.mono (k:=1) (a3e T) (by decide)) hr rfl T.m_links_for T.F_links_for.kp T.F_links_for.b .nil k8 (b0 (pv 0) (b0 (pv 1) (b0 (k7 (g9.mono (k:=1) (a2k T) (by decide)) hr rfl T.m_in_both T.F_in_both.kp T.F_in_both.b .nil k8 (b0 (d7 f6 (pv 0) (y9 rfl T.m_PUT T.r_PUT) (fun _ _=>rfl)) (b0 (d7 f6 (pv 1) (y9 rfl T.m_PUT T.r_PUT) (fun _ _=>rfl)) b7))) (b0 i8 b7))))) b7))))
 j4))
 (b9 (P6 (l4 (g7 a4N (d7 f6 (pv 0) (y9 rfl T.m_ENDED T.r_ENDED) (fun _ _=>rfl)) (d7 f6 (pv 1) (y9 rfl T.m_BEGAN T.r_BEGAN) (fun _ _=>rfl)) (i7 _))
 (d6 (m8 (v9 aB0 aJ3 aK4 Z1 (pv 2) (b0 (k7 (g9.mono (k:=1) (a3e T) (by decide)) hr rfl T.m_links_for T.F_links_for.kp T.F_links_for.b .nil k8 (b0 (pv 0) (b0 (pv 1) (b0 (k7 (g9.mono (k:=1) (a2k T) (by decide)) hr rfl T.m_in_both T.F_in_both.kp T.F_in_both.b .nil k8 (b0 (d7 f6 (pv 0) (y9 rfl T.m_PUT T.r_PUT) (fun _ _=>rfl)) (b0 (d7 f6 (pv 1) (y9 rfl T.m_LOOKED T.r_LOOKED) (fun _ _=>rfl)) b7))) (b0 i8 b7))))) b7))))
 j4))
 (b9 (P6 (l4 (g7 a4B (d7 f6 (pv 1) (y9 rfl T.m_ENDED T.r_ENDED) (fun _ _=>rfl)) (d7 f6 (pv 0) (y9 rfl T.m_BEGAN T.r_BEGAN) (fun _ _=>rfl)) (i7 _))
 (d6 (m8 (v9 aB0 aJ3 aK4 Z1 (pv 2) (b0 (k7 (g9.mono (k:=1) (a3e T) (by decide)) hr rfl T.m_links_for T.F_links_for.kp T.F_links_for.b .nil k8 (b0 (pv 0) (b0 (pv 1) (b0 (k7 (g9.mono (k:=1) (a2k T) (by decide)) hr rfl T.m_in_both T.F_in_both.kp T.F_in_both.b .nil k8 (b0 (d7 f6 (pv 0) (y9 rfl T.m_LOOKED T.r_LOOKED) (fun _ _=>rfl)) (b0 (d7 f6 (pv 1) (y9 rfl T.m_PUT T.r_PUT) (fun _ _=>rfl)) b7))) (b0 i8 b7))))) b7))))
 j4))
 (d6 (i4 (pv 2))))))),?_⟩
 refine⟨(l8 0),fun l hl=>?_⟩
 have B0:Btw H l [] (upd H l (.lst [])):=⟨b8 hl,[],b6,.nil⟩
 refine⟨fun σ' H'=>∃g1,σ'=[some (.ref b1),some (.ref b2),some (.ref l)]∧Btw H l (part one.num other.num "over" g1) H'∧Z4 (one.fin<other.fin) one.put other.put g1∧g1.length≤63,?_,?_⟩
 ·refine⟨_,rfl,b1,_,2,_,rfl,rfl,t1.same B0.1,rfl,_,rfl,b2,_,2,_,rfl,rfl,t2.same B0.1,rfl,_,_,rfl,rfl,_,rfl,?_⟩
  refine K3 (fun c=>?_) (fun c=>?_)
  ·have c':one.fin<other.fin:=aF2 c
   refine⟨_,rfl,.inl ⟨rfl,_,d8.of B0.2.choose_spec.1⟩,_,rfl,_,rfl,_,rfl,b1,_,4,_,rfl,rfl,t1.same B0.1,rfl,_,rfl,b2,_,4,_,rfl,rfl,t2.same B0.1,rfl,pa1,pa2,one.put,other.put,rfl,u1.same B0.1,u2.same B0.1,by omega,by omega,fun r rs Ha sa ha na ma=>?_⟩
   have lr:rs.length≤one.put.length:=A4 na fun x hx=>((ma x).mp hx).1
   refine⟨one,other,.ref b1,.ref b2,r,rs,_,rfl,(R1.same B0.1).same sa,(R2.same B0.1).same sa,d8.of ha,by omega,fun r2 ys Hb sb hb Lb=>?_⟩
   exact B0.grow hl (sa.trans sb) hb Lb (by simp[part];omega) _ fun H3 B3=>⟨rs,rfl,B3,a8l c' na ma,by omega⟩
  ·have c':¬one.fin<other.fin:=aH3 (aK7.mpr c)
   exact⟨[],rfl,B0,a1g c' _ _,aG3 _⟩
 rintro σ1 H1 ⟨g1,rfl,B1,M1,z1⟩
 refine⟨fun σ' H'=>∃g2,σ'=[some (.ref b1),some (.ref b2),some (.ref l)]∧Btw H l (part one.num other.num "over" g1++part one.num other.num "saw" g2) H'∧Z4 (one.fin≤other.beg) one.put other.looked g2∧g2.length≤63,?_,?_⟩
 ·refine⟨_,rfl,b1,_,2,_,rfl,rfl,t1.same B1.1,rfl,_,rfl,b2,_,1,_,rfl,rfl,t2.same B1.1,rfl,_,_,rfl,rfl,_,rfl,?_⟩
  refine K3 (fun c=>?_) (fun c=>?_)
  ·have c':one.fin≤other.beg:=aF2 c
   refine⟨_,rfl,.inl ⟨rfl,_,d8.of B1.2.choose_spec.1⟩,_,rfl,_,rfl,_,rfl,b1,_,4,_,rfl,rfl,t1.same B1.1,rfl,_,rfl,b2,_,3,_,rfl,rfl,t2.same B1.1,rfl,pa1,la2,one.put,other.looked,rfl,u1.same B1.1,l2.same B1.1,by omega,by omega,fun r rs Ha sa ha na ma=>?_⟩
   have lr:rs.length≤one.put.length:=A4 na fun x hx=>((ma x).mp hx).1
   refine⟨one,other,.ref b1,.ref b2,r,rs,_,rfl,(R1.same B1.1).same sa,(R2.same B1.1).same sa,d8.of ha,by omega,fun r2 ys Hb sb hb Lb=>?_⟩
   exact B1.grow hl (sa.trans sb) hb Lb (by simp[part];omega) _ fun H3 B3=>⟨rs,rfl,B3,a8l c' na ma,by omega⟩
  ·have c':¬one.fin≤other.beg:=aH3 (aK7.mpr c)
   exact⟨[],rfl,by rw[a1Q,aI6];exact B1,a1g c' _ _,aG3 _⟩
 rintro σ2 H2 ⟨g2,rfl,B2,M2,z2⟩
 refine⟨fun σ' H'=>∃g3,σ'=[some (.ref b1),some (.ref b2),some (.ref l)]∧Btw H l (part one.num other.num "over" g1++part one.num other.num "saw" g2++part one.num other.num "missed" g3) H'∧Z4 (one.beg<other.fin) one.looked other.put g3,?_,?_⟩
 ·refine⟨_,rfl,b2,_,2,_,rfl,rfl,t2.same B2.1,rfl,_,rfl,b1,_,1,_,rfl,rfl,t1.same B2.1,rfl,_,_,rfl,rfl,_,rfl,?_⟩
  refine K3 (fun c=>?_) (fun c=>?_)
  ·have c':one.beg<other.fin:=aF2 c
   refine⟨_,rfl,.inl ⟨rfl,_,d8.of B2.2.choose_spec.1⟩,_,rfl,_,rfl,_,rfl,b1,_,3,_,rfl,rfl,t1.same B2.1,rfl,_,rfl,b2,_,4,_,rfl,rfl,t2.same B2.1,rfl,la1,pa2,one.looked,other.put,rfl,l1.same B2.1,u2.same B2.1,by omega,by omega,fun r rs Ha sa ha na ma=>?_⟩
   have lr:rs.length≤one.looked.length:=A4 na fun x hx=>((ma x).mp hx).1
   refine⟨one,other,.ref b1,.ref b2,r,rs,_,rfl,(R1.same B2.1).same sa,(R2.same B2.1).same sa,d8.of ha,by omega,fun r2 ys Hb sb hb Lb=>?_⟩
   exact B2.grow hl (sa.trans sb) hb Lb (by simp[part];omega) _ fun H3 B3=>⟨rs,rfl,B3,a8l c' na ma⟩
  ·have c':¬one.beg<other.fin:=aH3 (aK7.mpr c)
   exact⟨[],rfl,by rw[a1Q,aI6];exact B2,a1g c' _ _⟩
 rintro σ3 H3 ⟨g3,rfl,⟨s3,ys,h3,L3⟩,M3⟩
 exact⟨_,rfl,q l ys _ H3 s3 h3 L3 ⟨g1,g2,g3,rfl,M1,M2,M3⟩⟩
structure Dl where
 num:Int
 beg:Int
 looked:List Str
 aside:Am
abbrev J7:=List (Str×List (Int×Int))
structure j8 where
 begun:Nat
 under:List Dl
 vers:J7
 recs:List Rec
 links:List Lk
 row:List Int
def W5(ks:List Str):List (Key×V):=ks.map fun k=>(Sum.inr k,V.bl true)
def J8(ks:List Str)(g:Str):List Str:=if g∈ks then ks else ks++[g]
theorem b7u(ks:List Str)(g:Str):putK (W5 ks) (Sum.inr g) (V.bl true)=W5 (J8 ks g):=by
 unfold putK J8
 have e:(W5 ks).any (fun kv=>decide (kv.1=(Sum.inr g:Key)))=decide (g∈ks):=by
  unfold W5
  rw[List.any_map]
  induction ks with
  | nil=>rfl
  | cons k ks ih=>
   rw[aL1,ih]
   show(decide ((Sum.inr k:Key)=Sum.inr g)||_)=_
   rw[a1s]
   by_cases z:k=g
   ·subst z;simp
   ·have z':¬g=k:=fun w=>z w.symm
    simp[z,z']
 rw[e]
 by_cases c:g∈ks
 ·rw[aB4 (by simpa using c),aB4 c]
  unfold W5
  rw[aE8]
  refine aE5 fun k _=>?_
  show(if (Sum.inr k:Key)=Sum.inr g then _ else _)=_
  split<;>rfl
 ·rw[aA8 (by simpa using c),aA8 c]
  unfold W5
  rw[aB5];rfl
theorem b0w(ks:List Str):(W5 ks).length=ks.length:=aA0 _
theorem a9U(ks:List Str):((W5 ks).map fun q=>kV q.1)=ks.map V.str:=by unfold W5;rw[aE8];rfl
theorem a4G(m:Am):(L5 m).length=m.length:=aA0 _
theorem a6v(m:Am):((L5 m).map fun q=>kV q.1)=(m.map (·.1)).map V.str:=by unfold L5;rw[aE8,aE8];rfl
inductive Role where
 | free | tally | under | vers | recs | fz
 | deal (n:Int)
 | look (n:Int)
 | side (n:Int)
 | vl (g:Str)
 deriving DecidableEq
structure Gh where
 rl:Addr→Role
 dx:Addr
 U:Addr
 Vd:Addr
 R:Addr
 L:Addr
 W:Addr
 dp:Int→Addr
 dd:Int→Addr
 lk:Int→Addr
 as:Int→Addr
 vl:Str→Addr
def J5(b:Int)(U Vd R L W:Addr):List (Str×V):=[("begun",.int b),("under_way",.ref U),("versions",.ref Vd),("records",.ref R),("links",.ref L),("row",.ref W)]
def a6b(n b:Int)(lk as:Addr):List (Str×V):=[("number",.int n),("began",.int b),("looked",.ref lk),("aside",.ref as)]
structure a8Z(CD:Addr)(G:Gh)(H:Hp)(d:Dl):Prop where
 ob:H (G.dp d.num)=some (.ins CD (G.dd d.num) (a6b d.num d.beg (G.lk d.num) (G.as d.num)))
 lk:H (G.lk d.num)=some (.dK (W5 d.looked))
 as:H (G.as d.num)=some (.dK (L5 d.aside))
 r1:G.rl (G.dp d.num)=.deal d.num
 r2:G.rl (G.lk d.num)=.look d.num
 r3:G.rl (G.as d.num)=.side d.num
def VAt(H:Hp)(p:Int×Int)(x:V):Prop:=∃b,x=.ref b∧H b=some (.tup [.int p.1,.int p.2])
def RcAt(rl:Addr→Role)(H:Hp)(r:Rec)(x:V):Prop:=∃b la pa,x=.ref b∧H b=some (.tup [.int r.num,.int r.beg,.int r.fin,.ref la,.ref pa])∧H la=some (.lst (r.looked.map V.str))∧H pa=some (.lst (r.put.map V.str))∧rl la=.fz∧rl pa=.fz
theorem RcAt.rec{K:PySem.W.Frag}{rl:Addr→Role}{H:Hp}{r:Rec}{x:V}(h:RcAt rl H r x):RecAt K H r x:=
 let ⟨b,la,pa,e,h1,h2,h3,_⟩:=h;⟨b,la,pa,e,i3.of h1,d8.of h2,d8.of h3⟩
theorem a9x{K:PySem.W.Frag}{rl:Addr→Role}{H:Hp}:∀{rs:List Rec} {xs:List V},Paired (RcAt rl H) rs xs→u0 K H (rs.map rd) xs
 | _,_,.nil=>rfl
 | _,_,.cons h t=>⟨_,_,rfl,a2h.mpr h.rec,a9x t⟩
theorem a0k{K:PySem.W.Frag}{H:Hp}:∀{ps:List (Int×Int)} {xs:List V},Paired (VAt H) ps xs→u0 K H (ps.map pd) xs
 | _,_,.nil=>rfl
 | _,_,.cons ⟨b,e,h⟩ t=>⟨_,_,rfl,by subst e;exact b5A (i3.of h),a0k t⟩
theorem C5{H H':Hp}(k:u5 H H'){ps:List (Int×Int)}{xs:List V}(h:Paired (VAt H) ps xs):Paired (VAt H') ps xs:=Paired.mapP h fun _ _ ⟨b,e,h⟩=>⟨b,e,k.1 _ _ h⟩
structure TA(CT CD:Addr)(G:Gh)(H:Hp)(p:Addr)(st:j8):Prop where
 ob:H p=some (.ins CT G.dx (J5 (st.begun:Int) G.U G.Vd G.R G.L G.W))
 un:H G.U=some (.dK (m7 (st.under.map (·.num)) fun n=>.ref (G.dp n)))
 ve:H G.Vd=some (.dK (st.vers.map fun q=>((Sum.inr q.1:Key),V.ref (G.vl q.1))))
 rc:∃xs,H G.R=some (.lst xs)∧Paired (RcAt G.rl H) st.recs xs
 ln:∃xs,H G.L=some (.lst xs)∧A8 H st.links xs
 rw:H G.W=some (.lst (st.row.map V.int))
 dl:∀d∈st.under,a8Z CD G H d
 vl:∀q∈st.vers,∃xs,H (G.vl q.1)=some (.lst xs)∧Paired (VAt H) q.2 xs∧G.rl (G.vl q.1)=.vl q.1
 r0:G.rl p=.tally
 r1:G.rl G.U=.under
 r2:G.rl G.Vd=.vers
 r3:G.rl G.R=.recs
 r4:G.rl G.L=.fz
 r5:G.rl G.W=.fz
 nd:(st.under.map (·.num)).Nodup
 vd:(st.vers.map (·.1)).Nodup
 cl:∀b,H b=none→G.rl b=.free
theorem j7{H H':Hp}{b:Addr}(s:f7 H H')(h:H' b=none):H b=none:=by
 cases z:H b with
 | none=>rfl
 | some o=>rw[s _ _ z]at h;cases h
theorem v3{H:Hp}{a b:Addr}{o:HO}(h:upd H a o b=none):H b=none:=by
 by_cases c:b=a
 ·rw[c,b6]at h;cases h
 ·rw[c9 c]at h;exact h
structure Kp(G:Gh)(H:Hp)(G':Gh)(H':Hp):Prop where
 keep:∀b o,G.rl b=.free→H b=some o→H' b=some o
 tup:u5 H H'
 out:∀b o,G.rl b=.free→H b=some o→G'.rl b=.free
 dom:∀b,H' b=none→H b=none
theorem Kp.refl(G:Gh)(H:Hp):Kp G H G H:=⟨fun _ _ _ h=>h,u5.refl H,fun _ _ h _=>h,fun _ h=>h⟩
theorem Kp.trans{G G1 G2:Gh}{H H1 H2:Hp}(a:Kp G H G1 H1)(b:Kp G1 H1 G2 H2):Kp G H G2 H2:=
 ⟨fun c o f h=>b.keep c o (a.out c o f h) (a.keep c o f h),a.tup.trans b.tup,fun c o f h=>b.out c o (a.out c o f h) (a.keep c o f h),fun c h=>a.dom c (b.dom c h)⟩
theorem Kp.same{G:Gh}{H H':Hp}(s:f7 H H'):Kp G H G H':=⟨fun b o _ h=>s b o h,s.tupK,fun _ _ f _=>f,fun _ h=>j7 s h⟩
theorem RcAt.same{rl:Addr→Role}{H H':Hp}{r:Rec}{x:V}(s:f7 H H')(h:RcAt rl H r x):RcAt rl H' r x:=
 let ⟨b,la,pa,e,h1,h2,h3,h4,h5⟩:=h;⟨b,la,pa,e,s _ _ h1,s _ _ h2,s _ _ h3,h4,h5⟩
section
variable{CT CD p:Addr}{G:Gh}{H H':Hp}{st:j8}
theorem a8Z.same{d:Dl}(h:a8Z CD G H d)(s:f7 H H'):a8Z CD G H' d:=⟨s _ _ h.ob,s _ _ h.lk,s _ _ h.as,h.r1,h.r2,h.r3⟩
theorem TA.same(h:TA CT CD G H p st)(s:f7 H H'):TA CT CD G H' p st where
 ob:=s _ _ h.ob
 un:=s _ _ h.un
 ve:=s _ _ h.ve
 rc:=let ⟨xs,h1,h2⟩:=h.rc;⟨xs,s _ _ h1,Paired.mapP h2 fun _ _ z=>z.same s⟩
 ln:=let ⟨xs,h1,h2⟩:=h.ln;⟨xs,s _ _ h1,h2.tupK s.tupK⟩
 rw:=s _ _ h.rw
 dl:=fun d hd=>(h.dl d hd).same s
 vl:=fun q hq=>let ⟨xs,h1,h2,h3⟩:=h.vl q hq;⟨xs,s _ _ h1,C5 s.tupK h2,h3⟩
 r0:=h.r0
 r1:=h.r1
 r2:=h.r2
 r3:=h.r3
 r4:=h.r4
 r5:=h.r5
 nd:=h.nd
 vd:=h.vd
 cl:=fun b e=>h.cl b (j7 s e)
theorem a7i{a b:Addr}{ρ σ:Role}(h:G.rl b=σ)(k:G.rl a=ρ)(n:σ≠ρ):b≠a:=fun z=>n (by rw[←h,←k,z])
theorem d9{a b:Addr}{o u:HO}{ρ σ:Role}(e:H b=some u)(h:G.rl b=σ)(k:G.rl a=ρ)(n:σ≠ρ):upd H a o b=some u:=by rw[c9 (a7i h k n)];exact e
theorem RcAt.upd{a:Addr}{o:HO}{ρ:Role}{r:Rec}{x:V}(h:RcAt G.rl H r x)(k:G.rl a=ρ)(n:Role.fz≠ρ)(t:u5 H (L2.upd H a o)):RcAt G.rl (L2.upd H a o) r x:=
 let ⟨b,la,pa,e,h1,h2,h3,h4,h5⟩:=h;⟨b,la,pa,e,t.1 _ _ h1,d9 h2 h4 k n,d9 h3 h5 k n,h4,h5⟩
theorem Kp.upd{a:Addr}{o:HO}(k:G.rl a≠.free)(t:u5 H (L2.upd H a o)):Kp G H G (L2.upd H a o):=
 ⟨fun b u f h=>by rw[c9 fun z=>k (by rw[←z];exact f)];exact h,t,fun _ _ f _=>f,fun _ h=>v3 h⟩
def F6(ds:List Dl)(n:Int)(f:Dl→Dl):List Dl:=ds.map fun d=>if d.num=n then f d else d
def V0(g:Str)(e:Dl):Dl:={ e with looked:=J8 e.looked g }
def U6(g:Str)(a:Int)(e:Dl):Dl:={ e with aside:=G3 e.aside g a }
theorem P5{ds:List Dl}{n:Int}{f:Dl→Dl}(hf:∀d,(f d).num=d.num):(F6 ds n f).map (·.num)=ds.map (·.num):=by
 unfold F6;rw[aE8]
 refine aE5 fun d _=>?_
 show(if d.num=n then f d else d).num=d.num
 split
 ·exact hf d
 ·rfl
theorem M9{ds:List Dl}(nd:(ds.map (·.num)).Nodup){d e:Dl}(hd:d∈ds)(he:e∈ds)(h:d.num=e.num):d=e:=by
 obtain⟨i,hi⟩:=aD9.mp hd
 obtain⟨j,hj⟩:=aD9.mp he
 have li:=(aA2.mp hi).1
 have:i=j:=(aF4 (l:=ds.map (·.num)) (by rw[aA0];exact li) nd).mp (by rw[aB1,aB1,hi,hj];simp[h])
 subst this
 rw[hi]at hj;exact aC0 hj
theorem TA.setLook(h:TA CT CD G H p st){d:Dl}(hd:d∈st.under)(g:Str) :
  TA CT CD G (upd H (G.lk d.num) (.dK (W5 (J8 d.looked g)))) p { st with under:=F6 st.under d.num (V0 g) }∧Kp G H G (upd H (G.lk d.num) (.dK (W5 (J8 d.looked g)))):=by
 have D:=h.dl d hd
 have t:u5 H (upd H (G.lk d.num) (.dK (W5 (J8 d.looked g)))):=P1 D.lk
 refine⟨⟨d9 h.ob h.r0 D.r2 (by simp),?_,d9 h.ve h.r2 D.r2 (by simp),?_,?_,d9 h.rw h.r5 D.r2 (by simp),fun e he=>?_,fun q hq=>?_,h.r0,h.r1,h.r2,h.r3,h.r4,h.r5,?_,h.vd,fun b e=>h.cl b (v3 e)⟩,Kp.upd (by rw[D.r2];simp) t⟩
 ·show upd H _ _ _=some (.dK (m7 ((F6 st.under d.num _).map (·.num)) _))
  rw[P5 (f:=V0 g) fun _=>rfl]
  exact d9 h.un h.r1 D.r2 (by simp)
 ·obtain⟨xs,h1,h2⟩:=h.rc
  exact⟨xs,d9 h1 h.r3 D.r2 (by simp),Paired.mapP h2 fun _ _ z=>z.upd D.r2 (by simp) t⟩
 ·obtain⟨xs,h1,h2⟩:=h.ln
  exact⟨xs,d9 h1 h.r4 D.r2 (by simp),h2.tupK t⟩
 ·obtain⟨e',he',rfl⟩:=aA5.mp he
  have E:=h.dl e' he'
  by_cases c:e'.num=d.num
  ·have:e'=d:=M9 h.nd he' hd c
   subst this
   rw[aB4 rfl]
   exact⟨d9 E.ob E.r1 E.r2 (by simp),b6,d9 E.as E.r3 E.r2 (by simp),E.r1,E.r2,E.r3⟩
  ·rw[aA8 c]
   exact⟨d9 E.ob E.r1 D.r2 (by simp),d9 E.lk E.r2 D.r2 (by simpa using c),d9 E.as E.r3 D.r2 (by simp),E.r1,E.r2,E.r3⟩
 ·obtain⟨xs,h1,h2,h3⟩:=h.vl q hq
  exact⟨xs,d9 h1 h3 D.r2 (by simp),C5 t h2,h3⟩
 ·show((F6 st.under d.num _).map (·.num)).Nodup
  rw[P5 (f:=V0 g) fun _=>rfl];exact h.nd
theorem TA.setSide(h:TA CT CD G H p st){d:Dl}(hd:d∈st.under)(g:Str)(a:Int) :
  TA CT CD G (upd H (G.as d.num) (.dK (L5 (G3 d.aside g a)))) p { st with under:=F6 st.under d.num (U6 g a) }∧Kp G H G (upd H (G.as d.num) (.dK (L5 (G3 d.aside g a)))):=by
 have D:=h.dl d hd
 have t:u5 H (upd H (G.as d.num) (.dK (L5 (G3 d.aside g a)))):=P1 D.as
 refine⟨⟨d9 h.ob h.r0 D.r3 (by simp),?_,d9 h.ve h.r2 D.r3 (by simp),?_,?_,d9 h.rw h.r5 D.r3 (by simp),fun e he=>?_,fun q hq=>?_,h.r0,h.r1,h.r2,h.r3,h.r4,h.r5,?_,h.vd,fun b e=>h.cl b (v3 e)⟩,Kp.upd (by rw[D.r3];simp) t⟩
 ·show upd H _ _ _=some (.dK (m7 ((F6 st.under d.num _).map (·.num)) _))
  rw[P5 (f:=U6 g a) fun _=>rfl]
  exact d9 h.un h.r1 D.r3 (by simp)
 ·obtain⟨xs,h1,h2⟩:=h.rc
  exact⟨xs,d9 h1 h.r3 D.r3 (by simp),Paired.mapP h2 fun _ _ z=>z.upd D.r3 (by simp) t⟩
 ·obtain⟨xs,h1,h2⟩:=h.ln
  exact⟨xs,d9 h1 h.r4 D.r3 (by simp),h2.tupK t⟩
 ·obtain⟨e',he',rfl⟩:=aA5.mp he
  have E:=h.dl e' he'
  by_cases c:e'.num=d.num
  ·have:e'=d:=M9 h.nd he' hd c
   subst this
   rw[aB4 rfl]
   exact⟨d9 E.ob E.r1 E.r3 (by simp),d9 E.lk E.r2 E.r3 (by simp),b6,E.r1,E.r2,E.r3⟩
  ·rw[aA8 c]
   exact⟨d9 E.ob E.r1 D.r3 (by simp),d9 E.lk E.r2 D.r3 (by simp),d9 E.as E.r3 D.r3 (by simpa using c),E.r1,E.r2,E.r3⟩
 ·obtain⟨xs,h1,h2,h3⟩:=h.vl q hq
  exact⟨xs,d9 h1 h3 D.r3 (by simp),C5 t h2,h3⟩
 ·show((F6 st.under d.num _).map (·.num)).Nodup
  rw[P5 (f:=U6 g a) fun _=>rfl];exact h.nd
def Q3(ds:List Dl)(n:Int):List Dl:=ds.filter fun d=>decide (d.num≠n)
theorem a1S(ks:List Int)(g:Int→V)(n:Int):J6 (m7 ks g) (Sum.inl n)=m7 (ks.filter fun k=>decide (k≠n)) g:=by
 unfold J6 m7
 rw[List.filter_map]
 congr 1
 refine List.filter_congr fun k _=>?_
 show decide ((Sum.inl k:Key)≠Sum.inl n)=decide (k≠n)
 by_cases e:k=n
 ·subst e;simp
 ·rw[aC4 e,aC4]
  exact fun z=>e (Sum.inl.inj z)
theorem a5c(ds:List Dl)(n:Int):(Q3 ds n).map (·.num)=(ds.map (·.num)).filter fun k=>decide (k≠n):=by
 unfold Q3;rw[List.filter_map];rfl
theorem TA.drop(h:TA CT CD G H p st)(n:Int):TA CT CD G (upd H G.U (.dK (J6 (m7 (st.under.map (·.num)) fun n=>.ref (G.dp n)) (Sum.inl n)))) p { st with under:=Q3 st.under n }∧Kp G H G (upd H G.U (.dK (J6 (m7 (st.under.map (·.num)) fun n=>.ref (G.dp n)) (Sum.inl n)))):=by
 have t:∀o,u5 H (upd H G.U o):=fun o=>P1 h.un
 refine⟨⟨d9 h.ob h.r0 h.r1 (by simp),?_,d9 h.ve h.r2 h.r1 (by simp),?_,?_,d9 h.rw h.r5 h.r1 (by simp),fun e he=>?_,fun q hq=>?_,h.r0,h.r1,h.r2,h.r3,h.r4,h.r5,?_,h.vd,fun b e=>h.cl b (v3 e)⟩,Kp.upd (by rw[h.r1];simp) (t _)⟩
 ·rw[b6,a1S]
  show some (HO.dK (m7 _ _))=some (HO.dK (m7 ((Q3 st.under n).map (·.num)) _))
  rw[a5c]
 ·obtain⟨xs,h1,h2⟩:=h.rc
  exact⟨xs,d9 h1 h.r3 h.r1 (by simp),Paired.mapP h2 fun _ _ z=>z.upd h.r1 (by simp) (t _)⟩
 ·obtain⟨xs,h1,h2⟩:=h.ln
  exact⟨xs,d9 h1 h.r4 h.r1 (by simp),h2.tupK (t _)⟩
 ·have E:=h.dl e (aD2.mp he).1
  exact⟨d9 E.ob E.r1 h.r1 (by simp),d9 E.lk E.r2 h.r1 (by simp),d9 E.as E.r3 h.r1 (by simp),E.r1,E.r2,E.r3⟩
 ·obtain⟨xs,h1,h2,h3⟩:=h.vl q hq
  exact⟨xs,d9 h1 h3 h.r1 (by simp),C5 (t _) h2,h3⟩
 ·show((Q3 st.under n).map (·.num)).Nodup
  rw[a5c];exact h.nd.filter _
end
def LWs(r:Rec)(rs:List Rec)(cs:List (List Lk)):Prop:=Paired (fun(o:Rec) (c:List Lk)=>∃l1 l2,c=l1++l2∧LB r o l1∧LB o r l2) rs cs
inductive a6E(K:PySem.W.Frag)(vs:List V)(H:Hp)(Q:VK):Prop
 | mk (r:Rec) (x:V) (a:Addr) (rs:List Rec) (xs:List V) (x0:vs=[x,.ref a]) (x1:RecAt K H r x) (x2:d8 K H a xs) (x3:u0 K H (rs.map rd) xs) (x4:rs.length≤150) (x5:(∀o∈r::rs,o.put.length≤63∧o.looked.length≤63)) (xq:∀(l:Addr) (ys:List V) (cs:List (List Lk)) (H':Hp),f7 H H'→H l=none→H' l=some (.lst ys)→A8 H' cs.flatten ys→LWs r rs cs→Q (.ref l) H')
def a0N(K:PySem.W.Frag):Sp:=fun vs H Q _=>a6E K vs H Q
theorem a4H{r:Rec}{rs:List Rec}{cs:List (List Lk)}(h:LWs r rs cs)(hb:∀o∈r::rs,o.put.length≤63∧o.looked.length≤63):cs.flatten.length≤600*rs.length:=by
 induction h with
 | nil=>simp
 | @cons o c rs cs z t ih=>
  obtain⟨l1,l2,rfl,b1,b2⟩:=z
  have h1:=b1.len
  have h2:=b2.len
  have r1:=hb r aB9
  have r2:=hb o (aC1 _ aB9)
  have:=ih fun q hq=>hb q (by rcases aB7.mp hq with e | e;exact e▸aB9;exact aC1 _ (aC1 _ e))
  rw[aK6,aA4,aA4,aE4]
  omega
theorem a8L(T:B6 K mg t):g9 P w K mg base A3 3 t.f_links_with t.d_links_with ["record","others"] (a0N K):=by
 refine T.F_links_with.ok Z7 (fun vs H Q E h=>?_) (fun cdv A outer s H vs Q E hr h=>?_)
 ·obtain⟨r,x,a,rs,xs,rfl,_⟩:=h
  rfl
 obtain⟨r,x,a,rs,xs,rfl,R1,hA,hR,z1,hb,q⟩:=h
 refine⟨_,(b9 (g8 (i:=2) Z7.nd rfl (Or.inl rfl) (m6 b7))
 (b9 (y6 aE1 rfl (u6 (pv 1)) (l6 (i:=3) Z7.nd rfl (Or.inl rfl))
 (b9 (m8 (v9 aB0 aJ3 aK4 Z1 (pv 2) (b0 (k7 (g9.mono (k:=2) (a9d T) (by decide)) hr rfl T.m_links_between T.F_links_between.kp T.F_links_between.b .nil k8 (b0 (pv 0) (b0 (pv 3) b7))) b7)))
 (d6 (m8 (v9 aB0 aJ3 aK4 Z1 (pv 2) (b0 (k7 (g9.mono (k:=2) (a9d T) (by decide)) hr rfl T.m_links_between T.F_links_between.kp T.F_links_between.b .nil k8 (b0 (pv 3) (b0 (pv 0) b7))) b7))))))
 (d6 (i4 (pv 2))))),?_⟩
 have lx:xs.length=rs.length:=by have:=hR.len;rw[aA0]at this;exact this.symm
 refine⟨(l8 0),fun l hl=>?_⟩
 refine⟨_,rfl,a,rfl,⟨_,hA.same (b8 hl)⟩,?_⟩
 refine A7 (xs:=xs) (fun i σ' H'=>∃(o3:Option V) (cs:List (List Lk)),σ'=[some x,some (.ref a),some (.ref l),o3]∧Btw H l cs.flatten H'∧LWs r (rs.take i) cs)
  ⟨none,[],rfl,⟨b8 hl,[],b6,.nil⟩,.nil⟩ (fun i σ' H' _ h=>?_) (fun i y σ' H' hy h=>?_) (fun σ' H' h=>?_)
 ·obtain⟨o3,cs,rfl,B,_⟩:=h
  exact hA.same B.1
 ·obtain⟨o3,cs,rfl,B,W⟩:=h
  obtain⟨o,ho,R2⟩:=b2x hR hy
  have hom:=aC8 ho
  have br:=hb r aB9
  have bo:=hb o (aC1 _ hom)
  have li:=(aA2.mp ho).1
  have lw:=a4H W fun q hq=>hb q (by rcases aB7.mp hq with e | e;exact e▸aB9;exact aC1 _ (aM5 e))
  rw[aD0]at lw
  refine⟨_,rfl,.inl ⟨rfl,_,d8.of B.2.choose_spec.1⟩,_,rfl,_,rfl,r,o,x,y,rfl,R1.same B.1,R2.same B.1,br.1,br.2,bo.1,bo.2,fun r2 ys l1 H2 s2 h2 L2' b1=>?_⟩
  have z1':=b1.len
  refine B.grow hl s2 h2 L2' (by omega) _ fun H3 B3=>?_
  refine⟨_,rfl,.inl ⟨rfl,_,d8.of B3.2.choose_spec.1⟩,_,rfl,_,rfl,o,r,y,x,rfl,R2.same B3.1,R1.same B3.1,bo.1,bo.2,br.1,br.2,fun r3 zs l2 H4 s4 h4 L4 b2=>?_⟩
  have z2':=b2.len
  refine B3.grow hl s4 h4 L4 (by rw[aA4];omega) _ fun H5 B5=>?_
  have tk:rs.take (i+1)=rs.take i++[o]:=by rw[aD3,ho];rfl
  refine⟨_,cs++[l1++l2],rfl,?_,?_⟩
  ·rw[List.flatten_append,aK6,List.flatten_nil,aI6,←aG0];exact B5
  ·rw[tk];exact aK0 W ⟨l1,l2,rfl,b1,b2⟩
 ·obtain⟨o3,cs,rfl,B,W⟩:=h
  rw[lx,aD5]at W
  obtain⟨sm,ys,h1,h2⟩:=B
  exact⟨_,rfl,q l ys cs H' sm hl h1 h2 W⟩
inductive b0c(K:PySem.W.Frag)(vs:List V)(H:Hp)(Q:VK):Prop
 | mk (a:Addr) (n:Int) (zs:List V) (rg:List Lk) (j:Nat) (x0:vs=[.ref a,.int n]) (x1:H a=some (.lst zs)) (x2:A8 H rg zs) (x3:rg.length≤100000) (x4:(rg.map (·.1))[j]?=some n) (x5:(∀i,i<j→(rg.map (·.1))[i]?≠some n)) (xq:∀(l:Addr) (H':Hp),f7 H H'→H l=none→H' l=some (.lst (zs.drop j++zs.take j))→Q (.ref l) H')
def b0l(K:PySem.W.Frag):Sp:=fun vs H Q _=>b0c K vs H Q
theorem b8k(T:B6 K mg t):g9 P w K mg base A3 1 t.f_turned t.d_turned ["ring","number"] (b0l K):=by
 refine T.F_turned.ok a7K (fun vs H Q E h=>?_) (fun cdv A outer s H vs Q E hr h=>?_)
 ·obtain⟨a,n,zs,rg,j,rfl,_⟩:=h
  rfl
 obtain⟨a,n,zs,rg,j,rfl,ha,hL,z1,hj,hf,q⟩:=h
 refine⟨_,(b9 (g8 (i:=2) a7K.nd rfl (Or.inl rfl) (v9 aB0 PySem.F.slot_list_index PySem.F.type_list_index b5p (R9 rfl (u6 (pv 0)) (K2.mk (own:=["link"]) (tl:=["ring","number","place"]) rfl rfl rfl (fun _ _ _ _ _=>(l6 (i:=0) (a7V) rfl (Or.inl rfl))) (fun _ _ _ _ _=>a3c) (fun _ _ _ _ _=>(d7 T3 (pv 0) (y9 rfl T.m_ONE T.r_ONE) (fun _ _=>rfl))))) (b0 (pv 1) b7)))
 (d6 (i4 (j5 Q9 (N7 R7 (pv 0) (Q2 (pv 2)) P8) (N7 R7 (pv 0) P8 (Q2 (pv 2))))))),?_⟩
 have lz:=hL.len
 refine⟨_,rfl,a,rfl,⟨_,d8.of ha⟩,fun acc hacc=>?_⟩
 refine J3 (xs:=zs) (fun i H'=>f7 H H'∧H' acc=some (.lst (((rg.take i).map (·.1)).map V.int))) ⟨b8 hacc,b6⟩ (fun i H' _ h=>d8.of (h.1 _ _ ha)) (fun i x H' hx h=>?_) (fun H1 h=>?_)
 ·obtain⟨sm,h1⟩:=h
  obtain⟨l,hl,c,rfl,hc⟩:=hL.get hx
  have li:=(aA2.mp hl).1
  refine⟨_,rfl,c,_,0,_,rfl,rfl,i3.of (sm _ _ hc),rfl,_,h1,r9 (by rw[aA0,aA0,aD0];omega),l7 sm hacc,?_⟩
  rw[b6,aD3,hl,aG5,aB5,aB5];rfl
 obtain⟨s1,h1⟩:=h
 rw[lz,aD5]at h1
 have lj:=(aA2.mp hj).1
 rw[aA0]at lj
 refine⟨.inl ⟨rfl,_,d8.of h1⟩,_,rfl,acc,rg.map (·.1),n,j,rfl,rfl,h1,hj,hf,?_⟩
 refine⟨_,rfl,_,rfl,_,rfl,a,_,rfl,d8.of (s1 _ _ ha),fun c1 hc1=>?_⟩
 rw[a9j]
 have s2:=s1.trans (b8 (o:=.lst (zs.drop j)) hc1)
 refine⟨_,rfl,_,rfl,_,rfl,a,_,rfl,d8.of (s2 _ _ ha),fun c2 hc2=>?_⟩
 rw[a5n]
 have t2:=b8 (o:=.lst (zs.take j)) hc2
 refine⟨c1,c2,_,_,rfl,rfl,t2 _ _ b6,b6,?_,fun c3 hc3=>?_⟩
 ·rw[aH8,aD0,aG2];omega
 have t3:=b8 (o:=.lst (zs.drop j++zs.take j)) hc3
 exact q c3 _ ((s2.trans t2).trans t3) (C3 (s2.trans t2) hc3) b6
inductive a3j(t:E1)(K:PySem.W.Frag)(vs:List V)(H:Hp)(Q:VK):Prop
 | mk (x dx:Addr) (n b:Int) (x0:vs=[.ref x,.int n,.int b]) (x1:H x=some (.ins t.C_Dealing dx [])) (xq:∀(lk as:Addr) (H':Hp),H lk=none→H as=none→lk≠as→H' x=some (.ins t.C_Dealing dx (a6b n b lk as))→H' lk=some (.dK [])→H' as=some (.dK [])→Z0 x H H'→Q .non H')
def a0n(t:E1)(K:PySem.W.Frag):Sp:=fun vs H Q _=>a3j t K vs H Q
theorem a5m(T:B6 K mg t):g9 P w K mg base A3 1 t.f_Dealing___init__ t.d_Dealing___init__ ["self","number","began"] (a0n t K):=by
 refine T.F_Dealing___init__.ok a2n (fun vs H Q E h=>?_) (fun cdv A outer s H vs Q E hr h=>?_)
 ·obtain⟨x,dx,n,b,rfl,_⟩:=h
  rfl
 obtain⟨x,dx,n,b,rfl,hx,q⟩:=h
 refine⟨_,(b9 (O4 (pv 0) (pv 1) rfl)
 (b9 (O4 (pv 0) (pv 2) rfl)
 (b9 (O4 (pv 0) G0 rfl)
 (d6 (O4 (pv 0) G0 rfl))))),?_⟩
 refine⟨_,rfl,_,rfl,x,_,dx,_,rfl,hx,T.cl_Dealing,T.n_Dealing_number,(by show 0<1000;decide),?_⟩
 refine⟨_,rfl,_,rfl,x,_,dx,_,rfl,b6,T.cl_Dealing,T.n_Dealing_began,(by show 1<1000;decide),fun lk hlk=>?_⟩
 have nlk:lk≠x:=fun z=>by rw[z,b6]at hlk;cases hlk
 refine⟨_,rfl,x,_,dx,_,rfl,by rw[c9 (Ne.symm nlk)];exact b6,T.cl_Dealing,T.n_Dealing_looked,(by show 2<1000;decide),fun as has=>?_⟩
 have nas:as≠x:=fun z=>by rw[z,b6]at has;cases has
 have nal:as≠lk:=fun z=>by rw[z,c9 nlk,b6]at has;cases has
 refine⟨_,rfl,x,_,dx,_,rfl,by rw[c9 (Ne.symm nas)];exact b6,T.cl_Dealing,T.n_Dealing_aside,(by show 3<1000;decide),?_⟩
 refine q lk as _ (by rw[c9 nlk,c9 nlk]at hlk;exact hlk) (by rw[c9 nas,c9 nal,c9 nas,c9 nas]at has;exact has) (Ne.symm nal) b6 ?_ ?_ fun c o nc hc=>?_
 ·rw[c9 nlk,c9 (Ne.symm nal),c9 nlk];exact b6
 ·rw[c9 nas];exact b6
 ·have h1:lk≠c:=fun z=>by rw[z,c9 nc,c9 nc,hc]at hlk;cases hlk
  have h2:as≠c:=fun z=>by rw[z,c9 nc,c9 (Ne.symm h1),c9 nc,c9 nc,hc]at has;cases has
  rw[c9 nc,c9 (Ne.symm h2),c9 nc,c9 (Ne.symm h1),c9 nc,c9 nc];exact hc
def X7(ks:List Str):Prop:=(ks.map fun g=>[(Sum.inr g.cps.toList:Atom)]).Pairwise a2y.kle
inductive a0r(t:E1)(K:PySem.W.Frag)(vs:List V)(H:Hp)(Q:VK):Prop
 | mk (p dx lk as:Addr) (n b e:Int) (ks:List Str) (am:Am) (x0:vs=[.ref p,.int e]) (x1:H p=some (.ins t.C_Dealing dx (a6b n b lk as))) (x2:H lk=some (.dK (W5 ks))) (x3:H as=some (.dK (L5 am))) (x4:ks.length≤63) (x5:am.length≤63) (xq:∀(r la pa:Addr) (ys zs:List Str) (H':Hp),f7 H H'→H la=none→H pa=none→la≠pa→H' r=some (.tup [.int n,.int b,.int e,.ref la,.ref pa])→H' la=some (.lst (ys.map V.str))→H' pa=some (.lst (zs.map V.str))→ys.Perm ks→zs.Perm (am.map (·.1))→X7 ys→X7 zs→Q (.ref r) H')
def a1t(t:E1)(K:PySem.W.Frag):Sp:=fun vs H Q _=>a0r t K vs H Q
theorem a0t(T:B6 K mg t):g9 P w K mg base A3 1 t.f_Dealing_record t.d_Dealing_record ["self","ended"] (a1t t K):=by
 refine T.F_Dealing_record.ok a5t (fun vs H Q E h=>?_) (fun cdv A outer s H vs Q E hr h=>?_)
 ·obtain⟨p,dx,lk,as,n,b,e,ks,am,rfl,_⟩:=h
  rfl
 obtain⟨p,dx,lk,as,n,b,e,ks,am,rfl,hp,hlk,has,z1,z2,q⟩:=h
 refine⟨_,(d6 (i4 (q5 (b0 (v5 (pv 0) rfl) (b0 (v5 (pv 0) rfl) (b0 (pv 1) (b0 (e7 (V6 rfl) rfl T.m_sorted aO2 (b0 (v5 (pv 0) rfl) b7)) (b0 (e7 (V6 rfl) rfl T.m_sorted aO2 (b0 (v5 (pv 0) rfl) b7)) b7)))))))),?_⟩
 refine⟨_,rfl,p,_,dx,_,_,rfl,hp,T.cl_Dealing,T.n_Dealing_number,rfl,_,rfl,p,_,dx,_,_,rfl,hp,T.cl_Dealing,T.n_Dealing_began,rfl,_,rfl,_,rfl,p,_,dx,_,_,rfl,hp,T.cl_Dealing,T.n_Dealing_looked,rfl,lk,_,rfl,.inl hlk,?_,fun la ys' hla pm1 io1=>?_⟩
 ·rw[a9U];exact⟨by simp only[aA0];omega,fun x hx=>by obtain⟨z,_,rfl⟩:=aA5.mp hx;exact⟨z,rfl⟩⟩
 rw[a9U]at pm1
 obtain⟨ys,rfl,py⟩:=L8 pm1
 have s1:=b8 (o:=.lst (ys.map V.str)) hla
 refine⟨_,rfl,p,_,dx,_,_,rfl,s1 _ _ hp,T.cl_Dealing,T.n_Dealing_aside,rfl,as,_,rfl,.inl (s1 _ _ has),?_,fun pa zs' hpa pm2 io2=>?_⟩
 ·rw[a6v];exact⟨by simp only[aA0];omega,fun x hx=>by obtain⟨z,_,rfl⟩:=aA5.mp hx;exact⟨z,rfl⟩⟩
 rw[a6v]at pm2
 obtain⟨zs,rfl,pz⟩:=L8 pm2
 have s2:=b8 (o:=.lst (zs.map V.str)) hpa
 unfold P9 at io1 io2
 rw[aE8]at io1 io2
 refine⟨(l8 5),fun r hr0=>?_⟩
 have s3:=b8 (o:=.tup [.int n,.int b,.int e,.ref la,.ref pa]) hr0
 have ne:la≠pa:=g6 b6 hpa
 exact q r la pa ys zs _ ((s1.trans s2).trans s3) hla (C3 s1 hpa) ne b6 (s3 _ _ (s2 _ _ b6)) (s3 _ _ b6) py pz io1 io2
inductive a3w(t:E1)(K:PySem.W.Frag)(vs:List V)(H:Hp)(Q:VK):Prop
 | mk (p dx U Vd R L W:Addr) (b:Int) (xs:List V) (x0:vs=[.ref p]) (x1:H p=some (.ins t.C_Tally dx (J5 b U Vd R L W))) (x2:H R=some (.lst xs)) (xq:Q (.int (xs.length:Int)) H)
def a2C(t:E1)(K:PySem.W.Frag):Sp:=fun vs H Q _=>a3w t K vs H Q
theorem N0(T:B6 K mg t):g9 P w K mg base A3 1 t.f_Tally_moment t.d_Tally_moment ["self"] (a2C t K):=by
 refine T.F_Tally_moment.ok a6z (fun vs H Q E h=>?_) (fun cdv A outer s H vs Q E hr h=>?_)
 ·obtain⟨p,dx,U,Vd,R,L,W,b,xs,rfl,_⟩:=h
  rfl
 obtain⟨p,dx,U,Vd,R,L,W,b,xs,rfl,hp,hR,q⟩:=h
 refine⟨_,(d6 (i4 (e7 i5 rfl T.m_len aC6 (b0 (v5 (pv 0) rfl) b7)))),?_⟩
 exact⟨_,rfl,p,_,dx,_,_,rfl,hp,T.cl_Tally,T.n_Tally_records,rfl,R,xs,rfl,.inl (d8.of hR),q⟩
def Pst(t:E1)(G:Gh)(H:Hp)(p:Addr)(st:j8)(Q:Hp→Prop):Prop:=∀(G':Gh) (H':Hp),TA t.C_Tally t.C_Dealing G' H' p st→Kp G H G' H'→Q H'
theorem TA.gh{CT CD p:Addr}{G G':Gh}{H:Hp}{st:j8}(h:TA CT CD G H p st)(hr:∀b ρ,G.rl b=ρ→ρ≠.free→G'.rl b=ρ)(hc:∀b,H b=none→G'.rl b=.free)(e0:G'.dx=G.dx)(e1:G'.U=G.U)(e2:G'.Vd=G.Vd)(e3:G'.R=G.R)(e4:G'.L=G.L)(e5:G'.W=G.W)
  (ed:∀d∈st.under,G'.dp d.num=G.dp d.num∧G'.dd d.num=G.dd d.num∧G'.lk d.num=G.lk d.num∧G'.as d.num=G.as d.num) (ev:∀q∈st.vers,G'.vl q.1=G.vl q.1):TA CT CD G' H p st where
 ob:=by rw[e0,e1,e2,e3,e4,e5];exact h.ob
 un:=by
  rw[e1,h.un]
  congr 2
  refine V4 fun n hn=>?_
  obtain⟨d,hd,rfl⟩:=aA5.mp hn
  rw[(ed d hd).1]
 ve:=by
  rw[e2,h.ve]
  congr 2
  exact aE5 fun q hq=>by rw[ev q hq]
 rc:=by
  obtain⟨xs,h1,h2⟩:=h.rc
  refine⟨xs,by rw[e3];exact h1,Paired.mapP h2 fun _ _ ⟨b,la,pa,e,z1,z2,z3,z4,z5⟩=>⟨b,la,pa,e,z1,z2,z3,hr _ _ z4 (by simp),hr _ _ z5 (by simp)⟩⟩
 ln:=by rw[e4];exact h.ln
 rw:=by rw[e5];exact h.rw
 dl:=fun d hd=>by
  obtain⟨a1,a2,a3,a4⟩:=ed d hd
  have D:=h.dl d hd
  refine⟨by rw[a1,a2,a3,a4];exact D.ob,by rw[a3];exact D.lk,by rw[a4];exact D.as,by rw[a1];exact hr _ _ D.r1 (by simp),by rw[a3];exact hr _ _ D.r2 (by simp),by rw[a4];exact hr _ _ D.r3 (by simp)⟩
 vl:=fun q hq=>by
  obtain⟨xs,h1,h2,h3⟩:=h.vl q hq
  rw[ev q hq]
  exact⟨xs,h1,h2,hr _ _ h3 (by simp)⟩
 r0:=hr _ _ h.r0 (by simp)
 r1:=by rw[e1];exact hr _ _ h.r1 (by simp)
 r2:=by rw[e2];exact hr _ _ h.r2 (by simp)
 r3:=by rw[e3];exact hr _ _ h.r3 (by simp)
 r4:=by rw[e4];exact hr _ _ h.r4 (by simp)
 r5:=by rw[e5];exact hr _ _ h.r5 (by simp)
 nd:=h.nd
 vd:=h.vd
 cl:=hc
theorem a6R{H:Hp}{a:Addr}{o:HO}{C dx:Addr}{fs:List (Str×V)}(h:H a=some (.ins C dx fs)):u5 H (upd H a o):=
 ⟨fun b xs e=>by rw[c9 (a3A e h (by intro z;cases z))];exact e,fun b o xs e=>by rw[c9 (a3A e h (by intro z;cases z))];exact e⟩
section
variable{CT CD p:Addr}{G:Gh}{H:Hp}{st:j8}
theorem TA.setObj(h:TA CT CD G H p st){b:Nat}{L W:Addr}{ls:List Lk}{row:List Int}(hl:∃xs,H L=some (.lst xs)∧A8 H ls xs)(hw:H W=some (.lst (row.map V.int)))(rL:G.rl L=.fz)(rW:G.rl W=.fz) :
  TA CT CD { G with L:=L,W:=W } (upd H p (.ins CT G.dx (J5 (b:Int) G.U G.Vd G.R L W))) p { st with begun:=b,links:=ls,row:=row }∧Kp G H { G with L:=L,W:=W } (upd H p (.ins CT G.dx (J5 (b:Int) G.U G.Vd G.R L W))):=by
 have t:u5 H (upd H p (.ins CT G.dx (J5 (b:Int) G.U G.Vd G.R L W))):=a6R h.ob
 refine⟨⟨b6,d9 h.un h.r1 h.r0 (by simp),d9 h.ve h.r2 h.r0 (by simp),?_,?_,d9 hw rW h.r0 (by simp),fun e he=>?_,fun q hq=>?_,h.r0,h.r1,h.r2,h.r3,rL,rW,h.nd,h.vd,fun b e=>h.cl b (v3 e)⟩,⟨fun c o f e=>by rw[c9 fun z=>by rw[z,h.r0]at f;cases f];exact e,t,fun _ _ f _=>f,fun _ e=>v3 e⟩⟩
 ·obtain⟨xs,h1,h2⟩:=h.rc
  exact⟨xs,d9 h1 h.r3 h.r0 (by simp),Paired.mapP h2 fun _ _ z=>z.upd h.r0 (by simp) t⟩
 ·obtain⟨xs,h1,h2⟩:=hl
  exact⟨xs,d9 h1 rL h.r0 (by simp),h2.tupK t⟩
 ·have E:=h.dl e he
  exact⟨d9 E.ob E.r1 h.r0 (by simp),d9 E.lk E.r2 h.r0 (by simp),d9 E.as E.r3 h.r0 (by simp),E.r1,E.r2,E.r3⟩
 ·obtain⟨xs,h1,h2,h3⟩:=h.vl q hq
  exact⟨xs,d9 h1 h3 h.r0 (by simp),C5 t h2,h3⟩
def K6(G:Gh)(n:Int)(x dx lk as:Addr):Gh:={ G with
 rl:=fun b=>if b=x then .deal n else if b=lk then .look n else if b=as then .side n else G.rl b
 dp:=fun m=>if m=n then x else G.dp m
 dd:=fun m=>if m=n then dx else G.dd m
 lk:=fun m=>if m=n then lk else G.lk m
 as:=fun m=>if m=n then as else G.as m }
theorem TA.addD(h:TA CT CD G H p st){n b:Int}{x dx lk as:Addr}{H1:Hp}(hn:∀d∈st.under,d.num≠n)(s:f7 H H1)(hx:H x=none)(hlk:H lk=none)(has:H as=none)(nl:x≠lk)(na:x≠as)(nla:lk≠as)
  (h1:H1 x=some (.ins CD dx (a6b n b lk as))) (h2:H1 lk=some (.dK [])) (h3:H1 as=some (.dK [])) :
  TA CT CD (K6 G n x dx lk as) (upd H1 G.U (.dK (putK (m7 (st.under.map (·.num)) fun n=>.ref (G.dp n)) (Sum.inl n) (.ref x)))) p { st with under:=st.under++[⟨n,b,[],[]⟩] }∧Kp G H (K6 G n x dx lk as) (upd H1 G.U (.dK (putK (m7 (st.under.map (·.num)) fun n=>.ref (G.dp n)) (Sum.inl n) (.ref x)))):=by
 have old:∀c o,H c=some o→c≠x∧c≠lk∧c≠as:=fun c o e=>⟨g6 e hx,g6 e hlk,g6 e has⟩
 have rl_old:∀c o,H c=some o→(K6 G n x dx lk as).rl c=G.rl c:=fun c o e=>by
  obtain⟨a1,a2,a3⟩:=old c o e
  show(if c=x then _ else if c=lk then _ else if c=as then _ else _)=_
  rw[aA8 a1,aA8 a2,aA8 a3]
 have nin:n∉st.under.map (·.num):=fun z=>by obtain⟨d,hd,e⟩:=aA5.mp z;exact hn d hd e
 have fx:=h.cl x hx
 have fk:=h.cl lk hlk
 have fa:=h.cl as has
 have hG1:TA CT CD (K6 G n x dx lk as) H1 p st:=(h.same s).gh (fun c ρ e ne=>by
  show(if c=x then _ else if c=lk then _ else if c=as then _ else _)=_
  rw[aA8 fun z=>ne (by rw[←e,z,fx]),aA8 fun z=>ne (by rw[←e,z,fk]),aA8 fun z=>ne (by rw[←e,z,fa])]
  exact e) (fun c e=>by
  show(if c=x then _ else if c=lk then _ else if c=as then _ else _)=_
  rw[aA8 (fun z=>by rw[z,h1]at e;cases e),aA8 (fun z=>by rw[z,h2]at e;cases e),aA8 (fun z=>by rw[z,h3]at e;cases e)]
  exact h.cl c (j7 s e)) rfl rfl rfl rfl rfl rfl (fun d hd=>by
  have:=hn d hd
  exact⟨aA8 this,aA8 this,aA8 this,aA8 this⟩) fun _ _=>rfl
 have rx:(K6 G n x dx lk as).rl x=.deal n:=aB4 rfl
 have rk:(K6 G n x dx lk as).rl lk=.look n:=by
  show(if lk=x then _ else if lk=lk then _ else _)=_
  rw[aA8 (Ne.symm nl),aB4 rfl]
 have ra:(K6 G n x dx lk as).rl as=.side n:=by
  show(if as=x then _ else if as=lk then _ else if as=as then _ else _)=_
  rw[aA8 (Ne.symm na),aA8 (Ne.symm nla),aB4 rfl]
 have t:∀o,u5 H1 (upd H1 G.U o):=fun o=>P1 hG1.un
 have rU:(K6 G n x dx lk as).rl G.U=.under:=hG1.r1
 refine⟨⟨d9 hG1.ob hG1.r0 rU (by simp),?_,d9 hG1.ve hG1.r2 rU (by simp),?_,?_,d9 hG1.rw hG1.r5 rU (by simp),fun e he=>?_,fun q hq=>?_,hG1.r0,hG1.r1,hG1.r2,hG1.r3,hG1.r4,hG1.r5,?_,hG1.vd,fun b e=>hG1.cl b (v3 e)⟩,⟨fun c o f e=>?_,s.tupK.trans (t _),fun c o f e=>by rw[rl_old c o e];exact f,fun c e=>j7 s (v3 e)⟩⟩
 ·show upd H1 G.U _ G.U=_
  rw[b6,M7,aA8 nin]
  congr 2
  show _=m7 ((st.under++([⟨n,b,[],[]⟩]:List Dl)).map (·.num)) _
  rw[aB5]
  refine V4 fun m _=>?_
  show a3b _ n (.ref x) m=V.ref (if m=n then x else G.dp m)
  unfold a3b
  split<;>rfl
 ·obtain⟨xs,z1,z2⟩:=hG1.rc
  exact⟨xs,d9 z1 hG1.r3 rU (by simp),Paired.mapP z2 fun _ _ z=>z.upd rU (by simp) (t _)⟩
 ·obtain⟨xs,z1,z2⟩:=hG1.ln
  exact⟨xs,d9 z1 hG1.r4 rU (by simp),z2.tupK (t _)⟩
 ·rcases aA9.mp he with he | he
  ·have E:=hG1.dl e he
   exact⟨d9 E.ob E.r1 rU (by simp),d9 E.lk E.r2 rU (by simp),d9 E.as E.r3 rU (by simp),E.r1,E.r2,E.r3⟩
  ·rw[aA3.mp he]
   have e1:(K6 G n x dx lk as).dp n=x:=aB4 rfl
   have e2:(K6 G n x dx lk as).dd n=dx:=aB4 rfl
   have e3:(K6 G n x dx lk as).lk n=lk:=aB4 rfl
   have e4:(K6 G n x dx lk as).as n=as:=aB4 rfl
   exact⟨by show upd H1 G.U _ ((K6 G n x dx lk as).dp n)=some (.ins CD ((K6 G n x dx lk as).dd n) (a6b n b ((K6 G n x dx lk as).lk n) ((K6 G n x dx lk as).as n)));rw[e1,e2,e3,e4];exact d9 h1 rx rU (by simp),by show upd H1 G.U _ ((K6 G n x dx lk as).lk n)=_;rw[e3];exact d9 h2 rk rU (by simp),by show upd H1 G.U _ ((K6 G n x dx lk as).as n)=_;rw[e4];exact d9 h3 ra rU (by simp),by show(K6 G n x dx lk as).rl ((K6 G n x dx lk as).dp n)=_;rw[e1];exact rx,by show(K6 G n x dx lk as).rl ((K6 G n x dx lk as).lk n)=_;rw[e3];exact rk,by show(K6 G n x dx lk as).rl ((K6 G n x dx lk as).as n)=_;rw[e4];exact ra⟩
 ·obtain⟨xs,z1,z2,z3⟩:=hG1.vl q hq
  exact⟨xs,d9 z1 z3 rU (by simp),C5 (t _) z2,z3⟩
 ·show((st.under++([⟨n,b,[],[]⟩]:List Dl)).map (·.num)).Nodup
  rw[aB5,aD4]
  refine⟨hG1.nd,by simp,fun m hm k hk e=>nin ?_⟩
  have:k=n:=by simpa using hk
  rw[←this,←e];exact hm
 ·rw[c9 fun z=>by rw[z,h.r1]at f;cases f];exact s _ _ e
end
def a9B(st:j8):j8:={ st with begun:=st.begun+1,under:=st.under++([⟨(st.begun:Int),(st.recs.length:Int),[],[]⟩]:List Dl) }
inductive a7C(t:E1)(K:PySem.W.Frag)(vs:List V)(H:Hp)(Q:VK):Prop
 | mk (G:Gh) (p:Addr) (st:j8) (x0:vs=[.ref p]) (x1:TA t.C_Tally t.C_Dealing G H p st) (x2:(∀d∈st.under,d.num≠(st.begun:Int))) (x3:st.under.length≤1000) (xq:Pst t G H p (a9B st) fun H'=>Q (.int (st.begun:Int)) H')
def a2F(t:E1)(K:PySem.W.Frag):Sp:=fun vs H Q _=>a7C t K vs H Q
theorem a8E(T:B6 K mg t):g9 P w K mg base A3 3 t.f_Tally_begin t.d_Tally_begin ["self"] (a2F t K):=by
 refine T.F_Tally_begin.ok a3i (fun vs H Q E h=>?_) (fun cdv A outer s H vs Q E hr h=>?_)
 ·obtain⟨G,p,st,rfl,_⟩:=h
  rfl
 obtain⟨G,p,st,rfl,h,hn,hz,q⟩:=h
 have hu:=O0 hr
 refine⟨_,(b9 (g8 (i:=1) a3i.nd rfl (Or.inl rfl) (v5 (pv 0) rfl))
 (b9 (O4 (pv 0) (j5 K1 (pv 1) d5) rfl)
 (b9 (J2 hu (v5 (pv 0) rfl) (pv 1) (b6v T.K_Dealing (g9.mono (k:=1) (a5m T) (by decide)) hr rfl T.mg_Dealing T.F_Dealing___init__.b .nil k8 (b0 (pv 1) (b0 (Q6 (pv 0) T.cl_Tally T.M_Tally_moment (g9.mono (k:=2) (N0 T) (by decide)) hr T.F_Tally_moment.b .nil k8) b7))) rfl)
 (d6 (i4 (pv 1)))))),?_⟩
 refine⟨_,rfl,p,_,_,_,_,rfl,h.ob,T.cl_Tally,T.n_Tally_begun,rfl,?_⟩
 refine⟨_,rfl,_,_,rfl,rfl,_,rfl,p,_,_,_,rfl,h.ob,T.cl_Tally,T.n_Tally_begun,(by show 6<1000;decide),?_⟩
 obtain⟨h1,k1⟩:=h.setObj (b:=st.begun+1) h.ln h.rw h.r4 h.r5
 have e1:O5 "begun" (.int ((st.begun:Int)+1)) (J5 (st.begun:Int) G.U G.Vd G.R G.L G.W)=J5 ((st.begun+1:Nat):Int) G.U G.Vd G.R G.L G.W:=rfl
 rw[e1]
 generalize upd H p (.ins t.C_Tally G.dx (J5 ((st.begun+1:Nat):Int) G.U G.Vd G.R G.L G.W))=H1 at h1 k1 ⊢
 obtain⟨xs,hR,pR⟩:=h1.rc
 have lR:=p6 pR
 refine⟨_,rfl,_,rfl,p,_,_,rfl,h1.ob,rfl,p,_,_,_,_,_,_,_,xs,rfl,h1.ob,hR,?_⟩
 intro x dx nx ndx nxd
 have s0:f7 H1 (upd (upd H1 dx (.own x)) x (.ins t.C_Dealing dx [])):=l7 (b8 ndx) nx
 refine⟨x,dx,_,_,rfl,b6,fun lk as H2 nlk nas nla hx hlk has bt=>⟨rfl,?_⟩⟩
 have nx0:∀{c:Addr},(upd (upd H1 dx (.own x)) x (.ins t.C_Dealing dx [])) c=none→H1 c=none∧x≠c:=fun {c} e=>⟨C3 s0 e,fun z=>by rw[←z,b6]at e;cases e⟩
 have s1:f7 H1 H2:=fun c o e=>bt c o (g6 e nx) (s0 c o e)
 have h2:=h1.same s1
 refine⟨_,rfl,p,_,_,_,_,rfl,h2.ob,T.cl_Tally,T.n_Tally_under_way,rfl,_,rfl,G.U,_,rfl,N6.k (k:=Sum.inl (st.begun:Int)) h2.un (r9 (by rw[K8,aA0];show st.under.length≤_;omega)),?_⟩
 obtain⟨h3,k3⟩:=h1.addD (n:=(st.begun:Int)) (b:=(xs.length:Int)) hn s1 nx (nx0 nlk).1 (nx0 nas).1 (nx0 nlk).2 (nx0 nas).2 nla hx hlk has
 refine⟨_,rfl,q _ _ ?_ (k1.trans k3)⟩
 have e2:(xs.length:Int)=(st.recs.length:Int):=by rw[lR]
 rw[e2]at h3
 exact h3
def B8(v:J7)(g:Str):List (Int×Int):=((v.find? fun q=>decide (q.1=g)).map (·.2)).getD []
theorem a9h(v:J7)(f:Str→V)(g:Str):C1 (v.map fun q=>((Sum.inr q.1:Key),f q.1)) (Sum.inr g)=if g∈v.map (·.1) then some (f g) else none:=by
 unfold C1
 induction v with
 | nil=>rfl
 | cons q v ih=>
  rw[aC3,aH7,a1s,aC3]
  by_cases e:q.1=g
  ·subst e;simp
  ·rw[aB2 e]
   have:(g∈q.1::v.map (·.1))↔g∈v.map (·.1):=by
    rw[aB7];exact⟨fun z=>z.elim (fun w=>absurd w.symm e) id,.inr⟩
   simp only[this];exact ih
theorem a0l{v:J7}(nd:(v.map (·.1)).Nodup){q:Str×List (Int×Int)}(h:q∈v):B8 v q.1=q.2:=by
 unfold B8
 induction v with
 | nil=>exact nomatch h
 | cons a v ih=>
  rw[aC3,aG4]at nd
  rw[aH7]
  rcases aB7.mp h with e | h'
  ·subst e;rw[aC4 rfl];rfl
  ·have ne:¬a.1=q.1:=fun z=>nd.1 (by rw[z];exact aA5.mpr ⟨q,h',rfl⟩)
   rw[aB2 ne]
   exact ih nd.2 h'
theorem b5e{v:J7}{g:Str}(h:g∉v.map (·.1)):B8 v g=[]:=by
 unfold B8
 rw[aN4.mpr fun q hq=>by simpa using fun z=>h (aA5.mpr ⟨q,hq,z⟩)];rfl
def b7c(st:j8)(n:Int)(g:Str):j8:={ st with under:=F6 st.under n (V0 g) }
inductive a1E(t:E1)(K:PySem.W.Frag)(vs:List V)(H:Hp)(Q:VK):Prop
 | mk (G:Gh) (p:Addr) (st:j8) (d:Dl) (g:Str) (x0:vs=[.ref p,.int d.num,.str g]) (x1:TA t.C_Tally t.C_Dealing G H p st) (x2:d∈st.under) (x3:d.looked.length≤1000) (x4:(∀q∈st.vers,q.2.length≤100000)) (x5:(∀a,n9 d.aside g=some a→Q (.int a) H)) (xq:(n9 d.aside g=none→Pst t G H p (b7c st d.num g) fun H'=>Q (.int (valueAt (B8 st.vers g) d.beg)) H'))
def a2N(t:E1)(K:PySem.W.Frag):Sp:=fun vs H Q _=>a1E t K vs H Q
theorem a5L(T:B6 K mg t):g9 P w K mg base A3 3 t.f_Tally_look t.d_Tally_look ["self","number","good"] (a2N t K):=by
 refine T.F_Tally_look.ok a0m (fun vs H Q E h=>?_) (fun cdv A outer s H vs Q E hr h=>?_)
 ·obtain⟨G,p,st,d,g,rfl,_⟩:=h
  rfl
 obtain⟨G,p,st,d,g,rfl,h,hd,hz,hv,q1,q2⟩:=h
 have hu:=O0 hr
 refine⟨_,(b9 (g8 (i:=3) a0m.nd rfl (Or.inl rfl) (v8 hu (v5 (pv 0) rfl) (pv 1) (fun _ _=>rfl)))
 (b9 (l4 (g7 (a0A hu) (pv 2) (v5 (pv 3) rfl) (by with_unfolding_all rfl))
 (d6 (i4 (v8 hu (v5 (pv 3) rfl) (pv 2) (fun _ _=>rfl))))
 j4)
 (b9 (J2 hu (v5 (pv 3) rfl) (pv 2) y0 rfl)
 (d6 (i4 (k7 (g9.mono (k:=2) (a5u T) (by decide)) hr rfl T.m_value_at T.F_value_at.kp T.F_value_at.b .nil k8 (b0 (a6T hu (v5 (pv 0) rfl) (pv 2) (m6 b7) ⟨rfl,rfl,rfl,rfl⟩) (b0 (v5 (pv 3) rfl) b7)))))))),?_⟩
 have D:=h.dl d hd
 have dg:=z6.k (k:=Sum.inl d.num) h.un
 rw[u3,aB4 (aA5.mpr ⟨d,hd,rfl⟩)]at dg
 refine⟨_,rfl,p,_,_,_,_,rfl,h.ob,T.cl_Tally,T.n_Tally_under_way,rfl,_,rfl,G.U,_,rfl,dg,?_⟩
 have ds:=z6.k (k:=Sum.inr g) D.as
 rw[a4i]at ds
 refine⟨_,rfl,_,rfl,G.dp d.num,_,_,_,_,rfl,D.ob,T.cl_Dealing,T.n_Dealing_aside,rfl,G.as d.num,_,rfl,ds,_,rfl,?_⟩
 cases hg:n9 d.aside g with
 | some a=>
  refine m9 ?_
  rw[hg]at ds
  exact⟨_,rfl,G.dp d.num,_,_,_,_,rfl,D.ob,T.cl_Dealing,T.n_Dealing_aside,rfl,_,rfl,G.as d.num,_,rfl,ds,q1 a hg⟩
 | none=>
  refine e9 ?_
  refine⟨_,rfl,G.dp d.num,_,_,_,_,rfl,D.ob,T.cl_Dealing,T.n_Dealing_looked,rfl,_,rfl,G.lk d.num,_,rfl,N6.k (k:=Sum.inr g) D.lk (r9 (by rw[b0w];omega)),?_⟩
  rw[b7u]
  obtain⟨h1,k1⟩:=h.setLook hd g
  have ob1:(upd H (G.lk d.num) (.dK (W5 (J8 d.looked g)))) (G.dp d.num)=some (.ins t.C_Dealing (G.dd d.num) (a6b d.num d.beg (G.lk d.num) (G.as d.num))):=d9 D.ob D.r1 D.r2 (by simp)
  have hv1:(upd H (G.lk d.num) (.dK (W5 (J8 d.looked g)))) G.Vd=some (.dK (st.vers.map fun q=>((Sum.inr q.1:Key),V.ref (G.vl q.1)))):=h1.ve
  have vl1:∀q∈st.vers,∃xs,(upd H (G.lk d.num) (.dK (W5 (J8 d.looked g)))) (G.vl q.1)=some (.lst xs)∧Paired (VAt (upd H (G.lk d.num) (.dK (W5 (J8 d.looked g))))) q.2 xs:=fun q hq=>let ⟨xs,a,b,_⟩:=h1.vl q hq;⟨xs,a,b⟩
  have q2:=q2 hg
  generalize upd H (G.lk d.num) (.dK (W5 (J8 d.looked g)))=H1 at h1 k1 ob1 hv1 vl1 ⊢
  have dv:=fun(Hx:Hp) (hx:Hx G.Vd=_)=>z6.k (k:=Sum.inr g) (kvs:=st.vers.map fun q=>((Sum.inr q.1:Key),V.ref (G.vl q.1))) hx
  refine⟨_,rfl,p,_,_,_,_,rfl,h1.ob,T.cl_Tally,T.n_Tally_versions,rfl,G.Vd,rfl,.inl ⟨_,.inl hv1⟩,_,rfl,(l8 0),fun e he=>?_⟩
  have s2:=b8 (o:=.lst []) he
  have dv2:=dv _ (s2 _ _ hv1)
  rw[a9h st.vers (fun g=>V.ref (G.vl g))]at dv2
  have fin:=fun(H3:Hp) (s3:f7 (upd H1 e (.lst [])) H3)=>q2 G H3 (h1.same (s2.trans s3)) (k1.trans (Kp.same (s2.trans s3)))
  by_cases c:g∈st.vers.map (·.1)
  ·rw[aB4 c]at dv2
   obtain⟨qq,hqq,rfl⟩:=aA5.mp c
   obtain⟨xs,x1,x2⟩:=vl1 qq hqq
   refine⟨_,dv2,_,rfl,G.dp d.num,_,_,_,_,rfl,s2 _ _ ob1,T.cl_Dealing,T.n_Dealing_began,rfl,G.vl qq.1,qq.2,d.beg,rfl,⟨xs,d8.of (s2 _ _ x1),a0k (C5 s2.tupK x2)⟩,hv qq hqq,fun H3 s3=>?_⟩
   have:=fin H3 s3
   rw[a0l h.vd hqq]at this
   exact this
  ·rw[aA8 c]at dv2
   refine⟨_,dv2,_,rfl,G.dp d.num,_,_,_,_,rfl,s2 _ _ ob1,T.cl_Dealing,T.n_Dealing_began,rfl,e,[],d.beg,rfl,⟨[],d8.of b6,rfl⟩,by simp,fun H3 s3=>?_⟩
   have:=fin H3 s3
   rw[b5e c]at this
   exact this
def putSt(st:j8)(n:Int)(g:Str)(a:Int):j8:={ st with under:=F6 st.under n (U6 g a) }
inductive a3N(t:E1)(K:PySem.W.Frag)(vs:List V)(H:Hp)(Q:VK):Prop
 | mk (G:Gh) (p:Addr) (st:j8) (d:Dl) (g:Str) (a:Int) (x0:vs=[.ref p,.int d.num,.str g,.int a]) (x1:TA t.C_Tally t.C_Dealing G H p st) (x2:d∈st.under) (x3:d.aside.length≤1000) (xq:Pst t G H p (putSt st d.num g a) fun H'=>Q .non H')
def a4Q(t:E1)(K:PySem.W.Frag):Sp:=fun vs H Q _=>a3N t K vs H Q
theorem a4U(T:B6 K mg t):g9 P w K mg base A3 1 t.f_Tally_put t.d_Tally_put ["self","number","good","amount"] (a4Q t K):=by
 refine T.F_Tally_put.ok a2q (fun vs H Q E h=>?_) (fun cdv A outer s H vs Q E hr h=>?_)
 ·obtain⟨G,p,st,d,g,a,rfl,_⟩:=h
  rfl
 obtain⟨G,p,st,d,g,a,rfl,h,hd,hz,q⟩:=h
 have hu:=O0 hr
 refine⟨_,(b9 (g8 (i:=4) a2q.nd rfl (Or.inl rfl) (v8 hu (v5 (pv 0) rfl) (pv 1) (fun _ _=>rfl)))
 (d6 (J2 hu (v5 (pv 4) rfl) (pv 2) (pv 3) rfl))),?_⟩
 have D:=h.dl d hd
 have dg:=z6.k (k:=Sum.inl d.num) h.un
 rw[u3,aB4 (aA5.mpr ⟨d,hd,rfl⟩)]at dg
 refine⟨_,rfl,p,_,_,_,_,rfl,h.ob,T.cl_Tally,T.n_Tally_under_way,rfl,_,rfl,G.U,_,rfl,dg,?_⟩
 refine⟨_,rfl,_,rfl,G.dp d.num,_,_,_,_,rfl,D.ob,T.cl_Dealing,T.n_Dealing_aside,rfl,_,rfl,G.as d.num,_,rfl,N6.k (k:=Sum.inr g) D.as (r9 (by rw[a4G];omega)),?_⟩
 rw[a2I]
 obtain⟨h1,k1⟩:=h.setSide hd g a
 exact q G _ h1 k1
def G4(st:j8)(n:Int):j8:={ st with under:=Q3 st.under n }
inductive a5C(t:E1)(K:PySem.W.Frag)(vs:List V)(H:Hp)(Q:VK):Prop
 | mk (G:Gh) (p:Addr) (st:j8) (d:Dl) (x0:vs=[.ref p,.int d.num]) (x1:TA t.C_Tally t.C_Dealing G H p st) (x2:d∈st.under) (xq:Pst t G H p (G4 st d.num) fun H'=>Q .non H')
def a0F(t:E1)(K:PySem.W.Frag):Sp:=fun vs H Q _=>a5C t K vs H Q
theorem a0E(T:B6 K mg t):g9 P w K mg base A3 1 t.f_Tally_leave t.d_Tally_leave ["self","number"] (a0F t K):=by
 refine T.F_Tally_leave.ok a8H (fun vs H Q E h=>?_) (fun cdv A outer s H vs Q E hr h=>?_)
 ·obtain⟨G,p,st,d,rfl,_⟩:=h
  rfl
 obtain⟨G,p,st,d,rfl,h,hd,q⟩:=h
 refine⟨_,(d6 (m8 (a1l (v5 (pv 0) rfl) (pv 1) ⟨rfl,rfl,rfl,rfl⟩))),?_⟩
 refine⟨_,rfl,p,_,_,_,_,rfl,h.ob,T.cl_Tally,T.n_Tally_under_way,rfl,G.U,rfl,.inl ⟨_,.inl h.un⟩,_,rfl,_,Sum.inl d.num,.ref (G.dp d.num),h.un,rfl,?_,?_⟩
 ·rw[u3,aB4 (aA5.mpr ⟨d,hd,rfl⟩)]
 ·obtain⟨h1,k1⟩:=h.drop d.num
  exact q G _ h1 k1
def T8:j8:=⟨0,[],[],[],[],[]⟩
inductive a6o(t:E1)(K:PySem.W.Frag)(vs:List V)(H:Hp)(Q:VK):Prop
 | mk (p dx:Addr) (x0:vs=[.ref p]) (x1:H p=some (.ins t.C_Tally dx [])) (xq:∀(G:Gh) (H':Hp),TA t.C_Tally t.C_Dealing G H' p T8→Z0 p H H'→(∀b o,b≠p→H b=some o→G.rl b=.free)→Q .non H')
def a8s(t:E1)(K:PySem.W.Frag):Sp:=fun vs H Q _=>a6o t K vs H Q
theorem a4b(T:B6 K mg t):g9 P w K mg base A3 1 t.f_Tally___init__ t.d_Tally___init__ ["self"] (a8s t K):=by
 refine T.F_Tally___init__.ok a4t (fun vs H Q E h=>?_) (fun cdv A outer s H vs Q E hr h=>?_)
 ·obtain⟨p,dx,rfl,_⟩:=h
  rfl
 obtain⟨p,dx,rfl,hp,q⟩:=h
 refine⟨_,(b9 (O4 (pv 0) d5 rfl)
 (b9 (O4 (pv 0) G0 rfl)
 (b9 (O4 (pv 0) G0 rfl)
 (b9 (O4 (pv 0) (m6 b7) rfl)
 (b9 (O4 (pv 0) (m6 b7) rfl)
 (d6 (O4 (pv 0) (m6 b7) rfl))))))),?_⟩
 refine⟨_,rfl,p,_,dx,_,rfl,hp,T.cl_Tally,T.n_Tally_begun,(by show 0<1000;decide),fun U hU=>?_⟩
 have a1:p≠U:=g6 b6 hU
 refine⟨_,rfl,p,_,dx,_,rfl,by rw[c9 a1];exact b6,T.cl_Tally,T.n_Tally_under_way,(by show 1<1000;decide),fun Vd hV=>?_⟩
 have a2:p≠Vd:=g6 b6 hV
 refine⟨_,rfl,p,_,dx,_,rfl,by rw[c9 a2];exact b6,T.cl_Tally,T.n_Tally_versions,(by show 2<1000;decide),(l8 0),fun R hR=>?_⟩
 have a3:p≠R:=g6 b6 hR
 refine⟨_,rfl,p,_,dx,_,rfl,by rw[c9 a3];exact b6,T.cl_Tally,T.n_Tally_records,(by show 3<1000;decide),(l8 0),fun L hL=>?_⟩
 have a4:p≠L:=g6 b6 hL
 refine⟨_,rfl,p,_,dx,_,rfl,by rw[c9 a4];exact b6,T.cl_Tally,T.n_Tally_links,(by show 4<1000;decide),(l8 0),fun W hW=>?_⟩
 have a5:p≠W:=g6 b6 hW
 refine⟨_,rfl,p,_,dx,_,rfl,by rw[c9 a5];exact b6,T.cl_Tally,T.n_Tally_row,(by show 5<1000;decide),?_⟩
 have b12:Vd≠U:=fun z=>by rw[z,c9 (Ne.symm a1),b6]at hV;cases hV
 have b13:R≠U:=fun z=>by rw[z,c9 (Ne.symm a1),c9 (Ne.symm b12),c9 (Ne.symm a1),b6]at hR;cases hR
 have b23:R≠Vd:=fun z=>by rw[z,c9 (Ne.symm a2),b6]at hR;cases hR
 have b14:L≠U:=fun z=>by rw[z,c9 (Ne.symm a1),c9 (Ne.symm b13),c9 (Ne.symm a1),c9 (Ne.symm b12),c9 (Ne.symm a1),b6]at hL;cases hL
 have b24:L≠Vd:=fun z=>by rw[z,c9 (Ne.symm a2),c9 (Ne.symm b23),c9 (Ne.symm a2),b6]at hL;cases hL
 have b34:L≠R:=fun z=>by rw[z,c9 (Ne.symm a3),b6]at hL;cases hL
 have b15:W≠U:=fun z=>by rw[z,c9 (Ne.symm a1),c9 (Ne.symm b14),c9 (Ne.symm a1),c9 (Ne.symm b13),c9 (Ne.symm a1),c9 (Ne.symm b12),c9 (Ne.symm a1),b6]at hW;cases hW
 have b25:W≠Vd:=fun z=>by rw[z,c9 (Ne.symm a2),c9 (Ne.symm b24),c9 (Ne.symm a2),c9 (Ne.symm b23),c9 (Ne.symm a2),b6]at hW;cases hW
 have b35:W≠R:=fun z=>by rw[z,c9 (Ne.symm a3),c9 (Ne.symm b34),c9 (Ne.symm a3),b6]at hW;cases hW
 have b45:W≠L:=fun z=>by rw[z,c9 (Ne.symm a4),b6]at hW;cases hW
 let G:Gh:=⟨fun b=>if b=p then .tally else if b=U then .under else if b=Vd then .vers else if b=R then .recs else if b=L then .fz else if b=W then .fz else .free,dx,U,Vd,R,L,W,fun _=>0,fun _=>0,fun _=>0,fun _=>0,fun _=>0⟩
 have g0:G.rl p=.tally:=aB4 rfl
 have g1:G.rl U=.under:=by show(if U=p then _ else _)=_;rw[aA8 (Ne.symm a1),aB4 rfl]
 have g2:G.rl Vd=.vers:=by show(if Vd=p then _ else _)=_;rw[aA8 (Ne.symm a2),aA8 b12,aB4 rfl]
 have g3:G.rl R=.recs:=by show(if R=p then _ else _)=_;rw[aA8 (Ne.symm a3),aA8 b13,aA8 b23,aB4 rfl]
 have g4:G.rl L=.fz:=by show(if L=p then _ else _)=_;rw[aA8 (Ne.symm a4),aA8 b14,aA8 b24,aA8 b34,aB4 rfl]
 have g5:G.rl W=.fz:=by show(if W=p then _ else _)=_;rw[aA8 (Ne.symm a5),aA8 b15,aA8 b25,aA8 b35,aA8 b45,aB4 rfl]
 have off:∀c o,c≠p→H c=some o→c≠U∧c≠Vd∧c≠R∧c≠L∧c≠W:=fun c o nc hc=>by
  have c1:c≠U:=fun z=>by rw[←z,c9 nc,hc]at hU;cases hU
  have c2:c≠Vd:=fun z=>by rw[←z,c9 nc,c9 c1,c9 nc,hc]at hV;cases hV
  have c3:c≠R:=fun z=>by rw[←z,c9 nc,c9 c2,c9 nc,c9 c1,c9 nc,hc]at hR;cases hR
  have c4:c≠L:=fun z=>by rw[←z,c9 nc,c9 c3,c9 nc,c9 c2,c9 nc,c9 c1,c9 nc,hc]at hL;cases hL
  have c5:c≠W:=fun z=>by rw[←z,c9 nc,c9 c4,c9 nc,c9 c3,c9 nc,c9 c2,c9 nc,c9 c1,c9 nc,hc]at hW;cases hW
  exact⟨c1,c2,c3,c4,c5⟩
 generalize eHF:upd _ p (.ins t.C_Tally dx _)=HF
 have F0:HF p=some (.ins t.C_Tally dx (J5 0 U Vd R L W)):=by rw[←eHF];exact b6
 have F1:HF U=some (HO.dK (m7 (T8.under.map (·.num)) fun n=>V.ref (G.dp n))):=by
  rw[←eHF]
  rw[c9 (Ne.symm a1),c9 (Ne.symm b15),c9 (Ne.symm a1),c9 (Ne.symm b14),c9 (Ne.symm a1),c9 (Ne.symm b13),c9 (Ne.symm a1),c9 (Ne.symm b12),c9 (Ne.symm a1),b6];rfl
 have F2:HF Vd=some (HO.dK (T8.vers.map fun q=>((Sum.inr q.1:Key),V.ref (G.vl q.1)))):=by
  rw[←eHF]
  rw[c9 (Ne.symm a2),c9 (Ne.symm b25),c9 (Ne.symm a2),c9 (Ne.symm b24),c9 (Ne.symm a2),c9 (Ne.symm b23),c9 (Ne.symm a2),b6];rfl
 have F3:HF R=some (HO.lst []):=by
  rw[←eHF]
  rw[c9 (Ne.symm a3),c9 (Ne.symm b35),c9 (Ne.symm a3),c9 (Ne.symm b34),c9 (Ne.symm a3),b6]
 have F4:HF L=some (HO.lst []):=by
  rw[←eHF]
  rw[c9 (Ne.symm a4),c9 (Ne.symm b45),c9 (Ne.symm a4),b6]
 have F5:HF W=some (HO.lst (T8.row.map V.int)):=by
  rw[←eHF]
  rw[c9 (Ne.symm a5),b6];rfl
 refine q G _ ⟨F0,F1,F2,⟨[],F3,.nil⟩,⟨[],F4,.nil⟩,F5,(fun d hd=>nomatch hd),(fun q hq=>nomatch hq),g0,g1,g2,g3,g4,g5,aL3,aL3,fun b e=>?_⟩ (fun c o nc hc=>?_) fun c o nc hc=>?_
 ·show(if b=p then _ else _)=_
  rw[aA8 (fun z=>by rw[z,F0]at e;cases e),aA8 (fun z=>by rw[z,F1]at e;cases e),aA8 (fun z=>by rw[z,F2]at e;cases e),aA8 (fun z=>by rw[z,F3]at e;cases e),aA8 (fun z=>by rw[z,F4]at e;cases e),aA8 (fun z=>by rw[z,F5]at e;cases e)]
 ·obtain⟨c1,c2,c3,c4,c5⟩:=off c o nc hc
  rw[←eHF,c9 nc,c9 c5,c9 nc,c9 c4,c9 nc,c9 c3,c9 nc,c9 c2,c9 nc,c9 c1,c9 nc];exact hc
 ·obtain⟨c1,c2,c3,c4,c5⟩:=off c o nc hc
  show(if c=p then _ else _)=_
  rw[aA8 nc,aA8 c1,aA8 c2,aA8 c3,aA8 c4,aA8 c5]
def F9(v:J7)(g:Str)(x:Int×Int):J7:=if g∈v.map (·.1) then v.map (fun q=>if q.1=g then(q.1,q.2++[x]) else q) else v++[(g,[x])]
def C9(v:J7)(am:Am)(m:Int):J7:=am.foldl (fun v q=>F9 v q.1 (m,q.2)) v
theorem b2c{v:J7}{am:Am}{m:Int}{i:Nat}{q:Str×Int}(h:am[i]?=some q):C9 v (am.take (i+1)) m=F9 (C9 v (am.take i) m) q.1 (m,q.2):=by
 unfold C9;rw[aD3,h,aG5,List.foldl_append];rfl
theorem Z2(v:J7)(g:Str)(x:Int×Int):(F9 v g x).map (·.1)=if g∈v.map (·.1) then v.map (·.1) else v.map (·.1)++[g]:=by
 unfold F9;split
 ·rw[aE8]
  refine aE5 fun q _=>?_
  show(if q.1=g then(q.1,q.2++[x]) else q).1=q.1
  split<;>rfl
 ·rw[aB5];rfl
theorem b3r(v:J7)(g:Str)(x:Int×Int):(F9 v g x).length≤v.length+1:=by
 unfold F9;split<;>simp
theorem a4I(v:J7)(m:Int):∀am:Am,(C9 v am m).length≤v.length+am.length:=by
 intro am
 induction am generalizing v with
 | nil=>exact aB3 _
 | cons q am ih=>
  show(C9 (F9 v q.1 (m,q.2)) am m).length≤_
  have:=ih (F9 v q.1 (m,q.2))
  have:=b3r v q.1 (m,q.2)
  rw[aE4];omega
theorem b6p{v:J7}(nd:(v.map (·.1)).Nodup){a b:Str×List (Int×Int)}(ha:a∈v)(hb:b∈v)(h:a.1=b.1):a=b:=by
 have e1:=a0l nd ha
 have e2:=a0l nd hb
 rw[h,e2]at e1
 exact Prod.ext h e1.symm
theorem b4s{H:Hp}{a:Addr}{o u:HO}(h:H a=some u)(n1:∀xs,u≠.tup xs)(n2:∀ob xs,u≠.frz ob (.tup xs)):u5 H (upd H a o):=
 ⟨fun b xs e=>by rw[c9 fun z=>by rw[z,h]at e;exact n1 xs (aC0 e)];exact e,fun b ob xs e=>by rw[c9 fun z=>by rw[z,h]at e;exact n2 ob xs (aC0 e)];exact e⟩
section
variable{CT CD p:Addr}{G:Gh}{H:Hp}{st:j8}
theorem TA.off(h:TA CT CD G H p st){a:Addr}{n:Int}{o:HO}(ha:G.rl a=.side n)(hn:∀d∈st.under,d.num≠n)(t:u5 H (upd H a o)):TA CT CD G (upd H a o) p st:=by
 refine⟨d9 h.ob h.r0 ha (by simp),d9 h.un h.r1 ha (by simp),d9 h.ve h.r2 ha (by simp),?_,?_,d9 h.rw h.r5 ha (by simp),fun e he=>?_,fun q hq=>?_,h.r0,h.r1,h.r2,h.r3,h.r4,h.r5,h.nd,h.vd,fun b e=>h.cl b (v3 e)⟩
 ·obtain⟨xs,h1,h2⟩:=h.rc
  exact⟨xs,d9 h1 h.r3 ha (by simp),Paired.mapP h2 fun _ _ z=>z.upd ha (by simp) t⟩
 ·obtain⟨xs,h1,h2⟩:=h.ln
  exact⟨xs,d9 h1 h.r4 ha (by simp),h2.tupK t⟩
 ·have E:=h.dl e he
  exact⟨d9 E.ob E.r1 ha (by simp),d9 E.lk E.r2 ha (by simp),d9 E.as E.r3 ha (by simpa using hn e he),E.r1,E.r2,E.r3⟩
 ·obtain⟨xs,h1,h2,h3⟩:=h.vl q hq
  exact⟨xs,d9 h1 h3 ha (by simp),C5 t h2,h3⟩
theorem TA.addOld(h:TA CT CD G H p st){q:Str×List (Int×Int)}(hq:q∈st.vers){x:Int×Int}{xs:List V}{y:V}(hx:H (G.vl q.1)=some (.lst xs))(hy:VAt H x y) :
  TA CT CD G (upd H (G.vl q.1) (.lst (xs++[y]))) p { st with vers:=F9 st.vers q.1 x }:=by
 obtain⟨xs',h1,h2,h3⟩:=h.vl q hq
 rw[hx]at h1;cases h1
 have t:u5 H (upd H (G.vl q.1) (.lst (xs++[y]))):=n4 hx
 have inn:q.1∈st.vers.map (·.1):=aA5.mpr ⟨q,hq,rfl⟩
 refine⟨d9 h.ob h.r0 h3 (by simp),d9 h.un h.r1 h3 (by simp),?_,?_,?_,d9 h.rw h.r5 h3 (by simp),fun e he=>?_,fun r hr=>?_,h.r0,h.r1,h.r2,h.r3,h.r4,h.r5,h.nd,?_,fun b e=>h.cl b (v3 e)⟩
 ·rw[c9 (a7i h.r2 h3 (by simp)),h.ve]
  show some (HO.dK _)=some (HO.dK ((F9 st.vers q.1 x).map _))
  congr 2
  unfold F9
  rw[aB4 inn,aE8]
  refine aE5 fun r _=>?_
  show _=((Sum.inr (if r.1=q.1 then(r.1,r.2++[x]) else r).1:Key),V.ref (G.vl (if r.1=q.1 then(r.1,r.2++[x]) else r).1))
  split<;>rfl
 ·obtain⟨zs,z1,z2⟩:=h.rc
  exact⟨zs,d9 z1 h.r3 h3 (by simp),Paired.mapP z2 fun _ _ z=>z.upd h3 (by simp) t⟩
 ·obtain⟨zs,z1,z2⟩:=h.ln
  exact⟨zs,d9 z1 h.r4 h3 (by simp),z2.tupK t⟩
 ·have E:=h.dl e he
  exact⟨d9 E.ob E.r1 h3 (by simp),d9 E.lk E.r2 h3 (by simp),d9 E.as E.r3 h3 (by simp),E.r1,E.r2,E.r3⟩
 ·have hr:r∈F9 st.vers q.1 x:=hr
  unfold F9 at hr
  rw[aB4 inn]at hr
  obtain⟨r',hr',rfl⟩:=aA5.mp hr
  by_cases c:r'.1=q.1
  ·have:r'=q:=b6p h.vd hr' hq c
   subst this
   rw[aB4 rfl]
   obtain⟨b,e1,e2⟩:=hy
   exact⟨_,b6,aK0 (C5 t h2) ⟨b,e1,t.1 _ _ e2⟩,h3⟩
  ·rw[aA8 c]
   obtain⟨zs,z1,z2,z3⟩:=h.vl r' hr'
   exact⟨zs,d9 z1 z3 h3 (by simpa using c),C5 t z2,z3⟩
 ·show((F9 st.vers q.1 x).map (·.1)).Nodup
  rw[Z2,aB4 inn];exact h.vd
def L6(G:Gh)(g:Str)(l:Addr):Gh:={ G with rl:=fun b=>if b=l then .vl g else G.rl b,vl:=fun k=>if k=g then l else G.vl k }
theorem b8p(v:J7)(G:Gh){g:Str}(l:Addr)(h:g∉v.map (·.1)):(v.map fun q=>((Sum.inr q.1:Key),V.ref ((L6 G g l).vl q.1)))=v.map fun q=>((Sum.inr q.1:Key),V.ref (G.vl q.1)):=
 aE5 fun q hq=>by
  show((Sum.inr q.1:Key),V.ref (if q.1=g then l else G.vl q.1))=_
  rw[aA8 fun z:q.1=g=>h (z▸aA5.mpr ⟨q,hq,rfl⟩)]
theorem b4p(v:J7)(f:Str→V){g:Str}(x:V)(h:g∉v.map (·.1)):putK (v.map fun q=>((Sum.inr q.1:Key),f q.1)) (Sum.inr g) x=(v.map fun q=>((Sum.inr q.1:Key),f q.1))++[(Sum.inr g,x)]:=by
 unfold putK
 rw[aA8]
 intro z
 obtain⟨kv,hk,e⟩:=aO1.mp z
 obtain⟨q,hq,rfl⟩:=aA5.mp hk
 exact h (aA5.mpr ⟨q,hq,aN6 (aF2 e)⟩)
theorem b2m(v:J7)(f:Str→V){g:Str}(x:V)(h:g∈v.map (·.1)):putK (v.map fun q=>((Sum.inr q.1:Key),f q.1)) (Sum.inr g) x=v.map fun q=>((Sum.inr q.1:Key),if q.1=g then x else f q.1):=by
 unfold putK
 rw[aB4,aE8]
 ·refine aE5 fun q _=>?_
  show(if (Sum.inr q.1:Key)=Sum.inr g then _ else _)=_
  by_cases e:q.1=g
  ·rw[aB4 (by rw[e]),aB4 e]
  ·rw[aA8 fun z=>e (aN6 z),aA8 e]
 ·obtain⟨q,hq,e⟩:=aA5.mp h
  exact aO1.mpr ⟨_,aA5.mpr ⟨q,hq,rfl⟩,aC4 (by rw[e])⟩
theorem TA.setV(h:TA CT CD G H p st){g:Str}{l:Addr}{ps:List (Int×Int)}{xs:List V}{H1:Hp}{v:J7}(hl:H l=none)(s:f7 H H1)(h1:H1 l=some (.lst xs))(hx:Paired (VAt H1) ps xs)
  (hv:∀q∈v,q=(g,ps)∨(q.1≠g∧q∈st.vers)) (hk:(v.map (·.1)).Nodup) (hm:putK (st.vers.map fun q=>((Sum.inr q.1:Key),V.ref (G.vl q.1))) (Sum.inr g) (.ref l)=v.map fun q=>((Sum.inr q.1:Key),V.ref ((L6 G g l).vl q.1))) :
  TA CT CD (L6 G g l) (upd H1 G.Vd (.dK (putK (st.vers.map fun q=>((Sum.inr q.1:Key),V.ref (G.vl q.1))) (Sum.inr g) (.ref l)))) p { st with vers:=v }∧Kp G H (L6 G g l) (upd H1 G.Vd (.dK (putK (st.vers.map fun q=>((Sum.inr q.1:Key),V.ref (G.vl q.1))) (Sum.inr g) (.ref l)))):=by
 have rl_old:∀c o,H c=some o→(L6 G g l).rl c=G.rl c:=fun c o e=>by
  show(if c=l then _ else _)=_
  rw[aA8 (g6 e hl)]
 have h':=h.same s
 have rl1:∀{c o ρ},H c=some o→G.rl c=ρ→(L6 G g l).rl c=ρ:=fun {c o ρ} e r=>by rw[rl_old c o e];exact r
 have rV:(L6 G g l).rl G.Vd=.vers:=rl1 h.ve h.r2
 have rL:(L6 G g l).rl l=.vl g:=aB4 rfl
 have t:∀o,u5 H1 (upd H1 G.Vd o):=fun o=>P1 h'.ve
 refine⟨⟨d9 h'.ob (rl1 h.ob h.r0) rV (by simp),d9 h'.un (rl1 h.un h.r1) rV (by simp),?_,?_,?_,d9 h'.rw (rl1 h.rw h.r5) rV (by simp),fun e he=>?_,fun q hq=>?_,rl1 h.ob h.r0,rl1 h.un h.r1,rV,?_,?_,rl1 h.rw h.r5,h.nd,hk,fun b e=>?_⟩,⟨fun c o f e=>?_,s.tupK.trans (t _),fun c o f e=>by rw[rl_old c o e];exact f,fun c e=>j7 s (v3 e)⟩⟩
 ·show upd H1 G.Vd _ G.Vd=_
  rw[b6,hm]
 ·obtain⟨zs,z1,z2⟩:=h.rc
  refine⟨zs,d9 (s _ _ z1) (rl1 z1 h.r3) rV (by simp),Paired.mapP z2 fun _ _ z=>?_⟩
  obtain⟨b,la,pa,e,w1,w2,w3,w4,w5⟩:=z
  exact⟨b,la,pa,e,(t _).1 _ _ (s _ _ w1),d9 (s _ _ w2) (rl1 w2 w4) rV (by simp),d9 (s _ _ w3) (rl1 w3 w5) rV (by simp),rl1 w2 w4,rl1 w3 w5⟩
 ·obtain⟨zs,z1,z2⟩:=h.ln
  exact⟨zs,d9 (s _ _ z1) (rl1 z1 h.r4) rV (by simp),(z2.tupK s.tupK).tupK (t _)⟩
 ·have E:=h.dl e he
  exact⟨d9 (s _ _ E.ob) (rl1 E.ob E.r1) rV (by simp),d9 (s _ _ E.lk) (rl1 E.lk E.r2) rV (by simp),d9 (s _ _ E.as) (rl1 E.as E.r3) rV (by simp),rl1 E.ob E.r1,rl1 E.lk E.r2,rl1 E.as E.r3⟩
 ·rcases hv q hq with rfl | ⟨c,hq'⟩
  ·have e1:(L6 G g l).vl g=l:=aB4 rfl
   show ∃xs,upd H1 G.Vd _ ((L6 G g l).vl g)=some (.lst xs)∧_∧(L6 G g l).rl ((L6 G g l).vl g)=_
   rw[e1]
   exact⟨xs,d9 h1 rL rV (by simp),C5 (t _) hx,rL⟩
  ·obtain⟨zs,z1,z2,z3⟩:=h.vl q hq'
   have e1:(L6 G g l).vl q.1=G.vl q.1:=aA8 c
   rw[e1]
   exact⟨zs,d9 (s _ _ z1) (rl1 z1 z3) rV (by simp),C5 (t _) (C5 s.tupK z2),rl1 z1 z3⟩
 ·obtain⟨zs,z1,_⟩:=h.rc;exact rl1 z1 h.r3
 ·obtain⟨zs,z1,_⟩:=h.ln;exact rl1 z1 h.r4
 ·have e:=v3 e
  show(if b=l then _ else _)=_
  rw[aA8 fun z=>by rw[z,h1]at e;cases e]
  exact h.cl b (j7 s e)
 ·rw[c9 fun z=>by rw[z,h.r2]at f;cases f];exact s _ _ e
end
inductive a8m(t:E1)(K:PySem.W.Frag)(vs:List V)(H:Hp)(Q:VK):Prop
 | mk (G:Gh) (p a:Addr) (st:j8) (n:Int) (am:Am) (x0:vs=[.ref p,.ref a]) (x1:TA t.C_Tally t.C_Dealing G H p st) (x2:H a=some (.dK (L5 am))) (x3:G.rl a=.side n) (x4:(∀d∈st.under,d.num≠n)) (x5:am.length≤1000) (x6:st.vers.length≤100000) (x7:(∀q∈st.vers,q.2.length≤100000)) (xq:Pst t G H p { st with vers:=C9 st.vers am (st.recs.length:Int) } fun H'=>Q .non H')
def a7p(t:E1)(K:PySem.W.Frag):Sp:=fun vs H Q _=>a8m t K vs H Q
theorem a7B{v:J7}{m:Int}{am:Am}(nd:(v.map (·.1)).Nodup){c:Nat}(h:∀q∈v,q.2.length≤c):∀q∈C9 v am m,q.2.length≤c+am.length:=by
 induction am generalizing v c with
 | nil=>exact h
 | cons a am ih=>
  have nd':((F9 v a.1 (m,a.2)).map (·.1)).Nodup:=by
   rw[Z2];split
   ·exact nd
   ·rename_i z
    rw[aD4]
    refine⟨nd,by simp,fun x hx y hy e=>z ?_⟩
    rw[aA3.mp hy]at e
    rw[←e];exact hx
  have h':∀q∈F9 v a.1 (m,a.2),q.2.length≤c+1:=fun q hq=>by
   unfold F9 at hq
   split at hq
   ·obtain⟨r,hr,rfl⟩:=aA5.mp hq
    have:=h r hr
    split
    ·simp;exact this
    ·omega
   ·rcases aA9.mp hq with hq | hq
    ·have:=h q hq;omega
    ·rw[aA3.mp hq];simp
  intro q hq
  have:=ih nd' h' q hq
  rw[aE4];omega
theorem a6p(T:B6 K mg t):g9 P w K mg base A3 2 t.f_Tally_take_over t.d_Tally_take_over ["self","aside"] (a7p t K):=by
 refine T.F_Tally_take_over.ok Q7 (fun vs H Q E h=>?_) (fun cdv A outer s H vs Q E hr h=>?_)
 ·obtain⟨G,p,a,st,n,am,rfl,_⟩:=h
  rfl
 obtain⟨G,p,a,st,n,am,rfl,h,ha,ra,hn,z1,z2,z3,q⟩:=h
 have hu:=O0 hr
 refine⟨_,(d6 (a3Z (y6 aE1 rfl (b6r (pv 1)) (a6A rfl (P3 (l6 (i:=2) Q7.nd rfl (Or.inl rfl)) (P3 (l6 (i:=3) Q7.nd rfl (Or.inl rfl)) a6s)))
 (d6 (m8 (v9 aB0 aB6 aB8 n6 (b9m hu (v5 (pv 0) rfl) (pv 2) (m6 b7) ⟨rfl,rfl,rfl,rfl⟩) (b0 (q5 (b0 (Q6 (pv 0) T.cl_Tally T.M_Tally_moment (g9.mono (k:=1) (N0 T) (by decide)) hr T.F_Tally_moment.b .nil k8) (b0 (pv 3) b7))) b7))))))),?_⟩
 refine⟨_,rfl,a,L5 am,rfl,ha,fun o=>?_⟩
 have t0:∀u,u5 H (upd H a u):=fun u=>P1 ha
 have K0:∀u,Kp G H G (upd H a u):=fun u=>Kp.upd (by rw[ra];simp) (t0 u)
 refine b3v (fun i σ' H'=>∃(o2 o3:Option V) (G':Gh),σ'=[some (.ref p),some (.ref a),o2,o3]∧TA t.C_Tally t.C_Dealing G' H' p { st with vers:=C9 st.vers (am.take i) (st.recs.length:Int) }∧Kp G H G' H'∧H' a=some (.frz o (.dK (L5 am)))∧G'.rl a=.side n)
  ⟨none,none,G,rfl,h.off ra hn (t0 _),K0 _,b6,ra⟩ (fun i σ' H' _ h=>?_) (fun i k v σ' H' tp hk h htp=>?_) (fun σ' H' h=>?_)
 ·obtain⟨_,_,_,_,_,_,h1,_⟩:=h
  exact h1
 ·obtain⟨o2,o3,G',rfl,h1,k1,ha1,ra1⟩:=h
  unfold L5 at hk
  rw[aB1]at hk
  obtain⟨x,hx,e⟩:=aD8.mp hk
  have e1:k=Sum.inr x.1:=(congrArg Prod.fst e).symm
  have e2:v=V.int x.2:=(congrArg Prod.snd e).symm
  subst e1;subst e2
  have li:=(aA2.mp hx).1
  have s1:=b8 (o:=.tup [kV (Sum.inr x.1),V.int x.2]) htp
  have h2:=h1.same s1
  have ha2:=s1 _ _ ha1
  refine⟨tp,_,rfl,i3.of b6,rfl,_,_,rfl,_,_,rfl,rfl,?_⟩
  generalize upd H' tp (.tup [kV (Sum.inr x.1),V.int x.2])=H2 at s1 h2 ha2 ⊢
  have k2:=k1.trans (Kp.same (G:=G') s1)
  have lv:=a4I st.vers (st.recs.length:Int) (am.take i)
  have ll:=a7B (m:=(st.recs.length:Int)) (am:=am.take i) h.vd z3
  rw[aD0]at lv ll
  rw[b2c hx]
  generalize C9 st.vers (am.take i) (st.recs.length:Int)=v at h2 lv ll ⊢
  obtain⟨xr,hR,pR⟩:=h2.rc
  have lR:=p6 pR
  refine⟨_,rfl,p,_,_,_,_,rfl,h2.ob,T.cl_Tally,T.n_Tally_versions,rfl,G'.Vd,rfl,.inl ⟨_,.inl h2.ve⟩,_,rfl,(l8 0),fun l hl=>?_⟩
  have s3:=b8 (o:=.lst []) hl
  have h3:=h2.same s3
  have ha3:=s3 _ _ ha2
  have fz:(fun g:Str=>V.ref (G'.vl g))=fun g=>V.ref (G'.vl g):=rfl
  refine⟨_,Sum.inr x.1,h3.ve,rfl,r9 (by rw[aA0];show v.length≤_;omega),fun y hy=>?_,fun hy=>?_⟩
  ·
   rw[a9h v (fun g=>V.ref (G'.vl g))]at hy
   split at hy
   ·rename_i c
    cases hy
    obtain⟨q',hq',e⟩:=aA5.mp c
    obtain⟨xs,x1,x2,x3⟩:=h3.vl q' hq'
    rw[e]at x1 x3
    have lx:=p6 x2
    have lq:=ll q' hq'
    refine⟨.inl ⟨rfl,_,d8.of x1⟩,_,rfl,p,_,_,rfl,h3.ob,rfl,p,_,_,_,_,_,_,_,xr,rfl,h3.ob,s3 _ _ hR,_,rfl,(l8 2),fun tt htt=>?_⟩
    have s4:=b8 (o:=.tup [.int (xr.length:Int),.int x.2]) htt
    refine⟨G'.vl x.1,xs,_,rfl,rfl,s4 _ _ x1,r9 (by omega),?_⟩
    have h4:=(h3.same s4).addOld (q:=q') hq' (x:=((st.recs.length:Int),x.2)) (xs:=xs) (y:=.ref tt) (by rw[e];exact s4 _ _ x1) ⟨tt,rfl,by rw[b6,lR]⟩
    rw[e]at h4
    have rv:G'.rl (G'.vl x.1)=.vl x.1:=x3
    refine⟨_,_,G',rfl,h4,k2.trans ((Kp.same (G:=G') (s3.trans s4)).trans (Kp.upd (by rw[rv];simp) (n4 (s4 _ _ x1)))),?_,ra1⟩
    exact d9 (G:=G') (s4 _ _ ha3) ra1 rv (by simp)
   ·cases hy
  ·
   rw[a9h v (fun g=>V.ref (G'.vl g))]at hy
   split at hy
   ·cases hy
   ·rename_i c
    have hv:∀q∈v++[(x.1,([]:List (Int×Int)))],q=(x.1,[])∨(q.1≠x.1∧q∈v):=fun q hq=>by
     rcases aA9.mp hq with hq | hq
     ·exact .inr ⟨fun z=>c (z▸aA5.mpr ⟨q,hq,rfl⟩),hq⟩
     ·exact .inl (aA3.mp hq)
    have hk:((v++[(x.1,([]:List (Int×Int)))]).map (·.1)).Nodup:=by
     rw[aB5,aD4]
     refine⟨h2.vd,by simp,fun y hy z hz e=>c ?_⟩
     have:z=x.1:=by simpa using hz
     rw[←this,←e];exact hy
    obtain⟨h4,k4⟩:=h2.setV (g:=x.1) (l:=l) (ps:=[]) (xs:=[]) (v:=v++[(x.1,[])]) hl s3 b6 .nil hv hk (by
     rw[b4p v (fun g=>V.ref (G'.vl g)) _ c,aB5,b8p v G' l c]
     show _=_++[((Sum.inr x.1:Key),V.ref (if x.1=x.1 then l else G'.vl x.1))]
     rw[aB4 rfl])
    have rl4:(L6 G' x.1 l).rl l=.vl x.1:=aB4 rfl
    have vl4:(L6 G' x.1 l).vl x.1=l:=aB4 rfl
    have ra4:(L6 G' x.1 l).rl a=.side n:=by
     show(if a=l then _ else _)=_
     rw[aA8 (g6 ha2 hl)];exact ra1
    have rv4:(L6 G' x.1 l).rl G'.Vd=.vers:=h4.r2
    have hl4:(upd (upd H2 l (.lst [])) G'.Vd (.dK (putK (v.map fun q=>((Sum.inr q.1:Key),V.ref (G'.vl q.1))) (Sum.inr x.1) (.ref l)))) l=some (.lst []):=d9 b6 rl4 rv4 (by simp)
    have ha4:(upd (upd H2 l (.lst [])) G'.Vd (.dK (putK (v.map fun q=>((Sum.inr q.1:Key),V.ref (G'.vl q.1))) (Sum.inr x.1) (.ref l)))) a=some (.frz o (.dK (L5 am))):=d9 ha3 ra4 rv4 (by simp)
    have hR4:∃xr',(upd (upd H2 l (.lst [])) G'.Vd (.dK (putK (v.map fun q=>((Sum.inr q.1:Key),V.ref (G'.vl q.1))) (Sum.inr x.1) (.ref l)))) G'.R=some (.lst xr')∧xr'.length=st.recs.length:=by
     obtain⟨xr',w1,w2⟩:=h4.rc
     exact⟨xr',w1,p6 w2⟩
    show _∧_
    generalize upd (upd H2 l (.lst [])) G'.Vd (.dK (putK (v.map fun q=>((Sum.inr q.1:Key),V.ref (G'.vl q.1))) (Sum.inr x.1) (.ref l)))=H4 at h4 k4 hl4 ha4 hR4 ⊢
    obtain⟨xr',hR',lR'⟩:=hR4
    refine⟨.inl ⟨rfl,_,d8.of hl4⟩,_,rfl,p,_,_,rfl,h4.ob,rfl,p,_,_,_,_,_,_,_,xr',rfl,h4.ob,hR',_,rfl,(l8 2),fun tt htt=>?_⟩
    have s5:=b8 (o:=.tup [.int (xr'.length:Int),.int x.2]) htt
    refine⟨l,[],_,rfl,rfl,s5 _ _ hl4,r9 (by simp),?_⟩
    have h5:=(h4.same s5).addOld (q:=(x.1,[])) (aE2 _ aB9) (x:=((st.recs.length:Int),x.2)) (xs:=[]) (y:=.ref tt) (by show upd H4 tt _ ((L6 G' x.1 l).vl x.1)=_;rw[vl4];exact s5 _ _ hl4) ⟨tt,rfl,by rw[b6,lR']⟩
    have ev:F9 (v++[(x.1,[])]) x.1 ((st.recs.length:Int),x.2)=F9 v x.1 ((st.recs.length:Int),x.2):=by
     unfold F9
     rw[aB4 (by simp),aA8 c,aB5]
     congr 1
     ·refine(aE5 fun q hq=>?_).trans (aS8 v)
      rw[aA8 fun z:q.1=x.1=>c (z▸aA5.mpr ⟨q,hq,rfl⟩)];rfl
     ·simp
    rw[show({ st with vers:=F9 (v++[(x.1,[])]) x.1 ((st.recs.length:Int),x.2) }:j8)={ st with vers:=F9 v x.1 ((st.recs.length:Int),x.2) } by rw[ev]] at h5
    have e6:(L6 G' x.1 l).vl (x.1,([]:List (Int×Int))).1=l:=vl4
    rw[e6]at h5
    refine⟨_,_,L6 G' x.1 l,rfl,h5,(k2.trans k4).trans ((Kp.same (G:=L6 G' x.1 l) s5).trans (Kp.upd (by rw[rl4];simp) (n4 (s5 _ _ hl4)))),?_,ra4⟩
    exact d9 (G:=L6 G' x.1 l) (s5 _ _ ha4) ra4 rl4 (by simp)
 ·obtain⟨o2,o3,G',rfl,h1,k1,ha1,ra1⟩:=h
  rw[a4G,aD5]at h1
  have tz:∀u,u5 H' (upd H' a u):=fun u=>b4s ha1 (fun xs z=>by cases z) (fun ob xs z=>by cases z)
  exact⟨a,o,L5 am,ha,ha1,q G' _ (h1.off ra1 hn (tz _)) (k1.trans (Kp.upd (by rw[ra1];simp) (tz _)))⟩
def swL(ps:List (Int×Int))(m:Int):List (Int×Int):=ps.drop (cnt ps m-1)
def T9(v:J7)(m:Int):J7:=v.map fun q=>(q.1,swL q.2 m)
def a1f(v:J7)(m:Int):Int:=(v.map fun q=>((q.2.length:Int)-((swL q.2 m).length:Int))).sum
def a5P(st:j8)(m:Int):Prop:=(st.under=[]→m=(st.recs.length:Int))∧(st.under≠[]→m∈st.under.map (·.beg)∧∀d∈st.under,m≤d.beg)
theorem a9K{α β:Type}{F:α→β→Prop}:∀(n:Nat) {l:List α} {m:List β},Paired F l m→Paired F (l.drop n) (m.drop n)
 | 0,_,_,h=>h
 | n+1,_,_,.nil=>.nil
 | n+1,_,_,.cons _ t=>a9K n t
inductive a7z(t:E1)(K:PySem.W.Frag)(vs:List V)(H:Hp)(Q:VK):Prop
 | mk (G:Gh) (p:Addr) (st:j8) (x0:vs=[.ref p]) (x1:TA t.C_Tally t.C_Dealing G H p st) (x2:st.under.length≤1000) (x3:st.vers.length≤100000) (x4:(∀q∈st.vers,q.2.length≤100000)) (xq:∀m,a5P st m→Pst t G H p { st with vers:=T9 st.vers m } fun H'=>Q (.int (a1f st.vers m)) H')
def a4F(t:E1)(K:PySem.W.Frag):Sp:=fun vs H Q _=>a7z t K vs H Q
def T5(v:J7)(m:Int)(i:Nat):J7:=T9 (v.take i) m++v.drop i
theorem a9P(v:J7)(m:Int)(i:Nat):(T5 v m i).map (·.1)=v.map (·.1):=by
 unfold T5 T9
 rw[aB5,aE8]
 have:((fun x:Str×List (Int×Int)=>x.1)∘fun q:Str×List (Int×Int)=>(q.1,swL q.2 m))=fun q=>q.1:=rfl
 rw[this,←aB5,aN8]
theorem b2A{v:J7}{m:Int}{i:Nat}{q:Str×List (Int×Int)}(h:v[i]?=some q):q∈T5 v m i:=by
 unfold T5
 refine aE2 _ ?_
 refine aC8 (i:=0) ?_
 rw[aI7];simpa using h
theorem b3n{v:J7}(nd:(v.map (·.1)).Nodup){m:Int}{i:Nat}{q:Str×List (Int×Int)}(h:v[i]?=some q):T5 v m (i+1)=(T5 v m i).map fun r=>if r.1=q.1 then(q.1,swL q.2 m) else r:=by
 have li:=(aA2.mp h).1
 have hi:=(aA2.mp h).2
 have inj:∀(j:Nat) r,v[j]?=some r→r.1=q.1→j=i:=fun j r hj e=>
  (aF4 (l:=v.map (·.1)) (by rw[aA0];exact(aA2.mp hj).1) nd).mp (by rw[aB1,aB1,hj,h];simp[e])
 unfold T5
 rw[aB5,List.drop_eq_getElem_cons li,hi,aC3,aB4 rfl]
 have tk:v.take (i+1)=v.take i++[q]:=by rw[aD3,h];rfl
 rw[tk]
 unfold T9
 rw[aB5,aG0]
 congr 1
 ·rw[aE8]
  refine aE5 fun r hr=>?_
  obtain⟨j,hj⟩:=aD9.mp hr
  rw[List.getElem?_take]at hj
  split at hj
  ·rename_i c
   show _=if r.1=q.1 then _ else _
   rw[aA8 fun e=>by have:=inj j r hj e;omega]
  ·cases hj
 ·rw[aC3,aJ4,List.singleton_append]
  congr 1
  refine(aS8 _).symm.trans (aE5 fun r hr=>?_)
  obtain⟨j,hj⟩:=aD9.mp hr
  rw[aI7]at hj
  show r=if r.1=q.1 then _ else r
  rw[aA8 fun e=>by have:=inj _ r hj e;omega]
theorem a1H(T:B6 K mg t):g9 P w K mg base A3 3 t.f_Tally_sweep t.d_Tally_sweep ["self"] (a4F t K):=by
 refine T.F_Tally_sweep.ok G9 (fun vs H Q E h=>?_) (fun cdv A outer s H vs Q E hr h=>?_)
 ·obtain⟨G,p,st,rfl,_⟩:=h
  rfl
 obtain⟨G,p,st,rfl,h,z1,z2,z3,q⟩:=h
 have hu:=O0 hr
 refine⟨_,(b9 (a3Z (a5D (i:=1) G9.nd rfl rfl rfl (b0h (v5 (pv 0) rfl)) (K2.mk (own:=["dealing"]) (tl:=["self","beginnings","moment","gone","good","left"]) rfl rfl rfl (fun _ _ _ _ _=>(l6 (i:=0) (a4w) rfl (Or.inl rfl))) (fun _ _ _ _ _=>a3c) (fun _ _ _ _ _=>(a9W (pv 0) rfl)))))
 (b9 (P6 (g8 (i:=2) G9.nd rfl (Or.inl rfl) (b5a rfl rfl T.m_min (pv 1) (Q6 (pv 0) T.cl_Tally T.M_Tally_moment (g9.mono (k:=2) (N0 T) (by decide)) hr T.F_Tally_moment.b .nil k8))))
 (b9 (g8 (i:=3) G9.nd rfl (Or.inl rfl) d5)
 (b9 (y6 aE1 rfl (u6 (K7 (a2i rfl) rfl T.m_list aM8 (b0 (v5 (pv 0) rfl) b7))) (l6 (i:=4) G9.nd rfl (Or.inl rfl))
 (b9 (g8 (i:=5) G9.nd rfl (Or.inl rfl) (k7 (g9.mono (k:=2) (b5q T) (by decide)) hr rfl T.m_swept T.F_swept.kp T.F_swept.b .nil k8 (b0 (v8 hu (v5 (pv 0) rfl) (pv 4) (fun _ _=>rfl)) (b0 (pv 2) b7))))
 (b9 (g8 (i:=3) G9.nd rfl (Or.inl rfl) (j5 Q8 (j5 K1 (pv 3) (e7 i5 rfl T.m_len aC6 (b0 (v8 hu (v5 (pv 0) rfl) (pv 4) (fun _ _=>rfl)) b7))) (e7 i5 rfl T.m_len aC6 (b0 (pv 5) b7))))
 (d6 (J2 hu (v5 (pv 0) rfl) (pv 4) (pv 5) rfl)))))
 (d6 (i4 (pv 3))))))),?_⟩
 have kl:(m7 (st.under.map (·.num)) fun n=>V.ref (G.dp n)).length=st.under.length:=by rw[K8,aA0]
 refine⟨_,rfl,p,_,_,_,_,rfl,h.ob,T.cl_Tally,T.n_Tally_under_way,rfl,G.U,_,rfl,h.un,fun o=>fun acc hacc=>?_⟩
 have nU:G.U≠acc:=g6 b6 hacc
 have nacc:H acc=none:=by rw[c9 (Ne.symm nU)]at hacc;exact hacc
 refine b6n (fun i H'=>Z0 G.U H H'∧H' G.U=some (.frz o (.dK (m7 (st.under.map (·.num)) fun n=>.ref (G.dp n))))∧H' acc=some (.lst (((st.under.take i).map (·.beg)).map V.int)))
  ⟨fun b u nb e=>by rw[c9 (g6 e nacc),c9 nb];exact e,by rw[c9 nU];exact b6,b6⟩ (fun i H' _ h=>h.2.1) (fun i k x H' hx h=>?_) (fun H1 h'=>?_)
 ·obtain⟨b1,b2,b3⟩:=h
  unfold m7 at hx
  rw[aB1,aB1]at hx
  obtain⟨n,hn,e⟩:=aD8.mp hx
  obtain⟨d,hd,rfl⟩:=aD8.mp hn
  have e2:x=V.ref (G.dp d.num):=(congrArg Prod.snd e).symm
  subst e2
  have D:=h.dl d (aC8 hd)
  have li:=(aA2.mp hd).1
  refine⟨_,rfl,G.dp d.num,_,_,_,_,rfl,b1 _ _ (a7i D.r1 h.r1 (by simp)) D.ob,T.cl_Dealing,T.n_Dealing_began,rfl,_,b3,r9 (by rw[aA0,aA0,aD0];omega),fun b u nb e=>?_,?_,?_⟩
  ·rw[c9 (g6 e nacc)];exact b1 b u nb e
  ·rw[c9 nU];exact b2
  ·rw[b6,aD3,hd,aG5,aB5,aB5];rfl
 obtain⟨b1,b2,b3⟩:=h'
 rw[kl,aD5]at b3
 refine⟨G.U,o,_,h.un,b2,?_⟩
 have s1:f7 H (upd H1 G.U (.dK (m7 (st.under.map (·.num)) fun n=>.ref (G.dp n)))):=fun b u e=>by
  by_cases c:b=G.U
  ·subst c;rw[b6];rw[h.un]at e;exact e
  ·rw[c9 c];exact b1 b u c e
 have a1:(upd H1 G.U (.dK (m7 (st.under.map (·.num)) fun n=>.ref (G.dp n)))) acc=some (.lst ((st.under.map (·.beg)).map V.int)):=by rw[c9 (Ne.symm nU)];exact b3
 generalize upd H1 G.U (.dK (m7 (st.under.map (·.num)) fun n=>.ref (G.dp n)))=H2 at s1 a1 ⊢
 have h2:=h.same s1
 obtain⟨xr,hR,pR⟩:=h2.rc
 have lR:=p6 pR
 refine⟨fun σ' H'=>H'=H2∧∃m,a5P st m∧σ'=[some (.ref p),some (.ref acc),some (.int m),none,none,none],?_,fun σ' H' hM=>?_⟩
 ·refine⟨_,rfl,_,rfl,p,_,_,rfl,h2.ob,rfl,p,_,_,_,_,_,_,_,xr,rfl,h2.ob,hR,acc,st.under.map (·.beg),rfl,d8.of a1,fun e=>⟨rfl,_,⟨fun _=>by rw[lR],fun w=>absurd (List.map_eq_nil_iff.mp e) w⟩,rfl⟩,fun m hm hle=>⟨rfl,m,⟨fun w=>by rw[w]at hm;simp at hm,fun _=>⟨hm,fun d hd=>hle _ (aA5.mpr ⟨d,hd,rfl⟩)⟩⟩,rfl⟩⟩
 obtain⟨rfl,m,mb,rfl⟩:=hM
 have q:=q m mb
 refine⟨_,rfl,p,_,_,_,_,rfl,h2.ob,T.cl_Tally,T.n_Tally_versions,rfl,G.Vd,_,rfl,.inl h2.ve,fun l hl=>?_⟩
 have ek:((st.vers.map fun q=>((Sum.inr q.1:Key),V.ref (G.vl q.1))).map fun q=>kV q.1)=(st.vers.map (·.1)).map V.str:=by rw[aE8,aE8];rfl
 rw[ek]
 have s3:=b8 (o:=.lst ((st.vers.map (·.1)).map V.str)) hl
 have hl3:(upd H' l (.lst ((st.vers.map (·.1)).map V.str))) l=some (.lst ((st.vers.map (·.1)).map V.str)):=b6
 generalize upd H' l (.lst ((st.vers.map (·.1)).map V.str))=H3 at s3 hl3 ⊢
 have h3:=h2.same s3
 have k3:Kp G H G H3:=Kp.same (s1.trans s3)
 have fl:G.rl l=.free:=h2.cl l hl
 have e0:({ st with vers:=T5 st.vers m 0 }:j8)=st:=by
  have:T5 st.vers m 0=st.vers:=by unfold T5 T9;simp
  rw[this]
 refine⟨l,rfl,⟨_,d8.of hl3⟩,?_⟩
 refine A7 (xs:=(st.vers.map (·.1)).map V.str) (fun i σ' Hc=>∃(o4 o5:Option V) (G':Gh),σ'=[some (.ref p),some (.ref acc),some (.int m),some (.int (a1f (st.vers.take i) m)),o4,o5]∧TA t.C_Tally t.C_Dealing G' Hc p { st with vers:=T5 st.vers m i }∧Kp G H G' Hc∧Hc l=some (.lst ((st.vers.map (·.1)).map V.str))∧G'.rl l=.free)
  ⟨none,none,G,rfl,by rw[e0];exact h3,k3,hl3,fl⟩ (fun i σ' Hc _ h=>?_) (fun i x σ' Hc hx h=>?_) (fun σ' Hc h=>?_)
 ·obtain⟨_,_,_,_,_,_,h1,_⟩:=h
  exact d8.of h1
 ·obtain⟨o4,o5,G',rfl,h4,k4,hl4,fl4⟩:=h
  rw[aB1,aB1]at hx
  obtain⟨g,hg,rfl⟩:=aD8.mp hx
  obtain⟨qq,hq,rfl⟩:=aD8.mp hg
  have hin:=b2A (m:=m) hq
  obtain⟨xs,x1,x2,x3⟩:=h4.vl qq hin
  have lx:=p6 x2
  have z3q:=z3 qq (aC8 hq)
  have inn:qq.1∈(T5 st.vers m i).map (·.1):=aA5.mpr ⟨qq,hin,rfl⟩
  have dg:∀Hx:Hp,Hx G'.Vd=some (.dK ((T5 st.vers m i).map fun q=>((Sum.inr q.1:Key),V.ref (G'.vl q.1))))→z6 Hx G'.Vd (.str qq.1) (some (.ref (G'.vl qq.1))):=fun Hx hx=>by
   have:=z6.k (k:=Sum.inr qq.1) hx
   rw[a9h (T5 st.vers m i) (fun g=>V.ref (G'.vl g)),aB4 inn]at this
   exact this
  refine⟨_,rfl,p,_,_,_,_,rfl,h4.ob,T.cl_Tally,T.n_Tally_versions,rfl,_,rfl,G'.Vd,_,rfl,dg _ h4.ve,_,rfl,G'.vl qq.1,xs,qq.2,m,rfl,d8.of x1,a0k x2,z3q,fun r H5 s5 nr hr5=>?_⟩
  have h5:=h4.same s5
  refine⟨_,rfl,_,rfl,p,_,_,_,_,rfl,h5.ob,T.cl_Tally,T.n_Tally_versions,rfl,_,rfl,G'.Vd,_,rfl,dg _ h5.ve,G'.vl qq.1,xs,rfl,.inl (d8.of (s5 _ _ x1)),_,_,rfl,rfl,_,rfl,r,_,rfl,.inl (d8.of hr5),_,_,rfl,rfl,?_⟩
  have lk:(T5 st.vers m i).length=st.vers.length:=by have:=congrArg List.length (a9P st.vers m i);simpa using this
  refine⟨_,rfl,_,rfl,p,_,_,_,_,rfl,h5.ob,T.cl_Tally,T.n_Tally_versions,rfl,_,rfl,G'.Vd,_,rfl,N6.k (k:=Sum.inr qq.1) h5.ve (r9 (by rw[aA0];show(T5 st.vers m i).length≤_;omega)),?_⟩
  have hnx:=b3n h.vd (m:=m) hq
  obtain⟨h6,k6⟩:=h4.setV (g:=qq.1) (l:=r) (ps:=swL qq.2 m) (xs:=xs.drop (cnt qq.2 m-1)) (v:=T5 st.vers m (i+1)) nr s5 hr5 (a9K _ (C5 s5.tupK x2)) (fun q' hq'=>by
   rw[hnx]at hq'
   obtain⟨r',hr',rfl⟩:=aA5.mp hq'
   by_cases c:r'.1=qq.1
   ·rw[aB4 c];exact .inl rfl
   ·rw[aA8 c];exact .inr ⟨c,hr'⟩) (by rw[a9P];exact h.vd) (by
   show putK ((T5 st.vers m i).map fun q=>((Sum.inr q.1:Key),V.ref (G'.vl q.1))) _ _=_
   rw[b2m (T5 st.vers m i) (fun g=>V.ref (G'.vl g)) _ inn,hnx,aE8]
   refine aE5 fun r' _=>?_
   show _=((Sum.inr (if r'.1=qq.1 then(qq.1,swL qq.2 m) else r').1:Key),V.ref (if (if r'.1=qq.1 then(qq.1,swL qq.2 m) else r').1=qq.1 then r else G'.vl (if r'.1=qq.1 then(qq.1,swL qq.2 m) else r').1))
   by_cases c:r'.1=qq.1
   ·rw[aB4 c,aB4 c,aB4 rfl,c]
   ·rw[aA8 c,aA8 c,aA8 c])
  have lr:l≠r:=g6 hl4 nr
  refine⟨some (.str qq.1),some (.ref r),L6 G' qq.1 r,?_,h6,k4.trans k6,k6.keep _ _ fl4 hl4,by show(if l=r then _ else _)=_;rw[aA8 lr];exact fl4⟩
  have eg:a1f (st.vers.take (i+1)) m=a1f (st.vers.take i) m+(xs.length:Int)-((xs.drop (cnt qq.2 m-1)).length:Int):=by
   unfold a1f
   rw[aD3,hq,aG5,aB5,List.sum_append,aK3,List.sum_singleton]
   unfold swL
   rw[aH8,aH8,lx]
   omega
  rw[eg];rfl
 ·obtain⟨o4,o5,G',rfl,h4,k4,_,_⟩:=h
  have el:((st.vers.map (·.1)).map V.str).length=st.vers.length:=by rw[aA0,aA0]
  rw[el]at h4
  have es:T5 st.vers m st.vers.length=T9 st.vers m:=by unfold T5;simp
  rw[show({ st with vers:=T5 st.vers m st.vers.length }:j8)={ st with vers:=T9 st.vers m } by rw[es]] at h4
  refine⟨_,rfl,?_⟩
  rw[el,aD5]
  exact q G' Hc h4 k4
def O7(d:Dl)(e:Int)(r:Rec):Prop:=r.num=d.num∧r.beg=d.beg∧r.fin=e∧r.looked.Perm d.looked∧r.put.Perm (d.aside.map (·.1))∧X7 r.looked∧X7 r.put
def nums(st:j8):List Int:=st.recs.map (·.num)
structure C8(st:j8):Prop where
 un:(nums st++st.under.map (·.num)).Nodup
 row:a7q (nums st) st.links st.row
 mem:∀l,l∈st.links↔∃r∈st.recs,∃o∈st.recs,r.num≠o.num∧a7k r o l
 lt:∀n∈nums st++st.under.map (·.num),0≤n∧n<(st.begun:Int)
structure Bd(k:Nat)(st:j8):Prop where
 un:st.under.length≤k
 rc:st.recs.length≤k
 dl:∀d∈st.under,d.looked.length≤k∧d.aside.length≤k
 rs:∀r∈st.recs,r.put.length≤k∧r.looked.length≤k
 ve:st.vers.length≤k*k
 vl:∀q∈st.vers,q.2.length≤k*k
 ln:st.links.length≤600*(k*k)
def a1q(st:j8)(d:Dl)(r:Rec)(cs:List (List Lk))(row:List Int):j8:=
 ⟨st.begun,Q3 st.under d.num,C9 st.vers d.aside ((st.recs.length:Int)+1),st.recs++[r],st.links++cs.flatten,row⟩
structure a5N(st:j8)(d:Dl)(r:Rec)(cs:List (List Lk))(row:List Int):Prop where
 rc:O7 d ((st.recs.length:Int)+1) r
 lw:LWs r st.recs cs
 row:a7q (nums st++[d.num]) (st.links++cs.flatten) row
structure a5E(st:j8)(d:Dl)(r:Rec)(cs:List (List Lk))(rg:List Lk):Prop where
 rc:O7 d ((st.recs.length:Int)+1) r
 lw:LWs r st.recs cs
 ring:Ring rg
 sub:∀l∈rg,l∈st.links++cs.flatten
 hd:(rg.map (·.1))[0]?=some d.num
theorem b8x{ns:List Int}{ls rg:List Lk}{row:List Int}(R:a7q ns ls row)(G:Ring rg)(h:∀l∈rg,l∈ls):False:=by
 have uniq:∀(i j:Nat) (x:Int),row[i]?=some x→row[j]?=some x→i=j:=fun i j x hi hj=>(aF4 (aA2.mp hi).1 R.nd).mp (by rw[hi,hj])
 have lp:0<rg.length:=by
  cases hrg:rg with
  | nil=>exact absurd hrg G.ne
  | cons a b=>simp
 obtain⟨p0,q0,_,hp0,_⟩:=R.keeps _ (h _ (aF9 lp))
 have up:∀i,(hi:i<rg.length)→∃p,row[p]?=some (rg[i]).1∧p0+i≤p:=by
  intro i
  induction i with
  | zero=>intro hi;exact⟨p0,hp0,aB3 _⟩
  | succ i ih=>
   intro hi
   obtain⟨p,hp,lep⟩:=ih (by omega)
   obtain⟨a,b,hab,ha,hb⟩:=R.keeps _ (h _ (aF9 (show i<rg.length by omega)))
   have:a=p:=uniq a p _ ha hp
   subst this
   obtain⟨m,hm,e⟩:=G.next (i+1) _ (List.getElem?_eq_getElem hi)
   rw[aA8 (by omega),show i+1-1=i by omega,List.getElem?_eq_getElem (show i<rg.length by omega)]at hm
   rw[←aC0 hm]at e
   exact⟨b,by rw[e];exact hb,by omega⟩
 obtain⟨p,hp,lep⟩:=up (rg.length-1) (by omega)
 obtain⟨a,b,hab,ha,hb⟩:=R.keeps _ (h _ (aF9 (show rg.length-1<rg.length by omega)))
 have:a=p:=uniq a p _ ha hp
 subst this
 obtain⟨m,hm,e⟩:=G.next 0 _ (List.getElem?_eq_getElem lp)
 rw[aB4 rfl,List.getElem?_eq_getElem (show rg.length-1<rg.length by omega)]at hm
 rw[←aC0 hm]at e
 have:b=p0:=uniq b p0 _ hb (by rw[←e];exact hp0)
 omega
theorem Ring.turn{rg:List Lk}(h:Ring rg){j:Nat}(hj:j<rg.length):Ring (rg.drop j++rg.take j):=by
 have ld:(rg.drop j).length=rg.length-j:=aH8
 have lt:(rg.take j).length=j:=by rw[aD0];omega
 have ll:(rg.drop j++rg.take j).length=rg.length:=by rw[aA4,ld,lt];omega
 have at':∀i,i<rg.length→(rg.drop j++rg.take j)[i]?=rg[if i<rg.length-j then j+i else i-(rg.length-j)]?:=fun i hi=>by
  by_cases c:i<rg.length-j
  ·rw[aB4 c,aE0 (by rw[ld];exact c),aI7]
  ·rw[aA8 c,aF0 (by rw[ld];omega),ld,aH0 (by omega)]
 have pm:(rg.drop j++rg.take j).Perm rg:=(List.perm_append_comm).trans (by rw[aN8])
 refine⟨fun z=>?_,?_,fun i l hi=>?_⟩
 ·have e:rg.length=0:=by rw[←ll,z];rfl
  omega
 ·exact(pm.map (·.1)).nodup_iff.mpr h.nd
 ·have li:=(aA2.mp hi).1
  rw[ll]at li ⊢
  rw[at' i li]at hi
  obtain⟨m,hm,e⟩:=h.next _ l hi
  refine⟨m,?_,e⟩
  have lk:(if i=0 then rg.length-1 else i-1)<rg.length:=by split<;>omega
  rw[at' _ lk,←hm]
  congr 1
  split<;>split<;>split<;>split<;>omega
theorem LWs.mem{r:Rec}{rs:List Rec}{cs:List (List Lk)}(h:LWs r rs cs)(l:Lk):l∈cs.flatten↔∃o∈rs,a7k r o l∨a7k o r l:=by
 induction h with
 | nil=>simp
 | @cons o c rs cs z t ih=>
  obtain⟨l1,l2,rfl,b1,b2⟩:=z
  rw[aK6,aA9,aA9,b1.mem,b2.mem,ih]
  constructor
  ·rintro((a | a) | ⟨o',ho,a⟩)
   ·exact⟨o,aB9,.inl a⟩
   ·exact⟨o,aB9,.inr a⟩
   ·exact⟨o',aC1 _ ho,a⟩
  ·rintro⟨o',ho,a⟩
   rcases aB7.mp ho with rfl | ho
   ·exact .inl a
   ·exact .inr ⟨o',ho,a⟩
theorem a8O{st:j8}(ok:C8 st){d:Dl}{r:Rec}{cs:List (List Lk)}{rg:List Lk}(hr:r.num=d.num)(lw:LWs r st.recs cs)(G:Ring rg)(sub:∀l∈rg,l∈st.links++cs.flatten):d.num∈rg.map (·.1):=by
 refine aI3 fun z=>b8x ok.row G fun l hl=>?_
 rcases aA9.mp (sub l hl) with h | h
 ·exact h
 ·exfalso
  obtain⟨o,ho,a | a⟩:=(lw.mem l).mp h
  ·exact z (aA5.mpr ⟨l,hl,by rw[a.1,hr]⟩)
  ·
   obtain⟨i,hi⟩:=aD9.mp hl
   have li:=(aA2.mp hi).1
   have key:∀(k:Nat) m,rg[k]?=some m→(if k=0 then rg.length-1 else k-1)=i→d.num=m.1:=fun k m hk e=>by
    obtain⟨m',hm',e'⟩:=G.next k m hk
    rw[e,hi]at hm'
    cases hm'
    rw[e',a.2.1,hr]
   by_cases c:i+1=rg.length
   ·have h0:0<rg.length:=by omega
    exact z (aA5.mpr ⟨rg[0],aF9 h0,(key 0 _ (List.getElem?_eq_getElem h0) (by rw[aB4 rfl];omega)).symm⟩)
   ·have h1:i+1<rg.length:=by omega
    exact z (aA5.mpr ⟨rg[i+1],aF9 h1,(key (i+1) _ (List.getElem?_eq_getElem h1) (by rw[aA8 (by omega)];omega)).symm⟩)
theorem b3y{st:j8}(ok:C8 st){n:Int}{r:Rec}{cs:List (List Lk)}(hr:r.num=n)(lw:LWs r st.recs cs):∀l∈st.links++cs.flatten,l.1∈nums st++[n]∧l.2.1∈nums st++[n]:=fun l hl=>by
 have inn:∀o∈st.recs,o.num∈nums st++[n]:=fun o ho=>aE3 _ (aA5.mpr ⟨o,ho,rfl⟩)
 have me:r.num∈nums st++[n]:=by rw[hr];simp
 rcases aA9.mp hl with h | h
 ·obtain⟨a,ha,b,hb,_,e⟩:=(ok.mem l).mp h
  exact⟨by rw[e.1];exact inn a ha,by rw[e.2.1];exact inn b hb⟩
 ·obtain⟨o,ho,e | e⟩:=(lw.mem l).mp h
  ·exact⟨by rw[e.1];exact me,by rw[e.2.1];exact inn o ho⟩
  ·exact⟨by rw[e.1];exact inn o ho,by rw[e.2.1];exact me⟩
section
variable{CT CD p:Addr}{G:Gh}{H:Hp}{st:j8}
def X2(G:Gh)(as:List Addr):Gh:={ G with rl:=fun b=>if b∈as then .fz else G.rl b }
theorem TA.fz(h:TA CT CD G H p st){as:List Addr}(ha:∀a∈as,G.rl a=.free∧∃o,H a=some o):TA CT CD (X2 G as) H p st:=
 h.gh (fun b ρ e n=>by
  show(if b∈as then _ else _)=_
  rw[aA8 fun z=>n (by rw[←e,(ha b z).1])];exact e) (fun b e=>by
  show(if b∈as then _ else _)=_
  rw[aA8 fun z=>by obtain⟨_,o,w⟩:=ha b z;rw[e]at w;cases w]
  exact h.cl b e) rfl rfl rfl rfl rfl rfl (fun _ _=>⟨rfl,rfl,rfl,rfl⟩) fun _ _=>rfl
theorem a4s{as:List Addr}{a:Addr}(h:a∈as):(X2 G as).rl a=.fz:=aB4 h
theorem TA.addR(h:TA CT CD G H p st){r:Rec}{x:V}{xs:List V}(hR:H G.R=some (.lst xs))(hx:RcAt G.rl H r x):TA CT CD G (upd H G.R (.lst (xs++[x]))) p { st with recs:=st.recs++[r] }∧Kp G H G (upd H G.R (.lst (xs++[x]))):=by
 have t:u5 H (upd H G.R (.lst (xs++[x]))):=n4 hR
 obtain⟨ys,h1,h2⟩:=h.rc
 rw[hR]at h1;cases h1
 refine⟨⟨d9 h.ob h.r0 h.r3 (by simp),d9 h.un h.r1 h.r3 (by simp),d9 h.ve h.r2 h.r3 (by simp),⟨_,b6,aK0 (Paired.mapP h2 fun _ _ z=>z.upd h.r3 (by simp) t) (hx.upd h.r3 (by simp) t)⟩,?_,d9 h.rw h.r5 h.r3 (by simp),fun e he=>?_,fun q hq=>?_,h.r0,h.r1,h.r2,h.r3,h.r4,h.r5,h.nd,h.vd,fun b e=>h.cl b (v3 e)⟩,Kp.upd (by rw[h.r3];simp) t⟩
 ·obtain⟨zs,z1,z2⟩:=h.ln
  exact⟨zs,d9 z1 h.r4 h.r3 (by simp),z2.tupK t⟩
 ·have E:=h.dl e he
  exact⟨d9 E.ob E.r1 h.r3 (by simp),d9 E.lk E.r2 h.r3 (by simp),d9 E.as E.r3 h.r3 (by simp),E.r1,E.r2,E.r3⟩
 ·obtain⟨zs,z1,z2,z3⟩:=h.vl q hq
  exact⟨zs,d9 z1 z3 h.r3 (by simp),C5 t z2,z3⟩
end
inductive a2M(t:E1)(K:PySem.W.Frag)(vs:List V)(H:Hp)(Q:VK):Prop
 | mk (G:Gh) (p:Addr) (st:j8) (d:Dl) (x0:vs=[.ref p,.int d.num]) (x1:TA t.C_Tally t.C_Dealing G H p st) (x2:d∈st.under) (x3:C8 st) (x4:Bd 63 st) (x5:(∀r cs row,a5N st d r cs row→∀(l:Addr) (G':Gh) (H':Hp),TA t.C_Tally t.C_Dealing G' H' p (a1q st d r cs row)→Kp G H G' H'→H' l=some (.lst [])→G'.rl l=.free→H l=none→Q (.ref l) H')) (xq:∀r cs rg,a5E st d r cs rg→∀(l:Addr) (zs:List V) (G':Gh) (H':Hp),TA t.C_Tally t.C_Dealing G' H' p (G4 st d.num)→Kp G H G' H'→H' l=some (.lst zs)→A8 H' rg zs→G'.rl l=.free→H l=none→Q (.ref l) H')
def a8Q(t:E1)(K:PySem.W.Frag):Sp:=fun vs H Q _=>a2M t K vs H Q
theorem a7T(T:B6 K mg t):g9 P w K mg base A3 4 t.f_Tally_end t.d_Tally_end ["self","number"] (a8Q t K):=by
 refine T.F_Tally_end.ok Q4 (fun vs H Q E h=>?_) (fun cdv A outer s H vs Q E hr h=>?_)
 ·obtain⟨G,p,st,d,rfl,_⟩:=h
  rfl
 obtain⟨G,p,st,d,rfl,h,hd,ok,bd,q1,q2⟩:=h
 have hu:=O0 hr
 refine⟨_,(b9 (g8 (i:=2) Q4.nd rfl (Or.inl rfl) (a1l (v5 (pv 0) rfl) (pv 1) ⟨rfl,rfl,rfl,rfl⟩))
 (b9 (g8 (i:=3) Q4.nd rfl (Or.inl rfl) (a6c (pv 2) T.cl_Dealing T.M_Dealing_record (g9.mono (k:=3) (a0t T) (by decide)) hr T.F_Dealing_record.b .nil k8 (b0 (j5 K1 (Q6 (pv 0) T.cl_Tally T.M_Tally_moment (g9.mono (k:=3) (N0 T) (by decide)) hr T.F_Tally_moment.b .nil k8) d5) b7)))
 (b9 (g8 (i:=4) Q4.nd rfl (Or.inl rfl) (j5 Q9 (v5 (pv 0) rfl) (k7 (g9.mono (k:=3) (a8L T) (by decide)) hr rfl T.m_links_with T.F_links_with.kp T.F_links_with.b .nil k8 (b0 (pv 3) (b0 (v5 (pv 0) rfl) b7)))))
 (b9 (g8 (i:=5) Q4.nd rfl (Or.inl rfl) (k7 (g9.mono (k:=3) (a8F T) (by decide)) hr rfl T.m_row_or_ring T.F_row_or_ring.kp T.F_row_or_ring.b .nil k8 (b0 (j5 Q9 (R9 rfl (u6 (v5 (pv 0) rfl)) (K2.mk (own:=["ended"]) (tl:=["self","number","dealing","record","links","found"]) rfl rfl rfl (fun _ _ _ _ _=>(l6 (i:=0) (a9H) rfl (Or.inl rfl))) (fun _ _ _ _ _=>a3c) (fun _ _ _ _ _=>(d7 T3 (pv 0) (y9 rfl T.m_NUMBER T.r_NUMBER) (fun _ _=>rfl))))) (m6 (b0 (pv 1) b7))) (b0 (pv 4) b7))))
 (b9 (l4 (g7 A9 (d7 f6 (pv 5) d5 (fun _ _=>rfl)) i8 (i7 _))
 (d6 (i4 (k7 (g9.mono (k:=3) (b8k T) (by decide)) hr rfl T.m_turned T.F_turned.kp T.F_turned.b .nil k8 (b0 (d7 f6 (pv 5) d5 (fun _ _=>rfl)) (b0 (pv 1) b7)))))
 j4)
 (b9 (m8 (v9 aB0 aB6 aB8 n6 (v5 (pv 0) rfl) (b0 (pv 3) b7)))
 (b9 (O4 (pv 0) (pv 4) rfl)
 (b9 (O4 (pv 0) (d7 f6 (pv 5) d5 (fun _ _=>rfl)) rfl)
 (b9 (m8 (a6c (pv 0) T.cl_Tally T.M_Tally_take_over (g9.mono (k:=3) (a6p T) (by decide)) hr T.F_Tally_take_over.b .nil k8 (b0 (v5 (pv 2) rfl) b7)))
 (d6 (i4 (m6 b7)))))))))))),?_⟩
 have D:=h.dl d hd
 refine⟨_,rfl,p,_,_,_,_,rfl,h.ob,T.cl_Tally,T.n_Tally_under_way,rfl,G.U,rfl,.inl ⟨_,.inl h.un⟩,_,rfl,_,Sum.inl d.num,.ref (G.dp d.num),h.un,rfl,?_,?_⟩
 ·rw[u3,aB4 (aA5.mpr ⟨d,hd,rfl⟩)]
 obtain⟨h1,k1⟩:=h.drop d.num
 have d1:=d9 (o:=.dK (J6 (m7 (st.under.map (·.num)) fun n=>.ref (G.dp n)) (Sum.inl d.num))) D.ob D.r1 h.r1 (by simp)
 have d2:=d9 (o:=.dK (J6 (m7 (st.under.map (·.num)) fun n=>.ref (G.dp n)) (Sum.inl d.num))) D.lk D.r2 h.r1 (by simp)
 have d3:=d9 (o:=.dK (J6 (m7 (st.under.map (·.num)) fun n=>.ref (G.dp n)) (Sum.inl d.num))) D.as D.r3 h.r1 (by simp)
 generalize upd H G.U (.dK (J6 (m7 (st.under.map (·.num)) fun n=>.ref (G.dp n)) (Sum.inl d.num)))=H1 at h1 k1 d1 d2 d3 ⊢
 obtain⟨xr,hR,pR⟩:=h1.rc
 have lR:xr.length=st.recs.length:=p6 pR
 obtain⟨bl1,bl2⟩:=bd.dl d hd
 refine⟨_,rfl,G.dp d.num,_,_,rfl,d1,rfl,_,rfl,p,_,_,rfl,h1.ob,rfl,p,_,_,_,_,_,_,_,xr,rfl,h1.ob,hR,_,_,rfl,rfl,G.dp d.num,_,G.lk d.num,G.as d.num,d.num,d.beg,_,d.looked,d.aside,rfl,d1,d2,d3,bl1,bl2,fun rc la pa ys zs H2 s2 nla npa nlp hrc hla hpa py pz sy sz=>?_⟩
 let r:Rec:=⟨d.num,d.beg,(xr.length:Int)+1,ys,zs⟩
 have isr:O7 d ((st.recs.length:Int)+1) r:=⟨rfl,rfl,by show(xr.length:Int)+1=_;rw[lR],py,pz,sy,sz⟩
 have rcAt:RecAt K H2 r (.ref rc):=⟨rc,la,pa,rfl,i3.of hrc,d8.of hla,d8.of hpa⟩
 have lys:ys.length≤63:=by rw[py.length_eq];exact bl1
 have lzs:zs.length≤63:=by rw[pz.length_eq,aA0];exact bl2
 have h2:=h1.same s2
 obtain⟨xl,hL,pL⟩:=h2.ln
 refine⟨_,rfl,p,_,_,_,_,rfl,h2.ob,T.cl_Tally,T.n_Tally_links,rfl,_,rfl,_,rfl,p,_,_,_,_,rfl,h2.ob,T.cl_Tally,T.n_Tally_records,rfl,r,.ref rc,G.R,st.recs,xr,rfl,rcAt,d8.of (s2 _ _ hR),a9x (Paired.mapP pR fun _ _ z=>z.same s2),aD7 bd.rc (by decide),?_,fun lw yw cs H3 s3 nlw hlw L3 W=>?_⟩
 ·intro o ho
  rcases aB7.mp ho with e | ho
  ·rw[e];exact⟨lzs,lys⟩
  ·exact bd.rs o ho
 have h3:=h2.same s3
 have lcs:cs.flatten.length≤600*st.recs.length:=a4H W fun o ho=>by
  rcases aB7.mp ho with e | ho
  ·rw[e];exact⟨lzs,lys⟩
  ·exact bd.rs o ho
 have bln:=bd.ln
 have brc:=bd.rc
 refine⟨G.L,lw,xl,yw,rfl,rfl,s3 _ _ hL,hlw,?_,fun ln hln=>?_⟩
 ·rw[pL.len,L3.len,aG2];show st.links.length+_≤_;omega
 have s4:=b8 (o:=.lst (xl++yw)) hln
 have L4:A8 (upd H3 ln (.lst (xl++yw))) (st.links++cs.flatten) (xl++yw):=(A8.append L3 (pL.tupK s3.tupK)).tupK s4.tupK
 have hl4:(upd H3 ln (.lst (xl++yw))) ln=some (.lst (xl++yw)):=b6
 generalize upd H3 ln (.lst (xl++yw))=H4 at s4 L4 hl4 ⊢
 have s14:=(s2.trans s3).trans s4
 have h4:=h1.same s14
 refine⟨_,rfl,p,_,_,_,_,rfl,h4.ob,T.cl_Tally,T.n_Tally_records,rfl,G.R,rfl,⟨_,d8.of (s14 _ _ hR)⟩,fun acc hacc=>?_⟩
 refine J3 (xs:=xr) (fun i Hc=>f7 H4 Hc∧Hc acc=some (.lst (((st.recs.take i).map (·.num)).map V.int))) ⟨b8 hacc,b6⟩ (fun i Hc _ z=>d8.of (z.1 _ _ (s14 _ _ hR))) (fun i x Hc hx z=>?_) (fun H5 z=>?_)
 ·obtain⟨sc,a1⟩:=z
  obtain⟨o,ho,b,la',pa',rfl,hb,_⟩:=C2 pR hx
  have li:=(aA2.mp ho).1
  refine⟨_,rfl,b,_,0,_,rfl,rfl,i3.of (sc _ _ (s14 _ _ hb)),rfl,_,a1,r9 (by rw[aA0,aA0,aD0];omega),l7 sc hacc,?_⟩
  rw[b6,aD3,ho,aG5,aB5,aB5];rfl
 obtain⟨s5,a5⟩:=z
 rw[lR,aD5]at a5
 refine⟨_,rfl,(l8 1),fun e1 he1=>?_⟩
 have s6:=b8 (o:=.lst [.int d.num]) he1
 refine⟨acc,e1,_,_,rfl,rfl,s6 _ _ a5,b6,?_,fun nb hnb=>?_⟩
 ·rw[aA0,aA0,aG2];simp;omega
 have s7:=b8 (o:=.lst (((st.recs.map (·.num)).map V.int)++[.int d.num])) hnb
 have en:((st.recs.map (·.num)).map V.int)++[.int d.num]=(nums st++[d.num]).map V.int:=by rw[aB5];rfl
 rw[en]at s7 ⊢
 have hn7:(upd (upd H5 e1 (.lst [.int d.num])) nb (.lst ((nums st++[d.num]).map V.int))) nb=some (.lst ((nums st++[d.num]).map V.int)):=b6
 have s47:f7 H4 (upd (upd H5 e1 (.lst [.int d.num])) nb (.lst ((nums st++[d.num]).map V.int))):=(s5.trans s6).trans s7
 generalize upd (upd H5 e1 (.lst [.int d.num])) nb (.lst ((nums st++[d.num]).map V.int))=H7 at hn7 s47 ⊢
 have ndn:(nums st++[d.num]).Nodup:=by
  have:=ok.un
  rw[aD4]at this ⊢
  refine⟨this.1,by simp,fun x hx y hy e=>?_⟩
  have:y=d.num:=by simpa using hy
  exact ok.un |> aD4.mp |>.2.2 x hx d.num (aA5.mpr ⟨d,hd,rfl⟩) (by rw[e,this])
 have ein:=b3y ok (r:=r) (n:=d.num) rfl W
 have s17:=s14.trans s47
 refine⟨_,rfl,nb,ln,nums st++[d.num],st.links++cs.flatten,xl++yw,rfl,d8.of hn7,ndn,d8.of (s47 _ _ hl4),L4.tupK s47.tupK,ein,?_,?_,fun f rw row H8 s8 nrw hf hrw R=>?_,fun f rn zr rg H8 s8 _ hf hrn Lr RG sub=>?_⟩
 ·show((st.recs.map (·.num))++[d.num]).length≤_
  rw[aA4,aA0];simp;omega
 ·rw[aA4];omega
 ·
  have s18:=s17.trans s8
  have s28:f7 H2 H8:=((s3.trans s4).trans s47).trans s8
  have h8:=h1.same s18
  refine⟨_,rfl,f,_,0,_,rfl,rfl,i3.of hf,rfl,rfl,_,rfl,e9 ?_⟩
  have fla:=h1.cl la nla
  have fpa:=h1.cl pa npa
  have nln1:H1 ln=none:=j7 (s2.trans s3) hln
  have fln:=h1.cl ln nln1
  have frw:=h1.cl rw (j7 s17 nrw)
  have hF:=h8.fz (as:=[la,pa,ln,rw]) (fun a ha=>by
   simp only[aB7,aF7,aL4]at ha
   rcases ha with rfl | rfl | rfl | rfl
   ·exact⟨fla,_,s28 _ _ hla⟩
   ·exact⟨fpa,_,s28 _ _ hpa⟩
   ·exact⟨fln,_,s8 _ _ (s47 _ _ hl4)⟩
   ·exact⟨frw,_,hrw⟩)
  have rcF:RcAt (X2 G [la,pa,ln,rw]).rl H8 r (.ref rc):=⟨rc,la,pa,rfl,s28 _ _ hrc,s28 _ _ hla,s28 _ _ hpa,a4s (by simp),a4s (by simp)⟩
  have hR8:H8 G.R=some (.lst xr):=s18 _ _ hR
  obtain⟨h9',k9'⟩:=hF.addR (xs:=xr) hR8 rcF
  have h9:TA t.C_Tally t.C_Dealing (X2 G [la,pa,ln,rw]) (upd H8 G.R (.lst (xr++[.ref rc]))) p { G4 st d.num with recs:=st.recs++[r] }:=h9'
  have k9:Kp (X2 G [la,pa,ln,rw]) H8 (X2 G [la,pa,ln,rw]) (upd H8 G.R (.lst (xr++[.ref rc]))):=k9'
  clear h9' k9'
  refine⟨_,rfl,p,_,_,_,_,rfl,h8.ob,T.cl_Tally,T.n_Tally_records,rfl,.inl ⟨rfl,_,d8.of hR8⟩,_,rfl,G.R,xr,_,rfl,rfl,hR8,r9 (by omega),?_⟩
  have rR:(X2 G [la,pa,ln,rw]).rl G.R=.recs:=hF.r3
  have l9:(upd H8 G.R (.lst (xr++[.ref rc]))) ln=some (.lst (xl++yw)):=d9 (s8 _ _ (s47 _ _ hl4)) (a4s (G:=G) (as:=[la,pa,ln,rw]) (by simp)) rR (by simp)
  have w9:(upd H8 G.R (.lst (xr++[.ref rc]))) rw=some (.lst (row.map V.int)):=d9 hrw (a4s (G:=G) (as:=[la,pa,ln,rw]) (by simp)) rR (by simp)
  have f9:=k9.tup.1 _ _ hf
  have rS:(X2 G [la,pa,ln,rw]).rl (G.as d.num)=.side d.num:=by
   show(if G.as d.num∈_ then _ else _)=_
   rw[aA8,D.r3]
   intro z
   have fr:G.rl (G.as d.num)=.free:=by
    simp only[aB7,aF7,aL4]at z
    rcases z with z | z | z | z<;>rw[z]<;>assumption
   rw[D.r3]at fr;cases fr
  have rD:(X2 G [la,pa,ln,rw]).rl (G.dp d.num)=.deal d.num:=by
   show(if G.dp d.num∈_ then _ else _)=_
   rw[aA8,D.r1]
   intro z
   have fr:G.rl (G.dp d.num)=.free:=by
    simp only[aB7,aF7,aL4]at z
    rcases z with z | z | z | z<;>rw[z]<;>assumption
   rw[D.r1]at fr;cases fr
  have s9as:(upd H8 G.R (.lst (xr++[.ref rc]))) (G.as d.num)=some (.dK (L5 d.aside)):=d9 (s18 _ _ d3) rS rR (by simp)
  have s9dp:(upd H8 G.R (.lst (xr++[.ref rc]))) (G.dp d.num)=some (.ins t.C_Dealing (G.dd d.num) (a6b d.num d.beg (G.lk d.num) (G.as d.num))):=d9 (s18 _ _ d1) rD rR (by simp)
  have L9:A8 (upd H8 G.R (.lst (xr++[.ref rc]))) (st.links++cs.flatten) (xl++yw):=((L4.tupK s47.tupK).tupK s8.tupK).tupK k9.tup
  generalize upd H8 G.R (.lst (xr++[.ref rc]))=H9 at h9 k9 l9 w9 f9 s9as s9dp L9 ⊢
  have ob9:H9 p=some (.ins t.C_Tally G.dx (J5 (st.begun:Int) G.U G.Vd G.R G.L G.W)):=h9.ob
  refine⟨_,rfl,_,rfl,p,_,_,_,rfl,ob9,T.cl_Tally,T.n_Tally_links,(by show 6<1000;decide),?_⟩
  have f10:=(a6R (o:=.ins t.C_Tally G.dx (O5 "links" (.ref ln) (J5 (st.begun:Int) G.U G.Vd G.R G.L G.W))) ob9).1 _ _ f9
  refine⟨_,rfl,f,_,1,_,rfl,rfl,i3.of f10,rfl,_,rfl,p,_,_,_,rfl,b6,T.cl_Tally,T.n_Tally_row,(by show 6<1000;decide),?_⟩
  rw[a1Y]
  have e10:O5 "row" (.ref rw) (O5 "links" (.ref ln) (J5 (st.begun:Int) G.U G.Vd G.R G.L G.W))=J5 (st.begun:Int) G.U G.Vd G.R ln rw:=rfl
  obtain⟨h10,k10⟩:=h9.setObj (b:=st.begun) (L:=ln) (W:=rw) (ls:=st.links++cs.flatten) (row:=row) ⟨_,l9,L9⟩ w9 (a4s (by simp)) (a4s (by simp))
  have a10:(upd H9 p (.ins t.C_Tally (X2 G [la,pa,ln,rw]).dx (J5 (st.begun:Int) G.U G.Vd G.R ln rw))) (G.as d.num)=some (.dK (L5 d.aside)):=d9 (G:=X2 G [la,pa,ln,rw]) s9as rS h9.r0 (by simp)
  have p10:(upd H9 p (.ins t.C_Tally (X2 G [la,pa,ln,rw]).dx (J5 (st.begun:Int) G.U G.Vd G.R ln rw))) (G.dp d.num)=some (.ins t.C_Dealing (G.dd d.num) (a6b d.num d.beg (G.lk d.num) (G.as d.num))):=d9 (G:=X2 G [la,pa,ln,rw]) s9dp rD h9.r0 (by simp)
  have h10:TA t.C_Tally t.C_Dealing { X2 G [la,pa,ln,rw] with L:=ln,W:=rw } (upd H9 p (.ins t.C_Tally G.dx (J5 (st.begun:Int) G.U G.Vd G.R ln rw))) p { G4 st d.num with recs:=st.recs++[r],links:=st.links++cs.flatten,row:=row }:=h10
  have k10:Kp (X2 G [la,pa,ln,rw]) H9 { X2 G [la,pa,ln,rw] with L:=ln,W:=rw } (upd H9 p (.ins t.C_Tally G.dx (J5 (st.begun:Int) G.U G.Vd G.R ln rw))):=k10
  have a10:(upd H9 p (.ins t.C_Tally G.dx (J5 (st.begun:Int) G.U G.Vd G.R ln rw))) (G.as d.num)=some (.dK (L5 d.aside)):=a10
  have p10:(upd H9 p (.ins t.C_Tally G.dx (J5 (st.begun:Int) G.U G.Vd G.R ln rw))) (G.dp d.num)=some (.ins t.C_Dealing (G.dd d.num) (a6b d.num d.beg (G.lk d.num) (G.as d.num))):=p10
  have kk:Kp G H (X2 G [la,pa,ln,rw]) H8:=by
   refine⟨fun b o f e=>s18 _ _ (k1.keep b o f e),k1.tup.trans s18.tupK,fun b o f e=>?_,fun b e=>k1.dom b (j7 s18 e)⟩
   have e1:=k1.keep b o f e
   show(if b∈_ then _ else _)=_
   rw[aA8]
   ·exact f
   ·intro z
    simp only[aB7,aF7,aL4]at z
    rcases z with z | z | z | z
    ·rw[z,nla]at e1;cases e1
    ·rw[z,npa]at e1;cases e1
    ·rw[z,nln1]at e1;cases e1
    ·rw[z,j7 s17 nrw]at e1;cases e1
  rw[e10]
  generalize upd H9 p (.ins t.C_Tally G.dx (J5 (st.begun:Int) G.U G.Vd G.R ln rw))=HA at h10 k10 a10 p10 ⊢
  have nn:∀e∈Q3 st.under d.num,e.num≠d.num:=fun e he=>by simpa using (aD2.mp he).2
  refine⟨_,rfl,p,_,_,rfl,h10.ob,rfl,_,rfl,G.dp d.num,_,_,_,_,rfl,p10,T.cl_Dealing,T.n_Dealing_aside,rfl,{ X2 G [la,pa,ln,rw] with L:=ln,W:=rw },p,G.as d.num,_,d.num,d.aside,rfl,h10,a10,rS,nn,aD7 bl2 (by decide),aD7 bd.ve (by decide),(fun q hq=>aD7 (bd.vl q hq) (by decide)),fun GB HB hB kB=>?_⟩
  refine⟨(l8 0),fun l hl=>?_⟩
  have sB:=b8 (o:=.lst []) hl
  have eB:({ G4 st d.num with recs:=st.recs++[r],links:=st.links++cs.flatten,row:=row,vers:=C9 st.vers d.aside ((st.recs++[r]).length:Int) }:j8)=a1q st d r cs row:=by
   unfold a1q G4
   rw[show(((st.recs++[r]).length:Nat):Int)=(st.recs.length:Int)+1 by rw[aA4,aE6];omega]
  have hB:TA t.C_Tally t.C_Dealing GB HB p (a1q st d r cs row):=by rw[←eB];exact hB
  exact q1 r cs row ⟨isr,W,R⟩ l GB _ (hB.same sB) (((kk.trans k9).trans k10).trans (kB.trans (Kp.same (G:=GB) sB))) b6 (hB.cl l hl) ((((kk.trans k9).trans k10).trans kB).dom l hl)
 ·
  have s18:=s17.trans s8
  have h8:=h1.same s18
  refine⟨_,rfl,f,_,0,_,rfl,rfl,i3.of hf,rfl,rfl,_,rfl,m9 ?_⟩
  obtain⟨j,hj,hjf⟩:=a0j (a8O ok (d:=d) (r:=r) rfl W RG sub)
  have lj:=(aA2.mp hj).1
  rw[aA0]at lj
  have lrg:rg.length≤(nums st++[d.num]).length:=by
   have:=A4 (m:=nums st++[d.num]) RG.nd fun x hx=>by
    obtain⟨l,hl,e⟩:=aA5.mp hx
    rw[←e];exact(ein l (sub l hl)).1
   rwa [aA0] at this
  have lnn:(nums st++[d.num]).length≤101:=by
   show((st.recs.map (·.num))++[d.num]).length≤_
   rw[aA4,aA0];simp;omega
  refine⟨_,rfl,f,_,1,_,rfl,rfl,i3.of hf,rfl,_,rfl,rn,d.num,zr,rg,j,rfl,hrn,Lr,by omega,hj,hjf,fun l H9 s9 nl hl9=>?_⟩
  have h9:=h8.same s9
  refine q2 r cs (rg.drop j++rg.take j) ⟨isr,W,RG.turn lj,fun x hx=>sub x ?_,?_⟩ l _ G H9 h9 (k1.trans (Kp.same (G:=G) (s18.trans s9))) hl9 ?_ (h8.cl l nl) (k1.dom l (j7 s18 nl))
  ·rcases aA9.mp hx with hx | hx
   ·exact aS1 hx
   ·exact aM5 hx
  ·rw[aB5,List.map_drop,aE0 (by rw[aH8,aA0];omega),aI7];simpa using hj
  ·have tk:∀(n:Nat) {ls:List Lk} {xs:List V},A8 H8 ls xs→A8 H8 (ls.take n) (xs.take n):=by
    intro n
    induction n with
    | zero=>intro ls xs _;exact .nil
    | succ n ih=>intro ls xs z;cases z with
     | nil=>exact .nil
     | cons a b=>exact .cons a (ih b)
   exact(A8.append (tk j Lr) (Lr.drop j)).tupK s9.tupK
def M6(g:Str):Prop:=PyData.strOk g=true∧g.length≤200
inductive i9 where
 | begin
 | look (n:Int) (g:Str)
 | put (n:Int) (g:Str) (a:Int)
 | fin (n:Int)
 | leave (n:Int)
 | sweep
def dv:i9→List V
 | .begin=>[.str "begin"]
 | .look n g=>[.str "look",.int n,.str g]
 | .put n g a=>[.str "put",.int n,.str g,.int a]
 | .fin n=>[.str "end",.int n]
 | .leave n=>[.str "leave",.int n]
 | .sweep=>[.str "sweep"]
def O2:i9→Prop
 | .look _ g=>M6 g
 | .put _ g _=>M6 g
 | _=>True
def a5o(H:Hp)(d:i9)(x:V):Prop:=∃p,x=.ref p∧H p=some (.tup (dv d))
def u4(H:Hp)(ds:List i9)(xs:List V):Prop:=Paired (a5o H) ds xs
theorem u4.tupK{H H':Hp}(k:u5 H H'):∀{ds:List i9} {xs:List V},u4 H ds xs→u4 H' ds xs
 | _,_,.nil=>.nil
 | _,_,.cons ⟨p,e,h⟩ t=>.cons ⟨p,e,k.1 _ _ h⟩ (u4.tupK k t)
theorem u4.snoc{H:Hp}{d:i9}{x:V}(h:a5o H d x):∀{ds:List i9} {xs:List V},u4 H ds xs→u4 H (ds++[d]) (xs++[x])
 | _,_,.nil=>.cons h .nil
 | _,_,.cons a t=>.cons a (u4.snoc h t)
theorem u4.len{H:Hp}{ds:List i9}{xs:List V}(h:u4 H ds xs):xs.length=ds.length:=by
 induction h with
 | nil=>rfl
 | cons _ _ ih=>simp[ih]
inductive u7 where
 | num (i:Int)
 | word (x:Str)
 | non
 | ring (rg:List Lk)
def numOf:i9→Option Int
 | .look n _=>some n
 | .put n _ _=>some n
 | .fin n=>some n
 | .leave n=>some n
 | _=>none
inductive Step:j8→i9→u7→j8→Prop
 | begin {st:j8}:Step st .begin (.num (st.begun:Int)) (a9B st)
 | sweep {st:j8} {m:Int}:a5P st m→Step st .sweep (.num (a1f st.vers m)) { st with vers:=T9 st.vers m }
 | none {st:j8} {d:i9} {n:Int}:numOf d=some n→n∉st.under.map (·.num)→Step st d .non st
 | own {st:j8} {d:Dl} {g:Str} {a:Int}:d∈st.under→n9 d.aside g=some a→Step st (.look d.num g) (.num a) st
 | look {st:j8} {d:Dl} {g:Str}:d∈st.under→n9 d.aside g=none→Step st (.look d.num g) (.num (valueAt (B8 st.vers g) d.beg)) (b7c st d.num g)
 | put {st:j8} {d:Dl} {g:Str} {a:Int}:d∈st.under→Step st (.put d.num g a) (.word "put") (putSt st d.num g a)
 | leave {st:j8} {d:Dl}:d∈st.under→Step st (.leave d.num) (.word "left") (G4 st d.num)
 | ended {st:j8} {d:Dl} {r:Rec} {cs:List (List Lk)} {row:List Int}:d∈st.under→a5N st d r cs row→Step st (.fin d.num) (.word "ended") (a1q st d r cs row)
 | ring {st:j8} {d:Dl} {r:Rec} {cs:List (List Lk)} {rg:List Lk}:d∈st.under→a5E st d r cs rg→Step st (.fin d.num) (.ring rg) (G4 st d.num)
inductive Run(s0:j8):List i9→List u7→j8→Prop
 | nil:Run s0 [] [] s0
 | snoc {ds:List i9} {as:List u7} {st st':j8} {d:i9} {a:u7}:Run s0 ds as st→Step st d a st'→Run s0 (ds++[d]) (as++[a]) st'
theorem J9{ds:List Dl}{n:Int}{f:Dl→Dl}{d:Dl}(h:d∈F6 ds n f):∃e∈ds,d=e∨d=f e:=by
 obtain⟨e,he,rfl⟩:=aA5.mp h
 refine⟨e,he,?_⟩
 split
 ·exact .inr rfl
 ·exact .inl rfl
theorem b2g{α:Type}[DecidableEq α]{a b b':List α}(h:(a++b).Nodup)(s:b'.Sublist b):(a++b').Nodup:=h.sublist ((List.Sublist.refl a).append s)
theorem a4Y{st st':j8}{d:i9}{a:u7}(h:C8 st)(s:Step st d a st'):C8 st':=by
 have leave:∀n,C8 (G4 st n):=fun n=>by
  have sb:((Q3 st.under n).map (·.num)).Sublist (st.under.map (·.num)):=by unfold Q3;exact(List.filter_sublist).map _
  exact⟨b2g h.un sb,h.row,h.mem,fun m hm=>h.lt m (by
   rcases aA9.mp hm with z | z
   ·exact aE3 _ z
   ·exact aE2 _ (sb.subset z))⟩
 cases s with
 | begin=>
  refine⟨?_,h.row,h.mem,fun n hn=>?_⟩
  ·show(nums st++(st.under++([⟨(st.begun:Int),(st.recs.length:Int),[],[]⟩]:List Dl)).map (·.num)).Nodup
   rw[aB5,←aG0,aD4]
   refine⟨h.un,by simp,fun x hx y hy e=>?_⟩
   have:y=(st.begun:Int):=by simpa using hy
   have:=h.lt x hx
   omega
  ·have hn:n∈nums st++(st.under++([⟨(st.begun:Int),(st.recs.length:Int),[],[]⟩]:List Dl)).map (·.num):=hn
   rw[aB5,←aG0]at hn
   show 0≤n∧n<((st.begun+1:Nat):Int)
   rcases aA9.mp hn with hn | hn
   ·have:=h.lt n hn;omega
   ·have:n=(st.begun:Int):=by simpa using hn
    omega
 | sweep _=>exact⟨h.un,h.row,h.mem,h.lt⟩
 | none _ _=>exact h
 | own _ _=>exact h
 | @look d g _ _=>
  have e:(F6 st.under d.num (V0 g)).map (·.num)=st.under.map (·.num):=P5 fun _=>rfl
  exact⟨by show(nums st++(F6 st.under d.num (V0 g)).map (·.num)).Nodup;rw[e];exact h.un,h.row,h.mem,fun n hn=>h.lt n (by have hn:n∈nums st++(F6 st.under d.num (V0 g)).map (·.num):=hn;rw[e]at hn;exact hn)⟩
 | @put d g a _=>
  have e:(F6 st.under d.num (U6 g a)).map (·.num)=st.under.map (·.num):=P5 fun _=>rfl
  exact⟨by show(nums st++(F6 st.under d.num (U6 g a)).map (·.num)).Nodup;rw[e];exact h.un,h.row,h.mem,fun n hn=>h.lt n (by have hn:n∈nums st++(F6 st.under d.num (U6 g a)).map (·.num):=hn;rw[e]at hn;exact hn)⟩
 | leave _=>exact leave _
 | ring _ _=>exact leave _
 | @ended d r cs row hd E=>
  have en:nums (a1q st d r cs row)=nums st++[d.num]:=by
   show(st.recs++[r]).map (·.num)=_
   rw[aB5];show _++[r.num]=_;rw[E.rc.1];rfl
  have sb:((Q3 st.under d.num).map (·.num)).Sublist (st.under.map (·.num)):=by unfold Q3;exact(List.filter_sublist).map _
  have nin:d.num∉(Q3 st.under d.num).map (·.num):=fun z=>by
   obtain⟨e,he,w⟩:=aA5.mp z
   simpa [w] using (aD2.mp he).2
  have dn:d.num∈st.under.map (·.num):=aA5.mpr ⟨d,hd,rfl⟩
  refine⟨?_,by rw[en];exact E.row,fun l=>?_,fun n hn=>?_⟩
  ·rw[en]
   show(nums st++[d.num]++(Q3 st.under d.num).map (·.num)).Nodup
   rw[aG0]
   have hh:=aD4.mp h.un
   rw[aD4]
   refine⟨hh.1,?_,fun x hx y hy=>?_⟩
   ·rw[List.singleton_append,aG4];exact⟨nin,hh.2.1.sublist sb⟩
   ·rcases aA9.mp hy with hy | hy
    ·rw[aA3.mp hy];exact hh.2.2 x hx _ dn
    ·exact hh.2.2 x hx y (sb.subset hy)
  ·show l∈st.links++cs.flatten↔∃r'∈st.recs++[r],∃o∈st.recs++[r],r'.num≠o.num∧a7k r' o l
   have ne:∀o∈st.recs,o.num≠r.num:=fun o ho e=>(aD4.mp h.un).2.2 o.num (aA5.mpr ⟨o,ho,rfl⟩) d.num dn (by rw[e,E.rc.1])
   rw[aA9,h.mem,E.lw.mem]
   constructor
   ·rintro(⟨a,ha,b,hb,c,k⟩ | ⟨o,ho,k | k⟩)
    ·exact⟨a,aE3 _ ha,b,aE3 _ hb,c,k⟩
    ·exact⟨r,by simp,o,aE3 _ ho,(ne o ho).symm,k⟩
    ·exact⟨o,aE3 _ ho,r,by simp,ne o ho,k⟩
   ·rintro⟨a,ha,b,hb,c,k⟩
    rcases aA9.mp ha with u | u<;>rcases aA9.mp hb with v | v
    ·exact .inl ⟨a,u,b,v,c,k⟩
    ·rw[aA3.mp v]at k;exact .inr ⟨a,u,.inr k⟩
    ·rw[aA3.mp u]at k;exact .inr ⟨b,v,.inl k⟩
    ·rw[aA3.mp u,aA3.mp v]at c;exact absurd rfl c
  ·rw[en]at hn
   have hn:n∈nums st++[d.num]++(Q3 st.under d.num).map (·.num):=hn
   refine h.lt n ?_
   rcases aA9.mp hn with hn | hn
   ·rcases aA9.mp hn with hn | hn
    ·exact aE3 _ hn
    ·rw[aA3.mp hn];exact aE2 _ dn
   ·exact aE2 _ (sb.subset hn)
theorem b0o(ks:List Str)(g:Str):(J8 ks g).length≤ks.length+1:=by unfold J8;split<;>simp
theorem b9v(k:Nat):(k+1)*(k+1)=k*k+2*k+1:=by rw[Nat.add_mul,Nat.mul_add];omega
theorem b6t{k k':Nat}{st:j8}(h:Bd k st)(le:k≤k'):Bd k' st:=by
 have sq:k*k≤k'*k':=Nat.mul_le_mul le le
 exact⟨aD7 h.un le,aD7 h.rc le,fun d hd=>⟨aD7 (h.dl d hd).1 le,aD7 (h.dl d hd).2 le⟩,fun r hr=>⟨aD7 (h.rs r hr).1 le,aD7 (h.rs r hr).2 le⟩,aD7 h.ve sq,fun q hq=>aD7 (h.vl q hq) sq,aD7 h.ln (Nat.mul_le_mul_left _ sq)⟩
theorem a5Z{st st':j8}{d:i9}{a:u7}{k:Nat}(hk:k≤63)(ok:(st.vers.map (·.1)).Nodup)(h:Bd k st)(s:Step st d a st'):Bd (k+1) st':=by
 have up:Bd (k+1) st:=b6t h (aL8 k)
 have leave:∀n,Bd (k+1) (G4 st n):=fun n=>⟨aD7 (aH1 _ _) up.un,up.rc,fun d hd=>up.dl d (aD2.mp hd).1,up.rs,up.ve,up.vl,up.ln⟩
 have sq:=b9v k
 cases s with
 | begin=>
  refine⟨?_,up.rc,fun d hd=>?_,up.rs,up.ve,up.vl,up.ln⟩
  ·show(st.under++_).length≤_
   rw[aA4,aE6];have:=h.un;omega
  ·rcases aA9.mp hd with hd | hd
   ·exact up.dl d hd
   ·rw[aA3.mp hd];simp
 | @sweep m _=>
  refine⟨up.un,up.rc,up.dl,up.rs,?_,fun q hq=>?_,up.ln⟩
  ·show(T9 st.vers m).length≤_
   unfold T9;rw[aA0];exact up.ve
  ·obtain⟨r,hr,rfl⟩:=aA5.mp hq
   show(swL r.2 m).length≤_
   unfold swL;rw[aH8]
   have:=up.vl r hr;omega
 | none _ _=>exact up
 | own _ _=>exact up
 | @look d g _ _=>
  refine⟨by show(F6 st.under d.num (V0 g)).length≤_;unfold F6;rw[aA0];exact up.un,up.rc,fun e he=>?_,up.rs,up.ve,up.vl,up.ln⟩
  obtain⟨e',he',rfl | rfl⟩:=J9 he
  ·exact up.dl _ he'
  ·have:=h.dl e' he'
   have:=b0o e'.looked g
   exact⟨by show(J8 e'.looked g).length≤_;omega,by show e'.aside.length≤_;omega⟩
 | @put d g a _=>
  refine⟨by show(F6 st.under d.num (U6 g a)).length≤_;unfold F6;rw[aA0];exact up.un,up.rc,fun e he=>?_,up.rs,up.ve,up.vl,up.ln⟩
  obtain⟨e',he',rfl | rfl⟩:=J9 he
  ·exact up.dl _ he'
  ·have:=h.dl e' he'
   have:=a9T e'.aside g a
   exact⟨by show e'.looked.length≤_;omega,by show(G3 e'.aside g a).length≤_;omega⟩
 | leave _=>exact leave _
 | ring _ _=>exact leave _
 | @ended d r cs row hd E=>
  have hd':=h.dl d hd
  have lr1:r.looked.length≤k:=by rw[E.rc.2.2.2.1.length_eq];exact hd'.1
  have lr2:r.put.length≤k:=by rw[E.rc.2.2.2.2.1.length_eq,aA0];exact hd'.2
  have hrc:=h.rc
  refine⟨aD7 (aH1 _ _) up.un,?_,fun e he=>up.dl e (aD2.mp he).1,fun o ho=>?_,?_,fun q hq=>?_,?_⟩
  ·show(st.recs++[r]).length≤_
   rw[aA4,aE6];omega
  ·rcases aA9.mp ho with ho | ho
   ·exact up.rs o ho
   ·rw[aA3.mp ho];omega
  ·show(C9 st.vers d.aside _).length≤_
   have:=a4I st.vers ((st.recs.length:Int)+1) d.aside
   have:=h.ve
   omega
  ·have:=a7B ok (fun q hq=>h.vl q hq) q hq
   omega
  ·have:=a4H E.lw fun o ho=>by
    rcases aB7.mp ho with e | ho
    ·rw[e];exact⟨aD7 lr2 hk,aD7 lr1 hk⟩
    ·exact⟨aD7 (h.rs o ho).1 hk,aD7 (h.rs o ho).2 hk⟩
   have hl:=h.ln
   show(st.links++cs.flatten).length≤_
   rw[aA4,sq,Nat.mul_add,Nat.mul_add]
   omega
theorem a8G{s0 st:j8}{ds:List i9}{as:List u7}(h:Run s0 ds as st):as.length=ds.length:=by
 induction h with
 | nil=>rfl
 | snoc _ _ ih=>rw[aA4,aA4,ih];rfl
theorem Paired.mapI{α β:Type}{F F':α→β→Prop}{l:List α}{m:List β}(h:Paired F l m):(∀a b,b∈m→F a b→F' a b)→Paired F' l m:=by
 induction h with
 | nil=>intro _;exact .nil
 | cons x t ih=>intro g;exact .cons (g _ _ aB9 x) (ih fun a b hb=>g a b (aC1 _ hb))
def E3(rl:Addr→Role)(H:Hp):u7→V→Prop
 | .num i,x=>x=.int i
 | .word s,x=>x=.str s
 | .non,x=>x=.non
 | .ring rg,x=>∃l zs,x=.ref l∧H l=some (.lst zs)∧A8 H rg zs∧rl l=.free
theorem E3.kp{G G':Gh}{H H':Hp}(k:Kp G H G' H'){a:u7}{x:V}(h:E3 G.rl H a x):E3 G'.rl H' a x:=by
 cases a with
 | num i=>exact h
 | word s=>exact h
 | non=>exact h
 | ring rg=>
  obtain⟨l,zs,e,h1,h2,h3⟩:=h
  exact⟨l,zs,e,k.keep _ _ h3 h1,h2.tupK k.tup,k.out _ _ h3 h1⟩
theorem E3.upd{G:Gh}{H:Hp}{c:Addr}{o:HO}(t:u5 H (L2.upd H c o)){a:u7}{x:V}(n:x≠.ref c)(h:E3 G.rl H a x):E3 G.rl (L2.upd H c o) a x:=by
 cases a with
 | num i=>exact h
 | word s=>exact h
 | non=>exact h
 | ring rg=>
  obtain⟨l,zs,e,h1,h2,h3⟩:=h
  exact⟨l,zs,e,by rw[c9 fun z=>n (by rw[e,z])];exact h1,h2.tupK t,h3⟩
def b8b(t:E1)(G:Gh)(H:Hp)(p:Addr)(st:j8)(d:i9)(Q:V→Hp→Prop):Prop:=
 ∀a st',Step st d a st'→∀(x:V) (G':Gh) (H':Hp),TA t.C_Tally t.C_Dealing G' H' p st'→Kp G H G' H'→E3 G'.rl H' a x→(∀c,x=.ref c→H c=none)→Q x H'
section
variable{CT CD p:Addr}{G:Gh}{H:Hp}{st:j8}
theorem TA.freeU(h:TA CT CD G H p st){a:Addr}{o:HO}(ha:G.rl a=.free)(t:u5 H (upd H a o)):TA CT CD G (upd H a o) p st:=by
 refine⟨d9 h.ob h.r0 ha (by simp),d9 h.un h.r1 ha (by simp),d9 h.ve h.r2 ha (by simp),?_,?_,d9 h.rw h.r5 ha (by simp),fun e he=>?_,fun q hq=>?_,h.r0,h.r1,h.r2,h.r3,h.r4,h.r5,h.nd,h.vd,fun b e=>h.cl b (v3 e)⟩
 ·obtain⟨xs,h1,h2⟩:=h.rc
  exact⟨xs,d9 h1 h.r3 ha (by simp),Paired.mapP h2 fun _ _ z=>z.upd ha (by simp) t⟩
 ·obtain⟨xs,h1,h2⟩:=h.ln
  exact⟨xs,d9 h1 h.r4 ha (by simp),h2.tupK t⟩
 ·have E:=h.dl e he
  exact⟨d9 E.ob E.r1 ha (by simp),d9 E.lk E.r2 ha (by simp),d9 E.as E.r3 ha (by simp),E.r1,E.r2,E.r3⟩
 ·obtain⟨xs,h1,h2,h3⟩:=h.vl q hq
  exact⟨xs,d9 h1 h3 ha (by simp),C5 t h2,h3⟩
end
inductive a2t(t:E1)(K:PySem.W.Frag)(vs:List V)(H:Hp)(Q:VK):Prop
 | mk (G:Gh) (p:Addr) (st:j8) (d:Dl) (x0:vs=[.ref p,.int d.num]) (x1:TA t.C_Tally t.C_Dealing G H p st) (x2:d∈st.under) (x3:C8 st) (x4:Bd 63 st) (xq:b8b t G H p st (.fin d.num) Q)
def a9y(t:E1)(K:PySem.W.Frag):Sp:=fun vs H Q _=>a2t t K vs H Q
theorem a2x(T:B6 K mg t):g9 P w K mg base A3 5 t.f_answer_to_end t.d_answer_to_end ["tally","number"] (a9y t K):=by
 refine T.F_answer_to_end.ok a3d (fun vs H Q E h=>?_) (fun cdv A outer s H vs Q E hr h=>?_)
 ·obtain⟨G,p,st,d,rfl,_⟩:=h
  rfl
 obtain⟨G,p,st,d,rfl,h,hd,ok,bd,q⟩:=h
 refine⟨_,(b9 (g8 (i:=2) a3d.nd rfl (Or.inl rfl) (a6c (pv 0) T.cl_Tally T.M_Tally_end (g9.mono (k:=4) (a7T T) (by decide)) hr T.F_Tally_end.b .nil k8 (b0 (pv 1) b7)))
 (b9 (l4 (g7 A9 (e7 i5 rfl T.m_len aC6 (b0 (pv 2) b7)) d5 (i7 _))
 (d6 (i4 i8))
 j4)
 (d6 (i4 (pv 2))))),?_⟩
 refine⟨_,rfl,p,_,_,rfl,h.ob,rfl,_,rfl,G,p,st,d,rfl,h,hd,ok,bd,fun r cs row E l G' H' h1 k1 hl fl nl=>?_,fun r cs rg E l zs G' H' h1 k1 hl Lz fl nl=>?_⟩
 ·refine⟨_,rfl,l,_,rfl,.inl (d8.of hl),rfl,_,rfl,m9 ?_⟩
  exact q _ _ (.ended hd E) _ G' H' h1 k1 rfl (fun c e=>nomatch e)
 ·have ne:(zs.length:Int)≠0:=by
   have:=E.ring.ne
   have:=Lz.len
   intro z
   have:rg=[]:=List.length_eq_zero_iff.mp (by omega)
   contradiction
  refine⟨_,rfl,l,_,rfl,.inl (d8.of hl),rfl,_,rfl,?_⟩
  rw[show decide (V.int (zs.length:Int)=V.int 0)=false from aB2 fun e=>ne (V.int.inj e)]
  refine e9 ?_
  exact⟨_,rfl,q _ _ (.ring hd E) _ G' H' h1 k1 ⟨l,zs,rfl,hl,Lz,fl⟩ (fun c e=>by cases e;exact nl)⟩
inductive a6l(t:E1)(K:PySem.W.Frag)(vs:List V)(H:Hp)(Q:VK):Prop
 | mk (G:Gh) (p b:Addr) (st:j8) (d:Dl) (e:i9) (x0:vs=[.ref p,.ref b]) (x1:TA t.C_Tally t.C_Dealing G H p st) (x2:H b=some (.tup (dv e))) (x3:numOf e=some d.num) (x4:d∈st.under) (x5:C8 st) (x6:Bd 63 st) (xq:b8b t G H p st e Q)
def a6m(t:E1)(K:PySem.W.Frag):Sp:=fun vs H Q _=>a6l t K vs H Q
theorem a1n(T:B6 K mg t):g9 P w K mg base A3 6 t.f_answer_under_way t.d_answer_under_way ["tally","deed"] (a6m t K):=by
 refine T.F_answer_under_way.ok X3 (fun vs H Q E h=>?_) (fun cdv A outer s H vs Q E hr h=>?_)
 ·obtain⟨G,p,b,st,d,e,rfl,_⟩:=h
  rfl
 obtain⟨G,p,b,st,d,e,rfl,h,hb,hn,hd,ok,bd,q⟩:=h
 refine⟨_,(b9 (g8 (i:=2) X3.nd rfl (Or.inl rfl) (d7 f6 (pv 1) d5 (fun _ _=>rfl)))
 (b9 (l4 (g7 A9 (d7 f6 (pv 1) d5 (fun _ _=>rfl)) i8 (i7 _))
 (d6 (i4 (a6c (pv 0) T.cl_Tally T.M_Tally_look (g9.mono (k:=5) (a5L T) (by decide)) hr T.F_Tally_look.b .nil k8 (b0 (pv 2) (b0 (d7 f6 (pv 1) d5 (fun _ _=>rfl)) b7)))))
 j4)
 (b9 (l4 (g7 A9 (d7 f6 (pv 1) d5 (fun _ _=>rfl)) i8 (i7 _))
 (b9 (m8 (a6c (pv 0) T.cl_Tally T.M_Tally_put (g9.mono (k:=5) (a4U T) (by decide)) hr T.F_Tally_put.b .nil k8 (b0 (pv 2) (b0 (d7 f6 (pv 1) d5 (fun _ _=>rfl)) (b0 (d7 f6 (pv 1) d5 (fun _ _=>rfl)) b7)))))
 (d6 (i4 i8)))
 j4)
 (b9 (l4 (g7 A9 (d7 f6 (pv 1) d5 (fun _ _=>rfl)) i8 (i7 _))
 (d6 (i4 (k7 (g9.mono (k:=5) (a2x T) (by decide)) hr rfl T.m_answer_to_end T.F_answer_to_end.kp T.F_answer_to_end.b .nil k8 (b0 (pv 0) (b0 (pv 2) b7)))))
 j4)
 (b9 (m8 (a6c (pv 0) T.cl_Tally T.M_Tally_leave (g9.mono (k:=5) (a0E T) (by decide)) hr T.F_Tally_leave.b .nil k8 (b0 (pv 2) b7)))
 (d6 (i4 i8))))))),?_⟩
 have b1:=bd.dl d hd
 cases e with
 | begin=>cases hn
 | sweep=>cases hn
 | look n g=>
  cases hn
  refine⟨_,rfl,b,_,1,_,rfl,rfl,i3.of hb,rfl,?_⟩
  refine⟨_,rfl,b,_,0,_,rfl,rfl,i3.of hb,rfl,rfl,_,rfl,m9 ?_⟩
  refine⟨_,rfl,p,_,_,rfl,h.ob,rfl,_,rfl,_,rfl,b,_,2,_,rfl,rfl,i3.of hb,rfl,G,p,st,d,g,rfl,h,hd,by omega,fun x hx=>aD7 (bd.vl x hx) (by decide),fun a ha=>?_,fun ha G' H' h1 k1=>?_⟩
  ·exact q _ _ (.own hd ha) _ G H h (Kp.refl G H) rfl (fun c e=>nomatch e)
  ·exact q _ _ (.look hd ha) _ G' H' h1 k1 rfl (fun c e=>nomatch e)
 | put n g a=>
  cases hn
  refine⟨_,rfl,b,_,1,_,rfl,rfl,i3.of hb,rfl,?_⟩
  refine⟨_,rfl,b,_,0,_,rfl,rfl,i3.of hb,rfl,rfl,_,rfl,e9 ?_⟩
  refine⟨_,rfl,b,_,0,_,rfl,rfl,i3.of hb,rfl,rfl,_,rfl,m9 ?_⟩
  refine⟨_,rfl,p,_,_,rfl,h.ob,rfl,_,rfl,_,rfl,b,_,2,_,rfl,rfl,i3.of hb,rfl,_,rfl,b,_,3,_,rfl,rfl,i3.of hb,rfl,G,p,st,d,g,a,rfl,h,hd,by omega,fun G' H' h1 k1=>?_⟩
  exact q _ _ (.put hd) _ G' H' h1 k1 rfl (fun c e=>nomatch e)
 | fin n=>
  cases hn
  refine⟨_,rfl,b,_,1,_,rfl,rfl,i3.of hb,rfl,?_⟩
  refine⟨_,rfl,b,_,0,_,rfl,rfl,i3.of hb,rfl,rfl,_,rfl,e9 ?_⟩
  refine⟨_,rfl,b,_,0,_,rfl,rfl,i3.of hb,rfl,rfl,_,rfl,e9 ?_⟩
  refine⟨_,rfl,b,_,0,_,rfl,rfl,i3.of hb,rfl,rfl,_,rfl,m9 ?_⟩
  exact⟨_,rfl,_,rfl,G,p,st,d,rfl,h,hd,ok,bd,q⟩
 | leave n=>
  cases hn
  refine⟨_,rfl,b,_,1,_,rfl,rfl,i3.of hb,rfl,?_⟩
  refine⟨_,rfl,b,_,0,_,rfl,rfl,i3.of hb,rfl,rfl,_,rfl,e9 ?_⟩
  refine⟨_,rfl,b,_,0,_,rfl,rfl,i3.of hb,rfl,rfl,_,rfl,e9 ?_⟩
  refine⟨_,rfl,b,_,0,_,rfl,rfl,i3.of hb,rfl,rfl,_,rfl,e9 ?_⟩
  refine⟨_,rfl,p,_,_,rfl,h.ob,rfl,_,rfl,G,p,st,d,rfl,h,hd,fun G' H' h1 k1=>?_⟩
  exact q _ _ (.leave hd) _ G' H' h1 k1 rfl (fun c e=>nomatch e)
inductive a1N(t:E1)(K:PySem.W.Frag)(vs:List V)(H:Hp)(Q:VK):Prop
 | mk (G:Gh) (p b:Addr) (st:j8) (e:i9) (x0:vs=[.ref p,.ref b]) (x1:TA t.C_Tally t.C_Dealing G H p st) (x2:H b=some (.tup (dv e))) (x3:C8 st) (x4:Bd 63 st) (xq:b8b t G H p st e Q)
def a3Q(t:E1)(K:PySem.W.Frag):Sp:=fun vs H Q _=>a1N t K vs H Q
theorem C8.new{st:j8}(ok:C8 st):∀d∈st.under,d.num≠(st.begun:Int):=fun d hd e=>by
 have:=(ok.lt d.num (aE2 _ (aA5.mpr ⟨d,hd,rfl⟩))).2
 omega
theorem a8U(T:B6 K mg t):g9 P w K mg base A3 7 t.f_answer_to t.d_answer_to ["tally","deed"] (a3Q t K):=by
 refine T.F_answer_to.ok a0S (fun vs H Q E h=>?_) (fun cdv A outer s H vs Q E hr h=>?_)
 ·obtain⟨G,p,b,st,e,rfl,_⟩:=h
  rfl
 obtain⟨G,p,b,st,e,rfl,h,hb,ok,bd,q⟩:=h
 have hu:=O0 hr
 refine⟨_,(b9 (l4 (g7 A9 (d7 f6 (pv 1) d5 (fun _ _=>rfl)) i8 (i7 _))
 (d6 (i4 (Q6 (pv 0) T.cl_Tally T.M_Tally_begin (g9.mono (k:=6) (a8E T) (by decide)) hr T.F_Tally_begin.b .nil k8)))
 j4)
 (b9 (l4 (g7 A9 (d7 f6 (pv 1) d5 (fun _ _=>rfl)) i8 (i7 _))
 (d6 (i4 (Q6 (pv 0) T.cl_Tally T.M_Tally_sweep (g9.mono (k:=6) (a1H T) (by decide)) hr T.F_Tally_sweep.b .nil k8)))
 j4)
 (b9 (l4 (g7 (a9a hu) (d7 f6 (pv 1) d5 (fun _ _=>rfl)) (v5 (pv 0) rfl) (by with_unfolding_all rfl))
 (d6 (i4 a8p))
 j4)
 (d6 (i4 (k7 (g9.mono (k:=6) (a1n T) (by decide)) hr rfl T.m_answer_under_way T.F_answer_under_way.kp T.F_answer_under_way.b .nil k8 (b0 (pv 0) (b0 (pv 1) b7)))))))),?_⟩
 have go:∀n,(dv e)[1]?=some (.int n)→numOf e=some n→(dv e)[0]?≠some (.str "begin")→(dv e)[0]?≠some (.str "sweep")→∃z0 zs,dv e=.str z0::zs:=fun n _ h _ _=>by
  cases e with
  | begin=>cases h
  | sweep=>cases h
  | look n g=>exact⟨_,_,rfl⟩
  | put n g a=>exact⟨_,_,rfl⟩
  | fin n=>exact⟨_,_,rfl⟩
  | leave n=>exact⟨_,_,rfl⟩
 clear go
 have bun:=bd.un
 have dg:=fun n=>z6.k (k:=Sum.inl n) h.un
 have fin:∀n,numOf e=some n→n∈st.under.map (·.num)→∃d,numOf e=some d.num∧d∈st.under:=fun n hn hm=>by
  obtain⟨d,hd,rfl⟩:=aA5.mp hm
  exact⟨d,hn,hd⟩
 cases e with
 | begin=>
  refine⟨_,rfl,b,_,0,_,rfl,rfl,i3.of hb,rfl,rfl,_,rfl,m9 ?_⟩
  refine⟨_,rfl,p,_,_,rfl,h.ob,rfl,G,p,st,rfl,h,ok.new,by omega,fun G' H' h1 k1=>?_⟩
  exact q _ _ .begin _ G' H' h1 k1 rfl (fun c e=>nomatch e)
 | sweep=>
  refine⟨_,rfl,b,_,0,_,rfl,rfl,i3.of hb,rfl,rfl,_,rfl,e9 ?_⟩
  refine⟨_,rfl,b,_,0,_,rfl,rfl,i3.of hb,rfl,rfl,_,rfl,m9 ?_⟩
  refine⟨_,rfl,p,_,_,rfl,h.ob,rfl,G,p,st,rfl,h,by omega,aD7 bd.ve (by decide),fun x hx=>aD7 (bd.vl x hx) (by decide),fun m hm G' H' h1 k1=>?_⟩
  exact q _ _ (.sweep hm) _ G' H' h1 k1 rfl (fun c e=>nomatch e)
 | look n g=>
  refine⟨_,rfl,b,_,0,_,rfl,rfl,i3.of hb,rfl,rfl,_,rfl,e9 ?_⟩
  refine⟨_,rfl,b,_,0,_,rfl,rfl,i3.of hb,rfl,rfl,_,rfl,e9 ?_⟩
  have dg:=dg n
  rw[u3]at dg
  refine⟨_,rfl,b,_,1,_,rfl,rfl,i3.of hb,rfl,_,rfl,p,_,_,_,_,rfl,h.ob,T.cl_Tally,T.n_Tally_under_way,rfl,G.U,_,rfl,dg,_,rfl,?_⟩
  by_cases c:n∈st.under.map (·.num)
  ·rw[aB4 c]
   obtain⟨d,hn,hd⟩:=fin n rfl c
   exact e9 ⟨_,rfl,_,rfl,G,p,b,st,d,_,rfl,h,hb,hn,hd,ok,bd,q⟩
  ·rw[aA8 c]
   exact m9 (q _ _ (.none rfl c) _ G H h (Kp.refl G H) rfl (fun c e=>nomatch e))
 | put n g a=>
  refine⟨_,rfl,b,_,0,_,rfl,rfl,i3.of hb,rfl,rfl,_,rfl,e9 ?_⟩
  refine⟨_,rfl,b,_,0,_,rfl,rfl,i3.of hb,rfl,rfl,_,rfl,e9 ?_⟩
  have dg:=dg n
  rw[u3]at dg
  refine⟨_,rfl,b,_,1,_,rfl,rfl,i3.of hb,rfl,_,rfl,p,_,_,_,_,rfl,h.ob,T.cl_Tally,T.n_Tally_under_way,rfl,G.U,_,rfl,dg,_,rfl,?_⟩
  by_cases c:n∈st.under.map (·.num)
  ·rw[aB4 c]
   obtain⟨d,hn,hd⟩:=fin n rfl c
   exact e9 ⟨_,rfl,_,rfl,G,p,b,st,d,_,rfl,h,hb,hn,hd,ok,bd,q⟩
  ·rw[aA8 c]
   exact m9 (q _ _ (.none rfl c) _ G H h (Kp.refl G H) rfl (fun c e=>nomatch e))
 | fin n=>
  refine⟨_,rfl,b,_,0,_,rfl,rfl,i3.of hb,rfl,rfl,_,rfl,e9 ?_⟩
  refine⟨_,rfl,b,_,0,_,rfl,rfl,i3.of hb,rfl,rfl,_,rfl,e9 ?_⟩
  have dg:=dg n
  rw[u3]at dg
  refine⟨_,rfl,b,_,1,_,rfl,rfl,i3.of hb,rfl,_,rfl,p,_,_,_,_,rfl,h.ob,T.cl_Tally,T.n_Tally_under_way,rfl,G.U,_,rfl,dg,_,rfl,?_⟩
  by_cases c:n∈st.under.map (·.num)
  ·rw[aB4 c]
   obtain⟨d,hn,hd⟩:=fin n rfl c
   exact e9 ⟨_,rfl,_,rfl,G,p,b,st,d,_,rfl,h,hb,hn,hd,ok,bd,q⟩
  ·rw[aA8 c]
   exact m9 (q _ _ (.none rfl c) _ G H h (Kp.refl G H) rfl (fun c e=>nomatch e))
 | leave n=>
  refine⟨_,rfl,b,_,0,_,rfl,rfl,i3.of hb,rfl,rfl,_,rfl,e9 ?_⟩
  refine⟨_,rfl,b,_,0,_,rfl,rfl,i3.of hb,rfl,rfl,_,rfl,e9 ?_⟩
  have dg:=dg n
  rw[u3]at dg
  refine⟨_,rfl,b,_,1,_,rfl,rfl,i3.of hb,rfl,_,rfl,p,_,_,_,_,rfl,h.ob,T.cl_Tally,T.n_Tally_under_way,rfl,G.U,_,rfl,dg,_,rfl,?_⟩
  by_cases c:n∈st.under.map (·.num)
  ·rw[aB4 c]
   obtain⟨d,hn,hd⟩:=fin n rfl c
   exact e9 ⟨_,rfl,_,rfl,G,p,b,st,d,_,rfl,h,hb,hn,hd,ok,bd,q⟩
  ·rw[aA8 c]
   exact m9 (q _ _ (.none rfl c) _ G H h (Kp.refl G H) rfl (fun c e=>nomatch e))
theorem ok0:C8 T8 where
 un:=aL3
 row:=⟨List.Perm.nil,aL3,(fun l h=>nomatch h)⟩
 mem:=fun l=>⟨(fun h=>nomatch h),fun⟨r,hr,_⟩=>nomatch hr⟩
 lt:=fun n h=>nomatch h
theorem bd0:Bd 0 T8:=⟨aB3 _,aB3 _,(fun d h=>nomatch h),(fun r h=>nomatch h),aB3 _,(fun q h=>nomatch h),aB3 _⟩
def Told(t:E1)(G:Gh)(H:Hp)(p:Addr)(ds:List i9)(Q:V→Hp→Prop):Prop:=
 ∀(as:List u7) (st:j8) (G':Gh) (H':Hp) (r:Addr) (ys:List V),Run T8 ds as st→TA t.C_Tally t.C_Dealing G' H' p st→C8 st→Bd ds.length st→Kp G H G' H'→H' r=some (.lst ys)→Paired (E3 G'.rl H') as ys→G'.rl r=.free→H r=none→Q (.ref r) H'
inductive a9G(t:E1)(K:PySem.W.Frag)(vs:List V)(H:Hp)(Q:VK):Prop
 | mk (G:Gh) (p l:Addr) (ds:List i9) (xs:List V) (x0:vs=[.ref p,.ref l]) (x1:TA t.C_Tally t.C_Dealing G H p T8) (x2:H l=some (.lst xs)) (x3:G.rl l=.free) (x4:u4 H ds xs) (x5:ds.length≤63) (xq:Told t G H p ds Q)
def a9L(t:E1)(K:PySem.W.Frag):Sp:=fun vs H Q _=>a9G t K vs H Q
theorem a1m(T:B6 K mg t):g9 P w K mg base A3 8 t.f_answers_at t.d_answers_at ["tally","deeds"] (a9L t K):=by
 refine T.F_answers_at.ok a2a (fun vs H Q E h=>?_) (fun cdv A outer s H vs Q E hr h=>?_)
 ·obtain⟨G,p,l,ds,xs,rfl,_⟩:=h
  rfl
 obtain⟨G,p,l,ds,xs,rfl,h,hl,fl,hd,bn,q⟩:=h
 refine⟨_,(b9 (g8 (i:=2) a2a.nd rfl (Or.inl rfl) (m6 b7))
 (b9 (y6 aE1 rfl (u6 (pv 1)) (l6 (i:=3) a2a.nd rfl (Or.inl rfl))
 (d6 (m8 (v9 aB0 aB6 aB8 n6 (pv 2) (b0 (k7 (g9.mono (k:=7) (a8U T) (by decide)) hr rfl T.m_answer_to T.F_answer_to.kp T.F_answer_to.b .nil k8 (b0 (pv 0) (b0 (pv 3) b7))) b7)))))
 (d6 (i4 (pv 2))))),?_⟩
 refine⟨(l8 0),fun r hr0=>?_⟩
 have s0:=b8 (o:=.lst []) hr0
 have lx:xs.length=ds.length:=hd.len
 have fr:G.rl r=.free:=h.cl r hr0
 have nlr:l≠r:=g6 hl hr0
 refine⟨_,rfl,l,rfl,⟨_,d8.of (s0 _ _ hl)⟩,?_⟩
 refine A7 (xs:=xs) (fun i σ' Hc=>∃(o3:Option V) (G':Gh) (as:List u7) (st:j8) (ys:List V),σ'=[some (.ref p),some (.ref l),some (.ref r),o3]∧Run T8 (ds.take i) as st∧TA t.C_Tally t.C_Dealing G' Hc p st∧C8 st∧Bd i st∧Kp G H G' Hc∧Hc r=some (.lst ys)∧G'.rl r=.free∧Paired (E3 G'.rl Hc) as ys∧∀y∈ys,y≠.ref r)
  ⟨none,G,[],T8,[],rfl,.nil,h.same s0,ok0,bd0,Kp.same s0,b6,fr,.nil,(fun y hy=>nomatch hy)⟩ (fun i σ' Hc _ z=>?_) (fun i x σ' Hc hx z=>?_) (fun σ' Hc z=>?_)
 ·obtain⟨_,_,_,_,_,_,_,_,_,_,k,_⟩:=z
  exact d8.of (k.keep _ _ fl hl)
 ·obtain⟨o3,G',as,st,ys,rfl,R,h1,ok,bd,k1,hr1,fr1,pa,ny⟩:=z
  obtain⟨d,hdi,b,rfl,hb⟩:=C2 hd hx
  have li:=(aA2.mp hdi).1
  have la:=p6 pa
  have lr:=a8G R
  rw[aD0]at lr
  have hb1:=k1.tup.1 _ _ hb
  refine⟨_,rfl,.inl ⟨rfl,_,d8.of hr1⟩,_,rfl,_,rfl,G',p,b,st,d,rfl,h1,hb1,ok,b6t bd (by omega),fun a st' S x G2 H2 h2 k2 A2 nx=>?_⟩
  have hr2:=k2.keep _ _ fr1 hr1
  have fr2:=k2.out _ _ fr1 hr1
  have t2:u5 H2 (upd H2 r (.lst (ys++[x]))):=n4 hr2
  have xr:x≠.ref r:=fun e=>by rw[nx r e]at hr1;cases hr1
  refine⟨r,ys,_,rfl,rfl,hr2,r9 (by omega),?_⟩
  have k3:Kp G H G2 (upd H2 r (.lst (ys++[x]))):=by
   have kk:=k1.trans k2
   refine⟨fun b o f e=>?_,kk.tup.trans t2,kk.out,fun b e=>kk.dom b (v3 e)⟩
   rw[c9 (g6 e hr0)]
   exact kk.keep b o f e
  refine⟨_,G2,as++[a],st',ys++[x],rfl,?_,h2.freeU fr2 t2,a4Y ok S,a5Z (by omega) h1.vd bd S,k3,b6,fr2,?_,fun y hy=>?_⟩
  ·rw[aD3,hdi];exact .snoc R S
  ·refine aK0 ?_ (A2.upd t2 xr)
   have pa2:Paired (E3 G2.rl H2) as ys:=Paired.mapP pa fun _ _ z=>z.kp k2
   exact Paired.mapI pa2 fun a y hy z=>z.upd t2 (ny y hy)
  ·rcases aA9.mp hy with hy | hy
   ·exact ny y hy
   ·rw[aA3.mp hy];exact xr
 ·obtain⟨o3,G',as,st,ys,rfl,R,h1,ok,bd,k1,hr1,fr1,pa,ny⟩:=z
  rw[lx,aD5]at R
  rw[lx]at bd
  exact⟨_,rfl,q as st G' Hc r ys R h1 ok bd k1 hr1 pa fr1 hr0⟩
inductive a6V(t:E1)(K:PySem.W.Frag)(vs:List V)(H:Hp)(Q:VK):Prop
 | mk (l:Addr) (ds:List i9) (xs:List V) (x0:vs=[.ref l]) (x1:H l=some (.lst xs)) (x2:u4 H ds xs) (x3:ds.length≤63) (xq:∀(as:List u7) (st:j8) (rl:Addr→Role) (H':Hp) (r:Addr) (ys:List V),Run T8 ds as st→f7 H H'→H' r=some (.lst ys)→Paired (E3 rl H') as ys→H r=none→Q (.ref r) H')
def b4b(t:E1)(K:PySem.W.Frag):Sp:=fun vs H Q _=>a6V t K vs H Q
theorem b2b(T:B6 K mg t):g9 P w K mg base A3 9 t.f_answers t.d_answers ["deeds"] (b4b t K):=by
 refine T.F_answers.ok b5b (fun vs H Q E h=>?_) (fun cdv A outer s H vs Q E hr h=>?_)
 ·obtain⟨l,ds,xs,rfl,_⟩:=h
  rfl
 obtain⟨l,ds,xs,rfl,hl,hd,bn,q⟩:=h
 refine⟨_,(d6 (i4 (k7 (g9.mono (k:=8) (a1m T) (by decide)) hr rfl T.m_answers_at T.F_answers_at.kp T.F_answers_at.b .nil k8 (b0 (a0U T.K_Tally (g9.mono (k:=7) (a4b T) (by decide)) hr rfl T.mg_Tally T.F_Tally___init__.b .nil k8) (b0 (pv 0) b7))))),?_⟩
 intro x dx nx ndx nxd
 have s0:f7 H (upd (upd H dx (.own x)) x (.ins t.C_Tally dx [])):=l7 (b8 ndx) nx
 refine⟨x,dx,rfl,b6,fun G H1 h1 b1 g1=>⟨rfl,?_⟩⟩
 have s1:f7 H H1:=fun c o e=>b1 c o (g6 e nx) (s0 c o e)
 have gf:∀c o,H c=some o→G.rl c=.free:=fun c o e=>g1 c o (g6 e nx) (s0 c o e)
 refine⟨_,rfl,G,x,l,ds,xs,rfl,h1,s1 _ _ hl,gf _ _ hl,hd.tupK s1.tupK,bn,fun as st G' H' r ys R h2 ok bd k hr pa fr nr=>?_⟩
 exact q as st G'.rl H' r ys R (fun c o e=>k.keep c o (gf c o e) (s1 c o e)) hr pa (j7 s1 nr)
inductive a4D(K:PySem.W.Frag)(vs:List V)(H:Hp)(Q:VK):Prop
 | mk (x T) (x0:vs=[x]) (x1:TyV K H x T) (xq:Q (.bl (T=="int")) H)
def a1M(K:PySem.W.Frag):Sp:=fun vs H Q _=>a4D K vs H Q
theorem U9(T:B6 K mg t):g9 P w K mg base A3 1 t.f__law_whole t.d__law_whole ["_law_found"] (a1M K):=by
 refine T.F__law_whole.ok a9M (fun vs H Q E h=>?_) (fun cdv A outer s H vs Q E hr h=>?_)
 ·obtain⟨x,T,rfl,_⟩:=h
  rfl
 obtain⟨x,Ty,rfl,hT,q⟩:=h
 refine⟨_,(d6 (i4 (Z3 (e7 C7 rfl T.m_isinstance aF5 (b0 (pv 0) (b0 (A5 (v:=.ty "int") rfl T.m_int boot_int rfl) b7))) (a5h (b4A (e7 C7 rfl T.m_isinstance aF5 (b0 (pv 0) (b0 (A5 (v:=.ty "bool") rfl T.m_bool boot_bool rfl) b7)))))))),?_⟩
 refine⟨_,rfl,x,Ty,"int",rfl,hT,by decide,_,rfl,?_⟩
 refine K3 (fun c=>?_) (fun c=>?_)
 ·refine⟨_,rfl,x,Ty,"bool",rfl,hT,by decide,_,rfl,?_⟩
  have e:(!a0c Ty "bool")=(Ty=="int"):=by
   have:=hT.mem
   simp only[tys,aB7,aF7,aL4]at this
   rcases this with rfl | rfl | rfl | rfl | rfl | rfl | rfl<;>revert c<;>decide
  rw[e];exact q
 ·have e:false=(Ty=="int"):=by
   have:=hT.mem
   simp only[tys,aB7,aF7,aL4]at this
   rcases this with rfl | rfl | rfl | rfl | rfl | rfl | rfl<;>revert c<;>decide
  rw[←e]at q;exact q
inductive a6w(K:PySem.W.Frag)(vs:List V)(H:Hp)(Q:VK):Prop
 | mk (a b:Addr) (ns:List Int) (x0:vs=[.ref a,.ref b]) (x1:d8 K H a (ns.map V.int)) (x2:d8 K H b (ns.map V.int)) (x3:ns.length≤100000) (xq:Q (.bl true) H)
def a7A(K:PySem.W.Frag):Sp:=fun vs H Q _=>a6w K vs H Q
theorem a0C(T:B6 K mg t):g9 P w K mg base A3 2 t.f__law_figures t.d__law_figures ["_law_found","_law_due"] (a7A K):=by
 refine T.F__law_figures.ok a3f (fun vs H Q E h=>?_) (fun cdv A outer s H vs Q E hr h=>?_)
 ·obtain⟨a,b,ns,rfl,_⟩:=h
  rfl
 obtain⟨a,b,ns,rfl,hA,hB,hl,q⟩:=h
 refine⟨_,(b9 (l4 (PW.pt (N9 (G8 (C4 (e7 C7 rfl T.m_isinstance aF5 (b0 (pv 0) (b0 (A5 (v:=.ty "list") rfl T.m_list aM8 rfl) b7))))) (L1 (g7 N3 (e7 i5 rfl T.m_len aC6 (b0 (pv 0) b7)) (e7 i5 rfl T.m_len aC6 (b0 (pv 1) b7)) (i7 _)))))
 (d6 (i4 y0))
 j4)
 (b9 (y6 aE1 rfl (P2 rfl T.m_range (b0 (e7 i5 rfl T.m_len aC6 (b0 (pv 1) b7)) b7)) (l6 (i:=2) a3f.nd rfl (Or.inl rfl))
 (d6 (l4 (PW.pt (N9 (G8 (C4 (k7 (g9.mono (k:=1) (U9 T) (by decide)) hr rfl T.m__law_whole T.F__law_whole.kp T.F__law_whole.b .nil k8 (b0 (d7 l5 (pv 0) (pv 2) (fun _ _=>rfl)) b7)))) (L1 (g7 N3 (d7 l5 (pv 0) (pv 2) (fun _ _=>rfl)) (d7 l5 (pv 1) (pv 2) (fun _ _=>rfl)) (i7 _)))))
 (d6 (i4 y0))
 j4)))
 (d6 (i4 y0)))),?_⟩
 have ln:(ns.map V.int).length=ns.length:=aA0 _
 refine⟨_,rfl,.ref a,"list","list",rfl,.inl ⟨rfl,_,hA⟩,by decide,_,rfl,e9 ?_⟩
 refine⟨_,rfl,a,_,rfl,.inl hA,_,rfl,b,_,rfl,.inl hB,rfl,_,rfl,U8 rfl ?_⟩
 refine⟨_,rfl,b,_,rfl,.inl hB,_,rfl,by omega,by omega,?_⟩
 have en:((((ns.map V.int).length:Nat):Int)).toNat=ns.length:=by omega
 rw[en]
 refine N4 (fun i σ' H'=>H'=H∧∃o,σ'=[some (.ref a),some (.ref b),o]) ⟨rfl,_,rfl⟩ (fun i σ' H' hi h=>?_) (fun σ' H' h=>?_)
 ·obtain⟨rfl,o,rfl⟩:=h
  have e0:(0:Int)+(i:Int)=((i:Nat):Int):=by omega
  have ax:F7 (ns.map V.int) ((0:Int)+(i:Int))=some (.int ns[i]):=by rw[e0];exact j0 (by rw[aB1,List.getElem?_eq_getElem hi];rfl)
  refine⟨_,rfl,_,rfl,a,_,_,_,rfl,rfl,hA,ax,_,"int",rfl,rfl,_,rfl,e9 ?_⟩
  refine⟨_,rfl,_,rfl,a,_,_,_,rfl,rfl,hA,ax,_,rfl,_,rfl,b,_,_,_,rfl,rfl,hB,ax,rfl,_,rfl,U8 rfl ?_⟩
  exact⟨rfl,_,rfl⟩
 ·obtain⟨rfl,_⟩:=h
  exact q
theorem a3T(c:Array Nat):∀(n:Nat) (acc:Array Nat),((List.replicate n c).foldl (·++·) acc).size=acc.size+n*c.size
 | 0,acc=>by simp
 | n+1,acc=>by
  rw[aJ5,aI5,a3T c n,Array.size_append,Nat.succ_mul];omega
theorem a7x(z:Str)(n:Nat):(O6 z n).length=n*z.length:=by
 show((List.replicate n z.cps).foldl (·++·) #[]).size=n*z.cps.size
 rw[a3T];simp
theorem a4Z(p:Nat→Bool)(c:Array Nat)(h:c.all p=true):∀(n:Nat) (acc:Array Nat),acc.all p=true→((List.replicate n c).foldl (·++·) acc).all p=true
 | 0,acc,ha=>by simpa using ha
 | n+1,acc,ha=>by
  rw[aJ5,aI5]
  exact a4Z p c h n _ (by rw[Array.all_append,ha,h];rfl)
theorem a3E{z:Str}(h:PyData.strOk z=true)(n:Nat):PyData.strOk (O6 z n)=true:=a4Z _ z.cps h n #[] (by simp)
theorem b3k{x y:Str}(h:PyData.strOk x=true)(k:PyData.strOk y=true):PyData.strOk (x++y)=true:=by
 show(x.cps++y.cps).all _=true
 rw[Array.all_append]
 have h:x.cps.all (·<0x110000)=true:=h
 have k:y.cps.all (·<0x110000)=true:=k
 rw[h,k];rfl
theorem a6r(x y:Str):(x++y).length=x.length+y.length:=by
 show(x.cps++y.cps).size=_
 rw[Array.size_append];rfl
theorem b0y(i:Int)(h1:0≤i)(h2:i<12):M6 (("good ":Str)++(toString i:String)):=by
 rcases(show i=0∨i=1∨i=2∨i=3∨i=4∨i=5∨i=6∨i=7∨i=8∨i=9∨i=10∨i=11 by omega) with rfl | rfl | rfl | rfl | rfl | rfl | rfl | rfl | rfl | rfl | rfl | rfl<;>(unfold M6;decide +kernel)
inductive a4L(K:PySem.W.Frag)(vs:List V)(H:Hp)(Q:VK):Prop
 | mk (i pl:Int) (x0:vs=[.int i,.int pl]) (x1:0≤i) (x2:i<12) (x3:0≤pl) (x4:pl≤39) (xq:∀g H',f7 H H'→M6 g→Q (.str g) H')
def a1O(K:PySem.W.Frag):Sp:=fun vs H Q _=>a4L K vs H Q
theorem a3S(T:B6 K mg t):g9 P w K mg base A3 1 t.f__law_ware t.d__law_ware ["_law_spot","_law_place"] (a1O K):=by
 refine T.F__law_ware.ok a4p (fun vs H Q E h=>?_) (fun cdv A outer s H vs Q E hr h=>?_)
 ·obtain⟨i,pl,rfl,_⟩:=h
  rfl
 obtain⟨i,pl,rfl,i0,i1,p0,p1,q⟩:=h
 refine⟨_,(b9 (g8 (i:=2) a4p.nd rfl (Or.inl rfl) (m6 (b0 i8 (b0 i8 (b0 i8 (b0 (j5 a1B i8 d5) (b0 (j5 a2j (j5 a2j (j5 a7u i8 (pv 1)) i8) (j5 a7u i8 (j5 Q8 d5 (pv 1)))) (b0 i8 b7))))))))
 (d6 (i4 (d7 l5 (j5 Q9 (pv 2) (j5 b6z (m6 (b0 (j5 a2j i8 (K7 a5Q rfl T.m_str boot_str (b0 (pv 0) b7))) b7)) d5)) (j5 G6 (pv 0) d5) (fun _ _=>rfl))))),?_⟩
 have lone:("a":Str).length=1:=by decide
 have oka:PyData.strOk "a"=true:=by decide +kernel
 have okb:PyData.strOk "b"=true:=by decide +kernel
 have l1:(O6 "a" pl.toNat).length≤39:=by rw[a7x,lone];omega
 have l2:(O6 "a" (39-pl).toNat).length≤39:=by rw[a7x,lone];omega
 have l3:(O6 "a" pl.toNat++"b").length≤40:=by
  rw[a6r]
  have:("b":Str).length=1:=by decide
  omega
 refine⟨_,_,rfl,rfl,(by decide),(by decide),(by decide),(by decide),(by decide),?_⟩
 refine⟨_,rfl,_,_,rfl,rfl,by omega,by omega,(by decide),(by decide),by rw[aG2];omega,?_⟩
 refine⟨_,_,rfl,rfl,by rw[aG2,←a6r];omega,?_⟩
 refine⟨_,rfl,_,_,rfl,rfl,_,_,rfl,rfl,by omega,by omega,(by decide),(by decide),by rw[aG2];omega,?_⟩
 refine⟨_,_,rfl,rfl,by rw[aG2];omega,(l8 6),fun e he=>?_⟩
 have w40:M6 (O6 "a" (Int.toNat 40)):=⟨a3E oka _,by rw[a7x,lone];decide⟩
 have wmx:M6 (O6 "a" pl.toNat++"b"++O6 "a" (39-pl).toNat):=⟨b3k (b3k (a3E oka _) okb) (a3E oka _),by rw[a6r];omega⟩
 have wnm:=b0y i i0 i1
 have lnm:(("good ":Str)++(toString i:String)).length≤200:=wnm.2
 refine⟨_,rfl,_,rfl,i,rfl,?_,_,_,rfl,rfl,by rw[←a6r,aG2];omega,(l8 1),fun e2 he2=>?_⟩
 ·have:=Nat.log2_le_self i.natAbs
  omega
 generalize (("good ":Str)++(toString i:String))=nm at wnm he2 ⊢
 have s1:=b8 (o:=.lst [.str nm]) he2
 refine⟨e2,6,_,rfl,rfl,b6,by decide,by decide,(by show 1*6≤sizeLine;decide),fun e3 he3=>?_⟩
 have s2:=b8 (o:=.lst (List.replicate (Int.toNat 6) [V.str nm]).flatten) he3
 refine⟨e,e3,_,_,rfl,rfl,s2 _ _ (s1 _ _ b6),b6,(by show 6+6≤sizeLine;decide),fun e4 he4=>?_⟩
 refine⟨_,rfl,_,_,rfl,rfl,(by show(0:Int)<12;decide),?_⟩
 dsimp only
 rw[show i % 12=i by omega]
 have get:∃g,F7 ([V.str "a",V.str "",V.str "A b~",V.str (O6 "a" (Int.toNat 40)),V.str (O6 "a" pl.toNat++"b"++O6 "a" (39-pl).toNat),V.str "good"]++(List.replicate (Int.toNat 6) [V.str nm]).flatten) i=some (.str g)∧M6 g:=by
  obtain⟨n,rfl⟩:=Int.eq_ofNat_of_zero_le i0
  rcases(show n=0∨n=1∨n=2∨n=3∨n=4∨n=5∨n=6∨n=7∨n=8∨n=9∨n=10∨n=11 by omega) with rfl | rfl | rfl | rfl | rfl | rfl | rfl | rfl | rfl | rfl | rfl | rfl
  ·exact⟨_,j0 rfl,by unfold M6;decide +kernel⟩
  ·exact⟨_,j0 rfl,by unfold M6;decide +kernel⟩
  ·exact⟨_,j0 rfl,by unfold M6;decide +kernel⟩
  ·exact⟨_,j0 rfl,w40⟩
  ·exact⟨_,j0 rfl,wmx⟩
  ·exact⟨_,j0 rfl,by unfold M6;decide +kernel⟩
  ·exact⟨_,j0 rfl,wnm⟩
  ·exact⟨_,j0 rfl,wnm⟩
  ·exact⟨_,j0 rfl,wnm⟩
  ·exact⟨_,j0 rfl,wnm⟩
  ·exact⟨_,j0 rfl,wnm⟩
  ·exact⟨_,j0 rfl,wnm⟩
 obtain⟨g,hg,wg⟩:=get
 exact⟨e4,_,_,_,rfl,rfl,d8.of b6,hg,q g _ ((((b8 he).trans s1).trans s2).trans (b8 he4)) wg⟩
structure DS(H:Hp)(r u o:Addr)(ds:List i9)(us os:List Int)(H':Hp):Prop where
 sm:f7 H H'
 nr:H r=none
 nu:H u=none
 no:H o=none
 ru:r≠u
 ro:r≠o
 uo:u≠o
 made:∃xs,H' r=some (.lst xs)∧u4 H' ds xs
 und:H' u=some (.lst (us.map V.int))
 ove:H' o=some (.lst (os.map V.int))
 ok:∀d∈ds,O2 d
theorem DS.new{H H1 H2:Hp}{r u o:Addr}{ds:List i9}{us os:List Int}(d:DS H r u o ds us os H1)(s:f7 H1 H2):DS H r u o ds us os H2:=by
 obtain⟨xs,h1,h2⟩:=d.made
 exact⟨d.sm.trans s,d.nr,d.nu,d.no,d.ru,d.ro,d.uo,⟨xs,s _ _ h1,h2.tupK s.tupK⟩,s _ _ d.und,s _ _ d.ove,d.ok⟩
theorem DS.setU{H H1:Hp}{r u o:Addr}{ds:List i9}{us os:List Int}(d:DS H r u o ds us os H1)(ws:List Int):DS H r u o ds ws os (upd H1 u (.lst (ws.map V.int))):=by
 obtain⟨xs,h1,h2⟩:=d.made
 exact⟨l7 d.sm d.nu,d.nr,d.nu,d.no,d.ru,d.ro,d.uo,⟨xs,by rw[c9 d.ru];exact h1,h2.tupK (n4 d.und)⟩,b6,by rw[c9 (Ne.symm d.uo)];exact d.ove,d.ok⟩
theorem DS.setO{H H1:Hp}{r u o:Addr}{ds:List i9}{us os:List Int}(d:DS H r u o ds us os H1)(ws:List Int):DS H r u o ds us ws (upd H1 o (.lst (ws.map V.int))):=by
 obtain⟨xs,h1,h2⟩:=d.made
 exact⟨l7 d.sm d.no,d.nr,d.nu,d.no,d.ru,d.ro,d.uo,⟨xs,by rw[c9 d.ro];exact h1,h2.tupK (n4 d.ove)⟩,by rw[c9 d.uo];exact d.und,b6,d.ok⟩
theorem DS.oth{H H1:Hp}{r u o b:Addr}{ds:List i9}{us os:List Int}{ys zs:List V}(d:DS H r u o ds us os H1)(hb:H b=none)(n1:r≠b)(n2:u≠b)(n3:o≠b)(hl:H1 b=some (.lst ys)):DS H r u o ds us os (upd H1 b (.lst zs)):=by
 obtain⟨xs,h1,h2⟩:=d.made
 exact⟨l7 d.sm hb,d.nr,d.nu,d.no,d.ru,d.ro,d.uo,⟨xs,by rw[c9 n1];exact h1,h2.tupK (n4 hl)⟩,by rw[c9 n2];exact d.und,by rw[c9 n3];exact d.ove,d.ok⟩
theorem DS.apart{H H1:Hp}{r u o b:Addr}{ds:List i9}{us os:List Int}(d:DS H r u o ds us os H1)(hb:H1 b=none):H b=none∧r≠b∧u≠b∧o≠b:=by
 obtain⟨xs,h1,h2⟩:=d.made
 refine⟨?_,(fun z=>by rw[←z,h1]at hb;cases hb),(fun z=>by rw[←z,d.und]at hb;cases hb),(fun z=>by rw[←z,d.ove]at hb;cases hb)⟩
 cases z:H b with
 | none=>rfl
 | some o=>rw[d.sm _ _ z]at hb;cases hb
theorem DS.add{H H1:Hp}{r u o:Addr}{ds:List i9}{us os:List Int}(d:DS H r u o ds us os H1){e:i9}{x:V}(hx:a5o H1 e x)(he:O2 e)(hz:ds.length≤1000)(Q:VK)(q:∀H2,DS H r u o (ds++[e]) us os H2→Q .non H2) :
  b6y (.ref r) [x] H1 Q:=by
 obtain⟨xs,h1,h2⟩:=d.made
 have k:=n4 (o:=.lst (xs++[x])) h1
 refine⟨r,xs,x,rfl,rfl,h1,by rw[h2.len];exact Q5 hz,q _ ⟨l7 d.sm d.nr,d.nr,d.nu,d.no,d.ru,d.ro,d.uo,⟨_,b6,?_⟩,by rw[c9 (Ne.symm d.ru)];exact d.und,by rw[c9 (Ne.symm d.ro)];exact d.ove,fun z hz=>?_⟩⟩
 ·obtain⟨p,e1,e2⟩:=hx
  exact(h2.tupK k).snoc ⟨p,e1,k.1 _ _ e2⟩
 ·rcases aA9.mp hz with hz | hz
  ·exact d.ok z hz
  ·rw[aA3.mp hz];exact he
theorem cut{E G:Prop}(f:E→G)(h:E):G:=f h
theorem a4r{ns:List Int}(h:0<ns.length)(c:Int):∃z,F7 (ns.map V.int) (c % (((ns.map V.int).length:Nat):Int))=some (.int z)∧z∈ns:=by
 rw[aA0]
 obtain⟨j,hj,e⟩:=a5q h c
 rw[e]
 exact⟨ns[j],j0 (by rw[aB1,List.getElem?_eq_getElem hj];rfl),aF9 hj⟩
theorem b4B(x y:Int)(k:Bool):∃z,F7 [V.int x,V.int y] (if k=true then 1 else 0)=some (.int z):=by
 cases k
 ·exact⟨x,j0 (j:=0) rfl⟩
 ·exact⟨y,j0 (j:=1) rfl⟩
theorem b0p(x y z:Int)(c:Int):∃v,F7 [V.int x,V.int y,V.int z] (c % 3)=some (.int v)∧(v=x∨v=y∨v=z):=by
 obtain⟨j,hj,e⟩:=a5q (n:=3) (by decide) c
 have e:c % 3=(j:Int):=e
 rw[e]
 rcases(show j=0∨j=1∨j=2 by omega) with rfl | rfl | rfl
 ·exact⟨x,j0 rfl,.inl rfl⟩
 ·exact⟨y,j0 rfl,.inr (.inl rfl)⟩
 ·exact⟨z,j0 rfl,.inr (.inr rfl)⟩
theorem a0K{K:PySem.W.Frag}{H:Hp}:∀ns:List Int,u0 K H (ns.map PyData.int) (ns.map V.int)
 | []=>rfl
 | n::ns=>⟨_,_,rfl,by unfold Rep;rfl,a0K ns⟩
theorem a2S:∀ns:List Int,PyData.canLayAll0 (ns.map PyData.int)=true
 | []=>by rw[aJ4,PyData.canLayAll0]
 | n::ns=>by rw[aC3,PyData.canLayAll0,a2S ns];simp[PyData.canLay0]
theorem a3B:∀ns:List Int,PyData.depthAll (ns.map PyData.int)≤1
 | []=>by rw[aJ4,PyData.depthAll];omega
 | n::ns=>by rw[aC3,PyData.depthAll];have:=a3B ns;simp[PyData.depth];omega
theorem b2s(c:Int):∃z,F7 [V.int 0,V.int 0,V.int 0,V.int 1,V.int 2,V.int 4,V.int 3] (c % 7)=some (.int z)∧0≤z∧z<5:=by
 obtain⟨j,hj,e⟩:=a5q (n:=7) (by decide) c
 have e:c % 7=(j:Int):=e
 rw[e]
 rcases(show j=0∨j=1∨j=2∨j=3∨j=4∨j=5∨j=6 by omega) with rfl | rfl | rfl | rfl | rfl | rfl | rfl<;>exact⟨_,j0 rfl,by decide,by decide⟩
inductive a2D(K:PySem.W.Frag)(vs:List V)(H:Hp)(Q:VK):Prop
 | mk (a:Addr) (ns:List Int) (x0:vs=[.ref a]) (x1:d8 K H a (ns.map V.int)) (x2:ns.length≤200) (xq:∀(r:Addr) (xs:List V) (ds:List i9) (H':Hp),f7 H H'→H' r=some (.lst xs)→u4 H' ds xs→ds.length=ns.length→(∀d∈ds,O2 d)→H r=none→Q (.ref r) H')
def a1L(K:PySem.W.Frag):Sp:=fun vs H Q _=>a2D K vs H Q
theorem a9l(T:B6 K mg t):g9 P w K mg base A3 2 t.f__law_deeds t.d__law_deeds ["_law_cells"] (a1L K):=by
 refine T.F__law_deeds.ok r6 (fun vs H Q E h=>?_) (fun cdv A outer s H vs Q E hr h=>?_)
 ·obtain⟨a,ns,rfl,_⟩:=h
  rfl
 obtain⟨a,ns,rfl,hS,hl,q⟩:=h
 refine⟨_,(b9 (g8 (i:=1) r6.nd rfl (Or.inl rfl) (m6 b7))
 (b9 (g8 (i:=2) r6.nd rfl (Or.inl rfl) (m6 b7))
 (b9 (g8 (i:=3) r6.nd rfl (Or.inl rfl) (m6 b7))
 (b9 (g8 (i:=4) r6.nd rfl (Or.inl rfl) d5)
 (b9 (g8 (i:=5) r6.nd rfl (Or.inl rfl) (d7 l5 (m6 (b0 d5 (b0 (d7 l5 (m6 (b0 d5 (b0 d5 b7))) (K7 a6J rfl T.m_int boot_int (b0 (K9 a4B (e7 i5 rfl T.m_len aC6 (b0 (pv 0) b7)) d5 (i7 _)) b7)) (fun _ _=>rfl)) b7))) (j5 G6 (e7 i5 rfl T.m_len aC6 (b0 (pv 0) b7)) d5) (fun _ _=>rfl)))
 (b9 (g8 (i:=6) r6.nd rfl (Or.inl rfl) (d7 l5 (m6 (b0 d5 (b0 d5 (b0 d5 b7)))) (j5 G6 (j5 a4c (e7 (a3U rfl) rfl T.m_sum boot_sum (b0 (N7 R7 (pv 0) P8 (Q2 d5)) b7)) d5) d5) (fun _ _=>rfl)))
 (b9 (y6 aE1 rfl (P2 rfl T.m_range (b0 (e7 i5 rfl T.m_len aC6 (b0 (pv 0) b7)) b7)) (l6 (i:=7) r6.nd rfl (Or.inl rfl))
 (b9 (g8 (i:=8) r6.nd rfl (Or.inl rfl) (j5 G6 (j5 K1 (d7 l5 (pv 0) (pv 7) (fun _ _=>rfl)) (j5 b4h d5 (pv 7))) d5))
 (b9 (g8 (i:=9) r6.nd rfl (Or.inl rfl) (j5 a4c (d7 l5 (pv 0) (pv 7) (fun _ _=>rfl)) d5))
 (b9 (g8 (i:=10) r6.nd rfl (Or.inl rfl) (d7 l5 (pv 0) (j5 G6 (j5 K1 (pv 7) d5) (e7 i5 rfl T.m_len aC6 (b0 (pv 0) b7))) (fun _ _=>rfl)))
 (b9 (g8 (i:=11) r6.nd rfl (Or.inl rfl) (k7 (g9.mono (k:=1) (a3S T) (by decide)) hr rfl T.m__law_ware T.F__law_ware.kp T.F__law_ware.b .nil k8 (b0 (j5 G6 (j5 K1 (pv 10) (pv 7)) (pv 6)) (b0 (j5 G6 (j5 a4c (e7 (a3U rfl) rfl T.m_sum boot_sum (b0 (N7 R7 (pv 0) P8 (Q2 d5)) b7)) d5) d5) b7))))
 (d6 (l4 (PW.pt (R6 (g7 a4B (pv 8) d5 (i7 _)) (O9 (g7 A9 (j5 G6 (j5 K1 (pv 8) (pv 9)) d5) d5 (i7 _)))))
 (d6 (m8 (v9 aB0 aB6 aB8 n6 (pv 1) (b0 (q5 (b0 i8 b7)) b7))))
 (d6 (l4 (g7 A9 (pv 8) d5 (i7 _))
 (b9 (g8 (i:=12) r6.nd rfl (Or.inl rfl) (j5 Q9 (m6 (b0 (pv 4) (b0 (j5 K1 (pv 4) d5) (b0 (b2a a7R d5) (b0 (j5 a0h d5 d5) (b0 (j5 Q8 (b2a a7R d5) (j5 G6 (pv 10) (j5 a0h d5 d5))) b7)))))) (pv 3)))
 (b9 (g8 (i:=13) r6.nd rfl (Or.inl rfl) (d7 l5 (pv 12) (j5 G6 (j5 a4c (pv 10) d5) (e7 i5 rfl T.m_len aC6 (b0 (pv 12) b7))) (fun _ _=>rfl)))
 (b9 (g8 (i:=14) r6.nd rfl (Or.inl rfl) (m6 (b0 (q5 (b0 i8 (b0 (pv 13) (b0 (pv 11) b7)))) (b0 (q5 (b0 i8 (b0 (pv 13) b7))) (b0 (q5 (b0 i8 (b0 (pv 13) b7))) b7)))))
 (b9 (m8 (v9 aB0 aB6 aB8 n6 (pv 14) (b0 (q5 (b0 i8 (b0 (pv 13) (b0 (pv 11) (b0 d5 b7))))) b7)))
 (d6 (m8 (v9 aB0 aB6 aB8 n6 (pv 1) (b0 (d7 l5 (pv 14) (j5 G6 (d7 l5 (pv 0) (j5 G6 (j5 K1 (pv 7) d5) (e7 i5 rfl T.m_len aC6 (b0 (pv 0) b7))) (fun _ _=>rfl)) d5) (fun _ _=>rfl)) b7))))))))
 (d6 (l4 (PW.pt (N9 (g7 (b6B hr.units) (pv 2) (m6 b7) (i7 _)) (L1 (PW.pt (R6 (g7 a9b (pv 8) d5 (i7 _)) (O9 (g7 a9b (e7 i5 rfl T.m_len aC6 (b0 (pv 2) b7)) (pv 5) (i7 _))))))))
 (b9 (m8 (v9 aB0 aB6 aB8 n6 (pv 1) (b0 (q5 (b0 i8 b7)) b7)))
 (b9 (m8 (v9 aB0 aB6 aB8 n6 (pv 2) (b0 (pv 4) b7)))
 (d6 (g8 (i:=4) r6.nd rfl (Or.inl rfl) (j5 K1 (pv 4) d5)))))
 (b9 (g8 (i:=15) r6.nd rfl (Or.inl rfl) (d7 l5 (pv 2) (j5 G6 (j5 K1 (pv 9) (pv 7)) (e7 i5 rfl T.m_len aC6 (b0 (pv 2) b7))) (fun _ _=>rfl)))
 (d6 (l4 (g7 a9b (pv 8) d5 (i7 _))
 (d6 (m8 (v9 aB0 aB6 aB8 n6 (pv 1) (b0 (q5 (b0 i8 (b0 (pv 15) (b0 (pv 11) b7)))) b7))))
 (d6 (l4 (g7 a9b (pv 8) d5 (i7 _))
 (b9 (g8 (i:=16) r6.nd rfl (Or.inl rfl) (m6 (b0 (j5 Q8 (j5 b4h d5 (pv 7)) d5) (b0 d5 (b0 (j5 K1 (j5 a0h d5 d5) (pv 7)) (b0 (j5 Q8 (b2a a7R (j5 a0h d5 d5)) (pv 7)) b7))))))
 (b9 (m8 (v9 aB0 aB6 aB8 n6 (pv 16) (b0 (j5 G6 (pv 10) (j5 Q8 (j5 b9w (j5 a0h d5 d5) (j5 a0h d5 d5)) d5)) b7)))
 (b9 (g8 (i:=17) r6.nd rfl (Or.inl rfl) (d7 l5 (pv 16) (d7 l5 (m6 (b0 d5 (b0 d5 (b0 d5 (b0 d5 (b0 d5 (b0 d5 (b0 d5 b7)))))))) (j5 G6 (j5 K1 (pv 9) (pv 7)) d5) (fun _ _=>rfl)) (fun _ _=>rfl)))
 (d6 (m8 (v9 aB0 aB6 aB8 n6 (pv 1) (b0 (q5 (b0 i8 (b0 (pv 15) (b0 (pv 11) (b0 (pv 17) b7))))) b7)))))))
 (b9 (m8 (v9 aB0 aB6 aB8 n6 (pv 1) (b0 (q5 (b0 (d7 l5 (m6 (b0 i8 (b0 i8 b7))) (K7 a6J rfl T.m_int boot_int (b0 (K9 A9 (pv 8) d5 (i7 _)) b7)) (fun _ _=>rfl)) (b0 (pv 15) b7))) b7)))
 (b9 (m8 (v9 aB0 aR2 PySem.F.type_list_remove a5I (pv 2) (b0 (pv 15) b7)))
 (d6 (m8 (v9 aB0 aB6 aB8 n6 (pv 3) (b0 (pv 15) b7))))))))))))))))))))))
 (d6 (i4 (pv 1)))))))))),?_⟩
 have ln:(ns.map V.int).length=ns.length:=aA0 _
 refine⟨(l8 0),fun r hr0=>⟨(l8 0),fun u hu0=>⟨(l8 0),fun o ho0=>?_⟩⟩⟩
 have s1:=b8 (o:=.lst []) hr0
 have s2:=b8 (o:=.lst []) hu0
 have s3:=b8 (o:=.lst []) ho0
 have back:∀{H1:Hp} {b:Addr},f7 H H1→H1 b=none→H b=none:=fun {H1 b} s h=>by
  cases z:H b with
  | none=>rfl
  | some o=>rw[s _ _ z]at h;cases h
 have D0:DS H r u o [] [] [] (upd (upd (upd H r (.lst [])) u (.lst [])) o (.lst [])):=
  ⟨(s1.trans s2).trans s3,hr0,back s1 hu0,back (s1.trans s2) ho0,(fun z=>by rw[←z,b6]at hu0;cases hu0),(fun z=>by rw[←z,s2 _ _ b6]at ho0;cases ho0),(fun z=>by rw[←z,b6]at ho0;cases ho0),
   ⟨[],s3 _ _ (s2 _ _ b6),.nil⟩,s3 _ _ b6,b6,fun d h=>by simp at h⟩
 generalize upd (upd (upd H r (.lst [])) u (.lst [])) o (.lst [])=H1 at D0 ⊢
 have hS1:=hS.same D0.sm
 refine⟨(l8 2),fun e1 he1=>?_⟩
 have D1:=D0.new (b8 (o:=.lst [.int 9,.int 200]) he1)
 obtain⟨m1,hm1⟩:=b4B 9 200 (decide ((63:Int)<(((ns.map V.int).length:Nat):Int)))
 refine⟨_,rfl,a,_,rfl,.inl (hS.same D1.sm),_,_,rfl,rfl,.inr ⟨_,rfl,e1,_,_,_,rfl,rfl,d8.of b6,hm1,(l8 2),fun e2 he2=>?_⟩⟩
 have D2:=D1.new (b8 (o:=.lst [.int 4,.int m1]) he2)
 obtain⟨m2,hm2⟩:∃z,F7 [V.int 4,V.int m1] ((((ns.map V.int).length:Nat):Int) % 2)=some (.int z):=by
  obtain⟨j,hj,e⟩:=a5q (n:=2) (by decide) (((ns.map V.int).length:Nat):Int)
  have e:(((ns.map V.int).length:Nat):Int) % 2=(j:Int):=e
  rw[e]
  rcases(show j=0∨j=1 by omega) with rfl | rfl
  ·exact⟨_,j0 rfl⟩
  ·exact⟨_,j0 rfl⟩
 refine⟨_,rfl,a,_,rfl,.inl (hS.same D2.sm),_,_,rfl,rfl,(by show(0:Int)<2;decide),e2,_,_,_,rfl,rfl,d8.of b6,hm2,?_⟩
 generalize upd (upd H1 e1 (.lst [.int 9,.int 200])) e2 (.lst [.int 4,.int m1])=H2 at D2 ⊢
 have ec:W4 (ns.map V.int) none (some 1)=(ns.take 1).map V.int:=by rw[show(1:Int)=((1:Nat):Int) from rfl,a5n,aQ3]
 refine⟨(l8 3),fun e3 he3=>?_⟩
 have D3:=D2.new (b8 (o:=.lst [.int 3,.int 3,.int 12]) he3)
 refine⟨_,rfl,_,rfl,a,_,rfl,hS.same D3.sm,fun c hc=>?_⟩
 rw[ec]
 have D4:=D3.new (b8 (o:=.lst ((ns.take 1).map V.int)) hc)
 obtain⟨sz,hsz,hsv⟩:=b0p 3 3 12 (a0H (ns.take 1)/16)
 have hsz0:0<sz∧sz≤12:=by rcases hsv with rfl | rfl | rfl<;>decide
 refine⟨c,_,rfl,d8.of b6,_,_,rfl,rfl,⟨by decide,by decide⟩,_,_,rfl,rfl,(by show(0:Int)<3;decide),e3,_,_,_,rfl,rfl,d8.of (b8 hc _ _ b6),hsz,?_⟩
 generalize upd (upd H2 e3 (.lst [.int 3,.int 3,.int 12])) c (.lst ((ns.take 1).map V.int))=H3 at D4 ⊢
 refine⟨_,rfl,a,_,rfl,.inl (hS.same D4.sm),_,rfl,by omega,by omega,?_⟩
 have en:((((ns.map V.int).length:Nat):Int)).toNat=ns.length:=by omega
 rw[en]
 refine N4 (fun i σ' H'=>∃(bg:Int) (ds:List i9) (us os:List Int) (o7 o8 o9 oA oB oC oD oE oF oG oH:Option V),σ'=[some (.ref a),some (.ref r),some (.ref u),some (.ref o),some (.int bg),some (.int m2),some (.int sz),o7,o8,o9,oA,oB,oC,oD,oE,oF,oG,oH] ∧
   DS H r u o ds us os H'∧ds.length=i∧us.length≤i∧os.length≤i)
  ⟨0,[],[],[],none,none,none,none,none,none,none,none,none,none,none,rfl,D4,rfl,aB3 _,aB3 _⟩ (fun i σ' H' hi h=>?_) (fun σ' H' h=>?_)
 ·obtain⟨bg,ds,us,os,o7,o8,o9,oA,oB,oC,oD,oE,oF,oG,oH,rfl,D,lds,lus,los⟩:=h
  have np:0<ns.length:=by omega
  have npi:(0:Int)<(((ns.map V.int).length:Nat):Int):=by omega
  have hSd:=hS.same D.sm
  have e0:(0:Int)+(i:Int)=((i:Nat):Int):=by omega
  have ax:F7 (ns.map V.int) ((0:Int)+(i:Int))=some (.int ns[i]):=by rw[e0];exact j0 (by rw[aB1,List.getElem?_eq_getElem hi];rfl)
  refine⟨_,rfl,_,rfl,a,_,_,_,rfl,rfl,hSd,ax,_,rfl,_,_,rfl,rfl,.inl ⟨by decide,by decide⟩,_,_,rfl,rfl,_,_,rfl,rfl,(by show(0:Int)<16;decide),?_⟩
  refine⟨_,rfl,_,rfl,a,_,_,_,rfl,rfl,hSd,ax,_,_,rfl,rfl,⟨by decide,by decide⟩,?_⟩
  obtain⟨near,hnear,_⟩:=a4r np (0+(i:Int)+1)
  refine⟨_,rfl,_,rfl,_,_,rfl,rfl,_,rfl,a,_,rfl,.inl hSd,_,_,rfl,rfl,npi,a,_,_,_,rfl,rfl,hSd,hnear,?_⟩
  have m40:=Int.emod_nonneg (a0H (ns.take 1)/48) (show(40:Int)≠0 by decide)
  have m40':=aU2 (a0H (ns.take 1)/48) (show(0:Int)<40 by decide)
  have msz:=Int.emod_nonneg (near+(0+(i:Int))) (show sz≠0 by omega)
  have msz':=aU2 (near+(0+(i:Int))) hsz0.1
  refine⟨_,rfl,_,rfl,_,_,rfl,rfl,_,rfl,_,_,rfl,rfl,hsz0.1,_,rfl,_,rfl,a,_,rfl,hSd,fun cc hcc=>?_⟩
  rw[ec]
  refine⟨cc,_,rfl,d8.of b6,_,_,rfl,rfl,⟨by decide,by decide⟩,_,_,rfl,rfl,(by show(0:Int)<40;decide),_,_,rfl,msz,by omega,m40,by omega,fun g H4 s4 wg=>?_⟩
  have E4:=(D.new (b8 (o:=.lst ((ns.take 1).map V.int)) hcc)).new s4
  generalize (ns[i]+5*(0+(i:Int))) % 16=pick
  generalize ns[i]/16=rest
  refine⟨_,rfl,_,_,rfl,rfl,_,rfl,?_⟩
  refine cut (fun hE=>K3 (fun c1=>⟨_,rfl,_,rfl,_,_,rfl,rfl,_,_,rfl,rfl,(by show(0:Int)<2;decide),rfl,_,rfl,K3 (fun c2=>?swC) (fun c2=>hE)⟩) (fun c1=>e9 hE)) ?_
  case swC=>
   refine⟨_,rfl,.inl ⟨rfl,_,d8.of E4.made.choose_spec.1⟩,(l8 1),fun p hp=>?_⟩
   have E5:=E4.new (b8 (o:=.tup [.str "sweep"]) hp)
   exact E5.add (e:=.sweep) ⟨p,rfl,b6⟩ trivial (by omega) _ fun H6 D'=>⟨_,_,_,_,_,_,_,_,_,_,_,_,_,_,_,rfl,D',by rw[aA4,lds];rfl,by omega,by omega⟩
  refine⟨_,rfl,rfl,_,rfl,K3 (fun c3=>?_) (fun c3=>?_)⟩
  ·
   refine⟨_,rfl,_,rfl,_,_,rfl,rfl,_,rfl,_,_,rfl,rfl,⟨by decide,by decide,by decide⟩,_,rfl,_,rfl,_,_,rfl,rfl,⟨by decide,by decide,by decide⟩,_,_,rfl,rfl,(by show(0:Int)<10 ^ Int.toNat 30;decide),_,_,rfl,rfl,(l8 5),fun e5 he5=>?_⟩
   refine⟨_,rfl,e5,o,_,_,rfl,rfl,b6,(E4.new (b8 he5)).ove,(by show 5+(os.map V.int).length≤sizeLine;rw[aA0,aG2];omega),fun e6 he6=>?_⟩
   have E6:=fun ob=>(E4.new (b8 he5)).new (b8 (o:=ob) he6)
   obtain⟨bad,hbad,_⟩:=a4r (ns:=[bg,bg+1,-1,10 ^ (9:Int).toNat,-2-near % 10 ^ (30:Int).toNat]++os) (by simp) (near/3)
   have hodd:∀Hx:Hp,d8 K (upd Hx e6 (.lst (([bg,bg+1,-1,10 ^ (9:Int).toNat,-2-near % 10 ^ (30:Int).toNat]++os).map V.int))) e6 (([bg,bg+1,-1,10 ^ (9:Int).toNat,-2-near % 10 ^ (30:Int).toNat]++os).map V.int):=fun Hx=>d8.of b6
   refine⟨_,rfl,_,rfl,_,_,rfl,rfl,⟨by decide,by decide⟩,_,rfl,e6,_,rfl,.inl (hodd _),_,_,rfl,rfl,(by rw[aA0,aA4];simp;omega),e6,_,_,_,rfl,rfl,hodd _,hbad,?_⟩
   refine⟨_,rfl,_,rfl,(l8 3),fun p1 hp1=>⟨_,rfl,(l8 2),fun p2 hp2=>⟨_,rfl,(l8 2),fun p3 hp3=>⟨(l8 3),fun em hem=>?_⟩⟩⟩⟩
   have E7:=(((E6 _).new (b8 hp1)).new (b8 hp2)).new (b8 (o:=.tup [.str "leave",.int bad]) hp3)
   obtain⟨a0,a1,a2,a3⟩:=E7.apart hem
   have E8:=E7.new (b8 (o:=.lst [.ref p1,.ref p2,.ref p3]) hem)
   refine⟨_,rfl,.inl ⟨rfl,_,d8.of b6⟩,_,rfl,_,rfl,(l8 4),fun p4 hp4=>?_⟩
   have E9:=E8.new (b8 (o:=.tup [.str "put",.int bad,.str g,.int 7]) hp4)
   have hm9:=b8 (o:=.tup [.str "put",.int bad,.str g,.int 7]) hp4 _ _ (b6 (H:=_) (a:=em) (o:=.lst [.ref p1,.ref p2,.ref p3]))
   refine⟨em,_,_,rfl,rfl,hm9,(zT_ 3),?_⟩
   have EA:=E9.oth (zs:=[.ref p1,.ref p2,.ref p3]++[.ref p4]) a0 a1 a2 a3 hm9
   obtain⟨c2,hc2,_⟩:=a4r np (0+(i:Int)+2)
   have d1:=(n4 (o:=.lst ([.ref p1,.ref p2,.ref p3]++[.ref p4])) hm9).1 _ _ ((J0 (o:=.tup [.str "put",.int bad,.str g,.int 7]) hp4).1 _ _ ((J0 hem).1 _ _ ((J0 hp3).1 _ _ ((J0 hp2).1 p1 [.str "look",.int bad,.str g] b6))))
   have d2:=(n4 (o:=.lst ([.ref p1,.ref p2,.ref p3]++[.ref p4])) hm9).1 _ _ ((J0 (o:=.tup [.str "put",.int bad,.str g,.int 7]) hp4).1 _ _ ((J0 hem).1 _ _ ((J0 hp3).1 p2 [.str "end",.int bad] b6)))
   have d3:=(n4 (o:=.lst ([.ref p1,.ref p2,.ref p3]++[.ref p4])) hm9).1 _ _ ((J0 (o:=.tup [.str "put",.int bad,.str g,.int 7]) hp4).1 _ _ ((J0 hem).1 p3 [.str "leave",.int bad] b6))
   have d4:=(n4 (o:=.lst ([.ref p1,.ref p2,.ref p3]++[.ref p4])) hm9).1 p4 [.str "put",.int bad,.str g,.int 7] b6
   have pk:∃(dd:i9) (b:Addr),F7 ([V.ref p1,V.ref p2,V.ref p3]++[V.ref p4]) (c2 % 4)=some (.ref b)∧((b=p1∧dd=.look bad g)∨(b=p2∧dd=.fin bad)∨(b=p3∧dd=.leave bad)∨(b=p4∧dd=.put bad g 7)):=by
    obtain⟨j,hj,e⟩:=a5q (n:=4) (by decide) c2
    have e:c2 % 4=(j:Int):=e
    rw[e]
    rcases(show j=0∨j=1∨j=2∨j=3 by omega) with rfl | rfl | rfl | rfl
    ·exact⟨.look bad g,_,j0 rfl,.inl ⟨rfl,rfl⟩⟩
    ·exact⟨.fin bad,_,j0 rfl,.inr (.inl ⟨rfl,rfl⟩)⟩
    ·exact⟨.leave bad,_,j0 rfl,.inr (.inr (.inl ⟨rfl,rfl⟩))⟩
    ·exact⟨.put bad g 7,_,j0 rfl,.inr (.inr (.inr ⟨rfl,rfl⟩))⟩
   obtain⟨dd,b,hx,hw⟩:=pk
   refine⟨_,rfl,.inl ⟨rfl,_,d8.of EA.made.choose_spec.1⟩,_,rfl,_,rfl,_,rfl,_,_,rfl,rfl,_,rfl,a,_,rfl,.inl (hS.same EA.sm),_,_,rfl,rfl,npi,a,_,_,_,rfl,rfl,hS.same EA.sm,hc2,_,_,rfl,rfl,(by show(0:Int)<4;decide),em,_,_,_,rfl,rfl,d8.of b6,hx,?_⟩
   refine EA.add (e:=dd) (x:=.ref b) ?_ ?_ (by omega) _ fun H6 D'=>⟨_,_,_,_,_,_,_,_,_,_,_,_,_,_,_,rfl,D',by rw[aA4,lds];rfl,by omega,by omega⟩
   ·rcases hw with ⟨rfl,rfl⟩ | ⟨rfl,rfl⟩ | ⟨rfl,rfl⟩ | ⟨rfl,rfl⟩
    ·exact⟨_,rfl,d1⟩
    ·exact⟨_,rfl,d2⟩
    ·exact⟨_,rfl,d3⟩
    ·exact⟨_,rfl,d4⟩
   ·rcases hw with ⟨rfl,rfl⟩ | ⟨rfl,rfl⟩ | ⟨rfl,rfl⟩ | ⟨rfl,rfl⟩
    ·exact wg
    ·trivial
    ·trivial
    ·exact wg
  ·
   refine⟨_,rfl,(l8 0),fun e5 he5=>?_⟩
   have s5:=b8 (o:=.lst []) he5
   have E5:=E4.new s5
   refine⟨.list (us.map PyData.int),.list [],by unfold Rep;exact⟨u,_,rfl,d8.of E5.und,a0K us⟩,by unfold Rep;exact⟨e5,[],rfl,d8.of b6,rfl⟩,?_,?_,?_,?_⟩
   ·unfold PyData.canLay0;exact a2S us
   ·simp[PyData.canLay0,PyData.canLayAll0]
   ·have:=a3B us;unfold PyData.depth;omega
   refine⟨_,rfl,?_⟩
   generalize upd H4 e5 (.lst [])=H5 at E5 ⊢
   refine cut (fun hB=>K3 (fun c4=>m9 hB) (fun c4=>cut (fun hE=>⟨_,rfl,_,_,rfl,rfl,_,rfl,K3 (fun c5=>⟨_,rfl,u,_,rfl,.inl (d8.of E5.und),_,rfl,_,_,rfl,rfl,_,rfl,K3 (fun c6=>hB) (fun c6=>hE)⟩) (fun c5=>e9 hE)⟩) ?els)) ?_
   case els=>
    have hus:0<us.length:=by
     rcases us with _ | ⟨z,us⟩
     ·simp[PyData.eqv,PyData.eqvAll]at c4
     ·simp
    obtain⟨who,hwho,hin⟩:=a4r hus (rest+(0+(i:Int)))
    refine⟨_,rfl,_,rfl,_,rfl,_,_,rfl,rfl,_,rfl,u,_,rfl,.inl (d8.of E5.und),_,_,rfl,rfl,(by rw[aA0];omega),u,_,_,_,rfl,rfl,d8.of E5.und,hwho,?_⟩
    refine⟨_,rfl,_,_,rfl,rfl,_,rfl,K3 (fun c7=>?_) (fun c7=>?_)⟩
    ·refine⟨_,rfl,.inl ⟨rfl,_,d8.of E5.made.choose_spec.1⟩,_,rfl,_,rfl,(l8 3),fun p hp=>?_⟩
     exact(E5.new (b8 (o:=.tup [.str "look",.int who,.str g]) hp)).add (e:=.look who g) ⟨p,rfl,b6⟩ wg (by omega) _ fun H6 D'=>⟨_,_,_,_,_,_,_,_,_,_,_,_,_,_,_,rfl,D',by rw[aA4,lds];rfl,by omega,by omega⟩
    refine⟨_,rfl,_,_,rfl,rfl,_,rfl,K3 (fun c8=>?_) (fun c8=>?_)⟩
    ·refine⟨_,rfl,_,_,rfl,rfl,.inl ⟨by decide,by decide⟩,_,_,rfl,rfl,_,_,rfl,rfl,⟨by decide,by decide,by decide⟩,_,rfl,_,_,rfl,rfl,_,_,rfl,rfl,⟨by decide,by decide,by decide⟩,_,rfl,_,rfl,_,_,rfl,rfl,(l8 4),fun ea hea=>?_⟩
     obtain⟨a0,a1,a2,a3⟩:=E5.apart hea
     have E6:=fun ob=>E5.new (b8 (o:=ob) hea)
     refine⟨_,rfl,.inl ⟨rfl,_,d8.of b6⟩,_,rfl,_,_,rfl,rfl,⟨by decide,by decide,by decide⟩,_,_,rfl,rfl,⟨by decide,by decide,by decide⟩,_,_,rfl,rfl,b8C,_,_,rfl,rfl,_,_,rfl,rfl,(by show(0:Int)<10 ^ (50:Int).toNat*10 ^ (50:Int).toNat-1;decide +kernel),ea,_,_,rfl,rfl,b6,(zT_ 4),?_⟩
     have E7:=fun(ys zs:List V)=>(E6 (.lst ys)).oth (zs:=zs) a0 a1 a2 a3 b6
     obtain⟨z7,hz7,z70,z75⟩:=b2s (rest+(0+(i:Int)))
     refine⟨_,rfl,(l8 7),fun eb heb=>?_⟩
     have am:∃am,F7 ([3*(0+(i:Int))-40,0,10 ^ (30:Int).toNat+(0+(i:Int)),-10 ^ (30:Int).toNat-(0+(i:Int)),near % (10 ^ (50:Int).toNat*10 ^ (50:Int).toNat-1)].map V.int) z7=some (.int am):=by
      obtain⟨j,rfl⟩:=Int.eq_ofNat_of_zero_le z70
      have hj:j<5:=by omega
      exact⟨_,j0 (by rw[aB1,List.getElem?_eq_getElem (by simpa using hj)];rfl)⟩
     obtain⟨am,ham⟩:=am
     have E8:=fun ob=>(E7 _ _).new (b8 (o:=ob) heb)
     refine⟨_,rfl,_,rfl,_,_,rfl,rfl,_,_,rfl,rfl,(by show(0:Int)<7;decide),eb,_,_,_,rfl,rfl,d8.of b6,hz7,ea,_,_,_,rfl,rfl,d8.of (b8 heb _ _ b6),ham,?_⟩
     refine⟨_,rfl,.inl ⟨rfl,_,d8.of (E8 _).made.choose_spec.1⟩,_,rfl,_,rfl,_,rfl,(l8 4),fun p hp=>?_⟩
     exact((E8 _).new (b8 (o:=.tup [.str "put",.int who,.str g,.int am]) hp)).add (e:=.put who g am) ⟨p,rfl,b6⟩ wg (by omega) _ fun H6 D'=>⟨_,_,_,_,_,_,_,_,_,_,_,_,_,_,_,rfl,D',by rw[aA4,lds];rfl,by omega,by omega⟩
    ·refine⟨_,rfl,.inl ⟨rfl,_,d8.of E5.made.choose_spec.1⟩,(l8 2),fun el hel=>?_⟩
     have E6:=E5.new (b8 (o:=.lst [.str "end",.str "leave"]) hel)
     obtain⟨wd,hwd,hdd⟩:∃wd:Str,F7 [V.str "end",V.str "leave"] (if decide (V.int pick=V.int 14)=true then 1 else 0)=some (.str wd)∧∃dd:i9,dv dd=[.str wd,.int who]∧O2 dd:=by
      cases decide (V.int pick=V.int 14)
      ·exact⟨_,j0 (j:=0) rfl,.fin who,rfl,trivial⟩
      ·exact⟨_,j0 (j:=1) rfl,.leave who,rfl,trivial⟩
     obtain⟨dd,edd,okdd⟩:=hdd
     refine⟨_,rfl,rfl,.inr ⟨_,rfl,el,_,_,_,rfl,rfl,d8.of b6,hwd,_,rfl,(l8 2),fun p hp=>?_⟩⟩
     refine(E6.new (b8 (o:=.tup [.str wd,.int who]) hp)).add (e:=dd) (x:=.ref p) ⟨p,rfl,by rw[edd];exact b6⟩ okdd (by omega) _ fun H6 D'=>?_
     obtain⟨j,hj,hf⟩:=a0j hin
     have le:=List.length_eraseIdx_le us j
     refine⟨_,rfl,.inl ⟨rfl,_,d8.of D'.und⟩,_,rfl,u,us,who,j,rfl,rfl,D'.und,hj,hf,?_⟩
     have DU:=D'.setU (us.eraseIdx j)
     refine⟨_,rfl,.inl ⟨rfl,_,d8.of DU.ove⟩,_,rfl,o,_,_,rfl,rfl,DU.ove,Q5 (by rw[aA0];omega),?_⟩
     rw[show os.map V.int++[V.int who]=(os++[who]).map V.int by simp]
     exact⟨_,_,_,_,_,_,_,_,_,_,_,_,_,_,_,rfl,DU.setO (os++[who]),by rw[aA4,lds];rfl,by omega,by rw[aA4];simp;omega⟩
   refine⟨_,rfl,.inl ⟨rfl,_,d8.of E5.made.choose_spec.1⟩,(l8 1),fun p hp=>?_⟩
   refine(E5.new (b8 (o:=.tup [.str "begin"]) hp)).add (e:=.begin) ⟨p,rfl,b6⟩ trivial (by omega) _ fun H6 D'=>?_
   refine⟨_,rfl,.inl ⟨rfl,_,d8.of D'.und⟩,_,rfl,u,_,_,rfl,rfl,D'.und,Q5 (by rw[aA0];omega),?_⟩
   rw[show us.map V.int++[V.int bg]=(us++[bg]).map V.int by simp]
   exact⟨_,rfl,_,_,rfl,rfl,⟨_,_,_,_,_,_,_,_,_,_,_,_,_,_,_,rfl,D'.setU (us++[bg]),by rw[aA4,lds];rfl,by rw[aA4];simp;omega,by omega⟩⟩
 ·obtain⟨bg,ds,us,os,o7,o8,o9,oA,oB,oC,oD,oE,oF,oG,oH,rfl,D,lds,lus,los⟩:=h
  obtain⟨xs,h1,h2⟩:=D.made
  exact⟨_,rfl,q r xs ds H' D.sm h1 h2 lds D.ok D.nr⟩
def dD:i9→PyData
 | .begin=>.tuple [.str "begin"]
 | .look n g=>.tuple [.str "look",.int n,.str g]
 | .put n g a=>.tuple [.str "put",.int n,.str g,.int a]
 | .fin n=>.tuple [.str "end",.int n]
 | .leave n=>.tuple [.str "leave",.int n]
 | .sweep=>.tuple [.str "sweep"]
theorem a5o.rep{K:PySem.W.Frag}{H:Hp}{d:i9}{x:V}(h:a5o H d x):Rep K H (dD d) x:=by
 obtain⟨p,rfl,h⟩:=h
 cases d with
 | begin=>unfold dD;simp only[Rep,u0];exact⟨p,_,rfl,i3.of h,_,_,rfl,rfl,rfl⟩
 | sweep=>unfold dD;simp only[Rep,u0];exact⟨p,_,rfl,i3.of h,_,_,rfl,rfl,rfl⟩
 | fin n=>unfold dD;simp only[Rep,u0];exact⟨p,_,rfl,i3.of h,_,_,rfl,rfl,_,_,rfl,rfl,rfl⟩
 | leave n=>unfold dD;simp only[Rep,u0];exact⟨p,_,rfl,i3.of h,_,_,rfl,rfl,_,_,rfl,rfl,rfl⟩
 | look n g=>unfold dD;simp only[Rep,u0];exact⟨p,_,rfl,i3.of h,_,_,rfl,rfl,_,_,rfl,rfl,_,_,rfl,rfl,rfl⟩
 | put n g a=>unfold dD;simp only[Rep,u0];exact⟨p,_,rfl,i3.of h,_,_,rfl,rfl,_,_,rfl,rfl,_,_,rfl,rfl,_,_,rfl,rfl,rfl⟩
theorem u4.reps{K:PySem.W.Frag}{H:Hp}:∀{ds:List i9} {xs:List V},u4 H ds xs→u0 K H (ds.map dD) xs
 | _,_,.nil=>rfl
 | _,_,.cons h t=>⟨_,_,rfl,h.rep,u4.reps t⟩
theorem Run.trace{s0 st:j8}{ds:List i9}{as:List u7}(h:Run s0 ds as st):∃f:Nat→j8,f 0=s0∧f ds.length=st∧∀i d a,ds[i]?=some d→as[i]?=some a→Step (f i) d a (f (i+1)):=by
 induction h with
 | nil=>exact⟨fun _=>s0,rfl,rfl,fun i d a h=>by simp at h⟩
 | @snoc ds as st st' d a R S ih=>
  obtain⟨f,f0,f1,fs⟩:=ih
  have la:=a8G R
  refine⟨fun i=>if i=ds.length+1 then st' else f i,?_,?_,fun i e b he hb=>?_⟩
  ·show(if 0=ds.length+1 then _ else _)=_
   rw[aA8 (by omega)];exact f0
  ·show(if (ds++[d]).length=ds.length+1 then _ else _)=_
   rw[aB4 (by simp)]
  ·have li:i<ds.length+1:=by have:=(aA2.mp he).1;simpa using this
   show Step (if i=_ then _ else _) e b (if i+1=_ then _ else _)
   rw[aA8 (by omega)]
   by_cases c:i=ds.length
   ·subst c
    rw[aB4 rfl]
    rw[aF0 (aB3 _)]at he
    rw[aF0 (by omega)]at hb
    simp at he
    rw[la]at hb;simp at hb
    subst he;subst hb
    rw[f1];exact S
   ·rw[aA8 (by omega)]
    rw[aE0 (by omega)]at he
    rw[aE0 (by omega)]at hb
    exact fs i e b he hb
theorem Run.oks{s0 st:j8}{ds:List i9}{as:List u7}{f:Nat→j8}(f0:f 0=s0)(o:C8 s0)(la:as.length=ds.length)(fs:∀i d a,ds[i]?=some d→as[i]?=some a→Step (f i) d a (f (i+1))):∀i,i≤ds.length→C8 (f i):=by
 intro i
 induction i with
 | zero=>intro _;rw[f0];exact o
 | succ i ih=>
  intro h
  have hd:=List.getElem?_eq_getElem (l:=ds) (i:=i) (by omega)
  have ha:=List.getElem?_eq_getElem (l:=as) (i:=i) (by omega)
  exact a4Y (ih (by omega)) (fs i _ _ hd ha)
theorem E3.same{rl:Addr→Role}{H H':Hp}(s:f7 H H'){a:u7}{x:V}(h:E3 rl H a x):E3 rl H' a x:=by
 cases a with
 | num i=>exact h
 | word s=>exact h
 | non=>exact h
 | ring rg=>
  obtain⟨l,zs,e,h1,h2,h3⟩:=h
  exact⟨l,zs,e,s _ _ h1,h2.tupK s.tupK,h3⟩
def u9(st:j8):List Int:=st.under.map (·.num)
theorem erase_filter{n:Int}:∀{ns:List Int} {j:Nat},ns.Nodup→ns[j]?=some n→ns.eraseIdx j=ns.filter fun k=>decide (k≠n)
 | [],j,_,h=>by simp at h
 | m::ns,0,nd,h=>by
  have e:m=n:=by simpa using h
  subst e
  rw[aG4]at nd
  rw[aH9]
  simp only[ne_eq,not_true_eq_false,decide_false,aI8,aO4,List.eraseIdx_zero,List.tail_cons]
  exact(aS9.mpr fun k hk=>by
   have:k≠m:=fun z=>nd.1 (by rw[←z];exact hk)
   simpa using this).symm
 | m::ns,j+1,nd,h=>by
  rw[aG4]at nd
  have h:ns[j]?=some n:=by simpa using h
  have:m≠n:=fun z=>nd.1 (by rw[z];exact aC8 h)
  rw[aL0,aH9,erase_filter nd.2 h]
  simp[this]
theorem b7w(n:Int)(ks:List Int):inV (.int n) (ks.map V.int)=decide (n∈ks):=by
 unfold inV
 induction ks with
 | nil=>rfl
 | cons k ks ih=>
  rw[aC3,aL1,ih]
  have e:eqV (.int k) (.int n)=decide (k=n):=by
   show(k==n)=_
   by_cases z:k=n
   ·subst z;simp
   ·rw[aB2 z];simpa using z
  rw[e]
  by_cases z:k=n
  ·subst z;simp
  ·have z':¬n=k:=fun w=>z w.symm
   simp[z,z']
theorem b5k(ks:List Int):(ks.map V.int).all Y6=true:=by
 induction ks with
 | nil=>rfl
 | cons k ks ih=>rw[aC3,aU1,ih];rfl
structure Gd(st:j8):Prop where
 lk:∀d∈st.under,∀g∈d.looked,M6 g
 as:∀d∈st.under,∀p∈d.aside,M6 p.1
 rl:∀r∈st.recs,∀g∈r.looked,M6 g
 rp:∀r∈st.recs,∀g∈r.put,M6 g
theorem gd0:Gd T8:=⟨(fun d h=>nomatch h),(fun d h=>nomatch h),(fun d h=>nomatch h),(fun d h=>nomatch h)⟩
theorem b4o{ks:List Str}{g h:Str}(z:h∈J8 ks g):h∈ks∨h=g:=by
 unfold J8 at z
 split at z
 ·exact .inl z
 ·rcases aA9.mp z with z | z
  ·exact .inl z
  ·exact .inr (aA3.mp z)
theorem a3R{m:Am}{g:Str}{a:Int}{p:Str×Int}(z:p∈G3 m g a):(∃q∈m,q.1=p.1)∨p.1=g:=by
 unfold G3 at z
 split at z
 ·obtain⟨q,hq,rfl⟩:=aA5.mp z
  refine .inl ⟨q,hq,?_⟩
  split<;>rfl
 ·rcases aA9.mp z with z | z
  ·exact .inl ⟨p,z,rfl⟩
  ·rw[aA3.mp z];exact .inr rfl
theorem O7.good{st:j8}(h:Gd st){d:Dl}(hd:d∈st.under){e:Int}{r:Rec}(k:O7 d e r):(∀g∈r.looked,M6 g)∧∀g∈r.put,M6 g:=by
 obtain⟨_,_,_,p1,p2,_⟩:=k
 refine⟨fun g hg=>h.lk d hd g (p1.mem_iff.mp hg),fun g hg=>?_⟩
 obtain⟨p,hp,rfl⟩:=aA5.mp (p2.mem_iff.mp hg)
 exact h.as d hd p hp
theorem b5u{st st':j8}{d:i9}{a:u7}(h:Gd st)(ok:O2 d)(s:Step st d a st'):Gd st':=by
 have leave:∀n,Gd (G4 st n):=fun n=>⟨fun d hd=>h.lk d (aD2.mp hd).1,fun d hd=>h.as d (aD2.mp hd).1,h.rl,h.rp⟩
 cases s with
 | begin=>
  refine⟨fun d hd=>?_,fun d hd=>?_,h.rl,h.rp⟩
  ·rcases aA9.mp hd with hd | hd
   ·exact h.lk d hd
   ·rw[aA3.mp hd];exact fun g z=>nomatch z
  ·rcases aA9.mp hd with hd | hd
   ·exact h.as d hd
   ·rw[aA3.mp hd];exact fun g z=>nomatch z
 | sweep _=>exact⟨h.lk,h.as,h.rl,h.rp⟩
 | none _ _=>exact h
 | own _ _=>exact h
 | @look d g _ _=>
  refine⟨fun e he=>?_,fun e he=>?_,h.rl,h.rp⟩
  ·obtain⟨e',he',rfl | rfl⟩:=J9 he
   ·exact h.lk _ he'
   ·intro k hk
    rcases b4o hk with hk | rfl
    ·exact h.lk _ he' k hk
    ·exact ok
  ·obtain⟨e',he',rfl | rfl⟩:=J9 he
   ·exact h.as _ he'
   ·exact h.as e' he'
 | @put d g a _=>
  refine⟨fun e he=>?_,fun e he=>?_,h.rl,h.rp⟩
  ·obtain⟨e',he',rfl | rfl⟩:=J9 he
   ·exact h.lk _ he'
   ·exact h.lk e' he'
  ·obtain⟨e',he',rfl | rfl⟩:=J9 he
   ·exact h.as _ he'
   ·intro p hp
    rcases a3R hp with ⟨q,hq,e⟩ | e
    ·rw[←e];exact h.as _ he' q hq
    ·rw[e];exact ok
 | leave _=>exact leave _
 | ring _ _=>exact leave _
 | @ended d r cs row hd E=>
  have g:=E.rc.good h hd
  refine⟨fun d hd=>h.lk d (aD2.mp hd).1,fun d hd=>h.as d (aD2.mp hd).1,fun o ho=>?_,fun o ho=>?_⟩
  ·rcases aA9.mp ho with ho | ho
   ·exact h.rl o ho
   ·rw[aA3.mp ho];exact g.1
  ·rcases aA9.mp ho with ho | ho
   ·exact h.rp o ho
   ·rw[aA3.mp ho];exact g.2
theorem Run.gds{s0:j8}{ds:List i9}{as:List u7}{f:Nat→j8}(f0:f 0=s0)(o:Gd s0)(la:as.length=ds.length)(okd:∀d∈ds,O2 d)(fs:∀i d a,ds[i]?=some d→as[i]?=some a→Step (f i) d a (f (i+1))):∀i,i≤ds.length→Gd (f i):=by
 intro i
 induction i with
 | zero=>intro _;rw[f0];exact o
 | succ i ih=>
  intro h
  have hd:=List.getElem?_eq_getElem (l:=ds) (i:=i) (by omega)
  have ha:=List.getElem?_eq_getElem (l:=as) (i:=i) (by omega)
  exact b5u (ih (by omega)) (okd _ (aC8 hd)) (fs i _ _ hd ha)
theorem T1{A:(L2.St→Hp→Prop)→Prop}{R:L2.St→Hp→Prop}{σ:L2.St}{H:Hp}(h:A fun σ' H'=>σ'=σ∧H'=H)(r:R σ H):∃M,A M∧∀σ' H',M σ' H'→R σ' H':=
 ⟨_,h,fun _ _ z=>by rw[z.1,z.2];exact r⟩
theorem b4E{A:(L2.St→Hp→Prop)→Prop}{R:L2.St→Hp→Prop}{σ:L2.St}(Pr:Hp→Prop)(h:A fun σ' H'=>σ'=σ∧Pr H')(r:∀H',Pr H'→R σ H'):∃M,A M∧∀σ' H',M σ' H'→R σ' H':=
 ⟨_,h,fun _ _ z=>by rw[z.1];exact r _ z.2⟩
theorem b2l(d:i9):d=.begin∨d=.sweep∨∃w n ws,dv d=.str w::.int n::ws∧numOf d=some n∧w≠"begin"∧w≠"sweep":=by
 cases d with
 | begin=>exact .inl rfl
 | sweep=>exact .inr (.inl rfl)
 | _=>exact .inr (.inr ⟨_,_,_,rfl,rfl,by decide,by decide⟩)
theorem b4e{st st':j8}{d:i9}{a:u7}{n:Int}(s:Step st d a st')(hn:numOf d=some n)(h:n∉u9 st):st'=st:=by
 have no:∀{x:Dl},x∈st.under→x.num=n→False:=fun {x} hx e=>h (by rw[←e];exact aA5.mpr ⟨x,hx,rfl⟩)
 cases s with
 | none _ _=>rfl
 | begin=>cases hn
 | sweep _=>cases hn
 | own hd _=>rfl
 | look hd _=>exact(no hd (aC0 hn)).elim
 | put hd=>exact(no hd (aC0 hn)).elim
 | leave hd=>exact(no hd (aC0 hn)).elim
 | ended hd _=>exact(no hd (aC0 hn)).elim
 | ring hd _=>exact(no hd (aC0 hn)).elim
abbrev Try:=Nat×Rec×List Rec
structure WG where
 rl:Addr→Role
 lk:Int→Addr
 as:Int→Addr
 bg:Int→Int
def gOf(rl:Addr→Role):Gh:=⟨rl,0,0,0,0,0,0,fun _=>0,fun _=>0,fun _=>0,fun _=>0,fun _=>0⟩
theorem ur{rl:Addr→Role}{H:Hp}{a b:Addr}{o u:HO}{ρ σ:Role}(e:H b=some u)(h:rl b=σ)(k:rl a=ρ)(n:σ≠ρ):upd H a o b=some u:=d9 (G:=gOf rl) e h k n
def nat(n:Nat):List Int:=(List.range n).map Int.ofNat
theorem a3s{n:Nat}{i:Int}:i∈nat n↔0≤i∧i<(n:Int):=by
 unfold nat
 rw[aA5]
 constructor
 ·rintro⟨k,hk,rfl⟩
  rw[aS3]at hk
  exact⟨Int.natCast_nonneg k,Int.ofNat_lt.mpr hk⟩
 ·rintro⟨h1,h2⟩
  exact⟨i.toNat,aS3.mpr (by omega),aT1 h1⟩
theorem a6y(n:Nat):nat (n+1)=nat n++[(n:Int)]:=by
 unfold nat;rw[List.range_succ,aB5];rfl
theorem a3r(n:Nat):(nat n).length=n:=by unfold nat;simp
def R8(rl:Addr→Role)(H:Hp)(y:Try)(x:V):Prop:=∃b lb v zs,x=.ref b∧H b=some (.tup [.int (y.1:Int),v,.ref lb])∧RcAt rl H y.2.1 v∧H lb=some (.lst zs)∧rl lb=.fz∧Paired (RcAt rl H) y.2.2 zs
theorem R8.same{rl:Addr→Role}{H H':Hp}{y:Try}{x:V}(s:f7 H H')(h:R8 rl H y x):R8 rl H' y x:=
 let ⟨b,lb,v,zs,e,h1,h2,h3,h4,h5⟩:=h;⟨b,lb,v,zs,e,s _ _ h1,h2.same s,s _ _ h3,h4,Paired.mapP h5 fun _ _ z=>z.same s⟩
theorem RcAt.updR{rl:Addr→Role}{H:Hp}{a:Addr}{o:HO}{ρ:Role}{r:Rec}{x:V}(h:RcAt rl H r x)(k:rl a=ρ)(n:Role.fz≠ρ)(t:u5 H (L2.upd H a o)):RcAt rl (L2.upd H a o) r x:=RcAt.upd (G:=gOf rl) h k n t
theorem R8.upd{rl:Addr→Role}{H:Hp}{a:Addr}{o:HO}{ρ:Role}{y:Try}{x:V}(h:R8 rl H y x)(k:rl a=ρ)(n:Role.fz≠ρ)(t:u5 H (L2.upd H a o)):R8 rl (L2.upd H a o) y x:=
 let ⟨b,lb,v,zs,e,h1,h2,h3,h4,h5⟩:=h;⟨b,lb,v,zs,e,t.1 _ _ h1,h2.updR k n t,ur h3 h4 k n,h4,Paired.mapP h5 fun _ _ z=>z.updR k n t⟩
theorem RcAt.rl{rl rl':Addr→Role}{H:Hp}(e:∀b,rl b=.fz→rl' b=.fz){r:Rec}{x:V}(h:RcAt rl H r x):RcAt rl' H r x:=
 let ⟨b,la,pa,x,h1,h2,h3,h4,h5⟩:=h;⟨b,la,pa,x,h1,h2,h3,e _ h4,e _ h5⟩
theorem R8.rl{rl rl':Addr→Role}{H:Hp}(g:∀b,rl b=.fz→rl' b=.fz){y:Try}{x:V}(h:R8 rl H y x):R8 rl' H y x:=
 let ⟨b,lb,v,zs,e,h1,h2,h3,h4,h5⟩:=h;⟨b,lb,v,zs,e,h1,h2.rl g,h3,g _ h4,Paired.mapP h5 fun _ _ z=>z.rl g⟩
theorem a4k(m:Am)(g:Str)(a:Int):(G3 m g a).map (·.1)=if g∈m.map (·.1) then m.map (·.1) else m.map (·.1)++[g]:=by
 rw[b9e]
 have e:((m.any fun p=>decide (p.1=g))=true)↔g∈m.map (·.1):=by
  rw[aO1,aA5]
  exact⟨fun⟨p,h,e⟩=>⟨p,h,by simpa using e⟩,fun⟨p,h,e⟩=>⟨p,h,by simpa using e⟩⟩
 by_cases c:g∈m.map (·.1)
 ·rw[aB4 c,aB4 (e.mpr c)]
 ·rw[aA8 c,aA8 fun z=>c (e.mp z)]
structure WD(W:WG)(H:Hp)(d:Dl):Prop where
 lk:H (W.lk d.num)=some (.lst (d.looked.map V.str))
 as:H (W.as d.num)=some (.lst ((d.aside.map (·.1)).map V.str))
 bg:W.bg d.num=d.beg
 r2:W.rl (W.lk d.num)=.look d.num
 r3:W.rl (W.as d.num)=.side d.num
structure WA(S L M R Y:Addr)(W:WG)(H0 H:Hp)(st:j8)(tr:List Try):Prop where
 sm:f7 H0 H
 nw:∀b,W.rl b≠.free→H0 b=none
 sn:H S=some (.dK (m7 (u9 st) fun n=>.int (W.bg n)))
 lo:H L=some (.dK (m7 (nat st.begun) fun n=>.ref (W.lk n)))
 la:H M=some (.dK (m7 (nat st.begun) fun n=>.ref (W.as n)))
 rc:∃xs,H R=some (.lst xs)∧Paired (RcAt W.rl H) st.recs xs
 ty:∃ys,H Y=some (.lst ys)∧Paired (R8 W.rl H) tr ys
 dl:∀d∈st.under,WD W H d
 r1:W.rl S=.under
 r2:W.rl L=.vers
 r3:W.rl M=.tally
 r4:W.rl R=.recs
 r5:W.rl Y=.deal 0
 cl:∀b,H b=none→W.rl b=.free
section
variable{S L M R Y:Addr}{W:WG}{H0 H:Hp}{st:j8}{tr:List Try}
theorem WA.new{H':Hp}(h:WA S L M R Y W H0 H st tr)(s:f7 H H'):WA S L M R Y W H0 H' st tr where
 sm:=h.sm.trans s
 nw:=h.nw
 sn:=s _ _ h.sn
 lo:=s _ _ h.lo
 la:=s _ _ h.la
 rc:=let ⟨xs,a,b⟩:=h.rc;⟨xs,s _ _ a,Paired.mapP b fun _ _ z=>z.same s⟩
 ty:=let ⟨xs,a,b⟩:=h.ty;⟨xs,s _ _ a,Paired.mapP b fun _ _ z=>z.same s⟩
 dl:=fun d hd=>let D:=h.dl d hd;⟨s _ _ D.lk,s _ _ D.as,D.bg,D.r2,D.r3⟩
 r1:=h.r1
 r2:=h.r2
 r3:=h.r3
 r4:=h.r4
 r5:=h.r5
 cl:=fun b e=>h.cl b (j7 s e)
theorem WA.cong{st':j8}(h:WA S L M R Y W H0 H st tr)(e1:st'.begun=st.begun)(e2:st'.under=st.under)(e3:st'.recs=st.recs):WA S L M R Y W H0 H st' tr:=
 ⟨h.sm,h.nw,by unfold u9;rw[e2];exact h.sn,by rw[e1];exact h.lo,by rw[e1];exact h.la,by rw[e3];exact h.rc,h.ty,by rw[e2];exact h.dl,h.r1,h.r2,h.r3,h.r4,h.r5,h.cl⟩
def wfz(W:WG)(as:List Addr):WG:={ W with rl:=fun b=>if b∈as then .fz else W.rl b }
theorem a8T{as:List Addr}{a:Addr}(h:a∈as):(wfz W as).rl a=.fz:=aB4 h
theorem b2k{as:List Addr}(b:Addr)(h:W.rl b=.fz):(wfz W as).rl b=.fz:=by
 show(if b∈as then _ else _)=_
 split
 ·rfl
 ·exact h
theorem WA.fz(h:WA S L M R Y W H0 H st tr){as:List Addr}(ha:∀a∈as,W.rl a=.free∧H0 a=none∧∃o,H a=some o):WA S L M R Y (wfz W as) H0 H st tr:=by
 have kp:∀b ρ,W.rl b=ρ→ρ≠.free→(wfz W as).rl b=ρ:=fun b ρ e n=>by
  show(if b∈as then _ else _)=_
  rw[aA8 fun z=>n (by rw[←e,(ha b z).1])];exact e
 refine⟨h.sm,fun b hb=>?_,h.sn,h.lo,h.la,?_,?_,fun d hd=>?_,kp _ _ h.r1 (by simp),kp _ _ h.r2 (by simp),kp _ _ h.r3 (by simp),kp _ _ h.r4 (by simp),kp _ _ h.r5 (by simp),fun b e=>?_⟩
 ·by_cases c:b∈as
  ·exact(ha b c).2.1
  ·refine h.nw b fun z=>hb ?_
   show(if b∈as then _ else _)=_
   rw[aA8 c];exact z
 ·obtain⟨xs,a,b⟩:=h.rc
  exact⟨xs,a,Paired.mapP b fun _ _ z=>z.rl b2k⟩
 ·obtain⟨xs,a,b⟩:=h.ty
  exact⟨xs,a,Paired.mapP b fun _ _ z=>z.rl b2k⟩
 ·have D:=h.dl d hd
  exact⟨D.lk,D.as,D.bg,kp _ _ D.r2 (by simp),kp _ _ D.r3 (by simp)⟩
 ·show(if b∈as then _ else _)=_
  rw[aA8 fun z=>by obtain⟨_,_,o,w⟩:=ha b z;rw[e]at w;cases w]
  exact h.cl b e
theorem WA.smU(h:WA S L M R Y W H0 H st tr){a:Addr}(k:W.rl a≠.free)(o:HO):f7 H0 (upd H a o):=l7 h.sm (h.nw a k)
theorem a8v{n:Int}{f:Dl→Dl}(hf:∀d,(f d).num=d.num):u9 { st with under:=F6 st.under n f }=u9 st:=P5 hf
theorem WA.setLk(h:WA S L M R Y W H0 H st tr)(nd:(u9 st).Nodup){d:Dl}(hd:d∈st.under){g:Str}(hg:g∉d.looked) :
  WA S L M R Y W H0 (upd H (W.lk d.num) (.lst (d.looked.map V.str++[.str g]))) { st with under:=F6 st.under d.num (V0 g) } tr:=by
 have D:=h.dl d hd
 have t:u5 H (upd H (W.lk d.num) (.lst (d.looked.map V.str++[.str g]))):=n4 D.lk
 refine⟨h.smU (by rw[D.r2];simp) _,h.nw,?_,ur h.lo h.r2 D.r2 (by simp),ur h.la h.r3 D.r2 (by simp),?_,?_,fun e he=>?_,h.r1,h.r2,h.r3,h.r4,h.r5,fun b e=>h.cl b (v3 e)⟩
 ·rw[a8v (f:=V0 g) fun _=>rfl];exact ur h.sn h.r1 D.r2 (by simp)
 ·obtain⟨xs,a,b⟩:=h.rc
  exact⟨xs,ur a h.r4 D.r2 (by simp),Paired.mapP b fun _ _ z=>z.updR D.r2 (by simp) t⟩
 ·obtain⟨xs,a,b⟩:=h.ty
  exact⟨xs,ur a h.r5 D.r2 (by simp),Paired.mapP b fun _ _ z=>z.upd D.r2 (by simp) t⟩
 ·obtain⟨e',he',rfl⟩:=aA5.mp he
  have E:=h.dl e' he'
  by_cases c:e'.num=d.num
  ·have:e'=d:=M9 nd he' hd c
   subst this
   rw[aB4 rfl]
   refine⟨?_,ur E.as E.r3 E.r2 (by simp),E.bg,E.r2,E.r3⟩
   rw[show(V0 g e').num=e'.num from rfl,b6]
   show _=some (HO.lst ((J8 e'.looked g).map V.str))
   unfold J8
   rw[aA8 hg,aB5];rfl
  ·rw[aA8 c]
   exact⟨ur E.lk E.r2 D.r2 (by simpa using c),ur E.as E.r3 D.r2 (by simp),E.bg,E.r2,E.r3⟩
theorem WA.setAs(h:WA S L M R Y W H0 H st tr)(nd:(u9 st).Nodup){d:Dl}(hd:d∈st.under){g:Str}{x:Int}(hg:g∉d.aside.map (·.1)) :
  WA S L M R Y W H0 (upd H (W.as d.num) (.lst ((d.aside.map (·.1)).map V.str++[.str g]))) { st with under:=F6 st.under d.num (U6 g x) } tr:=by
 have D:=h.dl d hd
 have t:u5 H (upd H (W.as d.num) (.lst ((d.aside.map (·.1)).map V.str++[.str g]))):=n4 D.as
 refine⟨h.smU (by rw[D.r3];simp) _,h.nw,?_,ur h.lo h.r2 D.r3 (by simp),ur h.la h.r3 D.r3 (by simp),?_,?_,fun e he=>?_,h.r1,h.r2,h.r3,h.r4,h.r5,fun b e=>h.cl b (v3 e)⟩
 ·rw[a8v (f:=U6 g x) fun _=>rfl];exact ur h.sn h.r1 D.r3 (by simp)
 ·obtain⟨xs,a,b⟩:=h.rc
  exact⟨xs,ur a h.r4 D.r3 (by simp),Paired.mapP b fun _ _ z=>z.updR D.r3 (by simp) t⟩
 ·obtain⟨xs,a,b⟩:=h.ty
  exact⟨xs,ur a h.r5 D.r3 (by simp),Paired.mapP b fun _ _ z=>z.upd D.r3 (by simp) t⟩
 ·obtain⟨e',he',rfl⟩:=aA5.mp he
  have E:=h.dl e' he'
  by_cases c:e'.num=d.num
  ·have:e'=d:=M9 nd he' hd c
   subst this
   rw[aB4 rfl]
   refine⟨ur E.lk E.r2 E.r3 (by simp),?_,E.bg,E.r2,E.r3⟩
   rw[show(U6 g x e').num=e'.num from rfl,b6]
   show _=some (HO.lst (((G3 e'.aside g x).map (·.1)).map V.str))
   rw[a4k,aA8 hg,aB5];rfl
  ·rw[aA8 c]
   exact⟨ur E.lk E.r2 D.r3 (by simp),ur E.as E.r3 D.r3 (by simpa using c),E.bg,E.r2,E.r3⟩
theorem WA.mod(h:WA S L M R Y W H0 H st tr){n:Int}{f:Dl→Dl}(hf:∀d,(f d).num=d.num∧(f d).beg=d.beg)(hk:∀d∈st.under,d.num=n→(f d).looked=d.looked∧(f d).aside.map (·.1)=d.aside.map (·.1)):WA S L M R Y W H0 H { st with under:=F6 st.under n f } tr:=by
 refine⟨h.sm,h.nw,?_,h.lo,h.la,h.rc,h.ty,fun e he=>?_,h.r1,h.r2,h.r3,h.r4,h.r5,h.cl⟩
 ·rw[a8v fun d=>(hf d).1];exact h.sn
 ·obtain⟨e',he',rfl⟩:=aA5.mp he
  have E:=h.dl e' he'
  by_cases c:e'.num=n
  ·rw[aB4 c]
   obtain⟨k1,k2⟩:=hk e' he' c
   have n1:=(hf e').1
   exact⟨by rw[n1,k1];exact E.lk,by rw[n1,k2];exact E.as,by rw[n1,(hf e').2];exact E.bg,by rw[n1];exact E.r2,by rw[n1];exact E.r3⟩
  ·rw[aA8 c];exact E
theorem WA.drop(h:WA S L M R Y W H0 H st tr)(n:Int):WA S L M R Y W H0 (upd H S (.dK (J6 (m7 (u9 st) fun n=>.int (W.bg n)) (Sum.inl n)))) (G4 st n) tr:=by
 have t:∀o,u5 H (upd H S o):=fun o=>P1 h.sn
 refine⟨h.smU (by rw[h.r1];simp) _,h.nw,?_,ur h.lo h.r2 h.r1 (by simp),ur h.la h.r3 h.r1 (by simp),?_,?_,fun e he=>?_,h.r1,h.r2,h.r3,h.r4,h.r5,fun b e=>h.cl b (v3 e)⟩
 ·rw[b6,a1S]
  show some (HO.dK (m7 _ _))=some (HO.dK (m7 ((Q3 st.under n).map (·.num)) _))
  rw[a5c];rfl
 ·obtain⟨xs,a,b⟩:=h.rc
  exact⟨xs,ur a h.r4 h.r1 (by simp),Paired.mapP b fun _ _ z=>z.updR h.r1 (by simp) (t _)⟩
 ·obtain⟨xs,a,b⟩:=h.ty
  exact⟨xs,ur a h.r5 h.r1 (by simp),Paired.mapP b fun _ _ z=>z.upd h.r1 (by simp) (t _)⟩
 ·have E:=h.dl e (aD2.mp he).1
  exact⟨ur E.lk E.r2 h.r1 (by simp),ur E.as E.r3 h.r1 (by simp),E.bg,E.r2,E.r3⟩
theorem WA.addY(h:WA S L M R Y W H0 H st tr){y:Try}{x:V}{ys:List V}(hy:H Y=some (.lst ys))(hx:R8 W.rl H y x):WA S L M R Y W H0 (upd H Y (.lst (ys++[x]))) st (tr++[y]):=by
 have t:∀o,u5 H (upd H Y o):=fun o=>n4 hy
 obtain⟨zs,z1,z2⟩:=h.ty
 rw[hy]at z1;cases z1
 refine⟨h.smU (by rw[h.r5];simp) _,h.nw,ur h.sn h.r1 h.r5 (by simp),ur h.lo h.r2 h.r5 (by simp),ur h.la h.r3 h.r5 (by simp),?_,⟨_,b6,aK0 (Paired.mapP z2 fun _ _ z=>z.upd h.r5 (by simp) (t _)) (hx.upd h.r5 (by simp) (t _))⟩,fun e he=>?_,h.r1,h.r2,h.r3,h.r4,h.r5,fun b e=>h.cl b (v3 e)⟩
 ·obtain⟨xs,a,b⟩:=h.rc
  exact⟨xs,ur a h.r4 h.r5 (by simp),Paired.mapP b fun _ _ z=>z.updR h.r5 (by simp) (t _)⟩
 ·have E:=h.dl e he
  exact⟨ur E.lk E.r2 h.r5 (by simp),ur E.as E.r3 h.r5 (by simp),E.bg,E.r2,E.r3⟩
theorem WA.addR(h:WA S L M R Y W H0 H st tr){r:Rec}{x:V}{xs:List V}(hR:H R=some (.lst xs))(hx:RcAt W.rl H r x):WA S L M R Y W H0 (upd H R (.lst (xs++[x]))) { st with recs:=st.recs++[r] } tr:=by
 have t:∀o,u5 H (upd H R o):=fun o=>n4 hR
 obtain⟨zs,z1,z2⟩:=h.rc
 rw[hR]at z1;cases z1
 refine⟨h.smU (by rw[h.r4];simp) _,h.nw,ur h.sn h.r1 h.r4 (by simp),ur h.lo h.r2 h.r4 (by simp),ur h.la h.r3 h.r4 (by simp),⟨_,b6,aK0 (Paired.mapP z2 fun _ _ z=>z.updR h.r4 (by simp) (t _)) (hx.updR h.r4 (by simp) (t _))⟩,?_,fun e he=>?_,h.r1,h.r2,h.r3,h.r4,h.r5,fun b e=>h.cl b (v3 e)⟩
 ·obtain⟨xs,a,b⟩:=h.ty
  exact⟨xs,ur a h.r5 h.r4 (by simp),Paired.mapP b fun _ _ z=>z.upd h.r4 (by simp) (t _)⟩
 ·have E:=h.dl e he
  exact⟨ur E.lk E.r2 h.r4 (by simp),ur E.as E.r3 h.r4 (by simp),E.bg,E.r2,E.r3⟩
def a8n(W:WG)(n b:Int)(l1 l2:Addr):WG:=⟨fun x=>if x=l1 then .look n else if x=l2 then .side n else W.rl x,fun m=>if m=n then l1 else W.lk m,fun m=>if m=n then l2 else W.as m,fun m=>if m=n then b else W.bg m⟩
theorem a1o{ks:List Int}{f g:Int→V}(h:∀k∈ks,f k=g k):m7 ks f=m7 ks g:=aE5 fun k hk=>by rw[h k hk]
theorem WA.begin(h:WA S L M R Y W H0 H st tr)(ok:C8 st){l1 l2:Addr}{H1:Hp}(n1:H l1=none)(n2:H l2=none)(n12:l1≠l2)(g1:H1 l1=some (.lst []))(g2:H1 l2=some (.lst []))
  (bt:∀b o,b≠S→b≠L→b≠M→H b=some o→H1 b=some o) (tk:u5 H H1)
  (hs:H1 S=some (.dK (putK (m7 (u9 st) fun n=>.int (W.bg n)) (Sum.inl (st.begun:Int)) (.int (st.recs.length:Int)))))
  (hl:H1 L=some (.dK (putK (m7 (nat st.begun) fun n=>.ref (W.lk n)) (Sum.inl (st.begun:Int)) (.ref l1))))
  (hm:H1 M=some (.dK (putK (m7 (nat st.begun) fun n=>.ref (W.as n)) (Sum.inl (st.begun:Int)) (.ref l2)))) :
  WA S L M R Y (a8n W (st.begun:Int) (st.recs.length:Int) l1 l2) H0 H1 (a9B st) tr:=by
 have new:∀d∈st.under,d.num≠(st.begun:Int):=ok.new
 have nin:(st.begun:Int)∉u9 st:=fun z=>by obtain⟨d,hd,e⟩:=aA5.mp z;exact new d hd e
 have nin2:(st.begun:Int)∉nat st.begun:=fun z=>by have:=(a3s.mp z).2;omega
 have f1:=h.cl l1 n1
 have f2:=h.cl l2 n2
 have kp:∀b ρ,W.rl b=ρ→ρ≠.free→(a8n W (st.begun:Int) (st.recs.length:Int) l1 l2).rl b=ρ:=fun b ρ e n=>by
  show(if b=l1 then _ else if b=l2 then _ else _)=_
  rw[aA8 fun z=>n (by rw[←e,z,f1]),aA8 fun z=>n (by rw[←e,z,f2])];exact e
 have off:∀b o ρ,H b=some o→W.rl b=ρ→ρ≠.under→ρ≠.vers→ρ≠.tally→H1 b=some o:=fun b o ρ e r a1 a2 a3=>bt b o (fun z=>a1 (by rw[←r,z,h.r1])) (fun z=>a2 (by rw[←r,z,h.r2])) (fun z=>a3 (by rw[←r,z,h.r3])) e
 have rcK:∀{r:Rec} {x:V},RcAt W.rl H r x→RcAt (a8n W (st.begun:Int) (st.recs.length:Int) l1 l2).rl H1 r x:=fun {r x} ⟨b,la,pa,e,a1,a2,a3,a4,a5⟩=>
  ⟨b,la,pa,e,tk.1 _ _ a1,off _ _ _ a2 a4 (by simp) (by simp) (by simp),off _ _ _ a3 a5 (by simp) (by simp) (by simp),kp _ _ a4 (by simp),kp _ _ a5 (by simp)⟩
 have h0:∀b,H b=none→H0 b=none:=fun b e=>j7 h.sm e
 refine⟨fun b o e=>?_,fun b hb=>?_,?_,?_,?_,?_,?_,fun d hd=>?_,kp _ _ h.r1 (by simp),kp _ _ h.r2 (by simp),kp _ _ h.r3 (by simp),kp _ _ h.r4 (by simp),kp _ _ h.r5 (by simp),fun b e=>?_⟩
 ·have nn:∀c ρ,W.rl c=ρ→ρ≠.free→b≠c:=fun c ρ r n z=>by rw[z,h.nw c (by rw[r];exact n)] at e;cases e
  exact bt b o (nn S _ h.r1 (by simp)) (nn L _ h.r2 (by simp)) (nn M _ h.r3 (by simp)) (h.sm _ _ e)
 ·by_cases c1:b=l1
  ·rw[c1];exact h0 _ n1
  by_cases c2:b=l2
  ·rw[c2];exact h0 _ n2
  refine h.nw b fun z=>hb ?_
  show(if b=l1 then _ else if b=l2 then _ else _)=_
  rw[aA8 c1,aA8 c2];exact z
 ·rw[hs,M7,aA8 nin]
  show some (HO.dK (m7 _ _))=some (HO.dK (m7 ((st.under++([⟨(st.begun:Int),(st.recs.length:Int),[],[]⟩]:List Dl)).map (·.num)) _))
  rw[aB5]
  congr 2
  refine a1o fun k _=>?_
  show(if k=_ then _ else _)=V.int (if k=_ then _ else _)
  split<;>rfl
 ·rw[hl,M7,aA8 nin2]
  show some (HO.dK (m7 _ _))=some (HO.dK (m7 (nat (st.begun+1)) _))
  rw[a6y]
  congr 2
  refine a1o fun k _=>?_
  show(if k=_ then _ else _)=V.ref (if k=_ then _ else _)
  split<;>rfl
 ·rw[hm,M7,aA8 nin2]
  show some (HO.dK (m7 _ _))=some (HO.dK (m7 (nat (st.begun+1)) _))
  rw[a6y]
  congr 2
  refine a1o fun k _=>?_
  show(if k=_ then _ else _)=V.ref (if k=_ then _ else _)
  split<;>rfl
 ·obtain⟨xs,a,b⟩:=h.rc
  exact⟨xs,off _ _ _ a h.r4 (by simp) (by simp) (by simp),Paired.mapP b fun _ _ z=>rcK z⟩
 ·obtain⟨xs,a,b⟩:=h.ty
  refine⟨xs,off _ _ _ a h.r5 (by simp) (by simp) (by simp),Paired.mapP b fun _ _ ⟨b,lb,v,zs,e,z1,z2,z3,z4,z5⟩=>⟨b,lb,v,zs,e,tk.1 _ _ z1,rcK z2,off _ _ _ z3 z4 (by simp) (by simp) (by simp),kp _ _ z4 (by simp),Paired.mapP z5 fun _ _ z=>rcK z⟩⟩
 ·rcases aA9.mp hd with hd | hd
  ·have D:=h.dl d hd
   have nn:=new d hd
   have e1:(a8n W (st.begun:Int) (st.recs.length:Int) l1 l2).lk d.num=W.lk d.num:=aA8 nn
   have e2:(a8n W (st.begun:Int) (st.recs.length:Int) l1 l2).as d.num=W.as d.num:=aA8 nn
   have e3:(a8n W (st.begun:Int) (st.recs.length:Int) l1 l2).bg d.num=W.bg d.num:=aA8 nn
   exact⟨by rw[e1];exact off _ _ _ D.lk D.r2 (by simp) (by simp) (by simp),by rw[e2];exact off _ _ _ D.as D.r3 (by simp) (by simp) (by simp),by rw[e3];exact D.bg,by rw[e1];exact kp _ _ D.r2 (by simp),by rw[e2];exact kp _ _ D.r3 (by simp)⟩
  ·rw[aA3.mp hd]
   have e1:(a8n W (st.begun:Int) (st.recs.length:Int) l1 l2).lk (st.begun:Int)=l1:=aB4 rfl
   have e2:(a8n W (st.begun:Int) (st.recs.length:Int) l1 l2).as (st.begun:Int)=l2:=aB4 rfl
   refine⟨by show H1 (WG.lk _ _)=_;rw[e1];exact g1,by show H1 (WG.as _ _)=_;rw[e2];exact g2,aB4 rfl,by show WG.rl _ (WG.lk _ _)=_;rw[e1];exact aB4 rfl,?_⟩
   show WG.rl _ (WG.as _ _)=_
   rw[e2]
   show(if l2=l1 then _ else if l2=l2 then _ else _)=_
   rw[aA8 (Ne.symm n12),aB4 rfl]
 ·have hb:H b=none:=by
   cases z:H b with
   | none=>rfl
   | some o=>
    by_cases c1:b=S
    ·rw[c1,hs]at e;cases e
    by_cases c2:b=L
    ·rw[c2,hl]at e;cases e
    by_cases c3:b=M
    ·rw[c3,hm]at e;cases e
    rw[bt b o c1 c2 c3 z]at e;cases e
  show(if b=l1 then _ else if b=l2 then _ else _)=_
  rw[aA8 (fun z=>by rw[z,g1]at e;cases e),aA8 (fun z=>by rw[z,g2]at e;cases e)]
  exact h.cl b hb
end
def both(ks ms:List Str):List Str:=ks.filter fun g=>decide (g∈ms)
theorem a3y(ks ms:List Str):(both ks ms).length≤ks.length:=aH1 _ _
theorem V8(ks ms:List Str)(g:Str):both (ks++[g]) ms=if g∈ms then both ks ms++[g] else both ks ms:=by
 unfold both
 rw[aP6]
 by_cases c:g∈ms
 ·rw[aB4 c];simp[c]
 ·rw[aA8 c];simp[c]
theorem M8(g:Str)(ks:List Str):inV (.str g) (ks.map V.str)=decide (g∈ks):=by
 unfold inV
 induction ks with
 | nil=>rfl
 | cons k ks ih=>
  rw[aC3,aL1,ih]
  have e:eqV (.str k) (.str g)=decide (k=g):=by
   show(k==g)=_
   by_cases z:k=g
   ·subst z;simp
   ·rw[aB2 z];simpa using z
  rw[e]
  by_cases z:k=g
  ·subst z;simp
  ·have z':¬g=k:=fun w=>z w.symm
   simp[z,z']
theorem G5(ks:List Str):(ks.map V.str).all Y6=true:=by
 induction ks with
 | nil=>rfl
 | cons k ks ih=>rw[aC3,aU1,ih];rfl
theorem a5f{K:PySem.W.Frag}{H:Hp}:∀ks:List Str,u0 K H (ks.map PyData.str) (ks.map V.str)
 | []=>rfl
 | _::ks=>⟨_,_,rfl,rfl,a5f ks⟩
theorem X6:∀{ks:List Str},(∀g∈ks,M6 g)→PyData.canLayAll0 (ks.map PyData.str)=true
 | [],_=>by rw[aJ4,PyData.canLayAll0]
 | k::ks,h=>by rw[aC3,PyData.canLayAll0,X6 fun g hg=>h g (aC1 _ hg),PyData.canLay0,(h k aB9).1];rfl
theorem T4:∀ks:List Str,PyData.depthAll (ks.map PyData.str)≤1
 | []=>by simp[PyData.depthAll]
 | k::ks=>by
  rw[aC3,PyData.depthAll]
  have:=T4 ks
  have:(PyData.str k).depth≤1:=by simp[PyData.depth]
  omega
theorem a9w(ks:List Str):(if true=true then !PyData.eqv (.list (ks.map PyData.str)) (.list []) else PyData.eqv (.list (ks.map PyData.str)) (.list []))=!ks.isEmpty:=by
 rw[aB4 rfl]
 cases ks<;>simp[PyData.eqv,PyData.eqvAll]
def a7y(o r:Rec):Bool:=decide (o.fin<r.fin)&&!(both o.put r.put).isEmpty
def a5w(o r:Rec):Bool:=decide (o.fin≤r.beg)&&!(both o.put r.looked).isEmpty
def a0Q(o r:Rec):Bool:=decide (o.beg<r.fin)&&!(both o.looked r.put).isEmpty
def lnk(o r:Rec):Bool:=a7y o r||(a5w o r||a0Q o r)
theorem a0D{ks ms:List Str}:(!(both ks ms).isEmpty)=true↔∃g,g∈ks∧g∈ms:=by
 unfold both
 constructor
 ·intro h
  cases e:ks.filter fun g=>decide (g∈ms) with
  | nil=>rw[e]at h;cases h
  | cons g t=>
   have:g∈ks.filter fun g=>decide (g∈ms):=by rw[e];exact aB9
   obtain⟨a,b⟩:=aD2.mp this
   exact⟨g,a,by simpa using b⟩
 ·rintro⟨g,a,b⟩
  have:g∈ks.filter fun g=>decide (g∈ms):=aD2.mpr ⟨a,by simpa using b⟩
  cases e:ks.filter fun g=>decide (g∈ms) with
  | nil=>rw[e]at this;cases this
  | cons g t=>rfl
theorem a1Z{o r:Rec}:lnk o r=true↔∃l,a7k o r l:=by
 unfold lnk a7y a5w a0Q
 rw[Bool.or_eq_true,Bool.or_eq_true,aE9,aE9,aE9,a0D,a0D,a0D,aT2,aT2,aT2]
 constructor
 ·rintro(⟨a,g,b,c⟩ | ⟨a,g,b,c⟩ | ⟨a,g,b,c⟩)
  ·exact⟨(o.num,r.num,g,"over"),rfl,rfl,.inl ⟨rfl,a,b,c⟩⟩
  ·exact⟨(o.num,r.num,g,"saw"),rfl,rfl,.inr (.inl ⟨rfl,a,b,c⟩)⟩
  ·exact⟨(o.num,r.num,g,"missed"),rfl,rfl,.inr (.inr ⟨rfl,a,b,c⟩)⟩
 ·rintro⟨l,_,_,⟨_,a,b,c⟩ | ⟨_,a,b,c⟩ | ⟨_,a,b,c⟩⟩
  ·exact .inl ⟨a,_,b,c⟩
  ·exact .inr (.inl ⟨a,_,b,c⟩)
  ·exact .inr (.inr ⟨a,_,b,c⟩)
def a9N(r:Rec):Prop:=(∀g∈r.looked,M6 g)∧∀g∈r.put,M6 g
inductive a3C(K:PySem.W.Frag)(vs:List V)(H:Hp)(Q:VK):Prop
 | mk (o r:Rec) (x y:V) (x0:vs=[x,y]) (x1:RecAt K H o x) (x2:RecAt K H r y) (x3:a9N o) (x4:o.looked.length≤1000) (x5:o.put.length≤1000) (xq:∀H',f7 H H'→Q (.bl (lnk o r)) H')
def a7D(K:PySem.W.Frag):Sp:=fun vs H Q _=>a3C K vs H Q
theorem a1F(T:B6 K mg t):g9 P w K mg base A3 1 t.f__law_linked t.d__law_linked ["_law_one","_law_other"] (a7D K):=by
 refine T.F__law_linked.ok a6F (fun vs H Q E h=>?_) (fun cdv A outer s H vs Q E hr h=>?_)
 ·obtain⟨o,r,x,y,rfl,_⟩:=h
  rfl
 obtain⟨o,r,x,y,rfl,⟨p1,la,pa,rfl,hx,laS,paS⟩,⟨p2,lb,pb,rfl,hy,lbS,pbS⟩,gd,z1,z2,q⟩:=h
 refine⟨_,(b9 (P6 (l4 (PW.pt (R6 (g7 a9b (d7 f6 (pv 0) d5 (fun _ _=>rfl)) (d7 f6 (pv 1) d5 (fun _ _=>rfl)) (i7 _)) (O9 (g7 (a6n hr.units) (R9 rfl (u6 (d7 f6 (pv 0) d5 (fun _ _=>rfl))) (K2.mk (own:=["_law_good"]) (tl:=["_law_one","_law_other"]) rfl rfl rfl (fun _ _ _ _ _=>(l6 (i:=0) (V1) rfl (Or.inl rfl))) (fun _ _ _ _ _=>(a2c (g7 a1j (pv 0) (d7 T3 (pv 2) d5 (fun _ _=>rfl)) (by with_unfolding_all rfl)))) (fun _ _ _ _ _=>(pv 0)))) (m6 b7) (i7 _)))))
 (d6 (i4 y0))
 j4))
 (b9 (P6 (l4 (PW.pt (R6 (g7 a4N (d7 f6 (pv 0) d5 (fun _ _=>rfl)) (d7 f6 (pv 1) d5 (fun _ _=>rfl)) (i7 _)) (O9 (g7 (a6n hr.units) (R9 rfl (u6 (d7 f6 (pv 0) d5 (fun _ _=>rfl))) (K2.mk (own:=["_law_good"]) (tl:=["_law_one","_law_other"]) rfl rfl rfl (fun _ _ _ _ _=>(l6 (i:=0) (V1) rfl (Or.inl rfl))) (fun _ _ _ _ _=>(a2c (g7 a1j (pv 0) (d7 T3 (pv 2) d5 (fun _ _=>rfl)) (by with_unfolding_all rfl)))) (fun _ _ _ _ _=>(pv 0)))) (m6 b7) (i7 _)))))
 (d6 (i4 y0))
 j4))
 (d6 (i4 (Z3 (K9 a9b (d7 f6 (pv 0) d5 (fun _ _=>rfl)) (d7 f6 (pv 1) d5 (fun _ _=>rfl)) (i7 _)) (a5h (K9 (a6n hr.units) (R9 rfl (u6 (d7 f6 (pv 0) d5 (fun _ _=>rfl))) (K2.mk (own:=["_law_good"]) (tl:=["_law_one","_law_other"]) rfl rfl rfl (fun _ _ _ _ _=>(l6 (i:=0) (V1) rfl (Or.inl rfl))) (fun _ _ _ _ _=>(a2c (g7 a1j (pv 0) (d7 T3 (pv 2) d5 (fun _ _=>rfl)) (by with_unfolding_all rfl)))) (fun _ _ _ _ _=>(pv 0)))) (m6 b7) (i7 _)))))))),?_⟩
 have rf:=f7.refl H
 refine⟨fun σ' H'=>σ'=[some (.ref p1),some (.ref p2)]∧f7 H H'∧a7y o r=false,?_,fun σ' H' hM=>?_⟩
 ·refine⟨_,rfl,p1,_,2,_,rfl,rfl,hx,rfl,_,rfl,p2,_,2,_,rfl,rfl,hy,rfl,_,_,rfl,rfl,_,rfl,?_⟩
  by_cases c0:o.fin<r.fin
  ·rw[aC4 c0]
   refine m9 ?_
   refine⟨_,rfl,p1,_,4,_,rfl,rfl,hx.same rf,rfl,pa,rfl,⟨_,paS.same rf⟩,fun acc hacc=>?_⟩
   refine J3 (xs:=(o.put).map V.str) (fun i Hc=>f7 H Hc∧Hc acc=some (.lst ((both ((o.put).take i) (r.put)).map V.str))) ⟨(rf).trans (b8 hacc),b6⟩ (fun i Hc _ z=>paS.same z.1) (fun i v Hc hv z=>?_) (fun Hc z=>?_)
   ·obtain⟨sc,a1⟩:=z
    rw[aB1]at hv
    obtain⟨g,hg,rfl⟩:=aD8.mp hv
    have li:=(aA2.mp hg).1
    have tk:(o.put).take (i+1)=(o.put).take i++[g]:=by rw[aD3,hg];rfl
    have bl:=a3y ((o.put).take i) (r.put)
    rw[aD0]at bl
    refine⟨_,rfl,_,rfl,p2,_,4,_,rfl,rfl,hy.same sc,rfl,pb,_,rfl,.inl (pbS.same sc),rfl,G5 _,_,rfl,?_⟩
    rw[aA8 (by decide:¬false=true),M8]
    by_cases c:g∈r.put
    ·rw[aC4 c]
     refine m9 ⟨_,rfl,_,a1,r9 (by rw[aA0];omega),?_,?_⟩
     ·exact l7 sc (j7 (rf) hacc)
     ·rw[b6,tk,V8,aB4 c,aB5];rfl
    ·rw[aB2 c]
     refine e9 ⟨sc,?_⟩
     rw[tk,V8,aA8 c];exact a1
   obtain⟨sc,a1⟩:=z
   rw[aA0,aD5]at a1
   refine⟨(l8 0),fun e he=>?_⟩
   have se:=b8 (o:=.lst []) he
   have lay:∀g∈both (o.put) (r.put),M6 g:=fun g hg=>gd.2 g (aD2.mp hg).1
   refine⟨.list ((both (o.put) (r.put)).map PyData.str),.list [],by unfold Rep;exact⟨acc,_,rfl,d8.of (se _ _ a1),a5f _⟩,by unfold Rep;exact⟨e,[],rfl,d8.of b6,rfl⟩,by unfold PyData.canLay0;exact X6 lay,by simp[PyData.canLay0,PyData.canLayAll0],by have:=T4 (both (o.put) (r.put));unfold PyData.depth;omega,?_⟩
   have sf:=sc.trans se
   generalize upd Hc e (.lst [])=Hf at sf ⊢
   rw[a9w]
   refine⟨_,rfl,?_⟩
   cases cb:(both o.put r.put).isEmpty with
   | false=>
    have e1:a7y o r=true:=by unfold a7y;rw[aC4 c0,cb];rfl
    have:=q Hf sf
    unfold lnk at this
    rw[e1]at this
    exact m9 this
   | true=>exact e9 ⟨rfl,sf,by unfold a7y;rw[cb,Bool.not_true,aS4]⟩
  ·rw[aB2 c0]
   exact e9 ⟨rfl,rf,by unfold a7y;rw[aB2 c0];rfl⟩
 obtain⟨rfl,s1,e1⟩:=hM
 refine⟨fun σ' H'=>σ'=[some (.ref p1),some (.ref p2)]∧f7 H H'∧a5w o r=false,?_,fun σ' H' hM=>?_⟩
 ·refine⟨_,rfl,p1,_,2,_,rfl,rfl,hx.same s1,rfl,_,rfl,p2,_,1,_,rfl,rfl,hy.same s1,rfl,_,_,rfl,rfl,_,rfl,?_⟩
  by_cases c0:o.fin≤r.beg
  ·rw[aC4 c0]
   refine m9 ?_
   refine⟨_,rfl,p1,_,4,_,rfl,rfl,hx.same s1,rfl,pa,rfl,⟨_,paS.same s1⟩,fun acc hacc=>?_⟩
   refine J3 (xs:=(o.put).map V.str) (fun i Hc=>f7 H Hc∧Hc acc=some (.lst ((both ((o.put).take i) (r.looked)).map V.str))) ⟨(s1).trans (b8 hacc),b6⟩ (fun i Hc _ z=>paS.same z.1) (fun i v Hc hv z=>?_) (fun Hc z=>?_)
   ·obtain⟨sc,a1⟩:=z
    rw[aB1]at hv
    obtain⟨g,hg,rfl⟩:=aD8.mp hv
    have li:=(aA2.mp hg).1
    have tk:(o.put).take (i+1)=(o.put).take i++[g]:=by rw[aD3,hg];rfl
    have bl:=a3y ((o.put).take i) (r.looked)
    rw[aD0]at bl
    refine⟨_,rfl,_,rfl,p2,_,3,_,rfl,rfl,hy.same sc,rfl,lb,_,rfl,.inl (lbS.same sc),rfl,G5 _,_,rfl,?_⟩
    rw[aA8 (by decide:¬false=true),M8]
    by_cases c:g∈r.looked
    ·rw[aC4 c]
     refine m9 ⟨_,rfl,_,a1,r9 (by rw[aA0];omega),?_,?_⟩
     ·exact l7 sc (j7 (s1) hacc)
     ·rw[b6,tk,V8,aB4 c,aB5];rfl
    ·rw[aB2 c]
     refine e9 ⟨sc,?_⟩
     rw[tk,V8,aA8 c];exact a1
   obtain⟨sc,a1⟩:=z
   rw[aA0,aD5]at a1
   refine⟨(l8 0),fun e he=>?_⟩
   have se:=b8 (o:=.lst []) he
   have lay:∀g∈both (o.put) (r.looked),M6 g:=fun g hg=>gd.2 g (aD2.mp hg).1
   refine⟨.list ((both (o.put) (r.looked)).map PyData.str),.list [],by unfold Rep;exact⟨acc,_,rfl,d8.of (se _ _ a1),a5f _⟩,by unfold Rep;exact⟨e,[],rfl,d8.of b6,rfl⟩,by unfold PyData.canLay0;exact X6 lay,by simp[PyData.canLay0,PyData.canLayAll0],by have:=T4 (both (o.put) (r.looked));unfold PyData.depth;omega,?_⟩
   have sf:=sc.trans se
   generalize upd Hc e (.lst [])=Hf at sf ⊢
   rw[a9w]
   refine⟨_,rfl,?_⟩
   cases cb:(both o.put r.looked).isEmpty with
   | false=>
    have e2:a5w o r=true:=by unfold a5w;rw[aC4 c0,cb];rfl
    have:=q Hf sf
    unfold lnk at this
    rw[e1,e2]at this
    exact m9 this
   | true=>exact e9 ⟨rfl,sf,by unfold a5w;rw[cb,Bool.not_true,aS4]⟩
  ·rw[aB2 c0]
   exact e9 ⟨rfl,s1,by unfold a5w;rw[aB2 c0];rfl⟩
 obtain⟨rfl,s2,e2⟩:=hM
 have q:∀H',f7 H H'→Q (.bl (a0Q o r)) H':=fun H' s=>by
  have:=q H' s
  unfold lnk at this
  rw[e1,e2]at this
  exact this
 refine⟨_,rfl,p1,_,1,_,rfl,rfl,hx.same s2,rfl,_,rfl,p2,_,2,_,rfl,rfl,hy.same s2,rfl,_,_,rfl,rfl,_,rfl,?_⟩
 by_cases c0:o.beg<r.fin
 ·rw[aC4 c0]
  refine m9 ?_
  refine⟨_,rfl,p1,_,3,_,rfl,rfl,hx.same s2,rfl,la,rfl,⟨_,laS.same s2⟩,fun acc hacc=>?_⟩
  refine J3 (xs:=(o.looked).map V.str) (fun i Hc=>f7 H Hc∧Hc acc=some (.lst ((both ((o.looked).take i) (r.put)).map V.str))) ⟨(s2).trans (b8 hacc),b6⟩ (fun i Hc _ z=>laS.same z.1) (fun i v Hc hv z=>?_) (fun Hc z=>?_)
  ·obtain⟨sc,a1⟩:=z
   rw[aB1]at hv
   obtain⟨g,hg,rfl⟩:=aD8.mp hv
   have li:=(aA2.mp hg).1
   have tk:(o.looked).take (i+1)=(o.looked).take i++[g]:=by rw[aD3,hg];rfl
   have bl:=a3y ((o.looked).take i) (r.put)
   rw[aD0]at bl
   refine⟨_,rfl,_,rfl,p2,_,4,_,rfl,rfl,hy.same sc,rfl,pb,_,rfl,.inl (pbS.same sc),rfl,G5 _,_,rfl,?_⟩
   rw[aA8 (by decide:¬false=true),M8]
   by_cases c:g∈r.put
   ·rw[aC4 c]
    refine m9 ⟨_,rfl,_,a1,r9 (by rw[aA0];omega),?_,?_⟩
    ·exact l7 sc (j7 (s2) hacc)
    ·rw[b6,tk,V8,aB4 c,aB5];rfl
   ·rw[aB2 c]
    refine e9 ⟨sc,?_⟩
    rw[tk,V8,aA8 c];exact a1
  obtain⟨sc,a1⟩:=z
  rw[aA0,aD5]at a1
  refine⟨(l8 0),fun e he=>?_⟩
  have se:=b8 (o:=.lst []) he
  have lay:∀g∈both (o.looked) (r.put),M6 g:=fun g hg=>gd.1 g (aD2.mp hg).1
  refine⟨.list ((both (o.looked) (r.put)).map PyData.str),.list [],by unfold Rep;exact⟨acc,_,rfl,d8.of (se _ _ a1),a5f _⟩,by unfold Rep;exact⟨e,[],rfl,d8.of b6,rfl⟩,by unfold PyData.canLay0;exact X6 lay,by simp[PyData.canLay0,PyData.canLayAll0],by have:=T4 (both (o.looked) (r.put));unfold PyData.depth;omega,?_⟩
  have sf:=sc.trans se
  generalize upd Hc e (.lst [])=Hf at sf ⊢
  rw[a9w]
  have:=q Hf sf
  unfold a0Q at this
  rw[aC4 c0]at this
  exact this
 ·rw[aB2 c0]
  have:=q _ s2
  unfold a0Q at this
  rw[aB2 c0]at this
  exact e9 this
inductive Rch(rs:List Rec)(r:Rec):Rec→Prop
 | base:Rch rs r r
 | step {o p:Rec}:Rch rs r o→p∈rs++[r]→o.num≠p.num→lnk o p=true→p.num≠r.num→Rch rs r p
def a6N(rs:List Rec)(r:Rec):Prop:=∃o,Rch rs r o∧o.num≠r.num∧lnk o r=true
theorem b2C{o p:Rec}(h:rd o=rd p):o=p:=by
 unfold rd at h
 cases o;cases p
 simp only[PyData.tuple.injEq,List.cons.injEq,PyData.int.injEq,PyData.list.injEq,and_true]at h
 obtain⟨a,b,c,d,e⟩:=h
 have inj:∀{k m:List Str},k.map PyData.str=m.map PyData.str→k=m:=fun {k m} e=>aT9 (fun a b e=>PyData.str.inj e) |>.mp e
 rw[a,b,c,inj d,inj e]
theorem a7O:∀ks:List Str,B9 (ks.map PyData.str)=true
 | []=>by rw[aJ4,B9]
 | k::ks=>by rw[aC3,B9,a7O ks];simp[z8]
theorem a8S(r:Rec):z8 (rd r)=true:=by unfold rd;simp[z8,B9,a7O]
theorem b7i{r:Rec}(h:a9N r):(rd r).canLay0=true:=by unfold rd;simp[PyData.canLay0,PyData.canLayAll0,X6 h.1,X6 h.2]
theorem a9X:∀{rs:List Rec},(∀r∈rs,a9N r)→PyData.canLayAll0 (rs.map rd)=true
 | [],_=>by rw[aJ4,PyData.canLayAll0]
 | r::rs,h=>by rw[aC3,PyData.canLayAll0,a9X fun o ho=>h o (aC1 _ ho),b7i (h r aB9)];rfl
theorem b1p(r:Rec):(rd r).depth≤10:=by
 unfold rd
 simp only[PyData.depth,PyData.depthAll]
 have:=T4 r.looked
 have:=T4 r.put
 omega
theorem b7g(p:Rec)(seen:List Rec):((seen.map rd).any fun e=>PyData.eqv e (rd p))=true↔p∈seen:=by
 rw[List.any_map,aO1]
 constructor
 ·rintro⟨o,ho,e⟩
  have:=b2C (b7k (rd o) (rd p) (a8S o) (a8S p) e)
  rw[←this];exact ho
 ·intro h
  exact⟨p,h,a3x (rd p) (a8S p)⟩
theorem a1i{all:List Rec}(nd:(all.map (·.num)).Nodup){o p:Rec}(ho:o∈all)(hp:p∈all)(e:o.num=p.num):o=p:=by
 obtain⟨i,hi⟩:=aD9.mp ho
 obtain⟨j,hj⟩:=aD9.mp hp
 have li:=(aA2.mp hi).1
 have:i=j:=(aF4 (l:=all.map (·.num)) (by rw[aA0];exact li) nd).mp (by rw[aB1,aB1,hi,hj];simp[e])
 subst this
 rw[hi]at hj;exact aC0 hj
structure a4h(rs:List Rec)(r:Rec)(seen:List Rec):Prop where
 nd:(seen.map (·.num)).Nodup
 mem:∀o∈seen,o∈rs++[r]∧Rch rs r o
 me:r∈seen
def Cl(rs:List Rec)(r s:Rec)(ps seen:List Rec):Prop:=∀p∈ps,s.num≠p.num→lnk s p=true→p.num≠r.num∧p∈seen
theorem a4h.len{rs:List Rec}{r:Rec}{seen:List Rec}(h:a4h rs r seen):seen.length≤rs.length+1:=by
 have:=A4 (l:=seen.map (·.num)) (m:=(rs++[r]).map (·.num)) h.nd fun x hx=>by
  obtain⟨o,ho,e⟩:=aA5.mp hx
  exact aA5.mpr ⟨o,(h.mem o ho).1,e⟩
 simpa using this
inductive a6B(K:PySem.W.Frag)(vs:List V)(H:Hp)(Q:VK):Prop
 | mk (a:Addr) (x:V) (us:List V) (rs:List Rec) (r:Rec) (rl:Addr→Role) (x0:vs=[.ref a,x]) (x1:H a=some (.lst us)) (x2:Paired (RcAt rl H) rs us) (x3:RcAt rl H r x) (x4:((rs++[r]).map (·.num)).Nodup) (x5:(∀o∈rs++[r],a9N o∧o.looked.length≤63∧o.put.length≤63)) (x6:rs.length≤63) (x7:(∀H',f7 H H'→a6N rs r→Q (.bl true) H')) (xq:(∀H',f7 H H'→¬a6N rs r→Q (.bl false) H'))
def a1G(K:PySem.W.Frag):Sp:=fun vs H Q _=>a6B K vs H Q
theorem a7H(T:B6 K mg t):g9 P w K mg base A3 2 t.f__law_ringed t.d__law_ringed ["_law_records","_law_record"] (a1G K):=by
 refine T.F__law_ringed.ok P0 (fun vs H Q E h=>?_) (fun cdv A outer s H vs Q E hr h=>?_)
 ·obtain⟨a,x,us,rs,r,rl,rfl,_⟩:=h
  rfl
 obtain⟨a,x,us,rs,r,rl,rfl,ha,pu,hx,nd,gd,bn,qT,qF⟩:=h
 refine⟨_,(b9 (g8 (i:=2) P0.nd rfl (Or.inl rfl) (m6 (b0 (pv 1) b7)))
 (b9 (g8 (i:=3) P0.nd rfl (Or.inl rfl) d5)
 (b9 (a7l aE1 (g7 a9b (pv 3) (e7 i5 rfl T.m_len aC6 (b0 (pv 2) b7)) (i7 _))
 (b9 (y6 aE1 rfl (u6 (j5 Q9 (pv 0) (m6 (b0 (pv 1) b7)))) (l6 (i:=4) P0.nd rfl (Or.inl rfl))
 (d6 (l4 (PW.pt (R6 (g7 N3 (d7 f6 (pv 4) d5 (fun _ _=>rfl)) (d7 f6 (d7 l5 (pv 2) (pv 3) (fun _ _=>rfl)) d5 (fun _ _=>rfl)) (i7 _)) (O9 (C4 (k7 (g9.mono (k:=1) (a1F T) (by decide)) hr rfl T.m__law_linked T.F__law_linked.kp T.F__law_linked.b .nil k8 (b0 (d7 l5 (pv 2) (pv 3) (fun _ _=>rfl)) (b0 (pv 4) b7)))))))
 (b9 (l4 (g7 A9 (d7 f6 (pv 4) d5 (fun _ _=>rfl)) (d7 f6 (pv 1) d5 (fun _ _=>rfl)) (i7 _))
 (d6 (i4 y0))
 j4)
 (d6 (l4 (g7 (b6k hr.units) (pv 4) (pv 2) (by with_unfolding_all rfl))
 (d6 (m8 (v9 aB0 aB6 aB8 n6 (pv 2) (b0 (pv 4) b7))))
 j4)))
 j4)))
 (d6 (g8 (i:=3) P0.nd rfl (Or.inl rfl) (j5 K1 (pv 3) d5)))))
 (d6 (i4 y0))))),?_⟩
 have lu:=p6 pu
 have pall:Paired (RcAt rl H) (rs++[r]) (us++[x]):=aK0 pu hx
 have lall:=p6 pall
 rw[aA4,aA4]at lall
 obtain⟨bx,lax,pax,ex,hbx,_⟩:=hx
 have hx:RcAt rl H r x:=⟨bx,lax,pax,ex,hbx,‹_›⟩
 refine⟨_,rfl,(l8 1),fun sl hsl=>?_⟩
 have s0:=b8 (o:=.lst [x]) hsl
 refine⟨fun m σ' Hc=>∃(sp:Nat) (o4:Option V) (seen:List Rec) (zs:List V),m+sp=rs.length+1∧sp≤seen.length∧σ'=[some (.ref a),some x,some (.ref sl),some (.int (sp:Int)),o4]∧f7 H Hc∧Hc sl=some (.lst zs)∧Paired (RcAt rl H) seen zs∧a4h rs r seen∧∀k,k<sp→∀o,seen[k]?=some o→Cl rs r o (rs++[r]) seen,⟨rs.length+1,0,none,[r],[x],rfl,aG3 _,rfl,s0,b6,.cons hx .nil,⟨by simp,fun o ho=>?_,by simp⟩,fun k hk=>absurd hk (Nat.not_lt_zero _)⟩,fun m σ' Hc hW=>?_⟩
 ·rw[aA3.mp ho];exact⟨by simp,.base⟩
 obtain⟨sp,o4,seen,zs,hm,hsp,rfl,sc,hz,pz,sk,cl⟩:=hW
 have lz:=p6 pz
 have ls:=sk.len
 refine⟨_,rfl,_,rfl,sl,zs,rfl,.inl (d8.of hz),_,_,rfl,rfl,_,rfl,?_⟩
 by_cases c0:sp<seen.length
 ·rw[show decide ((sp:Int)<(zs.length:Int))=true from aC4 (by omega)]
  refine K3 (fun _=>?_) (fun z=>absurd rfl z)
  obtain⟨sr,hsr⟩:∃sr,seen[sp]?=some sr:=⟨_,List.getElem?_eq_getElem c0⟩
  refine⟨fun σ' Hc=>∃(o4:Option V) (seen:List Rec) (zs:List V),sp+1≤seen.length∧σ'=[some (.ref a),some x,some (.ref sl),some (.int ((sp:Int)+1)),o4]∧f7 H Hc∧Hc sl=some (.lst zs)∧Paired (RcAt rl H) seen zs∧a4h rs r seen∧∀k,k<sp+1→∀o,seen[k]?=some o→Cl rs r o (rs++[r]) seen,fun σ' Hc hN=>?_,?_⟩
  ·obtain⟨o4,seen,zs,h1,h2,h3⟩:=hN
   exact⟨m-1,by omega,sp+1,o4,seen,zs,by omega,h1,h2,h3⟩
  refine⟨_,rfl,_,rfl,(l8 1),fun e1 he1=>?_⟩
  have s1:=b8 (o:=.lst [x]) he1
  refine⟨a,e1,us,[x],rfl,rfl,s1 _ _ (sc _ _ ha),b6,(by rw[lu,aG2];simp;omega),fun c hc=>?_⟩
  have s2:=b8 (o:=.lst (us++[x])) hc
  have hc2:(upd (upd Hc e1 (.lst [x])) c (.lst (us++[x]))) c=some (.lst (us++[x])):=b6
  have sc2:=(sc.trans s1).trans s2
  have hz2:=s2 _ _ (s1 _ _ hz)
  generalize upd (upd Hc e1 (.lst [x])) c (.lst (us++[x]))=H2 at hc2 sc2 hz2 ⊢
  have ncs:c≠sl:=fun z=>by rw[z,s1 _ _ hz]at hc;cases hc
  refine⟨c,rfl,⟨_,d8.of hc2⟩,?_⟩
  refine A7 (xs:=us++[x]) (fun j σ' Hd=>∃(o4:Option V) (seen:List Rec) (zs:List V),σ'=[some (.ref a),some x,some (.ref sl),some (.int (sp:Int)),o4]∧f7 H Hd∧Hd c=some (.lst (us++[x]))∧Hd sl=some (.lst zs)∧Paired (RcAt rl H) seen zs∧a4h rs r seen∧seen[sp]?=some sr∧Cl rs r sr ((rs++[r]).take j) seen∧∀k,k<sp→∀o,seen[k]?=some o→Cl rs r o (rs++[r]) seen)
   ⟨o4,seen,zs,rfl,sc2,hc2,hz2,pz,sk,hsr,(fun p hp=>by rw[aS2]at hp;cases hp),cl⟩ (fun j σ' Hd _ z=>?_) (fun j v σ' Hd hv z=>?_) (fun σ' Hd z=>?_)
  ·obtain⟨_,_,_,_,_,h1,_⟩:=z
   exact d8.of h1
  ·clear hz pz sk cl lz ls hsp c0 hsr hz2
   obtain⟨o4,seen,zs,rfl,sd,hcd,hz,pz,sk,hsr,clj,cl⟩:=z
   have lz:=p6 pz
   have ls:=sk.len
   obtain⟨p,hp,b,la,pa,rfl,hb,hla,hpa,f1,f2⟩:=C2 pall hv
   have hpm:=aC8 hp
   have rp:RcAt rl H p (.ref b):=⟨b,la,pa,rfl,hb,hla,hpa,f1,f2⟩
   have lsp:=(aA2.mp hsr).1
   have hzi:=List.getElem?_eq_getElem (show sp<zs.length by omega)
   obtain⟨s',hs',rs'⟩:=C2 pz hzi
   rw[hsr]at hs';cases hs'
   have az:F7 zs (sp:Int)=some zs[sp]:=j0 hzi
   generalize zs[sp]=zv at az rs' hzi
   obtain⟨bs,las,pas,rfl,hbs,h21,h22,h23,h24⟩:=rs'
   have rsr:RcAt rl H sr (.ref bs):=⟨bs,las,pas,rfl,hbs,h21,h22,h23,h24⟩
   have tk:(rs++[r]).take (j+1)=(rs++[r]).take j++[p]:=by rw[aD3,hp];rfl
   have srm:=(sk.mem sr (aC8 hsr))
   have keep:∀(Hn:Hp),f7 Hd Hn→(sr.num≠p.num→lnk sr p=true→p.num≠r.num∧p∈seen)→∃(o4':Option V) (seen:List Rec) (zs:List V),[some (.ref a),some x,some (.ref sl),some (.int (sp:Int)),some (.ref b)]=[some (.ref a),some x,some (.ref sl),some (.int (sp:Int)),o4']∧f7 H Hn∧Hn c=some (.lst (us++[x]))∧Hn sl=some (.lst zs)∧Paired (RcAt rl H) seen zs∧a4h rs r seen∧seen[sp]?=some sr∧Cl rs r sr ((rs++[r]).take (j+1)) seen∧∀k,k<sp→∀o,seen[k]?=some o→Cl rs r o (rs++[r]) seen:=fun Hn sn hn=>
    ⟨_,seen,zs,rfl,sd.trans sn,sn _ _ hcd,sn _ _ hz,pz,sk,hsr,fun q hq=>by
     rw[tk]at hq
     rcases aA9.mp hq with hq | hq
     ·exact clj q hq
     ·rw[aA3.mp hq];exact hn,cl⟩
   refine⟨_,rfl,b,_,0,_,rfl,rfl,i3.of (sd _ _ hb),rfl,_,rfl,_,rfl,sl,_,_,_,rfl,rfl,d8.of hz,az,bs,_,0,_,rfl,rfl,i3.of (sd _ _ hbs),rfl,rfl,_,rfl,?_⟩
   by_cases c1:p.num=sr.num
   ·refine U8 (by rw[c1]) (e9 ?_)
    exact keep Hd (f7.refl Hd) fun z=>absurd c1.symm z
   rw[show(!decide (V.int p.num=V.int sr.num))=true by rw[aB2 fun z=>c1 (V.int.inj z)];rfl]
   refine m9 ?_
   obtain⟨g1,g2,g3⟩:=gd sr srm.1
   refine⟨_,rfl,_,rfl,sl,_,_,_,rfl,rfl,d8.of hz,az,_,rfl,sr,p,_,_,rfl,(rsr.same sd).rec,(rp.same sd).rec,g1,by omega,by omega,fun H3 s3=>⟨_,rfl,?_⟩⟩
   cases cl0:lnk sr p with
   | false=>exact e9 (keep H3 s3 fun _ z=>by rw[cl0]at z;cases z)
   | true=>
    refine m9 ?_
    have sd3:=sd.trans s3
    subst ex
    refine⟨_,rfl,b,_,0,_,rfl,rfl,i3.of (sd3 _ _ hb),rfl,_,rfl,bx,_,0,_,rfl,rfl,i3.of (sd3 _ _ hbx),rfl,rfl,_,rfl,?_⟩
    by_cases c2:p.num=r.num
    ·rw[show decide (V.int p.num=V.int r.num)=true from aC4 (by rw[c2])]
     refine m9 (qT _ sd3 ⟨sr,srm.2,fun z=>c1 (by rw[z,c2]),?_⟩)
     rw[←a1i nd hpm (by simp) c2];exact cl0
    rw[show decide (V.int p.num=V.int r.num)=false from aB2 fun z=>c2 (V.int.inj z)]
    refine e9 ?_
    refine⟨_,rfl,_,rfl,rd p,sl,zs,seen.map rd,a2h.mpr (rp.same sd3).rec,rfl,.inl (d8.of (s3 _ _ hz)),a9x (Paired.mapP pz fun _ _ z=>z.same sd3),b7i (gd p hpm).1,a9X (fun o ho=>(gd o (sk.mem o ho).1).1),aD7 (b1p p) (by decide),_,rfl,?_⟩
    by_cases c3:p∈seen
    ·rw[aB4 rfl,(b7g p seen).mpr c3]
     exact e9 (keep H3 s3 fun _ _=>⟨c2,c3⟩)
    ·rw[aB4 rfl,show((seen.map rd).any fun e=>PyData.eqv e (rd p))=false from aK7.mpr fun z=>c3 ((b7g p seen).mp z)]
     refine m9 ?_
     have ncs':c≠sl:=ncs
     refine⟨_,rfl,.inl ⟨rfl,_,d8.of (s3 _ _ hz)⟩,_,rfl,sl,zs,_,rfl,rfl,s3 _ _ hz,r9 (by omega),?_⟩
     have up:∀o∈seen,o∈seen++[p]:=fun o ho=>aE3 _ ho
     refine⟨_,seen++[p],zs++[.ref b],rfl,l7 sd3 hsl,(c9 ncs).trans (s3 _ _ hcd),b6,aK0 pz rp,⟨?_,fun o ho=>?_,up _ sk.me⟩,?_,fun q hq=>?_,fun k hk o ho=>?_⟩
     ·rw[aB5,aD4]
      refine⟨sk.nd,by simp,fun x hx y hy e=>?_⟩
      have hy:y=p.num:=by simpa using hy
      obtain⟨o,ho,eo⟩:=aA5.mp hx
      exact c3 (by rw[←a1i nd (sk.mem o ho).1 hpm (by rw[eo,e,hy])];exact ho)
     ·rcases aA9.mp ho with ho | ho
      ·exact sk.mem o ho
      ·rw[aA3.mp ho];exact⟨hpm,.step srm.2 hpm (fun z=>c1 z.symm) cl0 c2⟩
     ·rw[aE0 lsp];exact hsr
     ·rw[tk]at hq
      rcases aA9.mp hq with hq | hq
      ·exact fun a1 a2=>let ⟨b1,b2⟩:=clj q hq a1 a2;⟨b1,up _ b2⟩
      ·rw[aA3.mp hq];exact fun _ _=>⟨c2,by simp⟩
     ·rw[aE0 (by omega)]at ho
      exact fun q hq a1 a2=>let ⟨b1,b2⟩:=cl k hk o ho q hq a1 a2;⟨b1,up _ b2⟩
  ·clear hz pz sk cl lz ls hsp hsr hz2
   obtain⟨o4,seen,zs,rfl,sd,hcd,hz,pz,sk,hsr,clj,cl⟩:=z
   have lsp:=(aA2.mp hsr).1
   rw[show(us++[x]).length=(rs++[r]).length by rw[aA4,aA4,lu];rfl,aD5] at clj
   refine⟨_,rfl,_,_,rfl,rfl,o4,seen,zs,lsp,rfl,sd,hz,pz,sk,fun k hk o ho=>?_⟩
   rcases Nat.lt_or_ge k sp with lt | ge
   ·exact cl k lt o ho
   ·have:k=sp:=by omega
    subst this
    rw[hsr]at ho;cases ho;exact clj
 ·rw[show decide ((sp:Int)<(zs.length:Int))=false from aB2 (by omega)]
  refine e9 (qF _ sc fun⟨o,ro,no,lo⟩=>?_)
  have all:∀o,Rch rs r o→o∈seen:=fun o ro=>by
   induction ro with
   | base=>exact sk.me
   | @step o p h1 hp hn hl hr ih=>
    obtain⟨k,hk⟩:=aD9.mp ih
    have lk:=(aA2.mp hk).1
    exact(cl k (by omega) o hk p hp hn hl).2
  obtain⟨k,hk⟩:=aD9.mp (all o ro)
  have lk:=(aA2.mp hk).1
  exact(cl k (by omega) o hk r (by simp) no lo).1 rfl
def isE:u7→Bool
 | .word s=>decide (s="ended")
 | _=>false
inductive a2E(K:PySem.W.Frag)(vs:List V)(H:Hp)(Q:VK):Prop
 | mk (rl:Addr→Role) (a:u7) (x:V) (x0:vs=[x]) (x1:E3 rl H a x) (xq:Q (.bl (isE a)) H)
def a2L(K:PySem.W.Frag):Sp:=fun vs H Q _=>a2E K vs H Q
theorem a8a(T:B6 K mg t):g9 P w K mg base A3 1 t.f__law_ended t.d__law_ended ["_law_found"] (a2L K):=by
 refine T.F__law_ended.ok a7M (fun vs H Q E h=>?_) (fun cdv A outer s H vs Q E hr h=>?_)
 ·obtain⟨rl,a,x,rfl,_⟩:=h
  rfl
 obtain⟨rl,a,x,rfl,ha,q⟩:=h
 refine⟨_,(d6 (i4 (Z3 (e7 C7 rfl T.m_isinstance aF5 (b0 (pv 0) (b0 (A5 (v:=.ty "str") rfl T.m_str boot_str rfl) b7))) (a5h (K9 A9 (pv 0) i8 (i7 _)))))),?_⟩
 cases a with
 | num i=>
  obtain rfl:=ha
  exact⟨_,rfl,_,"int","str",rfl,rfl,by decide,_,rfl,e9 q⟩
 | non=>
  obtain rfl:=ha
  exact⟨_,rfl,_,"NoneType","str",rfl,rfl,by decide,_,rfl,e9 q⟩
 | ring rg=>
  obtain⟨l,zs,rfl,hl,_⟩:=ha
  exact⟨_,rfl,_,"list","str",rfl,.inl ⟨rfl,_,d8.of hl⟩,by decide,_,rfl,e9 q⟩
 | word z=>
  obtain rfl:=ha
  refine⟨_,rfl,_,"str","str",rfl,rfl,by decide,_,rfl,m9 ⟨_,rfl,rfl,?_⟩⟩
  have e:decide (V.str z=V.str "ended")=isE (.word z):=by
   show _=decide (z="ended")
   by_cases c:z="ended"
   ·subst c;simp
   ·rw[aB2 c,aB2 fun w=>c (V.str.inj w)]
  rw[e];exact q
structure b7a(f:Nat→j8)(ds:List i9)(as:List u7)(y:Try):Prop where
 ex:∃(d:Dl) (a:u7),ds[y.1]?=some (.fin d.num)∧as[y.1]?=some a∧d∈(f y.1).under∧Step (f y.1) (.fin d.num) a (f (y.1+1))∧O7 d (((f y.1).recs.length:Int)+1) y.2.1∧y.2.2=(f y.1).recs
structure Trace(f:Nat→j8)(ds:List i9)(as:List u7):Prop where
 zero:f 0=T8
 step:∀i d a,ds[i]?=some d→as[i]?=some a→Step (f i) d a (f (i+1))
 len:as.length=ds.length
 oks:∀i,i≤ds.length→C8 (f i)
 gds:∀i,i≤ds.length→Gd (f i)
 bds:∀i,i≤ds.length→Bd i (f i)
theorem a0z{m:Am}{g:Str}{a:Int}(h:n9 m g=some a):g∈m.map (·.1):=by
 unfold n9 at h
 obtain⟨p,hp,_⟩:=aD8.mp h
 have:=List.find?_some hp
 exact aA5.mpr ⟨p,List.mem_of_find?_eq_some hp,by simpa using this⟩
theorem a8w{m:Am}{g:Str}(h:n9 m g=none):g∉m.map (·.1):=fun z=>by
 unfold n9 at h
 obtain⟨p,hp,e⟩:=aA5.mp z
 have:=aN4.mp (Option.map_eq_none_iff.mp h) p hp
 simp[e]at this
theorem b9c{st st':j8}{d:i9}{a:u7}(s:Step st d a st'):st'.begun≤st.begun+1:=by
 cases s<;>first | exact aB3 _ | exact aL8 _
theorem a2v{f:Nat→j8}{ds:List i9}{as:List u7}(F:Trace f ds as):∀i,i≤ds.length→(f i).begun≤i
 | 0,_=>by rw[F.zero];exact aB3 _
 | i+1,h=>by
  have hd:=List.getElem?_eq_getElem (l:=ds) (i:=i) (by omega)
  have ha:=List.getElem?_eq_getElem (l:=as) (i:=i) (by have:=F.len;omega)
  have:=b9c (F.step i _ _ hd ha)
  have:=a2v F i (by omega)
  omega
theorem a1c{d:Dl}{e:Int}{r o:Rec}(h:O7 d e r)(k:O7 d e o):r=o:=by
 obtain⟨n1,b1,f1,l1,p1,s1,t1⟩:=h
 obtain⟨n2,b2,f2,l2,p2,s2,t2⟩:=k
 have inj:∀{ks ms:List Str},ks.Perm ms→X7 ks→X7 ms→ks=ms:=fun {ks ms} p h k=>by
  unfold X7 at h k
  have:=a6f h k (p.map _)
  exact aT9 (fun a b e=>by
   have e:[(Sum.inr a.cps.toList:Atom)]=[Sum.inr b.cps.toList]:=e
   have e:=aN6 (List.cons.inj e).1
   cases a;cases b
   exact congrArg Str.mk (Array.ext' e)) |>.mp this
 have e1:=inj (l1.trans l2.symm) s1 s2
 have e2:=inj (p1.trans p2.symm) t1 t2
 cases r;cases o
 simp only at n1 b1 f1 n2 b2 f2 e1 e2
 simp only[n1,b1,f1,n2,b2,f2,e1,e2]
theorem b6o{st st':j8}{d:i9}{a:u7}(s:Step st d a st'):(∃e∈st.under,d=.fin e.num∧((isE a=true∧∃r cs row,a5N st e r cs row∧st'=a1q st e r cs row)∨(isE a=false∧st'=G4 st e.num)))∨∀e∈st.under,d≠.fin e.num:=by
 cases s with
 | ended hd E=>exact .inl ⟨_,hd,rfl,.inl ⟨rfl,_,_,_,E,rfl⟩⟩
 | ring hd _=>exact .inl ⟨_,hd,rfl,.inr ⟨rfl,rfl⟩⟩
 | none h1 h2=>exact .inr fun e he z=>by subst z;cases h1;exact h2 (aA5.mpr ⟨e,he,rfl⟩)
 | _=>exact .inr fun e he z=>nomatch z
inductive a9z(K:PySem.W.Frag)(vs:List V)(H:Hp)(Q:VK):Prop
 | mk (A Tl:Addr) (xs ys:List V) (ds:List i9) (as:List u7) (rl0:Addr→Role) (f:Nat→j8) (x0:vs=[.ref A,.ref Tl]) (x1:H A=some (.lst xs)) (x2:u4 H ds xs) (x3:H Tl=some (.lst ys)) (x4:Paired (E3 rl0 H) as ys) (x5:Trace f ds as) (x6:ds.length≤63) (xq:∀(p R Y:Addr) (us ws:List V) (tr:List Try) (rl:Addr→Role) (H':Hp),f7 H H'→H' p=some (.tup [.ref R,.ref Y])→H' R=some (.lst us)→Paired (RcAt rl H') (f ds.length).recs us→H' Y=some (.lst ws)→Paired (R8 rl H') tr ws→(∀y∈tr,b7a f ds as y)→Q (.ref p) H')
def a9E(K:PySem.W.Frag):Sp:=fun vs H Q _=>a9z K vs H Q
theorem a6h(T:B6 K mg t):g9 P w K mg base A3 2 t.f__law_walked t.d__law_walked ["_law_asked","_law_told"] (a9E K):=by
 refine T.F__law_walked.ok y8 (fun vs H Q E h=>?_) (fun cdv A outer s H vs Q E hr h=>?_)
 ·obtain⟨A,Tl,xs,ys,ds,as,rl0,f,rfl,_⟩:=h
  rfl
 obtain⟨A,Tl,xs,ys,ds,as,rl0,f,rfl,hA,hD,hT,pa,F,bn,q⟩:=h
 have hu:=O0 hr
 refine⟨_,(b9 (g8 (i:=2) y8.nd rfl (Or.inl rfl) G0)
 (b9 (g8 (i:=3) y8.nd rfl (Or.inl rfl) G0)
 (b9 (g8 (i:=4) y8.nd rfl (Or.inl rfl) G0)
 (b9 (g8 (i:=5) y8.nd rfl (Or.inl rfl) (m6 b7))
 (b9 (g8 (i:=6) y8.nd rfl (Or.inl rfl) (m6 b7))
 (b9 (y6 aE1 rfl (P2 rfl T.m_range (b0 (e7 i5 rfl T.m_len aC6 (b0 (pv 0) b7)) b7)) (l6 (i:=7) y8.nd rfl (Or.inl rfl))
 (b9 (g8 (i:=8) y8.nd rfl (Or.inl rfl) (d7 l5 (pv 0) (pv 7) (fun _ _=>rfl)))
 (d6 (l4 (g7 A9 (d7 f6 (pv 8) d5 (fun _ _=>rfl)) i8 (i7 _))
 (b9 (J2 hu (pv 3) (e7 a2r rfl T.m_len aC6 (b0 (pv 3) b7)) (m6 b7) rfl)
 (b9 (J2 hu (pv 2) (j5 Q8 (e7 a2r rfl T.m_len aC6 (b0 (pv 3) b7)) d5) (e7 i5 rfl T.m_len aC6 (b0 (pv 5) b7)) rfl)
 (d6 (J2 hu (pv 4) (j5 Q8 (e7 a2r rfl T.m_len aC6 (b0 (pv 3) b7)) d5) (m6 b7) rfl))))
 (d6 (l4 (PW.pt (R6 (g7 N3 (d7 f6 (pv 8) d5 (fun _ _=>rfl)) i8 (i7 _)) (O9 (g7 (a0A hu) (d7 f6 (pv 8) d5 (fun _ _=>rfl)) (pv 2) (by with_unfolding_all rfl)))))
 (b9 (g8 (i:=9) y8.nd rfl (Or.inl rfl) (d7 f6 (pv 8) d5 (fun _ _=>rfl)))
 (b9 (P6 (l4 (PW.pt (R6 (g7 A9 (d7 f6 (pv 8) d5 (fun _ _=>rfl)) i8 (i7 _)) (O9 (g7 a4n (d7 f6 (pv 8) d5 (fun _ _=>rfl)) (j5 Q9 (v8 hu (pv 3) (pv 9) (fun _ _=>rfl)) (v8 hu (pv 4) (pv 9) (fun _ _=>rfl))) (by with_unfolding_all rfl)))))
 (d6 (m8 (v9 aB0 aB6 aB8 n6 (v8 hu (pv 3) (pv 9) (fun _ _=>rfl)) (b0 (d7 f6 (pv 8) d5 (fun _ _=>rfl)) b7))))
 j4))
 (b9 (P6 (l4 (PW.pt (R6 (g7 A9 (d7 f6 (pv 8) d5 (fun _ _=>rfl)) i8 (i7 _)) (O9 (g7 a4n (d7 f6 (pv 8) d5 (fun _ _=>rfl)) (v8 hu (pv 4) (pv 9) (fun _ _=>rfl)) (by with_unfolding_all rfl)))))
 (d6 (m8 (v9 aB0 aB6 aB8 n6 (v8 hu (pv 4) (pv 9) (fun _ _=>rfl)) (b0 (d7 f6 (pv 8) d5 (fun _ _=>rfl)) b7))))
 j4))
 (b9 (P6 (l4 (g7 A9 (d7 f6 (pv 8) d5 (fun _ _=>rfl)) i8 (i7 _))
 (d6 (m8 (a1l (pv 2) (pv 9) ⟨rfl,rfl,rfl,rfl⟩)))
 j4))
 (d6 (l4 (g7 A9 (d7 f6 (pv 8) d5 (fun _ _=>rfl)) i8 (i7 _))
 (b9 (g8 (i:=10) y8.nd rfl (Or.inl rfl) (q5 (b0 (pv 9) (b0 (a1l (pv 2) (pv 9) ⟨rfl,rfl,rfl,rfl⟩) (b0 (j5 K1 (e7 i5 rfl T.m_len aC6 (b0 (pv 5) b7)) d5) b7)))))
 (b9 (g8 (i:=11) y8.nd rfl (Or.inl rfl) (j5 a5X (pv 10) (q5 (b0 (e7 a6g rfl T.m_sorted aO2 (b0 (v8 hu (pv 3) (pv 9) (fun _ _=>rfl)) b7)) (b0 (e7 a6g rfl T.m_sorted aO2 (b0 (v8 hu (pv 4) (pv 9) (fun _ _=>rfl)) b7)) b7)))))
 (b9 (m8 (v9 aB0 aB6 aB8 n6 (pv 6) (b0 (q5 (b0 (pv 7) (b0 (pv 11) (b0 (K7 a8d rfl T.m_list aM8 (b0 (pv 5) b7)) b7)))) b7)))
 (d6 (l4 (C4 (k7 (g9.mono (k:=1) (a8a T) (by decide)) hr rfl T.m__law_ended T.F__law_ended.kp T.F__law_ended.b .nil k8 (b0 (d7 l5 (pv 1) (pv 7) (fun _ _=>rfl)) b7)))
 (d6 (m8 (v9 aB0 aB6 aB8 n6 (pv 5) (b0 (pv 11) b7))))
 j4)))))
 j4))))))
 j4))))))
 (d6 (i4 (q5 (b0 (pv 5) (b0 (pv 6) b7))))))))))),?_⟩
 refine fun S hS=>fun L hL=>fun M hM=>⟨(l8 0),fun R hR=>⟨(l8 0),fun Y hY=>?_⟩⟩
 have s1:=b8 (o:=.dK []) hS
 have s2:=b8 (o:=.dK []) hL
 have s3:=b8 (o:=.dK []) hM
 have s4:=b8 (o:=.lst []) hR
 have s5:=b8 (o:=.lst []) hY
 have W0:∃W,WA S L M R Y W H (upd (upd (upd (upd (upd H S (.dK [])) L (.dK [])) M (.dK [])) R (.lst [])) Y (.lst [])) T8 []:=by
  have g1:=s5 _ _ (s4 _ _ (s3 _ _ (s2 _ _ (b6 (H:=H) (a:=S) (o:=.dK [])))))
  have g2:=s5 _ _ (s4 _ _ (s3 _ _ (b6 (H:=upd H S (.dK [])) (a:=L) (o:=.dK []))))
  have g3:=s5 _ _ (s4 _ _ (b6 (H:=upd (upd H S (.dK [])) L (.dK [])) (a:=M) (o:=.dK [])))
  have g4:=s5 _ _ (b6 (H:=upd (upd (upd H S (.dK [])) L (.dK [])) M (.dK [])) (a:=R) (o:=.lst []))
  have g5:=b6 (H:=upd (upd (upd (upd H S (.dK [])) L (.dK [])) M (.dK [])) R (.lst [])) (a:=Y) (o:=.lst [])
  have a12:S≠L:=g6 b6 hL
  have a13:S≠M:=g6 (s2 _ _ b6) hM
  have a14:S≠R:=g6 (s3 _ _ (s2 _ _ b6)) hR
  have a15:S≠Y:=g6 (s4 _ _ (s3 _ _ (s2 _ _ b6))) hY
  have a23:L≠M:=g6 b6 hM
  have a24:L≠R:=g6 (s3 _ _ b6) hR
  have a25:L≠Y:=g6 (s4 _ _ (s3 _ _ b6)) hY
  have a34:M≠R:=g6 b6 hR
  have a35:M≠Y:=g6 (s4 _ _ b6) hY
  have a45:R≠Y:=g6 b6 hY
  have b2:=j7 s1 hL
  have b3:=j7 (s1.trans s2) hM
  have b4:=j7 ((s1.trans s2).trans s3) hR
  have b5:=j7 (((s1.trans s2).trans s3).trans s4) hY
  have sall:=(((s1.trans s2).trans s3).trans s4).trans s5
  generalize upd (upd (upd (upd (upd H S (.dK [])) L (.dK [])) M (.dK [])) R (.lst [])) Y (.lst [])=HZ at g1 g2 g3 g4 g5 sall ⊢
  refine⟨⟨fun b=>if b=S then .under else if b=L then .vers else if b=M then .tally else if b=R then .recs else if b=Y then .deal 0 else .free,fun _=>0,fun _=>0,fun _=>0⟩,⟨sall,fun b hb=>?_,g1,g2,g3,⟨[],g4,.nil⟩,⟨[],g5,.nil⟩,(fun d hd=>nomatch hd),aB4 rfl,?_,?_,?_,?_,fun b e=>?_⟩⟩
  ·by_cases c1:b=S
   ·rw[c1];exact hS
   by_cases c2:b=L
   ·rw[c2];exact b2
   by_cases c3:b=M
   ·rw[c3];exact b3
   by_cases c4:b=R
   ·rw[c4];exact b4
   by_cases c5:b=Y
   ·rw[c5];exact b5
   refine absurd ?_ hb
   show(if b=S then _ else if b=L then _ else if b=M then _ else if b=R then _ else if b=Y then _ else _)=_
   rw[aA8 c1,aA8 c2,aA8 c3,aA8 c4,aA8 c5]
  ·show(if L=S then _ else if L=L then _ else _)=_
   rw[aA8 (Ne.symm a12),aB4 rfl]
  ·show(if M=S then _ else if M=L then _ else if M=M then _ else _)=_
   rw[aA8 (Ne.symm a13),aA8 (Ne.symm a23),aB4 rfl]
  ·show(if R=S then _ else if R=L then _ else if R=M then _ else if R=R then _ else _)=_
   rw[aA8 (Ne.symm a14),aA8 (Ne.symm a24),aA8 (Ne.symm a34),aB4 rfl]
  ·show(if Y=S then _ else if Y=L then _ else if Y=M then _ else if Y=R then _ else if Y=Y then _ else _)=_
   rw[aA8 (Ne.symm a15),aA8 (Ne.symm a25),aA8 (Ne.symm a35),aA8 (Ne.symm a45),aB4 rfl]
  ·show(if b=S then _ else if b=L then _ else if b=M then _ else if b=R then _ else if b=Y then _ else _)=_
   rw[aA8 (fun z=>by rw[z,g1]at e;cases e),aA8 (fun z=>by rw[z,g2]at e;cases e),aA8 (fun z=>by rw[z,g3]at e;cases e),aA8 (fun z=>by rw[z,g4]at e;cases e),aA8 (fun z=>by rw[z,g5]at e;cases e)]
 obtain⟨W0,w0⟩:=W0
 generalize upd (upd (upd (upd (upd H S (.dK [])) L (.dK [])) M (.dK [])) R (.lst [])) Y (.lst [])=HZ at w0 ⊢
 have lx:=hD.len
 have ly:=p6 pa
 have la:=F.len
 refine⟨_,rfl,A,xs,rfl,.inl (d8.of (w0.sm _ _ hA)),_,rfl,by omega,by omega,?_⟩
 have en:(((xs.length:Nat):Int)).toNat=ds.length:=by omega
 rw[en]
 refine N4 (fun i σ' Hc=>∃(o7 o8 o9 oA oB:Option V) (W:WG) (tr:List Try),σ'=[some (.ref A),some (.ref Tl),some (.ref S),some (.ref L),some (.ref M),some (.ref R),some (.ref Y),o7,o8,o9,oA,oB]∧WA S L M R Y W H Hc (f i) tr∧tr.length≤i∧∀y∈tr,b7a f ds as y) ⟨none,none,none,none,none,W0,[],rfl,by rw[F.zero];exact w0,aB3 _,(fun y hy=>nomatch hy)⟩ (fun i σ' Hc hi z=>?_) (fun σ' Hc z=>?_)
 ·obtain⟨o7,o8,o9,oA,oB,W,tr,rfl,w,ltr,oktr⟩:=z
  have hxi:=List.getElem?_eq_getElem (show i<xs.length by omega)
  have hyi:=List.getElem?_eq_getElem (show i<ys.length by omega)
  obtain⟨d,hd,b,eb,hb⟩:=C2 hD hxi
  obtain⟨an,han,hy⟩:=C2 pa hyi
  have St:=F.step i d an hd han
  have ok:=F.oks i (by omega)
  have bd:=F.bds i (by omega)
  have e0:(0:Int)+(i:Int)=((i:Nat):Int):=by omega
  have ax:F7 xs ((0:Int)+(i:Int))=some (.ref b):=by rw[e0,←eb];exact j0 hxi
  generalize ys[i]=y at hyi hy
  have ay:F7 ys ((0:Int)+(i:Int))=some y:=by rw[e0];exact j0 hyi
  have nd:(u9 (f i)).Nodup:=(aD4.mp ok.un).2.1
  refine⟨_,rfl,_,rfl,A,_,_,_,rfl,rfl,d8.of (w.sm _ _ hA),ax,?_⟩
  have St0:=St
  have rS:=w.r1
  have hyc:=hy.same w.sm
  obtain⟨xr,hR,pR⟩:=w.rc
  obtain⟨yt,hY,pY⟩:=w.ty
  have lR:=p6 pR
  have lY:=p6 pY
  have brc:=bd.rc
  have bun:=bd.un
  have hT':=w.sm _ _ hT
  have inl:∀n∈u9 (f i),n∈nat (f i).begun:=fun n hn=>a3s.mpr (ok.lt n (aE2 _ hn))
  have dS:=fun(Hx:Hp) (hx:Hx S=some (.dK (m7 (u9 (f i)) fun n=>.int (W.bg n)))) (n:Int)=>z6.k (k:=Sum.inl n) hx
  have dL:∀(Hx:Hp),Hx L=some (.dK (m7 (nat (f i).begun) fun n=>.ref (W.lk n)))→∀n∈u9 (f i),z6 Hx L (.int n) (some (.ref (W.lk n))):=fun Hx hx n hn=>by
   have:=z6.k (k:=Sum.inl n) hx
   rw[u3,aB4 (inl n hn)]at this
   exact this
  have dM:∀(Hx:Hp),Hx M=some (.dK (m7 (nat (f i).begun) fun n=>.ref (W.as n)))→∀n∈u9 (f i),z6 Hx M (.int n) (some (.ref (W.as n))):=fun Hx hx n hn=>by
   have:=z6.k (k:=Sum.inl n) hx
   rw[u3,aB4 (inl n hn)]at this
   exact this
  generalize hz:f (i+1)=st1 at St ⊢
  rcases b6o St with ⟨d,hd2,rfl,fin⟩ | nofin
  ·have hin:d.num∈u9 (f i):=aA5.mpr ⟨d,hd2,rfl⟩
   have Dl0:=w.dl d hd2
   have bl:=bd.dl d hd2
   have dg:=dS Hc w.sn d.num
   rw[u3,aB4 hin]at dg
   refine⟨_,rfl,b,_,0,_,rfl,rfl,i3.of (w.sm _ _ hb),rfl,rfl,_,rfl,e9 ?_⟩
   refine⟨_,rfl,b,_,0,_,rfl,rfl,i3.of (w.sm _ _ hb),rfl,rfl,_,rfl,m9 ?_⟩
   refine⟨_,rfl,b,_,1,_,rfl,rfl,i3.of (w.sm _ _ hb),rfl,_,rfl,S,_,rfl,dg,_,rfl,m9 ?_⟩
   refine⟨_,rfl,b,_,1,_,rfl,rfl,i3.of (w.sm _ _ hb),rfl,?_⟩
   refine T1 ⟨_,rfl,b,_,0,_,rfl,rfl,i3.of (w.sm _ _ hb),rfl,rfl,_,rfl,e9 (e9 ⟨rfl,rfl⟩)⟩ ?_
   refine T1 ⟨_,rfl,b,_,0,_,rfl,rfl,i3.of (w.sm _ _ hb),rfl,rfl,_,rfl,e9 (e9 ⟨rfl,rfl⟩)⟩ ?_
   refine T1 ⟨_,rfl,b,_,0,_,rfl,rfl,i3.of (w.sm _ _ hb),rfl,rfl,_,rfl,e9 ⟨rfl,rfl⟩⟩ ?_
   refine⟨_,rfl,b,_,0,_,rfl,rfl,i3.of (w.sm _ _ hb),rfl,rfl,_,rfl,m9 ?_⟩
   have Dl0:=w.dl d hd2
   obtain⟨zb1,zb2⟩:=(F.bds i (by omega)).dl d hd2
   obtain⟨xr,hR,pR⟩:=w.rc
   have lR:=p6 pR
   have w1:=w.drop d.num
   have k2:(upd Hc S (.dK (J6 (m7 (u9 (f i)) fun n=>.int (W.bg n)) (Sum.inl d.num)))) (W.lk d.num)=_:=ur Dl0.lk Dl0.r2 w.r1 (by simp)
   have k3:(upd Hc S (.dK (J6 (m7 (u9 (f i)) fun n=>.int (W.bg n)) (Sum.inl d.num)))) (W.as d.num)=_:=ur Dl0.as Dl0.r3 w.r1 (by simp)
   have hR1:(upd Hc S (.dK (J6 (m7 (u9 (f i)) fun n=>.int (W.bg n)) (Sum.inl d.num)))) R=_:=ur hR w.r4 w.r1 (by simp)
   refine⟨_,rfl,_,rfl,S,rfl,.inl ⟨_,.inl w.sn⟩,_,rfl,_,Sum.inl d.num,.int (W.bg d.num),w.sn,rfl,?_,_,rfl,R,_,rfl,.inl (d8.of hR1),_,_,rfl,rfl,(l8 3),fun p1 hp1=>?_⟩
   ·rw[u3,aB4 hin]
   have s2:=b8 (o:=.tup [.int d.num,.int (W.bg d.num),.int ((xr.length:Int)+1)]) hp1
   have hp2:(upd (upd Hc S (.dK (J6 (m7 (u9 (f i)) fun n=>.int (W.bg n)) (Sum.inl d.num)))) p1 (.tup [.int d.num,.int (W.bg d.num),.int ((xr.length:Int)+1)])) p1=_:=b6
   have w2:=w1.new s2
   have k2:=s2 _ _ k2
   have k3:=s2 _ _ k3
   generalize upd (upd Hc S (.dK (J6 (m7 (u9 (f i)) fun n=>.int (W.bg n)) (Sum.inl d.num)))) p1 (.tup [.int d.num,.int (W.bg d.num),.int ((xr.length:Int)+1)])=H2 at s2 hp2 w2 k2 k3 ⊢
   refine⟨_,rfl,_,rfl,_,rfl,L,_,rfl,dL _ w2.lo _ hin,W.lk d.num,_,rfl,d8.of k2,⟨by simp only[aA0];omega,fun v hv=>by obtain⟨z,_,rfl⟩:=aA5.mp hv;exact⟨z,rfl⟩⟩,fun la ys' hla pm1 io1=>?_⟩
   obtain⟨ys1,rfl,py⟩:=L8 pm1
   have s3:=b8 (o:=.lst (ys1.map V.str)) hla
   have w3:=w2.new s3
   refine⟨_,rfl,_,rfl,M,_,rfl,dM _ w3.la _ hin,W.as d.num,_,rfl,d8.of (s3 _ _ k3),⟨by simp only[aA0];omega,fun v hv=>by obtain⟨z,_,rfl⟩:=aA5.mp hv;exact⟨z,rfl⟩⟩,fun pp zs' hpp pm2 io2=>?_⟩
   obtain⟨zs1,rfl,pz⟩:=L8 pm2
   have s4:=b8 (o:=.lst (zs1.map V.str)) hpp
   have w4:=w3.new s4
   unfold P9 at io1 io2
   rw[aE8]at io1 io2
   have hla4:=s4 _ _ (b6 (H:=H2) (a:=la) (o:=.lst (ys1.map V.str)))
   have hpp4:(upd (upd H2 la (.lst (ys1.map V.str))) pp (.lst (zs1.map V.str))) pp=_:=b6
   have hp4:=s4 _ _ (s3 _ _ hp2)
   have nla:=j7 w2.sm hla
   have npp:=j7 w3.sm hpp
   have fla:=w2.cl la hla
   have fpp:=w3.cl pp hpp
   generalize upd (upd H2 la (.lst (ys1.map V.str))) pp (.lst (zs1.map V.str))=H4 at w4 hla4 hpp4 hp4 s4 ⊢
   refine⟨(l8 2),fun p2 hp2'=>?_⟩
   have s5:=b8 (o:=.tup [.ref la,.ref pp]) hp2'
   refine⟨p1,p2,_,_,rfl,rfl,i3.of (s5 _ _ hp4),i3.of b6,by simp,(l8 5),(fun z=>by simp at z),fun _ p3 hp3=>?_⟩
   have s6:=b8 (o:=.tup ([.int d.num,.int (W.bg d.num),.int ((xr.length:Int)+1)]++[.ref la,.ref pp])) hp3
   have w6:=(w4.new s5).new s6
   have hp6:(upd (upd H4 p2 (.tup [.ref la,.ref pp])) p3 (.tup ([.int d.num,.int (W.bg d.num),.int ((xr.length:Int)+1)]++[.ref la,.ref pp]))) p3=_:=b6
   have hla6:=s6 _ _ (s5 _ _ hla4)
   have hpp6:=s6 _ _ (s5 _ _ hpp4)
   generalize upd (upd H4 p2 (.tup [.ref la,.ref pp])) p3 (.tup ([.int d.num,.int (W.bg d.num),.int ((xr.length:Int)+1)]++[.ref la,.ref pp]))=H6 at w6 hp6 hla6 hpp6 ⊢
   obtain⟨yt,hY,pY⟩:=w6.ty
   have lY:=p6 pY
   obtain⟨xr6,hR6,pR6⟩:=w6.rc
   have lR6:xr6.length=(f i).recs.length:=p6 pR6
   refine⟨_,rfl,.inl ⟨rfl,_,d8.of hY⟩,_,rfl,_,rfl,_,rfl,R,_,rfl,.inl (d8.of hR6),fun lb hlb=>?_⟩
   have s7:=b8 (o:=.lst xr6) hlb
   have nlb:=j7 w6.sm hlb
   have flb:=w6.cl lb hlb
   refine⟨(l8 3),fun p4 hp4'=>?_⟩
   have s8:=b8 (o:=.tup [.int (0+(i:Int)),.ref p3,.ref lb]) hp4'
   have s68:=s7.trans s8
   have w8:=w6.new s68
   have hlb8:=s8 _ _ (b6 (H:=H6) (a:=lb) (o:=.lst xr6))
   have hp8:(upd (upd H6 lb (.lst xr6)) p4 (.tup [.int (0+(i:Int)),.ref p3,.ref lb])) p4=_:=b6
   generalize upd (upd H6 lb (.lst xr6)) p4 (.tup [.int (0+(i:Int)),.ref p3,.ref lb])=H8 at w8 hlb8 hp8 s68 ⊢
   have w9:=w8.fz (as:=[la,pp,lb]) (fun v hv=>by
    simp only[aB7,aF7,aL4]at hv
    rcases hv with rfl | rfl | rfl
    ·exact⟨fla,nla,_,s68 _ _ hla6⟩
    ·exact⟨fpp,npp,_,s68 _ _ hpp6⟩
    ·exact⟨flb,nlb,_,hlb8⟩)
   let r0:Rec:=⟨d.num,d.beg,((f i).recs.length:Int)+1,ys1,zs1⟩
   have isr:O7 d (((f i).recs.length:Int)+1) r0:=⟨rfl,rfl,rfl,py,pz,io1,io2⟩
   have rc9:RcAt (wfz W [la,pp,lb]).rl H8 r0 (.ref p3):=by
    refine⟨p3,la,pp,rfl,?_,s68 _ _ hla6,s68 _ _ hpp6,a8T (by simp),a8T (by simp)⟩
    rw[s68 _ _ hp6,lR,Dl0.bg];rfl
   obtain⟨xr9,hR9,pR9⟩:=w9.rc
   have eq9:xr9=xr6:=by rw[s68 _ _ hR6]at hR9;cases hR9;rfl
   subst eq9
   have ty9:R8 (wfz W [la,pp,lb]).rl H8 (i,r0,(f i).recs) (.ref p4):=⟨p4,lb,.ref p3,_,rfl,by rw[hp8,e0],rc9,hlb8,a8T (by simp),pR9⟩
   have hY9:=s68 _ _ hY
   refine⟨Y,yt,_,rfl,rfl,hY9,r9 (by omega),?_⟩
   have wA:=w9.addY hY9 ty9
   have tkA:u5 H8 (upd H8 Y (.lst (yt++[.ref p4]))):=n4 hY9
   have rcA:=rc9.updR (o:=.lst (yt++[.ref p4])) w9.r5 (by simp) tkA
   have okA:∀y∈tr++[(i,r0,(f i).recs)],b7a f ds as y:=fun y hy=>by
    rcases aA9.mp hy with hy | hy
    ·exact oktr y hy
    ·rw[aA3.mp hy];exact⟨⟨d,_,hd,han,hd2,St0,isr,rfl⟩⟩
   have ltA:(tr++[(i,r0,(f i).recs)]).length≤i+1:=by rw[aA4];simp;omega
   generalize upd H8 Y (.lst (yt++[.ref p4]))=HA at wA rcA ⊢
   have hyA:=hy.same wA.sm
   have RD:=fun(x:Hp) (sx:f7 H x)=>d8.of (K:=K) (sx _ _ hT)
   refine⟨_,rfl,_,rfl,Tl,_,_,_,rfl,rfl,RD _ wA.sm,ay,rl0,_,_,rfl,hyA,?_⟩
   rcases fin with ⟨ea,r,cs,row,E,rfl⟩ | ⟨ea,rfl⟩
   ·rw[ea]
    have er:r0=r:=a1c isr E.rc
    obtain⟨xrA,hRA,pRA⟩:=wA.rc
    have lRA:xrA.length=(f i).recs.length:=p6 pRA
    refine⟨_,rfl,m9 ⟨_,rfl,.inl ⟨rfl,_,d8.of hRA⟩,_,rfl,R,_,_,rfl,rfl,hRA,r9 (by omega),?_⟩⟩
    exact⟨_,_,_,_,_,_,_,rfl,(wA.addR hRA rcA).cong rfl rfl (by show(f i).recs++[r]=(f i).recs++[r0];rw[er]),ltA,okA⟩
   ·rw[ea]
    exact⟨_,rfl,e9 ⟨_,_,_,_,_,_,_,rfl,wA,ltA,okA⟩⟩
  cases St with
  | begin=>
   refine⟨_,rfl,b,_,0,_,rfl,rfl,i3.of (w.sm _ _ hb),rfl,rfl,_,rfl,m9 ?_⟩
   have el:(m7 (nat (f i).begun) fun n=>V.ref (W.lk n)).length=(f i).begun:=by rw[K8,a3r]
   have bb:=a2v F i (by omega)
   refine⟨(l8 0),fun l1 hl1=>?_⟩
   have s1:=b8 (o:=.lst []) hl1
   have aSL:S≠L:=a7i (G:=gOf W.rl) w.r1 w.r2 (by simp)
   have aSM:S≠M:=a7i (G:=gOf W.rl) w.r1 w.r3 (by simp)
   have aLM:L≠M:=a7i (G:=gOf W.rl) w.r2 w.r3 (by simp)
   have aLR:R≠L:=a7i (G:=gOf W.rl) w.r4 w.r2 (by simp)
   have n1S:l1≠S:=fun z=>by rw[z,w.sn]at hl1;cases hl1
   have n1L:l1≠L:=fun z=>by rw[z,w.lo]at hl1;cases hl1
   have n1M:l1≠M:=fun z=>by rw[z,w.la]at hl1;cases hl1
   have lo1:=s1 _ _ w.lo
   refine⟨_,rfl,_,rfl,L,_,rfl,lo1,L,_,rfl,N6.k (k:=Sum.inl _) lo1 (r9 (by rw[el];omega)),?_⟩
   rw[el]
   have lo2:(upd (upd Hc l1 (.lst [])) L (.dK (putK (m7 (nat (f i).begun) fun n=>.ref (W.lk n)) (Sum.inl ((f i).begun:Int)) (.ref l1)))) L=some (.dK (putK (m7 (nat (f i).begun) fun n=>.ref (W.lk n)) (Sum.inl ((f i).begun:Int)) (.ref l1))):=b6
   have sn2:(upd (upd Hc l1 (.lst [])) L (.dK (putK (m7 (nat (f i).begun) fun n=>.ref (W.lk n)) (Sum.inl ((f i).begun:Int)) (.ref l1)))) S=_:=(c9 aSL).trans (s1 _ _ w.sn)
   have la2:(upd (upd Hc l1 (.lst [])) L (.dK (putK (m7 (nat (f i).begun) fun n=>.ref (W.lk n)) (Sum.inl ((f i).begun:Int)) (.ref l1)))) M=_:=(c9 (Ne.symm aLM)).trans (s1 _ _ w.la)
   have hR2:(upd (upd Hc l1 (.lst [])) L (.dK (putK (m7 (nat (f i).begun) fun n=>.ref (W.lk n)) (Sum.inl ((f i).begun:Int)) (.ref l1)))) R=_:=(c9 aLR).trans (s1 _ _ hR)
   have g1:(upd (upd Hc l1 (.lst [])) L (.dK (putK (m7 (nat (f i).begun) fun n=>.ref (W.lk n)) (Sum.inl ((f i).begun:Int)) (.ref l1)))) l1=some (.lst []):=(c9 n1L).trans b6
   have bt2:∀c o,c≠L→Hc c=some o→(upd (upd Hc l1 (.lst [])) L (.dK (putK (m7 (nat (f i).begun) fun n=>.ref (W.lk n)) (Sum.inl ((f i).begun:Int)) (.ref l1)))) c=some o:=fun c o nc e=>(c9 nc).trans (s1 _ _ e)
   have tk2:=s1.tupK.trans (P1 (o:=.dK (putK (m7 (nat (f i).begun) fun n=>.ref (W.lk n)) (Sum.inl ((f i).begun:Int)) (.ref l1))) lo1)
   have nn2:∀c,(upd (upd Hc l1 (.lst [])) L (.dK (putK (m7 (nat (f i).begun) fun n=>.ref (W.lk n)) (Sum.inl ((f i).begun:Int)) (.ref l1)))) c=none→Hc c=none:=fun c e=>v3 (v3 e)
   generalize upd (upd Hc l1 (.lst [])) L (.dK (putK (m7 (nat (f i).begun) fun n=>.ref (W.lk n)) (Sum.inl ((f i).begun:Int)) (.ref l1)))=H2 at lo2 sn2 la2 hR2 g1 bt2 tk2 nn2 ⊢
   have el2:(((putK (m7 (nat (f i).begun) fun n=>V.ref (W.lk n)) (Sum.inl ((f i).begun:Int)) (.ref l1)).length:Nat):Int)-1=((f i).begun:Int):=by
    rw[M7,aA8 (fun z=>by have:=(a3s.mp z).2;omega),K8,aA4,a3r];simp
   have eR:(xr.length:Int)=((f i).recs.length:Int):=by rw[lR]
   refine⟨_,rfl,R,_,rfl,.inl (d8.of hR2),_,rfl,_,rfl,L,_,rfl,lo2,_,_,rfl,rfl,S,_,rfl,N6.k (k:=Sum.inl _) sn2 (r9 (by rw[K8];unfold u9;rw[aA0];omega)),?_⟩
   rw[el2,eR]
   have lo3:(upd H2 S (.dK (putK (m7 (u9 (f i)) fun n=>.int (W.bg n)) (Sum.inl ((f i).begun:Int)) (.int ((f i).recs.length:Int))))) L=_:=(c9 (Ne.symm aSL)).trans lo2
   have la3:(upd H2 S (.dK (putK (m7 (u9 (f i)) fun n=>.int (W.bg n)) (Sum.inl ((f i).begun:Int)) (.int ((f i).recs.length:Int))))) M=_:=(c9 (Ne.symm aSM)).trans la2
   have sn3:(upd H2 S (.dK (putK (m7 (u9 (f i)) fun n=>.int (W.bg n)) (Sum.inl ((f i).begun:Int)) (.int ((f i).recs.length:Int))))) S=_:=b6
   have g13:(upd H2 S (.dK (putK (m7 (u9 (f i)) fun n=>.int (W.bg n)) (Sum.inl ((f i).begun:Int)) (.int ((f i).recs.length:Int))))) l1=_:=(c9 n1S).trans g1
   have bt3:∀c o,c≠S→c≠L→Hc c=some o→(upd H2 S (.dK (putK (m7 (u9 (f i)) fun n=>.int (W.bg n)) (Sum.inl ((f i).begun:Int)) (.int ((f i).recs.length:Int))))) c=some o:=fun c o n1 n2 e=>(c9 n1).trans (bt2 c o n2 e)
   have tk3:=tk2.trans (P1 (o:=.dK (putK (m7 (u9 (f i)) fun n=>.int (W.bg n)) (Sum.inl ((f i).begun:Int)) (.int ((f i).recs.length:Int)))) sn2)
   have nn3:∀c,(upd H2 S (.dK (putK (m7 (u9 (f i)) fun n=>.int (W.bg n)) (Sum.inl ((f i).begun:Int)) (.int ((f i).recs.length:Int))))) c=none→Hc c=none:=fun c e=>nn2 c (v3 e)
   generalize upd H2 S (.dK (putK (m7 (u9 (f i)) fun n=>.int (W.bg n)) (Sum.inl ((f i).begun:Int)) (.int ((f i).recs.length:Int))))=H3 at lo3 la3 sn3 g13 bt3 tk3 nn3 ⊢
   refine⟨(l8 0),fun l2 hl2=>?_⟩
   have s4:=b8 (o:=.lst []) hl2
   have n12:l1≠l2:=g6 g13 hl2
   have n2S:S≠l2:=g6 sn3 hl2
   have n2L:L≠l2:=g6 lo3 hl2
   have n2M:M≠l2:=g6 la3 hl2
   refine⟨_,rfl,_,rfl,L,_,rfl,s4 _ _ lo3,_,_,rfl,rfl,M,_,rfl,N6.k (k:=Sum.inl _) (s4 _ _ la3) (r9 (by rw[K8,a3r];omega)),?_⟩
   rw[el2]
   refine⟨_,_,_,_,_,_,tr,rfl,w.begin ok (l1:=l1) (l2:=l2) hl1 (nn3 _ hl2) n12 ((c9 n1M).trans (s4 _ _ g13)) ((c9 (Ne.symm n2M)).trans b6) (fun c o c1 c2 c3 e=>(c9 c3).trans (s4 _ _ (bt3 c o c1 c2 e))) ((tk3.trans s4.tupK).trans (P1 (s4 _ _ la3))) ((c9 aSM).trans (s4 _ _ sn3)) ((c9 aLM).trans (s4 _ _ lo3)) b6,by omega,oktr⟩
  | @sweep m mb=>
   refine⟨_,rfl,b,_,0,_,rfl,rfl,i3.of (w.sm _ _ hb),rfl,rfl,_,rfl,e9 ?_⟩
   refine⟨_,rfl,b,_,0,_,rfl,rfl,i3.of (w.sm _ _ hb),rfl,rfl,_,rfl,e9 ?_⟩
   exact e9 ⟨_,_,_,_,_,W,tr,rfl,w.cong rfl rfl rfl,by omega,oktr⟩
  | @none _ n hno hn=>
   have hn:n∉u9 (f i):=hn
   cases d with
   | begin=>cases hno
   | sweep=>cases hno
   | look n g=>
    cases hno
    refine⟨_,rfl,b,_,0,_,rfl,rfl,i3.of (w.sm _ _ hb),rfl,rfl,_,rfl,e9 ?_⟩
    refine⟨_,rfl,b,_,0,_,rfl,rfl,i3.of (w.sm _ _ hb),rfl,rfl,_,rfl,m9 ?_⟩
    have dg:=dS Hc w.sn n
    rw[u3,aA8 hn]at dg
    exact⟨_,rfl,b,_,1,_,rfl,rfl,i3.of (w.sm _ _ hb),rfl,_,rfl,S,_,rfl,dg,_,rfl,e9 ⟨_,_,_,_,_,W,tr,rfl,w,by omega,oktr⟩⟩
   | put n g x=>
    cases hno
    refine⟨_,rfl,b,_,0,_,rfl,rfl,i3.of (w.sm _ _ hb),rfl,rfl,_,rfl,e9 ?_⟩
    refine⟨_,rfl,b,_,0,_,rfl,rfl,i3.of (w.sm _ _ hb),rfl,rfl,_,rfl,m9 ?_⟩
    have dg:=dS Hc w.sn n
    rw[u3,aA8 hn]at dg
    exact⟨_,rfl,b,_,1,_,rfl,rfl,i3.of (w.sm _ _ hb),rfl,_,rfl,S,_,rfl,dg,_,rfl,e9 ⟨_,_,_,_,_,W,tr,rfl,w,by omega,oktr⟩⟩
   | fin n=>
    cases hno
    refine⟨_,rfl,b,_,0,_,rfl,rfl,i3.of (w.sm _ _ hb),rfl,rfl,_,rfl,e9 ?_⟩
    refine⟨_,rfl,b,_,0,_,rfl,rfl,i3.of (w.sm _ _ hb),rfl,rfl,_,rfl,m9 ?_⟩
    have dg:=dS Hc w.sn n
    rw[u3,aA8 hn]at dg
    exact⟨_,rfl,b,_,1,_,rfl,rfl,i3.of (w.sm _ _ hb),rfl,_,rfl,S,_,rfl,dg,_,rfl,e9 ⟨_,_,_,_,_,W,tr,rfl,w,by omega,oktr⟩⟩
   | leave n=>
    cases hno
    refine⟨_,rfl,b,_,0,_,rfl,rfl,i3.of (w.sm _ _ hb),rfl,rfl,_,rfl,e9 ?_⟩
    refine⟨_,rfl,b,_,0,_,rfl,rfl,i3.of (w.sm _ _ hb),rfl,rfl,_,rfl,m9 ?_⟩
    have dg:=dS Hc w.sn n
    rw[u3,aA8 hn]at dg
    exact⟨_,rfl,b,_,1,_,rfl,rfl,i3.of (w.sm _ _ hb),rfl,_,rfl,S,_,rfl,dg,_,rfl,e9 ⟨_,_,_,_,_,W,tr,rfl,w,by omega,oktr⟩⟩
  | @own d g x hd2 hg=>
   have hin:d.num∈u9 (f i):=aA5.mpr ⟨d,hd2,rfl⟩
   have Dl0:=w.dl d hd2
   have bl:=bd.dl d hd2
   have dg:=dS Hc w.sn d.num
   rw[u3,aB4 hin]at dg
   refine⟨_,rfl,b,_,0,_,rfl,rfl,i3.of (w.sm _ _ hb),rfl,rfl,_,rfl,e9 ?_⟩
   refine⟨_,rfl,b,_,0,_,rfl,rfl,i3.of (w.sm _ _ hb),rfl,rfl,_,rfl,m9 ?_⟩
   refine⟨_,rfl,b,_,1,_,rfl,rfl,i3.of (w.sm _ _ hb),rfl,_,rfl,S,_,rfl,dg,_,rfl,m9 ?_⟩
   refine⟨_,rfl,b,_,1,_,rfl,rfl,i3.of (w.sm _ _ hb),rfl,?_⟩
   refine⟨fun σ' H'=>σ'=[some (.ref A),some (.ref Tl),some (.ref S),some (.ref L),some (.ref M),some (.ref R),some (.ref Y),some (.int (0+(i:Int))),some (.ref b),some (.int d.num),oA,oB]∧WA S L M R Y W H H' (f i) tr,?_,fun σ' H' hM=>?_⟩
   ·refine⟨_,rfl,b,_,0,_,rfl,rfl,i3.of (w.sm _ _ hb),rfl,rfl,_,rfl,m9 ?_⟩
    refine⟨_,rfl,b,_,2,_,rfl,rfl,i3.of (w.sm _ _ hb),rfl,_,rfl,_,rfl,L,_,rfl,dL _ w.lo _ hin,_,rfl,_,rfl,M,_,rfl,dM _ w.la _ hin,W.lk d.num,W.as d.num,_,_,rfl,rfl,Dl0.lk,Dl0.as,(by rw[aA0,aA0,aA0,aG2];omega),fun c hc=>?_⟩
    rw[←aB5]
    have s1:=b8 (o:=.lst ((d.looked++d.aside.map (·.1)).map V.str)) hc
    refine⟨c,_,rfl,.inl (d8.of b6),rfl,G5 _,_,rfl,?_⟩
    rw[aB4 rfl,M8]
    rw[aC4 (aE2 _ (a0z hg))]
    exact e9 ⟨rfl,w.new s1⟩
   obtain⟨rfl,w⟩:=hM
   refine T1 ⟨_,rfl,b,_,0,_,rfl,rfl,i3.of (w.sm _ _ hb),rfl,rfl,_,rfl,e9 (e9 ⟨rfl,rfl⟩)⟩ ?_
   refine T1 ⟨_,rfl,b,_,0,_,rfl,rfl,i3.of (w.sm _ _ hb),rfl,rfl,_,rfl,e9 ⟨rfl,rfl⟩⟩ ?_
   exact⟨_,rfl,b,_,0,_,rfl,rfl,i3.of (w.sm _ _ hb),rfl,rfl,_,rfl,e9 ⟨_,_,_,_,_,W,tr,rfl,w,by omega,oktr⟩⟩
  | @look d g hd2 hg=>
   have hin:d.num∈u9 (f i):=aA5.mpr ⟨d,hd2,rfl⟩
   have Dl0:=w.dl d hd2
   have bl:=bd.dl d hd2
   have dg:=dS Hc w.sn d.num
   rw[u3,aB4 hin]at dg
   refine⟨_,rfl,b,_,0,_,rfl,rfl,i3.of (w.sm _ _ hb),rfl,rfl,_,rfl,e9 ?_⟩
   refine⟨_,rfl,b,_,0,_,rfl,rfl,i3.of (w.sm _ _ hb),rfl,rfl,_,rfl,m9 ?_⟩
   refine⟨_,rfl,b,_,1,_,rfl,rfl,i3.of (w.sm _ _ hb),rfl,_,rfl,S,_,rfl,dg,_,rfl,m9 ?_⟩
   refine⟨_,rfl,b,_,1,_,rfl,rfl,i3.of (w.sm _ _ hb),rfl,?_⟩
   refine⟨fun σ' H'=>σ'=[some (.ref A),some (.ref Tl),some (.ref S),some (.ref L),some (.ref M),some (.ref R),some (.ref Y),some (.int (0+(i:Int))),some (.ref b),some (.int d.num),oA,oB]∧WA S L M R Y W H H' (b7c (f i) d.num g) tr,?_,fun σ' H' hM=>?_⟩
   ·refine⟨_,rfl,b,_,0,_,rfl,rfl,i3.of (w.sm _ _ hb),rfl,rfl,_,rfl,m9 ?_⟩
    refine⟨_,rfl,b,_,2,_,rfl,rfl,i3.of (w.sm _ _ hb),rfl,_,rfl,_,rfl,L,_,rfl,dL _ w.lo _ hin,_,rfl,_,rfl,M,_,rfl,dM _ w.la _ hin,W.lk d.num,W.as d.num,_,_,rfl,rfl,Dl0.lk,Dl0.as,(by rw[aA0,aA0,aA0,aG2];omega),fun c hc=>?_⟩
    rw[←aB5]
    have s1:=b8 (o:=.lst ((d.looked++d.aside.map (·.1)).map V.str)) hc
    refine⟨c,_,rfl,.inl (d8.of b6),rfl,G5 _,_,rfl,?_⟩
    rw[aB4 rfl,M8]
    have ng:=a8w hg
    have w1:=w.new s1
    by_cases c1:g∈d.looked
    ·rw[aC4 (aE3 _ c1)]
     refine e9 ⟨rfl,w1.mod (fun _=>⟨rfl,rfl⟩) fun e he en=>⟨?_,rfl⟩⟩
     rw[M9 nd he hd2 en]
     show J8 d.looked g=_
     unfold J8;rw[aB4 c1]
    ·rw[aB2 fun z=>(aA9.mp z).elim c1 ng]
     have D1:=w1.dl d hd2
     refine m9 ⟨_,rfl,_,rfl,L,_,rfl,dL _ w1.lo _ hin,.inl ⟨rfl,_,d8.of D1.lk⟩,_,rfl,b,_,2,_,rfl,rfl,i3.of (w1.sm _ _ hb),rfl,W.lk d.num,_,_,rfl,rfl,D1.lk,r9 (by rw[aA0];omega),rfl,w1.setLk nd hd2 c1⟩
   obtain⟨rfl,w⟩:=hM
   refine T1 ⟨_,rfl,b,_,0,_,rfl,rfl,i3.of (w.sm _ _ hb),rfl,rfl,_,rfl,e9 (e9 ⟨rfl,rfl⟩)⟩ ?_
   refine T1 ⟨_,rfl,b,_,0,_,rfl,rfl,i3.of (w.sm _ _ hb),rfl,rfl,_,rfl,e9 ⟨rfl,rfl⟩⟩ ?_
   exact⟨_,rfl,b,_,0,_,rfl,rfl,i3.of (w.sm _ _ hb),rfl,rfl,_,rfl,e9 ⟨_,_,_,_,_,W,tr,rfl,w,by omega,oktr⟩⟩
  | @put d g x hd2=>
   have hin:d.num∈u9 (f i):=aA5.mpr ⟨d,hd2,rfl⟩
   have Dl0:=w.dl d hd2
   have bl:=bd.dl d hd2
   have dg:=dS Hc w.sn d.num
   rw[u3,aB4 hin]at dg
   refine⟨_,rfl,b,_,0,_,rfl,rfl,i3.of (w.sm _ _ hb),rfl,rfl,_,rfl,e9 ?_⟩
   refine⟨_,rfl,b,_,0,_,rfl,rfl,i3.of (w.sm _ _ hb),rfl,rfl,_,rfl,m9 ?_⟩
   refine⟨_,rfl,b,_,1,_,rfl,rfl,i3.of (w.sm _ _ hb),rfl,_,rfl,S,_,rfl,dg,_,rfl,m9 ?_⟩
   refine⟨_,rfl,b,_,1,_,rfl,rfl,i3.of (w.sm _ _ hb),rfl,?_⟩
   refine T1 ⟨_,rfl,b,_,0,_,rfl,rfl,i3.of (w.sm _ _ hb),rfl,rfl,_,rfl,e9 (e9 ⟨rfl,rfl⟩)⟩ ?_
   have Dl0:=w.dl d hd2
   refine⟨fun σ' H'=>σ'=[some (.ref A),some (.ref Tl),some (.ref S),some (.ref L),some (.ref M),some (.ref R),some (.ref Y),some (.int (0+(i:Int))),some (.ref b),some (.int d.num),oA,oB]∧WA S L M R Y W H H' (putSt (f i) d.num g x) tr,?_,fun σ' H' hM=>?_⟩
   ·refine⟨_,rfl,b,_,0,_,rfl,rfl,i3.of (w.sm _ _ hb),rfl,rfl,_,rfl,m9 ?_⟩
    refine⟨_,rfl,b,_,2,_,rfl,rfl,i3.of (w.sm _ _ hb),rfl,_,rfl,_,rfl,M,_,rfl,dM _ w.la _ hin,W.as d.num,_,rfl,.inl (d8.of Dl0.as),rfl,G5 _,_,rfl,?_⟩
    rw[aB4 rfl,M8]
    by_cases c1:g∈d.aside.map (·.1)
    ·rw[aC4 c1]
     refine e9 ⟨rfl,w.mod (fun _=>⟨rfl,rfl⟩) fun e he en=>⟨rfl,?_⟩⟩
     rw[M9 nd he hd2 en]
     show(G3 d.aside g x).map (·.1)=_
     rw[a4k,aB4 c1]
    ·rw[aB2 c1]
     exact m9 ⟨_,rfl,_,rfl,M,_,rfl,dM _ w.la _ hin,.inl ⟨rfl,_,d8.of Dl0.as⟩,_,rfl,b,_,2,_,rfl,rfl,i3.of (w.sm _ _ hb),rfl,W.as d.num,_,_,rfl,rfl,Dl0.as,r9 (by rw[aA0,aA0];omega),rfl,w.setAs nd hd2 c1⟩
   obtain⟨rfl,w⟩:=hM
   refine T1 ⟨_,rfl,b,_,0,_,rfl,rfl,i3.of (w.sm _ _ hb),rfl,rfl,_,rfl,e9 ⟨rfl,rfl⟩⟩ ?_
   exact⟨_,rfl,b,_,0,_,rfl,rfl,i3.of (w.sm _ _ hb),rfl,rfl,_,rfl,e9 ⟨_,_,_,_,_,W,tr,rfl,w,by omega,oktr⟩⟩
  | @leave d hd2=>
   have hin:d.num∈u9 (f i):=aA5.mpr ⟨d,hd2,rfl⟩
   have Dl0:=w.dl d hd2
   have bl:=bd.dl d hd2
   have dg:=dS Hc w.sn d.num
   rw[u3,aB4 hin]at dg
   refine⟨_,rfl,b,_,0,_,rfl,rfl,i3.of (w.sm _ _ hb),rfl,rfl,_,rfl,e9 ?_⟩
   refine⟨_,rfl,b,_,0,_,rfl,rfl,i3.of (w.sm _ _ hb),rfl,rfl,_,rfl,m9 ?_⟩
   refine⟨_,rfl,b,_,1,_,rfl,rfl,i3.of (w.sm _ _ hb),rfl,_,rfl,S,_,rfl,dg,_,rfl,m9 ?_⟩
   refine⟨_,rfl,b,_,1,_,rfl,rfl,i3.of (w.sm _ _ hb),rfl,?_⟩
   refine T1 ⟨_,rfl,b,_,0,_,rfl,rfl,i3.of (w.sm _ _ hb),rfl,rfl,_,rfl,e9 (e9 ⟨rfl,rfl⟩)⟩ ?_
   refine T1 ⟨_,rfl,b,_,0,_,rfl,rfl,i3.of (w.sm _ _ hb),rfl,rfl,_,rfl,e9 (e9 ⟨rfl,rfl⟩)⟩ ?_
   refine⟨fun σ' H'=>σ'=[some (.ref A),some (.ref Tl),some (.ref S),some (.ref L),some (.ref M),some (.ref R),some (.ref Y),some (.int (0+(i:Int))),some (.ref b),some (.int d.num),oA,oB]∧WA S L M R Y W H H' (G4 (f i) d.num) tr,?_,fun σ' H' hM=>?_⟩
   ·refine⟨_,rfl,b,_,0,_,rfl,rfl,i3.of (w.sm _ _ hb),rfl,rfl,_,rfl,m9 ?_⟩
    refine⟨_,rfl,S,rfl,.inl ⟨_,.inl w.sn⟩,_,rfl,_,Sum.inl d.num,.int (W.bg d.num),w.sn,rfl,?_,rfl,w.drop d.num⟩
    rw[u3,aB4 hin]
   obtain⟨rfl,w⟩:=hM
   exact⟨_,rfl,b,_,0,_,rfl,rfl,i3.of (w.sm _ _ hb),rfl,rfl,_,rfl,e9 ⟨_,_,_,_,_,W,tr,rfl,w,by omega,oktr⟩⟩
  | ended hd2 _=>exact absurd rfl (nofin _ hd2)
  | ring hd2 _=>exact absurd rfl (nofin _ hd2)
 ·obtain⟨o7,o8,o9,oA,oB,W,tr,rfl,w,ltr,oktr⟩:=z
  obtain⟨us,u1,u2⟩:=w.rc
  obtain⟨ws,y1,y2⟩:=w.ty
  refine⟨_,rfl,_,rfl,(l8 2),fun p hp=>?_⟩
  have sp:=b8 (o:=.tup [.ref R,.ref Y]) hp
  exact q p R Y us ws tr W.rl _ (w.sm.trans sp) b6 (sp _ _ u1) (Paired.mapP u2 fun _ _ z=>z.same sp) (sp _ _ y1) (Paired.mapP y2 fun _ _ z=>z.same sp) oktr
theorem b9n{v:J7}{m:Int}{am:Am}(nd:(v.map (·.1)).Nodup):((C9 v am m).map (·.1)).Nodup:=by
 induction am generalizing v with
 | nil=>exact nd
 | cons a am ih=>
  refine ih (v:=F9 v a.1 (m,a.2)) ?_
  rw[Z2];split
  ·exact nd
  ·rename_i z
   rw[aD4]
   refine⟨nd,by simp,fun x hx y hy e=>z ?_⟩
   rw[aA3.mp hy]at e
   rw[←e];exact hx
theorem a2Q{st st':j8}{d:i9}{a:u7}(h:(st.vers.map (·.1)).Nodup)(s:Step st d a st'):(st'.vers.map (·.1)).Nodup:=by
 cases s with
 | @sweep m _=>
  show((T9 st.vers m).map (·.1)).Nodup
  unfold T9
  rw[aE8];exact h
 | ended _ _=>exact b9n h
 | _=>exact h
theorem Run.to{ds:List i9}{as:List u7}{st:j8}(R:Run T8 ds as st)(okd:∀d∈ds,O2 d)(bn:ds.length≤63):∃f,Trace f ds as∧f ds.length=st:=by
 obtain⟨f,f0,f1,fs⟩:=R.trace
 have la:=a8G R
 have vb:∀i,i≤ds.length→((f i).vers.map (·.1)).Nodup∧Bd i (f i):=by
  intro i
  induction i with
  | zero=>intro _;rw[f0];exact⟨aL3,bd0⟩
  | succ i ih=>
   intro h
   have hd:=List.getElem?_eq_getElem (l:=ds) (i:=i) (by omega)
   have ha:=List.getElem?_eq_getElem (l:=as) (i:=i) (by omega)
   obtain⟨v,b⟩:=ih (by omega)
   exact⟨a2Q v (fs i _ _ hd ha),a5Z (by omega) v b (fs i _ _ hd ha)⟩
 exact⟨f,⟨f0,fs,la,Run.oks (st:=st) f0 ok0 la fs,Run.gds f0 gd0 la okd fs,fun i h=>(vb i h).2⟩,f1⟩
theorem a4K{st:j8}(ok:C8 st){d:Dl}(hd:d∈st.under){e:Int}{r:Rec}(rc:O7 d e r){cs:List (List Lk)}(lw:LWs r st.recs cs)(l:Lk) :
  l∈st.links++cs.flatten↔∃o∈st.recs++[r],∃p∈st.recs++[r],o.num≠p.num∧a7k o p l:=by
 have dn:d.num∈st.under.map (·.num):=aA5.mpr ⟨d,hd,rfl⟩
 have ne:∀o∈st.recs,o.num≠r.num:=fun o ho e=>(aD4.mp ok.un).2.2 o.num (aA5.mpr ⟨o,ho,rfl⟩) d.num dn (by rw[e,rc.1])
 rw[aA9,ok.mem,lw.mem]
 constructor
 ·rintro(⟨a,ha,b,hb,c,k⟩ | ⟨o,ho,k | k⟩)
  ·exact⟨a,aE3 _ ha,b,aE3 _ hb,c,k⟩
  ·exact⟨r,by simp,o,aE3 _ ho,(ne o ho).symm,k⟩
  ·exact⟨o,aE3 _ ho,r,by simp,ne o ho,k⟩
 ·rintro⟨a,ha,b,hb,c,k⟩
  rcases aA9.mp ha with u | u<;>rcases aA9.mp hb with v | v
  ·exact .inl ⟨a,u,b,v,c,k⟩
  ·rw[aA3.mp v]at k;exact .inr ⟨a,u,.inr k⟩
  ·rw[aA3.mp u]at k;exact .inr ⟨b,v,.inl k⟩
  ·rw[aA3.mp u,aA3.mp v]at c;exact absurd rfl c
theorem a6Z{st:j8}(ok:C8 st){d:Dl}(hd:d∈st.under){r:Rec}(e:r.num=d.num):((st.recs++[r]).map (·.num)).Nodup:=by
 have u:=aD4.mp ok.un
 rw[aB5,aD4]
 refine⟨u.1,by simp,fun x hx y hy z=>?_⟩
 have:y=r.num:=by simpa using hy
 exact u.2.2 x hx d.num (aA5.mpr ⟨d,hd,rfl⟩) (by rw[z,this,e])
theorem a9p{st:j8}(ok:C8 st){d:Dl}(hd:d∈st.under){r:Rec}{cs:List (List Lk)}{row:List Int}(E:a5N st d r cs row):¬a6N st.recs r:=by
 have lead:∀{o p:Rec},o∈st.recs++[r]→p∈st.recs++[r]→o.num≠p.num→lnk o p=true→ahead row o.num p.num:=fun {o p} ho hp hn hl=>by
  obtain⟨l,hl⟩:=a1Z.mp hl
  have:=E.row.keeps l ((a4K ok hd E.rc E.lw l).mpr ⟨o,ho,p,hp,hn,hl⟩)
  rw[hl.1,hl.2.1]at this;exact this
 have uniq:∀(i j:Nat) (x:Int),row[i]?=some x→row[j]?=some x→i=j:=fun i j x hi hj=>(aF4 (aA2.mp hi).1 E.row.nd).mp (by rw[hi,hj])
 have tr:∀{x y z:Int},ahead row x y→ahead row y z→ahead row x z:=fun {x y z} ⟨i,j,a,b,c⟩ ⟨k,m,a',b',c'⟩=>by
  have:=uniq j k y c b'
  exact⟨i,m,by omega,b,c'⟩
 have far:∀o,Rch st.recs r o→o∈st.recs++[r]∧(o=r∨ahead row r.num o.num):=fun o h=>by
  induction h with
  | base=>exact⟨by simp,.inl rfl⟩
  | @step o p h1 hp hn hl hr ih=>
   have a:=lead ih.1 hp hn hl
   refine⟨hp,.inr ?_⟩
   rcases ih.2 with e | b
   ·rw[←e];exact a
   ·exact tr b a
 rintro⟨o,ro,no,lo⟩
 obtain⟨m,e | a⟩:=far o ro
 ·exact no (by rw[e])
 ·obtain⟨i,j,lt,b,c⟩:=tr a (lead m (by simp) no lo)
  have:=uniq i j _ b c
  omega
theorem a7j{st:j8}(ok:C8 st){d:Dl}(hd:d∈st.under){r:Rec}{cs:List (List Lk)}{rg:List Lk}(E:a5E st d r cs rg):a6N st.recs r:=by
 have nd:=a6Z ok hd E.rc.1
 have ends:∀l∈rg,∃o∈st.recs++[r],∃p∈st.recs++[r],o.num≠p.num∧lnk o p=true∧o.num=l.1∧p.num=l.2.1:=fun l hl=>by
  obtain⟨o,ho,p,hp,hn,k⟩:=(a4K ok hd E.rc E.lw l).mp (E.sub l hl)
  exact⟨o,ho,p,hp,hn,a1Z.mpr ⟨l,k⟩,k.1.symm,k.2.1.symm⟩
 have lp:0<rg.length:=by
  cases hrg:rg with
  | nil=>exact absurd hrg E.ring.ne
  | cons a b=>simp
 have h0:(rg[0]).1=r.num:=by
  have:=E.hd
  rw[aB1,List.getElem?_eq_getElem lp]at this
  have:(rg[0]).1=d.num:=aC0 this
  rw[this,E.rc.1]
 have go:∀i,(hi:i<rg.length)→∃o,Rch st.recs r o∧o∈st.recs++[r]∧o.num=(rg[i]).1:=by
  intro i
  induction i with
  | zero=>intro _;exact⟨r,.base,by simp,h0.symm⟩
  | succ i ih=>
   intro hi
   obtain⟨o,ro,mo,no⟩:=ih (by omega)
   obtain⟨o',ho',p,hp,hn,hl,e1,e2⟩:=ends _ (aF9 (show i<rg.length by omega))
   have:o'=o:=a1i nd ho' mo (by rw[e1,no])
   subst this
   obtain⟨m,hm,e⟩:=E.ring.next (i+1) _ (List.getElem?_eq_getElem hi)
   rw[aA8 (by omega),show i+1-1=i by omega,List.getElem?_eq_getElem (show i<rg.length by omega)]at hm
   rw[←aC0 hm]at e
   have pn:p.num≠r.num:=fun z=>by
    have a1:(rg.map (·.1))[i+1]?=some r.num:=by rw[aB1,List.getElem?_eq_getElem hi];show some (rg[i+1]).1=_;rw[e,←e2,z]
    have a2:(rg.map (·.1))[0]?=some r.num:=by rw[aB1,List.getElem?_eq_getElem lp];show some (rg[0]).1=_;rw[h0]
    have:=(aF4 (l:=rg.map (·.1)) (i:=i+1) (j:=0) (by rw[aA0];exact hi) E.ring.nd).mp (by rw[a1,a2])
    omega
   exact⟨p,.step ro hp hn hl pn,hp,by rw[e,e2]⟩
 obtain⟨o,ro,mo,no⟩:=go (rg.length-1) (by omega)
 obtain⟨o',ho',p,hp,hn,hl,e1,e2⟩:=ends _ (aF9 (show rg.length-1<rg.length by omega))
 have:o'=o:=a1i nd ho' mo (by rw[e1,no])
 subst this
 obtain⟨m,hm,e⟩:=E.ring.next 0 _ (List.getElem?_eq_getElem lp)
 rw[aB4 rfl,List.getElem?_eq_getElem (show rg.length-1<rg.length by omega)]at hm
 rw[←aC0 hm]at e
 have pr:p=r:=a1i nd hp (by simp) (by rw[e2,←e,h0])
 subst pr
 exact⟨o',ro,hn,hl⟩
structure a6S(s t:j8):Prop where
 bg:s.begun=t.begun
 un:s.under=t.under
 ve:s.vers=t.vers
 rc:s.recs=t.recs
def b6E:u7→u7→Prop
 | .num i,.num j=>i=j
 | .word x,.word y=>x=y
 | .non,.non=>True
 | .ring _,.ring _=>True
 | _,_=>False
theorem b4x{s t:j8}(h:a6S s t){m k:Int}(a:a5P s m)(b:a5P t k):m=k:=by
 obtain⟨a1,a2⟩:=a
 obtain⟨b1,b2⟩:=b
 rw[←h.un]at b1 b2
 rw[←h.rc]at b1
 by_cases c:s.under=[]
 ·rw[a1 c,b1 c]
 ·obtain⟨a3,a4⟩:=a2 c
  obtain⟨b3,b4⟩:=b2 c
  obtain⟨x,hx,ex⟩:=aA5.mp a3
  obtain⟨y,hy,ey⟩:=aA5.mp b3
  have:=a4 y hy
  have:=b4 x hx
  omega
theorem b6i{s t s' t':j8}{d:i9}{a b:u7}(h:a6S s t)(os:C8 s)(ot:C8 t)(p:Step s d a s')(q:Step t d b t'):a6S s' t'∧b6E a b:=by
 have nd:(s.under.map (·.num)).Nodup:=(aD4.mp os.un).2.1
 obtain⟨hb,hu,hv,hr⟩:=h
 have same:∀{x y:Dl},x∈s.under→y∈t.under→x.num=y.num→x=y:=fun {x y} hx hy e=>M9 nd hx (by rw[hu];exact hy) e
 cases p with
 | begin=>
  cases q with
  | begin=>exact⟨⟨by show s.begun+1=t.begun+1;rw[hb],by show s.under++_=t.under++_;rw[hu,hb,hr],hv,hr⟩,by show((s.begun:Int))=(t.begun:Int);rw[hb]⟩
  | none h1 _=>cases h1
 | @sweep m mb=>
  cases q with
  | @sweep k kb=>
   have:=b4x ⟨hb,hu,hv,hr⟩ mb kb
   subst this
   exact⟨⟨hb,hu,by show T9 s.vers m=T9 t.vers m;rw[hv],hr⟩,by show a1f s.vers m=a1f t.vers m;rw[hv]⟩
  | none h1 _=>cases h1
 | @none _ n h1 h2=>
  have no:∀{x:Dl},x∈t.under→x.num=n→False:=fun {x} hx e=>h2 (by rw[hu,←e];exact aA5.mpr ⟨x,hx,rfl⟩)
  cases q with
  | begin=>cases h1
  | sweep _=>cases h1
  | none _ _=>exact⟨⟨hb,hu,hv,hr⟩,trivial⟩
  | own hd _=>exact(no hd (aC0 h1)).elim
  | look hd _=>exact(no hd (aC0 h1)).elim
  | put hd=>exact(no hd (aC0 h1)).elim
  | leave hd=>exact(no hd (aC0 h1)).elim
  | ended hd _=>exact(no hd (aC0 h1)).elim
  | ring hd _=>exact(no hd (aC0 h1)).elim
 | @own d g x hd hg=>
  generalize e:i9.look d.num g=dd at q
  cases q with
  | none h1 h2=>subst e;cases h1;exact(h2 (by rw[←hu];exact aA5.mpr ⟨d,hd,rfl⟩)).elim
  | own hd' hg'=>
   injection e with e1 e2
   have:=same hd hd' e1
   subst this;subst e2
   rw[hg]at hg';cases hg'
   exact⟨⟨hb,hu,hv,hr⟩,rfl⟩
  | look hd' hg'=>
   injection e with e1 e2
   have:=same hd hd' e1
   subst this;subst e2
   rw[hg]at hg';cases hg'
  | _=>cases e
 | @look d g hd hg=>
  generalize e:i9.look d.num g=dd at q
  cases q with
  | none h1 h2=>subst e;cases h1;exact(h2 (by rw[←hu];exact aA5.mpr ⟨d,hd,rfl⟩)).elim
  | own hd' hg'=>
   injection e with e1 e2
   have:=same hd hd' e1
   subst this;subst e2
   rw[hg]at hg';cases hg'
  | look hd' hg'=>
   injection e with e1 e2
   have:=same hd hd' e1
   subst this;subst e2
   exact⟨⟨hb,by show F6 s.under _ _=F6 t.under _ _;rw[hu],hv,hr⟩,by show valueAt _ _=valueAt _ _;rw[hv]⟩
  | _=>cases e
 | @put d g x hd=>
  generalize e:i9.put d.num g x=dd at q
  cases q with
  | none h1 h2=>subst e;cases h1;exact(h2 (by rw[←hu];exact aA5.mpr ⟨d,hd,rfl⟩)).elim
  | put hd'=>
   injection e with e1 e2 e3
   have:=same hd hd' e1
   subst this;subst e2;subst e3
   exact⟨⟨hb,by show F6 s.under _ _=F6 t.under _ _;rw[hu],hv,hr⟩,rfl⟩
  | _=>cases e
 | @leave d hd=>
  generalize e:i9.leave d.num=dd at q
  cases q with
  | none h1 h2=>subst e;cases h1;exact(h2 (by rw[←hu];exact aA5.mpr ⟨d,hd,rfl⟩)).elim
  | leave hd'=>
   injection e with e1
   have:=same hd hd' e1
   subst this
   exact⟨⟨hb,by show Q3 s.under _=Q3 t.under _;rw[hu],hv,hr⟩,rfl⟩
  | _=>cases e
 | @ended d r cs row hd E=>
  generalize e:i9.fin d.num=dd at q
  cases q with
  | none h1 h2=>subst e;cases h1;exact(h2 (by rw[←hu];exact aA5.mpr ⟨d,hd,rfl⟩)).elim
  | @ended d' r' cs' row' hd' E'=>
   injection e with e1
   have:=same hd hd' e1
   subst this
   have er:r=r':=a1c E.rc (by rw[hr];exact E'.rc)
   subst er
   exact⟨⟨hb,by show Q3 s.under _=Q3 t.under _;rw[hu],by show C9 s.vers _ _=C9 t.vers _ _;rw[hv,hr],by show s.recs++_=t.recs++_;rw[hr]⟩,rfl⟩
  | @ring d' r' cs' rg hd' E'=>
   injection e with e1
   have:=same hd hd' e1
   subst this
   have er:r=r':=a1c E.rc (by rw[hr];exact E'.rc)
   subst er
   have:=a7j ot hd' E'
   rw[←hr]at this
   exact absurd this (a9p os hd E)
  | _=>cases e
 | @ring d r cs rg hd E=>
  generalize e:i9.fin d.num=dd at q
  cases q with
  | none h1 h2=>subst e;cases h1;exact(h2 (by rw[←hu];exact aA5.mpr ⟨d,hd,rfl⟩)).elim
  | @ended d' r' cs' row' hd' E'=>
   injection e with e1
   have:=same hd hd' e1
   subst this
   have er:r=r':=a1c E.rc (by rw[hr];exact E'.rc)
   subst er
   have:=a7j os hd E
   rw[hr]at this
   exact absurd this (a9p ot hd' E')
  | @ring d' r' cs' rg' hd' E'=>
   injection e with e1
   have:=same hd hd' e1
   subst this
   exact⟨⟨hb,by show Q3 s.under _=Q3 t.under _;rw[hu],hv,hr⟩,trivial⟩
  | _=>cases e
theorem a6C{f g:Nat→j8}{ds:List i9}{as bs:List u7}(F:Trace f ds as)(G:Trace g ds bs):∀i,i≤ds.length→a6S (f i) (g i)
 | 0,_=>by rw[F.zero,G.zero];exact⟨rfl,rfl,rfl,rfl⟩
 | i+1,h=>by
  have hd:=List.getElem?_eq_getElem (l:=ds) (i:=i) (by omega)
  have ha:=List.getElem?_eq_getElem (l:=as) (i:=i) (by have:=F.len;omega)
  have hb:=List.getElem?_eq_getElem (l:=bs) (i:=i) (by have:=G.len;omega)
  exact(b6i (a6C F G i (by omega)) (F.oks i (by omega)) (G.oks i (by omega)) (F.step i _ _ hd ha) (G.step i _ _ hd hb)).1
inductive a9m(K:PySem.W.Frag)(vs:List V)(H:Hp)(Q:VK):Prop
 | mk (A Tl:Addr) (xs ys:List V) (ds:List i9) (as:List u7) (rl0:Addr→Role) (f:Nat→j8) (x0:vs=[.ref A,.ref Tl]) (x1:H A=some (.lst xs)) (x2:u4 H ds xs) (x3:H Tl=some (.lst ys)) (x4:Paired (E3 rl0 H) as ys) (x5:Trace f ds as) (x6:ds.length≤63) (xq:∀H',f7 H H'→Q (.bl true) H')
def a8o(K:PySem.W.Frag):Sp:=fun vs H Q _=>a9m K vs H Q
theorem a8q(T:B6 K mg t):g9 P w K mg base A3 3 t.f__law_ends_right t.d__law_ends_right ["_law_asked","_law_told"] (a8o K):=by
 refine T.F__law_ends_right.ok N1 (fun vs H Q E h=>?_) (fun cdv A outer s H vs Q E hr h=>?_)
 ·obtain⟨A,Tl,xs,ys,ds,as,rl0,f,rfl,_⟩:=h
  rfl
 obtain⟨A,Tl,xs,ys,ds,as,rl0,f,rfl,hA,hD,hT,pa,F,bn,q⟩:=h
 refine⟨_,(b9 (y6 aE1 rfl (u6 (d7 f6 (k7 (g9.mono (k:=2) (a6h T) (by decide)) hr rfl T.m__law_walked T.F__law_walked.kp T.F__law_walked.b .nil k8 (b0 (pv 0) (b0 (pv 1) b7))) d5 (fun _ _=>rfl))) (a6A rfl (P3 (l6 (i:=2) N1.nd rfl (Or.inl rfl)) (P3 (l6 (i:=3) N1.nd rfl (Or.inl rfl)) (P3 (l6 (i:=4) N1.nd rfl (Or.inl rfl)) a6s))))
 (d6 (l4 (g7 A9 (k7 (g9.mono (k:=2) (a8a T) (by decide)) hr rfl T.m__law_ended T.F__law_ended.kp T.F__law_ended.b .nil k8 (b0 (d7 l5 (pv 1) (pv 2) (fun _ _=>rfl)) b7)) (k7 (g9.mono (k:=2) (a7H T) (by decide)) hr rfl T.m__law_ringed T.F__law_ringed.kp T.F__law_ringed.b .nil k8 (b0 (pv 4) (b0 (pv 3) b7))) (i7 _))
 (d6 (i4 y0))
 j4)))
 (d6 (i4 y0))),?_⟩
 have la:=F.len
 have ly:=p6 pa
 refine⟨_,rfl,_,rfl,A,Tl,xs,ys,ds,as,rl0,f,rfl,hA,hD,hT,pa,F,bn,fun p R Y us ws tr rl H1 s1 hp hR pR hY pY okt=>⟨p,_,1,_,rfl,rfl,i3.of hp,rfl,Y,rfl,⟨_,d8.of hY⟩,?_⟩⟩
 refine A7 (xs:=ws) (fun j σ' Hc=>∃o2 o3 o4:Option V,σ'=[some (.ref A),some (.ref Tl),o2,o3,o4]∧f7 H1 Hc) ⟨none,none,none,rfl,f7.refl H1⟩ (fun j σ' Hc _ z=>?_) (fun j v σ' Hc hv z=>?_) (fun σ' Hc z=>?_)
 ·obtain⟨_,_,_,_,sc⟩:=z
  exact d8.of (sc _ _ hY)
 ·obtain⟨o2,o3,o4,rfl,sc⟩:=z
  obtain⟨⟨k,r,rs⟩,hy,b,lb,x,zs,rfl,hb,hx,hlb,_,pz⟩:=C2 pY hv
  obtain⟨d,a,hd,ha,hu,S,isr,ers⟩:=(okt _ (aC8 hy)).ex
  have ers:rs=(f k).recs:=ers
  subst ers
  have S:Step (f k) (.fin d.num) a (f (k+1)):=S
  have isr:O7 d (((f k).recs.length:Int)+1) r:=isr
  have hu:d∈(f k).under:=hu
  have lk:k<as.length:=(aA2.mp ha).1
  have hyi:=List.getElem?_eq_getElem (show k<ys.length by omega)
  obtain⟨a',ha',hya⟩:=C2 pa hyi
  have ha:as[k]?=some a:=ha
  rw[ha]at ha';cases ha'
  have ay:F7 ys (k:Int)=some ys[k]:=j0 hyi
  generalize ys[k]=y at ay hya hyi
  have ok:=F.oks k (by omega)
  have gd:=F.gds k (by omega)
  have bd:=F.bds k (by omega)
  have s2:=s1.trans sc
  have gr:=isr.good gd hu
  have l1:r.looked.length≤63:=by rw[isr.2.2.2.1.length_eq];have:=(bd.dl d hu).1;omega
  have l2:r.put.length≤63:=by rw[isr.2.2.2.2.1.length_eq,aA0];have:=(bd.dl d hu).2;omega
  refine⟨b,_,rfl,i3.of (sc _ _ hb),rfl,_,_,rfl,_,_,rfl,_,_,rfl,rfl,?_⟩
  refine⟨_,rfl,_,rfl,Tl,_,_,_,rfl,rfl,d8.of (s2 _ _ hT),ay,rl0,a,y,rfl,hya.same s2,_,rfl,_,rfl,lb,x,zs,(f k).recs,r,rl,rfl,sc _ _ hlb,Paired.mapP pz fun _ _ z=>z.same sc,hx.same sc,a6Z ok hu isr.1,fun o ho=>?_,by have:=bd.rc;omega,fun H3 s3 lo=>?_,fun H3 s3 lo=>?_⟩
  ·rcases aA9.mp ho with ho | ho
   ·exact⟨⟨gd.rl o ho,gd.rp o ho⟩,by have:=(bd.rs o ho).2;omega,by have:=(bd.rs o ho).1;omega⟩
   ·rw[aA3.mp ho];exact⟨gr,l1,l2⟩
  ·have ea:isE a=false:=by
    generalize e:i9.fin d.num=dd at S
    generalize f (k+1)=st1 at S
    cases S with
    | @ended d' r' cs' row' hd' E'=>
     injection e with e1
     have:=M9 (aD4.mp ok.un).2.1 hu hd' e1
     subst this
     have er:r=r':=a1c isr E'.rc
     subst er
     exact absurd lo (a9p ok hu E')
    | ring _ _=>rfl
    | none _ _=>rfl
    | own _ _=>cases e
    | look _ _=>cases e
    | put _=>cases e
    | leave _=>cases e
    | begin=>cases e
    | sweep _=>cases e
   rw[ea]
   exact⟨rfl,_,rfl,e9 ⟨_,_,_,rfl,sc.trans s3⟩⟩
  ·have ea:isE a=true:=by
    generalize e:i9.fin d.num=dd at S
    generalize f (k+1)=st1 at S
    cases S with
    | ended _ _=>rfl
    | @ring d' r' cs' rg' hd' E'=>
     injection e with e1
     have:=M9 (aD4.mp ok.un).2.1 hu hd' e1
     subst this
     have er:r=r':=a1c isr E'.rc
     subst er
     exact absurd (a7j ok hu E') lo
    | @none _ n h1 h2=>subst e;cases h1;exact absurd (aA5.mpr ⟨d,hu,rfl⟩) h2
    | own _ _=>cases e
    | look _ _=>cases e
    | put _=>cases e
    | leave _=>cases e
    | begin=>cases e
    | sweep _=>cases e
   rw[ea]
   exact⟨rfl,_,rfl,e9 ⟨_,_,_,rfl,sc.trans s3⟩⟩
 ·obtain⟨_,_,_,rfl,sc⟩:=z
  exact q _ (s1.trans sc)
theorem a8W(ps qs:List (Int×Int))(t:Int):cnt (ps++qs) t=cnt ps t+cnt qs t:=by
 unfold cnt;rw[aP6,aA4]
theorem a9i{ps:List (Int×Int)}{t:Int}(h:∀p∈ps,p.1≤t):cnt ps t=ps.length:=by
 unfold cnt;rw[aS9.mpr fun p hp=>aC4 (h p hp)]
theorem b8q(ps:List (Int×Int)){s t:Int}(h:s≤t):cnt ps s≤cnt ps t:=by
 induction ps with
 | nil=>exact aB3 _
 | cons p ps ih=>
  have e:∀u,cnt (p::ps) u=(if p.1≤u then 1 else 0)+cnt ps u:=fun u=>by
   unfold cnt;rw[aH9]
   split
   ·rename_i c;rw[aB4 (aF2 c),aE4,Nat.add_comm]
   ·rename_i c;rw[aA8 (fun z=>c (aC4 z)),Nat.zero_add]
  rw[e,e]
  split
  ·rw[aB4 (by omega)];omega
  ·split<;>omega
theorem a1T:∀{ps:List (Int×Int)} {t:Int},ps.Pairwise (fun p q=>p.1<q.1)→∀p∈ps.take (cnt ps t),p.1≤t
 | [],_,_,p,h=>by simp at h
 | q::ps,t,hp,p,h=>by
  obtain⟨h1,h2⟩:=aK2.mp hp
  by_cases c:q.1≤t
  ·have e:cnt (q::ps) t=cnt ps t+1:=by unfold cnt;rw[aH9,aB4 (aC4 c),aE4]
   rw[e,List.take_succ_cons]at h
   rcases aB7.mp h with rfl | h
   ·exact c
   ·exact a1T h2 p h
  ·have e:cnt (q::ps) t=0:=by
    unfold cnt
    rw[List.length_eq_zero_iff,List.filter_eq_nil_iff]
    intro r hr
    simp only[aM2]
    rcases aB7.mp hr with rfl | hr
    ·exact c
    ·have:=h1 r hr;omega
   rw[e]at h;simp at h
theorem b7v{ps:List (Int×Int)}{m x t:Int}(h:t<m):valueAt (ps++[(m,x)]) t=valueAt ps t:=by
 have e:cnt (ps++[(m,x)]) t=cnt ps t:=by
  rw[a8W]
  have:cnt [(m,x)] t=0:=by unfold cnt;rw[aH9,aA8 (by simp;omega)];rfl
  omega
 unfold valueAt
 rw[e]
 split
 ·rfl
 ·have:=a8z ps t
  rw[aF1,aF1,aE0 (by omega)]
theorem b1x{ps:List (Int×Int)}{m x:Int}(h:∀p∈ps,p.1≤m):valueAt (ps++[(m,x)]) m=x:=by
 have e:cnt (ps++[(m,x)]) m=ps.length+1:=by
  rw[a9i fun p hp=>?_,aA4];rfl
  rcases aA9.mp hp with z | z
  ·exact h p z
  ·rw[aA3.mp z];exact aP1 _
 unfold valueAt
 rw[e,aA8 (by omega),aF1,show ps.length+1-1=ps.length by omega,aF0 (aB3 _)]
 simp
theorem b1q{ps:List (Int×Int)}{s t:Int}(h:∀p∈ps,p.1≤s)(le:s≤t):valueAt ps t=valueAt ps s:=by
 unfold valueAt
 rw[a9i h,a9i fun p hp=>Int.le_trans (h p hp) le]
theorem b5i{ps:List (Int×Int)}{m t:Int}(hp:ps.Pairwise fun p q=>p.1<q.1)(le:m≤t):valueAt (swL ps m) t=valueAt ps t:=by
 unfold swL
 generalize hk:cnt ps m-1=k
 have lk:k≤cnt ps m:=by omega
 have lm:=a8z ps m
 have mt:=b8q ps le
 have split1:cnt ps t=k+cnt (ps.drop k) t:=by
  conv=>lhs;rw[←aN8 k ps,a8W]
  rw[a9i fun p h=>?_,aD0,Nat.min_eq_left (by omega)]
  have:p∈ps.take (cnt ps m):=List.take_subset_take_left _ lk h
  exact Int.le_trans (a1T hp p this) le
 unfold valueAt
 by_cases c:cnt ps m=0
 ·have:k=0:=by omega
  subst this
  rw[List.drop_zero]
 ·rw[aA8 (by omega),aA8 (by omega),aF1,aF1,aI7,show k+(cnt (ps.drop k) t-1)=cnt ps t-1 by omega]
theorem b9x(v:J7)(g h:Str)(x:Int×Int):B8 (F9 v g x) h=if h=g then B8 v h++[x] else B8 v h:=by
 unfold F9
 by_cases m:g∈v.map (·.1)
 ·rw[aB4 m]
  induction v with
  | nil=>simp at m
  | cons q v ih=>
   rw[aC3]
   unfold B8
   by_cases e:q.1=h
   ·subst e
    rw[aJ7 (by split<;>simp),aJ7 (by simp)]
    by_cases e2:q.1=g
    ·simp[e2]
    ·simp[e2]
   ·rw[aI1 (by split<;>simpa using e),aI1 (by simpa using e)]
    by_cases m2:g∈v.map (·.1)
    ·exact ih m2
    ·have eg:q.1=g:=by
      rw[aC3]at m
      rcases aB7.mp m with z | z
      ·exact z.symm
      ·exact absurd z m2
     rw[aA8 (fun z=>e (by rw[eg,z]))]
     have:(v.map fun q=>if q.1=g then(q.1,q.2++[x]) else q)=v:=by
      conv=>rhs;rw[←aS8 v]
      exact aE5 fun p hp=>by
       rw[aA8 fun z=>m2 (aA5.mpr ⟨p,hp,z⟩)];rfl
     rw[this]
 ·rw[aA8 m]
  unfold B8
  rw[List.find?_append]
  by_cases e:h=g
  ·subst e
   have:(v.find? fun q=>decide (q.1=h))=none:=aN4.mpr fun q hq=>by
    simp only[aM2];exact fun z=>m (aA5.mpr ⟨q,hq,z⟩)
   rw[this,aB4 rfl];simp
  ·rw[aA8 e,aI1 (by simpa using Ne.symm e)]
   cases (v.find? fun q=>decide (q.1=h))<;>rfl
theorem a0e{m:Int}(h:Str):∀(am:Am) (v:J7),(am.map (·.1)).Nodup→B8 (C9 v am m) h=match n9 am h with | some x=>B8 v h++[(m,x)] | none=>B8 v h
 | [],v,_=>rfl
 | q::am,v,nd=>by
  rw[aC3,aG4]at nd
  show B8 (C9 (F9 v q.1 (m,q.2)) am m) h=_
  rw[a0e h am _ nd.2,b9x]
  by_cases e:q.1=h
  ·subst e
   have n:n9 am q.1=none:=by
    unfold n9
    rw[aN4.mpr fun p hp=>?_];rfl
    simp only[aM2];exact fun z=>nd.1 (aA5.mpr ⟨p,hp,z⟩)
   rw[n,aB4 rfl]
   have:n9 (q::am) q.1=some q.2:=by unfold n9;rw[aJ7 (by simp)];rfl
   rw[this]
  ·rw[aA8 (Ne.symm e)]
   have:n9 (q::am) h=n9 am h:=by unfold n9;rw[aI1 (by simpa using e)]
   rw[this]
theorem a1P(v:J7)(m:Int)(h:Str):B8 (T9 v m) h=swL (B8 v h) m:=by
 unfold T9
 induction v with
 | nil=>rfl
 | cons q v ih=>
  rw[aC3]
  unfold B8
  by_cases e:q.1=h
  ·rw[aJ7 (by simpa using e),aJ7 (by simpa using e)];rfl
  ·rw[aI1 (by simpa using e),aI1 (by simpa using e)];exact ih
structure Vs(st:j8):Prop where
 up:∀g,(B8 st.vers g).Pairwise fun p q=>p.1<q.1
 le:∀g,∀p∈B8 st.vers g,p.1≤(st.recs.length:Int)
 bg:∀d∈st.under,d.beg≤(st.recs.length:Int)
 nd:∀d∈st.under,(d.aside.map (·.1)).Nodup
theorem vs0:Vs T8:=⟨fun g=>.nil,(fun g p h=>nomatch h),(fun d h=>nomatch h),(fun d h=>nomatch h)⟩
theorem a6Y{m:Am}{g:Str}{a:Int}(h:(m.map (·.1)).Nodup):((G3 m g a).map (·.1)).Nodup:=by
 unfold G3
 split
 ·have:(m.map fun p=>if p.1=g then(p.1,a) else p).map (·.1)=m.map (·.1):=by
   rw[aE8];exact aE5 fun p _=>by show(if p.1=g then(p.1,a) else p).1=p.1;split<;>rfl
  rw[this];exact h
 ·rename_i c
  rw[aB5,aD4]
  refine⟨h,by simp,fun x hx y hy z=>c ?_⟩
  obtain⟨p,hp,e⟩:=aA5.mp hx
  rw[aO1]
  refine⟨p,hp,aC4 ?_⟩
  have:y=g:=by simpa using hy
  rw[e,z,this]
def valOf(st:j8)(g:Str)(t:Int):Int:=valueAt (B8 st.vers g) t
theorem b3x{st st':j8}{d:i9}{a:u7}(h:Vs st)(s:Step st d a st'):Vs st'∧((st'.recs=st.recs∧∀g t,(t=(st.recs.length:Int)∨∃d∈st.under,t=d.beg)→valOf st' g t=valOf st g t) ∨
  ∃e∈st.under,d=.fin e.num∧a=.word "ended"∧st'.recs.length=st.recs.length+1∧st'.under=Q3 st.under e.num∧(∀g t,t≤(st.recs.length:Int)→valOf st' g t=valOf st g t)∧∀g,valOf st' g (st'.recs.length:Int)=(n9 e.aside g).getD (valOf st g (st.recs.length:Int))):=by
 have leave:∀n,Vs (G4 st n):=fun n=>⟨h.up,h.le,fun d hd=>h.bg d (aD2.mp hd).1,fun d hd=>h.nd d (aD2.mp hd).1⟩
 cases s with
 | begin=>
  refine⟨⟨h.up,h.le,fun d hd=>?_,fun d hd=>?_⟩,.inl ⟨rfl,fun _ _ _=>rfl⟩⟩
  ·rcases aA9.mp hd with z | z
   ·exact h.bg d z
   ·rw[aA3.mp z];exact aP1 _
  ·rcases aA9.mp hd with z | z
   ·exact h.nd d z
   ·rw[aA3.mp z];exact aL3
 | @sweep m mb=>
  have ml:∀t,(t=(st.recs.length:Int)∨∃d∈st.under,t=d.beg)→m≤t:=fun t ht=>by
   obtain⟨b1,b2⟩:=mb
   by_cases c:st.under=[]
   ·rcases ht with e | ⟨d,hd,_⟩
    ·rw[b1 c,e];exact aP1 _
    ·rw[c]at hd;cases hd
   ·obtain⟨b3,b4⟩:=b2 c
    rcases ht with e | ⟨d,hd,e⟩
    ·obtain⟨x,hx,ex⟩:=aA5.mp b3
     rw[e,←ex];exact h.bg x hx
    ·rw[e];exact b4 d hd
  refine⟨⟨fun g=>?_,fun g p hp=>?_,h.bg,h.nd⟩,.inl ⟨rfl,fun g t ht=>?_⟩⟩
  ·show(B8 (T9 st.vers m) g).Pairwise _
   rw[a1P];exact(h.up g).drop
  ·have hp:p∈B8 (T9 st.vers m) g:=hp
   rw[a1P]at hp
   exact h.le g p (aS1 hp)
  ·show valueAt (B8 (T9 st.vers m) g) t=_
   rw[a1P]
   exact b5i (h.up g) (ml t ht)
 | none _ _=>exact⟨h,.inl ⟨rfl,fun _ _ _=>rfl⟩⟩
 | own _ _=>exact⟨h,.inl ⟨rfl,fun _ _ _=>rfl⟩⟩
 | look _ _=>
  refine⟨⟨h.up,h.le,fun d hd=>?_,fun d hd=>?_⟩,.inl ⟨rfl,fun _ _ _=>rfl⟩⟩
  ·obtain⟨e,he,z | z⟩:=J9 hd
   ·rw[z];exact h.bg e he
   ·rw[z];exact h.bg e he
  ·obtain⟨e,he,z | z⟩:=J9 hd
   ·rw[z];exact h.nd e he
   ·rw[z];exact h.nd e he
 | put _=>
  refine⟨⟨h.up,h.le,fun d hd=>?_,fun d hd=>?_⟩,.inl ⟨rfl,fun _ _ _=>rfl⟩⟩
  ·obtain⟨e,he,z | z⟩:=J9 hd
   ·rw[z];exact h.bg e he
   ·rw[z];exact h.bg e he
  ·obtain⟨e,he,z | z⟩:=J9 hd
   ·rw[z];exact h.nd e he
   ·rw[z];exact a6Y (h.nd e he)
 | leave _=>exact⟨leave _,.inl ⟨rfl,fun _ _ _=>rfl⟩⟩
 | ring _ _=>exact⟨leave _,.inl ⟨rfl,fun _ _ _=>rfl⟩⟩
 | @ended e r cs row he E=>
  have nd:=h.nd e he
  have lr:(st.recs++[r]).length=st.recs.length+1:=by rw[aA4];rfl
  refine⟨⟨fun g=>?_,fun g p hp=>?_,fun d hd=>?_,fun d hd=>h.nd d (aD2.mp hd).1⟩,.inr ⟨e,he,rfl,rfl,lr,rfl,fun g t ht=>?_,fun g=>?_⟩⟩
  ·show(B8 (C9 st.vers e.aside _) g).Pairwise _
   rw[a0e g _ _ nd]
   split
   ·rw[List.pairwise_append]
    refine⟨h.up g,by simp,fun p hp q hq=>?_⟩
    rw[aA3.mp hq]
    have:=h.le g p hp
    show p.1<(st.recs.length:Int)+1
    omega
   ·exact h.up g
  ·have hp:p∈B8 (C9 st.vers e.aside ((st.recs.length:Int)+1)) g:=hp
   rw[a0e g _ _ nd]at hp
   show p.1≤(((st.recs++[r]).length:Nat):Int)
   rw[lr]
   split at hp
   ·rcases aA9.mp hp with z | z
    ·have:=h.le g p z;omega
    ·rw[aA3.mp z];exact aP1 _
   ·have:=h.le g p hp;omega
  ·have:=h.bg d (aD2.mp hd).1
   show d.beg≤(((st.recs++[r]).length:Nat):Int)
   rw[lr];omega
  ·show valueAt (B8 (C9 st.vers e.aside ((st.recs.length:Int)+1)) g) t=_
   rw[a0e g _ _ nd]
   split
   ·exact b7v (by omega)
   ·rfl
  ·show valueAt (B8 (C9 st.vers e.aside ((st.recs.length:Int)+1)) g) (((st.recs++[r]).length:Nat):Int)=_
   rw[a0e g _ _ nd,lr,show((st.recs.length+1:Nat):Int)=(st.recs.length:Int)+1 by omega]
   split
   ·rename_i x hx
    rw[hx]
    exact b1x fun p hp=>by have:=h.le g p hp;omega
   ·rename_i hx
    rw[hx]
    exact b1q (h.le g) (by omega)
def a6e(m am:Am):Am:=am.foldl (fun m p=>G3 m p.1 p.2) m
theorem a0w(m:Am)(g h:Str)(a:Int):n9 (G3 m g a) h=if h=g then some a else n9 m h:=by
 have e1:(n9 (G3 m g a) h).map V.int=(if h=g then some a else n9 m h).map V.int:=by
  rw[←a4i,←a2I,b5r,a4i]
  by_cases c:h=g
  ·subst c;rw[aB4 rfl,aB4 rfl];rfl
  ·rw[aA8 (fun z=>c (aN6 z)),aA8 c]
 generalize n9 (G3 m g a) h=x at e1 ⊢
 generalize (if h=g then some a else n9 m h)=y at e1 ⊢
 cases x<;>cases y<;>first | rfl | (simp at e1;rw[e1]) | (simp at e1)
theorem Y3(h:Str):∀(am m:Am),(am.map (·.1)).Nodup→n9 (a6e m am) h=(n9 am h).or (n9 m h)
 | [],m,_=>rfl
 | p::am,m,nd=>by
  rw[aC3,aG4]at nd
  show n9 (a6e (G3 m p.1 p.2) am) h=_
  rw[Y3 h am _ nd.2,a0w]
  by_cases e:h=p.1
  ·subst e
   have n:n9 am p.1=none:=by
    unfold n9
    rw[aN4.mpr fun q hq=>?_];rfl
    simp only[aM2];exact fun z=>nd.1 (aA5.mpr ⟨q,hq,z⟩)
   have:n9 (p::am) p.1=some p.2:=by unfold n9;rw[aJ7 (by simp)];rfl
   rw[n,aB4 rfl,this];rfl
  ·have:n9 (p::am) h=n9 am h:=by unfold n9;rw[aI1 (by simpa using Ne.symm e)]
   rw[aA8 e,this]
inductive a4y(t:E1)(K:PySem.W.Frag)(vs:List V)(H:Hp)(Q:VK):Prop
 | mk (l:Addr) (ds:List i9) (xs:List V) (x0:vs=[.ref l]) (x1:H l=some (.lst xs)) (x2:u4 H ds xs) (x3:ds.length≤63) (xq:∀(as:List u7) (st:j8) (G:Gh) (H':Hp) (p:Addr),Run T8 ds as st→f7 H H'→TA t.C_Tally t.C_Dealing G H' p st→Bd ds.length st→Q (.ref p) H')
def a9A(t:E1)(K:PySem.W.Frag):Sp:=fun vs H Q _=>a4y t K vs H Q
theorem a3z(T:B6 K mg t):g9 P w K mg base A3 9 t.f_tally_behind t.d_tally_behind ["deeds"] (a9A t K):=by
 refine T.F_tally_behind.ok a4f (fun vs H Q E h=>?_) (fun cdv A outer s H vs Q E hr h=>?_)
 ·obtain⟨l,ds,xs,rfl,_⟩:=h
  rfl
 obtain⟨l,ds,xs,rfl,hl,hd,bn,q⟩:=h
 refine⟨_,(b9 (g8 (i:=1) a4f.nd rfl (Or.inl rfl) (a0U T.K_Tally (g9.mono (k:=7) (a4b T) (by decide)) hr rfl T.mg_Tally T.F_Tally___init__.b .nil k8))
 (b9 (m8 (k7 (g9.mono (k:=8) (a1m T) (by decide)) hr rfl T.m_answers_at T.F_answers_at.kp T.F_answers_at.b .nil k8 (b0 (pv 1) (b0 (pv 0) b7))))
 (d6 (i4 (pv 1))))),?_⟩
 intro x dx nx ndx nxd
 have s0:f7 H (upd (upd H dx (.own x)) x (.ins t.C_Tally dx [])):=l7 (b8 ndx) nx
 refine⟨x,dx,rfl,b6,fun G H1 h1 b1 g1=>⟨rfl,?_⟩⟩
 have s1:f7 H H1:=fun c o e=>b1 c o (g6 e nx) (s0 c o e)
 have gf:∀c o,H c=some o→G.rl c=.free:=fun c o e=>g1 c o (g6 e nx) (s0 c o e)
 refine⟨_,rfl,_,rfl,G,x,l,ds,xs,rfl,h1,s1 _ _ hl,gf _ _ hl,hd.tupK s1.tupK,bn,fun as st G' H' r ys R h2 ok bd k hr pa fr nr=>?_⟩
 exact⟨_,rfl,q as st G' H' x R (fun c o e=>k.keep c o (gf c o e) (s1 c o e)) h2 bd⟩
def a7n(st:j8)(ks:List Str):Am:=ks.map fun g=>(g,valOf st g (st.recs.length:Int))
def Amt(st:j8)(H':Hp)(r:Addr):Prop:=∃(xs:List V) (ks:List Str),H' r=some (.lst xs)∧Prs H' (a7n st ks) xs∧ks.Perm (st.vers.map (·.1))∧X7 ks
inductive a9s(t:E1)(K:PySem.W.Frag)(vs:List V)(H:Hp)(Q:VK):Prop
 | mk (G:Gh) (p:Addr) (st:j8) (x0:vs=[.ref p]) (x1:TA t.C_Tally t.C_Dealing G H p st) (x2:st.vers.length≤63) (x3:(∀q∈st.vers,q.2.length≤100000)) (xq:∀(r:Addr) (H':Hp),f7 H H'→Amt st H' r→Q (.ref r) H')
def a1w(t:E1)(K:PySem.W.Frag):Sp:=fun vs H Q _=>a9s t K vs H Q
theorem a3v(T:B6 K mg t):g9 P w K mg base A3 3 t.f_Tally_amounts t.d_Tally_amounts ["self"] (a1w t K):=by
 refine T.F_Tally_amounts.ok a2w (fun vs H Q E h=>?_) (fun cdv A outer s H vs Q E hr h=>?_)
 ·obtain⟨G,p,st,rfl,_⟩:=h
  rfl
 obtain⟨G,p,st,rfl,h,z1,z2,q⟩:=h
 have hu:=O0 hr
 refine⟨_,(d6 (i4 (R9 rfl (u6 (e7 (V6 rfl) rfl T.m_sorted aO2 (b0 (v5 (pv 0) rfl) b7))) (K2.mk (own:=["good"]) (tl:=["self"]) rfl rfl rfl (fun _ _ _ _ _=>(l6 (i:=0) (a0q) rfl (Or.inl rfl))) (fun _ _ _ _ _=>a3c) (fun _ _ _ _ _=>(q5 (b0 (pv 0) (b0 (k7 (g9.mono (k:=2) (a5u T) (by decide)) hr rfl T.m_value_at T.F_value_at.kp T.F_value_at.b .nil k8 (b0 (v8 hu (a9W (pv 1) rfl) (pv 0) (fun _ _=>rfl)) (b0 (Q6 (pv 1) T.cl_Tally T.M_Tally_moment (g9.mono (k:=2) (N0 T) (by decide)) hr T.F_Tally_moment.b .nil k8) b7))) b7)))))))),?_⟩
 have ek:((st.vers.map fun q=>((Sum.inr q.1:Key),V.ref (G.vl q.1))).map fun q=>kV q.1)=(st.vers.map (·.1)).map V.str:=by rw[aE8,aE8];rfl
 refine⟨_,rfl,p,_,_,_,_,rfl,h.ob,T.cl_Tally,T.n_Tally_versions,rfl,G.Vd,_,rfl,.inl h.ve,?_,fun l ys hl pm io=>?_⟩
 ·rw[ek];exact⟨by simp only[aA0];omega,fun x hx=>by obtain⟨z,_,rfl⟩:=aA5.mp hx;exact⟨z,rfl⟩⟩
 rw[ek]at pm
 obtain⟨ks,rfl,pk⟩:=L8 pm
 unfold P9 at io
 rw[aE8]at io
 have s1:=b8 (o:=.lst (ks.map V.str)) hl
 have hl1:(upd H l (.lst (ks.map V.str))) l=_:=b6
 have lk:ks.length≤63:=by rw[pk.length_eq,aA0];exact z1
 generalize upd H l (.lst (ks.map V.str))=H1 at s1 hl1 ⊢
 refine⟨l,rfl,⟨_,d8.of hl1⟩,fun acc hacc=>?_⟩
 have nac:=j7 s1 hacc
 refine J3 (xs:=ks.map V.str) (fun i H'=>∃xs,f7 H1 H'∧H' acc=some (.lst xs)∧Prs H' (a7n st (ks.take i)) xs) ⟨[],b8 hacc,b6,.nil⟩ (fun i H' _ h=>d8.of (h.choose_spec.1 _ _ hl1)) (fun i x H' hx h'=>?_) (fun H2 h'=>?_)
 ·obtain⟨xs,sm,h1,h2⟩:=h'
  rw[aB1]at hx
  obtain⟨g,hg,rfl⟩:=aD8.mp hx
  have c:g∈st.vers.map (·.1):=pk.mem_iff.mp (aC8 hg)
  have hc:=h.same (s1.trans sm)
  have dv2:=z6.k (k:=Sum.inr g) hc.ve
  rw[a9h st.vers (fun g=>V.ref (G.vl g)),aB4 c]at dv2
  obtain⟨qq,hqq,rfl⟩:=aA5.mp c
  obtain⟨zs,x1,x2,_⟩:=hc.vl qq hqq
  obtain⟨xr,hR,pR⟩:=hc.rc
  have lR:=p6 pR
  refine⟨_,rfl,_,rfl,p,_,_,_,_,rfl,hc.ob,T.cl_Tally,T.n_Tally_versions,rfl,_,rfl,G.Vd,_,rfl,dv2,_,rfl,p,_,_,rfl,hc.ob,rfl,p,_,_,_,_,_,_,_,xr,rfl,hc.ob,hR,G.vl qq.1,qq.2,_,rfl,⟨zs,d8.of x1,a0k x2⟩,z2 qq hqq,fun H3 s3=>?_⟩
  refine⟨(l8 2),fun b hb=>?_⟩
  have s4:=b8 (o:=.tup [V.str qq.1,V.int (valueAt qq.2 (xr.length:Int))]) hb
  have nb:acc≠b:=g6 (s3 _ _ h1) hb
  refine⟨xs,s4 _ _ (s3 _ _ h1),r9 (by rw[p6 h2];unfold a7n;rw[aA0,aD0];omega),xs++[.ref b],l7 ((sm.trans s3).trans s4) hacc,b6,?_⟩
  have et:a7n st (ks.take (i+1))=a7n st (ks.take i)++[(qq.1,valueAt qq.2 (xr.length:Int))]:=by
   unfold a7n
   rw[aD3,hg,aG5,aB5]
   unfold valOf
   rw[aK3,a0l h.vd hqq,lR]
  rw[et]
  have k4:=n4 (o:=.lst (xs++[V.ref b])) (s4 _ _ (s3 _ _ h1))
  exact aK0 ((h2.tupK (s3.trans s4).tupK).tupK k4) ⟨b,rfl,k4.1 _ _ b6⟩
 obtain⟨xs,sm,h1,h2⟩:=h'
 rw[aA0,aD5]at h2
 exact q acc H2 (s1.trans sm) ⟨xs,ks,h1,h2,pk,io⟩
def a4z:i9→Option Str
 | .put _ g _=>some g
 | _=>none
structure Kin(L:List Str)(st:j8):Prop where
 asd:∀d∈st.under,∀p∈d.aside,p.1∈L
 ver:∀q∈st.vers,q.1∈L
theorem a4A{L:List Str}{m:Int}:∀(am:Am) (v:J7),(∀q∈v,q.1∈L)→(∀p∈am,p.1∈L)→∀q∈C9 v am m,q.1∈L
 | [],_,h,_=>h
 | a::am,v,h,k=>by
  refine a4A am (F9 v a.1 (m,a.2)) (fun q hq=>?_) fun p hp=>k p (aC1 _ hp)
  have:q.1∈(F9 v a.1 (m,a.2)).map (·.1):=aA5.mpr ⟨q,hq,rfl⟩
  rw[Z2]at this
  have old:∀{x},x∈v.map (·.1)→x∈L:=fun {x} hx=>by obtain⟨r,hr,rfl⟩:=aA5.mp hx;exact h r hr
  split at this
  ·exact old this
  ·rcases aA9.mp this with z | z
   ·exact old z
   ·rw[aA3.mp z];exact k a aB9
theorem b4n{L:List Str}{st st':j8}{d:i9}{a:u7}(h:Kin L st)(hd:∀g,a4z d=some g→g∈L)(s:Step st d a st'):Kin L st':=by
 have leave:∀n,Kin L (G4 st n):=fun n=>⟨fun d hd=>h.asd d (aD2.mp hd).1,h.ver⟩
 cases s with
 | begin=>
  refine⟨fun d hd=>?_,h.ver⟩
  rcases aA9.mp hd with hd | hd
  ·exact h.asd d hd
  ·rw[aA3.mp hd];intro p hp;simp at hp
 | @sweep m _=>
  refine⟨h.asd,fun q hq=>?_⟩
  obtain⟨r,hr,rfl⟩:=aA5.mp hq
  exact h.ver r hr
 | none _ _=>exact h
 | own _ _=>exact h
 | @look d g _ _=>
  refine⟨fun e he=>?_,h.ver⟩
  obtain⟨x,hx,z | z⟩:=J9 he
  ·rw[z];exact h.asd x hx
  ·rw[z];exact h.asd x hx
 | @put d g a _=>
  refine⟨fun e he p hp=>?_,h.ver⟩
  obtain⟨x,hx,z | z⟩:=J9 he
  ·rw[z]at hp;exact h.asd x hx p hp
  ·rw[z]at hp
   rcases a3R hp with ⟨r,hr,e⟩ | e
   ·rw[←e];exact h.asd x hx r hr
   ·rw[e];exact hd g rfl
 | leave _=>exact leave _
 | ring _ _=>exact leave _
 | @ended d r cs row hu E=>exact⟨fun e he=>h.asd e (aD2.mp he).1,a4A _ _ h.ver (h.asd d hu)⟩
theorem a0G{ds:List i9}{as:List u7}{st:j8}(R:Run T8 ds as st):Kin (ds.filterMap a4z) st∧(st.vers.map (·.1)).Nodup:=by
 induction R with
 | nil=>exact⟨⟨(fun d h=>nomatch h),(fun d h=>nomatch h)⟩,aL3⟩
 | @snoc ds as st st' d a R S ih=>
  have up:Kin ((ds++[d]).filterMap a4z) st:=by
   rw[List.filterMap_append]
   exact⟨fun e he p hp=>aE3 _ (ih.1.asd e he p hp),fun q hq=>aE3 _ (ih.1.ver q hq)⟩
  refine⟨b4n up (fun g hg=>?_) S,a2Q ih.2 S⟩
  rw[List.filterMap_append]
  exact aE2 _ (aP5.mpr ⟨d,by simp,hg⟩)
theorem a4S{ds:List i9}{as:List u7}{st:j8}(R:Run T8 ds as st):st.vers.length≤ds.length:=by
 have k:=a0G R
 have:=A4 (m:=ds.filterMap a4z) k.2 fun x hx=>by obtain⟨q,hq,rfl⟩:=aA5.mp hx;exact k.1.ver q hq
 rw[aA0]at this
 exact aD7 this (List.length_filterMap_le _ _)
inductive b4c(K:PySem.W.Frag)(vs:List V)(H:Hp)(Q:VK):Prop
 | mk (l:Addr) (ds:List i9) (xs:List V) (x0:vs=[.ref l]) (x1:H l=some (.lst xs)) (x2:u4 H ds xs) (x3:ds.length≤63) (xq:∀(as:List u7) (st:j8) (p W r:Addr) (H':Hp),Run T8 ds as st→f7 H H'→H' p=some (.tup [.ref W,.ref r])→H' W=some (.lst (st.row.map V.int))→Amt st H' r→Q (.ref p) H')
def b1f(K:PySem.W.Frag):Sp:=fun vs H Q _=>b4c K vs H Q
theorem b6g(T:B6 K mg t):g9 P w K mg base A3 10 t.f_ending t.d_ending ["deeds"] (b1f K):=by
 refine T.F_ending.ok a9I (fun vs H Q E h=>?_) (fun cdv A outer s H vs Q E hr h=>?_)
 ·obtain⟨l,ds,xs,rfl,_⟩:=h
  rfl
 obtain⟨l,ds,xs,rfl,hl,hd,bn,q⟩:=h
 refine⟨_,(b9 (g8 (i:=1) a9I.nd rfl (Or.inl rfl) (k7 (g9.mono (k:=9) (a3z T) (by decide)) hr rfl T.m_tally_behind T.F_tally_behind.kp T.F_tally_behind.b .nil k8 (b0 (pv 0) b7)))
 (d6 (i4 (q5 (b0 (v5 (pv 1) rfl) (b0 (Q6 (pv 1) T.cl_Tally T.M_Tally_amounts (g9.mono (k:=9) (a3v T) (by decide)) hr T.F_Tally_amounts.b .nil k8) b7)))))),?_⟩
 refine⟨_,rfl,l,ds,xs,rfl,hl,hd,bn,fun as st G H' p R s1 h bd=>?_⟩
 have sq:ds.length*ds.length≤63*63:=Nat.mul_le_mul bn bn
 refine⟨_,rfl,p,_,_,_,_,rfl,h.ob,T.cl_Tally,T.n_Tally_row,rfl,_,rfl,p,_,_,rfl,h.ob,rfl,G,p,st,rfl,h,aD7 (a4S R) bn,fun x hx=>by have:=bd.vl x hx;omega,fun r H2 s2 am=>?_⟩
 refine⟨(l8 2),fun b hb=>?_⟩
 have s3:=b8 (o:=.tup [.ref G.W,.ref r]) hb
 obtain⟨xs',ks,h1,h2,h3,h4⟩:=am
 exact q as st b G.W r _ R ((s1.trans s2).trans s3) b6 (s3 _ _ (s2 _ _ h.rw)) ⟨xs',ks,s3 _ _ h1,h2.tupK s3.tupK,h3,h4⟩
mutual
def T7:PyData→Nat
 | .list ds=>E2 ds+1
 | .tuple ds=>E2 ds+1
 | _=>1
def E2:List PyData→Nat
 | []=>0
 | d::ds=>T7 d+E2 ds
end
theorem P7:∀(a b:List PyData),E2 (a++b)=E2 a+E2 b
 | [],b=>by rw[aP0,E2,Nat.zero_add]
 | d::a,b=>by rw[List.cons_append,E2,E2,P7 a b];omega
theorem a2X:∀d:PyData,1≤T7 d
 | .list ds=>by unfold T7;omega
 | .tuple ds=>by unfold T7;omega
 | .none=>by unfold T7;omega
 | .bool _=>by unfold T7;omega
 | .int _=>by unfold T7;omega
 | .str _=>by unfold T7;omega
 | .dict _=>by unfold T7;omega
theorem a3l:∀ds:List PyData,ds.length≤E2 ds
 | []=>aG3 _
 | d::ds=>by have:=a2X d;have:=a3l ds;rw[aE4,E2];omega
def X8(d:PyData):Prop:=z8 d=true∧d.canLay0=true∧d.depth≤50
theorem a9Y{es:List PyData}(h1:B9 es=true)(h2:PyData.canLayAll0 es=true)(h3:PyData.depthAll es≤50):∀d∈es,X8 d:=by
 induction es with
 | nil=>intro d hd;simp at hd
 | cons e es ih=>
  rw[B9,aE9]at h1
  rw[PyData.canLayAll0,aE9]at h2
  rw[PyData.depthAll]at h3
  intro d hd
  rcases aB7.mp hd with rfl | hd
  ·exact⟨h1.1,h2.1,by omega⟩
  ·exact ih h1.2 h2.2 (by omega) d hd
theorem b8l{es:List PyData}(h:X8 (.list es)):∀d∈es,X8 d:=by
 obtain⟨h1,h2,h3⟩:=h
 unfold z8 at h1
 unfold PyData.canLay0 at h2
 unfold PyData.depth at h3
 exact a9Y h1 h2 (by omega)
theorem b0t{es:List PyData}(h:X8 (.tuple es)):∀d∈es,X8 d:=by
 obtain⟨h1,h2,h3⟩:=h
 unfold z8 at h1
 unfold PyData.canLay0 at h2
 unfold PyData.depth at h3
 exact a9Y h1 h2 (by omega)
def Td(K:PySem.W.Frag)(H H':Hp)(ds:List PyData)(xs:List V):Prop:=Paired (fun d x=>∃p u v,x=.ref p∧H' p=some (.tup [u,v])∧Rep K H d u∧Rep K H d v) ds xs
theorem Td.tupK{K:PySem.W.Frag}{H H1 H2:Hp}(k:u5 H1 H2):∀{ds:List PyData} {xs:List V},Td K H H1 ds xs→Td K H H2 ds xs
 | _,_,.nil=>.nil
 | _,_,.cons ⟨p,u,v,e,h,r⟩ t=>.cons ⟨p,u,v,e,k.1 _ _ h,r⟩ (Td.tupK k t)
theorem Td.append{K:PySem.W.Frag}{H H1:Hp}{es:List PyData}{ys:List V}(h:Td K H H1 es ys):∀{ds:List PyData} {xs:List V},Td K H H1 ds xs→Td K H H1 (ds++es) (xs++ys)
 | _,_,.nil=>h
 | _,_,.cons r t=>.cons r (Td.append h t)
theorem Td.len{K:PySem.W.Frag}{H H1:Hp}{ds:List PyData}{xs:List V}(h:Td K H H1 ds xs):xs.length=ds.length:=by
 induction h with
 | nil=>rfl
 | cons _ _ ih=>simp[ih]
def dd(d:PyData):PyData:=.tuple [d,d]
theorem Td.reps{K:PySem.W.Frag}{H H1:Hp}(s:f7 H H1):∀{ds:List PyData} {xs:List V},Td K H H1 ds xs→u0 K H1 (ds.map dd) xs
 | _,_,.nil=>rfl
 | _,_,.cons ⟨p,u,v,e,h,r1,r2⟩ t=>by
  rw[aC3]
  unfold u0
  refine⟨_,_,rfl,?_,Td.reps s t⟩
  unfold dd
  simp only[Rep,u0]
  exact⟨p,_,e,i3.of h,u,_,rfl,r1.same s,v,_,rfl,r2.same s,rfl⟩
theorem b9g:∀{ds:List PyData},(∀d∈ds,X8 d)→PyData.canLayAll0 (ds.map dd)=true
 | [],_=>by rw[aJ4,PyData.canLayAll0]
 | d::ds,h=>by
  rw[aC3,PyData.canLayAll0,b9g fun e he=>h e (aC1 _ he)]
  simp[dd,PyData.canLay0,PyData.canLayAll0,(h d aB9).2.1]
theorem a0O:∀{ds:List PyData},(∀d∈ds,X8 d)→PyData.depthAll (ds.map dd)≤51
 | [],_=>by rw[aJ4,PyData.depthAll];omega
 | d::ds,h=>by
  rw[aC3,PyData.depthAll]
  have:=a0O fun e he=>h e (aC1 _ he)
  have z:=(h d aB9).2.2
  simp only[dd,PyData.depth,PyData.depthAll]
  omega
theorem a8u{α β:Type}{F:α→β→Prop}:∀{l:List α} {m:List β} {x:α},Paired F (l++[x]) m→∃m' y,m=m'++[y]∧Paired F l m'∧F x y
 | [],_,_,.cons r .nil=>⟨[],_,rfl,.nil,r⟩
 | a::l,_,_,.cons r t=>by
  obtain⟨m',y,e,h1,h2⟩:=a8u (l:=l) t
  exact⟨_::m',y,by rw[e];rfl,.cons r h1,h2⟩
inductive a8t(K:PySem.W.Frag)(vs:List V)(H:Hp)(Q:VK):Prop
 | mk (x y:V) (d:PyData) (x0:vs=[x,y]) (x1:Rep K H d x) (x2:Rep K H d y) (x3:X8 d) (x4:T7 d≤1000000) (xq:∀H',f7 H H'→Q (.bl true) H')
def a4x(K:PySem.W.Frag):Sp:=fun vs H Q _=>a8t K vs H Q
theorem a5v(T:B6 K mg t):g9 P w K mg base A3 1 t.f__law_unturned t.d__law_unturned ["_law_found","_law_due"] (a4x K):=by
 refine T.F__law_unturned.ok L0 (fun vs H Q E h=>?_) (fun cdv A outer s H vs Q E hr h=>?_)
 ·obtain⟨x,y,d,rfl,_⟩:=h
  rfl
 obtain⟨x,y,d,rfl,rx,ry,fd,zd,q⟩:=h
 refine⟨_,(b9 (g8 (i:=2) L0.nd rfl (Or.inl rfl) (m6 (b0 (q5 (b0 (pv 0) (b0 (pv 1) b7))) b7)))
 (b9 (a7l aE1 (g7 (a6n hr.units) (pv 2) (m6 b7) (i7 _))
 (b9 (b0A (b4l aB0 aT7 PySem.F.type_list_pop b9i (pv 2)) (a6A rfl (P3 (l6 (i:=3) L0.nd rfl (Or.inl rfl)) (P3 (l6 (i:=4) L0.nd rfl (Or.inl rfl)) a6s))))
 (d6 (l4 (C4 (e7 a4o rfl T.m_isinstance aF5 (b0 (pv 4) (b0 (q5 (b0 (A5 (v:=.ty "list") rfl T.m_list aM8 rfl) (b0 (A5 (v:=.ty "tuple") rfl T.m_tuple boot_tuple rfl) b7))) b7))))
 (b9 (l4 (g7 N3 (e7 C7 rfl T.m_isinstance aF5 (b0 (pv 3) (b0 (A5 (v:=.ty "list") rfl T.m_list aM8 rfl) b7))) (e7 C7 rfl T.m_isinstance aF5 (b0 (pv 4) (b0 (A5 (v:=.ty "list") rfl T.m_list aM8 rfl) b7))) (i7 _))
 (d6 (i4 y0))
 j4)
 (b9 (l4 (PW.pt (N9 (G8 (C4 (e7 a4o rfl T.m_isinstance aF5 (b0 (pv 3) (b0 (q5 (b0 (A5 (v:=.ty "list") rfl T.m_list aM8 rfl) (b0 (A5 (v:=.ty "tuple") rfl T.m_tuple boot_tuple rfl) b7))) b7))))) (L1 (g7 N3 (e7 i5 rfl T.m_len aC6 (b0 (pv 3) b7)) (e7 i5 rfl T.m_len aC6 (b0 (pv 4) b7)) (i7 _)))))
 (d6 (i4 y0))
 j4)
 (d6 (y6 aE1 rfl (P2 rfl T.m_range (b0 (e7 i5 rfl T.m_len aC6 (b0 (pv 4) b7)) b7)) (l6 (i:=5) L0.nd rfl (Or.inl rfl))
 (d6 (m8 (v9 aB0 aB6 aB8 n6 (pv 2) (b0 (q5 (b0 (d7 b8h (pv 3) (pv 5) (fun _ _=>rfl)) (b0 (d7 b8h (pv 4) (pv 5) (fun _ _=>rfl)) b7))) b7))))))))
 (d6 (l4 (PW.pt (N9 (g7 b5g (pv 3) a8p (i7 _)) (L1 (g7 b5g (pv 4) a8p (i7 _)))))
 (d6 (l4 (PW.pt (N9 (g7 a5Y (pv 3) a8p (i7 _)) (L1 (g7 a5Y (pv 4) a8p (i7 _)))))
 (d6 (i4 y0))
 j4))
 (d6 (l4 (g7 N3 (e7 C7 rfl T.m_isinstance aF5 (b0 (pv 3) (b0 (A5 (v:=.ty "bool") rfl T.m_bool boot_bool rfl) b7))) (e7 C7 rfl T.m_isinstance aF5 (b0 (pv 4) (b0 (A5 (v:=.ty "bool") rfl T.m_bool boot_bool rfl) b7))) (i7 _))
 (d6 (i4 y0))
 (d6 (l4 (g7 N3 (e7 C7 rfl T.m_isinstance aF5 (b0 (pv 3) (b0 (A5 (v:=.ty "str") rfl T.m_str boot_str rfl) b7))) (e7 C7 rfl T.m_isinstance aF5 (b0 (pv 4) (b0 (A5 (v:=.ty "str") rfl T.m_str boot_str rfl) b7))) (i7 _))
 (d6 (i4 y0))
 (d6 (l4 (PW.pt (N9 (G8 (C4 (e7 a4o rfl T.m_isinstance aF5 (b0 (pv 3) (b0 (q5 (b0 (A5 (v:=.ty "str") rfl T.m_str boot_str rfl) (b0 (A5 (v:=.ty "int") rfl T.m_int boot_int rfl) b7))) b7))))) (L1 (g7 N3 (pv 3) (pv 4) (i7 _)))))
 (d6 (i4 y0))
 j4))))))))))))
 (d6 (i4 y0)))),?_⟩
 refine⟨_,rfl,_,rfl,(l8 2),fun p hp=>⟨(l8 1),fun l hl=>?_⟩⟩
 have hlH:H l=none:=by
  cases z:H l with
  | none=>rfl
  | some o=>rw[b8 hp _ _ z]at hl;cases hl
 refine⟨fun m σ' H'=>∃o1 o2 o3 xs ds,σ'=[some x,some y,some (.ref l),o1,o2,o3]∧f7 H H'∧H' l=some (.lst xs)∧Td K H H' ds xs∧(∀d∈ds,X8 d)∧E2 ds=m∧m≤1000000,
  ⟨T7 d,none,none,none,[.ref p],[d],rfl,(b8 hp).trans (b8 hl),b6,.cons ⟨p,x,y,rfl,b8 hl _ _ b6,rx,ry⟩ .nil,fun e he=>by rw[aA3.mp he];exact fd,by simp[E2],zd⟩,?_⟩
 rintro m σ' H' ⟨o1,o2,o3,xs,ds,rfl,sm,hx,td,fn,rfl,zm⟩
 refine⟨_,rfl,(l8 0),fun e he=>?_⟩
 have s1:f7 H' (upd H' e (.lst [])):=b8 he
 refine⟨.list (ds.map dd),.list [],by unfold Rep;exact⟨l,xs,rfl,d8.of (s1 _ _ hx),(td.reps sm).same s1⟩,?_,?_,?_,?_,?_⟩
 ·unfold Rep;exact⟨e,[],rfl,d8.of b6,rfl⟩
 ·unfold PyData.canLay0;exact b9g fn
 ·simp[PyData.canLay0,PyData.canLayAll0]
 ·have:=a0O fn;unfold PyData.depth;omega
 have ec:∀{es:List PyData} {e:PyData},PyData.eqv (.list ((es++[e]).map dd)) (.list [])=false:=fun {es e}=>by
  cases es<;>simp[PyData.eqv,PyData.eqvAll]
 refine⟨_,rfl,?_⟩
 rcases List.eq_nil_or_concat ds with rfl | ⟨ds',d',rfl⟩
 ·refine K3 (fun c=>?_) (fun c=>?_)
  ·simp[PyData.eqv,PyData.eqvAll]at c
  ·exact q _ (sm.trans s1)
 rw[List.concat_eq_append]at td fn zm ⊢
 refine K3 (fun c=>?_) (fun c=>by exfalso;rw[ec]at c;simp at c)
 obtain⟨xs',y',rfl,td',p',u,v,rfl,hp',ru,rv⟩:=a8u td
 have fd':=fn d' (by simp)
 have fn':∀e∈ds',X8 e:=fun e he=>fn e (by simp[he])
 have dz:E2 (ds'++[d'])=E2 ds'+T7 d':=by rw[P7];simp[E2]
 have dl:=a3l (ds'++[d'])
 refine⟨fun σ2 H2=>∃m',m'<E2 (ds'++[d'])∧∃o1 o2 o3 zs es,σ2=[some x,some y,some (.ref l),o1,o2,o3]∧f7 H H2∧H2 l=some (.lst zs)∧Td K H H2 es zs∧(∀e∈es,X8 e)∧E2 es=m'∧m'≤1000000,fun _ _ z=>z,?_⟩
 have hx1:(upd H' e (.lst [])) l=some (.lst (xs'++[.ref p'])):=s1 _ _ hx
 refine⟨_,rfl,.inl ⟨rfl,_,d8.of hx1⟩,l,_,.ref p',rfl,rfl,hx1,by simp,?_⟩
 rw[List.dropLast_concat]
 generalize hH1:upd (upd H' e (.lst [])) l (.lst xs')=H1
 have k1:u5 H' H1:=by rw[←hH1];exact s1.tupK.trans (n4 hx1)
 have sm1:f7 H H1:=by rw[←hH1];exact l7 (sm.trans s1) hlH
 have hl1:H1 l=some (.lst xs'):=by rw[←hH1];exact b6
 have td1:Td K H H1 ds' xs':=Td.tupK k1 td'
 refine⟨p',_,rfl,i3.of (k1.1 _ _ hp'),rfl,u,_,rfl,v,_,rfl,rfl,?_⟩
 refine⟨_,rfl,(l8 2),fun g hg=>⟨v,tyD d',"list","tuple",g,rfl,b6,((rv.same sm1).same (b8 hg)).ty,by decide,by decide,_,rfl,?_⟩⟩
 have sg:f7 H1 (upd H1 g (.tup [.ty "list",.ty "tuple"])):=b8 hg
 generalize hH2:upd H1 g (.tup [.ty "list",.ty "tuple"])=H2 at sg ⊢
 have sm2:=sm1.trans sg
 have hl2:H2 l=some (.lst xs'):=sg _ _ hl1
 have td2:=td1.tupK sg.tupK
 have leaf:∀o3 H3,f7 H2 H3→∃m',m'<E2 (ds'++[d'])∧∃o1 o2 o3' zs es,[some x,some y,some (.ref l),some u,some v,o3]=[some x,some y,some (.ref l),o1,o2,o3']∧f7 H H3∧H3 l=some (.lst zs)∧Td K H H3 es zs∧(∀e∈es,X8 e)∧E2 es=m'∧m'≤1000000:=fun o3 H3 s3=>
  ⟨E2 ds',by rw[dz];have:=a2X d';omega,_,_,_,xs',ds',rfl,sm2.trans s3,s3 _ _ hl2,td2.tupK s3.tupK,fn',rfl,by omega⟩
 cases d' with
 | bool b=>exact absurd fd'.1 (by simp[z8])
 | dict _=>exact absurd fd'.1 (by simp[z8])
 | list es=>
  unfold Rep at ru rv
  obtain⟨pu,us,rfl,hu,rus⟩:=ru
  obtain⟨pv',ws,rfl,hv,rvs⟩:=rv
  have lu:=rus.len
  have lv:=rvs.len
  have es0:T7 (.list es)=E2 es+1:=by unfold T7;rfl
  have le:=a3l es
  have fe:=b8l fd'
  refine m9 ?_
  refine⟨_,rfl,.ref pu,"list","list",rfl,.inl ⟨rfl,_,hu.same sm2⟩,by decide,_,rfl,.ref pv',"list","list",rfl,.inl ⟨rfl,_,hv.same sm2⟩,by decide,rfl,_,rfl,e9 ?_⟩
  refine⟨_,rfl,(l8 2),fun g2 hg2=>⟨.ref pu,"list","list","tuple",g2,rfl,b6,.inl ⟨rfl,_,(hu.same sm2).same (b8 hg2)⟩,by decide,by decide,_,rfl,?_⟩⟩
  have sg2:f7 H2 (upd H2 g2 (.tup [.ty "list",.ty "tuple"])):=b8 hg2
  generalize hH3:upd H2 g2 (.tup [.ty "list",.ty "tuple"])=H3 at sg2 ⊢
  have sm3:=sm2.trans sg2
  refine e9 ?_
  refine⟨_,rfl,pu,us,rfl,.inl (hu.same sm3),_,rfl,pv',ws,rfl,.inl (hv.same sm3),rfl,_,rfl,U8 (by rw[←lu,←lv]) ?_⟩
  refine⟨_,rfl,pv',ws,rfl,.inl (hv.same sm3),?_⟩
  refine⟨_,rfl,by omega,by omega,?_⟩
  have en:(((ws.length:Nat):Int)).toNat=es.length:=by omega
  rw[en]
  refine N4 (fun i σ2 Hx=>∃o zs,σ2=[some x,some y,some (.ref l),some (.ref pu),some (.ref pv'),o]∧f7 H Hx∧Hx l=some (.lst zs)∧Td K H Hx (ds'++es.take i) zs)
   ⟨o3,xs',rfl,sm3,sg2 _ _ hl2,by rw[aS2,aI6];exact td2.tupK sg2.tupK⟩ (fun i σ2 Hx hi h=>?_) (fun σ2 Hx h=>?_)
  ·obtain⟨o,zs,rfl,smx,hlx,tdx⟩:=h
   obtain⟨a1,ha1,r1⟩:=rus.at (List.getElem?_eq_getElem hi)
   obtain⟨a2,ha2,r2⟩:=rvs.at (List.getElem?_eq_getElem hi)
   have e0:(0:Int)+(i:Int)=((i:Nat):Int):=by omega
   have ax1:F7 us ((0:Int)+(i:Int))=some a1:=by rw[e0];exact j0 ha1
   have ax2:F7 ws ((0:Int)+(i:Int))=some a2:=by rw[e0];exact j0 ha2
   refine⟨_,rfl,.inl ⟨rfl,_,d8.of hlx⟩,_,rfl,_,rfl,.inl ⟨pu,us,_,a1,rfl,rfl,hu.same smx,ax1,_,rfl,_,rfl,.inl ⟨pv',ws,_,a2,rfl,rfl,hv.same smx,ax2,(l8 2),fun pn hpn=>?_⟩⟩⟩
   have hn:pn≠l:=fun z=>by rw[z,hlx]at hpn;cases hpn
   have hlp:=b8 (o:=.tup [a1,a2]) hpn _ _ hlx
   refine⟨l,zs,.ref pn,rfl,rfl,hlp,?_,?_⟩
   ·rw[tdx.len,aA4,aD0,aG2]
    rw[aA4]at dl
    rw[dz]at dl zm
    omega
   ·refine⟨_,_,rfl,l7 (smx.trans (b8 hpn)) hlH,b6,?_⟩
    rw[aD3,List.getElem?_eq_getElem hi,←aG0]
    have k3:=(J0 (o:=.tup [a1,a2]) hpn).trans (n4 (o:=.lst (zs++[.ref pn])) hlp)
    exact Td.append (.cons ⟨pn,a1,a2,rfl,by rw[c9 hn];exact b6,r1,r2⟩ .nil) (tdx.tupK k3)
  ·obtain⟨o,zs,rfl,smx,hlx,tdx⟩:=h
   rw[aD5]at tdx
   refine⟨E2 (ds'++es),by rw[dz,P7,es0];omega,_,_,_,zs,ds'++es,rfl,smx,hlx,tdx,fun e he=>(aA9.mp he).elim (fun z=>fn' e z) fun z=>fe e z,rfl,?_⟩
   rw[P7]
   rw[dz,es0]at zm
   omega
 | tuple es=>
  unfold Rep at ru rv
  obtain⟨pu,us,rfl,hu,rus⟩:=ru
  obtain⟨pv',ws,rfl,hv,rvs⟩:=rv
  have lu:=rus.len
  have lv:=rvs.len
  have es0:T7 (.tuple es)=E2 es+1:=by unfold T7;rfl
  have le:=a3l es
  have fe:=b0t fd'
  refine m9 ?_
  refine⟨_,rfl,.ref pu,"tuple","list",rfl,.inr (.inl ⟨rfl,_,hu.same sm2⟩),by decide,_,rfl,.ref pv',"tuple","list",rfl,.inr (.inl ⟨rfl,_,hv.same sm2⟩),by decide,rfl,_,rfl,e9 ?_⟩
  refine⟨_,rfl,(l8 2),fun g2 hg2=>⟨.ref pu,"tuple","list","tuple",g2,rfl,b6,.inr (.inl ⟨rfl,_,(hu.same sm2).same (b8 hg2)⟩),by decide,by decide,_,rfl,?_⟩⟩
  have sg2:f7 H2 (upd H2 g2 (.tup [.ty "list",.ty "tuple"])):=b8 hg2
  generalize hH3:upd H2 g2 (.tup [.ty "list",.ty "tuple"])=H3 at sg2 ⊢
  have sm3:=sm2.trans sg2
  refine e9 ?_
  refine⟨_,rfl,pu,us,rfl,.inr (hu.same sm3),_,rfl,pv',ws,rfl,.inr (hv.same sm3),rfl,_,rfl,U8 (by rw[←lu,←lv]) ?_⟩
  refine⟨_,rfl,pv',ws,rfl,.inr (hv.same sm3),?_⟩
  refine⟨_,rfl,by omega,by omega,?_⟩
  have en:(((ws.length:Nat):Int)).toNat=es.length:=by omega
  rw[en]
  refine N4 (fun i σ2 Hx=>∃o zs,σ2=[some x,some y,some (.ref l),some (.ref pu),some (.ref pv'),o]∧f7 H Hx∧Hx l=some (.lst zs)∧Td K H Hx (ds'++es.take i) zs)
   ⟨o3,xs',rfl,sm3,sg2 _ _ hl2,by rw[aS2,aI6];exact td2.tupK sg2.tupK⟩ (fun i σ2 Hx hi h=>?_) (fun σ2 Hx h=>?_)
  ·obtain⟨o,zs,rfl,smx,hlx,tdx⟩:=h
   obtain⟨a1,ha1,r1⟩:=rus.at (List.getElem?_eq_getElem hi)
   obtain⟨a2,ha2,r2⟩:=rvs.at (List.getElem?_eq_getElem hi)
   have e0:(0:Int)+(i:Int)=((i:Nat):Int):=by omega
   have ax1:F7 us ((0:Int)+(i:Int))=some a1:=by rw[e0];exact j0 ha1
   have ax2:F7 ws ((0:Int)+(i:Int))=some a2:=by rw[e0];exact j0 ha2
   refine⟨_,rfl,.inl ⟨rfl,_,d8.of hlx⟩,_,rfl,_,rfl,.inr (.inl ⟨pu,us,_,a1,rfl,rfl,hu.same smx,ax1,_,rfl,_,rfl,.inr (.inl ⟨pv',ws,_,a2,rfl,rfl,hv.same smx,ax2,(l8 2),fun pn hpn=>?_⟩)⟩)⟩
   have hn:pn≠l:=fun z=>by rw[z,hlx]at hpn;cases hpn
   have hlp:=b8 (o:=.tup [a1,a2]) hpn _ _ hlx
   refine⟨l,zs,.ref pn,rfl,rfl,hlp,?_,?_⟩
   ·rw[tdx.len,aA4,aD0,aG2]
    rw[aA4]at dl
    rw[dz]at dl zm
    omega
   ·refine⟨_,_,rfl,l7 (smx.trans (b8 hpn)) hlH,b6,?_⟩
    rw[aD3,List.getElem?_eq_getElem hi,←aG0]
    have k3:=(J0 (o:=.tup [a1,a2]) hpn).trans (n4 (o:=.lst (zs++[.ref pn])) hlp)
    exact Td.append (.cons ⟨pn,a1,a2,rfl,by rw[c9 hn];exact b6,r1,r2⟩ .nil) (tdx.tupK k3)
  ·obtain⟨o,zs,rfl,smx,hlx,tdx⟩:=h
   rw[aD5]at tdx
   refine⟨E2 (ds'++es),by rw[dz,P7,es0];omega,_,_,_,zs,ds'++es,rfl,smx,hlx,tdx,fun e he=>(aA9.mp he).elim (fun z=>fn' e z) fun z=>fe e z,rfl,?_⟩
   rw[P7]
   rw[dz,es0]at zm
   omega
 | none=>
  unfold Rep at ru rv
  subst ru;subst rv
  refine e9 ?_
  refine⟨_,rfl,rfl,_,rfl,m9 ?_⟩
  refine m9 ?_
  refine⟨_,rfl,rfl,_,rfl,e9 ?_⟩
  refine⟨_,rfl,rfl,_,rfl,e9 ?_⟩
  exact leaf _ _ (f7.refl _)
 | int i=>
  unfold Rep at ru rv
  subst ru;subst rv
  refine e9 ?_
  refine⟨_,rfl,rfl,_,rfl,e9 ?_⟩
  refine⟨_,rfl,rfl,_,rfl,e9 ?_⟩
  refine⟨_,rfl,.int i,"int","bool",rfl,rfl,by decide,_,rfl,.int i,"int","bool",rfl,rfl,by decide,rfl,_,rfl,e9 ?_⟩
  refine⟨_,rfl,.int i,"int","str",rfl,rfl,by decide,_,rfl,.int i,"int","str",rfl,rfl,by decide,rfl,_,rfl,e9 ?_⟩
  refine⟨_,rfl,(l8 2),fun g2 hg2=>⟨.int i,"int","str","int",g2,rfl,b6,rfl,by decide,by decide,_,rfl,e9 ?_⟩⟩
  refine⟨_,rfl,_,rfl,rfl,_,rfl,U8 rfl ?_⟩
  exact leaf _ _ (b8 hg2)
 | str i=>
  unfold Rep at ru rv
  subst ru;subst rv
  refine e9 ?_
  refine⟨_,rfl,rfl,_,rfl,e9 ?_⟩
  refine⟨_,rfl,rfl,_,rfl,e9 ?_⟩
  refine⟨_,rfl,.str i,"str","bool",rfl,rfl,by decide,_,rfl,.str i,"str","bool",rfl,rfl,by decide,rfl,_,rfl,e9 ?_⟩
  refine⟨_,rfl,.str i,"str","str",rfl,rfl,by decide,_,rfl,.str i,"str","str",rfl,rfl,by decide,rfl,_,rfl,e9 ?_⟩
  refine⟨_,rfl,(l8 2),fun g2 hg2=>⟨.str i,"str","str","int",g2,rfl,b6,rfl,by decide,by decide,_,rfl,e9 ?_⟩⟩
  refine⟨_,rfl,_,rfl,rfl,_,rfl,U8 rfl ?_⟩
  exact leaf _ _ (b8 hg2)
inductive a4E(K:PySem.W.Frag)(vs:List V)(H:Hp)(Q:VK):Prop
 | mk (a b:Addr) (xs ys:List V) (tb:Am) (x0:vs=[.ref a,.ref b]) (x1:d8 K H a xs) (x2:d8 K H b ys) (x3:Prs H tb xs) (x4:Prs H tb ys) (x5:tb.length≤100000) (x6:(∀p∈tb,PyData.strOk p.1=true)) (xq:Q (.bl true) H)
def a4M(K:PySem.W.Frag):Sp:=fun vs H Q _=>a4E K vs H Q
theorem a0M(T:B6 K mg t):g9 P w K mg base A3 2 t.f__law_table t.d__law_table ["_law_found","_law_due"] (a4M K):=by
 refine T.F__law_table.ok a4m (fun vs H Q E h=>?_) (fun cdv A outer s H vs Q E hr h=>?_)
 ·obtain⟨a,b,xs,ys,tb,rfl,_⟩:=h
  rfl
 obtain⟨a,b,xs,ys,tb,rfl,hA,hB,pA,pB,hl,hok,q⟩:=h
 refine⟨_,(b9 (l4 (PW.pt (N9 (G8 (C4 (e7 C7 rfl T.m_isinstance aF5 (b0 (pv 0) (b0 (A5 (v:=.ty "list") rfl T.m_list aM8 rfl) b7))))) (L1 (g7 N3 (e7 i5 rfl T.m_len aC6 (b0 (pv 0) b7)) (e7 i5 rfl T.m_len aC6 (b0 (pv 1) b7)) (i7 _)))))
 (d6 (i4 y0))
 j4)
 (b9 (y6 aE1 rfl (P2 rfl T.m_range (b0 (e7 i5 rfl T.m_len aC6 (b0 (pv 1) b7)) b7)) (l6 (i:=2) a4m.nd rfl (Or.inl rfl))
 (b9 (l4 (PW.pt (N9 (G8 (C4 (e7 C7 rfl T.m_isinstance aF5 (b0 (d7 l5 (pv 0) (pv 2) (fun _ _=>rfl)) (b0 (A5 (v:=.ty "tuple") rfl T.m_tuple boot_tuple rfl) b7))))) (L1 (g7 N3 (e7 i5 rfl T.m_len aC6 (b0 (d7 l5 (pv 0) (pv 2) (fun _ _=>rfl)) b7)) d5 (i7 _)))))
 (d6 (i4 y0))
 j4)
 (b9 (l4 (PW.pt (N9 (G8 (C4 (e7 C7 rfl T.m_isinstance aF5 (b0 (d7 f6 (d7 l5 (pv 0) (pv 2) (fun _ _=>rfl)) d5 (fun _ _=>rfl)) (b0 (A5 (v:=.ty "str") rfl T.m_str boot_str rfl) b7))))) (L1 (G8 (C4 (k7 (g9.mono (k:=1) (U9 T) (by decide)) hr rfl T.m__law_whole T.F__law_whole.kp T.F__law_whole.b .nil k8 (b0 (d7 f6 (d7 l5 (pv 0) (pv 2) (fun _ _=>rfl)) d5 (fun _ _=>rfl)) b7)))))))
 (d6 (i4 y0))
 j4)
 (d6 (l4 (g7 (a6n hr.units) (d7 l5 (pv 0) (pv 2) (fun _ _=>rfl)) (d7 l5 (pv 1) (pv 2) (fun _ _=>rfl)) (i7 _))
 (d6 (i4 y0))
 j4)))))
 (d6 (i4 y0)))),?_⟩
 have lx:=p6 pA
 have ly:=p6 pB
 refine⟨_,rfl,.ref a,"list","list",rfl,.inl ⟨rfl,_,hA⟩,by decide,_,rfl,e9 ?_⟩
 refine⟨_,rfl,a,_,rfl,.inl hA,_,rfl,b,_,rfl,.inl hB,rfl,_,rfl,U8 (by rw[lx,ly]) ?_⟩
 refine⟨_,rfl,b,_,rfl,.inl hB,_,rfl,by omega,by omega,?_⟩
 have en:(((ys.length:Nat):Int)).toNat=tb.length:=by omega
 rw[en]
 refine N4 (fun i σ' H'=>H'=H∧∃o,σ'=[some (.ref a),some (.ref b),o]) ⟨rfl,_,rfl⟩ (fun i σ' H' hi h=>?_) (fun σ' H' h=>?_)
 ·obtain⟨rfl,o,rfl⟩:=h
  have e0:(0:Int)+(i:Int)=((i:Nat):Int):=by omega
  have hd:=List.getElem?_eq_getElem hi
  obtain⟨x,hx,r1⟩:=a5s pA hd
  obtain⟨y,hy,r2⟩:=a5s pB hd
  have ok:=hok _ (aF9 hi)
  generalize tb[i]=pr at r1 r2 ok
  obtain⟨p,rfl,hp⟩:=id r1
  have ax:F7 xs ((0:Int)+(i:Int))=some (.ref p):=by rw[e0];exact j0 hx
  have ay:F7 ys ((0:Int)+(i:Int))=some y:=by rw[e0];exact j0 hy
  have tp:=i3.of (K:=K) hp
  refine⟨_,rfl,_,rfl,a,_,_,_,rfl,rfl,hA,ax,_,"tuple","tuple",rfl,.inr (.inl ⟨rfl,_,tp⟩),by decide,_,rfl,e9 ?_⟩
  refine⟨_,rfl,_,rfl,a,_,_,_,rfl,rfl,hA,ax,p,_,rfl,.inr tp,rfl,_,rfl,e9 ?_⟩
  refine⟨_,rfl,_,rfl,a,_,_,_,rfl,rfl,hA,ax,p,_,0,_,rfl,rfl,tp,rfl,_,"str","str",rfl,rfl,by decide,_,rfl,e9 ?_⟩
  refine⟨_,rfl,_,rfl,a,_,_,_,rfl,rfl,hA,ax,p,_,1,_,rfl,rfl,tp,rfl,_,"int",rfl,rfl,_,rfl,e9 ?_⟩
  refine⟨_,rfl,_,rfl,a,_,_,_,rfl,rfl,hA,ax,_,rfl,_,rfl,b,_,_,_,rfl,rfl,hB,ay,prD pr,prD pr,r1.rep,r2.rep,a0Z ok,a0Z ok,b7h pr,_,rfl,?_⟩
  have ev:PyData.eqv (prD pr) (prD pr)=true:=a3x _ rfl
  rw[show(if true=true then !(prD pr).eqv (prD pr) else(prD pr).eqv (prD pr))=false by rw[ev];rfl]
  exact e9 ⟨rfl,_,rfl⟩
 ·obtain⟨rfl,_⟩:=h
  exact q
structure LG where
 rl:Addr→Role
 ba:Int→Addr
 la:Int→Addr
 bm:Int→Am
theorem b3p{m:Am}{g h:Str}{a:Int}:h∈(G3 m g a).map (·.1)↔h∈m.map (·.1)∨h=g:=by
 rw[a4k]
 by_cases c:g∈m.map (·.1)
 ·rw[aB4 c];exact⟨.inl,fun z=>z.elim id fun e=>by rw[e];exact c⟩
 ·rw[aA8 c,aA9,aA3]
theorem a5O{h:Str}:∀{am m:Am},h∈(a6e m am).map (·.1)↔h∈m.map (·.1)∨h∈am.map (·.1)
 | [],m=>⟨.inl,fun z=>z.elim id fun e=>nomatch e⟩
 | p::am,m=>by
  show h∈(a6e (G3 m p.1 p.2) am).map (·.1)↔_
  rw[a5O,b3p,aC3,aB7,or_assoc]
theorem a3J{h:Str}{t:Int}:∀{am:Am} {v:J7},h∈(C9 v am t).map (·.1)↔h∈v.map (·.1)∨h∈am.map (·.1)
 | [],v=>⟨.inl,fun z=>z.elim id fun e=>nomatch e⟩
 | p::am,v=>by
  show h∈(C9 (F9 v p.1 (t,p.2)) am t).map (·.1)↔_
  rw[a3J,Z2,aC3,aB7,←or_assoc]
  refine or_congr ?_ Iff.rfl
  by_cases c:p.1∈v.map (·.1)
  ·rw[aB4 c];exact⟨.inl,fun z=>z.elim id fun e=>by rw[e];exact c⟩
  ·rw[aA8 c,aA9,aA3]
section
variable{ta bl ll ul:Addr}{W:LG}{H0 H:Hp}{st st':j8}{tm:Am}
def lnew(W:LG)(n:Int)(b1 l1:Addr)(m:Am):LG:=⟨fun x=>if x=b1 then .look n else if x=l1 then .side n else W.rl x,fun k=>if k=n then b1 else W.ba k,fun k=>if k=n then l1 else W.la k,fun k=>if k=n then m else W.bm k⟩
end
theorem b4f{k:Nat}{f:Int→V}{n:Int}(h0:0≤n)(h:n<(k:Int)):F7 ((nat k).map f) n=some (f n):=by
 have e:n=((n.toNat:Nat):Int):=(aT1 h0).symm
 conv=>lhs;rw[e]
 refine j0 ?_
 unfold nat
 rw[aE8,aB1,List.getElem?_range (by omega)]
 show some (f (Int.ofNat n.toNat))=_
 rw[show Int.ofNat n.toNat=n from aT1 h0]
def b4G(d:i9)(u:List Int)(b:Nat):List Int:=
 match d with
 | .begin=>u++[(b:Int)]
 | .fin n=>u.filter fun k=>decide (k≠n)
 | .leave n=>u.filter fun k=>decide (k≠n)
 | _=>u
def b3I(d:i9)(b:Nat):Nat:=
 match d with
 | .begin=>b+1
 | _=>b
theorem b6b{u:List Int}{n:Int}(h:n∉u):(u.filter fun k=>decide (k≠n))=u:=
 aS9.mpr fun k hk=>aC4 fun e=>h (by rw[←e];exact hk)
theorem b4t{st st':j8}{d:i9}{a:u7}(s:Step st d a st'):u9 st'=b4G d (u9 st) st.begun∧st'.begun=b3I d st.begun:=by
 cases s with
 | begin=>exact⟨by show(st.under++_).map _=_;rw[aB5];rfl,rfl⟩
 | sweep _=>exact⟨rfl,rfl⟩
 | @none _ n h1 h2=>
  cases d<;>cases h1<;>first | exact⟨rfl,rfl⟩ | exact⟨(b6b h2).symm,rfl⟩
 | own _ _=>exact⟨rfl,rfl⟩
 | look _ _=>exact⟨P5 fun _=>rfl,rfl⟩
 | put _=>exact⟨P5 fun _=>rfl,rfl⟩
 | leave _=>exact⟨a5c _ _,rfl⟩
 | ended _ _=>exact⟨a5c _ _,rfl⟩
 | ring _ _=>exact⟨a5c _ _,rfl⟩
section
variable{f:Nat→j8}{ds:List i9}{as:List u7}
end
theorem b0m{ks ms:List Str}(p:ks.Perm ms)(h:X7 ks)(k:X7 ms):ks=ms:=by
 unfold X7 at h k
 have:=a6f h k (p.map _)
 exact aT9 (fun a b e=>by
  have e:[(Sum.inr a.cps.toList:Atom)]=[Sum.inr b.cps.toList]:=e
  have e:=aN6 (List.cons.inj e).1
  cases a;cases b
  exact congrArg Str.mk (Array.ext' e)) |>.mp this
def a9k(tm:Am)(js:List Str):Am:=js.map fun g=>(g,(n9 tm g).getD 0)
theorem b0s{st s:j8}{tm:Am}{ks js:List Str}(ev:s.vers=st.vers)(er:s.recs=st.recs)(pk:ks.Perm (s.vers.map (·.1)))(sk:X7 ks)(pj:js.Perm (tm.map (·.1)))(sj:X7 js)(tn:(tm.map (·.1)).Nodup)(vd:(s.vers.map (·.1)).Nodup)
  (tk:∀g,g∈tm.map (·.1)↔g∈st.vers.map (·.1)) (tv:∀g,(n9 tm g).getD 0=valOf st g (st.recs.length:Int)):a7n s ks=a9k tm js:=by
 rw[ev]at pk vd
 have:ks=js:=b0m (pk.trans ((a6i tn vd tk).symm.trans pj.symm)) sk sj
 subst this
 unfold a7n a9k
 refine aE5 fun g _=>?_
 rw[tv g]
 unfold valOf
 rw[ev,er]
theorem b6j{ds:List i9}{as:List u7}{st:j8}(R:Run T8 ds as st)(ok:∀d∈ds,O2 d){g:Str}(h:g∈st.vers.map (·.1)):PyData.strOk g=true:=by
 obtain⟨q,hq,rfl⟩:=aA5.mp h
 obtain⟨d,hd,e⟩:=aP5.mp ((a0G R).1.ver q hq)
 have:=ok d hd
 cases d with
 | put n g a=>cases e;exact this.1
 | _=>cases e
theorem b1v{d:i9}(h:O2 d):z8 (dD d)=true∧(dD d).canLay0=true∧(dD d).depth≤3∧T7 (dD d)≤10:=by
 have s1:PyData.strOk ("begin":Str)=true:=by decide +kernel
 have s2:PyData.strOk ("look":Str)=true:=by decide +kernel
 have s3:PyData.strOk ("put":Str)=true:=by decide +kernel
 have s4:PyData.strOk ("end":Str)=true:=by decide +kernel
 have s5:PyData.strOk ("leave":Str)=true:=by decide +kernel
 have s6:PyData.strOk ("sweep":Str)=true:=by decide +kernel
 cases d with
 | look n g=>have:=h.1;simp[dD,z8,B9,PyData.canLay0,PyData.canLayAll0,PyData.depth,PyData.depthAll,T7,E2,s2,this]
 | put n g a=>have:=h.1;simp[dD,z8,B9,PyData.canLay0,PyData.canLayAll0,PyData.depth,PyData.depthAll,T7,E2,s3,this]
 | _=>simp[dD,z8,B9,PyData.canLay0,PyData.canLayAll0,PyData.depth,PyData.depthAll,T7,E2,s1,s4,s5,s6]
theorem a8R:∀{ds:List i9},(∀d∈ds,O2 d)→B9 (ds.map dD)=true∧PyData.canLayAll0 (ds.map dD)=true∧PyData.depthAll (ds.map dD)≤3∧E2 (ds.map dD)≤10*ds.length
 | [],_=>by simp[B9,PyData.canLayAll0,PyData.depthAll,E2]
 | d::ds,h=>by
  obtain⟨a1,a2,a3,a4⟩:=b1v (h d aB9)
  obtain⟨b1,b2,b3,b4⟩:=a8R fun e he=>h e (aC1 _ he)
  rw[aC3,B9,PyData.canLayAll0,PyData.depthAll,E2,a1,b1,a2,b2,aE4]
  exact⟨rfl,rfl,by omega,by omega⟩
theorem b5n{ds:List i9}(h:∀d∈ds,O2 d)(l:ds.length≤1000):X8 (.list (ds.map dD))∧T7 (.list (ds.map dD))≤1000000:=by
 obtain⟨b1,b2,b3,b4⟩:=a8R h
 refine⟨⟨by unfold z8;exact b1,by unfold PyData.canLay0;exact b2,by unfold PyData.depth;omega⟩,by unfold T7;omega⟩
def val(M:Am)(g:Str):Int:=(n9 M g).getD 0
def X0(M:Am):i9×u7→Option Am
 | (.put _ g x,_)=>some (G3 M g x)
 | (.look _ g,a)=>match a with
  | .num i=>if i=val M g then some M else none
  | _=>none
 | _=>some M
def alone(M:Am)(s:List (i9×u7)):Option Am:=s.foldlM X0 M
theorem W3{M M':Am}{s:List (i9×u7)}{x:i9×u7}(h:alone M s=some M'):alone M (s++[x])=X0 M' x:=by
 unfold alone at h ⊢
 rw[aU0,h]
 show(X0 M' x).bind _=_
 cases X0 M' x<;>rfl
def a8k(l:List Am):Am:=l.foldl a6e []
theorem a2K(l:List Am)(a:Am):a8k (l++[a])=a6e (a8k l) a:=by unfold a8k;rw[List.foldl_append];rfl
def A6(s:List (i9×u7))(looked:List Str)(T:Str→Int)(am:Am):Prop:=
 ∀M:Am,(∀g∈looked,val M g=T g)→∃M',alone M s=some M'∧∀g,n9 M' g=(n9 am g).or (n9 M g)
theorem A6.perm{s:List (i9×u7)}{k l:List Str}{T:Str→Int}{am:Am}(h:A6 s l T am)(e:∀g∈l,g∈k):A6 s k T am:=fun M hM=>h M fun g hg=>hM g (e g hg)
theorem A6.stay{s:List (i9×u7)}{l:List Str}{T:Str→Int}{am:Am}{x:i9×u7}(h:A6 s l T am)(hx:∀M,X0 M x=some M):A6 (s++[x]) l T am:=fun M hM=>by
 obtain⟨M',h1,h2⟩:=h M hM
 exact⟨M',by rw[W3 h1,hx],h2⟩
theorem A6.own{s:List (i9×u7)}{l:List Str}{T:Str→Int}{am:Am}{n:Int}{g:Str}{a:Int}(h:A6 s l T am)(e:n9 am g=some a):A6 (s++[(.look n g,.num a)]) l T am:=fun M hM=>by
 obtain⟨M',h1,h2⟩:=h M hM
 refine⟨M',?_,h2⟩
 rw[W3 h1]
 show(if a=val M' g then some M' else none)=_
 unfold val
 rw[h2 g,e]
 simp
theorem A6.look{s:List (i9×u7)}{l:List Str}{T:Str→Int}{am:Am}{n:Int}{g:Str}(h:A6 s l T am)(e:n9 am g=none):A6 (s++[(.look n g,.num (T g))]) (J8 l g) T am:=fun M hM=>by
 have sub:∀k∈l,k∈J8 l g:=fun k hk=>by unfold J8;split;exact hk;exact aE3 _ hk
 have me:g∈J8 l g:=by
  unfold J8;split
  ·assumption
  ·simp
 obtain⟨M',h1,h2⟩:=h M fun k hk=>hM k (sub k hk)
 refine⟨M',?_,h2⟩
 rw[W3 h1]
 show(if T g=val M' g then some M' else none)=_
 rw[aB4]
 rw[←hM g me]
 unfold val
 rw[h2 g,e]
 rfl
theorem A6.put{s:List (i9×u7)}{l:List Str}{T:Str→Int}{am:Am}{n:Int}{g:Str}{x:Int}{a:u7}(h:A6 s l T am):A6 (s++[(.put n g x,a)]) l T (G3 am g x):=fun M hM=>by
 obtain⟨M',h1,h2⟩:=h M hM
 refine⟨G3 M' g x,W3 h1,fun k=>?_⟩
 rw[a0w,a0w,h2 k]
 by_cases c:k=g
 ·rw[aB4 c,aB4 c];rfl
 ·rw[aA8 c,aA8 c]
abbrev Sts:=Int→List (i9×u7)
def W8(S:Sts)(d:i9)(a:u7)(u:List Int):Sts:=fun n=>if numOf d=some n∧n∈u then S n++[(d,a)] else S n
def Z6(ams:List Am)(b:Int):Str→Int:=val (a8k (ams.take b.toNat))
structure R3(st:j8)(S:Sts)(ams:List Am):Prop where
 vs:Vs st
 len:ams.length=st.recs.length
 bg:∀d∈st.under,0≤d.beg
 rc:∀(j:Nat) (r:Rec),st.recs[j]?=some r→r.fin=(j:Int)+1∧0≤r.beg∧r.beg≤(j:Int)∧∃am,ams[j]?=some am∧(∀g,g∈r.put↔g∈am.map (·.1))∧(am.map (·.1)).Nodup∧A6 (S r.num) r.looked (Z6 ams r.beg) am
 un:∀d∈st.under,A6 (S d.num) d.looked (Z6 ams d.beg) d.aside
 va:∀g t,(t=(st.recs.length:Int)∨∃d∈st.under,t=d.beg)→valOf st g t=Z6 ams t g
 new:∀n,(st.begun:Int)≤n→S n=[]
 vk:∀g,g∈st.vers.map (·.1)↔∃am∈ams,g∈am.map (·.1)
theorem b9p(v:J7)(m:Int):(T9 v m).map (·.1)=v.map (·.1):=by
 unfold T9;rw[aE8];rfl
theorem b7p:R3 T8 (fun _=>[]) []:=by
 refine⟨vs0,rfl,(fun d h=>nomatch h),(fun j r h=>nomatch h),(fun d h=>nomatch h),(fun g t h=>?_),(fun n h=>rfl),fun g=>⟨fun h=>(nomatch h),fun⟨am,h,_⟩=>(nomatch h)⟩⟩
 rcases h with rfl | ⟨d,h,_⟩
 ·rfl
 ·exact nomatch h
theorem b7x{ams l:List Am}{b:Int}(h:b.toNat≤ams.length):Z6 (ams++l) b=Z6 ams b:=by
 unfold Z6;rw[List.take_append_of_le_length h]
section
variable{st st':j8}{S:Sts}{ams:List Am}{d:i9}{a:u7}
theorem a8r{u:List Int}{n m:Int}(e:numOf d=some n)(h:m≠n):W8 S d a u m=S m:=by
 unfold W8;rw[aA8];rintro⟨z,_⟩;rw[e]at z;exact h (aC0 z).symm
theorem a3D{u:List Int}{n:Int}(e:numOf d=some n)(h:n∈u):W8 S d a u n=S n++[(d,a)]:=aB4 ⟨e,h⟩
theorem Y4{u:List Int}(h:∀n,numOf d=some n→n∉u):W8 S d a u=S:=by
 funext n;unfold W8;rw[aA8];rintro⟨z,w⟩;exact h n z w
theorem R3.mod(h:R3 st S ams)(ok:C8 st){e:Dl}(he:e∈st.under)(hn:numOf d=some e.num)(hv:Vs st')(er:st'.recs=st.recs)(eb:st'.begun=st.begun)(ev:st'.vers=st.vers)
  (hu:∀x∈st'.under,(x∈st.under∧x.num≠e.num)∨(x.num=e.num∧x.beg=e.beg∧A6 (S e.num++[(d,a)]) x.looked (Z6 ams e.beg) x.aside)):R3 st' (W8 S d a (u9 st)) ams:=by
 have me:e.num∈u9 st:=aA5.mpr ⟨e,he,rfl⟩
 have nin:∀r∈st.recs,r.num≠e.num:=fun r hr z=>by
  have:=aD4.mp ok.un
  exact this.2.2 _ (aA5.mpr ⟨r,hr,rfl⟩) _ me z
 refine⟨hv,by rw[er];exact h.len,fun x hx=>?_,fun j r hr=>?_,fun x hx=>?_,fun g t ht=>?_,fun n hn'=>?_,by rw[ev];exact h.vk⟩
 ·rcases hu x hx with ⟨z,_⟩ | ⟨_,z,_⟩
  ·exact h.bg x z
  ·rw[z];exact h.bg e he
 ·rw[er]at hr
  obtain⟨a1,a2,a3,am,a4,a5,a6,a7⟩:=h.rc j r hr
  exact⟨a1,a2,a3,am,a4,a5,a6,by rw[a8r hn (nin r (aC8 hr))];exact a7⟩
 ·rcases hu x hx with ⟨z,w⟩ | ⟨z1,z2,z3⟩
  ·rw[a8r hn w];exact h.un x z
  ·rw[z1,z2,a3D hn me];exact z3
 ·have:valOf st' g t=valOf st g t:=by unfold valOf;rw[ev]
  rw[this]
  refine h.va g t ?_
  rw[er]at ht
  rcases ht with z | ⟨x,hx,z⟩
  ·exact .inl z
  ·rcases hu x hx with ⟨w,_⟩ | ⟨_,w,_⟩
   ·exact .inr ⟨x,w,z⟩
   ·exact .inr ⟨e,he,by rw[z,w]⟩
 ·rw[eb]at hn'
  rw[a8r hn]
  ·exact h.new n hn'
  ·have:=(ok.lt e.num (aE2 _ me)).2
   omega
theorem b8o(h:R3 st S ams)(ok:C8 st)(s:Step st d a st'):∃ams',R3 st' (W8 S d a (u9 st)) ams'∧((st'.recs=st.recs∧ams'=ams)∨∃x,ams'=ams++[x]):=by
 obtain⟨hv,hvv⟩:=b3x h.vs s
 have nd:(st.under.map (·.num)).Nodup:=(aD4.mp ok.un).2.1
 have leave:∀{e:Dl} {d:i9} {a:u7},e∈st.under→numOf d=some e.num→R3 (G4 st e.num) (W8 S d a (u9 st)) ams:=fun {e d a} he hn=>by
  refine h.mod ok he hn ⟨h.vs.up,h.vs.le,fun d hd=>h.vs.bg d (aD2.mp hd).1,fun d hd=>h.vs.nd d (aD2.mp hd).1⟩ rfl rfl rfl fun x hx=>.inl ?_
  obtain⟨z1,z2⟩:=aD2.mp hx
  exact⟨z1,aF2 z2⟩
 have modU:∀{e:Dl} {f:Dl→Dl},e∈st.under→(f e).num=e.num→(f e).beg=e.beg→A6 (S e.num++[(d,a)]) (f e).looked (Z6 ams e.beg) (f e).aside→∀x∈F6 st.under e.num f,(x∈st.under∧x.num≠e.num)∨(x.num=e.num∧x.beg=e.beg∧A6 (S e.num++[(d,a)]) x.looked (Z6 ams e.beg) x.aside):=fun {e f} he n1 n2 n3 x hx=>by
  obtain⟨y,hy,rfl⟩:=aA5.mp hx
  by_cases c:y.num=e.num
  ·have:=M9 nd hy he c
   subst this
   rw[aB4 rfl];exact .inr ⟨n1,n2,n3⟩
  ·rw[aA8 c];exact .inl ⟨hy,c⟩
 cases s with
 | begin=>
  refine⟨ams,?_,.inl ⟨rfl,rfl⟩⟩
  rw[Y4 (fun n z=>by cases z)]
  refine⟨hv,h.len,fun x hx=>?_,h.rc,fun x hx=>?_,fun g t ht=>?_,fun n hn=>h.new n ?_,h.vk⟩
  ·rcases aA9.mp hx with z | z
   ·exact h.bg x z
   ·rw[aA3.mp z];exact Int.natCast_nonneg _
  ·rcases aA9.mp hx with z | z
   ·exact h.un x z
   ·rw[aA3.mp z]
    show A6 (S (st.begun:Int)) [] _ []
    rw[h.new _ (aP1 _)]
    exact fun M _=>⟨M,rfl,fun g=>rfl⟩
  ·refine h.va g t ?_
   rcases ht with z | ⟨x,hx,z⟩
   ·exact .inl z
   ·rcases aA9.mp hx with w | w
    ·exact .inr ⟨x,w,z⟩
    ·rw[aA3.mp w]at z;exact .inl z
  ·have e:((a9B st).begun:Int)=(st.begun:Int)+1:=by show((st.begun+1:Nat):Int)=_;omega
   rw[e]at hn;omega
 | sweep mb=>
  refine⟨ams,?_,.inl ⟨rfl,rfl⟩⟩
  rw[Y4 (fun n z=>by cases z)]
  refine⟨hv,h.len,h.bg,h.rc,h.un,fun g t ht=>?_,h.new,fun g=>by show g∈(T9 _ _).map (·.1)↔_;rw[b9p];exact h.vk g⟩
  rcases hvv with ⟨_,z⟩ | ⟨e,_,z,_⟩
  ·rw[z g t ht];exact h.va g t ht
  ·cases z
 | @none _ n hn hm=>
  refine⟨ams,?_,.inl ⟨rfl,rfl⟩⟩
  rw[Y4 (fun m z=>by rw[hn]at z;rw[←aC0 z];exact hm)]
  exact h
 | @own e g x he hx=>
  refine⟨ams,h.mod ok he rfl hv rfl rfl rfl fun y hy=>?_,.inl ⟨rfl,rfl⟩⟩
  by_cases c:y.num=e.num
  ·have:=M9 nd hy he c
   subst this
   exact .inr ⟨rfl,rfl,(h.un y hy).own hx⟩
  ·exact .inl ⟨hy,c⟩
 | @look e g he hx=>
  refine⟨ams,h.mod ok he rfl hv rfl rfl rfl (modU (f:=V0 g) he rfl rfl ?_),.inl ⟨rfl,rfl⟩⟩
  have e1:valueAt (B8 st.vers g) e.beg=Z6 ams e.beg g:=h.va g e.beg (.inr ⟨e,he,rfl⟩)
  rw[e1]
  exact(h.un e he).look hx
 | @put e g x he=>exact⟨ams,h.mod ok he rfl hv rfl rfl rfl (modU (f:=U6 g x) he rfl rfl (h.un e he).put),.inl ⟨rfl,rfl⟩⟩
 | @leave e he=>exact⟨ams,leave he rfl,.inl ⟨rfl,rfl⟩⟩
 | @ring e r cs rg he _=>exact⟨ams,leave he rfl,.inl ⟨rfl,rfl⟩⟩
 | @ended e r cs row he E=>
  refine⟨ams++[e.aside],?_,.inr ⟨_,rfl⟩⟩
  have L:R3 (G4 st e.num) (W8 S (.fin e.num) (.word "ended") (u9 st)) ams:=leave he rfl
  have me:e.num∈u9 st:=aA5.mpr ⟨e,he,rfl⟩
  have be:e.beg≤(st.recs.length:Int):=h.vs.bg e he
  have ln:=h.len
  have ap:∀b:Int,b≤(st.recs.length:Int)→Z6 (ams++[e.aside]) b=Z6 ams b:=fun b hb=>b7x (by omega)
  obtain⟨c1,c2,c3,c4,c5,c6,c7⟩:=E.rc
  refine⟨hv,?_,L.bg,fun j r' hr=>?_,fun x hx=>?_,fun g t ht=>?_,fun n hn=>L.new n hn,fun g=>?_⟩
  ·show(ams++[e.aside]).length=(st.recs++[r]).length
   rw[aA4,aA4,ln];rfl
  ·have hr:(st.recs++[r])[j]?=some r':=hr
   by_cases c:j<st.recs.length
   ·rw[aE0 c]at hr
    obtain⟨a1,a2,a3,am,a4,a5,a6,a7⟩:=L.rc j r' hr
    refine⟨a1,a2,a3,am,by rw[aE0 (by omega)];exact a4,a5,a6,?_⟩
    rw[ap _ (by omega)];exact a7
   ·have lj:=(aA2.mp hr).1
    rw[aA4,aE6]at lj
    have ej:j=st.recs.length:=by omega
    subst ej
    rw[aF0 (aB3 _),aR5]at hr
    have hr:r=r':=aC0 hr
    subst hr
    refine⟨c3,by rw[c2];exact h.bg e he,by rw[c2];exact be,e.aside,by rw[←ln,aF0 (aB3 _),aR5];rfl,fun g=>c5.mem_iff,h.vs.nd e he,?_⟩
    rw[c1,c2,ap _ be,a3D rfl me]
    exact((h.un e he).perm fun g hg=>c4.mem_iff.mpr hg).stay fun M=>rfl
  ·have hx':x∈(G4 st e.num).under:=hx
   rw[ap _ (h.vs.bg x (aD2.mp hx').1)]
   exact L.un x hx'
  ·rcases hvv with ⟨z,_⟩ | ⟨e',he',z1,_,_,_,z2,z3⟩
   ·have:(st.recs++[r]).length=st.recs.length:=congrArg List.length z
    rw[aA4,aE6]at this;omega
   ·have ee:e'.num=e.num:=by injection z1 with z;exact z.symm
    have:=M9 nd he' he ee
    subst this
    rcases ht with ht | ⟨x,hx,ht⟩
    ·subst ht
     rw[z3 g,h.va g _ (.inl rfl)]
     have l2:((a1q st e' r cs row).recs.length:Int).toNat=(ams++[e'.aside]).length:=by
      show(((st.recs++[r]).length:Nat):Int).toNat=_
      rw[aA4,aA4,ln];rfl
     unfold Z6
     rw[l2,aD5,a2K]
     have l3:(st.recs.length:Int).toNat=ams.length:=by omega
     rw[l3,aD5]
     unfold val
     rw[Y3 g _ _ (h.vs.nd e' he)]
     cases n9 e'.aside g<;>rfl
    ·have hx':x∈st.under:=(aD2.mp (show x∈Q3 st.under e'.num from hx)).1
     have lx:t≤(st.recs.length:Int):=by rw[ht];exact h.vs.bg x hx'
     rw[z2 g t lx,ap t lx]
     exact h.va g t (.inr ⟨x,hx',ht⟩)
  ·show g∈(C9 st.vers e.aside _).map (·.1)↔_
   rw[a3J,h.vk g]
   constructor
   ·rintro(⟨am,z1,z2⟩ | z)
    ·exact⟨am,aE3 _ z1,z2⟩
    ·exact⟨e.aside,by simp,z⟩
   ·rintro⟨am,z1,z2⟩
    rcases aA9.mp z1 with z | z
    ·exact .inl ⟨am,z,z2⟩
    ·rw[aA3.mp z]at z2;exact .inr z2
end
def O3(f:Nat→j8)(ds:List i9)(as:List u7):Nat→Sts
 | 0=>fun _=>[]
 | i+1=>match ds[i]?,as[i]? with
  | some d,some a=>W8 (O3 f ds as i) d a (u9 (f i))
  | _,_=>O3 f ds as i
theorem a1r{f:Nat→j8}{ds:List i9}{as:List u7}(F:Trace f ds as):∀i,i≤ds.length→∃ams,R3 (f i) (O3 f ds as i) ams
 | 0,_=>⟨[],by rw[F.zero];exact b7p⟩
 | i+1,hi=>by
  obtain⟨ams,h⟩:=a1r F i (by omega)
  have hd:=List.getElem?_eq_getElem (show i<ds.length by omega)
  have ha:=List.getElem?_eq_getElem (show i<as.length by rw[F.len];omega)
  obtain⟨ams',h',_⟩:=b8o h (F.oks i (by omega)) (F.step i _ _ hd ha)
  refine⟨ams',?_⟩
  unfold O3
  rw[hd,ha]
  exact h'
def amR(ams:List Am)(r:Rec):Am:=(ams[(r.fin-1).toNat]?).getD []
theorem a6U{m:Am}{g:Str}:g∈m.map (·.1)↔n9 m g≠none:=by
 constructor
 ·intro h z;exact a8w z h
 ·intro h
  cases z:n9 m g with
  | none=>exact absurd z h
  | some a=>exact a0z z
theorem fold_congr{g:Str}:∀{l:List Am},(∀a∈l,(a.map (·.1)).Nodup)→∀{M N:Am},n9 M g=n9 N g→n9 (l.foldl a6e M) g=n9 (l.foldl a6e N) g
 | [],_,_,_,e=>e
 | a::l,h,M,N,e=>by
  rw[aI5,aI5]
  refine fold_congr (fun b hb=>h b (aC1 _ hb)) ?_
  rw[Y3 g _ _ (h a aB9),Y3 g _ _ (h a aB9),e]
theorem fold_filter{g:Str}{f:Rec→Am}:∀{l:List Rec},(∀r∈l,((f r).map (·.1)).Nodup∧(g∈r.put↔g∈(f r).map (·.1)))→∀M:Am,n9 ((l.map f).foldl a6e M) g=n9 (((l.filter fun r=>decide (g∈r.put)).map f).foldl a6e M) g
 | [],_,_=>rfl
 | r::l,h,M=>by
  have hr:=h r aB9
  have hl:=fun b hb=>h b (aC1 r hb)
  rw[aC3,aI5]
  by_cases c:g∈r.put
  ·rw[List.filter_cons_of_pos (by simpa using c),aC3,aI5]
   exact fold_filter hl _
  ·rw[List.filter_cons_of_neg (by simpa using c),fold_filter hl]
   refine fold_congr (fun a ha=>?_) ?_
   ·obtain⟨b,hb,rfl⟩:=aA5.mp ha
    exact(hl b (aD2.mp hb).1).1
   ·rw[Y3 g _ _ hr.1]
    have:n9 (f r) g=none:=by
     cases z:n9 (f r) g with
     | none=>rfl
     | some a=>exact absurd (hr.2.mpr (a0z z)) c
    rw[this];rfl
theorem b7l:∀{a b:List Rec},a.Pairwise (fun x y=>x.fin<y.fin)→b.Pairwise (fun x y=>x.fin<y.fin)→(∀x,x∈a↔x∈b)→a=b
 | [],[],_,_,_=>rfl
 | [],y::b,_,_,h=>absurd ((h y).mpr aB9) (by simp)
 | x::a,[],_,_,h=>absurd ((h x).mp aB9) (by simp)
 | x::a,y::b,pa,pb,h=>by
  obtain⟨a1,a2⟩:=aK2.mp pa
  obtain⟨b1,b2⟩:=aK2.mp pb
  have e:x=y:=by
   rcases aB7.mp ((h x).mp aB9) with z | z
   ·exact z
   ·rcases aB7.mp ((h y).mpr aB9) with w | w
    ·exact w.symm
    ·have:=a1 y w
     have:=b1 x z
     omega
  subst e
  rw[b7l a2 b2 fun z=>⟨fun hz=>?_,fun hz=>?_⟩]
  ·rcases aB7.mp ((h z).mp (aC1 _ hz)) with w | w
   ·have:=a1 z hz;rw[w]at this;omega
   ·exact w
  ·rcases aB7.mp ((h z).mpr (aC1 _ hz)) with w | w
   ·have:=b1 z hz;rw[w]at this;omega
   ·exact w
theorem b3q{rs:List Rec}{row:List Int}(p:row.Perm (rs.map (·.num))):∃rr:List Rec,rr.Perm rs∧rr.map (·.num)=row:=by
 generalize hk:rs.map (·.num)=ks at p
 induction p generalizing rs with
 | nil=>exact⟨[],by rw[List.map_eq_nil_iff.mp hk],rfl⟩
 | cons x _ ih=>
  cases rs with
  | nil=>cases hk
  | cons r rs=>
   rw[aC3]at hk
   injection hk with h1 h2
   obtain⟨rr,p1,p2⟩:=ih h2
   exact⟨r::rr,p1.cons r,by rw[aC3,p2,h1]⟩
 | swap x y l=>
  match rs,hk with
  | r::s::rs,hk=>
   rw[aC3,aC3]at hk
   injection hk with h1 h2
   injection h2 with h2 h3
   exact⟨s::r::rs,List.Perm.swap _ _ _,by rw[aC3,aC3,h1,h2,h3]⟩
 | trans _ _ ih1 ih2=>
  obtain⟨rr,p1,p2⟩:=ih2 hk
  obtain⟨rq,q1,q2⟩:=ih1 p2
  exact⟨rq,q1.trans p1,q2⟩
section
variable{st:j8}{S:Sts}{ams:List Am}{rr:List Rec}
theorem R3.am(h:R3 st S ams){r:Rec}(hr:r∈st.recs):r.beg<r.fin∧0≤r.beg∧((amR ams r).map (·.1)).Nodup∧(∀g,g∈r.put↔g∈(amR ams r).map (·.1))∧A6 (S r.num) r.looked (Z6 ams r.beg) (amR ams r):=by
 obtain⟨j,hj⟩:=aD9.mp hr
 obtain⟨a1,a2,a3,am,a4,a5,a6,a7⟩:=h.rc j r hj
 have e:amR ams r=am:=by
  unfold amR
  rw[show(r.fin-1).toNat=j by omega,a4];rfl
 rw[e]
 exact⟨by omega,a2,a6,a5,a7⟩
theorem R3.map(h:R3 st S ams):ams=st.recs.map (amR ams):=by
 refine List.ext_getElem? fun j=>?_
 rw[aB1]
 cases hj:st.recs[j]? with
 | none=>exact aL9 (by rw[h.len];exact List.getElem?_eq_none_iff.mp hj)
 | some r=>
  obtain⟨a1,_,_,am,a4,_⟩:=h.rc j r hj
  show _=some (amR ams r)
  unfold amR
  rw[show(r.fin-1).toNat=j by omega,a4];rfl
theorem R3.rise(h:R3 st S ams):st.recs.Pairwise fun x y=>x.fin<y.fin:=by
 rw[aM7]
 intro i j hi hj lt
 have a:=(h.rc i _ (List.getElem?_eq_getElem hi)).1
 have b:=(h.rc j _ (List.getElem?_eq_getElem hj)).1
 omega
theorem R3.same(h:R3 st S ams){l:List Rec}{b:Nat}(g:Str)(sub:∀r∈l,r∈st.recs)(up:l.Pairwise fun x y=>g∈x.put→g∈y.put→x.fin<y.fin)(mem:∀r∈st.recs,g∈r.put→(r∈l↔r.fin≤(b:Int))) :
  n9 (a8k (l.map (amR ams))) g=n9 (a8k (ams.take b)) g:=by
 have e:ams.take b=(st.recs.take b).map (amR ams):=by
  rw[aQ3,←h.map]
 rw[e]
 unfold a8k
 have fact:∀r∈st.recs,((amR ams r).map (·.1)).Nodup∧(g∈r.put↔g∈(amR ams r).map (·.1)):=fun r hr=>⟨(h.am hr).2.2.1,(h.am hr).2.2.2.1 g⟩
 rw[fold_filter (fun r hr=>fact r (sub r hr)),fold_filter (fun r hr=>fact r (aM5 hr))]
 have:(l.filter fun r=>decide (g∈r.put))=(st.recs.take b).filter fun r=>decide (g∈r.put):=by
  refine b7l ?_ ?_ fun x=>?_
  ·rw[List.pairwise_filter]
   exact up.imp fun k a b=>k (aF2 a) (aF2 b)
  ·exact(h.rise.sublist (aK5 _ _)).filter _
  ·rw[aD2,aD2]
   constructor
   ·rintro⟨z1,z2⟩
    refine⟨?_,z2⟩
    have hx:=sub x z1
    have:=(mem x hx (aF2 z2)).mp z1
    obtain⟨j,hj⟩:=aD9.mp hx
    have a:=(h.rc j x hj).1
    exact aC8 (show(st.recs.take b)[j]?=some x by rw[aH0 (by omega)];exact hj)
   ·rintro⟨z1,z2⟩
    refine⟨(mem x (aM5 z1) (aF2 z2)).mpr ?_,z2⟩
    obtain⟨j,hj⟩:=aD9.mp z1
    have lj:=(aA2.mp hj).1
    rw[aD0]at lj
    rw[aH0 (by omega)]at hj
    have a:=(h.rc j x hj).1
    omega
 rw[this]
end
def U4(S:Sts)(M:Am)(row:List Int):Option Am:=row.foldlM (fun M n=>alone M (S n)) M
theorem a4u{S:Sts}{M M':Am}{row:List Int}{n:Int}(h:U4 S M row=some M'):U4 S M (row++[n])=alone M' (S n):=by
 unfold U4 at h ⊢
 rw[aU0,h]
 show(alone M' (S n)).bind _=_
 cases alone M' (S n)<;>rfl
section
variable{st:j8}{S:Sts}{ams:List Am}{rr:List Rec}
theorem a5i(ok:C8 st)(er:rr.map (·.num)=st.row){i j:Nat}{r o:Rec}(hi:rr[i]?=some r)(hj:rr[j]?=some o)(mr:r∈st.recs)(mo:o∈st.recs)(ne:r.num≠o.num){l:Lk}(hl:a7k r o l):i<j:=by
 obtain⟨p,q,lt,hp,hq⟩:=ok.row.keeps l ((ok.mem l).mpr ⟨r,mr,o,mo,ne,hl⟩)
 rw[hl.1]at hp
 rw[hl.2.1]at hq
 have h1:st.row[i]?=some r.num:=by rw[←er,aB1,hi];rfl
 have h2:st.row[j]?=some o.num:=by rw[←er,aB1,hj];rfl
 have e1:p=i:=(aF4 (aA2.mp hp).1 ok.row.nd).mp (by rw[hp,h1])
 have e2:q=j:=(aF4 (aA2.mp hq).1 ok.row.nd).mp (by rw[hq,h2])
 omega
theorem b1l(h:R3 st S ams)(ok:C8 st)(pr:rr.Perm st.recs)(er:rr.map (·.num)=st.row)(g:Str):rr.Pairwise fun x y=>g∈x.put→g∈y.put→x.fin<y.fin:=by
 rw[aM7]
 intro i j hi hj lt w1 w2
 have gi:=List.getElem?_eq_getElem hi
 have gj:=List.getElem?_eq_getElem hj
 have m1:=pr.mem_iff.mp (aF9 hi)
 have m2:=pr.mem_iff.mp (aF9 hj)
 refine aI3 fun c=>?_
 have ne:rr[j].num≠rr[i].num:=fun z=>by
  have:i=j:=(aF4 (l:=st.row) (by rw[←er,aA0];exact hi) ok.row.nd).mp (by rw[←er,aB1,aB1,gi,gj];exact congrArg some z.symm)
  omega
 by_cases e:rr[j].fin<rr[i].fin
 ·have:=a5i ok er gj gi m2 m1 ne (l:=(rr[j].num,rr[i].num,g,"over")) ⟨rfl,rfl,.inl ⟨rfl,e,w2,w1⟩⟩
  omega
 ·have ef:rr[j].fin=rr[i].fin:=by omega
  obtain⟨p,hp⟩:=aD9.mp m1
  obtain⟨q,hq⟩:=aD9.mp m2
  have a:=(h.rc p _ hp).1
  have b:=(h.rc q _ hq).1
  have:p=q:=by omega
  subst this
  rw[hp]at hq
  exact ne (by rw[aC0 hq])
theorem a0X(h:R3 st S ams)(ok:C8 st)(pr:rr.Perm st.recs)(er:rr.map (·.num)=st.row):∀k,k≤rr.length→∃M,U4 S [] (st.row.take k)=some M∧∀g,n9 M g=n9 (a8k ((rr.take k).map (amR ams))) g
 | 0,_=>⟨[],rfl,fun g=>rfl⟩
 | k+1,hk=>by
  obtain⟨M,h1,h2⟩:=a0X h ok pr er k (by omega)
  have gk:=List.getElem?_eq_getElem (show k<rr.length by omega)
  generalize hr:rr[k]=r at gk
  have mr:r∈st.recs:=by rw[←hr];exact pr.mem_iff.mp (aF9 _)
  obtain⟨b1,b2,b3,b4,b5⟩:=h.am mr
  have uni:∀{i j:Nat} {x:Rec},rr[i]?=some x→rr[j]?=some x→i=j:=fun {i j x} hi hj=>
   (aF4 (l:=st.row) (by rw[←er,aA0];exact(aA2.mp hi).1) ok.row.nd).mp (by rw[←er,aB1,aB1,hi,hj])
  have agree:∀g∈r.looked,val M g=Z6 ams r.beg g:=fun g hg=>by
   unfold Z6 val
   rw[h2 g,h.same (b:=r.beg.toNat) g (fun x hx=>pr.mem_iff.mp (aM5 hx)) ((b1l h ok pr er g).sublist (aK5 _ _)) fun x hx wx=>?_]
   obtain⟨p,hp⟩:=aD9.mp (pr.mem_iff.mpr hx)
   have eb:((r.beg.toNat:Nat):Int)=r.beg:=by omega
   rw[eb]
   have nn:x≠r→x.num≠r.num:=fun z w=>z (by
    have:p=k:=(aF4 (l:=st.row) (by rw[←er,aA0];exact(aA2.mp hp).1) ok.row.nd).mp (by rw[←er,aB1,aB1,hp,gk];exact congrArg some w)
    subst this
    rw[hp]at gk;exact aC0 gk)
   constructor
   ·intro hm
    obtain⟨q,hq⟩:=aD9.mp hm
    have lq:=(aA2.mp hq).1
    rw[aD0]at lq
    rw[aH0 (by omega)]at hq
    refine aI3 fun c=>?_
    have ne:x≠r:=fun z=>by rw[z]at hq;have:=uni hq gk;omega
    have:=a5i ok er gk hq mr hx (fun z=>nn ne z.symm) (l:=(r.num,x.num,g,"missed")) ⟨rfl,rfl,.inr (.inr ⟨rfl,by omega,hg,wx⟩)⟩
    omega
   ·intro hm
    have ne:x≠r:=fun z=>by rw[z]at hm;omega
    have:=a5i ok er hp gk hx mr (nn ne) (l:=(x.num,r.num,g,"saw")) ⟨rfl,rfl,.inr (.inl ⟨rfl,hm,wx,hg⟩)⟩
    exact aC8 (show(rr.take k)[p]?=some x by rw[aH0 this];exact hp)
  obtain⟨M',c1,c2⟩:=b5 M agree
  have e1:st.row.take (k+1)=st.row.take k++[r.num]:=by
   rw[aD3,←er,aB1,gk];rfl
  refine⟨M',by rw[e1,a4u h1];exact c1,fun g=>?_⟩
  rw[aD3,gk,aG5,aB5,aK3,a2K,Y3 g _ _ b3,c2 g,h2 g]
end
theorem a0P:∀{s:List (i9×u7)} {M M':Am},(M.map (·.1)).Nodup→alone M s=some M'→(M'.map (·.1)).Nodup
 | [],M,M',h,e=>by
  have:M=M':=aC0 e
  subst this;exact h
 | x::s,M,M',h,e=>by
  unfold alone at e
  rw[List.foldlM_cons]at e
  cases z:X0 M x with
  | none=>rw[z]at e;cases e
  | some N=>
   rw[z]at e
   have e:alone N s=some M':=e
   refine a0P ?_ e
   obtain⟨d,a⟩:=x
   cases d with
   | put n g y=>have:=aC0 z;subst this;exact a6Y h
   | look n g=>
    cases a with
    | num i=>
     have z:(if i=val M g then some M else none)=some N:=z
     split at z
     ·have:=aC0 z;subst this;exact h
     ·cases z
    | _=>cases z
   | _=>have:=aC0 z;subst this;exact h
theorem a5J{S:Sts}:∀{row:List Int} {M M':Am},(M.map (·.1)).Nodup→U4 S M row=some M'→(M'.map (·.1)).Nodup
 | [],M,M',h,e=>by
  have:M=M':=aC0 e
  subst this;exact h
 | n::row,M,M',h,e=>by
  unfold U4 at e
  rw[List.foldlM_cons]at e
  cases z:alone M (S n) with
  | none=>rw[z]at e;cases e
  | some N=>
   rw[z]at e
   exact a5J (a0P h z) (show U4 S N row=some M' from e)
theorem b2w{st:j8}{S:Sts}{ams:List Am}(h:R3 st S ams)(ok:C8 st):(∀k,k≤st.row.length→∃M,U4 S [] (st.row.take k)=some M)∧∃M,U4 S [] st.row=some M∧(M.map (·.1)).Nodup∧(∀g,g∈M.map (·.1)↔g∈st.vers.map (·.1))∧∀g,(n9 M g).getD 0=valOf st g (st.recs.length:Int):=by
 obtain⟨rr,pr,er⟩:=b3q ok.row.perm
 have lr:rr.length=st.row.length:=by rw[←er,aA0]
 have run:=a0X h ok pr er
 refine⟨fun k hk=>let ⟨M,a,_⟩:=run k (by omega);⟨M,a⟩,?_⟩
 obtain⟨M,m1,m2⟩:=run rr.length (aB3 _)
 rw[lr,aD5]at m1
 rw[aD5]at m2
 have e:∀g,n9 M g=n9 (a8k ams) g:=fun g=>by
  rw[m2 g,h.same (b:=st.recs.length) g (fun x hx=>pr.mem_iff.mp hx) (b1l h ok pr er g) fun r hr _=>⟨fun _=>?_,fun _=>pr.mem_iff.mpr hr⟩,←h.len,aD5]
  obtain⟨j,hj⟩:=aD9.mp hr
  have:=(h.rc j r hj).1
  have:=(aA2.mp hj).1
  omega
 refine⟨M,m1,a5J (M:=[]) aL3 m1,fun g=>?_,fun g=>?_⟩
 ·rw[a6U,e g,←a6U,h.vk g]
  have key:∀(l:List Am) (N:Am),g∈(l.foldl a6e N).map (·.1)↔g∈N.map (·.1)∨∃am∈l,g∈am.map (·.1):=fun l=>by
   induction l with
   | nil=>exact fun N=>⟨.inl,fun z=>z.elim id fun⟨_,w,_⟩=>nomatch w⟩
   | cons a l ih=>
    intro N
    rw[aI5,ih,a5O,or_assoc]
    refine or_congr Iff.rfl ⟨?_,?_⟩
    ·rintro(z | ⟨am,z1,z2⟩)
     ·exact⟨a,aB9,z⟩
     ·exact⟨am,aC1 _ z1,z2⟩
    ·rintro⟨am,z1,z2⟩
     rcases aB7.mp z1 with rfl | z1
     ·exact .inl z2
     ·exact .inr ⟨am,z1,z2⟩
  exact(key ams []).trans ⟨fun z=>z.elim (fun w=>nomatch w) id,.inr⟩
 ·rw[e g,h.va g _ (.inl rfl)]
  unfold Z6 val
  rw[show((st.recs.length:Nat):Int).toNat=ams.length by have:=h.len;omega,aD5]
def lkC(o p:Rec)(g w:Str):Prop:=(w="over"∧o.fin<p.fin∧g∈o.put∧g∈p.put)∨(w="saw"∧o.fin≤p.beg∧g∈o.put∧g∈p.looked)∨(w="missed"∧o.beg<p.fin∧g∈o.looked∧g∈p.put)
inductive a6M(K:PySem.W.Frag)(vs:List V)(H:Hp)(Q:VK):Prop
 | mk (l:Lk) (o p:Rec) (x y z:V) (x0:vs=[x,y,z]) (x1:a9C H l x) (x2:RecAt K H o y) (x3:RecAt K H p z) (x4:(l.2.2.2="over"∨l.2.2.2="saw"∨l.2.2.2="missed")) (x5:¬lkC o p l.2.2.1 l.2.2.2) (xq:Q (.bl false) H)
def a6Q(K:PySem.W.Frag):Sp:=fun vs H Q _=>a6M K vs H Q
theorem a9S(T:B6 K mg t):g9 P w K mg base A3 1 t.f__law_true t.d__law_true ["_law_link","_law_one","_law_other"] (a6Q K):=by
 refine T.F__law_true.ok a5p (fun vs H Q E h=>?_) (fun cdv A outer s H vs Q E hr h=>?_)
 ·obtain⟨l,o,p,x,y,z,rfl,_⟩:=h
  rfl
 obtain⟨⟨n,m,g,why⟩,o,p,x,y,z,rfl,⟨a,rfl,ha⟩,⟨b1,la1,pa1,rfl,t1,l1,u1⟩,⟨b2,la2,pa2,rfl,t2,l2,u2⟩,hw,h,q⟩:=h
 refine⟨_,(b9 (g8 (i:=3) a5p.nd rfl (Or.inl rfl) (d7 f6 (pv 0) d5 (fun _ _=>rfl)))
 (b9 (l4 (g7 A9 (d7 f6 (pv 0) d5 (fun _ _=>rfl)) i8 (i7 _))
 (d6 (i4 (Z3 (K9 N2 (pv 3) (d7 f6 (pv 1) d5 (fun _ _=>rfl)) (by with_unfolding_all rfl)) (Z3 (K9 N2 (pv 3) (d7 f6 (pv 2) d5 (fun _ _=>rfl)) (by with_unfolding_all rfl)) (a5h (K9 a9b (d7 f6 (pv 1) d5 (fun _ _=>rfl)) (d7 f6 (pv 2) d5 (fun _ _=>rfl)) (i7 _)))))))
 j4)
 (b9 (l4 (g7 A9 (d7 f6 (pv 0) d5 (fun _ _=>rfl)) i8 (i7 _))
 (d6 (i4 (Z3 (K9 N2 (pv 3) (d7 f6 (pv 1) d5 (fun _ _=>rfl)) (by with_unfolding_all rfl)) (Z3 (K9 N2 (pv 3) (d7 f6 (pv 2) d5 (fun _ _=>rfl)) (by with_unfolding_all rfl)) (a5h (K9 a4N (d7 f6 (pv 1) d5 (fun _ _=>rfl)) (d7 f6 (pv 2) d5 (fun _ _=>rfl)) (i7 _)))))))
 j4)
 (b9 (l4 (PW.pt (N9 (g7 N3 (d7 f6 (pv 0) d5 (fun _ _=>rfl)) i8 (i7 _)) (L1 (g7 b9t (d7 f6 (pv 1) d5 (fun _ _=>rfl)) (d7 f6 (pv 2) d5 (fun _ _=>rfl)) (i7 _)))))
 (d6 (i4 y0))
 j4)
 (d6 (i4 (Z3 (K9 N2 (pv 3) (d7 f6 (pv 1) d5 (fun _ _=>rfl)) (by with_unfolding_all rfl)) (a5h (K9 N2 (pv 3) (d7 f6 (pv 2) d5 (fun _ _=>rfl)) (by with_unfolding_all rfl)))))))))),?_⟩
 have tq:=i3.of (K:=K) ha
 dsimp only at h hw
 refine⟨_,rfl,a,_,2,_,rfl,rfl,tq,rfl,?_⟩
 rcases hw with rfl | rfl | rfl
 ·refine⟨_,rfl,a,_,3,_,rfl,rfl,tq,rfl,rfl,_,rfl,m9 ?_⟩
  refine⟨_,rfl,_,rfl,b1,_,4,_,rfl,rfl,t1,rfl,pa1,_,rfl,.inl u1,rfl,G5 _,_,rfl,?_⟩
  rw[M8]
  by_cases i:g∈o.put
  case neg=>rw[aB2 i];exact e9 q
  rw[aC4 i]
  refine m9 ⟨_,rfl,_,rfl,b2,_,4,_,rfl,rfl,t2,rfl,pa2,_,rfl,.inl u2,rfl,G5 _,_,rfl,?_⟩
  rw[M8]
  by_cases j:g∈p.put
  case neg=>rw[aB2 j];exact e9 q
  rw[aC4 j]
  refine m9 ⟨_,rfl,b1,_,2,_,rfl,rfl,t1,rfl,_,rfl,b2,_,2,_,rfl,rfl,t2,rfl,_,_,rfl,rfl,?_⟩
  have q':Q (.bl (decide (o.fin<p.fin))) H:=by rw[aB2 fun c=>h (.inl ⟨rfl,c,i,j⟩)];exact q
  exact q'
 ·refine⟨_,rfl,a,_,3,_,rfl,rfl,tq,rfl,rfl,_,rfl,e9 ?_⟩
  refine⟨_,rfl,a,_,3,_,rfl,rfl,tq,rfl,rfl,_,rfl,m9 ?_⟩
  refine⟨_,rfl,_,rfl,b1,_,4,_,rfl,rfl,t1,rfl,pa1,_,rfl,.inl u1,rfl,G5 _,_,rfl,?_⟩
  rw[M8]
  by_cases i:g∈o.put
  case neg=>rw[aB2 i];exact e9 q
  rw[aC4 i]
  refine m9 ⟨_,rfl,_,rfl,b2,_,3,_,rfl,rfl,t2,rfl,la2,_,rfl,.inl l2,rfl,G5 _,_,rfl,?_⟩
  rw[M8]
  by_cases j:g∈p.looked
  case neg=>rw[aB2 j];exact e9 q
  rw[aC4 j]
  refine m9 ⟨_,rfl,b1,_,2,_,rfl,rfl,t1,rfl,_,rfl,b2,_,1,_,rfl,rfl,t2,rfl,_,_,rfl,rfl,?_⟩
  have q':Q (.bl (decide (o.fin≤p.beg))) H:=by rw[aB2 fun c=>h (.inr (.inl ⟨rfl,c,i,j⟩))];exact q
  exact q'
 ·refine⟨_,rfl,a,_,3,_,rfl,rfl,tq,rfl,rfl,_,rfl,e9 ?_⟩
  refine⟨_,rfl,a,_,3,_,rfl,rfl,tq,rfl,rfl,_,rfl,e9 ?_⟩
  refine⟨_,rfl,a,_,3,_,rfl,rfl,tq,rfl,rfl,_,rfl,U8 rfl ?_⟩
  refine⟨_,rfl,b1,_,1,_,rfl,rfl,t1,rfl,_,rfl,b2,_,2,_,rfl,rfl,t2,rfl,_,_,rfl,rfl,_,rfl,?_⟩
  by_cases c:o.beg<p.fin
  case neg=>rw[aC4 (by omega)];exact m9 q
  rw[aB2 (by omega)]
  refine e9 ⟨_,rfl,_,rfl,b1,_,3,_,rfl,rfl,t1,rfl,la1,_,rfl,.inl l1,rfl,G5 _,_,rfl,?_⟩
  rw[M8]
  by_cases i:g∈o.looked
  case neg=>rw[aB2 i];exact e9 q
  rw[aC4 i]
  refine m9 ⟨_,rfl,_,rfl,b2,_,4,_,rfl,rfl,t2,rfl,pa2,_,rfl,.inl u2,rfl,G5 _,?_⟩
  rw[M8,aB2 fun j=>h (.inr (.inr ⟨rfl,c,i,j⟩))];exact q
def Y9(rl:Addr→Role)(H0 H:Hp)(s:i9×u7)(x:V):Prop:=∃b p y,x=.ref b∧H b=some (.tup [.ref p,y])∧H0 p=some (.tup (dv s.1))∧E3 rl H0 s.2 y
theorem b3f{m m':Am}{a b:List (i9×u7)}(h:alone m (a++b)=some m'):∃m1,alone m a=some m1:=by
 unfold alone at h ⊢
 rw[aU0]at h
 cases z:List.foldlM X0 m a with
 | none=>rw[z]at h;cases h
 | some m1=>exact⟨m1,rfl⟩
inductive a9D(K:PySem.W.Frag)(vs:List V)(H:Hp)(Q:VK):Prop
 | mk (L M:Addr) (zs:List V) (s:List (i9×u7)) (rl:Addr→Role) (m m':Am) (x0:vs=[.ref L,.ref M]) (x1:H L=some (.lst zs)) (x2:Paired (Y9 rl H H) s zs) (x3:H M=some (.dK (L5 m))) (x4:alone m s=some m') (x5:m.length+s.length≤10000) (xq:∀H',(∀b,b≠M→H' b=H b)→H' M=some (.dK (L5 m'))→m'.length≤m.length+s.length→Q (.bl true) H')
def a6L(K:PySem.W.Frag):Sp:=fun vs H Q _=>a9D K vs H Q
theorem a0L(T:B6 K mg t):g9 P w K mg base A3 2 t.f__law_alone t.d__law_alone ["_law_steps","_law_amounts"] (a6L K):=by
 refine T.F__law_alone.ok a3a (fun vs H Q E h=>?_) (fun cdv A outer s0 H vs Q E hr h=>?_)
 ·obtain⟨L,M,zs,s,rl,m,m',rfl,_⟩:=h
  rfl
 obtain⟨L,M,zs,s,rl,m,m',rfl,hL,hS,hM,al,sz,q⟩:=h
 have hu:=O0 hr
 refine⟨_,(b9 (y6 aE1 rfl (u6 (pv 0)) (a6A rfl (P3 (l6 (i:=2) a3a.nd rfl (Or.inl rfl)) (P3 (l6 (i:=3) a3a.nd rfl (Or.inl rfl)) a6s)))
 (b9 (P6 (l4 (g7 A9 (d7 f6 (pv 2) d5 (fun _ _=>rfl)) i8 (i7 _))
 (d6 (J2 hu (pv 1) (d7 f6 (pv 2) d5 (fun _ _=>rfl)) (d7 f6 (pv 2) d5 (fun _ _=>rfl)) rfl))
 j4))
 (d6 (l4 (g7 A9 (d7 f6 (pv 2) d5 (fun _ _=>rfl)) i8 (i7 _))
 (d6 (l4 (PW.pt (N9 (G8 (C4 (k7 (g9.mono (k:=1) (U9 T) (by decide)) hr rfl T.m__law_whole T.F__law_whole.kp T.F__law_whole.b .nil k8 (b0 (pv 3) b7)))) (L1 (g7 N3 (pv 3) (a6T hu (pv 1) (d7 f6 (pv 2) d5 (fun _ _=>rfl)) d5 ⟨rfl,rfl,rfl,rfl⟩) (i7 _)))))
 (d6 (i4 y0))
 j4))
 j4))))
 (d6 (i4 y0))),?_⟩
 have lz:=p6 hS
 have nL:L≠M:=fun z=>by rw[z,hM]at hL;cases hL
 refine⟨_,rfl,L,rfl,⟨_,d8.of hL⟩,?_⟩
 refine A7 (xs:=zs) (fun i σ' H'=>∃(o2 o3:Option V) (m1:Am),σ'=[some (.ref L),some (.ref M),o2,o3]∧(∀b,b≠M→H' b=H b)∧H' M=some (.dK (L5 m1))∧alone m (s.take i)=some m1∧m1.length≤m.length+i) ⟨none,none,m,rfl,fun _ _=>rfl,hM,rfl,aB3 _⟩ (fun i σ' H' _ z=>?_) (fun i x σ' H' hx z=>?_) (fun σ' H' z=>?_)
 ·obtain⟨_,_,_,_,bt,_⟩:=z
  exact d8.of ((bt L nL).trans hL)
 ·obtain⟨o2,o3,m1,rfl,bt,hM1,a1,l1⟩:=z
  obtain⟨⟨d,an⟩,hs,b,p,y,rfl,hb,hp,hy⟩:=C2 hS hx
  have li:=(aA2.mp hs).1
  have nb:b≠M:=fun z=>by rw[z,hM]at hb;cases hb
  have np:p≠M:=fun z=>by rw[z,hM]at hp;cases hp
  have hb':=(bt b nb).trans hb
  have hp':H' p=some (.tup (dv d)):=(bt p np).trans hp
  have tq:=i3.of (K:=K) hp'
  have tk:s.take (i+1)=s.take i++[(d,an)]:=by rw[aD3,hs];rfl
  have a2:alone m (s.take (i+1))=X0 m1 (d,an):=by rw[tk,W3 a1]
  obtain⟨m2,e2⟩:∃m2,alone m (s.take (i+1))=some m2:=b3f (b:=s.drop (i+1)) (by rw[aN8];exact al)
  have e3:=a2.symm.trans e2
  refine⟨b,_,rfl,i3.of hb',rfl,_,_,rfl,_,_,rfl,rfl,?_⟩
  have other:X0 m1 (d,an)=some m1→∃(o2 o3:Option V) (m1:Am),[some (.ref L),some (.ref M),some (.ref p),some y]=[some (.ref L),some (.ref M),o2,o3]∧(∀b,b≠M→H' b=H b)∧H' M=some (.dK (L5 m1))∧alone m (s.take (i+1))=some m1∧m1.length≤m.length+(i+1):=fun e=>⟨_,_,m1,rfl,bt,hM1,a2.trans e,by omega⟩
  cases d with
  | put n g x=>
   have e4:G3 m1 g x=m2:=aC0 e3
   refine b4E (fun H1=>(∀b,b≠M→H1 b=H b)∧H1 M=some (.dK (L5 m2))) ⟨_,rfl,p,_,0,_,rfl,rfl,tq,rfl,rfl,_,rfl,m9 ⟨_,rfl,p,_,3,_,rfl,rfl,tq,rfl,_,rfl,_,rfl,p,_,2,_,rfl,rfl,tq,rfl,M,_,rfl,N6.k (k:=Sum.inr g) hM1 (r9 (by rw[a4G];omega)),rfl,fun c nc=>by rw[c9 nc];exact bt c nc,?_⟩⟩ fun H1 ⟨bt1,hM2⟩=>?_
   ·rw[b6,a2I,e4]
   ·have tq1:=i3.of (K:=K) ((bt1 p np).trans hp)
    refine⟨_,rfl,p,_,0,_,rfl,rfl,tq1,rfl,rfl,_,rfl,e9 ⟨_,_,m2,rfl,bt1,hM2,e2,?_⟩⟩
    have:=a9T m1 g x
    rw[e4]at this;omega
  | look n g=>
   refine T1 ⟨_,rfl,p,_,0,_,rfl,rfl,tq,rfl,rfl,_,rfl,e9 ⟨rfl,rfl⟩⟩ ?_
   cases an with
   | num j=>
    have e3:(if j=val m1 g then some m1 else none)=some m2:=e3
    by_cases c:j=val m1 g
    case neg=>rw[aA8 c]at e3;cases e3
    obtain rfl:=hy
    have ev:((n9 m1 g).map V.int).getD (V.int 0)=.int j:=by
     rw[c];unfold val
     cases n9 m1 g<;>rfl
    have dg:=z6.k (k:=Sum.inr g) hM1
    rw[a4i]at dg
    refine⟨_,rfl,p,_,0,_,rfl,rfl,tq,rfl,rfl,_,rfl,m9 ⟨_,rfl,_,"int",rfl,rfl,_,rfl,e9 ⟨_,rfl,_,rfl,M,rfl,.inl ⟨_,.inl hM1⟩,_,rfl,p,_,2,_,rfl,rfl,tq,rfl,_,dg,?_⟩⟩⟩
    rw[ev]
    exact⟨rfl,_,rfl,U8 rfl (other (by show(if j=val m1 g then some m1 else none)=_;rw[aB4 c]))⟩
   | _=>cases e3
  | _=>exact T1 ⟨_,rfl,p,_,0,_,rfl,rfl,tq,rfl,rfl,_,rfl,e9 ⟨rfl,rfl⟩⟩ ⟨_,rfl,p,_,0,_,rfl,rfl,tq,rfl,rfl,_,rfl,e9 (other rfl)⟩
 ·obtain⟨o2,o3,m1,rfl,bt,hM1,a1,l1⟩:=z
  rw[lz,aD5,al]at a1
  cases a1
  rw[lz]at l1
  exact q H' bt hM1 l1
theorem b1o{α:Type}[DecidableEq α]{l:List α}{i:Nat}{x:α}(nd:l.Nodup)(h:l[i]?=some x):x∉l.take i:=fun z=>by
 obtain⟨j,hj⟩:=aD9.mp z
 have lj:=(aA2.mp hj).1
 rw[aD0]at lj
 rw[aH0 (by omega)]at hj
 have:=(aF4 (by omega) nd).mp (hj.trans h.symm)
 omega
theorem a1X{F:Rec→V→Prop}:∀{rs:List Rec} {xs:List V},Paired F rs xs→(rs.map (·.num)).Nodup→∃g:Int→V,∀(i:Nat) (o:Rec),rs[i]?=some o→xs[i]?=some (g o.num)∧F o (g o.num)
 | _,_,.nil,_=>⟨fun _=>.non,fun i o h=>by simp at h⟩
 | _,_,.cons (a:=r) (b:=x) h t,nd=>by
  rw[aC3,aG4]at nd
  obtain⟨g,hg⟩:=a1X t nd.2
  refine⟨fun n=>if n=r.num then x else g n,fun i o e=>?_⟩
  cases i with
  | zero=>
   have e:r=o:=aC0 e
   subst e
   dsimp only
   rw[aB4 rfl]
   exact⟨rfl,h⟩
  | succ i=>
   rw[aQ4]at e
   have:o.num≠r.num:=fun z=>nd.1 (by rw[←z];exact aA5.mpr ⟨o,aC8 e,rfl⟩)
   dsimp only
   rw[aA8 this,aQ4]
   exact hg i o e
inductive a7m(K:PySem.W.Frag)(vs:List V)(H:Hp)(Q:VK):Prop
 | mk (W R:Addr) (row:List Int) (us:List V) (rs:List Rec) (rl:Addr→Role) (x0:vs=[.ref W,.ref R]) (x1:H W=some (.lst (row.map V.int))) (x2:H R=some (.lst us)) (x3:Paired (RcAt rl H) rs us) (x4:(rs.map (·.num)).Nodup) (x5:row.length≤1000) (x6:rs.length≤1000) (x7:(∀r∈rs,r.looked.length≤1000∧r.put.length≤1000)) (x8:(∀n∈row,∃r∈rs,r.num=n)) (x9:(∀(i j:Nat) (r o:Rec),j<i→row[i]?=some r.num→row[j]?=some o.num→r∈rs→o∈rs→∀g w,¬lkC r o g w)) (xq:∀H',f7 H H'→Q (.bl true) H')
def a1p(K:PySem.W.Frag):Sp:=fun vs H Q _=>a7m K vs H Q
theorem a2o(T:B6 K mg t):g9 P w K mg base A3 2 t.f__law_links_kept t.d__law_links_kept ["_law_row","_law_records"] (a1p K):=by
 refine T.F__law_links_kept.ok A1 (fun vs H Q E h=>?_) (fun cdv A outer s H vs Q E hr h=>?_)
 ·obtain⟨W,R,row,us,rs,rl,rfl,_⟩:=h
  rfl
 obtain⟨W,R,row,us,rs,rl,rfl,hW,hR,pR,nd,lrow,lrs,lgs,inr,no,q⟩:=h
 have hu:=O0 hr
 refine⟨_,(b9 (g8 (i:=2) A1.nd rfl (Or.inl rfl) G0)
 (b9 (y6 aE1 rfl (u6 (pv 1)) (l6 (i:=3) A1.nd rfl (Or.inl rfl))
 (d6 (J2 hu (pv 2) (d7 f6 (pv 3) d5 (fun _ _=>rfl)) (pv 3) rfl)))
 (b9 (y6 aE1 rfl (P2 rfl T.m_range (b0 (e7 i5 rfl T.m_len aC6 (b0 (pv 0) b7)) b7)) (l6 (i:=4) A1.nd rfl (Or.inl rfl))
 (d6 (y6 aE1 rfl (u6 (N7 R7 (pv 0) P8 (Q2 (pv 4)))) (l6 (i:=5) A1.nd rfl (Or.inl rfl))
 (d6 (y6 aE1 rfl (u6 (j5 Q9 (d7 f6 (v8 hu (pv 2) (d7 l5 (pv 0) (pv 4) (fun _ _=>rfl)) (fun _ _=>rfl)) d5 (fun _ _=>rfl)) (d7 f6 (v8 hu (pv 2) (d7 l5 (pv 0) (pv 4) (fun _ _=>rfl)) (fun _ _=>rfl)) d5 (fun _ _=>rfl)))) (l6 (i:=6) A1.nd rfl (Or.inl rfl))
 (d6 (y6 aE1 rfl (u6 (m6 (b0 i8 (b0 i8 (b0 i8 b7))))) (l6 (i:=7) A1.nd rfl (Or.inl rfl))
 (b9 (g8 (i:=8) A1.nd rfl (Or.inl rfl) (q5 (b0 (d7 l5 (pv 0) (pv 4) (fun _ _=>rfl)) (b0 (pv 5) (b0 (pv 6) (b0 (pv 7) b7))))))
 (d6 (l4 (C4 (k7 (g9.mono (k:=1) (a9S T) (by decide)) hr rfl T.m__law_true T.F__law_true.kp T.F__law_true.b .nil k8 (b0 (pv 8) (b0 (v8 hu (pv 2) (d7 l5 (pv 0) (pv 4) (fun _ _=>rfl)) (fun _ _=>rfl)) (b0 (v8 hu (pv 2) (pv 5) (fun _ _=>rfl)) b7)))))
 (d6 (i4 y0))
 j4))))))))))
 (d6 (i4 y0))))),?_⟩
 obtain⟨g,hg⟩:=a1X pR nd
 have lu:=p6 pR
 refine fun Kn hKn=>?_
 have sK:=b8 (o:=.dK []) hKn
 refine⟨_,rfl,R,rfl,⟨_,d8.of (sK _ _ hR)⟩,?_⟩
 refine A7 (xs:=us) (fun i σ' Hd=>∃o3,σ'=[some (.ref W),some (.ref R),some (.ref Kn),o3,none,none,none,none,none]∧f7 H Hd∧Hd Kn=some (.dK (m7 ((rs.map (·.num)).take i) g))) ⟨_,rfl,sK,b6⟩ (fun i σ' Hd _ z=>?_) (fun i v σ' Hd hv z=>?_) (fun σ' Hd z=>?_)
 ·obtain⟨_,_,sd,_⟩:=z
  exact d8.of (sd _ _ hR)
 ·obtain⟨o3,rfl,sd,h3⟩:=z
  obtain⟨o,ho,bo,la1,pa1,rfl,k1,_⟩:=C2 pR hv
  have hgo:=(hg i o ho).1
  rw[hv]at hgo
  have hgo:V.ref bo=g o.num:=aC0 hgo
  have hno:(rs.map (·.num))[i]?=some o.num:=by rw[aB1,ho];rfl
  refine⟨_,rfl,_,rfl,_,rfl,bo,_,0,_,rfl,rfl,i3.of (sd _ _ k1),rfl,Kn,_,rfl,N6.k (k:=Sum.inl o.num) h3 (r9 (by rw[K8,aD0,aA0];omega)),?_⟩
  refine⟨_,rfl,l7 sd hKn,?_⟩
  rw[b6,M7,aA8 (b1o nd hno),aD3,hno]
  refine congrArg (fun z=>some (HO.dK z)) (V4 fun n _=>?_)
  unfold a3b
  split
  ·rename_i z;rw[z,hgo]
  ·rfl
 obtain⟨o3,rfl,sd,h3⟩:=z
 rw[aJ6 (by rw[aA0,lu];exact aB3 _)] at h3
 have lm:(row.map V.int).length=row.length:=aA0 _
 refine⟨_,rfl,W,_,rfl,.inl (d8.of (sd _ _ hW)),_,rfl,by omega,by omega,?_⟩
 have en:((((row.map V.int).length:Nat):Int)).toNat=row.length:=by omega
 rw[en]
 have get:∀{n:Int} {Hx:Hp},n∈row→f7 Hd Hx→∃r b la pa,r∈rs∧r.num=n∧g n=.ref b∧z6 Hx Kn (.int n) (some (g n))∧H b=some (.tup [.int r.num,.int r.beg,.int r.fin,.ref la,.ref pa])∧H la=some (.lst (r.looked.map V.str))∧H pa=some (.lst (r.put.map V.str)):=fun {n Hx} hn sx=>by
  obtain⟨r,hr,e⟩:=inr n hn
  obtain⟨i1,h1⟩:=aD9.mp hr
  obtain⟨b,la,pa,e1,e2,e3,e4,_⟩:=(hg i1 r h1).2
  have g1:=z6.k (k:=Sum.inl n) (sx _ _ h3)
  rw[u3,aB4 (by rw[←e];exact aA5.mpr ⟨r,hr,rfl⟩)] at g1
  rw[e]at e1
  exact⟨r,b,la,pa,hr,e,e1,g1,e2,e3,e4⟩
 refine N4 (fun i σ' Hc=>∃o4 o5 o6 o7 o8:Option V,σ'=[some (.ref W),some (.ref R),some (.ref Kn),o3,o4,o5,o6,o7,o8]∧f7 Hd Hc) ⟨none,none,none,none,none,rfl,f7.refl Hd⟩ (fun i σ' Hc hi z=>?_) (fun σ' Hc z=>?_)
 ·obtain⟨o4,o5,o6,o7,o8,rfl,sc⟩:=z
  have e0:(0:Int)+(i:Int)=((i:Nat):Int):=by omega
  have hri:=List.getElem?_eq_getElem hi
  have ax:F7 (row.map V.int) ((0:Int)+(i:Int))=some (.int row[i]):=by rw[e0];exact j0 (by rw[aB1,hri];rfl)
  generalize row[i]=n at hri ax
  have hn:=aC8 hri
  refine⟨_,rfl,_,rfl,_,rfl,W,_,rfl,d8.of ((sd.trans sc) _ _ hW),fun c hc=>?_⟩
  rw[e0,a5n,←aQ3]
  have s1:=b8 (o:=.lst ((row.take i).map V.int)) hc
  have hc1:(upd Hc c (.lst ((row.take i).map V.int))) c=_:=b6
  have sc1:=sc.trans s1
  generalize upd Hc c (.lst ((row.take i).map V.int))=H1 at s1 hc1 sc1 ⊢
  refine⟨c,rfl,⟨_,d8.of hc1⟩,?_⟩
  refine A7 (xs:=(row.take i).map V.int) (fun j σ' He=>∃o5 o6 o7 o8:Option V,σ'=[some (.ref W),some (.ref R),some (.ref Kn),o3,some (.int ((i:Nat):Int)),o5,o6,o7,o8]∧f7 H1 He) ⟨_,_,_,_,rfl,f7.refl H1⟩ (fun j σ' He _ z=>?_) (fun j v σ' He hv z=>?_) (fun σ' He z=>?_)
  ·obtain⟨_,_,_,_,_,se⟩:=z
   exact d8.of (se _ _ hc1)
  ·obtain⟨o5,o6,o7,o8,rfl,se⟩:=z
   rw[aB1]at hv
   obtain⟨m,hm,rfl⟩:=aD8.mp hv
   have lj:=(aA2.mp hm).1
   rw[aD0]at lj
   rw[aH0 (by omega)]at hm
   have se1:=sc1.trans se
   have sall:=sd.trans se1
   obtain⟨r,b1,la1,pa1,mr,er,eg,dg,t1,l1,u1⟩:=get hn se1
   have ax1:F7 (row.map V.int) ((i:Nat):Int)=some (.int n):=by rw[←e0];exact ax
   refine⟨_,rfl,_,rfl,_,rfl,W,_,_,_,rfl,rfl,d8.of (sall _ _ hW),ax1,Kn,_,rfl,dg,?_⟩
   rw[eg]
   refine⟨b1,_,3,_,rfl,rfl,i3.of (sall _ _ t1),rfl,_,rfl,_,rfl,_,rfl,W,_,_,_,rfl,rfl,d8.of (sall _ _ hW),ax1,Kn,_,rfl,dg,?_⟩
   rw[eg]
   obtain⟨z1,z2⟩:=lgs r mr
   refine⟨b1,_,4,_,rfl,rfl,i3.of (sall _ _ t1),rfl,la1,pa1,_,_,rfl,rfl,sall _ _ l1,sall _ _ u1,aK8 (r9 (by rw[aA0,aA0];omega)),fun e1 he1=>?_⟩
   rw[←aB5]
   have s2:=b8 (o:=.lst ((r.looked++r.put).map V.str)) he1
   have he2:(upd He e1 (.lst ((r.looked++r.put).map V.str))) e1=_:=b6
   have se2:=se.trans s2
   generalize upd He e1 (.lst ((r.looked++r.put).map V.str))=H2 at s2 he2 se2 ⊢
   refine⟨e1,rfl,⟨_,d8.of he2⟩,?_⟩
   refine A7 (xs:=(r.looked++r.put).map V.str) (fun k σ' Hf=>∃o6 o7 o8:Option V,σ'=[some (.ref W),some (.ref R),some (.ref Kn),o3,some (.int ((i:Nat):Int)),some (.int m),o6,o7,o8]∧f7 H2 Hf) ⟨_,_,_,rfl,f7.refl H2⟩ (fun k σ' Hf _ z=>?_) (fun k v σ' Hf hv z=>?_) (fun σ' Hf z=>?_)
   ·obtain⟨_,_,_,_,sf⟩:=z
    exact d8.of (sf _ _ he2)
   ·obtain⟨o6,o7,o8,rfl,sf⟩:=z
    rw[aB1]at hv
    obtain⟨gd,_,rfl⟩:=aD8.mp hv
    refine⟨(l8 3),fun w0 hw0=>?_⟩
    have s3:=b8 (o:=.lst [V.str "over",V.str "saw",V.str "missed"]) hw0
    have hw1:(upd Hf w0 (.lst [V.str "over",V.str "saw",V.str "missed"])) w0=_:=b6
    have sf3:=sf.trans s3
    generalize upd Hf w0 (.lst [V.str "over",V.str "saw",V.str "missed"])=H3 at s3 hw1 sf3 ⊢
    refine⟨w0,rfl,⟨_,d8.of hw1⟩,?_⟩
    refine A7 (xs:=[V.str "over",V.str "saw",V.str "missed"]) (fun k σ' Hg=>∃o7 o8:Option V,σ'=[some (.ref W),some (.ref R),some (.ref Kn),o3,some (.int ((i:Nat):Int)),some (.int m),some (.str gd),o7,o8]∧f7 H3 Hg) ⟨_,_,rfl,f7.refl H3⟩ (fun k σ' Hg _ z=>?_) (fun k v σ' Hg hv z=>?_) (fun σ' Hg z=>?_)
    ·obtain⟨_,_,_,sg⟩:=z
     exact d8.of (sg _ _ hw1)
    ·obtain⟨o7,o8,rfl,sg⟩:=z
     have hwy:∃w:Str,v=.str w∧(w="over"∨w="saw"∨w="missed"):=by
      have:=aC8 hv
      simp only[aB7,aF7,aL4]at this
      rcases this with rfl | rfl | rfl
      ·exact⟨_,rfl,.inl rfl⟩
      ·exact⟨_,rfl,.inr (.inl rfl)⟩
      ·exact⟨_,rfl,.inr (.inr rfl)⟩
     obtain⟨w,rfl,hw⟩:=hwy
     have sdg:f7 Hd Hg:=((sc1.trans se2).trans sf3).trans sg
     have sHg:=sd.trans sdg
     refine⟨_,rfl,_,rfl,W,_,_,_,rfl,rfl,d8.of (sHg _ _ hW),ax1,_,rfl,_,rfl,_,rfl,(l8 4),fun p hp=>?_⟩
     have s4:=b8 (o:=.tup [.int n,.int m,.str gd,.str w]) hp
     have hp1:(upd Hg p (.tup [.int n,.int m,.str gd,.str w])) p=_:=b6
     have sg4:=sg.trans s4
     have sd4:=sdg.trans s4
     have sH4:=sHg.trans s4
     generalize upd Hg p (.tup [.int n,.int m,.str gd,.str w])=H4 at s4 hp1 sg4 sd4 sH4 ⊢
     obtain⟨r',b1',la1',pa1',mr',er',eg',dg',t1',l1',u1'⟩:=get hn sd4
     obtain⟨o,b2,la2,pa2,mo,eo,eg2,dg2,t2,l2,u2⟩:=get (aC8 hm) sd4
     refine⟨_,rfl,_,rfl,_,rfl,_,rfl,W,_,_,_,rfl,rfl,d8.of (sH4 _ _ hW),ax1,Kn,_,rfl,dg',_,rfl,_,rfl,Kn,_,rfl,dg2,(n,m,gd,w),r',o,.ref p,_,_,rfl,⟨p,rfl,hp1⟩,⟨b1',la1',pa1',eg',i3.of (sH4 _ _ t1'),d8.of (sH4 _ _ l1'),d8.of (sH4 _ _ u1')⟩,⟨b2,la2,pa2,eg2,i3.of (sH4 _ _ t2),d8.of (sH4 _ _ l2),d8.of (sH4 _ _ u2)⟩,hw,no i j r' o (by omega) (by rw[er'];exact hri) (by rw[eo];exact hm) mr' mo gd w,_,rfl,e9 ⟨_,_,rfl,sg4⟩⟩
    ·obtain⟨o7,o8,rfl,sg⟩:=z
     exact⟨_,_,_,rfl,sf3.trans sg⟩
   ·obtain⟨o6,o7,o8,rfl,sf⟩:=z
    exact⟨_,_,_,_,rfl,se2.trans sf⟩
  ·obtain⟨o5,o6,o7,o8,rfl,se⟩:=z
   exact⟨_,_,_,_,_,rfl,sc1.trans se⟩
 ·obtain⟨o4,o5,o6,o7,o8,rfl,sc⟩:=z
  exact q _ (sd.trans sc)
structure AC(rl:Addr→Role)(S U:Addr)(sa:Int→Addr)(H0 H:Hp)(st:j8)(T:Sts):Prop where
 sm:f7 H0 H
 hs:H S=some (.lst ((nat st.begun).map fun n=>.ref (sa n)))
 hu:H U=some (.lst ((u9 st).map V.int))
 ls:∀n,0≤n→n<(st.begun:Int)→∃zs,H (sa n)=some (.lst zs)∧Paired (Y9 rl H0 H) (T n) zs
 inj:∀n m,0≤n→n<(st.begun:Int)→0≤m→m<(st.begun:Int)→sa n=sa m→n=m
 ns:∀n,0≤n→n<(st.begun:Int)→sa n≠S∧sa n≠U∧H0 (sa n)=none
 nu:S≠U
 z1:H0 S=none
 z2:H0 U=none
theorem Y9.tupK{rl:Addr→Role}{H0 H H':Hp}(k:u5 H H'){s:i9×u7}{x:V}(h:Y9 rl H0 H s x):Y9 rl H0 H' s x:=
 let ⟨b,p,y,e,h1,h2,h3⟩:=h;⟨b,p,y,e,k.1 _ _ h1,h2,h3⟩
section
variable{rl:Addr→Role}{S U:Addr}{sa:Int→Addr}{H0 H H':Hp}{st st':j8}{T:Sts}
theorem AC.new(h:AC rl S U sa H0 H st T)(s:f7 H H'):AC rl S U sa H0 H' st T:=
 ⟨h.sm.trans s,s _ _ h.hs,s _ _ h.hu,fun n a b=>let ⟨zs,z1,z2⟩:=h.ls n a b;⟨zs,s _ _ z1,Paired.mapP z2 fun _ _ z=>z.tupK s.tupK⟩,h.inj,h.ns,h.nu,h.z1,h.z2⟩
theorem AC.cong(h:AC rl S U sa H0 H st T)(e1:st'.begun=st.begun)(e2:u9 st'=u9 st):AC rl S U sa H0 H st' T:=
 ⟨h.sm,by rw[e1];exact h.hs,by rw[e2];exact h.hu,by rw[e1];exact h.ls,by rw[e1];exact h.inj,by rw[e1];exact h.ns,h.nu,h.z1,h.z2⟩
theorem AC.setU(h:AC rl S U sa H0 H st T)(e1:st'.begun=st.begun):AC rl S U sa H0 (upd H U (.lst ((u9 st').map V.int))) st' T:=by
 have k:u5 H (upd H U (.lst ((u9 st').map V.int))):=n4 h.hu
 refine⟨l7 h.sm h.z2,by rw[c9 h.nu,e1];exact h.hs,b6,fun n a b=>?_,by rw[e1];exact h.inj,by rw[e1];exact h.ns,h.nu,h.z1,h.z2⟩
 rw[e1]at b
 obtain⟨zs,z1,z2⟩:=h.ls n a b
 exact⟨zs,by rw[c9 (h.ns n a b).2.1];exact z1,Paired.mapP z2 fun _ _ z=>z.tupK k⟩
theorem AC.add(h:AC rl S U sa H0 H st T){n:Int}(h0:0≤n)(hn:n<(st.begun:Int)){zs:List V}(hz:H (sa n)=some (.lst zs)){x:V}{d:i9}{a:u7}(hx:Y9 rl H0 H (d,a) x){u:List Int}(ed:numOf d=some n)(hu:n∈u) :
  AC rl S U sa H0 (upd H (sa n) (.lst (zs++[x]))) st (W8 T d a u):=by
 have k:u5 H (upd H (sa n) (.lst (zs++[x]))):=n4 hz
 obtain⟨c1,c2,c3⟩:=h.ns n h0 hn
 refine⟨l7 h.sm c3,by rw[c9 (Ne.symm c1)];exact h.hs,by rw[c9 (Ne.symm c2)];exact h.hu,fun m a1 b1=>?_,h.inj,h.ns,h.nu,h.z1,h.z2⟩
 by_cases e:m=n
 ·subst e
  obtain⟨ws,w1,w2⟩:=h.ls m a1 b1
  rw[hz]at w1;cases w1
  rw[a3D ed hu]
  exact⟨_,b6,aK0 (Paired.mapP w2 fun _ _ z=>z.tupK k) (hx.tupK k)⟩
 ·obtain⟨ws,w1,w2⟩:=h.ls m a1 b1
  rw[a8r ed e]
  exact⟨ws,by rw[c9 fun z=>e (h.inj m n a1 b1 h0 hn z)];exact w1,Paired.mapP w2 fun _ _ z=>z.tupK k⟩
end
inductive a3M(K:PySem.W.Frag)(vs:List V)(H:Hp)(Q:VK):Prop
 | mk (A Tl:Addr) (xs ys:List V) (ds:List i9) (as:List u7) (rl:Addr→Role) (f:Nat→j8) (x0:vs=[.ref A,.ref Tl]) (x1:H A=some (.lst xs)) (x2:u4 H ds xs) (x3:H Tl=some (.lst ys)) (x4:Paired (E3 rl H) as ys) (x5:Trace f ds as) (x6:ds.length≤63) (xq:∀(S:Addr) (sa:Int→Addr) (H':Hp),f7 H H'→H' S=some (.lst ((nat (f ds.length).begun).map fun n=>.ref (sa n)))→(∀n,0≤n→n<((f ds.length).begun:Int)→∃zs,H' (sa n)=some (.lst zs)∧Paired (Y9 rl H H') (O3 f ds as ds.length n) zs∧zs.length≤63)→Q (.ref S) H')
def a5T(K:PySem.W.Frag):Sp:=fun vs H Q _=>a3M K vs H Q
theorem a8y{f:Nat→j8}{ds:List i9}{as:List u7}:∀(i:Nat) (n:Int),(O3 f ds as i n).length≤i
 | 0,n=>aB3 _
 | i+1,n=>by
  have ih:=a8y (f:=f) (ds:=ds) (as:=as) i n
  unfold O3
  cases ds[i]? with
  | none=>exact Nat.le_succ_of_le ih
  | some d=>
   cases as[i]? with
   | none=>exact Nat.le_succ_of_le ih
   | some a=>
    show(if numOf d=some n∧n∈u9 (f i) then O3 f ds as i n++[(d,a)] else O3 f ds as i n).length≤_
    split
    ·rw[aA4];simp only[aE6];omega
    ·omega
theorem a1U(T:B6 K mg t):g9 P w K mg base A3 1 t.f__law_acts t.d__law_acts ["_law_asked","_law_told"] (a5T K):=by
 refine T.F__law_acts.ok R0 (fun vs H Q E h=>?_) (fun cdv A outer s H vs Q E hr h=>?_)
 ·obtain⟨A,Tl,xs,ys,ds,as,rl,f,rfl,_⟩:=h
  rfl
 obtain⟨A,Tl,xs,ys,ds,as,rl,f,rfl,hA,hD,hT,pa,F,lds,q⟩:=h
 refine⟨_,(b9 (g8 (i:=2) R0.nd rfl (Or.inl rfl) (m6 b7))
 (b9 (g8 (i:=3) R0.nd rfl (Or.inl rfl) (m6 b7))
 (b9 (y6 aE1 rfl (P2 rfl T.m_range (b0 (e7 i5 rfl T.m_len aC6 (b0 (pv 0) b7)) b7)) (l6 (i:=4) R0.nd rfl (Or.inl rfl))
 (b9 (g8 (i:=5) R0.nd rfl (Or.inl rfl) (d7 l5 (pv 0) (pv 4) (fun _ _=>rfl)))
 (d6 (l4 (g7 A9 (d7 f6 (pv 5) d5 (fun _ _=>rfl)) i8 (i7 _))
 (b9 (m8 (v9 aB0 aB6 aB8 n6 (pv 3) (b0 (e7 i5 rfl T.m_len aC6 (b0 (pv 2) b7)) b7)))
 (d6 (m8 (v9 aB0 aB6 aB8 n6 (pv 2) (b0 (m6 b7) b7)))))
 (d6 (l4 (PW.pt (R6 (g7 N3 (d7 f6 (pv 5) d5 (fun _ _=>rfl)) i8 (i7 _)) (O9 (g7 N2 (d7 f6 (pv 5) d5 (fun _ _=>rfl)) (pv 3) (by with_unfolding_all rfl)))))
 (b9 (m8 (v9 aB0 aB6 aB8 n6 (d7 l5 (pv 2) (d7 f6 (pv 5) d5 (fun _ _=>rfl)) (fun _ _=>rfl)) (b0 (q5 (b0 (pv 5) (b0 (d7 l5 (pv 1) (pv 4) (fun _ _=>rfl)) b7))) b7)))
 (d6 (l4 (g7 N2 (d7 f6 (pv 5) d5 (fun _ _=>rfl)) (m6 (b0 i8 (b0 i8 b7))) (by with_unfolding_all rfl))
 (d6 (m8 (v9 aB0 aR2 PySem.F.type_list_remove a5I (pv 3) (b0 (d7 f6 (pv 5) d5 (fun _ _=>rfl)) b7))))
 j4)))
 j4))))))
 (d6 (i4 (pv 2)))))),?_⟩
 have lx:=hD.len
 have la:=F.len
 have ly:=p6 pa
 refine⟨(l8 0),fun S hS=>⟨(l8 0),fun U hU=>?_⟩⟩
 have s1:=b8 (o:=.lst []) hS
 have s2:=b8 (o:=.lst []) hU
 have nSU:S≠U:=g6 b6 hU
 have w0:AC rl S U (fun _=>0) H (upd (upd H S (.lst [])) U (.lst [])) (f 0) (O3 f ds as 0):=by
  rw[F.zero]
  exact⟨s1.trans s2,by rw[c9 nSU];exact b6,b6,fun n a b=>by have b:n<0:=b;omega,fun n m a b=>by have b:n<0:=b;omega,fun n a b=>by have b:n<0:=b;omega,nSU,hS,j7 s1 hU⟩
 generalize upd (upd H S (.lst [])) U (.lst [])=HZ at w0 ⊢
 refine⟨_,rfl,A,xs,rfl,.inl (d8.of (w0.sm _ _ hA)),_,rfl,by omega,by omega,?_⟩
 have en:(((xs.length:Nat):Int)).toNat=ds.length:=by omega
 rw[en]
 refine N4 (fun i σ' Hc=>∃(o4 o5:Option V) (sa:Int→Addr),σ'=[some (.ref A),some (.ref Tl),some (.ref S),some (.ref U),o4,o5]∧AC rl S U sa H Hc (f i) (O3 f ds as i)) ⟨none,none,_,rfl,w0⟩ (fun i σ' Hc hi z=>?_) (fun σ' Hc z=>?_)
 ·obtain⟨o4,o5,sa,rfl,h⟩:=z
  have hxi:=List.getElem?_eq_getElem (show i<xs.length by omega)
  have hyi:=List.getElem?_eq_getElem (show i<ys.length by omega)
  obtain⟨d,hd,b,eb,hb⟩:=C2 hD hxi
  obtain⟨an,han,hy⟩:=C2 pa hyi
  have St:=F.step i d an hd han
  have ok:=F.oks i (by omega)
  have bd:=F.bds i (by omega)
  have e0:(0:Int)+(i:Int)=((i:Nat):Int):=by omega
  have ax:F7 xs ((0:Int)+(i:Int))=some (.ref b):=by rw[e0,←eb];exact j0 hxi
  generalize ys[i]=y at hyi hy
  have ay:F7 ys ((0:Int)+(i:Int))=some y:=by rw[e0];exact j0 hyi
  have nd:(u9 (f i)).Nodup:=(aD4.mp ok.un).2.1
  have bb:=a2v F i (by omega)
  have bun:(u9 (f i)).length≤i:=by have:=bd.un;unfold u9;rw[aA0];exact this
  have ea:O3 f ds as (i+1)=W8 (O3 f ds as i) d an (u9 (f i)):=by
   show(match ds[i]?,as[i]? with | some d,some a=>W8 (O3 f ds as i) d a (u9 (f i)) | _,_=>O3 f ds as i)=_
   rw[hd,han]
  obtain⟨us,ub⟩:=b4t St
  rw[ea]
  refine⟨_,rfl,_,rfl,A,_,_,_,rfl,rfl,d8.of (h.sm _ _ hA),ax,?_⟩
  have TB:∀Hx,f7 H Hx→i3 K Hx b (dv d):=fun Hx sx=>i3.of (sx _ _ hb)
  rcases b2l d with rfl | rfl | ⟨w,n,ws,ed,hn,nb,nw⟩
  ·have hbc:=TB _ h.sm
   have lb:((nat (f i).begun).map fun n=>V.ref (sa n)).length=(f i).begun:=by rw[aA0,a3r]
   refine⟨_,rfl,b,_,0,_,rfl,rfl,hbc,rfl,rfl,_,rfl,m9 ?_⟩
   refine⟨_,rfl,.inl ⟨rfl,_,d8.of h.hu⟩,_,rfl,S,_,rfl,.inl (d8.of h.hs),U,_,_,rfl,rfl,h.hu,r9 (by rw[aA0];omega),?_⟩
   rw[lb]
   have s3:(upd Hc U (.lst ((u9 (f i)).map V.int++[.int ((f i).begun:Int)]))) S=_:=(c9 h.nu).trans h.hs
   refine⟨_,rfl,.inl ⟨rfl,_,d8.of s3⟩,(l8 0),fun e he=>?_⟩
   have nHe:Hc e=none:=v3 he
   have s5:=b8 (o:=.lst []) he
   have kU:u5 Hc (upd Hc U (.lst ((u9 (f i)).map V.int++[.int ((f i).begun:Int)]))):=n4 h.hu
   have neU:e≠U:=fun z=>by rw[z,b6]at he;cases he
   have neS:e≠S:=fun z=>by rw[z,h.hs]at nHe;cases nHe
   have kS:u5 (upd (upd Hc U (.lst ((u9 (f i)).map V.int++[.int ((f i).begun:Int)]))) e (.lst [])) (upd (upd (upd Hc U (.lst ((u9 (f i)).map V.int++[.int ((f i).begun:Int)]))) e (.lst [])) S (.lst (((nat (f i).begun).map fun n=>V.ref (sa n))++[.ref e]))):=n4 (s5 _ _ s3)
   have k3:=(kU.trans s5.tupK).trans kS
   refine⟨S,_,_,rfl,rfl,s5 _ _ s3,r9 (by rw[lb];omega),_,_,fun n=>if n=((f i).begun:Int) then e else sa n,rfl,?_⟩
   rw[Y4 (fun n z=>by cases z)]
   have ub:(f (i+1)).begun=(f i).begun+1:=ub
   have old:∀n:Int,n<((f i).begun:Int)→(if n=((f i).begun:Int) then e else sa n)=sa n:=fun n hn=>aA8 (by omega)
   have lt:∀n:Int,n<((f (i+1)).begun:Int)→n≠((f i).begun:Int)→n<((f i).begun:Int):=fun n h1 h2=>by rw[ub]at h1;omega
   have keep:∀c o,c≠U→c≠S→Hc c=some o→(upd (upd (upd Hc U (.lst ((u9 (f i)).map V.int++[.int ((f i).begun:Int)]))) e (.lst [])) S (.lst (((nat (f i).begun).map fun n=>V.ref (sa n))++[.ref e]))) c=some o:=fun c o c1 c2 z=>by
    rw[c9 c2];exact s5 _ _ ((c9 c1).trans z)
   have ne:∀n:Int,0≤n→n<((f i).begun:Int)→sa n≠e:=fun n h1 h2 z=>by
    obtain⟨zs,z1,_⟩:=h.ls n h1 h2
    rw[z,nHe]at z1;cases z1
   have hn0:H e=none:=j7 h.sm nHe
   refine⟨fun c o z=>keep c o (fun w=>by rw[w,h.z2]at z;cases z) (fun w=>by rw[w,h.z1]at z;cases z) (h.sm _ _ z),?_,?_,fun n h1 h2=>?_,fun n m h1 h2 h3 h4 z=>?_,fun n h1 h2=>?_,h.nu,h.z1,h.z2⟩
   ·rw[b6,ub,a6y,aB5,aK3,aB4 rfl]
    congr 2
    congr 1
    refine aE5 fun n hn=>?_
    rw[old n (a3s.mp hn).2]
   ·rw[c9 (Ne.symm h.nu),s5 _ _ (b6),us]
    show some (HO.lst _)=some (HO.lst ((u9 (f i)++[((f i).begun:Int)]).map V.int))
    rw[aB5];rfl
   ·by_cases c:n=((f i).begun:Int)
    ·rw[aB4 c]
     refine⟨[],by rw[c9 neS];exact b6,?_⟩
     obtain⟨ams,sr⟩:=a1r F i (by omega)
     rw[sr.new n (by omega)]
     exact .nil
    ·have l2:=lt n h2 c
     rw[aA8 c]
     obtain⟨zs,z1,z2⟩:=h.ls n h1 l2
     obtain⟨c1,c2,_⟩:=h.ns n h1 l2
     exact⟨zs,keep _ _ c2 c1 z1,Paired.mapP z2 fun _ _ z=>z.tupK k3⟩
   ·by_cases c:n=((f i).begun:Int)
    ·by_cases c':m=((f i).begun:Int)
     ·rw[c,c']
     ·rw[aB4 c,aA8 c']at z
      exact absurd z.symm (ne m h3 (lt m h4 c'))
    ·by_cases c':m=((f i).begun:Int)
     ·rw[aA8 c,aB4 c']at z
      exact absurd z (ne n h1 (lt n h2 c))
     ·rw[aA8 c,aA8 c']at z
      exact h.inj n m h1 (lt n h2 c) h3 (lt m h4 c') z
   ·by_cases c:n=((f i).begun:Int)
    ·rw[aB4 c];exact⟨neS,neU,hn0⟩
    ·rw[aA8 c];exact h.ns n h1 (lt n h2 c)
  ·have hbc:=TB _ h.sm
   rw[Y4 (fun n z=>by cases z)]
   exact⟨_,rfl,b,_,0,_,rfl,rfl,hbc,rfl,rfl,_,rfl,e9 ⟨_,rfl,b,_,0,_,rfl,rfl,hbc,rfl,rfl,_,rfl,e9 (e9 ⟨_,_,sa,rfl,h.cong ub us⟩)⟩⟩
  have hbc:=TB _ h.sm
  have hb0:=hb
  rw[ed]at hbc
  refine⟨_,rfl,b,_,0,.str w,rfl,rfl,hbc,j0 (j:=0) rfl,rfl,_,rfl,?_⟩
  rw[aB2 fun z=>nb (V.str.inj z)]
  refine e9 ⟨_,rfl,b,_,0,.str w,rfl,rfl,hbc,j0 (j:=0) rfl,rfl,_,rfl,?_⟩
  rw[aB2 fun z=>nw (V.str.inj z)]
  refine m9 ⟨_,rfl,b,_,1,.int n,rfl,rfl,hbc,j0 (j:=1) rfl,_,rfl,U,_,rfl,.inl (d8.of h.hu),rfl,b5k _,_,rfl,?_⟩
  rw[b7w]
  by_cases hin:n∈u9 (f i)
  case neg=>
   rw[aB2 hin,b4e St hn hin,Y4 (fun m z=>by rw[hn]at z;rw[←aC0 z];exact hin)]
   exact e9 ⟨_,_,sa,rfl,h⟩
  rw[aC4 hin]
  obtain⟨m0,m1⟩:0≤n∧n<((f i).begun:Int):=ok.lt _ (aE2 _ hin)
  obtain⟨zs,hz,pz⟩:=h.ls n m0 m1
  have lz:=p6 pz
  have lac:=a8y (f:=f) (ds:=ds) (as:=as) i n
  refine m9 ⟨_,rfl,_,rfl,b,_,1,.int n,rfl,rfl,hbc,j0 (j:=1) rfl,S,_,_,_,rfl,rfl,d8.of h.hs,b4f m0 m1,.inl ⟨rfl,_,d8.of hz⟩,_,rfl,_,rfl,_,rfl,Tl,_,_,_,rfl,rfl,d8.of (h.sm _ _ hT),ay,(l8 2),fun p hp=>?_⟩
  have s5:=b8 (o:=.tup [.ref b,y]) hp
  have h5:=h.new s5
  have hz5:=s5 _ _ hz
  have h6:=h5.add (d:=d) (a:=an) m0 m1 hz5 ⟨p,b,y,rfl,b6,hb,hy⟩ hn hin
  refine⟨sa n,_,_,rfl,rfl,hz5,r9 (by omega),?_⟩
  generalize upd (upd Hc p (.tup [.ref b,y])) (sa n) (.lst (zs++[.ref p]))=H6 at h6 ⊢
  have word:=fun(e:Addr) (Hx:Hp)=>d8.of (K:=K) (b6 (H:=Hx) (a:=e) (o:=.lst [V.str "end",V.str "leave"]))
  have stay:u9 (f (i+1))=u9 (f i)→(f (i+1)).begun=(f i).begun→∀e,H6 e=none→∃(o4 o5:Option V) (sa':Int→Addr),[some (V.ref A),some (.ref Tl),some (.ref S),some (.ref U),some (.int (0+(i:Int))),some (.ref b)]=[some (.ref A),some (.ref Tl),some (.ref S),some (.ref U),o4,o5]∧AC rl S U sa' H (upd H6 e (.lst [V.str "end",V.str "leave"])) (f (i+1)) (W8 (O3 f ds as i) d an (u9 (f i))):=fun e1 e2 e he=>⟨_,_,sa,rfl,(h6.new (b8 he)).cong e2 e1⟩
  have leav:u9 (f (i+1))=((u9 (f i)).filter fun k=>decide (k≠n))→∃j,(u9 (f i))[j]?=some n∧(∀k,k<j→(u9 (f i))[k]?≠some n)∧(u9 (f i)).eraseIdx j=u9 (f (i+1)):=fun e=>by
   obtain⟨j,h1,h2⟩:=a0j hin
   exact⟨j,h1,h2,by rw[erase_filter nd h1,e]⟩
  have T6:=TB _ h6.sm
  cases d with
  | begin=>cases hn
  | sweep=>cases hn
  | look k g=>exact⟨_,rfl,b,_,0,_,rfl,rfl,T6,rfl,(l8 2),fun e he=>⟨e,_,rfl,.inl (word e _),rfl,rfl,_,rfl,e9 (stay us ub e he)⟩⟩
  | put k g x=>exact⟨_,rfl,b,_,0,_,rfl,rfl,T6,rfl,(l8 2),fun e he=>⟨e,_,rfl,.inl (word e _),rfl,rfl,_,rfl,e9 (stay us ub e he)⟩⟩
  | fin k=>
   cases hn
   obtain⟨j,j1,j2,j3⟩:=leav us
   exact⟨_,rfl,b,_,0,_,rfl,rfl,T6,rfl,(l8 2),fun e he=>⟨e,_,rfl,.inl (word e _),rfl,rfl,_,rfl,m9 ⟨_,rfl,.inl ⟨rfl,_,d8.of (h6.new (b8 he)).hu⟩,_,rfl,b,_,1,_,rfl,rfl,TB _ (h6.new (b8 he)).sm,rfl,U,_,_,j,rfl,rfl,(h6.new (b8 he)).hu,j1,j2,_,_,sa,rfl,by rw[j3];exact(h6.new (b8 he)).setU ub⟩⟩⟩
  | leave k=>
   cases hn
   obtain⟨j,j1,j2,j3⟩:=leav us
   exact⟨_,rfl,b,_,0,_,rfl,rfl,T6,rfl,(l8 2),fun e he=>⟨e,_,rfl,.inl (word e _),rfl,rfl,_,rfl,m9 ⟨_,rfl,.inl ⟨rfl,_,d8.of (h6.new (b8 he)).hu⟩,_,rfl,b,_,1,_,rfl,rfl,TB _ (h6.new (b8 he)).sm,rfl,U,_,_,j,rfl,rfl,(h6.new (b8 he)).hu,j1,j2,_,_,sa,rfl,by rw[j3];exact(h6.new (b8 he)).setU ub⟩⟩⟩
 ·obtain⟨o4,o5,sa,rfl,h⟩:=z
  refine⟨_,rfl,q S sa Hc h.sm h.hs fun n h1 h2=>?_⟩
  obtain⟨zs,z1,z2⟩:=h.ls n h1 h2
  exact⟨zs,z1,z2,by rw[p6 z2];exact aD7 (a8y _ _) lds⟩
inductive a4q(K:PySem.W.Frag)(vs:List V)(H:Hp)(Q:VK):Prop
 | mk (n:Int) (x0:vs=[.int n]) (xq:∀(r:Addr) (xs:List V) (ds:List i9) (H':Hp),f7 H H'→H r=none→H' r=some (.lst xs)→u4 H' ds xs→ds.length≤14→(∀d∈ds,O2 d)→Q (.ref r) H')
def a6t(K:PySem.W.Frag):Sp:=fun vs H Q _=>a4q K vs H Q
theorem a3t(T:B6 K mg t):g9 P w K mg base A3 1 t.f__law_in_a_ring t.d__law_in_a_ring ["_law_seed"] (a6t K):=by
 refine T.F__law_in_a_ring.ok C6 (fun vs H Q E h=>?_) (fun cdv A outer s H vs Q E hr h=>?_)
 ·obtain⟨n,rfl,_⟩:=h
  rfl
 obtain⟨n,rfl,q⟩:=h
 refine⟨_,(b9 (g8 (i:=1) C6.nd rfl (Or.inl rfl) (d7 l5 (m6 (b0 (m6 (b0 i8 (b0 i8 (b0 i8 b7)))) (b0 (m6 (b0 i8 (b0 i8 (b0 i8 b7)))) (b0 (m6 (b0 i8 (b0 i8 (b0 i8 b7)))) b7)))) (j5 G6 (pv 0) d5) (fun _ _=>rfl)))
 (b9 (g8 (i:=2) C6.nd rfl (Or.inl rfl) (d7 l5 (pv 1) d5 (fun _ _=>rfl)))
 (b9 (g8 (i:=3) C6.nd rfl (Or.inl rfl) (d7 l5 (pv 1) d5 (fun _ _=>rfl)))
 (b9 (g8 (i:=4) C6.nd rfl (Or.inl rfl) (m6 (b0 (q5 (b0 i8 b7)) (b0 (q5 (b0 i8 b7)) (b0 (q5 (b0 i8 (b0 d5 (b0 (pv 3) b7)))) (b0 (q5 (b0 i8 (b0 d5 (b0 (pv 2) b7)))) (b0 (q5 (b0 i8 (b0 d5 (b0 (pv 2) (b0 d5 b7))))) b7)))))))
 (b9 (g8 (i:=4) C6.nd rfl (Or.inl rfl) (j5 Q9 (pv 4) (m6 (b0 (q5 (b0 i8 (b0 d5 (b0 (pv 3) b7)))) (b0 (q5 (b0 i8 (b0 d5 (b0 (pv 3) (b0 d5 b7))))) (b0 (q5 (b0 i8 (b0 d5 b7))) (b0 (q5 (b0 i8 b7)) b7)))))))
 (b9 (g8 (i:=4) C6.nd rfl (Or.inl rfl) (j5 Q9 (pv 4) (m6 (b0 (q5 (b0 i8 (b0 d5 (b0 (pv 2) b7)))) (b0 (q5 (b0 i8 (b0 d5 (b0 (pv 3) b7)))) b7)))))
 (b9 (P6 (l4 (g7 A9 (j5 G6 (j5 a4c (pv 0) d5) d5) d5 (i7 _))
 (d6 (m8 (v9 aB0 aB6 aB8 n6 (pv 4) (b0 (q5 (b0 i8 (b0 d5 (b0 (d7 l5 (pv 1) d5 (fun _ _=>rfl)) (b0 d5 b7))))) b7))))
 j4))
 (d6 (i4 (j5 Q9 (pv 4) (m6 (b0 (q5 (b0 i8 (b0 d5 b7))) (b0 (q5 (b0 i8 (b0 d5 b7))) b7))))))))))))),?_⟩
 refine⟨(l8 3),fun c1 h1=>⟨(l8 3),fun c2 h2=>⟨(l8 3),fun c3 h3=>⟨(l8 3),fun c4 h4=>?_⟩⟩⟩⟩
 have s1:=b8 (o:=.lst [.str "a",.str "",.str "a b~"]) h1
 have s2:=b8 (o:=.lst [.str "",.str "a b~",.str "a"]) h2
 have s3:=b8 (o:=.lst [.str "a b~",.str "a",.str ""]) h3
 have s4:=b8 (o:=.lst [.ref c1,.ref c2,.ref c3]) h4
 have k1:=s4 _ _ (s3 _ _ (s2 _ _ (b6 (H:=H) (a:=c1) (o:=.lst [.str "a",.str "",.str "a b~"]))))
 have k2:=s4 _ _ (s3 _ _ (b6 (H:=upd H c1 (.lst [.str "a",.str "",.str "a b~"])) (a:=c2) (o:=.lst [.str "",.str "a b~",.str "a"])))
 have k3:=s4 _ _ (b6 (H:=upd (upd H c1 (.lst [.str "a",.str "",.str "a b~"])) c2 (.lst [.str "",.str "a b~",.str "a"])) (a:=c3) (o:=.lst [.str "a b~",.str "a",.str ""]))
 have k4:=b6 (H:=upd (upd (upd H c1 (.lst [.str "a",.str "",.str "a b~"])) c2 (.lst [.str "",.str "a b~",.str "a"])) c3 (.lst [.str "a b~",.str "a",.str ""])) (a:=c4) (o:=.lst [.ref c1,.ref c2,.ref c3])
 have S0:=((s1.trans s2).trans s3).trans s4
 generalize upd (upd (upd (upd H c1 (.lst [.str "a",.str "",.str "a b~"])) c2 (.lst [.str "",.str "a b~",.str "a"])) c3 (.lst [.str "a b~",.str "a",.str ""])) c4 (.lst [.ref c1,.ref c2,.ref c3])=H0 at k1 k2 k3 k4 S0 ⊢
 clear s1 s2 s3 s4 h1 h2 h3 h4
 have pick:∃(c:Addr) (g0 g1 g2:Str),F7 [V.ref c1,V.ref c2,V.ref c3] (n % 3)=some (.ref c)∧H0 c=some (.lst [.str g0,.str g1,.str g2])∧M6 g0∧M6 g1∧M6 g2:=by
  have wa:M6 "a":=⟨by decide +kernel,by decide⟩
  have we:M6 "":=⟨by decide +kernel,by decide⟩
  have wb:M6 "a b~":=⟨by decide +kernel,by decide⟩
  have e:n % 3=((0:Nat):Int)∨n % 3=((1:Nat):Int)∨n % 3=((2:Nat):Int):=by omega
  rcases e with e | e | e
  ·rw[e];exact⟨_,_,_,_,j0 rfl,k1,wa,we,wb⟩
  ·rw[e];exact⟨_,_,_,_,j0 rfl,k2,we,wb,wa⟩
  ·rw[e];exact⟨_,_,_,_,j0 rfl,k3,wb,wa,we⟩
 obtain⟨c,g0,g1,g2,hix,hc,w0,w1,w2⟩:=pick
 clear k1 k2 k3
 refine⟨_,rfl,_,_,rfl,rfl,(by show(0:Int)<3;decide),c4,_,_,_,rfl,rfl,d8.of k4,hix,?_⟩
 refine⟨_,rfl,c,_,0,_,rfl,rfl,d8.of hc,rfl,?_⟩
 refine⟨_,rfl,c,_,1,_,rfl,rfl,d8.of hc,rfl,?_⟩
 have D0:u4 H0 [] []:=.nil
 refine⟨(l8 1),fun p1 hp1=>?_⟩
 have t1:=b8 (o:=.tup [.str "begin"]) hp1
 have D1:=u4.snoc (d:=.begin) ⟨p1,rfl,b6 (o:=.tup [.str "begin"])⟩ (D0.tupK t1.tupK)
 have S1:=S0.trans t1
 have hc:=t1 _ _ hc
 generalize upd H0 p1 (.tup [.str "begin"])=H1 at t1 D1 S1 hc ⊢
 clear t1 hp1
 refine⟨(l8 1),fun p2 hp2=>?_⟩
 have t2:=b8 (o:=.tup [.str "begin"]) hp2
 have D2:=u4.snoc (d:=.begin) ⟨p2,rfl,b6 (o:=.tup [.str "begin"])⟩ (D1.tupK t2.tupK)
 have S2:=S1.trans t2
 have hc:=t2 _ _ hc
 generalize upd H1 p2 (.tup [.str "begin"])=H2 at t2 D2 S2 hc ⊢
 clear t2 hp2
 refine⟨_,rfl,(l8 3),fun p3 hp3=>?_⟩
 have t3:=b8 (o:=.tup [.str "look",.int 0,.str g1]) hp3
 have D3:=u4.snoc (d:=.look 0 g1) ⟨p3,rfl,b6 (o:=.tup [.str "look",.int 0,.str g1])⟩ (D2.tupK t3.tupK)
 have S3:=S2.trans t3
 have hc:=t3 _ _ hc
 generalize upd H2 p3 (.tup [.str "look",.int 0,.str g1])=H3 at t3 D3 S3 hc ⊢
 clear t3 hp3
 refine⟨_,rfl,(l8 3),fun p4 hp4=>?_⟩
 have t4:=b8 (o:=.tup [.str "look",.int 0,.str g0]) hp4
 have D4:=u4.snoc (d:=.look 0 g0) ⟨p4,rfl,b6 (o:=.tup [.str "look",.int 0,.str g0])⟩ (D3.tupK t4.tupK)
 have S4:=S3.trans t4
 have hc:=t4 _ _ hc
 generalize upd H3 p4 (.tup [.str "look",.int 0,.str g0])=H4 at t4 D4 S4 hc ⊢
 clear t4 hp4
 refine⟨_,rfl,(l8 4),fun p5 hp5=>?_⟩
 have t5:=b8 (o:=.tup [.str "put",.int 0,.str g0,.int 1]) hp5
 have D5:=u4.snoc (d:=.put 0 g0 1) ⟨p5,rfl,b6 (o:=.tup [.str "put",.int 0,.str g0,.int 1])⟩ (D4.tupK t5.tupK)
 have S5:=S4.trans t5
 have hc:=t5 _ _ hc
 generalize upd H4 p5 (.tup [.str "put",.int 0,.str g0,.int 1])=H5 at t5 D5 S5 hc ⊢
 clear t5 hp5
 refine⟨(l8 5),fun m1 hm1=>?_⟩
 have t6:=b8 (o:=.lst [.ref p1,.ref p2,.ref p3,.ref p4,.ref p5]) hm1
 have hLm1:(upd H5 m1 (.lst [.ref p1,.ref p2,.ref p3,.ref p4,.ref p5])) m1=_:=b6
 have nm1:=j7 S5 hm1
 have D6:=D5.tupK t6.tupK
 have S6:=S5.trans t6
 have hc:=t6 _ _ hc
 generalize upd H5 m1 (.lst [.ref p1,.ref p2,.ref p3,.ref p4,.ref p5])=H6 at t6 D6 S6 hLm1 hc ⊢
 clear t6 hm1
 refine⟨_,rfl,?_⟩
 refine⟨_,rfl,(l8 3),fun p7 hp7=>?_⟩
 have t7:=b8 (o:=.tup [.str "look",.int 1,.str g1]) hp7
 have D7:=u4.snoc (d:=.look 1 g1) ⟨p7,rfl,b6 (o:=.tup [.str "look",.int 1,.str g1])⟩ (D6.tupK t7.tupK)
 have S7:=S6.trans t7
 have hc:=t7 _ _ hc
 have hLm1:=t7 _ _ hLm1
 generalize upd H6 p7 (.tup [.str "look",.int 1,.str g1])=H7 at t7 D7 S7 hc hLm1 ⊢
 clear t7 hp7
 refine⟨_,rfl,(l8 4),fun p8 hp8=>?_⟩
 have t8:=b8 (o:=.tup [.str "put",.int 1,.str g1,.int 2]) hp8
 have D8:=u4.snoc (d:=.put 1 g1 2) ⟨p8,rfl,b6 (o:=.tup [.str "put",.int 1,.str g1,.int 2])⟩ (D7.tupK t8.tupK)
 have S8:=S7.trans t8
 have hc:=t8 _ _ hc
 have hLm1:=t8 _ _ hLm1
 generalize upd H7 p8 (.tup [.str "put",.int 1,.str g1,.int 2])=H8 at t8 D8 S8 hc hLm1 ⊢
 clear t8 hp8
 refine⟨(l8 2),fun p9 hp9=>?_⟩
 have t9:=b8 (o:=.tup [.str "end",.int 1]) hp9
 have D9:=u4.snoc (d:=.fin 1) ⟨p9,rfl,b6 (o:=.tup [.str "end",.int 1])⟩ (D8.tupK t9.tupK)
 have S9:=S8.trans t9
 have hc:=t9 _ _ hc
 have hLm1:=t9 _ _ hLm1
 generalize upd H8 p9 (.tup [.str "end",.int 1])=H9 at t9 D9 S9 hc hLm1 ⊢
 clear t9 hp9
 refine⟨(l8 1),fun p10 hp10=>?_⟩
 have t10:=b8 (o:=.tup [.str "begin"]) hp10
 have D10:=u4.snoc (d:=.begin) ⟨p10,rfl,b6 (o:=.tup [.str "begin"])⟩ (D9.tupK t10.tupK)
 have S10:=S9.trans t10
 have hc:=t10 _ _ hc
 have hLm1:=t10 _ _ hLm1
 generalize upd H9 p10 (.tup [.str "begin"])=H10 at t10 D10 S10 hc hLm1 ⊢
 clear t10 hp10
 refine⟨(l8 4),fun m2 hm2=>?_⟩
 have t11:=b8 (o:=.lst [.ref p7,.ref p8,.ref p9,.ref p10]) hm2
 have hLm2:(upd H10 m2 (.lst [.ref p7,.ref p8,.ref p9,.ref p10])) m2=_:=b6
 have nm2:=j7 S10 hm2
 have D11:=D10.tupK t11.tupK
 have S11:=S10.trans t11
 have hc:=t11 _ _ hc
 have hLm1:=t11 _ _ hLm1
 generalize upd H10 m2 (.lst [.ref p7,.ref p8,.ref p9,.ref p10])=H11 at t11 D11 S11 hLm2 hc hLm1 ⊢
 clear t11 hm2
 refine⟨_,_,_,_,rfl,rfl,hLm1,hLm2,(l8 9),fun m3 hm3=>?_⟩
 have t12:=b8 (o:=.lst ([.ref p1,.ref p2,.ref p3,.ref p4,.ref p5]++[.ref p7,.ref p8,.ref p9,.ref p10])) hm3
 have hLm3:(upd H11 m3 (.lst ([.ref p1,.ref p2,.ref p3,.ref p4,.ref p5]++[.ref p7,.ref p8,.ref p9,.ref p10]))) m3=some (.lst [.ref p1,.ref p2,.ref p3,.ref p4,.ref p5,.ref p7,.ref p8,.ref p9,.ref p10]):=b6
 have nm3:=j7 S11 hm3
 have D12:=D11.tupK t12.tupK
 have S12:=S11.trans t12
 have hc:=t12 _ _ hc
 generalize upd H11 m3 (.lst ([.ref p1,.ref p2,.ref p3,.ref p4,.ref p5]++[.ref p7,.ref p8,.ref p9,.ref p10]))=H12 at t12 D12 S12 hLm3 hc ⊢
 clear t12 hm3
 refine⟨_,rfl,?_⟩
 refine⟨_,rfl,(l8 3),fun p13 hp13=>?_⟩
 have t13:=b8 (o:=.tup [.str "look",.int 2,.str g0]) hp13
 have D13:=u4.snoc (d:=.look 2 g0) ⟨p13,rfl,b6 (o:=.tup [.str "look",.int 2,.str g0])⟩ (D12.tupK t13.tupK)
 have S13:=S12.trans t13
 have hc:=t13 _ _ hc
 have hLm3:=t13 _ _ hLm3
 generalize upd H12 p13 (.tup [.str "look",.int 2,.str g0])=H13 at t13 D13 S13 hc hLm3 ⊢
 clear t13 hp13
 refine⟨_,rfl,(l8 3),fun p14 hp14=>?_⟩
 have t14:=b8 (o:=.tup [.str "look",.int 2,.str g1]) hp14
 have D14:=u4.snoc (d:=.look 2 g1) ⟨p14,rfl,b6 (o:=.tup [.str "look",.int 2,.str g1])⟩ (D13.tupK t14.tupK)
 have S14:=S13.trans t14
 have hc:=t14 _ _ hc
 have hLm3:=t14 _ _ hLm3
 generalize upd H13 p14 (.tup [.str "look",.int 2,.str g1])=H14 at t14 D14 S14 hc hLm3 ⊢
 clear t14 hp14
 refine⟨(l8 2),fun m4 hm4=>?_⟩
 have t15:=b8 (o:=.lst [.ref p13,.ref p14]) hm4
 have hLm4:(upd H14 m4 (.lst [.ref p13,.ref p14])) m4=_:=b6
 have nm4:=j7 S14 hm4
 have D15:=D14.tupK t15.tupK
 have S15:=S14.trans t15
 have hc:=t15 _ _ hc
 have hLm3:=t15 _ _ hLm3
 generalize upd H14 m4 (.lst [.ref p13,.ref p14])=H15 at t15 D15 S15 hLm4 hc hLm3 ⊢
 clear t15 hm4
 refine⟨_,_,_,_,rfl,rfl,hLm3,hLm4,(l8 11),fun m5 hm5=>?_⟩
 have t16:=b8 (o:=.lst ([.ref p1,.ref p2,.ref p3,.ref p4,.ref p5,.ref p7,.ref p8,.ref p9,.ref p10]++[.ref p13,.ref p14])) hm5
 have hLm5:(upd H15 m5 (.lst ([.ref p1,.ref p2,.ref p3,.ref p4,.ref p5,.ref p7,.ref p8,.ref p9,.ref p10]++[.ref p13,.ref p14]))) m5=some (.lst [.ref p1,.ref p2,.ref p3,.ref p4,.ref p5,.ref p7,.ref p8,.ref p9,.ref p10,.ref p13,.ref p14]):=b6
 have nm5:=j7 S15 hm5
 have D16:=D15.tupK t16.tupK
 have S16:=S15.trans t16
 have hc:=t16 _ _ hc
 generalize upd H15 m5 (.lst ([.ref p1,.ref p2,.ref p3,.ref p4,.ref p5,.ref p7,.ref p8,.ref p9,.ref p10]++[.ref p13,.ref p14]))=H16 at t16 D16 S16 hLm5 hc ⊢
 clear t16 hm5
 have D:u4 H16 [.begin,.begin,.look 0 g1,.look 0 g0,.put 0 g0 1,.look 1 g1,.put 1 g1 2,.fin 1,.begin,.look 2 g0,.look 2 g1] [.ref p1,.ref p2,.ref p3,.ref p4,.ref p5,.ref p7,.ref p8,.ref p9,.ref p10,.ref p13,.ref p14]:=D16
 have ok:∀d∈([.begin,.begin,.look 0 g1,.look 0 g0,.put 0 g0 1,.look 1 g1,.put 1 g1 2,.fin 1,.begin,.look 2 g0,.look 2 g1]:List i9),O2 d:=fun d hd=>by
  simp only[aB7,aF7,aL4]at hd
  rcases hd with rfl | rfl | rfl | rfl | rfl | rfl | rfl | rfl | rfl | rfl | rfl<;>first | trivial | exact w0 | exact w1
 generalize hds:([.begin,.begin,.look 0 g1,.look 0 g0,.put 0 g0 1,.look 1 g1,.put 1 g1 2,.fin 1,.begin,.look 2 g0,.look 2 g1]:List i9)=ds at D ok
 generalize [V.ref p1,V.ref p2,V.ref p3,V.ref p4,V.ref p5,V.ref p7,V.ref p8,V.ref p9,V.ref p10,V.ref p13,V.ref p14]=xs at D hLm5
 have lds:ds.length=11:=by rw[←hds];rfl
 have lxs:xs.length=11:=by rw[D.len,lds]
 clear hds hLm1 hLm2 hLm3 hLm4
 refine⟨fun σ' H'=>∃xs ds,σ'=[some (.int n),some (.ref c),some (.str g0),some (.str g1),some (.ref m5)]∧f7 H H'∧H' m5=some (.lst xs)∧u4 H' ds xs∧ds.length≤12∧∀d∈ds,O2 d,?_,fun σ' H' hM=>?_⟩
 ·refine⟨_,rfl,_,_,rfl,rfl,⟨by decide,by decide⟩,_,_,rfl,rfl,(by show(0:Int)<2;decide),rfl,_,rfl,K3 (fun _=>?_) (fun _=>?_)⟩
  ·refine⟨_,rfl,.inl ⟨rfl,_,d8.of hLm5⟩,_,rfl,c,_,2,_,rfl,rfl,d8.of hc,rfl,(l8 4),fun p hp=>?_⟩
   have t:=b8 (o:=.tup [.str "put",.int 2,.str g2,.int 3]) hp
   have hL:=t _ _ hLm5
   refine⟨m5,_,_,rfl,rfl,hL,r9 (by omega),_,ds++[.put 2 g2 3],rfl,l7 (S16.trans t) nm5,b6,u4.snoc ⟨p,rfl,?_⟩ ((D.tupK t.tupK).tupK (n4 hL)),by rw[aA4,lds];exact aB3 _,fun d hd=>?_⟩
   ·exact(n4 hL).1 _ _ b6
   ·rcases aA9.mp hd with hd | hd
    ·exact ok d hd
    ·rw[aA3.mp hd];exact w2
  ·exact⟨_,_,rfl,S16,hLm5,D,by omega,ok⟩
 obtain⟨xs,ds,rfl,sm,hL,D,ld,ok⟩:=hM
 refine⟨_,rfl,(l8 2),fun pA hpA=>⟨(l8 2),fun pB hpB=>⟨(l8 2),fun lC hlC=>?_⟩⟩⟩
 have t1:=b8 (o:=.tup [.str "end",.int 0]) hpA
 have t2:=b8 (o:=.tup [.str "end",.int 2]) hpB
 have t3:=b8 (o:=.lst [.ref pA,.ref pB]) hlC
 refine⟨_,_,_,_,rfl,rfl,t3 _ _ (t2 _ _ (t1 _ _ hL)),b6,aK8 (Q5 (by rw[D.len,aE4,aE6];omega)),fun r hr'=>?_⟩
 have t4:=b8 (o:=.lst (xs++[.ref pA,.ref pB])) hr'
 have sA:=(t1.trans t2).trans t3
 refine q r _ (ds++[.fin 0]++[.fin 2]) _ ((sm.trans sA).trans t4) (j7 (sm.trans sA) hr') b6 ?_ ?_ fun d hd=>?_
 ·have e1:=u4.snoc (d:=.fin 0) ⟨pA,rfl,t4 _ _ (t3 _ _ (t2 _ _ b6))⟩ ((D.tupK sA.tupK).tupK t4.tupK)
  have e2:=u4.snoc (d:=.fin 2) ⟨pB,rfl,t4 _ _ (t3 _ _ b6)⟩ e1
  rw[aG0 xs]at e2;exact e2
 ·simp only[aA4,aE6];omega
 ·rcases aA9.mp hd with hd | hd
  ·rcases aA9.mp hd with hd | hd
   ·exact ok d hd
   ·rw[aA3.mp hd];trivial
  ·rw[aA3.mp hd];trivial
theorem b6q(d:i9):((d=.begin∨d=.sweep)∧∃w,dv d=[.str w])∨∃(w:Str) (n:Int) (rest:List V),dv d=.str w::.int n::rest∧rest.length≤2∧∀m:Int,∃d',dv d'=.str w::.int m::rest∧(O2 d→O2 d'):=by
 cases d with
 | begin=>exact .inl ⟨.inl rfl,_,rfl⟩
 | sweep=>exact .inl ⟨.inr rfl,_,rfl⟩
 | look n g=>exact .inr ⟨_,n,_,rfl,by simp,fun m=>⟨.look m g,rfl,id⟩⟩
 | put n g a=>exact .inr ⟨_,n,_,rfl,by simp,fun m=>⟨.put m g a,rfl,id⟩⟩
 | fin n=>exact .inr ⟨_,n,_,rfl,by simp,fun m=>⟨.fin m,rfl,id⟩⟩
 | leave n=>exact .inr ⟨_,n,_,rfl,by simp,fun m=>⟨.leave m,rfl,id⟩⟩
inductive a5H(K:PySem.W.Frag)(vs:List V)(H:Hp)(Q:VK):Prop
 | mk (a:Addr) (ns:List Int) (x0:vs=[.ref a]) (x1:d8 K H a (ns.map V.int)) (x2:ns.length≤63) (xq:∀(r:Addr) (xs:List V) (ds:List i9) (H':Hp),f7 H H'→H' r=some (.lst xs)→u4 H' ds xs→ds.length≤63→(∀d∈ds,O2 d)→Q (.ref r) H')
def a5M(K:PySem.W.Frag):Sp:=fun vs H Q _=>a5H K vs H Q
theorem a8M(T:B6 K mg t):g9 P w K mg base A3 3 t.f__law_mixed t.d__law_mixed ["_law_script"] (a5M K):=by
 refine T.F__law_mixed.ok U5 (fun vs H Q E h=>?_) (fun cdv A outer s H vs Q E hr h=>?_)
 ·obtain⟨a,ns,rfl,_⟩:=h
  rfl
 obtain⟨a,ns,rfl,hS,hl,q⟩:=h
 refine⟨_,(b9 (l4 (PW.pt (N9 (g7 A9 (e7 i5 rfl T.m_len aC6 (b0 (pv 0) b7)) d5 (i7 _)) (L1 (g7 N3 (j5 G6 (d7 l5 (pv 0) d5 (fun _ _=>rfl)) d5) d5 (i7 _)))))
 (d6 (i4 (k7 (g9.mono (k:=2) (a9l T) (by decide)) hr rfl T.m__law_deeds T.F__law_deeds.kp T.F__law_deeds.b .nil k8 (b0 (pv 0) b7))))
 j4)
 (b9 (g8 (i:=1) U5.nd rfl (Or.inl rfl) (k7 (g9.mono (k:=2) (a3t T) (by decide)) hr rfl T.m__law_in_a_ring T.F__law_in_a_ring.kp T.F__law_in_a_ring.b .nil k8 (b0 (j5 a4c (d7 l5 (pv 0) d5 (fun _ _=>rfl)) d5) b7)))
 (b9 (y6 aE1 rfl (u6 (k7 (g9.mono (k:=2) (a9l T) (by decide)) hr rfl T.m__law_deeds T.F__law_deeds.kp T.F__law_deeds.b .nil k8 (b0 (N7 R7 (pv 0) P8 (Q2 d5)) b7))) (l6 (i:=2) U5.nd rfl (Or.inl rfl))
 (b9 (P6 (l4 (PW.pt (R6 (g7 a4B (e7 i5 rfl T.m_len aC6 (b0 (pv 2) b7)) d5 (i7 _)) (O9 (g7 b9t (d7 f6 (pv 2) d5 (fun _ _=>rfl)) d5 (i7 _)))))
 (d6 (g8 (i:=2) U5.nd rfl (Or.inl rfl) (j5 a5X (q5 (b0 (d7 f6 (pv 2) d5 (fun _ _=>rfl)) (b0 (j5 K1 (d7 f6 (pv 2) d5 (fun _ _=>rfl)) d5) b7))) (N7 b3z (pv 2) (Q2 d5) P8))))
 j4))
 (d6 (m8 (v9 aB0 aB6 aB8 n6 (pv 1) (b0 (pv 2) b7))))))
 (d6 (i4 (pv 1)))))),?_⟩
 cases ns with
 | nil=>exact⟨_,rfl,a,_,rfl,.inl hS,rfl,_,rfl,m9 ⟨_,rfl,a,[],rfl,hS,aG3 _,fun r xs ds H' s h D l ok _=>q r xs ds H' s h D (by rw[l];exact aG3 _) ok⟩⟩
 | cons n ns=>
 have ln:((n::ns).map V.int).length=ns.length+1:=by rw[aA0,aE4]
 have hl:ns.length+1≤63:=hl
 have at0:F7 ((n::ns).map V.int) 0=some (.int n):=j0 (j:=0) rfl
 refine⟨_,rfl,a,_,rfl,.inl hS,rfl,_,rfl,?_⟩
 rw[aB2 (fun z=>by have z:=V.int.inj z;omega)]
 refine e9 ?_
 refine⟨_,rfl,a,_,0,_,rfl,rfl,hS,at0,_,_,rfl,rfl,(by show(0:Int)<3;decide),rfl,_,rfl,?_⟩
 by_cases c:n % 3=1
 ·refine U8 (congrArg V.int c) ?_
  refine⟨_,rfl,a,_,0,_,rfl,rfl,hS,at0,_,_,rfl,rfl,⟨by decide,by decide⟩,n/3,rfl,fun r xr dr H1 s1 nr hr1 D1 l1 ok1=>?_⟩
  have ec:W4 ((n::ns).map V.int) none (some 48)=((n::ns).take 48).map V.int:=by rw[show(48:Int)=((48:Nat):Int) from rfl,a5n,aQ3]
  refine⟨_,rfl,_,rfl,a,_,rfl,hS.same s1,fun b hb=>?_⟩
  rw[ec]
  have s2:=b8 (o:=.lst (((n::ns).take 48).map V.int)) hb
  refine⟨b,(n::ns).take 48,rfl,d8.of b6,by rw[aD0];omega,fun e xe de H2 s3 he De le oke nE=>?_⟩
  have le:de.length≤48:=by rw[le,aD0];omega
  have s12:=s2.trans s3
  have hr2:=s12 _ _ hr1
  have D2:=D1.tupK s12.tupK
  have sH:=s1.trans s12
  have her:e≠r:=(g6 (s2 _ _ hr1) nE).symm
  have lxe:=De.len
  refine⟨e,rfl,⟨_,d8.of he⟩,?_⟩
  refine A7 (xs:=xe) (fun i σ' Hc=>∃o2 zs ds,σ'=[some (.ref a),some (.ref r),o2]∧Z0 r H2 Hc∧u5 H2 Hc∧Hc r=some (.lst zs)∧u4 Hc ds zs∧ds.length=dr.length+i∧∀d∈ds,O2 d) ⟨none,xr,dr,rfl,Z0.refl r H2,u5.refl H2,hr2,D2,rfl,ok1⟩ (fun i σ' Hc _ z=>?_) (fun i x σ' Hc hx z=>?_) (fun σ' Hc z=>?_)
  ·obtain⟨_,_,_,_,bu,_⟩:=z
   exact d8.of (bu _ _ her he)
  ·obtain⟨o2,zs,ds,rfl,bu,tk,hz,Dz,lz,okz⟩:=z
   obtain⟨d,hd,p,rfl,hp⟩:=C2 De hx
   have li:=(aA2.mp hx).1
   have okd:O2 d:=oke d (aC8 hd)
   have hp:=tk.1 _ _ hp
   have lz2:=Dz.len
   refine⟨fun σ' H'=>∃p' d',σ'=[some (.ref a),some (.ref r),some (.ref p')]∧f7 Hc H'∧H' p'=some (.tup (dv d'))∧O2 d',?_,fun σ' H' hM=>?_⟩
   ·rcases b6q d with ⟨_,w,e1⟩ | ⟨w,n,rest,e1,lr,mk⟩
    ·rw[e1]at hp
     exact⟨_,rfl,p,_,rfl,.inr (i3.of hp),_,_,rfl,rfl,_,rfl,e9 ⟨_,d,rfl,f7.refl _,by rw[e1];exact hp,okd⟩⟩
    ·rw[e1]at hp
     have i0:F7 (.str w::.int n::rest) 0=some (V.str w):=j0 (j:=0) rfl
     have i1:F7 (.str w::.int n::rest) 1=some (V.int n):=j0 (j:=1) rfl
     refine⟨_,rfl,p,_,rfl,.inr (i3.of hp),_,_,rfl,rfl,_,rfl,?_⟩
     rw[aC4 (by simp only[aE4];omega)]
     refine m9 ?_
     refine⟨_,rfl,p,_,1,_,rfl,rfl,i3.of hp,i1,_,_,rfl,rfl,_,rfl,K3 (fun _=>?_) (fun _=>⟨_,d,rfl,f7.refl _,by rw[e1];exact hp,okd⟩)⟩
     refine⟨_,rfl,p,_,0,_,rfl,rfl,i3.of hp,i0,_,rfl,p,_,1,_,rfl,rfl,i3.of hp,i1,_,_,rfl,rfl,(l8 2),fun p1 hp1=>?_⟩
     have t1:=b8 (o:=.tup [.str w,.int (n+3)]) hp1
     have hp':=t1 _ _ hp
     have ec:W4 (.str w::.int n::rest) (some 2) none=rest:=by rw[show(2:Int)=((2:Nat):Int) from rfl,a9j];rfl
     have wide:¬(HT.z9 (V.str w::V.int n::rest).length 0 (some 2)=0∧HT.z9 (V.str w::V.int n::rest).length (V.str w::V.int n::rest).length none=(V.str w::V.int n::rest).length):=fun z=>by
      have:=z.1
      rw[show(2:Int)=((2:Nat):Int) from rfl,HT.a6H,aE4,aE4]at this
      omega
     refine⟨_,rfl,_,rfl,p,_,rfl,i3.of hp',wide,fun p2 hp2=>?_⟩
     rw[ec]
     have t2:=b8 (o:=.tup rest) hp2
     obtain⟨d',e',o'⟩:=mk (n+3)
     refine⟨p1,p2,_,_,rfl,rfl,i3.of (t2 _ _ b6),i3.of b6,by simp,aK8 (Q5 (by simp only[aE4,List.length_nil];omega)),fun z=>?_,fun z p3 hp3=>?_⟩
     ·exact⟨p1,d',rfl,t1.trans t2,by subst z;rw[e'];exact t2 _ _ b6,o' okd⟩
     ·exact⟨p3,d',rfl,(t1.trans t2).trans (b8 hp3),by rw[e',b6];rfl,o' okd⟩
   ·obtain⟨p',d',rfl,sm,hp',ok'⟩:=hM
    have hz':=sm _ _ hz
    refine⟨_,rfl,.inl ⟨rfl,_,d8.of hz'⟩,_,rfl,r,_,_,rfl,rfl,hz',r9 (by omega),_,_,ds++[d'],rfl,(bu.same sm).upd,(tk.trans sm.tupK).trans (n4 hz'),b6,u4.snoc ⟨p',rfl,(n4 hz').1 _ _ hp'⟩ ((Dz.tupK sm.tupK).tupK (n4 hz')),by rw[aA4,lz,aE6];omega,fun d hd=>?_⟩
    rcases aA9.mp hd with hd | hd
    ·exact okz d hd
    ·rw[aA3.mp hd];exact ok'
  ·obtain⟨o2,zs,ds,rfl,bu,tk,hz,Dz,lz,okz⟩:=z
   exact⟨_,rfl,q r zs ds Hc (fun b o h=>bu b o (g6 h nr) (sH b o h)) hz Dz (by rw[lz];omega) okz⟩
 ·refine K3 (fun _=>?_) (fun z=>absurd ?_ z)
  ·exact⟨_,rfl,a,n::ns,rfl,hS,by rw[aE4];omega,fun r xs ds H' s h D l ok _=>q r xs ds H' s h D (by rw[l,aE4];exact hl) ok⟩
  ·rw[aB2 (fun z=>c (V.int.inj z))];rfl
theorem b0i:∀{a b:List Int},a.Pairwise (·≤·)→b.Pairwise (·≤·)→a.Perm b→a=b
 | [],b,_,_,p=>(List.nil_perm.mp p).symm
 | x::a,[],_,_,p=>absurd p.symm (by simp)
 | x::a,y::b,pa,pb,p=>by
  obtain⟨a1,a2⟩:=aK2.mp pa
  obtain⟨b1,b2⟩:=aK2.mp pb
  have e:x=y:=by
   rcases aB7.mp (p.mem_iff.mp aB9) with z | z
   ·exact z
   ·rcases aB7.mp (p.mem_iff.mpr aB9) with w | w
    ·exact w.symm
    ·have:=a1 y w
     have:=b1 x z
     omega
  subst e
  rw[b0i a2 b2 p.cons_inv]
theorem a6I{st st':j8}{d:i9}{a:u7}(s:Step st d a st'):(isE a=true∧∃n,d=.fin n∧nums st'=nums st++[n])∨(isE a=false∧nums st'=nums st):=by
 cases s with
 | @ended e r cs row he E=>
  refine .inl ⟨rfl,e.num,rfl,?_⟩
  show(st.recs++[r]).map (·.num)=_
  rw[aB5,aK3,E.rc.1];rfl
 | put _=>exact .inr ⟨by decide +kernel,rfl⟩
 | leave _=>exact .inr ⟨by decide +kernel,rfl⟩
 | _=>exact .inr ⟨rfl,rfl⟩
theorem R3.like{s t:j8}{S:Sts}{ams:List Am}(h:R3 s S ams)(l:a6S s t):R3 t S ams:=by
 obtain⟨b,u,v,r,ln,w⟩:=s
 obtain⟨b',u',v',r',ln',w'⟩:=t
 obtain⟨e1,e2,e3,e4⟩:=l
 dsimp only at e1 e2 e3 e4
 subst e1;subst e2;subst e3;subst e4
 exact⟨⟨h.vs.up,h.vs.le,h.vs.bg,h.vs.nd⟩,h.len,h.bg,h.rc,h.un,h.va,h.new,h.vk⟩
theorem b1z{st:j8}(ok:C8 st){i j:Nat}{r o:Rec}(lt:j<i)(hi:st.row[i]?=some r.num)(hj:st.row[j]?=some o.num)(mr:r∈st.recs)(mo:o∈st.recs)(g w:Str):¬lkC r o g w:=fun h=>by
 have ne:r.num≠o.num:=fun z=>by
  have:=(aF4 (aA2.mp hi).1 ok.row.nd).mp (by rw[hi,hj,z]:st.row[i]?=st.row[j]?)
  omega
 obtain⟨p,q,lt',hp,hq⟩:=ok.row.keeps (r.num,o.num,g,w) ((ok.mem _).mpr ⟨r,mr,o,mo,ne,rfl,rfl,h⟩)
 have e1:=(aF4 (aA2.mp hp).1 ok.row.nd).mp (hp.trans hi.symm)
 have e2:=(aF4 (aA2.mp hq).1 ok.row.nd).mp (hq.trans hj.symm)
 omega
inductive b3u(K:PySem.W.Frag)(vs:List V)(H:Hp)(Q:VK):Prop
 | mk (a:Addr) (ns:List Int) (x0:vs=[.ref a]) (x1:d8 K H a (ns.map V.int)) (x2:ns.length≤63) (xq:∀H',Q (.bl true) H')
def b1j(K:PySem.W.Frag):Sp:=fun vs H Q _=>b3u K vs H Q
theorem b8A(T:B6 K mg t):g9 P w K mg base A3 11 t.f_law t.d_law ["_law_script"] (b1j K):=by
 refine T.F_law.ok O1 (fun vs H Q E h=>?_) (fun cdv A outer s H vs Q E hr h=>?_)
 ·obtain⟨a,ns,rfl,_⟩:=h
  rfl
 obtain⟨a,ns,rfl,hS,hl,q⟩:=h
 have hu:=O0 hr
 refine⟨_,(b9 (g8 (i:=1) O1.nd rfl (Or.inl rfl) (k7 (g9.mono (k:=10) (a8M T) (by decide)) hr rfl T.m__law_mixed T.F__law_mixed.kp T.F__law_mixed.b .nil k8 (b0 (N7 R7 (pv 0) P8 (Q2 d5)) b7)))
 (b9 (g8 (i:=2) O1.nd rfl (Or.inl rfl) (k7 (g9.mono (k:=10) (b2b T) (by decide)) hr rfl T.m_answers T.F_answers.kp T.F_answers.b .nil k8 (b0 (K7 a8d rfl T.m_list aM8 (b0 (pv 1) b7)) b7)))
 (b9 (g8 (i:=3) O1.nd rfl (Or.inl rfl) (K7 a8d rfl T.m_list aM8 (b0 (pv 1) b7)))
 (b9 (g8 (i:=4) O1.nd rfl (Or.inl rfl) (k7 (g9.mono (k:=10) (b6g T) (by decide)) hr rfl T.m_ending T.F_ending.kp T.F_ending.b .nil k8 (b0 (pv 3) b7)))
 (b9 (l4 (G8 (C4 (k7 (g9.mono (k:=10) (a5v T) (by decide)) hr rfl T.m__law_unturned T.F__law_unturned.kp T.F__law_unturned.b .nil k8 (b0 (pv 3) (b0 (pv 1) b7)))))
 (d6 (i4 y0))
 j4)
 (b9 (l4 (PW.pt (N9 (G8 (C4 (e7 C7 rfl T.m_isinstance aF5 (b0 (pv 2) (b0 (A5 (v:=.ty "list") rfl T.m_list aM8 rfl) b7))))) (L1 (g7 N3 (e7 i5 rfl T.m_len aC6 (b0 (pv 2) b7)) (e7 i5 rfl T.m_len aC6 (b0 (pv 1) b7)) (i7 _)))))
 (d6 (i4 y0))
 j4)
 (b9 (l4 (G8 (C4 (k7 (g9.mono (k:=10) (a8q T) (by decide)) hr rfl T.m__law_ends_right T.F__law_ends_right.kp T.F__law_ends_right.b .nil k8 (b0 (pv 1) (b0 (pv 2) b7)))))
 (d6 (i4 y0))
 j4)
 (b9 (l4 (PW.pt (N9 (G8 (C4 (e7 C7 rfl T.m_isinstance aF5 (b0 (pv 4) (b0 (A5 (v:=.ty "tuple") rfl T.m_tuple boot_tuple rfl) b7))))) (N9 (g7 N3 (e7 i5 rfl T.m_len aC6 (b0 (pv 4) b7)) d5 (i7 _)) (L1 (G8 (C4 (e7 C7 rfl T.m_isinstance aF5 (b0 (d7 f6 (pv 4) d5 (fun _ _=>rfl)) (b0 (A5 (v:=.ty "list") rfl T.m_list aM8 rfl) b7)))))))))
 (d6 (i4 y0))
 j4)
 (b9 (g8 (i:=5) O1.nd rfl (Or.inl rfl) (m6 b7))
 (b9 (y6 aE1 rfl (P2 rfl T.m_range (b0 (e7 i5 rfl T.m_len aC6 (b0 (pv 1) b7)) b7)) (l6 (i:=6) O1.nd rfl (Or.inl rfl))
 (d6 (l4 (PW.pt (R6 (g7 A9 (d7 f6 (d7 l5 (pv 1) (pv 6) (fun _ _=>rfl)) d5 (fun _ _=>rfl)) i8 (i7 _)) (O9 (C4 (k7 (g9.mono (k:=10) (a8a T) (by decide)) hr rfl T.m__law_ended T.F__law_ended.kp T.F__law_ended.b .nil k8 (b0 (d7 l5 (pv 2) (pv 6) (fun _ _=>rfl)) b7))))))
 (d6 (m8 (v9 aB0 aB6 aB8 n6 (pv 5) (b0 (d7 f6 (d7 l5 (pv 1) (pv 6) (fun _ _=>rfl)) d5 (fun _ _=>rfl)) b7))))
 j4)))
 (b9 (g8 (i:=7) O1.nd rfl (Or.inl rfl) (d7 f6 (pv 4) d5 (fun _ _=>rfl)))
 (b9 (y6 aE1 rfl (u6 (pv 7)) (l6 (i:=8) O1.nd rfl (Or.inl rfl))
 (d6 (l4 (G8 (C4 (k7 (g9.mono (k:=10) (U9 T) (by decide)) hr rfl T.m__law_whole T.F__law_whole.kp T.F__law_whole.b .nil k8 (b0 (pv 8) b7))))
 (d6 (i4 y0))
 j4)))
 (b9 (l4 (G8 (C4 (k7 (g9.mono (k:=10) (a0C T) (by decide)) hr rfl T.m__law_figures T.F__law_figures.kp T.F__law_figures.b .nil k8 (b0 (e7 a3q rfl T.m_sorted aO2 (b0 (pv 7) b7)) (b0 (e7 a3q rfl T.m_sorted aO2 (b0 (pv 5) b7)) b7)))))
 (d6 (i4 y0))
 j4)
 (b9 (l4 (G8 (C4 (k7 (g9.mono (k:=10) (a2o T) (by decide)) hr rfl T.m__law_links_kept T.F__law_links_kept.kp T.F__law_links_kept.b .nil k8 (b0 (pv 7) (b0 (d7 f6 (k7 (g9.mono (k:=10) (a6h T) (by decide)) hr rfl T.m__law_walked T.F__law_walked.kp T.F__law_walked.b .nil k8 (b0 (pv 1) (b0 (pv 2) b7))) d5 (fun _ _=>rfl)) b7)))))
 (d6 (i4 y0))
 j4)
 (b9 (g8 (i:=9) O1.nd rfl (Or.inl rfl) (k7 (g9.mono (k:=10) (a1U T) (by decide)) hr rfl T.m__law_acts T.F__law_acts.kp T.F__law_acts.b .nil k8 (b0 (pv 1) (b0 (pv 2) b7))))
 (b9 (g8 (i:=10) O1.nd rfl (Or.inr rfl) G0)
 (b9 (y6 aE1 rfl (u6 (pv 7)) (l6 (i:=8) O1.nd rfl (Or.inl rfl))
 (d6 (l4 (G8 (C4 (k7 (g9.mono (k:=10) (a0L T) (by decide)) hr rfl T.m__law_alone T.F__law_alone.kp T.F__law_alone.b .nil k8 (b0 (d7 l5 (pv 9) (pv 8) (fun _ _=>rfl)) (b0 (pv 10) b7)))))
 (d6 (i4 y0))
 j4)))
 (b9 (a5D (i:=11) O1.nd rfl rfl rfl (u6 (e7 a6g rfl T.m_sorted aO2 (b0 (K7 (a2i rfl) rfl T.m_list aM8 (b0 (pv 10) b7)) b7))) (K2.mk (own:=["_law_name"]) (tl:=["_law_script","_law_asked","_law_told","_law_handed","_law_found","_law_those","_law_k","_law_row","_law_number","_law_steps","_law_amounts","_law_due"]) rfl rfl rfl (fun _ _ _ _ _=>(l6 (i:=0) (b8m) rfl (Or.inl rfl))) (fun _ _ _ _ _=>a3c) (fun _ _ _ _ _=>(q5 (b0 (pv 0) (b0 (v8 hu (pv 11) (pv 0) (fun _ _=>rfl)) b7))))))
 (d6 (i4 (k7 (g9.mono (k:=10) (a0M T) (by decide)) hr rfl T.m__law_table T.F__law_table.kp T.F__law_table.b .nil k8 (b0 (d7 f6 (pv 4) d5 (fun _ _=>rfl)) (b0 (pv 11) b7))))))))))))))))))))))),?_⟩
 have ec:W4 (ns.map V.int) none (some 200)=(ns.take 200).map V.int:=by rw[show(200:Int)=((200:Nat):Int) from rfl,a5n,aQ3]
 refine⟨_,rfl,_,rfl,a,_,rfl,hS,fun c hc=>?_⟩
 rw[ec]
 refine⟨c,ns.take 200,rfl,d8.of b6,by rw[aD0];omega,fun A xs ds H1 s1 hA hD lds okd=>?_⟩
 have lx:=hD.len
 refine⟨_,rfl,A,_,rfl,.inl (d8.of hA),fun h0 hh0=>?_⟩
 have s2:=b8 (o:=.lst xs) hh0
 refine⟨h0,ds,xs,rfl,b6,hD.tupK s2.tupK,by omega,fun as st rl H3 Tl ys R s3 hT pa nr=>?_⟩
 have s13:=s2.trans s3
 have hA3:=s13 _ _ hA
 have hD3:=hD.tupK s13.tupK
 refine⟨_,rfl,A,_,rfl,.inl (d8.of hA3),fun h1 hh1=>?_⟩
 have s4:=b8 (o:=.lst xs) hh1
 have hh:(upd H3 h1 (.lst xs)) h1=_:=b6
 generalize upd H3 h1 (.lst xs)=H4 at s4 hh ⊢
 refine⟨_,rfl,h1,ds,xs,rfl,hh,hD3.tupK s4.tupK,by omega,fun as' st' p W r H5 R' s5 hp hW am=>?_⟩
 obtain⟨f,F,f1⟩:=R.to okd (by omega)
 obtain⟨f',F',f1'⟩:=R'.to okd (by omega)
 have lk:=a6C F F' ds.length (aB3 _)
 rw[f1']at lk
 have ok':C8 st':=by rw[←f1'];exact F'.oks _ (aB3 _)
 obtain⟨ams,b7p⟩:=a1r F ds.length (aB3 _)
 have ser:=b7p.like lk
 obtain⟨pre,Mz,run,mnd,mk,mv⟩:=b2w ser ok'
 have la:=F.len
 have ly:=p6 pa
 have s45:=s4.trans s5
 have hA5:=s45 _ _ hA3
 have hD5:=hD3.tupK s45.tupK
 have hT5:=s45 _ _ hT
 have pa5:Paired (E3 rl H5) as ys:=Paired.mapP pa fun _ _ z=>z.same s45
 obtain⟨fin,siz⟩:=b5n okd (by omega)
 refine⟨_,rfl,_,rfl,.ref h1,.ref A,.list (ds.map dD),rfl,by unfold Rep;exact⟨h1,_,rfl,d8.of (s5 _ _ hh),hD5.reps⟩,by unfold Rep;exact⟨A,_,rfl,d8.of hA5,hD5.reps⟩,fin,siz,fun H6 s6=>⟨_,rfl,e9 ?_⟩⟩
 have hA6:=s6 _ _ hA5
 have hD6:=hD5.tupK s6.tupK
 have hT6:=s6 _ _ hT5
 have pa6:Paired (E3 rl H6) as ys:=Paired.mapP pa5 fun _ _ z=>z.same s6
 refine⟨_,rfl,.ref Tl,"list","list",rfl,.inl ⟨rfl,_,d8.of hT6⟩,by decide,_,rfl,e9 ?_⟩
 refine⟨_,rfl,Tl,ys,rfl,.inl (d8.of hT6),_,rfl,A,xs,rfl,.inl (d8.of hA6),rfl,_,rfl,U8 (by rw[ly,la,lx]) ?_⟩
 refine⟨_,rfl,_,rfl,A,Tl,xs,ys,ds,as,rl,f,rfl,hA6,hD6,hT6,pa6,F,by omega,fun H7 s7=>⟨_,rfl,e9 ?_⟩⟩
 have s67:=s6.trans s7
 have hA7:=s67 _ _ hA5
 have hD7:=hD5.tupK s67.tupK
 have hT7:=s67 _ _ hT5
 have pa7:Paired (E3 rl H7) as ys:=Paired.mapP pa5 fun _ _ z=>z.same s67
 have hp7:=s67 _ _ hp
 have hW7:=s67 _ _ hW
 refine⟨_,rfl,.ref p,"tuple","tuple",rfl,.inr (.inl ⟨rfl,_,i3.of hp7⟩),by decide,_,rfl,e9 ?_⟩
 refine⟨_,rfl,p,_,rfl,.inr (i3.of hp7),rfl,_,rfl,e9 ?_⟩
 refine⟨_,rfl,p,_,0,_,rfl,rfl,i3.of hp7,rfl,.ref W,"list","list",rfl,.inl ⟨rfl,_,d8.of hW7⟩,by decide,_,rfl,e9 ?_⟩
 refine⟨(l8 0),fun Th hTh=>?_⟩
 refine⟨_,rfl,A,xs,rfl,.inl (d8.of (b8 hTh _ _ hA7)),_,rfl,by omega,by omega,?_⟩
 have en:(((xs.length:Nat):Int)).toNat=ds.length:=by omega
 rw[en]
 refine N4 (fun i σ' Hc=>∃o6,σ'=[some (.ref a),some (.ref A),some (.ref Tl),some (.ref h1),some (.ref p),some (.ref Th),o6,none,none,none,none,none]∧f7 H7 Hc∧Hc Th=some (.lst ((nums (f i)).map V.int))) ⟨none,rfl,b8 hTh,by rw[F.zero];exact b6⟩ (fun i σ' Hc hi z=>?_) (fun σ' Hc z=>?_)
 ·obtain⟨o6,rfl,sc,hTc⟩:=z
  have hxi:=List.getElem?_eq_getElem (show i<xs.length by omega)
  have hyi:=List.getElem?_eq_getElem (show i<ys.length by omega)
  obtain⟨d,hd,b,eb,hb⟩:=C2 hD7 hxi
  obtain⟨an,han,hy⟩:=C2 pa7 hyi
  have St:=F.step i d an hd han
  have bd:=F.bds i (by omega)
  have e0:(0:Int)+(i:Int)=((i:Nat):Int):=by omega
  have ax:F7 xs ((0:Int)+(i:Int))=some (.ref b):=by rw[e0,←eb];exact j0 hxi
  generalize ys[i]=y at hyi hy
  have ay:F7 ys ((0:Int)+(i:Int))=some y:=by rw[e0];exact j0 hyi
  have qA:=d8.of (K:=K) (sc _ _ hA7)
  have qT:=d8.of (K:=K) (sc _ _ hT7)
  have qb:=i3.of (K:=K) (sc _ _ hb)
  have lnum:(nums (f i)).length≤i:=by have:=bd.rc;unfold nums;rw[aA0];exact this
  cases d with
  | fin n=>
   refine⟨_,rfl,_,rfl,A,_,_,_,rfl,rfl,qA,ax,b,_,0,_,rfl,rfl,qb,rfl,rfl,_,rfl,m9 ⟨_,rfl,_,rfl,Tl,_,_,_,rfl,rfl,qT,ay,rl,an,y,rfl,hy.same sc,?_⟩⟩
   rcases a6I St with ⟨e,n',en',e2⟩ | ⟨e,e2⟩
   ·injection en' with en'
    subst en'
    rw[e]
    refine⟨_,rfl,m9 ⟨_,rfl,.inl ⟨rfl,_,d8.of hTc⟩,_,rfl,_,rfl,A,_,_,_,rfl,rfl,qA,ax,b,_,1,_,rfl,rfl,qb,rfl,Th,_,_,rfl,rfl,hTc,r9 (by rw[aA0];omega),_,rfl,l7 sc hTh,?_⟩⟩
    rw[b6,e2,aB5];rfl
   ·rw[e,e2]
    exact⟨_,rfl,e9 ⟨_,rfl,sc,hTc⟩⟩
  | _=>
   rcases a6I St with ⟨_,n',z,_⟩ | ⟨_,e2⟩
   ·cases z
   ·rw[e2]
    exact⟨_,rfl,_,rfl,A,_,_,_,rfl,rfl,qA,ax,b,_,0,_,rfl,rfl,qb,rfl,rfl,_,rfl,e9 (e9 ⟨_,rfl,sc,hTc⟩)⟩
 obtain⟨o6,rfl,sc,hTh1⟩:=z
 have enum:nums (f ds.length)=nums st':=by unfold nums;rw[lk.rc]
 rw[enum]at hTh1
 have hWc:=sc _ _ hW7
 have lrow:st'.row.length≤63:=by
  rw[ok'.row.perm.length_eq,←enum]
  have:=(F.bds ds.length (aB3 _)).rc
  unfold nums;rw[aA0];omega
 have lnum:(nums st').length≤63:=by rw[←ok'.row.perm.length_eq];exact lrow
 refine⟨_,rfl,p,_,0,_,rfl,rfl,i3.of (sc _ _ hp7),rfl,?_⟩
 refine⟨_,rfl,W,rfl,⟨_,d8.of hWc⟩,?_⟩
 refine A7 (xs:=st'.row.map V.int) (fun i σ' Hd=>∃o8,σ'=[some (.ref a),some (.ref A),some (.ref Tl),some (.ref h1),some (.ref p),some (.ref Th),o6,some (.ref W),o8,none,none,none]∧Hd=Hc) ⟨none,rfl,rfl⟩ (fun i σ' Hd _ z=>?_) (fun i v σ' Hd hv z=>?_) (fun σ' Hd z=>?_)
 ·obtain⟨_,_,rfl⟩:=z
  exact d8.of hWc
 ·obtain⟨o8,rfl,rfl⟩:=z
  rw[aB1]at hv
  obtain⟨n,_,rfl⟩:=aD8.mp hv
  exact⟨_,rfl,_,"int",rfl,rfl,_,rfl,e9 ⟨_,rfl,rfl⟩⟩
 obtain⟨o8,rfl,rfl⟩:=z
 refine⟨_,rfl,W,st'.row,rfl,d8.of hWc,by omega,fun l1 m1 hl1 p1 o1=>?_⟩
 have sA:=b8 (o:=.lst (m1.map V.int)) hl1
 refine⟨_,rfl,Th,nums st',rfl,d8.of (sA _ _ hTh1),by omega,fun l2 m2 hl2 p2 o2=>?_⟩
 have sB:=b8 (o:=.lst (m2.map V.int)) hl2
 have em:m1=m2:=b0i o1 o2 (p1.trans (ok'.row.perm.trans p2.symm))
 subst em
 refine⟨l1,l2,m1,rfl,d8.of (sB _ _ b6),d8.of b6,by rw[p1.length_eq];omega,_,rfl,e9 ?_⟩
 have s7d:=sc.trans (sA.trans sB)
 generalize upd (upd Hd l1 (.lst (m1.map V.int))) l2 (.lst (m1.map V.int))=H8 at s7d ⊢
 have hA8:=s7d _ _ hA7
 have hD8:=hD7.tupK s7d.tupK
 have hT8:=s7d _ _ hT7
 have pa8:Paired (E3 rl H8) as ys:=Paired.mapP pa7 fun _ _ z=>z.same s7d
 have bdn:=F.bds ds.length (aB3 _)
 refine⟨_,rfl,_,rfl,_,rfl,A,Tl,xs,ys,ds,as,rl,f,rfl,hA8,hD8,hT8,pa8,F,by omega,fun p9 Rr Y us ws tr rl9 H9 s9 hp9 hR9 pR hY pY okt=>⟨p9,_,0,_,rfl,rfl,i3.of hp9,rfl,W,Rr,st'.row,us,(f ds.length).recs,rl9,rfl,s9 _ _ (s7d _ _ hW7),hR9,pR,?_,by omega,by have:=bdn.rc;omega,fun r hr=>by have:=bdn.rs r hr;omega,fun n hn=>?_,fun i j r o lt hi hj mr mo=>b1z ok' lt hi hj (by rw[←lk.rc];exact mr) (by rw[←lk.rc];exact mo),fun HA sA9=>⟨_,rfl,e9 ?_⟩⟩⟩
 ·exact(aD4.mp (F.oks ds.length (aB3 _)).un).1
 ·have:=ok'.row.perm.mem_iff.mp hn
  rw[←enum]at this
  exact aA5.mp this
 have s8A:=s9.trans sA9
 have hAA:=s8A _ _ hA8
 have hDA:=hD8.tupK s8A.tupK
 have hTA:=s8A _ _ hT8
 have paA:Paired (E3 rl HA) as ys:=Paired.mapP pa8 fun _ _ z=>z.same s8A
 refine⟨_,rfl,_,rfl,A,Tl,xs,ys,ds,as,rl,f,rfl,hAA,hDA,hTA,paA,F,by omega,fun S sa HB sAB hS hst=>?_⟩
 refine fun M hM=>?_
 have sM:=b8 (o:=.dK []) hM
 have hM0:(upd HB M (.dK [])) M=_:=b6
 have nM:=j7 sAB hM
 have s7B:=(s7d.trans s8A).trans (sAB.trans sM)
 have sAM:=sAB.trans sM
 have hSM:=sM _ _ hS
 generalize upd HB M (.dK [])=HM at sM hM0 s7B sAM hSM ⊢
 have hWM:=s7B _ _ hW7
 refine⟨_,rfl,W,rfl,⟨_,d8.of hWM⟩,?_⟩
 have nW:W≠M:=fun z=>by have:=((s7d.trans s8A).trans sAB) _ _ hW7;rw[z,hM]at this;cases this
 have nS:S≠M:=fun z=>by rw[z,hM]at hS;cases hS
 refine A7 (xs:=st'.row.map V.int) (fun j σ' Hc=>∃(o8:Option V) (m1:Am),σ'=[some (.ref a),some (.ref A),some (.ref Tl),some (.ref h1),some (.ref p),some (.ref Th),o6,some (.ref W),o8,some (.ref S),some (.ref M),none]∧U4 (O3 f ds as ds.length) [] (st'.row.take j)=some m1∧Hc M=some (.dK (L5 m1))∧(∀b,b≠M→Hc b=HM b)∧m1.length≤63*j) ⟨_,[],rfl,rfl,hM0,fun _ _=>rfl,aG3 _⟩ (fun j σ' Hc _ z=>?_) (fun j v σ' Hc hv z=>?_) (fun σ' Hc z=>?_)
 ·obtain⟨_,_,_,_,_,bt,_⟩:=z
  exact d8.of ((bt W nW).trans hWM)
 ·obtain⟨o8,m1,rfl,r1,hMc,bt,lm⟩:=z
  rw[aB1]at hv
  obtain⟨n,hn,rfl⟩:=aD8.mp hv
  have lj:=(aA2.mp hn).1
  obtain⟨m2,r2⟩:=pre (j+1) lj
  have r3:alone m1 (O3 f ds as ds.length n)=some m2:=by
   rw[←a4u r1,←r2,aD3,hn];rfl
  have mem:n∈nums (f ds.length):=by rw[enum];exact ok'.row.perm.mem_iff.mp (aC8 hn)
  obtain⟨n0,n1⟩:0≤n∧n<((f ds.length).begun:Int):=(F.oks ds.length (aB3 _)).lt _ (aE3 _ mem)
  obtain⟨zs,hz,pz,lz⟩:=hst n n0 n1
  have nz:sa n≠M:=fun z=>by rw[z,hM]at hz;cases hz
  have smc:f7 HA Hc:=fun b o e=>by
   have nb:b≠M:=fun z=>by rw[z,nM]at e;cases e
   rw[bt b nb];exact sAM _ _ e
  have pc:Paired (Y9 rl Hc Hc) (O3 f ds as ds.length n) zs:=Paired.mapP pz fun s x ⟨b,pp,y,e,e1,e2,e3⟩=>by
   have nb:b≠M:=fun z=>by rw[z,hM]at e1;cases e1
   exact⟨b,pp,y,e,(bt b nb).trans (sM _ _ e1),smc _ _ e2,e3.same smc⟩
  have lac:=p6 pz
  refine⟨_,rfl,_,rfl,S,_,_,_,rfl,rfl,d8.of ((bt S nS).trans hSM),b4f n0 n1,_,rfl,sa n,M,zs,O3 f ds as ds.length n,rl,m1,m2,rfl,(bt _ nz).trans (sM _ _ hz),pc,hMc,r3,by omega,fun H' bt' hM' ml=>⟨_,rfl,e9 ⟨_,m2,rfl,r2,hM',fun b nb=>(bt' b nb).trans (bt b nb),by omega⟩⟩⟩
 obtain⟨o8',tm,rfl,r1,hta,bt,_⟩:=z
 rw[aA0,aD5,run]at r1
 cases r1
 have s7F:f7 H7 Hc:=fun b o e=>by
  have nb:b≠M:=fun z=>by
   have:=((s7d.trans s8A).trans sAB) _ _ e
   rw[z,hM]at this;cases this
  rw[bt b nb];exact s7B _ _ e
 have ltv:Mz.length≤63:=by
  have:=A4 (m:=st'.vers.map (·.1)) mnd fun x hx=>(mk x).mp hx
  rw[aA0,aA0]at this
  have:=a4S R'
  omega
 refine⟨_,rfl,M,_,rfl,.inl hta,fun e1 he1=>?_⟩
 rw[a6v]
 have sC:=b8 (o:=.lst ((Mz.map (·.1)).map V.str)) he1
 refine⟨e1,_,rfl,d8.of b6,⟨by rw[aA0,aA0];omega,fun x hx=>by obtain⟨z,_,rfl⟩:=aA5.mp hx;exact⟨z,rfl⟩⟩,fun e2 js' he2 pm io=>?_⟩
 obtain⟨js,rfl,pj⟩:=L8 pm
 unfold P9 at io
 rw[aE8]at io
 have sD:=b8 (o:=.lst (js.map V.str)) he2
 have hl3:(upd (upd Hc e1 (.lst ((Mz.map (·.1)).map V.str))) e2 (.lst (js.map V.str))) e2=_:=b6
 have sBD:=sC.trans sD
 have htD:=sD _ _ (sC _ _ hta)
 generalize upd (upd Hc e1 (.lst ((Mz.map (·.1)).map V.str))) e2 (.lst (js.map V.str))=HD at hl3 sBD htD ⊢
 have ljs:js.length≤63:=by rw[pj.length_eq,aA0];exact ltv
 refine⟨e2,rfl,⟨_,d8.of hl3⟩,fun du hdu=>?_⟩
 refine J3 (xs:=js.map V.str) (fun i H'=>f7 HD H'∧∃ps,H' du=some (.lst ps)∧Prs H' (a9k Mz (js.take i)) ps) ⟨b8 hdu,[],b6,.nil⟩ (fun i H' _ h=>d8.of (h.1 _ _ hl3)) (fun i x H' hx h=>?_) (fun HF h=>?_)
 ·obtain⟨sm,ps,h1,h2⟩:=h
  rw[aB1]at hx
  obtain⟨z,hz,rfl⟩:=aD8.mp hx
  have dg:=z6.k (k:=Sum.inr z) (sm _ _ htD)
  rw[a4i]at dg
  have hin:z∈Mz.map (·.1):=pj.mem_iff.mp (aC8 hz)
  cases hg:n9 Mz z with
  | none=>exact absurd hin (a8w hg)
  | some x=>
   rw[hg]at dg
   refine⟨_,rfl,_,rfl,_,rfl,M,_,rfl,dg,(l8 2),fun b hb=>?_⟩
   have s4:=b8 (o:=.tup [V.str z,V.int x]) hb
   have k4:=n4 (o:=.lst (ps++[V.ref b])) (s4 _ _ h1)
   refine⟨ps,s4 _ _ h1,r9 (by rw[p6 h2];unfold a9k;rw[aA0,aD0];omega),l7 (sm.trans s4) hdu,_,b6,?_⟩
   have et:a9k Mz (js.take (i+1))=a9k Mz (js.take i)++[(z,x)]:=by
    unfold a9k
    rw[aD3,hz,aG5,aB5,aK3,hg];rfl
   rw[et]
   exact aK0 ((h2.tupK s4.tupK).tupK k4) ⟨b,rfl,k4.1 _ _ b6⟩
 obtain⟨sE,ps,hdu1,hps⟩:=h
 rw[aA0,aD5]at hps
 obtain⟨xs',ks',a1,a2,a3,a4⟩:=am
 have td:=b0s rfl rfl a3 a4 pj io mnd (a0G R').2 mk mv
 rw[td]at a2
 have s5F:f7 H5 HF:=(s67.trans s7F).trans (sBD.trans sE)
 refine⟨_,rfl,p,_,1,_,rfl,rfl,i3.of (s5F _ _ hp),rfl,_,rfl,r,du,xs',ps,a9k Mz js,rfl,d8.of (s5F _ _ a1),d8.of hdu1,a2.tupK s5F.tupK,hps,by unfold a9k;rw[aA0];omega,fun pr hpr=>?_,q _⟩
 obtain⟨z,hz,rfl⟩:=aA5.mp hpr
 exact b6j R' okd ((mk z).mp (pj.mem_iff.mp hz))
end
noncomputable section
theorem hM{P:Params}{f:Addr}{n q:Str}{s:Stmt}{m:Str}{t c:Nat}{ps:List Str}(h:((KK P).lookup f,PySem.W.codeIn (KK P) (.ref c) q,PySem.W.keepIn (KK P) (.ref f))=(some (hO (hF n q s m t c)),true,true))
  (b:∀us:List Value,us.length=ps.length→bindArgs (hF n q s m t c) ⟨us,[]⟩=pure (ps.zip us)):FB (KK P) n q s f (hF n q s m t c) ps:=by
 injection h with h1 h2
 injection h2 with h2 h3
 exact⟨b0C h1 h2 h3,.all b⟩
theorem all_mk{P:Params}{h:Heap}{mg:Str→Option Value}(X:(KK P).In h)(G:h.Ns mainGlobals mg):B6 (KK P) mg hT:=⟨hM (by kernel_rfl) (fun u h=>match u,h with | [_,_],_=>rfl),aC7 X G (by kernel_rfl),
 hM (by kernel_rfl) (fun u h=>match u,h with | [_,_,_,_],_=>rfl),aC7 X G (by kernel_rfl),
 hM (by kernel_rfl) (fun u h=>match u,h with | [_,_],_=>rfl),aC7 X G (by kernel_rfl),
 hM (by kernel_rfl) (fun u h=>match u,h with | [_,_],_=>rfl),aC7 X G (by kernel_rfl),
 hM (by kernel_rfl) (fun u h=>match u,h with | [_,_,_],_=>rfl),aC7 X G (by kernel_rfl),
 hM (by kernel_rfl) (fun u h=>match u,h with | [_,_],_=>rfl),aC7 X G (by kernel_rfl),
 hM (by kernel_rfl) (fun u h=>match u,h with | [_],_=>rfl),aC7 X G (by kernel_rfl),
 hM (by kernel_rfl) (fun u h=>match u,h with | [_,_],_=>rfl),aC7 X G (by kernel_rfl),
 hM (by kernel_rfl) (fun u h=>match u,h with | [_,_],_=>rfl),aC7 X G (by kernel_rfl),
 hM (by kernel_rfl) (fun u h=>match u,h with | [_,_],_=>rfl),aC7 X G (by kernel_rfl),
 hM (by kernel_rfl) (fun u h=>match u,h with | [_,_],_=>rfl),aC7 X G (by kernel_rfl),
 hM (by kernel_rfl) (fun u h=>match u,h with | [_,_],_=>rfl),aC7 X G (by kernel_rfl),
 hM (by kernel_rfl) (fun u h=>match u,h with | [_,_,_],_=>rfl),⟨(by kernel_rfl),(by kernel_rfl),(by kernel_rfl),(by kernel_rfl)⟩,
 hM (by kernel_rfl) (fun u h=>match u,h with | [_,_],_=>rfl),⟨(by kernel_rfl),(by kernel_rfl),(by kernel_rfl)⟩,
 hM (by kernel_rfl) (fun u h=>match u,h with | [_],_=>rfl),⟨(by kernel_rfl),(by kernel_rfl),(by kernel_rfl),(by kernel_rfl)⟩,
 hM (by kernel_rfl) (fun u h=>match u,h with | [_],_=>rfl),⟨(by kernel_rfl),(by kernel_rfl),(by kernel_rfl)⟩,
 hM (by kernel_rfl) (fun u h=>match u,h with | [_],_=>rfl),⟨(by kernel_rfl),(by kernel_rfl),(by kernel_rfl)⟩,
 hM (by kernel_rfl) (fun u h=>match u,h with | [_,_,_],_=>rfl),⟨(by kernel_rfl),(by kernel_rfl),(by kernel_rfl)⟩,
 hM (by kernel_rfl) (fun u h=>match u,h with | [_,_,_,_],_=>rfl),⟨(by kernel_rfl),(by kernel_rfl),(by kernel_rfl)⟩,
 hM (by kernel_rfl) (fun u h=>match u,h with | [_,_],_=>rfl),⟨(by kernel_rfl),(by kernel_rfl),(by kernel_rfl)⟩,
 hM (by kernel_rfl) (fun u h=>match u,h with | [_,_],_=>rfl),⟨(by kernel_rfl),(by kernel_rfl),(by kernel_rfl)⟩,
 hM (by kernel_rfl) (fun u h=>match u,h with | [_,_],_=>rfl),⟨(by kernel_rfl),(by kernel_rfl),(by kernel_rfl)⟩,
 hM (by kernel_rfl) (fun u h=>match u,h with | [_],_=>rfl),⟨(by kernel_rfl),(by kernel_rfl),(by kernel_rfl)⟩,
 hM (by kernel_rfl) (fun u h=>match u,h with | [_],_=>rfl),⟨(by kernel_rfl),(by kernel_rfl),(by kernel_rfl)⟩,
 hM (by kernel_rfl) (fun u h=>match u,h with | [_,_],_=>rfl),aC7 X G (by kernel_rfl),
 hM (by kernel_rfl) (fun u h=>match u,h with | [_,_],_=>rfl),aC7 X G (by kernel_rfl),
 hM (by kernel_rfl) (fun u h=>match u,h with | [_,_],_=>rfl),aC7 X G (by kernel_rfl),
 hM (by kernel_rfl) (fun u h=>match u,h with | [_,_],_=>rfl),aC7 X G (by kernel_rfl),
 hM (by kernel_rfl) (fun u h=>match u,h with | [_],_=>rfl),aC7 X G (by kernel_rfl),
 hM (by kernel_rfl) (fun u h=>match u,h with | [_],_=>rfl),aC7 X G (by kernel_rfl),
 hM (by kernel_rfl) (fun u h=>match u,h with | [_],_=>rfl),aC7 X G (by kernel_rfl),
 hM (by kernel_rfl) (fun u h=>match u,h with | [_,_],_=>rfl),aC7 X G (by kernel_rfl),
 hM (by kernel_rfl) (fun u h=>match u,h with | [_],_=>rfl),aC7 X G (by kernel_rfl),
 hM (by kernel_rfl) (fun u h=>match u,h with | [_,_],_=>rfl),aC7 X G (by kernel_rfl),
 hM (by kernel_rfl) (fun u h=>match u,h with | [_,_],_=>rfl),aC7 X G (by kernel_rfl),
 hM (by kernel_rfl) (fun u h=>match u,h with | [_,_],_=>rfl),aC7 X G (by kernel_rfl),
 hM (by kernel_rfl) (fun u h=>match u,h with | [_],_=>rfl),aC7 X G (by kernel_rfl),
 hM (by kernel_rfl) (fun u h=>match u,h with | [_],_=>rfl),aC7 X G (by kernel_rfl),
 hM (by kernel_rfl) (fun u h=>match u,h with | [_,_],_=>rfl),aC7 X G (by kernel_rfl),
 hM (by kernel_rfl) (fun u h=>match u,h with | [_,_,_],_=>rfl),aC7 X G (by kernel_rfl),
 hM (by kernel_rfl) (fun u h=>match u,h with | [_,_],_=>rfl),aC7 X G (by kernel_rfl),
 hM (by kernel_rfl) (fun u h=>match u,h with | [_,_],_=>rfl),aC7 X G (by kernel_rfl),
 hM (by kernel_rfl) (fun u h=>match u,h with | [_,_],_=>rfl),aC7 X G (by kernel_rfl),
 hM (by kernel_rfl) (fun u h=>match u,h with | [_],_=>rfl),aC7 X G (by kernel_rfl),
 hM (by kernel_rfl) (fun u h=>match u,h with | [_],_=>rfl),aC7 X G (by kernel_rfl),
 hM (by kernel_rfl) (fun u h=>match u,h with | [_,_],_=>rfl),aC7 X G (by kernel_rfl),
 hM (by kernel_rfl) (fun u h=>match u,h with | [_,_],_=>rfl),aC7 X G (by kernel_rfl),
 hM (by kernel_rfl) (fun u h=>match u,h with | [_,_],_=>rfl),aC7 X G (by kernel_rfl),
 hM (by kernel_rfl) (fun u h=>match u,h with | [_],_=>rfl),aC7 X G (by kernel_rfl),
 ⟨(by kernel_rfl),(by kernel_rfl),(by kernel_rfl),(by kernel_rfl)⟩,aC7 X G (by kernel_rfl),
 (by unfold A0;kernel_rfl),
 (by unfold A0;kernel_rfl),
 (by unfold A0;kernel_rfl),
 (by unfold A0;kernel_rfl),
 ⟨(by kernel_rfl),(by kernel_rfl),(by kernel_rfl),(by kernel_rfl)⟩,aC7 X G (by kernel_rfl),
 (by unfold A0;kernel_rfl),
 (by unfold A0;kernel_rfl),
 (by unfold A0;kernel_rfl),
 (by unfold A0;kernel_rfl),
 (by unfold A0;kernel_rfl),
 (by unfold A0;kernel_rfl),
 aF6 X G (by kernel_rfl),
 aF6 X G (by kernel_rfl),
 aF6 X G (by kernel_rfl),
 aF6 X G (by kernel_rfl),
 aF6 X G (by kernel_rfl),
 aF6 X G (by kernel_rfl),
 aF6 X G (by kernel_rfl),
 aF6 X G (by kernel_rfl),
 aF6 X G (by kernel_rfl),
 aF6 X G (by kernel_rfl),
 aF6 X G (by kernel_rfl),
 aF6 X G (by kernel_rfl),
 aF6 X G (by kernel_rfl),
 aF6 X G (by kernel_rfl),
 aC7 X G (by kernel_rfl),⟨_,rfl⟩,
 aC7 X G (by kernel_rfl),⟨_,rfl⟩,
 aC7 X G (by kernel_rfl),⟨_,rfl⟩,
 aC7 X G (by kernel_rfl),⟨_,rfl⟩,
 aC7 X G (by kernel_rfl),⟨_,rfl⟩,
 aC7 X G (by kernel_rfl),⟨_,rfl⟩,
 aC7 X G (by kernel_rfl),⟨_,rfl⟩⟩
theorem hD0:PySem.W.defOf hQ (PySem.W.OpenLaw.row PySem.Challenge.rw_tallyhall_k07_whole_in_a_row).name=some (⟨"law",a7c U7,Y5 U7,i6 U7,(b5l U7)⟩,[]):=by kernel_rfl
theorem hW:PySem.W.WalkO hQ hL (PySem.W.XL hQ []) (PySem.W.Hook.says hH) (PySem.W.OpenRow.toRowW (PySem.W.OpenLaw.row PySem.Challenge.rw_tallyhall_k07_whole_in_a_row)) ⟨"law",a7c U7,Y5 U7,i6 U7,(b5l U7)⟩ [] (fun f vs=>PySem.call f vs):=
 L2.b5y (l:=PySem.Challenge.rw_tallyhall_k07_whole_in_a_row) (n:=63) (k:=11) (x:="_law_script") (K:=KK) (CX:=fun _=>A3) (sp:=fun w=>b1j (KK w.params)) rfl (by decide) rfl ⟨rfl,by decide,by decide⟩ (fun w h Y=>PySem.W.kIn_of Y)
  (fun w mg fa h X G e=>by
   have e1:=e.symm.trans (aC7 X G (v:=.ref 365) (by kernel_rfl))
   cases e1
   exact⟨hT.d_law,fun s v=>.of_eq rfl,fun base _ _=>b8A (all_mk X G)⟩)
  (fun _ _ a ns hl _ hS=>⟨a,ns,rfl,hS,hl,fun _=>rfl⟩) fun _ _ _ _ _ z=>z
end
end My
open PySem PySem.W PyProof.Rows
set_option maxRecDepth 100000 in
set_option maxHeartbeats 0 in
theorem PySem.Challenge.cw_tallyhall_k07_whole_in_a_row_holds : PySem.Challenge.rw_tallyhall_k07_whole_in_a_row.Holds := by
 refine PySem.W.holds_law (by kernel_rfl) fun said=>?_
 refine PySem.W.holds_open (q:=My.hQ) (loose:=My.hL) (Xt:=My.hX) (XP:=XL My.hQ []) (Yf:=Hook.obs My.hH) (Ya:=Hook.val My.hH) (YP:=Hook.says My.hH) My.b2H (Hook.of My.hH) (Hook.keeps My.hH) (fun s e=>xl_of s (Bool.and_eq_true_iff.mp e).1) XL.keeps My.hD0 (by kernel_rfl) rfl (fun s e=>recFacts_of (Bool.and_eq_true_iff.mp e).2) rfl said (by kernel_rfl) ⟨rfl,rfl,rfl,rfl,rfl,by decide +kernel⟩ ?hw My.hW
 case hw=>w_witness2
