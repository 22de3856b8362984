import PyProof.Rows.All
import Wide.All
import OpenK.AllK
import Wide.FinOn
import Lean
import PyProof.EqAt
import PyProof.EqKinds
import PyProof.TupleCall
import PyProof.Rows.SortStr
import OpenK.KMore
import PyProof.Rows.SetFrom
import PyProof.CollectWalk
import KE.KDictList
import PyProof.SumAny
import KE.KItemsList
import KE.KRevIter
import KE.KDictLaws
import PyProof.DictCopy
import PyProof.DictUpdate
import PySem.Challenge.RW_tallyhall_k11_whole_sweeping
set_option Elab.async false
set_option linter.all false
set_option Elab.async false
set_option linter.all false
set_option maxRecDepth 100000
set_option maxHeartbeats 0
open List renaming length_map→aA0
open PySem renaming wpAny_bind→aA1
open List renaming getElem?_eq_some_iff→aA2,mem_singleton→aA3
abbrev aA4.{u}:=@if_neg.{u}
open List renaming mem_map→aA5
open PySem.Heap renaming get?_push_of_some→aA6
open List renaming length_append→aA7,mem_append→aA8
open PySem renaming wpAny_pure→aA9
abbrev aB0.{u}:=@if_pos.{u}
open PySem.F renaming plainAttrs_list→aB1
open List renaming map_append→aB2
open Nat renaming le_refl→aB3
open List renaming getElem?_map→aB4
open PySem.Heap renaming lt_size→aB5
open PySem.F renaming slot_list_append→aB6
abbrev aB7:=@decide_eq_false
open PySem.F renaming type_list_append→aB8
open List renaming mem_cons→aB9
open PySem.Heap renaming get?_push_size→aC0
open List renaming map_cons→aC1
open PySem renaming boot_len→aC2
open List renaming nodup_append→aC3,mem_cons_of_mem→aC4,mem_of_getElem?→aC5
abbrev aC6:=@decide_eq_true
open Bool renaming false_ne_true→aC7
open Nat renaming ne_of_lt→aC8
open Option renaming map_eq_some_iff→aC9
open List renaming mem_cons_self→aD0
open Option.some renaming inj→aD1
open PySem.W renaming mg_of→aD2
open List renaming take_add_one→aD3,size_toArray→aD4,mem_filter→aD5,length_take→aD6,mem_append_right→aD7
open Nat renaming le_trans→aD8
open List renaming map_congr_left→aD9,take_length→aE0,getElem?_append_left→aE1,mem_append_left→aE2,map_map→aE3
open PySem.PassesOwn renaming never→aE4
open List renaming length_singleton→aE5
open Nat renaming lt_of_lt_of_le→aE6
open List renaming getD_eq_getElem?_getD→aE7
open PyProof.Rows renaming boot_isinstance→aE8
open List renaming getElem?_append_right→aE9,length_cons→aF0,mem_iff_getElem?→aF1
open Bool renaming and_eq_true→aF2
open PySem.Heap renaming get?_update_other→aF3
abbrev aF4:=@of_decide_eq_true
open Array renaming length_toList→aF5
open PySem.Around renaming under_plainId→aF6
open PySem.W renaming mg_none_of→aF7
open Option renaming toList_some→aF8
open PySem renaming sizeLine_eq→aF9
open List renaming not_mem_nil→aG0,append_assoc→aG1
abbrev aG2.{u}:=@beq_eq_false_iff_ne.{u}
open PySem.Heap renaming get?_update_self→aG3
open Nat renaming zero_le→aG4
open PySem renaming wpAny_setState_of→aG5
open List renaming length_filter_le→aG6,nodup_cons→aG7,getElem_mem→aG8
abbrev aG9:=@of_decide_eq_false
open PySem renaming codeAny_builtin→aH0
open List renaming append_nil→aH1
open PySem renaming mem_of_lookup→aH2
open PySem.Heap.SameBut renaming update→aH3
open PySem renaming wpAny_mono→aH4
open PySem.F renaming plainAttrs_dict→aH5
open List renaming find?_cons→aH6,length_drop→aH7,filter_cons→aH8
open PySem renaming plainId_quiet→aH9
open PySem.Calls renaming spliced_cons→aI0
open List renaming find?_cons_of_neg→aI1
open PySem.F renaming plain_min_loop→aI2
open Nat renaming lt_irrefl→aI3
open List renaming nodup_nil→aI4
open PySem.Calls renaming callWith_builtin→aI5
open PySem renaming wpAny_newObj_type→aI6
open List renaming getElem?_drop→aI7
open Bool renaming false_eq_true→aI8
open PySem.Heap renaming size_push→aI9
open List renaming eq_nil_of_length_eq_zero→aJ0
open PyProof.Rows renaming boot_list→aJ1
open PySem renaming wpAny_Call_Name_kw→aJ2
open PySem.F renaming slot_list_extend→aJ3
open Nat renaming ne_of_gt→aJ4
open List renaming map_nil→aJ5
open PySem renaming wpAny_call_entry→aJ6
open Nat renaming lt_succ_of_lt→aJ7
open List renaming getElem?_inj→aJ8
open Bool renaming eq_false_iff→aJ9
open List renaming replicate_succ→aK0,find?_cons_of_pos→aK1
open PySem renaming wpAny_holding→aK2
open PySem.Paired renaming snoc→aK3
open List renaming map_singleton→aK4,any_cons→aK5
open PySem.F renaming type_list_extend→aK6
open List renaming take_sublist→aK7,flatten_cons→aK8,eraseIdx_cons_succ→aK9
open PySem renaming call_meetsIn→aL0
open PySem.Calls renaming spliced_nil→aL1
open List renaming take_of_length_le→aL2,filter_append→aL3
open PyProof.Rows renaming callWith_type1→aL4
open Array renaming getElem?_toList→aL5
abbrev aL6:=@or_false
abbrev aL7:=@decide_eq_true_eq
open Int renaming toNat_natCast→aL8
open PySem renaming wpAny_passesOwn→aL9
open Classical renaming byContradiction→aM0
open Nat renaming lt_succ_self→aM1
open Sum.inr renaming inj→aM2
open PySem renaming wpAny_truthy_bool→aM3,fits_of_scanBound→aM4
open PySem.F renaming plain_extend_loop→aM5
open List renaming length_reverse→aM6
open Nat renaming lt_succ_iff_lt_or_eq→aM7,le_of_lt→aM8
open PySem renaming wpAny_seqItems→aM9
open List renaming find?_eq_none→aN0
open PySem.F renaming called_set→aN1
open Nat renaming le_succ→aN2
open PySem renaming wpAny_updateSeq→aN3,wpAny_callSpecial?_slot→aN4,tupleKind_room_in1→aN5
open List renaming take_append_drop→aN6,getElem?_eq_none→aN7
open Array renaming size_eq_one_iff→aN8
open List renaming lookup_cons→aN9,any_eq_true→aO0,getElem_toArray→aO1
open PySem renaming wpAny_pyIter_list→aO2
open PySem.Heap.SameBut renaming refl→aO3
open PySem renaming wpAny_tryCatch→aO4,wpAny_setField→aO5
open PySem.F renaming plain_list_iadd→aO6
open List renaming nil_append→aO7,foldl_cons→aO8
open PySem renaming wpAny_isInstance→aO9,wpAny_askSetting→aP0
abbrev aP1.{u}:=@if_false.{u}
open PySem.Calls renaming evalArgs_plain→aP2
open Nat renaming lt_or_ge→aP3
open List renaming mem_filterMap→aP4,take_zero→aP5,mem_range→aP6
abbrev aP7.{u}:=@beq_iff_eq.{u}
open List renaming reverse_cons→aP8,pairwise_map→aP9
abbrev aQ0:=@decide_eq_false_iff_not
open List renaming map_id→aQ1
open Int renaming le_refl→aQ2
open PySem renaming codeAny_mono→aQ3
open List renaming all_eq_true→aQ4
abbrev aQ5.{u}:=@if_true.{u}
open PySem renaming wpAny_setEpoch_of→aQ6,call_meets→aQ7
open PySem.W renaming methodCall_KW→aQ8
open PySem.F renaming slot_list_remove→aQ9,slot_dict_get→aR0
open Option renaming map_some→aR1
open Nat renaming not_lt_zero→aR2,min_eq_left→aR3
open List renaming length_replicate→aR4,forIn_cons→aR5,any_map→aR6
open Bool renaming eq_iff_iff→aR7
open PyProof.Rows renaming boot_sorted→aR8
open PySem renaming wpAny_Call_method0_late→aR9
open PySem.Paired renaming length→aS0
open List renaming mem_of_mem_drop→aS1
open PySem.F renaming entry_min_loop→aS2
open Nat renaming mul_le_mul→aS3
open Bool renaming and_false→aS4
open PySem renaming evalArgs_none→aS5
open PySem.W renaming plainGet_of→aS6
open PySem.F renaming slot_dict_itemiterator_iter→aS7
open PyProof.Rows renaming boot_str→aS8
open List renaming filter_eq_self→aS9,filterMap_cons→aT0
open Int renaming toNat_of_nonneg→aT1
abbrev aT2:=@decide_eq_true_iff
open PySem renaming wpAny_specialOf→aT3,wpAny_execs_nil→aT4,builtinLookup_eq_fast→aT5
open PySem.W renaming callWith_K→aT6
open PySem.F renaming slot_list_pop→aT7
open Nat renaming lt_of_le_of_lt→aT8
open List renaming pairwise_cons→aT9,map_inj_right→aU0,all_cons→aU1
open Int renaming emod_lt_of_pos→aU2
theorem n9(n:Nat)(h:n≤63:=by decide):n≤PySem.sizeLine:=aD8 h (by decide)
theorem zT_(n:Nat)(h:n≤63:=by decide):n<PySem.sizeLine:=aT8 h (by decide)
namespace L2
open PySem PySem.Spec PyProof.Rows
def inClass(s:Stmt)(j:Nat):Stmt:=match s with
 | .ClassDef _ _ _ body _ _ _ _ _ _ _=>body.getD j (.Pass ⟨0,0,0,0⟩)
 | _=>.Pass ⟨0,0,0,0⟩
def a2b(s:Stmt):Arguments:=match s with
 | .FunctionDef _ a _ _ _ _ _ _ _ _=>a
 | _=>{ posonlyargs:=[],args:=[],vararg:=none,kwonlyargs:=[],kw_defaults:=[],kwarg:=none,defaults:=[] }
def W8(s:Stmt):List Stmt:=match s with
 | .FunctionDef _ _ b _ _ _ _ _ _ _=>b
 | _=>[]
def i7(s:Stmt):Scope:=match s with
 | .FunctionDef _ _ _ _ _ _ sc _ _ _=>sc
 | _=>{ kind:=.function,names:=[],isGenerator:=false,isCoroutine:=false }
end L2
namespace My
open PySem PySem.Spec PyProof.Rows L2
set_option maxRecDepth 100000
def top(i:Nat):Stmt:=PySem.Challenge.pw_tallyhall_k11_whole_sweeping.main.body.getD i (.Pass ⟨0,0,0,0⟩)
abbrev a0q:Stmt:=top 6
abbrev a6f:Stmt:=top 7
abbrev V4:Stmt:=top 8
abbrev a4c:Stmt:=top 9
abbrev a7k:Stmt:=top 13
abbrev Z6:Stmt:=top 14
abbrev a1a:Stmt:=top 15
abbrev Y7:Stmt:=top 16
abbrev a8n:Stmt:=top 18
abbrev a8k:Stmt:=top 19
abbrev a9C:Stmt:=top 20
abbrev a0v:Stmt:=top 22
abbrev P3:Stmt:=inClass (top 23) 0
abbrev S9:Stmt:=inClass (top 23) 1
abbrev S6:Stmt:=inClass (top 24) 0
abbrev W5:Stmt:=inClass (top 24) 1
abbrev Y9:Stmt:=inClass (top 24) 2
abbrev a5d:Stmt:=inClass (top 24) 3
abbrev a9e:Stmt:=inClass (top 24) 4
abbrev Z5:Stmt:=inClass (top 24) 5
abbrev a3f:Stmt:=inClass (top 24) 6
abbrev Q8:Stmt:=inClass (top 24) 7
abbrev Z4:Stmt:=inClass (top 24) 8
abbrev U6:Stmt:=inClass (top 24) 9
abbrev U8:Stmt:=top 26
abbrev P7:Stmt:=top 27
abbrev a0f:Stmt:=top 28
abbrev a7d:Stmt:=top 29
abbrev X3:Stmt:=top 30
abbrev a3q:Stmt:=top 31
abbrev a9w:Stmt:=top 32
abbrev U2:Stmt:=top 34
abbrev a9f:Stmt:=top 35
abbrev a9d:Stmt:=top 36
abbrev a8c:Stmt:=top 37
abbrev a8f:Stmt:=top 38
abbrev a2d:Stmt:=top 39
abbrev a4d:Stmt:=top 40
abbrev Z2:Stmt:=top 41
abbrev a9c:Stmt:=top 42
abbrev V2:Stmt:=top 43
abbrev W1:Stmt:=top 44
abbrev Z9:Stmt:=top 45
abbrev Z8:Stmt:=top 46
abbrev Q6:Stmt:=top 47
abbrev S3:Stmt:=top 48
set_option genInjectivity false in
set_option genSizeOf false in
structure C5 where
 f_in_both:Addr
 d_in_both:FuncData
 f_links_for:Addr
 d_links_for:FuncData
 f_links_between:Addr
 d_links_between:FuncData
 f_links_with:Addr
 d_links_with:FuncData
 f_links_by:Addr
 d_links_by:FuncData
 f_longest_row:Addr
 d_longest_row:FuncData
 f_ring_behind:Addr
 d_ring_behind:FuncData
 f_row_or_ring:Addr
 d_row_or_ring:FuncData
 f_reached:Addr
 d_reached:FuncData
 f_value_at:Addr
 d_value_at:FuncData
 f_swept:Addr
 d_swept:FuncData
 f_turned:Addr
 d_turned:FuncData
 f_Dealing___init__:Addr
 d_Dealing___init__:FuncData
 f_Dealing_record:Addr
 d_Dealing_record:FuncData
 f_Tally___init__:Addr
 d_Tally___init__:FuncData
 f_Tally_moment:Addr
 d_Tally_moment:FuncData
 f_Tally_begin:Addr
 d_Tally_begin:FuncData
 f_Tally_look:Addr
 d_Tally_look:FuncData
 f_Tally_put:Addr
 d_Tally_put:FuncData
 f_Tally_leave:Addr
 d_Tally_leave:FuncData
 f_Tally_end:Addr
 d_Tally_end:FuncData
 f_Tally_take_over:Addr
 d_Tally_take_over:FuncData
 f_Tally_sweep:Addr
 d_Tally_sweep:FuncData
 f_Tally_amounts:Addr
 d_Tally_amounts:FuncData
 f_answer_to_end:Addr
 d_answer_to_end:FuncData
 f_answer_under_way:Addr
 d_answer_under_way:FuncData
 f_answer_to:Addr
 d_answer_to:FuncData
 f_answers_at:Addr
 d_answers_at:FuncData
 f_tally_behind:Addr
 d_tally_behind:FuncData
 f_answers:Addr
 d_answers:FuncData
 f_ending:Addr
 d_ending:FuncData
 f__law_unturned:Addr
 d__law_unturned:FuncData
 f__law_room:Addr
 d__law_room:FuncData
 f__law_whole:Addr
 d__law_whole:FuncData
 f__law_table:Addr
 d__law_table:FuncData
 f__law_ware:Addr
 d__law_ware:FuncData
 f__law_deeds:Addr
 d__law_deeds:FuncData
 f__law_ended:Addr
 d__law_ended:FuncData
 f__law_walked:Addr
 d__law_walked:FuncData
 f__law_alike:Addr
 d__law_alike:FuncData
 f__law_reckoned:Addr
 d__law_reckoned:FuncData
 f__law_tallied:Addr
 d__law_tallied:FuncData
 f__law_linked:Addr
 d__law_linked:FuncData
 f__law_ringed:Addr
 d__law_ringed:FuncData
 f__law_ends_right:Addr
 d__law_ends_right:FuncData
 f_law:Addr
 d_law:FuncData
 v_NUMBER:Value
 v_BEGAN:Value
 v_ENDED:Value
 v_LOOKED:Value
 v_PUT:Value
 v_ONE:Value
 v_OTHER:Value
 C_Dealing:Addr
 C_Tally:Addr
noncomputable section
def b6e(s:Stmt):Pos:=match s with
 | .FunctionDef _ _ _ _ _ _ _ _ _ p=>p
 | _=>⟨0,0,0,0⟩
abbrev hF(n q:Str)(s:Stmt)(m:Str)(t c:Nat):FuncData:=PySem.W.fnOf n q (a2b s) (W8 s) (i7 s) .none .none .none (.str m t) none (.ref c) .none
noncomputable def hO(d:FuncData):Obj:=⟨.type "function",none,.func d,#[]⟩
noncomputable def hC(n q:Str)(t l a f r k r2:Nat)(x y:Value)(r3 i j:Nat):Obj:=⟨.type "code",none,.fields ⟨[.str n t,.str q (t+1),.str "/claim/cut.py" (t+2),.int l 0,.int a 0,.int 0 0,.int 0 0,.int f 0,.ref r,.bool true,.int k 0,.ref r2,.none,x,y,.ref r3,.int i 0,.int l 0,.str "/claim/cut.py" j]⟩,#[]⟩
noncomputable def hI(n:Str)(t:Nat)(v:Value):Str×Nat×Value:=(n,t,v)
noncomputable def hD(P:Params)(e:Nat)(l:List (Str×Nat×Value)):Obj:=⟨.type "dict",none,.dict ⟨l.map fun x=>⟨PyData.keyHash P x.1,.str x.1 x.2.1,x.2.2⟩⟩ e,#[]⟩
noncomputable def hK(n:Str)(a s t u:Nat):Obj:=⟨.type "type",none,.cls { name:=n,bases:=[.type "object"],mro:=[.ref a,.type "object"],ns:=s,qualname:=n },⟨[none,none,some (.str n t),some (.str n u),some (.builtin "object.__new__"),some (.bool true)]⟩⟩
noncomputable def hT:C5:=⟨21,hF "in_both" "in_both" a0q "tallyhall.links" 187 20,
 26,hF "links_for" "links_for" a6f "tallyhall.links" 187 25,
 33,hF "links_between" "links_between" V4 "tallyhall.links" 187 32,
 40,hF "links_with" "links_with" a4c "tallyhall.links" 187 39,
 47,hF "links_by" "links_by" a7k "tallyhall.rows" 232 46,
 52,hF "longest_row" "longest_row" Z6 "tallyhall.rows" 232 51,
 59,hF "ring_behind" "ring_behind" a1a "tallyhall.rows" 232 58,
 64,hF "row_or_ring" "row_or_ring" Y7 "tallyhall.rows" 232 63,
 69,hF "reached" "reached" a8n "tallyhall.versions" 274 68,
 76,hF "value_at" "value_at" a8k "tallyhall.versions" 274 75,
 83,hF "swept" "swept" a9C "tallyhall.versions" 274 82,
 88,hF "turned" "turned" a0v "tallyhall.tally" 300 87,
 102,hF "__init__" "Dealing.__init__" P3 "tallyhall.tally" 300 101,
 109,hF "record" "Dealing.record" S9 "tallyhall.tally" 300 108,
 130,hF "__init__" "Tally.__init__" S6 "tallyhall.tally" 300 129,
 137,hF "moment" "Tally.moment" W5 "tallyhall.tally" 300 136,
 144,hF "begin" "Tally.begin" Y9 "tallyhall.tally" 300 143,
 151,hF "look" "Tally.look" a5d "tallyhall.tally" 300 150,
 158,hF "put" "Tally.put" a9e "tallyhall.tally" 300 157,
 165,hF "leave" "Tally.leave" Z5 "tallyhall.tally" 300 164,
 170,hF "end" "Tally.end" a3f "tallyhall.tally" 300 169,
 177,hF "take_over" "Tally.take_over" Q8 "tallyhall.tally" 300 176,
 182,hF "sweep" "Tally.sweep" Z4 "tallyhall.tally" 300 181,
 187,hF "amounts" "Tally.amounts" U6 "tallyhall.tally" 300 186,
 201,hF "answer_to_end" "answer_to_end" U8 "tallyhall.day" 454 200,
 208,hF "answer_under_way" "answer_under_way" P7 "tallyhall.day" 454 207,
 215,hF "answer_to" "answer_to" a0f "tallyhall.day" 454 214,
 222,hF "answers_at" "answers_at" a7d "tallyhall.day" 454 221,
 229,hF "tally_behind" "tally_behind" X3 "tallyhall.day" 454 228,
 236,hF "answers" "answers" a3q "tallyhall.day" 454 235,
 243,hF "ending" "ending" a9w "tallyhall.day" 454 242,
 250,hF "_law_unturned" "_law_unturned" U2 "law_tallyhall_k11_whole_sweeping" 515 249,
 257,hF "_law_room" "_law_room" a9f "law_tallyhall_k11_whole_sweeping" 515 256,
 264,hF "_law_whole" "_law_whole" a9d "law_tallyhall_k11_whole_sweeping" 515 263,
 271,hF "_law_table" "_law_table" a8c "law_tallyhall_k11_whole_sweeping" 515 270,
 278,hF "_law_ware" "_law_ware" a8f "law_tallyhall_k11_whole_sweeping" 515 277,
 285,hF "_law_deeds" "_law_deeds" a2d "law_tallyhall_k11_whole_sweeping" 515 284,
 292,hF "_law_ended" "_law_ended" a4d "law_tallyhall_k11_whole_sweeping" 515 291,
 299,hF "_law_walked" "_law_walked" Z2 "law_tallyhall_k11_whole_sweeping" 515 298,
 306,hF "_law_alike" "_law_alike" a9c "law_tallyhall_k11_whole_sweeping" 515 305,
 311,hF "_law_reckoned" "_law_reckoned" V2 "law_tallyhall_k11_whole_sweeping" 515 310,
 318,hF "_law_tallied" "_law_tallied" W1 "law_tallyhall_k11_whole_sweeping" 515 317,
 323,hF "_law_linked" "_law_linked" Z9 "law_tallyhall_k11_whole_sweeping" 515 322,
 330,hF "_law_ringed" "_law_ringed" Z8 "law_tallyhall_k11_whole_sweeping" 515 329,
 337,hF "_law_ends_right" "_law_ends_right" Q6 "law_tallyhall_k11_whole_sweeping" 515 336,
 342,hF "law" "law" S3 "law_tallyhall_k11_whole_sweeping" 515 341,
 (.int 0 189),
 (.int 1 191),
 (.int 2 193),
 (.int 3 195),
 (.int 4 197),
 (.int 0 234),
 (.int 1 236),
 112,
 190⟩
noncomputable def hAS:List Nat:=[3,20,21,25,26,32,33,39,40,46,47,51,52,58,59,63,64,68,69,75,76,82,83,87,88,101,102,108,109,111,112,129,130,136,137,143,144,150,151,157,158,164,165,169,170,176,177,181,182,186,187,189,190,200,201,207,208,214,215,221,222,228,229,235,236,242,243,249,250,256,257,263,264,270,271,277,278,284,285,291,292,298,299,305,306,310,311,317,318,322,323,329,330,336,337,341,342]
noncomputable def KK(P:Params):PySem.W.Frag:=[(3,hD P 52 [hI "__name__" 165 (.str "law_tallyhall_k11_whole_sweeping" 515),hI "__doc__" 166 .none,hI "__package__" 167 .none,hI "__loader__" 168 (.builtin "__main__.__loader__#opaque"),hI "__spec__" 169 .none,hI "__annotations__" 170 (.ref 6),hI "__builtins__" 171 (.ref 4),hI "__file__" 173 (.str "/claim/cut.py" 172),hI "__cached__" 174 .none,hI "NUMBER" 190 (.int 0 189),hI "BEGAN" 192 (.int 1 191),hI "ENDED" 194 (.int 2 193),hI "LOOKED" 196 (.int 3 195),hI "PUT" 198 (.int 4 197),hI "in_both" 206 (.ref 21),hI "links_for" 212 (.ref 26),hI "links_between" 221 (.ref 33),hI "links_with" 231 (.ref 40),hI "ONE" 235 (.int 0 234),hI "OTHER" 237 (.int 1 236),hI "links_by" 249 (.ref 47),hI "longest_row" 255 (.ref 52),hI "ring_behind" 267 (.ref 59),hI "row_or_ring" 273 (.ref 64),hI "reached" 281 (.ref 69),hI "value_at" 290 (.ref 76),hI "swept" 299 (.ref 83),hI "turned" 307 (.ref 88),hI "Dealing" 348 (.ref 112),hI "Tally" 453 (.ref 190),hI "answer_to_end" 464 (.ref 201),hI "answer_under_way" 473 (.ref 208),hI "answer_to" 481 (.ref 215),hI "answers_at" 491 (.ref 222),hI "tally_behind" 499 (.ref 229),hI "answers" 506 (.ref 236),hI "ending" 514 (.ref 243),hI "_law_unturned" 528 (.ref 250),hI "_law_room" 537 (.ref 257),hI "_law_whole" 544 (.ref 264),hI "_law_table" 553 (.ref 271),hI "_law_ware" 562 (.ref 278),hI "_law_deeds" 586 (.ref 285),hI "_law_ended" 593 (.ref 292),hI "_law_walked" 611 (.ref 299),hI "_law_alike" 619 (.ref 306),hI "_law_reckoned" 625 (.ref 311),hI "_law_tallied" 641 (.ref 318),hI "_law_linked" 647 (.ref 323),hI "_law_ringed" 658 (.ref 330),hI "_law_ends_right" 669 (.ref 337),hI "law" 675 (.ref 342)]),
 (20,hC "in_both" "in_both" 199 7 2 3 15 181 16 (.ref 17) (.ref 18) 19 204 205),
 (21,hO hT.d_in_both),
 (25,hC "links_for" "links_for" 207 9 4 3 22 181 23 .none .none 24 210 211),
 (26,hO hT.d_links_for),
 (32,hC "links_between" "links_between" 213 11 2 3 27 181 28 (.ref 29) (.ref 30) 31 219 220),
 (33,hO hT.d_links_between),
 (39,hC "links_with" "links_with" 222 20 2 3 34 181 35 (.ref 36) (.ref 37) 38 229 230),
 (40,hO hT.d_links_with),
 (46,hC "links_by" "links_by" 238 29 3 3 41 181 42 (.ref 43) (.ref 44) 45 247 248),
 (47,hO hT.d_links_by),
 (51,hC "longest_row" "longest_row" 250 36 2 3 48 181 49 .none .none 50 253 254),
 (52,hO hT.d_longest_row),
 (58,hC "ring_behind" "ring_behind" 256 53 1 3 53 181 54 (.ref 55) (.ref 56) 57 265 266),
 (59,hO hT.d_ring_behind),
 (63,hC "row_or_ring" "row_or_ring" 268 65 2 3 60 181 61 .none .none 62 271 272),
 (64,hO hT.d_row_or_ring),
 (68,hC "reached" "reached" 276 74 2 3 65 181 66 .none .none 67 279 280),
 (69,hO hT.d_reached),
 (75,hC "value_at" "value_at" 282 76 2 3 70 181 71 (.ref 72) (.ref 73) 74 288 289),
 (76,hO hT.d_value_at),
 (82,hC "swept" "swept" 291 81 2 3 77 181 78 (.ref 79) (.ref 80) 81 297 298),
 (83,hO hT.d_swept),
 (87,hC "turned" "turned" 302 85 2 3 84 181 85 .none .none 86 305 306),
 (88,hO hT.d_turned),
 (101,hC "__init__" "Dealing.__init__" 320 90 3 3 96 181 97 (.ref 98) (.ref 99) 100 326 327),
 (102,hO hT.d_Dealing___init__),
 (108,hC "record" "Dealing.record" 329 96 2 3 103 181 104 (.ref 105) (.ref 106) 107 334 335),
 (109,hO hT.d_Dealing_record),
 (111,hD P 4 [hI "__module__" 315 (.str "tallyhall.tally" 300),hI "__firstlineno__" 319 (.int 88 318),hI "__init__" 328 (.ref 102),hI "record" 336 (.ref 109),hI "__static_attributes__" 341 (.ref 110),hI "__dict__" 343 (.ref 113),hI "__weakref__" 345 (.ref 114),hI "__doc__" 346 .none]),
 (112,hK "Dealing" 112 111 308 316),
 (129,hC "__init__" "Tally.__init__" 361 100 1 3 124 181 125 (.ref 126) (.ref 127) 128 365 366),
 (130,hO hT.d_Tally___init__),
 (136,hC "moment" "Tally.moment" 368 108 1 3 131 181 132 (.ref 133) (.ref 134) 135 372 373),
 (137,hO hT.d_Tally_moment),
 (143,hC "begin" "Tally.begin" 375 111 1 3 138 181 139 (.ref 140) (.ref 141) 142 380 381),
 (144,hO hT.d_Tally_begin),
 (150,hC "look" "Tally.look" 383 117 3 3 145 181 146 (.ref 147) (.ref 148) 149 390 391),
 (151,hO hT.d_Tally_look),
 (157,hC "put" "Tally.put" 393 124 4 3 152 181 153 (.ref 154) (.ref 155) 156 401 402),
 (158,hO hT.d_Tally_put),
 (164,hC "leave" "Tally.leave" 404 128 2 3 159 181 160 (.ref 161) (.ref 162) 163 409 410),
 (165,hO hT.d_Tally_leave),
 (169,hC "end" "Tally.end" 412 131 2 3 166 181 167 .none .none 168 415 416),
 (170,hO hT.d_Tally_end),
 (176,hC "take_over" "Tally.take_over" 418 144 2 3 171 181 172 (.ref 173) (.ref 174) 175 425 426),
 (177,hO hT.d_Tally_take_over),
 (181,hC "sweep" "Tally.sweep" 428 148 1 3 178 181 179 .none .none 180 431 432),
 (182,hO hT.d_Tally_sweep),
 (186,hC "amounts" "Tally.amounts" 434 158 1 3 183 181 184 .none .none 185 437 438),
 (187,hO hT.d_Tally_amounts),
 (189,hD P 4 [hI "__module__" 356 (.str "tallyhall.tally" 300),hI "__firstlineno__" 360 (.int 98 359),hI "__init__" 367 (.ref 130),hI "moment" 374 (.ref 137),hI "begin" 382 (.ref 144),hI "look" 392 (.ref 151),hI "put" 403 (.ref 158),hI "leave" 411 (.ref 165),hI "end" 417 (.ref 170),hI "take_over" 427 (.ref 177),hI "sweep" 433 (.ref 182),hI "amounts" 439 (.ref 187),hI "__static_attributes__" 446 (.ref 188),hI "__dict__" 448 (.ref 191),hI "__weakref__" 450 (.ref 192),hI "__doc__" 451 .none]),
 (190,hK "Tally" 190 189 349 357),
 (200,hC "answer_to_end" "answer_to_end" 456 161 2 3 195 181 196 (.ref 197) (.ref 198) 199 462 463),
 (201,hO hT.d_answer_to_end),
 (207,hC "answer_under_way" "answer_under_way" 465 166 2 3 202 181 203 (.ref 204) (.ref 205) 206 471 472),
 (208,hO hT.d_answer_under_way),
 (214,hC "answer_to" "answer_to" 474 177 2 3 209 181 210 (.ref 211) (.ref 212) 213 479 480),
 (215,hO hT.d_answer_to),
 (221,hC "answers_at" "answers_at" 482 185 2 3 216 181 217 (.ref 218) (.ref 219) 220 489 490),
 (222,hO hT.d_answers_at),
 (228,hC "tally_behind" "tally_behind" 492 190 1 3 223 181 224 (.ref 225) (.ref 226) 227 497 498),
 (229,hO hT.d_tally_behind),
 (235,hC "answers" "answers" 500 194 1 3 230 181 231 (.ref 232) (.ref 233) 234 504 505),
 (236,hO hT.d_answers),
 (242,hC "ending" "ending" 507 196 1 3 237 181 238 (.ref 239) (.ref 240) 241 512 513),
 (243,hO hT.d_ending),
 (249,hC "_law_unturned" "_law_unturned" 517 200 2 3 244 181 245 (.ref 246) (.ref 247) 248 526 527),
 (250,hO hT.d__law_unturned),
 (256,hC "_law_room" "_law_room" 529 221 3 3 251 181 252 (.ref 253) (.ref 254) 255 535 536),
 (257,hO hT.d__law_room),
 (263,hC "_law_whole" "_law_whole" 538 225 1 3 258 181 259 (.ref 260) (.ref 261) 262 542 543),
 (264,hO hT.d__law_whole),
 (270,hC "_law_table" "_law_table" 545 227 2 3 265 181 266 (.ref 267) (.ref 268) 269 551 552),
 (271,hO hT.d__law_table),
 (277,hC "_law_ware" "_law_ware" 554 238 2 3 272 181 273 (.ref 274) (.ref 275) 276 560 561),
 (278,hO hT.d__law_ware),
 (284,hC "_law_deeds" "_law_deeds" 563 241 1 3 279 181 280 (.ref 281) (.ref 282) 283 584 585),
 (285,hO hT.d__law_deeds),
 (291,hC "_law_ended" "_law_ended" 587 279 1 3 286 181 287 (.ref 288) (.ref 289) 290 591 592),
 (292,hO hT.d__law_ended),
 (298,hC "_law_walked" "_law_walked" 594 281 2 3 293 181 294 (.ref 295) (.ref 296) 297 609 610),
 (299,hO hT.d__law_walked),
 (305,hC "_law_alike" "_law_alike" 612 308 2 3 300 181 301 (.ref 302) (.ref 303) 304 617 618),
 (306,hO hT.d__law_alike),
 (310,hC "_law_reckoned" "_law_reckoned" 620 316 2 3 307 181 308 .none .none 309 623 624),
 (311,hO hT.d__law_reckoned),
 (317,hC "_law_tallied" "_law_tallied" 626 344 2 3 312 181 313 (.ref 314) (.ref 315) 316 639 640),
 (318,hO hT.d__law_tallied),
 (322,hC "_law_linked" "_law_linked" 642 368 2 3 319 181 320 .none .none 321 645 646),
 (323,hO hT.d__law_linked),
 (329,hC "_law_ringed" "_law_ringed" 648 374 2 3 324 181 325 (.ref 326) (.ref 327) 328 656 657),
 (330,hO hT.d__law_ringed),
 (336,hC "_law_ends_right" "_law_ends_right" 659 386 2 3 331 181 332 (.ref 333) (.ref 334) 335 667 668),
 (337,hO hT.d__law_ends_right),
 (341,hC "law" "law" 670 391 1 3 338 181 339 .none .none 340 673 674),
 (342,hO hT.d_law)]
noncomputable def hQ:Program:={ PySem.Challenge.pw_tallyhall_k11_whole_sweeping with main:={ PySem.Challenge.pw_tallyhall_k11_whole_sweeping.main with body:=[S3] } }
noncomputable def hL:List Str:=(["__name__","NUMBER","BEGAN","ENDED","LOOKED","PUT","in_both","links_for","links_between","links_with","ONE","OTHER","links_by","longest_row","ring_behind","row_or_ring","reached","value_at","swept","turned","Dealing","Tally","answer_to_end","answer_under_way","answer_to","answers_at","tally_behind","answers","ending","_law_unturned","_law_room","_law_whole","_law_table","_law_ware","_law_deeds","_law_ended","_law_walked","_law_alike","_law_reckoned","_law_tallied","_law_linked","_law_ringed","_law_ends_right"]:List String).map Str.ofString
theorem hE:∀P,hAS=(KK P).map (·.1):=fun _=>rfl
noncomputable def hH:PySem.W.Hook:=PySem.W.kHook KK hAS hE
noncomputable def hX(s:Shared):Bool:=PySem.W.xlAt hQ [] s&&PySem.W.recOk (PySem.W.RowW.records (PySem.W.OpenRow.toRowW (PySem.W.OpenLaw.row PySem.Challenge.rw_tallyhall_k11_whole_sweeping))) s
theorem b1E:PySem.W.LeftO PySem.Challenge.pw_tallyhall_k11_whole_sweeping hQ hL hX (PySem.W.Hook.obs hH) (PySem.W.Hook.val hH) 3990:=fun w=>by kernel_rfl
end
end My
namespace L2
open PySem PySem.Spec PyProof.Rows
abbrev Key:=Sum Int Str
def a6j:Key→Value→Bool
 | .inl k,v=>Value.isInt k v
 | .inr x,v=>Value.isStrOf x v
def b5E(w:World):Key→Int
 | .inl k=>hashInt k
 | .inr x=>hashStr w x
theorem D8:∀{k:Key} {v:Value},a6j k v=true→(∃i t,k=Sum.inl i∧v=Value.int i t)∨(∃x t,k=Sum.inr x∧v=Value.str x t)
 | .inl i,v,h=>by
  obtain⟨t,e⟩:=Value.isInt_shape (k:=i) (v:=v) h
  exact .inl ⟨i,t,rfl,e⟩
 | .inr x,v,h=>by
  obtain⟨t,e⟩:=Value.isStrOf_shape (x:=x) (v:=v) h
  exact .inr ⟨x,t,rfl,e⟩
theorem b6c(i:Int)(t:Tok):a6j (.inl i) (.int i t)=true:=by simp[a6j,Value.isInt]
theorem b8e(x:Str)(t:Tok):a6j (.inr x) (.str x t)=true:=by simp[a6j,Value.isStrOf]
theorem b3y(a b:Int):decide ((Sum.inl a:Key)=Sum.inl b)=(a==b):=by
 by_cases e:a=b
 ·subst e;simp
 ·have h:¬(Sum.inl a:Key)=Sum.inl b:=fun q=>e (Sum.inl.inj q)
  rw[aB7 h]
  exact(aG2.mpr e).symm
theorem b1w(a b:Str):decide ((Sum.inr a:Key)=Sum.inr b)=decide (a=b):=by
 by_cases e:a=b
 ·subst e;simp
 ·have h:¬(Sum.inr a:Key)=Sum.inr b:=fun q=>e (aM2 q)
  rw[aB7 h,aB7 e]
theorem b4z(a:Int)(b:Str):decide ((Sum.inl a:Key)=Sum.inr b)=false:=aB7 (fun q=>nomatch q)
theorem b2w(a:Str)(b:Int):decide ((Sum.inr a:Key)=Sum.inl b)=false:=aB7 (fun q=>nomatch q)
def r8(prog:Program)(w:World):PySem.KeyKind prog w Key where
 is:=a6j
 hash:=b5E w
 inj:=fun v a b ha hb=>by
  rcases D8 ha with ⟨i,t,rfl,rfl⟩ | ⟨x,t,rfl,rfl⟩
  ·rcases D8 hb with ⟨j,u,rfl,e⟩ | ⟨y,u,rfl,e⟩
   ·injection e with e1 _;rw[e1]
   ·exact nomatch e
  ·rcases D8 hb with ⟨j,u,rfl,e⟩ | ⟨y,u,rfl,e⟩
   ·exact nomatch e
   ·injection e with e1 _;rw[e1]
 byValue:=fun k v h=>by
  rcases D8 h with ⟨i,t,rfl,rfl⟩ | ⟨x,t,rfl,rfl⟩<;>rfl
 pyHash:=fun hv h=>by
  rcases D8 hv with ⟨i,t,rfl,rfl⟩ | ⟨x,t,rfl,rfl⟩
  ·exact wpAny_pyHash_int h
  ·exact wpAny_pyHash_str h
 eqBool:=fun hu hv h=>by
  rcases D8 hu with ⟨i,t,rfl,rfl⟩ | ⟨x,t,rfl,rfl⟩
  ·rcases D8 hv with ⟨j,u,rfl,rfl⟩ | ⟨y,u,rfl,rfl⟩
   ·rw[b3y]at h;exact wpAny_eqBool_int h
   ·rw[b4z]at h;exact SeqAt.EqAt.int_str i t y u _ _ _ _ h
  ·rcases D8 hv with ⟨j,u,rfl,rfl⟩ | ⟨y,u,rfl,rfl⟩
   ·rw[b2w]at h;exact SeqAt.EqAt.str_int x t j u _ _ _ _ h
   ·rw[b1w]at h;exact wpAny_eqBool_str h
 «strs»:=fun k x t v h=>by
  rcases D8 h with ⟨i,u,rfl,e⟩ | ⟨y,u,rfl,e⟩
  ·exact nomatch e
  ·injection e with e1 _
   subst e1
   cases v<;>rfl
theorem a9T(prog:Program)(w:World)(i:Int)(t:Tok):(r8 prog w).is (.inl i) (.int i t)=true:=b6c i t
theorem a8T(prog:Program)(w:World)(x:Str)(t:Tok):(r8 prog w).is (.inr x) (.str x t)=true:=b8e x t
open PySem PySem.Spec PyProof.Rows
inductive V where
 | non | bl (b:Bool) | int (i:Int) | str (x:Str) | byt (b:Array UInt8) | flt (b:UInt64) | ref (a:Addr) | ty (n:String)
 deriving DecidableEq
def RelV:V→Value→Prop
 | .non,u=>u=Value.none
 | .bl b,u=>u=Value.bool b
 | .int i,u=>∃t,u=Value.int i t
 | .str x,u=>∃t,u=Value.str x t
 | .byt b,u=>∃t,u=Value.bytes b t
 | .flt b,u=>∃t,u=Value.float b t
 | .ref a,u=>u=Value.ref a
 | .ty n,u=>u=Value.type n
abbrev j4:List V→List Value→Prop:=Paired RelV
theorem j4.length{xs:List V}{us:List Value}(r:j4 xs us):xs.length=us.length:=aS0 r
theorem j4.get:∀{xs:List V} {us:List Value} {i:Nat} {x:V},j4 xs us→xs[i]?=some x→∃u,us[i]?=some u∧RelV x u
 | _,_,_,_,.nil,e=>by simp at e
 | _,_,0,_,.cons r _,e=>by simp at e;subst e;exact⟨_,rfl,r⟩
 | _,_,i+1,x,.cons _ t,e=>by
  obtain⟨u,h1,h2⟩:=j4.get (i:=i) (x:=x) t (by simpa using e)
  exact⟨u,by simpa using h1,h2⟩
theorem j4.set{x:V}{u:Value}(r:RelV x u):∀{xs:List V} {us:List Value} (i:Nat),j4 xs us→j4 (xs.set i x) (us.set i u)
 | _,_,_,.nil=>.nil
 | _,_,0,.cons _ t=>.cons r t
 | _,_,i+1,.cons q t=>.cons q (j4.set r i t)
theorem j4.append:∀{xs ys:List V} {us ws:List Value},j4 xs us→j4 ys ws→j4 (xs++ys) (us++ws)
 | _,_,_,_,.nil,s=>s
 | _,_,_,_,.cons r t,s=>.cons r (j4.append t s)
theorem j4.take:∀{xs:List V} {us:List Value} (n:Nat),j4 xs us→j4 (xs.take n) (us.take n)
 | _,_,0,_=>.nil
 | _,_,_+1,.nil=>.nil
 | _,_,n+1,.cons r t=>.cons r (j4.take n t)
theorem j4.drop:∀{xs:List V} {us:List Value} (n:Nat),j4 xs us→j4 (xs.drop n) (us.drop n)
 | _,_,0,r=>r
 | _,_,_+1,.nil=>.nil
 | _,_,n+1,.cons _ t=>j4.drop n t
def N9:Option V→Option Value→Prop
 | some v,some u=>RelV v u
 | none,none=>True
 | _,_=>False
def KV{κ:Type}:List (κ×V)→List (κ×Value)→Prop:=Paired fun(p:κ×V) (q:κ×Value)=>p.1=q.1∧RelV p.2 q.2
def kV:Key→V
 | .inl i=>.int i
 | .inr x=>.str x
inductive HO where
 | lst (xs:List V)
 | tup (xs:List V)
 | dK (kvs:List (Key×V)) | dT (kvs:List (List Key×V))
 | set (S:Int→Bool) (n:Nat)
 | ins (C dx:Addr) (fs:List (Str×V))
 | own (x:Addr)
 | xd (fs:List (Str×V))
 | met (f x:Addr)
 | rng (lo hi:Int)
 | frz (o:Obj) (u:HO)
 | tbl (ps:Array Value)
 | ext (φ:Heap→Prop)
abbrev Hp:=Addr→Option HO
def upd(H:Hp)(a:Addr)(o:HO):Hp:=fun b=>if b=a then some o else H b
theorem b0{H:Hp}{a:Addr}{o:HO}:upd H a o a=some o:=by unfold upd;rw[aB0 rfl]
theorem b7{H:Hp}{a b:Addr}{o:HO}(h:b≠a):upd H a o b=H b:=by unfold upd;rw[aA4 h]
theorem a0Y{H:Hp}{a:Addr}{o u:HO}:upd (upd H a o) a u=upd H a u:=by
 funext b;unfold upd;split<;>rfl
theorem a9x{H:Hp}{a b:Addr}{o u:HO}(h:H a=some o)(h':H b=some u)(d:o≠u):a≠b:=by
 intro e;subst e;rw[h]at h';exact d (aD1 h')
theorem d6{H:Hp}{a b:Addr}{o:HO}(h:H a=some o)(h':H b=none):a≠b:=by
 intro e;subst e;rw[h]at h';cases h'
section
variable(P:Program)(w:World)
def A6(H:Hp)(h:Heap)(a:Addr):HO→Prop
 | .lst xs=>xs.length≤sizeLine∧∃(its:List Value) (n:Nat),j4 xs its∧h.get? a=some { cls:=.type "list",data:=.seq its.toArray n }
 | .tup xs=>xs.length≤sizeLine∧∃its:List Value,j4 xs its∧IsTup h a its.toArray
 | .dK kvs=>kvs.length≤sizeLine∧(a==sysModules)=false∧∃vs,KV kvs vs∧h.DictOf (r8 P w) a vs
 | .dT kvs=>kvs.length≤sizeLine∧(a==sysModules)=false∧∃xs:List (List Key×Addr×Value),
   Paired (fun(p:List Key×V) (q:List Key×Addr×Value)=>p.1=q.1∧H q.2.1=some (.tup (p.1.map kV))∧RelV p.2 q.2.2) kvs xs ∧
   ∃o es ep,h.get? a=some o∧o.ExactDict∧o.data=.dict es ep∧es.toList=xs.map (entryOfKey (tupleKind (r8 P w)))∧(xs.map (·.1)).Nodup
 | .set S n=>h.SetOf (intKind P w) a S n
 | .ins C dx fs=>H dx=some (.own a)∧fs.length≤1000∧dx≠a∧h.get? a=some (PySem.W.instObj C dx) ∧
   ∃mA,h.Ns1 dx mA∧(∀f,N9 (fs.lookup f) (mA f))∧PySem.Within mA (fs.map (·.1))
 | .own _=>∃o,h.get? a=some o
 | .xd fs=>∃mA,h.Ns1 a mA∧∀f,N9 (fs.lookup f) (mA f)
 | .rng lo hi=>∃t u v,h.get? a=some { cls:=.type "range",data:=.fields #[.int lo t,.int hi u,.int 1 v] }
 | .frz o u=>h.get? a=some o∧A6 H h a u
 | .tbl ps=>h.get? a=some { cls:=.none,data:=.fields ps }
 | .met f x=>h.get? a=some (PySem.W.methodObj (.ref f) (.ref x))
 | .ext φ=>φ h∧(∃o,h.get? a=some o)∧∀h1 h2:Heap,φ h1→(∀o,h1.get? a=some o→h2.get? a=some o)→φ h2
def K2(H:Hp)(h:Heap):Prop:=∀a o,H a=some o→A6 P w H h a o
end
section
variable{P:Program}{w:World}{H H':Hp}{h h':Heap}{a:Addr}{o:HO}
theorem A6.lt(x:A6 P w H h a o):a<h.objs.size:=by
 cases o with
 | lst xs=>obtain⟨_,_,_,_,e⟩:=x;exact aB5 e
 | tup xs=>obtain⟨_,_,_,p⟩:=x;exact p.lt
 | dK kvs=>obtain⟨_,_,_,_,o,_,_,e,_⟩:=x;exact aB5 e
 | dT kvs=>obtain⟨_,_,_,_,o,_,_,e,_⟩:=x;exact aB5 e
 | set S n=>obtain⟨o,_,_,_,e,_⟩:=x;exact aB5 e
 | ins C dx fs=>obtain⟨_,_,_,e,_⟩:=x;exact aB5 e
 | own y=>obtain⟨_,e⟩:=x;exact aB5 e
 | xd fs=>obtain⟨_,⟨_,_,_,e,_⟩,_⟩:=x;exact aB5 e
 | rng lo hi=>obtain⟨_,_,_,e⟩:=x;exact aB5 e
 | frz ob u=>obtain⟨e,_⟩:=x;exact aB5 e
 | tbl ps=>exact aB5 (show h.get? a=some _ from x)
 | met f y=>exact aB5 (show h.get? a=some _ from x)
 | ext φ=>obtain⟨_,⟨_,e⟩,_⟩:=x;exact aB5 e
theorem Paired.mapP{α β:Type}{F G:α→β→Prop}:∀{l₁:List α} {l₂:List β},Paired F l₁ l₂→(∀a b,F a b→G a b)→Paired G l₁ l₂
 | _,_,.nil,_=>.nil
 | _,_,.cons r t,f=>.cons (f _ _ r) (Paired.mapP t f)
theorem A6.stay(x:A6 P w H h a o)(k:∀b u,(b=a∨H b=some (.own a))→h.get? b=some u→h'.get? b=some u)
  (ho:∀b,H b=some (.own a)→H' b=some (.own a)) (ht:∀b xs,H b=some (.tup xs)→H' b=some (.tup xs)):A6 P w H' h' a o:=by
 induction o with
 | lst xs=>obtain⟨z,its,n,r,e⟩:=x;exact⟨z,its,n,r,k _ _ (.inl rfl) e⟩
 | tup xs=>obtain⟨z,its,r,ob,e,c⟩:=x;exact⟨z,its,r,ob,k _ _ (.inl rfl) e,c⟩
 | dK kvs=>obtain⟨z,y,vs,r,ob,es,ep,e,c⟩:=x;exact⟨z,y,vs,r,ob,es,ep,k _ _ (.inl rfl) e,c⟩
 | dT kvs=>
  obtain⟨z,y,xs,r,ob,es,ep,e,c⟩:=x
  exact⟨z,y,xs,Paired.mapP r fun p q z=>⟨z.1,ht _ _ z.2.1,z.2.2⟩,ob,es,ep,k _ _ (.inl rfl) e,c⟩
 | set S n=>obtain⟨ob,es,ep,t,e,c⟩:=x;exact⟨ob,es,ep,t,k _ _ (.inl rfl) e,c⟩
 | ins C dx fs=>
  obtain⟨d,z,ne,e,mA,⟨od,es,ep,e2,c⟩,r⟩:=x
  exact⟨ho _ d,z,ne,k _ _ (.inl rfl) e,mA,⟨od,es,ep,k _ _ (.inr d) e2,c⟩,r⟩
 | own y=>obtain⟨ob,e⟩:=x;exact⟨ob,k _ _ (.inl rfl) e⟩
 | xd fs=>obtain⟨mA,⟨od,es,ep,e,c⟩,r⟩:=x;exact⟨mA,⟨od,es,ep,k _ _ (.inl rfl) e,c⟩,r⟩
 | rng lo hi=>obtain⟨t,u,v,e⟩:=x;exact⟨t,u,v,k _ _ (.inl rfl) e⟩
 | frz ob u ih=>obtain⟨e,q⟩:=x;exact⟨k _ _ (.inl rfl) e,ih q⟩
 | tbl ps=>
  have e:h.get? a=some { cls:=.none,data:=.fields ps }:=x
  show h'.get? a=some { cls:=.none,data:=.fields ps }
  exact k a _ (.inl rfl) e
 | met f y=>
  have e:h.get? a=some (PySem.W.methodObj (.ref f) (.ref y)):=x
  show h'.get? a=some (PySem.W.methodObj (.ref f) (.ref y))
  exact k a _ (.inl rfl) e
 | ext φ=>obtain⟨p,⟨o,e⟩,st⟩:=x;exact⟨st _ _ p fun o q=>k _ _ (.inl rfl) q,⟨o,k _ _ (.inl rfl) e⟩,st⟩
theorem K2.lt(x:K2 P w H h)(e:H a=some o):a<h.objs.size:=(x a o e).lt
theorem K2.fresh(x:K2 P w H h)(e:h.objs.size≤a):H a=none:=by
 cases q:H a with
 | none=>rfl
 | some u=>exact absurd (aE6 (x.lt q) e) (aI3 _)
theorem K2.kept(x:K2 P w H h)(k:∀b u,h.get? b=some u→h'.get? b=some u):K2 P w H h':=fun a o e=>
 (x a o e).stay (fun b u _ q=>k b u q) (fun _ q=>q) fun _ _ q=>q
theorem K2.laid(x:K2 P w H h)(k:∀b u,h.get? b=some u→h'.get? b=some u)(hp:h.objs.size≤a)(new:A6 P w (upd H a o) h' a o):K2 P w (upd H a o) h':=fun b u e=>by
 have hn:=x.fresh hp
 by_cases hb:b=a
 ·subst hb;rw[b0]at e;cases e;exact new
 ·rw[b7 hb]at e
  exact(x b u e).stay (fun c v _ q=>k c v q) (fun c q=>by rw[b7 (d6 q hn)];exact q) fun c xs q=>by rw[b7 (d6 q hn)];exact q
end
def Rd(H:Hp)(a:Addr)(u:HO):Prop:=H a=some u∨∃o,H a=some (.frz o u)
theorem Rd.of{H:Hp}{a:Addr}{u:HO}(h:H a=some u):Rd H a u:=.inl h
theorem Rd.ok{P:Program}{w:World}{H:Hp}{h:Heap}{a:Addr}{u:HO}(r:Rd H a u)(x:K2 P w H h):A6 P w H h a u:=by
 rcases r with r | ⟨o,r⟩
 ·exact x a u r
 ·obtain⟨_,q⟩:=x a _ r
  exact q
def Mut:Option HO→Prop
 | some (.lst _)=>True
 | some (.dK _)=>True
 | some (.dT _)=>True
 | some (.set _ _)=>True
 | some (.ins _ _ _)=>True
 | some (.ext _)=>True
 | _=>False
section
variable{P:Program}{w:World}{H:Hp}{h h':Heap}{x e:Addr}{o':HO}
theorem K2.write(ok:K2 P w H h)(mu:Mut (H x))(he:e=x∨H e=some (.own x))(k:∀b u,b≠e→h.get? b=some u→h'.get? b=some u)(heo:∃u,h'.get? e=some u)
  (new:A6 P w (upd H x o') h' x o'):K2 P w (upd H x o') h':=fun b u q=>by
 have nown:∀c y,H c=some (.own y)→c≠x:=fun c y r z=>by subst z;rw[r]at mu;exact mu
 have ntup:∀c xs,H c=some (.tup xs)→c≠x:=fun c xs r z=>by subst z;rw[r]at mu;exact mu
 by_cases hb:b=x
 ·subst hb;rw[b0]at q;cases q;exact new
 ·rw[b7 hb]at q
  by_cases hbe:b=e
  ·have q':H b=some (.own x):=by
    rcases he with z | z
    ·exact absurd (hbe.trans z) hb
    ·rw[hbe];exact z
   rw[q]at q';cases q'
   obtain⟨v,hv⟩:=heo
   exact⟨v,by rw[hbe];exact hv⟩
  ·refine(ok b u q).stay (fun c v hc r=>k c v ?_ r) (fun c r=>by rw[b7 (nown c b r)];exact r) fun c xs r=>by rw[b7 (ntup c xs r)];exact r
   rcases hc with rfl | hc
   ·exact hbe
   ·rintro rfl
    rcases he with z | z
    ·exact nown c b hc z
    ·rw[hc]at z;cases z;exact hb rfl
end
structure Un(fs ex:List Addr)(H H':Hp)(h h':Heap):Prop where
 keep:∀b o,h.get? b=some o→H b=none→b∉fs→b∉ex→h'.get? b=some o
 slot:∀b o,h.get? b=some o→H b=none→b∈fs→b∉ex→∃sl,h'.get? b=some { o with slots:=sl }
 free:∀b o,h.get? b=some o→H b=none→b∉ex→H' b=none
 there:∀b o,h.get? b=some o→b∉ex→∃o',h'.get? b=some o'
 tups:∀b xs,H b=some (.tup xs)→H' b=some (.tup xs)
 frzs:∀b o u,H b=some (.frz o u)→H' b=some (.frz o u)
 tbls:∀b ps,H b=some (.tbl ps)→∃more,H' b=some (.tbl (ps++more))
section
variable{fs fs' ex ex':List Addr}{H H1 H2:Hp}{h h1 h2 h':Heap}{a x e:Addr}{o:HO}
theorem Un.any(u:Un fs ex H H1 h h1){b:Addr}{ob:Obj}(q:h.get? b=some ob)(n:H b=none)(hx:b∉ex):∃sl,h1.get? b=some { ob with slots:=sl }:=by
 by_cases hb:b∈fs
 ·exact u.slot b ob q n hb hx
 ·exact⟨ob.slots,u.keep b ob q n hb hx⟩
theorem Un.trans(a:Un fs ex H H1 h h1)(b:Un fs ex H1 H2 h1 h2):Un fs ex H H2 h h2 where
 keep:=fun c ob q n hc hx=>b.keep c ob (a.keep c ob q n hc hx) (a.free c ob q n hx) hc hx
 slot:=fun c ob q n hc hx=>by
  obtain⟨sl,e1⟩:=a.slot c ob q n hc hx
  obtain⟨sl',e2⟩:=b.slot c _ e1 (a.free c ob q n hx) hc hx
  exact⟨sl',e2⟩
 free:=fun c ob q n hx=>by
  obtain⟨o',e1⟩:=a.there c ob q hx
  exact b.free c o' e1 (a.free c ob q n hx) hx
 there:=fun c ob q hx=>by
  obtain⟨o',e1⟩:=a.there c ob q hx
  exact b.there c o' e1 hx
 tups:=fun c xs q=>b.tups c xs (a.tups c xs q)
 frzs:=fun c ob xs q=>b.frzs c ob xs (a.frzs c ob xs q)
 tbls:=fun c ps q=>by
  obtain⟨m1,e1⟩:=a.tbls c ps q
  obtain⟨m2,e2⟩:=b.tbls c _ e1
  exact⟨m1++m2,by rw[e2,Array.append_assoc]⟩
theorem Un.kept(k:∀b u,h.get? b=some u→h'.get? b=some u):Un fs ex H H h h':=
 ⟨fun b ob q _ _ _=>k b ob q,fun b ob q _ _ _=>⟨ob.slots,k b ob q⟩,fun _ _ _ n _=>n,fun b ob q _=>⟨ob,k b ob q⟩,fun _ _ q=>q,fun _ _ _ q=>q,fun _ ps q=>⟨#[],by rw[q];simp⟩⟩
theorem Un.refl:Un fs ex H H h h:=Un.kept fun _ _ q=>q
theorem Un.laid(k:∀b u,h.get? b=some u→h'.get? b=some u)(hp:h.objs.size≤a)(hn:H a=none):Un fs ex H (upd H a o) h h' where
 keep:=fun b u q _ _ _=>k b u q
 slot:=fun b u q _ _ _=>⟨u.slots,k b u q⟩
 free:=fun b u q n _=>by rw[b7 (aC8 (aE6 (aB5 q) hp))];exact n
 there:=fun b u q _=>⟨u,k b u q⟩
 tups:=fun b xs q=>by rw[b7 (d6 q hn)];exact q
 frzs:=fun b u xs q=>by rw[b7 (d6 q hn)];exact q
 tbls:=fun b ps q=>⟨#[],by rw[b7 (d6 q hn),q];simp⟩
theorem Un.write(mu:Mut (H x))(he:e=x∨H e=some (.own x))(k:∀b u,b≠e→h.get? b=some u→h'.get? b=some u)(heo:∃u,h'.get? e=some u):Un fs ex H (upd H x o) h h':=by
 have hx:∀b,H b=none→b≠x:=fun b n z=>by subst z;rw[n]at mu;exact mu
 have hb:∀b,H b=none→b≠e:=fun b n z=>by
  subst z
  rcases he with r | r
  ·exact hx b n r
  ·rw[n]at r;cases r
 have hm:∀b u,H b=some u→¬Mut (some u)→b≠x:=fun b u q nm z=>by subst z;rw[q]at mu;exact nm mu
 refine⟨fun b u q n _ _=>k b u (hb b n) q,fun b u q n _ _=>⟨u.slots,k b u (hb b n) q⟩,fun b u q n _=>by rw[b7 (hx b n)];exact n,fun b u q _=>?_,
  fun b xs q=>by rw[b7 (hm b _ q fun z=>z)];exact q,fun b u xs q=>by rw[b7 (hm b _ q fun z=>z)];exact q,fun b ps q=>⟨#[],by rw[b7 (hm b _ q fun z=>z),q];simp⟩⟩
 by_cases hbe:b=e
 ·subst hbe;exact heo
 ·exact⟨u,k b u hbe q⟩
end
def trk(h:Heap)(H:Hp):List Addr:=(List.range h.objs.size).filter fun a=>(H a).isSome
def a8j(h:Heap)(H:Hp):Heap:=PySem.W.hideAll h (trk h H)
theorem b2j(h:Heap)(H:Hp):(a8j h H).objs.size=h.objs.size:=PySem.W.hideAll_size _ _
theorem b4o{h:Heap}{H:Hp}{b:Addr}{o:Obj}(e:h.get? b=some o)(n:H b=none):(a8j h H).get? b=some o:=
 PySem.W.hideAll_get _ e fun hm=>by
  have q:(H b).isSome=true:=(aD5.mp hm).2
  rw[n]at q;simp at q
theorem b7r{h:Heap}{H:Hp}{b:Addr}{o:Obj}(e:(a8j h H).get? b=some o):h.get? b=some o∧H b=none:=by
 have e':h.get? b=some o:=PySem.W.of_hideAll (trk h H) e
 refine⟨e',?_⟩
 cases q:H b with
 | none=>rfl
 | some x=>
  have hm:b∈trk h H:=aD5.mpr ⟨aP6.mpr (aB5 e'),by simp[q]⟩
  have z:(a8j h H).get? b=none:=PySem.W.hideAll_none (trk h H) hm
  rw[z]at e;cases e
def b9v(g h:Heap)(L:Addr):List (Addr×Obj):=(List.range h.objs.size).filterMap fun a=>if a=L∨(g.get? a).isSome=true then none else(h.get? a).map fun o=>(a,o)
def rest(g h:Heap)(L d:Addr):List (Addr×Obj):=(b9v g h L).filter fun p=>decide (p.1≠d)
open PySem PySem.Spec PyProof.Rows
structure Mod(K:PySem.W.Frag)(mg:Str→Option Value)(base:Heap):Prop where
 kin:K.In base
 glob:base.Ns mainGlobals mg
 blt:∃mb,base.Ns builtinsNs mb∧∀x:Str,x≠"__name__"→mb x=bootBuiltins x
 nolimit:base.NoLimit
structure Cx where
 prog:Program
 w:World
 K:PySem.W.Frag
 mg:Str→Option Value
 base:Heap
 A:Around
 N:List Str
 s₀:Shared
 H₀:Hp
 env:Env
 outer:List Env
 stack:List Env
 ex:List Addr
 fn:Str→Bool
 calm:Bool
 pn:List (Addr×Obj)
 xe:Value→Shared→Prop
def frs(l:List Env):List Addr:=l.filterMap (·.frame)
abbrev Cx.fs(X:Cx):List Addr:=frs X.outer
def Vis(sc:Scope)(x:Str):Prop:=sc.names.lookup x=some .local∨sc.names.lookup x=some .cell∨sc.names.lookup x=some .free
def Loc(sc:Scope)(x:Str):Prop:=sc.names.lookup x=some .local∨sc.names.lookup x=some .cell
def Look(env:Env)(h:Heap)(m:Str→Option Value)(x:Str)(u:Value):Prop:=
 (env.kindOf x=some .local∧m x=some u)∨((env.kindOf x=some .cell∨env.kindOf x=some .free)∧∃c,env.cells.lookup x=some c∧h.IsCell c (some u))
structure Cx.Ok(X:Cx):Prop where
 mod:Mod X.K X.mg X.base
 kind:X.env.scope.kind=.function
 glob:X.env.globals=mainGlobals
 blt:X.env.builtins=builtinsNs
 above:X.s₀.heap.objs.size≤X.env.locals
 inj:∀x y c,X.env.cells.lookup x=some c→X.env.cells.lookup y=some c→x=y
 has:∀x,(X.env.kindOf x=some .cell∨X.env.kindOf x=some .free)→∃c,X.env.cells.lookup x=some c
 cab:∀x c,X.fn x=true→X.env.cells.lookup x=some c→X.s₀.heap.objs.size≤c
 hd:X.calm=true→X.A.handled=none
 frames:X.A.frames=some X.stack
 stk:X.stack=X.outer∨(X.stack=X.env::X.outer∧X.env.frame=some X.env.locals)
 exf:∀b∈X.ex,b≠X.env.locals∧∀x c,X.env.cells.lookup x=some c→c≠b
 bs:∀b o,X.base.get? b=some o→X.s₀.heap.get? b=some o∧X.H₀ b=none
 bsz:X.base.objs.size≤X.s₀.heap.objs.size
 noex:∀b o,X.base.get? b=some o→b∉X.ex
 exfs:∀b∈X.ex,b∉X.fs
 funs:X.s₀.heap.FunFrames X.base X.outer
 frf:∀b∈X.fs,X.H₀ b=none
structure Inv(X:Cx)(pins:List (Addr×Obj))(σ:List (Option V))(H:Hp)(s:Shared):Prop where
 ok:X.Ok
 os:s.os=X.s₀.os
 bare:AllBare s.gens
 base:Un X.fs X.ex X.H₀ H X.s₀.heap s.heap
 loc:∃m,s.heap.Ns X.env.locals m∧∀(i:Nat) (x:Str) (v:V),X.N[i]?=some x→σ[i]?=some (some v)→Vis X.env.scope x→∃u,RelV v u∧Look X.env s.heap m x u
 cell:∀x c,X.env.cells.lookup x=some c→∃v,s.heap.IsCell c v
 free:H X.env.locals=none
 freeC:∀x c,X.env.cells.lookup x=some c→H c=none
 pin:∀p∈X.pn++pins,s.heap.get? p.1=some p.2∧H p.1=none∧p.1≠X.env.locals∧p.1∉X.fs∧∀v,p.2.data≠.cell v
 hok:K2 X.prog X.w H s.heap
 len:σ.length=X.N.length
section
variable{X:Cx}{pins:List (Addr×Obj)}{σ:List (Option V)}{H H':Hp}{s:Shared}{h':Heap}
theorem Cx.Ok.nofr(ok:X.Ok){b:Addr}{o:Obj}(e:X.base.get? b=some o):b∉X.fs:=fun hb=>by
 have:=(ok.funs.mem hb).1
 rw[e]at this;cases this
theorem Inv.bs(I:Inv X pins σ H s):∀b o,X.base.get? b=some o→s.heap.get? b=some o∧H b=none:=fun b o e=>
 ⟨I.base.keep b o (I.ok.bs b o e).1 (I.ok.bs b o e).2 (I.ok.nofr e) (I.ok.noex b o e),I.base.free b o (I.ok.bs b o e).1 (I.ok.bs b o e).2 (I.ok.noex b o e)⟩
theorem Inv.bk(I:Inv X pins σ H s):∀b o,X.base.get? b=some o→s.heap.get? b=some o:=fun b o e=>(I.bs b o e).1
theorem Inv.mod(I:Inv X pins σ H s):Mod X.K X.mg X.base:=I.ok.mod
theorem Inv.kIn(I:Inv X pins σ H s):X.K.In s.heap:=I.ok.mod.kin.keeps I.bk
theorem Inv.lt(I:Inv X pins σ H s):X.env.locals<s.heap.objs.size:=let ⟨_,hn,_⟩:=I.loc;hn.lt
theorem Inv.sz(I:Inv X pins σ H s):X.s₀.heap.objs.size≤s.heap.objs.size:=aD8 I.ok.above (aM8 I.lt)
theorem Inv.nofs(I:Inv X pins σ H s){a:Addr}(h:s.heap.objs.size≤a):a∉X.fs:=fun hb=>by
 obtain⟨_,o,ho,_⟩:=I.ok.funs.mem hb
 exact absurd (aE6 (aB5 ho) (aD8 I.sz h)) (aI3 _)
theorem Inv.cne(I:Inv X pins σ H s):∀x c,X.env.cells.lookup x=some c→c≠X.env.locals:=fun x c e z=>by
 obtain⟨v,o,ho,hd⟩:=I.cell x c e
 obtain⟨m,⟨o',es,ep,ho',hd',_⟩,_⟩:=I.loc
 rw[z,ho']at ho;cases ho;rw[hd']at hd;cases hd
theorem Inv.funs(I:Inv X pins σ H s):s.heap.FunFrames X.base X.outer:=by
 have all:∀(l:List Env),(∀b∈frs l,b∈X.fs)→X.s₀.heap.FunFrames X.base l→s.heap.FunFrames X.base l:=by
  intro l
  induction l with
  | nil=>intro _ _;trivial
  | cons env r ih=>
   intro hs hl
   obtain⟨hk,⟨L,o,hf,hn,ho,hd⟩,hr⟩:=hl
   have hL:L∈X.fs:=hs L (by unfold frs;rw[aT0,hf];exact aD0)
   obtain⟨sl,e⟩:=I.base.slot L o ho (I.ok.frf L hL) hL fun z=>I.ok.exfs L z hL
   exact⟨hk,⟨L,_,hf,hn,e,hd⟩,ih (fun b hb=>hs b (by unfold frs;rw[aT0,hf];exact aC4 _ hb)) hr⟩
 exact all X.outer (fun _ hb=>hb) I.ok.funs
theorem Inv.stack(I:Inv X pins σ H s):s.heap.FunFrames X.base X.stack:=by
 rcases I.ok.stk with e | ⟨e,hf⟩
 ·rw[e];exact I.funs
 ·rw[e]
  obtain⟨m,hn,_⟩:=I.loc
  refine .cons (by rw[I.ok.kind];decide) hf hn ?_ I.funs
  exact Heap.get?_none_of_le (aD8 I.ok.bsz I.ok.above)
theorem Inv.stkSub(I:Inv X pins σ H s):∀b∈frs X.stack,b∈X.env.locals::X.fs:=fun b hb=>by
 rcases I.ok.stk with e | ⟨e,hf⟩
 ·rw[e]at hb;exact aC4 _ hb
 ·rw[e]at hb
  unfold frs at hb
  rw[aT0,hf]at hb
  exact hb
theorem Inv.stkFree(I:Inv X pins σ H s):∀b∈frs X.stack,H b=none:=fun b hb=>by
 rcases aB9.mp (I.stkSub b hb) with e | hb
 ·rw[e];exact I.free
 ·obtain⟨_,o,ho,_⟩:=I.ok.funs.mem hb
  exact I.base.free b o ho (I.ok.frf b hb) fun z=>I.ok.exfs b z hb
theorem Inv.step{g':Array GenState}{t':Nat}{d':Drawn}{ch:List Addr}(I:Inv X pins σ H s)
  (hch:∀b∈ch,(b∈X.ex∨X.s₀.heap.objs.size≤b)∧b≠X.env.locals∧(∀x c,X.env.cells.lookup x=some c→c≠b)∧∀p∈X.pn++pins,p.1≠b)
  (keep:∀b o,b≠X.env.locals→b∉X.fs→b∉ch→s.heap.get? b=some o→H b=none→h'.get? b=some o)
  (slot:∀b o,b≠X.env.locals→b∈X.fs→b∉ch→s.heap.get? b=some o→H b=none→∃sl,h'.get? b=some { o with slots:=sl }) (free:∀b o,b∉ch→s.heap.get? b=some o→H b=none→H' b=none)
  (there:∀b o,b∉ch→s.heap.get? b=some o→∃o',h'.get? b=some o')
  (tups:∀b xs,H b=some (.tup xs)→H' b=some (.tup xs)) (frzs:∀b o u,H b=some (.frz o u)→H' b=some (.frz o u)) (tbls:∀b ps,H b=some (.tbl ps)→∃more,H' b=some (.tbl (ps++more)))
  (ns:∀m,s.heap.Ns X.env.locals m→h'.Ns X.env.locals m) (hok:K2 X.prog X.w H' h') (hg:AllBare g') :
  Inv X pins σ H' { s with heap:=h',gens:=g',drawn:=d',toks:=t' }:=by
 have neL:∀b o,X.s₀.heap.get? b=some o→b≠X.env.locals:=fun b o e=>aC8 (aE6 (aB5 e) I.ok.above)
 have neC:∀b o,X.s₀.heap.get? b=some o→b∉X.ex→b∉ch:=fun b o e hx hb=>by
  rcases(hch b hb).1 with z | z
  ·exact hx z
  ·exact absurd (aE6 (aB5 e) z) (aI3 _)
 have cellK:∀x c,X.env.cells.lookup x=some c→∀v,s.heap.IsCell c v→h'.IsCell c v:=fun x c e v ⟨o,ho,hd⟩=>by
  have nch:c∉ch:=fun z=>(hch c z).2.2.1 x c e rfl
  by_cases hc:c∈X.fs
  ·obtain⟨sl,q⟩:=slot c o (I.cne x c e) hc nch ho (I.freeC x c e)
   exact⟨_,q,hd⟩
  ·exact⟨o,keep c o (I.cne x c e) hc nch ho (I.freeC x c e),hd⟩
 refine⟨I.ok,I.os,hg,⟨fun b o e n hb hx=>?_,fun b o e n hb hx=>?_,fun b o e n hx=>?_,fun b o e hx=>?_,fun b xs e=>tups b xs (I.base.tups b xs e),fun b o xs e=>frzs b o xs (I.base.frzs b o xs e),fun b ps e=>?_⟩,?_,fun x c e=>?_,?_,fun x c e=>?_,fun p hp=>?_,hok,I.len⟩
 ·exact keep b o (neL b o e) hb (neC b o e hx) (I.base.keep b o e n hb hx) (I.base.free b o e n hx)
 ·obtain⟨sl,e1⟩:=I.base.slot b o e n hb hx
  obtain⟨sl',e2⟩:=slot b _ (neL b o e) hb (neC b o e hx) e1 (I.base.free b o e n hx)
  exact⟨sl',e2⟩
 ·obtain⟨o',e1⟩:=I.base.there b o e hx
  exact free b o' (neC b o e hx) e1 (I.base.free b o e n hx)
 ·obtain⟨o',e1⟩:=I.base.there b o e hx
  exact there b o' (neC b o e hx) e1
 ·obtain⟨m1,e1⟩:=I.base.tbls b ps e
  obtain⟨m2,e2⟩:=tbls b _ e1
  exact⟨m1++m2,by rw[e2,Array.append_assoc]⟩
 ·obtain⟨m,hn,hl⟩:=I.loc
  refine⟨m,ns m hn,fun i x v e1 e2 e3=>?_⟩
  obtain⟨u,r,l⟩:=hl i x v e1 e2 e3
  refine⟨u,r,?_⟩
  rcases l with l | ⟨k,c,e,z⟩
  ·exact .inl l
  ·exact .inr ⟨k,c,e,cellK x c e _ z⟩
 ·obtain⟨v,z⟩:=I.cell x c e
  exact⟨v,cellK x c e v z⟩
 ·obtain⟨m,⟨o,_,_,ho,_⟩,_⟩:=I.loc
  exact free _ o (fun z=>(hch _ z).2.1 rfl) ho I.free
 ·obtain⟨v,o,ho,hd⟩:=I.cell x c e
  exact free c o (fun z=>(hch c z).2.2.1 x c e rfl) ho (I.freeC x c e)
 ·obtain⟨e,n,ne,nf,d⟩:=I.pin p hp
  have nch:p.1∉ch:=fun z=>(hch p.1 z).2.2.2 p hp rfl
  exact⟨keep p.1 p.2 ne nf nch e n,free p.1 p.2 nch e n,ne,nf,d⟩
theorem Inv.un{t':Nat}(I:Inv X pins σ H s)(u:Un X.fs [] H H' s.heap h')(hok:K2 X.prog X.w H' h'):Inv X pins σ H' { s with heap:=h',toks:=t' }:=by
 obtain⟨m,⟨o,es,ep,ho,r⟩,_⟩:=id I.loc
 obtain⟨sl,hL⟩:=u.any ho I.free (by simp)
 exact I.step (g':=s.gens) (d':=s.drawn) (ch:=[]) (fun _ z=>nomatch z) (fun b o _ hb _ e n=>u.keep b o e n hb (by simp)) (fun b o _ hb _ e n=>u.slot b o e n hb (by simp)) (fun b o _ e n=>u.free b o e n (by simp)) (fun b o _ e=>u.there b o e (by simp)) u.tups u.frzs u.tbls (fun m' hm=>by
  obtain⟨o',es',ep',ho',r'⟩:=hm
  rw[ho]at ho';cases ho'
  exact⟨_,es',ep',hL,r'⟩) hok I.bare
theorem Inv.call{g':Array GenState}{t':Nat}{d':Drawn}{ch:List Addr}(I:Inv X pins σ H s)(u:Un (frs X.stack) ch H H' s.heap h')(hok:K2 X.prog X.w H' h')(hg:AllBare g')
  (hch:∀b∈ch,(b∈X.ex∨X.s₀.heap.objs.size≤b)∧b≠X.env.locals∧(∀x c,X.env.cells.lookup x=some c→c≠b)∧∀p∈X.pn++pins,p.1≠b) :
  Inv X pins σ H' { s with heap:=h',gens:=g',drawn:=d',toks:=t' }:=by
 obtain⟨m,⟨o,es,ep,ho,r⟩,_⟩:=id I.loc
 obtain⟨sl,hL⟩:=u.any ho I.free fun z=>(hch _ z).2.1 rfl
 exact I.step (ch:=ch) hch (fun b o hL hb hc e n=>u.keep b o e n (fun z=>(aB9.mp (I.stkSub b z)).elim hL hb) hc) (fun b o _ _ hc e n=>u.any e n hc) (fun b o hc e n=>u.free b o e n hc) (fun b o hc e=>u.there b o e hc) u.tups u.frzs u.tbls (fun m' hm=>by
  obtain⟨o',es',ep',ho',r'⟩:=hm
  rw[ho]at ho';cases ho'
  exact⟨_,es',ep',hL,r'⟩) hok hg
theorem Inv.turned{t':Nat}{it:Addr}(I:Inv X pins σ H s)(k:∀b o,b≠it→s.heap.get? b=some o→h'.get? b=some o)(hn:H it=none)(hL:it≠X.env.locals)
  (h1:it∈X.ex∨X.s₀.heap.objs.size≤it) (h2:∀x c,X.env.cells.lookup x=some c→c≠it) (h3:∀p∈X.pn++pins,p.1≠it):Inv X pins σ H { s with heap:=h',toks:=t' }:=by
 have nit:∀b u,H b=some u→b≠it:=fun b u e z=>by rw[z,hn]at e;cases e
 refine I.step (g':=s.gens) (d':=s.drawn) (ch:=[it]) (fun b hb=>?_) (fun b o _ _ hc e _=>k b o (fun z=>hc (by simp[z])) e) (fun b o _ _ hc e _=>⟨o.slots,k b o (fun z=>hc (by simp[z])) e⟩) (fun _ _ _ _ n=>n)
  (fun b o hc e=>⟨o,k b o (fun z=>hc (by simp[z])) e⟩) (fun _ _ e=>e) (fun _ _ _ e=>e) (fun b ps e=>⟨#[],by rw[e];simp⟩) (fun m hm=>?_) (fun b u e=>?_) I.bare
 ·have e:b=it:=by simpa using hb
  subst e
  exact⟨h1,hL,h2,h3⟩
 ·obtain⟨o,es,ep,ho,r⟩:=hm
  exact⟨o,es,ep,k _ o (Ne.symm hL) ho,r⟩
 ·refine(I.hok b u e).stay (fun c v hc q=>k c v ?_ q) (fun _ q=>q) fun _ _ q=>q
  rcases hc with z | z
  ·rw[z];exact nit b u e
  ·exact nit c _ z
theorem Inv.tok(I:Inv X pins σ H s)(t:Nat):Inv X pins σ H { s with toks:=t }:=I.un (h':=s.heap) (t':=t) Un.refl I.hok
theorem Inv.kept{t':Nat}(I:Inv X pins σ H s)(k:∀b u,s.heap.get? b=some u→h'.get? b=some u):Inv X pins σ H { s with heap:=h',toks:=t' }:=I.un (Un.kept k) (I.hok.kept k)
theorem Inv.laid{a:Addr}{o:HO}{t':Nat}(I:Inv X pins σ H s)(k:∀b u,s.heap.get? b=some u→h'.get? b=some u)(hp:s.heap.objs.size≤a)(new:A6 X.prog X.w (upd H a o) h' a o) :
  Inv X pins σ (upd H a o) { s with heap:=h',toks:=t' }:=I.un (Un.laid k hp (I.hok.fresh hp)) (I.hok.laid k hp new)
theorem Inv.write{x e:Addr}{o:HO}{t':Nat}(I:Inv X pins σ H s)(mu:Mut (H x))(he:e=x∨H e=some (.own x))(k:∀b u,b≠e→s.heap.get? b=some u→h'.get? b=some u)(heo:∃u,h'.get? e=some u)
  (new:A6 X.prog X.w (upd H x o) h' x o):Inv X pins σ (upd H x o) { s with heap:=h',toks:=t' }:=I.un (Un.write mu he k heo) (I.hok.write mu he k heo new)
theorem Inv.pins_of{pins':List (Addr×Obj)}(I:Inv X pins σ H s)(h:∀p∈pins',s.heap.get? p.1=some p.2∧H p.1=none∧p.1≠X.env.locals∧p.1∉X.fs∧∀v,p.2.data≠.cell v):Inv X pins' σ H s:=
 ⟨I.ok,I.os,I.bare,I.base,I.loc,I.cell,I.free,I.freeC,fun p hp=>(aA8.mp hp).elim (fun z=>I.pin p (aE2 _ z)) (h p),I.hok,I.len⟩
theorem a2O{N:List Str}(hN:N.Nodup){i j:Nat}{x:Str}(a:N[i]?=some x)(b:N[j]?=some x):i=j:=by
 obtain⟨h1,e1⟩:=aA2.mp a
 obtain⟨h2,e2⟩:=aA2.mp b
 exact(List.getElem_inj hN).mp (e1.trans e2.symm)
theorem a9G{M:Model}{A:Around}{E:Value→Shared→Prop}{i:Nat}{x:Str}{v:V}{u:Value}{Q:Unit→Shared→Prop}(I:Inv X pins σ H s)(hN:X.N.Nodup)(hi:X.N[i]?=some x)(hx:Loc X.env.scope x)(r:RelV v u)
  (h:∀s',Inv X pins (σ.set i (some v)) H s'→(∃a,Heap.SameBut a s.heap s'.heap∧(a=X.env.locals∨X.env.cells.lookup x=some a))→Q () s') (hf:X.fn x=true∨X.env.scope.names.lookup x=some .local:=by first | exact .inl rfl | exact .inr rfl | assumption):wpAny M A (storeName X.env x u) Q E s:=by
 obtain⟨m,hn,hl⟩:=id I.loc
 have hcls:(X.env.scope.kind==.class||(X.env.scope.kind==.module&&X.env.locals != X.env.globals))=false:=by rw[I.ok.kind];rfl
 have hiσ:i<σ.length:=by rw[I.len];exact(aA2.mp hi).1
 have cne:=I.cne
 have tracked:∀{a:Addr} {h':Heap},(∃o,s.heap.get? a=some o∧H a=none)→Heap.SameBut a s.heap h'→K2 X.prog X.w H h':=fun {a h'} ha hs b ob e=>by
  obtain⟨_,_,hfree⟩:=ha
  refine(I.hok b ob e).stay (fun c w' hc q=>(hs.2 c ?_).trans q) (fun _ q=>q) fun _ _ q=>q
  rintro rfl
  rcases hc with rfl | hc
  ·rw[hfree]at e;cases e
  ·rw[hfree]at hc;cases hc
 rcases hx with hk | hk
 ·refine wpAny_storeName_local hk hn (fun h' hn' hs=>?_) hcls
  obtain⟨oL,_,_,hoL,_⟩:=id hn
  refine h _ ⟨I.ok,I.os,I.bare,⟨fun b o e n hb hx=>?_,fun b o e n hb hx=>?_,I.base.free,fun b o e hx=>?_,I.base.tups,I.base.frzs,I.base.tbls⟩,⟨_,hn',fun j y v' e1 e2 e3=>?_⟩,fun y c e=>?_,I.free,I.freeC,fun p hp=>?_,tracked ⟨oL,hoL,I.free⟩ hs,by simpa using I.len⟩ ⟨_,hs,.inl rfl⟩
  ·exact(hs.2 b (aC8 (aE6 (aB5 e) I.ok.above))).trans (I.base.keep b o e n hb hx)
  ·obtain⟨sl,e1⟩:=I.base.slot b o e n hb hx
   exact⟨sl,(hs.2 b (aC8 (aE6 (aB5 e) I.ok.above))).trans e1⟩
  ·obtain⟨o',e1⟩:=I.base.there b o e hx
   exact⟨o',(hs.2 b (aC8 (aE6 (aB5 e) I.ok.above))).trans e1⟩
  ·by_cases hj:j=i
   ·subst hj
    rw[hi]at e1;cases e1
    rw[List.getElem?_set_self hiσ]at e2
    cases e2
    exact⟨u,r,.inl ⟨hk,by simp⟩⟩
   ·rw[List.getElem?_set_ne (Ne.symm hj)]at e2
    obtain⟨u',r',q⟩:=hl j y v' e1 e2 e3
    refine⟨u',r',?_⟩
    rcases q with ⟨k,e⟩ | ⟨k,c,e,z⟩
    ·refine .inl ⟨k,?_⟩
     have:y≠x:=fun e=>hj (a2O hN e1 (e▸hi))
     simp[this,e]
    ·exact .inr ⟨k,c,e,z.sameBut hs (cne y c e)⟩
  ·obtain⟨w',z⟩:=I.cell y c e
   exact⟨w',z.sameBut hs (cne y c e)⟩
  ·obtain⟨e,n,ne,nf,d⟩:=I.pin p hp
   exact⟨(hs.2 p.1 ne).trans e,n,ne,nf,d⟩
 ·have hfn:X.fn x=true:=by
   rcases hf with z | z
   ·exact z
   ·rw[z]at hk;cases hk
  obtain⟨c,hc⟩:=I.ok.has x (.inl hk)
  obtain⟨w',z⟩:=I.cell x c hc
  refine wpAny_storeName_cell I.ok.kind hk hc z (fun h' hc' hs=>?_)
  obtain⟨oc,hoc,hocd⟩:=id z
  refine h { s with heap:=h' } ⟨I.ok,I.os,I.bare,⟨fun b o e n hb hx=>?_,fun b o e n hb hx=>?_,I.base.free,fun b o e hx=>?_,I.base.tups,I.base.frzs,I.base.tbls⟩,⟨m,hn.sameBut hs (Ne.symm (cne x c hc)),fun j y v' e1 e2 e3=>?_⟩,fun y c' e=>?_,I.free,I.freeC,fun p hp=>?_,tracked ⟨oc,hoc,I.freeC x c hc⟩ hs,by simpa using I.len⟩ ⟨c,hs,.inr hc⟩
  ·exact(hs.2 b (aC8 (aE6 (aB5 e) (I.ok.cab x c hfn hc)))).trans (I.base.keep b o e n hb hx)
  ·obtain⟨sl,e1⟩:=I.base.slot b o e n hb hx
   exact⟨sl,(hs.2 b (aC8 (aE6 (aB5 e) (I.ok.cab x c hfn hc)))).trans e1⟩
  ·obtain⟨o',e1⟩:=I.base.there b o e hx
   exact⟨o',(hs.2 b (aC8 (aE6 (aB5 e) (I.ok.cab x c hfn hc)))).trans e1⟩
  ·by_cases hj:j=i
   ·subst hj
    rw[hi]at e1;cases e1
    rw[List.getElem?_set_self hiσ]at e2
    cases e2
    exact⟨u,r,.inr ⟨.inl hk,c,hc,hc'⟩⟩
   ·rw[List.getElem?_set_ne (Ne.symm hj)]at e2
    obtain⟨u',r',q⟩:=hl j y v' e1 e2 e3
    refine⟨u',r',?_⟩
    rcases q with q | ⟨k,c',e,z'⟩
    ·exact .inl q
    ·refine .inr ⟨k,c',e,z'.sameBut hs ?_⟩
     rintro rfl
     exact hj (a2O hN e1 (I.ok.inj _ _ _ e hc▸hi))
  ·by_cases hcc:c'=c
   ·subst hcc;exact⟨_,hc'⟩
   ·obtain⟨w2,z2⟩:=I.cell y c' e
    exact⟨w2,z2.sameBut hs hcc⟩
  ·obtain⟨e,n,ne,nf,d⟩:=I.pin p hp
   refine⟨(hs.2 p.1 ?_).trans e,n,ne,nf,d⟩
   intro q
   rw[q,hoc]at e
   have q':oc=p.2:=aD1 e
   exact d w' (by rw[←q'];exact hocd)
theorem a1R{M:Model}{A:Around}{E:Value→Shared→Prop}{i:Nat}{x:Str}{v:V}{u:Value}{Q:Unit→Shared→Prop}(I:Inv X pins σ H s)(hN:X.N.Nodup)(hi:X.N[i]?=some x)(hx:Loc X.env.scope x)(r:RelV v u)
  (h:∀s',Inv X pins (σ.set i (some v)) H s'→Q () s') (hf:X.fn x=true∨X.env.scope.names.lookup x=some .local:=by first | exact .inl rfl | exact .inr rfl | assumption):wpAny M A (storeName X.env x u) Q E s:=
 a9G I hN hi hx r (fun s' I' _=>h s' I') hf
theorem Inv.call'{s':Shared}{ch:List Addr}(I:Inv X pins σ H s)(ho:s'.os=s.os)(u:Un (frs X.stack) ch H H' s.heap s'.heap)(hok:K2 X.prog X.w H' s'.heap)(hg:AllBare s'.gens)
  (hch:∀b∈ch,(b∈X.ex∨X.s₀.heap.objs.size≤b)∧b≠X.env.locals∧(∀x c,X.env.cells.lookup x=some c→c≠b)∧∀p∈X.pn++pins,p.1≠b):Inv X pins σ H' s':=by
 obtain⟨h',g',d',t',o'⟩:=s'
 have e:o'=s.os:=ho
 subst e
 exact I.call (g':=g') (t':=t') (d':=d') u hok hg hch
end
abbrev XK:=Value→Option Addr→Hp→Prop
abbrev St:=List (Option V)
abbrev VK:=V→Hp→Prop
abbrev TE:=St→Hp→VK→Prop
abbrev TT:=St→Hp→(Bool→Hp→Prop)→Prop
abbrev TA:=St→Hp→(List V→Hp→Prop)→Prop
structure Ends where
 nx:St→Hp→Prop
 rt:VK
 bk:St→Hp→Prop:=fun _ _=>False
 ct:St→Hp→Prop:=fun _ _=>False
abbrev TS:=Ends→St→Hp→Prop
def EP(X:Cx)(pins:List (Addr×Obj))(σ:St)(Q:VK)(u:Value)(s':Shared):Prop:=∃v H',Inv X pins σ H' s'∧RelV v u∧Q v H'
def TP(X:Cx)(pins:List (Addr×Obj))(σ:St)(Q:Bool→Hp→Prop)(b:Bool)(s':Shared):Prop:=∃H',Inv X pins σ H' s'∧Q b H'
def AP(X:Cx)(pins:List (Addr×Obj))(σ:St)(Q:List V→Hp→Prop)(us:List Value)(s':Shared):Prop:=∃vs H',Inv X pins σ H' s'∧j4 vs us∧Q vs H'
def SP(X:Cx)(pins:List (Addr×Obj))(D:Ends)(f:Flow)(s':Shared):Prop:=
 match f with
 | .next=>∃σ' H',Inv X pins σ' H' s'∧D.nx σ' H'
 | .brk=>∃σ' H',Inv X pins σ' H' s'∧D.bk σ' H'
 | .cont=>∃σ' H',Inv X pins σ' H' s'∧D.ct σ' H'
 | .ret u=>∃v σ' H',Inv X pins σ' H' s'∧RelV v u∧D.rt v H'
def PE(X:Cx)(e:Expr)(t:TE):Prop:=
 ∀(pins:List (Addr×Obj)) (s:Shared) (σ:St) (H:Hp) (Q:VK),Inv X pins σ H s→t σ H Q→wpAny (model X.prog X.w) X.A (eval e X.env) (EP X pins σ Q) X.xe s
def PT(X:Cx)(e:Expr)(t:TT):Prop:=
 ∀(pins:List (Addr×Obj)) (s:Shared) (σ:St) (H:Hp) (Q:Bool→Hp→Prop),Inv X pins σ H s→t σ H Q→wpAny (model X.prog X.w) X.A (isTrue e X.env (eval e X.env)) (TP X pins σ Q) X.xe s
def PW(X:Cx)(e:Expr)(t:TT):Prop:=
 ∀(whole:Sem Value) (pins:List (Addr×Obj)) (s:Shared) (σ:St) (H:Hp) (Q:Bool→Hp→Prop),Inv X pins σ H s→t σ H Q→wpAny (model X.prog X.w) X.A (isTrue e X.env whole) (TP X pins σ Q) X.xe s
theorem PW.pt{X:Cx}{e:Expr}{t:TT}(h:PW X e t):PT X e t:=h _
def PA(X:Cx)(es:List Expr)(t:TA):Prop:=
 ∀(pos:Pos) (pins:List (Addr×Obj)) (s:Shared) (σ:St) (H:Hp) (Q:List V→Hp→Prop),Inv X pins σ H s→t σ H Q→wpAny (model X.prog X.w) X.A (spliced (backTo pos (starEach es X.env))) (AP X pins σ Q) X.xe s
def PS(X:Cx)(st:Stmt)(t:TS):Prop:=
 ∀(pins:List (Addr×Obj)) (s:Shared) (σ:St) (H:Hp) (D:Ends),Inv X pins σ H s→t D σ H→wpAny (model X.prog X.w) X.A (exec st X.env) (SP X pins D) X.xe s
def PSs(X:Cx)(st:List Stmt)(t:TS):Prop:=
 ∀(pins:List (Addr×Obj)) (s:Shared) (σ:St) (H:Hp) (D:Ends),Inv X pins σ H s→t D σ H→wpAny (model X.prog X.w) X.A (execs st X.env) (SP X pins D) X.xe s
theorem m8{α:Type}{t:Sem α}{Q Q':α→Shared→Prop}{M:Model}{A:Around}{E:Value→Shared→Prop}{s:Shared}(h:wpAny M A t Q E s)(hQ:∀a s,Q a s→Q' a s):wpAny M A t Q' E s:=aH4 h hQ fun _ _ x=>x
open PySem PySem.Spec PyProof.Rows
section
variable{X:Cx}
theorem bin{a b:Expr}{ta tb:TE}(ha:PE X a ta)(hb:PE X b tb){pins:List (Addr×Obj)}{s:Shared}{σ:St}{H:Hp}{R:V→V→Hp→Prop}(I:Inv X pins σ H s)(h:ta σ H fun x H1=>tb σ H1 fun y H2=>R x y H2)
  {α:Type} {Q:α→Shared→Prop} {f:Value→Value→Sem α}
  (hf:∀v u s2 x y H2,Inv X pins σ H2 s2→RelV x v→RelV y u→R x y H2→wpAny (model X.prog X.w) X.A (f v u) Q X.xe s2) :
  wpAny (model X.prog X.w) X.A (eval a X.env) (fun v s₁=>wpAny (model X.prog X.w) X.A (eval b X.env) (fun u s₂=>wpAny (model X.prog X.w) X.A (f v u) Q X.xe s₂) X.xe s₁) X.xe s:=by
 refine m8 (ha pins s σ H _ I h) fun v s1 ⟨x,H1,I1,r1,q1⟩=>?_
 refine m8 (hb pins s1 σ H1 _ I1 q1) fun u s2 ⟨y,H2,I2,r2,q2⟩=>?_
 exact hf v u s2 x y H2 I2 r1 r2 q2
inductive b1C(σ:St)(i:Nat)(H:Hp)(Q:VK):Prop
 | mk (v:V) (e:σ[i]?=some (some v)) (q:Q v H)
def b3x(i:Nat):TE:=fun σ H Q=>b1C σ i H Q
inductive IBl(x:V)(Q:Bool→Prop):Prop
 | mk (c:Bool) (e:x=.bl c) (q:Q c)
def tC(v:V):TE:=fun _ H Q=>Q v H
theorem b7y{i:Nat}{x:Str}{pos:Pos}(hN:X.N[i]?=some x)(hv:Vis X.env.scope x)(hd:(x==("__debug__":Str))=false:=by decide)(hcd:(x==("__classdict__":Str))=false:=by decide):PE X (.Name x pos) (b3x i):=by
 intro pins s σ H Q I h
 obtain⟨v,e,h⟩:=h
 obtain⟨m,hn,hl⟩:=I.loc
 obtain⟨u,r,l⟩:=hl i x v hN e hv
 have fin:EP X pins σ Q u s:=⟨v,H,I,r,h⟩
 rcases l with ⟨hk,hm⟩ | ⟨hk,c,hc,hcell⟩
 ·exact wpAny_Name (wpAny_loadName_local I.ok.kind hk hn hm fin) hd
 ·rcases hk with hk | hk
  ·exact wpAny_Name (wpAny_loadName_cell I.ok.kind hk hc hcell fin) hd
  ·exact wpAny_Name (wpAny_loadName_free I.ok.kind hk hc hcell fin hcd) hd
theorem d5{i j pos}:PE X (.Constant (.int i) j pos) (tC (.int i)):=fun _ _ _ H _ I h=>wpAny_Constant_int ⟨.int i,H,I.tok _,⟨_,rfl⟩,h⟩
theorem A1{b j pos}:PE X (.Constant (.bool b) j pos) (tC (.bl b)):=fun _ _ _ H _ I h=>Constant_bool ⟨.bl b,H,I,rfl,h⟩
theorem P4{j pos}:PE X (.Constant .none j pos) (tC .non):=fun _ _ _ H _ I h=>Constant_none ⟨.non,H,I,rfl,h⟩
theorem m5{x j pos}:PE X (.Constant (.str x) j pos) (tC (.str x)):=fun _ _ _ H _ I h=>Calls.Constant_str ⟨.str x,H,I.tok _,⟨_,rfl⟩,h⟩
def Gl(X:Cx)(x:Str):Prop:=X.env.kindOf x=some .globalImplicit
theorem a3r{E:Value→Shared→Prop}{pins:List (Addr×Obj)}{s:Shared}{σ:St}{H:Hp}{x:Str}{u:Value}{pos:Pos}{Q:Value→Shared→Prop}(I:Inv X pins σ H s)(hg:Gl X x)(hm:X.mg x=some u)(h:Q u s)
  (hd:(x==("__debug__":Str))=false:=by decide):wpAny (model X.prog X.w) X.A (eval (.Name x pos) X.env) Q E s:=
 Calls.Name_function_global I.ok.kind hg (Calls.loadGlobal_global (by rw[I.ok.glob];exact I.mod.glob.keeps I.bk) hm h) hd
theorem a1d{E:Value→Shared→Prop}{pins:List (Addr×Obj)}{s:Shared}{σ:St}{H:Hp}{x:Str}{u:Value}{pos:Pos}{Q:Value→Shared→Prop}(I:Inv X pins σ H s)(hg:Gl X x)(hm:X.mg x=none)(hv:bootBuiltins x=some u)(h:Q u s)
  (hn:x≠"__name__":=by decide) (hd:(x==("__debug__":Str))=false:=by decide):wpAny (model X.prog X.w) X.A (eval (.Name x pos) X.env) Q E s:=by
 obtain⟨mb,h1,h2⟩:=I.mod.blt
 exact Calls.Name_function_global I.ok.kind hg (Calls.loadGlobal_builtin (by rw[I.ok.glob];exact I.mod.glob.keeps I.bk) hm (by rw[I.ok.blt];exact h1.keeps I.bk) ((h2 x hn).trans hv) h) hd
theorem v5{x:Str}{v:V}{u:Value}{pos:Pos}(hg:Gl X x)(hm:X.mg x=some u)(r:RelV v u)(hd:(x==("__debug__":Str))=false:=by decide):PE X (.Name x pos) (tC v):=
 fun _ _ _ H _ I h=>a3r I hg hm ⟨v,H,I,r,h⟩ hd
theorem r9{x:Str}{v:V}{u:Value}{pos:Pos}(hg:Gl X x)(hm:X.mg x=none)(hv:bootBuiltins x=some u)(r:RelV v u)(hn:x≠"__name__":=by decide)(hd:(x==("__debug__":Str))=false:=by decide):PE X (.Name x pos) (tC v):=
 fun _ _ _ H _ I h=>a1d I hg hm hv ⟨v,H,I,r,h⟩ hn hd
variable{a b:Expr}{ta tb:TE}{pos:Pos}
def PC(X:Cx)(op:CmpOp)(a b:Expr)(t:TE):Prop:=
 ∀(pins:List (Addr×Obj)) (s:Shared) (σ:St) (H:Hp) (Q:VK),Inv X pins σ H s→t σ H Q →
  wpAny (model X.prog X.w) X.A (eval a X.env) (fun v s₁=>wpAny (model X.prog X.w) X.A (eval b X.env) (fun u s₂=>wpAny (model X.prog X.w) X.A (compareOp op v u) (EP X pins σ Q) X.xe s₂) X.xe s₁) X.xe s
theorem b0q(b:Expr){op:CmpOp}(h:op≠.In)(h2:op≠.NotIn):behindInMarks op b=false:=by
 have e1:(op==CmpOp.In)=false:=by cases op<;>first | rfl | exact absurd rfl h
 have e2:(op==CmpOp.NotIn)=false:=by cases op<;>first | rfl | exact absurd rfl h2
 cases b<;>simp[behindInMarks,e1,e2]
def tB(t:TE):TT:=fun σ H Q=>t σ H fun x H1=>IBl x fun c=>Q c H1
theorem b4F{op:CmpOp}{t:TE}(h:PC X op a b t)(h1:behindInMarks op b=false:=by first | exact b0q _ (by decide) (by decide) | rfl):PT X (.Compare a [op] [b] pos) (tB t):=by
 intro pins s σ H Q I hw
 refine wpAny_isTrue_Compare1 (m8 (h pins s σ H _ I hw) fun v s1 h1=>m8 h1 fun u s2 h2=>m8 h2 fun c s3 ⟨x,H1,I1,r1,q1⟩=>?_) h1
 obtain⟨d,rfl,q⟩:=q1
 cases r1
 exact aM3 ⟨H1,I1,q⟩
theorem A3{e:Expr}{t:TE}(h:PE X e t)(he:∀whole,isTrue e X.env whole=(do let v ←whole;standAt e.pos;holding [v] (truthy v)):=by intro _;rfl):PT X e (tB t):=by
 intro pins s σ H Q I hw
 refine isTrue_plain (m8 (h pins s σ H _ I hw) fun v s1 ⟨x,H1,I1,r1,q1⟩=>?_) (he _)
 obtain⟨d,rfl,q⟩:=q1
 cases r1
 exact aM3 ⟨H1,I1,q⟩
variable{tA tB':TT}{rest:List Expr}
def b0C(t u:TT):TT:=fun σ H Q=>t σ H fun c H1=>if c=true then u σ H1 Q else Q false H1
def tOr(t u:TT):TT:=fun σ H Q=>t σ H fun c H1=>if c=true then Q true H1 else u σ H1 Q
def b5D(t:TT):TT:=fun σ H Q=>t σ H fun c H1=>Q (!c) H1
theorem O7(ha:PT X a tA):PW X (.BoolOp .And [a] pos) tA:=by
 intro wh pins s σ H Q I h
 refine isTrue_and (m8 (ha pins s σ H Q I h) fun c s1 e=>?_)
 cases c with
 | true=>exact isTrue_and_nil e
 | false=>exact e
theorem J3(ha:PT X a tA):PW X (.BoolOp .Or [a] pos) tA:=by
 intro wh pins s σ H Q I h
 refine isTrue_or (m8 (ha pins s σ H Q I h) fun c s1 e=>?_)
 cases c with
 | false=>exact isTrue_or_nil e
 | true=>exact e
theorem Q9(ha:PT X a tA)(hb:PW X (.BoolOp .And (b::rest) pos) tB'):PW X (.BoolOp .And (a::b::rest) pos) (b0C tA tB'):=by
 intro wh pins s σ H Q I h
 refine isTrue_and (m8 (ha pins s σ H _ I h) fun c s1 ⟨H1,I1,q1⟩=>?_)
 cases c with
 | true=>exact hb wh pins s1 σ H1 Q I1 q1
 | false=>exact⟨H1,I1,q1⟩
theorem L7(ha:PT X a tA)(hb:PW X (.BoolOp .Or (b::rest) pos) tB'):PW X (.BoolOp .Or (a::b::rest) pos) (tOr tA tB'):=by
 intro wh pins s σ H Q I h
 refine isTrue_or (m8 (ha pins s σ H _ I h) fun c s1 ⟨H1,I1,q1⟩=>?_)
 cases c with
 | true=>exact⟨H1,I1,q1⟩
 | false=>exact hb wh pins s1 σ H1 Q I1 q1
theorem K8(ha:PT X a tA):PT X (.UnaryOp .Not a pos) (b5D tA):=by
 intro pins s σ H Q I h
 exact isTrue_not (ha pins s σ H (fun c H1=>Q (!c) H1) I h)
def b9z(ta tb:TE):TE:=fun σ H Q=>ta σ H fun x H1=>IBl x fun c=>if c=true then tb σ H1 Q else Q (.bl false) H1
def b9A(ta:TE):TE:=fun σ H Q=>ta σ H fun x H1=>IBl x fun c=>Q (.bl (!c)) H1
theorem a1c{op}{t:TE}(h:PE X a t):PE X (.BoolOp op [a] pos) t:=fun pins s σ H Q I hw=>BoolOp_one (h pins s σ H Q I hw)
theorem V0(ha:PE X a ta)(hb:PE X (.BoolOp .And (b::rest) pos) tb):PE X (.BoolOp .And (a::b::rest) pos) (b9z ta tb):=by
 intro pins s σ H Q I h
 refine BoolOp_and (m8 (ha pins s σ H _ I h) fun v s1 ⟨x,H1,I1,r1,q1⟩=>?_)
 obtain⟨c,rfl,q1⟩:=q1
 cases r1
 refine aM3 ?_
 cases c with
 | true=>exact hb pins s1 σ H1 Q I1 q1
 | false=>exact⟨.bl false,H1,I1,rfl,q1⟩
theorem b1y(ha:PE X a ta):PE X (.UnaryOp .Not a pos) (b9A ta):=by
 intro pins s σ H Q I h
 refine UnaryOp_ (m8 (ha pins s σ H _ I h) fun v s1 ⟨x,H1,I1,r1,q1⟩=>?_)
 obtain⟨c,rfl,q1⟩:=q1
 cases r1
 exact not_of (aM3 ⟨.bl (!c),H1,I1,rfl,q1⟩)
end
open PySem PySem.Spec PyProof.Rows
def d7(K:PySem.W.Frag)(H:Hp)(a:Addr)(xs:List V):Prop:=
 Rd H a (.lst xs) ∨
  ∃(o:Obj) (its:Array Value) (n:Nat),K.lookup a=some o∧o.cls=.type "list"∧o.dict=none∧o.data=.seq its n∧its.size≤sizeLine∧j4 xs its.toList
def i5(K:PySem.W.Frag)(H:Hp)(a:Addr)(xs:List V):Prop:=
 Rd H a (.tup xs) ∨
  ∃(o:Obj) (its:Array Value) (n:Nat),K.lookup a=some o∧o.cls=.type "tuple"∧o.data=.seq its n∧its.size≤sizeLine∧j4 xs its.toList
def b1D:Value→Option V
 | .none=>some .non
 | .bool b=>some (.bl b)
 | .int i _=>some (.int i)
 | .str x _=>some (.str x)
 | .bytes b _=>some (.byt b)
 | .float b _=>some (.flt b)
 | .ref a=>some (.ref a)
 | .type n=>some (.ty n)
 | _=>none
theorem RelV.abs{x:V}{u:Value}(r:RelV x u):b1D u=some x:=by
 cases x with
 | non=>cases r;rfl
 | bl _=>cases r;rfl
 | int _=>obtain⟨t,rfl⟩:=r;rfl
 | str _=>obtain⟨t,rfl⟩:=r;rfl
 | byt _=>obtain⟨t,rfl⟩:=r;rfl
 | flt _=>obtain⟨t,rfl⟩:=r;rfl
 | ref _=>cases r;rfl
 | ty _=>cases r;rfl
theorem RelV.inj{x y:V}{u:Value}(r:RelV x u)(q:RelV y u):x=y:=aD1 (r.abs.symm.trans q.abs)
theorem j4.inj:∀{xs ys:List V} {us:List Value},j4 xs us→j4 ys us→xs=ys
 | _,_,_,.nil,.nil=>rfl
 | _,_,_,.cons r t,.cons r' t'=>by rw[r.inj r',j4.inj t t']
section
variable{X:Cx}{pins:List (Addr×Obj)}{σ:St}{H:Hp}{s:Shared}{a:Addr}{xs ys:List V}
theorem d7.of{K:PySem.W.Frag}(h:H a=some (.lst xs)):d7 K H a xs:=.inl (.inl h)
theorem i5.of{K:PySem.W.Frag}(h:H a=some (.tup xs)):i5 K H a xs:=.inl (.inl h)
theorem Inv.list(I:Inv X pins σ H s)(h:d7 X.K H a xs):∃its:List Value,j4 xs its∧PlainL s.heap a its.toArray∧xs.length≤sizeLine:=by
 rcases h with h | ⟨o,its,n,hk,hc,hd,hs,hz,r⟩
 ·obtain⟨z,its,n,r,e⟩:=h.ok I.hok
  exact⟨its,r,⟨_,n,e,rfl,rfl,rfl⟩,z⟩
 ·refine⟨its.toList,r,⟨o,n,I.kIn a o hk,hc,hd,by simpa using hs⟩,?_⟩
  have e:=r.length
  simp only[aF5]at e
  omega
theorem Inv.tuple(I:Inv X pins σ H s)(h:i5 X.K H a xs):∃its:List Value,j4 xs its∧IsTup s.heap a its.toArray∧xs.length≤sizeLine:=by
 rcases h with h | ⟨o,its,n,hk,hc,hs,hz,r⟩
 ·obtain⟨z,its,r,p⟩:=h.ok I.hok
  exact⟨its,r,p,z⟩
 ·refine⟨its.toList,r,⟨o,I.kIn a o hk,hc,n,by simpa using hs⟩,?_⟩
  have e:=r.length
  simp only[aF5]at e
  omega
theorem Inv.list_inj(I:Inv X pins σ H s)(h:d7 X.K H a xs)(h':d7 X.K H a ys):xs=ys:=by
 obtain⟨its,r,⟨o,n,e,_,_,d⟩,_⟩:=I.list h
 obtain⟨its',r',⟨o',n',e',_,_,d'⟩,_⟩:=I.list h'
 rw[e]at e';cases e'
 rw[d]at d'
 injection d' with d1 _
 have:its=its':=by simpa using congrArg Array.toList d1
 subst this
 exact r.inj r'
end
abbrev Cx.wish(X:Cx)(E:Value→Shared→Prop):Cx:={ X with xe:=E }
abbrev Cx.nox(X:Cx):Cx:=X.wish fun _ _=>False
theorem Cx.Ok.wish{X:Cx}(ok:X.Ok)(E:Value→Shared→Prop):(X.wish E).Ok:=
 ⟨ok.mod,ok.kind,ok.glob,ok.blt,ok.above,ok.inj,ok.has,ok.cab,ok.hd,ok.frames,ok.stk,ok.exf,ok.bs,ok.bsz,ok.noex,ok.exfs,ok.funs,ok.frf⟩
theorem Cx.Ok.unwish{X:Cx}{E:Value→Shared→Prop}(ok:(X.wish E).Ok):X.Ok:=
 ⟨ok.mod,ok.kind,ok.glob,ok.blt,ok.above,ok.inj,ok.has,ok.cab,ok.hd,ok.frames,ok.stk,ok.exf,ok.bs,ok.bsz,ok.noex,ok.exfs,ok.funs,ok.frf⟩
section
variable{X:Cx}{pins:List (Addr×Obj)}{σ:St}{H:Hp}{s:Shared}{E:Value→Shared→Prop}
theorem Inv.wish(I:Inv X pins σ H s)(E:Value→Shared→Prop):Inv (X.wish E) pins σ H s:=⟨I.ok.wish E,I.os,I.bare,I.base,I.loc,I.cell,I.free,I.freeC,I.pin,I.hok,I.len⟩
theorem Inv.unwish(I:Inv (X.wish E) pins σ H s):Inv X pins σ H s:=⟨I.ok.unwish,I.os,I.bare,I.base,I.loc,I.cell,I.free,I.freeC,I.pin,I.hok,I.len⟩
theorem SP.unwish{D:Ends}{f:Flow}{s':Shared}(h:SP (X.wish E) pins D f s'):SP X pins D f s':=by
 cases f with
 | next=>obtain⟨σ',H',I,q⟩:=h;exact⟨σ',H',I.unwish,q⟩
 | brk=>obtain⟨σ',H',I,q⟩:=h;exact⟨σ',H',I.unwish,q⟩
 | cont=>obtain⟨σ',H',I,q⟩:=h;exact⟨σ',H',I.unwish,q⟩
 | ret u=>obtain⟨v,σ',H',I,r,q⟩:=h;exact⟨v,σ',H',I.unwish,r,q⟩
theorem PSs.nox{st:List Stmt}{t:TS}(h:PSs X.nox st t):PSs X st t:=fun pins s σ H D I hw=>
 aH4 (h pins s σ H D (I.wish _) hw) (fun _ _ q=>q.unwish) fun _ _ z=>False.elim z
end
section
variable{X:Cx}{st:Stmt}{rest:List Stmt}{t u:TS}{e:Expr}{te:TE}{pos:Pos}
def b8z:TS:=fun D σ H=>D.nx σ H
def b9E(t u:TS):TS:=fun D σ H=>t { D with nx:=u D } σ H
theorem j0:PSs X [] b8z:=fun _ _ σ H _ I h=>aT4 ⟨σ,H,I,h⟩
theorem b8(h1:PS X st t)(h2:PSs X rest u):PSs X (st::rest) (b9E t u):=by
 intro pins s σ H D I h
 refine wpAny_execs_cons (m8 (h1 pins s σ H { D with nx:=u D } I h) fun f s1 q=>?_)
 cases f with
 | next=>
  obtain⟨σ',H',I',q⟩:=q
  exact h2 pins s1 σ' H' D I' q
 | ret v=>exact q
 | brk=>exact q
 | cont=>exact q
theorem c9(h1:PS X st t):PSs X [st] t:=by
 intro pins s σ H D I h
 refine wpAny_execs_cons (m8 (h1 pins s σ H D I h) fun f s1 q=>?_)
 cases f with
 | next=>exact aT4 q
 | ret v=>exact q
 | brk=>exact q
 | cont=>exact q
theorem Inv.quiet{pins:List (Addr×Obj)}{σ:St}{H:Hp}{s:Shared}(I:Inv X pins σ H s):interactive X.env=false:=by simp[interactive,I.ok.kind]
def b3A(te:TE):TS:=fun D σ H=>te σ H fun _ H1=>D.nx σ H1
theorem m6(he:PE X e te)(hs:swapsWith e none pos.line X.env=pure false:=by rfl):PS X (.Expr e pos) (b3A te):=by
 intro pins s σ H D I h
 exact wpAny_Expr_any (m8 (he pins s σ H _ I h) fun v s1 ⟨x,H1,I1,r1,q1⟩=>⟨σ,H1,I1,q1⟩) I.quiet hs
def b3E(te:TE):TS:=fun D σ H=>te σ H D.rt
theorem i4(he:PE X e te):PS X (.Return (some e) pos) (b3E te):=by
 intro pins s σ H D I h
 exact wpAny_Return_some (m8 (he pins s σ H _ I h) fun v s1 ⟨x,H1,I1,r1,q1⟩=>⟨x,σ,H1,I1,r1,q1⟩)
def b7C(c:TT)(t u:TS):TS:=fun D σ H=>c σ H fun b H1=>if b=true then t D σ H1 else u D σ H1
theorem k7{c:Expr}{a b:List Stmt}{tc:TT}(hc:PT X c tc)(ha:PSs X a t)(hb:PSs X b u):PS X (.If c a b pos) (b7C tc t u):=by
 intro pins s σ H D I h
 refine wpAny_If (m8 (hc pins s σ H _ I h) fun d s1 ⟨H1,I1,q1⟩=>?_)
 cases d with
 | true=>exact ha pins s1 σ H1 D I1 q1
 | false=>exact hb pins s1 σ H1 D I1 q1
end
abbrev TG:=V→St→Hp→(St→Hp→Prop)→Prop
abbrev TGs:=List V→St→Hp→(St→Hp→Prop)→Prop
def PG(X:Cx)(target:Expr)(t:TG):Prop:=
 ∀(pins:List (Addr×Obj)) (s:Shared) (σ:St) (H:Hp) (v:V) (u:Value) (Q:St→Hp→Prop),Inv X pins σ H s→RelV v u→t v σ H Q →
  wpAny (model X.prog X.w) X.A (assign target X.env u) (fun _ s'=>∃σ' H',Inv X pins σ' H' s'∧Q σ' H') X.xe s
def PGs(X:Cx)(ts:List Expr)(t:TGs):Prop:=
 ∀(pins:List (Addr×Obj)) (s:Shared) (σ:St) (H:Hp) (vs:List V) (us:List Value) (Q:St→Hp→Prop),Inv X pins σ H s→j4 vs us→t vs σ H Q →
  wpAny (model X.prog X.w) X.A (assignInOrder ((assignEach ts X.env).map (·.2)) us) (fun _ s'=>∃σ' H',Inv X pins σ' H' s'∧Q σ' H') X.xe s
section
variable{X:Cx}{pos:Pos}
def a8q(i:Nat):TG:=fun v σ H Q=>Q (σ.set i (some v)) H
theorem l4{i:Nat}{x:Str}(hN:X.N.Nodup)(hi:X.N[i]?=some x)(hx:Loc X.env.scope x)(hf:X.fn x=true∨X.env.scope.names.lookup x=some .local:=by first | exact .inl rfl | exact .inr rfl | assumption):PG X (.Name x pos) (a8q i):=by
 intro pins s σ H v u Q I r h
 exact wpAny_assign_Name (a1R I hN hi hx r (fun s' I'=>⟨_,H,I',h⟩) hf)
def b8D:TGs:=fun vs σ H Q=>vs=[]∧Q σ H
def b7A(t:TG)(u:TGs):TGs:=fun vs σ H Q=>∃v r,vs=v::r∧t v σ H fun σ' H'=>u r σ' H' Q
theorem a5g:PGs X [] b8D:=by
 intro pins s σ H vs us Q I r h
 obtain⟨e,h⟩:=h
 subst e
 cases r
 exact assignInOrder_nil ⟨σ,H,I,h⟩
theorem J2{e:Expr}{es:List Expr}{t:TG}{u:TGs}(h1:PG X e t)(h2:PGs X es u)
  (hs:(assignEach (e::es) X.env).map (·.2)=assign e X.env::(assignEach es X.env).map (·.2):=by rfl):PGs X (e::es) (b7A t u):=by
 intro pins s σ H vs us Q I r h
 obtain⟨v,vr,e1,h⟩:=h
 subst e1
 cases r with
 | cons r rr=>
  rw[hs]
  refine assignInOrder_cons (m8 (h1 pins s σ H _ _ _ I r h) fun _ s1 ⟨σ1,H1,I1,q1⟩=>?_)
  exact h2 pins s1 σ1 H1 _ _ Q I1 rr q1
def b5C(K:PySem.W.Frag)(n:Nat)(t:TGs):TG:=fun v σ H Q=>∃a xs,v=.ref a∧i5 K H a xs∧xs.length=n∧t xs σ H Q
theorem a3p{es:List Expr}{k:Nat}{t:TGs}{n:Nat}(hc:X.calm=true)(h:PGs X es t)
  (hn:(assignEach es X.env).length=n:=by rfl) (hst:(assignEach es X.env).findIdx? (·.1)=none:=by rfl):PG X (.Tuple es k pos) (b5C X.K n t):=by
 intro pins s σ H v u Q I r hw
 obtain⟨a,xs,e1,hq,hl,hw⟩:=hw
 subst e1
 cases r
 obtain⟨its,rv,ht,hz⟩:=I.tuple hq
 refine assign_Tuple_tuple (I.ok.hd hc) ht (by simp[hn,←hl,rv.length]) hst fun h' hx=>?_
 have I1:Inv X pins σ H { s with heap:=h' }:=I.kept (t':=s.toks) fun b o e=>hx b o (aC8 (aB5 e)) e
 exact h pins _ σ H xs _ Q I1 (by simpa using rv) hw
def b7m(te:TE)(g:TG):TS:=fun D σ H=>te σ H fun x H1=>g x σ H1 D.nx
theorem b3w{tg e:Expr}{te:TE}{g:TG}(he:PE X e te)(hg:PG X tg g)(hs:swapsWithSole [tg] e pos.line X.env=pure false:=by rfl)(hw:swappedStores [tg] e X.env=pure none:=by rfl)
  (h1:(assignEach [tg] X.env).map (·.2)=[assign tg X.env]:=by rfl):PS X (.Assign [tg] e pos) (b7m te g):=by
 intro pins s σ H D I h
 refine wpAny_Assign_stores (m8 (he pins s σ H _ I h) fun v s1 ⟨x,H1,I1,r1,q1⟩=>?_) hs hw
 rw[h1]
 exact m8 (hg pins s1 σ H1 x v _ I1 r1 q1) fun _ s2 q=>q
theorem g7{i:Nat}{x:Str}{e:Expr}{te:TE}{pos':Pos}(hN:X.N.Nodup)(hi:X.N[i]?=some x)(hx:Loc X.env.scope x)(he:PE X e te)(hs:swapsWith e (some (.Name x pos')) pos.line X.env=pure false:=by rfl)(hf:X.fn x=true∨X.env.scope.names.lookup x=some .local:=by first | exact .inl rfl | exact .inr rfl | assumption) :
  PS X (.Assign [.Name x pos'] e pos) (b7m te (a8q i)):=by
 intro pins s σ H D I h
 refine wpAny_Assign_Name (m8 (he pins s σ H _ I h) fun v s1 ⟨y,H1,I1,r1,q1⟩=>?_) hs
 exact a1R I1 hN hi hx r1 (fun s2 I2=>⟨_,H1,I2,q1⟩) hf
end
section
variable{X:Cx}{pos:Pos}
def b6y(c:TT)(tb:TS):TS:=fun D σ H=>∃W:Nat→St→Hp→Prop,(∃m,W m σ H)∧∀m σ H,W m σ H →
 c σ H fun b H1=>if b=true then ∃N:St→Hp→Prop,(∀σ' H',N σ' H'→∃m',m'<m∧W m' σ' H')∧tb { D with nx:=N,ct:=N,bk:=D.nx } σ H1 else D.nx σ H1
theorem a8i{c:Expr}{body:List Stmt}{tc:TT}{tb:TS}(hp:PassesOwn (model X.prog X.w) X.A X.env X.xe)(hc:PT X c tc)(hb:PSs X body tb):PS X (.While c body [] pos) (b6y tc tb):=by
 intro pins s σ H D I h
 obtain⟨W,⟨m0,w0⟩,turn⟩:=h
 refine wpAny_While (codeAny_whileLoop (fun n s'=>∃σ' H',Inv X pins σ' H' s'∧W n σ' H') ?_ m0 ⟨σ,H,I,w0⟩)
 rintro n s1 ⟨σ1,H1,I1,w1⟩
 refine aL9 hp (m8 (hc pins s1 σ1 H1 _ I1 (turn n σ1 H1 w1)) fun b s2 ⟨H2,I2,q2⟩=>?_)
 cases b with
 | true=>
  obtain⟨N,hN,q2⟩:=q2
  rw[aB0 rfl]
  refine aL9 hp (m8 (hb pins s2 σ1 H2 _ I2 q2) fun f s3 q3=>?_)
  cases f with
  | next=>
   obtain⟨σ3,H3,I3,n3⟩:=q3
   obtain⟨m',hm,w3⟩:=hN σ3 H3 n3
   exact⟨m',hm,σ3,H3,I3,w3⟩
  | cont=>
   obtain⟨σ3,H3,I3,n3⟩:=q3
   obtain⟨m',hm,w3⟩:=hN σ3 H3 n3
   exact⟨m',hm,σ3,H3,I3,w3⟩
  | brk=>exact q3
  | ret v=>exact q3
 | false=>
  rw[aA4 aC7]
  exact aT4 ⟨σ1,H2,I2,q2⟩
end
structure It where
 go:Nat→Hp→Prop
 yld:Nat→Hp→V→Hp→Prop
 stop:Nat→Hp→Prop
def Z3(X:Cx)(pins:List (Addr×Obj))(H:Hp)(b:Addr):Prop:=
 H b=none∧b≠X.env.locals∧b∉X.fs∧(b∈X.ex∨X.s₀.heap.objs.size≤b)∧(∀x c,X.env.cells.lookup x=some c→c≠b)∧∀p∈X.pn++pins,p.1≠b
theorem Inv.fpOk{X:Cx}{pins:List (Addr×Obj)}{σ:St}{H H':Hp}{s:Shared}{b:Addr}(I:Inv X pins σ H s)(hb:s.heap.objs.size≤b)(hn:H' b=none):Z3 X pins H' b:=by
 refine⟨hn,aJ4 (aE6 I.lt hb),I.nofs hb,.inr (aD8 I.sz hb),fun x c e z=>?_,fun p hp z=>?_⟩
 ·obtain⟨v,q⟩:=I.cell x c e
  exact absurd (aE6 q.lt (by rw[z];exact hb)) (aI3 _)
 ·exact absurd (aE6 (aB5 (I.pin p hp).1) (by rw[z];exact hb)) (aI3 _)
structure Turn(P:Program)(w:World)(K:PySem.W.Frag)(tg:Expr)(J:It)(fp:List Addr)(it:Addr)(tn:Nat→Heap→Prop):Prop where
 mem:it∈fp
 obj:∀i h,tn i h→∀b∈fp,∃o,h.get? b=some o∧∀v,o.data≠.cell v
 keep:∀i h h',tn i h→(∀b∈fp,∀o,h.get? b=some o→h'.get? b=some o)→tn i h'
 item:∀(X:Cx),X.prog=P→X.w=w→X.K=K→X.calm=true→∀(i:Nat) (pins:List (Addr×Obj)) (s:Shared) (σ:St) (H:Hp) (E:Value→Shared→Prop),Inv X pins σ H s→(∀b∈fp,Z3 X pins H b)→tn i s.heap→J.go i H →
  wpAny (model P w) X.A (pyNext (.ref it)) (fun r s1=>∃u,r=some u ∧
   wpAny (model P w) X.A (letOwnedTupleGo tg (.ref it) u) (fun _ s2=>∃x H',Inv X pins σ H' s2∧RelV x u∧J.yld i H x H'∧tn (i+1) s2.heap∧∀b∈fp,H' b=none) E s1) E s
 done:∀(X:Cx),X.prog=P→X.w=w→X.K=K→X.calm=true→∀(i:Nat) (pins:List (Addr×Obj)) (s:Shared) (σ:St) (H:Hp) (E:Value→Shared→Prop),Inv X pins σ H s→(∀b∈fp,Z3 X pins H b)→tn i s.heap→J.stop i H →
  wpAny (model P w) X.A (pyNext (.ref it)) (fun r s1=>r=none∧Inv X pins σ H s1) E s
 self:∀(A:Around) (i:Nat) (s:Shared) (Q:Value→Shared→Prop) (E:Value→Shared→Prop),tn i s.heap→Q (.ref it) s→wpAny (model P w) A (pyIter (.ref it)) Q E s
abbrev TI:=St→Hp→(It→Hp→Prop)→Prop
def PIE(X:Cx)(pins:List (Addr×Obj))(σ:St)(tg:Expr)(R:It→Hp→Prop)(itv:Value)(s2:Shared):Prop:=
 ∃(it:Addr) (fp:List Addr) (tn:Nat→Heap→Prop) (J:It) (H':Hp),itv=.ref it∧Inv X pins σ H' s2∧Turn X.prog X.w X.K tg J fp it tn∧tn 0 s2.heap∧(∀b∈fp,Z3 X pins H' b)∧R J H'
def PI(X:Cx)(tg iter:Expr)(wi:TI):Prop:=
 ∀(pins:List (Addr×Obj)) (s:Shared) (σ:St) (H:Hp) (R:It→Hp→Prop),Inv X pins σ H s→wi σ H R →
  wpAny (model X.prog X.w) X.A (eval iter X.env) (fun v s1=>wpAny (model X.prog X.w) X.A (pyIter v) (PIE X pins σ tg R) X.xe s1) X.xe s
theorem b8b{M:Model}{A:Around}{E:Value→Shared→Prop}{s:Shared}{tg:Expr}{it:Addr}{u:Value}{o:Obj}{n:String}{vs:Array Value}{Q:Unit→Shared→Prop}(ho:s.heap.get? it=some o)(hc:o.cls=.type n)(hd:o.data=.fields vs)
  (hn:["enumerate","zip","dict_itemiterator","dict_reverseitemiterator","odict_iterator","itertools.zip_longest","itertools.pairwise"].contains n=false) (hQ:Q () s):wpAny M A (letOwnedTupleGo tg (.ref it) u) Q E s:=by
 unfold letOwnedTupleGo
 cases tg<;>first
  | exact aA9 hQ
  | (cases u<;>first
    | exact aA9 hQ
    | (refine aA1 (wpAny_load ho ?_);rw[hc,hd];show wpAny M A (if (["enumerate","zip","dict_itemiterator","dict_reverseitemiterator","odict_iterator","itertools.zip_longest","itertools.pairwise"].contains n&&vs[0]?==some (rawInt _))=true then _ else _) Q E s;rw[aA4 (by intro h;rw[hn,Bool.false_and]at h;cases h)];exact aA9 hQ))
def Itl(K:PySem.W.Frag)(a:Addr):It:=
 ⟨fun i H=>∃xs x,d7 K H a xs∧xs[i]?=some x,fun i H x H'=>H'=H∧∀xs,d7 K H a xs→xs[i]?=some x,fun i H=>∃xs,d7 K H a xs∧xs.length≤i⟩
def Itr(lo:Int)(n:Nat):It:=⟨fun i _=>i<n,fun i H x H'=>H'=H∧x=.int (lo+i),fun i _=>n≤i⟩
theorem b3d{P:Program}{w:World}{K:PySem.W.Frag}{tg:Expr}(a it:Addr):Turn P w K tg (Itl K a) [it] it (fun i h=>h.IsListIter it a i) where
 mem:=by simp
 obj:=fun i h st b hb=>by
  have e:b=it:=by simpa using hb
  subst e
  obtain⟨o,e,c,d⟩:=st
  exact⟨o,e,fun v z=>by rw[d]at z;cases z⟩
 keep:=fun i h h' st k=>st.at fun o e=>k it (by simp) o e
 item:=by
  intro X hP hw hK hc i pins s σ H E I hf st hg
  subst hP hw hK
  obtain⟨xs,x,hq,hx⟩:=hg
  obtain⟨its,rv,p,hz⟩:=I.list hq
  obtain⟨u,hu,ru⟩:=rv.get hx
  obtain⟨f0,f1,f2,f3,f4,f5⟩:=hf it (by simp)
  refine wpAny_pyNext_list_item st p.isList (x:=u) (by simpa using hu) fun h' st' sb=>?_
  have I1:Inv X pins σ H { s with heap:=h' }:=I.turned (t':=s.toks) (fun b o hb e=>(sb.2 b hb).trans e) f0 f1 f3 f4 f5
  obtain⟨o,e,c,d⟩:=id st'
  exact⟨u,rfl,b8b (s:={ s with heap:=h' }) e c d (by decide) ⟨x,H,I1,ru,⟨rfl,fun ys hy=>by rw[I.list_inj hy hq];exact hx⟩,st',fun b hb=>(hf b hb).1⟩⟩
 done:=by
  intro X hP hw hK hc i pins s σ H E I hf st hg
  subst hP hw hK
  obtain⟨xs,hq,hx⟩:=hg
  obtain⟨its,rv,p,hz⟩:=I.list hq
  obtain⟨f0,f1,f2,f3,f4,f5⟩:=hf it (by simp)
  have hl:=rv.length
  exact wpAny_pyNext_list_end (I.ok.hd hc) st p.isList (by simp;omega) fun h' eb=>⟨rfl,I.turned (t':=s.toks) (fun b o hb e=>eb b o hb e) f0 f1 f3 f4 f5⟩
 self:=fun _ _ _ _ _ st h=>wpAny_pyIter_listiter st h
theorem a2Z{P:Program}{w:World}{K:PySem.W.Frag}{tg:Expr}(it:Addr)(lo:Int)(n:Nat):Turn P w K tg (Itr lo n) [it] it (fun i h=>IsRangeIter h it (lo+(i:Nat)*1) ((n:Int)-(i:Nat)) 1) where
 mem:=by simp
 obj:=fun i h st b hb=>by
  have e:b=it:=by simpa using hb
  subst e
  exact⟨_,st,fun v z=>by
   have z':Data.fields _=Data.cell v:=z
   cases z'⟩
 keep:=fun i h h' st k=>k it (by simp) _ st
 item:=by
  intro X hP hw hK hc i pins s σ H E I hf st hg
  subst hP hw hK
  obtain⟨f0,f1,f2,f3,f4,f5⟩:=hf it (by simp)
  have W:=Walks.range (prog:=X.prog) (w:=X.w) (I.ok.hd hc) it lo 1 n
  refine W.item i s _ _ hg st fun v h' tk hv st' kk=>?_
  obtain⟨t,rfl⟩:=hv
  have I1:Inv X pins σ H { s with heap:=h',toks:=tk }:=I.turned (fun b o hb e=>kk b o (by simpa using hb) e) f0 f1 f3 f4 f5
  refine⟨_,rfl,b8b (s:={ s with heap:=h',toks:=tk }) (n:="range_iterator") st' rfl rfl (by decide) ⟨.int (lo+i),H,I1,⟨t,?_⟩,⟨rfl,rfl⟩,st',fun b hb=>(hf b hb).1⟩⟩
  rw[Int.mul_one]
 done:=by
  intro X hP hw hK hc i pins s σ H E I hf st hg
  subst hP hw hK
  obtain⟨f0,f1,f2,f3,f4,f5⟩:=hf it (by simp)
  exact wpAny_pyNext_range_end (I.ok.hd hc) st (by have:n≤i:=hg;omega) fun h' eb=>⟨rfl,I.turned (t':=s.toks) (fun b o hb e=>eb b o hb e) f0 f1 f3 f4 f5⟩
 self:=fun _ _ _ _ _ st h=>wpAny_pyIter_rangeiter st h
open PySem PySem.Spec PyProof.Rows
section
variable{X:Cx}{tg:Expr}
def b4A(K:PySem.W.Frag)(tl:TE):TI:=fun σ H R=>tl σ H fun x H1=>∃a,x=.ref a∧(∃xs,d7 K H1 a xs)∧R (Itl K a) H1
theorem q5{l:Expr}{tl:TE}(hl:PE X l tl):PI X tg l (b4A X.K tl):=by
 intro pins s σ H R I h
 refine m8 (hl pins s σ H _ I h) fun v s1 ⟨x,H1,I1,r1,q1⟩=>?_
 obtain⟨a,e,⟨xs,hq⟩,q⟩:=q1
 subst e
 cases r1
 obtain⟨its,rv,p,hz⟩:=I1.list hq
 refine aO2 p.isList ?_
 refine⟨s1.heap.objs.size,[s1.heap.objs.size],_,_,H1,rfl,I1.kept (t':=s1.toks) fun b o e=>aA6 _ e,b3d a _,⟨_,aC0 _ rfl,rfl,rfl⟩,fun b hb=>?_,q⟩
 have e:b=s1.heap.objs.size:=by simpa using hb
 subst e
 exact I1.fpOk (aB3 _) (I1.hok.fresh (aB3 _))
theorem b4k{pins:List (Addr×Obj)}{σ:St}{H:Hp}{s:Shared}{R:It→Hp→Prop}{E:Value→Shared→Prop}{lo hi:Int}{t u v:Tok}{tk:Nat}(I:Inv X pins σ H s)(h1:-(2 ^ 62)≤lo)(h2:lo<2 ^ 62)(h3:-(2 ^ 62)≤hi)(h4:hi<2 ^ 62)
  (q:R (Itr lo (hi-lo).toNat) H):wpAny (model X.prog X.w) X.A (pyIter (.ref s.heap.objs.size)) (PIE X pins σ tg R) E { s with heap:=s.heap.push { cls:=.type "range",data:=.fields #[.int lo t,.int hi u,.int 1 v] },toks:=tk }:=by
 refine wpAny_pyIter_range (IsRange.new ..) (small_one h1 h2 h3 h4) ?_
 have I1:Inv X pins σ H { s with heap:=s.heap.push { cls:=.type "range",data:=.fields #[.int lo t,.int hi u,.int 1 v] },toks:=tk }:=I.kept fun b o e=>aA6 _ e
 refine⟨(s.heap.push { cls:=.type "range",data:=.fields #[.int lo t,.int hi u,.int 1 v] }).objs.size,[(s.heap.push { cls:=.type "range",data:=.fields #[.int lo t,.int hi u,.int 1 v] }).objs.size],_,_,H,rfl,
  I1.kept (t':=tk) fun b o e=>aA6 _ e,a2Z _ lo (hi-lo).toNat,?_,fun b hb=>?_,q⟩
 ·have e1:lo+((0:Nat):Int)*1=lo:=by simp
  have e2:(((hi-lo).toNat:Nat):Int)-((0:Nat):Int)=Builtin.Range.rangeSize lo hi 1:=by rw[rangeSize_one];split<;>omega
  show IsRangeIter _ _ (lo+((0:Nat):Int)*1) ((((hi-lo).toNat:Nat):Int)-((0:Nat):Int)) 1
  rw[e1,e2]
  exact aC0 _ rfl
 ·have e:b=(s.heap.push { cls:=.type "range",data:=.fields #[.int lo t,.int hi u,.int 1 v] }).objs.size:=by simpa using hb
  subst e
  exact I1.fpOk (aB3 _) (I1.hok.fresh (aB3 _))
def b6B(ta:TA):TI:=fun σ H R=>ta σ H fun vs H1=>∃j:Int,vs=[.int j]∧-(2 ^ 62)≤j∧j<2 ^ 62∧R (Itr 0 j.toNat) H1
theorem N6{a:Expr}{ta:TA}{p pos:Pos}(hg:Gl X "range")(hm:X.mg "range"=none)(ha:PA X [a] ta)(hs:starEach [a] X.env=[(false,eval a X.env)]:=by rfl):PI X tg (.Call (.Name "range" p) [a] [] pos) (b6B ta):=by
 intro pins s σ H R I h
 refine Call_ (a1d I hg hm boot_range (aL4 (m8 (ha pos pins s σ H _ I h) fun us s1 ⟨vs,H1,I1,r1,q1⟩=>?_) hs rfl))
 obtain⟨j,e,q1,q2,q⟩:=q1
 subst e
 cases r1 with
 | cons r rr=>
  cases rr
  obtain⟨t,rfl⟩:=r
  exact call_range_1 (b4k I1 (by omega) (by omega) q1 q2 (by simpa using q))
def b2E(wi:TI)(g:TG)(tb:TS):TS:=fun D σ H=>wi σ H fun J H1=>∃W:Nat→Nat→St→Hp→Prop,(∃m,W 0 m σ H1)∧∀i m σ H,W i m σ H →
 (J.stop i H∧D.nx σ H)∨(J.go i H∧∃N:St→Hp→Prop,(∀σ' H',N σ' H'→∃m',m'<m∧W (i+1) m' σ' H')∧∀x H',J.yld i H x H'→g x σ H' fun σ2 H2=>tb { D with nx:=N,ct:=N,bk:=D.nx } σ2 H2)
def a2p(fp:List Addr)(h:Heap):List (Addr×Obj):=fp.filterMap fun b=>(h.get? b).map fun o=>(b,o)
theorem a6a{fp:List Addr}{h:Heap}{b:Addr}{o:Obj}(hb:b∈fp)(e:h.get? b=some o):(b,o)∈a2p fp h:=aP4.mpr ⟨b,hb,by rw[e];rfl⟩
theorem b0j{fp:List Addr}{h:Heap}{p:Addr×Obj}(hp:p∈a2p fp h):p.1∈fp∧h.get? p.1=some p.2:=by
 obtain⟨b,hb,e⟩:=aP4.mp hp
 cases q:h.get? b with
 | none=>rw[q]at e;cases e
 | some o=>
  rw[q]at e
  have e':(b,o)=p:=aD1 e
  subst e'
  exact⟨hb,q⟩
theorem Inv.pinned{pins:List (Addr×Obj)}{σ:St}{H:Hp}{s:Shared}{fp:List Addr}(I:Inv X pins σ H s)(hf:∀b∈fp,Z3 X pins H b)(ho:∀b∈fp,∃o,s.heap.get? b=some o∧∀v,o.data≠.cell v):Inv X (pins++a2p fp s.heap) σ H s:=
 I.pins_of fun p hp=>(aA8.mp hp).elim (fun z=>I.pin p (aD7 _ z)) fun z=>by
  obtain⟨hb,e⟩:=b0j z
  obtain⟨f0,f1,f2,_⟩:=hf p.1 hb
  obtain⟨o,e',d⟩:=ho p.1 hb
  rw[e]at e';cases e'
  exact⟨e,f0,f1,f2,d⟩
theorem Inv.unpinned{pins pl:List (Addr×Obj)}{σ:St}{H:Hp}{s:Shared}(I:Inv X (pins++pl) σ H s):Inv X pins σ H s:=I.pins_of fun p hp=>I.pin p (aD7 _ (aE2 _ hp))
theorem z9{iter:Expr}{body:List Stmt}{wi:TI}{g:TG}{tb:TS}{pos:Pos}(hp:PassesOwn (model X.prog X.w) X.A X.env X.xe)(hc:X.calm=true)(hi:PI X tg iter wi)(hg:PG X tg g)(hb:PSs X body tb)
  (hs:∀x,foldedSetIterable iter X.env x=pure x:=by intro _;rfl):PS X (.For tg iter body [] pos) (b2E wi g tb):=by
 intro pins s σ H D I h
 refine wpAny_For (m8 (hi pins s σ H _ I h) fun v s1 h1=>m8 h1 fun itv s2 h2=>?_) hs
 obtain⟨it,fp,tn,J,H2,e,I2,T,st2,f2,W,⟨m0,w0⟩,turn⟩:=h2
 subst e
 have stat:∀{H':Hp},(∀b∈fp,H' b=none)→∀b∈fp,Z3 X pins H' b:=fun hn b hb=>⟨hn b hb,(f2 b hb).2⟩
 refine codeAny_forLoop_any (fun n s'=>∃i σ' H',Inv X pins σ' H' s'∧tn i s'.heap∧(∀b∈fp,H' b=none)∧W i n σ' H') ?_ m0 ⟨0,σ,H2,I2,st2,fun b hb=>(f2 b hb).1,w0⟩
 rintro n s3 ⟨i,σ3,H3,I3,st3,fr3,w3⟩
 rcases turn i n σ3 H3 w3 with ⟨stop,qn⟩ | ⟨go,N,hN,step⟩
 ·refine aL9 hp (m8 (T.done X rfl rfl rfl hc i pins s3 σ3 H3 X.xe I3 (stat fr3) st3 stop) fun r s4 ⟨hr,I4⟩=>?_)
  subst hr
  exact aT4 ⟨σ3,H3,I4,qn⟩
 ·refine aL9 hp (m8 (T.item X rfl rfl rfl hc i pins s3 σ3 H3 X.xe I3 (stat fr3) st3 go) fun r s4 ⟨u,hr,h4⟩=>?_)
  subst hr
  refine aL9 hp (m8 h4 fun _ s5 ⟨x,H5,I5,r5,y5,st5,fr5⟩=>?_)
  have I5':=I5.pinned (stat fr5) (T.obj _ _ st5)
  refine aL9 hp (m8 (hg _ s5 σ3 H5 x u _ I5' r5 (step x H5 y5)) fun _ s6 ⟨σ6,H6,I6,q6⟩=>?_)
  refine aL9 hp (m8 (hb _ s6 σ6 H6 _ I6 q6) fun f s7 q7=>?_)
  have again:∀{σ7:St} {H7:Hp},Inv X (pins++a2p fp s5.heap) σ7 H7 s7→N σ7 H7→∃m,m<n∧∃i σ' H',Inv X pins σ' H' s7∧tn i s7.heap∧(∀b∈fp,H' b=none)∧W i m σ' H':=fun {σ7 H7} I7 n7=>by
   obtain⟨m',hm,w7⟩:=hN σ7 H7 n7
   refine⟨m',hm,i+1,σ7,H7,I7.unpinned,T.keep _ _ _ st5 fun b hb o e=>(I7.pin (b,o) (aD7 _ (aD7 _ (a6a hb e)))).1,fun b hb=>?_,w7⟩
   obtain⟨o,e,d⟩:=T.obj _ _ st5 b hb
   exact(I7.pin (b,o) (aD7 _ (aD7 _ (a6a hb e)))).2.1
  cases f with
  | next=>obtain⟨σ7,H7,I7,n7⟩:=q7;exact again I7 n7
  | cont=>obtain⟨σ7,H7,I7,n7⟩:=q7;exact again I7 n7
  | brk=>obtain⟨σ7,H7,I7,q7⟩:=q7;exact⟨σ7,H7,I7.unpinned,q7⟩
  | ret v=>obtain⟨x7,σ7,H7,I7,r7,q7⟩:=q7;exact⟨x7,σ7,H7,I7.unpinned,r7,q7⟩
end
theorem B8{K:PySem.W.Frag}{a:Addr}{xs:List V}{g:TG}{tb:TS}{D:Ends}{σ:St}{H:Hp}(Pv:Nat→St→Hp→Prop)(h0:Pv 0 σ H)(hl:∀i σ H,i≤xs.length→Pv i σ H→d7 K H a xs)
  (hs:∀i x σ H,xs[i]?=some x→Pv i σ H→g x σ H fun σ2 H2=>tb { D with nx:=Pv (i+1),ct:=Pv (i+1),bk:=D.nx } σ2 H2) (hd:∀σ H,Pv xs.length σ H→D.nx σ H) :
  ∃W:Nat→Nat→St→Hp→Prop,(∃m,W 0 m σ H)∧∀i m σ H,W i m σ H →
   ((Itl K a).stop i H∧D.nx σ H)∨((Itl K a).go i H∧∃N:St→Hp→Prop,(∀σ' H',N σ' H'→∃m',m'<m∧W (i+1) m' σ' H')∧∀x H',(Itl K a).yld i H x H'→g x σ H' fun σ2 H2=>tb { D with nx:=N,ct:=N,bk:=D.nx } σ2 H2):=by
 refine⟨fun i m σ H=>m=xs.length-i∧i≤xs.length∧Pv i σ H,⟨xs.length,by simp,aG4 _,h0⟩,?_⟩
 rintro i m σ H ⟨rfl,hi,p⟩
 have q:=hl i σ H hi p
 by_cases hlt:i<xs.length
 ·refine .inr ⟨⟨xs,xs[i],q,by simp[hlt]⟩,Pv (i+1),fun σ' H' p'=>⟨xs.length-(i+1),by omega,rfl,hlt,p'⟩,fun x H' y=>?_⟩
  obtain⟨e,y⟩:=y
  subst e
  exact hs i x σ _ (y xs q) p
 ·have e:i=xs.length:=by omega
  subst e
  exact .inl ⟨⟨xs,q,aB3 _⟩,hd σ H p⟩
theorem N7{lo:Int}{n:Nat}{g:TG}{tb:TS}{D:Ends}{σ:St}{H:Hp}(Pv:Nat→St→Hp→Prop)(h0:Pv 0 σ H)
  (hs:∀i σ H,i<n→Pv i σ H→g (.int (lo+i)) σ H fun σ2 H2=>tb { D with nx:=Pv (i+1),ct:=Pv (i+1),bk:=D.nx } σ2 H2) (hd:∀σ H,Pv n σ H→D.nx σ H) :
  ∃W:Nat→Nat→St→Hp→Prop,(∃m,W 0 m σ H)∧∀i m σ H,W i m σ H →
   ((Itr lo n).stop i H∧D.nx σ H)∨((Itr lo n).go i H∧∃N:St→Hp→Prop,(∀σ' H',N σ' H'→∃m',m'<m∧W (i+1) m' σ' H')∧∀x H',(Itr lo n).yld i H x H'→g x σ H' fun σ2 H2=>tb { D with nx:=N,ct:=N,bk:=D.nx } σ2 H2):=by
 refine⟨fun i m σ H=>m=n-i∧i≤n∧Pv i σ H,⟨n,by simp,aG4 _,h0⟩,?_⟩
 rintro i m σ H ⟨rfl,hi,p⟩
 by_cases hlt:i<n
 ·refine .inr ⟨hlt,Pv (i+1),fun σ' H' p'=>⟨n-(i+1),by omega,rfl,hlt,p'⟩,fun x H' y=>?_⟩
  obtain⟨e,y⟩:=y
  subst e y
  exact hs i σ _ hlt p
 ·have e:i=n:=by omega
  subst e
  exact .inl ⟨aB3 _,hd σ H p⟩
open PySem PySem.Spec PyProof.Rows
abbrev R2:=V→V→Hp→VK→Prop
def G5(X:Cx)(f:Value→Value→Sem Value)(r:R2):Prop:=
 ∀(pins:List (Addr×Obj)) (s:Shared) (σ:St) (H:Hp) (x y:V) (v u:Value) (Q:VK),Inv X pins σ H s→RelV x v→RelV y u→r x y H Q →
  wpAny (model X.prog X.w) X.A (f v u) (EP X pins σ Q) X.xe s
def UnR(X:Cx)(f:Value→Sem Value)(r:V→Hp→VK→Prop):Prop:=
 ∀(pins:List (Addr×Obj)) (s:Shared) (σ:St) (H:Hp) (x:V) (v:Value) (Q:VK),Inv X pins σ H s→RelV x v→r x H Q →
  wpAny (model X.prog X.w) X.A (f v) (EP X pins σ Q) X.xe s
def L6(X:Cx)(f:Value)(r:List V→Hp→VK→Prop):Prop:=
 ∀(pins:List (Addr×Obj)) (s:Shared) (σ:St) (H:Hp) (xs:List V) (us:List Value) (Q:VK),Inv X pins σ H s→j4 xs us→r xs H Q →
  wpAny (model X.prog X.w) X.A (call f us) (EP X pins σ Q) X.xe s
def tOp(r:R2)(ta tb:TE):TE:=fun σ H Q=>ta σ H fun x H1=>tb σ H1 fun y H2=>r x y H2 Q
def tUn(r:V→Hp→VK→Prop)(ta:TE):TE:=fun σ H Q=>ta σ H fun x H1=>r x H1 Q
inductive b2C(C:Int→Int→Prop)(g:Int→Int→V)(x y:V)(H:Hp)(Q:VK):Prop
 | mk (i j:Int) (e1:x=.int i) (e2:y=.int j) (c:C i j) (q:Q (g i j) H)
inductive IIn(g:Int→Int→V)(x y:V)(H:Hp)(Q:VK):Prop
 | mk (i j:Int) (e1:x=.int i) (e2:y=.int j) (q:Q (g i j) H)
def rI(C:Int→Int→Prop)(g:Int→Int→V):R2:=b2C C g
def rI0(g:Int→Int→V):R2:=IIn g
def rU(g:Int→V):V→Hp→VK→Prop:=fun x H Q=>∃i,x=.int i∧Q (g i) H
section
variable{X:Cx}{a b c:Expr}{ta tb tc:TE}{pos:Pos}
theorem b4q(ha:PE X a ta)(hb:PE X b tb){pins:List (Addr×Obj)}{s:Shared}{σ:St}{H:Hp}{R:V→V→Hp→Prop}(I:Inv X pins σ H s)
  (h:ta σ H fun x H1=>tb σ H1 fun y H2=>R x y H2) {Q:Value→Shared→Prop} {f:Value→Value→Sem Value}
  (hf:∀v u s2 x y H2,Inv X pins σ H2 s2→RelV x v→RelV y u→R x y H2→wpAny (model X.prog X.w) X.A (f v u) Q X.xe s2) :
  wpAny (model X.prog X.w) X.A (eval a X.env) (fun v s₁=>wpAny (model X.prog X.w) X.A (eval b X.env) (fun u s₂=>wpAny (model X.prog X.w) X.A (f v u) Q X.xe s₂) X.xe s₁) X.xe s:=by
 refine m8 (ha pins s σ H _ I h) fun v s1 ⟨x,H1,I1,r1,q1⟩=>?_
 refine m8 (hb pins s1 σ H1 _ I1 q1) fun u s2 ⟨y,H2,I2,r2,q2⟩=>?_
 exact hf v u s2 x y H2 I2 r1 r2 q2
theorem j6{op:Operator}{r:R2}(ho:G5 X (binaryOp op) r)(ha:PE X a ta)(hb:PE X b tb):PE X (.BinOp a op b pos) (tOp r ta tb):=by
 intro pins s σ H Q I h
 exact wpAny_BinOp (b4q ha hb I h fun v u s2 x y H2 I2 rx ry q=>ho pins s2 σ H2 x y v u Q I2 rx ry q)
theorem b1c{op:UnaryOp}{r:V→Hp→VK→Prop}(ho:UnR X (unaryOp op) r)(ha:PE X a ta):PE X (.UnaryOp op a pos) (tUn r ta):=by
 intro pins s σ H Q I h
 exact UnaryOp_ (m8 (ha pins s σ H _ I h) fun v s1 ⟨x,H1,I1,r1,q1⟩=>ho pins s1 σ H1 x v Q I1 r1 q1)
theorem opI{f:Value→Value→Sem Value}{C:Int→Int→Prop}{g:Int→Int→Int}
  (rule:∀(i j:Int) (t u:Tok) (s:Shared) (Q:Value→Shared→Prop) (E:Value→Shared→Prop),C i j→Q (.int (g i j) s.toks) { s with toks:=s.toks+1 }→wpAny (model X.prog X.w) X.A (f (.int i t) (.int j u)) Q E s) :
  G5 X f (rI C fun i j=>.int (g i j)):=by
 intro pins s σ H x y v u Q I rx ry h
 obtain⟨i,j,rfl,rfl,hc,q⟩:=h
 obtain⟨t,rfl⟩:=rx
 obtain⟨t',rfl⟩:=ry
 exact rule i j t t' s _ _ hc ⟨.int (g i j),H,I.tok _,⟨_,rfl⟩,q⟩
theorem b5y{f:Value→Value→Sem Value}{g:Int→Int→Int}
  (rule:∀(i j:Int) (t u:Tok) (s:Shared) (Q:Value→Shared→Prop) (E:Value→Shared→Prop),Q (.int (g i j) s.toks) { s with toks:=s.toks+1 }→wpAny (model X.prog X.w) X.A (f (.int i t) (.int j u)) Q E s) :
  G5 X f (rI0 fun i j=>.int (g i j)):=by
 intro pins s σ H x y v u Q I rx ry h
 obtain⟨i,j,rfl,rfl,q⟩:=h
 obtain⟨t,rfl⟩:=rx
 obtain⟨t',rfl⟩:=ry
 exact rule i j t t' s _ _ ⟨.int (g i j),H,I.tok _,⟨_,rfl⟩,q⟩
theorem b4p{f:Value→Value→Sem Value}{g:Int→Int→Bool}
  (rule:∀(i j:Int) (t u:Tok) (s:Shared) (Q:Value→Shared→Prop) (E:Value→Shared→Prop),Q (.bool (g i j)) s→wpAny (model X.prog X.w) X.A (f (.int i t) (.int j u)) Q E s) :
  G5 X f (rI0 fun i j=>.bl (g i j)):=by
 intro pins s σ H x y v u Q I rx ry h
 obtain⟨i,j,rfl,rfl,q⟩:=h
 obtain⟨t,rfl⟩:=rx
 obtain⟨t',rfl⟩:=ry
 exact rule i j t t' s _ _ ⟨.bl (g i j),H,I,rfl,q⟩
def b4C(i j:Int):Prop:=0<j∧j<1073741824
def b3D(i j:Int):Prop:=0≤j∧j≤1000000∧i.natAbs<2 ^ 64
def b5n(i j:Int):Prop:=(-(2 ^ 64)<i∧i<2 ^ 64)∨(-(2 ^ 64)<j∧j<2 ^ 64)
theorem b5n.ok{i j:Int}(h:b5n i j):IntMulOk i j:=by
 rcases h with ⟨h1,h2⟩ | ⟨h1,h2⟩
 ·exact .of_left (intBits_le_64 h1 h2)
 ·exact .of_right (intBits_le_64 h1 h2)
theorem F7:G5 X (binaryOp .Add) (rI0 fun i j=>.int (i+j)):=b5y fun _ _ _ _ _ _ _ q=>add_int q
theorem N0:G5 X (binaryOp .Sub) (rI0 fun i j=>.int (i-j)):=b5y fun _ _ _ _ _ _ _ q=>sub_int q
theorem b1g:G5 X (binaryOp .Mult) (rI b5n fun i j=>.int (i*j)):=opI fun _ _ _ _ _ _ _ hc q=>mul_int q hc.ok
theorem a2r:G5 X (binaryOp .FloorDiv) (rI b4C fun i j=>.int (i/j)):=opI fun i j _ _ _ _ _ hc q=>by
 have h1:(0:Int)<j:=hc.1
 have h2:j<1073741824:=hc.2
 exact floordiv_int (by omega) (by rw[Int.fdiv_eq_ediv_of_nonneg i (by omega)];exact q) (.inl (PyProof.noPylong_small (by omega)))
theorem K5:G5 X (binaryOp .Mod) (rI (fun _ j=>0<j) fun i j=>.int (i % j)):=opI fun i j _ _ _ _ _ hc q=>by
 have h1:(0:Int)<j:=hc
 exact mod_int' (by omega) (by rw[Int.fmod_eq_emod_of_nonneg i (by omega)];exact q)
theorem a4g:G5 X (binaryOp .Pow) (rI b3D fun i j=>.int (i ^ j.toNat)):=opI fun _ _ _ _ _ _ _ hc q=>pow_int_small hc.1 hc.2.1 hc.2.2 q
theorem unI{f:Value→Sem Value}{g:Int→Int}
  (rule:∀(i:Int) (t:Tok) (s:Shared) (Q:Value→Shared→Prop) (E:Value→Shared→Prop),Q (.int (g i) s.toks) { s with toks:=s.toks+1 }→wpAny (model X.prog X.w) X.A (f (.int i t)) Q E s) :
  UnR X f (rU fun i=>.int (g i)):=by
 intro pins s σ H x v Q I rx h
 obtain⟨i,rfl,q⟩:=h
 obtain⟨t,rfl⟩:=rx
 exact rule i t s _ _ ⟨.int (g i),H,I.tok _,⟨_,rfl⟩,q⟩
theorem a3S:UnR X (unaryOp .USub) (rU fun i=>.int (-i)):=unI fun _ _ _ _ _ q=>neg_int q
end
def b6x:V→V→Bool
 | .non,.non=>true | .non,.int _=>true | .int _,.non=>true | .non,.bl _=>true | .bl _,.non=>true | .non,.str _=>true | .str _,.non=>true
 | .int _,.int _=>true | .bl _,.bl _=>true | .str _,.str _=>true | .byt _,.byt _=>true
 | .int _,.str _=>true | .str _,.int _=>true | .bl _,.str _=>true | .str _,.bl _=>true
 | _,_=>false
def rEq:R2:=fun x y H Q=>b6x x y=true∧Q (.bl (decide (x=y))) H
def rNe:R2:=fun x y H Q=>b6x x y=true∧Q (.bl (!decide (x=y))) H
theorem a3V{i j:Int}:decide (V.int i=V.int j)=(i==j):=by
 rw[aR7]
 simp
theorem b8h{i j:Bool}:decide (V.bl i=V.bl j)=(i==j):=by
 rw[aR7]
 simp
theorem a3X{i j:Str}:decide (V.str i=V.str j)=(i==j):=by
 rw[aR7]
 simp
theorem a5W{i j:Array UInt8}:decide (V.byt i=V.byt j)=(i.toList==j.toList):=by
 rw[aR7]
 cases i
 cases j
 simp
section
variable{X:Cx}{a b c:Expr}{ta tb tc:TE}{pos:Pos}
theorem p6{pins:List (Addr×Obj)}{σ:St}{H:Hp}{s:Shared}{Q:VK}{k k':Bool}(I:Inv X pins σ H s)(q:Q (.bl k) H)(e:k=k'):EP X pins σ Q (.bool k') s:=by
 subst e
 exact⟨.bl k,H,I,rfl,q⟩
theorem z8:G5 X (compareOp .Eq) rEq:=by
 intro pins s σ H x y v u Q I rx ry h
 obtain⟨hs,q⟩:=h
 cases x with
 | non=>
  cases rx
  cases y with
  | non=>cases ry;exact PySem.EqNone.eq_none_none (p6 I q (by simp))
  | bl j=>cases ry;exact PySem.EqNone.eq_none_bool (p6 I q (by simp))
  | int j=>obtain⟨t',rfl⟩:=ry;exact PySem.EqNone.eq_none_int (p6 I q (by simp))
  | str j=>obtain⟨t',rfl⟩:=ry;exact PySem.EqNone.eq_none_str (p6 I q (by simp))
  | _=>exact absurd (show false=true from hs) aC7
 | bl i=>
  cases rx
  cases y with
  | non=>cases ry;exact PySem.EqNone.eq_bool_none (p6 I q (by simp))
  | bl j=>cases ry;exact eq_bool (p6 I q b8h)
  | str j=>obtain⟨t',rfl⟩:=ry;exact PySem.EqMixed.eq_bool_str (p6 I q (by simp))
  | _=>exact absurd (show false=true from hs) aC7
 | int i=>
  obtain⟨t,rfl⟩:=rx
  cases y with
  | non=>cases ry;exact PySem.EqNone.eq_int_none (p6 I q (by simp))
  | int j=>obtain⟨t',rfl⟩:=ry;exact eq_int (p6 I q a3V)
  | str j=>obtain⟨t',rfl⟩:=ry;exact PySem.EqMixed.eq_int_str (p6 I q (by simp))
  | _=>exact absurd (show false=true from hs) aC7
 | str i=>
  obtain⟨t,rfl⟩:=rx
  cases y with
  | non=>cases ry;exact PySem.EqNone.eq_str_none (p6 I q (by simp))
  | bl j=>cases ry;exact PySem.EqMixed.eq_str_bool (p6 I q (by simp))
  | int j=>obtain⟨t',rfl⟩:=ry;exact PySem.EqMixed.eq_str_int (p6 I q (by simp))
  | str j=>obtain⟨t',rfl⟩:=ry;exact eq_str (p6 I q a3X)
  | _=>exact absurd (show false=true from hs) aC7
 | byt i=>
  obtain⟨t,rfl⟩:=rx
  cases y with
  | byt j=>obtain⟨t',rfl⟩:=ry;exact PySem.W.eq_bytes (p6 I q a5W)
  | _=>exact absurd (show false=true from hs) aC7
 | _=>cases y<;>exact absurd (show false=true from hs) aC7
theorem M6:G5 X (compareOp .NotEq) rNe:=by
 intro pins s σ H x y v u Q I rx ry h
 obtain⟨hs,q⟩:=h
 cases x with
 | non=>
  cases rx
  cases y with
  | non=>cases ry;exact PySem.EqNone.ne_none_none (p6 I q (by simp))
  | bl j=>cases ry;exact PySem.EqNone.ne_none_bool (p6 I q (by simp))
  | int j=>obtain⟨t',rfl⟩:=ry;exact PySem.EqNone.ne_none_int (p6 I q (by simp))
  | str j=>obtain⟨t',rfl⟩:=ry;exact PySem.EqNone.ne_none_str (p6 I q (by simp))
  | _=>exact absurd (show false=true from hs) aC7
 | bl i=>
  cases rx
  cases y with
  | non=>cases ry;exact PySem.EqNone.ne_bool_none (p6 I q (by simp))
  | bl j=>cases ry;exact ne_bool (p6 I q (congrArg not b8h))
  | str j=>obtain⟨t',rfl⟩:=ry;exact PySem.EqMixed.ne_bool_str (p6 I q (by simp))
  | _=>exact absurd (show false=true from hs) aC7
 | int i=>
  obtain⟨t,rfl⟩:=rx
  cases y with
  | non=>cases ry;exact PySem.EqNone.ne_int_none (p6 I q (by simp))
  | int j=>obtain⟨t',rfl⟩:=ry;exact ne_int (p6 I q (congrArg not a3V))
  | str j=>obtain⟨t',rfl⟩:=ry;exact PySem.EqMixed.ne_int_str (p6 I q (by simp))
  | _=>exact absurd (show false=true from hs) aC7
 | str i=>
  obtain⟨t,rfl⟩:=rx
  cases y with
  | non=>cases ry;exact PySem.EqNone.ne_str_none (p6 I q (by simp))
  | bl j=>cases ry;exact PySem.EqMixed.ne_str_bool (p6 I q (by simp))
  | int j=>obtain⟨t',rfl⟩:=ry;exact PySem.EqMixed.ne_str_int (p6 I q (by simp))
  | str j=>obtain⟨t',rfl⟩:=ry;exact ne_str (p6 I q (congrArg not a3X))
  | _=>exact absurd (show false=true from hs) aC7
 | byt i=>
  obtain⟨t,rfl⟩:=rx
  cases y with
  | byt j=>obtain⟨t',rfl⟩:=ry;exact PySem.W.ne_bytes (p6 I q (congrArg not a5W))
  | _=>exact absurd (show false=true from hs) aC7
 | _=>cases y<;>exact absurd (show false=true from hs) aC7
theorem a3e:G5 X (compareOp .Lt) (rI0 fun i j=>.bl (decide (i<j))):=b4p fun _ _ _ _ _ _ _ q=>lt_int q
theorem a5L:G5 X (compareOp .LtE) (rI0 fun i j=>.bl (decide (i≤j))):=b4p fun _ _ _ _ _ _ _ q=>le_int q
theorem a0y:G5 X (compareOp .Gt) (rI0 fun i j=>.bl (decide (j<i))):=b4p fun _ _ _ _ _ _ _ q=>gt_int q
theorem a6d:G5 X (compareOp .Is) (fun x y H Q=>y=.non∧Q (.bl (decide (x=.non))) H):=by
 intro pins s σ H x y v u Q I rx ry h
 obtain⟨rfl,q⟩:=h
 cases ry
 refine is_none_gen (p6 I q ?_)
 cases x<;>first
  | (cases rx;rfl)
  | (obtain⟨t,rfl⟩:=rx;rfl)
theorem a1W:G5 X (compareOp .IsNot) (fun x y H Q=>y=.non∧Q (.bl (!decide (x=.non))) H):=by
 intro pins s σ H x y v u Q I rx ry h
 obtain⟨rfl,q⟩:=h
 cases ry
 refine isnot_none_gen (p6 I q ?_)
 cases x<;>first
  | (cases rx;rfl)
  | (obtain⟨t,rfl⟩:=rx;rfl)
theorem i6(b:Expr){op:CmpOp}(h:op≠.In:=by decide)(h2:op≠.NotIn:=by decide):behindInMarks op b=false:=by
 have e1:(op==CmpOp.In)=false:=by cases op<;>first | rfl | exact absurd rfl h
 have e2:(op==CmpOp.NotIn)=false:=by cases op<;>first | rfl | exact absurd rfl h2
 cases b<;>simp[behindInMarks,e1,e2]
theorem Q1{op:CmpOp}{r:R2}(ho:G5 X (compareOp op) r)(ha:PE X a ta)(hb:PE X b tb)(hm:behindInMarks op b=false):PE X (.Compare a [op] [b] pos) (tOp r ta tb):=by
 intro pins s σ H Q I h
 exact wpAny_Compare1 (b4q ha hb I h fun v u s2 x y H2 I2 rx ry q=>ho pins s2 σ H2 x y v u Q I2 rx ry q) hm
def b5A(t:TE):TT:=fun σ H Q=>t σ H fun x H'=>IBl x fun k=>Q k H'
theorem f7{op:CmpOp}{r:R2}(ho:G5 X (compareOp op) r)(ha:PE X a ta)(hb:PE X b tb)(hm:behindInMarks op b=false):PT X (.Compare a [op] [b] pos) (b5A (tOp r ta tb)):=by
 intro pins s σ H Q I h
 refine wpAny_isTrue_Compare1 (m8 (ha pins s σ H _ I h) fun v s1 ⟨x,H1,I1,r1,q1⟩=>m8 (hb pins s1 σ H1 _ I1 q1) fun u s2 ⟨y,H2,I2,r2,q2⟩=>
  m8 (ho pins s2 σ H2 x y v u _ I2 r1 r2 q2) fun c s3 ⟨z,H3,I3,r3,k,e,q3⟩=>?_) hm
 subst e
 cases r3
 exact aM3 ⟨H3,I3,q3⟩
theorem a5y:(sizeLine:Nat)<2 ^ 63:=by rw[aF9];decide
theorem a3i:G5 X (binaryOp .Add) (fun x y H Q=>∃i j,x=.str i∧y=.str j∧i.length+j.length≤sizeLine∧Q (.str (i++j)) H):=by
 intro pins s σ H x y v u Q I rx ry h
 obtain⟨i,j,rfl,rfl,hz,q⟩:=h
 obtain⟨t,rfl⟩:=rx
 obtain⟨t',rfl⟩:=ry
 exact add_str (fun t' tk=>⟨.str (i++j),H,I.tok _,⟨_,rfl⟩,q⟩) hz
theorem vals1{x:V}{us:List Value}(r:j4 [x] us):∃u,us=[u]∧RelV x u:=by
 cases r with
 | cons r1 r2=>cases r2;exact⟨_,rfl,r1⟩
theorem vals2{x y:V}{us:List Value}(r:j4 [x,y] us):∃u w',us=[u,w']∧RelV x u∧RelV y w':=by
 cases r with
 | cons r1 r2=>
  cases r2 with
  | cons r3 r4=>cases r4;exact⟨_,_,rfl,r1,r3⟩
theorem a6q(hc:X.calm=true):L6 X (.builtin "max") (fun xs H Q=>∃i j,xs=[.int i,.int j]∧Q (.int (if j>i then j else i)) H):=by
 intro pins s σ H xs us Q I r h
 obtain⟨i,j,rfl,q⟩:=h
 obtain⟨u,w',rfl,⟨t,rfl⟩,⟨t',rfl⟩⟩:=vals2 r
 refine max_two_ints (I.ok.hd hc) fun h' tk k=>⟨_,H,I.kept k,?_,q⟩
 by_cases hj:j>i
 ·rw[aB0 hj,aB0 hj];exact⟨_,rfl⟩
 ·rw[aA4 hj,aA4 hj];exact⟨_,rfl⟩
theorem a3I:L6 X (.type "int") (fun xs H Q=>(∃i,xs=[.int i]∧Q (.int i) H)∨∃k,xs=[.bl k]∧Q (.int (if k then 1 else 0)) H):=by
 intro pins s σ H xs us Q I r h
 rcases h with ⟨i,rfl,q⟩ | ⟨k,rfl,q⟩
 ·obtain⟨u,rfl,t,rfl⟩:=vals1 r
  exact call_int_int ⟨.int i,H,I,⟨_,rfl⟩,q⟩
 ·obtain⟨u,rfl,r1⟩:=vals1 r
  cases r1
  exact call_int_bool ⟨.int (if k then 1 else 0),H,I.tok _,⟨_,rfl⟩,q⟩
theorem a0T:L6 X (.type "str") (fun xs H Q=>∃i,xs=[.int i]∧i.natAbs.log2<1920∧Q (.str (toString i)) H):=by
 intro pins s σ H xs us Q I r h
 obtain⟨i,rfl,hz,q⟩:=h
 obtain⟨u,rfl,t,rfl⟩:=vals1 r
 exact PySem.P.str_of_int hz ⟨.str _,H,I.tok _,⟨_,rfl⟩,q⟩
end
open PySem PySem.Spec PyProof.Rows
structure a4v(h:Heap)(x dx C:Addr)(mA:Str→Option Value):Prop where
 obj:h.get? x=some (PySem.W.instObj C dx)
 ns:h.Ns1 dx mA
 ne:dx≠x
theorem b0d{h:Heap}{dx:Addr}{mA:Str→Option Value}(n:h.Ns1 dx mA):∃od,h.get? dx=some od∧∀name,PySem.W.lookIn name od=some (mA name):=by
 obtain⟨o,es,ep,ho,hd,hk,_,hm⟩:=n
 refine⟨o,ho,fun name=>?_⟩
 have e:=hm name
 unfold nsFind findBy at e
 rw[←Array.find?_toList]at e
 unfold PySem.W.lookIn
 rw[hd]
 dsimp only
 split
 ·rename_i y q
  rw[q]at e
  exact congrArg some e
 ·rename_i q
  rw[q]at e
  have a:es.toList.any (·.refKey)=false:=by
   rw[List.any_eq_false]
   intro y hy
   obtain⟨z,t,hkey⟩:=hk y (Array.mem_toList_iff.mp hy)
   simp[DictEntry.refKey,hkey]
  have a':¬es.toList.any (·.refKey)=true:=by rw[a];exact aC7
  rw[aA4 a']
  exact congrArg some e
theorem a4v.look{h:Heap}{x dx C:Addr}{mA:Str→Option Value}(I:a4v h x dx C mA):∃od,PySem.W.InstAt h x (PySem.W.instObj C dx) C (some od)∧∀name,PySem.W.lookIn name od=some (mA name):=
 let ⟨od,ho,hl⟩:=b0d I.ns
 ⟨od,⟨I.obj,rfl,rfl,ho⟩,hl⟩
section
variable{prog:Program}{w:World}{A:Around}{E:Value→Shared→Prop}{s:Shared}{K:PySem.W.Frag}{x dx C f:Addr}{mA:Str→Option Value}{name:Str}{v:Value}
theorem get_map{expr:Bool}{Q:Value→Shared→Prop}(X:K.In s.heap)(I:a4v s.heap x dx C mA)(hg:PySem.W.plainGet K C name=true)(hh:PySem.W.hasDictIn K C=true)
  (ha:PySem.W.findIn K (.ref C) name=some none) (hv:mA name=some v) (hv':PySem.W.handedIn v=true) (h:Q v { s with toks:=s.toks+1 }) :
  wpAny (model prog w) A (getAttr (.ref x) name expr) Q E s:=by
 obtain⟨od,J,hl⟩:=I.look
 exact PySem.W.get_value X J (aS6 hg).1 (PySem.W.findObj_own hh ha rfl (by rw[hl,hv])) hv' h
theorem b6k{pl:Sem Bool}{Q:Value×List Value→Shared→Prop}(X:K.In s.heap)(I:a4v s.heap x dx C mA)(hg:PySem.W.plainGet K C name=true)
  (hf:PySem.W.findIn K (.ref C) name=some (some (.ref f))) (ht:PySem.W.isFn K (.ref f)=true) (hv:mA name=none) (h:Q (.ref f,[.ref x]) s) :
  wpAny (model prog w) A (getMethod (.ref x) name pl) Q E s:=by
 obtain⟨od,J,hl⟩:=I.look
 exact PySem.W.method_fn X J (aS6 hg).1 (aS6 hg).2 hf (aP7.mp ht) (by show(PySem.W.lookIn name od).map (·.isSome)=some false;rw[hl,hv];rfl) h
theorem b7u{ns:List Str}{Q:Unit→Shared→Prop}(X:K.In s.heap)(I:a4v s.heap x dx C mA)
  (hs:PySem.W.findIn K (.ref C) "__setattr__"=some (some (.builtin "object.__setattr__"))) (hp:PySem.W.plainOver K C=true) (ht:PySem.W.takerIn K C name=some none) (hh:PySem.W.hasDictIn K C=true)
  (hw:PySem.Within mA ns) (hsz:ns.length≤sizeLine)
  (h:∀h',a4v h' x dx C (fun y=>if y=name then some v else mA y)→Heap.SameBut dx s.heap h'→Q () { s with heap:=h',toks:=s.toks+2 }) :
  wpAny (model prog w) A (setAttr (.ref x) name v) Q E s:=by
 obtain⟨od,J,hl⟩:=I.look
 refine PySem.W.set_plain X J hs (PySem.W.osa_open (s:={ s with toks:=s.toks+1 }) (r:=none) X J hp ht fun b=>?_)
 obtain⟨cd,hc,hd'⟩:=PySem.W.any_some hh
 have hx:s.heap.get? x=some ⟨.ref C,some dx,.plain,#[]⟩:=I.obj
 refine aA1 (aA9 (aA1 (aA1 (wpAny_loadPart hx (aA1 (PySem.W.Looks.here (s:={ s with toks:=s.toks+1 }) (PySem.W.looks_clsIn X hc) ?_))))))
 rw[hd']
 refine aA9 (a:=some dx) (aA1 (aA9 (aA1 ?_)))
 refine wpAny_nsSet1 (s:={ s with toks:=s.toks+1 }) I.ns fun h' hn2 hs2=>?_
 obtain⟨oD,esD,epD,hoD,hdD,hcD⟩:=hn2.count (PySem.Within.cons name v hw)
 refine aA1 (wpAny_lookBehind hoD (by rw[hdD];exact pastItsLine_dict (aD8 hcD (by rw[aF0];omega))) ?_)
 exact aA9 (h _ ⟨(hs2.2 _ (Ne.symm I.ne)).trans I.obj,hn2,I.ne⟩ hs2)
theorem b1q{R:Result→Shared→Prop}{vs:List Value}{kw:List (Str×Value)}(X:K.In s.heap)(hm:PySem.W.makesIn K C=true)
  (hi:PySem.W.findIn K (.ref C) "__init__"=some (some (.ref f))) (hf:PySem.W.typeIn K (.ref f)=some (.type "function"))
  (h:codeAny (model prog w) (A.under (.builtin "type.__call__" ⟨.ref C::vs,kw⟩)) (.call (.ref f) ⟨.ref (s.heap.objs.size+1)::vs,kw⟩) (PySem.W.InitBack (s.heap.objs.size+1) R)
   { s with heap:=(s.heap.push PySem.W.emptyDict).push (PySem.W.instObj C s.heap.objs.size) }) :
  codeAny (model prog w) A (.call (.ref C) ⟨vs,kw⟩) R s:=by
 obtain⟨hh,g,d,t,os⟩:=s
 exact PySem.W.make_core (PySem.W.makes_of X hm) (PySem.W.looks_findIn X hi) (fun self=>PySem.W.bind_fn X self hf) (.inl rfl) h
end
def N1(f:Str)(v:V):List (Str×V)→List (Str×V)
 | []=>[(f,v)]
 | (g,x)::r=>if g=f then(g,v)::r else(g,x)::N1 f v r
theorem a5t(f g:Str)(v:V):∀fs:List (Str×V),(N1 f v fs).lookup g=if g=f then some v else fs.lookup g
 | []=>by
  show List.lookup g [(f,v)]=_
  by_cases h:g=f
  ·have hb:(g==f)=true:=aP7.mpr h
   simp only[List.lookup,hb,aB0 h]
  ·have hb:(g==f)=false:=aG2.mpr h
   simp only[List.lookup,hb,aA4 h]
 | (k,x)::r=>by
  have ih:=a5t f g v r
  rw[show N1 f v ((k,x)::r)=(if k=f then(k,v)::r else(k,x)::N1 f v r) from rfl]
  by_cases hk:k=f
  ·rw[aB0 hk]
   by_cases h:g=k
   ·have hb:(g==k)=true:=aP7.mpr h
    simp only[List.lookup,hb,aB0 (h.trans hk)]
   ·have hb:(g==k)=false:=aG2.mpr h
    simp only[List.lookup,hb,aA4 (fun e:g=f=>h (e.trans hk.symm))]
  ·rw[aA4 hk]
   by_cases h:g=k
   ·have hb:(g==k)=true:=aP7.mpr h
    simp only[List.lookup,hb,aA4 (fun e:g=f=>hk (h.symm.trans e))]
   ·have hb:(g==k)=false:=aG2.mpr h
    simp only[List.lookup,hb]
    exact ih
theorem a7n(f:Str)(v:V):∀fs:List (Str×V),f∈(N1 f v fs).map (·.1)∧∀g,g∈fs.map (·.1)→g∈(N1 f v fs).map (·.1)
 | []=>⟨by simp[N1],fun g h=>by simp at h⟩
 | (k,x)::r=>by
  obtain⟨i1,i2⟩:=a7n f v r
  rw[show N1 f v ((k,x)::r)=(if k=f then(k,v)::r else(k,x)::N1 f v r) from rfl]
  by_cases hk:k=f
  ·rw[aB0 hk]
   subst hk
   exact⟨by simp,fun g h=>by simpa using h⟩
  ·rw[aA4 hk]
   refine⟨?_,fun g h=>?_⟩
   ·rw[aC1]
    exact aC4 _ i1
   ·rw[aC1]at h ⊢
    rcases aB9.mp h with e | e
    ·exact aB9.mpr (.inl e)
    ·exact aC4 _ (i2 g e)
theorem a3t(f:Str)(v:V):∀fs:List (Str×V),(N1 f v fs).length≤fs.length+1
 | []=>by simp[N1]
 | (k,x)::r=>by
  have ih:=a3t f v r
  rw[show N1 f v ((k,x)::r)=(if k=f then(k,v)::r else(k,x)::N1 f v r) from rfl]
  by_cases hk:k=f
  ·rw[aB0 hk,aF0,aF0];omega
  ·rw[aA4 hk,aF0,aF0];omega
theorem N9.some_of{v:V}{o:Option Value}(r:N9 (some v) o):∃u,o=some u∧RelV v u:=by
 cases o with
 | none=>exact(show False from r).elim
 | some u=>exact⟨u,rfl,r⟩
theorem N9.none_of{o:Option Value}(r:N9 none o):o=none:=by
 cases o with
 | none=>rfl
 | some u=>exact(show False from r).elim
theorem b0e{v:V}{u:Value}(r:RelV v u):PySem.W.handedIn u=true:=by
 cases v with
 | non=>cases (show u=Value.none from r);rfl
 | bl b=>cases (show u=Value.bool b from r);rfl
 | int i=>obtain⟨t,e⟩:=(show ∃t,u=Value.int i t from r);cases e;rfl
 | str x=>obtain⟨t,e⟩:=(show ∃t,u=Value.str x t from r);cases e;rfl
 | byt b=>obtain⟨t,e⟩:=(show ∃t,u=Value.bytes b t from r);cases e;rfl
 | flt b=>obtain⟨t,e⟩:=(show ∃t,u=Value.float b t from r);cases e;rfl
 | ref a=>cases (show u=Value.ref a from r);rfl
 | ty n=>cases (show u=Value.type n from r);rfl
section
variable{P:Program}{w:World}{H H':Hp}{h h':Heap}{a C dx:Addr}{fs fs':List (Str×V)}
theorem a4C(hok:K2 P w H h)(e:H a=some (.ins C dx fs)):∃mA,a4v h a dx C mA∧(∀f,N9 (fs.lookup f) (mA f))∧PySem.Within mA (fs.map (·.1))∧fs.length≤1000∧H dx=some (.own a):=by
 obtain⟨d,z,ne,ob,mA,n,r,q⟩:=(show A6 P w H h a (.ins C dx fs) from hok a _ e)
 exact⟨mA,⟨ob,n,ne⟩,r,q,z,d⟩
end
structure Cls(K:PySem.W.Frag)(C:Addr):Prop where
 pg:PySem.W.plainGet K C Str.empty=true
 hd:PySem.W.hasDictIn K C=true
 po:PySem.W.plainOver K C=true
 sa:PySem.W.findIn K (.ref C) "__setattr__"=some (some (.builtin "object.__setattr__"))
theorem Cls.get{K:PySem.W.Frag}{C:Addr}(c:Cls K C)(f:Str):PySem.W.plainGet K C f=true:=c.pg
def x9(K:PySem.W.Frag)(C:Addr)(f:Str):Prop:=PySem.W.findIn K (.ref C) f=some none
theorem x9.taker{K:PySem.W.Frag}{C:Addr}{f:Str}(n:x9 K C f):PySem.W.takerIn K C f=some none:=by
 unfold PySem.W.takerIn
 rw[show PySem.W.findIn K (.ref C) f=some none from n]
 rfl
structure V3(K:PySem.W.Frag)(C:Addr)(m:Str)(f:Addr):Prop where
 at_:PySem.W.findIn K (.ref C) m=some (some (.ref f))
 fn:PySem.W.isFn K (.ref f)=true
 kp:PySem.W.keepIn K (.ref f)=true
section
variable{X:Cx}{pins:List (Addr×Obj)}{σ:St}{H:Hp}{s:Shared}{a C dx:Addr}{fs:List (Str×V)}{f:Str}{v:V}{A:Around}{E:Value→Shared→Prop}
theorem a6Y{b:Bool}{Q:Value→Shared→Prop}(I:Inv X pins σ H s)(e:H a=some (.ins C dx fs))(c:Cls X.K C)(n:x9 X.K C f)(l:fs.lookup f=some v)
  (h:∀u s',Inv X pins σ H s'→RelV v u→Q u s'):wpAny (model X.prog X.w) A (getAttr (.ref a) f b) Q E s:=by
 obtain⟨mA,O,r,_,_,_⟩:=a4C I.hok e
 obtain⟨u,hu,ru⟩:=N9.some_of (v:=v) (o:=mA f) (by rw[←l];exact r f)
 exact get_map I.kIn O (c.get f) c.hd n hu (b0e ru) (h u _ (I.tok _) ru)
theorem a2k{m:Str}{g:Addr}{pl:Sem Bool}{Q:Value×List Value→Shared→Prop}(I:Inv X pins σ H s)(e:H a=some (.ins C dx fs))(c:Cls X.K C)(k:V3 X.K C m g)(l:fs.lookup m=none)
  (h:Q (.ref g,[.ref a]) s):wpAny (model X.prog X.w) A (getMethod (.ref a) m pl) Q E s:=by
 obtain⟨mA,O,r,_,_,_⟩:=a4C I.hok e
 have hn:mA m=none:=N9.none_of (by rw[←l];exact r m)
 exact b6k I.kIn O (c.get m) k.at_ k.fn hn h
theorem b0b{y:V}{u:Value}{Q:Unit→Shared→Prop}(I:Inv X pins σ H s)(e:H a=some (.ins C dx fs))(c:Cls X.K C)(n:x9 X.K C f)(hl:fs.length<1000)(ry:RelV y u)
  (h:∀s',Inv X pins σ (upd H a (.ins C dx (N1 f y fs))) s'→Q () s'):wpAny (model X.prog X.w) A (setAttr (.ref a) f u) Q E s:=by
 obtain⟨mA,O,r,wi,_,ho⟩:=a4C I.hok e
 have hz:(fs.map (·.1)).length≤sizeLine:=by rw[aA0,aF9];omega
 refine b7u I.kIn O c.sa c.po n.taker c.hd wi hz fun h' O' sb=>h _ ?_
 have hd:∃o,h'.get? dx=some o:=let ⟨o,_,_,e',_⟩:=O'.ns;⟨o,e'⟩
 refine I.write (x:=a) (e:=dx) (by rw[e];exact True.intro) (.inr ho) (fun b q hb z=>(sb.2 b hb).trans z) hd ?_
 refine⟨by rw[b7 O.ne];exact ho,?_,O.ne,O'.obj,_,O'.ns,fun g=>?_,fun g hg=>?_⟩
 ·have:=a3t f y fs;omega
 ·show N9 ((N1 f y fs).lookup g) (if g=f then some u else mA g)
  rw[a5t]
  by_cases q:g=f
  ·rw[aB0 q,aB0 q];exact ry
  ·rw[aA4 q,aA4 q];exact r g
 ·by_cases q:g=f
  ·rw[q];exact(a7n f y fs).1
  ·refine(a7n f y fs).2 g (wi g fun z=>hg ?_)
   show(if g=f then some u else mA g)=none
   rw[aA4 q];exact z
theorem Inv.made(I:Inv X pins σ H s):Inv X pins σ (upd (upd H s.heap.objs.size (.own (s.heap.objs.size+1))) (s.heap.objs.size+1) (.ins C s.heap.objs.size []))
  { s with heap:=(s.heap.push PySem.W.emptyDict).push (PySem.W.instObj C s.heap.objs.size) }:=by
 have e1:(s.heap.push PySem.W.emptyDict).get? s.heap.objs.size=some PySem.W.emptyDict:=aC0 s.heap rfl
 have e2:((s.heap.push PySem.W.emptyDict).push (PySem.W.instObj C s.heap.objs.size)).get? (s.heap.objs.size+1)=some (PySem.W.instObj C s.heap.objs.size):=by
  have:=aC0 (s.heap.push PySem.W.emptyDict) (o:=PySem.W.instObj C s.heap.objs.size) rfl
  rwa [aI9] at this
 have e3:(s.heap.push PySem.W.emptyDict).Ns s.heap.objs.size (fun _=>none):=⟨PySem.W.emptyDict,#[],_,e1,rfl,(fun e he=>absurd he (by simp)),fun _=>rfl⟩
 have I1:=I.laid (a:=s.heap.objs.size) (o:=.own (s.heap.objs.size+1)) (h':=s.heap.push PySem.W.emptyDict) (t':=s.toks) (fun b u q=>aA6 _ q) (aB3 _) ⟨_,e1⟩
 refine I1.laid (a:=s.heap.objs.size+1) (o:=.ins C s.heap.objs.size []) (t':=s.toks) (fun b u q=>aA6 _ q) (Nat.le_of_eq (aI9 _ _)) ?_
 have ne:s.heap.objs.size≠s.heap.objs.size+1:=aC8 (aM1 _)
 refine⟨by rw[b7 ne,b0],aG4 _,ne,e2,fun _=>none,(Heap.Ns1.of_empty e3).at fun o q=>aA6 _ q,fun _=>True.intro,fun y hy=>absurd rfl hy⟩
theorem b0u{prog:Program}{w:World}{env:Env}{e:Expr}{f:Str}{pos:Pos}{s:Shared}{Q:Value→Shared→Prop}(hb:attributeBase e f env (eval e env)=eval e env)
  (h:wpAny (model prog w) A (eval e env) (fun o s₁=>wpAny (model prog w) A (getAttr o f true) Q E s₁) E s):wpAny (model prog w) A (eval (.Attribute e f pos) env) Q E s:=
 Attribute_any_ h (by rw[arm_eval_Attribute,hb])
end
inductive b7D(K:PySem.W.Frag)(f:Str)(x:V)(H:Hp)(Q:VK):Prop
 | mk (a C dx:Addr) (fs:List (Str×V)) (v:V) (e:x=.ref a) (h:H a=some (.ins C dx fs)) (c:Cls K C) (n:x9 K C f) (l:fs.lookup f=some v) (q:Q v H)
def b5x(K:PySem.W.Frag)(ta:TE)(f:Str):TE:=fun σ H Q=>ta σ H fun x H1=>b7D K f x H1 Q
def b8E(K:PySem.W.Frag)(ta tv:TE)(f:Str):TS:=fun D σ H=>tv σ H fun y H1=>ta σ H1 fun x H2=>∃a C dx fs,x=.ref a∧H2 a=some (.ins C dx fs)∧Cls K C∧x9 K C f∧fs.length<1000 ∧
 D.nx σ (upd H2 a (.ins C dx (N1 f y fs)))
section
variable{X:Cx}{o e value:Expr}{f:Str}{pos pos' tpos:Pos}{ta tv:TE}
theorem t9(he:PE X e ta)(hb:attributeBase e f X.env (eval e X.env)=eval e X.env):PE X (.Attribute e f pos) (b5x X.K ta f):=by
 intro pins s σ H Q I h
 refine b0u hb (m8 (he pins s σ H _ I h) fun u s1 ⟨x,H1,I1,rx,a,C,dx,fs,v,ex,ea,c,n,l,q⟩=>?_)
 subst ex
 obtain rfl:u=Value.ref a:=rx
 exact a6Y I1 ea c n l fun u' s2 I2 ru=>⟨v,H1,I2,ru,q⟩
theorem N3(ha:PE X o ta)(hv:PE X value tv)(hs:swapsWith value (some (.Attribute o f pos')) pos.line X.env=pure false):PS X (.Assign [.Attribute o f pos'] value pos) (b8E X.K ta tv f):=by
 intro pins s σ H D I h
 refine plainObj_wpAny_Assign_Attribute (m8 (hv pins s σ H _ I h) fun u s1 ⟨y,H1,I1,ry,q⟩=>m8 (ha pins s1 σ H1 _ I1 q) fun ov s2 ⟨x,H2,I2,rx,a,C,dx,fs,ex,ea,c,n,l,q2⟩=>?_) hs
 subst ex
 obtain rfl:ov=Value.ref a:=rx
 exact b0b I2 ea c n l ry fun s3 I3=>⟨σ,_,I3,q2⟩
theorem b7z{pl:Sem Bool}{m:Str}{apos:Pos}{args:List Expr}{pins:List (Addr×Obj)}{s:Shared}{σ:St}{H:Hp}{Q:Value→Shared→Prop}{te:TE}(he:PE X e te)(I:Inv X pins σ H s)
  (h:te σ H fun x H1=>∃a C dx fs g,x=.ref a∧H1 a=some (.ins C dx fs)∧Cls X.K C∧V3 X.K C m g∧fs.lookup m=none ∧
   ∀s1,Inv X pins σ H1 s1→wpAny (model X.prog X.w) X.A (callWith pos (.ref g) [.ref a] (backTo pos (starEach args X.env)) (backToKw pos (keywordEach [] X.env))) Q X.xe s1)
  (ht:eval (.Call (.Attribute e m apos) args [] pos) X.env=(do
   let ov ←eval e X.env
   standAt apos.atName
   let (f,first) ←holding [ov] (getMethod ov m pl)
   callWith pos f first (backTo pos (starEach args X.env)) (backToKw pos (keywordEach [] X.env)))) :
  wpAny (model X.prog X.w) X.A (eval (.Call (.Attribute e m apos) args [] pos) X.env) Q X.xe s:=by
 refine aQ8 (pl:=pl) (m8 (he pins s σ H _ I h) fun u s1 ⟨x,H1,I1,rx,a,C,dx,fs,g,ex,ea,c,k,l,q⟩=>?_) ht
 subst ex
 obtain rfl:u=Value.ref a:=rx
 exact a2k I1 ea c k l (q s1 I1)
end
section
variable{X:Cx}{pins:List (Addr×Obj)}{σ:St}{H:Hp}{s:Shared}{A:Around}{E:Value→Shared→Prop}{Q:Value→Shared→Prop}{c:Value}{b:Bool}
end
open PySem PySem.Spec PyProof.Rows
structure G6(k:Nat)(A:Around):Prop where
 hd:A.handled=none
 dp:A.depth+3*k+5<recursionLimit
 un:A.units+16*k+200<cLine
theorem G6.mono{j k:Nat}{A:Around}(r:G6 k A)(h:j≤k):G6 j A:=⟨r.hd,by have:=r.dp;omega,by have:=r.un;omega⟩
theorem G6.deeper{k:Nat}{A:Around}(r:G6 (k+1) A)(env:Env):G6 k (A.deeper env):=
 ⟨r.hd,by have:=r.dp;show A.depth+1+3*k+5<_;omega,by have:=r.un;show A.units+3+16*k+200<_;omega⟩
theorem b3a{A:Around}{C:Addr}{us:List Value}{kw:List (Str×Value)}:(A.under (.builtin "type.__call__" ⟨.ref C::us,kw⟩)).depth=A.depth+1:=by
 first | rfl | simp[Around.under,Code.weight,Code.isCreation,Code.isGuard,Code.isCaller,Code.frames,Code.isFrame,guardIds]
theorem b3c{A:Around}{C:Addr}{us:List Value}{kw:List (Str×Value)}:(A.under (.builtin "type.__call__" ⟨.ref C::us,kw⟩)).units=A.units+1:=by
 first | rfl | simp[Around.under,Code.cUnits,Code.frames,Code.isFrame]
theorem G6.make{k:Nat}{A:Around}(r:G6 (k+1) A)(C:Addr)(us:List Value)(kw:List (Str×Value)):G6 k (A.under (.builtin "type.__call__" ⟨.ref C::us,kw⟩)):=
 ⟨r.hd,by have:=r.dp;rw[b3a];omega,by have:=r.un;rw[b3c];omega⟩
theorem G6.depth{k:Nat}{A:Around}(r:G6 k A):A.depth<recursionLimit:=by have:=r.dp;omega
theorem G6.units{k:Nat}{A:Around}(r:G6 k A):A.units+64<cLine:=by have:=r.un;omega
def a0Z:TA:=fun _ H Q=>Q [] H
def b4r(ta:TE)(tr:TA):TA:=fun σ H Q=>ta σ H fun x H1=>tr σ H1 fun xs H2=>Q (x::xs) H2
section
variable{X:Cx}{e:Expr}{es:List Expr}{te:TE}{t:TA}{pos:Pos}
theorem b6:PA X [] a0Z:=fun _ _ _ _ H Q I h=>aL1 ⟨[],H,I,.nil,h⟩
theorem a6(ha:PE X e te)(hr:PA X es t)(hs:starEach (e::es) X.env=(false,eval e X.env)::starEach es X.env:=by rfl):PA X (e::es) (b4r te t):=by
 intro pos pins s σ H Q I h
 rw[hs]
 show wpAny _ _ (spliced ((false,eval e X.env)::backTo pos (starEach es X.env))) _ _ s
 refine aI0 (m8 (ha pins s σ H _ I h) fun u s1 ⟨x,H1,I1,r1,q1⟩=>?_)
 exact m8 (hr pos pins s1 σ H1 _ I1 q1) fun us s2 ⟨xs,H2,I2,r2,q2⟩=>⟨x::xs,H2,I2,.cons r1 r2,q2⟩
def b2F(t:TA):TE:=fun σ H Q=>t σ H fun xs H1=>xs.length≤sizeLine∧∀p,H1 p=none→Q (.ref p) (upd H1 p (.tup xs))
def b9C(t:TA):TE:=fun σ H Q=>t σ H fun xs H1=>xs.length≤sizeLine∧∀p,H1 p=none→Q (.ref p) (upd H1 p (.lst xs))
theorem v3{x1}(h:PA X es t):PE X (.Tuple es x1 pos) (b2F t):=by
 intro pins s σ H Q I hq
 refine wpAny_Tuple_spliced (m8 (h pos pins s σ H _ I hq) fun us s1 ⟨xs,H1,I1,r,z,q⟩=>⟨by rw[←r.length];exact z,?_⟩)
 have hf:H1 s1.heap.objs.size=none:=I1.hok.fresh (aB3 _)
 refine⟨.ref s1.heap.objs.size,upd H1 s1.heap.objs.size (.tup xs),I1.laid (t':=s1.toks) (fun b u e=>aA6 _ e) (aB3 _) ?_,rfl,q _ hf⟩
 exact⟨z,us,r,⟨_,aC0 _ rfl,rfl,_,rfl⟩⟩
theorem m7(h:PA X es t):PE X (.List es pos) (b9C t):=by
 intro pins s σ H Q I hq
 refine wpAny_List_spliced (m8 (h pos pins s σ H _ I hq) fun us s1 ⟨xs,H1,I1,r,z,q⟩=>⟨by rw[←r.length];exact z,?_⟩)
 have hf:H1 s1.heap.objs.size=none:=I1.hok.fresh (aB3 _)
 refine⟨.ref s1.heap.objs.size,upd H1 s1.heap.objs.size (.lst xs),I1.laid (t':=s1.toks) (fun b u e=>aA6 _ e) (aB3 _) ?_,rfl,q _ hf⟩
 exact⟨z,us,0,r,aC0 _ rfl⟩
end
abbrev Sp:=List V→Hp→VK→XK→Prop
abbrev CXT:=List Env→Hp→Shared→XK→Value→Shared→Prop
structure a2v(P:Program)(w:World)(K:PySem.W.Frag)(mg:Str→Option Value)(base:Heap)(A:Around)(outer:List Env)(s:Shared)(H:Hp):Prop where
 frames:A.frames=some outer
 mod:Mod K mg base
 bs:∀b o,base.get? b=some o→s.heap.get? b=some o∧H b=none
 bsz:base.objs.size≤s.heap.objs.size
 funs:s.heap.FunFrames base outer
 frf:∀b∈frs outer,H b=none
 hok:K2 P w H s.heap
 bare:AllBare s.gens
def CE(outer:List Env)(P:Program)(w:World)(H:Hp)(s:Shared)(Q:VK)(u:Value)(s':Shared):Prop:=
 ∃v H',s'.os=s.os∧AllBare s'.gens∧Un (frs outer) [] H H' s.heap s'.heap∧K2 P w H' s'.heap∧RelV v u∧Q v H'
def CR(CX:CXT)(outer:List Env)(P:Program)(w:World)(H:Hp)(s:Shared)(Q:VK)(E:XK)(r:Result)(s':Shared):Prop:=
 match r with
 | .ok (.ret u)=>CE outer P w H s Q u s'
 | .ok _=>False
 | .error e=>CX outer H s E e s'
structure g9(P:Program)(w:World)(K:PySem.W.Frag)(mg:Str→Option Value)(base:Heap)(CX:CXT)(k:Nat)(f:Addr)(fd:FuncData)(ps:List Str)(sp:Sp):Prop where
 len:∀vs H Q E,sp vs H Q E→vs.length=ps.length
 run:∀(A:Around) (outer:List Env) (s:Shared) (H:Hp) (args:Args) (us:List Value) (vs:List V) (Q:VK) (E:XK),G6 k A→a2v P w K mg base A outer s H→BindsTo s fd args (ps.zip us)→j4 vs us→sp vs H Q E →
  codeAny (model P w) A (.call (.ref f) args) (CR CX outer P w H s Q E) s
theorem g9.mono{P:Program}{w:World}{K:PySem.W.Frag}{mg:Str→Option Value}{base:Heap}{CX:CXT}{j k:Nat}{f:Addr}{fd:FuncData}{ps:List Str}{sp:Sp}(F:g9 P w K mg base CX j f fd ps sp)(h:j≤k) :
  g9 P w K mg base CX k f fd ps sp:=⟨F.len,fun A outer s H args us vs Q E hr=>F.run A outer s H args us vs Q E (hr.mono h)⟩
theorem a2v.make{P:Program}{w:World}{K:PySem.W.Frag}{mg:Str→Option Value}{base:Heap}{A:Around}{outer:List Env}{s:Shared}{H:Hp}(e:a2v P w K mg base A outer s H)(C:Addr)(us:List Value)(kw:List (Str×Value)) :
  a2v P w K mg base (A.under (.builtin "type.__call__" ⟨.ref C::us,kw⟩)) outer s H:=⟨by first | exact e.frames | (simpa [Around.under,Code.envs,Code.isFrame,pushEnvs] using e.frames),e.mod,e.bs,e.bsz,e.funs,e.frf,e.hok,e.bare⟩
section
variable{X:Cx}{pins:List (Addr×Obj)}{σ:St}{H:Hp}{s s':Shared}
theorem Inv.env0(I:Inv X pins σ H s):a2v X.prog X.w X.K X.mg X.base X.A X.stack s H:=
 ⟨I.ok.frames,I.ok.mod,I.bs,aD8 I.ok.bsz I.sz,I.stack,I.stkFree,I.hok,I.bare⟩
theorem Inv.after{Q:VK}{u:Value}(I:Inv X pins σ H s)(h:CE X.stack X.prog X.w H s Q u s'):EP X pins σ Q u s':=by
 obtain⟨v,H',os,bare,un,hok,r,q⟩:=h
 obtain⟨hh,g,d,t,os'⟩:=s'
 obtain rfl:os'=s.os:=os
 exact⟨v,H',I.call (h':=hh) (g':=g) (d':=d) (t':=t) (ch:=[]) un hok bare (fun b z=>absurd z (by simp)),r,q⟩
end
def b6A(sp:Sp)(dvs:List V)(E:XK)(t:TA):TE:=fun σ H Q=>t σ H fun vs H1=>sp (vs++dvs) H1 Q E
def b6r(C:Addr)(m:Str)(sp:Sp)(dvs:List V)(E:XK)(ta:TE)(t:TA):TE:=fun σ H Q=>ta σ H fun x H1=>∃a dx fs,x=.ref a∧H1 a=some (.ins C dx fs)∧fs.lookup m=none ∧
 t σ H1 fun vs H2=>sp (x::(vs++dvs)) H2 Q E
def b2r(C:Addr)(sp:Sp)(dvs:List V)(E:XK)(t:TA):TE:=fun σ H Q=>t σ H fun vs H1=>∀x dx,H1 x=none→H1 dx=none→dx≠x →
 sp (.ref x::(vs++dvs)) (upd (upd H1 dx (.own x)) x (.ins C dx [])) (fun v H2=>v=.non∧Q (.ref x) H2) E
def Binds(K:PySem.W.Frag)(fd:FuncData)(ps:List Str)(ds:List Value):Prop:=
 ∀(s:Shared) (us:List Value),K.In s.heap→(us++ds).length=ps.length→BindsTo s fd ⟨us,[]⟩ (ps.zip (us++ds))
theorem Binds.all{K:PySem.W.Frag}{fd:FuncData}{ps:List Str}(h:∀us:List Value,us.length=ps.length→bindArgs fd ⟨us,[]⟩=pure (ps.zip us)):Binds K fd ps []:=fun s us _ hl=>by
 rw[aH1]at hl ⊢
 exact .of_eq (h us hl)
def Y0(CX:CXT)(X:Cx)(E:XK):Prop:=∀(pins:List (Addr×Obj)) (σ:St) (H:Hp) (s:Shared) (e:Value) (s':Shared),Inv X pins σ H s→CX X.stack H s E e s'→X.xe e s'
section
variable{X:Cx}{CX:CXT}{k:Nat}{f C:Addr}{fd:FuncData}{ps:List Str}{sp:Sp}{dvs:List V}{ds:List Value}{E:XK}{x m:Str}{p pos apos:Pos}{e o:Expr}{es:List Expr}{ta:TE}{t:TA}
theorem a1P{pins:List (Addr×Obj)}{σ:St}{H:Hp}{s:Shared}{Q:VK}{us:List Value}{vs:List V}(F:g9 X.prog X.w X.K X.mg X.base CX k f fd ps sp)(hr:G6 k X.A)(hb:Binds X.K fd ps ds)(hd:j4 dvs ds)(hx:Y0 CX X E)
  (I:Inv X pins σ H s) (r:j4 vs us) (h:sp (vs++dvs) H Q E):wpAny (model X.prog X.w) X.A (call (.ref f) us) (EP X pins σ Q) X.xe s:=by
 have r2:j4 (vs++dvs) (us++ds):=r.append hd
 have hl:(us++ds).length=ps.length:=by rw[←r2.length];exact F.len _ _ _ _ h
 refine wpAny_call (aQ3 (F.run X.A X.stack s H ⟨us,[]⟩ (us++ds) (vs++dvs) Q E hr I.env0 (hb s us I.kIn hl) r2 h) fun r s' hq=>?_)
 cases r with
 | error e=>exact hx pins σ H s e s' I hq
 | ok fl=>
  cases fl with
  | ret u=>exact I.after hq
  | next=>exact False.elim hq
  | brk=>exact False.elim hq
  | cont=>exact False.elim hq
theorem j8(F:g9 X.prog X.w X.K X.mg X.base CX k f fd ps sp)(hr:G6 k X.A)(hg:Gl X x)(hm:X.mg x=some (.ref f))(hk:PySem.W.keepIn X.K (.ref f)=true)(hb:Binds X.K fd ps ds)(hd:j4 dvs ds)(hx:Y0 CX X E)
  (ha:PA X (e::es) t) (hdb:(x==("__debug__":Str))=false:=by decide) (he:starEach (e::es) X.env=(false,eval e X.env)::starEach es X.env:=by rfl) (hpl:(backTo pos (starEach es X.env)).any (·.1)=false:=by rfl) :
  PE X (.Call (.Name x p) (e::es) [] pos) (b6A sp dvs E t):=by
 intro pins s σ H Q I h
 refine aJ2 (a3r I hg hm ?_ hdb)
 refine aT6 (h₀:=X.base) I.ok.mod.kin hk (m8 (ha pos pins s σ H _ I h) fun us s1 ⟨vs,H1,I1,r,q⟩=>⟨I1.kIn,?_⟩) he hpl
 exact a1P F hr hb hd hx I1 r q
theorem a6b{pl:Sem Bool}(he:PE X o ta)(c:Cls X.K C)(hm:V3 X.K C m f)(F:g9 X.prog X.w X.K X.mg X.base CX k f fd ps sp)(hr:G6 k X.A)(hb:Binds X.K fd ps ds)(hd:j4 dvs ds)(hx:Y0 CX X E)(ha:PA X (e::es) t)
  (hst:starEach (e::es) X.env=(false,eval e X.env)::starEach es X.env:=by rfl) (hpl:(backTo pos (starEach es X.env)).any (·.1)=false:=by rfl)
  (ht:eval (.Call (.Attribute o m apos) (e::es) [] pos) X.env=(do
   let ov ←eval o X.env
   standAt apos.atName
   let (f,first) ←holding [ov] (getMethod ov m pl)
   callWith pos f first (backTo pos (starEach (e::es) X.env)) (backToKw pos (keywordEach [] X.env))):=by rfl) :
  PE X (.Call (.Attribute o m apos) (e::es) [] pos) (b6r C m sp dvs E ta t):=by
 intro pins s σ H Q I h
 refine aQ8 (pl:=pl) (m8 (he pins s σ H _ I h) fun u s1 ⟨x,H1,I1,rx,a,dx,fs,ex,ea,l,q⟩=>?_) ht
 subst ex
 obtain rfl:u=Value.ref a:=rx
 refine a2k I1 ea c hm l ?_
 refine aT6 (first:=[.ref a]) (h₀:=X.base) I.ok.mod.kin hm.kp (m8 (ha pos pins s1 σ H1 _ I1 q) fun us s2 ⟨vs,H2,I2,r,q2⟩=>⟨I2.kIn,?_⟩) hst hpl
 exact a1P (us:=.ref a::us) (vs:=.ref a::vs) F hr hb hd hx I2 (.cons rfl r) q2
theorem P1{pl:Sem Bool}(he:PE X o ta)(c:Cls X.K C)(hm:V3 X.K C m f)(F:g9 X.prog X.w X.K X.mg X.base CX k f fd ps sp)(hr:G6 k X.A)(hb:Binds X.K fd ps ds)(hd:j4 dvs ds)(hx:Y0 CX X E)
  (ht:eval (.Call (.Attribute o m apos) [] [] pos) X.env=(do
   let ov ←eval o X.env
   standAt apos.atName
   let (f,first) ←holding [ov] (getMethod ov m pl)
   callWith pos f first (backTo pos (starEach [] X.env)) (backToKw pos (keywordEach [] X.env))):=by rfl) :
  PE X (.Call (.Attribute o m apos) [] [] pos) (b6r C m sp dvs E ta a0Z):=by
 intro pins s σ H Q I h
 refine aQ8 (pl:=pl) (m8 (he pins s σ H _ I h) fun u s1 ⟨x,H1,I1,rx,a,dx,fs,ex,ea,l,q⟩=>?_) ht
 subst ex
 obtain rfl:u=Value.ref a:=rx
 refine a2k I1 ea c hm l ?_
 exact PySem.W.callWith_K0 (first:=[.ref a]) I1.kIn hm.kp (a1P (us:=[.ref a]) (vs:=[.ref a]) F hr hb hd hx I1 (.cons rfl .nil) q)
structure Mk(K:PySem.W.Frag)(C f:Addr):Prop where
 makes:PySem.W.makesIn K C=true
 init:PySem.W.findIn K (.ref C) "__init__"=some (some (.ref f))
 fn:PySem.W.isFn K (.ref f)=true
 kp:PySem.W.keepIn K (.ref C)=true
theorem a1M{pins:List (Addr×Obj)}{σ:St}{H:Hp}{s:Shared}{Q:VK}{us:List Value}{vs:List V}(M:Mk X.K C f)(F:g9 X.prog X.w X.K X.mg X.base CX k f fd ps sp)(hr:G6 (k+1) X.A)(hb:Binds X.K fd ps ds)(hd:j4 dvs ds)
  (hx:Y0 CX X E) (I:Inv X pins σ H s) (r:j4 vs us)
  (h:∀x dx,H x=none→H dx=none→dx≠x→sp (.ref x::(vs++dvs)) (upd (upd H dx (.own x)) x (.ins C dx [])) (fun v H2=>v=.non∧Q (.ref x) H2) E) :
  wpAny (model X.prog X.w) X.A (call (.ref C) us) (EP X pins σ Q) X.xe s:=by
 have hq:=h (s.heap.objs.size+1) s.heap.objs.size (I.hok.fresh (aN2 _)) (I.hok.fresh (aB3 _)) (aC8 (aM1 _))
 have I2:=Inv.made (C:=C) I
 have r2:j4 (V.ref (s.heap.objs.size+1)::(vs++dvs)) (Value.ref (s.heap.objs.size+1)::(us++ds)):=.cons rfl (r.append hd)
 have hl:(Value.ref (s.heap.objs.size+1)::us++ds).length=ps.length:=by
  have e:=r2.length
  rw[F.len _ _ _ _ hq]at e
  exact e.symm
 refine wpAny_call (b1q (f:=f) I.kIn M.makes M.init (aP7.mp M.fn) (aQ3 (F.run _ X.stack _ _ ⟨Value.ref (s.heap.objs.size+1)::us,[]⟩ (Value.ref (s.heap.objs.size+1)::(us++ds)) _ _ E (hr.make C us [])
  (I2.env0.make C us []) (hb _ (Value.ref (s.heap.objs.size+1)::us) I2.kIn hl) r2 hq) fun r s' hq'=>?_))
 cases r with
 | error e=>exact hx pins σ _ _ e s' I2 hq'
 | ok fl=>
  cases fl with
  | ret u=>
   obtain⟨v,H',I3,rv,ev,q3⟩:=I2.after hq'
   subst ev
   exact⟨rv,⟨V.ref (s.heap.objs.size+1),H',I3,rfl,q3⟩⟩
  | next=>exact False.elim hq'
  | brk=>exact False.elim hq'
  | cont=>exact False.elim hq'
theorem b0v(M:Mk X.K C f)(F:g9 X.prog X.w X.K X.mg X.base CX k f fd ps sp)(hr:G6 (k+1) X.A)(hg:Gl X x)(hm:X.mg x=some (.ref C))(hb:Binds X.K fd ps ds)(hd:j4 dvs ds)(hx:Y0 CX X E)
  (ha:PA X (e::es) t) (hdb:(x==("__debug__":Str))=false:=by decide) (he:starEach (e::es) X.env=(false,eval e X.env)::starEach es X.env:=by rfl) (hpl:(backTo pos (starEach es X.env)).any (·.1)=false:=by rfl) :
  PE X (.Call (.Name x p) (e::es) [] pos) (b2r C sp dvs E t):=by
 intro pins s σ H Q I h
 refine aJ2 (a3r I hg hm ?_ hdb)
 refine aT6 (h₀:=X.base) I.ok.mod.kin M.kp (m8 (ha pos pins s σ H _ I h) fun us s1 ⟨vs,H1,I1,r,q⟩=>⟨I1.kIn,?_⟩) he hpl
 exact a1M M F hr hb hd hx I1 r q
theorem a9N(M:Mk X.K C f)(F:g9 X.prog X.w X.K X.mg X.base CX k f fd ps sp)(hr:G6 (k+1) X.A)(hg:Gl X x)(hm:X.mg x=some (.ref C))(hb:Binds X.K fd ps ds)(hd:j4 dvs ds)(hx:Y0 CX X E)
  (hdb:(x==("__debug__":Str))=false:=by decide):PE X (.Call (.Name x p) [] [] pos) (b2r C sp dvs E a0Z):=by
 intro pins s σ H Q I h
 refine aJ2 (a3r I hg hm ?_ hdb)
 exact PySem.W.callWith_K0 I.kIn M.kp (a1M (us:=[]) M F hr hb hd hx I .nil h)
end
def PK(X:Cx)(kws:List Keyword)(t:TA):Prop:=
 ∀(pos:Pos) (pins:List (Addr×Obj)) (s:Shared) (σ:St) (H:Hp) (Q:List V→Hp→Prop),Inv X pins σ H s→t σ H Q→wpAny (model X.prog X.w) X.A (evalAll ((backToKw pos (keywordEach kws X.env)).map (·.2))) (AP X pins σ Q) X.xe s
section
variable{X:Cx}{CX:CXT}{k:Nat}{f C:Addr}{fd:FuncData}{ps ks:List Str}{sp:Sp}{E:XK}{x m:Str}{p pos apos kpos:Pos}{e o:Expr}{es:List Expr}{kws:List Keyword}{te ta:TE}{t tk:TA}{nm:Option Str}
theorem b8y:PK X [] a0Z:=fun _ _ _ _ H Q I h=>wpAny_evalAll_nil ⟨[],H,I,.nil,h⟩
theorem b4s(ha:PE X e te)(hr:PK X kws t):PK X (⟨nm,e,kpos⟩::kws) (b4r te t):=by
 intro pos pins s σ H Q I h
 show wpAny _ _ (evalAll ((do let v ←eval e X.env;standAt pos;pure v)::(backToKw pos (keywordEach kws X.env)).map (·.2))) _ _ s
 refine wpAny_evalAll_cons (aA1 (m8 (ha pins s σ H _ I h) fun u s1 ⟨x,H1,I1,r1,q1⟩=>aA1 (wpAny_standAt (aA9 ?_))))
 exact m8 (hr pos pins s1 σ H1 _ I1 q1) fun us s2 ⟨xs,H2,I2,r2,q2⟩=>⟨x::xs,H2,I2,.cons r1 r2,q2⟩
variable{g:List Value→List Value→List Value}{gV:List V→List V→List V}
end
structure j9(N P:List Str)(sc:Scope):Prop where
 kind:sc.kind=.function
 co:sc.isCoroutine=false
 gen:sc.isGenerator=false
 nd:N.Nodup
 pre:N.take P.length=P
 par:∀x∈P,sc.names.lookup x=some .local∨sc.names.lookup x=some .cell
 nofree:∀y∈sc.names,y.2≠.free
theorem a5I{kindOf:Str→Option NameKind}{x:Str}:∀{binds:List (Str×Value)} {m:Str→Option Value},(∀v,(x,v)∉binds)→bindL kindOf binds m x=m x
 | [],_,_=>rfl
 | (n,v)::r,m,h=>by
  unfold bindL
  rw[a5I fun w hw=>h w (aC4 _ hw)]
  split
  ·have:x≠n:=by rintro rfl;exact h v aD0
   simp[this]
  ·rfl
theorem a2G{kindOf:Str→Option NameKind}{x:Str}:∀{binds:List (Str×Value)} {m:Str→Option Value},(∀v,(x,v)∉binds)→bindC kindOf binds m x=m x
 | [],_,_=>rfl
 | (n,v)::r,m,h=>by
  unfold bindC
  rw[a2G fun w hw=>h w (aC4 _ hw)]
  split
  ·rfl
  ·have:x≠n:=by rintro rfl;exact h v aD0
   simp[this]
theorem a2H{kindOf:Str→Option NameKind}{x:Str}{v:Value}:∀{P:List Str} {vs:List Value} {i:Nat} {m:Str→Option Value},P.Nodup→P[i]?=some x→vs[i]?=some v→kindOf x=some .local →
  bindL kindOf (P.zip vs) m x=some v
 | [],_,_,_,_,h,_,_=>by simp at h
 | _::_,[],_,_,_,_,h,_=>by simp at h
 | p::P,w::vs,0,m,nd,h1,h2,hk=>by
  simp at h1 h2;subst h1;subst h2
  show bindL kindOf ((p,w)::P.zip vs) m p=_
  unfold bindL
  rw[a5I fun v hv=>(aG7.mp nd).1 (List.of_mem_zip hv).1,aB0 hk]
  simp
 | p::P,w::vs,i+1,m,nd,h1,h2,hk=>by
  show bindL kindOf ((p,w)::P.zip vs) m x=_
  unfold bindL
  exact a2H (i:=i) (aG7.mp nd).2 (by simpa using h1) (by simpa using h2) hk
theorem a9H{kindOf:Str→Option NameKind}{x:Str}{v:Value}:∀{P:List Str} {vs:List Value} {i:Nat} {m:Str→Option Value},P.Nodup→P[i]?=some x→vs[i]?=some v→kindOf x≠some .local →
  bindC kindOf (P.zip vs) m x=some v
 | [],_,_,_,_,h,_,_=>by simp at h
 | _::_,[],_,_,_,_,h,_=>by simp at h
 | p::P,w::vs,0,m,nd,h1,h2,hk=>by
  simp at h1 h2;subst h1;subst h2
  show bindC kindOf ((p,w)::P.zip vs) m p=_
  unfold bindC
  rw[a2G fun v hv=>(aG7.mp nd).1 (List.of_mem_zip hv).1,aA4 hk]
  simp
 | p::P,w::vs,i+1,m,nd,h1,h2,hk=>by
  show bindC kindOf ((p,w)::P.zip vs) m x=_
  unfold bindC
  exact a9H (i:=i) (aG7.mp nd).2 (by simpa using h1) (by simpa using h2) hk
def start(N:List Str)(vs:List V):St:=vs.map some++List.replicate (N.length-vs.length) none
def a3D(CX:CXT)(P:Program)(w:World)(K:PySem.W.Frag)(mg:Str→Option Value)(base:Heap)(N:List Str)(qual:Str)(scope:Scope)(f:Addr)(cd:Value)(A:Around)(outer:List Env)(s:Shared)(H:Hp)(E:XK):Cx where
 prog:=P
 w:=w
 K:=K
 mg:=mg
 base:=base
 A:=A.deeper (envOfC qual scope s.heap.objs.size f cd)
 N:=N
 s₀:=s
 H₀:=H
 env:=envOfC qual scope s.heap.objs.size f cd
 outer:=outer
 stack:=envOfC qual scope s.heap.objs.size f cd::outer
 ex:=[]
 calm:=true
 fn:=fun _=>true
 pn:=[]
 xe:=fun e s'=>wpAny (model P w) (A.deeper (envOfC qual scope s.heap.objs.size f cd)) (leaving (envOfC qual scope s.heap.objs.size f cd) e) (fun _ s''=>CX outer H s E e s'') (fun e' s''=>CX outer H s E e' s'') s'
theorem a6P{sc:Scope}{n:Nat}{x:Str}(h:sc.names.lookup x=some .cell):∃c,(cellsFrom n sc.names []).lookup x=some c:=by
 have q:=PySem.W.cellsFrom_some sc.names n [] (.inl h)
 exact Option.isSome_iff_exists.mp q
theorem b1j{CX:CXT}{P:Program}{w:World}{K:PySem.W.Frag}{mg:Str→Option Value}{base:Heap}{N ps:List Str}{qual:Str}{scope:Scope}{f:Addr}{cd:Value}{A:Around}{outer:List Env}{s s1:Shared}{H:Hp}{E:XK}{us:List Value}{vs:List V}
  (S:j9 N ps scope) (hd:A.handled=none) (e0:a2v P w K mg base A outer s H) (hl:vs.length=ps.length) (r:j4 vs us)
  (x:InCallC s s.heap.objs.size (bindL (envOfC qual scope s.heap.objs.size f cd).kindOf (ps.zip us) fun _=>none) (cellsFrom (s.heap.objs.size+1) scope.names []) (bindC (envOfC qual scope s.heap.objs.size f cd).kindOf (ps.zip us) fun _=>none) s1) :
  Inv (a3D CX P w K mg base N qual scope f cd A outer s H E) [] (start N vs) H s1:=by
 have hpl:ps.length≤N.length:=by have:=congrArg List.length S.pre;rw[aD6]at this;omega
 obtain⟨h1,tk,rfl,hk⟩:=x.done
 have noA:∀b:Addr,b∉(a3D CX P w K mg base N qual scope f cd A outer s H E).ex:=fun b z=>absurd (show b∈([]:List Addr) from z) (by simp)
 refine⟨⟨e0.mod,S.kind,rfl,rfl,aB3 _,fun y z c h1 h2=>?_,fun y hy=>?_,fun y c _ h=>?_,fun _=>hd,Around.frames_deeper e0.frames,.inr ⟨rfl,rfl⟩,fun b z=>absurd z (noA b),e0.bs,e0.bsz,fun b _ _=>noA b,fun b z=>absurd z (noA b),e0.funs,e0.frf⟩,
  rfl,e0.bare,Un.kept hk,⟨_,x.toInCall.ns,fun i y v h1 h2 h3=>?_⟩,fun y c h=>⟨_,x.cell y c h⟩,e0.hok.fresh (aB3 _),fun y c h=>?_,fun p hp=>absurd (show p∈([]:List (Addr×Obj)) from hp) (by simp),e0.hok.kept hk,?_⟩
 ·exact name_of_addr x.apart (aH2 h1) (aH2 h2)
 ·have hy:scope.names.lookup y=some .cell∨scope.names.lookup y=some .free:=hy
  rcases hy with hy | hy
  ·exact a6P hy
  ·exact absurd rfl (S.nofree _ (aH2 hy))
 ·exact aM8 (x.above y c (aH2 h))
 ·have hi:i<vs.length:=by
   unfold start at h2
   by_cases hi:i<vs.length
   ·exact hi
   ·rw[aE9 (by simpa using hi)]at h2
    rw[List.getElem?_replicate]at h2
    split at h2<;>cases h2
  have ha:vs[i]?=some v:=by
   unfold start at h2
   rw[aE1 (by simpa using hi),aB4]at h2
   cases e:vs[i]? with
   | none=>rw[e]at h2;cases h2
   | some a=>rw[e]at h2;cases h2;rfl
  obtain⟨u,hu,rv⟩:=r.get ha
  have hp:ps[i]?=some y:=by
   rw[←S.pre,List.getElem?_take_of_lt (by omega)];exact h1
  have ndP:ps.Nodup:=by rw[←S.pre];exact S.nd.sublist (aK7 _ _)
  refine⟨u,rv,?_⟩
  rcases S.par y (aC5 hp) with k | k
  ·exact .inl ⟨k,a2H ndP hp hu k⟩
  ·obtain⟨c,e⟩:=a6P (n:=s.heap.objs.size+1) k
   refine .inr ⟨.inl k,c,e,?_⟩
   have q:=x.cell y c e
   rw[a9H ndP hp hu (by show scope.names.lookup y≠_;rw[k];decide)] at q
   exact q
 ·exact e0.hok.fresh (aM8 (x.above y c (aH2 h)))
 ·unfold start
  show _=N.length
  rw[aA7,aA0,aR4]
  omega
theorem b1B{CX:CXT}{P:Program}{w:World}{K:PySem.W.Frag}{mg:Str→Option Value}{base:Heap}{k:Nat}{f:Addr}{name qual:Str}{params:Arguments}{body:List Stmt}{scope:Scope}{dV kV doc pm cdv ct oc:Value}{an od:Option Addr}
  {osl:Array (Option Value)} {N ps:List Str} {sp:Sp} (lk:K.lookup f=some ⟨oc,od,.func (PySem.W.fnOf name qual params body scope dV kV doc pm an cdv ct),osl⟩) (hcd:PySem.W.codeIn K cdv qual=true) (S:j9 N ps scope)
  (len:∀vs H Q E,sp vs H Q E→vs.length=ps.length)
  (hbody:∀(A:Around) (outer:List Env) (s:Shared) (H:Hp) (vs:List V) (Q:VK) (E:XK),G6 k (A.deeper (envOfC qual scope s.heap.objs.size f cdv))→sp vs H Q E →
   ∃t,PSs (a3D CX P w K mg base N qual scope f cdv A outer s H E) body t∧t { nx:=fun _ H'=>Q .non H',rt:=Q } (start N vs) H) :
  g9 P w K mg base CX (k+1) f (PySem.W.fnOf name qual params body scope dV kV doc pm an cdv ct) ps sp:=by
 refine⟨len,fun A outer s H args us vs Q E hr e0 hb r hsp=>?_⟩
 have hl:=len _ _ _ _ hsp
 have KX:K.In s.heap:=e0.mod.kin.keeps fun b o e=>(e0.bs b o e).1
 have lim:s.heap.NoLimit:=e0.mod.nolimit.keeps fun b o e=>(e0.bs b o e).1
 have hkind:∀y∈ps.zip us,scope.names.lookup y.1=some .local∨(scope.names.lookup y.1=some .cell∧((cellsFrom (s.heap.objs.size+1) scope.names []).lookup y.1).isSome=true):=fun⟨n,v⟩ hy=>by
  rcases S.par n (List.of_mem_zip hy).1 with q | q
  ·exact .inl q
  ·exact .inr ⟨q,PySem.W.cellsFrom_some _ _ _ (.inl q)⟩
 refine codeAny_call_function hr.depth (KX _ _ lk) rfl S.co S.gen rfl (PySem.W.codeRec_of KX hcd) (hb _ _ _ _ ?_)
 refine wpAny_newFunctionEnv_cells S.kind hkind fun env he s1 x=>?_
 subst he
 refine⟨lim.keeps x.toInCall.keep,codeAny_func ?_⟩
 obtain⟨t,ht,hq⟩:=hbody A outer s H vs Q E (hr.deeper _) hsp
 have I:Inv (a3D CX P w K mg base N qual scope f cdv A outer s H E) [] (start N vs) H s1:=b1j S hr.hd e0 hl r x
 refine aH4 (ht [] s1 (start N vs) H _ I hq) (fun fl s' hs=>?_) fun e s' hs=>hs
 have fin:∀{σ':St} {H':Hp} {v:V} {u:Value},Inv (a3D CX P w K mg base N qual scope f cdv A outer s H E) [] σ' H' s'→RelV v u→Q v H'→CE outer P w H s Q u s':=
  fun {σ' H' v u} J rv q=>⟨v,H',J.os,J.bare,J.base,J.hok,rv,q⟩
 cases fl with
 | ret u=>
  obtain⟨v,σ',H',J,rv,q⟩:=hs
  exact fin J rv q
 | next=>
  obtain⟨σ',H',J,q⟩:=hs
  exact fin (v:=V.non) (u:=Value.none) J rfl q
 | brk=>
  obtain⟨_,_,_,q⟩:=hs
  exact False.elim q
 | cont=>
  obtain⟨_,_,_,q⟩:=hs
  exact False.elim q
open PySem PySem.Spec PyProof.Rows
section
variable{X:Cx}{x:Str}{p pos:Pos}{e:Expr}{es:List Expr}{t:TA}{id T:String}{r:List V→Hp→VK→Prop}
def tCB(r:List V→Hp→VK→Prop)(t:TA):TE:=fun σ H Q=>t σ H fun vs H1=>r vs H1 Q
theorem e7(hc:L6 X (.builtin id) r)(hg:Gl X x)(hm:X.mg x=none)(hv:bootBuiltins x=some (.builtin id))(ha:PA X (e::es) t)(hn:x≠"__name__":=by decide)(hdb:(x==("__debug__":Str))=false:=by decide)
  (he:starEach (e::es) X.env=(false,eval e X.env)::starEach es X.env:=by rfl) (hpl:(backTo pos (starEach es X.env)).any (·.1)=false:=by rfl):PE X (.Call (.Name x p) (e::es) [] pos) (tCB r t):=by
 intro pins s σ H Q I h
 refine aJ2 (a1d I hg hm hv ?_ hn hdb)
 exact PyProof.Rows.callWith_builtin1 (m8 (ha pos pins s σ H _ I h) fun us s1 ⟨vs,H1,I1,r1,q1⟩=>hc pins s1 σ H1 vs us Q I1 r1 q1) he hpl
theorem C9(hc:L6 X (.type T) r)(hg:Gl X x)(hm:X.mg x=none)(hv:bootBuiltins x=some (.type T))(ha:PA X (e::es) t)(hn:x≠"__name__":=by decide)(hdb:(x==("__debug__":Str))=false:=by decide)
  (he:starEach (e::es) X.env=(false,eval e X.env)::starEach es X.env:=by rfl) (hpl:(backTo pos (starEach es X.env)).any (·.1)=false:=by rfl):PE X (.Call (.Name x p) (e::es) [] pos) (tCB r t):=by
 intro pins s σ H Q I h
 refine aJ2 (a1d I hg hm hv ?_ hn hdb)
 exact aL4 (m8 (ha pos pins s σ H _ I h) fun us s1 ⟨vs,H1,I1,r1,q1⟩=>hc pins s1 σ H1 vs us Q I1 r1 q1) he hpl
end
end L2
namespace HT
open PySem PyProof.Rows
section
open PySem.SeqAt
open PySem.AutoSeq1 (wpAny_loadPart')
open PySem.MeetsSeq PySem.MeetsSeq2 PySem.MeetsSeq3
end
section
variable{prog:Program}{w:World}{A:Around}{E:Value→Shared→Prop}{s:Shared}
theorem b8t{t b:Addr}{vs ws:List Value}{Q:Value→Shared→Prop}(ht:IsTup s.heap t vs.toArray)(hb:IsTup s.heap b ws.toArray)(hv:vs≠[])
  (h1:ws=[]→Q (.ref t) s) (h2:ws≠[]→Q (.ref s.heap.objs.size) { s with heap:=s.heap.push { cls:=.type "tuple",data:=.seq (vs++ws).toArray } })
  (hsz:vs.length+ws.length≤sizeLine):wpAny (model prog w) A (binaryOp .Add (.ref t) (.ref b)) Q E s:=by
 obtain⟨⟨cls,dd,data,sl⟩,ho,hc,n,hd⟩:=id ht
 obtain⟨⟨cls2,dd2,data2,sl2⟩,ho2,hc2,n2,hd2⟩:=id hb
 simp only at hc hd hc2 hd2
 subst hc hd hc2 hd2
 have e:vs.toArray++ws.toArray=(vs++ws).toArray:=by simp
 by_cases hw:ws=[]
 ·exact concat_meets ⟨_,ho,rfl⟩ ⟨_,ho2,rfl⟩ noFill_tuple_add seq_tuple_add PySem.F.slot_tuple_add PySem.F.entry_tuple_add (PySem.F.args_tuple_add_2 _ _)
   (tuple_addW1 t b vs.toArray ws.toArray n n2 dd dd2 sl sl2 (by simpa using hv) (by simp[hw])) ⟨ho,ho2,h1 hw⟩
 ·refine concat_meets ⟨_,ho,rfl⟩ ⟨_,ho2,rfl⟩ noFill_tuple_add seq_tuple_add PySem.F.slot_tuple_add PySem.F.entry_tuple_add (PySem.F.args_tuple_add_2 _ _)
   (tuple_addW2 t b vs.toArray ws.toArray n n2 dd dd2 sl sl2 (by simpa using hv) (by simpa using hw) (by rw[aD4,aD4];exact hsz)) ⟨ho,ho2,?_⟩
  rw[e]
  exact h2 hw
def Y1(n d:Nat):Option Int→Nat
 | none=>d
 | some v=>if v<0 then(v+(n:Int)).toNat else min v.toNat n
theorem a1S(n d:Nat):Y1 n d none=d:=rfl
theorem a8V(n d k:Nat):Y1 n d (some (k:Int))=min k n:=by
 show(if (k:Int)<0 then((k:Int)+(n:Int)).toNat else min (k:Int).toNat n)=min k n
 rw[aA4 (by omega),aL8]
end
end HT
namespace L2
open PySem PySem.Spec PyProof.Rows
abbrev TO:=St→Hp→(Option Int→Hp→Prop)→Prop
def PO(X:Cx)(e:Option Expr)(t:TO):Prop:=
 ∀(pins:List (Addr×Obj)) (s:Shared) (σ:St) (H:Hp) (Q:Option Int→Hp→Prop),Inv X pins σ H s→t σ H Q →
  wpAny (model X.prog X.w) X.A (evalPart e X.env) (fun u s'=>∃o H',Inv X pins σ H' s'∧IsPart u o∧Q o H') X.xe s
def b6u:TO:=fun _ H Q=>Q none H
def b8B(t:TE):TO:=fun σ H Q=>t σ H fun x H1=>∃i,x=.int i∧Q (some i) H1
section
variable{X:Cx}{e:Expr}{te:TE}{lo hi:Option Expr}{tl th:TO}{pos p2:Pos}
theorem U1:PO X none b6u:=by
 intro pins s σ H Q I h
 rw[evalPart_none]
 exact aA9 ⟨none,H,I,.none,h⟩
theorem T6(h:PE X e te):PO X (some e) (b8B te):=by
 intro pins s σ H Q I hw
 rw[evalPart_some]
 refine m8 (h pins s σ H _ I hw) fun u s1 ⟨x,H1,I1,r1,q1⟩=>?_
 obtain⟨i,rfl,q⟩:=q1
 obtain⟨t,rfl⟩:=r1
 exact⟨some i,H1,I1,.int i t,q⟩
def SlR(X:Cx)(r:V→Option Int→Option Int→Hp→VK→Prop):Prop:=
 ∀(pins:List (Addr×Obj)) (s:Shared) (σ:St) (H:Hp) (x:V) (v vl vu:Value) (lo hi:Option Int) (sl:Addr) (Q:VK),Inv X pins σ H s→RelV x v→s.heap.IsSliceOf sl vl vu .none→IsPart vl lo→IsPart vu hi→r x lo hi H Q →
  ∃T id,typeLookup (.type T) "__getitem__"=pure (some (.builtin id))∧s.TypeIs v T∧wpAny (model X.prog X.w) X.A (getItem v (.ref sl)) (EP X pins σ Q) X.xe s
def tSl(r:V→Option Int→Option Int→Hp→VK→Prop)(te:TE)(tl th:TO):TE:=fun σ H Q=>te σ H fun x H1=>tl σ H1 fun l H2=>th σ H2 fun u H3=>r x l u H3 Q
theorem P2{r:V→Option Int→Option Int→Hp→VK→Prop}(hr:SlR X r)(he:PE X e te)(hl:PO X lo tl)(hu:PO X hi th):PE X (.Subscript e (.Slice lo hi none p2) pos) (tSl r te tl th):=by
 intro pins s σ H Q I h
 refine Subscript_ (m8 (he pins s σ H _ I h) fun v s1 ⟨x,H1,I1,r1,q1⟩=>?_)
 refine wpAny_Slice (m8 (hl pins s1 σ H1 _ I1 q1) fun vl s2 ⟨l,H2,I2,pl,q2⟩=>m8 (hu pins s2 σ H2 _ I2 q2) fun vu s3 ⟨u,H3,I3,pu,q3⟩=>?_)
 rw[evalPart_none]
 refine aA9 ?_
 have I4:Inv X pins σ H3 { s3 with heap:=s3.heap.push { cls:=.type "slice",data:=.fields #[vl,vu,.none] } }:=I3.kept (t':=s3.toks) fun b ob q=>aA6 _ q
 obtain⟨T,id,hT,ht,hg⟩:=hr pins { s3 with heap:=s3.heap.push { cls:=.type "slice",data:=.fields #[vl,vu,.none] } } σ H3 x v vl vu l u s3.heap.objs.size Q I4 r1 (Heap.IsSliceOf.new ..) pl pu q3
 show wpAny (model X.prog X.w) X.A (subscriptTail e (.Slice lo hi none p2) v (.ref s3.heap.objs.size)) (EP X pins σ Q) X.xe { s3 with heap:=s3.heap.push { cls:=.type "slice",data:=.fields #[vl,vu,.none] } }
 exact tail_any (ops:=[.ref s3.heap.objs.size,v]) ht hT hg (by with_unfolding_all rfl)
def a2f(xs:List V)(lo hi:Option Int):List V:=(xs.drop (HT.Y1 xs.length 0 lo)).take (HT.Y1 xs.length xs.length hi-HT.Y1 xs.length 0 lo)
theorem a1U(xs:List V)(lo hi:Option Int):(a2f xs lo hi).length≤xs.length:=by
 unfold a2f
 rw[aD6,aH7]
 omega
def b5B(K:PySem.W.Frag):R2:=fun x y H Q=>∃a b xs ys,x=.ref a∧y=.ref b∧i5 K H a xs∧i5 K H b ys∧xs≠[]∧xs.length+ys.length≤sizeLine ∧
 (ys=[]→Q (.ref a) H)∧(ys≠[]→∀p,H p=none→Q (.ref p) (upd H p (.tup (xs++ys))))
theorem j4.nil_iff{xs:List V}{us:List Value}(r:j4 xs us):us=[]↔xs=[]:=by
 cases r with
 | nil=>simp
 | cons _ _=>simp
theorem b7v:G5 X (binaryOp .Add) (b5B X.K):=by
 intro pins s σ H x y v u Q I rx ry h
 obtain⟨a,b,xs,ys,rfl,rfl,ha,hb,hx,hz,q1,q2⟩:=h
 cases rx
 cases ry
 obtain⟨its,r1,p1,_⟩:=I.tuple ha
 obtain⟨its2,r2,p2,_⟩:=I.tuple hb
 refine HT.b8t p1 p2 (fun z=>hx (r1.nil_iff.mp z)) (fun z=>⟨.ref a,H,I,rfl,q1 (r2.nil_iff.mp z)⟩) (fun z=>?_) (by rw[←r1.length,←r2.length];exact hz)
 refine⟨.ref s.heap.objs.size,_,I.laid (t':=s.toks) (o:=.tup (xs++ys)) (fun b ob q=>aA6 _ q) (aB3 _) ?_,rfl,q2 (fun w=>z (r2.nil_iff.mpr w)) _ (I.hok.fresh (aB3 _))⟩
 exact⟨by rw[aA7];exact hz,_,r1.append r2,IsTup.new _ _⟩
end
open PySem PySem.Spec PyProof.Rows
def ixN(n:Nat)(i:Int):Option Nat:=if 0≤i then(if i<n then some i.toNat else none) else if -(n:Int)≤i then some (i+n).toNat else none
def F8{α:Type}(xs:List α)(i:Int):Option α:=(ixN xs.length i).bind fun j=>xs[j]?
theorem b0t{n:Nat}{i:Int}{j:Nat}(h:ixN n i=some j):seqIndex? i n=some j∧j<n∧-(n:Int)≤i∧i<n:=by
 unfold ixN at h
 by_cases h0:0≤i
 ·rw[aB0 h0]at h
  by_cases h1:i<n
  ·rw[aB0 h1]at h
   have e:i.toNat=j:=aD1 h
   exact⟨by rw[seqIndex_of h0 h1,e],by omega,by omega,h1⟩
  ·rw[aA4 h1]at h;cases h
 ·rw[aA4 h0]at h
  by_cases h1:-(n:Int)≤i
  ·rw[aB0 h1]at h
   have e:(i+n).toNat=j:=aD1 h
   exact⟨by rw[seqIndex_neg (by omega) h1,e],by omega,h1,by omega⟩
  ·rw[aA4 h1]at h;cases h
theorem a7F{α:Type}{xs:List α}{i:Int}{v:α}(h:F8 xs i=some v):∃j,seqIndex? i xs.length=some j∧xs[j]?=some v∧j<xs.length∧-(xs.length:Int)≤i∧i<xs.length:=by
 unfold F8 at h
 cases e:ixN xs.length i with
 | none=>rw[e]at h;cases h
 | some j=>
  rw[e]at h
  obtain⟨h1,h2,h3,h4⟩:=b0t e
  exact⟨j,h1,h,h2,h3,h4⟩
theorem i9{α:Type}{xs:List α}{j:Nat}{v:α}(h:xs[j]?=some v):F8 xs (j:Int)=some v:=by
 have hj:j<xs.length:=(aA2.mp h).1
 have e:ixN xs.length (j:Int)=some j:=by
  unfold ixN
  rw[aB0 (by omega),aB0 (by omega)];simp
 unfold F8;rw[e];exact h
def b1u(b:Expr):Prop:=∀o i,subscripted b false o i=operate [o,i] (getItem o i)
def IxR(X:Cx)(r:R2):Prop:=
 ∀(value slice:Expr) (pins:List (Addr×Obj)) (s:Shared) (σ:St) (H:Hp) (x y:V) (v u:Value) (Q:VK),Inv X pins σ H s→RelV x v→RelV y u→r x y H Q →
  subscripted slice false v u=operate [v,u] (getItem v u)→wpAny (model X.prog X.w) X.A (subscriptTail value slice v u) (EP X pins σ Q) X.xe s
def MtR(X:Cx)(id:String)(r:V→List V→Hp→VK→Prop):Prop:=
 ∀(pins:List (Addr×Obj)) (s:Shared) (σ:St) (H:Hp) (x:V) (xs:List V) (v:Value) (us:List Value) (Q:VK),Inv X pins σ H s→RelV x v→j4 xs us→r x xs H Q →
  wpAny (model X.prog X.w) X.A (call (.builtin id) (v::us)) (EP X pins σ Q) X.xe s
section
variable{X:Cx}{a b:Expr}{ta tb:TE}{pos:Pos}
theorem IxR.or{r r':R2}(h:IxR X r)(h':IxR X r'):IxR X (fun x y H Q=>r x y H Q∨r' x y H Q):=by
 intro value slice pins s σ H x y v u Q I rx ry q hs
 rcases q with q | q
 ·exact h value slice pins s σ H x y v u Q I rx ry q hs
 ·exact h' value slice pins s σ H x y v u Q I rx ry q hs
theorem d9{r:R2}(hr:IxR X r)(ha:PE X a ta)(hb:PE X b tb)(hs:b1u b):PE X (.Subscript a b pos) (tOp r ta tb):=by
 intro pins s σ H Q I h
 exact Subscript_ (b4q ha hb I h fun v u s2 x y H2 I2 rx ry q=>hr a b pins s2 σ H2 x y v u Q I2 rx ry q (hs _ _))
inductive b2D(K:PySem.W.Frag)(x y:V)(H:Hp)(Q:VK):Prop
 | mk (p:Addr) (xs:List V) (i:Int) (v:V) (e1:x=.ref p) (e2:y=.int i) (s:d7 K H p xs) (a:F8 xs i=some v) (q:Q v H)
inductive b7E(K:PySem.W.Frag)(x y:V)(H:Hp)(Q:VK):Prop
 | mk (p:Addr) (xs:List V) (i:Int) (v:V) (e1:x=.ref p) (e2:y=.int i) (s:i5 K H p xs) (a:F8 xs i=some v) (q:Q v H)
def b1o(K:PySem.W.Frag):R2:=b2D K
def b1n(K:PySem.W.Frag):R2:=b7E K
def b9w:R2:=fun x y H Q=>∃z i c,x=.str z∧y=.int i∧z.length≤sizeLine∧F8 z.cps.toList i=some c∧Q (.str ⟨#[c]⟩) H
theorem l7:IxR X (b1o X.K):=by
 intro value slice pins s σ H x y v u Q I rx ry h hs
 obtain⟨p,xs,i,z,rfl,rfl,hq,he,q⟩:=h
 cases rx
 obtain⟨t,rfl⟩:=ry
 obtain⟨its,r,pl,hz⟩:=I.list hq
 obtain⟨j,h1,h2,h3,h4,h5⟩:=a7F he
 obtain⟨w,ew,rw'⟩:=r.get h2
 have hl:=r.length
 have hn:=a5y
 have fin:EP X pins σ Q w s:=⟨z,H,I,rw',q⟩
 by_cases h0:0≤i
 ·have hj:i.toNat=j:=by
   rw[seqIndex_of h0 h5]at h1
   exact aD1 h1
  exact item_listR pl.isList h0 (by omega) (by rw[hj];simpa using ew) fin hs
 ·have hj:(i+(its.toArray.size:Int)).toNat=j:=by
   rw[seqIndex_neg (by omega) h4]at h1
   rw[aD4,←hl]
   exact aD1 h1
  exact subscriptTail_builtinR (x:=w) pl.isList.typeIs slot_list_getitem.lookup
   (wpAny_getItem_list_neg (Q:=fun r s'=>r=w∧EP X pins σ Q r s') pl.isList (by omega) (by rw[aD4]<;>omega) (by omega) (by rw[hj];simpa using ew) ⟨rfl,fin⟩) hs
theorem i3:IxR X (b1n X.K):=by
 intro value slice pins s σ H x y v u Q I rx ry h hs
 obtain⟨p,xs,i,z,rfl,rfl,hq,he,q⟩:=h
 cases rx
 obtain⟨t,rfl⟩:=ry
 obtain⟨its,r,pl,hz⟩:=I.tuple hq
 obtain⟨j,h1,h2,h3,h4,h5⟩:=a7F he
 obtain⟨w,ew,rw'⟩:=r.get h2
 have hl:=r.length
 have hn:=a5y
 have fin:EP X pins σ Q w s:=⟨z,H,I,rw',q⟩
 exact subscriptTail_builtinR (x:=w) pl.typeIs slot_tuple_getitem.lookup
  (getItem_tuple (j:=j) (Q:=fun r s'=>r=w∧EP X pins σ Q r s') pl (by omega) (by omega) (by rw[aD4,←hl];exact h1) (by simpa using ew) ⟨rfl,fin⟩) hs
theorem b2z:IxR X b9w:=by
 intro value slice pins s σ H x y v u Q I rx ry h hs
 obtain⟨z,i,c,rfl,rfl,hz,he,q⟩:=h
 obtain⟨t,rfl⟩:=rx
 obtain⟨t',rfl⟩:=ry
 obtain⟨j,h1,h2,h3,h4,h5⟩:=a7F he
 have hl:z.cps.toList.length=z.length:=by simp[Str.length]
 rw[hl]at h1 h4 h5
 have hn:=a5y
 exact tail_any (typeIs_str s z t) slot_str_getitem.lookup (getItem_str (c:=c) (by
  have e1:decide (i< -(2 ^ 63:Int))=false:=aB7 (by omega)
  have e2:decide (i≥2 ^ 63)=false:=aB7 (by omega)
  rw[e1,e2,Bool.or_false]) (by rw[h1];simpa using h2) ⟨.str ⟨#[c]⟩,H,I.tok _,⟨_,rfl⟩,q⟩) hs
def rIx(K:PySem.W.Frag):R2:=fun x y H Q=>b1o K x y H Q∨b1n K x y H Q∨b9w x y H Q
theorem b7d:IxR X (rIx X.K):=l7.or (i3.or b2z)
theorem a3M(lo hi:Option Int)(n:Nat):(sliceBounds lo hi none n).1=((HT.Y1 n 0 lo:Nat):Int)∧(sliceBounds lo hi none n).2.1=((HT.Y1 n n hi:Nat):Int)∧(sliceBounds lo hi none n).2.2=1:=by
 refine⟨?_,?_,rfl⟩
 ·cases lo with
  | none=>simp[sliceBounds,HT.Y1]
  | some i=>
   simp only[sliceBounds,HT.Y1,Option.getD_none,show(1:Int)>0 by decide,aQ5]
   by_cases h:i<0
   ·simp only[h,aQ5]<;>omega
   ·simp only[h,aP1]<;>omega
 ·cases hi with
  | none=>simp[sliceBounds,HT.Y1]
  | some i=>
   simp only[sliceBounds,HT.Y1,Option.getD_none,show(1:Int)>0 by decide,aQ5]
   by_cases h:i<0
   ·simp only[h,aQ5]<;>omega
   ·simp only[h,aP1]<;>omega
theorem a5J(its:List Value)(lo hi:Option Int):slicePick its.toArray lo hi none=((its.drop (HT.Y1 its.length 0 lo)).take (HT.Y1 its.length its.length hi-HT.Y1 its.length 0 lo)).toArray:=by
 obtain⟨h1,h2,h3⟩:=a3M lo hi its.toArray.size
 unfold slicePick
 rw[h1,h2,h3]
 simp only[sliceRange_one,pick_run,aD4]<;>rfl
def b0E(K:PySem.W.Frag):V→Option Int→Option Int→Hp→VK→Prop:=fun x lo hi H Q=>∃a xs,x=.ref a∧d7 K H a xs∧∀p,H p=none→Q (.ref p) (upd H p (.lst (a2f xs lo hi)))
theorem U0:SlR X (b0E X.K):=by
 intro pins s σ H x v vl vu lo hi sl Q I rx hs pl pu h
 obtain⟨a,xs,rfl,hx,q⟩:=h
 cases rx
 obtain⟨its,r,ht,hz⟩:=I.list hx
 have hlen:=r.length
 refine⟨"list",_,slot_list_getitem.lookup,ht.isList.typeIs,?_⟩
 refine wpAny_getItem_list_slice ht.isList hs pl pu .none (by simp) ?_ (by rw[aD4]<;>omega)
 rw[a5J,←hlen]
 refine⟨.ref s.heap.objs.size,_,I.laid (t':=s.toks) (o:=.lst (a2f xs lo hi)) (fun b ob q=>aA6 _ q) (aB3 _) ?_,rfl,q _ (I.hok.fresh (aB3 _))⟩
 exact⟨aD8 (a1U xs lo hi) hz,_,0,(r.drop (HT.Y1 xs.length 0 lo)).take (HT.Y1 xs.length xs.length hi-HT.Y1 xs.length 0 lo),aC0 _ rfl⟩
def X8:V→Bool
 | .non=>true
 | .bl _=>true
 | .int _=>true
 | .str _=>true
 | _=>false
def eqV:V→V→Bool
 | .non,.non=>true
 | .bl a,.bl b=>a==b
 | .bl a,.int b=>(if a then 1 else 0)==b
 | .int a,.bl b=>a==(if b then 1 else 0)
 | .int a,.int b=>a==b
 | .str a,.str b=>a==b
 | _,_=>false
theorem b4x{A:Around}{s:Shared}{y x:V}{u v:Value}(ry:RelV y u)(rx:RelV x v)(fy:X8 y=true)(fx:X8 x=true):SeqAt.EqAt A s u v (eqV y x):=by
 cases y with
 | non=>
  cases ry
  cases x with
  | non=>cases rx;exact SeqAt.EqAt.same _
  | bl b=>cases rx;exact SeqAt.EqAt.none_bool b
  | int b=>obtain⟨t,rfl⟩:=rx;exact SeqAt.EqAt.none_int b t
  | str b=>obtain⟨t,rfl⟩:=rx;exact SeqAt.EqAt.none_str b t
  | _=>exact absurd (show false=true from fx) aC7
 | bl a=>
  cases ry
  cases x with
  | non=>cases rx;exact SeqAt.EqAt.bool_none a
  | bl b=>cases rx;exact SeqAt.EqAt.bool_bool a b
  | int b=>obtain⟨t,rfl⟩:=rx;exact SeqAt.EqAt.bool_int a b t
  | str b=>obtain⟨t,rfl⟩:=rx;exact SeqAt.EqAt.bool_str a b t
  | _=>exact absurd (show false=true from fx) aC7
 | int a=>
  obtain⟨t',rfl⟩:=ry
  cases x with
  | non=>cases rx;exact SeqAt.EqAt.int_none a t'
  | bl b=>cases rx;exact SeqAt.EqAt.int_bool a t' b
  | int b=>obtain⟨t,rfl⟩:=rx;exact SeqAt.EqAt.int_int a t' b t
  | str b=>obtain⟨t,rfl⟩:=rx;exact SeqAt.EqAt.int_str a t' b t
  | _=>exact absurd (show false=true from fx) aC7
 | str a=>
  obtain⟨t',rfl⟩:=ry
  cases x with
  | non=>cases rx;exact SeqAt.EqAt.str_none a t'
  | bl b=>cases rx;exact SeqAt.EqAt.str_bool a t' b
  | int b=>obtain⟨t,rfl⟩:=rx;exact SeqAt.EqAt.str_int a t' b t
  | str b=>obtain⟨t,rfl⟩:=rx;exact SeqAt.EqAt.str_str a t' b t
  | _=>exact absurd (show false=true from fx) aC7
 | _=>exact absurd (show false=true from fy) aC7
def eqU(x:V)(u:Value):Bool:=match u with
 | .none=>eqV .non x
 | .bool b=>eqV (.bl b) x
 | .int i _=>eqV (.int i) x
 | .str z _=>eqV (.str z) x
 | _=>false
theorem b2d{x y:V}{u:Value}(r:RelV y u)(f:X8 y=true):eqU x u=eqV y x:=by
 cases y with
 | non=>cases r;rfl
 | bl b=>cases r;rfl
 | int i=>obtain⟨t,rfl⟩:=r;rfl
 | str z=>obtain⟨t,rfl⟩:=r;rfl
 | _=>exact absurd (show false=true from f) aC7
theorem a2h{x:V}:∀{xs:List V} {us:List Value},j4 xs us→xs.all X8=true→us.any (eqU x)=xs.any fun y=>eqV y x
 | _,_,.nil,_=>rfl
 | y::xs,u::us,.cons r t,f=>by
  rw[aU1,aF2]at f
  rw[aK5,aK5,b2d r f.1,a2h t f.2]
theorem a0e{A:Around}{s:Shared}{x:V}{v:Value}(rx:RelV x v)(fx:X8 x=true):∀{xs:List V} {us:List Value},j4 xs us→xs.all X8=true→∀u∈us,SeqAt.EqAt A s u v (eqU x u)
 | _,_,.nil,_=>fun u hu=>by cases hu
 | y::xs,u::us,.cons r t,f=>fun u' hu=>by
  rw[aU1,aF2]at f
  rcases aB9.mp hu with rfl | hu
  ·rw[b2d r f.1];exact b4x r rx f.1 fx
  ·exact a0e rx fx t f.2 u' hu
def inV(x:V)(xs:List V):Bool:=xs.any fun y=>eqV y x
inductive b0F(K:PySem.W.Frag)(xs:List V)(H:Hp)(Q:VK):Prop
 | mk (p:Addr) (ys:List V) (e:xs=[.ref p]) (s:d7 K H p ys∨i5 K H p ys) (q:Q (.int ys.length) H)
inductive IIs(K:PySem.W.Frag)(neg:Bool)(x y:V)(H:Hp)(Q:VK):Prop
 | mk (p:Addr) (xs:List V) (e:y=.ref p) (s:d7 K H p xs∨i5 K H p xs) (f:X8 x=true) (g:xs.all X8=true) (q:Q (.bl (if neg then !inV x xs else inV x xs)) H)
def rIn(K:PySem.W.Frag)(neg:Bool):R2:=IIs K neg
theorem a2e:G5 X (compareOp .In) (rIn X.K false):=by
 intro pins s σ H x y v u Q I rx ry h
 obtain⟨p,xs,rfl,hq,fx,fs,q⟩:=h
 cases ry
 rcases hq with hq | hq
 ·obtain⟨its,r,pl,hz⟩:=I.list hq
  refine SeqAt.in_listAt (eqU x) pl.isList (fun w hw=>a0e rx fx r fs w (by simpa using hw)) ⟨.bl _,H,I,rfl,?_⟩
  rw[show its.toArray.any (eqU x)=its.any (eqU x) by simp,a2h r fs]
  exact q
 ·obtain⟨its,r,pl,hz⟩:=I.tuple hq
  refine SeqAt.in_tupleAt (eqU x) pl (fun w hw=>a0e rx fx r fs w (by simpa using hw)) ⟨.bl _,H,I,rfl,?_⟩
  rw[show its.toArray.any (eqU x)=its.any (eqU x) by simp,a2h r fs]
  exact q
theorem a1o:G5 X (compareOp .NotIn) (rIn X.K true):=by
 intro pins s σ H x y v u Q I rx ry h
 obtain⟨p,xs,rfl,hq,fx,fs,q⟩:=h
 cases ry
 rcases hq with hq | hq
 ·obtain⟨its,r,pl,hz⟩:=I.list hq
  refine SeqAt.notIn_listAt (eqU x) pl.isList (fun w hw=>a0e rx fx r fs w (by simpa using hw)) ⟨.bl _,H,I,rfl,?_⟩
  rw[show its.toArray.any (eqU x)=its.any (eqU x) by simp,a2h r fs]
  exact q
 ·obtain⟨its,r,pl,hz⟩:=I.tuple hq
  refine SeqAt.notIn_tupleAt (eqU x) pl (fun w hw=>a0e rx fx r fs w (by simpa using hw)) ⟨.bl _,H,I,rfl,?_⟩
  rw[show its.toArray.any (eqU x)=its.any (eqU x) by simp,a2h r fs]
  exact q
theorem g8:L6 X (.builtin "len") (b0F X.K):=by
 intro pins s σ H xs us Q I r h
 obtain⟨p,ys,rfl,hq,q⟩:=h
 obtain⟨u,rfl,rx⟩:=vals1 r
 cases rx
 have hn:=a5y
 rcases hq with hq | hq
 ·obtain⟨its,r',pl,hz⟩:=I.list hq
  have hlen:=r'.length
  exact Calls.call_len_list pl.isList (by simp only[aD4]<;>omega) ⟨.int ys.length,H,I.tok _,⟨s.toks+1,by rw[aD4,hlen]⟩,q⟩
 ·obtain⟨its,r',pl,hz⟩:=I.tuple hq
  have hlen:=r'.length
  exact len_tuple pl (by simp only[aD4]<;>omega) ⟨.int ys.length,H,I.tok _,⟨s.toks+1,by rw[aD4,hlen]⟩,q⟩
theorem V1:L6 X (.type "list") (fun xs H Q=>∃p ys,xs=[.ref p]∧(d7 X.K H p ys∨i5 X.K H p ys)∧∀l,H l=none→Q (.ref l) (upd H l (.lst ys))):=by
 intro pins s σ H xs us Q I r h
 obtain⟨p,ys,rfl,hq,q⟩:=h
 obtain⟨u,rfl,rx⟩:=vals1 r
 cases rx
 have fin:∀(its:List Value),j4 ys its→ys.length≤sizeLine→∀(h':Heap) (c':Nat),(∀b o',s.heap.get? b=some o'→h'.get? b=some o') →
   h'.get? s.heap.objs.size=some { cls:=.type "list",dict:=none,data:=.seq its.toArray c',slots:=#[] }→EP X pins σ Q (.ref s.heap.objs.size) { s with heap:=h' }:=fun its r' hz h' c' kp e=>
  ⟨.ref s.heap.objs.size,_,I.laid (t':=s.toks) kp (aB3 _) (show A6 X.prog X.w _ h' _ (.lst ys) from⟨hz,its,c',r',e⟩),rfl,q _ (I.hok.fresh (aB3 _))⟩
 rcases hq with hq | hq
 ·obtain⟨its,r',pl,hz⟩:=I.list hq
  have hlen:=r'.length
  obtain⟨o,ho,hc,n,hd⟩:=pl.isList
  exact call_list_seq p (.inl rfl) ho hc hd (fun h' c' kp e=>fin its r' hz h' c' kp e) (by simp only[aD4]<;>omega)
 ·obtain⟨its,r',pl,hz⟩:=I.tuple hq
  have hlen:=r'.length
  obtain⟨o,ho,hc,n,hd⟩:=pl
  exact call_list_seq p (.inr rfl) ho hc hd (fun h' c' kp e=>fin its r' hz h' c' kp e) (by simp only[aD4]<;>omega)
def tyV(K:PySem.W.Frag)(T:String)(x:V)(H:Hp):Prop:=match x with
 | .str _=>T="str"
 | .int _=>T="int"
 | .ref p=>(T="list"∧∃xs,d7 K H p xs)∨(T="tuple"∧∃o,K.lookup p=some o∧o.cls=.type "tuple"∧o.dict=none) ∨
   (T="dict"∧((∃kvs,H p=some (.dK kvs))∨∃kvs,H p=some (.dT kvs)))∨(T="set"∧∃S n,H p=some (.set S n))
 | _=>False
theorem b7g{pins:List (Addr×Obj)}{σ:St}{H:Hp}{s:Shared}{T:String}{x:V}{v:Value}(I:Inv X pins σ H s)(r:RelV x v)(ty:tyV X.K T x H) :
  s.TypeIs v T∧∀a,v=.ref a→∃ob,s.heap.get? a=some ob∧ob.dict=none:=by
 cases x with
 | str z=>
  obtain⟨t,rfl⟩:=r
  cases (show T="str" from ty)
  exact⟨typeIs_str s z t,fun _ e=>nomatch e⟩
 | int i=>
  obtain⟨t,rfl⟩:=r
  cases (show T="int" from ty)
  exact⟨typeIs_int s i t,fun _ e=>nomatch e⟩
 | ref p=>
  cases r
  rcases ty with ⟨rfl,xs,hq⟩ | ⟨rfl,o,hk,hc,hd⟩ | ⟨rfl,hk⟩ | ⟨rfl,S,n,hk⟩
  ·obtain⟨its,_,pl,_⟩:=I.list hq
   refine⟨pl.isList.typeIs,fun a e=>?_⟩
   cases e
   obtain⟨o,n,e,c,hd,_⟩:=pl
   exact⟨o,e,hd⟩
  ·refine⟨⟨o,I.kIn p o hk,hc⟩,fun a e=>?_⟩
   cases e
   exact⟨o,I.kIn _ o hk,hd⟩
  ·have z:∃o,s.heap.get? p=some o∧o.ExactDict:=by
    rcases hk with ⟨kvs,hk⟩ | ⟨kvs,hk⟩
    ·obtain⟨_,_,_,_,o,_,_,e,ex,_⟩:=I.hok p _ hk
     exact⟨o,e,ex⟩
    ·obtain⟨_,_,_,_,o,_,_,e,ex,_⟩:=I.hok p _ hk
     exact⟨o,e,ex⟩
   obtain⟨o,e,ex⟩:=z
   refine⟨⟨o,e,ex.1⟩,fun a e2=>?_⟩
   cases e2
   exact⟨o,e,ex.2.1⟩
  ·obtain⟨o,_,_,_,e,ex,_⟩:=I.hok p _ hk
   refine⟨⟨o,e,ex.1⟩,fun a e2=>?_⟩
   cases e2
   exact⟨o,e,ex.2.1⟩
 | _=>exact False.elim ty
def b1F(K:PySem.W.Frag)(T:String)(r:V→List V→Hp→VK→Prop)(to:TE):TE:=fun σ H Q=>to σ H fun x H1=>tyV K T x H1∧r x [] H1 Q
def tBM(K:PySem.W.Frag)(T:String)(r:V→List V→Hp→VK→Prop)(to:TE)(t:TA):TE:=fun σ H Q=>to σ H fun x H1=>tyV K T x H1∧t σ H1 fun xs H2=>r x xs H2 Q
variable{o e:Expr}{es:List Expr}{to:TE}{t:TA}{name:Str}{apos cpos:Pos}{T id:String}{r:V→List V→Hp→VK→Prop}
theorem a9O(pa:PlainAttrs T)(slot:Slot T name id)(hty:typeOf (.builtin id)=pure (.type "method_descriptor"))(hm:MtR X id r)(ho:PE X o to)
  (hbase:attributeBase o name X.env (eval o X.env)=eval o X.env:=by rfl) (hline:(apos.endLine==cpos.line)=true:=by rfl):PE X (.Call (.Attribute o name apos) [] [] cpos) (b1F X.K T r to):=by
 intro pins s σ H Q I h
 refine aR9 hbase hline (m8 (ho pins s σ H _ I h) fun v s1 ⟨x,H1,I1,r1,ty,q1⟩=>?_)
 obtain⟨h1,h2⟩:=b7g I1 r1 ty
 exact⟨T,id,pa,slot,hty,h1,h2,aI5 rfl (aS5 (hm pins s1 σ H1 x [] v [] Q I1 r1 .nil q1))⟩
theorem u6(pa:PlainAttrs T)(slot:Slot T name id)(hty:typeOf (.builtin id)=pure (.type "method_descriptor"))(hm:MtR X id r)(ho:PE X o to)(ha:PA X (e::es) t)
  (hbase:attributeBase o name X.env (eval o X.env)=eval o X.env:=by rfl)
  (hfew:((backTo cpos (starEach (e::es) X.env)).all (fun x=>!x.1)&&(backToKw cpos (keywordEach [] X.env)).all (fun x=>x.1.isSome)
   && decide ((e::es).length+([]:List Keyword).length+(if ([]:List Keyword).isEmpty then 0 else 1)<30))=true:=by rfl)
  (hline:(apos.endLine==cpos.line)=true:=by rfl) (hs:starEach (e::es) X.env=(false,eval e X.env)::starEach es X.env:=by rfl) (hplain:(backTo cpos (starEach es X.env)).any (·.1)=false:=by rfl) :
  PE X (.Call (.Attribute o name apos) (e::es) [] cpos) (tBM X.K T r to t):=by
 intro pins s σ H Q I h
 refine wpAny_Call_method_late hbase hfew hline rfl (m8 (ho pins s σ H _ I h) fun v s1 ⟨x,H1,I1,r1,ty,q1⟩=>?_)
 obtain⟨h1,h2⟩:=b7g I1 r1 ty
 refine⟨T,id,pa,slot,hty,h1,h2,?_⟩
 have hA:=ha cpos pins s1 σ H1 _ I1 q1
 rw[hs]at hA ⊢
 refine aI5 (by show(false||(backTo cpos (starEach es X.env)).any (·.1))=false;rw[hplain]<;>rfl) (aP2 ?_)
 exact m8 hA fun us s2 ⟨vs,H2,I2,r2,q2⟩=>hm pins s2 σ H2 x vs v us Q I2 r1 r2 q2
end
open PySem PySem.Spec PyProof.Rows
def MtM(X:Cx)(id:String)(r:V→List V→Hp→VK→Prop):Prop:=
 ∀(pins:List (Addr×Obj)) (s:Shared) (σ:St) (H:Hp) (x:V) (xs:List V) (v:Value) (us:List Value) (Q:VK),Inv X pins σ H s→RelV x v→j4 xs us→r x xs H Q →
  wpAny (model X.prog X.w) X.A (call (.builtin id) (v::us)) (EP X pins σ Q) X.xe s
theorem j4.one:∀{x:V} {us:List Value},j4 [x] us→∃u,us=[u]∧RelV x u
 | _,_,.cons r .nil=>⟨_,rfl,r⟩
theorem j4.zero:∀{us:List Value},j4 [] us→us=[]
 | _,.nil=>rfl
theorem j4.dropLast{xs:List V}{us:List Value}(h:j4 xs us):j4 xs.dropLast us.dropLast:=by
 induction h with
 | nil=>exact .nil
 | cons r t ih=>
  cases t with
  | nil=>exact .nil
  | cons q t'=>exact .cons r ih
theorem j4.eraseIdx:∀{xs:List V} {us:List Value} (i:Nat),j4 xs us→j4 (xs.eraseIdx i) (us.eraseIdx i)
 | _,_,_,.nil=>.nil
 | _,_,0,.cons _ t=>t
 | _,_,i+1,.cons r t=>.cons r (j4.eraseIdx i t)
theorem j4.rep{xs:List V}{us:List Value}(h:j4 xs us):∀k:Nat,j4 (List.replicate k xs).flatten (List.replicate k us).flatten
 | 0=>.nil
 | k+1=>by
  rw[aK0,aK0,aK8,aK8]
  exact j4.append h (j4.rep h k)
theorem b2a{α:Type}(l:List α):l.eraseIdx (l.length-1)=l.dropLast:=by
 induction l with
 | nil=>rfl
 | cons a r ih=>
  cases r with
  | nil=>rfl
  | cons b r=>
   have e:(a::b::r).length-1=((b::r).length-1)+1:=by
    have h1:(a::b::r).length=r.length+2:=rfl
    have h2:(b::r).length=r.length+1:=rfl
    omega
   rw[e,aK9,ih]
   all_goals rfl
theorem foldl_rep(its:List Value):∀(k:Nat) (acc:List Value),
  List.foldl (fun x1 x2=>x1++x2) acc.toArray (List.replicate k its.toArray)=(acc++(List.replicate k its).flatten).toArray
 | 0,acc=>by simp
 | k+1,acc=>by
  have e:acc.toArray++its.toArray=(acc++its).toArray:=by simp
  have e2:(acc++its)++(List.replicate k its).flatten=acc++(List.replicate (k+1) its).flatten:=by
   rw[aK0,aK8,aG1]
  rw[←e2,←foldl_rep its k (acc++its),←e,aK0,aO8]
section
variable{X:Cx}{pins:List (Addr×Obj)}{σ:St}{H:Hp}{s:Shared}{l b:Addr}{xs ys zs:List V}
theorem Inv.lset{its its':List Value}{n:Nat}{f:Array Value→Array Value}{t':Nat}(I:Inv X pins σ H s)(hH:H l=some (.lst xs))
  (e:s.heap.get? l=some { cls:=.type "list",data:=.seq its.toArray n }) (hf:f its.toArray=its'.toArray) (hv:j4 ys its') (hz:ys.length≤sizeLine) :
  Inv X pins σ (upd H l (.lst ys)) { s with heap:=s.heap.update l (Obj.mapSeq f),toks:=t' }:=by
 have q:=PySem.IsL.update e f
 rw[hf]at q
 refine I.write (x:=l) (e:=l) (by rw[hH];exact trivial) (.inl rfl) (fun b' u hb hu=>(aF3 s.heap (Obj.mapSeq f) (Ne.symm hb)).trans hu) ⟨_,q⟩ ?_
 exact⟨hz,its',_,hv,q⟩
theorem Inv.lnew{its:List Value}{t':Nat}(I:Inv X pins σ H s)(hv:j4 ys its)(hz:ys.length≤sizeLine) :
  Inv X pins σ (upd H s.heap.objs.size (.lst ys)) { s with heap:=s.heap.push { cls:=.type "list",data:=.seq its.toArray },toks:=t' }:=
 I.laid (fun _ _ q=>aA6 _ q) (aB3 _) ⟨hz,its,0,hv,aC0 _ rfl⟩
theorem Inv.fresh(I:Inv X pins σ H s):H s.heap.objs.size=none:=I.hok.fresh (aB3 _)
theorem Inv.lstM(I:Inv X pins σ H s)(hH:H l=some (.lst xs)):xs.length≤sizeLine∧∃(its:List Value) (n:Nat),j4 xs its∧xs.length=its.length∧s.heap.get? l=some { cls:=.type "list",data:=.seq its.toArray n }:=by
 obtain⟨z,its,n,r,e⟩:=I.hok l _ hH
 exact⟨z,its,n,r,r.length,e⟩
theorem a6L{n:Nat}(h:n≤sizeLine):Builtin.List.listTooLong n=false:=by
 unfold Builtin.List.listTooLong
 exact aB7 (by omega)
end
section
variable{X:Cx}
inductive b7x(x:V)(vs:List V)(H:Hp)(Q:VK):Prop
 | mk (l:Addr) (xs:List V) (y:V) (e1:x=.ref l) (e2:vs=[y]) (h:H l=some (.lst xs)) (z:xs.length<sizeLine) (q:Q .non (upd H l (.lst (xs++[y]))))
def b6t:V→List V→Hp→VK→Prop:=b7x
theorem o6:MtM X "list.append" b6t:=by
 intro pins s σ H x vs v us Q I rx rv h
 obtain⟨l,xs,y,rfl,rfl,hH,hz,q⟩:=h
 cases rx
 obtain⟨u,rfl,ru⟩:=rv.one
 obtain⟨z,its,n,r,hl,e⟩:=I.lstM hH
 refine aQ7 aB6 ⟨_,e,rfl⟩ F.entry_list_append (F.args_list_append_2 _ _) (PySem.list_append l its.toArray n u (by rw[aD4];omega)) ⟨e,?_⟩
 refine⟨.non,_,I.lset (its':=its++[u]) hH e (by simp) (r.append (.cons ru .nil)) ?_,rfl,q⟩
 rw[aA7,aE5]
 omega
def b5v:V→List V→Hp→VK→Prop:=fun x vs H Q=>∃l b xs zs,x=.ref l∧vs=[.ref b]∧H l=some (.lst xs)∧H b=some (.lst zs)∧xs.length+zs.length≤sizeLine∧Q .non (upd H l (.lst (xs++zs)))
theorem Y6:MtM X "list.extend" b5v:=by
 intro pins s σ H x vs v us Q I rx rv h
 obtain⟨l,b,xs,zs,rfl,rfl,hH,hB,hz,q⟩:=h
 cases rx
 obtain⟨u,rfl,ru⟩:=rv.one
 cases ru
 obtain⟨z,its,n,r,hl,e⟩:=I.lstM hH
 obtain⟨z2,its2,n2,r2,hl2,e2⟩:=I.lstM hB
 have hsz:its.toArray.size+its2.toArray.size≤sizeLine:=by rw[aD4,aD4];omega
 have hlong:¬(!its.toArray.isEmpty&&Builtin.List.listTooLong (its.toArray.size+its2.toArray.size))=true:=by
  rw[a6L hsz,aS4]
  exact aC7
 refine aQ7 aJ3 ⟨_,e,rfl⟩ F.entry_list_extend (F.args_list_extend_2 _ _)
  (AutoSeq1.list_extend_list_list_0 l its.toArray n b its2.toArray n2 hlong (by rw[aD4];omega) (by omega)) ⟨e,e2,?_⟩
 refine⟨.non,_,I.lset (its':=its++its2) hH e (by simp) (r.append r2) ?_,rfl,q⟩
 rw[aA7]
 omega
def b4E:V→List V→Hp→VK→Prop:=fun x vs H Q=>∃l xs y,x=.ref l∧vs=[]∧H l=some (.lst xs)∧xs[xs.length-1]?=some y∧Q y (upd H l (.lst xs.dropLast))
theorem b8c:MtM X "list.pop" b4E:=by
 intro pins s σ H x vs v us Q I rx rv h
 obtain⟨l,xs,y,rfl,rfl,hH,hy,q⟩:=h
 cases rx
 have hus:=rv.zero
 subst hus
 obtain⟨z,its,n,r,hl,e⟩:=I.lstM hH
 obtain⟨u,hu,ru⟩:=r.get hy
 have hy':its.toArray[its.toArray.size-1]?=some u:=by
  show its.toArray[its.length-1]?=some u
  rw[←aL5,←hl]
  exact hu
 refine aQ7 aT7 ⟨_,e,rfl⟩ F.entry_list_pop (F.args_list_pop_1 _) (MeetsSeq.list_pop_last l its.toArray n u hy' (by rw[aD4];omega)) ⟨e,?_⟩
 refine⟨y,_,I.lset (its':=its.dropLast) hH e ?_ r.dropLast ?_,ru,q⟩
 ·show its.toArray.eraseIdxIfInBounds (its.toArray.size-1)=its.dropLast.toArray
  rw[aD4,List.eraseIdxIfInBounds_toArray,b2a]
 ·rw[List.length_dropLast]
  omega
def b9D:R2:=fun x y H Q=>∃l b xs zs,x=.ref l∧y=.ref b∧H l=some (.lst xs)∧H b=some (.lst zs)∧xs.length+zs.length≤sizeLine∧∀p,H p=none→Q (.ref p) (upd H p (.lst (xs++zs)))
theorem U7:G5 X (binaryOp .Add) b9D:=by
 intro pins s σ H x y v u Q I rx ry h
 obtain⟨l,b,xs,zs,rfl,rfl,hH,hB,hz,q⟩:=h
 cases rx
 cases ry
 obtain⟨z,its,n,r,hl,e⟩:=I.lstM hH
 obtain⟨z2,its2,n2,r2,hl2,e2⟩:=I.lstM hB
 refine PySem.P.add_list e e2 ?_ (by rw[aD4,aD4];omega)
 have ea:its.toArray++its2.toArray=(its++its2).toArray:=by simp
 rw[ea]
 exact⟨.ref _,_,I.lnew (t':=s.toks) (r.append r2) (by rw[aA7];omega),rfl,q _ I.fresh⟩
def b6E:R2:=fun x y H Q=>∃l k xs,x=.ref l∧y=.int k∧H l=some (.lst xs)∧-(2 ^ 63)≤k∧k<2 ^ 63∧xs.length*k.toNat≤sizeLine ∧
 ∀p,H p=none→Q (.ref p) (upd H p (.lst (List.replicate k.toNat xs).flatten))
theorem len_rep{α:Type}(xs:List α)(k:Nat):(List.replicate k xs).flatten.length=k*xs.length:=by
 induction k with
 | zero=>simp
 | succ k ih=>rw[aK0,aK8,aA7,ih,Nat.succ_mul,Nat.add_comm]
theorem b0z:G5 X (binaryOp .Mult) b6E:=by
 intro pins s σ H x y v u Q I rx ry h
 obtain⟨l,k,xs,rfl,rfl,hH,h1,h2,hz,q⟩:=h
 cases rx
 obtain⟨t,rfl⟩:=ry
 obtain⟨z,its,n,r,hl,e⟩:=I.lstM hH
 have hlen:its.toArray.size*k.toNat≤sizeLine:=by rw[aD4,←hl];exact hz
 have hcap:¬its.toArray.size*k.toNat>(2 ^ 63-1)/8:=by
  have:(sizeLine:Nat)≤(2 ^ 63-1)/8:=by decide
  omega
 have hfit:¬(!Builtin.List.listFitsIndex k)=true:=by
  rw[fitsIndex_both h1 h2]
  exact aC7
 have hlong:¬Builtin.List.listTooLong (its.toArray.size*k.toNat)=true:=by
  rw[a6L hlen]
  exact aC7
 have hnew:List.foldl (fun x1 x2=>x1++x2) #[] (List.replicate (if its.toArray.isEmpty=true then 0 else k.toNat) its.toArray)=(List.replicate k.toNat its).flatten.toArray:=by
  have f0:∀m:Nat,List.foldl (fun x1 x2=>x1++x2) #[] (List.replicate m its.toArray)=(List.replicate m its).flatten.toArray:=fun m=>by
   have:=foldl_rep its m []
   rw[aO7]at this
   exact this
  rw[f0]
  cases its with
  | nil=>simp
  | cons a r'=>rw[aA4 (by simp)]
 refine wpAny_binaryOp_repeat_ref (T:="list") (U:="int") (by decide) ⟨_,e,rfl⟩ (fun s'=>typeIs_int s' k t) noFill_list_mul F.fills_int_mul F.slot_int_rmul repeat_list F.slot_int_index.lookup
  (aQ7 F.slot_int_rmul (typeIs_int s k t) F.entry_int_rmul (F.args_int_rmul_2 _ _) (int___rmul___int_list k t l its.toArray n)
   ⟨e,rfl,⟨_,e,rfl⟩,aQ7 F.slot_list_mul ⟨_,e,rfl⟩ F.entry_list_mul (F.args_list_mul_2 _ _) (AutoListH.list___mul___list_int_3 l its.toArray n k t hfit hcap hlong) ⟨e,?_⟩⟩)
 rw[hnew]
 exact⟨.ref _,_,I.lnew (t':=s.toks) (r.rep k.toNat) (by rw[len_rep,Nat.mul_comm];exact hz),rfl,q _ I.fresh⟩
end
section
variable{prog:Program}{w:World}{A:Around}{E:Value→Shared→Prop}{s:Shared}
end
section
variable{X:Cx}
end
open PySem PySem.Spec PyProof.Rows
section
variable{κ:Type}[DecidableEq κ]
def A4(kvs:List (κ×V))(k:κ):Option V:=(kvs.find? fun kv=>decide (kv.1=k)).map (·.2)
def putK(kvs:List (κ×V))(k:κ)(v:V):List (κ×V):=
 if (kvs.any fun kv=>decide (kv.1=k))=true then kvs.map (fun kv=>if kv.1=k then(kv.1,v) else kv) else kvs++[(k,v)]
def J1(kvs:List (κ×V))(k:κ):List (κ×V):=kvs.filter fun kv=>decide (kv.1≠k)
theorem K3{p:κ×V}{r:List (κ×V)}{k:κ}(e:p.1=k):A4 (p::r) k=some p.2:=by simp[A4,aH6,e]
theorem L0{p:κ×V}{r:List (κ×V)}{k:κ}(e:¬p.1=k):A4 (p::r) k=A4 r k:=by simp[A4,aH6,e]
theorem a3j(k:κ):∀kvs:List (κ×V),(kvs.any fun kv=>decide (kv.1=k))=(A4 kvs k).isSome
 | []=>rfl
 | p::r=>by
  rw[aK5]
  by_cases e:p.1=k
  ·simp only[K3 e,aC6 e,Bool.true_or,Option.isSome_some]
  ·rw[L0 e,aB7 e,Bool.false_or];exact a3j k r
theorem a2Q(k j:κ)(y:V):∀kvs:List (κ×V),A4 (kvs.map fun kv=>if kv.1=k then(kv.1,y) else kv) j=(A4 kvs j).map fun x=>if j=k then y else x
 | []=>rfl
 | p::r=>by
  have ih:=a2Q k j y r
  rw[aC1]
  by_cases h:p.1=k
  ·rw[aB0 h]
   by_cases e:p.1=j
   ·rw[K3 (p:=(p.1,y)) e,K3 e,aR1,aB0 (e.symm.trans h)]
   ·rw[L0 (p:=(p.1,y)) e,L0 e,ih]
  ·rw[aA4 h]
   by_cases e:p.1=j
   ·rw[K3 (p:=p) e,K3 e,aR1,aA4 (fun z=>h (e.trans z))]
   ·rw[L0 (p:=p) e,L0 e,ih]
theorem a4H(k j:κ)(y:V):∀kvs:List (κ×V),A4 kvs k=none→A4 (kvs++[(k,y)]) j=if j=k then some y else A4 kvs j
 | [],_=>by
  by_cases e:k=j
  ·rw[aB0 e.symm];exact K3 (p:=(k,y)) e
  ·rw[aA4 (fun z=>e z.symm)];exact L0 (p:=(k,y)) e
 | p::r,hn=>by
  rw[List.cons_append]
  have hk:¬p.1=k:=fun z=>by rw[K3 z]at hn;cases hn
  rw[L0 hk]at hn
  have ih:=a4H k j y r hn
  by_cases e:p.1=j
  ·rw[K3 e,K3 e,aA4 (fun z=>hk (e.trans z))]
  ·rw[L0 e,L0 e,ih]
theorem b6o(kvs:List (κ×V))(k j:κ)(y:V):A4 (putK kvs k y) j=if j=k then some y else A4 kvs j:=by
 unfold putK
 by_cases a:(kvs.any fun kv=>decide (kv.1=k))=true
 ·rw[aB0 a,a2Q]
  rw[a3j]at a
  by_cases e:j=k
  ·obtain⟨x,hx⟩:=Option.isSome_iff_exists.mp a
   rw[aB0 e,e,hx,aR1,aB0 rfl]
  ·rw[aA4 e]
   cases A4 kvs j with
   | none=>rfl
   | some x=>rw[aR1,aA4 e]
 ·rw[aA4 a]
  refine a4H k j y kvs ?_
  rw[a3j]at a
  cases q:A4 kvs k with
  | none=>rfl
  | some x=>rw[q]at a;exact(a rfl).elim
theorem X7(kvs:List (κ×V))(k:κ)(v:V):(putK kvs k v).length≤kvs.length+1:=by
 unfold putK
 split
 ·rw[aA0];omega
 ·rw[aA7,aF0,List.length_nil];omega
theorem N9.isSome_eq{o:Option V}{u:Option Value}(r:N9 o u):o.isSome=u.isSome:=by
 cases o with
 | none=>cases u with
  | none=>rfl
  | some _=>exact(show False from r).elim
 | some _=>cases u with
  | none=>exact(show False from r).elim
  | some _=>rfl
theorem N9.getD{o:Option V}{u:Option Value}{d:V}{d':Value}(r:N9 o u)(rd:RelV d d'):RelV (o.getD d) (u.getD d'):=by
 cases o with
 | none=>cases u with
  | none=>exact rd
  | some _=>exact(show False from r).elim
 | some _=>cases u with
  | none=>exact(show False from r).elim
  | some _=>exact r
theorem KV.val{kvs:List (κ×V)}{vs:List (κ×Value)}(r:KV kvs vs)(k:κ):N9 (A4 kvs k) (valueAt vs k):=by
 unfold KV at r
 induction r with
 | nil=>exact True.intro
 | @cons p q ps qs h t ih=>
  obtain⟨h1,h2⟩:=h
  by_cases e:p.1=k
  ·have e':q.1=k:=h1.symm.trans e
   have b:valueAt (q::qs) k=some q.2:=by simp[valueAt,aH6,e']
   rw[K3 e,b];exact h2
  ·have e':¬q.1=k:=fun z=>e (h1.trans z)
   have b:valueAt (q::qs) k=valueAt qs k:=by simp[valueAt,aH6,e']
   rw[L0 e,b];exact ih
theorem KV.any{kvs:List (κ×V)}{vs:List (κ×Value)}(r:KV kvs vs)(k:κ):(kvs.any fun kv=>decide (kv.1=k))=vs.any fun kv=>decide (kv.1=k):=by
 unfold KV at r
 induction r with
 | nil=>rfl
 | cons h t ih=>rw[aK5,aK5,ih,h.1]
theorem KV.repl{kvs:List (κ×V)}{vs:List (κ×Value)}(r:KV kvs vs)(k:κ){y:V}{u:Value}(ry:RelV y u) :
  KV (kvs.map fun kv=>if kv.1=k then(kv.1,y) else kv) (vs.map fun kv=>if kv.1=k then(kv.1,u) else kv):=by
 unfold KV at r ⊢
 induction r with
 | nil=>exact .nil
 | @cons p q ps qs h t ih=>
  rw[aC1,aC1]
  refine .cons ?_ ih
  obtain⟨h1,h2⟩:=h
  by_cases e:p.1=k
  ·rw[aB0 e,aB0 (h1.symm.trans e)];exact⟨h1,ry⟩
  ·rw[aA4 e,aA4 (fun z=>e (h1.trans z))];exact⟨h1,h2⟩
theorem KV.put{kvs:List (κ×V)}{vs:List (κ×Value)}(r:KV kvs vs)(k:κ){y:V}{u:Value}(ry:RelV y u):KV (putK kvs k y) (stored vs k u):=by
 unfold putK stored
 rw[r.any k]
 by_cases e:(vs.any fun kv=>decide (kv.1=k))=true
 ·rw[aB0 e,aB0 e];exact r.repl k ry
 ·rw[aA4 e,aA4 e];exact aK3 r ⟨rfl,ry⟩
theorem KV.drop{kvs:List (κ×V)}{vs:List (κ×Value)}(r:KV kvs vs)(k:κ):KV (J1 kvs k) (without vs k):=by
 unfold KV at r ⊢
 unfold J1 without
 induction r with
 | nil=>exact .nil
 | @cons p q ps qs h t ih=>
  obtain⟨h1,h2⟩:=h
  rw[aH8,aH8]
  by_cases e:p.1=k
  ·have a:¬decide (p.1≠k)=true:=by simp[e]
   have b:¬decide (q.1≠k)=true:=by simp[h1.symm.trans e]
   rw[aA4 a,aA4 b];exact ih
  ·have e':¬q.1=k:=fun z=>e (h1.trans z)
   have a:decide (p.1≠k)=true:=by simp[e]
   have b:decide (q.1≠k)=true:=by simp[e']
   rw[aB0 a,aB0 b];exact .cons ⟨h1,h2⟩ ih
theorem KV.keys{kvs:List (κ×V)}{vs:List (κ×Value)}(r:KV kvs vs):kvs.map (·.1)=vs.map (·.1):=by
 unfold KV at r
 induction r with
 | nil=>rfl
 | cons h t ih=>rw[aC1,aC1,ih,h.1]
theorem KV.length{kvs:List (κ×V)}{vs:List (κ×Value)}(r:KV kvs vs):kvs.length=vs.length:=aS0 r
theorem a3N(kvs:List (κ×V))(k:κ):(J1 kvs k).length≤kvs.length:=aG6 _ _
end
theorem a8a{P:Program}{w:World}{k:Key}{u:Value}(r:RelV (kV k) u):(r8 P w).is k u=true:=by
 cases k with
 | inl i=>obtain⟨t,e⟩:=(show ∃t,u=Value.int i t from r);subst e;exact a9T P w i t
 | inr x=>obtain⟨t,e⟩:=(show ∃t,u=Value.str x t from r);subst e;exact a8T P w x t
theorem a7G{P:Program}{w:World}:∀{ks:List Key} {us:List Value},j4 (ks.map kV) us→ItemsAre (r8 P w) ks us
 | [],_,r=>by rw[aJ5]at r;cases r;exact .nil
 | k::ks,_,r=>by
  rw[aC1]at r
  cases r with
  | cons h t=>exact .cons (a8a h) (a7G t)
abbrev KT(H:Hp):List (List Key×V)→List (List Key×Addr×Value)→Prop:=Paired fun p q=>p.1=q.1∧H q.2.1=some (.tup (p.1.map kV))∧RelV p.2 q.2.2
theorem KT.val{H:Hp}{kvs:List (List Key×V)}{xs:List (List Key×Addr×Value)}(r:KT H kvs xs)(k:List Key):N9 (A4 kvs k) ((atKey xs k).map (·.2)):=by
 induction r with
 | nil=>exact True.intro
 | @cons p q ps qs h t ih=>
  obtain⟨h1,_,h2⟩:=h
  by_cases e:p.1=k
  ·have e':q.1=k:=h1.symm.trans e
   have b:atKey (q::qs) k=some q.2:=by simp[atKey,aH6,e']
   rw[K3 e,b];exact h2
  ·have e':¬q.1=k:=fun z=>e (h1.trans z)
   have b:atKey (q::qs) k=atKey qs k:=by simp[atKey,aH6,e']
   rw[L0 e,b];exact ih
theorem KT.repl{H:Hp}{kvs:List (List Key×V)}{xs:List (List Key×Addr×Value)}(r:KT H kvs xs)(k:List Key){y:V}{u:Value}(ry:RelV y u) :
  KT H (kvs.map fun kv=>if kv.1=k then(kv.1,y) else kv) (xs.map (putAt k u)):=by
 induction r with
 | nil=>exact .nil
 | @cons p q ps qs h t ih=>
  rw[aC1,aC1]
  refine .cons ?_ ih
  obtain⟨h1,h2,h3⟩:=h
  unfold putAt
  by_cases e:p.1=k
  ·rw[aB0 e,aB0 (h1.symm.trans e)];exact⟨h1,h2,ry⟩
  ·rw[aA4 e,aA4 (fun z=>e (h1.trans z))];exact⟨h1,h2,h3⟩
theorem KT.put{H:Hp}{kvs:List (List Key×V)}{xs:List (List Key×Addr×Value)}(r:KT H kvs xs)(k:List Key){b:Addr}{y:V}{u:Value}(hb:H b=some (.tup (k.map kV)))(ry:RelV y u) :
  KT H (putK kvs k y) (storedH xs k b u):=by
 have e:(kvs.any fun kv=>decide (kv.1=k))=(atKey xs k).isSome:=by
  rw[a3j,(r.val k).isSome_eq,Option.isSome_map]
 unfold putK storedH
 rw[e]
 by_cases q:(atKey xs k).isSome=true
 ·rw[aB0 q,aB0 q];exact r.repl k ry
 ·rw[aA4 q,aA4 q];exact aK3 r ⟨rfl,hb,ry⟩
theorem KT.keeps{H H':Hp}{kvs:List (List Key×V)}{xs:List (List Key×Addr×Value)}(r:KT H kvs xs)(ht:∀b ys,H b=some (.tup ys)→H' b=some (.tup ys)):KT H' kvs xs:=
 Paired.mapP r fun _ _ z=>⟨z.1,ht _ _ z.2.1,z.2.2⟩
section
variable{P:Program}{w:World}{H:Hp}{h:Heap}{a:Addr}
theorem b5r{u:HO}(ok:K2 P w H h)(e:Rd H a u):A6 P w H h a u:=e.ok ok
theorem X6{kvs:List (Key×V)}(ok:K2 P w H h)(e:Rd H a (.dK kvs)):kvs.length≤sizeLine∧(a==sysModules)=false∧∃vs,KV kvs vs∧h.DictOf (r8 P w) a vs:=
 show A6 P w H h a (.dK kvs) from b5r ok e
theorem a4a{kvs:List (Key×V)}(ok:K2 P w H h)(e:H a=some (.dK kvs)):kvs.length≤sizeLine∧(a==sysModules)=false∧∃vs,KV kvs vs∧h.DictOf (r8 P w) a vs:=X6 ok (.inl e)
theorem a3h{ks:List Key}(ok:K2 P w H h)(e:H a=some (.tup (ks.map kV))):(tupleKind (r8 P w)).is h ks a:=by
 obtain⟨_,its,r,o,h1,h2,n,h3⟩:=(show A6 P w H h a (.tup (ks.map kV)) from ok a _ e)
 exact⟨o,its.toArray,n,h1,h2,h3,by simpa using a7G r⟩
theorem a4i{kvs:List (List Key×V)}(ok:K2 P w H h)(e:Rd H a (.dT kvs)):kvs.length≤sizeLine∧(a==sysModules)=false ∧
  ∃xs,KT H kvs xs∧h.DictOfH (tupleKind (r8 P w)) a xs:=by
 obtain⟨z,y,xs,r,o,es,ep,h1,h2,h3,h4,h5⟩:=(show A6 P w H h a (.dT kvs) from b5r ok e)
 refine⟨z,y,xs,r,o,es,ep,h1,h2,h3,h4,fun x hx=>?_,h5⟩
 have all:∀{l:List (List Key×V)} {m:List (List Key×Addr×Value)},KT H l m→∀x∈m,(tupleKind (r8 P w)).is h x.1 x.2.1:=by
  intro l m q
  induction q with
  | nil=>intro x hx;exact nomatch hx
  | @cons p q ps qs hq t ih=>
   intro x hx
   rcases aB9.mp hx with e | hx
   ·subst e
    exact a3h ok (by rw[←hq.1];exact hq.2.1)
   ·exact ih x hx
 exact all r x hx
theorem b7B{kvs:List (List Key×V)}(ok:K2 P w H h)(e:H a=some (.dT kvs)):kvs.length≤sizeLine∧(a==sysModules)=false ∧
  ∃xs,KT H kvs xs∧h.DictOfH (tupleKind (r8 P w)) a xs:=a4i ok (.inl e)
end
def t7(H:Hp)(a:Addr)(y:V)(r:Option V):Prop:=
 (∃kvs k,Rd H a (.dK kvs)∧y=kV k∧r=A4 kvs k)∨∃kvs k b,Rd H a (.dT kvs)∧y=.ref b∧H b=some (.tup (k.map kV))∧r=A4 kvs k
def J5(H:Hp)(a:Addr)(y v:V)(H':Hp):Prop:=
 (∃kvs k,H a=some (.dK kvs)∧y=kV k∧kvs.length<sizeLine∧H'=upd H a (.dK (putK kvs k v))) ∨
 ∃kvs k b,H a=some (.dT kvs)∧y=.ref b∧H b=some (.tup (k.map kV))∧kvs.length<sizeLine∧H'=upd H a (.dT (putK kvs k v))
theorem t7.k{H:Hp}{a:Addr}{kvs:List (Key×V)}{k:Key}(e:H a=some (.dK kvs)):t7 H a (kV k) (A4 kvs k):=.inl ⟨kvs,k,.inl e,rfl,rfl⟩
theorem t7.t{H:Hp}{a b:Addr}{kvs:List (List Key×V)}{k:List Key}(e:H a=some (.dT kvs))(eb:H b=some (.tup (k.map kV))):t7 H a (.ref b) (A4 kvs k):=.inr ⟨kvs,k,b,.inl e,rfl,eb,rfl⟩
theorem J5.k{H:Hp}{a:Addr}{kvs:List (Key×V)}{k:Key}{v:V}(e:H a=some (.dK kvs))(hl:kvs.length<sizeLine):J5 H a (kV k) v (upd H a (.dK (putK kvs k v))):=.inl ⟨kvs,k,e,rfl,hl,rfl⟩
theorem J5.t{H:Hp}{a b:Addr}{kvs:List (List Key×V)}{k:List Key}{v:V}(e:H a=some (.dT kvs))(eb:H b=some (.tup (k.map kV)))(hl:kvs.length<sizeLine) :
  J5 H a (.ref b) v (upd H a (.dT (putK kvs k v))):=.inr ⟨kvs,k,b,e,rfl,eb,hl,rfl⟩
section
variable{X:Cx}{pins:List (Addr×Obj)}{σ:St}{H:Hp}{s:Shared}{a:Addr}{y v:V}{u r:Value}{o:Option V}{A:Around}{E:Value→Shared→Prop}
theorem Inv.big(I:Inv X pins σ H s):sysModules<s.heap.objs.size:=by
 have h:mainGlobals<s.heap.objs.size:=(I.mod.glob.keeps I.bk).lt
 exact Nat.lt_trans (by decide) h
theorem b9h{Q:Value→Shared→Prop}(hu:A.units+1<cLine)(I:Inv X pins σ H s)(g:t7 H a y (some v))(ry:RelV y u)(h:∀w' s',Inv X pins σ H s'→RelV v w'→Q w' s') :
  wpAny (model X.prog X.w) A (getItem (.ref a) u) Q E s:=by
 rcases g with ⟨kvs,k,e,ey,l⟩ | ⟨kvs,k,b,e,ey,eb,l⟩
 ·subst ey
  obtain⟨z,hd,vs,rel,dd⟩:=X6 I.hok e
  obtain⟨w',hw,rw'⟩:=N9.some_of (v:=v) (o:=valueAt vs k) (by rw[l];exact rel.val k)
  exact wpAny_getItem_of (a8a ry) dd.mapOf hw (h w' _ (I.tok _) rw')
 ·subst ey
  cases (show u=Value.ref b from ry)
  obtain⟨z,hd,xs,rel,dd⟩:=a4i I.hok e
  obtain⟨w',hw,rw'⟩:=N9.some_of (v:=v) (o:=(atKey xs k).map (·.2)) (by rw[l];exact rel.val k)
  obtain⟨p,hp,hp2⟩:=aC9.mp hw
  refine wpAny_getItem_heap (aN5 hu) (a3h I.hok eb) dd hp ?_
  rw[hp2]
  exact h w' _ (I.tok _) rw'
theorem b4D{Q:Value→Shared→Prop}(hu:A.units+1<cLine)(I:Inv X pins σ H s)(g:t7 H a y o)(ry:RelV y u)(h:∀s',Inv X pins σ H s'→Q (.bool o.isSome) s') :
  wpAny (model X.prog X.w) A (compareOp .In u (.ref a)) Q E s:=by
 rcases g with ⟨kvs,k,e,ey,l⟩ | ⟨kvs,k,b,e,ey,eb,l⟩
 ·subst ey
  obtain⟨z,hd,vs,rel,dd⟩:=X6 I.hok e
  refine wpAny_in_of (a8a ry) hd dd.mapOf ?_
  rw[←(rel.val k).isSome_eq,←l]
  exact h _ (I.tok _)
 ·subst ey
  cases (show u=Value.ref b from ry)
  obtain⟨z,hd,xs,rel,dd⟩:=a4i I.hok e
  refine wpAny_in_heap (aN5 hu) (a3h I.hok eb) hd dd ?_
  have q:=(rel.val k).isSome_eq
  rw[Option.isSome_map]at q
  rw[←q,←l]
  exact h _ (I.tok _)
theorem b9u{Q:Value→Shared→Prop}(hu:A.units+1<cLine)(I:Inv X pins σ H s)(g:t7 H a y o)(ry:RelV y u)(h:∀s',Inv X pins σ H s'→Q (.bool (!o.isSome)) s') :
  wpAny (model X.prog X.w) A (compareOp .NotIn u (.ref a)) Q E s:=by
 rcases g with ⟨kvs,k,e,ey,l⟩ | ⟨kvs,k,b,e,ey,eb,l⟩
 ·subst ey
  obtain⟨z,hd,vs,rel,dd⟩:=X6 I.hok e
  refine wpAny_notIn_of (a8a ry) hd dd.mapOf ?_
  rw[←(rel.val k).isSome_eq,←l]
  exact h _ (I.tok _)
 ·subst ey
  cases (show u=Value.ref b from ry)
  obtain⟨z,hd,xs,rel,dd⟩:=a4i I.hok e
  refine wpAny_notIn_heap (aN5 hu) (a3h I.hok eb) hd dd ?_
  have q:=(rel.val k).isSome_eq
  rw[Option.isSome_map]at q
  rw[←q,←l]
  exact h _ (I.tok _)
theorem a3b{h':Heap}{t':Nat}{ob:HO}(I:Inv X pins σ H s)(mu:Mut (H a))(hs:Heap.SameBut a s.heap h')(he:∃q,h'.get? a=some q)(new:A6 X.prog X.w (upd H a ob) h' a ob) :
  Inv X pins σ (upd H a ob) { s with heap:=h',toks:=t' }:=
 I.write (x:=a) (e:=a) mu (.inl rfl) (fun b q hb z=>(hs.2 b hb).trans z) he new
theorem a1p{P:Program}{w:World}{H':Hp}{h':Heap}{kvs:List (Key×V)}{vs:List (Key×Value)}(z:kvs.length≤sizeLine)(hd:(a==sysModules)=false)(rel:KV kvs vs)(dd:h'.DictOf (r8 P w) a vs) :
  A6 P w H' h' a (.dK kvs):=⟨z,hd,vs,rel,dd⟩
theorem b2e{H':Hp}{Q:Unit→Shared→Prop}(hu:A.units+1<cLine)(I:Inv X pins σ H s)(g:J5 H a y v H')(ry:RelV y u)(rv:RelV v r)(h:∀s',Inv X pins σ H' s'→Q () s') :
  wpAny (model X.prog X.w) A (setItem (.ref a) u r) Q E s:=by
 rcases g with ⟨kvs,k,e,ey,l,eH⟩ | ⟨kvs,k,b,e,ey,eb,l,eH⟩
 ·subst ey eH
  obtain⟨z,hd,vs,rel,dd⟩:=a4a I.hok e
  have hz:vs.length≤sizeLine:=by rw[←rel.length];exact z
  have hl:(putK kvs k v).length≤sizeLine:=by have:=X7 kvs k v;omega
  refine wpAny_setItem_pairs (hsz:=hz) (a8a ry) dd fun h' dd' hs=>h _ ?_
  have he:∃q,h'.get? a=some q:=let ⟨q,_,_,hq,_⟩:=dd';⟨q,hq⟩
  exact a3b I (by rw[e];exact True.intro) hs he (a1p hl hd (rel.put k rv) dd')
 ·subst ey eH
  cases (show u=Value.ref b from ry)
  obtain⟨z,hd,xs,rel,dd⟩:=b7B I.hok e
  have hz:xs.length≤sizeLine:=by rw[←aS0 rel];exact z
  have hl:(putK kvs k v).length≤sizeLine:=by have:=X7 kvs k v;omega
  refine wpAny_setItem_heap (hsz:=hz) (aN5 hu) (a3h I.hok eb) dd fun h' dd' hs=>h _ ?_
  obtain⟨q,es,ep,hq,h2,h3,h4,_,h5⟩:=dd'
  refine a3b I (by rw[e];exact True.intro) hs ⟨q,hq⟩ ⟨hl,hd,_,(rel.put k eb rv).keeps fun c ys ec=>?_,q,es,ep,hq,h2,h3,h4,h5⟩
  rw[b7 (a9x ec e (fun z=>nomatch z))]
  exact ec
end
section
variable{X:Cx}{pins:List (Addr×Obj)}{σ:St}{H:Hp}{s:Shared}{a:Addr}{kvs:List (Key×V)}{k:Key}{u:Value}{A:Around}{E:Value→Shared→Prop}
theorem b9B{Q:Unit→Shared→Prop}(I:Inv X pins σ H s)(e:H a=some (.dK kvs))(ry:RelV (kV k) u)(l:(A4 kvs k).isSome=true)(h:∀s',Inv X pins σ (upd H a (.dK (J1 kvs k))) s'→Q () s') :
  wpAny (model X.prog X.w) A (delItem (.ref a) u) Q E s:=by
 obtain⟨z,hd,vs,rel,dd⟩:=a4a I.hok e
 refine wpAny_delItem_slot dd.typeIs (by decide) PySem.F.slot_dict_delitem
  (aL0 PySem.F.slot_dict_delitem dd.typeIs PySem.F.entry_dict_delitem (PySem.F.args_dict_delitem_2 _ _) (meets_dict_delitem_pairs (r8 X.prog X.w) a (a8a ry)) ⟨vs,dd,by rw[←rel.length];exact z,by rw[←(rel.val k).isSome_eq];exact l,fun h' dd' hs=>h _ ?_⟩)
 have he:∃q,h'.get? a=some q:=let ⟨q,_,_,hq,_⟩:=dd';⟨q,hq⟩
 exact a3b I (by rw[e];exact True.intro) hs he (a1p (aD8 (a3N kvs k) z) hd (rel.drop k) dd')
theorem b3B{v:V}{more:List Value}{Q:Value→Shared→Prop}(I:Inv X pins σ H s)(e:H a=some (.dK kvs))(ry:RelV (kV k) u)(l:A4 kvs k=some v)(hm:more=[]∨∃x,more=[x])
  (h:∀w' s',Inv X pins σ (upd H a (.dK (J1 kvs k))) s'→RelV v w'→Q w' s'):wpAny (model X.prog X.w) A (call (.builtin "dict.pop") (.ref a::u::more)) Q E s:=by
 obtain⟨z,hd,vs,rel,dd⟩:=a4a I.hok e
 obtain⟨w',hw,rw'⟩:=N9.some_of (v:=v) (o:=valueAt vs k) (by rw[←l];exact rel.val k)
 have hp:(keyPart u).isSome=true:=by
  cases k with
  | inl i=>obtain⟨t,q⟩:=(show ∃t,u=Value.int i t from ry);subst q;rfl
  | inr x=>obtain⟨t,q⟩:=(show ∃t,u=Value.str x t from ry);subst q;rfl
 have ha:argsOk "dict.pop" ⟨.ref a::u::more,[]⟩:=by
  rcases hm with q | ⟨x,q⟩
  ·subst q;exact PySem.F.args_dict_pop_2 _ _
  ·subst q;exact PySem.F.args_dict_pop_3 _ _ _
 refine aL0 PySem.F.slot_dict_pop dd.typeIs PySem.F.entry_dict_pop ha (meets_dict_pop_there (r8 X.prog X.w) a (a8a ry) more hm hp)
  ⟨vs,w',dd,by rw[←rel.length];exact z,hw,fun h' dd' hs=>h w' _ ?_ rw'⟩
 have he:∃q,h'.get? a=some q:=let ⟨q,_,_,hq,_⟩:=dd';⟨q,hq⟩
 exact a3b I (by rw[e];exact True.intro) hs he (a1p (aD8 (a3N kvs k) z) hd (rel.drop k) dd')
theorem b2B{Q:Value→Shared→Prop}(I:Inv X pins σ H s)(e:Rd H a (.dK kvs))(h:∀t s',Inv X pins σ H s'→Q (.int kvs.length t) s'):wpAny (model X.prog X.w) A (call (.builtin "len") [.ref a]) Q E s:=by
 obtain⟨z,hd,vs,rel,dd⟩:=X6 I.hok e
 refine call_len_dict hd dd (by rw[←rel.length];rw[aF9]at z;omega) ?_
 rw[←rel.length]
 exact h _ _ (I.tok _)
end
def b5z(i:Expr):Prop:=∀ov iv,subscripted i false ov iv=operate [ov,iv] (getItem ov iv)
theorem b4u{prog:Program}{w:World}{A:Around}{E:Value→Shared→Prop}{s:Shared}{env:Env}{value slice:Expr}{pos:Pos}{T id:String}{Q:Value→Shared→Prop}
  (hl:typeLookup (.type T) "__getitem__"=pure (some (.builtin id))) (hs:b5z slice)
  (h:wpAny (model prog w) A (eval value env) (fun o s₁=>wpAny (model prog w) A (eval slice env) (fun i s₂=>s₂.TypeIs o T∧wpAny (model prog w) A (getItem o i) Q E s₂) E s₁) E s) :
  wpAny (model prog w) A (eval (.Subscript value slice pos) env) Q E s:=by
 refine Subscript_ (aH4 h (fun o s₁ h₁=>aH4 h₁ (fun i s₂ h₂=>?_) fun _ _ x=>x) fun _ _ x=>x)
 obtain⟨hT,h₂⟩:=h₂
 unfold subscriptTail
 refine aA1 ?_
 rw[getitemInPython_of_ne hT.not_modules]
 refine aA1 (aT3 hT hl ?_)
 have fin:wpAny (model prog w) A (subscripted slice false o i) (fun r s₃=>wpAny (model prog w) A (letTemporaryGo value o r >>= fun _=>pure r) Q E s₃) E s₂:=by
  rw[hs o i]
  exact wpAny_operating (aH4 h₂ (fun r s₃ h₃=>aA1 (wpAny_letTemporaryGo (aA9 h₃))) fun _ _ x=>x)
 first
  | exact aA9 (aA1 fin)
  | exact aA1 (aA9 (aA1 fin))
  | exact aA1 fin
theorem a6T{X:Cx}{pins:List (Addr×Obj)}{σ:St}{H:Hp}{s:Shared}{a:Addr}{y:V}{o:Option V}(I:Inv X pins σ H s)(g:t7 H a y o):s.TypeIs (.ref a) "dict":=by
 rcases g with ⟨kvs,k,e,_,_⟩ | ⟨kvs,k,b,e,_,_,_⟩
 ·obtain⟨_,_,vs,_,dd⟩:=X6 I.hok e
  exact dd.typeIs
 ·obtain⟨_,_,xs,_,dd⟩:=a4i I.hok e
  exact dd.typeIs
inductive IDg(x y:V)(H:Hp)(Q:VK):Prop
 | mk (a:Addr) (v:V) (e:x=.ref a) (g:t7 H a y (some v)) (q:Q v H)
def b0B(td ty:TE):TE:=fun σ H Q=>td σ H fun x H1=>ty σ H1 fun y H2=>IDg x y H2 Q
def b2A(td ty tv:TE):TS:=fun D σ H=>tv σ H fun v H1=>td σ H1 fun x H2=>ty σ H2 fun y H3=>∃a H4,x=.ref a∧J5 H3 a y v H4∧D.nx σ H4
section
variable{X:Cx}{o i e value:Expr}{pos pos' tpos:Pos}{td ty tv:TE}
theorem u3(hu:X.A.units+1<cLine)(ho:PE X o td)(hi:PE X i ty)(hs:b5z i):PE X (.Subscript o i pos) (b0B td ty):=by
 intro pins s σ H Q I h
 refine b4u PySem.F.slot_dict_getitem.lookup hs (m8 (ho pins s σ H _ I h) fun u s1 ⟨x,H1,I1,rx,q1⟩=>m8 (hi pins s1 σ H1 _ I1 q1) fun iv s2 ⟨y,H2,I2,ry,a,v,ex,g,q2⟩=>?_)
 subst ex
 obtain rfl:u=Value.ref a:=rx
 exact⟨a6T I2 g,b9h hu I2 g ry fun w' s3 I3 rw'=>⟨v,H2,I3,rw',q2⟩⟩
theorem C2(hu:X.A.units+1<cLine)(ho:PE X o td)(hi:PE X i ty)(hv:PE X value tv)(hs:swapsWith value (some (.Subscript o i pos')) pos.line X.env=pure false) :
  PS X (.Assign [.Subscript o i pos'] value pos) (b2A td ty tv):=by
 intro pins s σ H D I h
 refine wpAny_Assign_Subscript (m8 (hv pins s σ H _ I h) fun r s1 ⟨v,H1,I1,rv,q1⟩=>m8 (ho pins s1 σ H1 _ I1 q1) fun u s2 ⟨x,H2,I2,rx,q2⟩=>m8 (hi pins s2 σ H2 _ I2 q2) fun iv s3 ⟨y,H3,I3,ry,a,H4,ex,g,q3⟩=>?_) hs
 subst ex
 obtain rfl:u=Value.ref a:=rx
 exact b2e hu I3 g ry rv fun s4 I4=>⟨σ,H4,I4,q3⟩
end
theorem b6q{P:Program}{w:World}{H:Hp}(h:Heap)(hb:sysModules<h.objs.size):A6 P w H (h.push { cls:=.type "dict",data:=.dict #[] }) h.objs.size (.dK []):=
 ⟨aG4 _,aG2.mpr (Ne.symm (aC8 hb)),[],.nil,Heap.DictOf.new h⟩
def b6w:TE:=fun _ H Q=>∀p,H p=none→Q (.ref p) (upd H p (.dK []))
section
variable{X:Cx}{pos:Pos}
theorem A8:PE X (.Dict [] [] pos) b6w:=fun pins s σ H Q I h=>
 wpAny_Dict_empty ⟨.ref s.heap.objs.size,_,I.laid (a:=s.heap.objs.size) (o:=.dK []) (t':=s.toks) (fun _ _ q=>aA6 _ q) (aB3 _) (b6q s.heap I.big),rfl,h _ (I.hok.fresh (aB3 _))⟩
end
def a3c(kvs more:List (Key×V)):List (Key×V):=more.foldl (fun acc kv=>putK acc kv.1 kv.2) kvs
theorem KV.merge:∀{more:List (Key×V)} {rs:List (Key×Value)} {kvs:List (Key×V)} {vs:List (Key×Value)},KV more rs→KV kvs vs→KV (a3c kvs more) (merged vs rs):=by
 intro more rs kvs vs r
 unfold KV at r
 induction r generalizing kvs vs with
 | nil=>intro q;exact q
 | @cons p q ps qs h t ih=>
  intro r0
  have e:KV (putK kvs p.1 p.2) (stored vs q.1 q.2):=by
   have:=r0.put p.1 h.2
   rw[←h.1];exact this
  exact ih e
theorem a3l:∀(more kvs:List (Key×V)),(a3c kvs more).length≤kvs.length+more.length
 | [],kvs=>by show kvs.length≤kvs.length+0;omega
 | p::r,kvs=>by
  have h1:=a3l r (putK kvs p.1 p.2)
  have h2:=X7 kvs p.1 p.2
  show(a3c (putK kvs p.1 p.2) r).length≤_
  rw[aF0];omega
structure M1(X:Cx)(o:Expr)(m:Str)(apos:Pos)(e:Expr)(cpos:Pos):Prop where
 base:attributeBase o m X.env (eval o X.env)=eval o X.env
 few:((backTo cpos (starEach [e] X.env)).all (fun x=>!x.1)&&(backToKw cpos (keywordEach [] X.env)).all (fun x=>x.1.isSome)
  && decide (([e]:List Expr).length+([]:List Keyword).length+(if ([]:List Keyword).isEmpty then 0 else 1)<30))=true
 line:(apos.endLine==cpos.line)=true
 trees:backTo cpos (starEach [e] X.env)=[(false,eval e X.env)]
structure M2(X:Cx)(o:Expr)(m:Str)(apos:Pos)(e f:Expr)(cpos:Pos):Prop where
 base:attributeBase o m X.env (eval o X.env)=eval o X.env
 few:((backTo cpos (starEach [e,f] X.env)).all (fun x=>!x.1)&&(backToKw cpos (keywordEach [] X.env)).all (fun x=>x.1.isSome)
  && decide (([e,f]:List Expr).length+([]:List Keyword).length+(if ([]:List Keyword).isEmpty then 0 else 1)<30))=true
 line:(apos.endLine==cpos.line)=true
 trees:backTo cpos (starEach [e,f] X.env)=[(false,eval e X.env),(false,eval f X.env)]
def IsD(H:Hp)(a:Addr):Prop:=(∃kvs,Rd H a (.dK kvs))∨∃kvs,Rd H a (.dT kvs)
theorem a4p{X:Cx}{pins:List (Addr×Obj)}{σ:St}{H:Hp}{s:Shared}{a:Addr}(I:Inv X pins σ H s)(d:IsD H a) :
  s.TypeIs (.ref a) "dict"∧(∀b,Value.ref a=.ref b→∃ob,s.heap.get? b=some ob∧ob.dict=none)∧(a==sysModules)=false:=by
 rcases d with ⟨kvs,e⟩ | ⟨kvs,e⟩
 ·obtain⟨_,hd,vs,_,dd⟩:=X6 I.hok e
  refine⟨dd.typeIs,fun b q=>?_,hd⟩
  cases q
  obtain⟨ob,_,_,h1,h2,_⟩:=dd
  exact⟨ob,h1,h2.2.1⟩
 ·obtain⟨_,hd,xs,_,dd⟩:=a4i I.hok e
  refine⟨dd.typeIs,fun b q=>?_,hd⟩
  cases q
  obtain⟨ob,_,_,h1,h2,_⟩:=dd
  exact⟨ob,h1,h2.2.1⟩
section
variable{X:Cx}{pins:List (Addr×Obj)}{σ:St}{H:Hp}{s:Shared}{a:Addr}{y d:V}{u r:Value}{o:Option V}{A:Around}{E:Value→Shared→Prop}
theorem b1x{Q:Value→Shared→Prop}(hu:A.units+1<cLine)(I:Inv X pins σ H s)(g:t7 H a y o)(ry:RelV y u)(rd:RelV d r)(h:∀w' s',Inv X pins σ H s'→RelV (o.getD d) w'→Q w' s') :
  wpAny (model X.prog X.w) A (call (.builtin "dict.get") [.ref a,u,r]) Q E s:=by
 rcases g with ⟨kvs,k,e,ey,l⟩ | ⟨kvs,k,b,e,ey,eb,l⟩
 ·subst ey
  obtain⟨z,hd,vs,rel,dd⟩:=X6 I.hok e
  refine aL0 aR0 dd.typeIs PySem.F.entry_dict_get (PySem.F.args_dict_get_3 _ _ _) (meets_dict_get_default (r8 X.prog X.w) a (a8a ry) hd r) ⟨_,dd.mapOf,h _ _ (I.tok _) ?_⟩
  rw[l]
  exact(rel.val k).getD rd
 ·subst ey
  cases (show u=Value.ref b from ry)
  obtain⟨z,hd,xs,rel,dd⟩:=a4i I.hok e
  refine aL0 aR0 dd.typeIs PySem.F.entry_dict_get (PySem.F.args_dict_get_3 _ _ _) (meetsH_dict_get_default (tupleKind (r8 X.prog X.w)) a b hd r) ⟨aN5 hu,k,xs,a3h I.hok eb,dd,h _ _ (I.tok _) ?_⟩
  rw[l]
  exact(rel.val k).getD rd
end
def b6z(td ty tx:TE):TE:=fun σ H Q=>td σ H fun x H1=>∃a,x=.ref a∧IsD H1 a∧ty σ H1 fun y H2=>tx σ H2 fun z H3=>∃o,t7 H3 a y o∧Q (o.getD z) H3
def b3z(td ty:TE):TE:=fun σ H Q=>td σ H fun x H1=>∃a,x=.ref a∧IsD H1 a∧ty σ H1 fun y H2=>∃kvs k v,H2 a=some (.dK kvs)∧y=kV k∧A4 kvs k=some v∧Q v (upd H2 a (.dK (J1 kvs k)))
section
variable{X:Cx}{o e f:Expr}{apos cpos:Pos}{td ty tx:TE}
theorem a9k(hu:X.A.units+1<cLine)(ho:PE X o td)(he:PE X e ty)(hf:PE X f tx)(m:M2 X o "get" apos e f cpos):PE X (.Call (.Attribute o "get" apos) [e,f] [] cpos) (b6z td ty tx):=by
 intro pins s σ H Q I h
 refine wpAny_Call_method m.base m.few m.line aH5 aR0 PySem.F.type_dict_get (m8 (ho pins s σ H _ I h) fun u s1 ⟨x,H1,I1,rx,a,ex,d,q1⟩=>?_)
 subst ex
 obtain rfl:u=Value.ref a:=rx
 obtain⟨t1,t2,_⟩:=a4p I1 d
 refine⟨t1,t2,?_⟩
 rw[m.trees]
 refine aI5 rfl (aP2 (aI0 (m8 (he pins s1 σ H1 _ I1 q1) fun iv s2 ⟨y,H2,I2,ry,q2⟩=>
  aI0 (m8 (hf pins s2 σ H2 _ I2 q2) fun fv s3 ⟨z,H3,I3,rz,ov,g,q3⟩=>aL1 ?_))))
 exact b1x hu I3 g ry rz fun w' s4 I4 rw'=>⟨_,H3,I4,rw',q3⟩
theorem a8d(ho:PE X o td)(he:PE X e ty)(m:M1 X o "pop" apos e cpos):PE X (.Call (.Attribute o "pop" apos) [e] [] cpos) (b3z td ty):=by
 intro pins s σ H Q I h
 refine wpAny_Call_method m.base m.few m.line aH5 PySem.F.slot_dict_pop PySem.F.type_dict_pop (m8 (ho pins s σ H _ I h) fun u s1 ⟨x,H1,I1,rx,a,ex,d,q1⟩=>?_)
 subst ex
 obtain rfl:u=Value.ref a:=rx
 obtain⟨t1,t2,_⟩:=a4p I1 d
 refine⟨t1,t2,?_⟩
 rw[m.trees]
 refine aI5 rfl (aP2 (aI0 (m8 (he pins s1 σ H1 _ I1 q1) fun iv s2 ⟨y,H2,I2,ry,kvs,k,v,ea,ey,l,q2⟩=>aL1 ?_)))
 subst ey
 exact b3B I2 ea ry l (.inl rfl) fun w' s3 I3 rw'=>⟨v,_,I3,rw',q2⟩
end
section
variable{X:Cx}{pins:List (Addr×Obj)}{σ:St}{H:Hp}{s:Shared}{a:Addr}{kvs:List (Key×V)}{A:Around}{E:Value→Shared→Prop}
end
section
variable{X:Cx}{pins:List (Addr×Obj)}{σ:St}{H:Hp}{s:Shared}{a:Addr}{y:V}{u:Value}{A:Around}{E:Value→Shared→Prop}
end
end L2
namespace Att
open PySem PySem.W PySem.Calls PyProof.Rows
theorem a9z{P:Params}{h:Heap}:∀(ns:List Int) (vs:List Value),WellAll P h vs (ns.map WData.int)→IntsAre vs ns:=by
 intro ns
 induction ns with
 | nil=>
  intro vs w
  rw[aJ5]at w
  cases w
  exact .nil
 | cons n ns ih=>
  intro vs w
  rw[aC1]at w
  cases w with
  | cons a b=>
   cases a
   exact .cons _ _ (ih _ b)
theorem b9c{l:OpenLaw}{n:Nat}(hn:l.most=some n){P:Params}{h:Heap}{args:List WData}{vals:List Value}
  (hpre:l.row.toRowW.claim.pre args=true) (hwl:WellAll P h vals args) :
  ∃a vs ns,vals=[Value.ref a]∧args=[WData.list (ns.map WData.int)]∧h.get? a=some { cls:=.type "list",data:=.seq vs.toArray }∧IntsAre vs ns∧ns.length≤n:=by
 have hsh:WShape.hasAll [] args [.list .int]=true:=(pre_splitW hpre).1
 have hc:l.pre.holds [] { args:=args }=true:=(pre_splitW hpre).2
 obtain⟨d,r,rfl,h1,h2⟩:=hasAllW_cons hsh
 obtain rfl:=hasAllW_nil h2
 obtain⟨xs,rfl,h3⟩:=hasW_list h1
 obtain⟨ns,rfl⟩:=items_int h3
 have hlen:ns.length≤n:=by
  unfold OpenLaw.pre at hc
  have h4:(WTm.not (.lt (.lit (.int (n:Int))) (.len (.arg 0)))).holds [] { args:=[.list (ns.map .int)] }=true:=by
   have h4:=(holds_andW hc).1
   rw[hn]at h4
   exact h4
  have h5:=condW_of h4 (w_not (w_lt w_lit (w_len_list (w_arg rfl))))
  rw[aA0]at h5
  refine Nat.le_of_not_lt fun q=>?_
  have q':(n:Int)<((ns.length:Nat):Int):=by omega
  first
   | (rw[aC6 q']at h5;exact absurd h5 (by decide))
   | (simp at h5;omega)
 cases hwl with
 | cons w1 w2=>
  cases w2
  cases w1 with
  | list ho hall=>exact⟨_,_,ns,rfl,rfl,ho,a9z ns _ hall,hlen⟩
theorem b4f(l:OpenLaw)(args:List WData):l.row.toRowW.claim.post args (.bool true) args=true:=
 postW_of (r:=l.row.toRowW) (X:=(true==true))
  (show WShape.has [] (.bool true) .bool=true by first | rfl | decide | simp[WShape.has,WShape.arms,WShape.armsAll])
  (show(WTm.eq .res (.lit (.bool true))).value [] { args:=args,res:=some (.bool true),after:=args }=some (.bool (true==true)) from w_eq_bool (w_res rfl) w_lit) rfl
theorem a2U{l:OpenLaw}{n:Nat}{q:Program}{loose:List Str}{XP:(Str→Option Value)→Heap→Prop}{YP:World→Heap→Prop}{d:DefRec}
  (hn:l.most=some n) (hdf:d.params.defaults=[])
  (call:∀(w:World) (s₀ s₁:Shared) (mg mb:Str→Option Value) (fa:Addr) (o:Obj) (pm cd doc:Value) (a:Addr) (vs:List Value) (ns:List Int),
   Ground q loose [] XP w s₀ mg mb s₁.heap→YP w s₁.heap →
   s₁.heap.get? fa=some o→o.data=.func (docDef d.name d.params d.body d.scope pm cd doc)→s₁.heap.CodeRec cd d.name→mg d.name=some (.ref fa) →
   s₁.heap.get? a=some { cls:=.type "list",data:=.seq vs.toArray }→IntsAre vs ns→ns.length≤n→s₁.gens=#[] →
   codeAny (model l.prog w) callerA (.call (.ref fa) ⟨[.ref a],[]⟩) (fun r s'=>r=.ok (.ret (.bool true))∧OldK s₁.heap s'.heap∧s'.os=s₁.os∧AllBare s'.gens) s₁) :
  WalkO q loose XP YP l.row.toRowW d [] (fun f vs=>PySem.call f vs):=by
 intro w s₀ s₁ mg mb G Y fa o pm cd doc dV kV ho hd hcd hD hmg hg args vals as hpre hlay hrd hwl hlo
 obtain rfl:dV=.none:=Dflts.none hD hdf
 obtain rfl:kV=.none:=Dflts.noKw hD
 obtain⟨a,vs,ns,rfl,rfl,hobj,hints,hlen⟩:=b9c hn hpre hwl
 refine enter_call (aQ3 (call w s₀ s₁ mg mb fa o pm cd doc a vs ns G Y ho (fd_plain hd) hcd hmg hobj hints hlen hg) fun r s' hq=>?_)
 obtain⟨rfl,h2,h3,h4⟩:=hq
 exact⟨.inl ⟨.bool true,.bool true,[],rfl,fun _=>rfl,.bool true,b4f l _,fun _=>⟨List.Pairwise.nil,fun _ hm=>(nomatch hm)⟩⟩,h2,h3,h4⟩
section
variable{prog:Program}{w:World}{A:Around}{E:Value→Shared→Prop}{s:Shared}{K:Frag}
end
end Att
namespace L2
open PySem PySem.Spec PyProof.Rows
theorem a8G:∀{vs:List Value} {ns:List Int},IntsAre vs ns→j4 (ns.map V.int) vs
 | _,_,.nil=>.nil
 | _,_,.cons n t h=>.cons ⟨t,rfl⟩ (a8G h)
def b6l(H:Hp):Prop:=∀b,H b=none∨∃o xs,H b=some (.frz o (.lst xs))
theorem b2p{P:Program}{w:World}{K:PySem.W.Frag}{mg mb:Str→Option Value}{CX:CXT}{k:Nat}{fa a:Addr}{fd:FuncData}{x:Str}{sp:Sp}{s₁:Shared}{vs:List Value}{ns:List Int}
  (KX:K.In s₁.heap) (hns:s₁.heap.Ns mainGlobals mg) (hb:s₁.heap.Ns builtinsNs mb) (hbb:∀x:Str,x≠"__name__"→mb x=bootBuiltins x) (hlim:s₁.heap.NoLimit) (hg:s₁.gens=#[])
  (ha:s₁.heap.get? a=some { cls:=.type "list",data:=.seq vs.toArray }) (hi:IntsAre vs ns) (hl:ns.length≤sizeLine) (hr:G6 k callerA)
  (F:∀base:Heap,K.In base→base.Ns mainGlobals mg→g9 P w K mg base CX k fa fd [x] sp) (hbind:∀(s:Shared) (u:Value),BindsTo s fd ⟨[u],[]⟩ [(x,u)])
  (hsp:∀H:Hp,b6l H→d7 K H a (ns.map V.int)→sp [.ref a] H (fun v _=>v=.bl true) fun _ _ _=>False)
  (hCX:∀H e s',CX [] H s₁ (fun _ _ _=>False) e s'→False) :
  codeAny (model P w) callerA (.call (.ref fa) ⟨[.ref a],[]⟩) (fun r s'=>r=.ok (.ret (.bool true))∧OldK s₁.heap s'.heap∧s'.os=s₁.os∧AllBare s'.gens) s₁:=by
 have rv:=a8G hi
 have lenV:=hi.length
 have core:∀H:Hp,b6l H→d7 K H a (ns.map V.int)→K2 P w H s₁.heap→(∀b,H b≠none→b=a)→(H a≠none→K.lookup a=none) →
   codeAny (model P w) callerA (.call (.ref fa) ⟨[.ref a],[]⟩) (fun r s'=>r=.ok (.ret (.bool true))∧OldK s₁.heap s'.heap∧s'.os=s₁.os∧AllBare s'.gens) s₁:=by
  intro H hO hS hok hA hK
  have base_of:∀{b:Addr} {o:Obj},s₁.heap.get? b=some o→H b=none→(a8j s₁.heap H).get? b=some o:=fun e n=>b4o e n
  have noA:∀{b:Addr} {o:Obj} {es:Array DictEntry} {ep:Nat},s₁.heap.get? b=some o→o.data=.dict es ep→H b=none:=fun {b o es ep} e d=>by
   cases q:H b with
   | none=>rfl
   | some u=>
    have e':b=a:=hA b (by rw[q];simp)
    subst e'
    rw[ha]at e;cases e
    have d':Data.seq vs.toArray _=Data.dict es ep:=d
    cases d'
  have nsK:∀{b:Addr} {m:Str→Option Value},s₁.heap.Ns b m→(a8j s₁.heap H).Ns b m:=fun {b m} ⟨o,es,ep,e,d,r⟩=>⟨o,es,ep,base_of e (noA e d),d,r⟩
  have hKb:K.In (a8j s₁.heap H):=fun b o e=>base_of (KX b o e) (by
   cases q:H b with
   | none=>rfl
   | some u=>
    have e':b=a:=hA b (by rw[q];simp)
    subst e'
    rw[hK (by rw[q];simp)] at e;cases e)
  have hM:Mod K mg (a8j s₁.heap H):=⟨hKb,nsK hns,⟨mb,nsK hb,hbb⟩,let ⟨mc,h1,h2⟩:=hlim;⟨mc,nsK h1,h2⟩⟩
  have e0:a2v P w K mg (a8j s₁.heap H) callerA [] s₁ H:=⟨rfl,hM,fun b o e=>b7r e,Nat.le_of_eq (b2j _ _),trivial,fun b hb=>absurd (show b∈([]:List Addr) from hb) (by simp),hok,.of_eq hg⟩
  refine aQ3 ((F _ hKb (nsK hns)).run callerA [] s₁ H ⟨[.ref a],[]⟩ [.ref a] [.ref a] _ _ hr e0 (hbind s₁ (.ref a)) (.cons rfl .nil) (hsp H hO hS)) fun r s' h=>?_
  cases r with
  | error e=>exact(hCX H e s' h).elim
  | ok fl=>
   cases fl with
   | next=>exact False.elim h
   | brk=>exact False.elim h
   | cont=>exact False.elim h
   | ret u=>
    obtain⟨v,H',os,bare,un,hok',r',q⟩:=h
    have q':v=.bl true:=q
    subst q'
    obtain rfl:u=Value.bool true:=r'
    refine⟨rfl,OldK.of_keep fun b o e=>?_,os,bare⟩
    cases q:H b with
    | none=>exact un.keep b o e q (by intro z;exact absurd (show b∈([]:List Addr) from z) (by simp)) (by simp)
    | some u=>
     rcases hO b with z | ⟨ob,xs,z⟩
     ·rw[q]at z;cases z
     ·have z2:=un.frzs b ob _ z
      obtain⟨e1,_⟩:=hok b _ z
      obtain⟨e2,_⟩:=hok' b _ z2
      rw[e]at e1;cases e1
      exact e2
 cases hk:K.lookup a with
 | some o=>
  have e:=KX a o hk
  rw[ha]at e
  cases e
  refine core (fun _=>none) (fun _=>.inl rfl) (.inr ⟨_,vs.toArray,_,hk,rfl,rfl,rfl,by rw[aD4,lenV];exact hl,by simpa using rv⟩) (fun b u z=>by have z':(none:Option HO)=some u:=z;cases z') (fun b z=>absurd rfl z) fun z=>absurd rfl z
 | none=>
  refine core (fun b=>if b=a then some (.frz { cls:=.type "list",data:=.seq vs.toArray } (.lst (ns.map V.int))) else none) (fun b=>?_) (.inl (.inr ⟨{ cls:=.type "list",data:=.seq vs.toArray },aB0 rfl⟩)) (fun b u z=>?_) (fun b z=>?_) fun _=>hk
  ·by_cases hb:b=a
   ·exact .inr ⟨_,_,aB0 hb⟩
   ·exact .inl (aA4 hb)
  ·by_cases hb:b=a
   ·have z':=(aB0 hb).symm.trans z
    cases z'
    subst hb
    exact⟨ha,by rw[aA0];exact hl,vs,_,rv,ha⟩
   ·have z':=(aA4 hb).symm.trans z
    cases z'
  ·by_cases hb:b=a
   ·exact hb
   ·exact absurd (aA4 hb) z
open PySem PySem.Spec PyProof.Rows
theorem b5s{l:PySem.W.OpenLaw}{n k:Nat}{q:Program}{loose:List Str}{XP:(Str→Option Value)→Heap→Prop}{YP:World→Heap→Prop}{d:DefRec}{K:Params→PySem.W.Frag}{CX:World→CXT}{sp:World→Sp}{x:Str}
  (hn:l.most=some n) (hn2:n≤sizeLine) (hdf:d.params.defaults=[]) (hr:G6 k callerA)
  (hY:∀(w:World) (h:Heap),YP w h→(K w.params).In h)
  (F:∀(w:World) (mg:Str→Option Value) (fa:Addr) (h:Heap),(K w.params).In h→h.Ns mainGlobals mg→mg d.name=some (.ref fa) →
   ∃fd:FuncData,(∀(s:Shared) (u:Value),BindsTo s fd ⟨[u],[]⟩ [(x,u)]) ∧
    ∀base:Heap,(K w.params).In base→base.Ns mainGlobals mg→g9 l.prog w (K w.params) mg base (CX w) k fa fd [x] (sp w))
  (hsp:∀(w:World) (H:Hp) (a:Addr) (ns:List Int),ns.length≤n→b6l H→d7 (K w.params) H a (ns.map V.int)→sp w [.ref a] H (fun v _=>v=.bl true) fun _ _ _=>False)
  (hCX:∀(w:World) (H:Hp) (s:Shared) (e:Value) (s':Shared),CX w [] H s (fun _ _ _=>False) e s'→False) :
  PySem.W.WalkO q loose XP YP l.row.toRowW d [] (fun f vs=>PySem.call f vs):=by
 refine Att.a2U hn hdf fun w s₀ s₁ mg mb fa o pm cd doc a vs ns G Y ho hd hcd hmg hobj hints hlen hg=>?_
 have KX:=hY w _ Y
 obtain⟨fd,hb,hF⟩:=F w mg fa _ KX G.T.g hmg
 exact b2p KX G.T.g G.T.b G.T.builtins G.T.nolimit hg hobj hints (aD8 hlen hn2) hr hF hb (fun H hO hS=>hsp w H a ns hlen hO hS) fun H e s'=>hCX w H s₁ e s'
open PySem PySem.Spec PyProof.Rows
abbrev y9:CXT:=fun _ _ _ _ _ _=>False
abbrev E0:XK:=fun _ _ _=>False
theorem k8{X:Cx}:Y0 y9 X E0:=fun _ _ _ _ _ _ _ h=>h.elim
structure Fun(K:PySem.W.Frag)(x qual:Str)(st:Stmt)(f:Addr)(fd:FuncData):Prop where
 ex:∃(oc:Value) (od:Option Addr) (kV doc pm:Value) (an:Option Addr) (cdv ct:Value) (osl:Array (Option Value)),
  fd=PySem.W.fnOf x qual (a2b st) (W8 st) (i7 st) .none kV doc pm an cdv ct∧K.lookup f=some ⟨oc,od,.func fd,osl⟩∧PySem.W.codeIn K cdv qual=true
 kp:PySem.W.keepIn K (.ref f)=true
section
variable{P:Program}{w:World}{K:PySem.W.Frag}{mg:Str→Option Value}{base:Heap}
theorem Fun.ok{x qual:Str}{st:Stmt}{f:Addr}{fd:FuncData}{N ps:List Str}{k:Nat}{sp:Sp}(F:Fun K x qual st f fd)(S:j9 N ps (i7 st))(len:∀vs H Q E,sp vs H Q E→vs.length=ps.length)
  (hbody:∀(cdv:Value) (A:Around) (outer:List Env) (s:Shared) (H:Hp) (vs:List V) (Q:VK) (E:XK),G6 k (A.deeper (envOfC qual (i7 st) s.heap.objs.size f cdv))→sp vs H Q E →
   ∃t,PSs (a3D y9 P w K mg base N qual (i7 st) f cdv A outer s H E).nox (W8 st) t∧t { nx:=fun _ H'=>Q .non H',rt:=Q } (start N vs) H):g9 P w K mg base y9 (k+1) f fd ps sp:=by
 obtain⟨oc,od,kV,doc,pm,an,cdv,ct,osl,rfl,lk,hcd⟩:=F.ex
 refine b1B lk hcd S len fun A outer s H vs Q E hr hsp=>?_
 obtain⟨t,h,q⟩:=hbody cdv A outer s H vs Q E hr hsp
 exact⟨t,h.nox,q⟩
theorem b2y{x qual:Str}{st:Stmt}{f:Addr}{oc:Value}{od an:Option Addr}{osl:Array (Option Value)}{kV doc pm cdv ct:Value}(l:K.lookup f=some ⟨oc,od,.func (PySem.W.fnOf x qual (a2b st) (W8 st) (i7 st) .none kV doc pm an cdv ct),osl⟩)
  (c:PySem.W.codeIn K cdv qual=true) (k:PySem.W.keepIn K (.ref f)=true):Fun K x qual st f (PySem.W.fnOf x qual (a2b st) (W8 st) (i7 st) .none kV doc pm an cdv ct):=⟨⟨oc,od,kV,doc,pm,an,cdv,ct,osl,rfl,l,c⟩,k⟩
end
theorem M7{A:Around}{k:Nat}(hr:G6 k A):A.units+1<cLine:=aT8 (Nat.add_le_add_left (by decide:1≤64) _) hr.units
theorem Y4{n:Nat}(h:n≤1000):n<sizeLine:=aT8 h (by decide)
section
variable{X:Cx}
theorem pv(i:Nat){x:Str}{pos:Pos}(hN:X.N[i]?=some x:=by rfl)(hv:Vis X.env.scope x:=by first | exact Or.inl rfl | exact Or.inr (Or.inl rfl) | exact Or.inr (Or.inr rfl))(hd:(x==("__debug__":Str))=false:=by decide)
  (hcd:(x==("__classdict__":Str))=false:=by decide):PE X (.Name x pos) (b3x i):=b7y hN hv hd hcd
theorem a7o:L6 X (.builtin "len") (fun xs H Q=>∃a kvs,xs=[V.ref a]∧H a=some (.dK kvs)∧Q (.int kvs.length) H):=by
 intro pins s σ H xs us Q I r h
 obtain⟨a,kvs,rfl,ha,q⟩:=h
 obtain⟨u,rfl,ru⟩:=vals1 r
 cases ru
 exact b2B I (.inl ha) fun t s' I'=>⟨.int kvs.length,H,I',⟨t,rfl⟩,q⟩
end
theorem f6{A B:Prop}(h:B):if false=true then A else B:=by
 rw[aA4 aC7]
 exact h
theorem l6{A B:Prop}(h:A):if true=true then A else B:=by
 rw[aB0 rfl]
 exact h
theorem K4{c A B:Prop}[Decidable c](h1:c→A)(h2:¬c→B):if c then A else B:=by
 by_cases h:c
 ·rw[aB0 h]
  exact h1 h
 ·rw[aA4 h]
  exact h2 h
theorem U4{c A B:Prop}[Decidable c](hc:c)(h:B):if (!decide c)=true then A else B:=by
 rw[aC6 hc]
 exact f6 h
def g6(H H':Hp):Prop:=∀b o,H b=some o→H' b=some o
theorem g6.refl(H:Hp):g6 H H:=fun _ _ h=>h
theorem g6.trans{H H1 H2:Hp}(a:g6 H H1)(b:g6 H1 H2):g6 H H2:=fun c o h=>b c o (a c o h)
section
variable{κ:Type}[DecidableEq κ]
end
open PySem PySem.Spec PyProof.Rows
def U3(X:Cx)(own tl:List Str)(scope:Scope)(cl:List (Str×Addr))(C:Addr)(s₀:Shared)(H₀:Hp)(ex:List Addr):Cx where
 prog:=X.prog
 w:=X.w
 K:=X.K
 mg:=X.mg
 base:=X.base
 A:=X.A
 N:=own++tl
 s₀:=s₀
 H₀:=H₀
 env:=compEnvC scope cl C X.env
 outer:=X.stack
 stack:=X.stack
 ex:=ex
 fn:=fun _=>false
 calm:=X.calm
 pn:=[]
 xe:=fun _ _=>False
def a0g(names:List (Str×NameKind)):List Str→List Str→Bool
 | [],[]=>true
 | n::r,m::q=>(match names.lookup n with
  | some .local=>false
  | some .cell=>false
  | some .free=>decide (n=m)
  | _=>true)&&a0g names r q
 | _,_=>false
theorem a6O{names:List (Str×NameKind)}:∀{a b:List Str},a0g names a b=true→a.length=b.length
 | [],[],_=>rfl
 | [],_::_,h=>by simp[a0g]at h
 | _::_,[],h=>by simp[a0g]at h
 | n::r,m::q,h=>by
  unfold a0g at h
  rw[aF2]at h
  simp[a6O h.2]
theorem a1X{names:List (Str×NameKind)}:∀{a b:List Str} {i:Nat} {x:Str},a0g names a b=true→a[i]?=some x →
  names.lookup x≠some .local∧names.lookup x≠some .cell∧(names.lookup x=some .free→b[i]?=some x)
 | [],_,_,_,_,e=>by simp at e
 | _::_,[],_,_,h,_=>by simp[a0g]at h
 | n::r,m::q,0,x,h,e=>by
  unfold a0g at h
  rw[aF2]at h
  have e':n=x:=by simpa using e
  subst e'
  have h1:=h.1
  refine⟨fun z=>by rw[z]at h1;simp at h1,fun z=>by rw[z]at h1;simp at h1,fun z=>?_⟩
  rw[z]at h1
  have h2:n=m:=by simpa using h1
  simp[h2]
 | n::r,m::q,i+1,x,h,e=>by
  unfold a0g at h
  rw[aF2]at h
  have r:=a1X (i:=i) h.2 (by simpa using e)
  simpa using r
def W7(X:Cx)(scope:Scope):Bool:=
 (scope.names.all fun y=>y.2 != .cell)&&(scope.names.all fun y=>y.2 != .local||scope.names.lookup y.1==some .local) &&
 (scope.names.all fun y=>y.2 != .free||(X.env.scope.names.lookup y.1==some .cell||X.env.scope.names.lookup y.1==some .free)) &&
 (scope.names.all fun y=>y.2 != .free||scope.names.lookup y.1==some .free)
theorem a0o{X:Cx}{scope:Scope}(h:W7 X scope=true):∀y∈scope.names,y.2≠.cell:=by
 unfold W7 at h
 simp only[aF2,aQ4]at h
 intro y hy z
 have:=h.1.1.1 y hy
 rw[z]at this
 simp at this
theorem a7l{X:Cx}{scope:Scope}(h:W7 X scope=true):∀y∈scope.names,y.2=.local→scope.names.lookup y.1=some .local:=by
 unfold W7 at h
 simp only[aF2,aQ4]at h
 intro y hy z
 have:=h.1.1.2 y hy
 rw[z]at this
 simpa using this
theorem a0d{X:Cx}{scope:Scope}(h:W7 X scope=true):∀y∈scope.names,y.2=.free→X.env.scope.names.lookup y.1=some .cell∨X.env.scope.names.lookup y.1=some .free:=by
 unfold W7 at h
 simp only[aF2,aQ4]at h
 intro y hy z
 have:=h.1.2 y hy
 rw[z]at this
 simpa using this
theorem a7c{env:Env}:∀(names:List (Str×NameKind)) (cs:List (Str×Addr)),(∀y∈names,y.2=.free→∃c,env.cells.lookup y.1=some c) →
  ∃cl,(forIn names cs (fun(x:Str×NameKind) (r:List (Str×Addr))=>match x with
   | (name,kind)=>if (kind==NameKind.free)=true then(do let a ←cellOf env name;pure (ForInStep.yield ((name,a)::r))) else pure (ForInStep.yield r)):Sem (List (Str×Addr)))=pure cl ∧
   (∀n c,cl.lookup n=some c→env.cells.lookup n=some c∨cs.lookup n=some c)∧(∀y∈names,y.2=.free→∃c,cl.lookup y.1=some c)∧(∀n c,cs.lookup n=some c→∃c',cl.lookup n=some c')
 | [],cs,_=>⟨cs,by rw[List.forIn_nil],fun n c h=>.inr h,fun y hy=>by simp at hy,fun n c h=>⟨c,h⟩⟩
 | (n,k)::r,cs,h=>by
  have hr:∀y∈r,y.2=.free→∃c,env.cells.lookup y.1=some c:=fun y hy=>h y (aC4 _ hy)
  rw[aR5]
  by_cases hk:k=.free
  ·subst hk
   obtain⟨c,hc⟩:=h (n,.free) aD0 rfl
   have ec:cellOf env n=pure c:=by unfold cellOf;rw[show env.cells.lookup n=some c from hc]
   obtain⟨cl,e,a1,a2,a3⟩:=a7c (env:=env) r ((n,c)::cs) hr
   have up:∃c',cl.lookup n=some c':=a3 n c (by simp[aN9])
   refine⟨cl,?_,fun m c' q=>?_,fun y hy z=>?_,fun m c' q=>?_⟩
   ·simp only[beq_self_eq_true,aQ5,ec,pure_bind]
    exact e
   ·rcases a1 m c' q with z | z
    ·exact .inl z
    ·rw[aN9]at z
     cases hm:m==n with
     | true=>
      have:m=n:=by simpa using hm
      subst this
      simp only[beq_self_eq_true]at z
      cases z
      exact .inl hc
     | false=>
      rw[hm]at z
      exact .inr z
   ·rcases aB9.mp hy with rfl | hy
    ·exact up
    ·exact a2 y hy z
   ·by_cases hm:m=n
    ·subst hm;exact up
    ·refine a3 m c' ?_
     rw[aN9]
     have:(m==n)=false:=by simpa using hm
     rw[this];exact q
  ·have hb:(k==NameKind.free)=false:=by simpa using hk
   obtain⟨cl,e,a1,a2,a3⟩:=a7c (env:=env) r cs hr
   refine⟨cl,?_,a1,fun y hy z=>?_,a3⟩
   ·simp only[hb,aI8,aP1,pure_bind]
    exact e
   ·rcases aB9.mp hy with rfl | hy
    ·exact absurd z hk
    ·exact a2 y hy z
theorem a2t{scope:Scope}{env:Env}(h:∀y∈scope.names,y.2=.free→∃c,env.cells.lookup y.1=some c) :
  ∃cl,closureFor scope env=pure cl∧(∀n c,cl.lookup n=some c→env.cells.lookup n=some c)∧∀y∈scope.names,y.2=.free→∃c,cl.lookup y.1=some c:=by
 obtain⟨cl,e,a1,a2,_⟩:=a7c scope.names [] h
 refine⟨cl,?_,fun n c q=>(a1 n c q).resolve_right fun z=>by simp at z,a2⟩
 simp only[closureFor]
 rw[e]
 rfl
theorem N4{env:Env}:∀{names:List (Str×NameKind)} {x:Str} {k:NameKind},
  (names.map fun(n,k)=>if (k==NameKind.free&&env.scope.kind==.function&&env.kindOf n==some .cell) then(n,NameKind.cell) else(n,k)).lookup x=some k →
  names.lookup x=some k∨(k=.cell∧names.lookup x=some .free)
 | [],_,_,h=>by simp at h
 | (n,k')::r,x,k,h=>by
  have ih:=@N4 env r x k
  rw[aC1]at h
  by_cases hc:(k'==NameKind.free&&env.scope.kind==.function&&env.kindOf n==some .cell)=true
  ·simp only[hc,aQ5]at h
   rw[aN9]at h ⊢
   cases hx:x==n with
   | true=>
    rw[hx]at h
    have hk:k'=.free:=by
     simp only[aF2]at hc
     simpa using hc.1.1
    injection h with h
    subst h hk
    exact .inr ⟨rfl,rfl⟩
   | false=>
    rw[hx]at h
    exact ih h
  ·simp only[Bool.not_eq_true]at hc
   simp only[hc,aI8,aP1]at h
   rw[aN9]at h ⊢
   cases hx:x==n with
   | true=>rw[hx]at h;exact .inl h
   | false=>rw[hx]at h;exact ih h
def PIf(X:Cx)(ifs:List Expr)(t:TT):Prop:=
 ∀(pins:List (Addr×Obj)) (s:Shared) (σ:St) (H:Hp) (Q:Bool→Hp→Prop),Inv X pins σ H s→t σ H Q →
  wpAny (model X.prog X.w) X.A (forIn ifs true fun c r=>if r=true then do let ok ←isTrue c X.env (eval c X.env);pure (ForInStep.yield ok) else pure (ForInStep.yield r)) (TP X pins σ Q) X.xe s
def b0A:TT:=fun _ H Q=>Q true H
theorem T9{X:Cx}:PIf X [] b0A:=fun _ _ _ H _ I h=>wpAny_tests_nil ⟨H,I,h⟩
theorem T7{X:Cx}{c:Expr}{t:TT}(h:PT X c t):PIf X [c] t:=fun pins s σ H Q I q=>wpAny_tests_one (h pins s σ H Q I q)
structure D5(X:Cx)(own tl:List Str)(scope:Scope)(target elt:Expr)(ifs:List Expr)(g:TG)(tc:TT)(te:TE):Prop where
 kind:scope.kind=.function
 ok:W7 X scope=true
 nm:a0g scope.names tl X.N=true
 tg:∀cl C s₀ H₀ ex,PG (U3 X own tl scope cl C s₀ H₀ ex) target g
 ti:∀cl C s₀ H₀ ex,PIf (U3 X own tl scope cl C s₀ H₀ ex) ifs tc
 te:∀cl C s₀ H₀ ex,PE (U3 X own tl scope cl C s₀ H₀ ex) elt te
def a0z(k:Nat)(g:TG)(tc:TT)(te:TE)(J:It)(acc:Addr)(σ:St)(H1:Hp)(Q:Hp→Prop):Prop:=
 ∃W:Nat→Nat→Hp→Prop,(∃m,W 0 m (upd H1 acc (.lst [])))∧∀i m H,W i m H →
  (J.stop i H∧Q H)∨(J.go i H∧∃N:Hp→Prop,(∀H',N H'→∃m',m'<m∧W (i+1) m' H') ∧
   ∀(os:St) x H',os.length=k→J.yld i H x H'→g x (os++σ) H' fun σ2 H2=>(∃os2:St,os2.length=k∧σ2=os2++σ) ∧
    tc σ2 H2 fun b H3=>if b=true then te σ2 H3 fun y H4=>∃ys,H4 acc=some (.lst ys)∧ys.length<sizeLine∧N (upd H4 acc (.lst (ys++[y]))) else N H3)
def b0r(k:Nat)(wi:TI)(g:TG)(tc:TT)(te:TE):TE:=fun σ H Q=>wi σ H fun J H1=>∀acc,H1 acc=none→a0z k g tc te J acc σ H1 fun H'=>Q (.ref acc) H'
theorem Un.off{fs ex:List Addr}{H H1:Hp}{h h1 h':Heap}{C:Addr}(u:Un fs ex H H1 h h1)(hs:Heap.SameBut C h1 h')(hC:h.objs.size≤C):Un fs ex H H1 h h':=by
 have ne:∀b o,h.get? b=some o→b≠C:=fun b o e z=>absurd (aB5 e) (by rw[z];exact Nat.not_lt.mpr hC)
 exact⟨fun b o e n hb hx=>(hs.2 b (ne b o e)).trans (u.keep b o e n hb hx),fun b o e n hb hx=>let ⟨sl,q⟩:=u.slot b o e n hb hx;⟨sl,(hs.2 b (ne b o e)).trans q⟩,u.free,
  fun b o e hx=>let ⟨o',q⟩:=u.there b o e hx;⟨o',(hs.2 b (ne b o e)).trans q⟩,u.tups,u.frzs,u.tbls⟩
section
variable{prog:Program}{w:World}{A:Around}{R:Result→Shared→Prop}{s:Shared}
theorem b1i{elt target iter:Expr}{ifs:List Expr}{scope:Scope}{pos:Pos}{it acc:Value}{env:Env}(Iv:Nat→Shared→Prop)
  (each:∀n s,Iv n s→wpAny (model prog w) A (pyNext it) (fun r t1=>match r with
   | none=>R (.ok .next) t1
   | some v=>wpAny (model prog w) A (letOwnedTupleGo target it v) (fun _ t1=>wpAny (model prog w) A (assign target env v) (fun _ t2=>
     wpAny (model prog w) A (forIn ifs true fun c r=>if r=true then do let okay ←isTrue c env (eval c env);pure (ForInStep.yield okay) else pure (ForInStep.yield r)) (fun okay t3=>
      if okay=true then wpAny (model prog w) A (eval elt env) (fun x t4=>
       wpAny (model prog w) A (call (.builtin "list.append") [acc,x]) (fun _ t5=>∃m,m<n∧Iv m t5) (fun _ _=>False) t4) (fun _ _=>False) t3
      else ∃m,m<n∧Iv m t3) (fun _ _=>False) t2) (fun _ _=>False) t1) (fun _ _=>False) t1) (fun _ _=>False) s)
  (n:Nat) (h:Iv n s) :
  codeAny (model prog w) A (.compLoop (.ListComp elt [⟨target,iter,ifs,0⟩] scope pos) 0 it acc env) R s:=by
 refine codeAny_loop rfl Iv (fun n s hIv=>?_) n h
 show wpAny (model prog w) A ((compTurn (.ListComp elt [⟨target,iter,ifs,0⟩] scope pos) 0 it acc env).onRaise (fun x=>do noteFrame x env;theTreesLotGoes x)) _ _ s
 refine wpAny_noted ?_
 rw[compTurn_list]
 refine aA1 (wpAny_standAt (aA1 (aH4 (each n s hIv) (fun r t1 g1=>?_) fun _ _ h'=>h'.elim)))
 cases r with
 | none=>exact aA9 g1
 | some v=>
  refine aA1 (aH4 g1 (fun _ t1' g1=>?_) fun _ _ h'=>h'.elim)
  refine aA1 (aH4 g1 (fun _ t2 g2=>aA1 (aH4 g2 (fun okay t3 g3=>?_) fun _ _ h'=>h'.elim)) fun _ _ h'=>h'.elim)
  cases okay with
  | false=>exact aA9 ⟨rfl,g3⟩
  | true=>
   exact aA1 (aA1 (aH4 g3 (fun x t4 g4=>aA1 (aH4 g4 (fun _ t5 g5=>aA9 (aA9 ⟨rfl,g5⟩)) fun _ _ h'=>h'.elim)) fun _ _ h'=>h'.elim))
end
section
variable{X:Cx}{own tl:List Str}{scope:Scope}{target elt:Expr}{ifs:List Expr}{g:TG}{tc:TT}{te:TE}
theorem b4l{pins:List (Addr×Obj)}{σ:St}{H:Hp}{s:Shared}{cl:List (Str×Addr)}{fp:List Addr}{h₁:Heap}{m:Str→Option Value}{os:St}{t':Nat}(ci:D5 X own tl scope target elt ifs g tc te)(I:Inv X pins σ H s)
  (c1:∀n c,cl.lookup n=some c→X.env.cells.lookup n=some c) (c2:∀y∈scope.names,y.2=.free→∃c,cl.lookup y.1=some c)
  (hf:∀b∈fp,Z3 X pins H b) (hfo:∀b∈fp,∃o,s.heap.get? b=some o) (hk:∀b o,s.heap.get? b=some o→h₁.get? b=some o) (hns:h₁.Ns s.heap.objs.size m) (hos:os=List.replicate own.length none) :
  Inv (U3 X own tl scope cl s.heap.objs.size s H fp) [] (os++σ) H { s with heap:=h₁,toks:=t' }:=by
 have lt:∀b∈fp,b<s.heap.objs.size:=fun b hb=>let ⟨o,e⟩:=hfo b hb;aB5 e
 have clt:∀n c,cl.lookup n=some c→c<s.heap.objs.size:=fun n c e=>by
  obtain⟨v,o,ho,_⟩:=I.cell n c (c1 n c e)
  exact aB5 ho
 have seen:∀x,(U3 X own tl scope cl s.heap.objs.size s H fp).env.kindOf x=some .cell∨(U3 X own tl scope cl s.heap.objs.size s H fp).env.kindOf x=some .free→scope.names.lookup x=some .free:=fun x hx=>by
  have nc:scope.names.lookup x≠some .cell:=fun z=>a0o ci.ok _ (aH2 z) rfl
  rcases hx with hx | hx
  ·rcases N4 (names:=scope.names) (x:=x) hx with z | ⟨_,z⟩
   ·exact absurd z nc
   ·exact z
  ·rcases N4 (names:=scope.names) (x:=x) hx with z | ⟨z,_⟩
   ·exact z
   ·cases z
 refine⟨⟨I.ok.mod,ci.kind,I.ok.glob,I.ok.blt,aB3 _,fun x y c e1 e2=>I.ok.inj x y c (c1 x c e1) (c1 y c e2),fun x hx=>?_,fun x c z=>(nomatch z),I.ok.hd,I.ok.frames,.inl rfl,fun b hb=>⟨aC8 (lt b hb),fun x c e=>(hf b hb).2.2.2.2.1 x c (c1 x c e)⟩,I.bs,
   aD8 I.ok.bsz I.sz,fun b o e hb=>?_,fun b hb hb'=>?_,I.stack,I.stkFree⟩,
  rfl,I.bare,Un.kept hk,⟨m,hns,fun i x v e1 e2 e3=>?_⟩,fun x c e=>?_,I.hok.fresh (aB3 _),fun x c e=>I.freeC x c (c1 x c e),fun p hp=>absurd (show p∈([]:List (Addr×Obj)) from hp) (by simp),I.hok.kept hk,?_⟩
 ·exact c2 _ (aH2 (seen x hx)) rfl
 ·rcases(hf b hb).2.2.2.1 with z | z
  ·exact I.ok.noex b o e z
  ·exact absurd (aE6 (aB5 (I.ok.bs b o e).1) z) (aI3 _)
 ·rcases aB9.mp (I.stkSub b hb') with z | z
  ·exact(hf b hb).2.1 z
  ·exact(hf b hb).2.2.1 z
 ·have hge:own.length≤i:=by
   rcases aP3 i own.length with z | z
   ·rw[hos,aE1 (by simpa using z),List.getElem?_replicate]at e2
    simp[z]at e2
   ·exact z
  have e1':tl[i-own.length]?=some x:=by
   have e1:(own++tl)[i]?=some x:=e1
   rwa [aE9 hge] at e1
  have e2':σ[i-own.length]?=some (some v):=by
   rw[hos,aE9 (by simpa using hge)]at e2
   simpa using e2
  obtain⟨n1,n2,n3⟩:=a1X ci.nm e1'
  have hfree:scope.names.lookup x=some .free:=by
   rcases e3 with z | z | z
   ·rcases N4 (names:=scope.names) (x:=x) z with z' | ⟨z',_⟩
    ·exact absurd z' n1
    ·cases z'
   ·exact seen x (.inl z)
   ·exact seen x (.inr z)
  have hXN:=n3 hfree
  have hout:=a0d ci.ok _ (aH2 hfree) rfl
  obtain⟨mX,hmX,hl⟩:=I.loc
  obtain⟨u,ru,lk⟩:=hl _ x v hXN e2' (hout.elim (fun z=>.inr (.inl z)) fun z=>.inr (.inr z))
  refine⟨u,ru,?_⟩
  obtain⟨c,hc⟩:=c2 _ (aH2 hfree) rfl
  have hin:(U3 X own tl scope cl s.heap.objs.size s H fp).env.kindOf x=some .cell∨(U3 X own tl scope cl s.heap.objs.size s H fp).env.kindOf x=some .free:=by
   rcases e3 with z | z | z
   ·rcases N4 (names:=scope.names) (x:=x) z with z' | ⟨z',_⟩
    ·exact absurd z' n1
    ·cases z'
   ·exact .inl z
   ·exact .inr z
  rcases lk with ⟨k,_⟩ | ⟨k,c',e,z⟩
  ·have k:X.env.scope.names.lookup x=some .local:=k
   rcases hout with q | q<;>(rw[k]at q;cases q)
  ·have hcc:c'=c:=by
    have:=c1 x c hc
    rw[e]at this
    exact aD1 this
   subst hcc
   exact .inr ⟨hin,c',hc,let ⟨o,ho,hd⟩:=z;⟨o,hk _ _ ho,hd⟩⟩
 ·obtain⟨v,o,ho,hd⟩:=I.cell x c (c1 x c e)
  exact⟨v,o,hk _ _ ho,hd⟩
 ·show(os++σ).length=(own++tl).length
  rw[hos,aA7,aA7,aR4,I.len,a6O ci.nm]
theorem a7M{pins:List (Addr×Obj)}{σ σ':St}{H H':Hp}{s s':Shared}{cl:List (Str×Addr)}{fp:List Addr}{h':Heap}(I:Inv X pins σ H s)(hf:∀b∈fp,Z3 X pins H b)
  (J:Inv (U3 X own tl scope cl s.heap.objs.size s H fp) [] σ' H' s') (hs:Heap.SameBut s.heap.objs.size s'.heap h'):Inv X pins σ H' { s' with heap:=h' }:=by
 refine I.call' (s':={ s' with heap:=h' }) (ch:=fp) J.os (J.base.off hs (aB3 _)) (fun b ob e=>?_) J.bare fun b hb=>⟨(hf b hb).2.2.2.1,(hf b hb).2.1,(hf b hb).2.2.2.2.1,(hf b hb).2.2.2.2.2⟩
 refine(J.hok b ob e).stay (fun c w' hc q=>(hs.2 c ?_).trans q) (fun _ q=>q) fun _ _ q=>q
 have hfree:H' s.heap.objs.size=none:=J.free
 rintro rfl
 rcases hc with rfl | hc
 ·rw[hfree]at e;cases e
 ·rw[hfree]at hc;cases hc
theorem a0B{pins:List (Addr×Obj)}{σ:St}{H2:Hp}{s2:Shared}{cl:List (Str×Addr)}{iter:Expr}{pos:Pos}{it:Addr}{fp:List Addr}{tn:Nat→Heap→Prop}{Jt:It}{Q:Addr→Hp→Prop}{RR:Value→Addr→Result→Shared→Prop}{E:Value→Shared→Prop}
  (ci:D5 X own tl scope target elt ifs g tc te) (hc:X.calm=true) (I2:Inv X pins σ H2 s2) (T:Turn X.prog X.w X.K target Jt fp it tn) (st2:tn 0 s2.heap) (f2:∀b∈fp,Z3 X pins H2 b)
  (c1:∀n c,cl.lookup n=some c→X.env.cells.lookup n=some c) (c2:∀y∈scope.names,y.2=.free→∃c,cl.lookup y.1=some c)
  (q:∀acc,H2 acc=none→a0z own.length g tc te Jt acc σ H2 (Q acc))
  (hRR:∀(acc C:Addr) (s3 s':Shared) (σ':St) (H':Hp) (m:Str→Option Value),C=s3.heap.objs.size→Inv X pins σ (upd H2 acc (.lst [])) s3→(∀b∈fp,Z3 X pins (upd H2 acc (.lst [])) b) →
   Inv (U3 X own tl scope cl s3.heap.objs.size s3 (upd H2 acc (.lst [])) fp) [] σ' H' s'→s'.heap.Ns C m→Q acc H'→RR (.ref acc) C (.ok .next) s') :
  wpAny (model X.prog X.w) X.A (newList []) (fun acc s₃=>wpAny (model X.prog X.w) X.A (newFunctionEnv scope X.env.globals cl [] X.env.qual none .none (some X.env)) (fun cenv s₄=>
   codeAny (model X.prog X.w) X.A (.compStart (.ListComp elt [⟨target,iter,ifs,0⟩] scope pos) 0 (.ref it) acc { cenv with scope:=relabel scope X.env }) (RR acc cenv.locals) s₄) E s₃) E s2:=by
 have I3:=I2.lnew (t':=s2.toks) (ys:=[]) (its:=[]) .nil (aG4 _)
 have hacc:H2 s2.heap.objs.size=none:=I2.fresh
 refine aI6 (wpAny_newFunctionEnv (a0o ci.ok) (by intro y hy;simp at hy) (fun h₁ hns₁ hsb₁=>?_) ci.kind)
 dsimp only at hns₁ hsb₁ ⊢
 generalize hs3:({ s2 with heap:=s2.heap.push { cls:=.type "list",dict:=none,data:=.seq ([]:List Value).toArray } }:Shared)=s3 at *
 have es3:s2.heap.push { cls:=.type "list",dict:=none,data:=.seq ([]:List Value).toArray }=s3.heap:=by rw[←hs3]
 rw[es3]at hns₁ hsb₁ ⊢
 have hk:∀b o,s3.heap.get? b=some o→h₁.get? b=some o:=fun b o e=>hsb₁.extBut b o (aC8 (aB5 e)) (aA6 _ e)
 have fpO:∀b∈fp,∃o,s2.heap.get? b=some o:=fun b hb=>let ⟨o,e,_⟩:=T.obj 0 _ st2 b hb;⟨o,e⟩
 have k23:∀b o,s2.heap.get? b=some o→s3.heap.get? b=some o:=fun b o e=>by rw[←es3];exact aA6 _ e
 have fpne:∀b∈fp,b≠s2.heap.objs.size:=fun b hb=>let ⟨o,e⟩:=fpO b hb;aC8 (aB5 e)
 have f3:∀b∈fp,Z3 X pins (upd H2 s2.heap.objs.size (.lst [])) b:=fun b hb=>⟨by rw[b7 (fpne b hb)];exact(f2 b hb).1,(f2 b hb).2⟩
 have st3:tn 0 h₁:=T.keep 0 s2.heap h₁ st2 fun b hb o e=>hk b o (k23 b o e)
 have f3o:∀b∈fp,∃o,s3.heap.get? b=some o:=fun b hb=>let ⟨o,e⟩:=fpO b hb;⟨o,k23 b o e⟩
 have I4:=b4l (t':=s3.toks) (os:=List.replicate own.length none) ci I3 c1 c2 f3 f3o hk hns₁ rfl
 generalize hX:U3 X own tl scope cl s3.heap.objs.size s3 (upd H2 s2.heap.objs.size (.lst [])) fp=XC at I4
 have env0:XC.env=compEnvC scope cl s3.heap.objs.size X.env:=by rw[←hX];rfl
 obtain⟨W,⟨m0,w0⟩,turn⟩:=q _ hacc
 have ltf:∀b∈fp,b≠s3.heap.objs.size:=fun b hb=>let ⟨o,e⟩:=f3o b hb;aC8 (aB5 e)
 have stat:∀{H':Hp},(∀b∈fp,H' b=none)→∀b∈fp,Z3 XC [] H' b:=fun hn b hb=>by
  subst hX
  refine⟨hn b hb,ltf b hb,fun z=>?_,.inl hb,fun x c e=>(f2 b hb).2.2.2.2.1 x c (c1 x c e),fun p hp=>absurd (show p∈([]:List (Addr×Obj)) from hp) (by simp)⟩
  rcases aB9.mp (I2.stkSub b z) with z | z
  ·exact(f2 b hb).2.1 z
  ·exact(f2 b hb).2.2.1 z
 have loop:∀s4:Shared,s4={ s3 with heap:=h₁,toks:=s3.toks } →
   codeAny (model X.prog X.w) X.A (.compLoop (.ListComp elt [⟨target,iter,ifs,0⟩] scope pos) 0 (.ref it) (.ref s2.heap.objs.size) (compEnvC scope cl s3.heap.objs.size X.env)) (RR (.ref s2.heap.objs.size) s3.heap.objs.size) s4:=by
  rintro s4 rfl
  have fr0:∀b∈fp,(upd H2 s2.heap.objs.size (.lst [])) b=none:=fun b hb=>(f3 b hb).1
  refine b1i (fun n s'=>∃(i:Nat) (os:St) (H':Hp),os.length=own.length∧Inv XC [] (os++σ) H' s'∧tn i s'.heap∧(∀b∈fp,H' b=none)∧W i n H') ?_ m0 ⟨0,_,_,aR4,I4,st3,fr0,w0⟩
  rintro n s5 ⟨i,os,H5,hos,I5,st5,fr5,w5⟩
  have eP:XC.prog=X.prog:=by rw[←hX];rfl
  have eW:XC.w=X.w:=by rw[←hX];rfl
  have eK:XC.K=X.K:=by rw[←hX];rfl
  have eA:XC.A=X.A:=by rw[←hX];rfl
  have eC:XC.calm=true:=by rw[←hX];exact hc
  rcases turn i n H5 w5 with ⟨stop,qn⟩ | ⟨go,N,hN,step⟩
  ·have done:=T.done XC eP eW eK eC i [] s5 (os++σ) H5 (fun _ _=>False) I5 (stat fr5) st5 stop
   rw[eA]at done
   refine m8 done fun r s6 ⟨hr,I6⟩=>?_
   subst hr
   obtain⟨mm,hmm,_⟩:=id I6.loc
   have hmm:s6.heap.Ns s3.heap.objs.size mm:=by rw[env0]at hmm;exact hmm
   subst hX
   exact hRR _ _ s3 s6 _ H5 mm rfl I3 f3 I6 hmm qn
  ·have item:=T.item XC eP eW eK eC i [] s5 (os++σ) H5 (fun _ _=>False) I5 (stat fr5) st5 go
   rw[eA]at item
   refine m8 item fun r s6 ⟨u,hr,h6⟩=>?_
   subst hr
   refine m8 h6 fun _ s7 ⟨x,H7,I7,r7,y7,st7,fr7⟩=>?_
   have I7':=I7.pinned (stat fr7) (T.obj _ _ st7)
   have tg:=ci.tg cl s3.heap.objs.size s3 (upd H2 s2.heap.objs.size (.lst [])) fp
   have ti:=ci.ti cl s3.heap.objs.size s3 (upd H2 s2.heap.objs.size (.lst [])) fp
   have te':=ci.te cl s3.heap.objs.size s3 (upd H2 s2.heap.objs.size (.lst [])) fp
   rw[hX]at tg ti te'
   have a7:=tg _ s7 (os++σ) H7 x u _ I7' r7 (step os x H7 hos y7)
   have again:∀{os8:St} {H8:Hp} {s8:Shared},os8.length=own.length→Inv XC ([]++a2p fp s7.heap) (os8++σ) H8 s8→N H8→∃m,m<n∧∃(i:Nat) (os:St) (H':Hp),os.length=own.length∧Inv XC [] (os++σ) H' s8∧tn i s8.heap∧(∀b∈fp,H' b=none)∧W i m H':=fun {os8 H8 s8} ho8 I8 n8=>by
    obtain⟨m',hm,w8⟩:=hN H8 n8
    refine⟨m',hm,i+1,os8,H8,ho8,I8.unpinned,T.keep _ _ _ st7 fun b hb o e=>(I8.pin (b,o) (aD7 _ (aD7 _ (a6a hb e)))).1,fun b hb=>?_,w8⟩
    obtain⟨o,e,d⟩:=T.obj _ _ st7 b hb
    exact(I8.pin (b,o) (aD7 _ (aD7 _ (a6a hb e)))).2.1
   have exc:XC.xe=fun _ _=>False:=by rw[←hX];rfl
   rw[eP,eW,eA,env0,exc]at a7
   refine m8 a7 fun _ s8 ⟨σ8,H8,I8,⟨os8,ho8,e8⟩,q8⟩=>?_
   subst e8
   have a8:=ti _ s8 (os8++σ) H8 _ I8 q8
   rw[eP,eW,eA,env0,exc]at a8
   refine m8 a8 fun b s9 ⟨H9,I9,q9⟩=>?_
   cases b with
   | false=>
    simp only[aI8,aP1]at q9 ⊢
    exact again ho8 I9 q9
   | true=>
    simp only[aQ5]at q9 ⊢
    have a9:=te' _ s9 (os8++σ) H9 _ I9 q9
    rw[eP,eW,eA,env0,exc]at a9
    refine m8 a9 fun y s10 ⟨yv,H10,I10,ry,ys,hys,hlen,qN⟩=>?_
    have a10:=o6 (X:=XC) _ s10 (os8++σ) H10 (.ref s2.heap.objs.size) [yv] (.ref s2.heap.objs.size) [y] (fun _ H'=>N H') I10 rfl (.cons ry .nil) ⟨_,ys,yv,rfl,rfl,hys,hlen,qN⟩
    rw[eP,eW,eA,exc]at a10
    exact m8 a10 fun _ s11 ⟨_,H11,I11,_,q11⟩=>again ho8 I11 q11
 have e34:({ s2 with heap:=h₁,toks:=s2.toks+([]:List (Str×Value)).length }:Shared)={ s3 with heap:=h₁,toks:=s3.toks }:=by rw[←hs3];rfl
 exact codeAny_compStart_list (loop _ e34) (T.self _ 0 _ _ _ st3 (loop _ e34))
end
open PySem PySem.Spec PyProof.Rows
section
variable{X:Cx}{own tl:List Str}{scope:Scope}{target elt iter:Expr}{ifs:List Expr}{g:TG}{tc:TT}{te:TE}{wi:TI}
theorem O8{pos:Pos}(hc:X.calm=true)(hi:PI X target iter wi)(ci:D5 X own tl scope target elt ifs g tc te)(hs:∀x,foldedSetIterable iter X.env x=pure x:=by intro _;rfl) :
  PE X (.ListComp elt [⟨target,iter,ifs,0⟩] scope pos) (b0r own.length wi g tc te):=by
 intro pins s σ H Q I h
 obtain⟨cl,hcl,c1,c2⟩:=a2t (scope:=scope) (env:=X.env) fun y hy z=>I.ok.has y.1 (a0d ci.ok y hy z)
 rw[eval_ListComp]
 refine wpAny_comprehension_free (use:=none) rfl hs hcl ci.kind (a7l ci.ok) (m8 (hi pins s σ H _ I h) fun xv s1 h1=>m8 h1 fun itv s2 h2=>?_)
 obtain⟨it,fp,tn,J,H2,rfl,I2,T,st2,f2,q⟩:=h2
 refine a0B (RR:=fun acc C=>compPost (model X.prog X.w) X.A X.xe none (EP X pins σ Q) acc C) (Q:=fun acc H'=>Q (.ref acc) H') ci hc I2 T st2 f2 c1 c2 q ?_
 intro acc C s3 s' σ' H' m hC I3 f3 IC hns hq
 subst hC
 exact⟨m,hns,fun h' hs'=>⟨.ref acc,H',a7M I3 f3 IC hs',rfl,hq⟩⟩
theorem a4b{i:Nat}{x:Str}{pos cpos pos':Pos}(hN:X.N.Nodup)(hi':X.N[i]?=some x)(hx:X.env.scope.names.lookup x=some .local)(hc:X.calm=true)(hi:PI X target iter wi)(ci:D5 X own tl scope target elt ifs g tc te)
  (hsw:swapsWith (.ListComp elt [⟨target,iter,ifs,0⟩] scope cpos) (some (.Name x pos')) pos.line X.env=pure true:=by rfl) (hs:∀x,foldedSetIterable iter X.env x=pure x:=by intro _;rfl) :
  PS X (.Assign [.Name x pos'] (.ListComp elt [⟨target,iter,ifs,0⟩] scope cpos) pos) (b7m (b0r own.length wi g tc te) (a8q i)):=by
 intro pins s σ H D I h
 obtain⟨cl,hcl,c1,c2⟩:=a2t (scope:=scope) (env:=X.env) fun y hy z=>I.ok.has y.1 (a0d ci.ok y hy z)
 rw[exec_Assign_Name_used _ _ _ _ hsw]
 refine aA1 (wpAny_standAt (aA1 ?_))
 show wpAny _ _ (do let _ ←comprehension (.ListComp elt [⟨target,iter,ifs,0⟩] scope cpos) scope X.env _ (newList []) false (eval iter X.env) (some (assign (.Name x pos') X.env))) _ _ s
 refine aA1 (aH4 (wpAny_comprehension_free (use:=some (assign (.Name x pos') X.env)) (Q:=fun _ s'=>SP X pins D .next s') rfl hs hcl ci.kind (a7l ci.ok)
  (m8 (hi pins s σ H _ I h) fun xv s1 h1=>m8 h1 fun itv s2 h2=>?_)) (fun _ s' hq=>aA9 (aA9 hq)) fun _ _ e=>e)
 obtain⟨it,fp,tn,J,H2,rfl,I2,T,st2,f2,q⟩:=h2
 refine a0B (RR:=fun acc C=>compPost (model X.prog X.w) X.A X.xe (some (assign (.Name x pos') X.env)) (fun _ s'=>SP X pins D .next s') acc C) (Q:=fun acc H'=>D.nx (σ.set i (some (.ref acc))) H') ci hc I2 T st2 f2 c1 c2 q ?_
 intro acc C s3 s' σ' H' m hC I3 f3 IC hns hq
 subst hC
 have I':Inv X pins σ H' s':=a7M I3 f3 IC ⟨rfl,fun _ _=>rfl⟩
 have hL:s3.heap.objs.size≠X.env.locals:=aJ4 I3.lt
 have hCe:∀y c,X.env.cells.lookup y=some c→c≠s3.heap.objs.size:=fun y c e=>by
  obtain⟨v,o,ho,_⟩:=I3.cell y c e
  exact aC8 (aB5 ho)
 show wpAny _ _ (assign (.Name x pos') X.env (.ref acc)) _ _ s'
 refine wpAny_assign_Name (a9G I' hN hi' (.inl hx) (v:=.ref acc) rfl (fun s'' I'' ⟨a,hsb,ha⟩=>?_) (.inr hx))
 have hne:s3.heap.objs.size≠a:=by
  rcases ha with e | e
  ·rw[e];exact hL
  ·exact Ne.symm (hCe x a e)
 refine⟨m,hns.sameBut hsb hne,fun h' hs'=>?_⟩
 refine⟨σ.set i (some (.ref acc)),H',I''.turned (t':=s''.toks) (it:=s3.heap.objs.size) (fun b o hb e=>(hs'.2 b hb).trans e) IC.free hL (.inr I3.sz) hCe (fun p hp z=>?_),hq⟩
 exact absurd (aB5 (I3.pin p hp).1) (by rw[z];exact aI3 _)
end
theorem C0{K:PySem.W.Frag}{a acc:Addr}{xs:List V}{tc:TT}{te:TE}{σ:St}{H1:Hp}{Q:Hp→Prop}(Pv:Nat→Hp→Prop)(h0:Pv 0 (upd H1 acc (.lst [])))(hl:∀i H,i≤xs.length→Pv i H→d7 K H a xs)
  (hs:∀i x H,xs[i]?=some x→Pv i H→tc (some x::σ) H fun b H3=>if b=true then te (some x::σ) H3 fun y H4=>∃ys,H4 acc=some (.lst ys)∧ys.length<sizeLine∧Pv (i+1) (upd H4 acc (.lst (ys++[y]))) else Pv (i+1) H3)
  (hd:∀H,Pv xs.length H→Q H):a0z 1 (a8q 0) tc te (Itl K a) acc σ H1 Q:=by
 refine⟨fun i m H=>i≤xs.length∧m=xs.length-i∧Pv i H,⟨_,aG4 _,rfl,h0⟩,fun i m H ⟨hi,hm,hp⟩=>?_⟩
 rcases aP3 i xs.length with lt | ge
 ·refine .inr ⟨⟨xs,xs[i],hl i H hi hp,List.getElem?_eq_getElem lt⟩,Pv (i+1),fun H' h'=>⟨xs.length-(i+1),by omega,by omega,rfl,h'⟩,fun os x H' ho hy=>?_⟩
  obtain⟨rfl,hy⟩:=hy
  have hx:=hy xs (hl i _ hi hp)
  obtain⟨o,rfl⟩:∃o,os=[o]:=by
   match os,ho with
   | [o],_=>exact⟨o,rfl⟩
  exact⟨⟨[some x],rfl,rfl⟩,hs i x H' hx hp⟩
 ·have e:i=xs.length:=by omega
  subst e
  exact .inl ⟨⟨xs,hl _ H (aB3 _) hp,aB3 _⟩,hd H hp⟩
theorem b7a{lo:Int}{n:Nat}{acc:Addr}{tc:TT}{te:TE}{σ:St}{H1:Hp}{Q:Hp→Prop}(Pv:Nat→Hp→Prop)(h0:Pv 0 (upd H1 acc (.lst [])))
  (hs:∀i H,i<n→Pv i H→tc (some (.int (lo+i))::σ) H fun b H3=>if b=true then te (some (.int (lo+i))::σ) H3 fun y H4=>∃ys,H4 acc=some (.lst ys)∧ys.length<sizeLine∧Pv (i+1) (upd H4 acc (.lst (ys++[y]))) else Pv (i+1) H3)
  (hd:∀H,Pv n H→Q H):a0z 1 (a8q 0) tc te (Itr lo n) acc σ H1 Q:=by
 refine⟨fun i m H=>i≤n∧m=n-i∧Pv i H,⟨_,aG4 _,rfl,h0⟩,fun i m H ⟨hi,hm,hp⟩=>?_⟩
 rcases aP3 i n with lt | ge
 ·refine .inr ⟨lt,Pv (i+1),fun H' h'=>⟨n-(i+1),by omega,by omega,rfl,h'⟩,fun os x H' ho hy=>?_⟩
  obtain⟨rfl,rfl⟩:=hy
  obtain⟨o,rfl⟩:∃o,os=[o]:=by
   match os,ho with
   | [o],_=>exact⟨o,rfl⟩
  exact⟨⟨[_],rfl,rfl⟩,hs i H' lt hp⟩
 ·have e:i=n:=by omega
  subst e
  exact .inl ⟨aB3 _,hd H hp⟩
open PySem PySem.Spec PyProof.Rows
def b0D(t:TS):TS:=fun D σ H=>∃M:St→Hp→Prop,t { D with nx:=M } σ H∧∀σ' H',M σ' H'→D.nx σ' H'
theorem L1{X:Cx}{st:Stmt}{t:TS}(h:PS X st t):PS X st (b0D t):=by
 intro pins s σ H D I ⟨M,ht,hM⟩
 refine m8 (h pins s σ H { D with nx:=M } I ht) fun f s' q=>?_
 cases f with
 | next=>obtain⟨σ',H',I',q⟩:=q;exact⟨σ',H',I',hM σ' H' q⟩
 | brk=>exact q
 | cont=>exact q
 | ret u=>exact q
open PySem PySem.Spec PyProof.Rows
mutual
def Rep(K:PySem.W.Frag)(H:Hp):PyData→V→Prop
 | .none,v=>v=.non
 | .bool b,v=>v=.bl b
 | .int i,v=>v=.int i
 | .str x,v=>v=.str x
 | .list ds,v=>∃a xs,v=.ref a∧d7 K H a xs∧p7 K H ds xs
 | .tuple ds,v=>∃a xs,v=.ref a∧i5 K H a xs∧p7 K H ds xs
 | .dict _,_=>False
def p7(K:PySem.W.Frag)(H:Hp):List PyData→List V→Prop
 | [],xs=>xs=[]
 | d::ds,xs=>∃y ys,xs=y::ys∧Rep K H d y∧p7 K H ds ys
end
mutual
theorem K9{X:Cx}{pins:List (Addr×Obj)}{σ:St}{H:Hp}{s:Shared}(I:Inv X pins σ H s):∀(d:PyData) {v:V} {u:Value},Rep X.K H d v→RelV v u→∃as,Reads s.heap u d as
 | .none,v,u,r,e=>by unfold Rep at r;subst r;cases e;exact⟨_,.none⟩
 | .bool b,v,u,r,e=>by unfold Rep at r;subst r;cases e;exact⟨_,.bool b⟩
 | .int i,v,u,r,e=>by unfold Rep at r;subst r;obtain⟨t,rfl⟩:=(show ∃t,u=Value.int i t from e);exact⟨_,.int i t⟩
 | .str x,v,u,r,e=>by unfold Rep at r;subst r;obtain⟨t,rfl⟩:=(show ∃t,u=Value.str x t from e);exact⟨_,.str x t⟩
 | .list ds,v,u,r,e=>by
  unfold Rep at r
  obtain⟨a,xs,rfl,hq,rs⟩:=r
  cases (show u=Value.ref a from e)
  obtain⟨its,rv,p,hz⟩:=I.list hq
  obtain⟨as,ra⟩:=a8e I ds rs rv
  obtain⟨o,h1,h2,n,h3⟩:=p.isList
  exact⟨_,.list h1 h2 h3 (by simpa using ra)⟩
 | .tuple ds,v,u,r,e=>by
  unfold Rep at r
  obtain⟨a,xs,rfl,hq,rs⟩:=r
  cases (show u=Value.ref a from e)
  obtain⟨its,rv,p,hz⟩:=I.tuple hq
  obtain⟨as,ra⟩:=a8e I ds rs rv
  obtain⟨o,h1,h2,n,h3⟩:=(show s.heap.IsTuple a its.toArray from p)
  exact⟨_,.tuple h1 h2 h3 (by simpa using ra)⟩
 | .dict _,v,u,r,e=>by unfold Rep at r;exact r.elim
theorem a8e{X:Cx}{pins:List (Addr×Obj)}{σ:St}{H:Hp}{s:Shared}(I:Inv X pins σ H s):∀(ds:List PyData) {xs:List V} {us:List Value},p7 X.K H ds xs→j4 xs us→∃as,ReadsAll s.heap us ds as
 | [],xs,us,r,e=>by unfold p7 at r;subst r;cases e;exact⟨_,.nil⟩
 | d::ds,xs,us,r,e=>by
  unfold p7 at r
  obtain⟨y,ys,rfl,r1,r2⟩:=r
  cases e with
  | cons e1 e2=>
   obtain⟨as,h1⟩:=K9 I d r1 e1
   obtain⟨bs,h2⟩:=a8e I ds r2 e2
   exact⟨_,.cons h1 h2⟩
end
theorem Rd.same{H H':Hp}{a:Addr}{u:HO}(e:g6 H H')(h:Rd H a u):Rd H' a u:=h.elim (fun z=>.inl (e _ _ z)) fun⟨o,z⟩=>.inr ⟨o,e _ _ z⟩
theorem d7.same{K:PySem.W.Frag}{H H':Hp}{a:Addr}{xs:List V}(e:g6 H H')(h:d7 K H a xs):d7 K H' a xs:=h.elim (fun z=>.inl (z.same e)) .inr
theorem i5.same{K:PySem.W.Frag}{H H':Hp}{a:Addr}{xs:List V}(e:g6 H H')(h:i5 K H a xs):i5 K H' a xs:=h.elim (fun z=>.inl (z.same e)) .inr
mutual
theorem Rep.same{K:PySem.W.Frag}{H H':Hp}(e:g6 H H'):∀{d:PyData} {v:V},Rep K H d v→Rep K H' d v
 | .none,v,r=>by unfold Rep at r ⊢;exact r
 | .bool b,v,r=>by unfold Rep at r ⊢;exact r
 | .int i,v,r=>by unfold Rep at r ⊢;exact r
 | .str x,v,r=>by unfold Rep at r ⊢;exact r
 | .list ds,v,r=>by unfold Rep at r ⊢;obtain⟨a,xs,e1,hq,rs⟩:=r;exact⟨a,xs,e1,hq.same e,p7.same e rs⟩
 | .tuple ds,v,r=>by unfold Rep at r ⊢;obtain⟨a,xs,e1,hq,rs⟩:=r;exact⟨a,xs,e1,hq.same e,p7.same e rs⟩
 | .dict _,v,r=>by unfold Rep at r;exact r.elim
theorem p7.same{K:PySem.W.Frag}{H H':Hp}(e:g6 H H'):∀{ds:List PyData} {xs:List V},p7 K H ds xs→p7 K H' ds xs
 | [],xs,r=>by unfold p7 at r ⊢;exact r
 | d::ds,xs,r=>by unfold p7 at r ⊢;obtain⟨y,ys,e1,r1,r2⟩:=r;exact⟨y,ys,e1,Rep.same e r1,p7.same e r2⟩
end
def u0(H H':Hp):Prop:=(∀b xs,H b=some (.tup xs)→H' b=some (.tup xs))∧∀b o xs,H b=some (.frz o (.tup xs))→H' b=some (.frz o (.tup xs))
theorem g6.tupK{H H':Hp}(e:g6 H H'):u0 H H':=⟨fun b xs h=>e b _ h,fun b o xs h=>e b _ h⟩
theorem u0.refl(H:Hp):u0 H H:=⟨fun _ _ h=>h,fun _ _ _ h=>h⟩
theorem u0.trans{H H1 H2:Hp}(a:u0 H H1)(b:u0 H1 H2):u0 H H2:=⟨fun c xs h=>b.1 c xs (a.1 c xs h),fun c o xs h=>b.2 c o xs (a.2 c o xs h)⟩
theorem a8Q{H:Hp}{a:Addr}{o:HO}(h:H a=none∨∃xs,H a=some (.lst xs)):u0 H (upd H a o):=by
 have ne:∀b u,H b=some u→(∀xs,u≠.lst xs)→b≠a:=fun b u e hn z=>by
  subst z
  rcases h with q | ⟨xs,q⟩
  ·rw[q]at e;cases e
  ·rw[q]at e;exact hn xs (aD1 e).symm
 exact⟨fun b xs e=>by rw[b7 (ne b _ e fun _ z=>nomatch z)];exact e,fun b o' xs e=>by rw[b7 (ne b _ e fun _ z=>nomatch z)];exact e⟩
theorem F9{H:Hp}{a:Addr}{o:HO}(h:H a=none):u0 H (upd H a o):=a8Q (.inl h)
theorem p9{H:Hp}{a:Addr}{o:HO}{xs:List V}(h:H a=some (.lst xs)):u0 H (upd H a o):=a8Q (.inr ⟨xs,h⟩)
theorem b9{H:Hp}{p:Addr}{o:HO}(h:H p=none):g6 H (upd H p o):=fun b u q=>by rw[b7 (d6 q h)];exact q
mutual
def fixed:PyData→Bool
 | .none | .bool _ | .int _ | .str _=>true
 | .list _=>false
 | .tuple ds=>b2g ds
 | .dict _=>false
def b2g:List PyData→Bool
 | []=>true
 | d::ds=>fixed d&&b2g ds
end
theorem p7.len{K:PySem.W.Frag}{H:Hp}:∀{ds:List PyData} {xs:List V},p7 K H ds xs→ds.length=xs.length
 | [],xs,r=>by unfold p7 at r;subst r;rfl
 | d::ds,xs,r=>by unfold p7 at r;obtain⟨y,ys,rfl,r1,r2⟩:=r;simp[p7.len r2]
theorem p7.at{K:PySem.W.Frag}{H:Hp}:∀{ds:List PyData} {xs:List V} {i:Nat} {d:PyData},p7 K H ds xs→ds[i]?=some d→∃x,xs[i]?=some x∧Rep K H d x
 | [],xs,i,d,r,e=>by simp at e
 | d::ds,xs,0,e,r,q=>by unfold p7 at r;obtain⟨y,ys,rfl,r1,r2⟩:=r;simp at q;subst q;exact⟨y,rfl,r1⟩
 | d::ds,xs,i+1,e,r,q=>by unfold p7 at r;obtain⟨y,ys,rfl,r1,r2⟩:=r;obtain⟨x,h1,h2⟩:=p7.at (i:=i) r2 (by simpa using q);exact⟨x,by simpa using h1,h2⟩
theorem p7.at'{K:PySem.W.Frag}{H:Hp}:∀{ds:List PyData} {xs:List V} {i:Nat} {x:V},p7 K H ds xs→xs[i]?=some x→∃d,ds[i]?=some d∧Rep K H d x
 | [],xs,i,x,r,e=>by unfold p7 at r;subst r;simp at e
 | d::ds,xs,0,e,r,q=>by unfold p7 at r;obtain⟨y,ys,rfl,r1,r2⟩:=r;simp at q;subst q;exact⟨d,rfl,r1⟩
 | d::ds,xs,i+1,e,r,q=>by unfold p7 at r;obtain⟨y,ys,rfl,r1,r2⟩:=r;obtain⟨x,h1,h2⟩:=p7.at' (i:=i) r2 (by simpa using q);exact⟨x,by simpa using h1,h2⟩
mutual
def v7:PyData→Bool
 | .none | .int _ | .str _=>true
 | .bool _=>false
 | .list ds=>A5 ds
 | .tuple ds=>A5 ds
 | .dict _=>false
def A5:List PyData→Bool
 | []=>true
 | d::ds=>v7 d&&A5 ds
end
mutual
theorem b6g:∀(d e:PyData),v7 d=true→v7 e=true→PyData.eqv d e=true→d=e
 | .none,e,_,he,h=>by cases e<;>simp_all [PyData.eqv]
 | .int i,e,_,he,h=>by cases e<;>simp_all [PyData.eqv,v7]
 | .str i,e,_,he,h=>by cases e<;>simp_all [PyData.eqv,v7]
 | .bool b,e,hd,_,_=>by simp[v7]at hd
 | .dict _,e,hd,_,_=>by simp[v7]at hd
 | .list ds,e,hd,he,h=>by
  cases e with
  | list es=>
   unfold v7 at hd he
   unfold PyData.eqv at h
   rw[a9D ds es hd he h]
  | _=>simp[PyData.eqv]at h
 | .tuple ds,e,hd,he,h=>by
  cases e with
  | tuple es=>
   unfold v7 at hd he
   unfold PyData.eqv at h
   rw[a9D ds es hd he h]
  | _=>simp[PyData.eqv]at h
theorem a9D:∀(ds es:List PyData),A5 ds=true→A5 es=true→PyData.eqvAll ds es=true→ds=es
 | [],[],_,_,_=>rfl
 | [],_::_,_,_,h=>by simp[PyData.eqvAll]at h
 | _::_,[],_,_,h=>by simp[PyData.eqvAll]at h
 | d::ds,e::es,hd,he,h=>by
  unfold A5 at hd he
  unfold PyData.eqvAll at h
  rw[aF2]at hd he h
  rw[b6g d e hd.1 he.1 h.1,a9D ds es hd.2 he.2 h.2]
end
mutual
theorem a1x:∀(d:PyData),v7 d=true→PyData.eqv d d=true
 | .none,_=>by simp[PyData.eqv]
 | .int i,_=>by simp[PyData.eqv]
 | .str i,_=>by simp[PyData.eqv]
 | .bool b,hd=>by simp[v7]at hd
 | .dict _,hd=>by simp[v7]at hd
 | .list ds,hd=>by unfold v7 at hd;unfold PyData.eqv;exact a0p ds hd
 | .tuple ds,hd=>by unfold v7 at hd;unfold PyData.eqv;exact a0p ds hd
theorem a0p:∀(ds:List PyData),A5 ds=true→PyData.eqvAll ds ds=true
 | [],_=>by simp[PyData.eqvAll]
 | d::ds,hd=>by
  unfold A5 at hd
  rw[aF2]at hd
  unfold PyData.eqvAll
  rw[aF2]
  exact⟨a1x d hd.1,a0p ds hd.2⟩
end
def b0x(K:PySem.W.Frag)(neg:Bool):R2:=fun x y H Q=>∃d e,Rep K H d x∧Rep K H e y∧d.canLay0=true∧e.canLay0=true∧d.depth≤60∧Q (.bl (if neg then !PyData.eqv d e else PyData.eqv d e)) H
def b9x(K:PySem.W.Frag)(neg:Bool):R2:=fun x y H Q=>∃d p xs ds,Rep K H d x∧y=.ref p∧(d7 K H p xs∨i5 K H p xs)∧p7 K H ds xs∧d.canLay0=true∧PyData.canLayAll0 ds=true∧d.depth≤60 ∧
 Q (.bl (if neg then !(ds.any fun e=>PyData.eqv e d) else ds.any fun e=>PyData.eqv e d)) H
section
variable{X:Cx}
theorem b7w(hu:X.A.units+64<cLine):G5 X (compareOp .Eq) (b0x X.K false):=by
 intro pins s σ H x y v u Q I rx ry h
 obtain⟨d,e,rd,re,hd,he,hz,q⟩:=h
 obtain⟨as,r1⟩:=K9 I d rd rx
 obtain⟨bs,r2⟩:=K9 I e re ry
 exact PySem.SeqAt.compareEq_reads r1 r2 hd he (by omega) (p6 I q rfl)
theorem a9p(hu:X.A.units+64<cLine):G5 X (compareOp .NotEq) (b0x X.K true):=by
 intro pins s σ H x y v u Q I rx ry h
 obtain⟨d,e,rd,re,hd,he,hz,q⟩:=h
 obtain⟨as,r1⟩:=K9 I d rd rx
 obtain⟨bs,r2⟩:=K9 I e re ry
 exact PySem.SeqAt.compareNe_reads r1 r2 hd he (by omega) (p6 I q rfl)
theorem b3F(hu:X.A.units+64<cLine):G5 X (compareOp .In) (b9x X.K false):=by
 intro pins s σ H x y v u Q I rx ry h
 obtain⟨d,p,xs,ds,rd,rfl,hq,rs,hd,hds,hz,q⟩:=h
 obtain⟨as,r1⟩:=K9 I d rd rx
 rcases hq with hq | hq
 ·obtain⟨bs,r2⟩:=K9 I (.list ds) (show Rep X.K H (.list ds) (.ref p) from by unfold Rep;exact⟨p,xs,rfl,hq,rs⟩) ry
  exact PySem.SeqAt.in_list_reads r2 r1 hds hd (by omega) (p6 I q rfl)
 ·obtain⟨bs,r2⟩:=K9 I (.tuple ds) (show Rep X.K H (.tuple ds) (.ref p) from by unfold Rep;exact⟨p,xs,rfl,hq,rs⟩) ry
  exact PySem.SeqAt.in_tuple_reads r2 r1 hds hd (by omega) (p6 I q rfl)
theorem b3f(hu:X.A.units+64<cLine):G5 X (compareOp .NotIn) (b9x X.K true):=by
 intro pins s σ H x y v u Q I rx ry h
 obtain⟨d,p,xs,ds,rd,rfl,hq,rs,hd,hds,hz,q⟩:=h
 obtain⟨as,r1⟩:=K9 I d rd rx
 rcases hq with hq | hq
 ·obtain⟨bs,r2⟩:=K9 I (.list ds) (show Rep X.K H (.list ds) (.ref p) from by unfold Rep;exact⟨p,xs,rfl,hq,rs⟩) ry
  exact PySem.SeqAt.notIn_list_reads r2 r1 hds hd (by omega) (p6 I q rfl)
 ·obtain⟨bs,r2⟩:=K9 I (.tuple ds) (show Rep X.K H (.tuple ds) (.ref p) from by unfold Rep;exact⟨p,xs,rfl,hq,rs⟩) ry
  exact PySem.SeqAt.notIn_tuple_reads r2 r1 hds hd (by omega) (p6 I q rfl)
end
def TyV(K:PySem.W.Frag)(H:Hp)(x:V)(T:String):Prop:=match x with
 | .non=>T="NoneType"
 | .bl _=>T="bool"
 | .int _=>T="int"
 | .str _=>T="str"
 | .ref a=>(T="list"∧∃xs,d7 K H a xs)∨(T="tuple"∧∃xs,i5 K H a xs)∨(T="dict"∧∃kvs,H a=some (.dK kvs))
 | _=>False
def tyD:PyData→String
 | .none=>"NoneType"
 | .bool _=>"bool"
 | .int _=>"int"
 | .str _=>"str"
 | .list _=>"list"
 | .tuple _=>"tuple"
 | .dict _=>"dict"
theorem Rep.ty{K:PySem.W.Frag}{H:Hp}{d:PyData}{x:V}(r:Rep K H d x):TyV K H x (tyD d):=by
 cases d with
 | none=>unfold Rep at r;subst r;rfl
 | bool b=>unfold Rep at r;subst r;rfl
 | int i=>unfold Rep at r;subst r;rfl
 | str y=>unfold Rep at r;subst r;rfl
 | list ds=>unfold Rep at r;obtain⟨a,xs,rfl,hq,_⟩:=r;exact .inl ⟨rfl,xs,hq⟩
 | tuple ds=>unfold Rep at r;obtain⟨a,xs,rfl,hq,_⟩:=r;exact .inr (.inl ⟨rfl,xs,hq⟩)
 | dict _=>unfold Rep at r;exact r.elim
def a9a(T c:String):Bool:=T==c||(T=="bool"&&c=="int")
def tys:List String:=["NoneType","bool","int","str","list","tuple","dict"]
def a1u:List String:=["int","bool","str","list","tuple"]
theorem a0D(K:PySem.W.Frag):∀T∈tys,∀c∈a1u,PySem.W.kitOne K (.type T) (.type c)=some (a9a T c):=by
 intro T hT c hc
 simp only[tys,aB9,aG0,aL6]at hT
 simp only[a1u,aB9,aG0,aL6]at hc
 rcases hT with rfl | rfl | rfl | rfl | rfl | rfl | rfl<;>rcases hc with rfl | rfl | rfl | rfl | rfl<;>first | rfl | with_unfolding_all rfl
inductive b6D(K:PySem.W.Frag)(xs:List V)(H:Hp)(Q:VK):Prop
 | mk (x:V) (T c:String) (e:xs=[x,.ty c]) (t:TyV K H x T) (m:c∈a1u) (q:Q (.bl (a9a T c)) H)
section
variable{X:Cx}{pins:List (Addr×Obj)}{σ:St}{H:Hp}{s:Shared}
theorem TyV.mem{K:PySem.W.Frag}{x:V}{T:String}(t:TyV K H x T):T∈tys:=by
 cases x<;>simp only[TyV]at t
 case ref a=>rcases t with ⟨rfl,_⟩ | ⟨rfl,_⟩ | ⟨rfl,_⟩<;>decide
 all_goals first | (subst t;decide) | exact t.elim
theorem a6V(I:Inv X pins σ H s){x:V}{u:Value}{T:String}(rx:RelV x u)(t:TyV X.K H x T):∃φ:Heap→Prop,PySem.W.KitX X.K u (.type T) φ∧φ s.heap∧u≠.builtin "__main__.__loader__#opaque":=by
 cases x<;>simp only[TyV]at t
 case non=>subst t;cases (show u=Value.none from rx);exact⟨_,PySem.W.kitx_none,True.intro,fun z=>nomatch z⟩
 case bl b=>subst t;cases (show u=Value.bool b from rx);exact⟨_,PySem.W.kitx_bool,True.intro,fun z=>nomatch z⟩
 case int i=>subst t;obtain⟨k,rfl⟩:=(show ∃k,u=Value.int i k from rx);exact⟨_,PySem.W.kitx_int,True.intro,fun z=>nomatch z⟩
 case str i=>subst t;obtain⟨k,rfl⟩:=(show ∃k,u=Value.str i k from rx);exact⟨_,PySem.W.kitx_str,True.intro,fun z=>nomatch z⟩
 case ref a=>
  cases (show u=Value.ref a from rx)
  rcases t with ⟨rfl,xs,hq⟩ | ⟨rfl,xs,hq⟩ | ⟨rfl,kvs,hq⟩
  ·obtain⟨its,rv,p,hz⟩:=I.list hq
   obtain⟨o,h1,h2,_⟩:=p.isList
   exact⟨_,PySem.W.kitx_list,⟨o,h1,h2⟩,fun z=>nomatch z⟩
  ·obtain⟨its,rv,p,hz⟩:=I.tuple hq
   obtain⟨o,h1,h2,_⟩:=p
   exact⟨_,PySem.W.kitx_tuple,⟨o,h1,h2⟩,fun z=>nomatch z⟩
  ·obtain⟨_,_,vs,_,p⟩:=(show A6 X.prog X.w H s.heap a (.dK kvs) from I.hok a _ hq)
   obtain⟨o,es,ep,h1,h2,_⟩:=p
   exact⟨_,PySem.W.kitx_dict,⟨o,h1,h2.1⟩,fun z=>nomatch z⟩
 all_goals exact t.elim
theorem u4:L6 X (.builtin "isinstance") (b6D X.K):=by
 intro pins s σ H xs us Q I r h
 obtain⟨x,T,c,rfl,ty,hc,q⟩:=h
 obtain⟨u,v,rfl,ru,rv⟩:=vals2 r
 cases (show v=Value.type c from rv)
 obtain⟨φ,Z,p,ne⟩:=a6V I ru ty
 exact PySem.W.kia_one Z I.kIn p (a0D X.K T ty.mem c hc) ne fun tk=>p6 (I.tok tk) q rfl
theorem b9o(K:PySem.W.Frag){T c d:String}(hT:T∈tys)(hc:c∈a1u)(hd:d∈a1u):PySem.W.kitAny K (.type T) [.type c,.type d]=some (a9a T c||a9a T d):=by
 unfold PySem.W.kitAny
 rw[a0D K T hT c hc]
 cases a9a T c with
 | true=>rfl
 | false=>
  show PySem.W.kitAny K (.type T) [.type d]=_
  unfold PySem.W.kitAny
  rw[a0D K T hT d hd]
  cases a9a T d<;>rfl
theorem a4n:L6 X (.builtin "isinstance") (fun xs H Q=>∃x T c d p,xs=[x,.ref p]∧H p=some (.tup [.ty c,.ty d])∧TyV X.K H x T∧c∈a1u∧d∈a1u∧Q (.bl (a9a T c||a9a T d)) H):=by
 intro pins s σ H xs us Q I r h
 obtain⟨x,T,c,d,tp,rfl,hp,ty,hc,hd,q⟩:=h
 obtain⟨u,v,rfl,ru,rv⟩:=vals2 r
 cases (show v=Value.ref tp from rv)
 obtain⟨φ,Z,p,ne⟩:=a6V I ru ty
 obtain⟨its,rvs,ht,hz⟩:=I.tuple (i5.of hp)
 obtain⟨⟨cls,dd,data,sl⟩,h1,h2,n,h3⟩:=(show s.heap.IsTuple tp its.toArray from ht)
 simp only at h2 h3
 subst h2 h3
 have e:its=[.type c,.type d]:=by
  cases rvs with
  | cons a b=>
   cases b with
   | cons a' b'=>
    cases b'
    rw[show _=Value.type c from a,show _=Value.type d from a']
 subst e
 exact PySem.W.kia_tup Z I.kIn p h1 (b9o X.K ty.mem hc hd) ne fun tk=>p6 (I.tok tk) q rfl
end
open PySem PySem.Spec PyProof.Rows
section
variable{X:Cx}{own tl:List Str}{scope:Scope}{cl:List (Str×Addr)}{C:Addr}{s₀:Shared}{H₀:Hp}{ex:List Addr}
theorem a1O:IxR (U3 X own tl scope cl C s₀ H₀ ex) (b1o X.K):=l7
theorem O3:IxR (U3 X own tl scope cl C s₀ H₀ ex) (b1n X.K):=i3
theorem a2l:G5 (U3 X own tl scope cl C s₀ H₀ ex) (compareOp .In) (rIn X.K false):=a2e
end
end L2
namespace Srt
open PySem PyProof.Rows
structure Sortable(prog:Program)(w:World)(h:Heap)(vs:List Value)(O:KeyOrd)(key:Keyed→O.α):Prop where
 tx:∀v∈vs,∃x t,v=.str x t
 short:vs.length<64
 ord:∀(x y:Str) (t u:Tok),decide (y.cps.toList<x.cps.toList)=false→O.kle (key (.str x t,.str x t)) (key (.str y u,.str y u))
theorem outs{prog:Program}{w:World}{h:Heap}{vs:List Value}{O:KeyOrd}{key:Keyed→O.α}(S:Sortable prog w h vs O key){xs:Array Keyed}(hp:xs.Perm (pairsOf vs))(hs:SortedToK strKind xs (pairsOf vs).size) :
  (xs.toList.map (·.2)).Perm vs∧(xs.toList.map (·.2)).Pairwise (fun x y=>O.kle (key (x,x)) (key (y,y))):=by
 have hl:xs.toList.Perm (vs.zip vs):=by rw[←pairsOf_toList];exact Array.perm_iff_toList_perm.mp hp
 have hm:∀p∈xs.toList,p.1=p.2∧p.1∈vs:=fun p h'=>mem_zip_self (hl.mem_iff.mp h')
 refine⟨?_,?_⟩
 ·have:=hl.map (·.2)
  rwa [show(vs.zip vs).map (·.2)=vs from List.map_snd_zip (aB3 _)] at this
 ·rw[aP9,List.pairwise_iff_getElem]
  intro i j hi hj hij
  have hi':i<xs.size:=by simpa using hi
  have hj':j<xs.size:=by simpa using hj
  have h1:=hs i j (aM8 hij) (by rw[←hp.size_eq];exact hj')
  obtain⟨a1,a2⟩:=hm xs[i] (by simp)
  obtain⟨b1,b2⟩:=hm xs[j] (by simp)
  obtain⟨x,t,ex⟩:=S.tx _ a2
  obtain⟨y,u,ey⟩:=S.tx _ b2
  rw[KK_str hi' (x:=x) (t:=t) (q:=xs[i].2) (Prod.ext ex rfl),KK_str hj' (x:=y) (t:=u) (q:=xs[j].2) (Prod.ext ey rfl)] at h1
  rw[Array.getElem_toList,Array.getElem_toList,←a1,←b1,ex,ey]
  exact S.ord x y t u h1
theorem arr2(xs:Array Keyed):xs.map (·.2)=(xs.toList.map (·.2)).toArray:=by apply Array.toList_inj.mp;simp
section
variable{prog:Program}{w:World}{A:Around}{E:Value→Shared→Prop}{s:Shared}
theorem sort_any{O:KeyOrd}{key:Keyed→O.α}(d:O.α){a:Addr}{vs:List Value}{n:Nat}{P:Fin→Shared→Prop}{h₀:Heap}(oa:s.heap.get? a=some (seqObj "list" vs.toArray n))(hz:vs.length≤sizeLine)(S:Sortable prog w h₀ vs O key)
  (hk:∀b o,h₀.get? b=some o→b≠a∧s.heap.get? b=some o)
  (h:∀out:List Value,out.Perm vs→out.Pairwise (fun x y=>O.kle (key (x,x)) (key (y,y)))→P (.done (.ret .none)) { s with heap:=sortedHeap s.heap a vs out.toArray }) :
  wpAny (model prog w) A (Builtin.«list.sort» ⟨[.ref a],[]⟩) P E s:=by
 have hS:=strsAre_map vs S.tx
 refine list_sort_treeK strKind_oneLt oa hS.keysOf (fun v₁ v₂ rest e=>keyKind_strs (by rw[←e];exact hS)) S.short fun st' hp hs=>?_
 rw[arr2]
 exact h _ (outs S hp hs).1 (outs S hp hs).2
theorem sorted_list{O:KeyOrd}{key:Keyed→O.α}(d:O.α){lst:Addr}{vs:List Value}{Qr:Value→Shared→Prop}(isl:s.heap.IsList lst vs.toArray)(hz:vs.length≤sizeLine)(S:Sortable prog w s.heap vs O key)
  (h:∀out:List Value,out.Perm vs→out.Pairwise (fun x y=>O.kle (key (x,x)) (key (y,y)))→Qr (.ref (s.heap.objs.size+1)) { s with heap:=sortedAll s.heap vs out.toArray }) :
  wpAny (model prog w) A (call (.builtin "sorted") [.ref lst]) Qr E s:=by
 have hS:=strsAre_map vs S.tx
 refine sortedK strKind_oneLt isl hS.keysOf (fun v₁ v₂ rest e=>keyKind_strs (by rw[←e];exact hS)) S.short fun st' hp hs=>?_
 rw[arr2]
 exact h _ (outs S hp hs).1 (outs S hp hs).2
end
end Srt
namespace L2
open PySem PySem.Spec PyProof.Rows Srt
abbrev Atom:=Sum Int (List Nat)
def a6m:Atom→Atom→Bool
 | .inl a,.inl b=>decide (a<b)
 | .inl _,.inr _=>true
 | .inr _,.inl _=>false
 | .inr a,.inr b=>decide (a<b)
theorem a4t:∀a:Atom,a6m a a=false
 | .inl a=>aB7 (Int.lt_irrefl a)
 | .inr a=>aB7 (List.lt_irrefl a)
theorem a0A:∀{a b c:Atom},a6m a b=true→a6m b c=true→a6m a c=true
 | .inl a,.inl b,.inl c,h1,h2=>aC6 (Int.lt_trans (aF4 h1) (aF4 h2))
 | .inl _,.inl _,.inr _,_,_=>rfl
 | .inl _,.inr _,.inl _,_,h2=>by cases h2
 | .inl _,.inr _,.inr _,_,_=>rfl
 | .inr _,.inl _,_,h1,_=>by cases h1
 | .inr _,.inr _,.inl _,_,h2=>by cases h2
 | .inr a,.inr b,.inr c,h1,h2=>aC6 (List.lt_trans (aF4 h1) (aF4 h2))
theorem a9Z:∀{a b:Atom},a6m a b=false→a6m b a=false→a=b
 | .inl a,.inl b,h1,h2=>by
  have q1:=aG9 h1
  have q2:=aG9 h2
  rw[show a=b by omega]
 | .inl _,.inr _,h1,_=>by cases h1
 | .inr _,.inl _,_,h2=>by cases h2
 | .inr a,.inr b,h1,h2=>by
  have q1:=aG9 h1
  have q2:=aG9 h2
  rw[List.le_antisymm (List.not_lt.mp q2) (List.not_lt.mp q1)]
def Q7:List Atom→List Atom→Bool
 | [],[]=>false
 | [],_::_=>true
 | _::_,[]=>false
 | x::xs,y::ys=>if x=y then Q7 xs ys else a6m x y
theorem a9s:∀a:List Atom,Q7 a a=false
 | []=>rfl
 | x::xs=>by rw[Q7,aB0 rfl];exact a9s xs
theorem a0b:∀{a b:List Atom},Q7 a b=false→Q7 b a=false→a=b
 | [],[],_,_=>rfl
 | [],_::_,h,_=>by cases h
 | _::_,[],_,h=>by cases h
 | x::xs,y::ys,h1,h2=>by
  rw[Q7]at h1 h2
  by_cases e:x=y
  ·subst e
   rw[aB0 rfl]at h1 h2
   rw[a0b h1 h2]
  ·rw[aA4 e]at h1
   rw[aA4 (Ne.symm e)]at h2
   exact absurd (a9Z h1 h2) e
theorem a7i:∀{a b c:List Atom},Q7 a b=true→Q7 b c=true→Q7 a c=true
 | [],[],_,h,_=>by cases h
 | [],_::_,[],_,h=>by cases h
 | [],_::_,_::_,_,_=>rfl
 | _::_,[],_,h,_=>by cases h
 | _::_,_::_,[],_,h=>by cases h
 | x::xs,y::ys,z::zs,h1,h2=>by
  rw[Q7]at h1 h2 ⊢
  by_cases e1:x=y
  ·subst e1
   rw[aB0 rfl]at h1
   by_cases e2:x=z
   ·subst e2
    rw[aB0 rfl]at h2 ⊢
    exact a7i h1 h2
   ·rw[aA4 e2]at h2 ⊢
    exact h2
  ·rw[aA4 e1]at h1
   by_cases e2:y=z
   ·subst e2
    rw[aA4 e1]
    exact h1
   ·rw[aA4 e2]at h2
    by_cases e3:x=z
    ·subst e3
     have:=a0A h1 h2
     rw[a4t]at this
     cases this
    ·rw[aA4 e3]
     exact a0A h1 h2
@[reducible] def a2u:KeyOrd where
 α:=List Atom
 blt:=Q7
 irrefl:=a9s
 trans:=fun _ _ _=>a7i
 negTrans:=fun a b c h=>by
  cases h1:Q7 a b with
  | true=>exact .inl rfl
  | false=>
   refine .inr ?_
   cases h2:Q7 b a with
   | true=>exact a7i h2 h
   | false=>rw[←a0b h1 h2];exact h
 total:=fun _ _=>a0b
theorem b5j(x y:Atom):Q7 [x] [y]=a6m x y:=by
 rw[Q7]
 by_cases e:x=y
 ·subst e;rw[aB0 rfl,a4t];rfl
 ·rw[aA4 e]
def aU:Value→Atom
 | .int i _=>.inl i
 | .str x _=>.inr x.cps.toList
 | _=>.inl 0
def aV:V→Atom
 | .int i=>.inl i
 | .str x=>.inr x.cps.toList
 | _=>.inl 0
def a4M(_:Heap)(v:Value):List Atom:=[aU v]
def b5l(_:Hp)(v:V):List Atom:=[aV v]
def a4D(_:Hp)(xs:List V):Prop:=xs.length<64∧∀x∈xs,∃z,x=.str z
section
variable{X:Cx}{pins:List (Addr×Obj)}{σ:St}{H:Hp}{s:Shared}
theorem b2o{xs:List V}(S:a4D H xs){x:V}(hx:x∈xs){u:Value}(r:RelV x u):a4M s.heap u=b5l H x:=by
 obtain⟨z,rfl⟩:=S.2 x hx;obtain⟨t,rfl⟩:=r;rfl
theorem a1f(_:Inv X pins σ H s){xs:List V}{us:List Value}(S:a4D H xs)(r:j4 xs us):Sortable X.prog X.w s.heap us a2u (fun p=>a4M s.heap p.1):=by
 refine⟨fun u hu=>?_,by rw[←r.length];exact S.1,fun x y t u h=>?_⟩
 ·have back:∃x∈xs,RelV x u:=by
   clear S
   induction r with
   | nil=>simp at hu
   | cons q t ih=>
    rcases aB9.mp hu with rfl | hu
    ·exact⟨_,aD0,q⟩
    ·obtain⟨x,h1,h2⟩:=ih hu;exact⟨x,aC4 _ h1,h2⟩
  obtain⟨x,hx,rx⟩:=back
  obtain⟨z,rfl⟩:=S.2 x hx
  obtain⟨t,rfl⟩:=rx
  exact⟨z,t,rfl⟩
 ·show Q7 [Sum.inr y.cps.toList] [Sum.inr x.cps.toList]=false
  rw[b5j];exact h
theorem j4.perm{us ws:List Value}(p:ws.Perm us):∀{xs:List V},j4 xs us→∃ys,ys.Perm xs∧j4 ys ws:=by
 induction p with
 | nil=>exact fun h=>⟨_,List.Perm.refl _,h⟩
 | cons u _ ih=>
  intro xs h
  cases h with
  | cons r t=>obtain⟨ys,h1,h2⟩:=ih t;exact⟨_,List.Perm.cons _ h1,.cons r h2⟩
 | swap u w l=>
  intro xs h
  cases h with
  | cons r t=>cases t with
   | cons r' t'=>exact⟨_,List.Perm.swap _ _ _,.cons r' (.cons r t')⟩
 | trans _ _ ih1 ih2=>
  intro xs h
  obtain⟨ys,h1,h2⟩:=ih2 h
  obtain⟨zs,h3,h4⟩:=ih1 h2
  exact⟨zs,h3.trans h1,h4⟩
theorem a4e(I:Inv X pins σ H s){xs:List V}(S:a4D H xs):∀{ys:List V} {us:List Value},j4 ys us→(∀y∈ys,y∈xs)→us.map (a4M s.heap)=ys.map (b5l H)
 | _,_,.nil,_=>rfl
 | _,_,.cons r t,h=>by
  rw[aC1,aC1,b2o S (h _ aD0) r,a4e I S t fun y hy=>h y (aC4 _ hy)]
def O5(H:Hp)(ys:List V):Prop:=(ys.map (b5l H)).Pairwise a2u.kle
theorem a5f:L6 X (.builtin "sorted") (fun as H Q=>∃p xs,as=[.ref p]∧d7 X.K H p xs∧a4D H xs∧∀l ys,H l=none→ys.Perm xs→O5 H ys→Q (.ref l) (upd H l (.lst ys))):=by
 intro pins s σ H as us Q I r h
 obtain⟨p,xs,rfl,hq,S,q⟩:=h
 obtain⟨u,rfl,ru⟩:=vals1 r
 cases (show u=Value.ref p from ru)
 obtain⟨its,rv,pl,hz⟩:=I.list hq
 refine sorted_list ([]:List Atom) (vs:=its) pl.isList (by rw[←rv.length];exact hz) (a1f I S rv) fun out op os=>?_
 obtain⟨ys,y1,y2⟩:=j4.perm op rv
 obtain⟨e,he⟩:=sortedAll_at s.heap its out.toArray
 have hn:H (s.heap.objs.size+1)=none:=I.hok.fresh (aN2 _)
 refine⟨.ref (s.heap.objs.size+1),_,I.laid (t':=s.toks) (o:=.lst ys) (fun b o e=>sortedAll_old e) (aN2 _) ⟨?_,out,e,y2,he⟩,rfl,q _ ys hn y1 ?_⟩
 ·rw[y1.length_eq];exact hz
 ·unfold O5
  rw[←a4e I S y2 fun y hy=>y1.mem_iff.mp hy,aP9]
  exact os
end
end L2
namespace TS
open PySem PySem.Spec PyProof.Rows
set_option maxRecDepth 100000
def V8(w:World):Bool:=w.params.followText "set-order"
def txE(e:Int×Value):Str:=match e.2 with
 | .str x _=>x
 | _=>Str.ofString ""
def S8(w:World)(es:List (Int×Value)):Prop:=∀e∈es,∃k t,e=(hashStr w k,Value.str k t)
def IsT(w:World)(h:Heap)(a:Addr)(ks:List Str):Prop:=
 ∃(o:Obj) (es:Array (Int×Value)) (ep:Nat) (t:SetTable),h.get? a=some o∧o.ExactSet∧o.data=.set es ep t∧S8 w es.toList∧(es.toList.map txE).Perm ks∧ks.Nodup∧es.size<scanBound∧t.fits es.size=true∧t.led=!V8 w∧(es.size=0∨t.plain=false)
section
variable{prog:Program}{w:World}{A:Around}{E:Value→Shared→Prop}{s:Shared}
theorem IsT.at{h h':Heap}{a:Addr}{ks:List Str}(x:IsT w h a ks)(k:∀o,h.get? a=some o→h'.get? a=some o):IsT w h' a ks:=by
 obtain⟨o,es,ep,t,q,r⟩:=x
 exact⟨o,es,ep,t,k o q,r⟩
theorem IsT.ty{a:Addr}{ks:List Str}(x:IsT w s.heap a ks):s.TypeIs (.ref a) "set":=by
 obtain⟨o,es,ep,t,q,r,_⟩:=x
 exact⟨o,q,r.1⟩
theorem IsT.nodup{h:Heap}{a:Addr}{ks:List Str}(x:IsT w h a ks):ks.Nodup:=by
 obtain⟨o,es,ep,t,q,r,_,_,_,n,_⟩:=x;exact n
theorem IsT.len{h:Heap}{a:Addr}{ks:List Str}(x:IsT w h a ks):ks.length<scanBound:=by
 obtain⟨o,es,ep,t,q,r,_,_,p,n,b,_⟩:=x
 rw[←p.length_eq,aA0,aF5];exact b
theorem S8.elems{es:List (Int×Value)}(x:S8 w es):ElemsOf (PySem.strKind prog w) es:=fun e he=>by
 obtain⟨k,t,rfl⟩:=x e he
 exact⟨⟨k,strKind_is prog w k t,rfl⟩,rfl⟩
theorem S8.of_perm{es ds:List (Int×Value)}(x:S8 w es)(p:ds.Perm es):S8 w ds:=fun e he=>x e (p.mem_iff.mp he)
theorem b8i{k:Str}{e:Int×Value}{t:Tok}{j:Str}(he:e=(hashStr w j,Value.str j t)):(PySem.strKind prog w).is k e.2=true↔txE e=k:=by
 subst he
 show Value.isStrOf k (Value.str j t)=true↔j=k
 constructor
 ·intro q
  obtain⟨u,z⟩:=Value.isStrOf_shape q
  injection z
 ·rintro rfl;simp[Value.isStrOf]
theorem a2M{es:Array (Int×Value)}(x:S8 w es.toList){ks:List Str}(p:(es.toList.map txE).Perm ks)(k:Str) :
  (es.toList.findIdx? (fun e=>(PySem.strKind prog w).is k e.2)).isSome=decide (k∈ks):=by
 have key:(∃e∈es.toList,(PySem.strKind prog w).is k e.2=true)↔k∈ks:=by
  rw[←p.mem_iff,aA5]
  constructor
  ·rintro⟨e,he,q⟩
   obtain⟨j,t,z⟩:=x e he
   exact⟨e,he,(b8i z).mp q⟩
  ·rintro⟨e,he,q⟩
   obtain⟨j,t,z⟩:=x e he
   exact⟨e,he,(b8i z).mpr q⟩
 cases hr:es.toList.findIdx? (fun e=>(PySem.strKind prog w).is k e.2) with
 | none=>
  symm
  rw[Option.isSome_none,aQ0,←key]
  rintro⟨e,he,q⟩
  have:=List.findIdx?_eq_none_iff.mp hr e he
  rw[q]at this;cases this
 | some j=>
  symm
  rw[Option.isSome_some,aL7,←key]
  obtain⟨hj,q,_⟩:=List.findIdx?_eq_some_iff_getElem.mp hr
  exact⟨es.toList[j],aG8 hj,q⟩
theorem J7{Q:Bool→Shared→Prop}(h:Q (V8 w) s):wpAny (model prog w) A setsByText Q E s:=aA1 (aP0 (aA9 h))
theorem a1Y{m f v:Nat}{l p:Bool}{hs:Array Int}{t:SetTable}{r:Array Nat}(e:SetTable.laid m f v l p hs=some (t,r)):t.plain=p:=by
 unfold SetTable.laid at e
 cases hc:SetTable.layClean m hs with
 | none=>rw[hc]at e;cases e
 | some z=>rw[hc]at e;injection e with e;injection e with e _;rw[←e]
theorem a6U(t:SetTable)(es:Array (Int×Value))(n:Nat)(z:t.plain=false):(relayAll t es n).2.1.plain=false:=by
 unfold relayAll
 split
 ·rename_i t' r e
  dsimp only
  split
  ·exact(a1Y e).trans z
  ·rfl
 ·rfl
theorem b7f(t:SetTable)(es:Array (Int×Value))(h:Int)(x:Value)(z:t.plain=false):(layNew t es h x).2.1.plain=false:=by
 unfold layNew
 split
 ·dsimp only
  unfold SetTable.orStandIn
  split
  ·exact z
  ·rfl
 ·rfl
theorem b5p{m f v:Nat}{l p:Bool}{hs:Array Int}{t:SetTable}{r:Array Nat}(e:SetTable.laid m f v l p hs=some (t,r)):t.led=l:=by
 unfold SetTable.laid at e
 cases hc:SetTable.layClean m hs with
 | none=>rw[hc]at e;cases e
 | some z=>rw[hc]at e;injection e with e;injection e with e _;rw[←e]
theorem b2h(t:SetTable)(es:Array (Int×Value))(n:Nat):(relayAll t es n).2.1.led=t.led:=by
 unfold relayAll
 split
 ·rename_i t' r e
  dsimp only
  split
  ·exact b5p e
  ·rfl
 ·rfl
theorem b8r(t:SetTable)(es:Array (Int×Value))(h:Int)(x:Value):(layNew t es h x).2.1.led=t.led:=by
 unfold layNew
 split
 ·dsimp only
  unfold SetTable.orStandIn
  split<;>rfl
 ·rfl
theorem a9L{b:Bool}{s₁:Shared}{Q:Unit→Shared→Prop}(q:Q () s₁):wpAny (model prog w) A (match b with | true=>rule "set.scan.the-table-gave-way" | false=>pure ()) Q E s₁:=by
 cases b
 ·exact aA9 q
 ·exact wpAny_rule q
theorem IsT.put{h:Heap}{a:Addr}{o:Obj}{es:Array (Int×Value)}{ep:Nat}{t:SetTable}(ho:h.get? a=some o)(hx:o.ExactSet)(hd:o.data=.set es ep t)
  {ds:Array (Int×Value)} {u:SetTable} {ks:List Str} (e:S8 w ds.toList) (p:(ds.toList.map txE).Perm ks) (n:ks.Nodup) (b:ds.size<scanBound) (f:u.fits ds.size=true) (l:u.led=!V8 w) (c:ds.size=0∨u.plain=false) :
  ∃o',(h.update a (Obj.putSet ds u)).get? a=some o'∧o'.ExactSet∧o'.data=.set ds (ep+1) u∧IsT w (h.update a (Obj.putSet ds u)) a ks:=by
 have g:(h.update a (Obj.putSet ds u)).get? a=some (Obj.putSet ds u o):=aG3 _ ho (by rw[putSet_of ds u hd];rfl)
 rw[putSet_of ds u hd]at g
 exact⟨_,g,hx,rfl,_,ds,ep+1,u,g,hx,rfl,e,p,n,b,f,l,c⟩
end
open PySem PySem.Spec PyProof.Rows
set_option maxRecDepth 100000
section
variable{prog:Program}{w:World}{A:Around}{E:Value→Shared→Prop}{s:Shared}
theorem b8n{a:Addr}{ks:List Str}{k:Str}{tk:Tok}{Q:Option Nat→Shared→Prop}(I:IsT w s.heap a ks)
  (h:∀r:Option Nat,r.isSome=decide (k∈ks)→Q r s):wpAny (model prog w) A (setFind a (.str k tk) (hashStr w k)) Q E s:=by
 obtain⟨o,es,ep,t,ho,hx,hd,he,hp,hn,hb,hf,hl,hc⟩:=I
 unfold setFind setFindIn
 refine aA1 (aG5 ho hd hf ?_)
 dsimp only
 rw[byScan_of (knd:=PySem.strKind prog w) (x:=.str k tk) rfl hb he.elems,aB0 rfl]
 refine aA1 (wpAny_rule (aA1 (wpAny_setScan_of (knd:=PySem.strKind prog w) (strKind_is prog w k tk) ho hd hf he.elems ?_)))
 have m:=a2M (prog:=prog) he hp k
 cases hr:es.toList.findIdx? (fun e=>(PySem.strKind prog w).is k e.2) with
 | none=>rw[hr]at m;exact aA9 (h none m)
 | some j=>rw[hr]at m;exact aA9 (h (some (0+j)) m)
def M5(ks:List Str)(k:Str):List Str:=if k∈ks then ks else ks++[k]
theorem a8Z{ks:List Str}(n:ks.Nodup)(k:Str):(M5 ks k).Nodup:=by
 unfold M5
 split
 ·exact n
 ·rename_i z
  refine aC3.mpr ⟨n,by simp,fun x hx y hy e=>?_⟩
  rw[aA3]at hy
  exact z (by rw[←hy,←e];exact hx)
theorem a5R{ks:List Str}{k x:Str}:x∈M5 ks k↔x∈ks∨x=k:=by
 unfold M5
 split
 ·rename_i z;exact⟨.inl,fun q=>q.elim id fun e=>e▸z⟩
 ·rw[aA8,aA3]
theorem a4N(ks:List Str)(k:Str):(M5 ks k).length≤ks.length+1:=by
 unfold M5;split<;>simp
theorem a7W{a:Addr}{ks:List Str}{k:Str}{tk:Tok}{Q:Bool→Shared→Prop}(I:IsT w s.heap a ks)(room:ks.length+1<scanBound)
  (h:∀h',Heap.SameBut a s.heap h'→IsT w h' a (M5 ks k)→Q (!decide (k∈ks)) { s with heap:=h' }) :
  wpAny (model prog w) A (setAddHashed a (.str k tk) (hashStr w k)) Q E s:=by
 obtain⟨o,es,ep,t,ho,hx,hd,he,hp,hn,hb,hf,hl,hc⟩:=id I
 have sz:es.size=ks.length:=by rw[←hp.length_eq,aA0,aF5]
 unfold setAddHashed setAddHashedIn
 refine aK2 (aA1 (aG5 ho hd hf ?_))
 dsimp only
 rw[byScan_of (knd:=PySem.strKind prog w) (x:=.str k tk) rfl hb he.elems,aB0 rfl]
 unfold setAddByScan
 refine aA1 (aA1 (wpAny_rule (aA1 (wpAny_setScan_of (knd:=PySem.strKind prog w) (strKind_is prog w k tk) ho hd hf he.elems ?_))))
 have m:=a2M (prog:=prog) he hp k
 cases hr:es.toList.findIdx? (fun e=>(PySem.strKind prog w).is k e.2) with
 | some j=>
  rw[hr]at m
  have mk:k∈ks:=aF4 m.symm
  refine aA9 (aA9 ?_)
  have q:=h s.heap (aO3 a s.heap)
  unfold M5 at q
  rw[aB0 mk,aC6 mk]at q
  exact q I
 | none=>
  rw[hr]at m
  have mk:k∉ks:=aG9 m.symm
  have hadd:M5 ks k=ks++[k]:=aA4 mk
  have nd:=a8Z hn k
  rw[hadd]at h nd
  rw[aB7 mk]at h
  dsimp only
  have lp:=layNew_perm t es (hashStr w k) (.str k tk)
  have lf:=layNew_fits t es (hashStr w k) (.str k tk)
  have ll:=b8r t es (hashStr w k) (.str k tk)
  have lq:=b7f t es (hashStr w k) (.str k tk)
  generalize layNew t es (hashStr w k) (.str k tk)=L at lp lf ll lq ⊢
  obtain⟨ds,u,dum,gv⟩:=L
  dsimp only at lp lf ll lq ⊢
  rw[Array.toList_push]at lp
  have e1:S8 w ds.toList:=fun e q=>by
   rcases aA8.mp (lp.mem_iff.mp q) with q | q
   ·exact he e q
   ·rw[aA3]at q;exact⟨k,tk,q⟩
  have p1:(ds.toList.map txE).Perm (ks++[k]):=(lp.map txE).trans (by rw[aB2];exact hp.append_right _)
  have b1:ds.size<scanBound:=by
   rw[←aF5,←aA0 (f:=txE),p1.length_eq,aA7];exact room
  have hz:ds.size≤sizeLine:=aM4 b1
  refine aA1 (a9L ?_)
  have tail:∀u':SetTable,u'.fits ds.size=true→u'.led=!V8 w→u'.plain=false→wpAny (model prog w) A (do
    storeSet a ds u'
    if (!dum&&u'.tooFull)=true then do
      (match (relayAll u' ds (SetTable.grown ds.size)).2.2 with | true=>rule "set.scan.the-table-gave-way" | false=>pure ())
      storeSet a (relayAll u' ds (SetTable.grown ds.size)).1 (relayAll u' ds (SetTable.grown ds.size)).2.1
      pure (some true)
     else pure (some true)) (fun r s'=>r=some true∧Q true s') E s:=by
   intro u' f' l' c'
   refine aA1 (wpAny_storeSet_of ho hd ?_ hz)
   obtain⟨o',g1,g2,g3,g4⟩:=IsT.put ho hx hd e1 p1 nd b1 f' l' (.inr c')
   have sb:=aH3 s.heap a (Obj.putSet ds u')
   split
   ·have rp:=relayAll_perm u' ds (SetTable.grown ds.size)
    have rf:=relayAll_fits u' ds (SetTable.grown ds.size)
    have rq:=a6U u' ds (SetTable.grown ds.size) c'
    have rl:=b2h u' ds (SetTable.grown ds.size)
    generalize relayAll u' ds (SetTable.grown ds.size)=R at rp rf rl rq ⊢
    obtain⟨cs,v,gv'⟩:=R
    dsimp only at rp rf rl rq ⊢
    have zc:cs.size=ds.size:=by rw[←aF5,rp.length_eq,aF5]
    refine aA1 (a9L ?_)
    refine aA1 (wpAny_storeSet_of g1 g3 ?_ (by rw[zc];exact hz))
    obtain⟨o'',_,_,_,y⟩:=IsT.put g1 g2 g3 (e1.of_perm rp) ((rp.map txE).trans p1) nd (by rw[zc];exact b1) rf (rl.trans l') (.inr rq)
    exact aA9 ⟨rfl,h _ (sb.trans (aH3 _ a _)) y⟩
   ·exact aA9 ⟨rfl,h _ sb g4⟩
  have fin:∀(r:Option Bool) (s':Shared),(r=some true∧Q true s')→wpAny (model prog w) A (match r with
    | some added=>pure added
    | none=>setAddHashedIn a (.str k tk) (hashStr w k) 99999) Q E s':=fun r s' q=>by
   obtain⟨rfl,q⟩:=q;exact aA9 q
  split
  ·refine aA1 ?_
   rw[hashByValue_scannable 8 (x:=.str k tk) rfl]
   refine aA9 ?_
   show wpAny _ _ (do
    storeSet a ds { u with plain:=false }
    _) _ _ _
   refine aH4 (tail { u with plain:=false } (SetTable.fits_plain_off lf) (ll.trans hl) rfl) (fun r s' q=>?_) fun _ _ x=>x
   obtain⟨rfl,q⟩:=q;exact aA9 q
  ·refine aA1 (aA9 ?_)
   simp only[↓reduceIte]
   refine aH4 (tail u lf (ll.trans hl) (by rename_i z;exact aJ9.mpr z)) (fun r s' q=>?_) fun _ _ x=>x
   obtain⟨rfl,q⟩:=q;exact aA9 q
theorem b1s{Q:Value→Shared→Prop} (h:IsT w (s.heap.push { cls:=.type "set",dict:=none,data:=.set #[] 0 (.fresh 0 0 (!V8 w)) }) s.heap.objs.size [] →
   Q (.ref s.heap.objs.size) { s with heap:=s.heap.push { cls:=.type "set",dict:=none,data:=.set #[] 0 (.fresh 0 0 (!V8 w)) } }) :
  wpAny (model prog w) A (newSet (.type "set")) Q E s:=by
 unfold newSet
 refine aA1 (J7 ?_)
 simp only[newObj]
 refine aA1 (wpAny_alloc (aA9 (h ?_)))
 exact⟨_,#[],0,.fresh 0 0 (!V8 w),aC0 _ rfl,⟨rfl,rfl,rfl⟩,rfl,fun e q=>by simp at q,by simp,by simp,by decide,rfl,rfl,.inl rfl⟩
end
open PySem PySem.Spec PyProof.Rows
set_option maxRecDepth 100000
def U5(vs:List Value)(ks:List Str):Prop:=Paired (fun v k=>∃t,v=Value.str k t) vs ks
theorem U5.at:∀{vs:List Value} {ks:List Str},U5 vs ks→∀(i:Nat) (v:Value),vs[i]?=some v→∃k t,ks[i]?=some k∧v=.str k t
 | _,_,.nil,i,v,h=>by simp at h
 | _,_,.cons ⟨t,q⟩ r,0,v,h=>by
  simp at h
  exact⟨_,t,by simp,h▸q⟩
 | _,_,.cons _ r,i+1,v,h=>by
  simp only[List.getElem?_cons_succ]at h
  obtain⟨k,t,a,b⟩:=U5.at r i v h
  exact⟨k,t,by simpa using a,b⟩
theorem U5.len{vs:List Value}{ks:List Str}(h:U5 vs ks):vs.length=ks.length:=by
 induction h with
 | nil=>rfl
 | cons _ _ ih=>simp[ih]
def once(ks:List Str):List Str:=ks.foldl M5 []
theorem b6f(ks:List Str)(k:Str):once (ks++[k])=M5 (once ks) k:=by unfold once;rw[List.foldl_append];rfl
theorem a1H:∀(ks acc:List Str) (x:Str),x∈ks.foldl M5 acc↔x∈acc∨x∈ks
 | [],acc,x=>by simp
 | k::ks,acc,x=>by
  rw[aO8,a1H ks,a5R,aB9]
  constructor
  ·rintro((h | h) | h)
   ·exact .inl h
   ·exact .inr (.inl h)
   ·exact .inr (.inr h)
  ·rintro(h | h | h)
   ·exact .inl (.inl h)
   ·exact .inl (.inr h)
   ·exact .inr h
theorem a5x{ks:List Str}{x:Str}:x∈once ks↔x∈ks:=by unfold once;rw[a1H];simp
theorem a6G:∀(ks acc:List Str),(ks.foldl M5 acc).length≤acc.length+ks.length
 | [],acc=>aB3 _
 | k::ks,acc=>by
  have a:=a6G ks (M5 acc k)
  have b:=a4N acc k
  rw[aO8,aF0];omega
theorem a8u(ks:List Str):(once ks).length≤ks.length:=by have:=a6G ks [];simpa [once] using this
section
variable{prog:Program}{w:World}{A:Around}{E:Value→Shared→Prop}{s:Shared}{R:Result→Shared→Prop}
theorem b1m(hh:A.handled=none){S I l:Addr}{vs:List Value}{ks:List Str}(tx:U5 vs ks)(hb:ks.length+1<scanBound)(n1:S≠I)(n2:S≠l)(n3:l≠I) :
  ∀(d i:Nat) (s:Shared),vs.length-i=d→i≤vs.length→s.heap.IsListIter I l i→s.heap.IsList l vs.toArray→IsT w s.heap S (once (ks.take i)) →
   (∀h' tk,(∀b o,b≠S→b≠I→s.heap.get? b=some o→h'.get? b=some o)→IsT w h' S (once ks)→R (.ok (.ret .none)) { s with heap:=h',toks:=tk }) →
   codeAny (model prog w) A (.builtin "set.update.loop" ⟨[.ref S,.ref I],[]⟩) R s:=by
 intro d
 induction d with
 | zero=>
  intro i s e1 e2 hit hl hS hR
  have en:i=vs.length:=by omega
  refine aH0 F.entry_set_update_loop ?_
  rw[aF6 F.plain_set_update_loop _]
  show wpAny _ A.in1 (pyNext (.ref I) >>= _) _ _ s
  refine aA1 (wpAny_pyNext_list_end (A:=A.in1) (by simpa using hh) hit hl (by simp;omega) fun h' eb=>?_)
  refine aA9 (hR h' s.toks (fun b o _ hb q=>eb b o hb q) (IsT.at ?_ fun o q=>eb S o n1 q))
  rw[aL2 (by rw[←tx.len];omega)] at hS
  exact hS
 | succ d ih=>
  intro i s e1 e2 hit hl hS hR
  have lt:i<vs.length:=by omega
  refine aH0 F.entry_set_update_loop ?_
  rw[aF6 F.plain_set_update_loop _]
  show wpAny _ A.in1 (pyNext (.ref I) >>= _) _ _ s
  have gx:vs.toArray[i]?=some vs[i]:=by simp[lt]
  obtain⟨k,t,q1,q2⟩:=tx.at i vs[i] (by simp[lt])
  refine aA1 (wpAny_pyNext_list_item (A:=A.in1) hit hl gx fun h1 hit1 sb1=>?_)
  rw[q2]
  show wpAny _ A.in1 (holding [Value.str k t] (setAdd S (.str k t)) >>= _) _ _ _
  refine aA1 (aK2 ?_)
  unfold setAdd
  refine aK2 (aA1 ((PySem.strKind prog w).pyHash (strKind_is prog w k t) ?_))
  have hS1:IsT w h1 S (once (ks.take i)):=hS.at fun o q=>(sb1.2 S n1).trans q
  have rm:(once (ks.take i)).length+1<scanBound:=by
   have a:=a8u (ks.take i)
   have b:(ks.take i).length≤ks.length:=by simp;omega
   omega
  refine a7W (s:={ s with heap:=h1,toks:=s.toks+1 }) hS1 rm fun h2 sb2 hS2=>?_
  have tk1:ks.take (i+1)=ks.take i++[k]:=by
   rw[aD3,q1];rfl
  refine aA9 ⟨aH9 F.plain_set_update_loop _,ih (i+1) _ (by omega) lt ?_ ?_ ?_ fun h' tk kp hS'=>?_⟩
  ·exact hit1.at fun o q=>(sb2.2 I (Ne.symm n1)).trans q
  ·exact hl.at fun o q=>(sb2.2 l (Ne.symm n2)).trans ((sb1.2 l n3).trans q)
  ·rw[tk1,b6f];exact hS2
  ·exact hR h' tk (fun b o a1 a2 q=>kp b o a1 a2 ((sb2.2 b a1).trans ((sb1.2 b a2).trans q))) hS'
def freshT(w:World):Obj:={ cls:=.type "set",dict:=none,data:=.set #[] 0 (.fresh 0 0 (!V8 w)) }
theorem b3i{h:Heap}{a:Addr}(e:h.get? a=some (freshT w)):IsT w h a []:=
 ⟨_,#[],0,.fresh 0 0 (!V8 w),e,⟨rfl,rfl,rfl⟩,rfl,fun e q=>by simp at q,by simp,by simp,by decide,rfl,rfl,.inl rfl⟩
theorem b2t{x:Value}{Q:Value→Shared→Prop}(h:Q (.ref s.heap.objs.size) { s with heap:=s.heap.push (freshT w) }) :
  codeAny (model prog w) A (.call (.builtin "set.__new__") ⟨[.type "set",x],[]⟩) (wants Q E) s:=by
 refine codeAny_of_tree ?_
 show wpAny _ A.in1 (do checkBuiltinCall "set.__new__" ⟨[.type "set",x],[]⟩;again (.builtin "set.__new__" ⟨[.type "set",x],[]⟩)) _ _ s
 refine aA1 (wpAny_of_eq (F.newCall_set_1 x) (aA9 ⟨aH9 F.plain_set_new _,aH0 F.entry_set_new ?_⟩))
 rw[aF6 F.plain_set_new _]
 unfold Builtin.«set.__new__» Builtin.Frozenset.newClass
 have sb:=sub_set_self
 obtain⟨hp,g,d,tk,os⟩:=s
 dsimp only
 wp_walk
 refine aP0 (aA9 ?_)
 dsimp only
 simp only[newObj]
 exact aA1 (wpAny_alloc (aA9 (aA9 h)))
end
open PySem PySem.Spec PyProof.Rows
set_option maxRecDepth 100000
section
variable{prog:Program}{w:World}{A:Around}{E:Value→Shared→Prop}{s:Shared}
theorem a9U{l:Addr}{vs:List Value}{ks:List Str}{Q:Value→Shared→Prop}(hh:A.handled=none)(isL:s.heap.IsList l vs.toArray)(tx:U5 vs ks)(hb:ks.length+1<scanBound)
  (h:∀(h':Heap) (tk:Nat),IsT w h' s.heap.objs.size (once ks)→(∀b o,s.heap.get? b=some o→h'.get? b=some o)→Q (.ref s.heap.objs.size) { s with heap:=h',toks:=tk }) :
  wpAny (model prog w) A (call (.type "set") [.ref l]) Q E s:=by
 obtain⟨c,tl,mroS⟩:=aN1.mro
 have madeS:=aN1.made
 have subS:=aN1.sub
 refine wpAny_call (codeAny_of_tree ?_)
 show wpAny _ _ (callAny (.type "set") _) _ _ _
 refine aA9 ⟨Code.quiet_builtin _ (by decide +kernel),aH0 F.entry_type_call ?_⟩
 rw[Around.under_plain (weight_type_call_type "set" [.ref l] []) rfl]
 have notT:=aN1.notType
 have canC:=aN1.canCreate
 have callOk:=F.typeCall_set_1 (.ref l)
 repeat (any_goals (first | assumption | wp_step))
 refine aQ3 (b2t (x:=.ref l) (E:=E) (Q:=fun obj sa=>obj=.ref s.heap.objs.size∧sa={ s with heap:=s.heap.push (freshT w) }) ⟨rfl,rfl⟩) fun r sa ra=>?_
 cases r with
 | error e=>exact ra
 | ok flo=>
  cases flo with
  | ret obj=>
   obtain⟨rfl,rfl⟩:=ra
   have atS:(s.heap.push (freshT w)).get? s.heap.objs.size=some (freshT w):=aC0 _ rfl
   have tyS:Shared.TypeIs { s with heap:=s.heap.push (freshT w) } (.ref s.heap.objs.size) "set":=⟨_,atS,rfl⟩
   have lookI:=aN1.init.lookup
   have bindI:=aN1.init.bind (.ref s.heap.objs.size)
   repeat (any_goals (first | assumption | wp_step))
   refine aQ3 (codeAny_call_builtin (R:=wants (fun r st=>r=.none∧∃h' tk,st={ s with heap:=h',toks:=tk }∧IsT w h' s.heap.objs.size (once ks) ∧
     (∀b o,s.heap.get? b=some o→h'.get? b=some o)) E) aN1.init.plain F.entry_set_init (check_set_init_1 tyS ?_)) fun res st rb=>?_
   ·obtain⟨lo,getL,clsL,epL,datL⟩:=isL
    obtain⟨c0,d0,x0,s0⟩:=lo
    simp only at clsL datL
    subst clsL;subst datL
    have getL':(s.heap.push (freshT w)).get? l=some { cls:=.type "list",dict:=d0,data:=.seq vs.toArray epL,slots:=s0 }:=aA6 _ getL
    have noS:=F.sub_list_set
    have noF:=F.sub_list_frozenset
    have noD:(Value.type "list"==Value.type "dict")=false:=by decide
    have isL1:(s.heap.push (freshT w)).IsList l vs.toArray:=⟨_,getL',rfl,epL,rfl⟩
    unfold Builtin.«set.__init__» noKeywords Builtin.Frozenset.updateFrom
    generalize keepPI:pyIter=PI
    wp_walk
    subst keepPI
    refine aO2 isL1 ?_
    refine aA1 (wpAny_runValue ?_)
    have lS:l<s.heap.objs.size:=aB5 getL
    have h3:A.in1.in1.in1.handled=none:=by simp[hh]
    have zI:(s.heap.push (freshT w)).objs.size=s.heap.objs.size+1:=aI9 ..
    refine b1m (S:=s.heap.objs.size) (by simp[hh]) tx hb (by rw[zI];exact aC8 (aM1 _)) (aJ4 lS) (by rw[zI];exact aC8 (aJ7 lS))
     (vs.length-0) 0 _ rfl (aG4 _) ⟨_,aC0 _ rfl,rfl,rfl⟩ (isL1.push _) ?hS0 ?hR
    case hS0=>exact b3i (aA6 _ atS)
    case hR=>
     intro h' tk' kp isS
     show wpAny _ _ _ _ _ _
     refine aA9 ?_
     show wpAny _ _ (ret Value.none) _ _ _
     refine aA9 ⟨rfl,h',tk',rfl,isS,fun b o e=>?_⟩
     have bl:=aB5 e
     exact kp b o (aC8 bl) (by rw[zI];exact aC8 (aJ7 bl)) (aA6 _ (aA6 _ e))
   ·cases res with
    | error e=>exact rb
    | ok flow=>
     cases flow with
     | ret r=>
      obtain⟨rfl,h',tk,rfl,isS,old⟩:=rb
      repeat (any_goals (first | assumption | wp_step))
      exact h _ _ isS old
     | _=>exact rb.elim
  | _=>exact ra.elim
end
open PySem PySem.Spec PyProof.Rows
set_option maxRecDepth 100000
theorem a0j{α:Type}:∀(l:List α) (i:Nat) (h:i<l.length),(l[i]::l.eraseIdx i).Perm l
 | x::l,0,_=>List.Perm.refl _
 | x::l,i+1,h=>by
  have ih:=a0j l i (by simpa using h)
  rw[List.getElem_cons_succ,aK9]
  exact(List.Perm.swap _ _ _).trans (ih.cons x)
theorem a0W{α:Type}(nx:Nat→Nat):∀(n k:Nat) (l:List α) (out:Array α),n=l.length→(pickOrder.go nx n k l out).toList.Perm (out.toList++l)
 | 0,k,l,out,e=>by
  have:l=[]:=aJ0 e.symm
  subst this;rw[pickOrder.go,aH1]
 | n+1,k,l,out,e=>by
  rw[pickOrder.go]
  have lt:nx k % l.length<l.length:=Nat.mod_lt _ (by omega)
  rw[List.getElem?_eq_getElem lt]
  dsimp only
  refine(a0W nx n (k+1) _ _ (by rw[List.length_eraseIdx_of_lt lt];omega)).trans ?_
  rw[Array.toList_push,aG1]
  refine List.Perm.append_left _ ?_
  exact a0j l _ lt
theorem a6e{α:Type}(nx:Nat→Nat)(xs:Array α):(pickOrder nx xs).toList.Perm xs.toList:=by
 have:=a0W nx xs.size 0 xs.toList #[] (by simp)
 simpa [pickOrder] using this
section
variable{prog:Program}{w:World}{A:Around}{E:Value→Shared→Prop}{s:Shared}
theorem b9l{es:Array (Int×Value)}(e:S8 w es.toList){β:Type}{f:Int×Value→β→Sem (ForInStep β)}{b:β}(hf:∀x∈es.toList,f x b=pure (.yield b)) :
  (forIn es b f:Sem β)=pure b:=by
 rw[←Array.forIn_toList]
 generalize es.toList=l at hf
 clear e
 induction l with
 | nil=>rfl
 | cons x l ih=>
  rw[aR5,hf x aD0]
  exact ih fun y hy=>hf y (aC4 _ hy)
theorem O6{a:Addr}{ks:List Str}{Q:Array (Int×Value)→Shared→Prop}(I:IsT w s.heap a ks)(h:∀es:Array (Int×Value),S8 w es.toList→es.size=ks.length→Q es s) :
  wpAny (model prog w) A (setEntries a) Q E s:=by
 obtain⟨o,es,ep,t,ho,hx,hd,he,hp,hn,hb,hf,hl,hc⟩:=I
 unfold setEntries
 exact aA1 (aG5 ho hd hf (aA9 (h es he (by rw[←hp.length_eq,aA0,aF5]))))
theorem b7h:∀{l:List Addr} {Q:Bool→Shared→Prop},(∀a∈l,∃ks,IsT w s.heap a ks)→Q true s→wpAny (model prog w) A (setsQuiet l) Q E s:=by
 intro l Q hl h
 unfold setsQuiet
 induction l with
 | nil=>exact aA9 h
 | cons a l ih=>
  obtain⟨ks,I⟩:=hl a aD0
  have ih':=ih fun b hb=>hl b (aC4 _ hb)
  dsimp only at ih' ⊢
  rw[aR5,bind_assoc]
  refine aA1 (aA1 (O6 I fun es he _=>?_))
  rw[b9l he (fun x hx=>by obtain⟨k,t,rfl⟩:=he x hx;rfl)]
  refine aA1 (aA9 ?_)
  exact aA9 ih'
end
open PySem PySem.Spec PyProof.Rows
set_option maxRecDepth 100000
section
variable{prog:Program}{w:World}{A:Around}{E:Value→Shared→Prop}{s:Shared}
theorem b5f{ds es:Array (Int×Value)}{ks:List Str}(p:ds.toList.Perm es.toList)(q:(es.toList.map txE).Perm ks):(ds.toList.map txE).Perm ks:=(p.map txE).trans q
theorem b0a{a b r:Addr}{ks js rs:List Str}{Q:Array (Int×Value)→Shared→Prop}(Ia:IsT w s.heap a ks)(Ib:IsT w s.heap b js)(Ir:IsT w s.heap r rs)
  (h:∀(ds:Array (Int×Value)) h',S8 w ds.toList→(ds.toList.map txE).Perm ks→Heap.SameBut r s.heap h'→IsT w h' r rs→Q ds { s with heap:=h' }) :
  wpAny (model prog w) A (setWalkUnseen a [b,r] (some r)) Q E s:=by
 obtain⟨o,es,ep,t,ho,hx,hd,he,hp,hn,hb,hf,hl,hc⟩:=id Ia
 have same:∀ds:Array (Int×Value),S8 w ds.toList→(ds.toList.map txE).Perm ks→Q ds s:=fun ds e1 p1=>h ds s.heap e1 p1 (aO3 _ _) Ir
 unfold setWalkUnseen
 refine aA1 (aG5 ho hd hf ?_)
 dsimp only
 refine aA1 (J7 ?_)
 by_cases c:(V8 w||(t.led&&t.plain)||decide (es.size≤1))=true
 ·rw[aB0 c]
  unfold setWalk
  refine aA1 (aG5 ho hd hf ?_)
  dsimp only
  refine aA1 (J7 ?_)
  cases hbt:V8 w with
  | true=>
   rw[aB0 rfl]
   refine aA1 (aP0 (aA9 ?_))
   exact same _ (he.of_perm (a6e _ _)) (b5f (a6e _ _) hp)
  | false=>
   rw[aA4 aC7]
   rw[hbt]at hl c
   have hl':t.led=true:=hl
   have nd:(!t.plain&&decide (es.size>1))=false:=by
    rw[hl']at c
    cases hpl:t.plain with
    | true=>rfl
    | false=>rw[hpl]at c;simp at c ⊢;exact c
   show wpAny _ _ (if (!t.plain&&decide (es.size>1))=true then _ else _) _ _ _
   rw[aA4 (by rw[nd];exact aC7)]
   show wpAny _ _ ((if (!t.led&&decide (es.size>1))=true then unsupported "set:maker-not-led" else pure ()) >>= _) _ _ _
   rw[aA4 (by rw[hl'];simp)]
   exact aA1 (aA9 (aA9 (same es he hp)))
 ·rw[aA4 c]
  refine aA1 (b7h (fun x hx=>?_) ?_)
  ·simp only[aB9,aG0,aL6]at hx
   rcases hx with rfl | rfl | rfl
   ·exact⟨_,Ia⟩
   ·exact⟨_,Ib⟩
   ·exact⟨_,Ir⟩
  ·simp only[Bool.not_true,aI8,aP1]
   refine aA1 (wpAny_rule ?_)
   obtain⟨o',es',ep',t',ho',hx',hd',he',hp',hn',hb',hf',hl',hc'⟩:=id Ir
   refine aA1 (aG5 ho' hd' hf' ?_)
   dsimp only
   split
   ·refine aA1 (wpAny_storeSet_of ho' hd' ?_ (aM4 hb'))
    have f2:({ t' with led:=t'.led&&t.led,plain:=t'.plain&&t.plain }:SetTable).fits es'.size=true:=by cases t';exact hf'
    have l2:({ t' with led:=t'.led&&t.led,plain:=t'.plain&&t.plain }:SetTable).led=!V8 w:=by
     show(t'.led&&t.led)=_
     rw[hl',hl,Bool.and_self]
    obtain⟨_,_,_,_,y⟩:=IsT.put ho' hx' hd' he' hp' hn' hb' f2 l2 (hc'.imp id fun z=>by show(t'.plain&&t.plain)=false;rw[z];rfl)
    exact aA9 (h es _ he hp (aH3 ..) y)
   ·exact aA9 (same es he hp)
def a2L(js:List Str)(ds:List Str)(rs:List Str):List Str:=ds.foldl (fun r k=>if k∈js then M5 r k else r) rs
theorem a7H{id:String}{wk b r:Addr}{js:List Str}(n1:b≠r)(n2:wk≠r)(nn:wk≠r):∀(ds:List (Int×Value)) (rs ks:List Str) (ep:Nat) (s:Shared) {Q:PUnit→Shared→Prop},
  S8 w ds→IsT w s.heap b js→IsT w s.heap wk ks→(∃o es t,s.heap.get? wk=some o∧o.data=.set es ep t∧t.fits es.size=true)→IsT w s.heap r rs→rs.length+ds.length+1<scanBound →
  (∀h',Heap.SameBut r s.heap h'→IsT w h' r (a2L js (ds.map txE) rs)→Q ⟨⟩ { s with heap:=h' }) →
  wpAny (model prog w) A (forIn ds PUnit.unit fun(e:Int×Value) (_:PUnit)=>do
    holding [e.2] do
     let f ←setFind b e.2 e.1
     if f.isSome=true then do
       let _ ←setAddHashed r e.2 e.1
       pure ()
      else pure ()
    Builtin.Frozenset.unchanged id wk ep
    pure (ForInStep.yield PUnit.unit)) Q E s
 | [],rs,ks,ep,s,Q,_,_,_,_,Ir,_,h=>aA9 (h s.heap (aO3 _ _) Ir)
 | e::ds,rs,ks,ep,s,Q,he,Ib,Iw,⟨ow,ew,tw,g1,g2,g3⟩,Ir,room,h=>by
  rw[aR5]
  obtain⟨k,tk,rfl⟩:=he e aD0
  have go:∀h1,Heap.SameBut r s.heap h1→IsT w h1 r (if k∈js then M5 rs k else rs) →
    wpAny (model prog w) A (Builtin.Frozenset.unchanged id wk ep >>= fun _=>pure (ForInStep.yield PUnit.unit)) (fun st s'=>st=ForInStep.yield PUnit.unit∧s'={ s with heap:=h1 }) E { s with heap:=h1 }:=fun h1 sb1 _=>by
   unfold Builtin.Frozenset.unchanged
   refine aA1 (aA1 (aQ6 ((sb1.2 wk n2).trans g1) g2 g3 ?_))
   rw[aA4 (by simp)]
   exact aA9 (aA9 ⟨rfl,rfl⟩)
  have rest:∀h1,Heap.SameBut r s.heap h1→IsT w h1 r (if k∈js then M5 rs k else rs)→wpAny (model prog w) A (forIn ds PUnit.unit fun(e:Int×Value) (_:PUnit)=>do
    holding [e.2] do
     let f ←setFind b e.2 e.1
     if f.isSome=true then do
       let _ ←setAddHashed r e.2 e.1
       pure ()
      else pure ()
    Builtin.Frozenset.unchanged id wk ep
    pure (ForInStep.yield PUnit.unit)) Q E { s with heap:=h1 }:=fun h1 sb1 I1=>by
   refine a7H n1 n2 nn ds _ ks ep _ (fun x hx=>he x (aC4 _ hx)) (Ib.at fun o q=>(sb1.2 b n1).trans q) (Iw.at fun o q=>(sb1.2 wk n2).trans q) ⟨ow,ew,tw,(sb1.2 wk n2).trans g1,g2,g3⟩ I1 ?_ fun h' sb' I'=>?_
   ·have a:=a4N rs k
    rw[aF0]at room
    split<;>omega
   ·exact h h' (sb1.trans sb') I'
  refine aA1 (aA1 (aK2 (aA1 (b8n Ib fun f hf=>?_))))
  by_cases hk:k∈js
  ·rw[hf,aC6 hk,aB0 rfl]
   rw[aF0]at room
   refine aA1 (a7W Ir (by omega) fun h1 sb1 I1=>aA9 ?_)
   have I1':IsT w h1 r (if k∈js then M5 rs k else rs):=by rw[aB0 hk];exact I1
   refine aH4 (go h1 sb1 I1') (fun st s' q=>?_) fun _ _ x=>x
   obtain⟨rfl,rfl⟩:=q
   exact rest h1 sb1 I1'
  ·rw[hf,aB7 hk,aA4 aC7]
   have I1':IsT w s.heap r (if k∈js then M5 rs k else rs):=by rw[aA4 hk];exact Ir
   refine aA9 (aH4 (go s.heap (aO3 _ _) I1') (fun st s' q=>?_) fun _ _ x=>x)
   obtain⟨rfl,rfl⟩:=q
   exact rest s.heap (aO3 _ _) I1'
end
open PySem PySem.Spec PyProof.Rows
set_option maxRecDepth 100000
theorem b8f:entryFor table "set.__and__"=some Builtin.«frozenset.__and__»:=
 entryFor_alias (id':="frozenset.__and__") (by kernel_rfl) rfl (by decide +kernel) (by kernel_rfl)
theorem a0I:∀(js ds rs:List Str) (x:Str),x∈a2L js ds rs↔x∈rs∨(x∈ds∧x∈js)
 | js,[],rs,x=>by simp[a2L]
 | js,d::ds,rs,x=>by
  have ih:=a0I js ds (if d∈js then M5 rs d else rs) x
  show x∈a2L js ds (if d∈js then M5 rs d else rs)↔_
  rw[ih,aB9]
  by_cases hd:d∈js
  ·rw[aB0 hd,a5R]
   constructor
   ·rintro((h | rfl) | ⟨h,k⟩)
    ·exact .inl h
    ·exact .inr ⟨.inl rfl,hd⟩
    ·exact .inr ⟨.inr h,k⟩
   ·rintro(h | ⟨rfl | h,k⟩)
    ·exact .inl (.inl h)
    ·exact .inl (.inr rfl)
    ·exact .inr ⟨h,k⟩
  ·rw[aA4 hd]
   constructor
   ·rintro(h | ⟨h,k⟩)
    ·exact .inl h
    ·exact .inr ⟨.inr h,k⟩
   ·rintro(h | ⟨rfl | h,k⟩)
    ·exact .inl h
    ·exact absurd k hd
    ·exact .inr ⟨h,k⟩
section
variable{prog:Program}{w:World}{A:Around}{E:Value→Shared→Prop}{s:Shared}
theorem a1E{v:Value}{Q:Bool→Shared→Prop}(hT:s.TypeIs v "set")(h:Q true s):wpAny (model prog w) A (Builtin.Frozenset.isAnySet v) Q E s:=by
 unfold Builtin.Frozenset.isAnySet
 refine aA1 (aO9 hT sub_set_self ?_)
 exact aA9 h
theorem a6u{a:Addr}{ks:List Str}{Q:Nat→Shared→Prop}(I:IsT w s.heap a ks)(h:Q ks.length s):wpAny (model prog w) A (Builtin.Frozenset.sizeOf a) Q E s:=by
 unfold Builtin.Frozenset.sizeOf
 exact aA1 (O6 I fun es _ e=>aA9 (by rw[e];exact h))
theorem b2m{id:String}{a b:Addr}{ks js:List Str}{Q:Value→Shared→Prop}(ne:b≠a)(Ia:IsT w s.heap a ks)(Ib:IsT w s.heap b js)(ra:ks.length+1<scanBound)(rb:js.length+1<scanBound)
  (h:∀h' rs,(∀x o,s.heap.get? x=some o→h'.get? x=some o)→IsT w h' s.heap.objs.size rs→(∀x,x∈rs↔x∈ks∧x∈js)→Q (.ref s.heap.objs.size) { s with heap:=h' }) :
  wpAny (model prog w) A (Builtin.Frozenset.intersection id a (.ref b)) Q E s:=by
 have nb:(Value.ref b==Value.ref a)=false:=by
  rw[aG2];intro z;injection z with z;exact ne z
 unfold Builtin.Frozenset.intersection
 rw[aA4 (by rw[nb];exact aC7)]
 unfold Builtin.Frozenset.baseOf
 refine aA1 (aA1 (aO9 Ia.ty sub_set_self (aA9 ?_)))
 rw[aB0 rfl]
 refine aA1 (b1s fun I0=>?_)
 refine aA1 (aA9 (aA1 (aK2 ?_)))
 generalize hh0:s.heap.push { cls:=.type "set",dict:=none,data:=.set #[] 0 (.fresh 0 0 (!V8 w)) }=h0 at I0 ⊢
 have k0:∀x o,s.heap.get? x=some o→h0.get? x=some o:=fun x o q=>by rw[←hh0];exact aA6 _ q
 have Ia0:IsT w h0 a ks:=Ia.at fun o q=>k0 a o q
 have Ib0:IsT w h0 b js:=Ib.at fun o q=>k0 b o q
 have la:a<s.heap.objs.size:=let ⟨_,_,_,_,q,_⟩:=Ia;aB5 q
 have lb:b<s.heap.objs.size:=let ⟨_,_,_,_,q,_⟩:=Ib;aB5 q
 have na:a≠s.heap.objs.size:=aC8 la
 have nb':b≠s.heap.objs.size:=aC8 lb
 refine aA1 (a1E (s:={ s with heap:=h0 }) Ib0.ty ?_)
 rw[aB0 rfl]
 refine aA1 (aA9 ?_)
 refine aA1 (a6u (s:={ s with heap:=h0 }) Ib0 ?_)
 refine aA1 (a6u (s:={ s with heap:=h0 }) Ia0 ?_)
 have both:∀(asked walked:Addr) (as ws:List Str),asked≠s.heap.objs.size→walked≠s.heap.objs.size→IsT w h0 asked as→IsT w h0 walked ws→ws.length+1<scanBound→(∀x,x∈as∧x∈ws↔x∈ks∧x∈js) →
   wpAny (model prog w) A (do
    let was ←setEpoch walked
    let es ←setWalkUnseen walked [asked,s.heap.objs.size] (some s.heap.objs.size)
    forIn es PUnit.unit fun(e:Int×Value) (_:PUnit)=>do
     holding [e.2] do
      let f ←setFind asked e.2 e.1
      if f.isSome=true then do
        let _ ←setAddHashed s.heap.objs.size e.2 e.1
        pure ()
       else pure ()
     Builtin.Frozenset.unchanged id walked was
     pure (ForInStep.yield PUnit.unit)
    pure ()) (fun _ s'=>Q (.ref s.heap.objs.size) s') E { s with heap:=h0 }:=by
  intro asked walked as ws n1 n2 Is Iw rw' hm
  obtain⟨o,es,ep,t,ho,hx,hd,he,hp,hn,hb,hf,hl,hc⟩:=(show IsT w h0 walked ws from Iw)
  refine aA1 (aQ6 (s:={ s with heap:=h0 }) ho hd hf ?_)
  refine aA1 (b0a (s:={ s with heap:=h0 }) Iw Is I0 fun ds h1 e1 p1 sb1 I1=>?_)
  rw[←Array.forIn_toList]
  have dl:ds.toList.length=ws.length:=by rw[←p1.length_eq,aA0]
  refine aA1 (a7H (js:=as) n1 n2 n2 ds.toList [] ws ep { s with heap:=h1 } e1 (Is.at fun o q=>(sb1.2 _ n1).trans q) (Iw.at fun o q=>(sb1.2 _ n2).trans q)
   ⟨o,es,t,(sb1.2 _ n2).trans ho,hd,hf⟩ I1 (by rw[dl];simpa using rw') fun h2 sb2 I2=>aA9 ?_)
  refine h h2 _ (fun x o q=>?_) I2 fun x=>?_
  ·have nx:x≠s.heap.objs.size:=aC8 (aB5 q)
   exact(sb2.2 x nx).trans ((sb1.2 x nx).trans (k0 x o q))
  ·rw[a0I,p1.mem_iff,←hm x]
   constructor
   ·rintro(z | ⟨z1,z2⟩)
    ·cases z
    ·exact⟨z2,z1⟩
   ·rintro⟨z1,z2⟩;exact .inr ⟨z2,z1⟩
 by_cases c:js.length>ks.length
 ·rw[aB0 c]
  refine aH4 (both b a js ks nb' na Ib0 Ia0 ra fun x=>And.comm) (fun _ s' q=>?_) fun _ _ x=>x
  exact aA9 q
 ·rw[aA4 c]
  refine aH4 (both a b ks js na nb' Ia0 Ib0 rb fun x=>Iff.rfl) (fun _ s' q=>?_) fun _ _ x=>x
  exact aA9 q
theorem b0w{a b:Addr}{ks js:List Str}{Q:Value→Shared→Prop}(ne:b≠a)(Ia:IsT w s.heap a ks)(Ib:IsT w s.heap b js)(ra:ks.length+1<scanBound)(rb:js.length+1<scanBound)
  (h:∀h' rs,(∀x o,s.heap.get? x=some o→h'.get? x=some o)→IsT w h' s.heap.objs.size rs→(∀x,x∈rs↔x∈ks∧x∈js)→Q (.ref s.heap.objs.size) { s with heap:=h' }) :
  wpAny (model prog w) A (binaryOp .BitAnd (.ref a) (.ref b)) Q E s:=by
 refine wpAny_binaryOp_same Ia.ty Ib.ty F.fills_set_and F.slot_set_and (aJ6 F.slot_set_and Ia.ty b8f ?_ (F.args_set_and_2 _ _))
 show wpAny _ _ (do
  let (self,other) ←Builtin.Frozenset.slot1 "__and__" ⟨[.ref a,.ref b],[]⟩
  let (l,r):=if false then(other,self) else(self,other)
  if !(←Builtin.Frozenset.isAnySet l <&&> Builtin.Frozenset.isAnySet r) then rule s!"frozenset.{"__and__"}.declined";return ←ret .notImplemented
  ret (←Builtin.Frozenset.intersection s!"frozenset.{"__and__"}" (←Builtin.Frozenset.addrOf l) r)) _ _ _
 refine aA1 (aA9 ?_)
 dsimp only
 rw[aA4 aC7]
 refine aA1 (aA1 (a1E Ia.ty ?_))
 refine a1E Ib.ty ?_
 rw[aA4 (by decide)]
 refine aA1 (aA9 (aA1 (b2m ne Ia Ib ra rb fun h' rs k I m=>?_)))
 exact aA9 ⟨_,rfl,(fun z=>nomatch z),h h' rs k I m⟩
end
open PySem PySem.Spec PyProof.Rows
set_option maxRecDepth 100000
theorem b8m:Manifest.owners.lookup (String.ofList ['r','o','t','a','r','e','t','i','_','t','e','s'].reverse)=some Manifest.sig_set_iterator:=by kernel_rfl
theorem O4:Slot "set_iterator" "__next__" "set_iterator.__next__":=
 .of (owner:="set_iterator") (n:="__next__") (by rw[typeLookup_type,aT5];kernel_rfl) (by decide +kernel)
  (by decide +kernel) (by decide +kernel) (.inl (by decide +kernel)) (by rw[isSubtype_type];kernel_rfl)
theorem a9j:entryFor table "set_iterator.__next__"=some Builtin.«set_iterator.__next__»:=entryFor_of_tree (by kernel_rfl)
theorem a6r(a:Value):argsOk "set_iterator.__next__" ⟨[a],[]⟩:=by
 unfold argsOk
 rw[signature?_of (id:="set_iterator.__next__") (n:=['_','_','t','x','e','n','_','_']) (o:=['r','o','t','a','r','e','t','i','_','t','e','s']) (by kernel_rfl) b8m]
 kernel_rfl
theorem a4U:entryFor table "set.__iter__"=some Builtin.«frozenset.__iter__»:=
 entryFor_alias (id':="frozenset.__iter__") (by kernel_rfl) rfl (by decide +kernel) (by kernel_rfl)
def itO(first:Value)(i:Nat)(a:Addr)(n ep:Nat):Obj:={ cls:=.type "set_iterator",data:=.fields #[first,rawInt i,.ref a,rawInt n,rawInt ep] }
section
variable{prog:Program}{w:World}{A:Around}{E:Value→Shared→Prop}{s:Shared}
theorem a7P{Q:Option Value→Shared→Prop}{s₁:Shared}(hh:A.handled=none)(q:∀h',(∀b o,s₁.heap.get? b=some o→h'.get? b=some o)→Q none { s₁ with heap:=h' }) :
  wpAny (model prog w) A.in1 (do raiseNew (←newExc (.type "StopIteration") []):Sem Fin)
   (fun fin s'=>∃r,fin=Fin.done (.ret r)∧wpAny (model prog w) A (pure (some r)) Q E s')
   (fun e s'=>wpAny (model prog w) A (do if ←isInstance e (.type "StopIteration") then pure none else throw e) Q E s') s₁:=by
 refine aA1 ?_
 simp only[newExc,newTuple]
 refine aA1 (aI6 ?_ (by size_fits))
 refine aA1 (m:=firstArgMember _ _) (wpAny_of_eq (a:=Value.none) (by first | rfl | (simp only[firstArgMember];rfl)) ?_)
 refine aI6 ?_ (by size_fits)
 simp only[raiseNew]
 refine aA1 (wpAny_handled ?_)
 rw[show A.in1.handled=none from hh]
 refine aA1 (aA9 (wpAny_throw ?_))
 refine aA1 (aO9 (T:="StopIteration") (b:=true) ⟨_,aC0 _ rfl,rfl⟩ isSubtype_stop ?_)
 exact aA9 (q _ fun b o e=>aA6 _ (aA6 _ e))
theorem b7e{h:Heap}{I:Addr}{first x:Value}{i a n ep:Nat}(e:h.get? I=some (itO first i a n ep))(j:Nat) :
  (h.update I (Obj.mapFields (·.setIfInBounds j x))).get? I=some { cls:=.type "set_iterator",data:=.fields (#[first,rawInt i,.ref a,rawInt n,rawInt ep].setIfInBounds j x) }:=
 aG3 _ e rfl
theorem a5G{I a:Addr}{sl i n ep nx:Nat}{x:Value}{Q:Option Value→Shared→Prop}(hi:s.heap.get? I=some (itO (rawInt sl) i a n ep)){ks:List Str}(Ia:IsT w s.heap a ks)(hn:ks.length=n)
  (hnx:∀(A:Around) (Q:Option (Value×Nat)→Shared→Prop) (E:Value→Shared→Prop),Q (some (x,nx)) s→wpAny (model prog w) A (setNext a sl i ep) Q E s)
  (h:∀h',Heap.SameBut I s.heap h'→h'.get? I=some (itO (rawInt nx) (i+1) a n ep)→Q (some x) { s with heap:=h' }):wpAny (model prog w) A (pyNext (.ref I)) Q E s:=by
 have ty:s.TypeIs (.ref I) "set_iterator":=⟨_,hi,rfl⟩
 unfold pyNext
 refine aA1 (wpAny_attempt (aN4 (name:=Str.ofString "__next__") ty O4 (aJ6 O4 ty a9j ?_ (a6r _))))
 unfold Builtin.«set_iterator.__next__»
 refine aA1 (m:=slotArgs "__next__" 0 _) (aA9 ?_)
 refine aA1 (wpAny_fieldsOf hi rfl ?_)
 dsimp only[rawInt]
 refine aA1 (O6 Ia fun es _ sz=>?_)
 rw[aA4 (by rw[sz,hn];simp)]
 refine aA1 ?_
 simp only[aL8]
 refine hnx _ _ _ ?_
 dsimp only
 refine aA1 (aO5 hi rfl (by simp) ?_)
 have g1:=b7e (x:=rawInt nx) hi 0
 refine aA1 (aO5 (s:={ s with heap:=s.heap.update I (Obj.mapFields (·.setIfInBounds 0 (rawInt nx))) }) g1 rfl (by simp) ?_)
 refine aA9 ⟨x,rfl,aA9 (h _ ((aH3 ..).trans (aH3 ..)) ?_)⟩
 exact aG3 _ g1 rfl
theorem a6l{I a:Addr}{sl i n ep:Nat}{Q:Option Value→Shared→Prop}(hh:A.handled=none)(hi:s.heap.get? I=some (itO (rawInt sl) i a n ep)){ks:List Str}(Ia:IsT w s.heap a ks)(hn:ks.length=n)
  (hnx:∀(A:Around) (Q:Option (Value×Nat)→Shared→Prop) (E:Value→Shared→Prop),Q none s→wpAny (model prog w) A (setNext a sl i ep) Q E s)
  (h:∀h',Heap.ExtBut I s.heap h'→Q none { s with heap:=h' }):wpAny (model prog w) A (pyNext (.ref I)) Q E s:=by
 have ty:s.TypeIs (.ref I) "set_iterator":=⟨_,hi,rfl⟩
 unfold pyNext
 refine aA1 (wpAny_attempt (aN4 (name:=Str.ofString "__next__") ty O4 (aJ6 O4 ty a9j ?_ (a6r _))))
 unfold Builtin.«set_iterator.__next__»
 refine aA1 (m:=slotArgs "__next__" 0 _) (aA9 ?_)
 refine aA1 (wpAny_fieldsOf hi rfl ?_)
 dsimp only[rawInt]
 refine aA1 (O6 Ia fun es _ sz=>?_)
 rw[aA4 (by rw[sz,hn];simp)]
 refine aA1 ?_
 simp only[aL8]
 refine hnx _ _ _ ?_
 dsimp only
 refine aA1 (aO5 hi rfl (by simp) ?_)
 refine a7P (s₁:={ s with heap:=s.heap.update I _ }) hh fun h' k=>?_
 exact h h' fun b o hb e=>k b o ((aH3 ..).extBut b o hb e)
theorem b3b{I a P:Addr}{i n ep p:Nat}{x:Value}{hs:Int}{ps:List Nat}{Q:Option Value→Shared→Prop}(hi:s.heap.get? I=some (itO (.ref P) i a n ep)){ks:List Str}(Ia:IsT w s.heap a ks)(hn:ks.length=n)
  {oP:Obj} {nP:Nat} (hP:s.heap.get? P=some oP) (hd:oP.data=.seq (ps.map fun(j:Nat)=>rawInt j).toArray nP) (hp:ps[i]?=some p)
  {o:Obj} {es:Array (Int×Value)} {t:SetTable} (ho:s.heap.get? a=some o) (hod:o.data=.set es ep t) (hf:t.fits es.size=true) (hx:es[p]?=some (hs,x))
  (h:∀h',Heap.SameBut I s.heap h'→h'.get? I=some (itO (.ref P) (i+1) a n ep)→Q (some x) { s with heap:=h' }):wpAny (model prog w) A (pyNext (.ref I)) Q E s:=by
 have ty:s.TypeIs (.ref I) "set_iterator":=⟨_,hi,rfl⟩
 unfold pyNext
 refine aA1 (wpAny_attempt (aN4 (name:=Str.ofString "__next__") ty O4 (aJ6 O4 ty a9j ?_ (a6r _))))
 unfold Builtin.«set_iterator.__next__»
 refine aA1 (m:=slotArgs "__next__" 0 _) (aA9 ?_)
 refine aA1 (wpAny_fieldsOf hi rfl ?_)
 dsimp only[rawInt]
 refine aA1 (O6 Ia fun es _ sz=>?_)
 rw[aA4 (by rw[sz,hn];simp)]
 refine aA1 (aM9 hP hd ?_)
 simp only[aL8]
 have e1:(ps.map fun(j:Nat)=>rawInt j).toArray[i]?=some (Value.int (p:Int) 0):=by simp[hp,rawInt]
 rw[e1]
 dsimp only
 unfold setNextDrawn
 refine aA1 (aA1 (aG5 ho hod hf ?_))
 dsimp only
 rw[aA4 (by simp)]
 simp only[aL8,hx]
 refine aA9 ?_
 refine aA1 (aO5 hi rfl (by simp) ?_)
 refine aA9 ⟨x,rfl,aA9 (h _ (aH3 ..) ?_)⟩
 exact aG3 _ hi rfl
theorem a5F{I a P:Addr}{i n ep:Nat}{ps:List Nat}{Q:Option Value→Shared→Prop}(hh:A.handled=none)(hi:s.heap.get? I=some (itO (.ref P) i a n ep)){ks:List Str}(Ia:IsT w s.heap a ks)(hn:ks.length=n)
  {oP:Obj} {nP:Nat} (hP:s.heap.get? P=some oP) (hd:oP.data=.seq (ps.map fun(j:Nat)=>rawInt j).toArray nP) (hp:ps.length≤i)
  (h:∀h',Heap.ExtBut I s.heap h'→Q none { s with heap:=h' }):wpAny (model prog w) A (pyNext (.ref I)) Q E s:=by
 have ty:s.TypeIs (.ref I) "set_iterator":=⟨_,hi,rfl⟩
 unfold pyNext
 refine aA1 (wpAny_attempt (aN4 (name:=Str.ofString "__next__") ty O4 (aJ6 O4 ty a9j ?_ (a6r _))))
 unfold Builtin.«set_iterator.__next__»
 refine aA1 (m:=slotArgs "__next__" 0 _) (aA9 ?_)
 refine aA1 (wpAny_fieldsOf hi rfl ?_)
 dsimp only[rawInt]
 refine aA1 (O6 Ia fun es _ sz=>?_)
 rw[aA4 (by rw[sz,hn];simp)]
 refine aA1 (aM9 hP hd ?_)
 simp only[aL8]
 have e1:(ps.map fun(j:Nat)=>rawInt j).toArray[i]?=none:=by simp[hp]
 rw[e1]
 dsimp only
 refine aA1 (aO5 hi rfl (by simp) ?_)
 have g1:=b7e (x:=rawInt 0) hi 0
 refine aA1 (aO5 (s:={ s with heap:=s.heap.update I (Obj.mapFields (·.setIfInBounds 0 (rawInt 0))) }) g1 rfl (by simp) ?_)
 refine a7P (s₁:={ s with heap:=(s.heap.update I _).update I _ }) hh fun h' k=>?_
 exact h h' fun b o hb e=>k b o (((aH3 ..).trans (aH3 ..)).extBut b o hb e)
end
open PySem PySem.Spec PyProof.Rows
set_option maxRecDepth 100000
structure Nx(prog:Program)(w:World)(I:Addr)(fp:List Addr)(vs:List Value)(St:Nat→Heap→Prop):Prop where
 frame:∀i h h',St i h→(∀b∈I::fp,∀o,h.get? b=some o→h'.get? b=some o)→St i h'
 item:∀(A:Around) (i:Nat) (s:Shared) (Q:Option Value→Shared→Prop) (E:Value→Shared→Prop) (lt:i<vs.length),St i s.heap →
  (∀h',Heap.SameBut I s.heap h'→St (i+1) h'→Q (some vs[i]) { s with heap:=h' })→wpAny (model prog w) A (pyNext (.ref I)) Q E s
 done:∀(A:Around) (s:Shared) (Q:Option Value→Shared→Prop) (E:Value→Shared→Prop),A.handled=none→St vs.length s.heap →
  (∀h',Heap.ExtBut I s.heap h'→Q none { s with heap:=h' })→wpAny (model prog w) A (pyNext (.ref I)) Q E s
section
variable{prog:Program}{w:World}{A:Around}{E:Value→Shared→Prop}{s:Shared}
theorem b4c{src:Source}{n:Nat}{Q:Nat→Shared→Prop}(hn:n≠0)(h:∀k d',k<n→Q k { s with drawn:=d' }):wpAny (model prog w) A (choose src n) Q E s:=
 fun _ _ _=>⟨hn,h _ _ (Nat.mod_lt _ (Nat.pos_of_ne_zero hn))⟩
theorem a8R{α:Type}:∀(n:Nat) (xs:List α) (s:Shared) {Q:List α→Shared→Prop},n=xs.length→(∀ys d',ys.Perm xs→Q ys { s with drawn:=d' })→wpAny (model prog w) A (drawOrder n xs) Q E s
 | 0,xs,s,Q,e,h=>by
  have:xs=[]:=aJ0 e.symm
  subst this
  exact aA9 (h [] s.drawn (List.Perm.refl _))
 | n+1,[],s,Q,e,h=>by simp at e
 | n+1,x::xs,s,Q,e,h=>by
  unfold drawOrder
  refine aA1 (b4c (by simp) fun k d hk=>?_)
  rw[List.getElem?_eq_getElem hk]
  dsimp only
  refine aA1 (a8R n _ _ (by rw[List.length_eraseIdx_of_lt hk];omega) fun ys d' p=>?_)
  exact aA9 (h _ d' ((p.cons _).trans (a0j (x::xs) k hk)))
theorem b7s{I a:Addr}{o:Obj}{es:Array (Int×Value)}{ep:Nat}{t:SetTable}{ks:List Str}(hb:V8 w=true)(hd:o.data=.set es ep t)(hf:t.fits es.size=true)(mk:∀h:Heap,h.get? a=some o→IsT w h a ks)(hn:ks.length=es.size)(ne:a≠I) :
  Nx prog w I [a] ((pickOrder (w.params.setOrder a ep) es).toList.map (·.2)) (fun i h=>h.get? I=some (itO (rawInt (0:Nat)) i a es.size ep)∧h.get? a=some o) where
 frame:=fun i h h' st k=>⟨k I (by simp) _ st.1,k a (by simp) _ st.2⟩
 item:=fun A i s Q E lt st q=>by
  rw[aA0]at lt
  refine a5G (nx:=0) (x:=((pickOrder (w.params.setOrder a ep) es).toList[i]).2) st.1 (mk _ st.2) hn (fun A' Q' E' q'=>?_) fun h' sb g=>?_
  ·unfold setNext
   refine aA1 (aG5 st.2 hd hf ?_)
   dsimp only
   refine aA1 (J7 ?_)
   rw[hb,aB0 rfl,aA4 (by simp)]
   unfold setWalk
   refine aA1 (aA1 (aG5 st.2 hd hf ?_))
   dsimp only
   refine aA1 (J7 ?_)
   rw[hb,aB0 rfl]
   refine aA1 (aP0 (aA9 (aA9 ?_)))
   have e:(pickOrder (w.params.setOrder a ep) es)[i]?=some ((pickOrder (w.params.setOrder a ep) es).toList[i]):=by
    rw[←aL5];exact List.getElem?_eq_getElem lt
   show Q' (((pickOrder (w.params.setOrder a ep) es)[i]?).map fun e=>(e.2,0)) s
   rw[e];exact q'
  ·have:=q h' sb ⟨g,(sb.2 a ne).trans st.2⟩
   rw[List.getElem_map]at this
   exact this
 done:=fun A s Q E hh st q=>by
  rw[aA0]at st
  refine a6l hh st.1 (mk _ st.2) hn (fun A' Q' E' q'=>?_) fun h' eb=>q h' eb
  unfold setNext
  refine aA1 (aG5 st.2 hd hf ?_)
  dsimp only
  refine aA1 (J7 ?_)
  rw[hb,aB0 rfl,aA4 (by simp)]
  unfold setWalk
  refine aA1 (aA1 (aG5 st.2 hd hf ?_))
  dsimp only
  refine aA1 (J7 ?_)
  rw[hb,aB0 rfl]
  refine aA1 (aP0 (aA9 (aA9 ?_)))
  show Q' (((pickOrder (w.params.setOrder a ep) es)[(pickOrder (w.params.setOrder a ep) es).toList.length]?).map fun e=>(e.2,0)) s
  rw[show(pickOrder (w.params.setOrder a ep) es)[(pickOrder (w.params.setOrder a ep) es).toList.length]?=none by simp]
  exact q'
theorem b8q{I a P:Addr}{o oP:Obj}{es:Array (Int×Value)}{ep nP:Nat}{t:SetTable}{ks:List Str}{ps:List Nat}(hd:o.data=.set es ep t)(hf:t.fits es.size=true)(mk:∀h:Heap,h.get? a=some o→IsT w h a ks)(hn:ks.length=es.size)(ne:a≠I)(np:P≠I)
  (hP:oP.data=.seq (ps.map fun(j:Nat)=>rawInt j).toArray nP) (hps:∀p∈ps,p<es.size) :
  Nx prog w I [a,P] (ps.map fun p=>(es.getD p (0,.none)).2) (fun i h=>h.get? I=some (itO (.ref P) i a es.size ep)∧h.get? a=some o∧h.get? P=some oP) where
 frame:=fun i h h' st k=>⟨k I (by simp) _ st.1,k a (by simp) _ st.2.1,k P (by simp) _ st.2.2⟩
 item:=fun A i s Q E lt st q=>by
  rw[aA0]at lt
  have lp:=hps ps[i] (aG8 lt)
  refine b3b (x:=(es.getD ps[i] (0,.none)).2) (hs:=(es.getD ps[i] (0,.none)).1) (p:=ps[i]) st.1 (mk _ st.2.1) hn st.2.2 hP (List.getElem?_eq_getElem lt) st.2.1 hd hf (by simp[Array.getD,lp]) fun h' sb g=>?_
  have:=q h' sb ⟨g,(sb.2 a ne).trans st.2.1,(sb.2 P np).trans st.2.2⟩
  rw[List.getElem_map]at this
  exact this
 done:=fun A s Q E hh st q=>by
  rw[aA0]at st
  exact a5F hh st.1 (mk _ st.2.1) hn st.2.2 hP (aB3 _) fun h' eb=>q h' eb
theorem a0H(j sl:Nat):SetTable.below #[j] sl=if j<sl then 1 else 0:=by
 unfold SetTable.below
 show SetTable.below.go #[j] sl 1 0 1=_
 unfold SetTable.below.go
 simp only[Nat.zero_lt_one,aQ5]
 show(if j<sl then SetTable.below.go #[j] sl 0 1 1 else SetTable.below.go #[j] sl 0 0 0)=_
 split<;>rfl
theorem b2n{I a:Addr}{o:Obj}{es:Array (Int×Value)}{ep:Nat}{t:SetTable}{ks:List Str}(hb:V8 w=false)(hd:o.data=.set es ep t)(hf:t.fits es.size=true)(hl:t.led=true)(sm:es.size≤1)(mk:∀h:Heap,h.get? a=some o→IsT w h a ks)(hn:ks.length=es.size)(ne:a≠I) :
  Nx prog w I [a] (es.toList.map (·.2)) (fun i h=>h.get? I=some (itO (rawInt (if i=0 then 0 else t.place.getD 0 0+1:Nat)) i a es.size ep)∧h.get? a=some o):=by
 have pz:t.place.size=es.size:=by simp only[SetTable.fits,aF2,aP7]at hf;exact hf.1
 have pre:∀(sl i:Nat) (s:Shared) (r:Option (Value×Nat)) (A':Around) (Q':Option (Value×Nat)→Shared→Prop) (E':Value→Shared→Prop),s.heap.get? a=some o →
   (match es[SetTable.below t.place sl]?,t.place[SetTable.below t.place sl]? with | some (_,x),some j=>some (x,j+1) | _,_=>none)=r→Q' r s→wpAny (model prog w) A' (setNext a sl i ep) Q' E' s:=by
  intro sl i s r A' Q' E' ho e q'
  unfold setNext
  refine aA1 (aG5 ho hd hf ?_)
  dsimp only
  refine aA1 (J7 ?_)
  rw[hb,aA4 aC7]
  show wpAny _ _ (if (!t.plain&&decide (es.size>1))=true then _ else _) _ _ _
  rw[aA4 (by simp;intro _;exact sm)]
  show wpAny _ _ ((if (!t.led&&!es.isEmpty)=true then unsupported "set:maker-not-led" else pure ()) >>= _) _ _ _
  rw[aA4 (by rw[hl];simp)]
  refine aA1 (aA9 (aA9 ?_))
  rw[←e]at q'
  exact q'
 refine⟨fun i h h' st k=>⟨k I (by simp) _ st.1,k a (by simp) _ st.2⟩,fun A i s Q E lt st q=>?_,fun A s Q E hh st q=>?_⟩
 ·rw[aA0,aF5]at lt
  have i0:i=0:=by omega
  have z1:es.size=1:=by omega
  subst i0
  obtain⟨e0,he0⟩:∃e0,es=#[e0]:=aN8.mp z1
  obtain⟨j,hj⟩:∃j,t.place=#[j]:=aN8.mp (pz.trans z1)
  subst he0
  refine a5G (nx:=j+1) (x:=e0.2) st.1 (mk _ st.2) hn (fun A' Q' E' q'=>?_) fun h' sb g=>?_
  ·refine pre _ _ s _ A' Q' E' st.2 ?_ q'
   rw[hj,aB0 rfl,a0H,aA4 (aR2 _)]
   rfl
  ·refine q h' sb ⟨?_,(sb.2 a ne).trans st.2⟩
   rw[hj,aA4 (by omega)]
   exact g
 ·rw[aA0,aF5]at st
  refine a6l hh st.1 (mk _ st.2) hn (fun A' Q' E' q'=>?_) fun h' eb=>q h' eb
  refine pre _ _ s _ A' Q' E' st.2 ?_ q'
  by_cases z:es.size=0
  ·rw[aB0 z]
   have e0:es=#[]:=Array.size_eq_zero_iff.mp z
   have p0:t.place=#[]:=Array.size_eq_zero_iff.mp (pz.trans z)
   rw[e0,p0];rfl
  ·rw[aA4 z]
   have z1:es.size=1:=by omega
   obtain⟨e0,he0⟩:∃e0,es=#[e0]:=aN8.mp z1
   obtain⟨j,hj⟩:∃j,t.place=#[j]:=aN8.mp (pz.trans z1)
   rw[hj,he0]
   show(match #[e0][SetTable.below #[j] (j+1)]?,#[j][SetTable.below #[j] (j+1)]? with | some (_,x),some j=>some (x,j+1) | _,_=>none)=none
   rw[a0H,aB0 (aM1 _)]
   rfl
end
open PySem PySem.Spec PyProof.Rows
set_option maxRecDepth 100000
def Tells(vs:List Value)(ks:List Str):Prop:=∃us,U5 vs us∧us.Perm ks
theorem tells_of{w:World}:∀{es:List (Int×Value)},S8 w es→U5 (es.map (·.2)) (es.map txE)
 | [],_=>.nil
 | e::es,h=>by
  obtain⟨k,t,q⟩:=h e aD0
  exact .cons ⟨t,by subst q;rfl⟩ (tells_of fun x hx=>h x (aC4 _ hx))
theorem a8F{es:Array (Int×Value)}:(List.range es.size).map (fun p=>es.getD p (0,.none))=es.toList:=by
 apply List.ext_getElem
 ·simp
 ·intro i h1 h2
  simp at h1
  simp[Array.getD,h1]
section
variable{prog:Program}{w:World}{A:Around}{E:Value→Shared→Prop}{s:Shared}
theorem b3k{a:Addr}{ks:List Str}{Q:Value→Shared→Prop}(Ia:IsT w s.heap a ks)
  (h:∀(I:Addr) (fp:List Addr) (vs:List Value) (St:Nat→Heap→Prop) (h':Heap) (d':Drawn),Nx prog w I fp vs St→St 0 h'→(∀b o,s.heap.get? b=some o→h'.get? b=some o)→s.heap.objs.size≤I→(∀b∈fp,b=a∨s.heap.objs.size≤b)→Tells vs ks →
   Q (.ref I) { s with heap:=h',drawn:=d' }):wpAny (model prog w) A (pyIter (.ref a)) Q E s:=by
 obtain⟨o,es,ep,t,ho,hx,hd,he,hp,hn,hb,hf,hl,hc⟩:=id Ia
 have mk:∀h1:Heap,h1.get? a=some o→IsT w h1 a ks:=fun h1 e=>⟨o,es,ep,t,e,hx,hd,he,hp,hn,hb,hf,hl,hc⟩
 have sz:ks.length=es.size:=by rw[←hp.length_eq,aA0,aF5]
 have la:a<s.heap.objs.size:=aB5 ho
 refine wpAny_pyIter_slot Ia.ty F.slot_set_iter (aJ6 F.slot_set_iter Ia.ty a4U ?_ (F.args_set_iter_1 _))
 unfold Builtin.«frozenset.__iter__» Builtin.Frozenset.slot0
 refine aA1 (aA1 (m:=slotArgs "__iter__" 0 _) (aA9 (aA9 ?_)))
 refine aA1 (a6u Ia ?_)
 unfold setDrawn
 refine aA1 (aA1 (aG5 ho hd hf ?_))
 dsimp only
 refine aA1 (J7 (aA9 ?_))
 show wpAny _ _ (if (!V8 w&&(!t.plain&&decide (es.size>1)))=true then _ else _) _ _ _
 by_cases c:(!V8 w&&(!t.plain&&decide (es.size>1)))=true
 ·rw[aB0 c]
  refine aA1 (a8R _ _ _ (by simp) fun ps d' pp=>?_)
  have psz:ps.length=es.size:=by rw[pp.length_eq,List.length_range,sz]
  have zl:(ps.map fun(i:Nat)=>rawInt i).length≤sizeLine:=by rw[aA0,psz];exact aM4 hb
  refine aA1 (wpAny_newTuple ?_ zl)
  generalize hh1:s.heap.push { cls:=.type "tuple",data:=.seq (ps.map fun(i:Nat)=>rawInt i).toArray }=h1
  have k1:∀b o,s.heap.get? b=some o→h1.get? b=some o:=fun b o e=>by rw[←hh1];exact aA6 _ e
  have g1:h1.get? s.heap.objs.size=some { cls:=.type "tuple",data:=.seq (ps.map fun(i:Nat)=>rawInt i).toArray }:=by rw[←hh1];exact aC0 _ rfl
  have z1:h1.objs.size=s.heap.objs.size+1:=by rw[←hh1];exact aI9 ..
  refine aA1 (aQ6 (s:={ s with heap:=h1,drawn:=d' }) (k1 a o ho) hd hf ?_)
  refine aA1 (aI6 (aA9 ⟨_,rfl,"set_iterator",_,⟨_,aC0 _ rfl,rfl⟩,O4.lookup,?_⟩))
  refine h h1.objs.size _ _ _ _ d' (b8q (P:=s.heap.objs.size) (ps:=ps) (oP:={ cls:=.type "tuple",data:=.seq (ps.map fun(i:Nat)=>rawInt i).toArray }) (nP:=0) hd hf mk sz (by rw[z1];exact aC8 (aJ7 la)) (by rw[z1];exact aC8 (aM1 _)) rfl fun p hp'=>?_) ⟨?_,?_,?_⟩ (fun b o e=>aA6 _ (k1 b o e)) (by rw[z1];exact aN2 _) (fun b hb'=>?_) ?_
  ·have:=pp.mem_iff.mp hp'
   rw[aP6,sz]at this
   exact this
  ·rw[←sz];exact aC0 _ rfl
  ·exact aA6 _ (k1 a o ho)
  ·exact aA6 _ g1
  ·simp only[aB9,aG0,aL6]at hb'
   exact hb'.imp id fun e=>by rw[e];exact aB3 _
  ·have q:(ps.map fun p=>es.getD p (0,.none)).Perm es.toList:=by
    have:=pp.map (fun p=>es.getD p (0,Value.none))
    rw[sz,a8F]at this
    exact this
   have q2:(ps.map fun p=>(es.getD p (0,.none)).2)=(ps.map fun p=>es.getD p (0,.none)).map (·.2):=by rw[aE3];rfl
   rw[q2]
   exact⟨_,tells_of (he.of_perm q),(q.map txE).trans hp⟩
 ·rw[aA4 c]
  refine aA1 (aA9 ?_)
  refine aA1 (aQ6 ho hd hf ?_)
  refine aA1 (aI6 (aA9 ⟨_,rfl,"set_iterator",_,⟨_,aC0 _ rfl,rfl⟩,O4.lookup,?_⟩))
  cases hbt:V8 w with
  | true=>
   refine h s.heap.objs.size _ _ _ _ s.drawn (b7s hbt hd hf mk sz (aC8 la)) ⟨?_,aA6 _ ho⟩ (fun b o e=>aA6 _ e) (aB3 _) (fun b hb'=>.inl (by simpa using hb')) ?_
   ·rw[←sz];exact aC0 _ rfl
   ·exact⟨_,tells_of (he.of_perm (a6e _ _)),b5f (a6e _ _) hp⟩
  | false=>
   rw[hbt]at c hl
   have sm:es.size≤1:=by
    rcases hc with z | z
    ·omega
    ·rw[z]at c;simp at c;exact c
   refine h s.heap.objs.size _ _ _ _ s.drawn (b2n hbt hd hf hl sm mk sz (aC8 la)) ⟨?_,aA6 _ ho⟩ (fun b o e=>aA6 _ e) (aB3 _) (fun b hb'=>.inl (by simpa using hb')) ?_
   ·rw[←sz];exact aC0 _ rfl
   ·exact⟨_,tells_of he,hp⟩
theorem b9m{R:Result→Shared→Prop}(hh:A.handled=none){S I:Addr}{fp:List Addr}{vs:List Value}{St:Nat→Heap→Prop}(W:Nx prog w I fp vs St)(hz:vs.length≤sizeLine)(n1:S≠I)(n2:S∉fp)(res:Value) :
  ∀(d i:Nat) (s:Shared) (c:Nat),vs.length-i=d→i≤vs.length→St i s.heap→s.heap.get? S=some { cls:=.type "list",data:=.seq (vs.take i).toArray c } →
   (∀h' c',(∀b o,b≠S→b≠I→s.heap.get? b=some o→h'.get? b=some o)→h'.get? S=some { cls:=.type "list",data:=.seq vs.toArray c' }→R (.ok (.ret res)) { s with heap:=h' }) →
   codeAny (model prog w) A (.builtin "list.extend.loop" ⟨[.ref S,.ref I,res],[]⟩) R s:=by
 intro d
 induction d with
 | zero=>
  intro i s c e1 e2 st hS hR
  have en:i=vs.length:=by omega
  subst en
  refine aH0 F.entry_extend_loop ?_
  rw[aF6 aM5 _]
  show wpAny _ A.in1 (pyNext (.ref I) >>= _) _ _ s
  refine aA1 (W.done A.in1 s _ _ (by simpa using hh) st fun h' eb=>?_)
  refine aA9 (hR h' c (fun b o _ hb q=>eb b o hb q) ?_)
  rw[aE0]at hS
  exact eb S _ n1 hS
 | succ d ih=>
  intro i s c e1 e2 st hS hR
  have lt:i<vs.length:=by omega
  refine aH0 F.entry_extend_loop ?_
  rw[aF6 aM5 _]
  show wpAny _ A.in1 (pyNext (.ref I) >>= _) _ _ s
  refine aA1 (W.item A.in1 i s _ _ lt st fun h1 sb st1=>?_)
  have hS1:h1.get? S=some { cls:=.type "list",data:=.seq (vs.take i).toArray c }:=(sb.2 S n1).trans hS
  show wpAny _ A.in1 (updateSeq S (·.push vs[i]) >>= _) _ _ _
  refine aA1 (aN3 hS1 rfl (aA9 ⟨aH9 aM5 _,ih (i+1) _ (if ((vs.take i).toArray.push vs[i]).size==(vs.take i).toArray.size then c else c+1) (by omega) lt (W.frame _ _ _ st1 fun b hb o q=>?_) (aG3 _ hS1 rfl |>.trans ?_) fun h' c' kp g=>?_⟩) ?_ ?_)
  ·have nb:b≠S:=fun e=>by
    rw[e]at hb
    rcases aB9.mp hb with hb | hb
    ·exact n1 hb
    ·exact n2 hb
   exact(aF3 _ _ (Ne.symm nb)).trans q
  ·have:(vs.take i).toArray.push vs[i]=(vs.take (i+1)).toArray:=by
    rw[aD3,List.getElem?_eq_getElem lt];simp
   rw[←this];rfl
  ·exact hR h' c' (fun b o a1 a2 q=>kp b o a1 a2 ((aF3 _ _ (Ne.symm a1)).trans ((sb.2 b a2).trans q))) g
  ·simp;omega
  ·show((vs.take i).toArray.push vs[i]).size≤sizeLine+1
   simp;omega
end
open PySem PySem.Spec PyProof.Rows Srt
set_option maxRecDepth 100000
theorem a7Y:typeLookup (.type "set") "__len__"=pure (some (.builtin "set.__len__")):=F.slot_set_len.lookup
section
variable{prog:Program}{w:World}{A:Around}{E:Value→Shared→Prop}{s:Shared}
theorem a7U{a:Addr}{ks:List Str}{Q:List Value→Shared→Prop}(hh:A.handled=none)(Ia:IsT w s.heap a ks)
  (h:∀(vs:List Value) (h':Heap) (d':Drawn),Tells vs ks→s.heap.objs.size<h'.objs.size→(∀b o,s.heap.get? b=some o→h'.get? b=some o)→Q vs { s with heap:=h',drawn:=d' }) :
  wpAny (model prog w) A (collect (.ref a)) Q E s:=by
 have la:a<s.heap.objs.size:=let ⟨_,_,_,_,q,_⟩:=Ia;aB5 q
 have zk:ks.length≤sizeLine:=aM4 Ia.len
 unfold collect
 refine aA1 (wpAny_runValue (aH0 F.entry_proto_collect ?_))
 rw[aF6 F.plain_proto_collect _]
 show wpAny _ A.in1 (newList [] >>= fun l=>again (.builtin "list.__iadd__" ⟨[l,.ref a],[]⟩)) _ _ s
 refine aA1 (aI6 ?_)
 refine aA9 ⟨aH9 aO6 _,aH0 F.entry_list_iadd ?_⟩
 rw[aF6 aO6 _]
 generalize hh1:s.heap.push { cls:=.type "list",data:=.seq ([]:List Value).toArray }=h1
 have k1:∀b o,s.heap.get? b=some o→h1.get? b=some o:=fun b o e=>by rw[←hh1];exact aA6 _ e
 have g1:h1.get? s.heap.objs.size=some { cls:=.type "list",data:=.seq #[] 0 }:=by rw[←hh1];exact aC0 _ rfl
 have z1:h1.objs.size=s.heap.objs.size+1:=by rw[←hh1];exact aI9 ..
 have I1:IsT w h1 a ks:=Ia.at fun o e=>k1 a o e
 show wpAny _ A.in1 (Builtin.List.listExtendWith (.ref s.heap.objs.size) (.ref a) (.ref s.heap.objs.size)) _ _ { s with heap:=h1 }
 unfold Builtin.List.listExtendWith
 refine aA1 (wpAny_typeOf (s:={ s with heap:=h1 }) I1.ty ?_)
 have nsr:Builtin.List.listSameRef (.ref s.heap.objs.size) (.ref a)=false:=by
  simp only[Builtin.List.listSameRef,aG2];exact aJ4 la
 rw[aA4 (by rw[nsr];decide)]
 refine aA1 (b3k (s:={ s with heap:=h1 }) I1 fun I fp vs St h2 d' W st k2 hI hfp T=>?_)
 have I2:IsT w h2 a ks:=I1.at fun o e=>k2 a o e
 have g2:=k2 _ _ g1
 refine aA1 (aK2 ?_)
 unfold Builtin.List.listLengthHint
 refine aA1 (aT3 (s:={ s with heap:=h2,drawn:=d' }) I2.ty a7Y ?_)
 generalize hid:("set.__len__":String)=id0
 dsimp only
 rw[show splitId id0=some ("set","__len__") from by subst hid;decide +kernel]
 subst hid
 dsimp only
 refine aA1 (aO9 (b:=true) (s:={ s with heap:=h2,drawn:=d' }) I2.ty sub_set_self ?_)
 rw[aA4 (by decide),aB0 (by decide +kernel)]
 refine aA1 (wpAny_typeOf (s:={ s with heap:=h2,drawn:=d' }) I2.ty ?_)
 refine aA9 ?_
 rw[aB0 (by decide +kernel)]
 refine aA1 (wpAny_rule ?_)
 unfold Builtin.List.listTouch
 obtain⟨us,tx,pu⟩:=id T
 have zv:vs.length≤sizeLine:=by rw[tx.len,pu.length_eq];exact zk
 refine aA1 (aA1 (listUpdate_at (s:={ s with heap:=h2,drawn:=d' }) g2 rfl ?_ (aG4 _) (by show(#[].push Value.none).size≤_;rw[aF9];decide)))
 have g3:(h2.update s.heap.objs.size (Obj.mapSeq (·.push .none))).get? s.heap.objs.size=some { cls:=.type "list",data:=.seq #[Value.none] 1 }:=aG3 _ g2 rfl
 refine listUpdate_at (s:={ s with heap:=h2.update s.heap.objs.size (Obj.mapSeq (·.push .none)),drawn:=d' }) g3 rfl ?_ (by show(1:Nat)≤_;rw[aF9];decide) (aG4 _)
 generalize hh4:(h2.update s.heap.objs.size (Obj.mapSeq (·.push .none))).update s.heap.objs.size (Obj.mapSeq (·.pop))=h4
 have g4:h4.get? s.heap.objs.size=some { cls:=.type "list",data:=.seq #[] 2 }:=by rw[←hh4];exact aG3 _ g3 rfl
 have k4:∀b o,b≠s.heap.objs.size→h2.get? b=some o→h4.get? b=some o:=fun b o hb e=>by
  rw[←hh4,aF3 _ _ (Ne.symm hb),aF3 _ _ (Ne.symm hb)];exact e
 have nI:s.heap.objs.size≠I:=by
  have q:h1.objs.size≤I:=hI
  rw[z1]at q;exact aC8 q
 have nf:s.heap.objs.size∉fp:=fun hm=>by
  rcases hfp _ hm with e | e
  ·exact aJ4 la e
  ·have e:h1.objs.size≤s.heap.objs.size:=e
   rw[z1]at e;exact aI3 _ e
 refine aA9 ⟨aH9 aM5 _,b9m (by simpa using hh) W zv nI nf _ (vs.length-0) 0 { s with heap:=h4,drawn:=d' } 2 rfl (aG4 _) ?_ g4 fun h5 c5 k5 g5=>?_⟩
 ·refine W.frame 0 h2 h4 st fun b hb o e=>k4 b o (fun z=>?_) e
  rw[z]at hb
  rcases aB9.mp hb with hb | hb
  ·exact nI hb
  ·exact nf hb
 ·show wpAny _ A (load s.heap.objs.size >>= _) _ _ _
  refine aA1 (wpAny_load g5 ?_)
  refine aA9 (h vs h5 d' T (aB5 g5) fun b o e=>?_)
  have lb:=aB5 e
  refine k5 b o (aC8 lb) (fun z=>?_) (k4 b o (aC8 lb) (k2 b o (k1 b o e)))
  have q:h1.objs.size≤I:=hI
  rw[z1,←z]at q
  exact aI3 _ (Nat.lt_trans lb q)
theorem b8a{O:KeyOrd}{key:Keyed→O.α}(d:O.α){a:Addr}{ks:List Str}{Q:Value→Shared→Prop}(hh:A.handled=none)(Ia:IsT w s.heap a ks)
  (S:∀vs,Tells vs ks→Sortable prog w s.heap vs O key)
  (h:∀(vs out:List Value) (l:Addr) (h':Heap) (d':Drawn) (e:Nat),Tells vs ks→out.Perm vs→out.Pairwise (fun x y=>O.kle (key (x,x)) (key (y,y)))→s.heap.objs.size≤l→(∀b o,s.heap.get? b=some o→h'.get? b=some o) →
   h'.get? l=some (seqObj "list" out.toArray e)→Q (.ref l) { s with heap:=h',drawn:=d' }) :
  wpAny (model prog w) A (call (.builtin "sorted") [.ref a]) Q E s:=by
 refine Calls.call_function_entry kind_sorted plain_sorted entry_sorted (args_sorted1 _) ?_
 unfold Builtin.«sorted»
 refine aA1 (m:=checkCount "sorted" 1 1 _) (aA9 ?_)
 refine aA1 (a7U (by simpa using hh) Ia fun vs h1 d' T l1 k1=>?_)
 obtain⟨us,tx,pu⟩:=id T
 have zv:vs.length≤sizeLine:=by rw[tx.len,pu.length_eq];exact aM4 Ia.len
 refine aA1 (wpAny_newList ?_ zv)
 have lo:∀b o,s.heap.get? b=some o→b<h1.objs.size:=fun b o e=>aB5 (k1 b o e)
 have sl:s.heap.objs.size≤h1.objs.size:=aM8 l1
 have oL:(h1.push (seqObj "list" vs.toArray 0)).get? h1.objs.size=some (seqObj "list" vs.toArray 0):=aC0 _ rfl
 have keep:∀b o,s.heap.get? b=some o→b≠h1.objs.size∧(h1.push (seqObj "list" vs.toArray 0)).get? b=some o:=fun b o e=>
  ⟨aC8 (lo b o e),aA6 _ (k1 b o e)⟩
 refine aA1 (aK2 (aJ6 slot_list_sort (s:={ s with heap:=h1.push (seqObj "list" vs.toArray 0),drawn:=d' }) ⟨_,oL,rfl⟩ entry_list_sort (sort_any d oL zv (S vs T) keep fun out a1 a2=>⟨_,rfl,?_⟩) (args_list_sort _)))
 obtain⟨e,he⟩:=sortedHeap_at (out:=out.toArray) oL
 refine aA9 ⟨_,rfl,h vs out _ _ d' e T a1 a2 sl (fun b o q=>?_) he⟩
 rw[sortedHeap_old (keep b o q).1 (aB5 (keep b o q).2)]
 exact(keep b o q).2
end
end TS
namespace L2
open PySem PySem.Spec PyProof.Rows Srt TS
def tso(w:World)(a:Addr)(ks:List Str):HO:=.ext fun h=>IsT w h a ks
section
variable{X:Cx}{pins:List (Addr×Obj)}{σ:St}{H:Hp}{s:Shared}
theorem b1f{h:Heap}{a:Addr}{ks:List Str}(x:IsT X.w h a ks):A6 X.prog X.w H h a (tso X.w a ks):=
 ⟨x,let ⟨o,_,_,_,q,_⟩:=x;⟨o,q⟩,fun _ _ y k=>y.at k⟩
theorem Inv.isT(I:Inv X pins σ H s){a:Addr}{ks:List Str}(e:H a=some (tso X.w a ks)):IsT X.w s.heap a ks:=(I.hok a _ e).1
theorem Inv.draw(I:Inv X pins σ H s)(d:Drawn):Inv X pins σ H { s with drawn:=d }:=⟨I.ok,I.os,I.bare,I.base,I.loc,I.cell,I.free,I.freeC,I.pin,I.hok,I.len⟩
theorem b3r:∀{ks:List Str} {us:List Value},j4 (ks.map V.str) us→U5 us ks
 | [],_,.nil=>.nil
 | _::_,_,.cons r t=>.cons r (b3r t)
theorem a6D:∀{ks:List Str} {us:List Value},U5 us ks→j4 (ks.map V.str) us
 | _,_,.nil=>.nil
 | _,_,.cons r t=>.cons r (a6D t)
theorem a5Q(hc:X.calm=true):L6 X (.type "set") (fun as H Q=>∃p ks,as=[.ref p]∧d7 X.K H p (ks.map V.str)∧ks.length+1<scanBound∧∀l,H l=none→Q (.ref l) (upd H l (tso X.w l (once ks)))):=by
 intro pins s σ H as us Q I r h
 obtain⟨p,ks,rfl,hq,hb,q⟩:=h
 obtain⟨u,rfl,ru⟩:=vals1 r
 cases (show u=Value.ref p from ru)
 obtain⟨its,rv,pl,hz⟩:=I.list hq
 refine a9U (vs:=its) (I.ok.hd hc) pl.isList (b3r rv) hb fun h' tk I' k=>?_
 exact⟨.ref s.heap.objs.size,_,I.laid (t':=tk) k (aB3 _) (b1f I'),rfl,q _ (I.hok.fresh (aB3 _))⟩
def b8C(w:World):R2:=fun x y H Q=>∃a b ks js,x=.ref a∧y=.ref b∧b≠a∧H a=some (tso w a ks)∧H b=some (tso w b js)∧ks.length+1<scanBound∧js.length+1<scanBound ∧
 ∀l rs,H l=none→rs.Nodup→(∀x,x∈rs↔x∈ks∧x∈js)→Q (.ref l) (upd H l (tso w l rs))
theorem a8Y:G5 X (binaryOp .BitAnd) (b8C X.w):=by
 intro pins s σ H x y u v Q I rx ry h
 obtain⟨a,b,ks,js,rfl,rfl,ne,ha,hb,la,lb,q⟩:=h
 cases (show u=Value.ref a from rx)
 cases (show v=Value.ref b from ry)
 refine b0w ne (I.isT ha) (I.isT hb) la lb fun h' rs k I' m=>?_
 exact⟨.ref s.heap.objs.size,_,I.laid (t':=s.toks) k (aB3 _) (b1f I'),rfl,q _ rs (I.hok.fresh (aB3 _)) I'.nodup m⟩
theorem a3y(hc:X.calm=true):L6 X (.builtin "sorted") (fun as H Q=>∃p ks,as=[.ref p]∧H p=some (tso X.w p ks)∧ks.length<64∧∀l ys,H l=none→ys.Perm (ks.map V.str)→O5 H ys→Q (.ref l) (upd H l (.lst ys))):=by
 intro pins s σ H as us Q I r h
 obtain⟨p,ks,rfl,hp,h64,q⟩:=h
 obtain⟨u,rfl,ru⟩:=vals1 r
 cases (show u=Value.ref p from ru)
 have J:=I.isT hp
 have srt:∀us:List Str,us.length<64→a4D H (us.map V.str):=fun us l=>⟨by rw[aA0];exact l,fun x hx=>by obtain⟨z,_,rfl⟩:=aA5.mp hx;exact⟨z,rfl⟩⟩
 refine b8a (O:=a2u) (key:=fun p=>a4M s.heap p.1) ([]:List Atom) (I.ok.hd hc) J (fun vs T=>?_) fun vs out l h' d' e T op os hl k hg=>?_
 ·obtain⟨us,tx,pu⟩:=T
  exact a1f I (srt us (by rw[pu.length_eq];exact h64)) (a6D tx)
 ·obtain⟨us,tx,pu⟩:=T
  obtain⟨ys,y1,y2⟩:=j4.perm op (a6D tx)
  have hn:H l=none:=I.hok.fresh hl
  have py:ys.Perm (ks.map V.str):=y1.trans (pu.map _)
  refine⟨.ref l,_,(I.laid (t':=s.toks) (o:=.lst ys) k hl ⟨?_,out,e,y2,hg⟩).draw d',rfl,q _ ys hn py ?_⟩
  ·rw[py.length_eq,aA0];exact aM4 J.len
  ·unfold O5
   rw[←a4e I (srt us (by rw[pu.length_eq];exact h64)) y2 fun y hy=>y1.mem_iff.mp hy,aP9]
   exact os
end
open PySem PySem.Spec PyProof.Rows Srt
def M8(x:Str)(n:Nat):Str:=⟨(List.replicate n x.cps).foldl (·++·) #[]⟩
section
variable{X:Cx}
theorem a8A:G5 X (binaryOp .Mult) (fun x y H Q=>∃z n,x=.str z∧y=.int n∧2≤n∧n≤1000∧1≤z.length∧z.length≤1000∧(M8 z n.toNat).length≤sizeLine∧Q (.str (M8 z n.toNat)) H):=by
 intro pins s σ H x y v u Q I rx ry h
 obtain⟨z,n,rfl,rfl,h1,h2,h3,h4,h5,q⟩:=h
 obtain⟨t,rfl⟩:=rx
 obtain⟨t',rfl⟩:=ry
 have e2:(n==1||z.length==0)=false:=by
  rw[Bool.or_eq_false_iff,aG2,aG2];omega
 refine PySem.P.mul_str ?_ (fun _ _=>?_) (fun _ _=>?_) ?_
 ·rw[Bool.or_eq_false_iff,aQ0,aQ0];omega
 ·have a1:(1000:Int)≤(2 ^ 63-1)/n:=by
   rw[Int.le_ediv_iff_mul_le (by omega)];omega
  omega
 ·have b1:z.length*n.toNat≤1000*1000:=aS3 h4 (by omega)
  have:=aF9
  exact aB7 (by omega)
 ·rw[aA4 (by omega),aA4 (by rw[e2];exact aC7)]
  exact⟨h5,⟨.str (M8 z n.toNat),H,I.tok _,⟨_,rfl⟩,q⟩⟩
end
section
variable{X:Cx}{own tl:List Str}{scope:Scope}{cl:List (Str×Addr)}{C:Addr}{s₀:Shared}{H₀:Hp}{ex:List Addr}
end
theorem u5{α:Type}[DecidableEq α]:∀{l m:List α},l.Nodup→(∀x∈l,x∈m)→l.length≤m.length
 | [],m,_,_=>aG4 _
 | x::l,m,n,h=>by
  have hx:=h x aD0
  have p:=List.perm_cons_erase hx
  rw[p.length_eq,aF0,aF0]
  have n':=aG7.mp n
  refine Nat.succ_le_succ (u5 n'.2 fun y hy=>?_)
  have hm:=p.mem_iff.mp (h y (aC4 _ hy))
  rcases aB9.mp hm with e | e
  ·subst e;exact absurd hy n'.1
  ·exact e
theorem a1b{α:Type}[DecidableEq α]:∀{l m:List α},l.Nodup→m.Nodup→(∀x,x∈l↔x∈m)→l.Perm m
 | [],m,_,_,h=>by
  have:m=[]:=List.eq_nil_iff_forall_not_mem.mpr fun x hx=>by have:=(h x).mpr hx;simp at this
  subst this;exact List.Perm.nil
 | x::l,m,n,k,h=>by
  have hx:=(h x).mp aD0
  have p:=List.perm_cons_erase hx
  have n':=aG7.mp n
  have k':=aG7.mp (p.nodup_iff.mp k)
  refine((a1b n'.2 k'.2 fun y=>?_).cons x).trans p.symm
  constructor
  ·intro hy
   rcases aB9.mp (p.mem_iff.mp ((h y).mp (aC4 _ hy))) with e | e
   ·subst e;exact absurd hy n'.1
   ·exact e
  ·intro hy
   rcases aB9.mp ((h y).mpr (p.mem_iff.mpr (aC4 _ hy))) with e | e
   ·subst e;exact absurd hy k'.1
   ·exact e
theorem a7f:∀{l m:List (List Atom)},l.Pairwise a2u.kle→m.Pairwise a2u.kle→l.Perm m→l=m
 | [],m,_,_,p=>(List.nil_perm.mp p).symm▸rfl
 | x::l,[],_,_,p=>by have:=p.length_eq;simp at this
 | x::l,y::m,hl,hm,p=>by
  have a:=aT9.mp hl
  have b:=aT9.mp hm
  have e:x=y:=by
   rcases aB9.mp (p.mem_iff.mp (aD0:x∈x::l)) with e | hx
   ·exact e
   ·rcases aB9.mp (p.mem_iff.mpr (aD0:y∈y::m)) with e | hy
    ·exact e.symm
    ·exact a0b (b.1 x hx) (a.1 y hy)
  subst e
  rw[a7f a.2 b.2 (List.Perm.cons_inv p)]
theorem l8{H H':Hp}{a:Addr}{o:HO}(e:g6 H H')(h:H a=none):g6 H (upd H' a o):=fun b u q=>by
 rw[b7 (d6 q h)];exact e b u q
theorem K1{ys:List V}{ks:List Str}(p:ys.Perm (ks.map V.str)):∃js:List Str,ys=js.map V.str∧js.Perm ks:=by
 let f:V→Str:=fun v=>match v with | .str x=>x | _=>Str.ofString ""
 have e:ks=(ks.map V.str).map f:=by rw[aE3];exact(aQ1 _).symm
 refine⟨ys.map f,?_,?_⟩
 ·rw[aE3]
  have:∀y∈ys,(V.str∘f) y=y:=fun y hy=>by
   obtain⟨k,_,rfl⟩:=aA5.mp (p.mem_iff.mp hy);rfl
  exact(aQ1 ys).symm.trans (aD9 fun y hy=>(this y hy).symm)
 ·have q:=p.map f
  rw[←e]at q
  exact q
open PySem PySem.Spec PyProof.Rows Srt TS
theorem a8X{k:Key}{v:Value}(h:a6j k v=true):RelV (kV k) v:=by
 rcases D8 h with ⟨i,t,rfl,rfl⟩ | ⟨x,t,rfl,rfl⟩
 ·exact⟨t,rfl⟩
 ·exact⟨t,rfl⟩
theorem a9n{P:Program}{w:World}:∀{kvs:List (Key×V)} {vs:List (Key×Value)} {us:List Value},KV kvs vs→us.length=vs.length →
  (∀(j:Nat) (v:Value),us[j]?=some v→∃k x,vs[j]?=some (k,x)∧(r8 P w).is k v=true)→j4 (kvs.map fun q=>kV q.1) us
 | _,_,us,.nil,hl,_=>by
  have:us=[]:=aJ0 hl
  subst this;exact .nil
 | _,_,us,.cons (a:=p) (b:=q) r t,hl,h=>by
  match us,hl,h with
  | u::us,hl,h=>
   obtain⟨k,x,e,hk⟩:=h 0 u rfl
   have e:q=(k,x):=by simpa using e
   have r1:p.1=q.1:=r.1
   refine .cons ?_ (a9n t (by simpa using hl) fun j v hv=>by simpa using h (j+1) v (by simpa using hv))
   show RelV (kV p.1) u
   rw[r1,e]
   exact a8X hk
section
variable{X:Cx}{pins:List (Addr×Obj)}{σ:St}{H:Hp}{s:Shared}
theorem a4j(hu:X.A.units+1<cLine):G5 X (compareOp .In) (fun x y H Q=>∃a o,y=.ref a∧t7 H a x o∧Q (.bl o.isSome) H):=by
 intro pins s σ H x y u v Q I rx ry h
 obtain⟨a,o,rfl,g,q⟩:=h
 cases (show v=Value.ref a from ry)
 exact b4D hu I g rx fun s' I'=>⟨.bl o.isSome,H,I',rfl,q⟩
theorem a0a(hu:X.A.units+1<cLine):G5 X (compareOp .NotIn) (fun x y H Q=>∃a o,y=.ref a∧t7 H a x o∧Q (.bl (!o.isSome)) H):=by
 intro pins s σ H x y u v Q I rx ry h
 obtain⟨a,o,rfl,g,q⟩:=h
 cases (show v=Value.ref a from ry)
 exact b9u hu I g rx fun s' I'=>⟨.bl (!o.isSome),H,I',rfl,q⟩
theorem a8g{h:Heap}{P:Program}{w:World}{a:Addr}{vs:List (Key×Value)}(d:h.DictOf (r8 P w) a vs):∃ep,h.DictAt (r8 P w) a vs ep:=by
 obtain⟨o,es,ep,r⟩:=d
 obtain⟨h1,h2,h3,h4⟩:=r
 exact⟨ep,o,es,h1,h2,h3,h4⟩
theorem P9(hc:X.calm=true):L6 X (.type "list") (fun as H Q=>∃p kvs,as=[.ref p]∧Rd H p (.dK kvs)∧∀l,H l=none→Q (.ref l) (upd H l (.lst (kvs.map fun q=>kV q.1)))):=by
 intro pins s σ H as us Q I r h
 obtain⟨p,kvs,rfl,hq,q⟩:=h
 obtain⟨u,rfl,ru⟩:=vals1 r
 cases (show u=Value.ref p from ru)
 obtain⟨z,hd,vs,rel,dd⟩:=X6 I.hok hq
 obtain⟨ep,da⟩:=a8g dd
 have lv:vs.length=kvs.length:=by have:=congrArg List.length rel.keys;simpa using this.symm
 refine PySem.W.kdl_call (PySem.W.kdl_dict (knd:=r8 X.prog X.w) (kvs:=vs) (ep:=ep) hd) (I.ok.hd hc) da (by rw[lv];exact z) fun h' tk acc c k hg hi=>?_
 have va:j4 (kvs.map fun q=>kV q.1) acc.toList:=a9n (P:=X.prog) (w:=X.w) rel (by rw[aF5];exact hi.1) fun j v e=>hi.2 j v (by rw[←aL5];exact e)
 refine⟨.ref s.heap.objs.size,_,I.laid (t':=tk) (o:=.lst (kvs.map fun q=>kV q.1)) k (aB3 _) ⟨by rw[aA0];exact z,acc.toList,c,va,by simpa using hg⟩,rfl,q _ (I.hok.fresh (aB3 _))⟩
end
end L2
namespace TS
open PySem PySem.Spec PyProof.Rows Srt
section
variable{prog:Program}{w:World}{A:Around}{E:Value→Shared→Prop}{s:Shared}{T:String}{r d:Addr}{n:Nat}{P:Nat→Value→Prop}{OK:Heap→Prop}
theorem a3U{Q:List Value→Shared→Prop}(K:PySem.W.KdlSrc prog w T r d n P OK)(hh:A.handled=none)(hok:OK s.heap)(hn:n≤sizeLine)
  (h:∀(vs:List Value) (h':Heap) (tk:Nat),s.heap.objs.size<h'.objs.size→(∀b o,s.heap.get? b=some o→h'.get? b=some o)→vs.length=n→(∀(j:Nat) (v:Value),vs[j]?=some v→P j v)→Q vs { s with heap:=h',toks:=tk }) :
  wpAny (model prog w) A (collect (.ref r)) Q E s:=by
 have lt:=K.there _ hok
 unfold collect
 refine aA1 (wpAny_runValue (aH0 PySem.F.entry_proto_collect ?_))
 rw[aF6 PySem.F.plain_proto_collect _]
 show wpAny _ A.in1 (newList [] >>= fun l=>again (.builtin "list.__iadd__" ⟨[l,.ref r],[]⟩)) _ _ s
 refine aA1 (aI6 ?_)
 refine aA9 ⟨aH9 aO6 _,aH0 PySem.F.entry_list_iadd ?_⟩
 rw[aF6 aO6 _]
 show wpAny _ A.in1 (Builtin.List.listExtendWith (.ref s.heap.objs.size) (.ref r) (.ref s.heap.objs.size)) _ _ _
 refine PySem.W.kdl_extend (A:=A) (R:=fun r s'=>match r with
  | .ok (.ret v)=>wpAny (model prog w) A (match v with
   | .ref a=>do
    match (←load a).data with
    | .seq xs _=>pure xs.toList
    | _=>unsupported "internal:collect"
   | _=>unsupported "internal:collect") Q E s'
  | .ok _=>False
  | .error e=>E e s') (s:={ s with heap:=s.heap.push { cls:=.type "list",data:=.seq ([]:List Value).toArray } }) K (by simpa using hh) (K.keep _ _ hok fun b _ o e=>aA6 _ e) s.heap.objs.size (aJ4 lt.1) (aJ4 lt.2) (.ref s.heap.objs.size) 0 (aC0 _ rfl) (fun h' tk acc c k hg hi=>?_) hn
 show wpAny _ A (load s.heap.objs.size >>= _) _ _ _
 refine aA1 (wpAny_load hg ?_)
 refine aA9 (h acc.toList h' tk (aB5 hg) (fun b o e=>k b o (aC8 (aB5 e)) (aA6 _ e)) (by rw[aF5];exact hi.1) fun j v e=>hi.2 j v (by rw[←aL5];exact e))
theorem a4Y{O:KeyOrd}{key:Keyed→O.α}(dd:O.α){Q:Value→Shared→Prop}(K:PySem.W.KdlSrc prog w T r d n P OK)(hh:A.handled=none)(hok:OK s.heap)(hn:n≤sizeLine)
  (S:∀vs:List Value,vs.length=n→(∀(j:Nat) (v:Value),vs[j]?=some v→P j v)→Sortable prog w s.heap vs O key)
  (h:∀(vs out:List Value) (l:Addr) (h':Heap) (tk e:Nat),vs.length=n→(∀(j:Nat) (v:Value),vs[j]?=some v→P j v)→out.Perm vs→out.Pairwise (fun x y=>O.kle (key (x,x)) (key (y,y)))→s.heap.objs.size≤l→(∀b o,s.heap.get? b=some o→h'.get? b=some o) →
   h'.get? l=some (seqObj "list" out.toArray e)→Q (.ref l) { s with heap:=h',toks:=tk }) :
  wpAny (model prog w) A (call (.builtin "sorted") [.ref r]) Q E s:=by
 refine Calls.call_function_entry kind_sorted plain_sorted entry_sorted (args_sorted1 _) ?_
 unfold Builtin.«sorted»
 refine aA1 (m:=checkCount "sorted" 1 1 _) (aA9 ?_)
 refine aA1 (a3U K (by simpa using hh) hok hn fun vs h1 tk l1 k1 lv pv=>?_)
 have zv:vs.length≤sizeLine:=by rw[lv];exact hn
 refine aA1 (wpAny_newList ?_ zv)
 have oL:(h1.push (seqObj "list" vs.toArray 0)).get? h1.objs.size=some (seqObj "list" vs.toArray 0):=aC0 _ rfl
 have keep:∀b o,s.heap.get? b=some o→b≠h1.objs.size∧(h1.push (seqObj "list" vs.toArray 0)).get? b=some o:=fun b o e=>
  ⟨aC8 (aB5 (k1 b o e)),aA6 _ (k1 b o e)⟩
 refine aA1 (aK2 (aJ6 slot_list_sort (s:={ s with heap:=h1.push (seqObj "list" vs.toArray 0),toks:=tk }) ⟨_,oL,rfl⟩ entry_list_sort (sort_any dd oL zv (S vs lv pv) keep fun out a1 a2=>⟨_,rfl,?_⟩) (args_list_sort _)))
 obtain⟨e,he⟩:=sortedHeap_at (out:=out.toArray) oL
 refine aA9 ⟨_,rfl,h vs out _ _ tk e lv pv a1 a2 (aM8 l1) (fun b o q=>?_) he⟩
 rw[sortedHeap_old (keep b o q).1 (aB5 (keep b o q).2)]
 exact(keep b o q).2
end
end TS
namespace L2
open PySem PySem.Spec PyProof.Rows Srt TS
section
variable{X:Cx}
theorem S5(hc:X.calm=true):L6 X (.builtin "sorted") (fun as H Q=>∃p kvs,as=[.ref p]∧Rd H p (.dK kvs)∧a4D H (kvs.map fun q=>kV q.1) ∧
  ∀l ys,H l=none→ys.Perm (kvs.map fun q=>kV q.1)→O5 H ys→Q (.ref l) (upd H l (.lst ys))):=by
 intro pins s σ H as us Q I r h
 obtain⟨p,kvs,rfl,hq,sb,q⟩:=h
 obtain⟨u,rfl,ru⟩:=vals1 r
 cases (show u=Value.ref p from ru)
 obtain⟨z,hd,vs,rel,dd⟩:=X6 I.hok hq
 obtain⟨ep,da⟩:=a8g dd
 have lv:vs.length=kvs.length:=by have:=congrArg List.length rel.keys;simpa using this.symm
 have vls:∀us:List Value,us.length=vs.length→(∀(j:Nat) (v:Value),us[j]?=some v→∃k x,vs[j]?=some (k,x)∧(r8 X.prog X.w).is k v=true)→j4 (kvs.map fun q=>kV q.1) us:=fun us a b=>a9n rel a b
 refine a4Y (O:=a2u) (key:=fun p=>a4M s.heap p.1) ([]:List Atom) (PySem.W.kdl_dict (knd:=r8 X.prog X.w) (kvs:=vs) (ep:=ep) hd) (I.ok.hd hc) da (by rw[lv];exact z)
  (fun us a b=>a1f I sb (vls us a b)) fun us out l h' tk e a b op os hl k hg=>?_
 obtain⟨ys,y1,y2⟩:=j4.perm op (vls us a b)
 have hn:H l=none:=I.hok.fresh hl
 refine⟨.ref l,_,I.laid (t':=tk) (o:=.lst ys) k hl ⟨?_,out,e,y2,hg⟩,rfl,q _ ys hn y1 ?_⟩
 ·rw[y1.length_eq,aA0];exact z
 ·unfold O5
  rw[←a4e I sb y2 fun y hy=>y1.mem_iff.mp hy,aP9]
  exact os
end
open PySem PySem.Spec PyProof.Rows Srt TS
theorem b6n(z:Str):M8 z 1=z:=by unfold M8;simp
theorem T8:∀{ns:List Int} {us:List Value},j4 (ns.map V.int) us→∀(i:Nat) (v:Value),us[i]?=some v→∃t,v=.int (ns.getD i 0) t
 | [],_,.nil,i,v,h=>by simp at h
 | n::ns,_,.cons ⟨t,e⟩ r,0,v,h=>by simp at h;exact⟨t,by rw[←h];exact e⟩
 | n::ns,_,.cons _ r,i+1,v,h=>by
  obtain⟨t,e⟩:=T8 r i v (by simpa using h)
  exact⟨t,by rw[e];rfl⟩
def a9B(ns:List Int):Int:=preSum (fun j=>ns.getD j 0) ns.length
section
variable{X:Cx}
theorem a9Q(hc:X.calm=true):L6 X (.builtin "sum") (fun as H Q=>∃p ns,as=[.ref p]∧d7 X.K H p (ns.map V.int)∧Q (.int (a9B ns)) H):=by
 intro pins s σ H as us Q I r h
 obtain⟨p,ns,rfl,hq,q⟩:=h
 obtain⟨u,rfl,ru⟩:=vals1 r
 cases (show u=Value.ref p from ru)
 obtain⟨its,rv,pl,hz⟩:=I.list hq
 have ln:its.length=ns.length:=by rw[←rv.length,aA0]
 have lt:p<s.heap.objs.size:=let ⟨_,e,_⟩:=pl.isList;aB5 e
 refine call_sum_walkAnyS (aO2 pl.isList ?_)
 refine⟨s.heap.objs.size,_,_,_,_,_,_,fun j=>ns.getD j 0,rfl,(Walks.list (A:=X.A.in1) (by simpa using I.ok.hd hc) s.heap.objs.size p (aC8 lt) its.toArray).toS,⟨⟨_,aC0 _ rfl,rfl,rfl⟩,pl.isList.push _⟩,fun b hb=>?_,fun i v hv=>T8 rv i v (by simpa using hv),fun s' t' m=>?_⟩
 ·have z:(s.heap.push { cls:=.type "list_iterator",data:=.fields #[.ref p,.int 0 0] }).objs.size=s.heap.objs.size+1:=aI9 ..
  simp only[aB9,aG0,aL6]at hb
  show b<(s.heap.push { cls:=.type "list_iterator",data:=.fields #[.ref p,.int 0 0] }).objs.size
  rw[z]
  rcases hb with rfl | rfl
  ·exact aM1 _
  ·exact aJ7 lt
 ·have k:∀b o,s.heap.get? b=some o→s'.heap.get? b=some o:=fun b o e=>m.heap b o (fun z=>by
   have:=aB5 e
   rw[aA3.mp z]at this
   exact aI3 _ this) (aA6 _ e)
  obtain⟨h',g',d',tk',os'⟩:=s'
  have e1:g'=s.gens:=m.gens
  have e2:d'=s.drawn:=m.drawn
  have e3:os'=s.os:=m.os
  subst e1;subst e2;subst e3
  refine⟨.int (a9B ns),H,I.kept (t':=tk') k,⟨t',?_⟩,q⟩
  unfold a9B
  rw[←ln,aD4]
theorem a6t:G5 X (binaryOp .Mult) (fun x y H Q=>∃z n,x=.str z∧y=.int n∧-1000≤n∧n≤1000∧1≤z.length∧z.length≤1000∧(M8 z n.toNat).length≤sizeLine∧Q (.str (M8 z n.toNat)) H):=by
 intro pins s σ H x y v u Q I rx ry h
 obtain⟨z,n,rfl,rfl,h1,h2,h3,h4,h5,q⟩:=h
 by_cases c:2≤n
 ·exact a8A pins s σ H _ _ v u Q I rx ry ⟨z,n,rfl,rfl,c,h2,h3,h4,h5,q⟩
 obtain⟨t,rfl⟩:=rx
 obtain⟨t',rfl⟩:=ry
 by_cases c0:n<1
 ·refine PySem.P.mul_str_none c0 (by omega) ⟨.str (M8 z n.toNat),H,I.tok _,?_,q⟩
  rw[show n.toNat=0 by omega]
  exact⟨_,rfl⟩
 ·have e1:n=1:=by omega
  subst e1
  refine PySem.P.mul_str (by decide) (fun _ w=>by simp at w) (fun _ w=>by simp at w) ?_
  rw[aA4 (by decide),aB0 (by simp)]
  refine⟨.str z,H,I,⟨t,rfl⟩,?_⟩
  have e:M8 z (1:Int).toNat=z:=b6n z
  rw[e]at q
  exact q
end
open PySem PySem.Spec PyProof.Rows Srt TS
theorem a8H{α β:Type}(f:α→β):∀(l:List α) (j:Nat),(l.map f).eraseIdx j=(l.eraseIdx j).map f
 | [],_=>rfl
 | a::l,0=>rfl
 | a::l,j+1=>by
  rw[aC1,aK9,aK9,aC1,a8H f l j]
section
variable{X:Cx}
theorem b9s:G5 X (binaryOp .Mult) (rI IntMulOk fun i j=>.int (i*j)):=opI fun _ _ _ _ _ _ _ hc q=>mul_int q hc
def b3s:V→List V→Hp→VK→Prop:=fun x vs H Q=>∃(l:Addr) (ns:List Int) (n:Int) (j:Nat),x=.ref l∧vs=[.int n]∧H l=some (.lst (ns.map V.int))∧ns[j]?=some n∧(∀i,i<j→ns[i]?≠some n)∧Q .non (upd H l (.lst ((ns.eraseIdx j).map V.int)))
theorem a4I:MtM X "list.remove" b3s:=by
 intro pins s σ H x vs v us Q I rx rv h
 obtain⟨l,ns,n,j,rfl,rfl,hH,hj,hf,q⟩:=h
 cases rx
 obtain⟨u,rfl,⟨t,rfl⟩⟩:=vals1 rv
 obtain⟨z,its,c,r,hl,e⟩:=I.lstM hH
 have lj:j<ns.length:=(aA2.mp hj).1
 have li:its.length=ns.length:=by rw[←hl,aA0]
 have at':∀i,i<its.length→∃t,its[i]?=some (.int (ns.getD i 0) t):=fun i hi=>by
  obtain⟨t,e⟩:=T8 r i its[i] (List.getElem?_eq_getElem hi)
  exact⟨t,by rw[List.getElem?_eq_getElem hi,e]⟩
 let ev:Value→Bool:=fun y=>match y with | .int i _=>i==n | _=>false
 have ej:∀i,(hi:i<its.toArray.size)→ev its.toArray[i]=(ns.getD i 0==n):=fun i hi=>by
  have hi':i<its.length:=by simpa using hi
  obtain⟨t,e⟩:=at' i hi'
  rw[List.getElem?_eq_getElem hi']at e
  have e:its[i]=Value.int (ns.getD i 0) t:=aD1 e
  show ev its.toArray[i]=_
  rw[aO1,e]
 have lj':j<its.toArray.size:=by rw[aD4,li];exact lj
 refine aQ7 aQ9 ⟨_,e,rfl⟩ F.entry_list_remove (F.args_list_remove_2 _ _) (MeetsSeq.list_remove l its.toArray c (.int n t) ev (fun y hy=>?_) j lj' ?_ (fun m hm lt=>?_) (by rw[aD4,li];rw[aA0]at z;exact z)) ⟨e,?_⟩
 ·obtain⟨i,hi,rfl⟩:=Array.mem_iff_getElem.mp hy
  have hi':i<its.length:=by simpa using hi
  obtain⟨t',e'⟩:=at' i hi'
  rw[List.getElem?_eq_getElem hi']at e'
  have e':its[i]=Value.int (ns.getD i 0) t':=aD1 e'
  rw[ej i hi,aO1,e']
  exact MeetsSeq.EqGives.int _ _ _ _
 ·rw[ej j lj',aE7,hj];simp
 ·have hm':m<ns.length:=by rw[←li];simpa using hm
  rw[ej m hm,aE7,List.getElem?_eq_getElem hm',Option.getD_some,aG2]
  intro w
  exact hf m lt (by rw[List.getElem?_eq_getElem hm',w])
 ·have re:j4 ((ns.eraseIdx j).map V.int) (its.eraseIdx j):=by
   have:=r.eraseIdx j
   rwa [a8H] at this
  refine⟨.non,_,I.lset (its':=its.eraseIdx j) hH e ?_ re ?_,rfl,q⟩
  ·show its.toArray.eraseIdxIfInBounds j=(its.eraseIdx j).toArray
   rw[List.eraseIdxIfInBounds_toArray]
  ·have:=List.length_eraseIdx_le ns j
   rw[aA0]at z ⊢
   omega
end
open PySem PySem.Spec PyProof.Rows Srt TS
section
variable{X:Cx}{pins:List (Addr×Obj)}{σ:St}{H:Hp}{s:Shared}{h':Heap}
end
theorem b4a:∀{kvs:List (Key×V)} {vs:List (Key×Value)} {j:Nat} {k:Key} {u:Value},KV kvs vs→vs[j]?=some (k,u)→∃x,kvs[j]?=some (k,x)∧RelV x u
 | _,_,j,k,u,.nil,e=>by simp at e
 | _,_,0,k,u,.cons (a:=p) r t,e=>by
  have e:_=(k,u):=aD1 e
  refine⟨p.2,?_,?_⟩
  ·have:p.1=k:=r.1.trans (congrArg Prod.fst e)
   rw[←this];rfl
  ·have:=r.2
   rw[e]at this
   exact this
 | _,_,j+1,k,u,.cons r t,e=>by
  obtain⟨x,e1,r1⟩:=b4a t (by simpa using e)
  exact⟨x,by simpa using e1,r1⟩
theorem a6h{kvs:List (Key×V)}{vs:List (Key×Value)}(r:KV kvs vs):vs.length=kvs.length:=(aS0 r).symm
section
variable{X:Cx}
end
end L2
namespace TS
open PySem PySem.Spec PyProof.Rows Srt
theorem b4d:typeLookup (.type "list_reverseiterator") "__len__"=pure none:=by rw[typeLookup_type,aT5];kernel_rfl
theorem b4g:typeLookup (.type "list_reverseiterator") "__length_hint__"=pure (some (.builtin "list_reverseiterator.__length_hint__")):=by rw[typeLookup_type,aT5];kernel_rfl
section
variable{prog:Program}{w:World}{A:Around}{E:Value→Shared→Prop}{s:Shared}{it l:Addr}{items:Array Value}
theorem b9k{Q:Bool→Shared→Prop}(hT:s.TypeIs (.ref it) "list_reverseiterator")(h:Q false s):wpAny (model prog w) A (Builtin.List.listLengthHint (.ref it)) Q E s:=by
 unfold Builtin.List.listLengthHint
 refine aA1 (aT3 hT b4d ?_)
 show wpAny _ A (specialOf (Value.ref it) (Str.ofString "__length_hint__") >>= _) _ _ _
 refine aA1 (aT3 hT b4g ?_)
 generalize hid:("list_reverseiterator.__length_hint__":String)=id0
 wp_delta
 rw[show splitId id0=some ("list_reverseiterator","__length_hint__") from by subst hid;decide +kernel]
 subst hid
 refine aA1 (aO9 (T:="list_reverseiterator") (b:=true) hT (by rw[isSubtype_type];kernel_rfl) ?_)
 exact aA9 h
abbrev Rvs(items:Array Value)(i:Nat)(v:Value):Prop:=items[items.size-1-i]?=some v
theorem b9b{R:Result→Shared→Prop}(hh:A.handled=none)(hit:s.heap.IsRevIter it l ((items.size:Int)-1))(hl:s.heap.IsList l items)(hne:l≠it)(S:Addr)(nSi:S≠it)(nSl:S≠l)(res:Value)(c₀:Nat)(hS:s.heap.get? S=some { cls:=.type "list",data:=.seq #[] c₀ })
  (hR:∀h' tk acc' c',(∀b o,b≠S→b≠it→s.heap.get? b=some o→h'.get? b=some o)→h'.get? S=some { cls:=.type "list",dict:=none,data:=.seq acc' c',slots:=#[] }→ItemsOf (Rvs items) acc' items.size→R (.ok (.ret res)) { s with heap:=h',toks:=tk }) (hn:items.size≤sizeLine) :
  wpAny (model prog w) A.in1 (Builtin.List.listExtendWith (.ref S) (.ref it) res)
   (fun fin s'=>match fin with | .done f=>R (.ok f) s' | .again c'=>c'.quiet=true∧codeAny (model prog w) A c' R s') (fun e s'=>R (.error e) s') s:=by
 have hSf:S∉[it,l]:=by simp only[aB9,aG0,aL6,not_or];exact⟨nSi,nSl⟩
 have W:=Walks.listRev (prog:=prog) (w:=w) (A:=A.in1) hh it l hne items
 have hit0:s.heap.IsRevIter it l ((items.size:Int)-1-((0:Nat):Int)):=by simpa using hit
 unfold Builtin.List.listExtendWith
 refine aA1 (wpAny_typeOf (T:="list_reverseiterator") hit.typeIs ?_)
 have h1:Builtin.List.listSameRef (.ref S) (.ref it)=false:=by simp[Builtin.List.listSameRef,nSi]
 have h2:(Value.type "list_reverseiterator"==Value.type "list")=false:=by decide
 have h3:(Value.type "list_reverseiterator"==Value.type "tuple")=false:=by decide
 simp only[h1,h2,h3,Bool.or_false,aI8,aP1]
 refine aA1 (wpAny_pyIter_revIter hit ?_)
 refine aA1 (aK2 (b9k hit.typeIs ?_))
 refine wpAny_ite_split (fun hab=>absurd hab (by decide)) (fun _=>?_)
 refine aA9 ⟨aH9 aM5 _,codeAny_extend_loopS W.toS hn S hSf res items.size 0 _ #[] c₀ rfl (aG4 _) ⟨aG4 _,hit0,hl⟩ hS (ItemsOf.nil _) fun s' acc' c' hm hS' hacc=>?_⟩
 rw[Moved.eq_with hm]
 refine hR s'.heap s'.toks acc' c' (fun b o hb hb2 e=>hm.heap b o (fun hmem=>?_) e) hS' hacc
 rcases aB9.mp hmem with e' | hmem
 ·exact hb e'
 ·exact hb2 (aA3.mp hmem)
theorem b4m{R:Result→Shared→Prop}(hh:A.handled=none)(hit:s.heap.IsRevIter it l ((items.size:Int)-1))(hl:s.heap.IsList l items)(hne:l≠it)(S:Addr)(nSi:S≠it)(nSl:S≠l)(hS:s.heap.get? S=some { cls:=.type "list",data:=.seq #[] })
  (hR:∀h' tk acc' c',(∀b o,b≠S→b≠it→s.heap.get? b=some o→h'.get? b=some o)→h'.get? S=some { cls:=.type "list",dict:=none,data:=.seq acc' c',slots:=#[] }→ItemsOf (Rvs items) acc' items.size→R (.ok (.ret .none)) { s with heap:=h',toks:=tk }) (hn:items.size≤sizeLine) :
  wpAny (model prog w) A.in1 (Builtin.«list.__init__» ⟨[.ref S,.ref it],[]⟩)
   (fun fin s'=>match fin with | .done f=>R (.ok f) s' | .again c'=>c'.quiet=true∧codeAny (model prog w) A c' R s') (fun e s'=>R (.error e) s') s:=by
 show wpAny _ _ (do let old ←Builtin.List.listItems (.ref S);Builtin.List.listUpdate (.ref S) (fun _=>#[]);letGo old.toList.reverse;Builtin.List.listExtendWith (.ref S) (.ref it) .none) _ _ s
 refine aA1 ?_
 unfold Builtin.List.listItems
 refine aA1 (aM9 hS rfl (aA9 ?_))
 show wpAny _ _ (updateSeq S (fun _=>#[]) >>= fun _=>letGo (#[]:Array Value).toList.reverse >>= fun _=>Builtin.List.listExtendWith (.ref S) (.ref it) .none) _ _ s
 refine aA1 (aN3 hS rfl ?_)
 have S2:=aG3 (Obj.mapSeq (fun _=>(#[]:Array Value))) hS rfl
 have keeps:∀b o,b≠S→s.heap.get? b=some o→(s.heap.update S (Obj.mapSeq (fun _=>(#[]:Array Value)))).get? b=some o:=
  fun b o hb e=>(aF3 _ _ (Ne.symm hb)).trans e
 refine aA1 (wpAny_letGo ?_)
 refine b9b hh (hit.at fun o e=>keeps _ o (Ne.symm nSi) e) (hl.at fun o e=>keeps _ o (Ne.symm nSl) e) hne S nSi nSl .none _ S2 (fun h' tk acc' c' hk hS' hacc=>?_) hn
 exact hR h' tk acc' c' (fun b o hb hb2 e=>hk b o hb hb2 (keeps b o hb e)) hS' hacc
theorem b7p{Q:Value→Shared→Prop}(hh:A.handled=none)(hit:s.heap.IsRevIter it l ((items.size:Int)-1))(hl:s.heap.IsList l items)(hne:l≠it)(hn:items.size≤sizeLine)
  (hQ:∀h' tk acc' c',(∀b o,b≠it→s.heap.get? b=some o→h'.get? b=some o)→h'.get? s.heap.objs.size=some { cls:=.type "list",dict:=none,data:=.seq acc' c',slots:=#[] }→ItemsOf (Rvs items) acc' items.size→Q (.ref s.heap.objs.size) { s with heap:=h',toks:=tk }) :
  wpAny (model prog w) A (call (.type "list") [.ref it]) Q E s:=by
 have l1:it<s.heap.objs.size:=let ⟨o,ho,_⟩:=hit;aB5 ho
 have l2:l<s.heap.objs.size:=let ⟨o,ho,_⟩:=hl;aB5 ho
 refine callType_codes (Q₁:=fun obj s₁=>obj=.ref s.heap.objs.size∧s₁={ s with heap:=s.heap.push { cls:=.type "list",data:=.seq #[] } }) PySem.F.called_list (PySem.F.typeCall_list_1 _) PySem.F.entry_list_init
  (code_list_new _ ⟨rfl,rfl⟩) fun obj s₁ h₁=>?_
 obtain⟨rfl,rfl⟩:=h₁
 have hS:(s.heap.push { cls:=.type "list",data:=.seq #[] }).get? s.heap.objs.size=some { cls:=.type "list",data:=.seq #[] }:=aC0 _ rfl
 refine⟨⟨_,hS,rfl⟩,PySem.F.args_list_init_2 _ _,b4m (A:=A.in1) hh (hit.at fun o e=>aA6 _ e) (hl.at fun o e=>aA6 _ e) hne _ (aJ4 l1) (aJ4 l2) hS (fun h' tk acc' c' hk hS' hacc=>?_) hn⟩
 exact⟨rfl,hQ h' tk acc' c' (fun b o hb e=>hk b o (aC8 (aB5 e)) hb (aA6 _ e)) hS' hacc⟩
end
end TS
namespace L2
open PySem PySem.Spec PyProof.Rows Srt TS
theorem b7n{xs:List V}{us:List Value}(r:j4 xs us):j4 xs.reverse us.reverse:=by
 induction r with
 | nil=>exact .nil
 | cons h _ ih=>rw[aP8,aP8];exact j4.append ih (.cons h .nil)
theorem b9e{us:List Value}{acc:Array Value}(h:ItemsOf (Rvs us.toArray) acc us.toArray.size):acc.toList=us.reverse:=by
 refine List.ext_getElem? fun i=>?_
 have lz:acc.size=us.length:=by have:=h.1;simpa using this
 by_cases hi:i<us.length
 ·have hi':i<acc.size:=by omega
  have e:=h.2 i acc[i] (Array.getElem?_eq_getElem hi')
  unfold Rvs at e
  rw[List.getElem?_toArray,aD4]at e
  rw[aL5,Array.getElem?_eq_getElem hi',List.getElem?_reverse hi,e]
 ·rw[aN7 (by rw[aF5];omega),aN7 (by rw[aM6];omega)]
def tLR(K:PySem.W.Frag)(te:TE):TE:=fun σ H Q=>te σ H fun x H1=>∃p xs,x=.ref p∧d7 K H1 p xs∧∀l,H1 l=none→Q (.ref l) (upd H1 l (.lst xs.reverse))
section
variable{X:Cx}{e:Expr}{te:TE}{p p2 pos pos2:Pos}
theorem b4b(hc:X.calm=true)(hg:Gl X "list")(hm:X.mg "list"=none)(hg2:Gl X "reversed")(hm2:X.mg "reversed"=none)(ha:PE X e te)
  (s1:starEach [Expr.Call (.Name "reversed" p2) [e] [] pos2] X.env=[(false,eval (Expr.Call (.Name "reversed" p2) [e] [] pos2) X.env)]:=by rfl) (s2:starEach [e] X.env=[(false,eval e X.env)]:=by rfl) :
  PE X (.Call (.Name "list" p) [.Call (.Name "reversed" p2) [e] [] pos2] [] pos) (tLR X.K te):=by
 intro pins s σ H Q I h
 refine aJ2 (a1d I hg hm aJ1 ?_ (by decide) (by decide))
 refine aL4 ?_ s1 rfl
 rw[s1]
 show wpAny _ _ (spliced ((false,eval _ X.env)::backTo pos [])) _ _ s
 refine aI0 ?_
 refine aJ2 (a1d I hg2 hm2 boot_reversed ?_ (by decide) (by decide))
 refine aL4 ?_ s2 rfl
 rw[s2]
 show wpAny _ _ (spliced ((false,eval _ X.env)::backTo pos2 [])) _ _ s
 refine aI0 (m8 (ha pins s σ H _ I h) fun u s1 ⟨x,H1,I1,r1,q1⟩=>aL1 ?_)
 obtain⟨p,xs,rfl,hq,q⟩:=q1
 cases (show u=Value.ref p from r1)
 obtain⟨its,rv,pl,hz⟩:=I1.list hq
 have lt:p<s1.heap.objs.size:=let ⟨_,e,_⟩:=pl.isList;aB5 e
 refine call_reversed_list pl.isList ?_
 refine aL1 ?_
 have pl2:(s1.heap.push (revObj p ((its.toArray.size:Int)-1))).IsList p its.toArray:=pl.isList.push _
 refine b7p (s:={ s1 with heap:=s1.heap.push (revObj p ((its.toArray.size:Int)-1)) }) (I.ok.hd hc) ⟨_,aC0 _ rfl,rfl,rfl⟩ pl2 (aC8 lt) (by rw[aD4,←rv.length];exact hz) fun h' tk acc c k hg hi=>?_
 have sz:(s1.heap.push (revObj p ((its.toArray.size:Int)-1))).objs.size=s1.heap.objs.size+1:=aI9 ..
 refine⟨.ref (s1.heap.push (revObj p ((its.toArray.size:Int)-1))).objs.size,_,I1.laid (t':=tk) (o:=.lst xs.reverse) (fun b o e=>k b o (aC8 (aB5 e)) (aA6 _ e)) (by rw[sz];omega) ⟨by rw[aM6];exact hz,its.reverse,c,b7n rv,?_⟩,rfl,q _ (I1.hok.fresh (by rw[sz];omega))⟩
 rw[←b9e hi]
 simpa using hg
end
open PySem PySem.Spec PyProof.Rows Srt TS
def b5w(td ty tx:TE):TE:=fun σ H Q=>td σ H fun x H1=>∃a,x=.ref a∧IsD H1 a∧ty σ H1 fun y H2=>tx σ H2 fun z H3=>∃kvs k,H3 a=some (.dK kvs)∧y=kV k∧kvs.length<sizeLine ∧
 (∀v,A4 kvs k=some v→Q v H3)∧(A4 kvs k=none→Q z (upd H3 a (.dK (putK kvs k z))))
section
variable{X:Cx}{o e f:Expr}{apos cpos:Pos}{td ty tx:TE}
theorem b8o(hu:X.A.units+1<cLine)(ho:PE X o td)(he:PE X e ty)(hf:PE X f tx)(m:M2 X o "setdefault" apos e f cpos):PE X (.Call (.Attribute o "setdefault" apos) [e,f] [] cpos) (b5w td ty tx):=by
 intro pins s σ H Q I h
 refine wpAny_Call_method m.base m.few m.line aH5 PySem.F.slot_dict_setdefault PySem.F.type_dict_setdefault (m8 (ho pins s σ H _ I h) fun u s1 ⟨x,H1,I1,rx,a,ex,d,q1⟩=>?_)
 subst ex
 obtain rfl:u=Value.ref a:=rx
 obtain⟨t1,t2,_⟩:=a4p I1 d
 refine⟨t1,t2,?_⟩
 rw[m.trees]
 refine aI5 rfl (aP2 (aI0 (m8 (he pins s1 σ H1 _ I1 q1) fun iv s2 ⟨y,H2,I2,ry,q2⟩=>
  aI0 (m8 (hf pins s2 σ H2 _ I2 q2) fun fv s3 ⟨z,H3,I3,rz,kvs,k,ea,ey,lz,q3,q4⟩=>aL1 ?_))))
 subst ey
 obtain⟨zz,hd,vs,rel,dd⟩:=a4a I3.hok ea
 refine aL0 PySem.F.slot_dict_setdefault dd.typeIs PySem.F.entry_dict_setdefault (PySem.F.args_dict_setdefault_3 _ _ _) (kt_meets_setdefault (r8 X.prog X.w) a (a8a ry) hd fv) ⟨vs,dd,by rw[←rel.length];exact zz,fun v hv=>?_,fun hn h' dd' hs=>?_⟩
 ·have rv:=rel.val k
  rw[hv]at rv
  cases hk:A4 kvs k with
  | none=>rw[hk]at rv;exact rv.elim
  | some w=>
   rw[hk]at rv
   exact⟨w,H3,I3.tok _,rv,q3 w hk⟩
 ·have rv:=rel.val k
  rw[hn]at rv
  have hk:A4 kvs k=none:=by
   cases hk:A4 kvs k with
   | none=>rfl
   | some w=>rw[hk]at rv;exact rv.elim
  have hl:(putK kvs k z).length≤sizeLine:=by have:=X7 kvs k z;omega
  have he':∃q,h'.get? a=some q:=let ⟨q,_,_,hq,_⟩:=dd';⟨q,hq⟩
  exact⟨z,_,a3b I3 (by rw[ea];exact True.intro) hs he' (a1p hl hd (rel.put k rz) dd'),rz,q4 hk⟩
end
section
variable{X:Cx}
def b8x(K:PySem.W.Frag):V→List V→Hp→VK→Prop:=fun x vs H Q=>∃(l:Addr) (ns:List Int) (n:Int) (j:Nat),x=.ref l∧vs=[.int n]∧H l=some (.lst (ns.map V.int))∧ns[j]?=some n∧(∀i,i<j→ns[i]?≠some n)∧Q (.int (j:Int)) H
theorem b3l:MtM X "list.index" (b8x X.K):=by
 intro pins s σ H x vs v us Q I rx rv h
 obtain⟨l,ns,n,j,rfl,rfl,hH,hj,hf,q⟩:=h
 cases rx
 obtain⟨u,rfl,⟨t,rfl⟩⟩:=vals1 rv
 obtain⟨z,its,c,r,hl,e⟩:=I.lstM hH
 have lj:j<ns.length:=(aA2.mp hj).1
 have li:its.length=ns.length:=by rw[←hl,aA0]
 have at':∀i,i<its.length→∃t,its[i]?=some (.int (ns.getD i 0) t):=fun i hi=>by
  obtain⟨t,e⟩:=T8 r i its[i] (List.getElem?_eq_getElem hi)
  exact⟨t,by rw[List.getElem?_eq_getElem hi,e]⟩
 let ev:Value→Bool:=fun y=>match y with | .int i _=>i==n | _=>false
 have ej:∀i,(hi:i<its.toArray.size)→ev its.toArray[i]=(ns.getD i 0==n):=fun i hi=>by
  have hi':i<its.length:=by simpa using hi
  obtain⟨t,e⟩:=at' i hi'
  rw[List.getElem?_eq_getElem hi']at e
  have e:its[i]=Value.int (ns.getD i 0) t:=aD1 e
  show ev its.toArray[i]=_
  rw[aO1,e]
 have lj':j<its.toArray.size:=by rw[aD4,li];exact lj
 have small:(j:Int)<2 ^ 63-1:=by
  rw[aA0]at z
  rw[aF9]at z
  omega
 refine aQ7 F.slot_list_index ⟨_,e,rfl⟩ F.entry_list_index (F.args_list_index_2 _ _) (MeetsSeq.list_index l its.toArray c (.int n t) ev (fun y hy=>?_) j lj' small ?_ (fun m hm lt=>?_)) ⟨e,?_⟩
 ·obtain⟨i,hi,rfl⟩:=Array.mem_iff_getElem.mp hy
  have hi':i<its.length:=by simpa using hi
  obtain⟨t',e'⟩:=at' i hi'
  rw[List.getElem?_eq_getElem hi']at e'
  have e':its[i]=Value.int (ns.getD i 0) t':=aD1 e'
  rw[ej i hi,aO1,e']
  exact MeetsSeq.EqGives.int _ _ _ _
 ·rw[ej j lj',aE7,hj];simp
 ·have hm':m<ns.length:=by rw[←li];simpa using hm
  rw[ej m hm,aE7,List.getElem?_eq_getElem hm',Option.getD_some,aG2]
  intro w
  exact hf m lt (by rw[List.getElem?_eq_getElem hm',w])
 ·exact⟨.int (j:Int),H,I.tok _,⟨_,rfl⟩,q⟩
end
open PySem PySem.Spec PyProof.Rows Srt TS
section
variable{X:Cx}{pins:List (Addr×Obj)}{σ:St}{H:Hp}{s:Shared}
theorem Inv.freeze{d:Addr}{o:Obj}{kvs:List (Key×V)}(I:Inv X pins σ H s)(hd:H d=some (.dK kvs))(ho:s.heap.get? d=some o):Inv X pins σ (upd H d (.frz o (.dK kvs))) s:=by
 have dk:A6 X.prog X.w H s.heap d (.dK kvs):=I.hok d _ hd
 have:=I.write (t':=s.toks) (h':=s.heap) (x:=d) (e:=d) (o:=.frz o (.dK kvs)) (by rw[hd];exact True.intro) (.inl rfl) (fun b u _ q=>q) ⟨o,ho⟩ ⟨ho,dk⟩
 exact this
theorem Inv.thaw{d:Addr}{o:Obj}{kvs:List (Key×V)}(I:Inv X pins σ H s)(h0:∀o u,X.H₀ d≠some (.frz o u))(hd:H d=some (.frz o (.dK kvs))):Inv X pins σ (upd H d (.dK kvs)) s:=by
 have dk:A6 X.prog X.w H s.heap d (.dK kvs):=(show A6 X.prog X.w H s.heap d (.frz o (.dK kvs)) from I.hok d _ hd).2
 have ne:∀{b:Addr} {u:HO},H b=some u→u≠.frz o (.dK kvs)→b≠d:=fun h k z=>by rw[z,hd]at h;cases h;exact k rfl
 refine⟨I.ok,I.os,I.bare,⟨I.base.keep,I.base.slot,fun b u q n hx=>?_,I.base.there,fun b xs q=>?_,fun b u xs q=>?_,fun b ps q=>?_⟩,I.loc,I.cell,?_,fun x c e=>?_,fun p hp=>?_,fun b u q=>?_,I.len⟩
 ·have:=I.base.free b u q n hx
  rw[b7 fun z=>by rw[z,hd]at this;cases this]
  exact this
 ·have:=I.base.tups b xs q
  rw[b7 (ne this (by intro z;cases z))];exact this
 ·have:=I.base.frzs b u xs q
  rw[b7 fun z=>h0 u xs (by rw[←z];exact q)];exact this
 ·obtain⟨more,e⟩:=I.base.tbls b ps q
  exact⟨more,by rw[b7 (ne e (by intro z;cases z))];exact e⟩
 ·rw[b7 fun z=>by have:=I.free;rw[z,hd]at this;cases this];exact I.free
 ·rw[b7 fun z=>by have:=I.freeC x c e;rw[z,hd]at this;cases this];exact I.freeC x c e
 ·obtain⟨e,n,r⟩:=I.pin p hp
  exact⟨e,by rw[b7 fun z=>by rw[z,hd]at n;cases n];exact n,r⟩
 ·have own:∀c y,H c=some (.own y)→upd H d (.dK kvs) c=some (.own y):=fun c y e=>by rw[b7 (ne e (by intro z;cases z))];exact e
  have tup:∀c xs,H c=some (.tup xs)→upd H d (.dK kvs) c=some (.tup xs):=fun c y e=>by rw[b7 (ne e (by intro z;cases z))];exact e
  by_cases hb:b=d
  ·subst hb
   rw[b0]at q;cases q
   exact dk.stay (fun _ _ _ e=>e) (fun c e=>own c _ e) fun c xs e=>tup c xs e
  ·rw[b7 hb]at q
   exact(I.hok b u q).stay (fun _ _ _ e=>e) (fun c e=>own c _ e) fun c xs e=>tup c xs e
theorem Inv.nofrz{d:Addr}{kvs:List (Key×V)}(I:Inv X pins σ H s)(hd:H d=some (.dK kvs)):∀o u,X.H₀ d≠some (.frz o u):=fun o u e=>by
 have:=I.base.frzs d o u e
 rw[hd]at this;cases this
end
theorem Inv.track{X:Cx}{pins:List (Addr×Obj)}{σ:St}{H:Hp}{s s':Shared}{a:Addr}{o:HO}(I:Inv X pins σ H s)(J:Inv X pins σ H s')(ha:s.heap.objs.size≤a)(new:A6 X.prog X.w (upd H a o) s'.heap a o):Inv X pins σ (upd H a o) s':=by
 have hn:H a=none:=I.hok.fresh ha
 have lt:∀{b:Addr} {u:Obj},s.heap.get? b=some u→b≠a:=fun e=>aC8 (aE6 (aB5 e) ha)
 refine⟨J.ok,J.os,J.bare,⟨J.base.keep,J.base.slot,fun b u q n hx=>?_,J.base.there,fun b xs q=>?_,fun b u xs q=>?_,fun b ps q=>?_⟩,J.loc,J.cell,?_,fun x c e=>?_,fun p hp=>?_,fun b u q=>?_,J.len⟩
 ·rw[b7 (aC8 (aE6 (aB5 q) (aD8 I.sz ha)))]
  exact J.base.free b u q n hx
 ·have:=J.base.tups b xs q
  rw[b7 (d6 this hn)];exact this
 ·have:=J.base.frzs b u xs q
  rw[b7 (d6 this hn)];exact this
 ·obtain⟨more,e⟩:=J.base.tbls b ps q
  exact⟨more,by rw[b7 (d6 e hn)];exact e⟩
 ·rw[b7 (aC8 (aE6 I.lt ha))];exact J.free
 ·obtain⟨v,q⟩:=I.cell x c e
  rw[b7 (aC8 (aE6 q.lt ha))];exact J.freeC x c e
 ·obtain⟨e,n,r⟩:=J.pin p hp
  exact⟨e,by rw[b7 (lt (I.pin p hp).1)];exact n,r⟩
 ·have own:∀c y,H c=some (.own y)→upd H a o c=some (.own y):=fun c y e=>by rw[b7 (d6 e hn)];exact e
  have tup:∀c xs,H c=some (.tup xs)→upd H a o c=some (.tup xs):=fun c y e=>by rw[b7 (d6 e hn)];exact e
  by_cases hb:b=a
  ·subst hb
   rw[b0]at q;cases q
   exact new
  ·rw[b7 hb]at q
   exact(J.hok b u q).stay (fun _ _ _ e=>e) (fun c e=>own c _ e) fun c xs e=>tup c xs e
def Thw(H H':Hp)(Q:Hp→Prop):Prop:=∃d o kvs,H d=some (.dK kvs)∧H' d=some (.frz o (.dK kvs))∧Q (upd H' d (.dK kvs))
def b8A(t:TS):TS:=fun D σ H=>t { D with nx:=fun σ' H'=>Thw H H' (D.nx σ') } σ H
theorem a6X{X:Cx}{st:Stmt}{t:TS}(h:PS X st t):PS X st (b8A t):=by
 intro pins s σ H D I ht
 refine m8 (h pins s σ H _ I ht) fun f s' q=>?_
 cases f with
 | next=>
  obtain⟨σ',H',I',d,o,kvs,h1,h2,q⟩:=q
  exact⟨σ',_,I'.thaw (I.nofrz h1) h2,q⟩
 | brk=>exact q
 | cont=>exact q
 | ret u=>exact q
def Itv(d:Addr)(o:Obj)(kvs:List (Key×V)):It:=
 ⟨fun i H=>H d=some (.frz o (.dK kvs))∧i<kvs.length,fun i H x H'=>H'=H∧∃k,kvs[i]?=some (k,x),fun i H=>H d=some (.frz o (.dK kvs))∧kvs.length≤i⟩
def Itm(d:Addr)(o:Obj)(kvs:List (Key×V)):It:=
 ⟨fun i H=>H d=some (.frz o (.dK kvs))∧i<kvs.length,fun i H x H'=>∃t k v,kvs[i]?=some (k,v)∧x=.ref t∧H t=none∧H'=upd H t (.tup [kV k,v]),fun i H=>H d=some (.frz o (.dK kvs))∧kvs.length≤i⟩
theorem a0i{P:Program}{w:World}{H:Hp}{h:Heap}{d:Addr}{o:Obj}{kvs:List (Key×V)}{es:Array DictEntry}{ep:Nat}(x:K2 P w H h)(e:H d=some (.frz o (.dK kvs)))(hd:o.data=.dict es ep) :
  ∃vs,KV kvs vs∧h.DictAt (r8 P w) d vs ep∧h.get? d=some o:=by
 obtain⟨h1,h2⟩:=(show A6 P w H h d (.frz o (.dK kvs)) from x d _ e)
 obtain⟨_,_,vs,r,dd⟩:=h2
 obtain⟨ep',da⟩:=a8g dd
 obtain⟨o',es',q1,q2,q3,q4⟩:=id da
 rw[h1]at q1;cases q1
 rw[hd]at q3;cases q3
 exact⟨vs,r,da,h1⟩
theorem a4T{P:Program}{w:World}{K:PySem.W.Frag}{tg:Expr}(d it:Addr)(o:Obj)(kvs:List (Key×V))(es:Array DictEntry)(ep:Nat)(hd:o.data=.dict es ep)(hne:d≠it) :
  Turn P w K tg (Itv d o kvs) [it] it (fun i h=>h.IsValIter it d i kvs.length ep) where
 mem:=by simp
 obj:=fun i h st b hb=>by
  have e:b=it:=by simpa using hb
  subst e
  obtain⟨o,e,c,d⟩:=st
  exact⟨o,e,fun v z=>by rw[d]at z;cases z⟩
 keep:=fun i h h' st k=>st.at fun o e=>k it (by simp) o e
 item:=by
  intro X hP hw hK hc i pins s σ H E I hf st hg
  subst hP hw hK
  obtain⟨hz,hi⟩:=hg
  obtain⟨vs,r,da,_⟩:=a0i I.hok hz hd
  have lv:=a6h r
  obtain⟨f0,f1,f2,f3,f4,f5⟩:=hf it (by simp)
  have hv:=List.getElem?_eq_getElem (l:=vs) (i:=i) (by omega)
  obtain⟨x,hx,rx⟩:=b4a r (k:=vs[i].1) (u:=vs[i].2) hv
  rw[←lv]at st
  refine wpAny_pyNext_values_item st da hv fun h' st' sb=>?_
  have I1:Inv X pins σ H { s with heap:=h' }:=I.turned (t':=s.toks) (fun b o hb e=>(sb.2 b hb).trans e) f0 f1 f3 f4 f5
  obtain⟨oi,e,c,dd⟩:=id st'
  refine⟨_,rfl,b8b (s:={ s with heap:=h' }) e c dd (by decide) ⟨x,H,I1,rx,⟨rfl,_,hx⟩,?_,fun b hb=>(hf b hb).1⟩⟩
  rw[←lv];exact st'
 done:=by
  intro X hP hw hK hc i pins s σ H E I hf st hg
  subst hP hw hK
  obtain⟨hz,hi⟩:=hg
  obtain⟨vs,r,da,_⟩:=a0i I.hok hz hd
  have lv:=a6h r
  obtain⟨f0,f1,f2,f3,f4,f5⟩:=hf it (by simp)
  rw[←lv]at st
  exact wpAny_pyNext_values_end (I.ok.hd hc) st da (aN7 (by omega)) fun h' eb=>⟨rfl,I.turned (t':=s.toks) (fun b o hb e=>eb b o hb e) f0 f1 f3 f4 f5⟩
 self:=fun _ _ _ _ _ st h=>wpAny_pyIter_valiter st h
theorem b6d:entryFor table "dict_itemiterator.__iter__"=some Builtin.«dict_keyiterator.__iter__»:=by
 refine entryFor_alias (id':="dict_keyiterator.__iter__") ?_ rfl ?_ ?_
 ·kernel_rfl
 ·decide +kernel
 ·kernel_rfl
theorem b2c{P:Program}{w:World}{K:PySem.W.Frag}{elts:List Expr}{x1:Nat}{ps:Pos}(d it:Addr)(o:Obj)(kvs:List (Key×V))(es:Array DictEntry)(ep:Nat)(hd:o.data=.dict es ep)(hne:d≠it) :
  Turn P w K (.Tuple elts x1 ps) (Itm d o kvs) [it] it (fun i h=>∃ok ov,IsItemIter h it d i kvs.length ep ok ov) where
 mem:=by simp
 obj:=fun i h st b hb=>by
  have e:b=it:=by simpa using hb
  subst e
  obtain⟨ok,ov,st⟩:=st
  exact⟨_,st,fun v z=>by
   have z':Data.fields _=Data.cell v:=z
   cases z'⟩
 keep:=fun i h h' st k=>let ⟨ok,ov,st⟩:=st;⟨ok,ov,k it (by simp) _ st⟩
 item:=by
  intro X hP hw hK hc i pins s σ H E I hf st hg
  subst hP hw hK
  obtain⟨hz,hi⟩:=hg
  obtain⟨ok,ov,st⟩:=st
  obtain⟨vs,r,da,_⟩:=a0i I.hok hz hd
  have lv:=a6h r
  obtain⟨f0,f1,f2,f3,f4,f5⟩:=hf it (by simp)
  have hv:=List.getElem?_eq_getElem (l:=vs) (i:=i) (by omega)
  obtain⟨x,hx,rx⟩:=b4a r (k:=vs[i].1) (u:=vs[i].2) hv
  have itl:it<s.heap.objs.size:=aB5 st
  rw[←lv]at st
  refine wpAny_pyNext_items_item st da hv fun key h' hkey st' tp hz' k'=>⟨_,rfl,?_⟩
  refine wpAny_letOwnedTupleGo_items (s:={ s with heap:=h' }) st' fun h'' st'' sb=>?_
  have I1:Inv X pins σ H { s with heap:=h'' }:=I.turned (t':=s.toks) (fun b o hb e=>(sb.2 b hb).trans (k' b o hb e)) f0 f1 f3 f4 f5
  have tp':h''.get? s.heap.objs.size=some { cls:=.type "tuple",data:=.seq #[key,vs[i].2] }:=(sb.2 _ (aJ4 itl)).trans tp
  have hn:H s.heap.objs.size=none:=I.hok.fresh (aB3 _)
  have I2:=I.track I1 (o:=.tup [kV vs[i].1,x]) (aB3 _) ⟨by show 2≤sizeLine;rw[aF9];decide,[key,vs[i].2],.cons (a8X hkey) (.cons rx .nil),_,tp',rfl,0,rfl⟩
  refine⟨.ref s.heap.objs.size,_,I2,rfl,⟨_,_,_,hx,rfl,hn,rfl⟩,?_,fun b hb=>?_⟩
  ·rw[←lv];exact⟨_,_,st''⟩
  ·have e:b=it:=by simpa using hb
   rw[e,b7 (aC8 itl)];exact f0
 done:=by
  intro X hP hw hK hc i pins s σ H E I hf st hg
  subst hP hw hK
  obtain⟨hz,hi⟩:=hg
  obtain⟨ok,ov,st⟩:=st
  obtain⟨vs,r,da,_⟩:=a0i I.hok hz hd
  have lv:=a6h r
  obtain⟨f0,f1,f2,f3,f4,f5⟩:=hf it (by simp)
  rw[←lv]at st
  exact wpAny_pyNext_items_end (I.ok.hd hc) st da (aN7 (by omega)) fun h' eb=>⟨rfl,I.turned (t':=s.toks) (fun b o hb e=>eb b o hb e) f0 f1 f3 f4 f5⟩
 self:=fun A i s Q E st h=>by
  obtain⟨ok,ov,st⟩:=st
  have hT:s.TypeIs (.ref it) "dict_itemiterator":=⟨_,st,rfl⟩
  refine wpAny_pyIter_slot hT aS7 (aJ6 aS7 hT b6d ?_ (PySem.F.args_dict_itemiterator_iter_1 _))
  show wpAny _ _ (ret (.ref it)) _ _ s
  exact aA9 ⟨_,rfl,"dict_itemiterator",_,hT,PySem.F.slot_dict_itemiterator_next.lookup,h⟩
def b3C(td:TE):TI:=fun σ H R=>td σ H fun x H1=>∃d kvs,x=.ref d∧H1 d=some (.dK kvs)∧∀o,R (Itv d o kvs) (upd H1 d (.frz o (.dK kvs)))
def b6C(td:TE):TI:=fun σ H R=>td σ H fun x H1=>∃d kvs,x=.ref d∧H1 d=some (.dK kvs)∧∀o,R (Itm d o kvs) (upd H1 d (.frz o (.dK kvs)))
section
variable{X:Cx}{tg e:Expr}{elts:List Expr}{x1:Nat}{td:TE}{ps apos cpos:Pos}
theorem b5e(he:PE X e td)(hbase:attributeBase e "values" X.env (eval e X.env)=eval e X.env:=by rfl)(hline:(apos.endLine==cpos.line)=true:=by rfl):PI X tg (.Call (.Attribute e "values" apos) [] [] cpos) (b3C td):=by
 intro pins s σ H R I h
 refine aR9 hbase hline (m8 (he pins s σ H _ I h) fun v s1 ⟨x,H1,I1,r1,d,kvs,ex,hd,q⟩=>?_)
 subst ex
 cases (show v=Value.ref d from r1)
 obtain⟨z,hs,vs,rel,dd⟩:=a4a I1.hok hd
 obtain⟨t1,t2,_⟩:=a4p I1 (.inl ⟨kvs,.inl hd⟩)
 refine⟨"dict",_,aH5,PySem.F.slot_dict_values,PySem.F.type_dict_values,t1,t2,aI5 rfl (aS5 ?_)⟩
 refine aL0 PySem.F.slot_dict_values dd.typeIs PySem.F.entry_dict_values (PySem.F.args_dict_values_1 _) (meets_dict_values (r8 X.prog X.w) d hs) ⟨⟨vs,dd⟩,?_⟩
 obtain⟨ep,da⟩:=a8g dd
 have k1:∀b u,s1.heap.get? b=some u→(s1.heap.push { cls:=.type "dict_values",data:=.fields #[.ref d] }).get? b=some u:=fun b u e=>aA6 _ e
 have I2:=I1.kept (t':=s1.toks) k1
 obtain⟨o,es,ho,hc,hdat,_⟩:=id da
 have I3:=I2.freeze hd (k1 _ _ ho)
 refine wpAny_pyIter_values (s:={ s1 with heap:=s1.heap.push { cls:=.type "dict_values",data:=.fields #[.ref d] } }) ⟨_,aC0 _ rfl,rfl,rfl⟩ (da.push _) ?_
 have lt:d<s1.heap.objs.size:=aB5 ho
 have lv:=a6h rel
 refine⟨(s1.heap.push { cls:=.type "dict_values",data:=.fields #[.ref d] }).objs.size,[(s1.heap.push { cls:=.type "dict_values",data:=.fields #[.ref d] }).objs.size],_,_,_,rfl,I3.kept (t':=s1.toks) fun b u e=>aA6 _ e,a4T d _ o kvs es ep hdat ?_,?_,fun b hb=>?_,q o⟩
 ·have sz:(s1.heap.push { cls:=.type "dict_values",data:=.fields #[.ref d] }).objs.size=s1.heap.objs.size+1:=aI9 ..
  exact aC8 (aE6 lt (by rw[sz];exact aN2 _))
 ·rw[←lv];exact⟨_,aC0 _ rfl,rfl,rfl⟩
 ·have e:b=(s1.heap.push { cls:=.type "dict_values",data:=.fields #[.ref d] }).objs.size:=aA3.mp hb
  subst e
  exact I3.fpOk (aB3 _) (I3.hok.fresh (aB3 _))
theorem b1p(he:PE X e td)(hbase:attributeBase e "items" X.env (eval e X.env)=eval e X.env:=by rfl)(hline:(apos.endLine==cpos.line)=true:=by rfl):PI X (.Tuple elts x1 ps) (.Call (.Attribute e "items" apos) [] [] cpos) (b6C td):=by
 intro pins s σ H R I h
 refine aR9 hbase hline (m8 (he pins s σ H _ I h) fun v s1 ⟨x,H1,I1,r1,d,kvs,ex,hd,q⟩=>?_)
 subst ex
 cases (show v=Value.ref d from r1)
 obtain⟨z,hs,vs,rel,dd⟩:=a4a I1.hok hd
 obtain⟨t1,t2,_⟩:=a4p I1 (.inl ⟨kvs,.inl hd⟩)
 refine⟨"dict",_,aH5,PySem.F.slot_dict_items,PySem.F.type_dict_items,t1,t2,aI5 rfl (aS5 ?_)⟩
 refine aL0 PySem.F.slot_dict_items dd.typeIs PySem.F.entry_dict_items (PySem.F.args_dict_items_1 _) (meets_dict_items (r8 X.prog X.w) d hs) ⟨⟨vs,dd⟩,?_⟩
 obtain⟨ep,da⟩:=a8g dd
 have k1:∀b u,s1.heap.get? b=some u→(s1.heap.push { cls:=.type "dict_items",data:=.fields #[.ref d] }).get? b=some u:=fun b u e=>aA6 _ e
 have I2:=I1.kept (t':=s1.toks) k1
 obtain⟨o,es,ho,hc,hdat,_⟩:=id da
 have I3:=I2.freeze hd (k1 _ _ ho)
 refine wpAny_pyIter_items (s:={ s1 with heap:=s1.heap.push { cls:=.type "dict_items",data:=.fields #[.ref d] } }) ⟨_,aC0 _ rfl,rfl,rfl⟩ (da.push _) ?_
 have lt:d<s1.heap.objs.size:=aB5 ho
 have lv:=a6h rel
 refine⟨(s1.heap.push { cls:=.type "dict_items",data:=.fields #[.ref d] }).objs.size,[(s1.heap.push { cls:=.type "dict_items",data:=.fields #[.ref d] }).objs.size],_,_,_,rfl,I3.kept (t':=s1.toks) fun b u e=>aA6 _ e,b2c d _ o kvs es ep hdat ?_,?_,fun b hb=>?_,q o⟩
 ·have sz:(s1.heap.push { cls:=.type "dict_items",data:=.fields #[.ref d] }).objs.size=s1.heap.objs.size+1:=aI9 ..
  exact aC8 (aE6 lt (by rw[sz];exact aN2 _))
 ·rw[←lv];exact⟨_,_,aC0 _ rfl⟩
 ·have e:b=(s1.heap.push { cls:=.type "dict_items",data:=.fields #[.ref d] }).objs.size:=aA3.mp hb
  subst e
  exact I3.fpOk (aB3 _) (I3.hok.fresh (aB3 _))
end
end L2
namespace TS
open PySem PySem.Spec PyProof.Rows Srt
section
variable{prog:Program}{w:World}{A:Around}{R:Result→Shared→Prop}{J:Addr}{fq wq:List Addr}{n:Nat}{Pn:Nat→Value→Prop}{Sn:Nat→Heap→Prop}{kw:List (Str×Value)}
theorem a6H(W:Walks prog w A.in1 J fq wq n Pn Sn)(lss:Nat→Nat→Bool)(cmp:CmpOf prog w A.in1 .Lt Pn lss)(B:Addr)(bq:B∉fq) :
  ∀(k j:Nat) (s:Shared) (best:Value) (c:Nat),n-(j+1)=k→j+1≤n→Sn (j+1) s.heap→Pn (argBest lss j) best →
  s.heap.get? B=some { cls:=.type "list",dict:=none,data:=.seq #[best,best] c,slots:=#[] } →
  (∀v h' tk,Pn (argBest lss (n-1)) v→(∀b o,b∉wq→b≠B→s.heap.get? b=some o→h'.get? b=some o)→R (.ok (.ret v)) { s with heap:=h',toks:=tk }) →
  codeAny (model prog w) A (.builtin "min.loop" ⟨[.ref J,.none,.ref B],kw⟩) R s:=by
 have bw:B∉wq:=fun h=>bq (W.sub _ h)
 have nam:(toString "min"++toString ".loop":String)="min.loop":=by decide
 intro k
 induction k with
 | zero=>
  intro j s best c hk hj st pb hB hR
  have jn:j+1=n:=by omega
  refine aH0 aS2 (Eq.mpr (by rw[aF6 aI2 _]) ?_)
  show wpAny (model prog w) A.in1 (seqItems? (.ref B) >>= _) _ _ s
  refine aA1 (aM9 hB rfl ?_)
  show wpAny (model prog w) A.in1 (tryCatch (pyNext (.ref J)) _ >>= _) _ _ s
  refine aA1 (aO4 (W.done s _ _ (jn▸st) fun h' tk kp=>?_))
  have hB':=kp B _ bw hB
  show wpAny (model prog w) A.in1 (updateSeq B (fun _=>#[]) >>= _) _ _ _
  refine aA1 (aN3 hB' rfl (aA1 (wpAny_letGo (aA9 ?_))))
  exact hR best _ tk (by rw[←jn];exact pb) fun b o hb hb2 e=>(aF3 _ _ (Ne.symm hb2)).trans (kp b o hb e)
 | succ k ih=>
  intro j s best c hk hj st pb hB hR
  have jlt:j+1<n:=by omega
  refine aH0 aS2 (Eq.mpr (by rw[aF6 aI2 _]) ?_)
  show wpAny (model prog w) A.in1 (seqItems? (.ref B) >>= _) _ _ s
  refine aA1 (aM9 hB rfl ?_)
  show wpAny (model prog w) A.in1 (tryCatch (pyNext (.ref J)) _ >>= _) _ _ s
  refine aA1 (aO4 (W.item (j+1) s _ _ jlt st fun v h' tk pv st' kp=>?_))
  have hB':=kp B _ bw hB
  show wpAny (model prog w) A.in1 (tryCatch (holding [v,v] (richCompare .Lt v best >>= _)) _ >>= _) _ _ _
  refine aA1 (aO4 (aK2 (aA1 (cmp (j+1) (argBest lss j) v best _ _ _ pv pb ?_))))
  refine aA1 (aK2 (aM3 (aA1 (wpAny_letGo (aA9 ?_)))))
  cases hb:lss (j+1) (argBest lss j) with
  | true=>
   simp only[aQ5]
   refine aA1 (aN3 hB' rfl (aA1 (wpAny_letGo ?_)))
   rw[nam]
   refine aA9 ⟨aH9 aI2 _,ih (j+1) _ v _ (by omega) jlt (W.frame _ _ _ st' fun b hbf o e=>(aF3 _ _ (fun h:B=b=>bq (by rw[h];exact hbf))).trans e) (by simp only[argBest,hb,aQ5];exact pv) (aG3 _ hB' rfl)
    fun v' h2 tk2 pv' kp2=>hR v' h2 tk2 pv' fun b o hb1 hb2 e=>kp2 b o hb1 hb2 ((aF3 _ _ (Ne.symm hb2)).trans (kp b o hb1 e))⟩
  | false=>
   simp only[aI8,aP1]
   refine aA1 (wpAny_letGo ?_)
   rw[nam]
   exact aA9 ⟨aH9 aI2 _,ih (j+1) _ best c (by omega) jlt st' (by simp only[argBest,hb,aI8,aP1];exact pb) hB' fun v' h2 tk2 pv' kp2=>hR v' h2 tk2 pv' fun b o hb1 hb2 e=>kp2 b o hb1 hb2 (kp b o hb1 e)⟩
theorem a9Y(W:Walks prog w A.in1 J fq wq n Pn Sn)(lss:Nat→Nat→Bool)(cmp:CmpOf prog w A.in1 .Lt Pn lss)(B:Addr)(bq:B∉fq){s:Shared}{c:Nat}(st:Sn 0 s.heap){d:Value}{kn:Str}
  (hB:s.heap.get? B=some { cls:=.type "list",dict:=none,data:=.seq #[] c,slots:=#[] })
  (h0:n=0→∀h' tk,(∀b o,b∉wq→b≠B→s.heap.get? b=some o→h'.get? b=some o)→R (.ok (.ret d)) { s with heap:=h',toks:=tk })
  (hR:0<n→∀v h' tk,Pn (argBest lss (n-1)) v→(∀b o,b∉wq→b≠B→s.heap.get? b=some o→h'.get? b=some o)→R (.ok (.ret v)) { s with heap:=h',toks:=tk }) :
  codeAny (model prog w) A (.builtin "min.loop" ⟨[.ref J,.none,.ref B],[(kn,d)]⟩) R s:=by
 have bw:B∉wq:=fun h=>bq (W.sub _ h)
 have nam:(toString "min"++toString ".loop":String)="min.loop":=by decide
 refine aH0 aS2 (Eq.mpr (by rw[aF6 aI2 _]) ?_)
 show wpAny (model prog w) A.in1 (seqItems? (.ref B) >>= _) _ _ s
 refine aA1 (aM9 hB rfl ?_)
 show wpAny (model prog w) A.in1 (tryCatch (pyNext (.ref J)) _ >>= _) _ _ s
 by_cases c0:n=0
 ·subst c0
  refine aA1 (aO4 (W.done s _ _ st fun h' tk kp=>?_))
  refine aA1 (wpAny_rule (aA9 ?_))
  exact h0 rfl h' tk fun b o hb _ e=>kp b o hb e
 ·have np:0<n:=by omega
  refine aA1 (aO4 (W.item 0 s _ _ np st fun v h' tk pv st' kp=>?_))
  have hB':=kp B _ bw hB
  show wpAny (model prog w) A.in1 (updateSeq B (fun _=>#[v,v]) >>= _) _ _ _
  refine aA1 (aN3 hB' rfl ?_)
  rw[nam]
  refine aA9 ⟨aH9 aI2 _,a6H W lss cmp B bq _ 0 _ v _ rfl np (W.frame _ _ _ st' fun b hbf o e=>(aF3 _ _ (fun h:B=b=>bq (by rw[h];exact hbf))).trans e) pv (aG3 _ hB' rfl) fun v' h2 tk2 pv' kp2=>?_⟩
  exact hR np v' h2 tk2 pv' fun b o hb1 hb2 e=>kp2 b o hb1 hb2 ((aF3 _ _ (Ne.symm hb2)).trans (kp b o hb1 e))
end
theorem b0i(a v:Value):argsOk "min" ⟨[a],[(Str.ofString "default",v)]⟩:=by unfold argsOk;kernel_rfl
end TS
namespace L2
open PySem PySem.Spec PyProof.Rows Srt TS
def ltI(ns:List Int)(i j:Nat):Bool:=decide (ns.getD i 0<ns.getD j 0)
theorem a6R(ns:List Int):∀k,k<ns.length→argBest (ltI ns) k≤k∧∀j,j≤k→ns.getD (argBest (ltI ns) k) 0≤ns.getD j 0
 | 0,_=>by
  refine⟨aB3 _,fun j hj=>?_⟩
  have e:j=0:=by omega
  subst e
  exact aQ2 _
 | k+1,hk=>by
  obtain⟨a,b⟩:=a6R ns k (by omega)
  show(if ltI ns (k+1) (argBest (ltI ns) k)=true then k+1 else argBest (ltI ns) k)≤k+1∧∀j,j≤k+1→ns.getD (if ltI ns (k+1) (argBest (ltI ns) k)=true then k+1 else argBest (ltI ns) k) 0≤ns.getD j 0
  by_cases c:ltI ns (k+1) (argBest (ltI ns) k)=true
  ·rw[aB0 c]
   have c':ns.getD (k+1) 0<ns.getD (argBest (ltI ns) k) 0:=aF4 c
   refine⟨aB3 _,fun j hj=>?_⟩
   by_cases e:j=k+1
   ·subst e;exact aQ2 _
   ·have:=b j (by omega);omega
  ·rw[aA4 c]
   have c':¬ns.getD (k+1) 0<ns.getD (argBest (ltI ns) k) 0:=fun z=>c (aC6 z)
   refine⟨by omega,fun j hj=>?_⟩
   by_cases e:j=k+1
   ·subst e;omega
   ·exact b j (by omega)
theorem b3g{X:Cx}{pins:List (Addr×Obj)}{σ:St}{H:Hp}{s:Shared}{Q:VK}{p:Addr}{ns:List Int}{y:V}{d:Value}(hc:X.calm=true)(I:Inv X pins σ H s)(hq:d7 X.K H p (ns.map V.int))(rd:RelV y d)(q3:ns=[]→Q y H)(q4:∀m,m∈ns→(∀n∈ns,m≤n)→Q (.int m) H) :
  wpAny (model X.prog X.w) X.A (call (.builtin "min") [.ref p] [(Str.ofString "default",d)]) (EP X pins σ Q) X.xe s:=by
 obtain⟨its,rv,pl,hz⟩:=I.list hq
 have ln:its.length=ns.length:=by rw[←rv.length,aA0]
 have lt:p<s.heap.objs.size:=let ⟨_,e,_⟩:=pl.isList;aB5 e
 have nam:(toString "min"++toString ".loop":String)="min.loop":=by decide
 refine wpAny_call (codeAny_call_builtin F.plain_min F.entry_min ?_)
 have body:wpAny (model X.prog X.w) X.A.in1 (Builtin.«min» ⟨[.ref p],[(Str.ofString "default",d)]⟩) (fun fin s'=>match fin with
   | .done f=>(match (Except.ok f:Result) with | .ok (.ret v)=>EP X pins σ Q v s' | .ok _=>False | .error e=>X.xe e s')
   | .again c'=>c'.quiet=true∧codeAny (model X.prog X.w) X.A c' (fun r s'=>match r with | .ok (.ret v)=>EP X pins σ Q v s' | .ok _=>False | .error e=>X.xe e s') s') X.xe s:=by
  show wpAny _ X.A.in1 (Builtin.Builtins.bindParams "min" ["key","default"] 0 ⟨[],[(Str.ofString "default",d)]⟩ >>= _) _ _ s
  refine aA1 (wpAny_of_eq (show Builtin.Builtins.bindParams "min" ["key","default"] 0 ⟨[],[(Str.ofString "default",d)]⟩=pure [none,some d] from rfl) ?_)
  refine aA1 (aA9 ?_)
  refine aA1 (aO2 pl.isList ?_)
  refine aA1 (aI6 ?_)
  rw[nam]
  have W:=Walks.list (prog:=X.prog) (w:=X.w) (A:=X.A.in1) (by simpa using I.ok.hd hc) s.heap.objs.size p (aC8 lt) its.toArray
  have z1:(s.heap.push { cls:=.type "list_iterator",data:=.fields #[.ref p,.int 0 0] }).objs.size=s.heap.objs.size+1:=aI9 ..
  have bq:(s.heap.push { cls:=.type "list_iterator",data:=.fields #[.ref p,.int 0 0] }).objs.size∉[s.heap.objs.size,p]:=by
   rw[z1]
   simp only[aB9,aG0,aL6,not_or]
   exact⟨Nat.succ_ne_self _,aJ4 (aJ7 lt)⟩
  have old:∀(h':Heap) (b:Addr) (o:Obj),(∀b o,b∉[s.heap.objs.size]→b≠(s.heap.push { cls:=.type "list_iterator",data:=.fields #[.ref p,.int 0 0] }).objs.size→((s.heap.push { cls:=.type "list_iterator",data:=.fields #[.ref p,.int 0 0] }).push { cls:=.type "list",data:=.seq ([]:List Value).toArray }).get? b=some o→h'.get? b=some o) →
    s.heap.get? b=some o→h'.get? b=some o:=fun h' b o k e=>by
   have lb:=aB5 e
   exact k b o (fun z=>by rw[aA3.mp z]at lb;exact aI3 _ lb) (by rw[z1];exact aC8 (aJ7 lb)) (aA6 _ (aA6 _ e))
  have sz:its.toArray.size=ns.length:=by rw[aD4,ln]
  refine aA9 ⟨aH9 aI2 _,a9Y W (ltI ns) (CmpOf.ints_lt (fun j=>ns.getD j 0) fun i v hv=>T8 rv i v (by simpa using hv)) _ bq (W.frame 0 _ _ ⟨⟨_,aC0 _ rfl,rfl,rfl⟩,pl.isList.push _⟩ fun b _ o e=>aA6 _ e) (aC0 _ rfl) (fun n0 h' tk k=>?_) fun n0 v h' tk pv k=>?_⟩
  ·have e0:ns=[]:=aJ0 (by omega)
   exact⟨y,H,I.kept (t':=tk) fun b o e=>old h' b o k e,rd,q3 e0⟩
  ·obtain⟨t,rfl⟩:=T8 rv _ v (by simpa using pv)
   rw[sz]at n0
   have en:its.length-1=ns.length-1:=by rw[ln]
   rw[en]
   obtain⟨a1,a2⟩:=a6R ns (ns.length-1) (by omega)
   have at':argBest (ltI ns) (ns.length-1)<ns.length:=by omega
   refine⟨.int (ns.getD (argBest (ltI ns) (ns.length-1)) 0),H,I.kept (t':=tk) fun b o e=>old h' b o k e,⟨t,rfl⟩,q4 _ ?_ fun m hm=>?_⟩
   ·rw[aE7,List.getElem?_eq_getElem at']
    exact aG8 at'
   ·obtain⟨j,hj⟩:=aF1.mp hm
    have lj:=(aA2.mp hj).1
    have:=a2 j (by omega)
    rw[aE7 (l:=ns) (i:=j),hj]at this
    exact this
 simp only[checkBuiltinCall,F.kind_min]
 cases hsig:Manifest.signature? "min" with
 | none=>exact aA9 body
 | some sig=>
  have ok:Bind.checkArgs "min" sig ⟨[.ref p],[(Str.ofString "default",d)]⟩=pure ():=by have:=b0i (.ref p) d;simpa only [argsOk,hsig] using this
  simp only[ok]
  exact aA9 body
def b1A(K:PySem.W.Frag)(te td:TE):TE:=fun σ H Q=>te σ H fun x H1=>td σ H1 fun y H2=>∃p ns,x=.ref p∧d7 K H2 p (ns.map V.int)∧(ns=[]→Q y H2)∧(∀m,m∈ns→(∀n∈ns,m≤n)→Q (.int m) H2)
section
variable{X:Cx}{e f:Expr}{te td:TE}{p kp pos:Pos}
theorem a3Y(hc:X.calm=true)(hg:Gl X "min")(hm:X.mg "min"=none)(ha:PE X e te)(hf:PE X f td)
  (h1:starEach [e] X.env=[(false,eval e X.env)]:=by rfl) (h2:keywordEach [⟨some "default",f,kp⟩] X.env=[(some (Str.ofString "default"),eval f X.env)]:=by rfl) :
  PE X (.Call (.Name "min" p) [e] [⟨some "default",f,kp⟩] pos) (b1A X.K te td):=by
 intro pins s σ H Q I h
 refine aJ2 (a1d I hg hm boot_min ?_ (by decide) (by decide))
 refine PyProof.Rows.callWith_kw ?_ (by rw[h1];rfl) (by rw[h1];rfl) (by rw[h2];rfl) (by rw[h2];rfl)
 rw[h1]
 show wpAny _ _ (spliced ((false,eval e X.env)::backTo pos [])) _ _ s
 refine aI0 (m8 (ha pins s σ H _ I h) fun u s1 ⟨x,H1,I1,r1,q1⟩=>aL1 ?_)
 refine m8 (b4s hf b8y pos pins s1 σ H1 (fun zs H2=>match zs with
  | [y]=>∃p ns,x=.ref p∧d7 X.K H2 p (ns.map V.int)∧(ns=[]→Q y H2)∧(∀m,m∈ns→(∀n∈ns,m≤n)→Q (.int m) H2)
  | _=>False) I1 q1) fun ws s2 ⟨zs,H2,I2,rz,q2⟩=>?_
 match zs,ws,rz,q2 with
 | [y],_,.cons (b:=d) rd .nil,q2=>
  obtain⟨p,ns,rfl,hq,q3,q4⟩:=q2
  cases (show u=Value.ref p from r1)
  rw[h2]
  exact b3g hc I2 hq rd q3 q4
end
open PySem PySem.Spec PyProof.Rows Srt TS
section
variable{X:Cx}{own tl:List Str}{scope:Scope}{cl:List (Str×Addr)}{C:Addr}{s₀:Shared}{H₀:Hp}{ex:List Addr}{e:Expr}{ta:TE}{f:Str}{pos:Pos}
theorem a2X(he:PE (U3 X own tl scope cl C s₀ H₀ ex) e ta)(hb:attributeBase e f (U3 X own tl scope cl C s₀ H₀ ex).env (eval e (U3 X own tl scope cl C s₀ H₀ ex).env)=eval e (U3 X own tl scope cl C s₀ H₀ ex).env):PE (U3 X own tl scope cl C s₀ H₀ ex) (.Attribute e f pos) (b5x X.K ta f):=t9 he hb
end
theorem b1t{d:Addr}{o:Obj}{kvs:List (Key×V)}{g:TG}{tb:TS}{D:Ends}{σ:St}{H:Hp}(Pv:Nat→St→Hp→Prop)(h0:Pv 0 σ H)(hl:∀i σ H,i≤kvs.length→Pv i σ H→H d=some (.frz o (.dK kvs)))
  (hs:∀i k v σ H t,kvs[i]?=some (k,v)→Pv i σ H→H t=none→g (.ref t) σ (upd H t (.tup [kV k,v])) fun σ2 H2=>tb { D with nx:=Pv (i+1),ct:=Pv (i+1),bk:=D.nx } σ2 H2) (hd:∀σ H,Pv kvs.length σ H→D.nx σ H) :
  ∃W:Nat→Nat→St→Hp→Prop,(∃m,W 0 m σ H)∧∀i m σ H,W i m σ H →
   ((Itm d o kvs).stop i H∧D.nx σ H)∨((Itm d o kvs).go i H∧∃N:St→Hp→Prop,(∀σ' H',N σ' H'→∃m',m'<m∧W (i+1) m' σ' H')∧∀x H',(Itm d o kvs).yld i H x H'→g x σ H' fun σ2 H2=>tb { D with nx:=N,ct:=N,bk:=D.nx } σ2 H2):=by
 refine⟨fun i m σ H=>m=kvs.length-i∧i≤kvs.length∧Pv i σ H,⟨kvs.length,by simp,aG4 _,h0⟩,?_⟩
 rintro i m σ H ⟨rfl,hi,p⟩
 have q:=hl i σ H hi p
 by_cases lt:i<kvs.length
 ·refine .inr ⟨⟨q,lt⟩,Pv (i+1),fun σ' H' p'=>⟨kvs.length-(i+1),by omega,rfl,lt,p'⟩,fun x H' y=>?_⟩
  obtain⟨t,k,v,e,ex,ht,eH⟩:=y
  subst ex eH
  exact hs i k v σ H t e p ht
 ·have e:i=kvs.length:=by omega
  subst e
  exact .inl ⟨⟨q,aB3 _⟩,hd σ H p⟩
theorem b1k{d:Addr}{o:Obj}{kvs:List (Key×V)}{acc:Addr}{tc:TT}{te:TE}{σ:St}{H1:Hp}{Q:Hp→Prop}(Pv:Nat→Hp→Prop)(h0:Pv 0 (upd H1 acc (.lst [])))(hl:∀i H,i≤kvs.length→Pv i H→H d=some (.frz o (.dK kvs)))
  (hs:∀i k x H,kvs[i]?=some (k,x)→Pv i H→tc (some x::σ) H fun b H3=>if b=true then te (some x::σ) H3 fun y H4=>∃ys,H4 acc=some (.lst ys)∧ys.length<sizeLine∧Pv (i+1) (upd H4 acc (.lst (ys++[y]))) else Pv (i+1) H3)
  (hd:∀H,Pv kvs.length H→Q H):a0z 1 (a8q 0) tc te (Itv d o kvs) acc σ H1 Q:=by
 refine⟨fun i m H=>i≤kvs.length∧m=kvs.length-i∧Pv i H,⟨_,aG4 _,rfl,h0⟩,fun i m H ⟨hi,hm,hp⟩=>?_⟩
 have q:=hl i H hi hp
 rcases aP3 i kvs.length with lt | ge
 ·refine .inr ⟨⟨q,lt⟩,Pv (i+1),fun H' h'=>⟨kvs.length-(i+1),by omega,by omega,rfl,h'⟩,fun os x H' ho hy=>?_⟩
  obtain⟨rfl,k,hx⟩:=hy
  obtain⟨z,rfl⟩:∃z,os=[z]:=by
   match os,ho with
   | [z],_=>exact⟨z,rfl⟩
  exact⟨⟨[some x],rfl,rfl⟩,hs i k x H' hx hp⟩
 ·have e:i=kvs.length:=by omega
  subst e
  exact .inl ⟨⟨q,aB3 _⟩,hd H hp⟩
open PySem PySem.Spec PyProof.Rows Srt TS
section
variable{X:Cx}
theorem b8v:MtR X "dict.copy" (fun x xs H Q=>∃d kvs,x=.ref d∧xs=[]∧H d=some (.dK kvs)∧∀v,H v=none→Q (.ref v) (upd H v (.dK kvs))):=by
 intro pins s σ H x xs v us Q I rx rv h
 obtain⟨d,kvs,rfl,rfl,e,q⟩:=h
 cases rx
 cases rv
 obtain⟨zz,hd,vs,rel,dd⟩:=a4a I.hok e
 refine aL0 PySem.F.slot_dict_copy dd.typeIs PySem.F.entry_dict_copy (PySem.F.args_dict_copy_1 _) (meets_dict_copy (r8 X.prog X.w) d hd) ⟨vs,dd,by rw[←rel.length];exact zz,fun h' d1 d2 k=>?_⟩
 exact⟨.ref s.heap.objs.size,_,I.laid (t':=s.toks) (o:=.dK kvs) k (aB3 _) ⟨zz,aG2.mpr (Ne.symm (aC8 I.big)),vs,rel,d1⟩,rfl,q _ (I.hok.fresh (aB3 _))⟩
theorem b7c:MtR X "dict.update" (fun x xs H Q=>∃d o kvs more,x=.ref d∧xs=[.ref o]∧d≠o∧H d=some (.dK kvs)∧H o=some (.dK more)∧kvs.length+more.length≤sizeLine∧Q .non (upd H d (.dK (a3c kvs more)))):=by
 intro pins s σ H x xs v us Q I rx rv h
 obtain⟨d,o,kvs,more,rfl,rfl,ne,e1,e2,z,q⟩:=h
 cases rx
 obtain⟨u,rfl,ru⟩:=vals1 rv
 cases (show u=Value.ref o from ru)
 obtain⟨zz,hd,vs,rel,dd⟩:=a4a I.hok e1
 obtain⟨zz2,hd2,ms,rel2,dd2⟩:=a4a I.hok e2
 refine aL0 PySem.F.slot_dict_update dd.typeIs PySem.F.entry_dict_update (PySem.F.args_dict_update_2 _ _) (meets_dict_update (r8 X.prog X.w) d o ne hd2) ⟨vs,ms,dd,dd2,by rw[←rel.length,←rel2.length];exact z,fun h' d1 d2 k=>?_⟩
 have he':∃q,h'.get? d=some q:=let ⟨q,_,_,hq,_⟩:=d1;⟨q,hq⟩
 have hl:(a3c kvs more).length≤sizeLine:=aD8 (a3l more kvs) z
 exact⟨.non,_,a3b (t':=s.toks) I (by rw[e1];exact True.intro) k he' (a1p hl hd (KV.merge rel2 rel) d1),rfl,q⟩
end
end L2
namespace TS
open PySem PySem.Spec PyProof.Rows Srt
section
variable{prog:Program}{w:World}{A:Around}{R:Result→Shared→Prop}{J:Addr}{fq wq:List Addr}{n:Nat}{Pn:Nat→Value→Prop}{Sn:Nat→Heap→Prop}{kw:List (Str×Value)}
theorem b5k(W:Walks prog w A.in1 J fq wq n Pn Sn)(lss:Nat→Nat→Bool)(cmp:CmpOf prog w A.in1 .Lt Pn lss)(B:Addr)(bq:B∉fq){s:Shared}{c:Nat}(st:Sn 0 s.heap)(np:0<n)
  (hB:s.heap.get? B=some { cls:=.type "list",dict:=none,data:=.seq #[] c,slots:=#[] })
  (hR:∀v h' tk,Pn (argBest lss (n-1)) v→(∀b o,b∉wq→b≠B→s.heap.get? b=some o→h'.get? b=some o)→R (.ok (.ret v)) { s with heap:=h',toks:=tk }) :
  codeAny (model prog w) A (.builtin "min.loop" ⟨[.ref J,.none,.ref B],kw⟩) R s:=by
 have bw:B∉wq:=fun h=>bq (W.sub _ h)
 have nam:(toString "min"++toString ".loop":String)="min.loop":=by decide
 refine aH0 aS2 (Eq.mpr (by rw[aF6 aI2 _]) ?_)
 show wpAny (model prog w) A.in1 (seqItems? (.ref B) >>= _) _ _ s
 refine aA1 (aM9 hB rfl ?_)
 show wpAny (model prog w) A.in1 (tryCatch (pyNext (.ref J)) _ >>= _) _ _ s
 refine aA1 (aO4 (W.item 0 s _ _ np st fun v h' tk pv st' kp=>?_))
 have hB':=kp B _ bw hB
 show wpAny (model prog w) A.in1 (updateSeq B (fun _=>#[v,v]) >>= _) _ _ _
 refine aA1 (aN3 hB' rfl ?_)
 rw[nam]
 refine aA9 ⟨aH9 aI2 _,a6H W lss cmp B bq _ 0 _ v _ rfl np (W.frame _ _ _ st' fun b hbf o e=>(aF3 _ _ (fun h:B=b=>bq (by rw[h];exact hbf))).trans e) pv (aG3 _ hB' rfl) fun v' h2 tk2 pv' kp2=>?_⟩
 exact hR v' h2 tk2 pv' fun b o hb1 hb2 e=>kp2 b o hb1 hb2 ((aF3 _ _ (Ne.symm hb2)).trans (kp b o hb1 e))
end
theorem b2l(v:Value):argsOk "min" ⟨[v],[]⟩:=by unfold argsOk;kernel_rfl
end TS
namespace L2
open PySem PySem.Spec PyProof.Rows Srt TS
theorem min_one{X:Cx}{pins:List (Addr×Obj)}{σ:St}{H:Hp}{s:Shared}{Q:VK}{p:Addr}{ns:List Int}(hc:X.calm=true)(I:Inv X pins σ H s)(hq:d7 X.K H p (ns.map V.int))(n0:ns≠[])(q4:∀m,m∈ns→(∀n∈ns,m≤n)→Q (.int m) H) :
  wpAny (model X.prog X.w) X.A (call (.builtin "min") [.ref p] []) (EP X pins σ Q) X.xe s:=by
 obtain⟨its,rv,pl,hz⟩:=I.list hq
 have ln:its.length=ns.length:=by rw[←rv.length,aA0]
 have lt:p<s.heap.objs.size:=let ⟨_,e,_⟩:=pl.isList;aB5 e
 have nam:(toString "min"++toString ".loop":String)="min.loop":=by decide
 refine wpAny_call (codeAny_call_builtin F.plain_min F.entry_min ?_)
 have body:wpAny (model X.prog X.w) X.A.in1 (Builtin.«min» ⟨[.ref p],[]⟩) (fun fin s'=>match fin with
   | .done f=>(match (Except.ok f:Result) with | .ok (.ret v)=>EP X pins σ Q v s' | .ok _=>False | .error e=>X.xe e s')
   | .again c'=>c'.quiet=true∧codeAny (model X.prog X.w) X.A c' (fun r s'=>match r with | .ok (.ret v)=>EP X pins σ Q v s' | .ok _=>False | .error e=>X.xe e s') s') X.xe s:=by
  show wpAny _ X.A.in1 (Builtin.Builtins.bindParams "min" ["key","default"] 0 ⟨[],[]⟩ >>= _) _ _ s
  refine aA1 (wpAny_of_eq (show Builtin.Builtins.bindParams "min" ["key","default"] 0 ⟨[],[]⟩=pure [none,none] from rfl) ?_)
  refine aA1 (aA9 ?_)
  refine aA1 (aO2 pl.isList ?_)
  refine aA1 (aI6 ?_)
  rw[nam]
  have W:=Walks.list (prog:=X.prog) (w:=X.w) (A:=X.A.in1) (by simpa using I.ok.hd hc) s.heap.objs.size p (aC8 lt) its.toArray
  have z1:(s.heap.push { cls:=.type "list_iterator",data:=.fields #[.ref p,.int 0 0] }).objs.size=s.heap.objs.size+1:=aI9 ..
  have bq:(s.heap.push { cls:=.type "list_iterator",data:=.fields #[.ref p,.int 0 0] }).objs.size∉[s.heap.objs.size,p]:=by
   rw[z1]
   simp only[aB9,aG0,aL6,not_or]
   exact⟨Nat.succ_ne_self _,aJ4 (aJ7 lt)⟩
  have old:∀(h':Heap) (b:Addr) (o:Obj),(∀b o,b∉[s.heap.objs.size]→b≠(s.heap.push { cls:=.type "list_iterator",data:=.fields #[.ref p,.int 0 0] }).objs.size→((s.heap.push { cls:=.type "list_iterator",data:=.fields #[.ref p,.int 0 0] }).push { cls:=.type "list",data:=.seq ([]:List Value).toArray }).get? b=some o→h'.get? b=some o) →
    s.heap.get? b=some o→h'.get? b=some o:=fun h' b o k e=>by
   have lb:=aB5 e
   exact k b o (fun z=>by rw[aA3.mp z]at lb;exact aI3 _ lb) (by rw[z1];exact aC8 (aJ7 lb)) (aA6 _ (aA6 _ e))
  have sz:its.toArray.size=ns.length:=by rw[aD4,ln]
  refine aA9 ⟨aH9 aI2 _,b5k W (ltI ns) (CmpOf.ints_lt (fun j=>ns.getD j 0) fun i v hv=>T8 rv i v (by simpa using hv)) _ bq (W.frame 0 _ _ ⟨⟨_,aC0 _ rfl,rfl,rfl⟩,pl.isList.push _⟩ fun b _ o e=>aA6 _ e) (by have:=List.length_pos_iff.mpr n0;omega) (aC0 _ rfl) fun v h' tk pv k=>?_⟩
  obtain⟨t,rfl⟩:=T8 rv _ v (by simpa using pv)
  have n0:=List.length_pos_iff.mpr n0
  have en:its.length-1=ns.length-1:=by rw[ln]
  rw[en]
  obtain⟨a1,a2⟩:=a6R ns (ns.length-1) (by omega)
  have at':argBest (ltI ns) (ns.length-1)<ns.length:=by omega
  refine⟨.int (ns.getD (argBest (ltI ns) (ns.length-1)) 0),H,I.kept (t':=tk) fun b o e=>old h' b o k e,⟨t,rfl⟩,q4 _ ?_ fun m hm=>?_⟩
  ·rw[aE7,List.getElem?_eq_getElem at']
   exact aG8 at'
  ·obtain⟨j,hj⟩:=aF1.mp hm
   have lj:=(aA2.mp hj).1
   have:=a2 j (by omega)
   rw[aE7 (l:=ns) (i:=j),hj]at this
   exact this
 simp only[checkBuiltinCall,F.kind_min]
 cases hsig:Manifest.signature? "min" with
 | none=>exact aA9 body
 | some sig=>
  have ok:Bind.checkArgs "min" sig ⟨[.ref p],[]⟩=pure ():=by have:=b2l (.ref p);simpa only [argsOk,hsig] using this
  simp only[ok]
  exact aA9 body
theorem b5g{X:Cx}(hc:X.calm=true):L6 X (.builtin "min") (fun as H Q=>∃p ns,as=[.ref p]∧d7 X.K H p (ns.map V.int)∧ns≠[]∧∀m,m∈ns→(∀n∈ns,m≤n)→Q (.int m) H):=by
 intro pins s σ H as us Q I r h
 obtain⟨p,ns,rfl,hq,n0,q⟩:=h
 obtain⟨u,rfl,ru⟩:=vals1 r
 cases (show u=Value.ref p from ru)
 exact min_one hc I hq n0 q
end L2
namespace My
open PySem PySem.Spec PyProof.Rows L2
set_option maxRecDepth 100000
theorem B4{N P:List Str}{sc:Scope}(h:(decide (sc.kind=.function)&&(!sc.isCoroutine&&!sc.isGenerator)&&decide N.Nodup&&decide (N.take P.length=P)&&P.all (fun x=>sc.names.lookup x==some .local||sc.names.lookup x==some .cell)&&sc.names.all fun y=>y.2 != .free)=true):j9 N P sc:=by
 simp only[aF2,aL7,Bool.not_eq_true',aQ4,Bool.or_eq_true,aP7,bne_iff_ne]at h
 obtain⟨⟨⟨⟨⟨h1,h2,h3⟩,h4⟩,h5⟩,h6⟩,h7⟩:=h
 exact⟨h1,h2,h3,h4,h5,h6,h7⟩
theorem a7Z:j9 ["goods","others"] ["goods","others"] (i7 a0q):=B4 (by decide +kernel)
theorem a0M:j9 ["one","other","goods","why"] ["one","other","goods","why"] (i7 a6f):=B4 (by decide +kernel)
theorem a0c:j9 ["one","other","links"] ["one","other"] (i7 V4):=B4 (by decide +kernel)
theorem Z0:j9 ["record","others","links","other"] ["record","others"] (i7 a4c):=B4 (by decide +kernel)
theorem X9:j9 ["place","numbers","links","found","number","link"] ["place","numbers","links"] (i7 a7k):=B4 (by decide +kernel)
theorem y8:j9 ["numbers","links","links_from","links_to","unkept","number","ready","row","link","other"] ["numbers","links"] (i7 Z6):=B4 (by decide +kernel)
theorem G4:j9 ["links","link_to","link","number","met","walked"] ["links"] (i7 a1a):=B4 (by decide +kernel)
theorem Q2:j9 ["numbers","links","row","placed","number"] ["numbers","links"] (i7 Y7):=B4 (by decide +kernel)
theorem b6b:j9 ["versions","moment"] ["versions","moment"] (i7 a8n):=B4 (by decide +kernel)
theorem a8t:j9 ["versions","moment","count"] ["versions","moment"] (i7 a8k):=B4 (by decide +kernel)
theorem a3P:j9 ["versions","moment","gone"] ["versions","moment"] (i7 a9C):=B4 (by decide +kernel)
theorem a7I:j9 ["ring","number","place"] ["ring","number"] (i7 a0v):=B4 (by decide +kernel)
theorem a9l:j9 ["self","number","began"] ["self","number","began"] (i7 P3):=B4 (by decide +kernel)
theorem a9r:j9 ["self","ended"] ["self","ended"] (i7 S9):=B4 (by decide +kernel)
theorem a2s:j9 ["self"] ["self"] (i7 S6):=B4 (by decide +kernel)
theorem a1B:j9 ["self"] ["self"] (i7 W5):=B4 (by decide +kernel)
theorem a5h:j9 ["self","number"] ["self"] (i7 Y9):=B4 (by decide +kernel)
theorem a4l:j9 ["self","number","good","dealing"] ["self","number","good"] (i7 a5d):=B4 (by decide +kernel)
theorem a5o:j9 ["self","number","good","amount","dealing"] ["self","number","good","amount"] (i7 a9e):=B4 (by decide +kernel)
theorem a2C:j9 ["self","number"] ["self","number"] (i7 Z5):=B4 (by decide +kernel)
theorem P5:j9 ["self","number","dealing","record","links","found"] ["self","number"] (i7 a3f):=B4 (by decide +kernel)
theorem P6:j9 ["self","aside","good","amount"] ["self","aside"] (i7 Q8):=B4 (by decide +kernel)
theorem G3:j9 ["self","beginnings","moment","gone","good","left"] ["self"] (i7 Z4):=B4 (by decide +kernel)
theorem a9u:j9 ["self"] ["self"] (i7 U6):=B4 (by decide +kernel)
theorem a2c:j9 ["tally","number","ring"] ["tally","number"] (i7 U8):=B4 (by decide +kernel)
theorem V7:j9 ["tally","deed","number"] ["tally","deed"] (i7 P7):=B4 (by decide +kernel)
theorem a8P:j9 ["tally","deed"] ["tally","deed"] (i7 a0f):=B4 (by decide +kernel)
theorem Z1:j9 ["tally","deeds","told","deed"] ["tally","deeds"] (i7 a7d):=B4 (by decide +kernel)
theorem a1e:j9 ["deeds","tally"] ["deeds"] (i7 X3):=B4 (by decide +kernel)
theorem b5a:j9 ["deeds"] ["deeds"] (i7 a3q):=B4 (by decide +kernel)
theorem a3H:j9 ["deeds","tally"] ["deeds"] (i7 a9w):=B4 (by decide +kernel)
theorem K6:j9 ["_law_found","_law_due","_law_todo","_law_left","_law_right","_law_k"] ["_law_found","_law_due"] (i7 U2):=B4 (by decide +kernel)
theorem a6Q:j9 ["_law_script","_law_most","_law_bound"] ["_law_script","_law_most","_law_bound"] (i7 a9f):=B4 (by decide +kernel)
theorem a7J:j9 ["_law_found"] ["_law_found"] (i7 a9d):=B4 (by decide +kernel)
theorem a5l:j9 ["_law_found","_law_due","_law_k"] ["_law_found","_law_due"] (i7 a8c):=B4 (by decide +kernel)
theorem a4o:j9 ["_law_spot","_law_place","_law_goods"] ["_law_spot","_law_place"] (i7 a8f):=B4 (by decide +kernel)
theorem p5:j9 ["_law_cells","_law_made","_law_under","_law_over","_law_begun","_law_most","_law_size","_law_k","_law_pick","_law_rest","_law_near","_law_good","_law_odd","_law_bad","_law_menu","_law_who","_law_amounts","_law_amount"] ["_law_cells"] (i7 a2d):=B4 (by decide +kernel)
theorem a2J:j9 ["_law_found"] ["_law_found"] (i7 a4d):=B4 (by decide +kernel)
theorem v8:j9 ["_law_asked","_law_told","_law_since","_law_looked","_law_laid","_law_records","_law_tries","_law_k","_law_deed","_law_who","_law_ends","_law_record"] ["_law_asked","_law_told"] (i7 Z2):=B4 (by decide +kernel)
theorem a1K:j9 ["_law_one","_law_two"] ["_law_one","_law_two"] (i7 a9c):=B4 (by decide +kernel)
theorem m4:j9 ["_law_asked","_law_told","_law_counts","_law_moments","_law_under","_law_begun","_law_moment","_law_tries","_law_k","_law_record","_law_records","_law_good","_law_low","_law_gone","_law_old"] ["_law_asked","_law_told"] (i7 V2):=B4 (by decide +kernel)
theorem A0:j9 ["_law_asked","_law_told","_law_tally","_law_begun","_law_laid","_law_under","_law_k","_law_deed","_law_mine","_law_due"] ["_law_asked","_law_told"] (i7 W1):=B4 (by decide +kernel)
theorem a7B:j9 ["_law_one","_law_other"] ["_law_one","_law_other"] (i7 Z9):=B4 (by decide +kernel)
theorem N5:j9 ["_law_records","_law_record","_law_seen","_law_spot","_law_other"] ["_law_records","_law_record"] (i7 Z8):=B4 (by decide +kernel)
theorem L8:j9 ["_law_asked","_law_told","_law_k","_law_record","_law_records"] ["_law_asked","_law_told"] (i7 Q6):=B4 (by decide +kernel)
theorem M4:j9 ["_law_script","_law_asked","_law_told","_law_k","_law_gone","_law_kept","_law_fewer","_law_again","_law_tally","_law_due","_law_rows","_law_handed","_law_found"] ["_law_script"] (i7 S3):=B4 (by decide +kernel)
theorem a4B:(["good","one","other","goods","why"]:List Str).Nodup:=by decide +kernel
theorem a6x:(["number","numbers","links","links_from","links_to","unkept",".","ready","row","link","other"]:List Str).Nodup:=by decide +kernel
theorem a4x:(["link","numbers","links","row","placed","number"]:List Str).Nodup:=by decide +kernel
theorem a9M:(["version","versions","moment"]:List Str).Nodup:=by decide +kernel
theorem a7T:(["link","ring","number","place"]:List Str).Nodup:=by decide +kernel
theorem a5E:(["ended","self","number","dealing","record","links","found"]:List Str).Nodup:=by decide +kernel
theorem a6v:(["dealing","self","beginnings","moment","gone","good","left"]:List Str).Nodup:=by decide +kernel
theorem a6n:(["good","self"]:List Str).Nodup:=by decide +kernel
theorem a8p:(["_law_who","_law_asked","_law_told","_law_counts","_law_moments","_law_under","_law_begun","_law_moment","_law_tries","_law_k","_law_record","_law_records","_law_good","_law_low","_law_gone","_law_old"]:List Str).Nodup:=by decide +kernel
theorem a9m:(["_law_one","_law_asked","_law_told","_law_counts","_law_moments","_law_under","_law_begun","_law_moment","_law_tries","_law_k","_law_record","_law_records","_law_good","_law_low","_law_gone","_law_old"]:List Str).Nodup:=by decide +kernel
theorem S7:(["_law_good","_law_one","_law_other"]:List Str).Nodup:=by decide +kernel
theorem a4R:(["_law_k","_law_script","_law_asked","_law_told",".","_law_gone","_law_kept","_law_fewer","_law_again","_law_tally","_law_due","_law_rows","_law_handed","_law_found"]:List Str).Nodup:=by decide +kernel
theorem b3o:(["_law_good","_law_script","_law_asked","_law_told","_law_k","_law_gone","_law_kept","_law_fewer","_law_again","_law_tally","_law_due","_law_rows","_law_handed","_law_found"]:List Str).Nodup:=by decide +kernel
structure FB(K:PySem.W.Frag)(n q:Str)(s:Stmt)(f:Addr)(d:FuncData)(ps:List Str):Prop extends Fun K n q s f d where
 b:Binds K d ps []
structure A7(K:PySem.W.Frag)(mg:Str→Option Value)(t:C5):Prop where
 F_in_both:FB K "in_both" "in_both" a0q t.f_in_both t.d_in_both ["goods","others"]
 m_in_both:mg "in_both"=some (.ref t.f_in_both)
 F_links_for:FB K "links_for" "links_for" a6f t.f_links_for t.d_links_for ["one","other","goods","why"]
 m_links_for:mg "links_for"=some (.ref t.f_links_for)
 F_links_between:FB K "links_between" "links_between" V4 t.f_links_between t.d_links_between ["one","other"]
 m_links_between:mg "links_between"=some (.ref t.f_links_between)
 F_links_with:FB K "links_with" "links_with" a4c t.f_links_with t.d_links_with ["record","others"]
 m_links_with:mg "links_with"=some (.ref t.f_links_with)
 F_links_by:FB K "links_by" "links_by" a7k t.f_links_by t.d_links_by ["place","numbers","links"]
 m_links_by:mg "links_by"=some (.ref t.f_links_by)
 F_longest_row:FB K "longest_row" "longest_row" Z6 t.f_longest_row t.d_longest_row ["numbers","links"]
 m_longest_row:mg "longest_row"=some (.ref t.f_longest_row)
 F_ring_behind:FB K "ring_behind" "ring_behind" a1a t.f_ring_behind t.d_ring_behind ["links"]
 m_ring_behind:mg "ring_behind"=some (.ref t.f_ring_behind)
 F_row_or_ring:FB K "row_or_ring" "row_or_ring" Y7 t.f_row_or_ring t.d_row_or_ring ["numbers","links"]
 m_row_or_ring:mg "row_or_ring"=some (.ref t.f_row_or_ring)
 F_reached:FB K "reached" "reached" a8n t.f_reached t.d_reached ["versions","moment"]
 m_reached:mg "reached"=some (.ref t.f_reached)
 F_value_at:FB K "value_at" "value_at" a8k t.f_value_at t.d_value_at ["versions","moment"]
 m_value_at:mg "value_at"=some (.ref t.f_value_at)
 F_swept:FB K "swept" "swept" a9C t.f_swept t.d_swept ["versions","moment"]
 m_swept:mg "swept"=some (.ref t.f_swept)
 F_turned:FB K "turned" "turned" a0v t.f_turned t.d_turned ["ring","number"]
 m_turned:mg "turned"=some (.ref t.f_turned)
 F_Dealing___init__:FB K "__init__" "Dealing.__init__" P3 t.f_Dealing___init__ t.d_Dealing___init__ ["self","number","began"]
 K_Dealing:Mk K t.C_Dealing t.f_Dealing___init__
 F_Dealing_record:FB K "record" "Dealing.record" S9 t.f_Dealing_record t.d_Dealing_record ["self","ended"]
 M_Dealing_record:V3 K t.C_Dealing "record" t.f_Dealing_record
 F_Tally___init__:FB K "__init__" "Tally.__init__" S6 t.f_Tally___init__ t.d_Tally___init__ ["self"]
 K_Tally:Mk K t.C_Tally t.f_Tally___init__
 F_Tally_moment:FB K "moment" "Tally.moment" W5 t.f_Tally_moment t.d_Tally_moment ["self"]
 M_Tally_moment:V3 K t.C_Tally "moment" t.f_Tally_moment
 F_Tally_begin:FB K "begin" "Tally.begin" Y9 t.f_Tally_begin t.d_Tally_begin ["self"]
 M_Tally_begin:V3 K t.C_Tally "begin" t.f_Tally_begin
 F_Tally_look:FB K "look" "Tally.look" a5d t.f_Tally_look t.d_Tally_look ["self","number","good"]
 M_Tally_look:V3 K t.C_Tally "look" t.f_Tally_look
 F_Tally_put:FB K "put" "Tally.put" a9e t.f_Tally_put t.d_Tally_put ["self","number","good","amount"]
 M_Tally_put:V3 K t.C_Tally "put" t.f_Tally_put
 F_Tally_leave:FB K "leave" "Tally.leave" Z5 t.f_Tally_leave t.d_Tally_leave ["self","number"]
 M_Tally_leave:V3 K t.C_Tally "leave" t.f_Tally_leave
 F_Tally_end:FB K "end" "Tally.end" a3f t.f_Tally_end t.d_Tally_end ["self","number"]
 M_Tally_end:V3 K t.C_Tally "end" t.f_Tally_end
 F_Tally_take_over:FB K "take_over" "Tally.take_over" Q8 t.f_Tally_take_over t.d_Tally_take_over ["self","aside"]
 M_Tally_take_over:V3 K t.C_Tally "take_over" t.f_Tally_take_over
 F_Tally_sweep:FB K "sweep" "Tally.sweep" Z4 t.f_Tally_sweep t.d_Tally_sweep ["self"]
 M_Tally_sweep:V3 K t.C_Tally "sweep" t.f_Tally_sweep
 F_Tally_amounts:FB K "amounts" "Tally.amounts" U6 t.f_Tally_amounts t.d_Tally_amounts ["self"]
 M_Tally_amounts:V3 K t.C_Tally "amounts" t.f_Tally_amounts
 F_answer_to_end:FB K "answer_to_end" "answer_to_end" U8 t.f_answer_to_end t.d_answer_to_end ["tally","number"]
 m_answer_to_end:mg "answer_to_end"=some (.ref t.f_answer_to_end)
 F_answer_under_way:FB K "answer_under_way" "answer_under_way" P7 t.f_answer_under_way t.d_answer_under_way ["tally","deed"]
 m_answer_under_way:mg "answer_under_way"=some (.ref t.f_answer_under_way)
 F_answer_to:FB K "answer_to" "answer_to" a0f t.f_answer_to t.d_answer_to ["tally","deed"]
 m_answer_to:mg "answer_to"=some (.ref t.f_answer_to)
 F_answers_at:FB K "answers_at" "answers_at" a7d t.f_answers_at t.d_answers_at ["tally","deeds"]
 m_answers_at:mg "answers_at"=some (.ref t.f_answers_at)
 F_tally_behind:FB K "tally_behind" "tally_behind" X3 t.f_tally_behind t.d_tally_behind ["deeds"]
 m_tally_behind:mg "tally_behind"=some (.ref t.f_tally_behind)
 F_answers:FB K "answers" "answers" a3q t.f_answers t.d_answers ["deeds"]
 m_answers:mg "answers"=some (.ref t.f_answers)
 F_ending:FB K "ending" "ending" a9w t.f_ending t.d_ending ["deeds"]
 m_ending:mg "ending"=some (.ref t.f_ending)
 F__law_unturned:FB K "_law_unturned" "_law_unturned" U2 t.f__law_unturned t.d__law_unturned ["_law_found","_law_due"]
 m__law_unturned:mg "_law_unturned"=some (.ref t.f__law_unturned)
 F__law_room:FB K "_law_room" "_law_room" a9f t.f__law_room t.d__law_room ["_law_script","_law_most","_law_bound"]
 m__law_room:mg "_law_room"=some (.ref t.f__law_room)
 F__law_whole:FB K "_law_whole" "_law_whole" a9d t.f__law_whole t.d__law_whole ["_law_found"]
 m__law_whole:mg "_law_whole"=some (.ref t.f__law_whole)
 F__law_table:FB K "_law_table" "_law_table" a8c t.f__law_table t.d__law_table ["_law_found","_law_due"]
 m__law_table:mg "_law_table"=some (.ref t.f__law_table)
 F__law_ware:FB K "_law_ware" "_law_ware" a8f t.f__law_ware t.d__law_ware ["_law_spot","_law_place"]
 m__law_ware:mg "_law_ware"=some (.ref t.f__law_ware)
 F__law_deeds:FB K "_law_deeds" "_law_deeds" a2d t.f__law_deeds t.d__law_deeds ["_law_cells"]
 m__law_deeds:mg "_law_deeds"=some (.ref t.f__law_deeds)
 F__law_ended:FB K "_law_ended" "_law_ended" a4d t.f__law_ended t.d__law_ended ["_law_found"]
 m__law_ended:mg "_law_ended"=some (.ref t.f__law_ended)
 F__law_walked:FB K "_law_walked" "_law_walked" Z2 t.f__law_walked t.d__law_walked ["_law_asked","_law_told"]
 m__law_walked:mg "_law_walked"=some (.ref t.f__law_walked)
 F__law_alike:FB K "_law_alike" "_law_alike" a9c t.f__law_alike t.d__law_alike ["_law_one","_law_two"]
 m__law_alike:mg "_law_alike"=some (.ref t.f__law_alike)
 F__law_reckoned:FB K "_law_reckoned" "_law_reckoned" V2 t.f__law_reckoned t.d__law_reckoned ["_law_asked","_law_told"]
 m__law_reckoned:mg "_law_reckoned"=some (.ref t.f__law_reckoned)
 F__law_tallied:FB K "_law_tallied" "_law_tallied" W1 t.f__law_tallied t.d__law_tallied ["_law_asked","_law_told"]
 m__law_tallied:mg "_law_tallied"=some (.ref t.f__law_tallied)
 F__law_linked:FB K "_law_linked" "_law_linked" Z9 t.f__law_linked t.d__law_linked ["_law_one","_law_other"]
 m__law_linked:mg "_law_linked"=some (.ref t.f__law_linked)
 F__law_ringed:FB K "_law_ringed" "_law_ringed" Z8 t.f__law_ringed t.d__law_ringed ["_law_records","_law_record"]
 m__law_ringed:mg "_law_ringed"=some (.ref t.f__law_ringed)
 F__law_ends_right:FB K "_law_ends_right" "_law_ends_right" Q6 t.f__law_ends_right t.d__law_ends_right ["_law_asked","_law_told"]
 m__law_ends_right:mg "_law_ends_right"=some (.ref t.f__law_ends_right)
 F_law:FB K "law" "law" S3 t.f_law t.d_law ["_law_script"]
 m_law:mg "law"=some (.ref t.f_law)
 cl_Dealing:Cls K t.C_Dealing
 mg_Dealing:mg "Dealing"=some (.ref t.C_Dealing)
 n_Dealing_number:x9 K t.C_Dealing "number"
 n_Dealing_began:x9 K t.C_Dealing "began"
 n_Dealing_looked:x9 K t.C_Dealing "looked"
 n_Dealing_aside:x9 K t.C_Dealing "aside"
 cl_Tally:Cls K t.C_Tally
 mg_Tally:mg "Tally"=some (.ref t.C_Tally)
 n_Tally_begun:x9 K t.C_Tally "begun"
 n_Tally_under_way:x9 K t.C_Tally "under_way"
 n_Tally_versions:x9 K t.C_Tally "versions"
 n_Tally_records:x9 K t.C_Tally "records"
 n_Tally_links:x9 K t.C_Tally "links"
 n_Tally_row:x9 K t.C_Tally "row"
 m_bool:mg "bool"=none
 m_int:mg "int"=none
 m_isinstance:mg "isinstance"=none
 m_len:mg "len"=none
 m_list:mg "list"=none
 m_max:mg "max"=none
 m_min:mg "min"=none
 m_range:mg "range"=none
 m_reversed:mg "reversed"=none
 m_set:mg "set"=none
 m_sorted:mg "sorted"=none
 m_str:mg "str"=none
 m_sum:mg "sum"=none
 m_tuple:mg "tuple"=none
 m_NUMBER:mg "NUMBER"=some t.v_NUMBER
 r_NUMBER:RelV (.int 0) t.v_NUMBER
 m_BEGAN:mg "BEGAN"=some t.v_BEGAN
 r_BEGAN:RelV (.int 1) t.v_BEGAN
 m_ENDED:mg "ENDED"=some t.v_ENDED
 r_ENDED:RelV (.int 2) t.v_ENDED
 m_LOOKED:mg "LOOKED"=some t.v_LOOKED
 r_LOOKED:RelV (.int 3) t.v_LOOKED
 m_PUT:mg "PUT"=some t.v_PUT
 r_PUT:RelV (.int 4) t.v_PUT
 m_ONE:mg "ONE"=some t.v_ONE
 r_ONE:RelV (.int 0) t.v_ONE
 m_OTHER:mg "OTHER"=some t.v_OTHER
 r_OTHER:RelV (.int 1) t.v_OTHER
section
variable{P:Program}{w:World}{K:PySem.W.Frag}{mg:Str→Option Value}{base:Heap}{t:C5}
theorem a5k(xs:List V)(k:Nat):a2f xs (some (k:Int)) none=xs.drop k:=by
 unfold a2f
 rw[HT.a1S,HT.a8V]
 rcases Nat.le_total k xs.length with h | h
 ·rw[aR3 h,aL2 (by rw[aH7];omega)]
 ·rw[Nat.min_eq_right h,Nat.sub_self,aP5,List.drop_eq_nil_of_le h]
theorem a1Q(xs:List V)(k:Nat):a2f xs none (some (k:Int))=xs.take k:=by
 unfold a2f
 rw[HT.a1S,HT.a8V,List.drop_zero,Nat.sub_zero]
 rcases Nat.le_total k xs.length with h | h
 ·rw[aR3 h]
 ·rw[Nat.min_eq_right h,aL2 (aB3 _),aL2 h]
theorem a6o{n:Nat}(h:0<n)(c:Int):∃j:Nat,j<n∧c % (n:Int)=(j:Int):=by
 have h0:=Int.emod_nonneg c (show(n:Int)≠0 by omega)
 have h1:=aU2 c (show(0:Int)<n by omega)
 exact⟨(c % n).toNat,by omega,by omega⟩
theorem b4B:IntMulOk (10 ^ (50:Int).toNat) (10 ^ (50:Int).toNat):=by unfold IntMulOk;decide +kernel
theorem a6i:∀{ns:List Int} {n:Int},n∈ns→∃j:Nat,ns[j]?=some n∧∀i,i<j→ns[i]?≠some n
 | m::ns,n,h=>by
  by_cases e:m=n
  ·exact⟨0,by simp[e],fun i hi=>by omega⟩
  ·rcases aB9.mp h with h | h
   ·exact absurd h.symm e
   ·obtain⟨j,h1,h2⟩:=a6i h
    refine⟨j+1,by simpa using h1,fun i hi=>?_⟩
    cases i with
    | zero=>simp[e]
    | succ i=>simpa using h2 i (by omega)
def pd(p:Int×Int):PyData:=.tuple [.int p.1,.int p.2]
def Ver(K:PySem.W.Frag)(H:Hp)(a:Addr)(ps:List (Int×Int)):Prop:=∃xs,d7 K H a xs∧p7 K H (ps.map pd) xs
theorem b8g{K:PySem.W.Frag}{H:Hp}{ps:List (Int×Int)}{xs:List V}{i:Nat}{x:V}(r:p7 K H (ps.map pd) xs)(e:xs[i]?=some x):∃p b,ps[i]?=some p∧x=.ref b∧i5 K H b [.int p.1,.int p.2]:=by
 obtain⟨d,h1,h2⟩:=r.at' e
 rw[aB4]at h1
 cases hp:ps[i]? with
 | none=>rw[hp]at h1;cases h1
 | some p=>
  rw[hp]at h1
  cases h1
  unfold pd Rep at h2
  obtain⟨b,ys,rfl,hq,rs⟩:=h2
  simp only[p7,Rep]at rs
  obtain⟨y1,z1,rfl,rfl,y2,z2,rfl,rfl,rfl⟩:=rs
  exact⟨p,b,rfl,rfl,hq⟩
theorem b5u{K:PySem.W.Frag}{H:Hp}{ps:List (Int×Int)}{xs:List V}{i:Nat}{p:Int×Int}(r:p7 K H (ps.map pd) xs)(e:ps[i]?=some p):∃b,xs[i]?=some (.ref b)∧i5 K H b [.int p.1,.int p.2]:=by
 obtain⟨x,h1,h2⟩:=r.at (i:=i) (d:=pd p) (by rw[aB4,e];rfl)
 obtain⟨p',b,h3,h4,h5⟩:=b8g r h1
 rw[e]at h3
 cases h3
 subst h4
 exact⟨b,h1,h5⟩
theorem b9t{K:PySem.W.Frag}{H:Hp}{ps:List (Int×Int)}{xs:List V}(r:p7 K H (ps.map pd) xs):xs.length=ps.length:=by
 have:=r.len;rw[aA0]at this;exact this.symm
theorem b9y{K:PySem.W.Frag}{H:Hp}{b:Addr}{p:Int×Int}(h:i5 K H b [.int p.1,.int p.2]):Rep K H (pd p) (.ref b):=by
 unfold pd;simp only[Rep,p7]
 exact⟨b,_,rfl,h,_,_,rfl,rfl,_,_,rfl,rfl,rfl⟩
theorem b6p:∀ps:List (Int×Int),PyData.depthAll (ps.map pd)≤1
 | []=>by rw[aJ5,PyData.depthAll];omega
 | p::r=>by rw[aC1,PyData.depthAll];have:=b6p r;simp[pd,PyData.depth,PyData.depthAll];omega
def cnt(ps:List (Int×Int))(m:Int):Nat:=(ps.filter fun p=>decide (p.1≤m)).length
theorem a9i{ps:List (Int×Int)}{i:Nat}{p:Int×Int}{m:Int}(h:ps[i]?=some p):cnt (ps.take (i+1)) m=cnt (ps.take i) m+if p.1≤m then 1 else 0:=by
 unfold cnt
 rw[PySem.take_succ_filter _ _ i p h,aA7]
 by_cases c:p.1≤m<;>simp[c]
theorem a2g(ps:List (Int×Int))(m:Int):cnt ps m≤ps.length:=aG6 _ _
theorem small{n:Nat}(h:n≤1000):n≤sizeLine:=aM8 (Y4 h)
structure Rec where
 num:Int
 beg:Int
 fin:Int
 looked:List Str
 put:List Str
def rd(r:Rec):PyData:=.tuple [.int r.num,.int r.beg,.int r.fin,.list (r.looked.map PyData.str),.list (r.put.map PyData.str)]
theorem T1{K:PySem.W.Frag}{H:Hp}:∀{ks:List Str} {xs:List V},p7 K H (ks.map PyData.str) xs↔xs=ks.map V.str
 | [],xs=>by simp[p7]
 | k::ks,xs=>by
  simp only[aC1,p7,Rep]
  constructor
  ·rintro⟨y,ys,rfl,rfl,h⟩;rw[T1.mp h]
  ·rintro rfl;exact⟨_,_,rfl,rfl,T1.mpr rfl⟩
def RecAt(K:PySem.W.Frag)(H:Hp)(r:Rec)(x:V):Prop:=∃b la pa,x=.ref b∧i5 K H b [.int r.num,.int r.beg,.int r.fin,.ref la,.ref pa]∧d7 K H la (r.looked.map V.str)∧d7 K H pa (r.put.map V.str)
theorem a6g{K:PySem.W.Frag}{H:Hp}{r:Rec}{x:V}:Rep K H (rd r) x↔RecAt K H r x:=by
 unfold rd RecAt
 simp only[Rep,p7]
 constructor
 ·rintro⟨b,xs,rfl,hq,y1,z1,rfl,rfl,y2,z2,rfl,rfl,y3,z3,rfl,rfl,y4,z4,rfl,⟨la,us,rfl,hl,rl⟩,y5,z5,rfl,⟨pa,ws,rfl,hp,rp⟩,rfl⟩
  rw[T1.mp rl]at hl
  rw[T1.mp rp]at hp
  exact⟨b,la,pa,rfl,hq,hl,hp⟩
 ·rintro⟨b,la,pa,rfl,hq,hl,hp⟩
  exact⟨b,_,rfl,hq,_,_,rfl,rfl,_,_,rfl,rfl,_,_,rfl,rfl,_,_,rfl,⟨la,_,rfl,hl,T1.mpr rfl⟩,_,_,rfl,⟨pa,_,rfl,hp,T1.mpr rfl⟩,rfl⟩
theorem b2s{K:PySem.W.Frag}{H:Hp}{rs:List Rec}{xs:List V}{i:Nat}{x:V}(h:p7 K H (rs.map rd) xs)(e:xs[i]?=some x):∃r,rs[i]?=some r∧RecAt K H r x:=by
 obtain⟨d,h1,h2⟩:=h.at' e
 rw[aB4]at h1
 cases hr:rs[i]? with
 | none=>rw[hr]at h1;cases h1
 | some r=>rw[hr]at h1;cases h1;exact⟨r,rfl,a6g.mp h2⟩
theorem RecAt.same{K:PySem.W.Frag}{H H':Hp}{r:Rec}{x:V}(s:g6 H H')(h:RecAt K H r x):RecAt K H' r x:=a6g.mp ((a6g.mpr h).same s)
abbrev Lk:=Int×Int×Str×Str
def ld(l:Lk):PyData:=.tuple [.int l.1,.int l.2.1,.str l.2.2.1,.str l.2.2.2]
def a8M(H:Hp)(l:Lk)(x:V):Prop:=∃a,x=.ref a∧H a=some (.tup [.int l.1,.int l.2.1,.str l.2.2.1,.str l.2.2.2])
def y6(H:Hp)(ls:List Lk)(xs:List V):Prop:=Paired (a8M H) ls xs
theorem y6.tupK{H H':Hp}(k:u0 H H'):∀{ls:List Lk} {xs:List V},y6 H ls xs→y6 H' ls xs
 | _,_,.nil=>.nil
 | _,_,.cons ⟨a,e,h⟩ t=>.cons ⟨a,e,k.1 _ _ h⟩ (y6.tupK k t)
theorem y6.append{H:Hp}{ms:List Lk}{ys:List V}(h:y6 H ms ys):∀{ls:List Lk} {xs:List V},y6 H ls xs→y6 H (ls++ms) (xs++ys)
 | _,_,.nil=>h
 | _,_,.cons r t=>.cons r (y6.append h t)
theorem y6.snoc{H:Hp}{l:Lk}{x:V}{ls:List Lk}{xs:List V}(t:y6 H ls xs)(h:a8M H l x):y6 H (ls++[l]) (xs++[x]):=y6.append (.cons h .nil) t
theorem y6.len{H:Hp}{ls:List Lk}{xs:List V}(h:y6 H ls xs):xs.length=ls.length:=by
 induction h with
 | nil=>rfl
 | cons _ _ ih=>simp[ih]
def part(n m:Int)(why:Str)(gs:List Str):List Lk:=gs.map fun x=>(n,m,x,why)
theorem a5v{n m:Int}{why:Str}{gs:List Str}{l:Lk}:l∈part n m why gs↔l.1=n∧l.2.1=m∧l.2.2.2=why∧l.2.2.1∈gs:=by
 unfold part
 rw[aA5]
 constructor
 ·rintro⟨x,hx,rfl⟩;exact⟨rfl,rfl,rfl,hx⟩
 ·rintro⟨rfl,rfl,rfl,h⟩;exact⟨_,h,rfl⟩
def Y2(c:Prop)(as bs gs:List Str):Prop:=gs.Nodup∧∀x,x∈gs↔c∧x∈as∧x∈bs
structure LB(one other:Rec)(ls:List Lk):Prop where
 parts:∃g1 g2 g3,ls=part one.num other.num "over" g1++part one.num other.num "saw" g2++part one.num other.num "missed" g3 ∧
  Y2 (one.fin<other.fin) one.put other.put g1∧Y2 (one.fin≤other.beg) one.put other.looked g2∧Y2 (one.beg<other.fin) one.looked other.put g3
def a7m(one other:Rec)(l:Lk):Prop:=l.1=one.num∧l.2.1=other.num ∧
 ((l.2.2.2="over"∧one.fin<other.fin∧l.2.2.1∈one.put∧l.2.2.1∈other.put)∨(l.2.2.2="saw"∧one.fin≤other.beg∧l.2.2.1∈one.put∧l.2.2.1∈other.looked)∨(l.2.2.2="missed"∧one.beg<other.fin∧l.2.2.1∈one.looked∧l.2.2.1∈other.put))
theorem LB.mem{one other:Rec}{ls:List Lk}(h:LB one other ls)(l:Lk):l∈ls↔a7m one other l:=by
 obtain⟨g1,g2,g3,rfl,⟨_,m1⟩,⟨_,m2⟩,⟨_,m3⟩⟩:=h.parts
 rw[aA8,aA8,a5v,a5v,a5v,m1,m2,m3]
 unfold a7m
 constructor
 ·rintro((⟨a,b,c,d⟩ | ⟨a,b,c,d⟩) | ⟨a,b,c,d⟩)
  ·exact⟨a,b,.inl ⟨c,d⟩⟩
  ·exact⟨a,b,.inr (.inl ⟨c,d⟩)⟩
  ·exact⟨a,b,.inr (.inr ⟨c,d⟩)⟩
 ·rintro⟨a,b,⟨c,d⟩ | ⟨c,d⟩ | ⟨c,d⟩⟩
  ·exact .inl (.inl ⟨a,b,c,d⟩)
  ·exact .inl (.inr ⟨a,b,c,d⟩)
  ·exact .inr ⟨a,b,c,d⟩
theorem LB.len{one other:Rec}{ls:List Lk}(h:LB one other ls):ls.length≤one.put.length+one.put.length+one.looked.length:=by
 obtain⟨g1,g2,g3,rfl,⟨n1,m1⟩,⟨n2,m2⟩,⟨n3,m3⟩⟩:=h.parts
 have l1:=u5 n1 fun x hx=>((m1 x).mp hx).2.1
 have l2:=u5 n2 fun x hx=>((m2 x).mp hx).2.1
 have l3:=u5 n3 fun x hx=>((m3 x).mp hx).2.1
 simp only[aA7,part,aA0]
 omega
theorem a5r{α β:Type}{F:α→β→Prop}:∀{l:List α} {m:List β} {i:Nat} {a:α},Paired F l m→l[i]?=some a→∃b,m[i]?=some b∧F a b
 | _,_,i,a,.nil,e=>by simp at e
 | _,_,0,a,.cons r t,e=>by simp at e;subst e;exact⟨_,rfl,r⟩
 | _,_,i+1,a,.cons r t,e=>by
  obtain⟨b,h1,h2⟩:=a5r t (by simpa using e)
  exact⟨b,by simpa using h1,h2⟩
theorem u7{α β:Type}{F:α→β→Prop}:∀{l:List α} {m:List β} {i:Nat} {b:β},Paired F l m→m[i]?=some b→∃a,l[i]?=some a∧F a b
 | _,_,i,a,.nil,e=>by simp at e
 | _,_,0,a,.cons r t,e=>by simp at e;subst e;exact⟨_,rfl,r⟩
 | _,_,i+1,a,.cons r t,e=>by
  obtain⟨b,h1,h2⟩:=u7 t (by simpa using e)
  exact⟨b,by simpa using h1,h2⟩
theorem n6{α β:Type}{F:α→β→Prop}{l:List α}{m:List β}(h:Paired F l m):m.length=l.length:=(aS0 h).symm
abbrev Am:=List (Str×Int)
def z6(m:Am):List (Key×V):=m.map fun p=>(Sum.inr p.1,V.int p.2)
def t6(m:Am)(g:Str):Option Int:=(m.find? fun p=>decide (p.1=g)).map (·.2)
def D9(m:Am)(g:Str)(a:Int):Am:=if (m.any fun p=>decide (p.1=g))=true then m.map (fun p=>if p.1=g then(p.1,a) else p) else m++[(g,a)]
theorem a1h(g k:Str):decide ((Sum.inr g:Key)=Sum.inr k)=decide (g=k):=by
 by_cases e:g=k
 ·subst e;simp
 ·rw[aB7 e,aB7 fun z=>e (aM2 z)]
theorem V9(m:Am)(g:Str):A4 (z6 m) (Sum.inr g)=(t6 m g).map V.int:=by
 unfold A4 z6 t6
 induction m with
 | nil=>rfl
 | cons p m ih=>
  rw[aC1,aH6,aH6,a1h]
  by_cases e:p.1=g
  ·rw[aC6 e];rfl
  ·rw[aB7 e];exact ih
theorem a0r(m:Am)(g:Str)(a:Int):putK (z6 m) (Sum.inr g) (V.int a)=z6 (D9 m g a):=by
 unfold putK D9
 have e:(z6 m).any (fun kv=>decide (kv.1=(Sum.inr g:Key)))=m.any fun p=>decide (p.1=g):=by
  unfold z6
  rw[aR6]
  congr 1;funext p;exact a1h p.1 g
 rw[e]
 split
 ·unfold z6
  rw[aE3,aE3]
  refine aD9 fun p _=>?_
  show(if (Sum.inr p.1:Key)=Sum.inr g then _ else _)=_
  by_cases z:p.1=g
  ·rw[aB0 (by rw[z])];simp only[Function.comp,aB0 z]
  ·rw[aA4 fun w=>z (aM2 w)];simp only[Function.comp,aA4 z]
 ·unfold z6
  rw[aB2];rfl
theorem a7Q(m:Am)(g:Str)(a:Int):(D9 m g a).length≤m.length+1:=by
 unfold D9;split<;>simp
theorem b1e(m:Am)(g:Str)(a:Int):(D9 m g a).map (·.1)=if (m.any fun p=>decide (p.1=g))=true then m.map (·.1) else m.map (·.1)++[g]:=by
 unfold D9;split
 ·rw[aE3]
  refine aD9 fun p _=>?_
  by_cases z:p.1=g
  ·simp only[Function.comp,aB0 z]
  ·simp only[Function.comp,aA4 z]
 ·rw[aB2];rfl
def But(m:Addr)(H H':Hp):Prop:=∀b o,b≠m→H b=some o→H' b=some o
theorem But.trans{m:Addr}{H H1 H2:Hp}(a:But m H H1)(b:But m H1 H2):But m H H2:=fun c o n h=>b c o n (a c o n h)
def b2q(H:Hp)(p:Str×Int)(x:V):Prop:=∃a,x=.ref a∧H a=some (.tup [.str p.1,.int p.2])
def Prs(H:Hp)(tb:Am)(xs:List V):Prop:=Paired (b2q H) tb xs
theorem Prs.tupK{H H':Hp}(k:u0 H H'){tb:Am}{xs:List V}(h:Prs H tb xs):Prs H' tb xs:=Paired.mapP h fun _ _ ⟨p,e,h⟩=>⟨p,e,k.1 _ _ h⟩
def prD(p:Str×Int):PyData:=.tuple [.str p.1,.int p.2]
theorem b2q.rep{K:PySem.W.Frag}{H:Hp}{p:Str×Int}{x:V}(h:b2q H p x):Rep K H (prD p) x:=by
 obtain⟨a,rfl,h⟩:=h
 unfold prD;simp only[Rep,p7]
 exact⟨a,_,rfl,i5.of h,_,_,rfl,rfl,_,_,rfl,rfl,rfl⟩
theorem a5X{p:Str×Int}(h:PyData.strOk p.1=true):(prD p).canLay0=true:=by
 unfold prD;simp[PyData.canLay0,PyData.canLayAll0];exact h
theorem b9d(p:Str×Int):(prD p).depth≤60:=by
 unfold prD;simp[PyData.depth,PyData.depthAll]
def l5(ks:List Int)(g:Int→V):List (Key×V):=ks.map fun n=>(Sum.inl n,g n)
theorem a0N(n m:Int):decide ((Sum.inl n:Key)=Sum.inl m)=decide (n=m):=by
 by_cases e:n=m
 ·subst e;simp
 ·rw[aB7 e,aB7 fun z=>e (Sum.inl.inj z)]
theorem m9{ks:List Int}{g:Int→V}{n:Int}:A4 (l5 ks g) (Sum.inl n)=if n∈ks then some (g n) else none:=by
 unfold A4 l5
 induction ks with
 | nil=>rfl
 | cons k ks ih=>
  rw[aC1,aH6,a0N]
  by_cases e:k=n
  ·subst e;simp
  ·rw[aB7 e]
   have:(n∈k::ks)↔n∈ks:=by
    rw[aB9];exact⟨fun z=>z.elim (fun w=>absurd w.symm e) id,.inr⟩
   simp only[this];exact ih
theorem X5{ks:List Int}{g g':Int→V}(h:∀n∈ks,g n=g' n):l5 ks g=l5 ks g':=by
 unfold l5;exact aD9 fun n hn=>by rw[h n hn]
def X1(g:Int→V)(n:Int)(v:V):Int→V:=fun m=>if m=n then v else g m
theorem Y5{g:Int→V}{n:Int}{v:V}:X1 g n v n=v:=aB0 rfl
theorem a4h{g:Int→V}{n m:Int}{v:V}(h:m≠n):X1 g n v m=g m:=aA4 h
theorem J9{ks:List Int}{g:Int→V}{n:Int}{v:V}:putK (l5 ks g) (Sum.inl n) v=l5 (if n∈ks then ks else ks++[n]) (X1 g n v):=by
 unfold putK
 have e:(l5 ks g).any (fun kv=>decide (kv.1=(Sum.inl n:Key)))=decide (n∈ks):=by
  unfold l5
  rw[aR6]
  induction ks with
  | nil=>rfl
  | cons k ks ih=>
   rw[aK5,ih]
   show(decide ((Sum.inl k:Key)=Sum.inl n)||_)=_
   rw[a0N]
   by_cases z:k=n
   ·subst z;simp
   ·have z':¬n=k:=fun w=>z w.symm
    simp[z,z']
 rw[e]
 by_cases hn:n∈ks
 ·rw[aB0 (by simpa using hn),aB0 hn]
  unfold l5
  rw[aE3]
  refine aD9 fun m _=>?_
  show(if (Sum.inl m:Key)=Sum.inl n then _ else _)=_
  by_cases z:m=n
  ·rw[aB0 (by rw[z]),z,Y5]
  ·rw[aA4 fun w=>z (Sum.inl.inj w),a4h z]
 ·rw[aA4 (by simpa using hn),aA4 hn]
  unfold l5
  rw[aB2]
  congr 1
  ·exact aD9 fun m hm=>by rw[a4h fun z:m=n=>hn (by rw[←z];exact hm)]
  ·show [(Sum.inl n,v)]=[(Sum.inl n,X1 g n v n)]
   rw[Y5]
theorem G9(ks:List Int)(g:Int→V):(l5 ks g).length=ks.length:=aA0 _
def a2a(ls:List Lk)(row:List Int)(n:Int):Nat:=ls.countP fun l=>decide (l.2.1=n)&&decide (l.1∉row)
def J4(fs:List Lk)(n:Int):Nat:=fs.countP fun l=>decide (l.2.1=n)
theorem a3k{row:List Int}{m:Int}(hm:m∉row)(n:Int):∀ls:List Lk,a2a ls row n=a2a ls (row++[m]) n+J4 (ls.filter fun l=>decide (l.1=m)) n
 | []=>rfl
 | l::ls=>by
  have ih:=a3k hm n ls
  unfold a2a J4 at ih ⊢
  rw[List.countP_cons,List.countP_cons,ih]
  by_cases e:l.1=m
  ·rw[List.filter_cons_of_pos (by simpa using e),List.countP_cons]
   have h1:decide (l.1∉row)=true:=aC6 (by rw[e];exact hm)
   have h2:decide (l.1∉row++[m])=false:=aB7 fun z=>z (by rw[e];simp)
   rw[h1,h2,Bool.and_true,aS4]
   have h3:(if (false:Bool)=true then 1 else 0)=0:=rfl
   rw[h3]
   omega
  ·rw[List.filter_cons_of_neg (by simpa using e)]
   have h1:decide (l.1∉row++[m])=decide (l.1∉row):=by
    by_cases z:l.1∈row
    ·rw[aB7 fun w=>w (aE2 _ z),aB7 fun w=>w z]
    ·rw[aC6 z,aC6]
     intro w
     rcases aA8.mp w with w | w
     ·exact z w
     ·exact e (aA3.mp w)
   rw[h1]
   omega
theorem a1y{fs:List Lk}{j:Nat}{l:Lk}(h:fs[j]?=some l)(n:Int):J4 (fs.take (j+1)) n=J4 (fs.take j) n+if l.2.1=n then 1 else 0:=by
 unfold J4
 rw[aD3,h,aF8,List.countP_append,List.countP_singleton]
 by_cases e:l.2.1=n
 ·simp[e]
 ·simp[e]
theorem b0l(fs:List Lk)(j:Nat)(n:Int):J4 (fs.take j) n≤J4 fs n:=(aK7 j fs).countP_le
theorem b0h{ls:List Lk}{row:List Int}{n:Int}(h:a2a ls row n=0){l:Lk}(hl:l∈ls)(e:l.2.1=n):l.1∈row:=by
 unfold a2a at h
 rw[List.countP_eq_zero]at h
 have:=h l hl
 simp[e]at this
 exact this
theorem b0n{ls:List Lk}{row:List Int}{n:Int}(h:a2a ls row n≠0):∃l∈ls,l.2.1=n∧l.1∉row:=by
 unfold a2a at h
 obtain⟨l,hl,e⟩:=List.countP_pos_iff.mp (Nat.pos_of_ne_zero h)
 simp at e
 exact⟨l,hl,e.1,e.2⟩
def ahead(row:List Int)(x y:Int):Prop:=∃i j:Nat,i<j∧row[i]?=some x∧row[j]?=some y
theorem b1b{row:List Int}{x y:Int}(h:ahead row x y)(r:List Int):ahead (row++r) x y:=by
 obtain⟨i,j,a,b,c⟩:=h
 have hi:=(aA2.mp b).1
 have hj:=(aA2.mp c).1
 exact⟨i,j,a,by rw[aE1 hi];exact b,by rw[aE1 hj];exact c⟩
theorem a4Z{row:List Int}{x y:Int}(h:x∈row):ahead (row++[y]) x y:=by
 obtain⟨i,hi⟩:=aF1.mp h
 have lt:=(aA2.mp hi).1
 exact⟨i,row.length,lt,by rw[aE1 lt];exact hi,by simp⟩
structure RI(ns:List Int)(ls:List Lk)(row ready:List Int)(f:Int→Int):Prop where
 nd:(row++ready).Nodup
 sub:∀n∈row++ready,n∈ns
 cl:∀l∈ls,l.2.1∈row→ahead row l.1 l.2.1
 fv:∀n∈ns,f n=(a2a ls row n:Int)
 z:∀n∈ns,n∈row++ready↔f n=0
structure RJ(ns:List Int)(ls:List Lk)(row:List Int)(m:Int)(ready:List Int)(f:Int→Int)(j:Nat):Prop where
 nm:m∉row
 nd:(row++[m]++ready).Nodup
 sub:∀n∈row++[m]++ready,n∈ns
 cl:∀l∈ls,l.2.1∈row++[m]→ahead (row++[m]) l.1 l.2.1
 fv:∀n∈ns,f n+(J4 ((ls.filter fun l=>decide (l.1=m)).take j) n:Int)=(a2a ls row n:Int)
 z:∀n∈ns,n∈row++[m]++ready↔f n=0
theorem RI.start{ns:List Int}{ls:List Lk}{f:Int→Int}(hn:ns.Nodup)(hf:∀n∈ns,f n=(J4 ls n:Int)):RI ns ls [] (ns.filter fun n=>decide (f n=0)) f:=by
 refine⟨by rw[aO7];exact hn.filter _,fun n h=>by rw[aO7]at h;exact(aD5.mp h).1,fun l _ h=>by simp at h,fun n h=>?_,fun n h=>?_⟩
 ·rw[hf n h];unfold a2a J4;simp
 ·rw[aO7,aD5];simp[h]
theorem RI.pop{ns:List Int}{ls:List Lk}{row ready:List Int}{f:Int→Int}{m:Int}(h:RI ns ls row (ready++[m]) f):RJ ns ls row m ready f 0:=by
 have p:(row++(ready++[m])).Perm (row++[m]++ready):=by
  rw[aG1]
  exact(List.perm_append_comm).append_left row
 have nd:=p.nodup_iff.mp h.nd
 have nm:m∉row:=fun z=>by
  have:=(aC3.mp (aC3.mp nd).1).2.2 m z m (by simp)
  exact this rfl
 have zm:f m=0:=(h.z m (h.sub m (by simp))).mp (by simp)
 have cm:a2a ls row m=0:=by have:=h.fv m (h.sub m (by simp));omega
 refine⟨nm,nd,fun n hn=>h.sub n (p.mem_iff.mpr hn),fun l hl e=>?_,fun n hn=>by rw[h.fv n hn];simp[J4],fun n hn=>by rw[←h.z n hn];exact p.mem_iff.symm⟩
 rcases aA8.mp e with e | e
 ·exact b1b (h.cl l hl e) _
 ·have e:=aA3.mp e
  rw[e]
  exact a4Z (b0h cm hl e)
theorem RJ.done{ns:List Int}{ls:List Lk}{row ready:List Int}{f:Int→Int}{m:Int}{j:Nat}(h:RJ ns ls row m ready f j)(hj:(ls.filter fun l=>decide (l.1=m)).length≤j):RI ns ls (row++[m]) ready f:=by
 refine⟨h.nd,h.sub,h.cl,fun n hn=>?_,h.z⟩
 have a:=h.fv n hn
 rw[aL2 hj]at a
 have b:=a3k h.nm n ls
 omega
def a2n(f:Int→Int)(n:Int)(v:Int):Int→Int:=fun m=>if m=n then v else f m
theorem RJ.step{ns:List Int}{ls:List Lk}{row ready:List Int}{f:Int→Int}{m:Int}{j:Nat}{l:Lk}(h:RJ ns ls row m ready f j)(hl:(ls.filter fun l=>decide (l.1=m))[j]?=some l)(hin:l.2.1∈ns) :
  RJ ns ls row m (if f l.2.1-1=0 then ready++[l.2.1] else ready) (a2n f l.2.1 (f l.2.1-1)) (j+1):=by
 have a:=h.fv _ hin
 have b:=a3k h.nm l.2.1 ls
 have c:=a1y hl l.2.1
 rw[aB0 rfl]at c
 have d:=b0l (ls.filter fun l=>decide (l.1=m)) (j+1) l.2.1
 have fp:f l.2.1≠0:=by omega
 have nin:l.2.1∉row++[m]++ready:=fun z=>fp ((h.z _ hin).mp z)
 have ff:∀n∈ns,a2n f l.2.1 (f l.2.1-1) n+(J4 ((ls.filter fun l=>decide (l.1=m)).take (j+1)) n:Int)=(a2a ls row n:Int):=fun n hn=>by
  have a:=h.fv n hn
  have c:=a1y hl n
  unfold a2n
  by_cases e:n=l.2.1
  ·subst e;rw[aB0 rfl];rw[aB0 rfl]at c;omega
  ·rw[aA4 e];rw[aA4 fun z=>e z.symm]at c;omega
 by_cases e:f l.2.1-1=0
 ·rw[aB0 e]
  refine⟨h.nm,?_,fun n hn=>?_,h.cl,ff,fun n hn=>?_⟩
  ·rw[←aG1,aC3]
   refine⟨h.nd,by simp,fun x hx y hy=>?_⟩
   rw[aA3.mp hy]
   rintro rfl
   exact nin hx
  ·rw[←aG1]at hn
   rcases aA8.mp hn with hn | hn
   ·exact h.sub n hn
   ·rw[aA3.mp hn];exact hin
  ·rw[←aG1,aA8,aA3]
   unfold a2n
   by_cases en:n=l.2.1
   ·subst en;rw[aB0 rfl];exact⟨fun _=>e,fun _=>.inr rfl⟩
   ·rw[aA4 en,←h.z n hn];exact⟨fun w=>w.elim id fun w=>absurd w en,.inl⟩
 ·rw[aA4 e]
  refine⟨h.nm,h.nd,h.sub,h.cl,ff,fun n hn=>?_⟩
  unfold a2n
  by_cases en:n=l.2.1
  ·subst en;rw[aB0 rfl];exact⟨fun w=>absurd w nin,fun w=>absurd w e⟩
  ·rw[aA4 en];exact h.z n hn
structure a2Y(ns:List Int)(ls:List Lk)(row:List Int):Prop where
 nd:row.Nodup
 sub:∀n∈row,n∈ns
 cl:∀l∈ls,l.2.1∈row→ahead row l.1 l.2.1
 out:∀n∈ns,n∉row→∃l∈ls,l.2.1=n∧l.1∉row
theorem RI.row{ns:List Int}{ls:List Lk}{row:List Int}{f:Int→Int}(h:RI ns ls row [] f):a2Y ns ls row:=by
 refine⟨by simpa using h.nd,fun n hn=>h.sub n (by simpa using hn),h.cl,fun n hn ho=>?_⟩
 refine b0n fun z=>ho ?_
 have:=(h.z n hn).mpr (by rw[h.fv n hn,z];rfl)
 simpa using this
theorem RJ.len{ns:List Int}{ls:List Lk}{row ready:List Int}{f:Int→Int}{m:Int}{j:Nat}(h:RJ ns ls row m ready f j):row.length+1+ready.length≤ns.length:=by
 have:=u5 h.nd h.sub
 simp only[aA7,aE5]at this;omega
structure a2q(ns:List Int)(ls:List Lk)(row:List Int):Prop where
 perm:row.Perm ns
 nd:row.Nodup
 keeps:∀l∈ls,ahead row l.1 l.2.1
theorem a2Y.all{ns:List Int}{ls:List Lk}{row:List Int}(h:a2Y ns ls row)(hn:ns.Nodup)(hl:row.length=ns.length)(hin:∀l∈ls,l.2.1∈ns):a2q ns ls row:=by
 have all:∀n∈ns,n∈row:=fun n hns=>aM0 fun z=>by
  have:=u5 (l:=n::row) (m:=ns) (aG7.mpr ⟨z,h.nd⟩) fun x hx=>by
   rcases aB9.mp hx with e | e
   ·rw[e];exact hns
   ·exact h.sub x e
  rw[aF0]at this;omega
 exact⟨a1b h.nd hn fun x=>⟨h.sub x,all x⟩,h.nd,fun l hl=>h.cl l hl (all _ (hin l hl))⟩
structure Ring(rg:List Lk):Prop where
 ne:rg≠[]
 nd:(rg.map (·.1)).Nodup
 next:∀(i:Nat) l,rg[i]?=some l→∃m,rg[if i=0 then rg.length-1 else i-1]?=some m∧l.1=m.2.1
structure Wk(L:List Lk)(W:List Lk)(n:Int):Prop where
 sub:∀l∈W,l∈L
 nd:(W.map fun l=>l.2.1).Nodup
 chain:∀(i:Nat) l m,W[i]?=some l→W[i+1]?=some m→m.2.1=l.1
 last:∀l,W[W.length-1]?=some l→n=l.1
 on:∃l∈L,l.2.1=n
theorem Wk.len{L W:List Lk}{n:Int}(h:Wk L W n):W.length≤L.length:=by
 have:=u5 (l:=W.map fun l=>l.2.1) (m:=L.map fun l=>l.2.1) h.nd fun x hx=>by
  obtain⟨l,hl,e⟩:=aA5.mp hx
  exact aA5.mpr ⟨l,h.sub l hl,e⟩
 simpa using this
theorem Wk.step{L W:List Lk}{n:Int}{l:Lk}(h:Wk L W n)(hn:n∉W.map fun l=>l.2.1)(hl:l∈L)(e:l.2.1=n)(ho:∃m∈L,m.2.1=l.1):Wk L (W++[l]) l.1:=by
 refine⟨fun m hm=>?_,?_,fun i a b ha hb=>?_,fun m hm=>?_,ho⟩
 ·rcases aA8.mp hm with hm | hm
  ·exact h.sub m hm
  ·rw[aA3.mp hm];exact hl
 ·rw[aB2,aC3]
  refine⟨h.nd,by simp,fun x hx y hy=>?_⟩
  have hy:y=l.2.1:=by simpa using hy
  rw[hy,e]
  rintro rfl
  exact hn hx
 ·have lt:=(aA2.mp hb).1
  rw[aA7,aE5]at lt
  by_cases c:i+1<W.length
  ·rw[aE1 (by omega)]at ha
   rw[aE1 c]at hb
   exact h.chain i a b ha hb
  ·have ei:i+1=W.length:=by omega
   rw[aE1 (by omega)]at ha
   rw[aE9 (by omega),show i+1-W.length=0 by omega]at hb
   have hb:l=b:=by simpa using hb
   rw[←hb,e]
   exact h.last a (by rw[←ei];simpa using ha)
 ·rw[aA7,aE5,show W.length+1-1=W.length by omega,aE9 (aB3 _),Nat.sub_self]at hm
  have hm:l=m:=by simpa using hm
  rw[hm]
theorem b5o{l:List Int}(h:∀a b:Nat,a<b→b<l.length→l[a]?≠l[b]?):l.Nodup:=
 List.pairwise_iff_getElem.mpr fun i j hi hj hij e=>h i j hij hj (by rw[List.getElem?_eq_getElem hi,List.getElem?_eq_getElem hj,e])
theorem Wk.ring{L W:List Lk}{n:Int}{i:Nat}{l:Lk}(h:Wk L W n)(hi:W[i]?=some l)(e:l.2.1=n):Ring (W.drop i).reverse∧∀m∈(W.drop i).reverse,m∈L:=by
 have li:=(aA2.mp hi).1
 have ld:(W.drop i).length=W.length-i:=aH7
 have rat:∀j,j<W.length-i→(W.drop i).reverse[j]?=W[W.length-1-j]?:=fun j hj=>by
  rw[List.getElem?_reverse (by rw[ld];exact hj),aI7,ld]
  congr 1;omega
 refine⟨⟨fun z=>?_,?_,fun j m hm=>?_⟩,fun m hm=>h.sub m (aS1 (List.mem_reverse.mp hm))⟩
 ·have:=congrArg List.length z
  rw[aM6,ld]at this
  simp at this;omega
 ·
  rw[List.map_reverse,(List.reverse_perm _).nodup_iff]
  refine b5o fun a b hab hb=>?_
  rw[aA0,ld]at hb
  rw[aB4,aB4,aI7,aI7]
  have nx:∀k,i≤k→k<W.length→∃x y,W[k]?=some x∧W[if k+1=W.length then i else k+1]?=some y∧x.1=y.2.1:=fun k _ hk=>by
   refine⟨W[k],?_⟩
   by_cases c:k+1=W.length
   ·rw[aB0 c]
    refine⟨l,List.getElem?_eq_getElem hk,hi,?_⟩
    rw[e]
    exact(h.last _ (by rw[←c];simpa using List.getElem?_eq_getElem hk)).symm
   ·rw[aA4 c]
    have hk1:k+1<W.length:=by omega
    exact⟨W[k+1],List.getElem?_eq_getElem hk,List.getElem?_eq_getElem hk1,(h.chain k _ _ (List.getElem?_eq_getElem hk) (List.getElem?_eq_getElem hk1)).symm⟩
  obtain⟨x,y,h1,h2,h3⟩:=nx (i+a) (by omega) (by omega)
  obtain⟨x',y',h1',h2',h3'⟩:=nx (i+b) (by omega) (by omega)
  rw[h1,h1']
  intro z
  have z:x.1=x'.1:=by simpa using z
  rw[h3,h3']at z
  have inj:∀(p q:Nat) (u v:Lk),W[p]?=some u→W[q]?=some v→u.2.1=v.2.1→p=q:=fun p q u v hu hv huv=>by
   refine(aJ8 (l:=W.map fun l=>l.2.1) (by rw[aA0];exact(aA2.mp hu).1) h.nd).mp ?_
   rw[aB4,aB4,hu,hv];simpa using huv
  have:=inj _ _ _ _ h2 h2' z
  split at this<;>split at this<;>omega
 ·have lj:=(aA2.mp hm).1
  rw[aM6,ld]at lj
  rw[aM6,ld]
  rw[rat j lj]at hm
  by_cases c:j=0
  ·subst c
   rw[aB0 rfl,rat _ (by omega)]
   refine⟨l,?_,?_⟩
   ·rw[show W.length-1-(W.length-i-1)=i by omega];exact hi
   ·rw[e];exact(h.last m (by simpa using hm)).symm
  ·rw[aA4 c,rat _ (by omega)]
   have hk:W.length-1-(j-1)<W.length:=by omega
   refine⟨W[W.length-1-(j-1)],List.getElem?_eq_getElem hk,?_⟩
   have e1:W.length-1-(j-1)=(W.length-1-j)+1:=by omega
   exact(h.chain (W.length-1-j) m _ hm (by rw[←e1];exact List.getElem?_eq_getElem hk)).symm
theorem n4{n:Nat}(h:n≤10000000):n<sizeLine:=by rw[aF9];omega
def lat(pl:Nat)(l:Lk):Int:=if pl=0 then l.1 else l.2.1
def lkV(l:Lk):List V:=[.int l.1,.int l.2.1,.str l.2.2.1,.str l.2.2.2]
theorem b0y{pl:Nat}(h:pl≤1)(l:Lk):F8 (lkV l) (pl:Int)=some (.int (lat pl l)):=by
 rcases(show pl=0∨pl=1 by omega) with rfl | rfl
 ·exact i9 rfl
 ·exact i9 rfl
theorem y6.get{H:Hp}{ls:List Lk}{xs:List V}{i:Nat}{x:V}(h:y6 H ls xs)(e:xs[i]?=some x):∃l,ls[i]?=some l∧a8M H l x:=u7 h e
structure By(H:Hp)(d:Addr)(pl:Nat)(ns:List Int)(ls:List Lk)(ps:Int→Addr)(H':Hp):Prop where
 sm:g6 H H'
 no:H d=none
 fr:∀n∈ns,H (ps n)=none∧ps n≠d
 inj:∀n∈ns,∀m∈ns,ps n=ps m→n=m
 at':H' d=some (.dK (l5 ns fun n=>.ref (ps n)))
 ls:∀n∈ns,∃ys,H' (ps n)=some (.lst ys)∧y6 H' (ls.filter fun l=>decide (lat pl l=n)) ys
theorem By.new{H H1 H2:Hp}{d:Addr}{pl:Nat}{ns:List Int}{ls:List Lk}{ps:Int→Addr}(b:By H d pl ns ls ps H1)(s:g6 H1 H2):By H d pl ns ls ps H2:=
 ⟨b.sm.trans s,b.no,b.fr,b.inj,s _ _ b.at',fun n hn=>let ⟨ys,h1,h2⟩:=b.ls n hn;⟨ys,s _ _ h1,h2.tupK s.tupK⟩⟩
theorem J8{H:Hp}{a:Addr}{o:HO}{kvs:List (Key×V)}(h:H a=some (.dK kvs)):u0 H (upd H a o):=
 ⟨fun b xs e=>by rw[b7 (a9x e h (by intro z;cases z))];exact e,fun b o xs e=>by rw[b7 (a9x e h (by intro z;cases z))];exact e⟩
theorem By.add{H H1:Hp}{d p:Addr}{pl:Nat}{ns:List Int}{ps:Int→Addr}{n:Int}(b:By H d pl ns [] ps H1)(hn:n∉ns)(hp:H1 p=none) :
  By H d pl (ns++[n]) [] (fun m=>if m=n then p else ps m) (upd (upd H1 p (.lst [])) d (.dK (putK (l5 ns fun n=>.ref (ps n)) (Sum.inl n) (.ref p)))):=by
 have pd:p≠d:=fun z=>by rw[z,b.at']at hp;cases hp
 have hpH:H p=none:=by
  cases z:H p with
  | none=>rfl
  | some o=>rw[b.sm _ _ z]at hp;cases hp
 have off:∀m∈ns,m≠n:=fun m hm z=>hn (z▸hm)
 have npm:∀m∈ns,ps m≠p:=fun m hm z=>by obtain⟨ys,h1,_⟩:=b.ls m hm;rw[z,hp]at h1;cases h1
 refine⟨l8 (b.sm.trans (b9 hp)) b.no,b.no,fun m hm=>?_,fun m hm k hk e=>?_,?_,fun m hm=>?_⟩
 ·rcases aA8.mp hm with hm | hm
  ·rw[aA4 (off m hm)];exact b.fr m hm
  ·rw[aB0 (aA3.mp hm)];exact⟨hpH,pd⟩
 ·rcases aA8.mp hm with hm | hm<;>rcases aA8.mp hk with hk | hk
  ·rw[aA4 (off m hm),aA4 (off k hk)]at e;exact b.inj m hm k hk e
  ·rw[aA4 (off m hm),aB0 (aA3.mp hk)]at e;exact absurd e (npm m hm)
  ·rw[aB0 (aA3.mp hm),aA4 (off k hk)]at e;exact absurd e.symm (npm k hk)
  ·rw[aA3.mp hm,aA3.mp hk]
 ·rw[b0,J9,aA4 hn]
  congr 2
  refine X5 fun m _=>?_
  unfold X1
  by_cases e:m=n
  ·rw[aB0 e,aB0 e]
  ·rw[aA4 e,aA4 e]
 ·rcases aA8.mp hm with hm | hm
  ·obtain⟨ys,h1,h2⟩:=b.ls m hm
   refine⟨ys,?_,(h2.tupK (F9 hp)).tupK (J8 (b9 hp _ _ b.at'))⟩
   rw[aA4 (off m hm),b7 (b.fr m hm).2]
   exact b9 hp _ _ h1
  ·rw[aB0 (aA3.mp hm)]
   exact⟨[],by rw[b7 pd];exact b0,.nil⟩
theorem By.push{H H1:Hp}{d:Addr}{pl:Nat}{ns:List Int}{ls:List Lk}{ps:Int→Addr}{l:Lk}{x:V}{ys:List V}(b:By H d pl ns ls ps H1)(hl:lat pl l∈ns)(hx:a8M H1 l x)(hy:H1 (ps (lat pl l))=some (.lst ys)) :
  By H d pl ns (ls++[l]) ps (upd H1 (ps (lat pl l)) (.lst (ys++[x]))):=by
 have f:=b.fr _ hl
 have k:=p9 (o:=.lst (ys++[x])) hy
 refine⟨l8 b.sm f.1,b.no,b.fr,b.inj,by rw[b7 (Ne.symm f.2)];exact b.at',fun n hn=>?_⟩
 obtain⟨zs,h1,h2⟩:=b.ls n hn
 rw[aL3]
 by_cases e:lat pl l=n
 ·subst e
  rw[hy]at h1;cases h1
  refine⟨_,b0,?_⟩
  rw[aH8,aB0 (aC6 rfl),List.filter_nil]
  obtain⟨a,e1,e2⟩:=hx
  exact(h2.tupK k).snoc ⟨a,e1,k.1 _ _ e2⟩
 ·refine⟨zs,by rw[b7 fun z=>e (b.inj _ hl _ hn z.symm)];exact h1,?_⟩
  rw[aH8,aA4 (by simpa using e),List.filter_nil,aH1]
  exact h2.tupK k
inductive a6S(K:PySem.W.Frag)(vs:List V)(H:Hp)(Q:VK):Prop
 | mk (pl:Nat) (a b:Addr) (ns:List Int) (ls:List Lk) (xs:List V) (x0:vs=[.int (pl:Int),.ref a,.ref b]) (x1:pl≤1) (x2:d7 K H a (ns.map V.int)) (x3:ns.Nodup) (x4:d7 K H b xs) (x5:y6 H ls xs) (x6:(∀l∈ls,lat pl l∈ns)) (x7:ns.length≤10000) (x8:ls.length≤10000000) (xq:∀(d:Addr) (ps:Int→Addr) (H':Hp),By H d pl ns ls ps H'→Q (.ref d) H')
def a0U(K:PySem.W.Frag):Sp:=fun vs H Q _=>a6S K vs H Q
theorem a7s(T:A7 K mg t):g9 P w K mg base y9 1 t.f_links_by t.d_links_by ["place","numbers","links"] (a0U K):=by
 refine T.F_links_by.ok X9 (fun vs H Q E h=>?_) (fun cdv A outer s H vs Q E hr h=>?_)
 ·obtain⟨pl,a,b,ns,ls,xs,rfl,_⟩:=h
  rfl
 obtain⟨pl,a,b,ns,ls,xs,rfl,hpl,hA,nd,hB,hL,hin,z1,z2,q⟩:=h
 have hu:=M7 hr
 refine⟨_,(b8 (g7 (i:=3) X9.nd rfl (Or.inl rfl) A8)
 (b8 (z9 aE4 rfl (q5 (pv 1)) (l4 (i:=4) X9.nd rfl (Or.inl rfl))
 (c9 (C2 hu (pv 3) (pv 4) (m7 b6) rfl)))
 (b8 (z9 aE4 rfl (q5 (pv 2)) (l4 (i:=5) X9.nd rfl (Or.inl rfl))
 (c9 (m6 (u6 aB1 aB6 aB8 o6 (u3 hu (pv 3) (d9 i3 (pv 5) (pv 0) (fun _ _=>rfl)) (fun _ _=>rfl)) (a6 (pv 5) b6)))))
 (c9 (i4 (pv 3)))))),?_⟩
 refine fun d hd=>?_
 refine⟨_,rfl,a,rfl,⟨_,hA.same (b9 hd)⟩,?_⟩
 have ln:(ns.map V.int).length=ns.length:=aA0 _
 refine B8 (xs:=ns.map V.int) (fun i σ' H'=>∃o4 ps,σ'=[some (.int (pl:Int)),some (.ref a),some (.ref b),some (.ref d),o4,none]∧By H d pl (ns.take i) [] ps H')
  ⟨none,fun _=>d,rfl,b9 hd,hd,(fun n h=>by simp at h),(fun n h=>by simp at h),b0,fun n h=>by simp at h⟩ (fun i σ' H' _ h=>?_) (fun i x σ' H' hx h=>?_) (fun σ' H' h=>?_)
 ·obtain⟨o4,ps,rfl,B⟩:=h
  exact hA.same B.sm
 ·obtain⟨o4,ps,rfl,B⟩:=h
  rw[aB4]at hx
  obtain⟨n,hn,rfl⟩:=aC9.mp hx
  have li:=(aA2.mp hn).1
  have tk:ns.take (i+1)=ns.take i++[n]:=by rw[aD3,hn];rfl
  have nn:n∉ns.take i:=fun z=>by
   have nd':(ns.take (i+1)).Nodup:=nd.sublist (aK7 _ _)
   rw[tk,aC3]at nd'
   exact nd'.2.2 n z n (by simp) rfl
  refine⟨(n9 0),fun p hp=>?_⟩
  refine⟨_,rfl,_,rfl,d,_,rfl,J5.k (k:=Sum.inl n) (b9 hp _ _ B.at') (n4 (by rw[G9,aD6];omega)),?_⟩
  refine⟨_,(fun m=>if m=n then p else ps m),rfl,?_⟩
  rw[tk]
  exact B.add nn hp
 ·obtain⟨o4,ps,rfl,B⟩:=h
  rw[ln,aE0]at B
  refine⟨_,rfl,b,rfl,⟨_,hB.same B.sm⟩,?_⟩
  have lx:=hL.len
  refine B8 (xs:=xs) (fun i σ2 H2=>∃o5,σ2=[some (.int (pl:Int)),some (.ref a),some (.ref b),some (.ref d),o4,o5]∧By H d pl ns (ls.take i) ps H2)
   ⟨none,rfl,B⟩ (fun i σ2 H2 _ h=>?_) (fun i x σ2 H2 hx h=>?_) (fun σ2 H2 h=>?_)
  ·obtain⟨o5,rfl,B2⟩:=h
   exact hB.same B2.sm
  ·obtain⟨o5,rfl,B2⟩:=h
   obtain⟨l,hl,hlx⟩:=hL.get hx
   have hm:=aC5 hl
   have hi:=hin l hm
   have li:=(aA2.mp hl).1
   have tk:ls.take (i+1)=ls.take i++[l]:=by rw[aD3,hl];rfl
   obtain⟨ys,hy,Ly⟩:=B2.ls _ hi
   obtain⟨c,rfl,hc⟩:=hlx
   have hc2:=B2.sm _ _ hc
   have dg:=t7.k (k:=Sum.inl (lat pl l)) B2.at'
   rw[m9,aB0 hi]at dg
   have ly:ys.length≤i:=by
    rw[Ly.len]
    refine aD8 (aG6 _ _) ?_
    rw[aD6];omega
   refine⟨_,rfl,_,rfl,_,rfl,c,_,_,_,rfl,rfl,i5.of hc2,b0y hpl l,d,_,rfl,dg,.inl ⟨rfl,_,d7.of hy⟩,_,rfl,ps (lat pl l),ys,_,rfl,rfl,hy,n4 (by omega),?_⟩
   refine⟨_,rfl,?_⟩
   rw[tk]
   exact B2.push hi ⟨c,rfl,hc2⟩ hy
  ·obtain⟨o5,rfl,B2⟩:=h
   rw[lx,aE0]at B2
   exact⟨_,rfl,q d ps H2 B2⟩
inductive a2y(K:PySem.W.Frag)(vs:List V)(H:Hp)(Q:VK):Prop
 | mk (a b:Addr) (ns:List Int) (ls:List Lk) (xs:List V) (x0:vs=[.ref a,.ref b]) (x1:d7 K H a (ns.map V.int)) (x2:ns.Nodup) (x3:d7 K H b xs) (x4:y6 H ls xs) (x5:(∀l∈ls,l.1∈ns∧l.2.1∈ns)) (x6:ns.length≤10000) (x7:ls.length≤10000000) (xq:∀(r:Addr) (row:List Int) (H':Hp),g6 H H'→H r=none→H' r=some (.lst (row.map V.int))→a2Y ns ls row→Q (.ref r) H')
def a3E(K:PySem.W.Frag):Sp:=fun vs H Q _=>a2y K vs H Q
theorem a8s{α:Type}{p:α→Bool}{l:List α}{i:Nat}{x:α}(h:l[i]?=some x):(l.take (i+1)).filter p=(l.take i).filter p++if p x=true then [x] else []:=by
 rw[aD3,h,aF8,aL3,aH8,List.filter_nil]
theorem A9{H H':Hp}{b:Addr}(s:g6 H H')(h:H' b=none):H b=none:=by
 cases z:H b with
 | none=>rfl
 | some o=>rw[s _ _ z]at h;cases h
theorem b0p{ms:List Int}(h:0<ms.length):∃ini m,ms=ini++[m]:=by
 rcases List.eq_nil_or_concat ms with rfl | ⟨ini,m,rfl⟩
 ·simp at h
 ·exact⟨ini,m,by simp⟩
theorem a4F(T:A7 K mg t):g9 P w K mg base y9 2 t.f_longest_row t.d_longest_row ["numbers","links"] (a3E K):=by
 refine T.F_longest_row.ok y8 (fun vs H Q E h=>?_) (fun cdv A outer s H vs Q E hr h=>?_)
 ·obtain⟨a,b,ns,ls,xs,rfl,_⟩:=h
  rfl
 obtain⟨a,b,ns,ls,xs,rfl,hA,nd,hB,hL,hin,z1,z2,q⟩:=h
 have hu:=M7 hr
 refine⟨_,(b8 (g7 (i:=2) y8.nd rfl (Or.inl rfl) (j8 (g9.mono (k:=1) (a7s T) (by decide)) hr rfl T.m_links_by T.F_links_by.kp T.F_links_by.b .nil k8 (a6 (v5 rfl T.m_ONE T.r_ONE) (a6 (pv 0) (a6 (pv 1) b6)))))
 (b8 (g7 (i:=3) y8.nd rfl (Or.inl rfl) (j8 (g9.mono (k:=1) (a7s T) (by decide)) hr rfl T.m_links_by T.F_links_by.kp T.F_links_by.b .nil k8 (a6 (v5 rfl T.m_OTHER T.r_OTHER) (a6 (pv 0) (a6 (pv 1) b6)))))
 (b8 (g7 (i:=4) y8.nd rfl (Or.inr rfl) A8)
 (b8 (z9 aE4 rfl (q5 (pv 0)) (l4 (i:=5) y8.nd rfl (Or.inl rfl))
 (c9 (C2 hu (pv 4) (pv 5) (e7 g8 rfl T.m_len aC2 (a6 (u3 hu (pv 3) (pv 5) (fun _ _=>rfl)) b6)) rfl)))
 (b8 (a4b (i:=6) y8.nd rfl rfl rfl (q5 (pv 0)) (D5.mk (own:=["number"]) (tl:=["numbers","links","links_from","links_to","unkept",".","ready","row","link","other"]) rfl rfl rfl (fun _ _ _ _ _=>(l4 (i:=0) (a6x) rfl (Or.inl rfl))) (fun _ _ _ _ _=>(T7 (f7 z8 (u3 hu (pv 5) (pv 0) (fun _ _=>rfl)) d5 (i6 _)))) (fun _ _ _ _ _=>(pv 0))))
 (b8 (g7 (i:=7) y8.nd rfl (Or.inl rfl) (m7 b6))
 (b8 (a8i aE4 (f7 a0y (e7 g8 rfl T.m_len aC2 (a6 (pv 6) b6)) d5 (i6 _))
 (b8 (g7 (i:=5) y8.nd rfl (Or.inl rfl) (a9O aB1 aT7 PySem.F.type_list_pop b8c (pv 6)))
 (b8 (m6 (u6 aB1 aB6 aB8 o6 (pv 7) (a6 (pv 5) b6)))
 (c9 (z9 aE4 rfl (q5 (u3 hu (pv 2) (pv 5) (fun _ _=>rfl))) (l4 (i:=8) y8.nd rfl (Or.inl rfl))
 (b8 (g7 (i:=9) y8.nd rfl (Or.inl rfl) (d9 i3 (pv 8) (v5 rfl T.m_OTHER T.r_OTHER) (fun _ _=>rfl)))
 (b8 (C2 hu (pv 4) (pv 9) (j6 N0 (u3 hu (pv 4) (pv 9) (fun _ _=>rfl)) d5) rfl)
 (c9 (k7 (f7 z8 (u3 hu (pv 4) (pv 9) (fun _ _=>rfl)) d5 (i6 _))
 (c9 (m6 (u6 aB1 aB6 aB8 o6 (pv 6) (a6 (pv 9) b6))))
 j0)))))))))
 (c9 (i4 (pv 7)))))))))),?_⟩
 have ln:(ns.map V.int).length=ns.length:=aA0 _
 refine⟨_,rfl,_,rfl,0,a,b,ns,ls,xs,rfl,by omega,hA,nd,hB,hL,fun l hl=>(hin l hl).1,z1,z2,fun df pf H1 B1=>?_⟩
 refine⟨_,rfl,_,rfl,1,a,b,ns,ls,xs,rfl,by omega,hA.same B1.sm,nd,hB.same B1.sm,hL.tupK B1.sm.tupK,fun l hl=>(hin l hl).2,z1,z2,fun dt pt H2 B2=>?_⟩
 have F:=B1.new B2.sm
 have hA2:=hA.same F.sm
 refine fun u hu0=>?_
 refine⟨_,rfl,a,rfl,⟨_,hA2.same (b9 hu0)⟩,?_⟩
 refine B8 (xs:=ns.map V.int) (fun i σ' H'=>∃o5,σ'=[some (.ref a),some (.ref b),some (.ref df),some (.ref dt),some (.ref u),o5,none,none,none,none]∧g6 H2 H'∧H' u=some (.dK (l5 (ns.take i) fun n=>.int (J4 ls n:Int))))
  ⟨none,rfl,b9 hu0,b0⟩ (fun i σ' H' _ h=>?_) (fun i x σ' H' hx h=>?_) (fun σ' H3 h=>?_)
 ·obtain⟨o5,rfl,sm,_⟩:=h
  exact hA2.same sm
 ·obtain⟨o5,rfl,sm,hu1⟩:=h
  rw[aB4]at hx
  obtain⟨n,hn,rfl⟩:=aC9.mp hx
  have li:=(aA2.mp hn).1
  have hm:=aC5 hn
  have tk:ns.take (i+1)=ns.take i++[n]:=by rw[aD3,hn];rfl
  have nn:n∉ns.take i:=fun z=>by
   have nd':(ns.take (i+1)).Nodup:=nd.sublist (aK7 _ _)
   rw[tk,aC3]at nd'
   exact nd'.2.2 n z n (by simp) rfl
  have dg:=t7.k (k:=Sum.inl n) (sm _ _ B2.at')
  rw[m9,aB0 hm]at dg
  obtain⟨ys,hy,Ly⟩:=B2.ls n hm
  have ey:ys.length=J4 ls n:=by
   rw[Ly.len];unfold J4;rw[List.countP_eq_length_filter];rfl
  refine⟨_,rfl,_,rfl,dt,_,rfl,dg,pt n,ys,rfl,.inl (d7.of (sm _ _ hy)),_,rfl,_,rfl,u,_,rfl,J5.k (k:=Sum.inl n) hu1 (n4 (by rw[G9,aD6];omega)),?_⟩
  refine⟨_,rfl,l8 sm hu0,?_⟩
  rw[b0,J9,aA4 nn,tk,ey]
  congr 2
  refine X5 fun m _=>?_
  unfold X1
  by_cases e:m=n
  ·rw[aB0 e,e]
  ·rw[aA4 e]
 obtain⟨o5,rfl,sm3,hu3⟩:=h
 rw[ln,aE0]at hu3
 refine⟨_,rfl,a,rfl,⟨_,hA2.same sm3⟩,fun rd hrd=>?_⟩
 refine C0 (xs:=ns.map V.int) (fun i Hc=>g6 H3 Hc∧Hc rd=some (.lst (((ns.take i).filter fun n=>decide ((J4 ls n:Int)=0)).map V.int))) ⟨b9 hrd,b0⟩ (fun i Hc _ h=>(hA2.same sm3).same h.1) (fun i x Hc hx h=>?_) (fun H4 h=>?_)
 ·obtain⟨sm,h1⟩:=h
  rw[aB4]at hx
  obtain⟨n,hn,rfl⟩:=aC9.mp hx
  have li:=(aA2.mp hn).1
  have hm:=aC5 hn
  have dg:=t7.k (k:=Sum.inl n) (sm _ _ hu3)
  rw[m9,aB0 hm]at dg
  rw[a8s hn]
  refine⟨_,rfl,_,rfl,u,_,rfl,dg,rfl,_,rfl,K4 (fun c=>?_) (fun c=>?_)⟩
  ·have c':(J4 ls n:Int)=0:=by simpa using c
   refine⟨_,rfl,_,h1,n4 ?_,l8 sm hrd,?_⟩
   ·rw[aA0]
    refine aD8 (aG6 _ _) ?_
    rw[aD6];omega
   ·rw[b0,aB0 (aC6 c'),aB2];rfl
  ·have c':¬(J4 ls n:Int)=0:=by simpa using c
   refine⟨sm,?_⟩
   rw[aA4 (by simpa using c'),aH1];exact h1
 obtain⟨sm4,hrd4⟩:=h
 rw[ln,aE0]at hrd4
 refine⟨(n9 0),fun r hr0=>?_⟩
 have ur:u≠rd:=d6 hu3 hrd
 have rr:rd≠r:=d6 hrd4 hr0
 have ur':u≠r:=d6 (sm4 _ _ hu3) hr0
 have nrd:H2 rd=none:=A9 sm3 hrd
 have nr:H2 r=none:=A9 (sm3.trans sm4) hr0
 have s5:=(sm3.trans sm4).trans (b9 (o:=.lst []) hr0)
 refine⟨fun m σ' H'=>∃(row ready:List Int) (f:Int→Int) (o5 o8 o9:Option V),σ'=[some (.ref a),some (.ref b),some (.ref df),some (.ref dt),some (.ref u),o5,some (.ref rd),some (.ref r),o8,o9] ∧
   m=ns.length-row.length∧RI ns ls row ready f∧g6 H2 H'∧H' rd=some (.lst (ready.map V.int))∧H' r=some (.lst (row.map V.int))∧H' u=some (.dK (l5 ns fun n=>.int (f n))),
  ⟨_,[],_,fun n=>(J4 ls n:Int),o5,none,none,rfl,rfl,RI.start nd fun n _=>rfl,s5,b9 hr0 _ _ hrd4,b0,b9 hr0 _ _ (sm4 _ _ hu3)⟩,fun mm σ' H' h=>?_⟩
 obtain⟨row,ready,f,o5,o8,o9,rfl,rfl,R,sm,h1,h2,h3⟩:=h
 refine⟨_,rfl,rd,_,rfl,.inl (d7.of h1),_,_,rfl,rfl,_,rfl,K4 (fun c=>?_) (fun c=>?_)⟩
 ·have c':(0:Int)<(((ready.map V.int).length:Nat):Int):=aF4 c
  rw[aA0]at c'
  obtain⟨ini,m,rfl⟩:=b0p (ms:=ready) (by omega)
  have J:=R.pop
  have ml:=J.len
  have hmn:m∈ns:=J.sub m (by simp)
  refine⟨fun σ'' H''=>∃(ready:List Int) (f:Int→Int) (o8 o9:Option V),σ''=[some (.ref a),some (.ref b),some (.ref df),some (.ref dt),some (.ref u),some (.int m),some (.ref rd),some (.ref r),o8,o9] ∧
   RI ns ls (row++[m]) ready f∧g6 H2 H''∧H'' rd=some (.lst (ready.map V.int))∧H'' r=some (.lst ((row++[m]).map V.int))∧H'' u=some (.dK (l5 ns fun n=>.int (f n))),fun σ'' H'' h=>?_,?_⟩
  ·obtain⟨ready,f,o8,o9,e,R',w⟩:=h
   exact⟨ns.length-(row++[m]).length,by rw[aA7,aE5];omega,row++[m],ready,f,_,o8,o9,e,rfl,R',w⟩
  refine⟨_,rfl,.inl ⟨rfl,_,d7.of h1⟩,rd,_,.int m,rfl,rfl,h1,by simp,?_⟩
  have ed:((ini++[m]).map V.int).dropLast=ini.map V.int:=by rw[aB2];simp
  rw[ed]
  refine⟨_,rfl,.inl ⟨rfl,_,d7.of (by rw[b7 (Ne.symm rr)];exact h2)⟩,_,rfl,r,_,_,rfl,rfl,by rw[b7 (Ne.symm rr)];exact h2,n4 (by rw[aA0];omega),?_⟩
  have sm6:g6 H2 (upd (upd H' rd (.lst (ini.map V.int))) r (.lst (row.map V.int++[.int m]))):=l8 (l8 sm nrd) nr
  have g1:(upd (upd H' rd (.lst (ini.map V.int))) r (.lst (row.map V.int++[.int m]))) rd=some (.lst (ini.map V.int)):=by rw[b7 rr];exact b0
  have g2:(upd (upd H' rd (.lst (ini.map V.int))) r (.lst (row.map V.int++[.int m]))) r=some (.lst ((row++[m]).map V.int)):=by rw[b0,aB2];rfl
  have g3:(upd (upd H' rd (.lst (ini.map V.int))) r (.lst (row.map V.int++[.int m]))) u=some (.dK (l5 ns fun n=>.int (f n))):=by rw[b7 ur',b7 ur];exact h3
  generalize upd (upd H' rd (.lst (ini.map V.int))) r (.lst (row.map V.int++[.int m]))=H6 at sm6 g1 g2 g3 ⊢
  obtain⟨ys,hy,Ly⟩:=F.ls m hmn
  have dg:=t7.k (k:=Sum.inl m) (sm6 _ _ F.at')
  rw[m9,aB0 hmn]at dg
  have lf:ls.filter (fun l=>decide (lat 0 l=m))=ls.filter fun l=>decide (l.1=m):=rfl
  rw[lf]at Ly
  refine⟨_,rfl,_,rfl,df,_,rfl,dg,pf m,rfl,⟨_,d7.of (sm6 _ _ hy)⟩,?_⟩
  refine B8 (xs:=ys) (fun j σ'' H''=>∃(ready:List Int) (f:Int→Int) (o8 o9:Option V),σ''=[some (.ref a),some (.ref b),some (.ref df),some (.ref dt),some (.ref u),some (.int m),some (.ref rd),some (.ref r),o8,o9] ∧
   RJ ns ls row m ready f j∧g6 H2 H''∧H'' rd=some (.lst (ready.map V.int))∧H'' r=some (.lst ((row++[m]).map V.int))∧H'' u=some (.dK (l5 ns fun n=>.int (f n))))
   ⟨ini,f,o8,o9,rfl,J,sm6,g1,g2,g3⟩ (fun j σ'' H'' _ h=>?_) (fun j x σ'' H'' hx h=>?_) (fun σ'' H'' h=>?_)
  ·obtain⟨_,_,_,_,rfl,_,sm,_⟩:=h
   exact d7.of (sm _ _ hy)
  ·obtain⟨ready,f,o8,o9,rfl,J,sm,k1,k2,k3⟩:=h
   obtain⟨l,hl,c,rfl,hc⟩:=Ly.get hx
   have hc:=sm _ _ hc
   have hlm:=(hin l (aD5.mp (aC5 hl)).1).2
   have S:=J.step hl hlm
   have lr:=J.len
   refine⟨_,rfl,c,_,1,_,rfl,rfl,i5.of hc,rfl,?_⟩
   have dg:=t7.k (k:=Sum.inl l.2.1) k3
   rw[m9,aB0 hlm]at dg
   refine⟨_,rfl,_,rfl,u,_,rfl,dg,_,_,rfl,rfl,_,rfl,_,rfl,u,_,rfl,J5.k (k:=Sum.inl l.2.1) k3 (n4 (by rw[G9];omega)),?_⟩
   have k4:(upd H'' u (.dK (putK (l5 ns fun n=>.int (f n)) (Sum.inl l.2.1) (.int (f l.2.1-1))))) u=some (.dK (l5 ns fun n=>.int (a2n f l.2.1 (f l.2.1-1) n))):=by
    rw[b0,J9,aB0 hlm]
    congr 2
    refine X5 fun n _=>?_
    unfold X1 a2n
    split<;>rfl
   have sm7:g6 H2 (upd H'' u (.dK (putK (l5 ns fun n=>.int (f n)) (Sum.inl l.2.1) (.int (f l.2.1-1))))):=l8 sm hu0
   have k5:(upd H'' u (.dK (putK (l5 ns fun n=>.int (f n)) (Sum.inl l.2.1) (.int (f l.2.1-1))))) rd=some (.lst (ready.map V.int)):=by rw[b7 (Ne.symm ur)];exact k1
   have k6:(upd H'' u (.dK (putK (l5 ns fun n=>.int (f n)) (Sum.inl l.2.1) (.int (f l.2.1-1))))) r=some (.lst ((row++[m]).map V.int)):=by rw[b7 (Ne.symm ur')];exact k2
   generalize upd H'' u (.dK (putK (l5 ns fun n=>.int (f n)) (Sum.inl l.2.1) (.int (f l.2.1-1))))=H7 at k4 sm7 k5 k6 ⊢
   have dg2:=t7.k (k:=Sum.inl l.2.1) k4
   have e0:a2n f l.2.1 (f l.2.1-1) l.2.1=f l.2.1-1:=aB0 rfl
   rw[m9,aB0 hlm,e0]at dg2
   refine⟨_,rfl,_,rfl,u,_,rfl,dg2,rfl,_,rfl,K4 (fun c=>?_) (fun c=>?_)⟩
   ·have c':f l.2.1-1=0:=by simpa using c
    rw[aB0 c']at S
    refine⟨_,rfl,.inl ⟨rfl,_,d7.of k5⟩,_,rfl,rd,_,_,rfl,rfl,k5,n4 (by rw[aA0];omega),?_⟩
    refine⟨_,_,_,_,rfl,S,l8 sm7 nrd,?_,?_,?_⟩
    ·rw[b0,aB2];rfl
    ·rw[b7 (Ne.symm rr)];exact k6
    ·rw[b7 ur];exact k4
   ·have c':¬f l.2.1-1=0:=by simpa using c
    rw[aA4 c']at S
    exact⟨_,_,_,_,rfl,S,sm7,k5,k6,k4⟩
  ·obtain⟨ready,f,o8,o9,rfl,J,w⟩:=h
   exact⟨ready,f,o8,o9,rfl,J.done (Nat.le_of_eq Ly.len.symm),w⟩
 ·have c':¬(0:Int)<(((ready.map V.int).length:Nat):Int):=aG9 (aJ9.mpr c)
  rw[aA0]at c'
  have e:ready=[]:=aJ0 (by omega)
  subst e
  exact⟨_,rfl,q r row H' (F.sm.trans sm) (A9 F.sm nr) h2 R.row⟩
inductive a2B(K:PySem.W.Frag)(vs:List V)(H:Hp)(Q:VK):Prop
 | mk (a:Addr) (L:List Lk) (xs:List V) (x0:vs=[.ref a]) (x1:d7 K H a xs) (x2:y6 H L xs) (x3:L≠[]) (x4:(∀l∈L,∃m∈L,m.2.1=l.1)) (x5:L.length≤10000000) (xq:∀(r:Addr) (zs:List V) (rg:List Lk) (H':Hp),g6 H H'→H r=none→H' r=some (.lst zs)→y6 H' rg zs→Ring rg→(∀l∈rg,l∈L)→Q (.ref r) H')
def a6F(K:PySem.W.Frag):Sp:=fun vs H Q _=>a2B K vs H Q
theorem y6.reverse{H:Hp}{ls:List Lk}{xs:List V}(h:y6 H ls xs):y6 H ls.reverse xs.reverse:=by
 induction h with
 | nil=>exact .nil
 | cons r _ ih=>rw[aP8,aP8];exact ih.snoc r
theorem y6.drop{H:Hp}:∀(n:Nat) {ls:List Lk} {xs:List V},y6 H ls xs→y6 H (ls.drop n) (xs.drop n)
 | 0,_,_,h=>h
 | n+1,_,_,.nil=>.nil
 | n+1,_,_,.cons _ t=>y6.drop n t
theorem a5C(T:A7 K mg t):g9 P w K mg base y9 1 t.f_ring_behind t.d_ring_behind ["links"] (a6F K):=by
 refine T.F_ring_behind.ok G4 (fun vs H Q E h=>?_) (fun cdv A outer s H vs Q E hr h=>?_)
 ·obtain⟨a,L,xs,rfl,_⟩:=h
  rfl
 obtain⟨a,L,xs,rfl,hA,hL,ne,hin,z1,q⟩:=h
 have hu:=M7 hr
 refine⟨_,(b8 (g7 (i:=1) G4.nd rfl (Or.inl rfl) A8)
 (b8 (z9 aE4 rfl (q5 (pv 0)) (l4 (i:=2) G4.nd rfl (Or.inl rfl))
 (c9 (C2 hu (pv 1) (d9 i3 (pv 2) (v5 rfl T.m_OTHER T.r_OTHER) (fun _ _=>rfl)) (pv 2) rfl)))
 (b8 (g7 (i:=3) G4.nd rfl (Or.inl rfl) (d9 i3 (d9 l7 (pv 0) d5 (fun _ _=>rfl)) (v5 rfl T.m_OTHER T.r_OTHER) (fun _ _=>rfl)))
 (b8 (g7 (i:=4) G4.nd rfl (Or.inl rfl) A8)
 (b8 (g7 (i:=5) G4.nd rfl (Or.inl rfl) (m7 b6))
 (b8 (a8i aE4 (f7 (a0a hu) (pv 3) (pv 4) (by with_unfolding_all rfl))
 (b8 (C2 hu (pv 4) (pv 3) (e7 g8 rfl T.m_len aC2 (a6 (pv 5) b6)) rfl)
 (b8 (m6 (u6 aB1 aB6 aB8 o6 (pv 5) (a6 (u3 hu (pv 1) (pv 3) (fun _ _=>rfl)) b6)))
 (c9 (g7 (i:=3) G4.nd rfl (Or.inl rfl) (d9 i3 (u3 hu (pv 1) (pv 3) (fun _ _=>rfl)) (v5 rfl T.m_ONE T.r_ONE) (fun _ _=>rfl)))))))
 (c9 (i4 (b4b rfl rfl T.m_list rfl T.m_reversed (P2 U0 (pv 5) (T6 (u3 hu (pv 4) (pv 3) (fun _ _=>rfl))) U1)))))))))),?_⟩
 have lx:=hL.len
 refine fun d hd=>?_
 refine⟨_,rfl,a,rfl,⟨_,hA.same (b9 hd)⟩,?_⟩
 refine B8 (xs:=xs) (fun i σ' H'=>∃(o2:Option V) (ks:List Int) (g:Int→V),σ'=[some (.ref a),some (.ref d),o2,none,none,none]∧g6 H H'∧H' d=some (.dK (l5 ks g))∧ks.length≤i∧(∀n,n∈ks↔∃l∈L.take i,l.2.1=n)∧∀n∈ks,∃l∈L,l.2.1=n∧a8M H l (g n))
  ⟨none,[],fun _=>.non,rfl,b9 hd,b0,aB3 _,by simp,by simp⟩ (fun i σ' H' _ h=>?_) (fun i x σ' H' hx h=>?_) (fun σ' H1 h=>?_)
 ·obtain⟨o2,ks,g,rfl,sm,_⟩:=h
  exact hA.same sm
 ·obtain⟨o2,ks,g,rfl,sm,h1,lk,hk,hg⟩:=h
  obtain⟨l,hl,c,rfl,hc⟩:=hL.get hx
  have li:=(aA2.mp hl).1
  refine⟨_,rfl,_,rfl,_,rfl,c,_,1,_,rfl,rfl,i5.of (sm _ _ hc),rfl,d,_,rfl,J5.k (k:=Sum.inl l.2.1) h1 (n4 (by rw[G9];omega)),?_⟩
  refine⟨_,_,_,rfl,l8 sm hd,by rw[b0,J9],?_,fun n=>?_,fun n hn=>?_⟩
  ·split
   ·omega
   ·rw[aA7,aE5];omega
  ·rw[aD3,hl,aF8]
   have e1:(∃m∈L.take i++[l],m.2.1=n)↔(∃m∈L.take i,m.2.1=n)∨l.2.1=n:=by
    constructor
    ·rintro⟨m,hm,e⟩
     rcases aA8.mp hm with hm | hm
     ·exact .inl ⟨m,hm,e⟩
     ·rw[aA3.mp hm]at e;exact .inr e
    ·rintro(⟨m,hm,e⟩ | e)
     ·exact⟨m,aE2 _ hm,e⟩
     ·exact⟨l,by simp,e⟩
   rw[e1,←hk]
   split
   ·rename_i c
    exact⟨.inl,fun w=>w.elim id fun w=>w▸c⟩
   ·rw[aA8,aA3]
    exact⟨fun w=>w.imp id fun w=>w.symm,fun w=>w.imp id fun w=>w.symm⟩
  ·by_cases e:n=l.2.1
   ·subst e
    exact⟨l,aC5 hl,rfl,by rw[Y5];exact⟨c,rfl,hc⟩⟩
   ·rw[a4h e]
    refine hg n ?_
    split at hn
    ·exact hn
    ·rcases aA8.mp hn with hn | hn
     ·exact hn
     ·exact absurd (aA3.mp hn) e
 obtain⟨o2,ks,g,rfl,sm1,hd1,lk,hk,hg⟩:=h
 rw[lx,aE0]at hk
 obtain⟨l0,hl0⟩:∃l0,L[0]?=some l0:=by
  cases L with
  | nil=>exact absurd rfl ne
  | cons l L=>exact⟨l,rfl⟩
 obtain⟨x0,hx0,c0,rfl,hc0⟩:=a5r hL hl0
 refine⟨_,rfl,a,_,0,_,rfl,rfl,hA.same sm1,i9 (j:=0) hx0,c0,_,1,_,rfl,rfl,i5.of (sm1 _ _ hc0),rfl,?_⟩
 refine fun mt hmt=>⟨(n9 0),fun wk hwk=>?_⟩
 have mw:mt≠wk:=d6 b0 hwk
 have nmt:H mt=none:=A9 sm1 hmt
 have nwk:H wk=none:=A9 (sm1.trans (b9 hmt)) hwk
 have md:d≠mt:=d6 hd1 hmt
 have wd:d≠wk:=d6 (b9 hmt _ _ hd1) hwk
 refine⟨fun m σ' H'=>∃(W:List Lk) (ys:List V) (n:Int) (g':Int→V),σ'=[some (.ref a),some (.ref d),o2,some (.int n),some (.ref mt),some (.ref wk)]∧m=L.length-W.length∧Wk L W n∧g6 H H'∧H' d=some (.dK (l5 ks g))∧H' wk=some (.lst ys)∧y6 H W ys ∧
   H' mt=some (.dK (l5 (W.map fun l=>l.2.1) g'))∧∀(i:Nat) l,W[i]?=some l→g' l.2.1=.int (i:Int),
  ⟨_,[],[],l0.2.1,fun _=>.non,rfl,rfl,⟨by simp,by simp,by simp,by simp,l0,aC5 hl0,rfl⟩,(sm1.trans (b9 hmt)).trans (b9 hwk),b9 hwk _ _ (b9 hmt _ _ hd1),b0,.nil,by rw[b7 mw];exact b0,by simp⟩,fun m σ' H' h=>?_⟩
 obtain⟨W,ys,n,g',rfl,rfl,wk',sm,k1,k2,Ly,k3,hg'⟩:=h
 refine⟨_,rfl,_,rfl,mt,_,rfl,t7.k (k:=Sum.inl n) k3,_,rfl,?_⟩
 rw[m9]
 by_cases hn:n∈W.map fun l=>l.2.1
 ·rw[aB0 hn]
  refine f6 ?_
  obtain⟨i,hi⟩:=aF1.mp hn
  rw[aB4]at hi
  obtain⟨l,hi,e⟩:=aC9.mp hi
  have dg:=t7.k (k:=Sum.inl n) k3
  rw[m9,aB0 hn,←e,hg' i l hi,e]at dg
  have li:=(aA2.mp hi).1
  refine⟨_,rfl,_,rfl,_,rfl,mt,_,rfl,dg,_,rfl,wk,_,rfl,d7.of k2,fun sl hsl=>?_⟩
  rw[a5k]
  refine⟨sl,_,rfl,d7.of b0,fun r hr0=>?_⟩
  have s8:=(sm.trans (b9 (o:=.lst (ys.drop i)) hsl)).trans (b9 (o:=.lst (ys.drop i).reverse) hr0)
  obtain⟨rg,sub⟩:=wk'.ring hi e
  exact q r _ _ _ s8 (A9 (sm.trans (b9 (o:=.lst (ys.drop i)) hsl)) hr0) b0 (((Ly.drop i).reverse).tupK s8.tupK) rg sub
 ·rw[aA4 hn]
  refine l6 ?_
  have hnk:n∈ks:=(hk n).mpr wk'.on
  obtain⟨l,hl,e,c,eg,hc⟩:=hg n hnk
  have dg:=fun(Hx:Hp) (hx:Hx d=some (.dK (l5 ks g)))=>t7.k (k:=Sum.inl n) hx
  have dg':∀(Hx:Hp),Hx d=some (.dK (l5 ks g))→t7 Hx d (.int n) (some (.ref c)):=fun Hx hx=>by
   have:=dg Hx hx
   rw[m9,aB0 hnk,eg]at this
   exact this
  have S:=wk'.step hn hl e (hin l hl)
  have sl:=S.len
  rw[aA7,aE5]at sl
  refine⟨fun σ'' H''=>∃(ys:List V) (g':Int→V),σ''=[some (.ref a),some (.ref d),o2,some (.int l.1),some (.ref mt),some (.ref wk)]∧g6 H H''∧H'' d=some (.dK (l5 ks g))∧H'' wk=some (.lst ys)∧y6 H (W++[l]) ys ∧
   H'' mt=some (.dK (l5 ((W++[l]).map fun l=>l.2.1) g'))∧∀(i:Nat) l',(W++[l])[i]?=some l'→g' l'.2.1=.int (i:Int),fun σ'' H'' h=>?_,?_⟩
  ·obtain⟨ys,g',e1,w1,w2,w3,w4,w5,w6⟩:=h
   exact⟨L.length-(W++[l]).length,by rw[aA7,aE5];omega,W++[l],ys,l.1,g',e1,rfl,S,w1,w2,w3,w4,w5,w6⟩
  refine⟨_,rfl,wk,_,rfl,.inl (d7.of k2),_,rfl,_,rfl,mt,_,rfl,J5.k (k:=Sum.inl n) k3 (n4 (by rw[G9,aA0];omega)),?_⟩
  rw[J9,aA4 hn]
  have p1:∀o,upd H' mt o d=some (.dK (l5 ks g)):=fun o=>by rw[b7 md];exact k1
  have p2:∀o,upd H' mt o wk=some (.lst ys):=fun o=>by rw[b7 (Ne.symm mw)];exact k2
  refine⟨_,rfl,.inl ⟨rfl,_,d7.of (p2 _)⟩,_,rfl,_,rfl,d,_,rfl,dg' _ (p1 _),wk,_,_,rfl,rfl,p2 _,n4 (by rw[Ly.len];omega),?_⟩
  have sm9:∀o o',g6 H (upd (upd H' mt o) wk o'):=fun o o'=>l8 (l8 sm nmt) nwk
  have p3:∀o o',upd (upd H' mt o) wk o' d=some (.dK (l5 ks g)):=fun o o'=>by rw[b7 wd];exact p1 o
  refine⟨_,rfl,_,rfl,d,_,rfl,dg' _ (p3 _ _),c,_,0,_,rfl,rfl,i5.of (sm9 _ _ _ _ hc),rfl,?_⟩
  refine⟨_,X1 g' n (.int (ys.length:Int)),rfl,sm9 _ _,p3 _ _,b0,Ly.snoc ⟨c,rfl,hc⟩,?_,fun i l' hi=>?_⟩
  ·rw[b7 mw,b0,aB2,aK4,e]
  ·by_cases ci:i<W.length
   ·rw[aE1 ci]at hi
    rw[a4h fun z=>hn (by rw[←z];exact aA5.mpr ⟨l',aC5 hi,rfl⟩)]
    exact hg' i l' hi
   ·have li:=(aA2.mp hi).1
    rw[aA7,aE5]at li
    have ei:i=W.length:=by omega
    subst ei
    rw[aE9 (aB3 _),Nat.sub_self]at hi
    have hi:l=l':=by simpa using hi
    subst hi
    rw[e,Y5,Ly.len]
inductive a1A(K:PySem.W.Frag)(vs:List V)(H:Hp)(Q:VK):Prop
 | mk (a b:Addr) (ns:List Int) (ls:List Lk) (xs:List V) (x0:vs=[.ref a,.ref b]) (x1:d7 K H a (ns.map V.int)) (x2:ns.Nodup) (x3:d7 K H b xs) (x4:y6 H ls xs) (x5:(∀l∈ls,l.1∈ns∧l.2.1∈ns)) (x6:ns.length≤10000) (x7:ls.length≤10000000) (x8:(∀(p r:Addr) (row:List Int) (H':Hp),g6 H H'→H r=none→H' p=some (.tup [.str "row",.ref r])→H' r=some (.lst (row.map V.int))→a2q ns ls row→Q (.ref p) H')) (xq:∀(p r:Addr) (zs:List V) (rg:List Lk) (H':Hp),g6 H H'→H r=none→H' p=some (.tup [.str "ring",.ref r])→H' r=some (.lst zs)→y6 H' rg zs→Ring rg→(∀l∈rg,l∈ls)→Q (.ref p) H')
def a1F(K:PySem.W.Frag):Sp:=fun vs H Q _=>a1A K vs H Q
theorem a9E(T:A7 K mg t):g9 P w K mg base y9 3 t.f_row_or_ring t.d_row_or_ring ["numbers","links"] (a1F K):=by
 refine T.F_row_or_ring.ok Q2 (fun vs H Q E h=>?_) (fun cdv A outer s H vs Q E hr h=>?_)
 ·obtain⟨a,b,ns,ls,xs,rfl,_⟩:=h
  rfl
 obtain⟨a,b,ns,ls,xs,rfl,hA,nd,hB,hL,hin,z1,z2,q1,q2⟩:=h
 have hu:=M7 hr
 refine⟨_,(b8 (g7 (i:=2) Q2.nd rfl (Or.inl rfl) (j8 (g9.mono (k:=2) (a4F T) (by decide)) hr rfl T.m_longest_row T.F_longest_row.kp T.F_longest_row.b .nil k8 (a6 (pv 0) (a6 (pv 1) b6))))
 (b8 (k7 (f7 z8 (e7 g8 rfl T.m_len aC2 (a6 (pv 2) b6)) (e7 g8 rfl T.m_len aC2 (a6 (pv 0) b6)) (i6 _))
 (c9 (i4 (v3 (a6 m5 (a6 (pv 2) b6)))))
 j0)
 (b8 (g7 (i:=3) Q2.nd rfl (Or.inr rfl) A8)
 (b8 (z9 aE4 rfl (q5 (pv 2)) (l4 (i:=4) Q2.nd rfl (Or.inl rfl))
 (c9 (C2 hu (pv 3) (pv 4) A1 rfl)))
 (c9 (i4 (v3 (a6 m5 (a6 (j8 (g9.mono (k:=2) (a5C T) (by decide)) hr rfl T.m_ring_behind T.F_ring_behind.kp T.F_ring_behind.b .nil k8 (a6 (O8 rfl (q5 (pv 1)) (D5.mk (own:=["link"]) (tl:=["numbers","links","row","placed","number"]) rfl rfl rfl (fun _ _ _ _ _=>(l4 (i:=0) (a4x) rfl (Or.inl rfl))) (fun _ _ _ _ _=>(T7 (f7 (a0a hu) (d9 O3 (pv 0) (v5 rfl T.m_ONE T.r_ONE) (fun _ _=>rfl)) (pv 4) (by with_unfolding_all rfl)))) (fun _ _ _ _ _=>(pv 0)))) b6)) b6))))))))),?_⟩
 have ln:(ns.map V.int).length=ns.length:=aA0 _
 have lx:=hL.len
 refine⟨_,rfl,_,rfl,a,b,ns,ls,xs,rfl,hA,nd,hB,hL,hin,z1,z2,fun r row H1 s1 nr1 hr1 R=>?_⟩
 have lr:(row.map V.int).length=row.length:=aA0 _
 have ll:=u5 R.nd R.sub
 refine⟨_,rfl,r,_,rfl,.inl (d7.of hr1),_,rfl,a,_,rfl,.inl (hA.same s1),rfl,_,rfl,K4 (fun c=>?_) (fun c=>?_)⟩
 ·have c':row.length=ns.length:=by have c':=c;simp at c';omega
  refine⟨_,rfl,(n9 2),fun p hp=>?_⟩
  have s2:=b9 (o:=.tup [.str "row",.ref r]) hp
  exact q1 p r row _ (s1.trans s2) nr1 b0 (s2 _ _ hr1) (R.all nd c' fun l hl=>(hin l hl).2)
 ·have c':¬row.length=ns.length:=by have c':=c;simp at c';omega
  refine fun d hd=>?_
  refine⟨_,rfl,r,rfl,⟨_,d7.of (b9 hd _ _ hr1)⟩,?_⟩
  refine B8 (xs:=row.map V.int) (fun i σ' H'=>∃o4,σ'=[some (.ref a),some (.ref b),some (.ref r),some (.ref d),o4]∧g6 H1 H'∧H' d=some (.dK (l5 (row.take i) fun _=>.bl true)))
   ⟨none,rfl,b9 hd,b0⟩ (fun i σ' H' _ h=>?_) (fun i x σ' H' hx h=>?_) (fun σ' H2 h=>?_)
  ·obtain⟨o4,rfl,sm,_⟩:=h
   exact d7.of (sm _ _ hr1)
  ·obtain⟨o4,rfl,sm,h1⟩:=h
   rw[aB4]at hx
   obtain⟨n,hn,rfl⟩:=aC9.mp hx
   have li:=(aA2.mp hn).1
   have tk:row.take (i+1)=row.take i++[n]:=by rw[aD3,hn];rfl
   have nn:n∉row.take i:=fun z=>by
    have nd':(row.take (i+1)).Nodup:=R.nd.sublist (aK7 _ _)
    rw[tk,aC3]at nd'
    exact nd'.2.2 n z n (by simp) rfl
   refine⟨_,rfl,_,rfl,d,_,rfl,J5.k (k:=Sum.inl n) h1 (n4 (by rw[G9,aD6];omega)),?_⟩
   refine⟨_,rfl,l8 sm hd,?_⟩
   rw[b0,J9,aA4 nn,tk]
   congr 2
   refine X5 fun m _=>?_
   unfold X1
   split<;>rfl
  obtain⟨o4,rfl,sm2,hd2⟩:=h
  rw[lr,aE0]at hd2
  have s12:=s1.trans sm2
  refine⟨_,rfl,b,rfl,⟨_,hB.same s12⟩,fun acc hacc=>?_⟩
  refine C0 (xs:=xs) (fun i Hc=>g6 H2 Hc∧∃ys,Hc acc=some (.lst ys)∧y6 H2 ((ls.take i).filter fun l=>decide (l.1∉row)) ys) ⟨b9 hacc,[],b0,.nil⟩ (fun i Hc _ h=>(hB.same s12).same h.1) (fun i x Hc hx h=>?_) (fun H3 h=>?_)
  ·obtain⟨sc,ys,h1,Ly⟩:=h
   obtain⟨l,hl,e,rfl,he⟩:=hL.get hx
   have he2:=s12 _ _ he
   have li:=(aA2.mp hl).1
   rw[a8s hl]
   refine⟨_,rfl,e,_,0,_,rfl,rfl,i5.of (sc _ _ he2),rfl,_,rfl,d,_,rfl,t7.k (k:=Sum.inl l.1) (sc _ _ hd2),_,rfl,?_⟩
   rw[m9]
   by_cases hr2:l.1∈row
   ·rw[aB0 hr2,aA4 (by simpa using hr2),aH1]
    refine f6 ?_
    exact⟨sc,ys,h1,Ly⟩
   ·rw[aA4 hr2,aB0 (by simpa using hr2)]
    refine l6 ?_
    have ly:ys.length≤i:=by
     rw[Ly.len]
     refine aD8 (aG6 _ _) ?_
     rw[aD6];omega
    exact⟨_,rfl,ys,h1,n4 (by omega),l8 sc hacc,_,b0,Ly.snoc ⟨e,rfl,he2⟩⟩
  obtain⟨s3,ys,h3,Ly⟩:=h
  rw[lx,aE0]at Ly
  have outs:∀n∈ns,n∉row→∃l∈ls.filter (fun l=>decide (l.1∉row)),l.2.1=n:=fun n hn ho=>by
   obtain⟨l,hl,e1,e2⟩:=R.out n hn ho
   exact⟨l,aD5.mpr ⟨hl,by simpa using e2⟩,e1⟩
  have some1:∃n∈ns,n∉row:=aM0 fun z=>c' (by
   have all:∀n∈ns,n∈row:=fun n hn=>aM0 fun w=>z ⟨n,hn,w⟩
   exact Nat.le_antisymm ll (u5 nd all))
  refine⟨acc,_,ys,rfl,d7.of h3,Ly.tupK s3.tupK,fun z=>?_,fun l hl=>?_,aD8 (aG6 _ _) z2,fun rr zs rg H4 s4 nr4 hr4 L4 RG sub=>?_⟩
  ·obtain⟨n,hn,ho⟩:=some1
   obtain⟨l,hl,_⟩:=outs n hn ho
   rw[z]at hl;simp at hl
  ·obtain⟨hl1,hl2⟩:=aD5.mp hl
   exact outs l.1 (hin l hl1).1 (by simpa using hl2)
  ·refine⟨(n9 2),fun p hp=>?_⟩
   have s5:=b9 (o:=.tup [.str "ring",.ref rr]) hp
   exact q2 p rr zs rg _ (((s12.trans s3).trans s4).trans s5) (A9 (s12.trans s3) nr4) b0 (s5 _ _ hr4) (L4.tupK s5.tupK) RG fun l hl=>(aD5.mp (sub l hl)).1
inductive a5T(K:PySem.W.Frag)(vs:List V)(H:Hp)(Q:VK):Prop
 | mk (a:Addr) (ps:List (Int×Int)) (m:Int) (x0:vs=[.ref a,.int m]) (x1:Ver K H a ps) (x2:ps.length≤100000) (xq:∀H',g6 H H'→Q (.int (cnt ps m:Nat)) H')
def b0c(K:PySem.W.Frag):Sp:=fun vs H Q _=>a5T K vs H Q
theorem a3z(T:A7 K mg t):g9 P w K mg base y9 1 t.f_reached t.d_reached ["versions","moment"] (b0c K):=by
 refine T.F_reached.ok b6b (fun vs H Q E h=>?_) (fun cdv A outer s H vs Q E hr h=>?_)
 ·obtain⟨a,ps,m,rfl,_⟩:=h
  rfl
 obtain⟨a,ps,m,rfl,⟨xs,hS,hR⟩,hl,q⟩:=h
 refine⟨_,(c9 (i4 (e7 g8 rfl T.m_len aC2 (a6 (O8 rfl (q5 (pv 0)) (D5.mk (own:=["version"]) (tl:=["versions","moment"]) rfl rfl rfl (fun _ _ _ _ _=>(l4 (i:=0) (a9M) rfl (Or.inl rfl))) (fun _ _ _ _ _=>(T7 (f7 a5L (d9 O3 (pv 0) d5 (fun _ _=>rfl)) (pv 2) (i6 _)))) (fun _ _ _ _ _=>(pv 0)))) b6)))),?_⟩
 refine⟨_,rfl,a,rfl,⟨xs,hS⟩,fun acc hacc=>?_⟩
 have sm:∀ys,g6 H (upd H acc (.lst ys)):=fun ys=>b9 hacc
 refine C0 (xs:=xs) (fun i H'=>∃ys,H'=upd H acc (.lst ys)∧ys.length=cnt (ps.take i) m) ⟨[],rfl,rfl⟩ (fun i H' _ h=>?_) (fun i x H' hx h=>?_) (fun H' h=>?_)
 ·obtain⟨ys,rfl,_⟩:=h
  exact hS.same (sm ys)
 ·obtain⟨ys,rfl,hy⟩:=h
  obtain⟨p,b,hp,rfl,hT⟩:=b8g hR hx
  have hi:i<ps.length:=(aA2.mp hp).1
  have hc:=a2g (ps.take i) m
  rw[aD6]at hc
  refine⟨_,rfl,b,_,0,.int p.1,rfl,rfl,hT.same (sm ys),rfl,_,rfl,_,_,rfl,rfl,_,rfl,?_⟩
  refine K4 (fun c=>?_) (fun c=>?_)
  ·have c':p.1≤m:=aF4 c
   refine⟨_,rfl,ys,b0,n4 (by omega),_,a0Y,?_⟩
   rw[a9i hp,aB0 c',aA7,hy]
   rfl
  ·have c':¬p.1≤m:=aG9 (aJ9.mpr c)
   refine⟨ys,rfl,?_⟩
   rw[a9i hp,aA4 c',hy]
   rfl
 ·obtain⟨ys,rfl,hy⟩:=h
  rw[b9t hR,aE0]at hy
  refine⟨acc,ys,rfl,.inl (d7.of b0),?_⟩
  rw[hy]
  exact q _ (sm ys)
def valueAt(ps:List (Int×Int))(m:Int):Int:=if cnt ps m=0 then 0 else(ps.getD (cnt ps m-1) (0,0)).2
inductive a7S(K:PySem.W.Frag)(vs:List V)(H:Hp)(Q:VK):Prop
 | mk (a:Addr) (ps:List (Int×Int)) (m:Int) (x0:vs=[.ref a,.int m]) (x1:Ver K H a ps) (x2:ps.length≤100000) (xq:∀H',g6 H H'→Q (.int (valueAt ps m)) H')
def a5U(K:PySem.W.Frag):Sp:=fun vs H Q _=>a7S K vs H Q
theorem a7t(T:A7 K mg t):g9 P w K mg base y9 2 t.f_value_at t.d_value_at ["versions","moment"] (a5U K):=by
 refine T.F_value_at.ok a8t (fun vs H Q E h=>?_) (fun cdv A outer s H vs Q E hr h=>?_)
 ·obtain⟨a,ps,m,rfl,_⟩:=h
  rfl
 obtain⟨a,ps,m,rfl,hV,hl,q⟩:=h
 refine⟨_,(b8 (g7 (i:=2) a8t.nd rfl (Or.inl rfl) (j8 (g9.mono (k:=1) (a3z T) (by decide)) hr rfl T.m_reached T.F_reached.kp T.F_reached.b .nil k8 (a6 (pv 0) (a6 (pv 1) b6))))
 (b8 (k7 (f7 z8 (pv 2) d5 (i6 _))
 (c9 (i4 d5))
 j0)
 (c9 (i4 (d9 i3 (d9 l7 (pv 0) (j6 N0 (pv 2) d5) (fun _ _=>rfl)) d5 (fun _ _=>rfl)))))),?_⟩
 refine⟨_,rfl,_,rfl,a,ps,m,rfl,hV,hl,fun H1 g1=>?_⟩
 refine⟨_,rfl,rfl,_,rfl,?_⟩
 refine K4 (fun c=>?_) (fun c=>?_)
 ·have c':cnt ps m=0:=by have:=aF4 c;injection this with z;exact Int.ofNat.inj z
  have e:valueAt ps m=0:=by unfold valueAt;rw[aB0 c']
  have:=q H1 g1
  rw[e]at this
  exact this
 ·have c':¬cnt ps m=0:=fun z=>c (aC6 (by rw[z];rfl))
  have hc:=a2g ps m
  have hlt:cnt ps m-1<ps.length:=by omega
  have hp:ps[cnt ps m-1]?=some ps[cnt ps m-1]:=List.getElem?_eq_getElem hlt
  obtain⟨xs,hS,hR⟩:=hV
  obtain⟨b,hb,hT⟩:=b5u hR hp
  have ei:((cnt ps m:Nat):Int)-1=((cnt ps m-1:Nat):Int):=by omega
  have e:valueAt ps m=(ps[cnt ps m-1]).2:=by
   unfold valueAt;rw[aA4 c',aE7,hp];rfl
  refine⟨_,rfl,_,rfl,_,_,rfl,rfl,a,xs,_,.ref b,rfl,rfl,hS.same g1,?_,b,_,1,.int (ps[cnt ps m-1]).2,rfl,rfl,hT.same g1,rfl,?_⟩
  ·rw[ei];exact i9 hb
  ·rw[←e];exact q H1 g1
inductive b9g(K:PySem.W.Frag)(vs:List V)(H:Hp)(Q:VK):Prop
 | mk (a:Addr) (xs:List V) (ps:List (Int×Int)) (m:Int) (x0:vs=[.ref a,.int m]) (x1:d7 K H a xs) (x2:p7 K H (ps.map pd) xs) (x3:ps.length≤100000) (xq:∀(r:Addr) (H':Hp),g6 H H'→H r=none→H' r=some (.lst (xs.drop (cnt ps m-1)))→Q (.ref r) H')
def b3n(K:PySem.W.Frag):Sp:=fun vs H Q _=>b9g K vs H Q
theorem b1l(T:A7 K mg t):g9 P w K mg base y9 2 t.f_swept t.d_swept ["versions","moment"] (b3n K):=by
 refine T.F_swept.ok a3P (fun vs H Q E h=>?_) (fun cdv A outer s H vs Q E hr h=>?_)
 ·obtain⟨a,xs,ps,m,rfl,_⟩:=h
  rfl
 obtain⟨a,xs,ps,m,rfl,hS,hR,hl,q⟩:=h
 refine⟨_,(b8 (g7 (i:=2) a3P.nd rfl (Or.inl rfl) (e7 (a6q rfl) rfl T.m_max boot_max (a6 (j6 N0 (j8 (g9.mono (k:=1) (a3z T) (by decide)) hr rfl T.m_reached T.F_reached.kp T.F_reached.b .nil k8 (a6 (pv 0) (a6 (pv 1) b6))) d5) (a6 d5 b6))))
 (c9 (i4 (P2 U0 (pv 0) (T6 (pv 2)) U1)))),?_⟩
 refine⟨_,rfl,_,rfl,a,ps,m,rfl,⟨xs,hS,hR⟩,hl,fun H1 g1=>?_⟩
 refine⟨_,_,rfl,rfl,_,_,rfl,?_⟩
 have e:(if (0:Int)>((cnt ps m:Nat):Int)-1 then(0:Int) else((cnt ps m:Nat):Int)-1)=((cnt ps m-1:Nat):Int):=by split<;>omega
 rw[e]
 refine⟨_,rfl,_,rfl,_,rfl,a,xs,rfl,hS.same g1,fun r hr0=>?_⟩
 rw[a5k]
 exact q r _ (g1.trans (b9 hr0)) (A9 g1 hr0) b0
inductive a3T(K:PySem.W.Frag)(vs:List V)(H:Hp)(Q:VK):Prop
 | mk (a b:Addr) (ks js:List Str) (x0:vs=[.ref a,.ref b]) (x1:d7 K H a (ks.map V.str)) (x2:d7 K H b (js.map V.str)) (x3:ks.length≤63) (x4:js.length≤63) (xq:∀(r:Addr) (rs:List Str) (H':Hp),g6 H H'→H' r=some (.lst (rs.map V.str))→rs.Nodup→(∀x,x∈rs↔x∈ks∧x∈js)→Q (.ref r) H')
def a5Z(K:PySem.W.Frag):Sp:=fun vs H Q _=>a3T K vs H Q
theorem a9q{ks:List Str}(h:ks.length≤63):ks.length+1<scanBound:=by unfold scanBound;omega
theorem a5i(T:A7 K mg t):g9 P w K mg base y9 1 t.f_in_both t.d_in_both ["goods","others"] (a5Z K):=by
 refine T.F_in_both.ok a7Z (fun vs H Q E h=>?_) (fun cdv A outer s H vs Q E hr h=>?_)
 ·obtain⟨a,b,ks,js,rfl,_⟩:=h
  rfl
 obtain⟨a,b,ks,js,rfl,hA,hB,la,lb,q⟩:=h
 refine⟨_,(c9 (i4 (e7 (a3y rfl) rfl T.m_sorted aR8 (a6 (j6 a8Y (C9 (a5Q rfl) rfl T.m_set boot_set (a6 (pv 0) b6)) (C9 (a5Q rfl) rfl T.m_set boot_set (a6 (pv 1) b6))) b6)))),?_⟩
 refine⟨_,rfl,a,ks,rfl,hA,a9q la,fun l hl=>?_⟩
 have s1:=b9 (o:=tso w l (TS.once ks)) hl
 refine⟨_,rfl,b,js,rfl,hB.same s1,a9q lb,fun m hm=>?_⟩
 have s2:=b9 (o:=tso w m (TS.once js)) hm
 have hne:m≠l:=fun e=>by rw[e,b0]at hm;cases hm
 refine⟨l,m,TS.once ks,TS.once js,rfl,rfl,hne,s2 _ _ b0,b0,a9q (aD8 (TS.a8u ks) la),a9q (aD8 (TS.a8u js) lb),fun n rs hn nd mem=>?_⟩
 have s3:=b9 (o:=tso w n rs) hn
 refine⟨n,rs,rfl,b0,?_,fun r ys hr0 py _=>?_⟩
 ·have:=u5 nd fun x hx=>(TS.a5x.mp ((mem x).mp hx).1:x∈ks)
  omega
 obtain⟨zs,rfl,pz⟩:=K1 py
 refine q r zs _ (((s1.trans s2).trans s3).trans (b9 hr0)) b0 (pz.nodup_iff.mpr nd) fun x=>?_
 rw[pz.mem_iff,mem,TS.a5x,TS.a5x]
inductive a9K(K:PySem.W.Frag)(vs:List V)(H:Hp)(Q:VK):Prop
 | mk (one other:Rec) (x y:V) (g:Addr) (gs:List Str) (why:Str) (x0:vs=[x,y,.ref g,.str why]) (x1:RecAt K H one x) (x2:RecAt K H other y) (x3:d7 K H g (gs.map V.str)) (x4:gs.length≤900) (xq:∀(r:Addr) (ys:List V) (H':Hp),g6 H H'→H' r=some (.lst ys)→y6 H' (part one.num other.num why gs) ys→Q (.ref r) H')
def a9R(K:PySem.W.Frag):Sp:=fun vs H Q _=>a9K K vs H Q
theorem a3d(T:A7 K mg t):g9 P w K mg base y9 1 t.f_links_for t.d_links_for ["one","other","goods","why"] (a9R K):=by
 refine T.F_links_for.ok a0M (fun vs H Q E h=>?_) (fun cdv A outer s H vs Q E hr h=>?_)
 ·obtain⟨one,other,x,y,g,gs,why,rfl,_⟩:=h
  rfl
 obtain⟨one,other,x,y,g,gs,why,rfl,⟨b1,la1,pa1,rfl,t1,_,_⟩,⟨b2,la2,pa2,rfl,t2,_,_⟩,hG,lg,q⟩:=h
 refine⟨_,(c9 (i4 (O8 rfl (q5 (pv 2)) (D5.mk (own:=["good"]) (tl:=["one","other","goods","why"]) rfl rfl rfl (fun _ _ _ _ _=>(l4 (i:=0) (a4B) rfl (Or.inl rfl))) (fun _ _ _ _ _=>T9) (fun _ _ _ _ _=>(v3 (a6 (d9 O3 (pv 1) (v5 rfl T.m_NUMBER T.r_NUMBER) (fun _ _=>rfl)) (a6 (d9 O3 (pv 2) (v5 rfl T.m_NUMBER T.r_NUMBER) (fun _ _=>rfl)) (a6 (pv 0) (a6 (pv 4) b6)))))))))),?_⟩
 refine⟨_,rfl,g,rfl,⟨_,hG⟩,fun acc hacc=>?_⟩
 refine C0 (xs:=gs.map V.str) (fun i H'=>g6 H H'∧∃ys,H' acc=some (.lst ys)∧y6 H' (part one.num other.num why (gs.take i)) ys) ⟨b9 hacc,[],b0,.nil⟩ (fun i H' _ h=>?_) (fun i x H' hx h=>?_) (fun H' h=>?_)
 ·exact hG.same h.1
 ·obtain⟨sm,ys,ha,hL⟩:=h
  rw[aB4]at hx
  obtain⟨gd,hgd,rfl⟩:=aC9.mp hx
  have hi:i<gs.length:=(aA2.mp hgd).1
  refine⟨_,rfl,b1,_,0,.int one.num,rfl,rfl,t1.same sm,rfl,_,rfl,b2,_,0,.int other.num,rfl,rfl,t2.same sm,rfl,_,rfl,_,rfl,(n9 4),fun p hp=>?_⟩
  have ly:ys.length≤i:=by rw[hL.len];simp only[part,aA0,aD6];omega
  have npa:p≠acc:=fun e=>by rw[e,ha]at hp;cases hp
  have ha2:upd H' p (.tup [.int one.num,.int other.num,.str gd,.str why]) acc=some (.lst ys):=b9 hp _ _ ha
  refine⟨ys,ha2,Y4 (by omega),l8 (sm.trans (b9 hp)) hacc,_,b0,?_⟩
  have e:part one.num other.num why (gs.take (i+1))=part one.num other.num why (gs.take i)++[(one.num,other.num,gd,why)]:=by
   rw[aD3,hgd]
   simp only[part,aF8,aB2,aC1,aJ5]
  rw[e]
  have k1:u0 H' (upd (upd H' p (.tup [.int one.num,.int other.num,.str gd,.str why])) acc (.lst (ys++[.ref p]))):=(F9 hp).trans (p9 ha2)
  exact(hL.tupK k1).snoc ⟨p,rfl,by rw[b7 npa];exact b0⟩
 ·obtain⟨sm,ys,ha,hL⟩:=h
  rw[aA0,aE0]at hL
  exact q acc ys H' sm ha hL
inductive a3s(K:PySem.W.Frag)(vs:List V)(H:Hp)(Q:VK):Prop
 | mk (one other:Rec) (x y:V) (x0:vs=[x,y]) (x1:RecAt K H one x) (x2:RecAt K H other y) (x3:one.put.length≤63) (x4:one.looked.length≤63) (x5:other.put.length≤63) (x6:other.looked.length≤63) (xq:∀(r:Addr) (ys:List V) (ls:List Lk) (H':Hp),g6 H H'→H' r=some (.lst ys)→y6 H' ls ys→LB one other ls→Q (.ref r) H')
def a2x(K:PySem.W.Frag):Sp:=fun vs H Q _=>a3s K vs H Q
def Btw(H:Hp)(l:Addr)(ls:List Lk)(H':Hp):Prop:=g6 H H'∧∃ys,H' l=some (.lst ys)∧y6 H' ls ys
theorem Btw.grow{H H1 H2:Hp}{l r:Addr}{ls ms:List Lk}{ys:List V}(hl:H l=none)(b:Btw H l ls H1)(s:g6 H1 H2)(hr:H2 r=some (.lst ys))(hm:y6 H2 ms ys)(hz:ls.length+ms.length≤100000)(Q:Hp→Prop)(q:∀H3,Btw H l (ls++ms) H3→Q H3) :
  ∃l' b' xs zs,V.ref l=V.ref l'∧[V.ref r]=[V.ref b']∧H2 l'=some (.lst xs)∧H2 b'=some (.lst zs)∧xs.length+zs.length≤sizeLine∧Q (upd H2 l' (.lst (xs++zs))):=by
 obtain⟨s1,xs,h1,h2⟩:=b
 have e1:H2 l=some (.lst xs):=s _ _ h1
 refine⟨l,r,xs,ys,rfl,rfl,e1,hr,?_,q _ ⟨l8 (s1.trans s) hl,_,b0,?_⟩⟩
 ·rw[h2.len,hm.len,aF9];omega
 ·exact y6.append (hm.tupK (p9 e1)) ((h2.tupK s.tupK).tupK (p9 e1))
theorem a4f{c:Prop}(h:¬c)(as bs:List Str):Y2 c as bs []:=⟨by simp,fun x=>⟨fun z=>by simp at z,fun z=>absurd z.1 h⟩⟩
theorem a9h{c:Prop}(h:c){as bs gs:List Str}(n:gs.Nodup)(m:∀x,x∈gs↔x∈as∧x∈bs):Y2 c as bs gs:=⟨n,fun x=>⟨fun z=>⟨h,(m x).mp z⟩,fun z=>(m x).mpr z.2⟩⟩
theorem a1N(n m:Int)(why:Str):part n m why []=[]:=rfl
theorem a5c(T:A7 K mg t):g9 P w K mg base y9 2 t.f_links_between t.d_links_between ["one","other"] (a2x K):=by
 refine T.F_links_between.ok a0c (fun vs H Q E h=>?_) (fun cdv A outer s H vs Q E hr h=>?_)
 ·obtain⟨one,other,x,y,rfl,_⟩:=h
  rfl
 obtain⟨one,other,x,y,rfl,R1,R2,p1,k1,p2,k2,q⟩:=h
 obtain⟨b1,la1,pa1,rfl,t1,l1,u1⟩:=id R1
 obtain⟨b2,la2,pa2,rfl,t2,l2,u2⟩:=id R2
 refine⟨_,(b8 (g7 (i:=2) a0c.nd rfl (Or.inl rfl) (m7 b6))
 (b8 (L1 (k7 (f7 a3e (d9 i3 (pv 0) (v5 rfl T.m_ENDED T.r_ENDED) (fun _ _=>rfl)) (d9 i3 (pv 1) (v5 rfl T.m_ENDED T.r_ENDED) (fun _ _=>rfl)) (i6 _))
 (c9 (m6 (u6 aB1 aJ3 aK6 Y6 (pv 2) (a6 (j8 (g9.mono (k:=1) (a3d T) (by decide)) hr rfl T.m_links_for T.F_links_for.kp T.F_links_for.b .nil k8 (a6 (pv 0) (a6 (pv 1) (a6 (j8 (g9.mono (k:=1) (a5i T) (by decide)) hr rfl T.m_in_both T.F_in_both.kp T.F_in_both.b .nil k8 (a6 (d9 i3 (pv 0) (v5 rfl T.m_PUT T.r_PUT) (fun _ _=>rfl)) (a6 (d9 i3 (pv 1) (v5 rfl T.m_PUT T.r_PUT) (fun _ _=>rfl)) b6))) (a6 m5 b6))))) b6))))
 j0))
 (b8 (L1 (k7 (f7 a5L (d9 i3 (pv 0) (v5 rfl T.m_ENDED T.r_ENDED) (fun _ _=>rfl)) (d9 i3 (pv 1) (v5 rfl T.m_BEGAN T.r_BEGAN) (fun _ _=>rfl)) (i6 _))
 (c9 (m6 (u6 aB1 aJ3 aK6 Y6 (pv 2) (a6 (j8 (g9.mono (k:=1) (a3d T) (by decide)) hr rfl T.m_links_for T.F_links_for.kp T.F_links_for.b .nil k8 (a6 (pv 0) (a6 (pv 1) (a6 (j8 (g9.mono (k:=1) (a5i T) (by decide)) hr rfl T.m_in_both T.F_in_both.kp T.F_in_both.b .nil k8 (a6 (d9 i3 (pv 0) (v5 rfl T.m_PUT T.r_PUT) (fun _ _=>rfl)) (a6 (d9 i3 (pv 1) (v5 rfl T.m_LOOKED T.r_LOOKED) (fun _ _=>rfl)) b6))) (a6 m5 b6))))) b6))))
 j0))
 (b8 (L1 (k7 (f7 a0y (d9 i3 (pv 1) (v5 rfl T.m_ENDED T.r_ENDED) (fun _ _=>rfl)) (d9 i3 (pv 0) (v5 rfl T.m_BEGAN T.r_BEGAN) (fun _ _=>rfl)) (i6 _))
 (c9 (m6 (u6 aB1 aJ3 aK6 Y6 (pv 2) (a6 (j8 (g9.mono (k:=1) (a3d T) (by decide)) hr rfl T.m_links_for T.F_links_for.kp T.F_links_for.b .nil k8 (a6 (pv 0) (a6 (pv 1) (a6 (j8 (g9.mono (k:=1) (a5i T) (by decide)) hr rfl T.m_in_both T.F_in_both.kp T.F_in_both.b .nil k8 (a6 (d9 i3 (pv 0) (v5 rfl T.m_LOOKED T.r_LOOKED) (fun _ _=>rfl)) (a6 (d9 i3 (pv 1) (v5 rfl T.m_PUT T.r_PUT) (fun _ _=>rfl)) b6))) (a6 m5 b6))))) b6))))
 j0))
 (c9 (i4 (pv 2))))))),?_⟩
 refine⟨(n9 0),fun l hl=>?_⟩
 have B0:Btw H l [] (upd H l (.lst [])):=⟨b9 hl,[],b0,.nil⟩
 refine⟨fun σ' H'=>∃g1,σ'=[some (.ref b1),some (.ref b2),some (.ref l)]∧Btw H l (part one.num other.num "over" g1) H'∧Y2 (one.fin<other.fin) one.put other.put g1∧g1.length≤63,?_,?_⟩
 ·refine⟨_,rfl,b1,_,2,_,rfl,rfl,t1.same B0.1,rfl,_,rfl,b2,_,2,_,rfl,rfl,t2.same B0.1,rfl,_,_,rfl,rfl,_,rfl,?_⟩
  refine K4 (fun c=>?_) (fun c=>?_)
  ·have c':one.fin<other.fin:=aF4 c
   refine⟨_,rfl,.inl ⟨rfl,_,d7.of B0.2.choose_spec.1⟩,_,rfl,_,rfl,_,rfl,b1,_,4,_,rfl,rfl,t1.same B0.1,rfl,_,rfl,b2,_,4,_,rfl,rfl,t2.same B0.1,rfl,pa1,pa2,one.put,other.put,rfl,u1.same B0.1,u2.same B0.1,by omega,by omega,fun r rs Ha sa ha na ma=>?_⟩
   have lr:rs.length≤one.put.length:=u5 na fun x hx=>((ma x).mp hx).1
   refine⟨one,other,.ref b1,.ref b2,r,rs,_,rfl,(R1.same B0.1).same sa,(R2.same B0.1).same sa,d7.of ha,by omega,fun r2 ys Hb sb hb Lb=>?_⟩
   exact B0.grow hl (sa.trans sb) hb Lb (by simp[part];omega) _ fun H3 B3=>⟨rs,rfl,B3,a9h c' na ma,by omega⟩
  ·have c':¬one.fin<other.fin:=aG9 (aJ9.mpr c)
   exact⟨[],rfl,B0,a4f c' _ _,aG4 _⟩
 rintro σ1 H1 ⟨g1,rfl,B1,M1,z1⟩
 refine⟨fun σ' H'=>∃g2,σ'=[some (.ref b1),some (.ref b2),some (.ref l)]∧Btw H l (part one.num other.num "over" g1++part one.num other.num "saw" g2) H'∧Y2 (one.fin≤other.beg) one.put other.looked g2∧g2.length≤63,?_,?_⟩
 ·refine⟨_,rfl,b1,_,2,_,rfl,rfl,t1.same B1.1,rfl,_,rfl,b2,_,1,_,rfl,rfl,t2.same B1.1,rfl,_,_,rfl,rfl,_,rfl,?_⟩
  refine K4 (fun c=>?_) (fun c=>?_)
  ·have c':one.fin≤other.beg:=aF4 c
   refine⟨_,rfl,.inl ⟨rfl,_,d7.of B1.2.choose_spec.1⟩,_,rfl,_,rfl,_,rfl,b1,_,4,_,rfl,rfl,t1.same B1.1,rfl,_,rfl,b2,_,3,_,rfl,rfl,t2.same B1.1,rfl,pa1,la2,one.put,other.looked,rfl,u1.same B1.1,l2.same B1.1,by omega,by omega,fun r rs Ha sa ha na ma=>?_⟩
   have lr:rs.length≤one.put.length:=u5 na fun x hx=>((ma x).mp hx).1
   refine⟨one,other,.ref b1,.ref b2,r,rs,_,rfl,(R1.same B1.1).same sa,(R2.same B1.1).same sa,d7.of ha,by omega,fun r2 ys Hb sb hb Lb=>?_⟩
   exact B1.grow hl (sa.trans sb) hb Lb (by simp[part];omega) _ fun H3 B3=>⟨rs,rfl,B3,a9h c' na ma,by omega⟩
  ·have c':¬one.fin≤other.beg:=aG9 (aJ9.mpr c)
   exact⟨[],rfl,by rw[a1N,aH1];exact B1,a4f c' _ _,aG4 _⟩
 rintro σ2 H2 ⟨g2,rfl,B2,M2,z2⟩
 refine⟨fun σ' H'=>∃g3,σ'=[some (.ref b1),some (.ref b2),some (.ref l)]∧Btw H l (part one.num other.num "over" g1++part one.num other.num "saw" g2++part one.num other.num "missed" g3) H'∧Y2 (one.beg<other.fin) one.looked other.put g3,?_,?_⟩
 ·refine⟨_,rfl,b2,_,2,_,rfl,rfl,t2.same B2.1,rfl,_,rfl,b1,_,1,_,rfl,rfl,t1.same B2.1,rfl,_,_,rfl,rfl,_,rfl,?_⟩
  refine K4 (fun c=>?_) (fun c=>?_)
  ·have c':one.beg<other.fin:=aF4 c
   refine⟨_,rfl,.inl ⟨rfl,_,d7.of B2.2.choose_spec.1⟩,_,rfl,_,rfl,_,rfl,b1,_,3,_,rfl,rfl,t1.same B2.1,rfl,_,rfl,b2,_,4,_,rfl,rfl,t2.same B2.1,rfl,la1,pa2,one.looked,other.put,rfl,l1.same B2.1,u2.same B2.1,by omega,by omega,fun r rs Ha sa ha na ma=>?_⟩
   have lr:rs.length≤one.looked.length:=u5 na fun x hx=>((ma x).mp hx).1
   refine⟨one,other,.ref b1,.ref b2,r,rs,_,rfl,(R1.same B2.1).same sa,(R2.same B2.1).same sa,d7.of ha,by omega,fun r2 ys Hb sb hb Lb=>?_⟩
   exact B2.grow hl (sa.trans sb) hb Lb (by simp[part];omega) _ fun H3 B3=>⟨rs,rfl,B3,a9h c' na ma⟩
  ·have c':¬one.beg<other.fin:=aG9 (aJ9.mpr c)
   exact⟨[],rfl,by rw[a1N,aH1];exact B2,a4f c' _ _⟩
 rintro σ3 H3 ⟨g3,rfl,⟨s3,ys,h3,L3⟩,M3⟩
 exact⟨_,rfl,q l ys _ H3 s3 h3 L3 ⟨g1,g2,g3,rfl,M1,M2,M3⟩⟩
structure Dl where
 num:Int
 beg:Int
 looked:List Str
 aside:Am
abbrev F6:=List (Str×List (Int×Int))
structure j5 where
 begun:Nat
 under:List Dl
 vers:F6
 recs:List Rec
 links:List Lk
 row:List Int
def V5(ks:List Str):List (Key×V):=ks.map fun k=>(Sum.inr k,V.bl true)
def C3(ks:List Str)(g:Str):List Str:=if g∈ks then ks else ks++[g]
theorem b4v(ks:List Str)(g:Str):putK (V5 ks) (Sum.inr g) (V.bl true)=V5 (C3 ks g):=by
 unfold putK C3
 have e:(V5 ks).any (fun kv=>decide (kv.1=(Sum.inr g:Key)))=decide (g∈ks):=by
  unfold V5
  rw[aR6]
  induction ks with
  | nil=>rfl
  | cons k ks ih=>
   rw[aK5,ih]
   show(decide ((Sum.inr k:Key)=Sum.inr g)||_)=_
   rw[a1h]
   by_cases z:k=g
   ·subst z;simp
   ·have z':¬g=k:=fun w=>z w.symm
    simp[z,z']
 rw[e]
 by_cases c:g∈ks
 ·rw[aB0 (by simpa using c),aB0 c]
  unfold V5
  rw[aE3]
  refine aD9 fun k _=>?_
  show(if (Sum.inr k:Key)=Sum.inr g then _ else _)=_
  split<;>rfl
 ·rw[aA4 (by simpa using c),aA4 c]
  unfold V5
  rw[aB2];rfl
theorem b1v(ks:List Str):(V5 ks).length=ks.length:=aA0 _
theorem a7R(ks:List Str):((V5 ks).map fun q=>kV q.1)=ks.map V.str:=by unfold V5;rw[aE3];rfl
theorem a7g(m:Am):(z6 m).length=m.length:=aA0 _
theorem a3u(m:Am):((z6 m).map fun q=>kV q.1)=(m.map (·.1)).map V.str:=by unfold z6;rw[aE3,aE3];rfl
inductive Role where
 | free | tally | under | vers | recs | fz
 | deal (n:Int)
 | look (n:Int)
 | side (n:Int)
 | vl (g:Str)
 deriving DecidableEq
structure Gh where
 rl:Addr→Role
 dx:Addr
 U:Addr
 Vd:Addr
 R:Addr
 L:Addr
 W:Addr
 dp:Int→Addr
 dd:Int→Addr
 lk:Int→Addr
 as:Int→Addr
 vl:Str→Addr
def G8(b:Int)(U Vd R L W:Addr):List (Str×V):=[("begun",.int b),("under_way",.ref U),("versions",.ref Vd),("records",.ref R),("links",.ref L),("row",.ref W)]
def a5a(n b:Int)(lk as:Addr):List (Str×V):=[("number",.int n),("began",.int b),("looked",.ref lk),("aside",.ref as)]
structure a1Z(CD:Addr)(G:Gh)(H:Hp)(d:Dl):Prop where
 ob:H (G.dp d.num)=some (.ins CD (G.dd d.num) (a5a d.num d.beg (G.lk d.num) (G.as d.num)))
 lk:H (G.lk d.num)=some (.dK (V5 d.looked))
 as:H (G.as d.num)=some (.dK (z6 d.aside))
 r1:G.rl (G.dp d.num)=.deal d.num
 r2:G.rl (G.lk d.num)=.look d.num
 r3:G.rl (G.as d.num)=.side d.num
def VAt(H:Hp)(p:Int×Int)(x:V):Prop:=∃b,x=.ref b∧H b=some (.tup [.int p.1,.int p.2])
def RcAt(rl:Addr→Role)(H:Hp)(r:Rec)(x:V):Prop:=∃b la pa,x=.ref b∧H b=some (.tup [.int r.num,.int r.beg,.int r.fin,.ref la,.ref pa])∧H la=some (.lst (r.looked.map V.str))∧H pa=some (.lst (r.put.map V.str))∧rl la=.fz∧rl pa=.fz
theorem RcAt.rec{K:PySem.W.Frag}{rl:Addr→Role}{H:Hp}{r:Rec}{x:V}(h:RcAt rl H r x):RecAt K H r x:=
 let ⟨b,la,pa,e,h1,h2,h3,_⟩:=h;⟨b,la,pa,e,i5.of h1,d7.of h2,d7.of h3⟩
theorem a9t{K:PySem.W.Frag}{rl:Addr→Role}{H:Hp}:∀{rs:List Rec} {xs:List V},Paired (RcAt rl H) rs xs→p7 K H (rs.map rd) xs
 | _,_,.nil=>rfl
 | _,_,.cons h t=>⟨_,_,rfl,a6g.mpr h.rec,a9t t⟩
theorem a1k{K:PySem.W.Frag}{H:Hp}:∀{ps:List (Int×Int)} {xs:List V},Paired (VAt H) ps xs→p7 K H (ps.map pd) xs
 | _,_,.nil=>rfl
 | _,_,.cons ⟨b,e,h⟩ t=>⟨_,_,rfl,by subst e;exact b9y (i5.of h),a1k t⟩
theorem B9{H H':Hp}(k:u0 H H'){ps:List (Int×Int)}{xs:List V}(h:Paired (VAt H) ps xs):Paired (VAt H') ps xs:=Paired.mapP h fun _ _ ⟨b,e,h⟩=>⟨b,e,k.1 _ _ h⟩
structure TA(CT CD:Addr)(G:Gh)(H:Hp)(p:Addr)(st:j5):Prop where
 ob:H p=some (.ins CT G.dx (G8 (st.begun:Int) G.U G.Vd G.R G.L G.W))
 un:H G.U=some (.dK (l5 (st.under.map (·.num)) fun n=>.ref (G.dp n)))
 ve:H G.Vd=some (.dK (st.vers.map fun q=>((Sum.inr q.1:Key),V.ref (G.vl q.1))))
 rc:∃xs,H G.R=some (.lst xs)∧Paired (RcAt G.rl H) st.recs xs
 ln:∃xs,H G.L=some (.lst xs)∧y6 H st.links xs
 rw:H G.W=some (.lst (st.row.map V.int))
 dl:∀d∈st.under,a1Z CD G H d
 vl:∀q∈st.vers,∃xs,H (G.vl q.1)=some (.lst xs)∧Paired (VAt H) q.2 xs∧G.rl (G.vl q.1)=.vl q.1
 r0:G.rl p=.tally
 r1:G.rl G.U=.under
 r2:G.rl G.Vd=.vers
 r3:G.rl G.R=.recs
 r4:G.rl G.L=.fz
 r5:G.rl G.W=.fz
 nd:(st.under.map (·.num)).Nodup
 vd:(st.vers.map (·.1)).Nodup
 cl:∀b,H b=none→G.rl b=.free
theorem j7{H H':Hp}{b:Addr}(s:g6 H H')(h:H' b=none):H b=none:=by
 cases z:H b with
 | none=>rfl
 | some o=>rw[s _ _ z]at h;cases h
theorem p8{H:Hp}{a b:Addr}{o:HO}(h:upd H a o b=none):H b=none:=by
 by_cases c:b=a
 ·rw[c,b0]at h;cases h
 ·rw[b7 c]at h;exact h
structure Kp(G:Gh)(H:Hp)(G':Gh)(H':Hp):Prop where
 keep:∀b o,G.rl b=.free→H b=some o→H' b=some o
 tup:u0 H H'
 out:∀b o,G.rl b=.free→H b=some o→G'.rl b=.free
 dom:∀b,H' b=none→H b=none
theorem Kp.refl(G:Gh)(H:Hp):Kp G H G H:=⟨fun _ _ _ h=>h,u0.refl H,fun _ _ h _=>h,fun _ h=>h⟩
theorem Kp.trans{G G1 G2:Gh}{H H1 H2:Hp}(a:Kp G H G1 H1)(b:Kp G1 H1 G2 H2):Kp G H G2 H2:=
 ⟨fun c o f h=>b.keep c o (a.out c o f h) (a.keep c o f h),a.tup.trans b.tup,fun c o f h=>b.out c o (a.out c o f h) (a.keep c o f h),fun c h=>a.dom c (b.dom c h)⟩
theorem Kp.same{G:Gh}{H H':Hp}(s:g6 H H'):Kp G H G H':=⟨fun b o _ h=>s b o h,s.tupK,fun _ _ f _=>f,fun _ h=>j7 s h⟩
theorem RcAt.same{rl:Addr→Role}{H H':Hp}{r:Rec}{x:V}(s:g6 H H')(h:RcAt rl H r x):RcAt rl H' r x:=
 let ⟨b,la,pa,e,h1,h2,h3,h4,h5⟩:=h;⟨b,la,pa,e,s _ _ h1,s _ _ h2,s _ _ h3,h4,h5⟩
section
variable{CT CD p:Addr}{G:Gh}{H H':Hp}{st:j5}
theorem a1Z.same{d:Dl}(h:a1Z CD G H d)(s:g6 H H'):a1Z CD G H' d:=⟨s _ _ h.ob,s _ _ h.lk,s _ _ h.as,h.r1,h.r2,h.r3⟩
theorem TA.same(h:TA CT CD G H p st)(s:g6 H H'):TA CT CD G H' p st where
 ob:=s _ _ h.ob
 un:=s _ _ h.un
 ve:=s _ _ h.ve
 rc:=let ⟨xs,h1,h2⟩:=h.rc;⟨xs,s _ _ h1,Paired.mapP h2 fun _ _ z=>z.same s⟩
 ln:=let ⟨xs,h1,h2⟩:=h.ln;⟨xs,s _ _ h1,h2.tupK s.tupK⟩
 rw:=s _ _ h.rw
 dl:=fun d hd=>(h.dl d hd).same s
 vl:=fun q hq=>let ⟨xs,h1,h2,h3⟩:=h.vl q hq;⟨xs,s _ _ h1,B9 s.tupK h2,h3⟩
 r0:=h.r0
 r1:=h.r1
 r2:=h.r2
 r3:=h.r3
 r4:=h.r4
 r5:=h.r5
 nd:=h.nd
 vd:=h.vd
 cl:=fun b e=>h.cl b (j7 s e)
theorem P8{a b:Addr}{ρ σ:Role}(h:G.rl b=σ)(k:G.rl a=ρ)(n:σ≠ρ):b≠a:=fun z=>n (by rw[←h,←k,z])
theorem d8{a b:Addr}{o u:HO}{ρ σ:Role}(e:H b=some u)(h:G.rl b=σ)(k:G.rl a=ρ)(n:σ≠ρ):upd H a o b=some u:=by rw[b7 (P8 h k n)];exact e
theorem RcAt.upd{a:Addr}{o:HO}{ρ:Role}{r:Rec}{x:V}(h:RcAt G.rl H r x)(k:G.rl a=ρ)(n:Role.fz≠ρ)(t:u0 H (L2.upd H a o)):RcAt G.rl (L2.upd H a o) r x:=
 let ⟨b,la,pa,e,h1,h2,h3,h4,h5⟩:=h;⟨b,la,pa,e,t.1 _ _ h1,d8 h2 h4 k n,d8 h3 h5 k n,h4,h5⟩
theorem Kp.upd{a:Addr}{o:HO}(k:G.rl a≠.free)(t:u0 H (L2.upd H a o)):Kp G H G (L2.upd H a o):=
 ⟨fun b u f h=>by rw[b7 fun z=>k (by rw[←z];exact f)];exact h,t,fun _ _ f _=>f,fun _ h=>p8 h⟩
def C8(ds:List Dl)(n:Int)(f:Dl→Dl):List Dl:=ds.map fun d=>if d.num=n then f d else d
def S1(g:Str)(e:Dl):Dl:={ e with looked:=C3 e.looked g }
def S0(g:Str)(a:Int)(e:Dl):Dl:={ e with aside:=D9 e.aside g a }
theorem L5{ds:List Dl}{n:Int}{f:Dl→Dl}(hf:∀d,(f d).num=d.num):(C8 ds n f).map (·.num)=ds.map (·.num):=by
 unfold C8;rw[aE3]
 refine aD9 fun d _=>?_
 show(if d.num=n then f d else d).num=d.num
 split
 ·exact hf d
 ·rfl
theorem G7{ds:List Dl}(nd:(ds.map (·.num)).Nodup){d e:Dl}(hd:d∈ds)(he:e∈ds)(h:d.num=e.num):d=e:=by
 obtain⟨i,hi⟩:=aF1.mp hd
 obtain⟨j,hj⟩:=aF1.mp he
 have li:=(aA2.mp hi).1
 have:i=j:=(aJ8 (l:=ds.map (·.num)) (by rw[aA0];exact li) nd).mp (by rw[aB4,aB4,hi,hj];simp[h])
 subst this
 rw[hi]at hj;exact aD1 hj
theorem TA.setLook(h:TA CT CD G H p st){d:Dl}(hd:d∈st.under)(g:Str) :
  TA CT CD G (upd H (G.lk d.num) (.dK (V5 (C3 d.looked g)))) p { st with under:=C8 st.under d.num (S1 g) }∧Kp G H G (upd H (G.lk d.num) (.dK (V5 (C3 d.looked g)))):=by
 have D:=h.dl d hd
 have t:u0 H (upd H (G.lk d.num) (.dK (V5 (C3 d.looked g)))):=J8 D.lk
 refine⟨⟨d8 h.ob h.r0 D.r2 (by simp),?_,d8 h.ve h.r2 D.r2 (by simp),?_,?_,d8 h.rw h.r5 D.r2 (by simp),fun e he=>?_,fun q hq=>?_,h.r0,h.r1,h.r2,h.r3,h.r4,h.r5,?_,h.vd,fun b e=>h.cl b (p8 e)⟩,Kp.upd (by rw[D.r2];simp) t⟩
 ·show upd H _ _ _=some (.dK (l5 ((C8 st.under d.num _).map (·.num)) _))
  rw[L5 (f:=S1 g) fun _=>rfl]
  exact d8 h.un h.r1 D.r2 (by simp)
 ·obtain⟨xs,h1,h2⟩:=h.rc
  exact⟨xs,d8 h1 h.r3 D.r2 (by simp),Paired.mapP h2 fun _ _ z=>z.upd D.r2 (by simp) t⟩
 ·obtain⟨xs,h1,h2⟩:=h.ln
  exact⟨xs,d8 h1 h.r4 D.r2 (by simp),h2.tupK t⟩
 ·obtain⟨e',he',rfl⟩:=aA5.mp he
  have E:=h.dl e' he'
  by_cases c:e'.num=d.num
  ·have:e'=d:=G7 h.nd he' hd c
   subst this
   rw[aB0 rfl]
   exact⟨d8 E.ob E.r1 E.r2 (by simp),b0,d8 E.as E.r3 E.r2 (by simp),E.r1,E.r2,E.r3⟩
  ·rw[aA4 c]
   exact⟨d8 E.ob E.r1 D.r2 (by simp),d8 E.lk E.r2 D.r2 (by simpa using c),d8 E.as E.r3 D.r2 (by simp),E.r1,E.r2,E.r3⟩
 ·obtain⟨xs,h1,h2,h3⟩:=h.vl q hq
  exact⟨xs,d8 h1 h3 D.r2 (by simp),B9 t h2,h3⟩
 ·show((C8 st.under d.num _).map (·.num)).Nodup
  rw[L5 (f:=S1 g) fun _=>rfl];exact h.nd
theorem TA.setSide(h:TA CT CD G H p st){d:Dl}(hd:d∈st.under)(g:Str)(a:Int) :
  TA CT CD G (upd H (G.as d.num) (.dK (z6 (D9 d.aside g a)))) p { st with under:=C8 st.under d.num (S0 g a) }∧Kp G H G (upd H (G.as d.num) (.dK (z6 (D9 d.aside g a)))):=by
 have D:=h.dl d hd
 have t:u0 H (upd H (G.as d.num) (.dK (z6 (D9 d.aside g a)))):=J8 D.as
 refine⟨⟨d8 h.ob h.r0 D.r3 (by simp),?_,d8 h.ve h.r2 D.r3 (by simp),?_,?_,d8 h.rw h.r5 D.r3 (by simp),fun e he=>?_,fun q hq=>?_,h.r0,h.r1,h.r2,h.r3,h.r4,h.r5,?_,h.vd,fun b e=>h.cl b (p8 e)⟩,Kp.upd (by rw[D.r3];simp) t⟩
 ·show upd H _ _ _=some (.dK (l5 ((C8 st.under d.num _).map (·.num)) _))
  rw[L5 (f:=S0 g a) fun _=>rfl]
  exact d8 h.un h.r1 D.r3 (by simp)
 ·obtain⟨xs,h1,h2⟩:=h.rc
  exact⟨xs,d8 h1 h.r3 D.r3 (by simp),Paired.mapP h2 fun _ _ z=>z.upd D.r3 (by simp) t⟩
 ·obtain⟨xs,h1,h2⟩:=h.ln
  exact⟨xs,d8 h1 h.r4 D.r3 (by simp),h2.tupK t⟩
 ·obtain⟨e',he',rfl⟩:=aA5.mp he
  have E:=h.dl e' he'
  by_cases c:e'.num=d.num
  ·have:e'=d:=G7 h.nd he' hd c
   subst this
   rw[aB0 rfl]
   exact⟨d8 E.ob E.r1 E.r3 (by simp),d8 E.lk E.r2 E.r3 (by simp),b0,E.r1,E.r2,E.r3⟩
  ·rw[aA4 c]
   exact⟨d8 E.ob E.r1 D.r3 (by simp),d8 E.lk E.r2 D.r3 (by simp),d8 E.as E.r3 D.r3 (by simpa using c),E.r1,E.r2,E.r3⟩
 ·obtain⟨xs,h1,h2,h3⟩:=h.vl q hq
  exact⟨xs,d8 h1 h3 D.r3 (by simp),B9 t h2,h3⟩
 ·show((C8 st.under d.num _).map (·.num)).Nodup
  rw[L5 (f:=S0 g a) fun _=>rfl];exact h.nd
def N2(ds:List Dl)(n:Int):List Dl:=ds.filter fun d=>decide (d.num≠n)
theorem a0l(ks:List Int)(g:Int→V)(n:Int):J1 (l5 ks g) (Sum.inl n)=l5 (ks.filter fun k=>decide (k≠n)) g:=by
 unfold J1 l5
 rw[List.filter_map]
 congr 1
 refine List.filter_congr fun k _=>?_
 show decide ((Sum.inl k:Key)≠Sum.inl n)=decide (k≠n)
 by_cases e:k=n
 ·subst e;simp
 ·rw[aC6 e,aC6]
  exact fun z=>e (Sum.inl.inj z)
theorem W6(ds:List Dl)(n:Int):(N2 ds n).map (·.num)=(ds.map (·.num)).filter fun k=>decide (k≠n):=by
 unfold N2;rw[List.filter_map];rfl
theorem TA.drop(h:TA CT CD G H p st)(n:Int):TA CT CD G (upd H G.U (.dK (J1 (l5 (st.under.map (·.num)) fun n=>.ref (G.dp n)) (Sum.inl n)))) p { st with under:=N2 st.under n }∧Kp G H G (upd H G.U (.dK (J1 (l5 (st.under.map (·.num)) fun n=>.ref (G.dp n)) (Sum.inl n)))):=by
 have t:∀o,u0 H (upd H G.U o):=fun o=>J8 h.un
 refine⟨⟨d8 h.ob h.r0 h.r1 (by simp),?_,d8 h.ve h.r2 h.r1 (by simp),?_,?_,d8 h.rw h.r5 h.r1 (by simp),fun e he=>?_,fun q hq=>?_,h.r0,h.r1,h.r2,h.r3,h.r4,h.r5,?_,h.vd,fun b e=>h.cl b (p8 e)⟩,Kp.upd (by rw[h.r1];simp) (t _)⟩
 ·rw[b0,a0l]
  show some (HO.dK (l5 _ _))=some (HO.dK (l5 ((N2 st.under n).map (·.num)) _))
  rw[W6]
 ·obtain⟨xs,h1,h2⟩:=h.rc
  exact⟨xs,d8 h1 h.r3 h.r1 (by simp),Paired.mapP h2 fun _ _ z=>z.upd h.r1 (by simp) (t _)⟩
 ·obtain⟨xs,h1,h2⟩:=h.ln
  exact⟨xs,d8 h1 h.r4 h.r1 (by simp),h2.tupK (t _)⟩
 ·have E:=h.dl e (aD5.mp he).1
  exact⟨d8 E.ob E.r1 h.r1 (by simp),d8 E.lk E.r2 h.r1 (by simp),d8 E.as E.r3 h.r1 (by simp),E.r1,E.r2,E.r3⟩
 ·obtain⟨xs,h1,h2,h3⟩:=h.vl q hq
  exact⟨xs,d8 h1 h3 h.r1 (by simp),B9 (t _) h2,h3⟩
 ·show((N2 st.under n).map (·.num)).Nodup
  rw[W6];exact h.nd.filter _
end
def LWs(r:Rec)(rs:List Rec)(cs:List (List Lk)):Prop:=Paired (fun(o:Rec) (c:List Lk)=>∃l1 l2,c=l1++l2∧LB r o l1∧LB o r l2) rs cs
inductive a8B(K:PySem.W.Frag)(vs:List V)(H:Hp)(Q:VK):Prop
 | mk (r:Rec) (x:V) (a:Addr) (rs:List Rec) (xs:List V) (x0:vs=[x,.ref a]) (x1:RecAt K H r x) (x2:d7 K H a xs) (x3:p7 K H (rs.map rd) xs) (x4:rs.length≤150) (x5:(∀o∈r::rs,o.put.length≤63∧o.looked.length≤63)) (xq:∀(l:Addr) (ys:List V) (cs:List (List Lk)) (H':Hp),g6 H H'→H l=none→H' l=some (.lst ys)→y6 H' cs.flatten ys→LWs r rs cs→Q (.ref l) H')
def a9J(K:PySem.W.Frag):Sp:=fun vs H Q _=>a8B K vs H Q
theorem a2E{r:Rec}{rs:List Rec}{cs:List (List Lk)}(h:LWs r rs cs)(hb:∀o∈r::rs,o.put.length≤63∧o.looked.length≤63):cs.flatten.length≤600*rs.length:=by
 induction h with
 | nil=>simp
 | @cons o c rs cs z t ih=>
  obtain⟨l1,l2,rfl,b1,b2⟩:=z
  have h1:=b1.len
  have h2:=b2.len
  have r1:=hb r aD0
  have r2:=hb o (aC4 _ aD0)
  have:=ih fun q hq=>hb q (by rcases aB9.mp hq with e | e;exact e▸aD0;exact aC4 _ (aC4 _ e))
  rw[aK8,aA7,aA7,aF0]
  omega
theorem a9I(T:A7 K mg t):g9 P w K mg base y9 3 t.f_links_with t.d_links_with ["record","others"] (a9J K):=by
 refine T.F_links_with.ok Z0 (fun vs H Q E h=>?_) (fun cdv A outer s H vs Q E hr h=>?_)
 ·obtain⟨r,x,a,rs,xs,rfl,_⟩:=h
  rfl
 obtain⟨r,x,a,rs,xs,rfl,R1,hA,hR,z1,hb,q⟩:=h
 refine⟨_,(b8 (g7 (i:=2) Z0.nd rfl (Or.inl rfl) (m7 b6))
 (b8 (z9 aE4 rfl (q5 (pv 1)) (l4 (i:=3) Z0.nd rfl (Or.inl rfl))
 (b8 (m6 (u6 aB1 aJ3 aK6 Y6 (pv 2) (a6 (j8 (g9.mono (k:=2) (a5c T) (by decide)) hr rfl T.m_links_between T.F_links_between.kp T.F_links_between.b .nil k8 (a6 (pv 0) (a6 (pv 3) b6))) b6)))
 (c9 (m6 (u6 aB1 aJ3 aK6 Y6 (pv 2) (a6 (j8 (g9.mono (k:=2) (a5c T) (by decide)) hr rfl T.m_links_between T.F_links_between.kp T.F_links_between.b .nil k8 (a6 (pv 3) (a6 (pv 0) b6))) b6))))))
 (c9 (i4 (pv 2))))),?_⟩
 have lx:xs.length=rs.length:=by have:=hR.len;rw[aA0]at this;exact this.symm
 refine⟨(n9 0),fun l hl=>?_⟩
 refine⟨_,rfl,a,rfl,⟨_,hA.same (b9 hl)⟩,?_⟩
 refine B8 (xs:=xs) (fun i σ' H'=>∃(o3:Option V) (cs:List (List Lk)),σ'=[some x,some (.ref a),some (.ref l),o3]∧Btw H l cs.flatten H'∧LWs r (rs.take i) cs)
  ⟨none,[],rfl,⟨b9 hl,[],b0,.nil⟩,.nil⟩ (fun i σ' H' _ h=>?_) (fun i y σ' H' hy h=>?_) (fun σ' H' h=>?_)
 ·obtain⟨o3,cs,rfl,B,_⟩:=h
  exact hA.same B.1
 ·obtain⟨o3,cs,rfl,B,W⟩:=h
  obtain⟨o,ho,R2⟩:=b2s hR hy
  have hom:=aC5 ho
  have br:=hb r aD0
  have bo:=hb o (aC4 _ hom)
  have li:=(aA2.mp ho).1
  have lw:=a2E W fun q hq=>hb q (by rcases aB9.mp hq with e | e;exact e▸aD0;exact aC4 _ (List.mem_of_mem_take e))
  rw[aD6]at lw
  refine⟨_,rfl,.inl ⟨rfl,_,d7.of B.2.choose_spec.1⟩,_,rfl,_,rfl,r,o,x,y,rfl,R1.same B.1,R2.same B.1,br.1,br.2,bo.1,bo.2,fun r2 ys l1 H2 s2 h2 L2' b1=>?_⟩
  have z1':=b1.len
  refine B.grow hl s2 h2 L2' (by omega) _ fun H3 B3=>?_
  refine⟨_,rfl,.inl ⟨rfl,_,d7.of B3.2.choose_spec.1⟩,_,rfl,_,rfl,o,r,y,x,rfl,R2.same B3.1,R1.same B3.1,bo.1,bo.2,br.1,br.2,fun r3 zs l2 H4 s4 h4 L4 b2=>?_⟩
  have z2':=b2.len
  refine B3.grow hl s4 h4 L4 (by rw[aA7];omega) _ fun H5 B5=>?_
  have tk:rs.take (i+1)=rs.take i++[o]:=by rw[aD3,ho];rfl
  refine⟨_,cs++[l1++l2],rfl,?_,?_⟩
  ·rw[List.flatten_append,aK8,List.flatten_nil,aH1,←aG1];exact B5
  ·rw[tk];exact aK3 W ⟨l1,l2,rfl,b1,b2⟩
 ·obtain⟨o3,cs,rfl,B,W⟩:=h
  rw[lx,aE0]at W
  obtain⟨sm,ys,h1,h2⟩:=B
  exact⟨_,rfl,q l ys cs H' sm hl h1 h2 W⟩
inductive b2b(K:PySem.W.Frag)(vs:List V)(H:Hp)(Q:VK):Prop
 | mk (a:Addr) (n:Int) (zs:List V) (rg:List Lk) (j:Nat) (x0:vs=[.ref a,.int n]) (x1:H a=some (.lst zs)) (x2:y6 H rg zs) (x3:rg.length≤100000) (x4:(rg.map (·.1))[j]?=some n) (x5:(∀i,i<j→(rg.map (·.1))[i]?≠some n)) (xq:∀(l:Addr) (H':Hp),g6 H H'→H l=none→H' l=some (.lst (zs.drop j++zs.take j))→Q (.ref l) H')
def b6i(K:PySem.W.Frag):Sp:=fun vs H Q _=>b2b K vs H Q
theorem b7i(T:A7 K mg t):g9 P w K mg base y9 1 t.f_turned t.d_turned ["ring","number"] (b6i K):=by
 refine T.F_turned.ok a7I (fun vs H Q E h=>?_) (fun cdv A outer s H vs Q E hr h=>?_)
 ·obtain⟨a,n,zs,rg,j,rfl,_⟩:=h
  rfl
 obtain⟨a,n,zs,rg,j,rfl,ha,hL,z1,hj,hf,q⟩:=h
 refine⟨_,(b8 (g7 (i:=2) a7I.nd rfl (Or.inl rfl) (u6 aB1 PySem.F.slot_list_index PySem.F.type_list_index b3l (O8 rfl (q5 (pv 0)) (D5.mk (own:=["link"]) (tl:=["ring","number","place"]) rfl rfl rfl (fun _ _ _ _ _=>(l4 (i:=0) (a7T) rfl (Or.inl rfl))) (fun _ _ _ _ _=>T9) (fun _ _ _ _ _=>(d9 O3 (pv 0) (v5 rfl T.m_ONE T.r_ONE) (fun _ _=>rfl))))) (a6 (pv 1) b6)))
 (c9 (i4 (j6 U7 (P2 U0 (pv 0) (T6 (pv 2)) U1) (P2 U0 (pv 0) U1 (T6 (pv 2))))))),?_⟩
 have lz:=hL.len
 refine⟨_,rfl,a,rfl,⟨_,d7.of ha⟩,fun acc hacc=>?_⟩
 refine C0 (xs:=zs) (fun i H'=>g6 H H'∧H' acc=some (.lst (((rg.take i).map (·.1)).map V.int))) ⟨b9 hacc,b0⟩ (fun i H' _ h=>d7.of (h.1 _ _ ha)) (fun i x H' hx h=>?_) (fun H1 h=>?_)
 ·obtain⟨sm,h1⟩:=h
  obtain⟨l,hl,c,rfl,hc⟩:=hL.get hx
  have li:=(aA2.mp hl).1
  refine⟨_,rfl,c,_,0,_,rfl,rfl,i5.of (sm _ _ hc),rfl,_,h1,n4 (by rw[aA0,aA0,aD6];omega),l8 sm hacc,?_⟩
  rw[b0,aD3,hl,aF8,aB2,aB2];rfl
 obtain⟨s1,h1⟩:=h
 rw[lz,aE0]at h1
 have lj:=(aA2.mp hj).1
 rw[aA0]at lj
 refine⟨.inl ⟨rfl,_,d7.of h1⟩,_,rfl,acc,rg.map (·.1),n,j,rfl,rfl,h1,hj,hf,?_⟩
 refine⟨_,rfl,_,rfl,_,rfl,a,_,rfl,d7.of (s1 _ _ ha),fun c1 hc1=>?_⟩
 rw[a5k]
 have s2:=s1.trans (b9 (o:=.lst (zs.drop j)) hc1)
 refine⟨_,rfl,_,rfl,_,rfl,a,_,rfl,d7.of (s2 _ _ ha),fun c2 hc2=>?_⟩
 rw[a1Q]
 have t2:=b9 (o:=.lst (zs.take j)) hc2
 refine⟨c1,c2,_,_,rfl,rfl,t2 _ _ b0,b0,?_,fun c3 hc3=>?_⟩
 ·rw[aH7,aD6,aF9];omega
 have t3:=b9 (o:=.lst (zs.drop j++zs.take j)) hc3
 exact q c3 _ ((s2.trans t2).trans t3) (A9 (s2.trans t2) hc3) b0
inductive a1i(t:C5)(K:PySem.W.Frag)(vs:List V)(H:Hp)(Q:VK):Prop
 | mk (x dx:Addr) (n b:Int) (x0:vs=[.ref x,.int n,.int b]) (x1:H x=some (.ins t.C_Dealing dx [])) (xq:∀(lk as:Addr) (H':Hp),H lk=none→H as=none→lk≠as→H' x=some (.ins t.C_Dealing dx (a5a n b lk as))→H' lk=some (.dK [])→H' as=some (.dK [])→But x H H'→Q .non H')
def a3m(t:C5)(K:PySem.W.Frag):Sp:=fun vs H Q _=>a1i t K vs H Q
theorem a5m(T:A7 K mg t):g9 P w K mg base y9 1 t.f_Dealing___init__ t.d_Dealing___init__ ["self","number","began"] (a3m t K):=by
 refine T.F_Dealing___init__.ok a9l (fun vs H Q E h=>?_) (fun cdv A outer s H vs Q E hr h=>?_)
 ·obtain⟨x,dx,n,b,rfl,_⟩:=h
  rfl
 obtain⟨x,dx,n,b,rfl,hx,q⟩:=h
 refine⟨_,(b8 (N3 (pv 0) (pv 1) rfl)
 (b8 (N3 (pv 0) (pv 2) rfl)
 (b8 (N3 (pv 0) A8 rfl)
 (c9 (N3 (pv 0) A8 rfl))))),?_⟩
 refine⟨_,rfl,_,rfl,x,_,dx,_,rfl,hx,T.cl_Dealing,T.n_Dealing_number,(by show 0<1000;decide),?_⟩
 refine⟨_,rfl,_,rfl,x,_,dx,_,rfl,b0,T.cl_Dealing,T.n_Dealing_began,(by show 1<1000;decide),fun lk hlk=>?_⟩
 have nlk:lk≠x:=fun z=>by rw[z,b0]at hlk;cases hlk
 refine⟨_,rfl,x,_,dx,_,rfl,by rw[b7 (Ne.symm nlk)];exact b0,T.cl_Dealing,T.n_Dealing_looked,(by show 2<1000;decide),fun as has=>?_⟩
 have nas:as≠x:=fun z=>by rw[z,b0]at has;cases has
 have nal:as≠lk:=fun z=>by rw[z,b7 nlk,b0]at has;cases has
 refine⟨_,rfl,x,_,dx,_,rfl,by rw[b7 (Ne.symm nas)];exact b0,T.cl_Dealing,T.n_Dealing_aside,(by show 3<1000;decide),?_⟩
 refine q lk as _ (by rw[b7 nlk,b7 nlk]at hlk;exact hlk) (by rw[b7 nas,b7 nal,b7 nas,b7 nas]at has;exact has) (Ne.symm nal) b0 ?_ ?_ fun c o nc hc=>?_
 ·rw[b7 nlk,b7 (Ne.symm nal),b7 nlk];exact b0
 ·rw[b7 nas];exact b0
 ·have h1:lk≠c:=fun z=>by rw[z,b7 nc,b7 nc,hc]at hlk;cases hlk
  have h2:as≠c:=fun z=>by rw[z,b7 nc,b7 (Ne.symm h1),b7 nc,b7 nc,hc]at has;cases has
  rw[b7 nc,b7 (Ne.symm h2),b7 nc,b7 (Ne.symm h1),b7 nc,b7 nc];exact hc
def W3(ks:List Str):Prop:=(ks.map fun g=>[(Sum.inr g.cps.toList:Atom)]).Pairwise a2u.kle
inductive a4q(t:C5)(K:PySem.W.Frag)(vs:List V)(H:Hp)(Q:VK):Prop
 | mk (p dx lk as:Addr) (n b e:Int) (ks:List Str) (am:Am) (x0:vs=[.ref p,.int e]) (x1:H p=some (.ins t.C_Dealing dx (a5a n b lk as))) (x2:H lk=some (.dK (V5 ks))) (x3:H as=some (.dK (z6 am))) (x4:ks.length≤63) (x5:am.length≤63) (xq:∀(r la pa:Addr) (ys zs:List Str) (H':Hp),g6 H H'→H la=none→H pa=none→la≠pa→H' r=some (.tup [.int n,.int b,.int e,.ref la,.ref pa])→H' la=some (.lst (ys.map V.str))→H' pa=some (.lst (zs.map V.str))→ys.Perm ks→zs.Perm (am.map (·.1))→W3 ys→W3 zs→Q (.ref r) H')
def a6s(t:C5)(K:PySem.W.Frag):Sp:=fun vs H Q _=>a4q t K vs H Q
theorem a8r(T:A7 K mg t):g9 P w K mg base y9 1 t.f_Dealing_record t.d_Dealing_record ["self","ended"] (a6s t K):=by
 refine T.F_Dealing_record.ok a9r (fun vs H Q E h=>?_) (fun cdv A outer s H vs Q E hr h=>?_)
 ·obtain⟨p,dx,lk,as,n,b,e,ks,am,rfl,_⟩:=h
  rfl
 obtain⟨p,dx,lk,as,n,b,e,ks,am,rfl,hp,hlk,has,z1,z2,q⟩:=h
 refine⟨_,(c9 (i4 (v3 (a6 (t9 (pv 0) rfl) (a6 (t9 (pv 0) rfl) (a6 (pv 1) (a6 (e7 (S5 rfl) rfl T.m_sorted aR8 (a6 (t9 (pv 0) rfl) b6)) (a6 (e7 (S5 rfl) rfl T.m_sorted aR8 (a6 (t9 (pv 0) rfl) b6)) b6)))))))),?_⟩
 refine⟨_,rfl,p,_,dx,_,_,rfl,hp,T.cl_Dealing,T.n_Dealing_number,rfl,_,rfl,p,_,dx,_,_,rfl,hp,T.cl_Dealing,T.n_Dealing_began,rfl,_,rfl,_,rfl,p,_,dx,_,_,rfl,hp,T.cl_Dealing,T.n_Dealing_looked,rfl,lk,_,rfl,.inl hlk,?_,fun la ys' hla pm1 io1=>?_⟩
 ·rw[a7R];exact⟨by simp only[aA0];omega,fun x hx=>by obtain⟨z,_,rfl⟩:=aA5.mp hx;exact⟨z,rfl⟩⟩
 rw[a7R]at pm1
 obtain⟨ys,rfl,py⟩:=K1 pm1
 have s1:=b9 (o:=.lst (ys.map V.str)) hla
 refine⟨_,rfl,p,_,dx,_,_,rfl,s1 _ _ hp,T.cl_Dealing,T.n_Dealing_aside,rfl,as,_,rfl,.inl (s1 _ _ has),?_,fun pa zs' hpa pm2 io2=>?_⟩
 ·rw[a3u];exact⟨by simp only[aA0];omega,fun x hx=>by obtain⟨z,_,rfl⟩:=aA5.mp hx;exact⟨z,rfl⟩⟩
 rw[a3u]at pm2
 obtain⟨zs,rfl,pz⟩:=K1 pm2
 have s2:=b9 (o:=.lst (zs.map V.str)) hpa
 unfold O5 at io1 io2
 rw[aE3]at io1 io2
 refine⟨(n9 5),fun r hr0=>?_⟩
 have s3:=b9 (o:=.tup [.int n,.int b,.int e,.ref la,.ref pa]) hr0
 have ne:la≠pa:=d6 b0 hpa
 exact q r la pa ys zs _ ((s1.trans s2).trans s3) hla (A9 s1 hpa) ne b0 (s3 _ _ (s2 _ _ b0)) (s3 _ _ b0) py pz io1 io2
inductive a0x(t:C5)(K:PySem.W.Frag)(vs:List V)(H:Hp)(Q:VK):Prop
 | mk (p dx U Vd R L W:Addr) (b:Int) (xs:List V) (x0:vs=[.ref p]) (x1:H p=some (.ins t.C_Tally dx (G8 b U Vd R L W))) (x2:H R=some (.lst xs)) (xq:Q (.int (xs.length:Int)) H)
def a9A(t:C5)(K:PySem.W.Frag):Sp:=fun vs H Q _=>a0x t K vs H Q
theorem M0(T:A7 K mg t):g9 P w K mg base y9 1 t.f_Tally_moment t.d_Tally_moment ["self"] (a9A t K):=by
 refine T.F_Tally_moment.ok a1B (fun vs H Q E h=>?_) (fun cdv A outer s H vs Q E hr h=>?_)
 ·obtain⟨p,dx,U,Vd,R,L,W,b,xs,rfl,_⟩:=h
  rfl
 obtain⟨p,dx,U,Vd,R,L,W,b,xs,rfl,hp,hR,q⟩:=h
 refine⟨_,(c9 (i4 (e7 g8 rfl T.m_len aC2 (a6 (t9 (pv 0) rfl) b6)))),?_⟩
 exact⟨_,rfl,p,_,dx,_,_,rfl,hp,T.cl_Tally,T.n_Tally_records,rfl,R,xs,rfl,.inl (d7.of hR),q⟩
def Pst(t:C5)(G:Gh)(H:Hp)(p:Addr)(st:j5)(Q:Hp→Prop):Prop:=∀(G':Gh) (H':Hp),TA t.C_Tally t.C_Dealing G' H' p st→Kp G H G' H'→Q H'
theorem TA.gh{CT CD p:Addr}{G G':Gh}{H:Hp}{st:j5}(h:TA CT CD G H p st)(hr:∀b ρ,G.rl b=ρ→ρ≠.free→G'.rl b=ρ)(hc:∀b,H b=none→G'.rl b=.free)(e0:G'.dx=G.dx)(e1:G'.U=G.U)(e2:G'.Vd=G.Vd)(e3:G'.R=G.R)(e4:G'.L=G.L)(e5:G'.W=G.W)
  (ed:∀d∈st.under,G'.dp d.num=G.dp d.num∧G'.dd d.num=G.dd d.num∧G'.lk d.num=G.lk d.num∧G'.as d.num=G.as d.num) (ev:∀q∈st.vers,G'.vl q.1=G.vl q.1):TA CT CD G' H p st where
 ob:=by rw[e0,e1,e2,e3,e4,e5];exact h.ob
 un:=by
  rw[e1,h.un]
  congr 2
  refine X5 fun n hn=>?_
  obtain⟨d,hd,rfl⟩:=aA5.mp hn
  rw[(ed d hd).1]
 ve:=by
  rw[e2,h.ve]
  congr 2
  exact aD9 fun q hq=>by rw[ev q hq]
 rc:=by
  obtain⟨xs,h1,h2⟩:=h.rc
  refine⟨xs,by rw[e3];exact h1,Paired.mapP h2 fun _ _ ⟨b,la,pa,e,z1,z2,z3,z4,z5⟩=>⟨b,la,pa,e,z1,z2,z3,hr _ _ z4 (by simp),hr _ _ z5 (by simp)⟩⟩
 ln:=by rw[e4];exact h.ln
 rw:=by rw[e5];exact h.rw
 dl:=fun d hd=>by
  obtain⟨a1,a2,a3,a4⟩:=ed d hd
  have D:=h.dl d hd
  refine⟨by rw[a1,a2,a3,a4];exact D.ob,by rw[a3];exact D.lk,by rw[a4];exact D.as,by rw[a1];exact hr _ _ D.r1 (by simp),by rw[a3];exact hr _ _ D.r2 (by simp),by rw[a4];exact hr _ _ D.r3 (by simp)⟩
 vl:=fun q hq=>by
  obtain⟨xs,h1,h2,h3⟩:=h.vl q hq
  rw[ev q hq]
  exact⟨xs,h1,h2,hr _ _ h3 (by simp)⟩
 r0:=hr _ _ h.r0 (by simp)
 r1:=by rw[e1];exact hr _ _ h.r1 (by simp)
 r2:=by rw[e2];exact hr _ _ h.r2 (by simp)
 r3:=by rw[e3];exact hr _ _ h.r3 (by simp)
 r4:=by rw[e4];exact hr _ _ h.r4 (by simp)
 r5:=by rw[e5];exact hr _ _ h.r5 (by simp)
 nd:=h.nd
 vd:=h.vd
 cl:=hc
theorem a4S{H:Hp}{a:Addr}{o:HO}{C dx:Addr}{fs:List (Str×V)}(h:H a=some (.ins C dx fs)):u0 H (upd H a o):=
 ⟨fun b xs e=>by rw[b7 (a9x e h (by intro z;cases z))];exact e,fun b o xs e=>by rw[b7 (a9x e h (by intro z;cases z))];exact e⟩
section
variable{CT CD p:Addr}{G:Gh}{H:Hp}{st:j5}
theorem TA.setObj(h:TA CT CD G H p st){b:Nat}{L W:Addr}{ls:List Lk}{row:List Int}(hl:∃xs,H L=some (.lst xs)∧y6 H ls xs)(hw:H W=some (.lst (row.map V.int)))(rL:G.rl L=.fz)(rW:G.rl W=.fz) :
  TA CT CD { G with L:=L,W:=W } (upd H p (.ins CT G.dx (G8 (b:Int) G.U G.Vd G.R L W))) p { st with begun:=b,links:=ls,row:=row }∧Kp G H { G with L:=L,W:=W } (upd H p (.ins CT G.dx (G8 (b:Int) G.U G.Vd G.R L W))):=by
 have t:u0 H (upd H p (.ins CT G.dx (G8 (b:Int) G.U G.Vd G.R L W))):=a4S h.ob
 refine⟨⟨b0,d8 h.un h.r1 h.r0 (by simp),d8 h.ve h.r2 h.r0 (by simp),?_,?_,d8 hw rW h.r0 (by simp),fun e he=>?_,fun q hq=>?_,h.r0,h.r1,h.r2,h.r3,rL,rW,h.nd,h.vd,fun b e=>h.cl b (p8 e)⟩,⟨fun c o f e=>by rw[b7 fun z=>by rw[z,h.r0]at f;cases f];exact e,t,fun _ _ f _=>f,fun _ e=>p8 e⟩⟩
 ·obtain⟨xs,h1,h2⟩:=h.rc
  exact⟨xs,d8 h1 h.r3 h.r0 (by simp),Paired.mapP h2 fun _ _ z=>z.upd h.r0 (by simp) t⟩
 ·obtain⟨xs,h1,h2⟩:=hl
  exact⟨xs,d8 h1 rL h.r0 (by simp),h2.tupK t⟩
 ·have E:=h.dl e he
  exact⟨d8 E.ob E.r1 h.r0 (by simp),d8 E.lk E.r2 h.r0 (by simp),d8 E.as E.r3 h.r0 (by simp),E.r1,E.r2,E.r3⟩
 ·obtain⟨xs,h1,h2,h3⟩:=h.vl q hq
  exact⟨xs,d8 h1 h3 h.r0 (by simp),B9 t h2,h3⟩
def J6(G:Gh)(n:Int)(x dx lk as:Addr):Gh:={ G with
 rl:=fun b=>if b=x then .deal n else if b=lk then .look n else if b=as then .side n else G.rl b
 dp:=fun m=>if m=n then x else G.dp m
 dd:=fun m=>if m=n then dx else G.dd m
 lk:=fun m=>if m=n then lk else G.lk m
 as:=fun m=>if m=n then as else G.as m }
theorem TA.addD(h:TA CT CD G H p st){n b:Int}{x dx lk as:Addr}{H1:Hp}(hn:∀d∈st.under,d.num≠n)(s:g6 H H1)(hx:H x=none)(hlk:H lk=none)(has:H as=none)(nl:x≠lk)(na:x≠as)(nla:lk≠as)
  (h1:H1 x=some (.ins CD dx (a5a n b lk as))) (h2:H1 lk=some (.dK [])) (h3:H1 as=some (.dK [])) :
  TA CT CD (J6 G n x dx lk as) (upd H1 G.U (.dK (putK (l5 (st.under.map (·.num)) fun n=>.ref (G.dp n)) (Sum.inl n) (.ref x)))) p { st with under:=st.under++[⟨n,b,[],[]⟩] }∧Kp G H (J6 G n x dx lk as) (upd H1 G.U (.dK (putK (l5 (st.under.map (·.num)) fun n=>.ref (G.dp n)) (Sum.inl n) (.ref x)))):=by
 have old:∀c o,H c=some o→c≠x∧c≠lk∧c≠as:=fun c o e=>⟨d6 e hx,d6 e hlk,d6 e has⟩
 have rl_old:∀c o,H c=some o→(J6 G n x dx lk as).rl c=G.rl c:=fun c o e=>by
  obtain⟨a1,a2,a3⟩:=old c o e
  show(if c=x then _ else if c=lk then _ else if c=as then _ else _)=_
  rw[aA4 a1,aA4 a2,aA4 a3]
 have nin:n∉st.under.map (·.num):=fun z=>by obtain⟨d,hd,e⟩:=aA5.mp z;exact hn d hd e
 have fx:=h.cl x hx
 have fk:=h.cl lk hlk
 have fa:=h.cl as has
 have hG1:TA CT CD (J6 G n x dx lk as) H1 p st:=(h.same s).gh (fun c ρ e ne=>by
  show(if c=x then _ else if c=lk then _ else if c=as then _ else _)=_
  rw[aA4 fun z=>ne (by rw[←e,z,fx]),aA4 fun z=>ne (by rw[←e,z,fk]),aA4 fun z=>ne (by rw[←e,z,fa])]
  exact e) (fun c e=>by
  show(if c=x then _ else if c=lk then _ else if c=as then _ else _)=_
  rw[aA4 (fun z=>by rw[z,h1]at e;cases e),aA4 (fun z=>by rw[z,h2]at e;cases e),aA4 (fun z=>by rw[z,h3]at e;cases e)]
  exact h.cl c (j7 s e)) rfl rfl rfl rfl rfl rfl (fun d hd=>by
  have:=hn d hd
  exact⟨aA4 this,aA4 this,aA4 this,aA4 this⟩) fun _ _=>rfl
 have rx:(J6 G n x dx lk as).rl x=.deal n:=aB0 rfl
 have rk:(J6 G n x dx lk as).rl lk=.look n:=by
  show(if lk=x then _ else if lk=lk then _ else _)=_
  rw[aA4 (Ne.symm nl),aB0 rfl]
 have ra:(J6 G n x dx lk as).rl as=.side n:=by
  show(if as=x then _ else if as=lk then _ else if as=as then _ else _)=_
  rw[aA4 (Ne.symm na),aA4 (Ne.symm nla),aB0 rfl]
 have t:∀o,u0 H1 (upd H1 G.U o):=fun o=>J8 hG1.un
 have rU:(J6 G n x dx lk as).rl G.U=.under:=hG1.r1
 refine⟨⟨d8 hG1.ob hG1.r0 rU (by simp),?_,d8 hG1.ve hG1.r2 rU (by simp),?_,?_,d8 hG1.rw hG1.r5 rU (by simp),fun e he=>?_,fun q hq=>?_,hG1.r0,hG1.r1,hG1.r2,hG1.r3,hG1.r4,hG1.r5,?_,hG1.vd,fun b e=>hG1.cl b (p8 e)⟩,⟨fun c o f e=>?_,s.tupK.trans (t _),fun c o f e=>by rw[rl_old c o e];exact f,fun c e=>j7 s (p8 e)⟩⟩
 ·show upd H1 G.U _ G.U=_
  rw[b0,J9,aA4 nin]
  congr 2
  show _=l5 ((st.under++([⟨n,b,[],[]⟩]:List Dl)).map (·.num)) _
  rw[aB2]
  refine X5 fun m _=>?_
  show X1 _ n (.ref x) m=V.ref (if m=n then x else G.dp m)
  unfold X1
  split<;>rfl
 ·obtain⟨xs,z1,z2⟩:=hG1.rc
  exact⟨xs,d8 z1 hG1.r3 rU (by simp),Paired.mapP z2 fun _ _ z=>z.upd rU (by simp) (t _)⟩
 ·obtain⟨xs,z1,z2⟩:=hG1.ln
  exact⟨xs,d8 z1 hG1.r4 rU (by simp),z2.tupK (t _)⟩
 ·rcases aA8.mp he with he | he
  ·have E:=hG1.dl e he
   exact⟨d8 E.ob E.r1 rU (by simp),d8 E.lk E.r2 rU (by simp),d8 E.as E.r3 rU (by simp),E.r1,E.r2,E.r3⟩
  ·rw[aA3.mp he]
   have e1:(J6 G n x dx lk as).dp n=x:=aB0 rfl
   have e2:(J6 G n x dx lk as).dd n=dx:=aB0 rfl
   have e3:(J6 G n x dx lk as).lk n=lk:=aB0 rfl
   have e4:(J6 G n x dx lk as).as n=as:=aB0 rfl
   exact⟨by show upd H1 G.U _ ((J6 G n x dx lk as).dp n)=some (.ins CD ((J6 G n x dx lk as).dd n) (a5a n b ((J6 G n x dx lk as).lk n) ((J6 G n x dx lk as).as n)));rw[e1,e2,e3,e4];exact d8 h1 rx rU (by simp),by show upd H1 G.U _ ((J6 G n x dx lk as).lk n)=_;rw[e3];exact d8 h2 rk rU (by simp),by show upd H1 G.U _ ((J6 G n x dx lk as).as n)=_;rw[e4];exact d8 h3 ra rU (by simp),by show(J6 G n x dx lk as).rl ((J6 G n x dx lk as).dp n)=_;rw[e1];exact rx,by show(J6 G n x dx lk as).rl ((J6 G n x dx lk as).lk n)=_;rw[e3];exact rk,by show(J6 G n x dx lk as).rl ((J6 G n x dx lk as).as n)=_;rw[e4];exact ra⟩
 ·obtain⟨xs,z1,z2,z3⟩:=hG1.vl q hq
  exact⟨xs,d8 z1 z3 rU (by simp),B9 (t _) z2,z3⟩
 ·show((st.under++([⟨n,b,[],[]⟩]:List Dl)).map (·.num)).Nodup
  rw[aB2,aC3]
  refine⟨hG1.nd,by simp,fun m hm k hk e=>nin ?_⟩
  have:k=n:=by simpa using hk
  rw[←this,←e];exact hm
 ·rw[b7 fun z=>by rw[z,h.r1]at f;cases f];exact s _ _ e
end
def a2A(st:j5):j5:={ st with begun:=st.begun+1,under:=st.under++([⟨(st.begun:Int),(st.recs.length:Int),[],[]⟩]:List Dl) }
inductive a6z(t:C5)(K:PySem.W.Frag)(vs:List V)(H:Hp)(Q:VK):Prop
 | mk (G:Gh) (p:Addr) (st:j5) (x0:vs=[.ref p]) (x1:TA t.C_Tally t.C_Dealing G H p st) (x2:(∀d∈st.under,d.num≠(st.begun:Int))) (x3:st.under.length≤1000) (xq:Pst t G H p (a2A st) fun H'=>Q (.int (st.begun:Int)) H')
def a5D(t:C5)(K:PySem.W.Frag):Sp:=fun vs H Q _=>a6z t K vs H Q
theorem a2F(T:A7 K mg t):g9 P w K mg base y9 3 t.f_Tally_begin t.d_Tally_begin ["self"] (a5D t K):=by
 refine T.F_Tally_begin.ok a5h (fun vs H Q E h=>?_) (fun cdv A outer s H vs Q E hr h=>?_)
 ·obtain⟨G,p,st,rfl,_⟩:=h
  rfl
 obtain⟨G,p,st,rfl,h,hn,hz,q⟩:=h
 have hu:=M7 hr
 refine⟨_,(b8 (g7 (i:=1) a5h.nd rfl (Or.inl rfl) (t9 (pv 0) rfl))
 (b8 (N3 (pv 0) (j6 F7 (pv 1) d5) rfl)
 (b8 (C2 hu (t9 (pv 0) rfl) (pv 1) (b0v T.K_Dealing (g9.mono (k:=1) (a5m T) (by decide)) hr rfl T.mg_Dealing T.F_Dealing___init__.b .nil k8 (a6 (pv 1) (a6 (P1 (pv 0) T.cl_Tally T.M_Tally_moment (g9.mono (k:=2) (M0 T) (by decide)) hr T.F_Tally_moment.b .nil k8) b6))) rfl)
 (c9 (i4 (pv 1)))))),?_⟩
 refine⟨_,rfl,p,_,_,_,_,rfl,h.ob,T.cl_Tally,T.n_Tally_begun,rfl,?_⟩
 refine⟨_,rfl,_,_,rfl,rfl,_,rfl,p,_,_,_,rfl,h.ob,T.cl_Tally,T.n_Tally_begun,(by show 6<1000;decide),?_⟩
 obtain⟨h1,k1⟩:=h.setObj (b:=st.begun+1) h.ln h.rw h.r4 h.r5
 have e1:N1 "begun" (.int ((st.begun:Int)+1)) (G8 (st.begun:Int) G.U G.Vd G.R G.L G.W)=G8 ((st.begun+1:Nat):Int) G.U G.Vd G.R G.L G.W:=rfl
 rw[e1]
 generalize upd H p (.ins t.C_Tally G.dx (G8 ((st.begun+1:Nat):Int) G.U G.Vd G.R G.L G.W))=H1 at h1 k1 ⊢
 obtain⟨xs,hR,pR⟩:=h1.rc
 have lR:=n6 pR
 refine⟨_,rfl,_,rfl,p,_,_,rfl,h1.ob,rfl,p,_,_,_,_,_,_,_,xs,rfl,h1.ob,hR,?_⟩
 intro x dx nx ndx nxd
 have s0:g6 H1 (upd (upd H1 dx (.own x)) x (.ins t.C_Dealing dx [])):=l8 (b9 ndx) nx
 refine⟨x,dx,_,_,rfl,b0,fun lk as H2 nlk nas nla hx hlk has bt=>⟨rfl,?_⟩⟩
 have nx0:∀{c:Addr},(upd (upd H1 dx (.own x)) x (.ins t.C_Dealing dx [])) c=none→H1 c=none∧x≠c:=fun {c} e=>⟨A9 s0 e,fun z=>by rw[←z,b0]at e;cases e⟩
 have s1:g6 H1 H2:=fun c o e=>bt c o (d6 e nx) (s0 c o e)
 have h2:=h1.same s1
 refine⟨_,rfl,p,_,_,_,_,rfl,h2.ob,T.cl_Tally,T.n_Tally_under_way,rfl,_,rfl,G.U,_,rfl,J5.k (k:=Sum.inl (st.begun:Int)) h2.un (n4 (by rw[G9,aA0];show st.under.length≤_;omega)),?_⟩
 obtain⟨h3,k3⟩:=h1.addD (n:=(st.begun:Int)) (b:=(xs.length:Int)) hn s1 nx (nx0 nlk).1 (nx0 nas).1 (nx0 nlk).2 (nx0 nas).2 nla hx hlk has
 refine⟨_,rfl,q _ _ ?_ (k1.trans k3)⟩
 have e2:(xs.length:Int)=(st.recs.length:Int):=by rw[lR]
 rw[e2]at h3
 exact h3
def t8(v:F6)(g:Str):List (Int×Int):=((v.find? fun q=>decide (q.1=g)).map (·.2)).getD []
theorem a7b(v:F6)(f:Str→V)(g:Str):A4 (v.map fun q=>((Sum.inr q.1:Key),f q.1)) (Sum.inr g)=if g∈v.map (·.1) then some (f g) else none:=by
 unfold A4
 induction v with
 | nil=>rfl
 | cons q v ih=>
  rw[aC1,aH6,a1h,aC1]
  by_cases e:q.1=g
  ·subst e;simp
  ·rw[aB7 e]
   have:(g∈q.1::v.map (·.1))↔g∈v.map (·.1):=by
    rw[aB9];exact⟨fun z=>z.elim (fun w=>absurd w.symm e) id,.inr⟩
   simp only[this];exact ih
theorem W9{v:F6}(nd:(v.map (·.1)).Nodup){q:Str×List (Int×Int)}(h:q∈v):t8 v q.1=q.2:=by
 unfold t8
 induction v with
 | nil=>exact nomatch h
 | cons a v ih=>
  rw[aC1,aG7]at nd
  rw[aH6]
  rcases aB9.mp h with e | h'
  ·subst e;rw[aC6 rfl];rfl
  ·have ne:¬a.1=q.1:=fun z=>nd.1 (by rw[z];exact aA5.mpr ⟨q,h',rfl⟩)
   rw[aB7 ne]
   exact ih nd.2 h'
theorem a8o{v:F6}{g:Str}(h:g∉v.map (·.1)):t8 v g=[]:=by
 unfold t8
 rw[aN0.mpr fun q hq=>by simpa using fun z=>h (aA5.mpr ⟨q,hq,z⟩)];rfl
def b5b(st:j5)(n:Int)(g:Str):j5:={ st with under:=C8 st.under n (S1 g) }
inductive a6B(t:C5)(K:PySem.W.Frag)(vs:List V)(H:Hp)(Q:VK):Prop
 | mk (G:Gh) (p:Addr) (st:j5) (d:Dl) (g:Str) (x0:vs=[.ref p,.int d.num,.str g]) (x1:TA t.C_Tally t.C_Dealing G H p st) (x2:d∈st.under) (x3:d.looked.length≤1000) (x4:(∀q∈st.vers,q.2.length≤100000)) (x5:(∀a,t6 d.aside g=some a→Q (.int a) H)) (xq:(t6 d.aside g=none→Pst t G H p (b5b st d.num g) fun H'=>Q (.int (valueAt (t8 st.vers g) d.beg)) H'))
def a2K(t:C5)(K:PySem.W.Frag):Sp:=fun vs H Q _=>a6B t K vs H Q
theorem a8I(T:A7 K mg t):g9 P w K mg base y9 3 t.f_Tally_look t.d_Tally_look ["self","number","good"] (a2K t K):=by
 refine T.F_Tally_look.ok a4l (fun vs H Q E h=>?_) (fun cdv A outer s H vs Q E hr h=>?_)
 ·obtain⟨G,p,st,d,g,rfl,_⟩:=h
  rfl
 obtain⟨G,p,st,d,g,rfl,h,hd,hz,hv,q1,q2⟩:=h
 have hu:=M7 hr
 refine⟨_,(b8 (g7 (i:=3) a4l.nd rfl (Or.inl rfl) (u3 hu (t9 (pv 0) rfl) (pv 1) (fun _ _=>rfl)))
 (b8 (k7 (f7 (a4j hu) (pv 2) (t9 (pv 3) rfl) (by with_unfolding_all rfl))
 (c9 (i4 (u3 hu (t9 (pv 3) rfl) (pv 2) (fun _ _=>rfl))))
 j0)
 (b8 (C2 hu (t9 (pv 3) rfl) (pv 2) A1 rfl)
 (c9 (i4 (j8 (g9.mono (k:=2) (a7t T) (by decide)) hr rfl T.m_value_at T.F_value_at.kp T.F_value_at.b .nil k8 (a6 (a9k hu (t9 (pv 0) rfl) (pv 2) (m7 b6) ⟨rfl,rfl,rfl,rfl⟩) (a6 (t9 (pv 3) rfl) b6)))))))),?_⟩
 have D:=h.dl d hd
 have dg:=t7.k (k:=Sum.inl d.num) h.un
 rw[m9,aB0 (aA5.mpr ⟨d,hd,rfl⟩)]at dg
 refine⟨_,rfl,p,_,_,_,_,rfl,h.ob,T.cl_Tally,T.n_Tally_under_way,rfl,_,rfl,G.U,_,rfl,dg,?_⟩
 have ds:=t7.k (k:=Sum.inr g) D.as
 rw[V9]at ds
 refine⟨_,rfl,_,rfl,G.dp d.num,_,_,_,_,rfl,D.ob,T.cl_Dealing,T.n_Dealing_aside,rfl,G.as d.num,_,rfl,ds,_,rfl,?_⟩
 cases hg:t6 d.aside g with
 | some a=>
  refine l6 ?_
  rw[hg]at ds
  exact⟨_,rfl,G.dp d.num,_,_,_,_,rfl,D.ob,T.cl_Dealing,T.n_Dealing_aside,rfl,_,rfl,G.as d.num,_,rfl,ds,q1 a hg⟩
 | none=>
  refine f6 ?_
  refine⟨_,rfl,G.dp d.num,_,_,_,_,rfl,D.ob,T.cl_Dealing,T.n_Dealing_looked,rfl,_,rfl,G.lk d.num,_,rfl,J5.k (k:=Sum.inr g) D.lk (n4 (by rw[b1v];omega)),?_⟩
  rw[b4v]
  obtain⟨h1,k1⟩:=h.setLook hd g
  have ob1:(upd H (G.lk d.num) (.dK (V5 (C3 d.looked g)))) (G.dp d.num)=some (.ins t.C_Dealing (G.dd d.num) (a5a d.num d.beg (G.lk d.num) (G.as d.num))):=d8 D.ob D.r1 D.r2 (by simp)
  have hv1:(upd H (G.lk d.num) (.dK (V5 (C3 d.looked g)))) G.Vd=some (.dK (st.vers.map fun q=>((Sum.inr q.1:Key),V.ref (G.vl q.1)))):=h1.ve
  have vl1:∀q∈st.vers,∃xs,(upd H (G.lk d.num) (.dK (V5 (C3 d.looked g)))) (G.vl q.1)=some (.lst xs)∧Paired (VAt (upd H (G.lk d.num) (.dK (V5 (C3 d.looked g))))) q.2 xs:=fun q hq=>let ⟨xs,a,b,_⟩:=h1.vl q hq;⟨xs,a,b⟩
  have q2:=q2 hg
  generalize upd H (G.lk d.num) (.dK (V5 (C3 d.looked g)))=H1 at h1 k1 ob1 hv1 vl1 ⊢
  have dv:=fun(Hx:Hp) (hx:Hx G.Vd=_)=>t7.k (k:=Sum.inr g) (kvs:=st.vers.map fun q=>((Sum.inr q.1:Key),V.ref (G.vl q.1))) hx
  refine⟨_,rfl,p,_,_,_,_,rfl,h1.ob,T.cl_Tally,T.n_Tally_versions,rfl,G.Vd,rfl,.inl ⟨_,.inl hv1⟩,_,rfl,(n9 0),fun e he=>?_⟩
  have s2:=b9 (o:=.lst []) he
  have dv2:=dv _ (s2 _ _ hv1)
  rw[a7b st.vers (fun g=>V.ref (G.vl g))]at dv2
  have fin:=fun(H3:Hp) (s3:g6 (upd H1 e (.lst [])) H3)=>q2 G H3 (h1.same (s2.trans s3)) (k1.trans (Kp.same (s2.trans s3)))
  by_cases c:g∈st.vers.map (·.1)
  ·rw[aB0 c]at dv2
   obtain⟨qq,hqq,rfl⟩:=aA5.mp c
   obtain⟨xs,x1,x2⟩:=vl1 qq hqq
   refine⟨_,dv2,_,rfl,G.dp d.num,_,_,_,_,rfl,s2 _ _ ob1,T.cl_Dealing,T.n_Dealing_began,rfl,G.vl qq.1,qq.2,d.beg,rfl,⟨xs,d7.of (s2 _ _ x1),a1k (B9 s2.tupK x2)⟩,hv qq hqq,fun H3 s3=>?_⟩
   have:=fin H3 s3
   rw[W9 h.vd hqq]at this
   exact this
  ·rw[aA4 c]at dv2
   refine⟨_,dv2,_,rfl,G.dp d.num,_,_,_,_,rfl,s2 _ _ ob1,T.cl_Dealing,T.n_Dealing_began,rfl,e,[],d.beg,rfl,⟨[],d7.of b0,rfl⟩,by simp,fun H3 s3=>?_⟩
   have:=fin H3 s3
   rw[a8o c]at this
   exact this
def putSt(st:j5)(n:Int)(g:Str)(a:Int):j5:={ st with under:=C8 st.under n (S0 g a) }
inductive a0K(t:C5)(K:PySem.W.Frag)(vs:List V)(H:Hp)(Q:VK):Prop
 | mk (G:Gh) (p:Addr) (st:j5) (d:Dl) (g:Str) (a:Int) (x0:vs=[.ref p,.int d.num,.str g,.int a]) (x1:TA t.C_Tally t.C_Dealing G H p st) (x2:d∈st.under) (x3:d.aside.length≤1000) (xq:Pst t G H p (putSt st d.num g a) fun H'=>Q .non H')
def a3O(t:C5)(K:PySem.W.Frag):Sp:=fun vs H Q _=>a0K t K vs H Q
theorem a2N(T:A7 K mg t):g9 P w K mg base y9 1 t.f_Tally_put t.d_Tally_put ["self","number","good","amount"] (a3O t K):=by
 refine T.F_Tally_put.ok a5o (fun vs H Q E h=>?_) (fun cdv A outer s H vs Q E hr h=>?_)
 ·obtain⟨G,p,st,d,g,a,rfl,_⟩:=h
  rfl
 obtain⟨G,p,st,d,g,a,rfl,h,hd,hz,q⟩:=h
 have hu:=M7 hr
 refine⟨_,(b8 (g7 (i:=4) a5o.nd rfl (Or.inl rfl) (u3 hu (t9 (pv 0) rfl) (pv 1) (fun _ _=>rfl)))
 (c9 (C2 hu (t9 (pv 4) rfl) (pv 2) (pv 3) rfl))),?_⟩
 have D:=h.dl d hd
 have dg:=t7.k (k:=Sum.inl d.num) h.un
 rw[m9,aB0 (aA5.mpr ⟨d,hd,rfl⟩)]at dg
 refine⟨_,rfl,p,_,_,_,_,rfl,h.ob,T.cl_Tally,T.n_Tally_under_way,rfl,_,rfl,G.U,_,rfl,dg,?_⟩
 refine⟨_,rfl,_,rfl,G.dp d.num,_,_,_,_,rfl,D.ob,T.cl_Dealing,T.n_Dealing_aside,rfl,_,rfl,G.as d.num,_,rfl,J5.k (k:=Sum.inr g) D.as (n4 (by rw[a7g];omega)),?_⟩
 rw[a0r]
 obtain⟨h1,k1⟩:=h.setSide hd g a
 exact q G _ h1 k1
def v9(st:j5)(n:Int):j5:={ st with under:=N2 st.under n }
inductive a5A(t:C5)(K:PySem.W.Frag)(vs:List V)(H:Hp)(Q:VK):Prop
 | mk (G:Gh) (p:Addr) (st:j5) (d:Dl) (x0:vs=[.ref p,.int d.num]) (x1:TA t.C_Tally t.C_Dealing G H p st) (x2:d∈st.under) (xq:Pst t G H p (v9 st d.num) fun H'=>Q .non H')
def a7D(t:C5)(K:PySem.W.Frag):Sp:=fun vs H Q _=>a5A t K vs H Q
theorem a8D(T:A7 K mg t):g9 P w K mg base y9 1 t.f_Tally_leave t.d_Tally_leave ["self","number"] (a7D t K):=by
 refine T.F_Tally_leave.ok a2C (fun vs H Q E h=>?_) (fun cdv A outer s H vs Q E hr h=>?_)
 ·obtain⟨G,p,st,d,rfl,_⟩:=h
  rfl
 obtain⟨G,p,st,d,rfl,h,hd,q⟩:=h
 refine⟨_,(c9 (m6 (a8d (t9 (pv 0) rfl) (pv 1) ⟨rfl,rfl,rfl,rfl⟩))),?_⟩
 refine⟨_,rfl,p,_,_,_,_,rfl,h.ob,T.cl_Tally,T.n_Tally_under_way,rfl,G.U,rfl,.inl ⟨_,.inl h.un⟩,_,rfl,_,Sum.inl d.num,.ref (G.dp d.num),h.un,rfl,?_,?_⟩
 ·rw[m9,aB0 (aA5.mpr ⟨d,hd,rfl⟩)]
 ·obtain⟨h1,k1⟩:=h.drop d.num
  exact q G _ h1 k1
def P0:j5:=⟨0,[],[],[],[],[]⟩
inductive a1n(t:C5)(K:PySem.W.Frag)(vs:List V)(H:Hp)(Q:VK):Prop
 | mk (p dx:Addr) (x0:vs=[.ref p]) (x1:H p=some (.ins t.C_Tally dx [])) (xq:∀(G:Gh) (H':Hp),TA t.C_Tally t.C_Dealing G H' p P0→But p H H'→(∀b o,b≠p→H b=some o→G.rl b=.free)→Q .non H')
def a7r(t:C5)(K:PySem.W.Frag):Sp:=fun vs H Q _=>a1n t K vs H Q
theorem a3a(T:A7 K mg t):g9 P w K mg base y9 1 t.f_Tally___init__ t.d_Tally___init__ ["self"] (a7r t K):=by
 refine T.F_Tally___init__.ok a2s (fun vs H Q E h=>?_) (fun cdv A outer s H vs Q E hr h=>?_)
 ·obtain⟨p,dx,rfl,_⟩:=h
  rfl
 obtain⟨p,dx,rfl,hp,q⟩:=h
 refine⟨_,(b8 (N3 (pv 0) d5 rfl)
 (b8 (N3 (pv 0) A8 rfl)
 (b8 (N3 (pv 0) A8 rfl)
 (b8 (N3 (pv 0) (m7 b6) rfl)
 (b8 (N3 (pv 0) (m7 b6) rfl)
 (c9 (N3 (pv 0) (m7 b6) rfl))))))),?_⟩
 refine⟨_,rfl,p,_,dx,_,rfl,hp,T.cl_Tally,T.n_Tally_begun,(by show 0<1000;decide),fun U hU=>?_⟩
 have a1:p≠U:=d6 b0 hU
 refine⟨_,rfl,p,_,dx,_,rfl,by rw[b7 a1];exact b0,T.cl_Tally,T.n_Tally_under_way,(by show 1<1000;decide),fun Vd hV=>?_⟩
 have a2:p≠Vd:=d6 b0 hV
 refine⟨_,rfl,p,_,dx,_,rfl,by rw[b7 a2];exact b0,T.cl_Tally,T.n_Tally_versions,(by show 2<1000;decide),(n9 0),fun R hR=>?_⟩
 have a3:p≠R:=d6 b0 hR
 refine⟨_,rfl,p,_,dx,_,rfl,by rw[b7 a3];exact b0,T.cl_Tally,T.n_Tally_records,(by show 3<1000;decide),(n9 0),fun L hL=>?_⟩
 have a4:p≠L:=d6 b0 hL
 refine⟨_,rfl,p,_,dx,_,rfl,by rw[b7 a4];exact b0,T.cl_Tally,T.n_Tally_links,(by show 4<1000;decide),(n9 0),fun W hW=>?_⟩
 have a5:p≠W:=d6 b0 hW
 refine⟨_,rfl,p,_,dx,_,rfl,by rw[b7 a5];exact b0,T.cl_Tally,T.n_Tally_row,(by show 5<1000;decide),?_⟩
 have b12:Vd≠U:=fun z=>by rw[z,b7 (Ne.symm a1),b0]at hV;cases hV
 have b13:R≠U:=fun z=>by rw[z,b7 (Ne.symm a1),b7 (Ne.symm b12),b7 (Ne.symm a1),b0]at hR;cases hR
 have b23:R≠Vd:=fun z=>by rw[z,b7 (Ne.symm a2),b0]at hR;cases hR
 have b14:L≠U:=fun z=>by rw[z,b7 (Ne.symm a1),b7 (Ne.symm b13),b7 (Ne.symm a1),b7 (Ne.symm b12),b7 (Ne.symm a1),b0]at hL;cases hL
 have b24:L≠Vd:=fun z=>by rw[z,b7 (Ne.symm a2),b7 (Ne.symm b23),b7 (Ne.symm a2),b0]at hL;cases hL
 have b34:L≠R:=fun z=>by rw[z,b7 (Ne.symm a3),b0]at hL;cases hL
 have b15:W≠U:=fun z=>by rw[z,b7 (Ne.symm a1),b7 (Ne.symm b14),b7 (Ne.symm a1),b7 (Ne.symm b13),b7 (Ne.symm a1),b7 (Ne.symm b12),b7 (Ne.symm a1),b0]at hW;cases hW
 have b25:W≠Vd:=fun z=>by rw[z,b7 (Ne.symm a2),b7 (Ne.symm b24),b7 (Ne.symm a2),b7 (Ne.symm b23),b7 (Ne.symm a2),b0]at hW;cases hW
 have b35:W≠R:=fun z=>by rw[z,b7 (Ne.symm a3),b7 (Ne.symm b34),b7 (Ne.symm a3),b0]at hW;cases hW
 have b45:W≠L:=fun z=>by rw[z,b7 (Ne.symm a4),b0]at hW;cases hW
 let G:Gh:=⟨fun b=>if b=p then .tally else if b=U then .under else if b=Vd then .vers else if b=R then .recs else if b=L then .fz else if b=W then .fz else .free,dx,U,Vd,R,L,W,fun _=>0,fun _=>0,fun _=>0,fun _=>0,fun _=>0⟩
 have g0:G.rl p=.tally:=aB0 rfl
 have g1:G.rl U=.under:=by show(if U=p then _ else _)=_;rw[aA4 (Ne.symm a1),aB0 rfl]
 have g2:G.rl Vd=.vers:=by show(if Vd=p then _ else _)=_;rw[aA4 (Ne.symm a2),aA4 b12,aB0 rfl]
 have g3:G.rl R=.recs:=by show(if R=p then _ else _)=_;rw[aA4 (Ne.symm a3),aA4 b13,aA4 b23,aB0 rfl]
 have g4:G.rl L=.fz:=by show(if L=p then _ else _)=_;rw[aA4 (Ne.symm a4),aA4 b14,aA4 b24,aA4 b34,aB0 rfl]
 have g5:G.rl W=.fz:=by show(if W=p then _ else _)=_;rw[aA4 (Ne.symm a5),aA4 b15,aA4 b25,aA4 b35,aA4 b45,aB0 rfl]
 have off:∀c o,c≠p→H c=some o→c≠U∧c≠Vd∧c≠R∧c≠L∧c≠W:=fun c o nc hc=>by
  have c1:c≠U:=fun z=>by rw[←z,b7 nc,hc]at hU;cases hU
  have c2:c≠Vd:=fun z=>by rw[←z,b7 nc,b7 c1,b7 nc,hc]at hV;cases hV
  have c3:c≠R:=fun z=>by rw[←z,b7 nc,b7 c2,b7 nc,b7 c1,b7 nc,hc]at hR;cases hR
  have c4:c≠L:=fun z=>by rw[←z,b7 nc,b7 c3,b7 nc,b7 c2,b7 nc,b7 c1,b7 nc,hc]at hL;cases hL
  have c5:c≠W:=fun z=>by rw[←z,b7 nc,b7 c4,b7 nc,b7 c3,b7 nc,b7 c2,b7 nc,b7 c1,b7 nc,hc]at hW;cases hW
  exact⟨c1,c2,c3,c4,c5⟩
 generalize eHF:upd _ p (.ins t.C_Tally dx _)=HF
 have F0:HF p=some (.ins t.C_Tally dx (G8 0 U Vd R L W)):=by rw[←eHF];exact b0
 have F1:HF U=some (HO.dK (l5 (P0.under.map (·.num)) fun n=>V.ref (G.dp n))):=by
  rw[←eHF]
  rw[b7 (Ne.symm a1),b7 (Ne.symm b15),b7 (Ne.symm a1),b7 (Ne.symm b14),b7 (Ne.symm a1),b7 (Ne.symm b13),b7 (Ne.symm a1),b7 (Ne.symm b12),b7 (Ne.symm a1),b0];rfl
 have F2:HF Vd=some (HO.dK (P0.vers.map fun q=>((Sum.inr q.1:Key),V.ref (G.vl q.1)))):=by
  rw[←eHF]
  rw[b7 (Ne.symm a2),b7 (Ne.symm b25),b7 (Ne.symm a2),b7 (Ne.symm b24),b7 (Ne.symm a2),b7 (Ne.symm b23),b7 (Ne.symm a2),b0];rfl
 have F3:HF R=some (HO.lst []):=by
  rw[←eHF]
  rw[b7 (Ne.symm a3),b7 (Ne.symm b35),b7 (Ne.symm a3),b7 (Ne.symm b34),b7 (Ne.symm a3),b0]
 have F4:HF L=some (HO.lst []):=by
  rw[←eHF]
  rw[b7 (Ne.symm a4),b7 (Ne.symm b45),b7 (Ne.symm a4),b0]
 have F5:HF W=some (HO.lst (P0.row.map V.int)):=by
  rw[←eHF]
  rw[b7 (Ne.symm a5),b0];rfl
 refine q G _ ⟨F0,F1,F2,⟨[],F3,.nil⟩,⟨[],F4,.nil⟩,F5,(fun d hd=>nomatch hd),(fun q hq=>nomatch hq),g0,g1,g2,g3,g4,g5,aI4,aI4,fun b e=>?_⟩ (fun c o nc hc=>?_) fun c o nc hc=>?_
 ·show(if b=p then _ else _)=_
  rw[aA4 (fun z=>by rw[z,F0]at e;cases e),aA4 (fun z=>by rw[z,F1]at e;cases e),aA4 (fun z=>by rw[z,F2]at e;cases e),aA4 (fun z=>by rw[z,F3]at e;cases e),aA4 (fun z=>by rw[z,F4]at e;cases e),aA4 (fun z=>by rw[z,F5]at e;cases e)]
 ·obtain⟨c1,c2,c3,c4,c5⟩:=off c o nc hc
  rw[←eHF,b7 nc,b7 c5,b7 nc,b7 c4,b7 nc,b7 c3,b7 nc,b7 c2,b7 nc,b7 c1,b7 nc];exact hc
 ·obtain⟨c1,c2,c3,c4,c5⟩:=off c o nc hc
  show(if c=p then _ else _)=_
  rw[aA4 nc,aA4 c1,aA4 c2,aA4 c3,aA4 c4,aA4 c5]
def D7(v:F6)(g:Str)(x:Int×Int):F6:=if g∈v.map (·.1) then v.map (fun q=>if q.1=g then(q.1,q.2++[x]) else q) else v++[(g,[x])]
def B6(v:F6)(am:Am)(m:Int):F6:=am.foldl (fun v q=>D7 v q.1 (m,q.2)) v
theorem b1a{v:F6}{am:Am}{m:Int}{i:Nat}{q:Str×Int}(h:am[i]?=some q):B6 v (am.take (i+1)) m=D7 (B6 v (am.take i) m) q.1 (m,q.2):=by
 unfold B6;rw[aD3,h,aF8,List.foldl_append];rfl
theorem T5(v:F6)(g:Str)(x:Int×Int):(D7 v g x).map (·.1)=if g∈v.map (·.1) then v.map (·.1) else v.map (·.1)++[g]:=by
 unfold D7;split
 ·rw[aE3]
  refine aD9 fun q _=>?_
  show(if q.1=g then(q.1,q.2++[x]) else q).1=q.1
  split<;>rfl
 ·rw[aB2];rfl
theorem b9j(v:F6)(g:Str)(x:Int×Int):(D7 v g x).length≤v.length+1:=by
 unfold D7;split<;>simp
theorem a3G(v:F6)(m:Int):∀am:Am,(B6 v am m).length≤v.length+am.length:=by
 intro am
 induction am generalizing v with
 | nil=>exact aB3 _
 | cons q am ih=>
  show(B6 (D7 v q.1 (m,q.2)) am m).length≤_
  have:=ih (D7 v q.1 (m,q.2))
  have:=b9j v q.1 (m,q.2)
  rw[aF0];omega
theorem b6j{v:F6}(nd:(v.map (·.1)).Nodup){a b:Str×List (Int×Int)}(ha:a∈v)(hb:b∈v)(h:a.1=b.1):a=b:=by
 have e1:=W9 nd ha
 have e2:=W9 nd hb
 rw[h,e2]at e1
 exact Prod.ext h e1.symm
theorem b3j{H:Hp}{a:Addr}{o u:HO}(h:H a=some u)(n1:∀xs,u≠.tup xs)(n2:∀ob xs,u≠.frz ob (.tup xs)):u0 H (upd H a o):=
 ⟨fun b xs e=>by rw[b7 fun z=>by rw[z,h]at e;exact n1 xs (aD1 e)];exact e,fun b ob xs e=>by rw[b7 fun z=>by rw[z,h]at e;exact n2 ob xs (aD1 e)];exact e⟩
section
variable{CT CD p:Addr}{G:Gh}{H:Hp}{st:j5}
theorem TA.off(h:TA CT CD G H p st){a:Addr}{n:Int}{o:HO}(ha:G.rl a=.side n)(hn:∀d∈st.under,d.num≠n)(t:u0 H (upd H a o)):TA CT CD G (upd H a o) p st:=by
 refine⟨d8 h.ob h.r0 ha (by simp),d8 h.un h.r1 ha (by simp),d8 h.ve h.r2 ha (by simp),?_,?_,d8 h.rw h.r5 ha (by simp),fun e he=>?_,fun q hq=>?_,h.r0,h.r1,h.r2,h.r3,h.r4,h.r5,h.nd,h.vd,fun b e=>h.cl b (p8 e)⟩
 ·obtain⟨xs,h1,h2⟩:=h.rc
  exact⟨xs,d8 h1 h.r3 ha (by simp),Paired.mapP h2 fun _ _ z=>z.upd ha (by simp) t⟩
 ·obtain⟨xs,h1,h2⟩:=h.ln
  exact⟨xs,d8 h1 h.r4 ha (by simp),h2.tupK t⟩
 ·have E:=h.dl e he
  exact⟨d8 E.ob E.r1 ha (by simp),d8 E.lk E.r2 ha (by simp),d8 E.as E.r3 ha (by simpa using hn e he),E.r1,E.r2,E.r3⟩
 ·obtain⟨xs,h1,h2,h3⟩:=h.vl q hq
  exact⟨xs,d8 h1 h3 ha (by simp),B9 t h2,h3⟩
theorem TA.addOld(h:TA CT CD G H p st){q:Str×List (Int×Int)}(hq:q∈st.vers){x:Int×Int}{xs:List V}{y:V}(hx:H (G.vl q.1)=some (.lst xs))(hy:VAt H x y) :
  TA CT CD G (upd H (G.vl q.1) (.lst (xs++[y]))) p { st with vers:=D7 st.vers q.1 x }:=by
 obtain⟨xs',h1,h2,h3⟩:=h.vl q hq
 rw[hx]at h1;cases h1
 have t:u0 H (upd H (G.vl q.1) (.lst (xs++[y]))):=p9 hx
 have inn:q.1∈st.vers.map (·.1):=aA5.mpr ⟨q,hq,rfl⟩
 refine⟨d8 h.ob h.r0 h3 (by simp),d8 h.un h.r1 h3 (by simp),?_,?_,?_,d8 h.rw h.r5 h3 (by simp),fun e he=>?_,fun r hr=>?_,h.r0,h.r1,h.r2,h.r3,h.r4,h.r5,h.nd,?_,fun b e=>h.cl b (p8 e)⟩
 ·rw[b7 (P8 h.r2 h3 (by simp)),h.ve]
  show some (HO.dK _)=some (HO.dK ((D7 st.vers q.1 x).map _))
  congr 2
  unfold D7
  rw[aB0 inn,aE3]
  refine aD9 fun r _=>?_
  show _=((Sum.inr (if r.1=q.1 then(r.1,r.2++[x]) else r).1:Key),V.ref (G.vl (if r.1=q.1 then(r.1,r.2++[x]) else r).1))
  split<;>rfl
 ·obtain⟨zs,z1,z2⟩:=h.rc
  exact⟨zs,d8 z1 h.r3 h3 (by simp),Paired.mapP z2 fun _ _ z=>z.upd h3 (by simp) t⟩
 ·obtain⟨zs,z1,z2⟩:=h.ln
  exact⟨zs,d8 z1 h.r4 h3 (by simp),z2.tupK t⟩
 ·have E:=h.dl e he
  exact⟨d8 E.ob E.r1 h3 (by simp),d8 E.lk E.r2 h3 (by simp),d8 E.as E.r3 h3 (by simp),E.r1,E.r2,E.r3⟩
 ·have hr:r∈D7 st.vers q.1 x:=hr
  unfold D7 at hr
  rw[aB0 inn]at hr
  obtain⟨r',hr',rfl⟩:=aA5.mp hr
  by_cases c:r'.1=q.1
  ·have:r'=q:=b6j h.vd hr' hq c
   subst this
   rw[aB0 rfl]
   obtain⟨b,e1,e2⟩:=hy
   exact⟨_,b0,aK3 (B9 t h2) ⟨b,e1,t.1 _ _ e2⟩,h3⟩
  ·rw[aA4 c]
   obtain⟨zs,z1,z2,z3⟩:=h.vl r' hr'
   exact⟨zs,d8 z1 z3 h3 (by simpa using c),B9 t z2,z3⟩
 ·show((D7 st.vers q.1 x).map (·.1)).Nodup
  rw[T5,aB0 inn];exact h.vd
def K7(G:Gh)(g:Str)(l:Addr):Gh:={ G with rl:=fun b=>if b=l then .vl g else G.rl b,vl:=fun k=>if k=g then l else G.vl k }
theorem b7q(v:F6)(G:Gh){g:Str}(l:Addr)(h:g∉v.map (·.1)):(v.map fun q=>((Sum.inr q.1:Key),V.ref ((K7 G g l).vl q.1)))=v.map fun q=>((Sum.inr q.1:Key),V.ref (G.vl q.1)):=
 aD9 fun q hq=>by
  show((Sum.inr q.1:Key),V.ref (if q.1=g then l else G.vl q.1))=_
  rw[aA4 fun z:q.1=g=>h (z▸aA5.mpr ⟨q,hq,rfl⟩)]
theorem b0o(v:F6)(f:Str→V){g:Str}(x:V)(h:g∉v.map (·.1)):putK (v.map fun q=>((Sum.inr q.1:Key),f q.1)) (Sum.inr g) x=(v.map fun q=>((Sum.inr q.1:Key),f q.1))++[(Sum.inr g,x)]:=by
 unfold putK
 rw[aA4]
 intro z
 obtain⟨kv,hk,e⟩:=aO0.mp z
 obtain⟨q,hq,rfl⟩:=aA5.mp hk
 exact h (aA5.mpr ⟨q,hq,aM2 (aF4 e)⟩)
theorem b9p(v:F6)(f:Str→V){g:Str}(x:V)(h:g∈v.map (·.1)):putK (v.map fun q=>((Sum.inr q.1:Key),f q.1)) (Sum.inr g) x=v.map fun q=>((Sum.inr q.1:Key),if q.1=g then x else f q.1):=by
 unfold putK
 rw[aB0,aE3]
 ·refine aD9 fun q _=>?_
  show(if (Sum.inr q.1:Key)=Sum.inr g then _ else _)=_
  by_cases e:q.1=g
  ·rw[aB0 (by rw[e]),aB0 e]
  ·rw[aA4 fun z=>e (aM2 z),aA4 e]
 ·obtain⟨q,hq,e⟩:=aA5.mp h
  exact aO0.mpr ⟨_,aA5.mpr ⟨q,hq,rfl⟩,aC6 (by rw[e])⟩
theorem TA.setV(h:TA CT CD G H p st){g:Str}{l:Addr}{ps:List (Int×Int)}{xs:List V}{H1:Hp}{v:F6}(hl:H l=none)(s:g6 H H1)(h1:H1 l=some (.lst xs))(hx:Paired (VAt H1) ps xs)
  (hv:∀q∈v,q=(g,ps)∨(q.1≠g∧q∈st.vers)) (hk:(v.map (·.1)).Nodup) (hm:putK (st.vers.map fun q=>((Sum.inr q.1:Key),V.ref (G.vl q.1))) (Sum.inr g) (.ref l)=v.map fun q=>((Sum.inr q.1:Key),V.ref ((K7 G g l).vl q.1))) :
  TA CT CD (K7 G g l) (upd H1 G.Vd (.dK (putK (st.vers.map fun q=>((Sum.inr q.1:Key),V.ref (G.vl q.1))) (Sum.inr g) (.ref l)))) p { st with vers:=v }∧Kp G H (K7 G g l) (upd H1 G.Vd (.dK (putK (st.vers.map fun q=>((Sum.inr q.1:Key),V.ref (G.vl q.1))) (Sum.inr g) (.ref l)))):=by
 have rl_old:∀c o,H c=some o→(K7 G g l).rl c=G.rl c:=fun c o e=>by
  show(if c=l then _ else _)=_
  rw[aA4 (d6 e hl)]
 have h':=h.same s
 have rl1:∀{c o ρ},H c=some o→G.rl c=ρ→(K7 G g l).rl c=ρ:=fun {c o ρ} e r=>by rw[rl_old c o e];exact r
 have rV:(K7 G g l).rl G.Vd=.vers:=rl1 h.ve h.r2
 have rL:(K7 G g l).rl l=.vl g:=aB0 rfl
 have t:∀o,u0 H1 (upd H1 G.Vd o):=fun o=>J8 h'.ve
 refine⟨⟨d8 h'.ob (rl1 h.ob h.r0) rV (by simp),d8 h'.un (rl1 h.un h.r1) rV (by simp),?_,?_,?_,d8 h'.rw (rl1 h.rw h.r5) rV (by simp),fun e he=>?_,fun q hq=>?_,rl1 h.ob h.r0,rl1 h.un h.r1,rV,?_,?_,rl1 h.rw h.r5,h.nd,hk,fun b e=>?_⟩,⟨fun c o f e=>?_,s.tupK.trans (t _),fun c o f e=>by rw[rl_old c o e];exact f,fun c e=>j7 s (p8 e)⟩⟩
 ·show upd H1 G.Vd _ G.Vd=_
  rw[b0,hm]
 ·obtain⟨zs,z1,z2⟩:=h.rc
  refine⟨zs,d8 (s _ _ z1) (rl1 z1 h.r3) rV (by simp),Paired.mapP z2 fun _ _ z=>?_⟩
  obtain⟨b,la,pa,e,w1,w2,w3,w4,w5⟩:=z
  exact⟨b,la,pa,e,(t _).1 _ _ (s _ _ w1),d8 (s _ _ w2) (rl1 w2 w4) rV (by simp),d8 (s _ _ w3) (rl1 w3 w5) rV (by simp),rl1 w2 w4,rl1 w3 w5⟩
 ·obtain⟨zs,z1,z2⟩:=h.ln
  exact⟨zs,d8 (s _ _ z1) (rl1 z1 h.r4) rV (by simp),(z2.tupK s.tupK).tupK (t _)⟩
 ·have E:=h.dl e he
  exact⟨d8 (s _ _ E.ob) (rl1 E.ob E.r1) rV (by simp),d8 (s _ _ E.lk) (rl1 E.lk E.r2) rV (by simp),d8 (s _ _ E.as) (rl1 E.as E.r3) rV (by simp),rl1 E.ob E.r1,rl1 E.lk E.r2,rl1 E.as E.r3⟩
 ·rcases hv q hq with rfl | ⟨c,hq'⟩
  ·have e1:(K7 G g l).vl g=l:=aB0 rfl
   show ∃xs,upd H1 G.Vd _ ((K7 G g l).vl g)=some (.lst xs)∧_∧(K7 G g l).rl ((K7 G g l).vl g)=_
   rw[e1]
   exact⟨xs,d8 h1 rL rV (by simp),B9 (t _) hx,rL⟩
  ·obtain⟨zs,z1,z2,z3⟩:=h.vl q hq'
   have e1:(K7 G g l).vl q.1=G.vl q.1:=aA4 c
   rw[e1]
   exact⟨zs,d8 (s _ _ z1) (rl1 z1 z3) rV (by simp),B9 (t _) (B9 s.tupK z2),rl1 z1 z3⟩
 ·obtain⟨zs,z1,_⟩:=h.rc;exact rl1 z1 h.r3
 ·obtain⟨zs,z1,_⟩:=h.ln;exact rl1 z1 h.r4
 ·have e:=p8 e
  show(if b=l then _ else _)=_
  rw[aA4 fun z=>by rw[z,h1]at e;cases e]
  exact h.cl b (j7 s e)
 ·rw[b7 fun z=>by rw[z,h.r2]at f;cases f];exact s _ _ e
end
inductive a1m(t:C5)(K:PySem.W.Frag)(vs:List V)(H:Hp)(Q:VK):Prop
 | mk (G:Gh) (p a:Addr) (st:j5) (n:Int) (am:Am) (x0:vs=[.ref p,.ref a]) (x1:TA t.C_Tally t.C_Dealing G H p st) (x2:H a=some (.dK (z6 am))) (x3:G.rl a=.side n) (x4:(∀d∈st.under,d.num≠n)) (x5:am.length≤1000) (x6:st.vers.length≤100000) (x7:(∀q∈st.vers,q.2.length≤100000)) (xq:Pst t G H p { st with vers:=B6 st.vers am (st.recs.length:Int) } fun H'=>Q .non H')
def a0n(t:C5)(K:PySem.W.Frag):Sp:=fun vs H Q _=>a1m t K vs H Q
theorem a9y{v:F6}{m:Int}{am:Am}(nd:(v.map (·.1)).Nodup){c:Nat}(h:∀q∈v,q.2.length≤c):∀q∈B6 v am m,q.2.length≤c+am.length:=by
 induction am generalizing v c with
 | nil=>exact h
 | cons a am ih=>
  have nd':((D7 v a.1 (m,a.2)).map (·.1)).Nodup:=by
   rw[T5];split
   ·exact nd
   ·rename_i z
    rw[aC3]
    refine⟨nd,by simp,fun x hx y hy e=>z ?_⟩
    rw[aA3.mp hy]at e
    rw[←e];exact hx
  have h':∀q∈D7 v a.1 (m,a.2),q.2.length≤c+1:=fun q hq=>by
   unfold D7 at hq
   split at hq
   ·obtain⟨r,hr,rfl⟩:=aA5.mp hq
    have:=h r hr
    split
    ·simp;exact this
    ·omega
   ·rcases aA8.mp hq with hq | hq
    ·have:=h q hq;omega
    ·rw[aA3.mp hq];simp
  intro q hq
  have:=ih nd' h' q hq
  rw[aF0];omega
theorem a8m(T:A7 K mg t):g9 P w K mg base y9 2 t.f_Tally_take_over t.d_Tally_take_over ["self","aside"] (a0n t K):=by
 refine T.F_Tally_take_over.ok P6 (fun vs H Q E h=>?_) (fun cdv A outer s H vs Q E hr h=>?_)
 ·obtain⟨G,p,a,st,n,am,rfl,_⟩:=h
  rfl
 obtain⟨G,p,a,st,n,am,rfl,h,ha,ra,hn,z1,z2,z3,q⟩:=h
 have hu:=M7 hr
 refine⟨_,(c9 (a6X (z9 aE4 rfl (b1p (pv 1)) (a3p rfl (J2 (l4 (i:=2) P6.nd rfl (Or.inl rfl)) (J2 (l4 (i:=3) P6.nd rfl (Or.inl rfl)) a5g)))
 (c9 (m6 (u6 aB1 aB6 aB8 o6 (b8o hu (t9 (pv 0) rfl) (pv 2) (m7 b6) ⟨rfl,rfl,rfl,rfl⟩) (a6 (v3 (a6 (P1 (pv 0) T.cl_Tally T.M_Tally_moment (g9.mono (k:=1) (M0 T) (by decide)) hr T.F_Tally_moment.b .nil k8) (a6 (pv 3) b6))) b6))))))),?_⟩
 refine⟨_,rfl,a,z6 am,rfl,ha,fun o=>?_⟩
 have t0:∀u,u0 H (upd H a u):=fun u=>J8 ha
 have K0:∀u,Kp G H G (upd H a u):=fun u=>Kp.upd (by rw[ra];simp) (t0 u)
 refine b1t (fun i σ' H'=>∃(o2 o3:Option V) (G':Gh),σ'=[some (.ref p),some (.ref a),o2,o3]∧TA t.C_Tally t.C_Dealing G' H' p { st with vers:=B6 st.vers (am.take i) (st.recs.length:Int) }∧Kp G H G' H'∧H' a=some (.frz o (.dK (z6 am)))∧G'.rl a=.side n)
  ⟨none,none,G,rfl,h.off ra hn (t0 _),K0 _,b0,ra⟩ (fun i σ' H' _ h=>?_) (fun i k v σ' H' tp hk h htp=>?_) (fun σ' H' h=>?_)
 ·obtain⟨_,_,_,_,_,_,h1,_⟩:=h
  exact h1
 ·obtain⟨o2,o3,G',rfl,h1,k1,ha1,ra1⟩:=h
  unfold z6 at hk
  rw[aB4]at hk
  obtain⟨x,hx,e⟩:=aC9.mp hk
  have e1:k=Sum.inr x.1:=(congrArg Prod.fst e).symm
  have e2:v=V.int x.2:=(congrArg Prod.snd e).symm
  subst e1;subst e2
  have li:=(aA2.mp hx).1
  have s1:=b9 (o:=.tup [kV (Sum.inr x.1),V.int x.2]) htp
  have h2:=h1.same s1
  have ha2:=s1 _ _ ha1
  refine⟨tp,_,rfl,i5.of b0,rfl,_,_,rfl,_,_,rfl,rfl,?_⟩
  generalize upd H' tp (.tup [kV (Sum.inr x.1),V.int x.2])=H2 at s1 h2 ha2 ⊢
  have k2:=k1.trans (Kp.same (G:=G') s1)
  have lv:=a3G st.vers (st.recs.length:Int) (am.take i)
  have ll:=a9y (m:=(st.recs.length:Int)) (am:=am.take i) h.vd z3
  rw[aD6]at lv ll
  rw[b1a hx]
  generalize B6 st.vers (am.take i) (st.recs.length:Int)=v at h2 lv ll ⊢
  obtain⟨xr,hR,pR⟩:=h2.rc
  have lR:=n6 pR
  refine⟨_,rfl,p,_,_,_,_,rfl,h2.ob,T.cl_Tally,T.n_Tally_versions,rfl,G'.Vd,rfl,.inl ⟨_,.inl h2.ve⟩,_,rfl,(n9 0),fun l hl=>?_⟩
  have s3:=b9 (o:=.lst []) hl
  have h3:=h2.same s3
  have ha3:=s3 _ _ ha2
  have fz:(fun g:Str=>V.ref (G'.vl g))=fun g=>V.ref (G'.vl g):=rfl
  refine⟨_,Sum.inr x.1,h3.ve,rfl,n4 (by rw[aA0];show v.length≤_;omega),fun y hy=>?_,fun hy=>?_⟩
  ·
   rw[a7b v (fun g=>V.ref (G'.vl g))]at hy
   split at hy
   ·rename_i c
    cases hy
    obtain⟨q',hq',e⟩:=aA5.mp c
    obtain⟨xs,x1,x2,x3⟩:=h3.vl q' hq'
    rw[e]at x1 x3
    have lx:=n6 x2
    have lq:=ll q' hq'
    refine⟨.inl ⟨rfl,_,d7.of x1⟩,_,rfl,p,_,_,rfl,h3.ob,rfl,p,_,_,_,_,_,_,_,xr,rfl,h3.ob,s3 _ _ hR,_,rfl,(n9 2),fun tt htt=>?_⟩
    have s4:=b9 (o:=.tup [.int (xr.length:Int),.int x.2]) htt
    refine⟨G'.vl x.1,xs,_,rfl,rfl,s4 _ _ x1,n4 (by omega),?_⟩
    have h4:=(h3.same s4).addOld (q:=q') hq' (x:=((st.recs.length:Int),x.2)) (xs:=xs) (y:=.ref tt) (by rw[e];exact s4 _ _ x1) ⟨tt,rfl,by rw[b0,lR]⟩
    rw[e]at h4
    have rv:G'.rl (G'.vl x.1)=.vl x.1:=x3
    refine⟨_,_,G',rfl,h4,k2.trans ((Kp.same (G:=G') (s3.trans s4)).trans (Kp.upd (by rw[rv];simp) (p9 (s4 _ _ x1)))),?_,ra1⟩
    exact d8 (G:=G') (s4 _ _ ha3) ra1 rv (by simp)
   ·cases hy
  ·
   rw[a7b v (fun g=>V.ref (G'.vl g))]at hy
   split at hy
   ·cases hy
   ·rename_i c
    have hv:∀q∈v++[(x.1,([]:List (Int×Int)))],q=(x.1,[])∨(q.1≠x.1∧q∈v):=fun q hq=>by
     rcases aA8.mp hq with hq | hq
     ·exact .inr ⟨fun z=>c (z▸aA5.mpr ⟨q,hq,rfl⟩),hq⟩
     ·exact .inl (aA3.mp hq)
    have hk:((v++[(x.1,([]:List (Int×Int)))]).map (·.1)).Nodup:=by
     rw[aB2,aC3]
     refine⟨h2.vd,by simp,fun y hy z hz e=>c ?_⟩
     have:z=x.1:=by simpa using hz
     rw[←this,←e];exact hy
    obtain⟨h4,k4⟩:=h2.setV (g:=x.1) (l:=l) (ps:=[]) (xs:=[]) (v:=v++[(x.1,[])]) hl s3 b0 .nil hv hk (by
     rw[b0o v (fun g=>V.ref (G'.vl g)) _ c,aB2,b7q v G' l c]
     show _=_++[((Sum.inr x.1:Key),V.ref (if x.1=x.1 then l else G'.vl x.1))]
     rw[aB0 rfl])
    have rl4:(K7 G' x.1 l).rl l=.vl x.1:=aB0 rfl
    have vl4:(K7 G' x.1 l).vl x.1=l:=aB0 rfl
    have ra4:(K7 G' x.1 l).rl a=.side n:=by
     show(if a=l then _ else _)=_
     rw[aA4 (d6 ha2 hl)];exact ra1
    have rv4:(K7 G' x.1 l).rl G'.Vd=.vers:=h4.r2
    have hl4:(upd (upd H2 l (.lst [])) G'.Vd (.dK (putK (v.map fun q=>((Sum.inr q.1:Key),V.ref (G'.vl q.1))) (Sum.inr x.1) (.ref l)))) l=some (.lst []):=d8 b0 rl4 rv4 (by simp)
    have ha4:(upd (upd H2 l (.lst [])) G'.Vd (.dK (putK (v.map fun q=>((Sum.inr q.1:Key),V.ref (G'.vl q.1))) (Sum.inr x.1) (.ref l)))) a=some (.frz o (.dK (z6 am))):=d8 ha3 ra4 rv4 (by simp)
    have hR4:∃xr',(upd (upd H2 l (.lst [])) G'.Vd (.dK (putK (v.map fun q=>((Sum.inr q.1:Key),V.ref (G'.vl q.1))) (Sum.inr x.1) (.ref l)))) G'.R=some (.lst xr')∧xr'.length=st.recs.length:=by
     obtain⟨xr',w1,w2⟩:=h4.rc
     exact⟨xr',w1,n6 w2⟩
    show _∧_
    generalize upd (upd H2 l (.lst [])) G'.Vd (.dK (putK (v.map fun q=>((Sum.inr q.1:Key),V.ref (G'.vl q.1))) (Sum.inr x.1) (.ref l)))=H4 at h4 k4 hl4 ha4 hR4 ⊢
    obtain⟨xr',hR',lR'⟩:=hR4
    refine⟨.inl ⟨rfl,_,d7.of hl4⟩,_,rfl,p,_,_,rfl,h4.ob,rfl,p,_,_,_,_,_,_,_,xr',rfl,h4.ob,hR',_,rfl,(n9 2),fun tt htt=>?_⟩
    have s5:=b9 (o:=.tup [.int (xr'.length:Int),.int x.2]) htt
    refine⟨l,[],_,rfl,rfl,s5 _ _ hl4,n4 (by simp),?_⟩
    have h5:=(h4.same s5).addOld (q:=(x.1,[])) (aD7 _ aD0) (x:=((st.recs.length:Int),x.2)) (xs:=[]) (y:=.ref tt) (by show upd H4 tt _ ((K7 G' x.1 l).vl x.1)=_;rw[vl4];exact s5 _ _ hl4) ⟨tt,rfl,by rw[b0,lR']⟩
    have ev:D7 (v++[(x.1,[])]) x.1 ((st.recs.length:Int),x.2)=D7 v x.1 ((st.recs.length:Int),x.2):=by
     unfold D7
     rw[aB0 (by simp),aA4 c,aB2]
     congr 1
     ·refine(aD9 fun q hq=>?_).trans (aQ1 v)
      rw[aA4 fun z:q.1=x.1=>c (z▸aA5.mpr ⟨q,hq,rfl⟩)];rfl
     ·simp
    rw[show({ st with vers:=D7 (v++[(x.1,[])]) x.1 ((st.recs.length:Int),x.2) }:j5)={ st with vers:=D7 v x.1 ((st.recs.length:Int),x.2) } by rw[ev]] at h5
    have e6:(K7 G' x.1 l).vl (x.1,([]:List (Int×Int))).1=l:=vl4
    rw[e6]at h5
    refine⟨_,_,K7 G' x.1 l,rfl,h5,(k2.trans k4).trans ((Kp.same (G:=K7 G' x.1 l) s5).trans (Kp.upd (by rw[rl4];simp) (p9 (s5 _ _ hl4)))),?_,ra4⟩
    exact d8 (G:=K7 G' x.1 l) (s5 _ _ ha4) ra4 rl4 (by simp)
 ·obtain⟨o2,o3,G',rfl,h1,k1,ha1,ra1⟩:=h
  rw[a7g,aE0]at h1
  have tz:∀u,u0 H' (upd H' a u):=fun u=>b3j ha1 (fun xs z=>by cases z) (fun ob xs z=>by cases z)
  exact⟨a,o,z6 am,ha,ha1,q G' _ (h1.off ra1 hn (tz _)) (k1.trans (Kp.upd (by rw[ra1];simp) (tz _)))⟩
def swL(ps:List (Int×Int))(m:Int):List (Int×Int):=ps.drop (cnt ps m-1)
def O0(v:F6)(m:Int):F6:=v.map fun q=>(q.1,swL q.2 m)
def N8(v:F6)(m:Int):Int:=(v.map fun q=>((q.2.length:Int)-((swL q.2 m).length:Int))).sum
def a7E(st:j5)(m:Int):Prop:=(st.under=[]→m=(st.recs.length:Int))∧(st.under≠[]→m∈st.under.map (·.beg)∧∀d∈st.under,m≤d.beg)
theorem a6I{α β:Type}{F:α→β→Prop}:∀(n:Nat) {l:List α} {m:List β},Paired F l m→Paired F (l.drop n) (m.drop n)
 | 0,_,_,h=>h
 | n+1,_,_,.nil=>.nil
 | n+1,_,_,.cons _ t=>a6I n t
inductive a4z(t:C5)(K:PySem.W.Frag)(vs:List V)(H:Hp)(Q:VK):Prop
 | mk (G:Gh) (p:Addr) (st:j5) (x0:vs=[.ref p]) (x1:TA t.C_Tally t.C_Dealing G H p st) (x2:st.under.length≤1000) (x3:st.vers.length≤100000) (x4:(∀q∈st.vers,q.2.length≤100000)) (xq:∀m,a7E st m→Pst t G H p { st with vers:=O0 st.vers m } fun H'=>Q (.int (N8 st.vers m)) H')
def a0F(t:C5)(K:PySem.W.Frag):Sp:=fun vs H Q _=>a4z t K vs H Q
def Q5(v:F6)(m:Int)(i:Nat):F6:=O0 (v.take i) m++v.drop i
theorem a8S(v:F6)(m:Int)(i:Nat):(Q5 v m i).map (·.1)=v.map (·.1):=by
 unfold Q5 O0
 rw[aB2,aE3]
 have:((fun x:Str×List (Int×Int)=>x.1)∘fun q:Str×List (Int×Int)=>(q.1,swL q.2 m))=fun q=>q.1:=rfl
 rw[this,←aB2,aN6]
theorem b2x{v:F6}{m:Int}{i:Nat}{q:Str×List (Int×Int)}(h:v[i]?=some q):q∈Q5 v m i:=by
 unfold Q5
 refine aD7 _ ?_
 refine aC5 (i:=0) ?_
 rw[aI7];simpa using h
theorem b8k{v:F6}(nd:(v.map (·.1)).Nodup){m:Int}{i:Nat}{q:Str×List (Int×Int)}(h:v[i]?=some q):Q5 v m (i+1)=(Q5 v m i).map fun r=>if r.1=q.1 then(q.1,swL q.2 m) else r:=by
 have li:=(aA2.mp h).1
 have hi:=(aA2.mp h).2
 have inj:∀(j:Nat) r,v[j]?=some r→r.1=q.1→j=i:=fun j r hj e=>
  (aJ8 (l:=v.map (·.1)) (by rw[aA0];exact(aA2.mp hj).1) nd).mp (by rw[aB4,aB4,hj,h];simp[e])
 unfold Q5
 rw[aB2,List.drop_eq_getElem_cons li,hi,aC1,aB0 rfl]
 have tk:v.take (i+1)=v.take i++[q]:=by rw[aD3,h];rfl
 rw[tk]
 unfold O0
 rw[aB2,aG1]
 congr 1
 ·rw[aE3]
  refine aD9 fun r hr=>?_
  obtain⟨j,hj⟩:=aF1.mp hr
  rw[List.getElem?_take]at hj
  split at hj
  ·rename_i c
   show _=if r.1=q.1 then _ else _
   rw[aA4 fun e=>by have:=inj j r hj e;omega]
  ·cases hj
 ·rw[aC1,aJ5,List.singleton_append]
  congr 1
  refine(aQ1 _).symm.trans (aD9 fun r hr=>?_)
  obtain⟨j,hj⟩:=aF1.mp hr
  rw[aI7]at hj
  show r=if r.1=q.1 then _ else r
  rw[aA4 fun e=>by have:=inj _ r hj e;omega]
theorem a8E(T:A7 K mg t):g9 P w K mg base y9 3 t.f_Tally_sweep t.d_Tally_sweep ["self"] (a0F t K):=by
 refine T.F_Tally_sweep.ok G3 (fun vs H Q E h=>?_) (fun cdv A outer s H vs Q E hr h=>?_)
 ·obtain⟨G,p,st,rfl,_⟩:=h
  rfl
 obtain⟨G,p,st,rfl,h,z1,z2,z3,q⟩:=h
 have hu:=M7 hr
 refine⟨_,(b8 (a6X (a4b (i:=1) G3.nd rfl rfl rfl (b5e (t9 (pv 0) rfl)) (D5.mk (own:=["dealing"]) (tl:=["self","beginnings","moment","gone","good","left"]) rfl rfl rfl (fun _ _ _ _ _=>(l4 (i:=0) (a6v) rfl (Or.inl rfl))) (fun _ _ _ _ _=>T9) (fun _ _ _ _ _=>(a2X (pv 0) rfl)))))
 (b8 (L1 (g7 (i:=2) G3.nd rfl (Or.inl rfl) (a3Y rfl rfl T.m_min (pv 1) (P1 (pv 0) T.cl_Tally T.M_Tally_moment (g9.mono (k:=2) (M0 T) (by decide)) hr T.F_Tally_moment.b .nil k8))))
 (b8 (g7 (i:=3) G3.nd rfl (Or.inl rfl) d5)
 (b8 (z9 aE4 rfl (q5 (C9 (P9 rfl) rfl T.m_list aJ1 (a6 (t9 (pv 0) rfl) b6))) (l4 (i:=4) G3.nd rfl (Or.inl rfl))
 (b8 (g7 (i:=5) G3.nd rfl (Or.inl rfl) (j8 (g9.mono (k:=2) (b1l T) (by decide)) hr rfl T.m_swept T.F_swept.kp T.F_swept.b .nil k8 (a6 (u3 hu (t9 (pv 0) rfl) (pv 4) (fun _ _=>rfl)) (a6 (pv 2) b6))))
 (b8 (g7 (i:=3) G3.nd rfl (Or.inl rfl) (j6 N0 (j6 F7 (pv 3) (e7 g8 rfl T.m_len aC2 (a6 (u3 hu (t9 (pv 0) rfl) (pv 4) (fun _ _=>rfl)) b6))) (e7 g8 rfl T.m_len aC2 (a6 (pv 5) b6))))
 (c9 (C2 hu (t9 (pv 0) rfl) (pv 4) (pv 5) rfl)))))
 (c9 (i4 (pv 3))))))),?_⟩
 have kl:(l5 (st.under.map (·.num)) fun n=>V.ref (G.dp n)).length=st.under.length:=by rw[G9,aA0]
 refine⟨_,rfl,p,_,_,_,_,rfl,h.ob,T.cl_Tally,T.n_Tally_under_way,rfl,G.U,_,rfl,h.un,fun o=>fun acc hacc=>?_⟩
 have nU:G.U≠acc:=d6 b0 hacc
 have nacc:H acc=none:=by rw[b7 (Ne.symm nU)]at hacc;exact hacc
 refine b1k (fun i H'=>But G.U H H'∧H' G.U=some (.frz o (.dK (l5 (st.under.map (·.num)) fun n=>.ref (G.dp n))))∧H' acc=some (.lst (((st.under.take i).map (·.beg)).map V.int)))
  ⟨fun b u nb e=>by rw[b7 (d6 e nacc),b7 nb];exact e,by rw[b7 nU];exact b0,b0⟩ (fun i H' _ h=>h.2.1) (fun i k x H' hx h=>?_) (fun H1 h'=>?_)
 ·obtain⟨b1,b2,b3⟩:=h
  unfold l5 at hx
  rw[aB4,aB4]at hx
  obtain⟨n,hn,e⟩:=aC9.mp hx
  obtain⟨d,hd,rfl⟩:=aC9.mp hn
  have e2:x=V.ref (G.dp d.num):=(congrArg Prod.snd e).symm
  subst e2
  have D:=h.dl d (aC5 hd)
  have li:=(aA2.mp hd).1
  refine⟨_,rfl,G.dp d.num,_,_,_,_,rfl,b1 _ _ (P8 D.r1 h.r1 (by simp)) D.ob,T.cl_Dealing,T.n_Dealing_began,rfl,_,b3,n4 (by rw[aA0,aA0,aD6];omega),fun b u nb e=>?_,?_,?_⟩
  ·rw[b7 (d6 e nacc)];exact b1 b u nb e
  ·rw[b7 nU];exact b2
  ·rw[b0,aD3,hd,aF8,aB2,aB2];rfl
 obtain⟨b1,b2,b3⟩:=h'
 rw[kl,aE0]at b3
 refine⟨G.U,o,_,h.un,b2,?_⟩
 have s1:g6 H (upd H1 G.U (.dK (l5 (st.under.map (·.num)) fun n=>.ref (G.dp n)))):=fun b u e=>by
  by_cases c:b=G.U
  ·subst c;rw[b0];rw[h.un]at e;exact e
  ·rw[b7 c];exact b1 b u c e
 have a1:(upd H1 G.U (.dK (l5 (st.under.map (·.num)) fun n=>.ref (G.dp n)))) acc=some (.lst ((st.under.map (·.beg)).map V.int)):=by rw[b7 (Ne.symm nU)];exact b3
 generalize upd H1 G.U (.dK (l5 (st.under.map (·.num)) fun n=>.ref (G.dp n)))=H2 at s1 a1 ⊢
 have h2:=h.same s1
 obtain⟨xr,hR,pR⟩:=h2.rc
 have lR:=n6 pR
 refine⟨fun σ' H'=>H'=H2∧∃m,a7E st m∧σ'=[some (.ref p),some (.ref acc),some (.int m),none,none,none],?_,fun σ' H' hM=>?_⟩
 ·refine⟨_,rfl,_,rfl,p,_,_,rfl,h2.ob,rfl,p,_,_,_,_,_,_,_,xr,rfl,h2.ob,hR,acc,st.under.map (·.beg),rfl,d7.of a1,fun e=>⟨rfl,_,⟨fun _=>by rw[lR],fun w=>absurd (List.map_eq_nil_iff.mp e) w⟩,rfl⟩,fun m hm hle=>⟨rfl,m,⟨fun w=>by rw[w]at hm;simp at hm,fun _=>⟨hm,fun d hd=>hle _ (aA5.mpr ⟨d,hd,rfl⟩)⟩⟩,rfl⟩⟩
 obtain⟨rfl,m,mb,rfl⟩:=hM
 have q:=q m mb
 refine⟨_,rfl,p,_,_,_,_,rfl,h2.ob,T.cl_Tally,T.n_Tally_versions,rfl,G.Vd,_,rfl,.inl h2.ve,fun l hl=>?_⟩
 have ek:((st.vers.map fun q=>((Sum.inr q.1:Key),V.ref (G.vl q.1))).map fun q=>kV q.1)=(st.vers.map (·.1)).map V.str:=by rw[aE3,aE3];rfl
 rw[ek]
 have s3:=b9 (o:=.lst ((st.vers.map (·.1)).map V.str)) hl
 have hl3:(upd H' l (.lst ((st.vers.map (·.1)).map V.str))) l=some (.lst ((st.vers.map (·.1)).map V.str)):=b0
 generalize upd H' l (.lst ((st.vers.map (·.1)).map V.str))=H3 at s3 hl3 ⊢
 have h3:=h2.same s3
 have k3:Kp G H G H3:=Kp.same (s1.trans s3)
 have fl:G.rl l=.free:=h2.cl l hl
 have e0:({ st with vers:=Q5 st.vers m 0 }:j5)=st:=by
  have:Q5 st.vers m 0=st.vers:=by unfold Q5 O0;simp
  rw[this]
 refine⟨l,rfl,⟨_,d7.of hl3⟩,?_⟩
 refine B8 (xs:=(st.vers.map (·.1)).map V.str) (fun i σ' Hc=>∃(o4 o5:Option V) (G':Gh),σ'=[some (.ref p),some (.ref acc),some (.int m),some (.int (N8 (st.vers.take i) m)),o4,o5]∧TA t.C_Tally t.C_Dealing G' Hc p { st with vers:=Q5 st.vers m i }∧Kp G H G' Hc∧Hc l=some (.lst ((st.vers.map (·.1)).map V.str))∧G'.rl l=.free)
  ⟨none,none,G,rfl,by rw[e0];exact h3,k3,hl3,fl⟩ (fun i σ' Hc _ h=>?_) (fun i x σ' Hc hx h=>?_) (fun σ' Hc h=>?_)
 ·obtain⟨_,_,_,_,_,_,h1,_⟩:=h
  exact d7.of h1
 ·obtain⟨o4,o5,G',rfl,h4,k4,hl4,fl4⟩:=h
  rw[aB4,aB4]at hx
  obtain⟨g,hg,rfl⟩:=aC9.mp hx
  obtain⟨qq,hq,rfl⟩:=aC9.mp hg
  have hin:=b2x (m:=m) hq
  obtain⟨xs,x1,x2,x3⟩:=h4.vl qq hin
  have lx:=n6 x2
  have z3q:=z3 qq (aC5 hq)
  have inn:qq.1∈(Q5 st.vers m i).map (·.1):=aA5.mpr ⟨qq,hin,rfl⟩
  have dg:∀Hx:Hp,Hx G'.Vd=some (.dK ((Q5 st.vers m i).map fun q=>((Sum.inr q.1:Key),V.ref (G'.vl q.1))))→t7 Hx G'.Vd (.str qq.1) (some (.ref (G'.vl qq.1))):=fun Hx hx=>by
   have:=t7.k (k:=Sum.inr qq.1) hx
   rw[a7b (Q5 st.vers m i) (fun g=>V.ref (G'.vl g)),aB0 inn]at this
   exact this
  refine⟨_,rfl,p,_,_,_,_,rfl,h4.ob,T.cl_Tally,T.n_Tally_versions,rfl,_,rfl,G'.Vd,_,rfl,dg _ h4.ve,_,rfl,G'.vl qq.1,xs,qq.2,m,rfl,d7.of x1,a1k x2,z3q,fun r H5 s5 nr hr5=>?_⟩
  have h5:=h4.same s5
  refine⟨_,rfl,_,rfl,p,_,_,_,_,rfl,h5.ob,T.cl_Tally,T.n_Tally_versions,rfl,_,rfl,G'.Vd,_,rfl,dg _ h5.ve,G'.vl qq.1,xs,rfl,.inl (d7.of (s5 _ _ x1)),_,_,rfl,rfl,_,rfl,r,_,rfl,.inl (d7.of hr5),_,_,rfl,rfl,?_⟩
  have lk:(Q5 st.vers m i).length=st.vers.length:=by have:=congrArg List.length (a8S st.vers m i);simpa using this
  refine⟨_,rfl,_,rfl,p,_,_,_,_,rfl,h5.ob,T.cl_Tally,T.n_Tally_versions,rfl,_,rfl,G'.Vd,_,rfl,J5.k (k:=Sum.inr qq.1) h5.ve (n4 (by rw[aA0];show(Q5 st.vers m i).length≤_;omega)),?_⟩
  have hnx:=b8k h.vd (m:=m) hq
  obtain⟨h6,k6⟩:=h4.setV (g:=qq.1) (l:=r) (ps:=swL qq.2 m) (xs:=xs.drop (cnt qq.2 m-1)) (v:=Q5 st.vers m (i+1)) nr s5 hr5 (a6I _ (B9 s5.tupK x2)) (fun q' hq'=>by
   rw[hnx]at hq'
   obtain⟨r',hr',rfl⟩:=aA5.mp hq'
   by_cases c:r'.1=qq.1
   ·rw[aB0 c];exact .inl rfl
   ·rw[aA4 c];exact .inr ⟨c,hr'⟩) (by rw[a8S];exact h.vd) (by
   show putK ((Q5 st.vers m i).map fun q=>((Sum.inr q.1:Key),V.ref (G'.vl q.1))) _ _=_
   rw[b9p (Q5 st.vers m i) (fun g=>V.ref (G'.vl g)) _ inn,hnx,aE3]
   refine aD9 fun r' _=>?_
   show _=((Sum.inr (if r'.1=qq.1 then(qq.1,swL qq.2 m) else r').1:Key),V.ref (if (if r'.1=qq.1 then(qq.1,swL qq.2 m) else r').1=qq.1 then r else G'.vl (if r'.1=qq.1 then(qq.1,swL qq.2 m) else r').1))
   by_cases c:r'.1=qq.1
   ·rw[aB0 c,aB0 c,aB0 rfl,c]
   ·rw[aA4 c,aA4 c,aA4 c])
  have lr:l≠r:=d6 hl4 nr
  refine⟨some (.str qq.1),some (.ref r),K7 G' qq.1 r,?_,h6,k4.trans k6,k6.keep _ _ fl4 hl4,by show(if l=r then _ else _)=_;rw[aA4 lr];exact fl4⟩
  have eg:N8 (st.vers.take (i+1)) m=N8 (st.vers.take i) m+(xs.length:Int)-((xs.drop (cnt qq.2 m-1)).length:Int):=by
   unfold N8
   rw[aD3,hq,aF8,aB2,List.sum_append,aK4,List.sum_singleton]
   unfold swL
   rw[aH7,aH7,lx]
   omega
  rw[eg];rfl
 ·obtain⟨o4,o5,G',rfl,h4,k4,_,_⟩:=h
  have el:((st.vers.map (·.1)).map V.str).length=st.vers.length:=by rw[aA0,aA0]
  rw[el]at h4
  have es:Q5 st.vers m st.vers.length=O0 st.vers m:=by unfold Q5;simp
  rw[show({ st with vers:=Q5 st.vers m st.vers.length }:j5)={ st with vers:=O0 st.vers m } by rw[es]] at h4
  refine⟨_,rfl,?_⟩
  rw[el,aE0]
  exact q G' Hc h4 k4
def M9(d:Dl)(e:Int)(r:Rec):Prop:=r.num=d.num∧r.beg=d.beg∧r.fin=e∧r.looked.Perm d.looked∧r.put.Perm (d.aside.map (·.1))∧W3 r.looked∧W3 r.put
def nums(st:j5):List Int:=st.recs.map (·.num)
structure G0(st:j5):Prop where
 un:(nums st++st.under.map (·.num)).Nodup
 row:a2q (nums st) st.links st.row
 mem:∀l,l∈st.links↔∃r∈st.recs,∃o∈st.recs,r.num≠o.num∧a7m r o l
 lt:∀n∈nums st++st.under.map (·.num),0≤n∧n<(st.begun:Int)
structure Bd(k:Nat)(st:j5):Prop where
 un:st.under.length≤k
 rc:st.recs.length≤k
 dl:∀d∈st.under,d.looked.length≤k∧d.aside.length≤k
 rs:∀r∈st.recs,r.put.length≤k∧r.looked.length≤k
 ve:st.vers.length≤k*k
 vl:∀q∈st.vers,q.2.length≤k*k
 ln:st.links.length≤600*(k*k)
def a8h(st:j5)(d:Dl)(r:Rec)(cs:List (List Lk))(row:List Int):j5:=
 ⟨st.begun,N2 st.under d.num,B6 st.vers d.aside ((st.recs.length:Int)+1),st.recs++[r],st.links++cs.flatten,row⟩
structure a3L(st:j5)(d:Dl)(r:Rec)(cs:List (List Lk))(row:List Int):Prop where
 rc:M9 d ((st.recs.length:Int)+1) r
 lw:LWs r st.recs cs
 row:a2q (nums st++[d.num]) (st.links++cs.flatten) row
structure a3F(st:j5)(d:Dl)(r:Rec)(cs:List (List Lk))(rg:List Lk):Prop where
 rc:M9 d ((st.recs.length:Int)+1) r
 lw:LWs r st.recs cs
 ring:Ring rg
 sub:∀l∈rg,l∈st.links++cs.flatten
 hd:(rg.map (·.1))[0]?=some d.num
theorem b9r{ns:List Int}{ls rg:List Lk}{row:List Int}(R:a2q ns ls row)(G:Ring rg)(h:∀l∈rg,l∈ls):False:=by
 have uniq:∀(i j:Nat) (x:Int),row[i]?=some x→row[j]?=some x→i=j:=fun i j x hi hj=>(aJ8 (aA2.mp hi).1 R.nd).mp (by rw[hi,hj])
 have lp:0<rg.length:=by
  cases hrg:rg with
  | nil=>exact absurd hrg G.ne
  | cons a b=>simp
 obtain⟨p0,q0,_,hp0,_⟩:=R.keeps _ (h _ (aG8 lp))
 have up:∀i,(hi:i<rg.length)→∃p,row[p]?=some (rg[i]).1∧p0+i≤p:=by
  intro i
  induction i with
  | zero=>intro hi;exact⟨p0,hp0,aB3 _⟩
  | succ i ih=>
   intro hi
   obtain⟨p,hp,lep⟩:=ih (by omega)
   obtain⟨a,b,hab,ha,hb⟩:=R.keeps _ (h _ (aG8 (show i<rg.length by omega)))
   have:a=p:=uniq a p _ ha hp
   subst this
   obtain⟨m,hm,e⟩:=G.next (i+1) _ (List.getElem?_eq_getElem hi)
   rw[aA4 (by omega),show i+1-1=i by omega,List.getElem?_eq_getElem (show i<rg.length by omega)]at hm
   rw[←aD1 hm]at e
   exact⟨b,by rw[e];exact hb,by omega⟩
 obtain⟨p,hp,lep⟩:=up (rg.length-1) (by omega)
 obtain⟨a,b,hab,ha,hb⟩:=R.keeps _ (h _ (aG8 (show rg.length-1<rg.length by omega)))
 have:a=p:=uniq a p _ ha hp
 subst this
 obtain⟨m,hm,e⟩:=G.next 0 _ (List.getElem?_eq_getElem lp)
 rw[aB0 rfl,List.getElem?_eq_getElem (show rg.length-1<rg.length by omega)]at hm
 rw[←aD1 hm]at e
 have:b=p0:=uniq b p0 _ hb (by rw[←e];exact hp0)
 omega
theorem Ring.turn{rg:List Lk}(h:Ring rg){j:Nat}(hj:j<rg.length):Ring (rg.drop j++rg.take j):=by
 have ld:(rg.drop j).length=rg.length-j:=aH7
 have lt:(rg.take j).length=j:=by rw[aD6];omega
 have ll:(rg.drop j++rg.take j).length=rg.length:=by rw[aA7,ld,lt];omega
 have at':∀i,i<rg.length→(rg.drop j++rg.take j)[i]?=rg[if i<rg.length-j then j+i else i-(rg.length-j)]?:=fun i hi=>by
  by_cases c:i<rg.length-j
  ·rw[aB0 c,aE1 (by rw[ld];exact c),aI7]
  ·rw[aA4 c,aE9 (by rw[ld];omega),ld,List.getElem?_take_of_lt (by omega)]
 have pm:(rg.drop j++rg.take j).Perm rg:=(List.perm_append_comm).trans (by rw[aN6])
 refine⟨fun z=>?_,?_,fun i l hi=>?_⟩
 ·have e:rg.length=0:=by rw[←ll,z];rfl
  omega
 ·exact(pm.map (·.1)).nodup_iff.mpr h.nd
 ·have li:=(aA2.mp hi).1
  rw[ll]at li ⊢
  rw[at' i li]at hi
  obtain⟨m,hm,e⟩:=h.next _ l hi
  refine⟨m,?_,e⟩
  have lk:(if i=0 then rg.length-1 else i-1)<rg.length:=by split<;>omega
  rw[at' _ lk,←hm]
  congr 1
  split<;>split<;>split<;>split<;>omega
theorem LWs.mem{r:Rec}{rs:List Rec}{cs:List (List Lk)}(h:LWs r rs cs)(l:Lk):l∈cs.flatten↔∃o∈rs,a7m r o l∨a7m o r l:=by
 induction h with
 | nil=>simp
 | @cons o c rs cs z t ih=>
  obtain⟨l1,l2,rfl,b1,b2⟩:=z
  rw[aK8,aA8,aA8,b1.mem,b2.mem,ih]
  constructor
  ·rintro((a | a) | ⟨o',ho,a⟩)
   ·exact⟨o,aD0,.inl a⟩
   ·exact⟨o,aD0,.inr a⟩
   ·exact⟨o',aC4 _ ho,a⟩
  ·rintro⟨o',ho,a⟩
   rcases aB9.mp ho with rfl | ho
   ·exact .inl a
   ·exact .inr ⟨o',ho,a⟩
theorem a7N{st:j5}(ok:G0 st){d:Dl}{r:Rec}{cs:List (List Lk)}{rg:List Lk}(hr:r.num=d.num)(lw:LWs r st.recs cs)(G:Ring rg)(sub:∀l∈rg,l∈st.links++cs.flatten):d.num∈rg.map (·.1):=by
 refine aM0 fun z=>b9r ok.row G fun l hl=>?_
 rcases aA8.mp (sub l hl) with h | h
 ·exact h
 ·exfalso
  obtain⟨o,ho,a | a⟩:=(lw.mem l).mp h
  ·exact z (aA5.mpr ⟨l,hl,by rw[a.1,hr]⟩)
  ·
   obtain⟨i,hi⟩:=aF1.mp hl
   have li:=(aA2.mp hi).1
   have key:∀(k:Nat) m,rg[k]?=some m→(if k=0 then rg.length-1 else k-1)=i→d.num=m.1:=fun k m hk e=>by
    obtain⟨m',hm',e'⟩:=G.next k m hk
    rw[e,hi]at hm'
    cases hm'
    rw[e',a.2.1,hr]
   by_cases c:i+1=rg.length
   ·have h0:0<rg.length:=by omega
    exact z (aA5.mpr ⟨rg[0],aG8 h0,(key 0 _ (List.getElem?_eq_getElem h0) (by rw[aB0 rfl];omega)).symm⟩)
   ·have h1:i+1<rg.length:=by omega
    exact z (aA5.mpr ⟨rg[i+1],aG8 h1,(key (i+1) _ (List.getElem?_eq_getElem h1) (by rw[aA4 (by omega)];omega)).symm⟩)
theorem b3v{st:j5}(ok:G0 st){n:Int}{r:Rec}{cs:List (List Lk)}(hr:r.num=n)(lw:LWs r st.recs cs):∀l∈st.links++cs.flatten,l.1∈nums st++[n]∧l.2.1∈nums st++[n]:=fun l hl=>by
 have inn:∀o∈st.recs,o.num∈nums st++[n]:=fun o ho=>aE2 _ (aA5.mpr ⟨o,ho,rfl⟩)
 have me:r.num∈nums st++[n]:=by rw[hr];simp
 rcases aA8.mp hl with h | h
 ·obtain⟨a,ha,b,hb,_,e⟩:=(ok.mem l).mp h
  exact⟨by rw[e.1];exact inn a ha,by rw[e.2.1];exact inn b hb⟩
 ·obtain⟨o,ho,e | e⟩:=(lw.mem l).mp h
  ·exact⟨by rw[e.1];exact me,by rw[e.2.1];exact inn o ho⟩
  ·exact⟨by rw[e.1];exact inn o ho,by rw[e.2.1];exact me⟩
section
variable{CT CD p:Addr}{G:Gh}{H:Hp}{st:j5}
def V6(G:Gh)(as:List Addr):Gh:={ G with rl:=fun b=>if b∈as then .fz else G.rl b }
theorem TA.fz(h:TA CT CD G H p st){as:List Addr}(ha:∀a∈as,G.rl a=.free∧∃o,H a=some o):TA CT CD (V6 G as) H p st:=
 h.gh (fun b ρ e n=>by
  show(if b∈as then _ else _)=_
  rw[aA4 fun z=>n (by rw[←e,(ha b z).1])];exact e) (fun b e=>by
  show(if b∈as then _ else _)=_
  rw[aA4 fun z=>by obtain⟨_,o,w⟩:=ha b z;rw[e]at w;cases w]
  exact h.cl b e) rfl rfl rfl rfl rfl rfl (fun _ _=>⟨rfl,rfl,rfl,rfl⟩) fun _ _=>rfl
theorem a4r{as:List Addr}{a:Addr}(h:a∈as):(V6 G as).rl a=.fz:=aB0 h
theorem TA.addR(h:TA CT CD G H p st){r:Rec}{x:V}{xs:List V}(hR:H G.R=some (.lst xs))(hx:RcAt G.rl H r x):TA CT CD G (upd H G.R (.lst (xs++[x]))) p { st with recs:=st.recs++[r] }∧Kp G H G (upd H G.R (.lst (xs++[x]))):=by
 have t:u0 H (upd H G.R (.lst (xs++[x]))):=p9 hR
 obtain⟨ys,h1,h2⟩:=h.rc
 rw[hR]at h1;cases h1
 refine⟨⟨d8 h.ob h.r0 h.r3 (by simp),d8 h.un h.r1 h.r3 (by simp),d8 h.ve h.r2 h.r3 (by simp),⟨_,b0,aK3 (Paired.mapP h2 fun _ _ z=>z.upd h.r3 (by simp) t) (hx.upd h.r3 (by simp) t)⟩,?_,d8 h.rw h.r5 h.r3 (by simp),fun e he=>?_,fun q hq=>?_,h.r0,h.r1,h.r2,h.r3,h.r4,h.r5,h.nd,h.vd,fun b e=>h.cl b (p8 e)⟩,Kp.upd (by rw[h.r3];simp) t⟩
 ·obtain⟨zs,z1,z2⟩:=h.ln
  exact⟨zs,d8 z1 h.r4 h.r3 (by simp),z2.tupK t⟩
 ·have E:=h.dl e he
  exact⟨d8 E.ob E.r1 h.r3 (by simp),d8 E.lk E.r2 h.r3 (by simp),d8 E.as E.r3 h.r3 (by simp),E.r1,E.r2,E.r3⟩
 ·obtain⟨zs,z1,z2,z3⟩:=h.vl q hq
  exact⟨zs,d8 z1 z3 h.r3 (by simp),B9 t z2,z3⟩
end
inductive a4K(t:C5)(K:PySem.W.Frag)(vs:List V)(H:Hp)(Q:VK):Prop
 | mk (G:Gh) (p:Addr) (st:j5) (d:Dl) (x0:vs=[.ref p,.int d.num]) (x1:TA t.C_Tally t.C_Dealing G H p st) (x2:d∈st.under) (x3:G0 st) (x4:Bd 63 st) (x5:(∀r cs row,a3L st d r cs row→∀(l:Addr) (G':Gh) (H':Hp),TA t.C_Tally t.C_Dealing G' H' p (a8h st d r cs row)→Kp G H G' H'→H' l=some (.lst [])→G'.rl l=.free→H l=none→Q (.ref l) H')) (xq:∀r cs rg,a3F st d r cs rg→∀(l:Addr) (zs:List V) (G':Gh) (H':Hp),TA t.C_Tally t.C_Dealing G' H' p (v9 st d.num)→Kp G H G' H'→H' l=some (.lst zs)→y6 H' rg zs→G'.rl l=.free→H l=none→Q (.ref l) H')
def a9P(t:C5)(K:PySem.W.Frag):Sp:=fun vs H Q _=>a4K t K vs H Q
theorem a6N(T:A7 K mg t):g9 P w K mg base y9 4 t.f_Tally_end t.d_Tally_end ["self","number"] (a9P t K):=by
 refine T.F_Tally_end.ok P5 (fun vs H Q E h=>?_) (fun cdv A outer s H vs Q E hr h=>?_)
 ·obtain⟨G,p,st,d,rfl,_⟩:=h
  rfl
 obtain⟨G,p,st,d,rfl,h,hd,ok,bd,q1,q2⟩:=h
 have hu:=M7 hr
 refine⟨_,(b8 (g7 (i:=2) P5.nd rfl (Or.inl rfl) (a8d (t9 (pv 0) rfl) (pv 1) ⟨rfl,rfl,rfl,rfl⟩))
 (b8 (g7 (i:=3) P5.nd rfl (Or.inl rfl) (a6b (pv 2) T.cl_Dealing T.M_Dealing_record (g9.mono (k:=3) (a8r T) (by decide)) hr T.F_Dealing_record.b .nil k8 (a6 (j6 F7 (P1 (pv 0) T.cl_Tally T.M_Tally_moment (g9.mono (k:=3) (M0 T) (by decide)) hr T.F_Tally_moment.b .nil k8) d5) b6)))
 (b8 (g7 (i:=4) P5.nd rfl (Or.inl rfl) (j6 U7 (t9 (pv 0) rfl) (j8 (g9.mono (k:=3) (a9I T) (by decide)) hr rfl T.m_links_with T.F_links_with.kp T.F_links_with.b .nil k8 (a6 (pv 3) (a6 (t9 (pv 0) rfl) b6)))))
 (b8 (g7 (i:=5) P5.nd rfl (Or.inl rfl) (j8 (g9.mono (k:=3) (a9E T) (by decide)) hr rfl T.m_row_or_ring T.F_row_or_ring.kp T.F_row_or_ring.b .nil k8 (a6 (j6 U7 (O8 rfl (q5 (t9 (pv 0) rfl)) (D5.mk (own:=["ended"]) (tl:=["self","number","dealing","record","links","found"]) rfl rfl rfl (fun _ _ _ _ _=>(l4 (i:=0) (a5E) rfl (Or.inl rfl))) (fun _ _ _ _ _=>T9) (fun _ _ _ _ _=>(d9 O3 (pv 0) (v5 rfl T.m_NUMBER T.r_NUMBER) (fun _ _=>rfl))))) (m7 (a6 (pv 1) b6))) (a6 (pv 4) b6))))
 (b8 (k7 (f7 z8 (d9 i3 (pv 5) d5 (fun _ _=>rfl)) m5 (i6 _))
 (c9 (i4 (j8 (g9.mono (k:=3) (b7i T) (by decide)) hr rfl T.m_turned T.F_turned.kp T.F_turned.b .nil k8 (a6 (d9 i3 (pv 5) d5 (fun _ _=>rfl)) (a6 (pv 1) b6)))))
 j0)
 (b8 (m6 (u6 aB1 aB6 aB8 o6 (t9 (pv 0) rfl) (a6 (pv 3) b6)))
 (b8 (N3 (pv 0) (pv 4) rfl)
 (b8 (N3 (pv 0) (d9 i3 (pv 5) d5 (fun _ _=>rfl)) rfl)
 (b8 (m6 (a6b (pv 0) T.cl_Tally T.M_Tally_take_over (g9.mono (k:=3) (a8m T) (by decide)) hr T.F_Tally_take_over.b .nil k8 (a6 (t9 (pv 2) rfl) b6)))
 (c9 (i4 (m7 b6)))))))))))),?_⟩
 have D:=h.dl d hd
 refine⟨_,rfl,p,_,_,_,_,rfl,h.ob,T.cl_Tally,T.n_Tally_under_way,rfl,G.U,rfl,.inl ⟨_,.inl h.un⟩,_,rfl,_,Sum.inl d.num,.ref (G.dp d.num),h.un,rfl,?_,?_⟩
 ·rw[m9,aB0 (aA5.mpr ⟨d,hd,rfl⟩)]
 obtain⟨h1,k1⟩:=h.drop d.num
 have d1:=d8 (o:=.dK (J1 (l5 (st.under.map (·.num)) fun n=>.ref (G.dp n)) (Sum.inl d.num))) D.ob D.r1 h.r1 (by simp)
 have d2:=d8 (o:=.dK (J1 (l5 (st.under.map (·.num)) fun n=>.ref (G.dp n)) (Sum.inl d.num))) D.lk D.r2 h.r1 (by simp)
 have d3:=d8 (o:=.dK (J1 (l5 (st.under.map (·.num)) fun n=>.ref (G.dp n)) (Sum.inl d.num))) D.as D.r3 h.r1 (by simp)
 generalize upd H G.U (.dK (J1 (l5 (st.under.map (·.num)) fun n=>.ref (G.dp n)) (Sum.inl d.num)))=H1 at h1 k1 d1 d2 d3 ⊢
 obtain⟨xr,hR,pR⟩:=h1.rc
 have lR:xr.length=st.recs.length:=n6 pR
 obtain⟨bl1,bl2⟩:=bd.dl d hd
 refine⟨_,rfl,G.dp d.num,_,_,rfl,d1,rfl,_,rfl,p,_,_,rfl,h1.ob,rfl,p,_,_,_,_,_,_,_,xr,rfl,h1.ob,hR,_,_,rfl,rfl,G.dp d.num,_,G.lk d.num,G.as d.num,d.num,d.beg,_,d.looked,d.aside,rfl,d1,d2,d3,bl1,bl2,fun rc la pa ys zs H2 s2 nla npa nlp hrc hla hpa py pz sy sz=>?_⟩
 let r:Rec:=⟨d.num,d.beg,(xr.length:Int)+1,ys,zs⟩
 have isr:M9 d ((st.recs.length:Int)+1) r:=⟨rfl,rfl,by show(xr.length:Int)+1=_;rw[lR],py,pz,sy,sz⟩
 have rcAt:RecAt K H2 r (.ref rc):=⟨rc,la,pa,rfl,i5.of hrc,d7.of hla,d7.of hpa⟩
 have lys:ys.length≤63:=by rw[py.length_eq];exact bl1
 have lzs:zs.length≤63:=by rw[pz.length_eq,aA0];exact bl2
 have h2:=h1.same s2
 obtain⟨xl,hL,pL⟩:=h2.ln
 refine⟨_,rfl,p,_,_,_,_,rfl,h2.ob,T.cl_Tally,T.n_Tally_links,rfl,_,rfl,_,rfl,p,_,_,_,_,rfl,h2.ob,T.cl_Tally,T.n_Tally_records,rfl,r,.ref rc,G.R,st.recs,xr,rfl,rcAt,d7.of (s2 _ _ hR),a9t (Paired.mapP pR fun _ _ z=>z.same s2),aD8 bd.rc (by decide),?_,fun lw yw cs H3 s3 nlw hlw L3 W=>?_⟩
 ·intro o ho
  rcases aB9.mp ho with e | ho
  ·rw[e];exact⟨lzs,lys⟩
  ·exact bd.rs o ho
 have h3:=h2.same s3
 have lcs:cs.flatten.length≤600*st.recs.length:=a2E W fun o ho=>by
  rcases aB9.mp ho with e | ho
  ·rw[e];exact⟨lzs,lys⟩
  ·exact bd.rs o ho
 have bln:=bd.ln
 have brc:=bd.rc
 refine⟨G.L,lw,xl,yw,rfl,rfl,s3 _ _ hL,hlw,?_,fun ln hln=>?_⟩
 ·rw[pL.len,L3.len,aF9];show st.links.length+_≤_;omega
 have s4:=b9 (o:=.lst (xl++yw)) hln
 have L4:y6 (upd H3 ln (.lst (xl++yw))) (st.links++cs.flatten) (xl++yw):=(y6.append L3 (pL.tupK s3.tupK)).tupK s4.tupK
 have hl4:(upd H3 ln (.lst (xl++yw))) ln=some (.lst (xl++yw)):=b0
 generalize upd H3 ln (.lst (xl++yw))=H4 at s4 L4 hl4 ⊢
 have s14:=(s2.trans s3).trans s4
 have h4:=h1.same s14
 refine⟨_,rfl,p,_,_,_,_,rfl,h4.ob,T.cl_Tally,T.n_Tally_records,rfl,G.R,rfl,⟨_,d7.of (s14 _ _ hR)⟩,fun acc hacc=>?_⟩
 refine C0 (xs:=xr) (fun i Hc=>g6 H4 Hc∧Hc acc=some (.lst (((st.recs.take i).map (·.num)).map V.int))) ⟨b9 hacc,b0⟩ (fun i Hc _ z=>d7.of (z.1 _ _ (s14 _ _ hR))) (fun i x Hc hx z=>?_) (fun H5 z=>?_)
 ·obtain⟨sc,a1⟩:=z
  obtain⟨o,ho,b,la',pa',rfl,hb,_⟩:=u7 pR hx
  have li:=(aA2.mp ho).1
  refine⟨_,rfl,b,_,0,_,rfl,rfl,i5.of (sc _ _ (s14 _ _ hb)),rfl,_,a1,n4 (by rw[aA0,aA0,aD6];omega),l8 sc hacc,?_⟩
  rw[b0,aD3,ho,aF8,aB2,aB2];rfl
 obtain⟨s5,a5⟩:=z
 rw[lR,aE0]at a5
 refine⟨_,rfl,(n9 1),fun e1 he1=>?_⟩
 have s6:=b9 (o:=.lst [.int d.num]) he1
 refine⟨acc,e1,_,_,rfl,rfl,s6 _ _ a5,b0,?_,fun nb hnb=>?_⟩
 ·rw[aA0,aA0,aF9];simp;omega
 have s7:=b9 (o:=.lst (((st.recs.map (·.num)).map V.int)++[.int d.num])) hnb
 have en:((st.recs.map (·.num)).map V.int)++[.int d.num]=(nums st++[d.num]).map V.int:=by rw[aB2];rfl
 rw[en]at s7 ⊢
 have hn7:(upd (upd H5 e1 (.lst [.int d.num])) nb (.lst ((nums st++[d.num]).map V.int))) nb=some (.lst ((nums st++[d.num]).map V.int)):=b0
 have s47:g6 H4 (upd (upd H5 e1 (.lst [.int d.num])) nb (.lst ((nums st++[d.num]).map V.int))):=(s5.trans s6).trans s7
 generalize upd (upd H5 e1 (.lst [.int d.num])) nb (.lst ((nums st++[d.num]).map V.int))=H7 at hn7 s47 ⊢
 have ndn:(nums st++[d.num]).Nodup:=by
  have:=ok.un
  rw[aC3]at this ⊢
  refine⟨this.1,by simp,fun x hx y hy e=>?_⟩
  have:y=d.num:=by simpa using hy
  exact ok.un |> aC3.mp |>.2.2 x hx d.num (aA5.mpr ⟨d,hd,rfl⟩) (by rw[e,this])
 have ein:=b3v ok (r:=r) (n:=d.num) rfl W
 have s17:=s14.trans s47
 refine⟨_,rfl,nb,ln,nums st++[d.num],st.links++cs.flatten,xl++yw,rfl,d7.of hn7,ndn,d7.of (s47 _ _ hl4),L4.tupK s47.tupK,ein,?_,?_,fun f rw row H8 s8 nrw hf hrw R=>?_,fun f rn zr rg H8 s8 _ hf hrn Lr RG sub=>?_⟩
 ·show((st.recs.map (·.num))++[d.num]).length≤_
  rw[aA7,aA0];simp;omega
 ·rw[aA7];omega
 ·
  have s18:=s17.trans s8
  have s28:g6 H2 H8:=((s3.trans s4).trans s47).trans s8
  have h8:=h1.same s18
  refine⟨_,rfl,f,_,0,_,rfl,rfl,i5.of hf,rfl,rfl,_,rfl,f6 ?_⟩
  have fla:=h1.cl la nla
  have fpa:=h1.cl pa npa
  have nln1:H1 ln=none:=j7 (s2.trans s3) hln
  have fln:=h1.cl ln nln1
  have frw:=h1.cl rw (j7 s17 nrw)
  have hF:=h8.fz (as:=[la,pa,ln,rw]) (fun a ha=>by
   simp only[aB9,aG0,aL6]at ha
   rcases ha with rfl | rfl | rfl | rfl
   ·exact⟨fla,_,s28 _ _ hla⟩
   ·exact⟨fpa,_,s28 _ _ hpa⟩
   ·exact⟨fln,_,s8 _ _ (s47 _ _ hl4)⟩
   ·exact⟨frw,_,hrw⟩)
  have rcF:RcAt (V6 G [la,pa,ln,rw]).rl H8 r (.ref rc):=⟨rc,la,pa,rfl,s28 _ _ hrc,s28 _ _ hla,s28 _ _ hpa,a4r (by simp),a4r (by simp)⟩
  have hR8:H8 G.R=some (.lst xr):=s18 _ _ hR
  obtain⟨h9',k9'⟩:=hF.addR (xs:=xr) hR8 rcF
  have h9:TA t.C_Tally t.C_Dealing (V6 G [la,pa,ln,rw]) (upd H8 G.R (.lst (xr++[.ref rc]))) p { v9 st d.num with recs:=st.recs++[r] }:=h9'
  have k9:Kp (V6 G [la,pa,ln,rw]) H8 (V6 G [la,pa,ln,rw]) (upd H8 G.R (.lst (xr++[.ref rc]))):=k9'
  clear h9' k9'
  refine⟨_,rfl,p,_,_,_,_,rfl,h8.ob,T.cl_Tally,T.n_Tally_records,rfl,.inl ⟨rfl,_,d7.of hR8⟩,_,rfl,G.R,xr,_,rfl,rfl,hR8,n4 (by omega),?_⟩
  have rR:(V6 G [la,pa,ln,rw]).rl G.R=.recs:=hF.r3
  have l9:(upd H8 G.R (.lst (xr++[.ref rc]))) ln=some (.lst (xl++yw)):=d8 (s8 _ _ (s47 _ _ hl4)) (a4r (G:=G) (as:=[la,pa,ln,rw]) (by simp)) rR (by simp)
  have w9:(upd H8 G.R (.lst (xr++[.ref rc]))) rw=some (.lst (row.map V.int)):=d8 hrw (a4r (G:=G) (as:=[la,pa,ln,rw]) (by simp)) rR (by simp)
  have f9:=k9.tup.1 _ _ hf
  have rS:(V6 G [la,pa,ln,rw]).rl (G.as d.num)=.side d.num:=by
   show(if G.as d.num∈_ then _ else _)=_
   rw[aA4,D.r3]
   intro z
   have fr:G.rl (G.as d.num)=.free:=by
    simp only[aB9,aG0,aL6]at z
    rcases z with z | z | z | z<;>rw[z]<;>assumption
   rw[D.r3]at fr;cases fr
  have rD:(V6 G [la,pa,ln,rw]).rl (G.dp d.num)=.deal d.num:=by
   show(if G.dp d.num∈_ then _ else _)=_
   rw[aA4,D.r1]
   intro z
   have fr:G.rl (G.dp d.num)=.free:=by
    simp only[aB9,aG0,aL6]at z
    rcases z with z | z | z | z<;>rw[z]<;>assumption
   rw[D.r1]at fr;cases fr
  have s9as:(upd H8 G.R (.lst (xr++[.ref rc]))) (G.as d.num)=some (.dK (z6 d.aside)):=d8 (s18 _ _ d3) rS rR (by simp)
  have s9dp:(upd H8 G.R (.lst (xr++[.ref rc]))) (G.dp d.num)=some (.ins t.C_Dealing (G.dd d.num) (a5a d.num d.beg (G.lk d.num) (G.as d.num))):=d8 (s18 _ _ d1) rD rR (by simp)
  have L9:y6 (upd H8 G.R (.lst (xr++[.ref rc]))) (st.links++cs.flatten) (xl++yw):=((L4.tupK s47.tupK).tupK s8.tupK).tupK k9.tup
  generalize upd H8 G.R (.lst (xr++[.ref rc]))=H9 at h9 k9 l9 w9 f9 s9as s9dp L9 ⊢
  have ob9:H9 p=some (.ins t.C_Tally G.dx (G8 (st.begun:Int) G.U G.Vd G.R G.L G.W)):=h9.ob
  refine⟨_,rfl,_,rfl,p,_,_,_,rfl,ob9,T.cl_Tally,T.n_Tally_links,(by show 6<1000;decide),?_⟩
  have f10:=(a4S (o:=.ins t.C_Tally G.dx (N1 "links" (.ref ln) (G8 (st.begun:Int) G.U G.Vd G.R G.L G.W))) ob9).1 _ _ f9
  refine⟨_,rfl,f,_,1,_,rfl,rfl,i5.of f10,rfl,_,rfl,p,_,_,_,rfl,b0,T.cl_Tally,T.n_Tally_row,(by show 6<1000;decide),?_⟩
  rw[a0Y]
  have e10:N1 "row" (.ref rw) (N1 "links" (.ref ln) (G8 (st.begun:Int) G.U G.Vd G.R G.L G.W))=G8 (st.begun:Int) G.U G.Vd G.R ln rw:=rfl
  obtain⟨h10,k10⟩:=h9.setObj (b:=st.begun) (L:=ln) (W:=rw) (ls:=st.links++cs.flatten) (row:=row) ⟨_,l9,L9⟩ w9 (a4r (by simp)) (a4r (by simp))
  have a10:(upd H9 p (.ins t.C_Tally (V6 G [la,pa,ln,rw]).dx (G8 (st.begun:Int) G.U G.Vd G.R ln rw))) (G.as d.num)=some (.dK (z6 d.aside)):=d8 (G:=V6 G [la,pa,ln,rw]) s9as rS h9.r0 (by simp)
  have p10:(upd H9 p (.ins t.C_Tally (V6 G [la,pa,ln,rw]).dx (G8 (st.begun:Int) G.U G.Vd G.R ln rw))) (G.dp d.num)=some (.ins t.C_Dealing (G.dd d.num) (a5a d.num d.beg (G.lk d.num) (G.as d.num))):=d8 (G:=V6 G [la,pa,ln,rw]) s9dp rD h9.r0 (by simp)
  have h10:TA t.C_Tally t.C_Dealing { V6 G [la,pa,ln,rw] with L:=ln,W:=rw } (upd H9 p (.ins t.C_Tally G.dx (G8 (st.begun:Int) G.U G.Vd G.R ln rw))) p { v9 st d.num with recs:=st.recs++[r],links:=st.links++cs.flatten,row:=row }:=h10
  have k10:Kp (V6 G [la,pa,ln,rw]) H9 { V6 G [la,pa,ln,rw] with L:=ln,W:=rw } (upd H9 p (.ins t.C_Tally G.dx (G8 (st.begun:Int) G.U G.Vd G.R ln rw))):=k10
  have a10:(upd H9 p (.ins t.C_Tally G.dx (G8 (st.begun:Int) G.U G.Vd G.R ln rw))) (G.as d.num)=some (.dK (z6 d.aside)):=a10
  have p10:(upd H9 p (.ins t.C_Tally G.dx (G8 (st.begun:Int) G.U G.Vd G.R ln rw))) (G.dp d.num)=some (.ins t.C_Dealing (G.dd d.num) (a5a d.num d.beg (G.lk d.num) (G.as d.num))):=p10
  have kk:Kp G H (V6 G [la,pa,ln,rw]) H8:=by
   refine⟨fun b o f e=>s18 _ _ (k1.keep b o f e),k1.tup.trans s18.tupK,fun b o f e=>?_,fun b e=>k1.dom b (j7 s18 e)⟩
   have e1:=k1.keep b o f e
   show(if b∈_ then _ else _)=_
   rw[aA4]
   ·exact f
   ·intro z
    simp only[aB9,aG0,aL6]at z
    rcases z with z | z | z | z
    ·rw[z,nla]at e1;cases e1
    ·rw[z,npa]at e1;cases e1
    ·rw[z,nln1]at e1;cases e1
    ·rw[z,j7 s17 nrw]at e1;cases e1
  rw[e10]
  generalize upd H9 p (.ins t.C_Tally G.dx (G8 (st.begun:Int) G.U G.Vd G.R ln rw))=HA at h10 k10 a10 p10 ⊢
  have nn:∀e∈N2 st.under d.num,e.num≠d.num:=fun e he=>by simpa using (aD5.mp he).2
  refine⟨_,rfl,p,_,_,rfl,h10.ob,rfl,_,rfl,G.dp d.num,_,_,_,_,rfl,p10,T.cl_Dealing,T.n_Dealing_aside,rfl,{ V6 G [la,pa,ln,rw] with L:=ln,W:=rw },p,G.as d.num,_,d.num,d.aside,rfl,h10,a10,rS,nn,aD8 bl2 (by decide),aD8 bd.ve (by decide),(fun q hq=>aD8 (bd.vl q hq) (by decide)),fun GB HB hB kB=>?_⟩
  refine⟨(n9 0),fun l hl=>?_⟩
  have sB:=b9 (o:=.lst []) hl
  have eB:({ v9 st d.num with recs:=st.recs++[r],links:=st.links++cs.flatten,row:=row,vers:=B6 st.vers d.aside ((st.recs++[r]).length:Int) }:j5)=a8h st d r cs row:=by
   unfold a8h v9
   rw[show(((st.recs++[r]).length:Nat):Int)=(st.recs.length:Int)+1 by rw[aA7,aE5];omega]
  have hB:TA t.C_Tally t.C_Dealing GB HB p (a8h st d r cs row):=by rw[←eB];exact hB
  exact q1 r cs row ⟨isr,W,R⟩ l GB _ (hB.same sB) (((kk.trans k9).trans k10).trans (kB.trans (Kp.same (G:=GB) sB))) b0 (hB.cl l hl) ((((kk.trans k9).trans k10).trans kB).dom l hl)
 ·
  have s18:=s17.trans s8
  have h8:=h1.same s18
  refine⟨_,rfl,f,_,0,_,rfl,rfl,i5.of hf,rfl,rfl,_,rfl,l6 ?_⟩
  obtain⟨j,hj,hjf⟩:=a6i (a7N ok (d:=d) (r:=r) rfl W RG sub)
  have lj:=(aA2.mp hj).1
  rw[aA0]at lj
  have lrg:rg.length≤(nums st++[d.num]).length:=by
   have:=u5 (m:=nums st++[d.num]) RG.nd fun x hx=>by
    obtain⟨l,hl,e⟩:=aA5.mp hx
    rw[←e];exact(ein l (sub l hl)).1
   rwa [aA0] at this
  have lnn:(nums st++[d.num]).length≤101:=by
   show((st.recs.map (·.num))++[d.num]).length≤_
   rw[aA7,aA0];simp;omega
  refine⟨_,rfl,f,_,1,_,rfl,rfl,i5.of hf,rfl,_,rfl,rn,d.num,zr,rg,j,rfl,hrn,Lr,by omega,hj,hjf,fun l H9 s9 nl hl9=>?_⟩
  have h9:=h8.same s9
  refine q2 r cs (rg.drop j++rg.take j) ⟨isr,W,RG.turn lj,fun x hx=>sub x ?_,?_⟩ l _ G H9 h9 (k1.trans (Kp.same (G:=G) (s18.trans s9))) hl9 ?_ (h8.cl l nl) (k1.dom l (j7 s18 nl))
  ·rcases aA8.mp hx with hx | hx
   ·exact aS1 hx
   ·exact List.mem_of_mem_take hx
  ·rw[aB2,List.map_drop,aE1 (by rw[aH7,aA0];omega),aI7];simpa using hj
  ·have tk:∀(n:Nat) {ls:List Lk} {xs:List V},y6 H8 ls xs→y6 H8 (ls.take n) (xs.take n):=by
    intro n
    induction n with
    | zero=>intro ls xs _;exact .nil
    | succ n ih=>intro ls xs z;cases z with
     | nil=>exact .nil
     | cons a b=>exact .cons a (ih b)
   exact(y6.append (tk j Lr) (Lr.drop j)).tupK s9.tupK
def O9(g:Str):Prop:=PyData.strOk g=true∧g.length≤200
inductive i8 where
 | begin
 | look (n:Int) (g:Str)
 | put (n:Int) (g:Str) (a:Int)
 | fin (n:Int)
 | leave (n:Int)
 | sweep
def dv:i8→List V
 | .begin=>[.str "begin"]
 | .look n g=>[.str "look",.int n,.str g]
 | .put n g a=>[.str "put",.int n,.str g,.int a]
 | .fin n=>[.str "end",.int n]
 | .leave n=>[.str "leave",.int n]
 | .sweep=>[.str "sweep"]
def X2:i8→Prop
 | .look _ g=>O9 g
 | .put _ g _=>O9 g
 | _=>True
def a7p(H:Hp)(d:i8)(x:V):Prop:=∃p,x=.ref p∧H p=some (.tup (dv d))
def C1(H:Hp)(ds:List i8)(xs:List V):Prop:=Paired (a7p H) ds xs
theorem C1.tupK{H H':Hp}(k:u0 H H'):∀{ds:List i8} {xs:List V},C1 H ds xs→C1 H' ds xs
 | _,_,.nil=>.nil
 | _,_,.cons ⟨p,e,h⟩ t=>.cons ⟨p,e,k.1 _ _ h⟩ (C1.tupK k t)
theorem C1.snoc{H:Hp}{d:i8}{x:V}(h:a7p H d x):∀{ds:List i8} {xs:List V},C1 H ds xs→C1 H (ds++[d]) (xs++[x])
 | _,_,.nil=>.cons h .nil
 | _,_,.cons a t=>.cons a (C1.snoc h t)
theorem C1.len{H:Hp}{ds:List i8}{xs:List V}(h:C1 H ds xs):xs.length=ds.length:=by
 induction h with
 | nil=>rfl
 | cons _ _ ih=>simp[ih]
inductive u9 where
 | num (i:Int)
 | word (x:Str)
 | non
 | ring (rg:List Lk)
def numOf:i8→Option Int
 | .look n _=>some n
 | .put n _ _=>some n
 | .fin n=>some n
 | .leave n=>some n
 | _=>none
inductive Step:j5→i8→u9→j5→Prop
 | begin {st:j5}:Step st .begin (.num (st.begun:Int)) (a2A st)
 | sweep {st:j5} {m:Int}:a7E st m→Step st .sweep (.num (N8 st.vers m)) { st with vers:=O0 st.vers m }
 | none {st:j5} {d:i8} {n:Int}:numOf d=some n→n∉st.under.map (·.num)→Step st d .non st
 | own {st:j5} {d:Dl} {g:Str} {a:Int}:d∈st.under→t6 d.aside g=some a→Step st (.look d.num g) (.num a) st
 | look {st:j5} {d:Dl} {g:Str}:d∈st.under→t6 d.aside g=none→Step st (.look d.num g) (.num (valueAt (t8 st.vers g) d.beg)) (b5b st d.num g)
 | put {st:j5} {d:Dl} {g:Str} {a:Int}:d∈st.under→Step st (.put d.num g a) (.word "put") (putSt st d.num g a)
 | leave {st:j5} {d:Dl}:d∈st.under→Step st (.leave d.num) (.word "left") (v9 st d.num)
 | ended {st:j5} {d:Dl} {r:Rec} {cs:List (List Lk)} {row:List Int}:d∈st.under→a3L st d r cs row→Step st (.fin d.num) (.word "ended") (a8h st d r cs row)
 | ring {st:j5} {d:Dl} {r:Rec} {cs:List (List Lk)} {rg:List Lk}:d∈st.under→a3F st d r cs rg→Step st (.fin d.num) (.ring rg) (v9 st d.num)
inductive Run(s0:j5):List i8→List u9→j5→Prop
 | nil:Run s0 [] [] s0
 | snoc {ds:List i8} {as:List u9} {st st':j5} {d:i8} {a:u9}:Run s0 ds as st→Step st d a st'→Run s0 (ds++[d]) (as++[a]) st'
theorem C6{ds:List Dl}{n:Int}{f:Dl→Dl}{d:Dl}(h:d∈C8 ds n f):∃e∈ds,d=e∨d=f e:=by
 obtain⟨e,he,rfl⟩:=aA5.mp h
 refine⟨e,he,?_⟩
 split
 ·exact .inr rfl
 ·exact .inl rfl
theorem b5i{α:Type}[DecidableEq α]{a b b':List α}(h:(a++b).Nodup)(s:b'.Sublist b):(a++b').Nodup:=h.sublist ((List.Sublist.refl a).append s)
theorem a4W{st st':j5}{d:i8}{a:u9}(h:G0 st)(s:Step st d a st'):G0 st':=by
 have leave:∀n,G0 (v9 st n):=fun n=>by
  have sb:((N2 st.under n).map (·.num)).Sublist (st.under.map (·.num)):=by unfold N2;exact(List.filter_sublist).map _
  exact⟨b5i h.un sb,h.row,h.mem,fun m hm=>h.lt m (by
   rcases aA8.mp hm with z | z
   ·exact aE2 _ z
   ·exact aD7 _ (sb.subset z))⟩
 cases s with
 | begin=>
  refine⟨?_,h.row,h.mem,fun n hn=>?_⟩
  ·show(nums st++(st.under++([⟨(st.begun:Int),(st.recs.length:Int),[],[]⟩]:List Dl)).map (·.num)).Nodup
   rw[aB2,←aG1,aC3]
   refine⟨h.un,by simp,fun x hx y hy e=>?_⟩
   have:y=(st.begun:Int):=by simpa using hy
   have:=h.lt x hx
   omega
  ·have hn:n∈nums st++(st.under++([⟨(st.begun:Int),(st.recs.length:Int),[],[]⟩]:List Dl)).map (·.num):=hn
   rw[aB2,←aG1]at hn
   show 0≤n∧n<((st.begun+1:Nat):Int)
   rcases aA8.mp hn with hn | hn
   ·have:=h.lt n hn;omega
   ·have:n=(st.begun:Int):=by simpa using hn
    omega
 | sweep _=>exact⟨h.un,h.row,h.mem,h.lt⟩
 | none _ _=>exact h
 | own _ _=>exact h
 | @look d g _ _=>
  have e:(C8 st.under d.num (S1 g)).map (·.num)=st.under.map (·.num):=L5 fun _=>rfl
  exact⟨by show(nums st++(C8 st.under d.num (S1 g)).map (·.num)).Nodup;rw[e];exact h.un,h.row,h.mem,fun n hn=>h.lt n (by have hn:n∈nums st++(C8 st.under d.num (S1 g)).map (·.num):=hn;rw[e]at hn;exact hn)⟩
 | @put d g a _=>
  have e:(C8 st.under d.num (S0 g a)).map (·.num)=st.under.map (·.num):=L5 fun _=>rfl
  exact⟨by show(nums st++(C8 st.under d.num (S0 g a)).map (·.num)).Nodup;rw[e];exact h.un,h.row,h.mem,fun n hn=>h.lt n (by have hn:n∈nums st++(C8 st.under d.num (S0 g a)).map (·.num):=hn;rw[e]at hn;exact hn)⟩
 | leave _=>exact leave _
 | ring _ _=>exact leave _
 | @ended d r cs row hd E=>
  have en:nums (a8h st d r cs row)=nums st++[d.num]:=by
   show(st.recs++[r]).map (·.num)=_
   rw[aB2];show _++[r.num]=_;rw[E.rc.1];rfl
  have sb:((N2 st.under d.num).map (·.num)).Sublist (st.under.map (·.num)):=by unfold N2;exact(List.filter_sublist).map _
  have nin:d.num∉(N2 st.under d.num).map (·.num):=fun z=>by
   obtain⟨e,he,w⟩:=aA5.mp z
   simpa [w] using (aD5.mp he).2
  have dn:d.num∈st.under.map (·.num):=aA5.mpr ⟨d,hd,rfl⟩
  refine⟨?_,by rw[en];exact E.row,fun l=>?_,fun n hn=>?_⟩
  ·rw[en]
   show(nums st++[d.num]++(N2 st.under d.num).map (·.num)).Nodup
   rw[aG1]
   have hh:=aC3.mp h.un
   rw[aC3]
   refine⟨hh.1,?_,fun x hx y hy=>?_⟩
   ·rw[List.singleton_append,aG7];exact⟨nin,hh.2.1.sublist sb⟩
   ·rcases aA8.mp hy with hy | hy
    ·rw[aA3.mp hy];exact hh.2.2 x hx _ dn
    ·exact hh.2.2 x hx y (sb.subset hy)
  ·show l∈st.links++cs.flatten↔∃r'∈st.recs++[r],∃o∈st.recs++[r],r'.num≠o.num∧a7m r' o l
   have ne:∀o∈st.recs,o.num≠r.num:=fun o ho e=>(aC3.mp h.un).2.2 o.num (aA5.mpr ⟨o,ho,rfl⟩) d.num dn (by rw[e,E.rc.1])
   rw[aA8,h.mem,E.lw.mem]
   constructor
   ·rintro(⟨a,ha,b,hb,c,k⟩ | ⟨o,ho,k | k⟩)
    ·exact⟨a,aE2 _ ha,b,aE2 _ hb,c,k⟩
    ·exact⟨r,by simp,o,aE2 _ ho,(ne o ho).symm,k⟩
    ·exact⟨o,aE2 _ ho,r,by simp,ne o ho,k⟩
   ·rintro⟨a,ha,b,hb,c,k⟩
    rcases aA8.mp ha with u | u<;>rcases aA8.mp hb with v | v
    ·exact .inl ⟨a,u,b,v,c,k⟩
    ·rw[aA3.mp v]at k;exact .inr ⟨a,u,.inr k⟩
    ·rw[aA3.mp u]at k;exact .inr ⟨b,v,.inl k⟩
    ·rw[aA3.mp u,aA3.mp v]at c;exact absurd rfl c
  ·rw[en]at hn
   have hn:n∈nums st++[d.num]++(N2 st.under d.num).map (·.num):=hn
   refine h.lt n ?_
   rcases aA8.mp hn with hn | hn
   ·rcases aA8.mp hn with hn | hn
    ·exact aE2 _ hn
    ·rw[aA3.mp hn];exact aD7 _ dn
   ·exact aD7 _ (sb.subset hn)
theorem a9S(ks:List Str)(g:Str):(C3 ks g).length≤ks.length+1:=by unfold C3;split<;>simp
theorem b6v(k:Nat):(k+1)*(k+1)=k*k+2*k+1:=by rw[Nat.add_mul,Nat.mul_add];omega
theorem b1r{k k':Nat}{st:j5}(h:Bd k st)(le:k≤k'):Bd k' st:=by
 have sq:k*k≤k'*k':=aS3 le le
 exact⟨aD8 h.un le,aD8 h.rc le,fun d hd=>⟨aD8 (h.dl d hd).1 le,aD8 (h.dl d hd).2 le⟩,fun r hr=>⟨aD8 (h.rs r hr).1 le,aD8 (h.rs r hr).2 le⟩,aD8 h.ve sq,fun q hq=>aD8 (h.vl q hq) sq,aD8 h.ln (Nat.mul_le_mul_left _ sq)⟩
theorem a4V{st st':j5}{d:i8}{a:u9}{k:Nat}(hk:k≤63)(ok:(st.vers.map (·.1)).Nodup)(h:Bd k st)(s:Step st d a st'):Bd (k+1) st':=by
 have up:Bd (k+1) st:=b1r h (aN2 k)
 have leave:∀n,Bd (k+1) (v9 st n):=fun n=>⟨aD8 (aG6 _ _) up.un,up.rc,fun d hd=>up.dl d (aD5.mp hd).1,up.rs,up.ve,up.vl,up.ln⟩
 have sq:=b6v k
 cases s with
 | begin=>
  refine⟨?_,up.rc,fun d hd=>?_,up.rs,up.ve,up.vl,up.ln⟩
  ·show(st.under++_).length≤_
   rw[aA7,aE5];have:=h.un;omega
  ·rcases aA8.mp hd with hd | hd
   ·exact up.dl d hd
   ·rw[aA3.mp hd];simp
 | @sweep m _=>
  refine⟨up.un,up.rc,up.dl,up.rs,?_,fun q hq=>?_,up.ln⟩
  ·show(O0 st.vers m).length≤_
   unfold O0;rw[aA0];exact up.ve
  ·obtain⟨r,hr,rfl⟩:=aA5.mp hq
   show(swL r.2 m).length≤_
   unfold swL;rw[aH7]
   have:=up.vl r hr;omega
 | none _ _=>exact up
 | own _ _=>exact up
 | @look d g _ _=>
  refine⟨by show(C8 st.under d.num (S1 g)).length≤_;unfold C8;rw[aA0];exact up.un,up.rc,fun e he=>?_,up.rs,up.ve,up.vl,up.ln⟩
  obtain⟨e',he',rfl | rfl⟩:=C6 he
  ·exact up.dl _ he'
  ·have:=h.dl e' he'
   have:=a9S e'.looked g
   exact⟨by show(C3 e'.looked g).length≤_;omega,by show e'.aside.length≤_;omega⟩
 | @put d g a _=>
  refine⟨by show(C8 st.under d.num (S0 g a)).length≤_;unfold C8;rw[aA0];exact up.un,up.rc,fun e he=>?_,up.rs,up.ve,up.vl,up.ln⟩
  obtain⟨e',he',rfl | rfl⟩:=C6 he
  ·exact up.dl _ he'
  ·have:=h.dl e' he'
   have:=a7Q e'.aside g a
   exact⟨by show e'.looked.length≤_;omega,by show(D9 e'.aside g a).length≤_;omega⟩
 | leave _=>exact leave _
 | ring _ _=>exact leave _
 | @ended d r cs row hd E=>
  have hd':=h.dl d hd
  have lr1:r.looked.length≤k:=by rw[E.rc.2.2.2.1.length_eq];exact hd'.1
  have lr2:r.put.length≤k:=by rw[E.rc.2.2.2.2.1.length_eq,aA0];exact hd'.2
  have hrc:=h.rc
  refine⟨aD8 (aG6 _ _) up.un,?_,fun e he=>up.dl e (aD5.mp he).1,fun o ho=>?_,?_,fun q hq=>?_,?_⟩
  ·show(st.recs++[r]).length≤_
   rw[aA7,aE5];omega
  ·rcases aA8.mp ho with ho | ho
   ·exact up.rs o ho
   ·rw[aA3.mp ho];omega
  ·show(B6 st.vers d.aside _).length≤_
   have:=a3G st.vers ((st.recs.length:Int)+1) d.aside
   have:=h.ve
   omega
  ·have:=a9y ok (fun q hq=>h.vl q hq) q hq
   omega
  ·have:=a2E E.lw fun o ho=>by
    rcases aB9.mp ho with e | ho
    ·rw[e];exact⟨aD8 lr2 hk,aD8 lr1 hk⟩
    ·exact⟨aD8 (h.rs o ho).1 hk,aD8 (h.rs o ho).2 hk⟩
   have hl:=h.ln
   show(st.links++cs.flatten).length≤_
   rw[aA7,sq,Nat.mul_add,Nat.mul_add]
   omega
theorem a3C{s0 st:j5}{ds:List i8}{as:List u9}(h:Run s0 ds as st):as.length=ds.length:=by
 induction h with
 | nil=>rfl
 | snoc _ _ ih=>rw[aA7,aA7,ih];rfl
theorem Paired.mapI{α β:Type}{F F':α→β→Prop}{l:List α}{m:List β}(h:Paired F l m):(∀a b,b∈m→F a b→F' a b)→Paired F' l m:=by
 induction h with
 | nil=>intro _;exact .nil
 | cons x t ih=>intro g;exact .cons (g _ _ aD0 x) (ih fun a b hb=>g a b (aC4 _ hb))
def D6(rl:Addr→Role)(H:Hp):u9→V→Prop
 | .num i,x=>x=.int i
 | .word s,x=>x=.str s
 | .non,x=>x=.non
 | .ring rg,x=>∃l zs,x=.ref l∧H l=some (.lst zs)∧y6 H rg zs∧rl l=.free
theorem D6.kp{G G':Gh}{H H':Hp}(k:Kp G H G' H'){a:u9}{x:V}(h:D6 G.rl H a x):D6 G'.rl H' a x:=by
 cases a with
 | num i=>exact h
 | word s=>exact h
 | non=>exact h
 | ring rg=>
  obtain⟨l,zs,e,h1,h2,h3⟩:=h
  exact⟨l,zs,e,k.keep _ _ h3 h1,h2.tupK k.tup,k.out _ _ h3 h1⟩
theorem D6.upd{G:Gh}{H:Hp}{c:Addr}{o:HO}(t:u0 H (L2.upd H c o)){a:u9}{x:V}(n:x≠.ref c)(h:D6 G.rl H a x):D6 G.rl (L2.upd H c o) a x:=by
 cases a with
 | num i=>exact h
 | word s=>exact h
 | non=>exact h
 | ring rg=>
  obtain⟨l,zs,e,h1,h2,h3⟩:=h
  exact⟨l,zs,e,by rw[b7 fun z=>n (by rw[e,z])];exact h1,h2.tupK t,h3⟩
def a3Z(t:C5)(G:Gh)(H:Hp)(p:Addr)(st:j5)(d:i8)(Q:V→Hp→Prop):Prop:=
 ∀a st',Step st d a st'→∀(x:V) (G':Gh) (H':Hp),TA t.C_Tally t.C_Dealing G' H' p st'→Kp G H G' H'→D6 G'.rl H' a x→(∀c,x=.ref c→H c=none)→Q x H'
section
variable{CT CD p:Addr}{G:Gh}{H:Hp}{st:j5}
theorem TA.freeU(h:TA CT CD G H p st){a:Addr}{o:HO}(ha:G.rl a=.free)(t:u0 H (upd H a o)):TA CT CD G (upd H a o) p st:=by
 refine⟨d8 h.ob h.r0 ha (by simp),d8 h.un h.r1 ha (by simp),d8 h.ve h.r2 ha (by simp),?_,?_,d8 h.rw h.r5 ha (by simp),fun e he=>?_,fun q hq=>?_,h.r0,h.r1,h.r2,h.r3,h.r4,h.r5,h.nd,h.vd,fun b e=>h.cl b (p8 e)⟩
 ·obtain⟨xs,h1,h2⟩:=h.rc
  exact⟨xs,d8 h1 h.r3 ha (by simp),Paired.mapP h2 fun _ _ z=>z.upd ha (by simp) t⟩
 ·obtain⟨xs,h1,h2⟩:=h.ln
  exact⟨xs,d8 h1 h.r4 ha (by simp),h2.tupK t⟩
 ·have E:=h.dl e he
  exact⟨d8 E.ob E.r1 ha (by simp),d8 E.lk E.r2 ha (by simp),d8 E.as E.r3 ha (by simp),E.r1,E.r2,E.r3⟩
 ·obtain⟨xs,h1,h2,h3⟩:=h.vl q hq
  exact⟨xs,d8 h1 h3 ha (by simp),B9 t h2,h3⟩
end
inductive a5s(t:C5)(K:PySem.W.Frag)(vs:List V)(H:Hp)(Q:VK):Prop
 | mk (G:Gh) (p:Addr) (st:j5) (d:Dl) (x0:vs=[.ref p,.int d.num]) (x1:TA t.C_Tally t.C_Dealing G H p st) (x2:d∈st.under) (x3:G0 st) (x4:Bd 63 st) (xq:a3Z t G H p st (.fin d.num) Q)
def a3w(t:C5)(K:PySem.W.Frag):Sp:=fun vs H Q _=>a5s t K vs H Q
theorem a4u(T:A7 K mg t):g9 P w K mg base y9 5 t.f_answer_to_end t.d_answer_to_end ["tally","number"] (a3w t K):=by
 refine T.F_answer_to_end.ok a2c (fun vs H Q E h=>?_) (fun cdv A outer s H vs Q E hr h=>?_)
 ·obtain⟨G,p,st,d,rfl,_⟩:=h
  rfl
 obtain⟨G,p,st,d,rfl,h,hd,ok,bd,q⟩:=h
 refine⟨_,(b8 (g7 (i:=2) a2c.nd rfl (Or.inl rfl) (a6b (pv 0) T.cl_Tally T.M_Tally_end (g9.mono (k:=4) (a6N T) (by decide)) hr T.F_Tally_end.b .nil k8 (a6 (pv 1) b6)))
 (b8 (k7 (f7 z8 (e7 g8 rfl T.m_len aC2 (a6 (pv 2) b6)) d5 (i6 _))
 (c9 (i4 m5))
 j0)
 (c9 (i4 (pv 2))))),?_⟩
 refine⟨_,rfl,p,_,_,rfl,h.ob,rfl,_,rfl,G,p,st,d,rfl,h,hd,ok,bd,fun r cs row E l G' H' h1 k1 hl fl nl=>?_,fun r cs rg E l zs G' H' h1 k1 hl Lz fl nl=>?_⟩
 ·refine⟨_,rfl,l,_,rfl,.inl (d7.of hl),rfl,_,rfl,l6 ?_⟩
  exact q _ _ (.ended hd E) _ G' H' h1 k1 rfl (fun c e=>nomatch e)
 ·have ne:(zs.length:Int)≠0:=by
   have:=E.ring.ne
   have:=Lz.len
   intro z
   have:rg=[]:=List.length_eq_zero_iff.mp (by omega)
   contradiction
  refine⟨_,rfl,l,_,rfl,.inl (d7.of hl),rfl,_,rfl,?_⟩
  rw[show decide (V.int (zs.length:Int)=V.int 0)=false from aB7 fun e=>ne (V.int.inj e)]
  refine f6 ?_
  exact⟨_,rfl,q _ _ (.ring hd E) _ G' H' h1 k1 ⟨l,zs,rfl,hl,Lz,fl⟩ (fun c e=>by cases e;exact nl)⟩
inductive a6k(t:C5)(K:PySem.W.Frag)(vs:List V)(H:Hp)(Q:VK):Prop
 | mk (G:Gh) (p b:Addr) (st:j5) (d:Dl) (e:i8) (x0:vs=[.ref p,.ref b]) (x1:TA t.C_Tally t.C_Dealing G H p st) (x2:H b=some (.tup (dv e))) (x3:numOf e=some d.num) (x4:d∈st.under) (x5:G0 st) (x6:Bd 63 st) (xq:a3Z t G H p st e Q)
def a4m(t:C5)(K:PySem.W.Frag):Sp:=fun vs H Q _=>a6k t K vs H Q
theorem a0m(T:A7 K mg t):g9 P w K mg base y9 6 t.f_answer_under_way t.d_answer_under_way ["tally","deed"] (a4m t K):=by
 refine T.F_answer_under_way.ok V7 (fun vs H Q E h=>?_) (fun cdv A outer s H vs Q E hr h=>?_)
 ·obtain⟨G,p,b,st,d,e,rfl,_⟩:=h
  rfl
 obtain⟨G,p,b,st,d,e,rfl,h,hb,hn,hd,ok,bd,q⟩:=h
 refine⟨_,(b8 (g7 (i:=2) V7.nd rfl (Or.inl rfl) (d9 i3 (pv 1) d5 (fun _ _=>rfl)))
 (b8 (k7 (f7 z8 (d9 i3 (pv 1) d5 (fun _ _=>rfl)) m5 (i6 _))
 (c9 (i4 (a6b (pv 0) T.cl_Tally T.M_Tally_look (g9.mono (k:=5) (a8I T) (by decide)) hr T.F_Tally_look.b .nil k8 (a6 (pv 2) (a6 (d9 i3 (pv 1) d5 (fun _ _=>rfl)) b6)))))
 j0)
 (b8 (k7 (f7 z8 (d9 i3 (pv 1) d5 (fun _ _=>rfl)) m5 (i6 _))
 (b8 (m6 (a6b (pv 0) T.cl_Tally T.M_Tally_put (g9.mono (k:=5) (a2N T) (by decide)) hr T.F_Tally_put.b .nil k8 (a6 (pv 2) (a6 (d9 i3 (pv 1) d5 (fun _ _=>rfl)) (a6 (d9 i3 (pv 1) d5 (fun _ _=>rfl)) b6)))))
 (c9 (i4 m5)))
 j0)
 (b8 (k7 (f7 z8 (d9 i3 (pv 1) d5 (fun _ _=>rfl)) m5 (i6 _))
 (c9 (i4 (j8 (g9.mono (k:=5) (a4u T) (by decide)) hr rfl T.m_answer_to_end T.F_answer_to_end.kp T.F_answer_to_end.b .nil k8 (a6 (pv 0) (a6 (pv 2) b6)))))
 j0)
 (b8 (m6 (a6b (pv 0) T.cl_Tally T.M_Tally_leave (g9.mono (k:=5) (a8D T) (by decide)) hr T.F_Tally_leave.b .nil k8 (a6 (pv 2) b6)))
 (c9 (i4 m5))))))),?_⟩
 have b1:=bd.dl d hd
 cases e with
 | begin=>cases hn
 | sweep=>cases hn
 | look n g=>
  cases hn
  refine⟨_,rfl,b,_,1,_,rfl,rfl,i5.of hb,rfl,?_⟩
  refine⟨_,rfl,b,_,0,_,rfl,rfl,i5.of hb,rfl,rfl,_,rfl,l6 ?_⟩
  refine⟨_,rfl,p,_,_,rfl,h.ob,rfl,_,rfl,_,rfl,b,_,2,_,rfl,rfl,i5.of hb,rfl,G,p,st,d,g,rfl,h,hd,by omega,fun x hx=>aD8 (bd.vl x hx) (by decide),fun a ha=>?_,fun ha G' H' h1 k1=>?_⟩
  ·exact q _ _ (.own hd ha) _ G H h (Kp.refl G H) rfl (fun c e=>nomatch e)
  ·exact q _ _ (.look hd ha) _ G' H' h1 k1 rfl (fun c e=>nomatch e)
 | put n g a=>
  cases hn
  refine⟨_,rfl,b,_,1,_,rfl,rfl,i5.of hb,rfl,?_⟩
  refine⟨_,rfl,b,_,0,_,rfl,rfl,i5.of hb,rfl,rfl,_,rfl,f6 ?_⟩
  refine⟨_,rfl,b,_,0,_,rfl,rfl,i5.of hb,rfl,rfl,_,rfl,l6 ?_⟩
  refine⟨_,rfl,p,_,_,rfl,h.ob,rfl,_,rfl,_,rfl,b,_,2,_,rfl,rfl,i5.of hb,rfl,_,rfl,b,_,3,_,rfl,rfl,i5.of hb,rfl,G,p,st,d,g,a,rfl,h,hd,by omega,fun G' H' h1 k1=>?_⟩
  exact q _ _ (.put hd) _ G' H' h1 k1 rfl (fun c e=>nomatch e)
 | fin n=>
  cases hn
  refine⟨_,rfl,b,_,1,_,rfl,rfl,i5.of hb,rfl,?_⟩
  refine⟨_,rfl,b,_,0,_,rfl,rfl,i5.of hb,rfl,rfl,_,rfl,f6 ?_⟩
  refine⟨_,rfl,b,_,0,_,rfl,rfl,i5.of hb,rfl,rfl,_,rfl,f6 ?_⟩
  refine⟨_,rfl,b,_,0,_,rfl,rfl,i5.of hb,rfl,rfl,_,rfl,l6 ?_⟩
  exact⟨_,rfl,_,rfl,G,p,st,d,rfl,h,hd,ok,bd,q⟩
 | leave n=>
  cases hn
  refine⟨_,rfl,b,_,1,_,rfl,rfl,i5.of hb,rfl,?_⟩
  refine⟨_,rfl,b,_,0,_,rfl,rfl,i5.of hb,rfl,rfl,_,rfl,f6 ?_⟩
  refine⟨_,rfl,b,_,0,_,rfl,rfl,i5.of hb,rfl,rfl,_,rfl,f6 ?_⟩
  refine⟨_,rfl,b,_,0,_,rfl,rfl,i5.of hb,rfl,rfl,_,rfl,f6 ?_⟩
  refine⟨_,rfl,p,_,_,rfl,h.ob,rfl,_,rfl,G,p,st,d,rfl,h,hd,fun G' H' h1 k1=>?_⟩
  exact q _ _ (.leave hd) _ G' H' h1 k1 rfl (fun c e=>nomatch e)
inductive a6J(t:C5)(K:PySem.W.Frag)(vs:List V)(H:Hp)(Q:VK):Prop
 | mk (G:Gh) (p b:Addr) (st:j5) (e:i8) (x0:vs=[.ref p,.ref b]) (x1:TA t.C_Tally t.C_Dealing G H p st) (x2:H b=some (.tup (dv e))) (x3:G0 st) (x4:Bd 63 st) (xq:a3Z t G H p st e Q)
def a8O(t:C5)(K:PySem.W.Frag):Sp:=fun vs H Q _=>a6J t K vs H Q
theorem G0.new{st:j5}(ok:G0 st):∀d∈st.under,d.num≠(st.begun:Int):=fun d hd e=>by
 have:=(ok.lt d.num (aD7 _ (aA5.mpr ⟨d,hd,rfl⟩))).2
 omega
theorem a3Q(T:A7 K mg t):g9 P w K mg base y9 7 t.f_answer_to t.d_answer_to ["tally","deed"] (a8O t K):=by
 refine T.F_answer_to.ok a8P (fun vs H Q E h=>?_) (fun cdv A outer s H vs Q E hr h=>?_)
 ·obtain⟨G,p,b,st,e,rfl,_⟩:=h
  rfl
 obtain⟨G,p,b,st,e,rfl,h,hb,ok,bd,q⟩:=h
 have hu:=M7 hr
 refine⟨_,(b8 (k7 (f7 z8 (d9 i3 (pv 1) d5 (fun _ _=>rfl)) m5 (i6 _))
 (c9 (i4 (P1 (pv 0) T.cl_Tally T.M_Tally_begin (g9.mono (k:=6) (a2F T) (by decide)) hr T.F_Tally_begin.b .nil k8)))
 j0)
 (b8 (k7 (f7 z8 (d9 i3 (pv 1) d5 (fun _ _=>rfl)) m5 (i6 _))
 (c9 (i4 (P1 (pv 0) T.cl_Tally T.M_Tally_sweep (g9.mono (k:=6) (a8E T) (by decide)) hr T.F_Tally_sweep.b .nil k8)))
 j0)
 (b8 (k7 (f7 (a0a hu) (d9 i3 (pv 1) d5 (fun _ _=>rfl)) (t9 (pv 0) rfl) (by with_unfolding_all rfl))
 (c9 (i4 P4))
 j0)
 (c9 (i4 (j8 (g9.mono (k:=6) (a0m T) (by decide)) hr rfl T.m_answer_under_way T.F_answer_under_way.kp T.F_answer_under_way.b .nil k8 (a6 (pv 0) (a6 (pv 1) b6)))))))),?_⟩
 have go:∀n,(dv e)[1]?=some (.int n)→numOf e=some n→(dv e)[0]?≠some (.str "begin")→(dv e)[0]?≠some (.str "sweep")→∃z0 zs,dv e=.str z0::zs:=fun n _ h _ _=>by
  cases e with
  | begin=>cases h
  | sweep=>cases h
  | look n g=>exact⟨_,_,rfl⟩
  | put n g a=>exact⟨_,_,rfl⟩
  | fin n=>exact⟨_,_,rfl⟩
  | leave n=>exact⟨_,_,rfl⟩
 clear go
 have bun:=bd.un
 have dg:=fun n=>t7.k (k:=Sum.inl n) h.un
 have fin:∀n,numOf e=some n→n∈st.under.map (·.num)→∃d,numOf e=some d.num∧d∈st.under:=fun n hn hm=>by
  obtain⟨d,hd,rfl⟩:=aA5.mp hm
  exact⟨d,hn,hd⟩
 cases e with
 | begin=>
  refine⟨_,rfl,b,_,0,_,rfl,rfl,i5.of hb,rfl,rfl,_,rfl,l6 ?_⟩
  refine⟨_,rfl,p,_,_,rfl,h.ob,rfl,G,p,st,rfl,h,ok.new,by omega,fun G' H' h1 k1=>?_⟩
  exact q _ _ .begin _ G' H' h1 k1 rfl (fun c e=>nomatch e)
 | sweep=>
  refine⟨_,rfl,b,_,0,_,rfl,rfl,i5.of hb,rfl,rfl,_,rfl,f6 ?_⟩
  refine⟨_,rfl,b,_,0,_,rfl,rfl,i5.of hb,rfl,rfl,_,rfl,l6 ?_⟩
  refine⟨_,rfl,p,_,_,rfl,h.ob,rfl,G,p,st,rfl,h,by omega,aD8 bd.ve (by decide),fun x hx=>aD8 (bd.vl x hx) (by decide),fun m hm G' H' h1 k1=>?_⟩
  exact q _ _ (.sweep hm) _ G' H' h1 k1 rfl (fun c e=>nomatch e)
 | look n g=>
  refine⟨_,rfl,b,_,0,_,rfl,rfl,i5.of hb,rfl,rfl,_,rfl,f6 ?_⟩
  refine⟨_,rfl,b,_,0,_,rfl,rfl,i5.of hb,rfl,rfl,_,rfl,f6 ?_⟩
  have dg:=dg n
  rw[m9]at dg
  refine⟨_,rfl,b,_,1,_,rfl,rfl,i5.of hb,rfl,_,rfl,p,_,_,_,_,rfl,h.ob,T.cl_Tally,T.n_Tally_under_way,rfl,G.U,_,rfl,dg,_,rfl,?_⟩
  by_cases c:n∈st.under.map (·.num)
  ·rw[aB0 c]
   obtain⟨d,hn,hd⟩:=fin n rfl c
   exact f6 ⟨_,rfl,_,rfl,G,p,b,st,d,_,rfl,h,hb,hn,hd,ok,bd,q⟩
  ·rw[aA4 c]
   exact l6 (q _ _ (.none rfl c) _ G H h (Kp.refl G H) rfl (fun c e=>nomatch e))
 | put n g a=>
  refine⟨_,rfl,b,_,0,_,rfl,rfl,i5.of hb,rfl,rfl,_,rfl,f6 ?_⟩
  refine⟨_,rfl,b,_,0,_,rfl,rfl,i5.of hb,rfl,rfl,_,rfl,f6 ?_⟩
  have dg:=dg n
  rw[m9]at dg
  refine⟨_,rfl,b,_,1,_,rfl,rfl,i5.of hb,rfl,_,rfl,p,_,_,_,_,rfl,h.ob,T.cl_Tally,T.n_Tally_under_way,rfl,G.U,_,rfl,dg,_,rfl,?_⟩
  by_cases c:n∈st.under.map (·.num)
  ·rw[aB0 c]
   obtain⟨d,hn,hd⟩:=fin n rfl c
   exact f6 ⟨_,rfl,_,rfl,G,p,b,st,d,_,rfl,h,hb,hn,hd,ok,bd,q⟩
  ·rw[aA4 c]
   exact l6 (q _ _ (.none rfl c) _ G H h (Kp.refl G H) rfl (fun c e=>nomatch e))
 | fin n=>
  refine⟨_,rfl,b,_,0,_,rfl,rfl,i5.of hb,rfl,rfl,_,rfl,f6 ?_⟩
  refine⟨_,rfl,b,_,0,_,rfl,rfl,i5.of hb,rfl,rfl,_,rfl,f6 ?_⟩
  have dg:=dg n
  rw[m9]at dg
  refine⟨_,rfl,b,_,1,_,rfl,rfl,i5.of hb,rfl,_,rfl,p,_,_,_,_,rfl,h.ob,T.cl_Tally,T.n_Tally_under_way,rfl,G.U,_,rfl,dg,_,rfl,?_⟩
  by_cases c:n∈st.under.map (·.num)
  ·rw[aB0 c]
   obtain⟨d,hn,hd⟩:=fin n rfl c
   exact f6 ⟨_,rfl,_,rfl,G,p,b,st,d,_,rfl,h,hb,hn,hd,ok,bd,q⟩
  ·rw[aA4 c]
   exact l6 (q _ _ (.none rfl c) _ G H h (Kp.refl G H) rfl (fun c e=>nomatch e))
 | leave n=>
  refine⟨_,rfl,b,_,0,_,rfl,rfl,i5.of hb,rfl,rfl,_,rfl,f6 ?_⟩
  refine⟨_,rfl,b,_,0,_,rfl,rfl,i5.of hb,rfl,rfl,_,rfl,f6 ?_⟩
  have dg:=dg n
  rw[m9]at dg
  refine⟨_,rfl,b,_,1,_,rfl,rfl,i5.of hb,rfl,_,rfl,p,_,_,_,_,rfl,h.ob,T.cl_Tally,T.n_Tally_under_way,rfl,G.U,_,rfl,dg,_,rfl,?_⟩
  by_cases c:n∈st.under.map (·.num)
  ·rw[aB0 c]
   obtain⟨d,hn,hd⟩:=fin n rfl c
   exact f6 ⟨_,rfl,_,rfl,G,p,b,st,d,_,rfl,h,hb,hn,hd,ok,bd,q⟩
  ·rw[aA4 c]
   exact l6 (q _ _ (.none rfl c) _ G H h (Kp.refl G H) rfl (fun c e=>nomatch e))
theorem ok0:G0 P0 where
 un:=aI4
 row:=⟨List.Perm.nil,aI4,(fun l h=>nomatch h)⟩
 mem:=fun l=>⟨(fun h=>nomatch h),fun⟨r,hr,_⟩=>nomatch hr⟩
 lt:=fun n h=>nomatch h
theorem bd0:Bd 0 P0:=⟨aB3 _,aB3 _,(fun d h=>nomatch h),(fun r h=>nomatch h),aB3 _,(fun q h=>nomatch h),aB3 _⟩
def Told(t:C5)(G:Gh)(H:Hp)(p:Addr)(ds:List i8)(Q:V→Hp→Prop):Prop:=
 ∀(as:List u9) (st:j5) (G':Gh) (H':Hp) (r:Addr) (ys:List V),Run P0 ds as st→TA t.C_Tally t.C_Dealing G' H' p st→G0 st→Bd ds.length st→Kp G H G' H'→H' r=some (.lst ys)→Paired (D6 G'.rl H') as ys→G'.rl r=.free→H r=none→Q (.ref r) H'
inductive a5B(t:C5)(K:PySem.W.Frag)(vs:List V)(H:Hp)(Q:VK):Prop
 | mk (G:Gh) (p l:Addr) (ds:List i8) (xs:List V) (x0:vs=[.ref p,.ref l]) (x1:TA t.C_Tally t.C_Dealing G H p P0) (x2:H l=some (.lst xs)) (x3:G.rl l=.free) (x4:C1 H ds xs) (x5:ds.length≤63) (xq:Told t G H p ds Q)
def a0L(t:C5)(K:PySem.W.Frag):Sp:=fun vs H Q _=>a5B t K vs H Q
theorem a8l(T:A7 K mg t):g9 P w K mg base y9 8 t.f_answers_at t.d_answers_at ["tally","deeds"] (a0L t K):=by
 refine T.F_answers_at.ok Z1 (fun vs H Q E h=>?_) (fun cdv A outer s H vs Q E hr h=>?_)
 ·obtain⟨G,p,l,ds,xs,rfl,_⟩:=h
  rfl
 obtain⟨G,p,l,ds,xs,rfl,h,hl,fl,hd,bn,q⟩:=h
 refine⟨_,(b8 (g7 (i:=2) Z1.nd rfl (Or.inl rfl) (m7 b6))
 (b8 (z9 aE4 rfl (q5 (pv 1)) (l4 (i:=3) Z1.nd rfl (Or.inl rfl))
 (c9 (m6 (u6 aB1 aB6 aB8 o6 (pv 2) (a6 (j8 (g9.mono (k:=7) (a3Q T) (by decide)) hr rfl T.m_answer_to T.F_answer_to.kp T.F_answer_to.b .nil k8 (a6 (pv 0) (a6 (pv 3) b6))) b6)))))
 (c9 (i4 (pv 2))))),?_⟩
 refine⟨(n9 0),fun r hr0=>?_⟩
 have s0:=b9 (o:=.lst []) hr0
 have lx:xs.length=ds.length:=hd.len
 have fr:G.rl r=.free:=h.cl r hr0
 have nlr:l≠r:=d6 hl hr0
 refine⟨_,rfl,l,rfl,⟨_,d7.of (s0 _ _ hl)⟩,?_⟩
 refine B8 (xs:=xs) (fun i σ' Hc=>∃(o3:Option V) (G':Gh) (as:List u9) (st:j5) (ys:List V),σ'=[some (.ref p),some (.ref l),some (.ref r),o3]∧Run P0 (ds.take i) as st∧TA t.C_Tally t.C_Dealing G' Hc p st∧G0 st∧Bd i st∧Kp G H G' Hc∧Hc r=some (.lst ys)∧G'.rl r=.free∧Paired (D6 G'.rl Hc) as ys∧∀y∈ys,y≠.ref r)
  ⟨none,G,[],P0,[],rfl,.nil,h.same s0,ok0,bd0,Kp.same s0,b0,fr,.nil,(fun y hy=>nomatch hy)⟩ (fun i σ' Hc _ z=>?_) (fun i x σ' Hc hx z=>?_) (fun σ' Hc z=>?_)
 ·obtain⟨_,_,_,_,_,_,_,_,_,_,k,_⟩:=z
  exact d7.of (k.keep _ _ fl hl)
 ·obtain⟨o3,G',as,st,ys,rfl,R,h1,ok,bd,k1,hr1,fr1,pa,ny⟩:=z
  obtain⟨d,hdi,b,rfl,hb⟩:=u7 hd hx
  have li:=(aA2.mp hdi).1
  have la:=n6 pa
  have lr:=a3C R
  rw[aD6]at lr
  have hb1:=k1.tup.1 _ _ hb
  refine⟨_,rfl,.inl ⟨rfl,_,d7.of hr1⟩,_,rfl,_,rfl,G',p,b,st,d,rfl,h1,hb1,ok,b1r bd (by omega),fun a st' S x G2 H2 h2 k2 A2 nx=>?_⟩
  have hr2:=k2.keep _ _ fr1 hr1
  have fr2:=k2.out _ _ fr1 hr1
  have t2:u0 H2 (upd H2 r (.lst (ys++[x]))):=p9 hr2
  have xr:x≠.ref r:=fun e=>by rw[nx r e]at hr1;cases hr1
  refine⟨r,ys,_,rfl,rfl,hr2,n4 (by omega),?_⟩
  have k3:Kp G H G2 (upd H2 r (.lst (ys++[x]))):=by
   have kk:=k1.trans k2
   refine⟨fun b o f e=>?_,kk.tup.trans t2,kk.out,fun b e=>kk.dom b (p8 e)⟩
   rw[b7 (d6 e hr0)]
   exact kk.keep b o f e
  refine⟨_,G2,as++[a],st',ys++[x],rfl,?_,h2.freeU fr2 t2,a4W ok S,a4V (by omega) h1.vd bd S,k3,b0,fr2,?_,fun y hy=>?_⟩
  ·rw[aD3,hdi];exact .snoc R S
  ·refine aK3 ?_ (A2.upd t2 xr)
   have pa2:Paired (D6 G2.rl H2) as ys:=Paired.mapP pa fun _ _ z=>z.kp k2
   exact Paired.mapI pa2 fun a y hy z=>z.upd t2 (ny y hy)
  ·rcases aA8.mp hy with hy | hy
   ·exact ny y hy
   ·rw[aA3.mp hy];exact xr
 ·obtain⟨o3,G',as,st,ys,rfl,R,h1,ok,bd,k1,hr1,fr1,pa,ny⟩:=z
  rw[lx,aE0]at R
  rw[lx]at bd
  exact⟨_,rfl,q as st G' Hc r ys R h1 ok bd k1 hr1 pa fr1 hr0⟩
inductive a8U(t:C5)(K:PySem.W.Frag)(vs:List V)(H:Hp)(Q:VK):Prop
 | mk (l:Addr) (ds:List i8) (xs:List V) (x0:vs=[.ref l]) (x1:H l=some (.lst xs)) (x2:C1 H ds xs) (x3:ds.length≤63) (xq:∀(as:List u9) (st:j5) (rl:Addr→Role) (H':Hp) (r:Addr) (ys:List V),Run P0 ds as st→g6 H H'→H' r=some (.lst ys)→Paired (D6 rl H') as ys→H r=none→Q (.ref r) H')
def b6a(t:C5)(K:PySem.W.Frag):Sp:=fun vs H Q _=>a8U t K vs H Q
theorem a7z(T:A7 K mg t):g9 P w K mg base y9 9 t.f_answers t.d_answers ["deeds"] (b6a t K):=by
 refine T.F_answers.ok b5a (fun vs H Q E h=>?_) (fun cdv A outer s H vs Q E hr h=>?_)
 ·obtain⟨l,ds,xs,rfl,_⟩:=h
  rfl
 obtain⟨l,ds,xs,rfl,hl,hd,bn,q⟩:=h
 refine⟨_,(c9 (i4 (j8 (g9.mono (k:=8) (a8l T) (by decide)) hr rfl T.m_answers_at T.F_answers_at.kp T.F_answers_at.b .nil k8 (a6 (a9N T.K_Tally (g9.mono (k:=7) (a3a T) (by decide)) hr rfl T.mg_Tally T.F_Tally___init__.b .nil k8) (a6 (pv 0) b6))))),?_⟩
 intro x dx nx ndx nxd
 have s0:g6 H (upd (upd H dx (.own x)) x (.ins t.C_Tally dx [])):=l8 (b9 ndx) nx
 refine⟨x,dx,rfl,b0,fun G H1 h1 b1 g1=>⟨rfl,?_⟩⟩
 have s1:g6 H H1:=fun c o e=>b1 c o (d6 e nx) (s0 c o e)
 have gf:∀c o,H c=some o→G.rl c=.free:=fun c o e=>g1 c o (d6 e nx) (s0 c o e)
 refine⟨_,rfl,G,x,l,ds,xs,rfl,h1,s1 _ _ hl,gf _ _ hl,hd.tupK s1.tupK,bn,fun as st G' H' r ys R h2 ok bd k hr pa fr nr=>?_⟩
 exact q as st G'.rl H' r ys R (fun c o e=>k.keep c o (gf c o e) (s1 c o e)) hr pa (j7 s1 nr)
inductive a2D(K:PySem.W.Frag)(vs:List V)(H:Hp)(Q:VK):Prop
 | mk (x T) (x0:vs=[x]) (x1:TyV K H x T) (xq:Q (.bl (T=="int")) H)
def a0J(K:PySem.W.Frag):Sp:=fun vs H Q _=>a2D K vs H Q
theorem O1(T:A7 K mg t):g9 P w K mg base y9 1 t.f__law_whole t.d__law_whole ["_law_found"] (a0J K):=by
 refine T.F__law_whole.ok a7J (fun vs H Q E h=>?_) (fun cdv A outer s H vs Q E hr h=>?_)
 ·obtain⟨x,T,rfl,_⟩:=h
  rfl
 obtain⟨x,Ty,rfl,hT,q⟩:=h
 refine⟨_,(c9 (i4 (V0 (e7 u4 rfl T.m_isinstance aE8 (a6 (pv 0) (a6 (r9 (v:=.ty "int") rfl T.m_int boot_int rfl) b6))) (a1c (b1y (e7 u4 rfl T.m_isinstance aE8 (a6 (pv 0) (a6 (r9 (v:=.ty "bool") rfl T.m_bool boot_bool rfl) b6)))))))),?_⟩
 refine⟨_,rfl,x,Ty,"int",rfl,hT,by decide,_,rfl,?_⟩
 refine K4 (fun c=>?_) (fun c=>?_)
 ·refine⟨_,rfl,x,Ty,"bool",rfl,hT,by decide,_,rfl,?_⟩
  have e:(!a9a Ty "bool")=(Ty=="int"):=by
   have:=hT.mem
   simp only[tys,aB9,aG0,aL6]at this
   rcases this with rfl | rfl | rfl | rfl | rfl | rfl | rfl<;>revert c<;>decide
  rw[e];exact q
 ·have e:false=(Ty=="int"):=by
   have:=hT.mem
   simp only[tys,aB9,aG0,aL6]at this
   rcases this with rfl | rfl | rfl | rfl | rfl | rfl | rfl<;>revert c<;>decide
  rw[←e]at q;exact q
theorem a2R(c:Array Nat):∀(n:Nat) (acc:Array Nat),((List.replicate n c).foldl (·++·) acc).size=acc.size+n*c.size
 | 0,acc=>by simp
 | n+1,acc=>by
  rw[aK0,aO8,a2R c n,Array.size_append,Nat.succ_mul];omega
theorem a6w(z:Str)(n:Nat):(M8 z n).length=n*z.length:=by
 show((List.replicate n z.cps).foldl (·++·) #[]).size=n*z.cps.size
 rw[a2R];simp
theorem a9X(p:Nat→Bool)(c:Array Nat)(h:c.all p=true):∀(n:Nat) (acc:Array Nat),acc.all p=true→((List.replicate n c).foldl (·++·) acc).all p=true
 | 0,acc,ha=>by simpa using ha
 | n+1,acc,ha=>by
  rw[aK0,aO8]
  exact a9X p c h n _ (by rw[Array.all_append,ha,h];rfl)
theorem a7C{z:Str}(h:PyData.strOk z=true)(n:Nat):PyData.strOk (M8 z n)=true:=a9X _ z.cps h n #[] (by simp)
theorem b5c{x y:Str}(h:PyData.strOk x=true)(k:PyData.strOk y=true):PyData.strOk (x++y)=true:=by
 show(x.cps++y.cps).all _=true
 rw[Array.all_append]
 have h:x.cps.all (·<0x110000)=true:=h
 have k:y.cps.all (·<0x110000)=true:=k
 rw[h,k];rfl
theorem a7q(x y:Str):(x++y).length=x.length+y.length:=by
 show(x.cps++y.cps).size=_
 rw[Array.size_append];rfl
theorem b7t(i:Int)(h1:0≤i)(h2:i<12):O9 (("good ":Str)++(toString i:String)):=by
 rcases(show i=0∨i=1∨i=2∨i=3∨i=4∨i=5∨i=6∨i=7∨i=8∨i=9∨i=10∨i=11 by omega) with rfl | rfl | rfl | rfl | rfl | rfl | rfl | rfl | rfl | rfl | rfl | rfl<;>(unfold O9;decide +kernel)
inductive a1J(K:PySem.W.Frag)(vs:List V)(H:Hp)(Q:VK):Prop
 | mk (i pl:Int) (x0:vs=[.int i,.int pl]) (x1:0≤i) (x2:i<12) (x3:0≤pl) (x4:pl≤39) (xq:∀g H',g6 H H'→O9 g→Q (.str g) H')
def a0O(K:PySem.W.Frag):Sp:=fun vs H Q _=>a1J K vs H Q
theorem a4Q(T:A7 K mg t):g9 P w K mg base y9 1 t.f__law_ware t.d__law_ware ["_law_spot","_law_place"] (a0O K):=by
 refine T.F__law_ware.ok a4o (fun vs H Q E h=>?_) (fun cdv A outer s H vs Q E hr h=>?_)
 ·obtain⟨i,pl,rfl,_⟩:=h
  rfl
 obtain⟨i,pl,rfl,i0,i1,p0,p1,q⟩:=h
 refine⟨_,(b8 (g7 (i:=2) a4o.nd rfl (Or.inl rfl) (m7 (a6 m5 (a6 m5 (a6 m5 (a6 (j6 a8A m5 d5) (a6 (j6 a3i (j6 a3i (j6 a6t m5 (pv 1)) m5) (j6 a6t m5 (j6 N0 d5 (pv 1)))) (a6 m5 b6))))))))
 (c9 (i4 (d9 l7 (j6 U7 (pv 2) (j6 b0z (m7 (a6 (j6 a3i m5 (C9 a0T rfl T.m_str aS8 (a6 (pv 0) b6))) b6)) d5)) (j6 K5 (pv 0) d5) (fun _ _=>rfl))))),?_⟩
 have lone:("a":Str).length=1:=by decide
 have oka:PyData.strOk "a"=true:=by decide +kernel
 have okb:PyData.strOk "b"=true:=by decide +kernel
 have l1:(M8 "a" pl.toNat).length≤39:=by rw[a6w,lone];omega
 have l2:(M8 "a" (39-pl).toNat).length≤39:=by rw[a6w,lone];omega
 have l3:(M8 "a" pl.toNat++"b").length≤40:=by
  rw[a7q]
  have:("b":Str).length=1:=by decide
  omega
 refine⟨_,_,rfl,rfl,(by decide),(by decide),(by decide),(by decide),(by decide),?_⟩
 refine⟨_,rfl,_,_,rfl,rfl,by omega,by omega,(by decide),(by decide),by rw[aF9];omega,?_⟩
 refine⟨_,_,rfl,rfl,by rw[aF9,←a7q];omega,?_⟩
 refine⟨_,rfl,_,_,rfl,rfl,_,_,rfl,rfl,by omega,by omega,(by decide),(by decide),by rw[aF9];omega,?_⟩
 refine⟨_,_,rfl,rfl,by rw[aF9];omega,(n9 6),fun e he=>?_⟩
 have w40:O9 (M8 "a" (Int.toNat 40)):=⟨a7C oka _,by rw[a6w,lone];decide⟩
 have wmx:O9 (M8 "a" pl.toNat++"b"++M8 "a" (39-pl).toNat):=⟨b5c (b5c (a7C oka _) okb) (a7C oka _),by rw[a7q];omega⟩
 have wnm:=b7t i i0 i1
 have lnm:(("good ":Str)++(toString i:String)).length≤200:=wnm.2
 refine⟨_,rfl,_,rfl,i,rfl,?_,_,_,rfl,rfl,by rw[←a7q,aF9];omega,(n9 1),fun e2 he2=>?_⟩
 ·have:=Nat.log2_le_self i.natAbs
  omega
 generalize (("good ":Str)++(toString i:String))=nm at wnm he2 ⊢
 have s1:=b9 (o:=.lst [.str nm]) he2
 refine⟨e2,6,_,rfl,rfl,b0,by decide,by decide,(by show 1*6≤sizeLine;decide),fun e3 he3=>?_⟩
 have s2:=b9 (o:=.lst (List.replicate (Int.toNat 6) [V.str nm]).flatten) he3
 refine⟨e,e3,_,_,rfl,rfl,s2 _ _ (s1 _ _ b0),b0,(by show 6+6≤sizeLine;decide),fun e4 he4=>?_⟩
 refine⟨_,rfl,_,_,rfl,rfl,(by show(0:Int)<12;decide),?_⟩
 dsimp only
 rw[show i % 12=i by omega]
 have get:∃g,F8 ([V.str "a",V.str "",V.str "A b~",V.str (M8 "a" (Int.toNat 40)),V.str (M8 "a" pl.toNat++"b"++M8 "a" (39-pl).toNat),V.str "good"]++(List.replicate (Int.toNat 6) [V.str nm]).flatten) i=some (.str g)∧O9 g:=by
  obtain⟨n,rfl⟩:=Int.eq_ofNat_of_zero_le i0
  rcases(show n=0∨n=1∨n=2∨n=3∨n=4∨n=5∨n=6∨n=7∨n=8∨n=9∨n=10∨n=11 by omega) with rfl | rfl | rfl | rfl | rfl | rfl | rfl | rfl | rfl | rfl | rfl | rfl
  ·exact⟨_,i9 rfl,by unfold O9;decide +kernel⟩
  ·exact⟨_,i9 rfl,by unfold O9;decide +kernel⟩
  ·exact⟨_,i9 rfl,by unfold O9;decide +kernel⟩
  ·exact⟨_,i9 rfl,w40⟩
  ·exact⟨_,i9 rfl,wmx⟩
  ·exact⟨_,i9 rfl,by unfold O9;decide +kernel⟩
  ·exact⟨_,i9 rfl,wnm⟩
  ·exact⟨_,i9 rfl,wnm⟩
  ·exact⟨_,i9 rfl,wnm⟩
  ·exact⟨_,i9 rfl,wnm⟩
  ·exact⟨_,i9 rfl,wnm⟩
  ·exact⟨_,i9 rfl,wnm⟩
 obtain⟨g,hg,wg⟩:=get
 exact⟨e4,_,_,_,rfl,rfl,d7.of b0,hg,q g _ ((((b9 he).trans s1).trans s2).trans (b9 he4)) wg⟩
structure DS(H:Hp)(r u o:Addr)(ds:List i8)(us os:List Int)(H':Hp):Prop where
 sm:g6 H H'
 nr:H r=none
 nu:H u=none
 no:H o=none
 ru:r≠u
 ro:r≠o
 uo:u≠o
 made:∃xs,H' r=some (.lst xs)∧C1 H' ds xs
 und:H' u=some (.lst (us.map V.int))
 ove:H' o=some (.lst (os.map V.int))
 ok:∀d∈ds,X2 d
theorem DS.new{H H1 H2:Hp}{r u o:Addr}{ds:List i8}{us os:List Int}(d:DS H r u o ds us os H1)(s:g6 H1 H2):DS H r u o ds us os H2:=by
 obtain⟨xs,h1,h2⟩:=d.made
 exact⟨d.sm.trans s,d.nr,d.nu,d.no,d.ru,d.ro,d.uo,⟨xs,s _ _ h1,h2.tupK s.tupK⟩,s _ _ d.und,s _ _ d.ove,d.ok⟩
theorem DS.setU{H H1:Hp}{r u o:Addr}{ds:List i8}{us os:List Int}(d:DS H r u o ds us os H1)(ws:List Int):DS H r u o ds ws os (upd H1 u (.lst (ws.map V.int))):=by
 obtain⟨xs,h1,h2⟩:=d.made
 exact⟨l8 d.sm d.nu,d.nr,d.nu,d.no,d.ru,d.ro,d.uo,⟨xs,by rw[b7 d.ru];exact h1,h2.tupK (p9 d.und)⟩,b0,by rw[b7 (Ne.symm d.uo)];exact d.ove,d.ok⟩
theorem DS.setO{H H1:Hp}{r u o:Addr}{ds:List i8}{us os:List Int}(d:DS H r u o ds us os H1)(ws:List Int):DS H r u o ds us ws (upd H1 o (.lst (ws.map V.int))):=by
 obtain⟨xs,h1,h2⟩:=d.made
 exact⟨l8 d.sm d.no,d.nr,d.nu,d.no,d.ru,d.ro,d.uo,⟨xs,by rw[b7 d.ro];exact h1,h2.tupK (p9 d.ove)⟩,by rw[b7 d.uo];exact d.und,b0,d.ok⟩
theorem DS.oth{H H1:Hp}{r u o b:Addr}{ds:List i8}{us os:List Int}{ys zs:List V}(d:DS H r u o ds us os H1)(hb:H b=none)(n1:r≠b)(n2:u≠b)(n3:o≠b)(hl:H1 b=some (.lst ys)):DS H r u o ds us os (upd H1 b (.lst zs)):=by
 obtain⟨xs,h1,h2⟩:=d.made
 exact⟨l8 d.sm hb,d.nr,d.nu,d.no,d.ru,d.ro,d.uo,⟨xs,by rw[b7 n1];exact h1,h2.tupK (p9 hl)⟩,by rw[b7 n2];exact d.und,by rw[b7 n3];exact d.ove,d.ok⟩
theorem DS.apart{H H1:Hp}{r u o b:Addr}{ds:List i8}{us os:List Int}(d:DS H r u o ds us os H1)(hb:H1 b=none):H b=none∧r≠b∧u≠b∧o≠b:=by
 obtain⟨xs,h1,h2⟩:=d.made
 refine⟨?_,(fun z=>by rw[←z,h1]at hb;cases hb),(fun z=>by rw[←z,d.und]at hb;cases hb),(fun z=>by rw[←z,d.ove]at hb;cases hb)⟩
 cases z:H b with
 | none=>rfl
 | some o=>rw[d.sm _ _ z]at hb;cases hb
theorem DS.add{H H1:Hp}{r u o:Addr}{ds:List i8}{us os:List Int}(d:DS H r u o ds us os H1){e:i8}{x:V}(hx:a7p H1 e x)(he:X2 e)(hz:ds.length≤1000)(Q:VK)(q:∀H2,DS H r u o (ds++[e]) us os H2→Q .non H2) :
  b7x (.ref r) [x] H1 Q:=by
 obtain⟨xs,h1,h2⟩:=d.made
 have k:=p9 (o:=.lst (xs++[x])) h1
 refine⟨r,xs,x,rfl,rfl,h1,by rw[h2.len];exact Y4 hz,q _ ⟨l8 d.sm d.nr,d.nr,d.nu,d.no,d.ru,d.ro,d.uo,⟨_,b0,?_⟩,by rw[b7 (Ne.symm d.ru)];exact d.und,by rw[b7 (Ne.symm d.ro)];exact d.ove,fun z hz=>?_⟩⟩
 ·obtain⟨p,e1,e2⟩:=hx
  exact(h2.tupK k).snoc ⟨p,e1,k.1 _ _ e2⟩
 ·rcases aA8.mp hz with hz | hz
  ·exact d.ok z hz
  ·rw[aA3.mp hz];exact he
theorem cut{E G:Prop}(f:E→G)(h:E):G:=f h
theorem a1r{ns:List Int}(h:0<ns.length)(c:Int):∃z,F8 (ns.map V.int) (c % (((ns.map V.int).length:Nat):Int))=some (.int z)∧z∈ns:=by
 rw[aA0]
 obtain⟨j,hj,e⟩:=a6o h c
 rw[e]
 exact⟨ns[j],i9 (by rw[aB4,List.getElem?_eq_getElem hj];rfl),aG8 hj⟩
theorem b1z(x y:Int)(k:Bool):∃z,F8 [V.int x,V.int y] (if k=true then 1 else 0)=some (.int z):=by
 cases k
 ·exact⟨x,i9 (j:=0) rfl⟩
 ·exact⟨y,i9 (j:=1) rfl⟩
theorem b7j(x y z:Int)(c:Int):∃v,F8 [V.int x,V.int y,V.int z] (c % 3)=some (.int v)∧(v=x∨v=y∨v=z):=by
 obtain⟨j,hj,e⟩:=a6o (n:=3) (by decide) c
 have e:c % 3=(j:Int):=e
 rw[e]
 rcases(show j=0∨j=1∨j=2 by omega) with rfl | rfl | rfl
 ·exact⟨x,i9 rfl,.inl rfl⟩
 ·exact⟨y,i9 rfl,.inr (.inl rfl)⟩
 ·exact⟨z,i9 rfl,.inr (.inr rfl)⟩
theorem a4G{K:PySem.W.Frag}{H:Hp}:∀ns:List Int,p7 K H (ns.map PyData.int) (ns.map V.int)
 | []=>rfl
 | n::ns=>⟨_,_,rfl,by unfold Rep;rfl,a4G ns⟩
theorem a0P:∀ns:List Int,PyData.canLayAll0 (ns.map PyData.int)=true
 | []=>by rw[aJ5,PyData.canLayAll0]
 | n::ns=>by rw[aC1,PyData.canLayAll0,a0P ns];simp[PyData.canLay0]
theorem a6A:∀ns:List Int,PyData.depthAll (ns.map PyData.int)≤1
 | []=>by rw[aJ5,PyData.depthAll];omega
 | n::ns=>by rw[aC1,PyData.depthAll];have:=a6A ns;simp[PyData.depth];omega
theorem b7k(c:Int):∃z,F8 [V.int 0,V.int 0,V.int 0,V.int 1,V.int 2,V.int 4,V.int 3] (c % 7)=some (.int z)∧0≤z∧z<5:=by
 obtain⟨j,hj,e⟩:=a6o (n:=7) (by decide) c
 have e:c % 7=(j:Int):=e
 rw[e]
 rcases(show j=0∨j=1∨j=2∨j=3∨j=4∨j=5∨j=6 by omega) with rfl | rfl | rfl | rfl | rfl | rfl | rfl<;>exact⟨_,i9 rfl,by decide,by decide⟩
inductive a4E(K:PySem.W.Frag)(vs:List V)(H:Hp)(Q:VK):Prop
 | mk (a:Addr) (ns:List Int) (x0:vs=[.ref a]) (x1:d7 K H a (ns.map V.int)) (x2:ns.length≤200) (xq:∀(r:Addr) (xs:List V) (ds:List i8) (H':Hp),g6 H H'→H' r=some (.lst xs)→C1 H' ds xs→ds.length=ns.length→(∀d∈ds,X2 d)→H r=none→Q (.ref r) H')
def a5K(K:PySem.W.Frag):Sp:=fun vs H Q _=>a4E K vs H Q
theorem a4J(T:A7 K mg t):g9 P w K mg base y9 2 t.f__law_deeds t.d__law_deeds ["_law_cells"] (a5K K):=by
 refine T.F__law_deeds.ok p5 (fun vs H Q E h=>?_) (fun cdv A outer s H vs Q E hr h=>?_)
 ·obtain⟨a,ns,rfl,_⟩:=h
  rfl
 obtain⟨a,ns,rfl,hS,hl,q⟩:=h
 refine⟨_,(b8 (g7 (i:=1) p5.nd rfl (Or.inl rfl) (m7 b6))
 (b8 (g7 (i:=2) p5.nd rfl (Or.inl rfl) (m7 b6))
 (b8 (g7 (i:=3) p5.nd rfl (Or.inl rfl) (m7 b6))
 (b8 (g7 (i:=4) p5.nd rfl (Or.inl rfl) d5)
 (b8 (g7 (i:=5) p5.nd rfl (Or.inl rfl) (d9 l7 (m7 (a6 d5 (a6 (d9 l7 (m7 (a6 d5 (a6 d5 b6))) (C9 a3I rfl T.m_int boot_int (a6 (Q1 a0y (e7 g8 rfl T.m_len aC2 (a6 (pv 0) b6)) d5 (i6 _)) b6)) (fun _ _=>rfl)) b6))) (j6 K5 (e7 g8 rfl T.m_len aC2 (a6 (pv 0) b6)) d5) (fun _ _=>rfl)))
 (b8 (g7 (i:=6) p5.nd rfl (Or.inl rfl) (d9 l7 (m7 (a6 d5 (a6 d5 (a6 d5 b6)))) (j6 K5 (j6 a2r (e7 (a9Q rfl) rfl T.m_sum boot_sum (a6 (P2 U0 (pv 0) U1 (T6 d5)) b6)) d5) d5) (fun _ _=>rfl)))
 (b8 (z9 aE4 rfl (N6 rfl T.m_range (a6 (e7 g8 rfl T.m_len aC2 (a6 (pv 0) b6)) b6)) (l4 (i:=7) p5.nd rfl (Or.inl rfl))
 (b8 (g7 (i:=8) p5.nd rfl (Or.inl rfl) (j6 K5 (j6 F7 (d9 l7 (pv 0) (pv 7) (fun _ _=>rfl)) (j6 b1g d5 (pv 7))) d5))
 (b8 (g7 (i:=9) p5.nd rfl (Or.inl rfl) (j6 a2r (d9 l7 (pv 0) (pv 7) (fun _ _=>rfl)) d5))
 (b8 (g7 (i:=10) p5.nd rfl (Or.inl rfl) (d9 l7 (pv 0) (j6 K5 (j6 F7 (pv 7) d5) (e7 g8 rfl T.m_len aC2 (a6 (pv 0) b6))) (fun _ _=>rfl)))
 (b8 (g7 (i:=11) p5.nd rfl (Or.inl rfl) (j8 (g9.mono (k:=1) (a4Q T) (by decide)) hr rfl T.m__law_ware T.F__law_ware.kp T.F__law_ware.b .nil k8 (a6 (j6 K5 (j6 F7 (pv 10) (pv 7)) (pv 6)) (a6 (j6 K5 (j6 a2r (e7 (a9Q rfl) rfl T.m_sum boot_sum (a6 (P2 U0 (pv 0) U1 (T6 d5)) b6)) d5) d5) b6))))
 (c9 (k7 (PW.pt (Q9 (f7 a0y (pv 8) d5 (i6 _)) (O7 (f7 z8 (j6 K5 (j6 F7 (pv 8) (pv 9)) d5) d5 (i6 _)))))
 (c9 (m6 (u6 aB1 aB6 aB8 o6 (pv 1) (a6 (v3 (a6 m5 b6)) b6))))
 (c9 (k7 (f7 z8 (pv 8) d5 (i6 _))
 (b8 (g7 (i:=12) p5.nd rfl (Or.inl rfl) (j6 U7 (m7 (a6 (pv 4) (a6 (j6 F7 (pv 4) d5) (a6 (b1c a3S d5) (a6 (j6 a4g d5 d5) (a6 (j6 N0 (b1c a3S d5) (j6 K5 (pv 10) (j6 a4g d5 d5))) b6)))))) (pv 3)))
 (b8 (g7 (i:=13) p5.nd rfl (Or.inl rfl) (d9 l7 (pv 12) (j6 K5 (j6 a2r (pv 10) d5) (e7 g8 rfl T.m_len aC2 (a6 (pv 12) b6))) (fun _ _=>rfl)))
 (b8 (g7 (i:=14) p5.nd rfl (Or.inl rfl) (m7 (a6 (v3 (a6 m5 (a6 (pv 13) (a6 (pv 11) b6)))) (a6 (v3 (a6 m5 (a6 (pv 13) b6))) (a6 (v3 (a6 m5 (a6 (pv 13) b6))) b6)))))
 (b8 (m6 (u6 aB1 aB6 aB8 o6 (pv 14) (a6 (v3 (a6 m5 (a6 (pv 13) (a6 (pv 11) (a6 d5 b6))))) b6)))
 (c9 (m6 (u6 aB1 aB6 aB8 o6 (pv 1) (a6 (d9 l7 (pv 14) (j6 K5 (d9 l7 (pv 0) (j6 K5 (j6 F7 (pv 7) d5) (e7 g8 rfl T.m_len aC2 (a6 (pv 0) b6))) (fun _ _=>rfl)) d5) (fun _ _=>rfl)) b6))))))))
 (c9 (k7 (PW.pt (L7 (f7 (b7w hr.units) (pv 2) (m7 b6) (i6 _)) (J3 (PW.pt (Q9 (f7 a3e (pv 8) d5 (i6 _)) (O7 (f7 a3e (e7 g8 rfl T.m_len aC2 (a6 (pv 2) b6)) (pv 5) (i6 _))))))))
 (b8 (m6 (u6 aB1 aB6 aB8 o6 (pv 1) (a6 (v3 (a6 m5 b6)) b6)))
 (b8 (m6 (u6 aB1 aB6 aB8 o6 (pv 2) (a6 (pv 4) b6)))
 (c9 (g7 (i:=4) p5.nd rfl (Or.inl rfl) (j6 F7 (pv 4) d5)))))
 (b8 (g7 (i:=15) p5.nd rfl (Or.inl rfl) (d9 l7 (pv 2) (j6 K5 (j6 F7 (pv 9) (pv 7)) (e7 g8 rfl T.m_len aC2 (a6 (pv 2) b6))) (fun _ _=>rfl)))
 (c9 (k7 (f7 a3e (pv 8) d5 (i6 _))
 (c9 (m6 (u6 aB1 aB6 aB8 o6 (pv 1) (a6 (v3 (a6 m5 (a6 (pv 15) (a6 (pv 11) b6)))) b6))))
 (c9 (k7 (f7 a3e (pv 8) d5 (i6 _))
 (b8 (g7 (i:=16) p5.nd rfl (Or.inl rfl) (m7 (a6 (j6 N0 (j6 b1g d5 (pv 7)) d5) (a6 d5 (a6 (j6 F7 (j6 a4g d5 d5) (pv 7)) (a6 (j6 N0 (b1c a3S (j6 a4g d5 d5)) (pv 7)) b6))))))
 (b8 (m6 (u6 aB1 aB6 aB8 o6 (pv 16) (a6 (j6 K5 (pv 10) (j6 N0 (j6 b9s (j6 a4g d5 d5) (j6 a4g d5 d5)) d5)) b6)))
 (b8 (g7 (i:=17) p5.nd rfl (Or.inl rfl) (d9 l7 (pv 16) (d9 l7 (m7 (a6 d5 (a6 d5 (a6 d5 (a6 d5 (a6 d5 (a6 d5 (a6 d5 b6)))))))) (j6 K5 (j6 F7 (pv 9) (pv 7)) d5) (fun _ _=>rfl)) (fun _ _=>rfl)))
 (c9 (m6 (u6 aB1 aB6 aB8 o6 (pv 1) (a6 (v3 (a6 m5 (a6 (pv 15) (a6 (pv 11) (a6 (pv 17) b6))))) b6)))))))
 (b8 (m6 (u6 aB1 aB6 aB8 o6 (pv 1) (a6 (v3 (a6 (d9 l7 (m7 (a6 m5 (a6 m5 b6))) (C9 a3I rfl T.m_int boot_int (a6 (Q1 z8 (pv 8) d5 (i6 _)) b6)) (fun _ _=>rfl)) (a6 (pv 15) b6))) b6)))
 (b8 (m6 (u6 aB1 aQ9 PySem.F.type_list_remove a4I (pv 2) (a6 (pv 15) b6)))
 (c9 (m6 (u6 aB1 aB6 aB8 o6 (pv 3) (a6 (pv 15) b6))))))))))))))))))))))
 (c9 (i4 (pv 1)))))))))),?_⟩
 have ln:(ns.map V.int).length=ns.length:=aA0 _
 refine⟨(n9 0),fun r hr0=>⟨(n9 0),fun u hu0=>⟨(n9 0),fun o ho0=>?_⟩⟩⟩
 have s1:=b9 (o:=.lst []) hr0
 have s2:=b9 (o:=.lst []) hu0
 have s3:=b9 (o:=.lst []) ho0
 have back:∀{H1:Hp} {b:Addr},g6 H H1→H1 b=none→H b=none:=fun {H1 b} s h=>by
  cases z:H b with
  | none=>rfl
  | some o=>rw[s _ _ z]at h;cases h
 have D0:DS H r u o [] [] [] (upd (upd (upd H r (.lst [])) u (.lst [])) o (.lst [])):=
  ⟨(s1.trans s2).trans s3,hr0,back s1 hu0,back (s1.trans s2) ho0,(fun z=>by rw[←z,b0]at hu0;cases hu0),(fun z=>by rw[←z,s2 _ _ b0]at ho0;cases ho0),(fun z=>by rw[←z,b0]at ho0;cases ho0),
   ⟨[],s3 _ _ (s2 _ _ b0),.nil⟩,s3 _ _ b0,b0,fun d h=>by simp at h⟩
 generalize upd (upd (upd H r (.lst [])) u (.lst [])) o (.lst [])=H1 at D0 ⊢
 have hS1:=hS.same D0.sm
 refine⟨(n9 2),fun e1 he1=>?_⟩
 have D1:=D0.new (b9 (o:=.lst [.int 9,.int 200]) he1)
 obtain⟨m1,hm1⟩:=b1z 9 200 (decide ((63:Int)<(((ns.map V.int).length:Nat):Int)))
 refine⟨_,rfl,a,_,rfl,.inl (hS.same D1.sm),_,_,rfl,rfl,.inr ⟨_,rfl,e1,_,_,_,rfl,rfl,d7.of b0,hm1,(n9 2),fun e2 he2=>?_⟩⟩
 have D2:=D1.new (b9 (o:=.lst [.int 4,.int m1]) he2)
 obtain⟨m2,hm2⟩:∃z,F8 [V.int 4,V.int m1] ((((ns.map V.int).length:Nat):Int) % 2)=some (.int z):=by
  obtain⟨j,hj,e⟩:=a6o (n:=2) (by decide) (((ns.map V.int).length:Nat):Int)
  have e:(((ns.map V.int).length:Nat):Int) % 2=(j:Int):=e
  rw[e]
  rcases(show j=0∨j=1 by omega) with rfl | rfl
  ·exact⟨_,i9 rfl⟩
  ·exact⟨_,i9 rfl⟩
 refine⟨_,rfl,a,_,rfl,.inl (hS.same D2.sm),_,_,rfl,rfl,(by show(0:Int)<2;decide),e2,_,_,_,rfl,rfl,d7.of b0,hm2,?_⟩
 generalize upd (upd H1 e1 (.lst [.int 9,.int 200])) e2 (.lst [.int 4,.int m1])=H2 at D2 ⊢
 have ec:a2f (ns.map V.int) none (some 1)=(ns.take 1).map V.int:=by rw[show(1:Int)=((1:Nat):Int) from rfl,a1Q,List.map_take]
 refine⟨(n9 3),fun e3 he3=>?_⟩
 have D3:=D2.new (b9 (o:=.lst [.int 3,.int 3,.int 12]) he3)
 refine⟨_,rfl,_,rfl,a,_,rfl,hS.same D3.sm,fun c hc=>?_⟩
 rw[ec]
 have D4:=D3.new (b9 (o:=.lst ((ns.take 1).map V.int)) hc)
 obtain⟨sz,hsz,hsv⟩:=b7j 3 3 12 (a9B (ns.take 1)/16)
 have hsz0:0<sz∧sz≤12:=by rcases hsv with rfl | rfl | rfl<;>decide
 refine⟨c,_,rfl,d7.of b0,_,_,rfl,rfl,⟨by decide,by decide⟩,_,_,rfl,rfl,(by show(0:Int)<3;decide),e3,_,_,_,rfl,rfl,d7.of (b9 hc _ _ b0),hsz,?_⟩
 generalize upd (upd H2 e3 (.lst [.int 3,.int 3,.int 12])) c (.lst ((ns.take 1).map V.int))=H3 at D4 ⊢
 refine⟨_,rfl,a,_,rfl,.inl (hS.same D4.sm),_,rfl,by omega,by omega,?_⟩
 have en:((((ns.map V.int).length:Nat):Int)).toNat=ns.length:=by omega
 rw[en]
 refine N7 (fun i σ' H'=>∃(bg:Int) (ds:List i8) (us os:List Int) (o7 o8 o9 oA oB oC oD oE oF oG oH:Option V),σ'=[some (.ref a),some (.ref r),some (.ref u),some (.ref o),some (.int bg),some (.int m2),some (.int sz),o7,o8,o9,oA,oB,oC,oD,oE,oF,oG,oH] ∧
   DS H r u o ds us os H'∧ds.length=i∧us.length≤i∧os.length≤i)
  ⟨0,[],[],[],none,none,none,none,none,none,none,none,none,none,none,rfl,D4,rfl,aB3 _,aB3 _⟩ (fun i σ' H' hi h=>?_) (fun σ' H' h=>?_)
 ·obtain⟨bg,ds,us,os,o7,o8,o9,oA,oB,oC,oD,oE,oF,oG,oH,rfl,D,lds,lus,los⟩:=h
  have np:0<ns.length:=by omega
  have npi:(0:Int)<(((ns.map V.int).length:Nat):Int):=by omega
  have hSd:=hS.same D.sm
  have e0:(0:Int)+(i:Int)=((i:Nat):Int):=by omega
  have ax:F8 (ns.map V.int) ((0:Int)+(i:Int))=some (.int ns[i]):=by rw[e0];exact i9 (by rw[aB4,List.getElem?_eq_getElem hi];rfl)
  refine⟨_,rfl,_,rfl,a,_,_,_,rfl,rfl,hSd,ax,_,rfl,_,_,rfl,rfl,.inl ⟨by decide,by decide⟩,_,_,rfl,rfl,_,_,rfl,rfl,(by show(0:Int)<16;decide),?_⟩
  refine⟨_,rfl,_,rfl,a,_,_,_,rfl,rfl,hSd,ax,_,_,rfl,rfl,⟨by decide,by decide⟩,?_⟩
  obtain⟨near,hnear,_⟩:=a1r np (0+(i:Int)+1)
  refine⟨_,rfl,_,rfl,_,_,rfl,rfl,_,rfl,a,_,rfl,.inl hSd,_,_,rfl,rfl,npi,a,_,_,_,rfl,rfl,hSd,hnear,?_⟩
  have m40:=Int.emod_nonneg (a9B (ns.take 1)/48) (show(40:Int)≠0 by decide)
  have m40':=aU2 (a9B (ns.take 1)/48) (show(0:Int)<40 by decide)
  have msz:=Int.emod_nonneg (near+(0+(i:Int))) (show sz≠0 by omega)
  have msz':=aU2 (near+(0+(i:Int))) hsz0.1
  refine⟨_,rfl,_,rfl,_,_,rfl,rfl,_,rfl,_,_,rfl,rfl,hsz0.1,_,rfl,_,rfl,a,_,rfl,hSd,fun cc hcc=>?_⟩
  rw[ec]
  refine⟨cc,_,rfl,d7.of b0,_,_,rfl,rfl,⟨by decide,by decide⟩,_,_,rfl,rfl,(by show(0:Int)<40;decide),_,_,rfl,msz,by omega,m40,by omega,fun g H4 s4 wg=>?_⟩
  have E4:=(D.new (b9 (o:=.lst ((ns.take 1).map V.int)) hcc)).new s4
  generalize (ns[i]+5*(0+(i:Int))) % 16=pick
  generalize ns[i]/16=rest
  refine⟨_,rfl,_,_,rfl,rfl,_,rfl,?_⟩
  refine cut (fun hE=>K4 (fun c1=>⟨_,rfl,_,rfl,_,_,rfl,rfl,_,_,rfl,rfl,(by show(0:Int)<2;decide),rfl,_,rfl,K4 (fun c2=>?swC) (fun c2=>hE)⟩) (fun c1=>f6 hE)) ?_
  case swC=>
   refine⟨_,rfl,.inl ⟨rfl,_,d7.of E4.made.choose_spec.1⟩,(n9 1),fun p hp=>?_⟩
   have E5:=E4.new (b9 (o:=.tup [.str "sweep"]) hp)
   exact E5.add (e:=.sweep) ⟨p,rfl,b0⟩ trivial (by omega) _ fun H6 D'=>⟨_,_,_,_,_,_,_,_,_,_,_,_,_,_,_,rfl,D',by rw[aA7,lds];rfl,by omega,by omega⟩
  refine⟨_,rfl,rfl,_,rfl,K4 (fun c3=>?_) (fun c3=>?_)⟩
  ·
   refine⟨_,rfl,_,rfl,_,_,rfl,rfl,_,rfl,_,_,rfl,rfl,⟨by decide,by decide,by decide⟩,_,rfl,_,rfl,_,_,rfl,rfl,⟨by decide,by decide,by decide⟩,_,_,rfl,rfl,(by show(0:Int)<10 ^ Int.toNat 30;decide),_,_,rfl,rfl,(n9 5),fun e5 he5=>?_⟩
   refine⟨_,rfl,e5,o,_,_,rfl,rfl,b0,(E4.new (b9 he5)).ove,(by show 5+(os.map V.int).length≤sizeLine;rw[aA0,aF9];omega),fun e6 he6=>?_⟩
   have E6:=fun ob=>(E4.new (b9 he5)).new (b9 (o:=ob) he6)
   obtain⟨bad,hbad,_⟩:=a1r (ns:=[bg,bg+1,-1,10 ^ (9:Int).toNat,-2-near % 10 ^ (30:Int).toNat]++os) (by simp) (near/3)
   have hodd:∀Hx:Hp,d7 K (upd Hx e6 (.lst (([bg,bg+1,-1,10 ^ (9:Int).toNat,-2-near % 10 ^ (30:Int).toNat]++os).map V.int))) e6 (([bg,bg+1,-1,10 ^ (9:Int).toNat,-2-near % 10 ^ (30:Int).toNat]++os).map V.int):=fun Hx=>d7.of b0
   refine⟨_,rfl,_,rfl,_,_,rfl,rfl,⟨by decide,by decide⟩,_,rfl,e6,_,rfl,.inl (hodd _),_,_,rfl,rfl,(by rw[aA0,aA7];simp;omega),e6,_,_,_,rfl,rfl,hodd _,hbad,?_⟩
   refine⟨_,rfl,_,rfl,(n9 3),fun p1 hp1=>⟨_,rfl,(n9 2),fun p2 hp2=>⟨_,rfl,(n9 2),fun p3 hp3=>⟨(n9 3),fun em hem=>?_⟩⟩⟩⟩
   have E7:=(((E6 _).new (b9 hp1)).new (b9 hp2)).new (b9 (o:=.tup [.str "leave",.int bad]) hp3)
   obtain⟨a0,a1,a2,a3⟩:=E7.apart hem
   have E8:=E7.new (b9 (o:=.lst [.ref p1,.ref p2,.ref p3]) hem)
   refine⟨_,rfl,.inl ⟨rfl,_,d7.of b0⟩,_,rfl,_,rfl,(n9 4),fun p4 hp4=>?_⟩
   have E9:=E8.new (b9 (o:=.tup [.str "put",.int bad,.str g,.int 7]) hp4)
   have hm9:=b9 (o:=.tup [.str "put",.int bad,.str g,.int 7]) hp4 _ _ (b0 (H:=_) (a:=em) (o:=.lst [.ref p1,.ref p2,.ref p3]))
   refine⟨em,_,_,rfl,rfl,hm9,(zT_ 3),?_⟩
   have EA:=E9.oth (zs:=[.ref p1,.ref p2,.ref p3]++[.ref p4]) a0 a1 a2 a3 hm9
   obtain⟨c2,hc2,_⟩:=a1r np (0+(i:Int)+2)
   have d1:=(p9 (o:=.lst ([.ref p1,.ref p2,.ref p3]++[.ref p4])) hm9).1 _ _ ((F9 (o:=.tup [.str "put",.int bad,.str g,.int 7]) hp4).1 _ _ ((F9 hem).1 _ _ ((F9 hp3).1 _ _ ((F9 hp2).1 p1 [.str "look",.int bad,.str g] b0))))
   have d2:=(p9 (o:=.lst ([.ref p1,.ref p2,.ref p3]++[.ref p4])) hm9).1 _ _ ((F9 (o:=.tup [.str "put",.int bad,.str g,.int 7]) hp4).1 _ _ ((F9 hem).1 _ _ ((F9 hp3).1 p2 [.str "end",.int bad] b0)))
   have d3:=(p9 (o:=.lst ([.ref p1,.ref p2,.ref p3]++[.ref p4])) hm9).1 _ _ ((F9 (o:=.tup [.str "put",.int bad,.str g,.int 7]) hp4).1 _ _ ((F9 hem).1 p3 [.str "leave",.int bad] b0))
   have d4:=(p9 (o:=.lst ([.ref p1,.ref p2,.ref p3]++[.ref p4])) hm9).1 p4 [.str "put",.int bad,.str g,.int 7] b0
   have pk:∃(dd:i8) (b:Addr),F8 ([V.ref p1,V.ref p2,V.ref p3]++[V.ref p4]) (c2 % 4)=some (.ref b)∧((b=p1∧dd=.look bad g)∨(b=p2∧dd=.fin bad)∨(b=p3∧dd=.leave bad)∨(b=p4∧dd=.put bad g 7)):=by
    obtain⟨j,hj,e⟩:=a6o (n:=4) (by decide) c2
    have e:c2 % 4=(j:Int):=e
    rw[e]
    rcases(show j=0∨j=1∨j=2∨j=3 by omega) with rfl | rfl | rfl | rfl
    ·exact⟨.look bad g,_,i9 rfl,.inl ⟨rfl,rfl⟩⟩
    ·exact⟨.fin bad,_,i9 rfl,.inr (.inl ⟨rfl,rfl⟩)⟩
    ·exact⟨.leave bad,_,i9 rfl,.inr (.inr (.inl ⟨rfl,rfl⟩))⟩
    ·exact⟨.put bad g 7,_,i9 rfl,.inr (.inr (.inr ⟨rfl,rfl⟩))⟩
   obtain⟨dd,b,hx,hw⟩:=pk
   refine⟨_,rfl,.inl ⟨rfl,_,d7.of EA.made.choose_spec.1⟩,_,rfl,_,rfl,_,rfl,_,_,rfl,rfl,_,rfl,a,_,rfl,.inl (hS.same EA.sm),_,_,rfl,rfl,npi,a,_,_,_,rfl,rfl,hS.same EA.sm,hc2,_,_,rfl,rfl,(by show(0:Int)<4;decide),em,_,_,_,rfl,rfl,d7.of b0,hx,?_⟩
   refine EA.add (e:=dd) (x:=.ref b) ?_ ?_ (by omega) _ fun H6 D'=>⟨_,_,_,_,_,_,_,_,_,_,_,_,_,_,_,rfl,D',by rw[aA7,lds];rfl,by omega,by omega⟩
   ·rcases hw with ⟨rfl,rfl⟩ | ⟨rfl,rfl⟩ | ⟨rfl,rfl⟩ | ⟨rfl,rfl⟩
    ·exact⟨_,rfl,d1⟩
    ·exact⟨_,rfl,d2⟩
    ·exact⟨_,rfl,d3⟩
    ·exact⟨_,rfl,d4⟩
   ·rcases hw with ⟨rfl,rfl⟩ | ⟨rfl,rfl⟩ | ⟨rfl,rfl⟩ | ⟨rfl,rfl⟩
    ·exact wg
    ·trivial
    ·trivial
    ·exact wg
  ·
   refine⟨_,rfl,(n9 0),fun e5 he5=>?_⟩
   have s5:=b9 (o:=.lst []) he5
   have E5:=E4.new s5
   refine⟨.list (us.map PyData.int),.list [],by unfold Rep;exact⟨u,_,rfl,d7.of E5.und,a4G us⟩,by unfold Rep;exact⟨e5,[],rfl,d7.of b0,rfl⟩,?_,?_,?_,?_⟩
   ·unfold PyData.canLay0;exact a0P us
   ·simp[PyData.canLay0,PyData.canLayAll0]
   ·have:=a6A us;unfold PyData.depth;omega
   refine⟨_,rfl,?_⟩
   generalize upd H4 e5 (.lst [])=H5 at E5 ⊢
   refine cut (fun hB=>K4 (fun c4=>l6 hB) (fun c4=>cut (fun hE=>⟨_,rfl,_,_,rfl,rfl,_,rfl,K4 (fun c5=>⟨_,rfl,u,_,rfl,.inl (d7.of E5.und),_,rfl,_,_,rfl,rfl,_,rfl,K4 (fun c6=>hB) (fun c6=>hE)⟩) (fun c5=>f6 hE)⟩) ?els)) ?_
   case els=>
    have hus:0<us.length:=by
     rcases us with _ | ⟨z,us⟩
     ·simp[PyData.eqv,PyData.eqvAll]at c4
     ·simp
    obtain⟨who,hwho,hin⟩:=a1r hus (rest+(0+(i:Int)))
    refine⟨_,rfl,_,rfl,_,rfl,_,_,rfl,rfl,_,rfl,u,_,rfl,.inl (d7.of E5.und),_,_,rfl,rfl,(by rw[aA0];omega),u,_,_,_,rfl,rfl,d7.of E5.und,hwho,?_⟩
    refine⟨_,rfl,_,_,rfl,rfl,_,rfl,K4 (fun c7=>?_) (fun c7=>?_)⟩
    ·refine⟨_,rfl,.inl ⟨rfl,_,d7.of E5.made.choose_spec.1⟩,_,rfl,_,rfl,(n9 3),fun p hp=>?_⟩
     exact(E5.new (b9 (o:=.tup [.str "look",.int who,.str g]) hp)).add (e:=.look who g) ⟨p,rfl,b0⟩ wg (by omega) _ fun H6 D'=>⟨_,_,_,_,_,_,_,_,_,_,_,_,_,_,_,rfl,D',by rw[aA7,lds];rfl,by omega,by omega⟩
    refine⟨_,rfl,_,_,rfl,rfl,_,rfl,K4 (fun c8=>?_) (fun c8=>?_)⟩
    ·refine⟨_,rfl,_,_,rfl,rfl,.inl ⟨by decide,by decide⟩,_,_,rfl,rfl,_,_,rfl,rfl,⟨by decide,by decide,by decide⟩,_,rfl,_,_,rfl,rfl,_,_,rfl,rfl,⟨by decide,by decide,by decide⟩,_,rfl,_,rfl,_,_,rfl,rfl,(n9 4),fun ea hea=>?_⟩
     obtain⟨a0,a1,a2,a3⟩:=E5.apart hea
     have E6:=fun ob=>E5.new (b9 (o:=ob) hea)
     refine⟨_,rfl,.inl ⟨rfl,_,d7.of b0⟩,_,rfl,_,_,rfl,rfl,⟨by decide,by decide,by decide⟩,_,_,rfl,rfl,⟨by decide,by decide,by decide⟩,_,_,rfl,rfl,b4B,_,_,rfl,rfl,_,_,rfl,rfl,(by show(0:Int)<10 ^ (50:Int).toNat*10 ^ (50:Int).toNat-1;decide +kernel),ea,_,_,rfl,rfl,b0,(zT_ 4),?_⟩
     have E7:=fun(ys zs:List V)=>(E6 (.lst ys)).oth (zs:=zs) a0 a1 a2 a3 b0
     obtain⟨z7,hz7,z70,z75⟩:=b7k (rest+(0+(i:Int)))
     refine⟨_,rfl,(n9 7),fun eb heb=>?_⟩
     have am:∃am,F8 ([3*(0+(i:Int))-40,0,10 ^ (30:Int).toNat+(0+(i:Int)),-10 ^ (30:Int).toNat-(0+(i:Int)),near % (10 ^ (50:Int).toNat*10 ^ (50:Int).toNat-1)].map V.int) z7=some (.int am):=by
      obtain⟨j,rfl⟩:=Int.eq_ofNat_of_zero_le z70
      have hj:j<5:=by omega
      exact⟨_,i9 (by rw[aB4,List.getElem?_eq_getElem (by simpa using hj)];rfl)⟩
     obtain⟨am,ham⟩:=am
     have E8:=fun ob=>(E7 _ _).new (b9 (o:=ob) heb)
     refine⟨_,rfl,_,rfl,_,_,rfl,rfl,_,_,rfl,rfl,(by show(0:Int)<7;decide),eb,_,_,_,rfl,rfl,d7.of b0,hz7,ea,_,_,_,rfl,rfl,d7.of (b9 heb _ _ b0),ham,?_⟩
     refine⟨_,rfl,.inl ⟨rfl,_,d7.of (E8 _).made.choose_spec.1⟩,_,rfl,_,rfl,_,rfl,(n9 4),fun p hp=>?_⟩
     exact((E8 _).new (b9 (o:=.tup [.str "put",.int who,.str g,.int am]) hp)).add (e:=.put who g am) ⟨p,rfl,b0⟩ wg (by omega) _ fun H6 D'=>⟨_,_,_,_,_,_,_,_,_,_,_,_,_,_,_,rfl,D',by rw[aA7,lds];rfl,by omega,by omega⟩
    ·refine⟨_,rfl,.inl ⟨rfl,_,d7.of E5.made.choose_spec.1⟩,(n9 2),fun el hel=>?_⟩
     have E6:=E5.new (b9 (o:=.lst [.str "end",.str "leave"]) hel)
     obtain⟨wd,hwd,hdd⟩:∃wd:Str,F8 [V.str "end",V.str "leave"] (if decide (V.int pick=V.int 14)=true then 1 else 0)=some (.str wd)∧∃dd:i8,dv dd=[.str wd,.int who]∧X2 dd:=by
      cases decide (V.int pick=V.int 14)
      ·exact⟨_,i9 (j:=0) rfl,.fin who,rfl,trivial⟩
      ·exact⟨_,i9 (j:=1) rfl,.leave who,rfl,trivial⟩
     obtain⟨dd,edd,okdd⟩:=hdd
     refine⟨_,rfl,rfl,.inr ⟨_,rfl,el,_,_,_,rfl,rfl,d7.of b0,hwd,_,rfl,(n9 2),fun p hp=>?_⟩⟩
     refine(E6.new (b9 (o:=.tup [.str wd,.int who]) hp)).add (e:=dd) (x:=.ref p) ⟨p,rfl,by rw[edd];exact b0⟩ okdd (by omega) _ fun H6 D'=>?_
     obtain⟨j,hj,hf⟩:=a6i hin
     have le:=List.length_eraseIdx_le us j
     refine⟨_,rfl,.inl ⟨rfl,_,d7.of D'.und⟩,_,rfl,u,us,who,j,rfl,rfl,D'.und,hj,hf,?_⟩
     have DU:=D'.setU (us.eraseIdx j)
     refine⟨_,rfl,.inl ⟨rfl,_,d7.of DU.ove⟩,_,rfl,o,_,_,rfl,rfl,DU.ove,Y4 (by rw[aA0];omega),?_⟩
     rw[show os.map V.int++[V.int who]=(os++[who]).map V.int by simp]
     exact⟨_,_,_,_,_,_,_,_,_,_,_,_,_,_,_,rfl,DU.setO (os++[who]),by rw[aA7,lds];rfl,by omega,by rw[aA7];simp;omega⟩
   refine⟨_,rfl,.inl ⟨rfl,_,d7.of E5.made.choose_spec.1⟩,(n9 1),fun p hp=>?_⟩
   refine(E5.new (b9 (o:=.tup [.str "begin"]) hp)).add (e:=.begin) ⟨p,rfl,b0⟩ trivial (by omega) _ fun H6 D'=>?_
   refine⟨_,rfl,.inl ⟨rfl,_,d7.of D'.und⟩,_,rfl,u,_,_,rfl,rfl,D'.und,Y4 (by rw[aA0];omega),?_⟩
   rw[show us.map V.int++[V.int bg]=(us++[bg]).map V.int by simp]
   exact⟨_,rfl,_,_,rfl,rfl,⟨_,_,_,_,_,_,_,_,_,_,_,_,_,_,_,rfl,D'.setU (us++[bg]),by rw[aA7,lds];rfl,by rw[aA7];simp;omega,by omega⟩⟩
 ·obtain⟨bg,ds,us,os,o7,o8,o9,oA,oB,oC,oD,oE,oF,oG,oH,rfl,D,lds,lus,los⟩:=h
  obtain⟨xs,h1,h2⟩:=D.made
  exact⟨_,rfl,q r xs ds H' D.sm h1 h2 lds D.ok D.nr⟩
def dD:i8→PyData
 | .begin=>.tuple [.str "begin"]
 | .look n g=>.tuple [.str "look",.int n,.str g]
 | .put n g a=>.tuple [.str "put",.int n,.str g,.int a]
 | .fin n=>.tuple [.str "end",.int n]
 | .leave n=>.tuple [.str "leave",.int n]
 | .sweep=>.tuple [.str "sweep"]
theorem a7p.rep{K:PySem.W.Frag}{H:Hp}{d:i8}{x:V}(h:a7p H d x):Rep K H (dD d) x:=by
 obtain⟨p,rfl,h⟩:=h
 cases d with
 | begin=>unfold dD;simp only[Rep,p7];exact⟨p,_,rfl,i5.of h,_,_,rfl,rfl,rfl⟩
 | sweep=>unfold dD;simp only[Rep,p7];exact⟨p,_,rfl,i5.of h,_,_,rfl,rfl,rfl⟩
 | fin n=>unfold dD;simp only[Rep,p7];exact⟨p,_,rfl,i5.of h,_,_,rfl,rfl,_,_,rfl,rfl,rfl⟩
 | leave n=>unfold dD;simp only[Rep,p7];exact⟨p,_,rfl,i5.of h,_,_,rfl,rfl,_,_,rfl,rfl,rfl⟩
 | look n g=>unfold dD;simp only[Rep,p7];exact⟨p,_,rfl,i5.of h,_,_,rfl,rfl,_,_,rfl,rfl,_,_,rfl,rfl,rfl⟩
 | put n g a=>unfold dD;simp only[Rep,p7];exact⟨p,_,rfl,i5.of h,_,_,rfl,rfl,_,_,rfl,rfl,_,_,rfl,rfl,_,_,rfl,rfl,rfl⟩
theorem C1.reps{K:PySem.W.Frag}{H:Hp}:∀{ds:List i8} {xs:List V},C1 H ds xs→p7 K H (ds.map dD) xs
 | _,_,.nil=>rfl
 | _,_,.cons h t=>⟨_,_,rfl,h.rep,C1.reps t⟩
theorem Run.trace{s0 st:j5}{ds:List i8}{as:List u9}(h:Run s0 ds as st):∃f:Nat→j5,f 0=s0∧f ds.length=st∧∀i d a,ds[i]?=some d→as[i]?=some a→Step (f i) d a (f (i+1)):=by
 induction h with
 | nil=>exact⟨fun _=>s0,rfl,rfl,fun i d a h=>by simp at h⟩
 | @snoc ds as st st' d a R S ih=>
  obtain⟨f,f0,f1,fs⟩:=ih
  have la:=a3C R
  refine⟨fun i=>if i=ds.length+1 then st' else f i,?_,?_,fun i e b he hb=>?_⟩
  ·show(if 0=ds.length+1 then _ else _)=_
   rw[aA4 (by omega)];exact f0
  ·show(if (ds++[d]).length=ds.length+1 then _ else _)=_
   rw[aB0 (by simp)]
  ·have li:i<ds.length+1:=by have:=(aA2.mp he).1;simpa using this
   show Step (if i=_ then _ else _) e b (if i+1=_ then _ else _)
   rw[aA4 (by omega)]
   by_cases c:i=ds.length
   ·subst c
    rw[aB0 rfl]
    rw[aE9 (aB3 _)]at he
    rw[aE9 (by omega)]at hb
    simp at he
    rw[la]at hb;simp at hb
    subst he;subst hb
    rw[f1];exact S
   ·rw[aA4 (by omega)]
    rw[aE1 (by omega)]at he
    rw[aE1 (by omega)]at hb
    exact fs i e b he hb
theorem Run.oks{s0 st:j5}{ds:List i8}{as:List u9}{f:Nat→j5}(f0:f 0=s0)(o:G0 s0)(la:as.length=ds.length)(fs:∀i d a,ds[i]?=some d→as[i]?=some a→Step (f i) d a (f (i+1))):∀i,i≤ds.length→G0 (f i):=by
 intro i
 induction i with
 | zero=>intro _;rw[f0];exact o
 | succ i ih=>
  intro h
  have hd:=List.getElem?_eq_getElem (l:=ds) (i:=i) (by omega)
  have ha:=List.getElem?_eq_getElem (l:=as) (i:=i) (by omega)
  exact a4W (ih (by omega)) (fs i _ _ hd ha)
theorem D6.same{rl:Addr→Role}{H H':Hp}(s:g6 H H'){a:u9}{x:V}(h:D6 rl H a x):D6 rl H' a x:=by
 cases a with
 | num i=>exact h
 | word s=>exact h
 | non=>exact h
 | ring rg=>
  obtain⟨l,zs,e,h1,h2,h3⟩:=h
  exact⟨l,zs,e,s _ _ h1,h2.tupK s.tupK,h3⟩
def una(st:j5):List Int:=st.under.map (·.num)
theorem erase_filter{n:Int}:∀{ns:List Int} {j:Nat},ns.Nodup→ns[j]?=some n→ns.eraseIdx j=ns.filter fun k=>decide (k≠n)
 | [],j,_,h=>by simp at h
 | m::ns,0,nd,h=>by
  have e:m=n:=by simpa using h
  subst e
  rw[aG7]at nd
  rw[aH8]
  simp only[ne_eq,not_true_eq_false,decide_false,aI8,aP1,List.eraseIdx_zero,List.tail_cons]
  exact(aS9.mpr fun k hk=>by
   have:k≠m:=fun z=>nd.1 (by rw[←z];exact hk)
   simpa using this).symm
 | m::ns,j+1,nd,h=>by
  rw[aG7]at nd
  have h:ns[j]?=some n:=by simpa using h
  have:m≠n:=fun z=>nd.1 (by rw[z];exact aC5 h)
  rw[aK9,aH8,erase_filter nd.2 h]
  simp[this]
theorem b8u(n:Int)(ks:List Int):inV (.int n) (ks.map V.int)=decide (n∈ks):=by
 unfold inV
 induction ks with
 | nil=>rfl
 | cons k ks ih=>
  rw[aC1,aK5,ih]
  have e:eqV (.int k) (.int n)=decide (k=n):=by
   show(k==n)=_
   by_cases z:k=n
   ·subst z;simp
   ·rw[aB7 z];simpa using z
  rw[e]
  by_cases z:k=n
  ·subst z;simp
  ·have z':¬n=k:=fun w=>z w.symm
   simp[z,z']
theorem b4h(ks:List Int):(ks.map V.int).all X8=true:=by
 induction ks with
 | nil=>rfl
 | cons k ks ih=>rw[aC1,aU1,ih];rfl
structure Gd(st:j5):Prop where
 lk:∀d∈st.under,∀g∈d.looked,O9 g
 as:∀d∈st.under,∀p∈d.aside,O9 p.1
 rl:∀r∈st.recs,∀g∈r.looked,O9 g
 rp:∀r∈st.recs,∀g∈r.put,O9 g
theorem gd0:Gd P0:=⟨(fun d h=>nomatch h),(fun d h=>nomatch h),(fun d h=>nomatch h),(fun d h=>nomatch h)⟩
theorem a1T{ks:List Str}{g h:Str}(z:h∈C3 ks g):h∈ks∨h=g:=by
 unfold C3 at z
 split at z
 ·exact .inl z
 ·rcases aA8.mp z with z | z
  ·exact .inl z
  ·exact .inr (aA3.mp z)
theorem a3R{m:Am}{g:Str}{a:Int}{p:Str×Int}(z:p∈D9 m g a):(∃q∈m,q.1=p.1)∨p.1=g:=by
 unfold D9 at z
 split at z
 ·obtain⟨q,hq,rfl⟩:=aA5.mp z
  refine .inl ⟨q,hq,?_⟩
  split<;>rfl
 ·rcases aA8.mp z with z | z
  ·exact .inl ⟨p,z,rfl⟩
  ·rw[aA3.mp z];exact .inr rfl
theorem M9.good{st:j5}(h:Gd st){d:Dl}(hd:d∈st.under){e:Int}{r:Rec}(k:M9 d e r):(∀g∈r.looked,O9 g)∧∀g∈r.put,O9 g:=by
 obtain⟨_,_,_,p1,p2,_⟩:=k
 refine⟨fun g hg=>h.lk d hd g (p1.mem_iff.mp hg),fun g hg=>?_⟩
 obtain⟨p,hp,rfl⟩:=aA5.mp (p2.mem_iff.mp hg)
 exact h.as d hd p hp
theorem b0s{st st':j5}{d:i8}{a:u9}(h:Gd st)(ok:X2 d)(s:Step st d a st'):Gd st':=by
 have leave:∀n,Gd (v9 st n):=fun n=>⟨fun d hd=>h.lk d (aD5.mp hd).1,fun d hd=>h.as d (aD5.mp hd).1,h.rl,h.rp⟩
 cases s with
 | begin=>
  refine⟨fun d hd=>?_,fun d hd=>?_,h.rl,h.rp⟩
  ·rcases aA8.mp hd with hd | hd
   ·exact h.lk d hd
   ·rw[aA3.mp hd];exact fun g z=>nomatch z
  ·rcases aA8.mp hd with hd | hd
   ·exact h.as d hd
   ·rw[aA3.mp hd];exact fun g z=>nomatch z
 | sweep _=>exact⟨h.lk,h.as,h.rl,h.rp⟩
 | none _ _=>exact h
 | own _ _=>exact h
 | @look d g _ _=>
  refine⟨fun e he=>?_,fun e he=>?_,h.rl,h.rp⟩
  ·obtain⟨e',he',rfl | rfl⟩:=C6 he
   ·exact h.lk _ he'
   ·intro k hk
    rcases a1T hk with hk | rfl
    ·exact h.lk _ he' k hk
    ·exact ok
  ·obtain⟨e',he',rfl | rfl⟩:=C6 he
   ·exact h.as _ he'
   ·exact h.as e' he'
 | @put d g a _=>
  refine⟨fun e he=>?_,fun e he=>?_,h.rl,h.rp⟩
  ·obtain⟨e',he',rfl | rfl⟩:=C6 he
   ·exact h.lk _ he'
   ·exact h.lk e' he'
  ·obtain⟨e',he',rfl | rfl⟩:=C6 he
   ·exact h.as _ he'
   ·intro p hp
    rcases a3R hp with ⟨q,hq,e⟩ | e
    ·rw[←e];exact h.as _ he' q hq
    ·rw[e];exact ok
 | leave _=>exact leave _
 | ring _ _=>exact leave _
 | @ended d r cs row hd E=>
  have g:=E.rc.good h hd
  refine⟨fun d hd=>h.lk d (aD5.mp hd).1,fun d hd=>h.as d (aD5.mp hd).1,fun o ho=>?_,fun o ho=>?_⟩
  ·rcases aA8.mp ho with ho | ho
   ·exact h.rl o ho
   ·rw[aA3.mp ho];exact g.1
  ·rcases aA8.mp ho with ho | ho
   ·exact h.rp o ho
   ·rw[aA3.mp ho];exact g.2
theorem Run.gds{s0:j5}{ds:List i8}{as:List u9}{f:Nat→j5}(f0:f 0=s0)(o:Gd s0)(la:as.length=ds.length)(okd:∀d∈ds,X2 d)(fs:∀i d a,ds[i]?=some d→as[i]?=some a→Step (f i) d a (f (i+1))):∀i,i≤ds.length→Gd (f i):=by
 intro i
 induction i with
 | zero=>intro _;rw[f0];exact o
 | succ i ih=>
  intro h
  have hd:=List.getElem?_eq_getElem (l:=ds) (i:=i) (by omega)
  have ha:=List.getElem?_eq_getElem (l:=as) (i:=i) (by omega)
  exact b0s (ih (by omega)) (okd _ (aC5 hd)) (fs i _ _ hd ha)
theorem J0{A:(L2.St→Hp→Prop)→Prop}{R:L2.St→Hp→Prop}{σ:L2.St}{H:Hp}(h:A fun σ' H'=>σ'=σ∧H'=H)(r:R σ H):∃M,A M∧∀σ' H',M σ' H'→R σ' H':=
 ⟨_,h,fun _ _ z=>by rw[z.1,z.2];exact r⟩
theorem U9{A:(L2.St→Hp→Prop)→Prop}{R:L2.St→Hp→Prop}{σ:L2.St}(Pr:Hp→Prop)(h:A fun σ' H'=>σ'=σ∧Pr H')(r:∀H',Pr H'→R σ H'):∃M,A M∧∀σ' H',M σ' H'→R σ' H':=
 ⟨_,h,fun _ _ z=>by rw[z.1];exact r _ z.2⟩
theorem b4e(d:i8):d=.begin∨d=.sweep∨∃w n ws,dv d=.str w::.int n::ws∧numOf d=some n∧w≠"begin"∧w≠"sweep":=by
 cases d with
 | begin=>exact .inl rfl
 | sweep=>exact .inr (.inl rfl)
 | _=>exact .inr (.inr ⟨_,_,_,rfl,rfl,by decide,by decide⟩)
theorem b3h{st st':j5}{d:i8}{a:u9}{n:Int}(s:Step st d a st')(hn:numOf d=some n)(h:n∉una st):st'=st:=by
 have no:∀{x:Dl},x∈st.under→x.num=n→False:=fun {x} hx e=>h (by rw[←e];exact aA5.mpr ⟨x,hx,rfl⟩)
 cases s with
 | none _ _=>rfl
 | begin=>cases hn
 | sweep _=>cases hn
 | own hd _=>rfl
 | look hd _=>exact(no hd (aD1 hn)).elim
 | put hd=>exact(no hd (aD1 hn)).elim
 | leave hd=>exact(no hd (aD1 hn)).elim
 | ended hd _=>exact(no hd (aD1 hn)).elim
 | ring hd _=>exact(no hd (aD1 hn)).elim
abbrev Try:=Nat×Rec×List Rec
structure WG where
 rl:Addr→Role
 lk:Int→Addr
 as:Int→Addr
 bg:Int→Int
def gOf(rl:Addr→Role):Gh:=⟨rl,0,0,0,0,0,0,fun _=>0,fun _=>0,fun _=>0,fun _=>0,fun _=>0⟩
theorem ur{rl:Addr→Role}{H:Hp}{a b:Addr}{o u:HO}{ρ σ:Role}(e:H b=some u)(h:rl b=σ)(k:rl a=ρ)(n:σ≠ρ):upd H a o b=some u:=d8 (G:=gOf rl) e h k n
def nat(n:Nat):List Int:=(List.range n).map Int.ofNat
theorem a1g{n:Nat}{i:Int}:i∈nat n↔0≤i∧i<(n:Int):=by
 unfold nat
 rw[aA5]
 constructor
 ·rintro⟨k,hk,rfl⟩
  rw[aP6]at hk
  exact⟨Int.natCast_nonneg k,Int.ofNat_lt.mpr hk⟩
 ·rintro⟨h1,h2⟩
  exact⟨i.toNat,aP6.mpr (by omega),aT1 h1⟩
theorem a3v(n:Nat):nat (n+1)=nat n++[(n:Int)]:=by
 unfold nat;rw[List.range_succ,aB2];rfl
theorem a8b(n:Nat):(nat n).length=n:=by unfold nat;simp
def Q3(rl:Addr→Role)(H:Hp)(y:Try)(x:V):Prop:=∃b lb v zs,x=.ref b∧H b=some (.tup [.int (y.1:Int),v,.ref lb])∧RcAt rl H y.2.1 v∧H lb=some (.lst zs)∧rl lb=.fz∧Paired (RcAt rl H) y.2.2 zs
theorem Q3.same{rl:Addr→Role}{H H':Hp}{y:Try}{x:V}(s:g6 H H')(h:Q3 rl H y x):Q3 rl H' y x:=
 let ⟨b,lb,v,zs,e,h1,h2,h3,h4,h5⟩:=h;⟨b,lb,v,zs,e,s _ _ h1,h2.same s,s _ _ h3,h4,Paired.mapP h5 fun _ _ z=>z.same s⟩
theorem RcAt.updR{rl:Addr→Role}{H:Hp}{a:Addr}{o:HO}{ρ:Role}{r:Rec}{x:V}(h:RcAt rl H r x)(k:rl a=ρ)(n:Role.fz≠ρ)(t:u0 H (L2.upd H a o)):RcAt rl (L2.upd H a o) r x:=RcAt.upd (G:=gOf rl) h k n t
theorem Q3.upd{rl:Addr→Role}{H:Hp}{a:Addr}{o:HO}{ρ:Role}{y:Try}{x:V}(h:Q3 rl H y x)(k:rl a=ρ)(n:Role.fz≠ρ)(t:u0 H (L2.upd H a o)):Q3 rl (L2.upd H a o) y x:=
 let ⟨b,lb,v,zs,e,h1,h2,h3,h4,h5⟩:=h;⟨b,lb,v,zs,e,t.1 _ _ h1,h2.updR k n t,ur h3 h4 k n,h4,Paired.mapP h5 fun _ _ z=>z.updR k n t⟩
theorem RcAt.rl{rl rl':Addr→Role}{H:Hp}(e:∀b,rl b=.fz→rl' b=.fz){r:Rec}{x:V}(h:RcAt rl H r x):RcAt rl' H r x:=
 let ⟨b,la,pa,x,h1,h2,h3,h4,h5⟩:=h;⟨b,la,pa,x,h1,h2,h3,e _ h4,e _ h5⟩
theorem Q3.rl{rl rl':Addr→Role}{H:Hp}(g:∀b,rl b=.fz→rl' b=.fz){y:Try}{x:V}(h:Q3 rl H y x):Q3 rl' H y x:=
 let ⟨b,lb,v,zs,e,h1,h2,h3,h4,h5⟩:=h;⟨b,lb,v,zs,e,h1,h2.rl g,h3,g _ h4,Paired.mapP h5 fun _ _ z=>z.rl g⟩
theorem a7j(m:Am)(g:Str)(a:Int):(D9 m g a).map (·.1)=if g∈m.map (·.1) then m.map (·.1) else m.map (·.1)++[g]:=by
 rw[b1e]
 have e:((m.any fun p=>decide (p.1=g))=true)↔g∈m.map (·.1):=by
  rw[aO0,aA5]
  exact⟨fun⟨p,h,e⟩=>⟨p,h,by simpa using e⟩,fun⟨p,h,e⟩=>⟨p,h,by simpa using e⟩⟩
 by_cases c:g∈m.map (·.1)
 ·rw[aB0 c,aB0 (e.mpr c)]
 ·rw[aA4 c,aA4 fun z=>c (e.mp z)]
structure WD(W:WG)(H:Hp)(d:Dl):Prop where
 lk:H (W.lk d.num)=some (.lst (d.looked.map V.str))
 as:H (W.as d.num)=some (.lst ((d.aside.map (·.1)).map V.str))
 bg:W.bg d.num=d.beg
 r2:W.rl (W.lk d.num)=.look d.num
 r3:W.rl (W.as d.num)=.side d.num
structure WA(S L M R Y:Addr)(W:WG)(H0 H:Hp)(st:j5)(tr:List Try):Prop where
 sm:g6 H0 H
 nw:∀b,W.rl b≠.free→H0 b=none
 sn:H S=some (.dK (l5 (una st) fun n=>.int (W.bg n)))
 lo:H L=some (.dK (l5 (nat st.begun) fun n=>.ref (W.lk n)))
 la:H M=some (.dK (l5 (nat st.begun) fun n=>.ref (W.as n)))
 rc:∃xs,H R=some (.lst xs)∧Paired (RcAt W.rl H) st.recs xs
 ty:∃ys,H Y=some (.lst ys)∧Paired (Q3 W.rl H) tr ys
 dl:∀d∈st.under,WD W H d
 r1:W.rl S=.under
 r2:W.rl L=.vers
 r3:W.rl M=.tally
 r4:W.rl R=.recs
 r5:W.rl Y=.deal 0
 cl:∀b,H b=none→W.rl b=.free
section
variable{S L M R Y:Addr}{W:WG}{H0 H:Hp}{st:j5}{tr:List Try}
theorem WA.new{H':Hp}(h:WA S L M R Y W H0 H st tr)(s:g6 H H'):WA S L M R Y W H0 H' st tr where
 sm:=h.sm.trans s
 nw:=h.nw
 sn:=s _ _ h.sn
 lo:=s _ _ h.lo
 la:=s _ _ h.la
 rc:=let ⟨xs,a,b⟩:=h.rc;⟨xs,s _ _ a,Paired.mapP b fun _ _ z=>z.same s⟩
 ty:=let ⟨xs,a,b⟩:=h.ty;⟨xs,s _ _ a,Paired.mapP b fun _ _ z=>z.same s⟩
 dl:=fun d hd=>let D:=h.dl d hd;⟨s _ _ D.lk,s _ _ D.as,D.bg,D.r2,D.r3⟩
 r1:=h.r1
 r2:=h.r2
 r3:=h.r3
 r4:=h.r4
 r5:=h.r5
 cl:=fun b e=>h.cl b (j7 s e)
theorem WA.cong{st':j5}(h:WA S L M R Y W H0 H st tr)(e1:st'.begun=st.begun)(e2:st'.under=st.under)(e3:st'.recs=st.recs):WA S L M R Y W H0 H st' tr:=
 ⟨h.sm,h.nw,by unfold una;rw[e2];exact h.sn,by rw[e1];exact h.lo,by rw[e1];exact h.la,by rw[e3];exact h.rc,h.ty,by rw[e2];exact h.dl,h.r1,h.r2,h.r3,h.r4,h.r5,h.cl⟩
def wfz(W:WG)(as:List Addr):WG:={ W with rl:=fun b=>if b∈as then .fz else W.rl b }
theorem a0S{as:List Addr}{a:Addr}(h:a∈as):(wfz W as).rl a=.fz:=aB0 h
theorem b1d{as:List Addr}(b:Addr)(h:W.rl b=.fz):(wfz W as).rl b=.fz:=by
 show(if b∈as then _ else _)=_
 split
 ·rfl
 ·exact h
theorem WA.fz(h:WA S L M R Y W H0 H st tr){as:List Addr}(ha:∀a∈as,W.rl a=.free∧H0 a=none∧∃o,H a=some o):WA S L M R Y (wfz W as) H0 H st tr:=by
 have kp:∀b ρ,W.rl b=ρ→ρ≠.free→(wfz W as).rl b=ρ:=fun b ρ e n=>by
  show(if b∈as then _ else _)=_
  rw[aA4 fun z=>n (by rw[←e,(ha b z).1])];exact e
 refine⟨h.sm,fun b hb=>?_,h.sn,h.lo,h.la,?_,?_,fun d hd=>?_,kp _ _ h.r1 (by simp),kp _ _ h.r2 (by simp),kp _ _ h.r3 (by simp),kp _ _ h.r4 (by simp),kp _ _ h.r5 (by simp),fun b e=>?_⟩
 ·by_cases c:b∈as
  ·exact(ha b c).2.1
  ·refine h.nw b fun z=>hb ?_
   show(if b∈as then _ else _)=_
   rw[aA4 c];exact z
 ·obtain⟨xs,a,b⟩:=h.rc
  exact⟨xs,a,Paired.mapP b fun _ _ z=>z.rl b1d⟩
 ·obtain⟨xs,a,b⟩:=h.ty
  exact⟨xs,a,Paired.mapP b fun _ _ z=>z.rl b1d⟩
 ·have D:=h.dl d hd
  exact⟨D.lk,D.as,D.bg,kp _ _ D.r2 (by simp),kp _ _ D.r3 (by simp)⟩
 ·show(if b∈as then _ else _)=_
  rw[aA4 fun z=>by obtain⟨_,_,o,w⟩:=ha b z;rw[e]at w;cases w]
  exact h.cl b e
theorem WA.smU(h:WA S L M R Y W H0 H st tr){a:Addr}(k:W.rl a≠.free)(o:HO):g6 H0 (upd H a o):=l8 h.sm (h.nw a k)
theorem a8v{n:Int}{f:Dl→Dl}(hf:∀d,(f d).num=d.num):una { st with under:=C8 st.under n f }=una st:=L5 hf
theorem WA.setLk(h:WA S L M R Y W H0 H st tr)(nd:(una st).Nodup){d:Dl}(hd:d∈st.under){g:Str}(hg:g∉d.looked) :
  WA S L M R Y W H0 (upd H (W.lk d.num) (.lst (d.looked.map V.str++[.str g]))) { st with under:=C8 st.under d.num (S1 g) } tr:=by
 have D:=h.dl d hd
 have t:u0 H (upd H (W.lk d.num) (.lst (d.looked.map V.str++[.str g]))):=p9 D.lk
 refine⟨h.smU (by rw[D.r2];simp) _,h.nw,?_,ur h.lo h.r2 D.r2 (by simp),ur h.la h.r3 D.r2 (by simp),?_,?_,fun e he=>?_,h.r1,h.r2,h.r3,h.r4,h.r5,fun b e=>h.cl b (p8 e)⟩
 ·rw[a8v (f:=S1 g) fun _=>rfl];exact ur h.sn h.r1 D.r2 (by simp)
 ·obtain⟨xs,a,b⟩:=h.rc
  exact⟨xs,ur a h.r4 D.r2 (by simp),Paired.mapP b fun _ _ z=>z.updR D.r2 (by simp) t⟩
 ·obtain⟨xs,a,b⟩:=h.ty
  exact⟨xs,ur a h.r5 D.r2 (by simp),Paired.mapP b fun _ _ z=>z.upd D.r2 (by simp) t⟩
 ·obtain⟨e',he',rfl⟩:=aA5.mp he
  have E:=h.dl e' he'
  by_cases c:e'.num=d.num
  ·have:e'=d:=G7 nd he' hd c
   subst this
   rw[aB0 rfl]
   refine⟨?_,ur E.as E.r3 E.r2 (by simp),E.bg,E.r2,E.r3⟩
   rw[show(S1 g e').num=e'.num from rfl,b0]
   show _=some (HO.lst ((C3 e'.looked g).map V.str))
   unfold C3
   rw[aA4 hg,aB2];rfl
  ·rw[aA4 c]
   exact⟨ur E.lk E.r2 D.r2 (by simpa using c),ur E.as E.r3 D.r2 (by simp),E.bg,E.r2,E.r3⟩
theorem WA.setAs(h:WA S L M R Y W H0 H st tr)(nd:(una st).Nodup){d:Dl}(hd:d∈st.under){g:Str}{x:Int}(hg:g∉d.aside.map (·.1)) :
  WA S L M R Y W H0 (upd H (W.as d.num) (.lst ((d.aside.map (·.1)).map V.str++[.str g]))) { st with under:=C8 st.under d.num (S0 g x) } tr:=by
 have D:=h.dl d hd
 have t:u0 H (upd H (W.as d.num) (.lst ((d.aside.map (·.1)).map V.str++[.str g]))):=p9 D.as
 refine⟨h.smU (by rw[D.r3];simp) _,h.nw,?_,ur h.lo h.r2 D.r3 (by simp),ur h.la h.r3 D.r3 (by simp),?_,?_,fun e he=>?_,h.r1,h.r2,h.r3,h.r4,h.r5,fun b e=>h.cl b (p8 e)⟩
 ·rw[a8v (f:=S0 g x) fun _=>rfl];exact ur h.sn h.r1 D.r3 (by simp)
 ·obtain⟨xs,a,b⟩:=h.rc
  exact⟨xs,ur a h.r4 D.r3 (by simp),Paired.mapP b fun _ _ z=>z.updR D.r3 (by simp) t⟩
 ·obtain⟨xs,a,b⟩:=h.ty
  exact⟨xs,ur a h.r5 D.r3 (by simp),Paired.mapP b fun _ _ z=>z.upd D.r3 (by simp) t⟩
 ·obtain⟨e',he',rfl⟩:=aA5.mp he
  have E:=h.dl e' he'
  by_cases c:e'.num=d.num
  ·have:e'=d:=G7 nd he' hd c
   subst this
   rw[aB0 rfl]
   refine⟨ur E.lk E.r2 E.r3 (by simp),?_,E.bg,E.r2,E.r3⟩
   rw[show(S0 g x e').num=e'.num from rfl,b0]
   show _=some (HO.lst (((D9 e'.aside g x).map (·.1)).map V.str))
   rw[a7j,aA4 hg,aB2];rfl
  ·rw[aA4 c]
   exact⟨ur E.lk E.r2 D.r3 (by simp),ur E.as E.r3 D.r3 (by simpa using c),E.bg,E.r2,E.r3⟩
theorem WA.mod(h:WA S L M R Y W H0 H st tr){n:Int}{f:Dl→Dl}(hf:∀d,(f d).num=d.num∧(f d).beg=d.beg)(hk:∀d∈st.under,d.num=n→(f d).looked=d.looked∧(f d).aside.map (·.1)=d.aside.map (·.1)):WA S L M R Y W H0 H { st with under:=C8 st.under n f } tr:=by
 refine⟨h.sm,h.nw,?_,h.lo,h.la,h.rc,h.ty,fun e he=>?_,h.r1,h.r2,h.r3,h.r4,h.r5,h.cl⟩
 ·rw[a8v fun d=>(hf d).1];exact h.sn
 ·obtain⟨e',he',rfl⟩:=aA5.mp he
  have E:=h.dl e' he'
  by_cases c:e'.num=n
  ·rw[aB0 c]
   obtain⟨k1,k2⟩:=hk e' he' c
   have n1:=(hf e').1
   exact⟨by rw[n1,k1];exact E.lk,by rw[n1,k2];exact E.as,by rw[n1,(hf e').2];exact E.bg,by rw[n1];exact E.r2,by rw[n1];exact E.r3⟩
  ·rw[aA4 c];exact E
theorem WA.drop(h:WA S L M R Y W H0 H st tr)(n:Int):WA S L M R Y W H0 (upd H S (.dK (J1 (l5 (una st) fun n=>.int (W.bg n)) (Sum.inl n)))) (v9 st n) tr:=by
 have t:∀o,u0 H (upd H S o):=fun o=>J8 h.sn
 refine⟨h.smU (by rw[h.r1];simp) _,h.nw,?_,ur h.lo h.r2 h.r1 (by simp),ur h.la h.r3 h.r1 (by simp),?_,?_,fun e he=>?_,h.r1,h.r2,h.r3,h.r4,h.r5,fun b e=>h.cl b (p8 e)⟩
 ·rw[b0,a0l]
  show some (HO.dK (l5 _ _))=some (HO.dK (l5 ((N2 st.under n).map (·.num)) _))
  rw[W6];rfl
 ·obtain⟨xs,a,b⟩:=h.rc
  exact⟨xs,ur a h.r4 h.r1 (by simp),Paired.mapP b fun _ _ z=>z.updR h.r1 (by simp) (t _)⟩
 ·obtain⟨xs,a,b⟩:=h.ty
  exact⟨xs,ur a h.r5 h.r1 (by simp),Paired.mapP b fun _ _ z=>z.upd h.r1 (by simp) (t _)⟩
 ·have E:=h.dl e (aD5.mp he).1
  exact⟨ur E.lk E.r2 h.r1 (by simp),ur E.as E.r3 h.r1 (by simp),E.bg,E.r2,E.r3⟩
theorem WA.addY(h:WA S L M R Y W H0 H st tr){y:Try}{x:V}{ys:List V}(hy:H Y=some (.lst ys))(hx:Q3 W.rl H y x):WA S L M R Y W H0 (upd H Y (.lst (ys++[x]))) st (tr++[y]):=by
 have t:∀o,u0 H (upd H Y o):=fun o=>p9 hy
 obtain⟨zs,z1,z2⟩:=h.ty
 rw[hy]at z1;cases z1
 refine⟨h.smU (by rw[h.r5];simp) _,h.nw,ur h.sn h.r1 h.r5 (by simp),ur h.lo h.r2 h.r5 (by simp),ur h.la h.r3 h.r5 (by simp),?_,⟨_,b0,aK3 (Paired.mapP z2 fun _ _ z=>z.upd h.r5 (by simp) (t _)) (hx.upd h.r5 (by simp) (t _))⟩,fun e he=>?_,h.r1,h.r2,h.r3,h.r4,h.r5,fun b e=>h.cl b (p8 e)⟩
 ·obtain⟨xs,a,b⟩:=h.rc
  exact⟨xs,ur a h.r4 h.r5 (by simp),Paired.mapP b fun _ _ z=>z.updR h.r5 (by simp) (t _)⟩
 ·have E:=h.dl e he
  exact⟨ur E.lk E.r2 h.r5 (by simp),ur E.as E.r3 h.r5 (by simp),E.bg,E.r2,E.r3⟩
theorem WA.addR(h:WA S L M R Y W H0 H st tr){r:Rec}{x:V}{xs:List V}(hR:H R=some (.lst xs))(hx:RcAt W.rl H r x):WA S L M R Y W H0 (upd H R (.lst (xs++[x]))) { st with recs:=st.recs++[r] } tr:=by
 have t:∀o,u0 H (upd H R o):=fun o=>p9 hR
 obtain⟨zs,z1,z2⟩:=h.rc
 rw[hR]at z1;cases z1
 refine⟨h.smU (by rw[h.r4];simp) _,h.nw,ur h.sn h.r1 h.r4 (by simp),ur h.lo h.r2 h.r4 (by simp),ur h.la h.r3 h.r4 (by simp),⟨_,b0,aK3 (Paired.mapP z2 fun _ _ z=>z.updR h.r4 (by simp) (t _)) (hx.updR h.r4 (by simp) (t _))⟩,?_,fun e he=>?_,h.r1,h.r2,h.r3,h.r4,h.r5,fun b e=>h.cl b (p8 e)⟩
 ·obtain⟨xs,a,b⟩:=h.ty
  exact⟨xs,ur a h.r5 h.r4 (by simp),Paired.mapP b fun _ _ z=>z.upd h.r4 (by simp) (t _)⟩
 ·have E:=h.dl e he
  exact⟨ur E.lk E.r2 h.r4 (by simp),ur E.as E.r3 h.r4 (by simp),E.bg,E.r2,E.r3⟩
def a6p(W:WG)(n b:Int)(l1 l2:Addr):WG:=⟨fun x=>if x=l1 then .look n else if x=l2 then .side n else W.rl x,fun m=>if m=n then l1 else W.lk m,fun m=>if m=n then l2 else W.as m,fun m=>if m=n then b else W.bg m⟩
theorem a5q{ks:List Int}{f g:Int→V}(h:∀k∈ks,f k=g k):l5 ks f=l5 ks g:=aD9 fun k hk=>by rw[h k hk]
theorem WA.begin(h:WA S L M R Y W H0 H st tr)(ok:G0 st){l1 l2:Addr}{H1:Hp}(n1:H l1=none)(n2:H l2=none)(n12:l1≠l2)(g1:H1 l1=some (.lst []))(g2:H1 l2=some (.lst []))
  (bt:∀b o,b≠S→b≠L→b≠M→H b=some o→H1 b=some o) (tk:u0 H H1)
  (hs:H1 S=some (.dK (putK (l5 (una st) fun n=>.int (W.bg n)) (Sum.inl (st.begun:Int)) (.int (st.recs.length:Int)))))
  (hl:H1 L=some (.dK (putK (l5 (nat st.begun) fun n=>.ref (W.lk n)) (Sum.inl (st.begun:Int)) (.ref l1))))
  (hm:H1 M=some (.dK (putK (l5 (nat st.begun) fun n=>.ref (W.as n)) (Sum.inl (st.begun:Int)) (.ref l2)))) :
  WA S L M R Y (a6p W (st.begun:Int) (st.recs.length:Int) l1 l2) H0 H1 (a2A st) tr:=by
 have new:∀d∈st.under,d.num≠(st.begun:Int):=ok.new
 have nin:(st.begun:Int)∉una st:=fun z=>by obtain⟨d,hd,e⟩:=aA5.mp z;exact new d hd e
 have nin2:(st.begun:Int)∉nat st.begun:=fun z=>by have:=(a1g.mp z).2;omega
 have f1:=h.cl l1 n1
 have f2:=h.cl l2 n2
 have kp:∀b ρ,W.rl b=ρ→ρ≠.free→(a6p W (st.begun:Int) (st.recs.length:Int) l1 l2).rl b=ρ:=fun b ρ e n=>by
  show(if b=l1 then _ else if b=l2 then _ else _)=_
  rw[aA4 fun z=>n (by rw[←e,z,f1]),aA4 fun z=>n (by rw[←e,z,f2])];exact e
 have off:∀b o ρ,H b=some o→W.rl b=ρ→ρ≠.under→ρ≠.vers→ρ≠.tally→H1 b=some o:=fun b o ρ e r a1 a2 a3=>bt b o (fun z=>a1 (by rw[←r,z,h.r1])) (fun z=>a2 (by rw[←r,z,h.r2])) (fun z=>a3 (by rw[←r,z,h.r3])) e
 have rcK:∀{r:Rec} {x:V},RcAt W.rl H r x→RcAt (a6p W (st.begun:Int) (st.recs.length:Int) l1 l2).rl H1 r x:=fun {r x} ⟨b,la,pa,e,a1,a2,a3,a4,a5⟩=>
  ⟨b,la,pa,e,tk.1 _ _ a1,off _ _ _ a2 a4 (by simp) (by simp) (by simp),off _ _ _ a3 a5 (by simp) (by simp) (by simp),kp _ _ a4 (by simp),kp _ _ a5 (by simp)⟩
 have h0:∀b,H b=none→H0 b=none:=fun b e=>j7 h.sm e
 refine⟨fun b o e=>?_,fun b hb=>?_,?_,?_,?_,?_,?_,fun d hd=>?_,kp _ _ h.r1 (by simp),kp _ _ h.r2 (by simp),kp _ _ h.r3 (by simp),kp _ _ h.r4 (by simp),kp _ _ h.r5 (by simp),fun b e=>?_⟩
 ·have nn:∀c ρ,W.rl c=ρ→ρ≠.free→b≠c:=fun c ρ r n z=>by rw[z,h.nw c (by rw[r];exact n)] at e;cases e
  exact bt b o (nn S _ h.r1 (by simp)) (nn L _ h.r2 (by simp)) (nn M _ h.r3 (by simp)) (h.sm _ _ e)
 ·by_cases c1:b=l1
  ·rw[c1];exact h0 _ n1
  by_cases c2:b=l2
  ·rw[c2];exact h0 _ n2
  refine h.nw b fun z=>hb ?_
  show(if b=l1 then _ else if b=l2 then _ else _)=_
  rw[aA4 c1,aA4 c2];exact z
 ·rw[hs,J9,aA4 nin]
  show some (HO.dK (l5 _ _))=some (HO.dK (l5 ((st.under++([⟨(st.begun:Int),(st.recs.length:Int),[],[]⟩]:List Dl)).map (·.num)) _))
  rw[aB2]
  congr 2
  refine a5q fun k _=>?_
  show(if k=_ then _ else _)=V.int (if k=_ then _ else _)
  split<;>rfl
 ·rw[hl,J9,aA4 nin2]
  show some (HO.dK (l5 _ _))=some (HO.dK (l5 (nat (st.begun+1)) _))
  rw[a3v]
  congr 2
  refine a5q fun k _=>?_
  show(if k=_ then _ else _)=V.ref (if k=_ then _ else _)
  split<;>rfl
 ·rw[hm,J9,aA4 nin2]
  show some (HO.dK (l5 _ _))=some (HO.dK (l5 (nat (st.begun+1)) _))
  rw[a3v]
  congr 2
  refine a5q fun k _=>?_
  show(if k=_ then _ else _)=V.ref (if k=_ then _ else _)
  split<;>rfl
 ·obtain⟨xs,a,b⟩:=h.rc
  exact⟨xs,off _ _ _ a h.r4 (by simp) (by simp) (by simp),Paired.mapP b fun _ _ z=>rcK z⟩
 ·obtain⟨xs,a,b⟩:=h.ty
  refine⟨xs,off _ _ _ a h.r5 (by simp) (by simp) (by simp),Paired.mapP b fun _ _ ⟨b,lb,v,zs,e,z1,z2,z3,z4,z5⟩=>⟨b,lb,v,zs,e,tk.1 _ _ z1,rcK z2,off _ _ _ z3 z4 (by simp) (by simp) (by simp),kp _ _ z4 (by simp),Paired.mapP z5 fun _ _ z=>rcK z⟩⟩
 ·rcases aA8.mp hd with hd | hd
  ·have D:=h.dl d hd
   have nn:=new d hd
   have e1:(a6p W (st.begun:Int) (st.recs.length:Int) l1 l2).lk d.num=W.lk d.num:=aA4 nn
   have e2:(a6p W (st.begun:Int) (st.recs.length:Int) l1 l2).as d.num=W.as d.num:=aA4 nn
   have e3:(a6p W (st.begun:Int) (st.recs.length:Int) l1 l2).bg d.num=W.bg d.num:=aA4 nn
   exact⟨by rw[e1];exact off _ _ _ D.lk D.r2 (by simp) (by simp) (by simp),by rw[e2];exact off _ _ _ D.as D.r3 (by simp) (by simp) (by simp),by rw[e3];exact D.bg,by rw[e1];exact kp _ _ D.r2 (by simp),by rw[e2];exact kp _ _ D.r3 (by simp)⟩
  ·rw[aA3.mp hd]
   have e1:(a6p W (st.begun:Int) (st.recs.length:Int) l1 l2).lk (st.begun:Int)=l1:=aB0 rfl
   have e2:(a6p W (st.begun:Int) (st.recs.length:Int) l1 l2).as (st.begun:Int)=l2:=aB0 rfl
   refine⟨by show H1 (WG.lk _ _)=_;rw[e1];exact g1,by show H1 (WG.as _ _)=_;rw[e2];exact g2,aB0 rfl,by show WG.rl _ (WG.lk _ _)=_;rw[e1];exact aB0 rfl,?_⟩
   show WG.rl _ (WG.as _ _)=_
   rw[e2]
   show(if l2=l1 then _ else if l2=l2 then _ else _)=_
   rw[aA4 (Ne.symm n12),aB0 rfl]
 ·have hb:H b=none:=by
   cases z:H b with
   | none=>rfl
   | some o=>
    by_cases c1:b=S
    ·rw[c1,hs]at e;cases e
    by_cases c2:b=L
    ·rw[c2,hl]at e;cases e
    by_cases c3:b=M
    ·rw[c3,hm]at e;cases e
    rw[bt b o c1 c2 c3 z]at e;cases e
  show(if b=l1 then _ else if b=l2 then _ else _)=_
  rw[aA4 (fun z=>by rw[z,g1]at e;cases e),aA4 (fun z=>by rw[z,g2]at e;cases e)]
  exact h.cl b hb
end
def both(ks ms:List Str):List Str:=ks.filter fun g=>decide (g∈ms)
theorem a8w(ks ms:List Str):(both ks ms).length≤ks.length:=aG6 _ _
theorem T4(ks ms:List Str)(g:Str):both (ks++[g]) ms=if g∈ms then both ks ms++[g] else both ks ms:=by
 unfold both
 rw[aL3]
 by_cases c:g∈ms
 ·rw[aB0 c];simp[c]
 ·rw[aA4 c];simp[c]
theorem a5b(g:Str)(ks:List Str):inV (.str g) (ks.map V.str)=decide (g∈ks):=by
 unfold inV
 induction ks with
 | nil=>rfl
 | cons k ks ih=>
  rw[aC1,aK5,ih]
  have e:eqV (.str k) (.str g)=decide (k=g):=by
   show(k==g)=_
   by_cases z:k=g
   ·subst z;simp
   ·rw[aB7 z];simpa using z
  rw[e]
  by_cases z:k=g
  ·subst z;simp
  ·have z':¬g=k:=fun w=>z w.symm
   simp[z,z']
theorem T3(ks:List Str):(ks.map V.str).all X8=true:=by
 induction ks with
 | nil=>rfl
 | cons k ks ih=>rw[aC1,aU1,ih];rfl
theorem a5e{K:PySem.W.Frag}{H:Hp}:∀ks:List Str,p7 K H (ks.map PyData.str) (ks.map V.str)
 | []=>rfl
 | _::ks=>⟨_,_,rfl,rfl,a5e ks⟩
theorem W2:∀{ks:List Str},(∀g∈ks,O9 g)→PyData.canLayAll0 (ks.map PyData.str)=true
 | [],_=>by rw[aJ5,PyData.canLayAll0]
 | k::ks,h=>by rw[aC1,PyData.canLayAll0,W2 fun g hg=>h g (aC4 _ hg),PyData.canLay0,(h k aD0).1];rfl
theorem Q0:∀ks:List Str,PyData.depthAll (ks.map PyData.str)≤1
 | []=>by simp[PyData.depthAll]
 | k::ks=>by
  rw[aC1,PyData.depthAll]
  have:=Q0 ks
  have:(PyData.str k).depth≤1:=by simp[PyData.depth]
  omega
theorem a7w(ks:List Str):(if true=true then !PyData.eqv (.list (ks.map PyData.str)) (.list []) else PyData.eqv (.list (ks.map PyData.str)) (.list []))=!ks.isEmpty:=by
 rw[aB0 rfl]
 cases ks<;>simp[PyData.eqv,PyData.eqvAll]
def a5w(o r:Rec):Bool:=decide (o.fin<r.fin)&&!(both o.put r.put).isEmpty
def a2w(o r:Rec):Bool:=decide (o.fin≤r.beg)&&!(both o.put r.looked).isEmpty
def a2P(o r:Rec):Bool:=decide (o.beg<r.fin)&&!(both o.looked r.put).isEmpty
def lnk(o r:Rec):Bool:=a5w o r||(a2w o r||a2P o r)
theorem a8C{ks ms:List Str}:(!(both ks ms).isEmpty)=true↔∃g,g∈ks∧g∈ms:=by
 unfold both
 constructor
 ·intro h
  cases e:ks.filter fun g=>decide (g∈ms) with
  | nil=>rw[e]at h;cases h
  | cons g t=>
   have:g∈ks.filter fun g=>decide (g∈ms):=by rw[e];exact aD0
   obtain⟨a,b⟩:=aD5.mp this
   exact⟨g,a,by simpa using b⟩
 ·rintro⟨g,a,b⟩
  have:g∈ks.filter fun g=>decide (g∈ms):=aD5.mpr ⟨a,by simpa using b⟩
  cases e:ks.filter fun g=>decide (g∈ms) with
  | nil=>rw[e]at this;cases this
  | cons g t=>rfl
theorem a9V{o r:Rec}:lnk o r=true↔∃l,a7m o r l:=by
 unfold lnk a5w a2w a2P
 rw[Bool.or_eq_true,Bool.or_eq_true,aF2,aF2,aF2,a8C,a8C,a8C,aT2,aT2,aT2]
 constructor
 ·rintro(⟨a,g,b,c⟩ | ⟨a,g,b,c⟩ | ⟨a,g,b,c⟩)
  ·exact⟨(o.num,r.num,g,"over"),rfl,rfl,.inl ⟨rfl,a,b,c⟩⟩
  ·exact⟨(o.num,r.num,g,"saw"),rfl,rfl,.inr (.inl ⟨rfl,a,b,c⟩)⟩
  ·exact⟨(o.num,r.num,g,"missed"),rfl,rfl,.inr (.inr ⟨rfl,a,b,c⟩)⟩
 ·rintro⟨l,_,_,⟨_,a,b,c⟩ | ⟨_,a,b,c⟩ | ⟨_,a,b,c⟩⟩
  ·exact .inl ⟨a,_,b,c⟩
  ·exact .inr (.inl ⟨a,_,b,c⟩)
  ·exact .inr (.inr ⟨a,_,b,c⟩)
def a1L(r:Rec):Prop:=(∀g∈r.looked,O9 g)∧∀g∈r.put,O9 g
inductive a8z(K:PySem.W.Frag)(vs:List V)(H:Hp)(Q:VK):Prop
 | mk (o r:Rec) (x y:V) (x0:vs=[x,y]) (x1:RecAt K H o x) (x2:RecAt K H r y) (x3:a1L o) (x4:o.looked.length≤1000) (x5:o.put.length≤1000) (xq:∀H',g6 H H'→Q (.bl (lnk o r)) H')
def a6E(K:PySem.W.Frag):Sp:=fun vs H Q _=>a8z K vs H Q
theorem a6C(T:A7 K mg t):g9 P w K mg base y9 1 t.f__law_linked t.d__law_linked ["_law_one","_law_other"] (a6E K):=by
 refine T.F__law_linked.ok a7B (fun vs H Q E h=>?_) (fun cdv A outer s H vs Q E hr h=>?_)
 ·obtain⟨o,r,x,y,rfl,_⟩:=h
  rfl
 obtain⟨o,r,x,y,rfl,⟨p1,la,pa,rfl,hx,laS,paS⟩,⟨p2,lb,pb,rfl,hy,lbS,pbS⟩,gd,z1,z2,q⟩:=h
 refine⟨_,(b8 (L1 (k7 (PW.pt (Q9 (f7 a3e (d9 i3 (pv 0) d5 (fun _ _=>rfl)) (d9 i3 (pv 1) d5 (fun _ _=>rfl)) (i6 _)) (O7 (f7 (a9p hr.units) (O8 rfl (q5 (d9 i3 (pv 0) d5 (fun _ _=>rfl))) (D5.mk (own:=["_law_good"]) (tl:=["_law_one","_law_other"]) rfl rfl rfl (fun _ _ _ _ _=>(l4 (i:=0) (S7) rfl (Or.inl rfl))) (fun _ _ _ _ _=>(T7 (f7 a2l (pv 0) (d9 O3 (pv 2) d5 (fun _ _=>rfl)) (by with_unfolding_all rfl)))) (fun _ _ _ _ _=>(pv 0)))) (m7 b6) (i6 _)))))
 (c9 (i4 A1))
 j0))
 (b8 (L1 (k7 (PW.pt (Q9 (f7 a5L (d9 i3 (pv 0) d5 (fun _ _=>rfl)) (d9 i3 (pv 1) d5 (fun _ _=>rfl)) (i6 _)) (O7 (f7 (a9p hr.units) (O8 rfl (q5 (d9 i3 (pv 0) d5 (fun _ _=>rfl))) (D5.mk (own:=["_law_good"]) (tl:=["_law_one","_law_other"]) rfl rfl rfl (fun _ _ _ _ _=>(l4 (i:=0) (S7) rfl (Or.inl rfl))) (fun _ _ _ _ _=>(T7 (f7 a2l (pv 0) (d9 O3 (pv 2) d5 (fun _ _=>rfl)) (by with_unfolding_all rfl)))) (fun _ _ _ _ _=>(pv 0)))) (m7 b6) (i6 _)))))
 (c9 (i4 A1))
 j0))
 (c9 (i4 (V0 (Q1 a3e (d9 i3 (pv 0) d5 (fun _ _=>rfl)) (d9 i3 (pv 1) d5 (fun _ _=>rfl)) (i6 _)) (a1c (Q1 (a9p hr.units) (O8 rfl (q5 (d9 i3 (pv 0) d5 (fun _ _=>rfl))) (D5.mk (own:=["_law_good"]) (tl:=["_law_one","_law_other"]) rfl rfl rfl (fun _ _ _ _ _=>(l4 (i:=0) (S7) rfl (Or.inl rfl))) (fun _ _ _ _ _=>(T7 (f7 a2l (pv 0) (d9 O3 (pv 2) d5 (fun _ _=>rfl)) (by with_unfolding_all rfl)))) (fun _ _ _ _ _=>(pv 0)))) (m7 b6) (i6 _)))))))),?_⟩
 have rf:=g6.refl H
 refine⟨fun σ' H'=>σ'=[some (.ref p1),some (.ref p2)]∧g6 H H'∧a5w o r=false,?_,fun σ' H' hM=>?_⟩
 ·refine⟨_,rfl,p1,_,2,_,rfl,rfl,hx,rfl,_,rfl,p2,_,2,_,rfl,rfl,hy,rfl,_,_,rfl,rfl,_,rfl,?_⟩
  by_cases c0:o.fin<r.fin
  ·rw[aC6 c0]
   refine l6 ?_
   refine⟨_,rfl,p1,_,4,_,rfl,rfl,hx.same rf,rfl,pa,rfl,⟨_,paS.same rf⟩,fun acc hacc=>?_⟩
   refine C0 (xs:=(o.put).map V.str) (fun i Hc=>g6 H Hc∧Hc acc=some (.lst ((both ((o.put).take i) (r.put)).map V.str))) ⟨(rf).trans (b9 hacc),b0⟩ (fun i Hc _ z=>paS.same z.1) (fun i v Hc hv z=>?_) (fun Hc z=>?_)
   ·obtain⟨sc,a1⟩:=z
    rw[aB4]at hv
    obtain⟨g,hg,rfl⟩:=aC9.mp hv
    have li:=(aA2.mp hg).1
    have tk:(o.put).take (i+1)=(o.put).take i++[g]:=by rw[aD3,hg];rfl
    have bl:=a8w ((o.put).take i) (r.put)
    rw[aD6]at bl
    refine⟨_,rfl,_,rfl,p2,_,4,_,rfl,rfl,hy.same sc,rfl,pb,_,rfl,.inl (pbS.same sc),rfl,T3 _,_,rfl,?_⟩
    rw[aA4 (by decide:¬false=true),a5b]
    by_cases c:g∈r.put
    ·rw[aC6 c]
     refine l6 ⟨_,rfl,_,a1,n4 (by rw[aA0];omega),?_,?_⟩
     ·exact l8 sc (j7 (rf) hacc)
     ·rw[b0,tk,T4,aB0 c,aB2];rfl
    ·rw[aB7 c]
     refine f6 ⟨sc,?_⟩
     rw[tk,T4,aA4 c];exact a1
   obtain⟨sc,a1⟩:=z
   rw[aA0,aE0]at a1
   refine⟨(n9 0),fun e he=>?_⟩
   have se:=b9 (o:=.lst []) he
   have lay:∀g∈both (o.put) (r.put),O9 g:=fun g hg=>gd.2 g (aD5.mp hg).1
   refine⟨.list ((both (o.put) (r.put)).map PyData.str),.list [],by unfold Rep;exact⟨acc,_,rfl,d7.of (se _ _ a1),a5e _⟩,by unfold Rep;exact⟨e,[],rfl,d7.of b0,rfl⟩,by unfold PyData.canLay0;exact W2 lay,by simp[PyData.canLay0,PyData.canLayAll0],by have:=Q0 (both (o.put) (r.put));unfold PyData.depth;omega,?_⟩
   have sf:=sc.trans se
   generalize upd Hc e (.lst [])=Hf at sf ⊢
   rw[a7w]
   refine⟨_,rfl,?_⟩
   cases cb:(both o.put r.put).isEmpty with
   | false=>
    have e1:a5w o r=true:=by unfold a5w;rw[aC6 c0,cb];rfl
    have:=q Hf sf
    unfold lnk at this
    rw[e1]at this
    exact l6 this
   | true=>exact f6 ⟨rfl,sf,by unfold a5w;rw[cb,Bool.not_true,aS4]⟩
  ·rw[aB7 c0]
   exact f6 ⟨rfl,rf,by unfold a5w;rw[aB7 c0];rfl⟩
 obtain⟨rfl,s1,e1⟩:=hM
 refine⟨fun σ' H'=>σ'=[some (.ref p1),some (.ref p2)]∧g6 H H'∧a2w o r=false,?_,fun σ' H' hM=>?_⟩
 ·refine⟨_,rfl,p1,_,2,_,rfl,rfl,hx.same s1,rfl,_,rfl,p2,_,1,_,rfl,rfl,hy.same s1,rfl,_,_,rfl,rfl,_,rfl,?_⟩
  by_cases c0:o.fin≤r.beg
  ·rw[aC6 c0]
   refine l6 ?_
   refine⟨_,rfl,p1,_,4,_,rfl,rfl,hx.same s1,rfl,pa,rfl,⟨_,paS.same s1⟩,fun acc hacc=>?_⟩
   refine C0 (xs:=(o.put).map V.str) (fun i Hc=>g6 H Hc∧Hc acc=some (.lst ((both ((o.put).take i) (r.looked)).map V.str))) ⟨(s1).trans (b9 hacc),b0⟩ (fun i Hc _ z=>paS.same z.1) (fun i v Hc hv z=>?_) (fun Hc z=>?_)
   ·obtain⟨sc,a1⟩:=z
    rw[aB4]at hv
    obtain⟨g,hg,rfl⟩:=aC9.mp hv
    have li:=(aA2.mp hg).1
    have tk:(o.put).take (i+1)=(o.put).take i++[g]:=by rw[aD3,hg];rfl
    have bl:=a8w ((o.put).take i) (r.looked)
    rw[aD6]at bl
    refine⟨_,rfl,_,rfl,p2,_,3,_,rfl,rfl,hy.same sc,rfl,lb,_,rfl,.inl (lbS.same sc),rfl,T3 _,_,rfl,?_⟩
    rw[aA4 (by decide:¬false=true),a5b]
    by_cases c:g∈r.looked
    ·rw[aC6 c]
     refine l6 ⟨_,rfl,_,a1,n4 (by rw[aA0];omega),?_,?_⟩
     ·exact l8 sc (j7 (s1) hacc)
     ·rw[b0,tk,T4,aB0 c,aB2];rfl
    ·rw[aB7 c]
     refine f6 ⟨sc,?_⟩
     rw[tk,T4,aA4 c];exact a1
   obtain⟨sc,a1⟩:=z
   rw[aA0,aE0]at a1
   refine⟨(n9 0),fun e he=>?_⟩
   have se:=b9 (o:=.lst []) he
   have lay:∀g∈both (o.put) (r.looked),O9 g:=fun g hg=>gd.2 g (aD5.mp hg).1
   refine⟨.list ((both (o.put) (r.looked)).map PyData.str),.list [],by unfold Rep;exact⟨acc,_,rfl,d7.of (se _ _ a1),a5e _⟩,by unfold Rep;exact⟨e,[],rfl,d7.of b0,rfl⟩,by unfold PyData.canLay0;exact W2 lay,by simp[PyData.canLay0,PyData.canLayAll0],by have:=Q0 (both (o.put) (r.looked));unfold PyData.depth;omega,?_⟩
   have sf:=sc.trans se
   generalize upd Hc e (.lst [])=Hf at sf ⊢
   rw[a7w]
   refine⟨_,rfl,?_⟩
   cases cb:(both o.put r.looked).isEmpty with
   | false=>
    have e2:a2w o r=true:=by unfold a2w;rw[aC6 c0,cb];rfl
    have:=q Hf sf
    unfold lnk at this
    rw[e1,e2]at this
    exact l6 this
   | true=>exact f6 ⟨rfl,sf,by unfold a2w;rw[cb,Bool.not_true,aS4]⟩
  ·rw[aB7 c0]
   exact f6 ⟨rfl,s1,by unfold a2w;rw[aB7 c0];rfl⟩
 obtain⟨rfl,s2,e2⟩:=hM
 have q:∀H',g6 H H'→Q (.bl (a2P o r)) H':=fun H' s=>by
  have:=q H' s
  unfold lnk at this
  rw[e1,e2]at this
  exact this
 refine⟨_,rfl,p1,_,1,_,rfl,rfl,hx.same s2,rfl,_,rfl,p2,_,2,_,rfl,rfl,hy.same s2,rfl,_,_,rfl,rfl,_,rfl,?_⟩
 by_cases c0:o.beg<r.fin
 ·rw[aC6 c0]
  refine l6 ?_
  refine⟨_,rfl,p1,_,3,_,rfl,rfl,hx.same s2,rfl,la,rfl,⟨_,laS.same s2⟩,fun acc hacc=>?_⟩
  refine C0 (xs:=(o.looked).map V.str) (fun i Hc=>g6 H Hc∧Hc acc=some (.lst ((both ((o.looked).take i) (r.put)).map V.str))) ⟨(s2).trans (b9 hacc),b0⟩ (fun i Hc _ z=>laS.same z.1) (fun i v Hc hv z=>?_) (fun Hc z=>?_)
  ·obtain⟨sc,a1⟩:=z
   rw[aB4]at hv
   obtain⟨g,hg,rfl⟩:=aC9.mp hv
   have li:=(aA2.mp hg).1
   have tk:(o.looked).take (i+1)=(o.looked).take i++[g]:=by rw[aD3,hg];rfl
   have bl:=a8w ((o.looked).take i) (r.put)
   rw[aD6]at bl
   refine⟨_,rfl,_,rfl,p2,_,4,_,rfl,rfl,hy.same sc,rfl,pb,_,rfl,.inl (pbS.same sc),rfl,T3 _,_,rfl,?_⟩
   rw[aA4 (by decide:¬false=true),a5b]
   by_cases c:g∈r.put
   ·rw[aC6 c]
    refine l6 ⟨_,rfl,_,a1,n4 (by rw[aA0];omega),?_,?_⟩
    ·exact l8 sc (j7 (s2) hacc)
    ·rw[b0,tk,T4,aB0 c,aB2];rfl
   ·rw[aB7 c]
    refine f6 ⟨sc,?_⟩
    rw[tk,T4,aA4 c];exact a1
  obtain⟨sc,a1⟩:=z
  rw[aA0,aE0]at a1
  refine⟨(n9 0),fun e he=>?_⟩
  have se:=b9 (o:=.lst []) he
  have lay:∀g∈both (o.looked) (r.put),O9 g:=fun g hg=>gd.1 g (aD5.mp hg).1
  refine⟨.list ((both (o.looked) (r.put)).map PyData.str),.list [],by unfold Rep;exact⟨acc,_,rfl,d7.of (se _ _ a1),a5e _⟩,by unfold Rep;exact⟨e,[],rfl,d7.of b0,rfl⟩,by unfold PyData.canLay0;exact W2 lay,by simp[PyData.canLay0,PyData.canLayAll0],by have:=Q0 (both (o.looked) (r.put));unfold PyData.depth;omega,?_⟩
  have sf:=sc.trans se
  generalize upd Hc e (.lst [])=Hf at sf ⊢
  rw[a7w]
  have:=q Hf sf
  unfold a2P at this
  rw[aC6 c0]at this
  exact this
 ·rw[aB7 c0]
  have:=q _ s2
  unfold a2P at this
  rw[aB7 c0]at this
  exact f6 this
inductive Rch(rs:List Rec)(r:Rec):Rec→Prop
 | base:Rch rs r r
 | step {o p:Rec}:Rch rs r o→p∈rs++[r]→o.num≠p.num→lnk o p=true→p.num≠r.num→Rch rs r p
def a4L(rs:List Rec)(r:Rec):Prop:=∃o,Rch rs r o∧o.num≠r.num∧lnk o r=true
theorem b8w{o p:Rec}(h:rd o=rd p):o=p:=by
 unfold rd at h
 cases o;cases p
 simp only[PyData.tuple.injEq,List.cons.injEq,PyData.int.injEq,PyData.list.injEq,and_true]at h
 obtain⟨a,b,c,d,e⟩:=h
 have inj:∀{k m:List Str},k.map PyData.str=m.map PyData.str→k=m:=fun {k m} e=>aU0 (fun a b e=>PyData.str.inj e) |>.mp e
 rw[a,b,c,inj d,inj e]
theorem a4P:∀ks:List Str,A5 (ks.map PyData.str)=true
 | []=>by rw[aJ5,A5]
 | k::ks=>by rw[aC1,A5,a4P ks];simp[v7]
theorem a7O(r:Rec):v7 (rd r)=true:=by unfold rd;simp[v7,A5,a4P]
theorem b9f{r:Rec}(h:a1L r):(rd r).canLay0=true:=by unfold rd;simp[PyData.canLay0,PyData.canLayAll0,W2 h.1,W2 h.2]
theorem a4X:∀{rs:List Rec},(∀r∈rs,a1L r)→PyData.canLayAll0 (rs.map rd)=true
 | [],_=>by rw[aJ5,PyData.canLayAll0]
 | r::rs,h=>by rw[aC1,PyData.canLayAll0,a4X fun o ho=>h o (aC4 _ ho),b9f (h r aD0)];rfl
theorem b5m(r:Rec):(rd r).depth≤10:=by
 unfold rd
 simp only[PyData.depth,PyData.depthAll]
 have:=Q0 r.looked
 have:=Q0 r.put
 omega
theorem b3e(p:Rec)(seen:List Rec):((seen.map rd).any fun e=>PyData.eqv e (rd p))=true↔p∈seen:=by
 rw[aR6,aO0]
 constructor
 ·rintro⟨o,ho,e⟩
  have:=b8w (b6g (rd o) (rd p) (a7O o) (a7O p) e)
  rw[←this];exact ho
 ·intro h
  exact⟨p,h,a1x (rd p) (a7O p)⟩
theorem a7h{all:List Rec}(nd:(all.map (·.num)).Nodup){o p:Rec}(ho:o∈all)(hp:p∈all)(e:o.num=p.num):o=p:=by
 obtain⟨i,hi⟩:=aF1.mp ho
 obtain⟨j,hj⟩:=aF1.mp hp
 have li:=(aA2.mp hi).1
 have:i=j:=(aJ8 (l:=all.map (·.num)) (by rw[aA0];exact li) nd).mp (by rw[aB4,aB4,hi,hj];simp[e])
 subst this
 rw[hi]at hj;exact aD1 hj
structure a0h(rs:List Rec)(r:Rec)(seen:List Rec):Prop where
 nd:(seen.map (·.num)).Nodup
 mem:∀o∈seen,o∈rs++[r]∧Rch rs r o
 me:r∈seen
def Cl(rs:List Rec)(r s:Rec)(ps seen:List Rec):Prop:=∀p∈ps,s.num≠p.num→lnk s p=true→p.num≠r.num∧p∈seen
theorem a0h.len{rs:List Rec}{r:Rec}{seen:List Rec}(h:a0h rs r seen):seen.length≤rs.length+1:=by
 have:=u5 (l:=seen.map (·.num)) (m:=(rs++[r]).map (·.num)) h.nd fun x hx=>by
  obtain⟨o,ho,e⟩:=aA5.mp hx
  exact aA5.mpr ⟨o,(h.mem o ho).1,e⟩
 simpa using this
inductive a7A(K:PySem.W.Frag)(vs:List V)(H:Hp)(Q:VK):Prop
 | mk (a:Addr) (x:V) (us:List V) (rs:List Rec) (r:Rec) (rl:Addr→Role) (x0:vs=[.ref a,x]) (x1:H a=some (.lst us)) (x2:Paired (RcAt rl H) rs us) (x3:RcAt rl H r x) (x4:((rs++[r]).map (·.num)).Nodup) (x5:(∀o∈rs++[r],a1L o∧o.looked.length≤63∧o.put.length≤63)) (x6:rs.length≤63) (x7:(∀H',g6 H H'→a4L rs r→Q (.bl true) H')) (xq:(∀H',g6 H H'→¬a4L rs r→Q (.bl false) H'))
def a0G(K:PySem.W.Frag):Sp:=fun vs H Q _=>a7A K vs H Q
theorem a9F(T:A7 K mg t):g9 P w K mg base y9 2 t.f__law_ringed t.d__law_ringed ["_law_records","_law_record"] (a0G K):=by
 refine T.F__law_ringed.ok N5 (fun vs H Q E h=>?_) (fun cdv A outer s H vs Q E hr h=>?_)
 ·obtain⟨a,x,us,rs,r,rl,rfl,_⟩:=h
  rfl
 obtain⟨a,x,us,rs,r,rl,rfl,ha,pu,hx,nd,gd,bn,qT,qF⟩:=h
 refine⟨_,(b8 (g7 (i:=2) N5.nd rfl (Or.inl rfl) (m7 (a6 (pv 1) b6)))
 (b8 (g7 (i:=3) N5.nd rfl (Or.inl rfl) d5)
 (b8 (a8i aE4 (f7 a3e (pv 3) (e7 g8 rfl T.m_len aC2 (a6 (pv 2) b6)) (i6 _))
 (b8 (z9 aE4 rfl (q5 (j6 U7 (pv 0) (m7 (a6 (pv 1) b6)))) (l4 (i:=4) N5.nd rfl (Or.inl rfl))
 (c9 (k7 (PW.pt (Q9 (f7 M6 (d9 i3 (pv 4) d5 (fun _ _=>rfl)) (d9 i3 (d9 l7 (pv 2) (pv 3) (fun _ _=>rfl)) d5 (fun _ _=>rfl)) (i6 _)) (O7 (A3 (j8 (g9.mono (k:=1) (a6C T) (by decide)) hr rfl T.m__law_linked T.F__law_linked.kp T.F__law_linked.b .nil k8 (a6 (d9 l7 (pv 2) (pv 3) (fun _ _=>rfl)) (a6 (pv 4) b6)))))))
 (b8 (k7 (f7 z8 (d9 i3 (pv 4) d5 (fun _ _=>rfl)) (d9 i3 (pv 1) d5 (fun _ _=>rfl)) (i6 _))
 (c9 (i4 A1))
 j0)
 (c9 (k7 (f7 (b3f hr.units) (pv 4) (pv 2) (by with_unfolding_all rfl))
 (c9 (m6 (u6 aB1 aB6 aB8 o6 (pv 2) (a6 (pv 4) b6))))
 j0)))
 j0)))
 (c9 (g7 (i:=3) N5.nd rfl (Or.inl rfl) (j6 F7 (pv 3) d5)))))
 (c9 (i4 A1))))),?_⟩
 have lu:=n6 pu
 have pall:Paired (RcAt rl H) (rs++[r]) (us++[x]):=aK3 pu hx
 have lall:=n6 pall
 rw[aA7,aA7]at lall
 obtain⟨bx,lax,pax,ex,hbx,_⟩:=hx
 have hx:RcAt rl H r x:=⟨bx,lax,pax,ex,hbx,‹_›⟩
 refine⟨_,rfl,(n9 1),fun sl hsl=>?_⟩
 have s0:=b9 (o:=.lst [x]) hsl
 refine⟨fun m σ' Hc=>∃(sp:Nat) (o4:Option V) (seen:List Rec) (zs:List V),m+sp=rs.length+1∧sp≤seen.length∧σ'=[some (.ref a),some x,some (.ref sl),some (.int (sp:Int)),o4]∧g6 H Hc∧Hc sl=some (.lst zs)∧Paired (RcAt rl H) seen zs∧a0h rs r seen∧∀k,k<sp→∀o,seen[k]?=some o→Cl rs r o (rs++[r]) seen,⟨rs.length+1,0,none,[r],[x],rfl,aG4 _,rfl,s0,b0,.cons hx .nil,⟨by simp,fun o ho=>?_,by simp⟩,fun k hk=>absurd hk (aR2 _)⟩,fun m σ' Hc hW=>?_⟩
 ·rw[aA3.mp ho];exact⟨by simp,.base⟩
 obtain⟨sp,o4,seen,zs,hm,hsp,rfl,sc,hz,pz,sk,cl⟩:=hW
 have lz:=n6 pz
 have ls:=sk.len
 refine⟨_,rfl,_,rfl,sl,zs,rfl,.inl (d7.of hz),_,_,rfl,rfl,_,rfl,?_⟩
 by_cases c0:sp<seen.length
 ·rw[show decide ((sp:Int)<(zs.length:Int))=true from aC6 (by omega)]
  refine K4 (fun _=>?_) (fun z=>absurd rfl z)
  obtain⟨sr,hsr⟩:∃sr,seen[sp]?=some sr:=⟨_,List.getElem?_eq_getElem c0⟩
  refine⟨fun σ' Hc=>∃(o4:Option V) (seen:List Rec) (zs:List V),sp+1≤seen.length∧σ'=[some (.ref a),some x,some (.ref sl),some (.int ((sp:Int)+1)),o4]∧g6 H Hc∧Hc sl=some (.lst zs)∧Paired (RcAt rl H) seen zs∧a0h rs r seen∧∀k,k<sp+1→∀o,seen[k]?=some o→Cl rs r o (rs++[r]) seen,fun σ' Hc hN=>?_,?_⟩
  ·obtain⟨o4,seen,zs,h1,h2,h3⟩:=hN
   exact⟨m-1,by omega,sp+1,o4,seen,zs,by omega,h1,h2,h3⟩
  refine⟨_,rfl,_,rfl,(n9 1),fun e1 he1=>?_⟩
  have s1:=b9 (o:=.lst [x]) he1
  refine⟨a,e1,us,[x],rfl,rfl,s1 _ _ (sc _ _ ha),b0,(by rw[lu,aF9];simp;omega),fun c hc=>?_⟩
  have s2:=b9 (o:=.lst (us++[x])) hc
  have hc2:(upd (upd Hc e1 (.lst [x])) c (.lst (us++[x]))) c=some (.lst (us++[x])):=b0
  have sc2:=(sc.trans s1).trans s2
  have hz2:=s2 _ _ (s1 _ _ hz)
  generalize upd (upd Hc e1 (.lst [x])) c (.lst (us++[x]))=H2 at hc2 sc2 hz2 ⊢
  have ncs:c≠sl:=fun z=>by rw[z,s1 _ _ hz]at hc;cases hc
  refine⟨c,rfl,⟨_,d7.of hc2⟩,?_⟩
  refine B8 (xs:=us++[x]) (fun j σ' Hd=>∃(o4:Option V) (seen:List Rec) (zs:List V),σ'=[some (.ref a),some x,some (.ref sl),some (.int (sp:Int)),o4]∧g6 H Hd∧Hd c=some (.lst (us++[x]))∧Hd sl=some (.lst zs)∧Paired (RcAt rl H) seen zs∧a0h rs r seen∧seen[sp]?=some sr∧Cl rs r sr ((rs++[r]).take j) seen∧∀k,k<sp→∀o,seen[k]?=some o→Cl rs r o (rs++[r]) seen)
   ⟨o4,seen,zs,rfl,sc2,hc2,hz2,pz,sk,hsr,(fun p hp=>by rw[aP5]at hp;cases hp),cl⟩ (fun j σ' Hd _ z=>?_) (fun j v σ' Hd hv z=>?_) (fun σ' Hd z=>?_)
  ·obtain⟨_,_,_,_,_,h1,_⟩:=z
   exact d7.of h1
  ·clear hz pz sk cl lz ls hsp c0 hsr hz2
   obtain⟨o4,seen,zs,rfl,sd,hcd,hz,pz,sk,hsr,clj,cl⟩:=z
   have lz:=n6 pz
   have ls:=sk.len
   obtain⟨p,hp,b,la,pa,rfl,hb,hla,hpa,f1,f2⟩:=u7 pall hv
   have hpm:=aC5 hp
   have rp:RcAt rl H p (.ref b):=⟨b,la,pa,rfl,hb,hla,hpa,f1,f2⟩
   have lsp:=(aA2.mp hsr).1
   have hzi:=List.getElem?_eq_getElem (show sp<zs.length by omega)
   obtain⟨s',hs',rs'⟩:=u7 pz hzi
   rw[hsr]at hs';cases hs'
   have az:F8 zs (sp:Int)=some zs[sp]:=i9 hzi
   generalize zs[sp]=zv at az rs' hzi
   obtain⟨bs,las,pas,rfl,hbs,h21,h22,h23,h24⟩:=rs'
   have rsr:RcAt rl H sr (.ref bs):=⟨bs,las,pas,rfl,hbs,h21,h22,h23,h24⟩
   have tk:(rs++[r]).take (j+1)=(rs++[r]).take j++[p]:=by rw[aD3,hp];rfl
   have srm:=(sk.mem sr (aC5 hsr))
   have keep:∀(Hn:Hp),g6 Hd Hn→(sr.num≠p.num→lnk sr p=true→p.num≠r.num∧p∈seen)→∃(o4':Option V) (seen:List Rec) (zs:List V),[some (.ref a),some x,some (.ref sl),some (.int (sp:Int)),some (.ref b)]=[some (.ref a),some x,some (.ref sl),some (.int (sp:Int)),o4']∧g6 H Hn∧Hn c=some (.lst (us++[x]))∧Hn sl=some (.lst zs)∧Paired (RcAt rl H) seen zs∧a0h rs r seen∧seen[sp]?=some sr∧Cl rs r sr ((rs++[r]).take (j+1)) seen∧∀k,k<sp→∀o,seen[k]?=some o→Cl rs r o (rs++[r]) seen:=fun Hn sn hn=>
    ⟨_,seen,zs,rfl,sd.trans sn,sn _ _ hcd,sn _ _ hz,pz,sk,hsr,fun q hq=>by
     rw[tk]at hq
     rcases aA8.mp hq with hq | hq
     ·exact clj q hq
     ·rw[aA3.mp hq];exact hn,cl⟩
   refine⟨_,rfl,b,_,0,_,rfl,rfl,i5.of (sd _ _ hb),rfl,_,rfl,_,rfl,sl,_,_,_,rfl,rfl,d7.of hz,az,bs,_,0,_,rfl,rfl,i5.of (sd _ _ hbs),rfl,rfl,_,rfl,?_⟩
   by_cases c1:p.num=sr.num
   ·refine U4 (by rw[c1]) (f6 ?_)
    exact keep Hd (g6.refl Hd) fun z=>absurd c1.symm z
   rw[show(!decide (V.int p.num=V.int sr.num))=true by rw[aB7 fun z=>c1 (V.int.inj z)];rfl]
   refine l6 ?_
   obtain⟨g1,g2,g3⟩:=gd sr srm.1
   refine⟨_,rfl,_,rfl,sl,_,_,_,rfl,rfl,d7.of hz,az,_,rfl,sr,p,_,_,rfl,(rsr.same sd).rec,(rp.same sd).rec,g1,by omega,by omega,fun H3 s3=>⟨_,rfl,?_⟩⟩
   cases cl0:lnk sr p with
   | false=>exact f6 (keep H3 s3 fun _ z=>by rw[cl0]at z;cases z)
   | true=>
    refine l6 ?_
    have sd3:=sd.trans s3
    subst ex
    refine⟨_,rfl,b,_,0,_,rfl,rfl,i5.of (sd3 _ _ hb),rfl,_,rfl,bx,_,0,_,rfl,rfl,i5.of (sd3 _ _ hbx),rfl,rfl,_,rfl,?_⟩
    by_cases c2:p.num=r.num
    ·rw[show decide (V.int p.num=V.int r.num)=true from aC6 (by rw[c2])]
     refine l6 (qT _ sd3 ⟨sr,srm.2,fun z=>c1 (by rw[z,c2]),?_⟩)
     rw[←a7h nd hpm (by simp) c2];exact cl0
    rw[show decide (V.int p.num=V.int r.num)=false from aB7 fun z=>c2 (V.int.inj z)]
    refine f6 ?_
    refine⟨_,rfl,_,rfl,rd p,sl,zs,seen.map rd,a6g.mpr (rp.same sd3).rec,rfl,.inl (d7.of (s3 _ _ hz)),a9t (Paired.mapP pz fun _ _ z=>z.same sd3),b9f (gd p hpm).1,a4X (fun o ho=>(gd o (sk.mem o ho).1).1),aD8 (b5m p) (by decide),_,rfl,?_⟩
    by_cases c3:p∈seen
    ·rw[aB0 rfl,(b3e p seen).mpr c3]
     exact f6 (keep H3 s3 fun _ _=>⟨c2,c3⟩)
    ·rw[aB0 rfl,show((seen.map rd).any fun e=>PyData.eqv e (rd p))=false from aJ9.mpr fun z=>c3 ((b3e p seen).mp z)]
     refine l6 ?_
     have ncs':c≠sl:=ncs
     refine⟨_,rfl,.inl ⟨rfl,_,d7.of (s3 _ _ hz)⟩,_,rfl,sl,zs,_,rfl,rfl,s3 _ _ hz,n4 (by omega),?_⟩
     have up:∀o∈seen,o∈seen++[p]:=fun o ho=>aE2 _ ho
     refine⟨_,seen++[p],zs++[.ref b],rfl,l8 sd3 hsl,(b7 ncs).trans (s3 _ _ hcd),b0,aK3 pz rp,⟨?_,fun o ho=>?_,up _ sk.me⟩,?_,fun q hq=>?_,fun k hk o ho=>?_⟩
     ·rw[aB2,aC3]
      refine⟨sk.nd,by simp,fun x hx y hy e=>?_⟩
      have hy:y=p.num:=by simpa using hy
      obtain⟨o,ho,eo⟩:=aA5.mp hx
      exact c3 (by rw[←a7h nd (sk.mem o ho).1 hpm (by rw[eo,e,hy])];exact ho)
     ·rcases aA8.mp ho with ho | ho
      ·exact sk.mem o ho
      ·rw[aA3.mp ho];exact⟨hpm,.step srm.2 hpm (fun z=>c1 z.symm) cl0 c2⟩
     ·rw[aE1 lsp];exact hsr
     ·rw[tk]at hq
      rcases aA8.mp hq with hq | hq
      ·exact fun a1 a2=>let ⟨b1,b2⟩:=clj q hq a1 a2;⟨b1,up _ b2⟩
      ·rw[aA3.mp hq];exact fun _ _=>⟨c2,by simp⟩
     ·rw[aE1 (by omega)]at ho
      exact fun q hq a1 a2=>let ⟨b1,b2⟩:=cl k hk o ho q hq a1 a2;⟨b1,up _ b2⟩
  ·clear hz pz sk cl lz ls hsp hsr hz2
   obtain⟨o4,seen,zs,rfl,sd,hcd,hz,pz,sk,hsr,clj,cl⟩:=z
   have lsp:=(aA2.mp hsr).1
   rw[show(us++[x]).length=(rs++[r]).length by rw[aA7,aA7,lu];rfl,aE0] at clj
   refine⟨_,rfl,_,_,rfl,rfl,o4,seen,zs,lsp,rfl,sd,hz,pz,sk,fun k hk o ho=>?_⟩
   rcases aP3 k sp with lt | ge
   ·exact cl k lt o ho
   ·have:k=sp:=by omega
    subst this
    rw[hsr]at ho;cases ho;exact clj
 ·rw[show decide ((sp:Int)<(zs.length:Int))=false from aB7 (by omega)]
  refine f6 (qF _ sc fun⟨o,ro,no,lo⟩=>?_)
  have all:∀o,Rch rs r o→o∈seen:=fun o ro=>by
   induction ro with
   | base=>exact sk.me
   | @step o p h1 hp hn hl hr ih=>
    obtain⟨k,hk⟩:=aF1.mp ih
    have lk:=(aA2.mp hk).1
    exact(cl k (by omega) o hk p hp hn hl).2
  obtain⟨k,hk⟩:=aF1.mp (all o ro)
  have lk:=(aA2.mp hk).1
  exact(cl k (by omega) o hk r (by simp) no lo).1 rfl
def isE:u9→Bool
 | .word s=>decide (s="ended")
 | _=>false
inductive a0E(K:PySem.W.Frag)(vs:List V)(H:Hp)(Q:VK):Prop
 | mk (rl:Addr→Role) (a:u9) (x:V) (x0:vs=[x]) (x1:D6 rl H a x) (xq:Q (.bl (isE a)) H)
def a8K(K:PySem.W.Frag):Sp:=fun vs H Q _=>a0E K vs H Q
theorem S4(T:A7 K mg t):g9 P w K mg base y9 1 t.f__law_ended t.d__law_ended ["_law_found"] (a8K K):=by
 refine T.F__law_ended.ok a2J (fun vs H Q E h=>?_) (fun cdv A outer s H vs Q E hr h=>?_)
 ·obtain⟨rl,a,x,rfl,_⟩:=h
  rfl
 obtain⟨rl,a,x,rfl,ha,q⟩:=h
 refine⟨_,(c9 (i4 (V0 (e7 u4 rfl T.m_isinstance aE8 (a6 (pv 0) (a6 (r9 (v:=.ty "str") rfl T.m_str aS8 rfl) b6))) (a1c (Q1 z8 (pv 0) m5 (i6 _)))))),?_⟩
 cases a with
 | num i=>
  obtain rfl:=ha
  exact⟨_,rfl,_,"int","str",rfl,rfl,by decide,_,rfl,f6 q⟩
 | non=>
  obtain rfl:=ha
  exact⟨_,rfl,_,"NoneType","str",rfl,rfl,by decide,_,rfl,f6 q⟩
 | ring rg=>
  obtain⟨l,zs,rfl,hl,_⟩:=ha
  exact⟨_,rfl,_,"list","str",rfl,.inl ⟨rfl,_,d7.of hl⟩,by decide,_,rfl,f6 q⟩
 | word z=>
  obtain rfl:=ha
  refine⟨_,rfl,_,"str","str",rfl,rfl,by decide,_,rfl,l6 ⟨_,rfl,rfl,?_⟩⟩
  have e:decide (V.str z=V.str "ended")=isE (.word z):=by
   show _=decide (z="ended")
   by_cases c:z="ended"
   ·subst c;simp
   ·rw[aB7 c,aB7 fun w=>c (V.str.inj w)]
  rw[e];exact q
structure b7b(f:Nat→j5)(ds:List i8)(as:List u9)(y:Try):Prop where
 ex:∃(d:Dl) (a:u9),ds[y.1]?=some (.fin d.num)∧as[y.1]?=some a∧d∈(f y.1).under∧Step (f y.1) (.fin d.num) a (f (y.1+1))∧M9 d (((f y.1).recs.length:Int)+1) y.2.1∧y.2.2=(f y.1).recs
structure Trace(f:Nat→j5)(ds:List i8)(as:List u9):Prop where
 zero:f 0=P0
 step:∀i d a,ds[i]?=some d→as[i]?=some a→Step (f i) d a (f (i+1))
 len:as.length=ds.length
 oks:∀i,i≤ds.length→G0 (f i)
 gds:∀i,i≤ds.length→Gd (f i)
 bds:∀i,i≤ds.length→Bd i (f i)
theorem a5N{m:Am}{g:Str}{a:Int}(h:t6 m g=some a):g∈m.map (·.1):=by
 unfold t6 at h
 obtain⟨p,hp,_⟩:=aC9.mp h
 have:=List.find?_some hp
 exact aA5.mpr ⟨p,List.mem_of_find?_eq_some hp,by simpa using this⟩
theorem a7x{m:Am}{g:Str}(h:t6 m g=none):g∉m.map (·.1):=fun z=>by
 unfold t6 at h
 obtain⟨p,hp,e⟩:=aA5.mp z
 have:=aN0.mp (Option.map_eq_none_iff.mp h) p hp
 simp[e]at this
theorem b9a{st st':j5}{d:i8}{a:u9}(s:Step st d a st'):st'.begun≤st.begun+1:=by
 cases s<;>first | exact aB3 _ | exact aN2 _
theorem a5u{f:Nat→j5}{ds:List i8}{as:List u9}(F:Trace f ds as):∀i,i≤ds.length→(f i).begun≤i
 | 0,_=>by rw[F.zero];exact aB3 _
 | i+1,h=>by
  have hd:=List.getElem?_eq_getElem (l:=ds) (i:=i) (by omega)
  have ha:=List.getElem?_eq_getElem (l:=as) (i:=i) (by have:=F.len;omega)
  have:=b9a (F.step i _ _ hd ha)
  have:=a5u F i (by omega)
  omega
theorem a9b{d:Dl}{e:Int}{r o:Rec}(h:M9 d e r)(k:M9 d e o):r=o:=by
 obtain⟨n1,b1,f1,l1,p1,s1,t1⟩:=h
 obtain⟨n2,b2,f2,l2,p2,s2,t2⟩:=k
 have inj:∀{ks ms:List Str},ks.Perm ms→W3 ks→W3 ms→ks=ms:=fun {ks ms} p h k=>by
  unfold W3 at h k
  have:=a7f h k (p.map _)
  exact aU0 (fun a b e=>by
   have e:[(Sum.inr a.cps.toList:Atom)]=[Sum.inr b.cps.toList]:=e
   have e:=aM2 (List.cons.inj e).1
   cases a;cases b
   exact congrArg Str.mk (Array.ext' e)) |>.mp this
 have e1:=inj (l1.trans l2.symm) s1 s2
 have e2:=inj (p1.trans p2.symm) t1 t2
 cases r;cases o
 simp only at n1 b1 f1 n2 b2 f2 e1 e2
 simp only[n1,b1,f1,n2,b2,f2,e1,e2]
theorem b0m{st st':j5}{d:i8}{a:u9}(s:Step st d a st'):(∃e∈st.under,d=.fin e.num∧((isE a=true∧∃r cs row,a3L st e r cs row∧st'=a8h st e r cs row)∨(isE a=false∧st'=v9 st e.num)))∨∀e∈st.under,d≠.fin e.num:=by
 cases s with
 | ended hd E=>exact .inl ⟨_,hd,rfl,.inl ⟨rfl,_,_,_,E,rfl⟩⟩
 | ring hd _=>exact .inl ⟨_,hd,rfl,.inr ⟨rfl,rfl⟩⟩
 | none h1 h2=>exact .inr fun e he z=>by subst z;cases h1;exact h2 (aA5.mpr ⟨e,he,rfl⟩)
 | _=>exact .inr fun e he z=>nomatch z
def a7a(f:Nat→j5)(ds:List i8)(tr:List Try)(i:Nat):Prop:=∀j,j<i→∀e∈(f j).under,ds[j]?=some (.fin e.num)→∃y∈tr,y.1=j
theorem a7a.skip{f:Nat→j5}{ds:List i8}{tr:List Try}{i:Nat}(h:a7a f ds tr i)(no:∀e∈(f i).under,ds[i]?≠some (.fin e.num)):a7a f ds tr (i+1):=fun j hj e he z=>by
 rcases aM7.mp hj with lt | rfl
 ·exact h j lt e he z
 ·exact absurd z (no e he)
theorem a7a.add{f:Nat→j5}{ds:List i8}{tr:List Try}{i:Nat}(h:a7a f ds tr i)(x:Rec×List Rec):a7a f ds (tr++[(i,x)]) (i+1):=fun j hj e he z=>by
 rcases aM7.mp hj with lt | rfl
 ·obtain⟨y,hy,ey⟩:=h j lt e he z
  exact⟨y,aE2 _ hy,ey⟩
 ·exact⟨_,aD7 _ (aA3.mpr rfl),rfl⟩
inductive a4y(K:PySem.W.Frag)(vs:List V)(H:Hp)(Q:VK):Prop
 | mk (A Tl:Addr) (xs ys:List V) (ds:List i8) (as:List u9) (rl0:Addr→Role) (f:Nat→j5) (x0:vs=[.ref A,.ref Tl]) (x1:H A=some (.lst xs)) (x2:C1 H ds xs) (x3:H Tl=some (.lst ys)) (x4:Paired (D6 rl0 H) as ys) (x5:Trace f ds as) (x6:ds.length≤63) (xq:∀(p R Y:Addr) (us ws:List V) (tr:List Try) (rl:Addr→Role) (H':Hp),g6 H H'→H' p=some (.tup [.ref R,.ref Y])→H' R=some (.lst us)→Paired (RcAt rl H') (f ds.length).recs us→H' Y=some (.lst ws)→Paired (Q3 rl H') tr ws→(∀y∈tr,b7b f ds as y)→a7a f ds tr ds.length→(∀b,rl b≠.free→H b=none)→Q (.ref p) H')
def a1G(K:PySem.W.Frag):Sp:=fun vs H Q _=>a4y K vs H Q
theorem a3g(T:A7 K mg t):g9 P w K mg base y9 2 t.f__law_walked t.d__law_walked ["_law_asked","_law_told"] (a1G K):=by
 refine T.F__law_walked.ok v8 (fun vs H Q E h=>?_) (fun cdv A outer s H vs Q E hr h=>?_)
 ·obtain⟨A,Tl,xs,ys,ds,as,rl0,f,rfl,_⟩:=h
  rfl
 obtain⟨A,Tl,xs,ys,ds,as,rl0,f,rfl,hA,hD,hT,pa,F,bn,q⟩:=h
 have hu:=M7 hr
 refine⟨_,(b8 (g7 (i:=2) v8.nd rfl (Or.inl rfl) A8)
 (b8 (g7 (i:=3) v8.nd rfl (Or.inl rfl) A8)
 (b8 (g7 (i:=4) v8.nd rfl (Or.inl rfl) A8)
 (b8 (g7 (i:=5) v8.nd rfl (Or.inl rfl) (m7 b6))
 (b8 (g7 (i:=6) v8.nd rfl (Or.inl rfl) (m7 b6))
 (b8 (z9 aE4 rfl (N6 rfl T.m_range (a6 (e7 g8 rfl T.m_len aC2 (a6 (pv 0) b6)) b6)) (l4 (i:=7) v8.nd rfl (Or.inl rfl))
 (b8 (g7 (i:=8) v8.nd rfl (Or.inl rfl) (d9 l7 (pv 0) (pv 7) (fun _ _=>rfl)))
 (c9 (k7 (f7 z8 (d9 i3 (pv 8) d5 (fun _ _=>rfl)) m5 (i6 _))
 (b8 (C2 hu (pv 3) (e7 a7o rfl T.m_len aC2 (a6 (pv 3) b6)) (m7 b6) rfl)
 (b8 (C2 hu (pv 2) (j6 N0 (e7 a7o rfl T.m_len aC2 (a6 (pv 3) b6)) d5) (e7 g8 rfl T.m_len aC2 (a6 (pv 5) b6)) rfl)
 (c9 (C2 hu (pv 4) (j6 N0 (e7 a7o rfl T.m_len aC2 (a6 (pv 3) b6)) d5) (m7 b6) rfl))))
 (c9 (k7 (PW.pt (Q9 (f7 M6 (d9 i3 (pv 8) d5 (fun _ _=>rfl)) m5 (i6 _)) (O7 (f7 (a4j hu) (d9 i3 (pv 8) d5 (fun _ _=>rfl)) (pv 2) (by with_unfolding_all rfl)))))
 (b8 (g7 (i:=9) v8.nd rfl (Or.inl rfl) (d9 i3 (pv 8) d5 (fun _ _=>rfl)))
 (b8 (L1 (k7 (PW.pt (Q9 (f7 z8 (d9 i3 (pv 8) d5 (fun _ _=>rfl)) m5 (i6 _)) (O7 (f7 a1o (d9 i3 (pv 8) d5 (fun _ _=>rfl)) (j6 U7 (u3 hu (pv 3) (pv 9) (fun _ _=>rfl)) (u3 hu (pv 4) (pv 9) (fun _ _=>rfl))) (by with_unfolding_all rfl)))))
 (c9 (m6 (u6 aB1 aB6 aB8 o6 (u3 hu (pv 3) (pv 9) (fun _ _=>rfl)) (a6 (d9 i3 (pv 8) d5 (fun _ _=>rfl)) b6))))
 j0))
 (b8 (L1 (k7 (PW.pt (Q9 (f7 z8 (d9 i3 (pv 8) d5 (fun _ _=>rfl)) m5 (i6 _)) (O7 (f7 a1o (d9 i3 (pv 8) d5 (fun _ _=>rfl)) (u3 hu (pv 4) (pv 9) (fun _ _=>rfl)) (by with_unfolding_all rfl)))))
 (c9 (m6 (u6 aB1 aB6 aB8 o6 (u3 hu (pv 4) (pv 9) (fun _ _=>rfl)) (a6 (d9 i3 (pv 8) d5 (fun _ _=>rfl)) b6))))
 j0))
 (b8 (L1 (k7 (f7 z8 (d9 i3 (pv 8) d5 (fun _ _=>rfl)) m5 (i6 _))
 (c9 (m6 (a8d (pv 2) (pv 9) ⟨rfl,rfl,rfl,rfl⟩)))
 j0))
 (c9 (k7 (f7 z8 (d9 i3 (pv 8) d5 (fun _ _=>rfl)) m5 (i6 _))
 (b8 (g7 (i:=10) v8.nd rfl (Or.inl rfl) (v3 (a6 (pv 9) (a6 (a8d (pv 2) (pv 9) ⟨rfl,rfl,rfl,rfl⟩) (a6 (j6 F7 (e7 g8 rfl T.m_len aC2 (a6 (pv 5) b6)) d5) b6)))))
 (b8 (g7 (i:=11) v8.nd rfl (Or.inl rfl) (j6 b7v (pv 10) (v3 (a6 (e7 a5f rfl T.m_sorted aR8 (a6 (u3 hu (pv 3) (pv 9) (fun _ _=>rfl)) b6)) (a6 (e7 a5f rfl T.m_sorted aR8 (a6 (u3 hu (pv 4) (pv 9) (fun _ _=>rfl)) b6)) b6)))))
 (b8 (m6 (u6 aB1 aB6 aB8 o6 (pv 6) (a6 (v3 (a6 (pv 7) (a6 (pv 11) (a6 (C9 V1 rfl T.m_list aJ1 (a6 (pv 5) b6)) b6)))) b6)))
 (c9 (k7 (A3 (j8 (g9.mono (k:=1) (S4 T) (by decide)) hr rfl T.m__law_ended T.F__law_ended.kp T.F__law_ended.b .nil k8 (a6 (d9 l7 (pv 1) (pv 7) (fun _ _=>rfl)) b6)))
 (c9 (m6 (u6 aB1 aB6 aB8 o6 (pv 5) (a6 (pv 11) b6))))
 j0)))))
 j0))))))
 j0))))))
 (c9 (i4 (v3 (a6 (pv 5) (a6 (pv 6) b6))))))))))),?_⟩
 refine fun S hS=>fun L hL=>fun M hM=>⟨(n9 0),fun R hR=>⟨(n9 0),fun Y hY=>?_⟩⟩
 have s1:=b9 (o:=.dK []) hS
 have s2:=b9 (o:=.dK []) hL
 have s3:=b9 (o:=.dK []) hM
 have s4:=b9 (o:=.lst []) hR
 have s5:=b9 (o:=.lst []) hY
 have W0:∃W,WA S L M R Y W H (upd (upd (upd (upd (upd H S (.dK [])) L (.dK [])) M (.dK [])) R (.lst [])) Y (.lst [])) P0 []:=by
  have g1:=s5 _ _ (s4 _ _ (s3 _ _ (s2 _ _ (b0 (H:=H) (a:=S) (o:=.dK [])))))
  have g2:=s5 _ _ (s4 _ _ (s3 _ _ (b0 (H:=upd H S (.dK [])) (a:=L) (o:=.dK []))))
  have g3:=s5 _ _ (s4 _ _ (b0 (H:=upd (upd H S (.dK [])) L (.dK [])) (a:=M) (o:=.dK [])))
  have g4:=s5 _ _ (b0 (H:=upd (upd (upd H S (.dK [])) L (.dK [])) M (.dK [])) (a:=R) (o:=.lst []))
  have g5:=b0 (H:=upd (upd (upd (upd H S (.dK [])) L (.dK [])) M (.dK [])) R (.lst [])) (a:=Y) (o:=.lst [])
  have a12:S≠L:=d6 b0 hL
  have a13:S≠M:=d6 (s2 _ _ b0) hM
  have a14:S≠R:=d6 (s3 _ _ (s2 _ _ b0)) hR
  have a15:S≠Y:=d6 (s4 _ _ (s3 _ _ (s2 _ _ b0))) hY
  have a23:L≠M:=d6 b0 hM
  have a24:L≠R:=d6 (s3 _ _ b0) hR
  have a25:L≠Y:=d6 (s4 _ _ (s3 _ _ b0)) hY
  have a34:M≠R:=d6 b0 hR
  have a35:M≠Y:=d6 (s4 _ _ b0) hY
  have a45:R≠Y:=d6 b0 hY
  have b2:=j7 s1 hL
  have b3:=j7 (s1.trans s2) hM
  have b4:=j7 ((s1.trans s2).trans s3) hR
  have b5:=j7 (((s1.trans s2).trans s3).trans s4) hY
  have sall:=(((s1.trans s2).trans s3).trans s4).trans s5
  generalize upd (upd (upd (upd (upd H S (.dK [])) L (.dK [])) M (.dK [])) R (.lst [])) Y (.lst [])=HZ at g1 g2 g3 g4 g5 sall ⊢
  refine⟨⟨fun b=>if b=S then .under else if b=L then .vers else if b=M then .tally else if b=R then .recs else if b=Y then .deal 0 else .free,fun _=>0,fun _=>0,fun _=>0⟩,⟨sall,fun b hb=>?_,g1,g2,g3,⟨[],g4,.nil⟩,⟨[],g5,.nil⟩,(fun d hd=>nomatch hd),aB0 rfl,?_,?_,?_,?_,fun b e=>?_⟩⟩
  ·by_cases c1:b=S
   ·rw[c1];exact hS
   by_cases c2:b=L
   ·rw[c2];exact b2
   by_cases c3:b=M
   ·rw[c3];exact b3
   by_cases c4:b=R
   ·rw[c4];exact b4
   by_cases c5:b=Y
   ·rw[c5];exact b5
   refine absurd ?_ hb
   show(if b=S then _ else if b=L then _ else if b=M then _ else if b=R then _ else if b=Y then _ else _)=_
   rw[aA4 c1,aA4 c2,aA4 c3,aA4 c4,aA4 c5]
  ·show(if L=S then _ else if L=L then _ else _)=_
   rw[aA4 (Ne.symm a12),aB0 rfl]
  ·show(if M=S then _ else if M=L then _ else if M=M then _ else _)=_
   rw[aA4 (Ne.symm a13),aA4 (Ne.symm a23),aB0 rfl]
  ·show(if R=S then _ else if R=L then _ else if R=M then _ else if R=R then _ else _)=_
   rw[aA4 (Ne.symm a14),aA4 (Ne.symm a24),aA4 (Ne.symm a34),aB0 rfl]
  ·show(if Y=S then _ else if Y=L then _ else if Y=M then _ else if Y=R then _ else if Y=Y then _ else _)=_
   rw[aA4 (Ne.symm a15),aA4 (Ne.symm a25),aA4 (Ne.symm a35),aA4 (Ne.symm a45),aB0 rfl]
  ·show(if b=S then _ else if b=L then _ else if b=M then _ else if b=R then _ else if b=Y then _ else _)=_
   rw[aA4 (fun z=>by rw[z,g1]at e;cases e),aA4 (fun z=>by rw[z,g2]at e;cases e),aA4 (fun z=>by rw[z,g3]at e;cases e),aA4 (fun z=>by rw[z,g4]at e;cases e),aA4 (fun z=>by rw[z,g5]at e;cases e)]
 obtain⟨W0,w0⟩:=W0
 generalize upd (upd (upd (upd (upd H S (.dK [])) L (.dK [])) M (.dK [])) R (.lst [])) Y (.lst [])=HZ at w0 ⊢
 have lx:=hD.len
 have ly:=n6 pa
 have la:=F.len
 refine⟨_,rfl,A,xs,rfl,.inl (d7.of (w0.sm _ _ hA)),_,rfl,by omega,by omega,?_⟩
 have en:(((xs.length:Nat):Int)).toNat=ds.length:=by omega
 rw[en]
 refine N7 (fun i σ' Hc=>∃(o7 o8 o9 oA oB:Option V) (W:WG) (tr:List Try),σ'=[some (.ref A),some (.ref Tl),some (.ref S),some (.ref L),some (.ref M),some (.ref R),some (.ref Y),o7,o8,o9,oA,oB]∧WA S L M R Y W H Hc (f i) tr∧tr.length≤i∧(∀y∈tr,b7b f ds as y)∧a7a f ds tr i) ⟨none,none,none,none,none,W0,[],rfl,by rw[F.zero];exact w0,aB3 _,(fun y hy=>nomatch hy),fun j hj=>absurd hj (aR2 _)⟩ (fun i σ' Hc hi z=>?_) (fun σ' Hc z=>?_)
 ·obtain⟨o7,o8,o9,oA,oB,W,tr,rfl,w,ltr,oktr,trA⟩:=z
  have hxi:=List.getElem?_eq_getElem (show i<xs.length by omega)
  have hyi:=List.getElem?_eq_getElem (show i<ys.length by omega)
  obtain⟨d,hd,b,eb,hb⟩:=u7 hD hxi
  obtain⟨an,han,hy⟩:=u7 pa hyi
  have St:=F.step i d an hd han
  have ok:=F.oks i (by omega)
  have bd:=F.bds i (by omega)
  have e0:(0:Int)+(i:Int)=((i:Nat):Int):=by omega
  have ax:F8 xs ((0:Int)+(i:Int))=some (.ref b):=by rw[e0,←eb];exact i9 hxi
  generalize ys[i]=y at hyi hy
  have ay:F8 ys ((0:Int)+(i:Int))=some y:=by rw[e0];exact i9 hyi
  have nd:(una (f i)).Nodup:=(aC3.mp ok.un).2.1
  refine⟨_,rfl,_,rfl,A,_,_,_,rfl,rfl,d7.of (w.sm _ _ hA),ax,?_⟩
  have St0:=St
  have rS:=w.r1
  have hyc:=hy.same w.sm
  obtain⟨xr,hR,pR⟩:=w.rc
  obtain⟨yt,hY,pY⟩:=w.ty
  have lR:=n6 pR
  have lY:=n6 pY
  have brc:=bd.rc
  have bun:=bd.un
  have hT':=w.sm _ _ hT
  have inl:∀n∈una (f i),n∈nat (f i).begun:=fun n hn=>a1g.mpr (ok.lt n (aD7 _ hn))
  have dS:=fun(Hx:Hp) (hx:Hx S=some (.dK (l5 (una (f i)) fun n=>.int (W.bg n)))) (n:Int)=>t7.k (k:=Sum.inl n) hx
  have dL:∀(Hx:Hp),Hx L=some (.dK (l5 (nat (f i).begun) fun n=>.ref (W.lk n)))→∀n∈una (f i),t7 Hx L (.int n) (some (.ref (W.lk n))):=fun Hx hx n hn=>by
   have:=t7.k (k:=Sum.inl n) hx
   rw[m9,aB0 (inl n hn)]at this
   exact this
  have dM:∀(Hx:Hp),Hx M=some (.dK (l5 (nat (f i).begun) fun n=>.ref (W.as n)))→∀n∈una (f i),t7 Hx M (.int n) (some (.ref (W.as n))):=fun Hx hx n hn=>by
   have:=t7.k (k:=Sum.inl n) hx
   rw[m9,aB0 (inl n hn)]at this
   exact this
  generalize hz:f (i+1)=st1 at St ⊢
  have fx:=b0m St
  rcases fx with ⟨d,hd2,rfl,fin⟩ | nofin
  ·have hin:d.num∈una (f i):=aA5.mpr ⟨d,hd2,rfl⟩
   have Dl0:=w.dl d hd2
   have bl:=bd.dl d hd2
   have dg:=dS Hc w.sn d.num
   rw[m9,aB0 hin]at dg
   refine⟨_,rfl,b,_,0,_,rfl,rfl,i5.of (w.sm _ _ hb),rfl,rfl,_,rfl,f6 ?_⟩
   refine⟨_,rfl,b,_,0,_,rfl,rfl,i5.of (w.sm _ _ hb),rfl,rfl,_,rfl,l6 ?_⟩
   refine⟨_,rfl,b,_,1,_,rfl,rfl,i5.of (w.sm _ _ hb),rfl,_,rfl,S,_,rfl,dg,_,rfl,l6 ?_⟩
   refine⟨_,rfl,b,_,1,_,rfl,rfl,i5.of (w.sm _ _ hb),rfl,?_⟩
   refine J0 ⟨_,rfl,b,_,0,_,rfl,rfl,i5.of (w.sm _ _ hb),rfl,rfl,_,rfl,f6 (f6 ⟨rfl,rfl⟩)⟩ ?_
   refine J0 ⟨_,rfl,b,_,0,_,rfl,rfl,i5.of (w.sm _ _ hb),rfl,rfl,_,rfl,f6 (f6 ⟨rfl,rfl⟩)⟩ ?_
   refine J0 ⟨_,rfl,b,_,0,_,rfl,rfl,i5.of (w.sm _ _ hb),rfl,rfl,_,rfl,f6 ⟨rfl,rfl⟩⟩ ?_
   refine⟨_,rfl,b,_,0,_,rfl,rfl,i5.of (w.sm _ _ hb),rfl,rfl,_,rfl,l6 ?_⟩
   have Dl0:=w.dl d hd2
   obtain⟨zb1,zb2⟩:=(F.bds i (by omega)).dl d hd2
   obtain⟨xr,hR,pR⟩:=w.rc
   have lR:=n6 pR
   have w1:=w.drop d.num
   have k2:(upd Hc S (.dK (J1 (l5 (una (f i)) fun n=>.int (W.bg n)) (Sum.inl d.num)))) (W.lk d.num)=_:=ur Dl0.lk Dl0.r2 w.r1 (by simp)
   have k3:(upd Hc S (.dK (J1 (l5 (una (f i)) fun n=>.int (W.bg n)) (Sum.inl d.num)))) (W.as d.num)=_:=ur Dl0.as Dl0.r3 w.r1 (by simp)
   have hR1:(upd Hc S (.dK (J1 (l5 (una (f i)) fun n=>.int (W.bg n)) (Sum.inl d.num)))) R=_:=ur hR w.r4 w.r1 (by simp)
   refine⟨_,rfl,_,rfl,S,rfl,.inl ⟨_,.inl w.sn⟩,_,rfl,_,Sum.inl d.num,.int (W.bg d.num),w.sn,rfl,?_,_,rfl,R,_,rfl,.inl (d7.of hR1),_,_,rfl,rfl,(n9 3),fun p1 hp1=>?_⟩
   ·rw[m9,aB0 hin]
   have s2:=b9 (o:=.tup [.int d.num,.int (W.bg d.num),.int ((xr.length:Int)+1)]) hp1
   have hp2:(upd (upd Hc S (.dK (J1 (l5 (una (f i)) fun n=>.int (W.bg n)) (Sum.inl d.num)))) p1 (.tup [.int d.num,.int (W.bg d.num),.int ((xr.length:Int)+1)])) p1=_:=b0
   have w2:=w1.new s2
   have k2:=s2 _ _ k2
   have k3:=s2 _ _ k3
   generalize upd (upd Hc S (.dK (J1 (l5 (una (f i)) fun n=>.int (W.bg n)) (Sum.inl d.num)))) p1 (.tup [.int d.num,.int (W.bg d.num),.int ((xr.length:Int)+1)])=H2 at s2 hp2 w2 k2 k3 ⊢
   refine⟨_,rfl,_,rfl,_,rfl,L,_,rfl,dL _ w2.lo _ hin,W.lk d.num,_,rfl,d7.of k2,⟨by simp only[aA0];omega,fun v hv=>by obtain⟨z,_,rfl⟩:=aA5.mp hv;exact⟨z,rfl⟩⟩,fun la ys' hla pm1 io1=>?_⟩
   obtain⟨ys1,rfl,py⟩:=K1 pm1
   have s3:=b9 (o:=.lst (ys1.map V.str)) hla
   have w3:=w2.new s3
   refine⟨_,rfl,_,rfl,M,_,rfl,dM _ w3.la _ hin,W.as d.num,_,rfl,d7.of (s3 _ _ k3),⟨by simp only[aA0];omega,fun v hv=>by obtain⟨z,_,rfl⟩:=aA5.mp hv;exact⟨z,rfl⟩⟩,fun pp zs' hpp pm2 io2=>?_⟩
   obtain⟨zs1,rfl,pz⟩:=K1 pm2
   have s4:=b9 (o:=.lst (zs1.map V.str)) hpp
   have w4:=w3.new s4
   unfold O5 at io1 io2
   rw[aE3]at io1 io2
   have hla4:=s4 _ _ (b0 (H:=H2) (a:=la) (o:=.lst (ys1.map V.str)))
   have hpp4:(upd (upd H2 la (.lst (ys1.map V.str))) pp (.lst (zs1.map V.str))) pp=_:=b0
   have hp4:=s4 _ _ (s3 _ _ hp2)
   have nla:=j7 w2.sm hla
   have npp:=j7 w3.sm hpp
   have fla:=w2.cl la hla
   have fpp:=w3.cl pp hpp
   generalize upd (upd H2 la (.lst (ys1.map V.str))) pp (.lst (zs1.map V.str))=H4 at w4 hla4 hpp4 hp4 s4 ⊢
   refine⟨(n9 2),fun p2 hp2'=>?_⟩
   have s5:=b9 (o:=.tup [.ref la,.ref pp]) hp2'
   refine⟨p1,p2,_,_,rfl,rfl,i5.of (s5 _ _ hp4),i5.of b0,by simp,(n9 5),(fun z=>by simp at z),fun _ p3 hp3=>?_⟩
   have s6:=b9 (o:=.tup ([.int d.num,.int (W.bg d.num),.int ((xr.length:Int)+1)]++[.ref la,.ref pp])) hp3
   have w6:=(w4.new s5).new s6
   have hp6:(upd (upd H4 p2 (.tup [.ref la,.ref pp])) p3 (.tup ([.int d.num,.int (W.bg d.num),.int ((xr.length:Int)+1)]++[.ref la,.ref pp]))) p3=_:=b0
   have hla6:=s6 _ _ (s5 _ _ hla4)
   have hpp6:=s6 _ _ (s5 _ _ hpp4)
   generalize upd (upd H4 p2 (.tup [.ref la,.ref pp])) p3 (.tup ([.int d.num,.int (W.bg d.num),.int ((xr.length:Int)+1)]++[.ref la,.ref pp]))=H6 at w6 hp6 hla6 hpp6 ⊢
   obtain⟨yt,hY,pY⟩:=w6.ty
   have lY:=n6 pY
   obtain⟨xr6,hR6,pR6⟩:=w6.rc
   have lR6:xr6.length=(f i).recs.length:=n6 pR6
   refine⟨_,rfl,.inl ⟨rfl,_,d7.of hY⟩,_,rfl,_,rfl,_,rfl,R,_,rfl,.inl (d7.of hR6),fun lb hlb=>?_⟩
   have s7:=b9 (o:=.lst xr6) hlb
   have nlb:=j7 w6.sm hlb
   have flb:=w6.cl lb hlb
   refine⟨(n9 3),fun p4 hp4'=>?_⟩
   have s8:=b9 (o:=.tup [.int (0+(i:Int)),.ref p3,.ref lb]) hp4'
   have s68:=s7.trans s8
   have w8:=w6.new s68
   have hlb8:=s8 _ _ (b0 (H:=H6) (a:=lb) (o:=.lst xr6))
   have hp8:(upd (upd H6 lb (.lst xr6)) p4 (.tup [.int (0+(i:Int)),.ref p3,.ref lb])) p4=_:=b0
   generalize upd (upd H6 lb (.lst xr6)) p4 (.tup [.int (0+(i:Int)),.ref p3,.ref lb])=H8 at w8 hlb8 hp8 s68 ⊢
   have w9:=w8.fz (as:=[la,pp,lb]) (fun v hv=>by
    simp only[aB9,aG0,aL6]at hv
    rcases hv with rfl | rfl | rfl
    ·exact⟨fla,nla,_,s68 _ _ hla6⟩
    ·exact⟨fpp,npp,_,s68 _ _ hpp6⟩
    ·exact⟨flb,nlb,_,hlb8⟩)
   let r0:Rec:=⟨d.num,d.beg,((f i).recs.length:Int)+1,ys1,zs1⟩
   have isr:M9 d (((f i).recs.length:Int)+1) r0:=⟨rfl,rfl,rfl,py,pz,io1,io2⟩
   have rc9:RcAt (wfz W [la,pp,lb]).rl H8 r0 (.ref p3):=by
    refine⟨p3,la,pp,rfl,?_,s68 _ _ hla6,s68 _ _ hpp6,a0S (by simp),a0S (by simp)⟩
    rw[s68 _ _ hp6,lR,Dl0.bg];rfl
   obtain⟨xr9,hR9,pR9⟩:=w9.rc
   have eq9:xr9=xr6:=by rw[s68 _ _ hR6]at hR9;cases hR9;rfl
   subst eq9
   have ty9:Q3 (wfz W [la,pp,lb]).rl H8 (i,r0,(f i).recs) (.ref p4):=⟨p4,lb,.ref p3,_,rfl,by rw[hp8,e0],rc9,hlb8,a0S (by simp),pR9⟩
   have hY9:=s68 _ _ hY
   refine⟨Y,yt,_,rfl,rfl,hY9,n4 (by omega),?_⟩
   have wA:=w9.addY hY9 ty9
   have tkA:u0 H8 (upd H8 Y (.lst (yt++[.ref p4]))):=p9 hY9
   have rcA:=rc9.updR (o:=.lst (yt++[.ref p4])) w9.r5 (by simp) tkA
   have okA:∀y∈tr++[(i,r0,(f i).recs)],b7b f ds as y:=fun y hy=>by
    rcases aA8.mp hy with hy | hy
    ·exact oktr y hy
    ·rw[aA3.mp hy];exact⟨⟨d,_,hd,han,hd2,St0,isr,rfl⟩⟩
   have ltA:(tr++[(i,r0,(f i).recs)]).length≤i+1:=by rw[aA7];simp;omega
   generalize upd H8 Y (.lst (yt++[.ref p4]))=HA at wA rcA ⊢
   have hyA:=hy.same wA.sm
   have RD:=fun(x:Hp) (sx:g6 H x)=>d7.of (K:=K) (sx _ _ hT)
   refine⟨_,rfl,_,rfl,Tl,_,_,_,rfl,rfl,RD _ wA.sm,ay,rl0,_,_,rfl,hyA,?_⟩
   rcases fin with ⟨ea,r,cs,row,E,rfl⟩ | ⟨ea,rfl⟩
   ·rw[ea]
    have er:r0=r:=a9b isr E.rc
    obtain⟨xrA,hRA,pRA⟩:=wA.rc
    have lRA:xrA.length=(f i).recs.length:=n6 pRA
    refine⟨_,rfl,l6 ⟨_,rfl,.inl ⟨rfl,_,d7.of hRA⟩,_,rfl,R,_,_,rfl,rfl,hRA,n4 (by omega),?_⟩⟩
    exact⟨_,_,_,_,_,_,_,rfl,(wA.addR hRA rcA).cong rfl rfl (by show(f i).recs++[r]=(f i).recs++[r0];rw[er]),ltA,okA,trA.add _⟩
   ·rw[ea]
    exact⟨_,rfl,f6 ⟨_,_,_,_,_,_,_,rfl,wA,ltA,okA,trA.add _⟩⟩
  replace trA:a7a f ds tr (i+1):=trA.skip fun e he z=>nofin e he (aD1 (hd.symm.trans z))
  cases St with
  | begin=>
   refine⟨_,rfl,b,_,0,_,rfl,rfl,i5.of (w.sm _ _ hb),rfl,rfl,_,rfl,l6 ?_⟩
   have el:(l5 (nat (f i).begun) fun n=>V.ref (W.lk n)).length=(f i).begun:=by rw[G9,a8b]
   have bb:=a5u F i (by omega)
   refine⟨(n9 0),fun l1 hl1=>?_⟩
   have s1:=b9 (o:=.lst []) hl1
   have aSL:S≠L:=P8 (G:=gOf W.rl) w.r1 w.r2 (by simp)
   have aSM:S≠M:=P8 (G:=gOf W.rl) w.r1 w.r3 (by simp)
   have aLM:L≠M:=P8 (G:=gOf W.rl) w.r2 w.r3 (by simp)
   have aLR:R≠L:=P8 (G:=gOf W.rl) w.r4 w.r2 (by simp)
   have n1S:l1≠S:=fun z=>by rw[z,w.sn]at hl1;cases hl1
   have n1L:l1≠L:=fun z=>by rw[z,w.lo]at hl1;cases hl1
   have n1M:l1≠M:=fun z=>by rw[z,w.la]at hl1;cases hl1
   have lo1:=s1 _ _ w.lo
   refine⟨_,rfl,_,rfl,L,_,rfl,lo1,L,_,rfl,J5.k (k:=Sum.inl _) lo1 (n4 (by rw[el];omega)),?_⟩
   rw[el]
   have lo2:(upd (upd Hc l1 (.lst [])) L (.dK (putK (l5 (nat (f i).begun) fun n=>.ref (W.lk n)) (Sum.inl ((f i).begun:Int)) (.ref l1)))) L=some (.dK (putK (l5 (nat (f i).begun) fun n=>.ref (W.lk n)) (Sum.inl ((f i).begun:Int)) (.ref l1))):=b0
   have sn2:(upd (upd Hc l1 (.lst [])) L (.dK (putK (l5 (nat (f i).begun) fun n=>.ref (W.lk n)) (Sum.inl ((f i).begun:Int)) (.ref l1)))) S=_:=(b7 aSL).trans (s1 _ _ w.sn)
   have la2:(upd (upd Hc l1 (.lst [])) L (.dK (putK (l5 (nat (f i).begun) fun n=>.ref (W.lk n)) (Sum.inl ((f i).begun:Int)) (.ref l1)))) M=_:=(b7 (Ne.symm aLM)).trans (s1 _ _ w.la)
   have hR2:(upd (upd Hc l1 (.lst [])) L (.dK (putK (l5 (nat (f i).begun) fun n=>.ref (W.lk n)) (Sum.inl ((f i).begun:Int)) (.ref l1)))) R=_:=(b7 aLR).trans (s1 _ _ hR)
   have g1:(upd (upd Hc l1 (.lst [])) L (.dK (putK (l5 (nat (f i).begun) fun n=>.ref (W.lk n)) (Sum.inl ((f i).begun:Int)) (.ref l1)))) l1=some (.lst []):=(b7 n1L).trans b0
   have bt2:∀c o,c≠L→Hc c=some o→(upd (upd Hc l1 (.lst [])) L (.dK (putK (l5 (nat (f i).begun) fun n=>.ref (W.lk n)) (Sum.inl ((f i).begun:Int)) (.ref l1)))) c=some o:=fun c o nc e=>(b7 nc).trans (s1 _ _ e)
   have tk2:=s1.tupK.trans (J8 (o:=.dK (putK (l5 (nat (f i).begun) fun n=>.ref (W.lk n)) (Sum.inl ((f i).begun:Int)) (.ref l1))) lo1)
   have nn2:∀c,(upd (upd Hc l1 (.lst [])) L (.dK (putK (l5 (nat (f i).begun) fun n=>.ref (W.lk n)) (Sum.inl ((f i).begun:Int)) (.ref l1)))) c=none→Hc c=none:=fun c e=>p8 (p8 e)
   generalize upd (upd Hc l1 (.lst [])) L (.dK (putK (l5 (nat (f i).begun) fun n=>.ref (W.lk n)) (Sum.inl ((f i).begun:Int)) (.ref l1)))=H2 at lo2 sn2 la2 hR2 g1 bt2 tk2 nn2 ⊢
   have el2:(((putK (l5 (nat (f i).begun) fun n=>V.ref (W.lk n)) (Sum.inl ((f i).begun:Int)) (.ref l1)).length:Nat):Int)-1=((f i).begun:Int):=by
    rw[J9,aA4 (fun z=>by have:=(a1g.mp z).2;omega),G9,aA7,a8b];simp
   have eR:(xr.length:Int)=((f i).recs.length:Int):=by rw[lR]
   refine⟨_,rfl,R,_,rfl,.inl (d7.of hR2),_,rfl,_,rfl,L,_,rfl,lo2,_,_,rfl,rfl,S,_,rfl,J5.k (k:=Sum.inl _) sn2 (n4 (by rw[G9];unfold una;rw[aA0];omega)),?_⟩
   rw[el2,eR]
   have lo3:(upd H2 S (.dK (putK (l5 (una (f i)) fun n=>.int (W.bg n)) (Sum.inl ((f i).begun:Int)) (.int ((f i).recs.length:Int))))) L=_:=(b7 (Ne.symm aSL)).trans lo2
   have la3:(upd H2 S (.dK (putK (l5 (una (f i)) fun n=>.int (W.bg n)) (Sum.inl ((f i).begun:Int)) (.int ((f i).recs.length:Int))))) M=_:=(b7 (Ne.symm aSM)).trans la2
   have sn3:(upd H2 S (.dK (putK (l5 (una (f i)) fun n=>.int (W.bg n)) (Sum.inl ((f i).begun:Int)) (.int ((f i).recs.length:Int))))) S=_:=b0
   have g13:(upd H2 S (.dK (putK (l5 (una (f i)) fun n=>.int (W.bg n)) (Sum.inl ((f i).begun:Int)) (.int ((f i).recs.length:Int))))) l1=_:=(b7 n1S).trans g1
   have bt3:∀c o,c≠S→c≠L→Hc c=some o→(upd H2 S (.dK (putK (l5 (una (f i)) fun n=>.int (W.bg n)) (Sum.inl ((f i).begun:Int)) (.int ((f i).recs.length:Int))))) c=some o:=fun c o n1 n2 e=>(b7 n1).trans (bt2 c o n2 e)
   have tk3:=tk2.trans (J8 (o:=.dK (putK (l5 (una (f i)) fun n=>.int (W.bg n)) (Sum.inl ((f i).begun:Int)) (.int ((f i).recs.length:Int)))) sn2)
   have nn3:∀c,(upd H2 S (.dK (putK (l5 (una (f i)) fun n=>.int (W.bg n)) (Sum.inl ((f i).begun:Int)) (.int ((f i).recs.length:Int))))) c=none→Hc c=none:=fun c e=>nn2 c (p8 e)
   generalize upd H2 S (.dK (putK (l5 (una (f i)) fun n=>.int (W.bg n)) (Sum.inl ((f i).begun:Int)) (.int ((f i).recs.length:Int))))=H3 at lo3 la3 sn3 g13 bt3 tk3 nn3 ⊢
   refine⟨(n9 0),fun l2 hl2=>?_⟩
   have s4:=b9 (o:=.lst []) hl2
   have n12:l1≠l2:=d6 g13 hl2
   have n2S:S≠l2:=d6 sn3 hl2
   have n2L:L≠l2:=d6 lo3 hl2
   have n2M:M≠l2:=d6 la3 hl2
   refine⟨_,rfl,_,rfl,L,_,rfl,s4 _ _ lo3,_,_,rfl,rfl,M,_,rfl,J5.k (k:=Sum.inl _) (s4 _ _ la3) (n4 (by rw[G9,a8b];omega)),?_⟩
   rw[el2]
   refine⟨_,_,_,_,_,_,tr,rfl,w.begin ok (l1:=l1) (l2:=l2) hl1 (nn3 _ hl2) n12 ((b7 n1M).trans (s4 _ _ g13)) ((b7 (Ne.symm n2M)).trans b0) (fun c o c1 c2 c3 e=>(b7 c3).trans (s4 _ _ (bt3 c o c1 c2 e))) ((tk3.trans s4.tupK).trans (J8 (s4 _ _ la3))) ((b7 aSM).trans (s4 _ _ sn3)) ((b7 aLM).trans (s4 _ _ lo3)) b0,by omega,oktr,trA⟩
  | @sweep m mb=>
   refine⟨_,rfl,b,_,0,_,rfl,rfl,i5.of (w.sm _ _ hb),rfl,rfl,_,rfl,f6 ?_⟩
   refine⟨_,rfl,b,_,0,_,rfl,rfl,i5.of (w.sm _ _ hb),rfl,rfl,_,rfl,f6 ?_⟩
   exact f6 ⟨_,_,_,_,_,W,tr,rfl,w.cong rfl rfl rfl,by omega,oktr,trA⟩
  | @none _ n hno hn=>
   have hn:n∉una (f i):=hn
   cases d with
   | begin=>cases hno
   | sweep=>cases hno
   | look n g=>
    cases hno
    refine⟨_,rfl,b,_,0,_,rfl,rfl,i5.of (w.sm _ _ hb),rfl,rfl,_,rfl,f6 ?_⟩
    refine⟨_,rfl,b,_,0,_,rfl,rfl,i5.of (w.sm _ _ hb),rfl,rfl,_,rfl,l6 ?_⟩
    have dg:=dS Hc w.sn n
    rw[m9,aA4 hn]at dg
    exact⟨_,rfl,b,_,1,_,rfl,rfl,i5.of (w.sm _ _ hb),rfl,_,rfl,S,_,rfl,dg,_,rfl,f6 ⟨_,_,_,_,_,W,tr,rfl,w,by omega,oktr,trA⟩⟩
   | put n g x=>
    cases hno
    refine⟨_,rfl,b,_,0,_,rfl,rfl,i5.of (w.sm _ _ hb),rfl,rfl,_,rfl,f6 ?_⟩
    refine⟨_,rfl,b,_,0,_,rfl,rfl,i5.of (w.sm _ _ hb),rfl,rfl,_,rfl,l6 ?_⟩
    have dg:=dS Hc w.sn n
    rw[m9,aA4 hn]at dg
    exact⟨_,rfl,b,_,1,_,rfl,rfl,i5.of (w.sm _ _ hb),rfl,_,rfl,S,_,rfl,dg,_,rfl,f6 ⟨_,_,_,_,_,W,tr,rfl,w,by omega,oktr,trA⟩⟩
   | fin n=>
    cases hno
    refine⟨_,rfl,b,_,0,_,rfl,rfl,i5.of (w.sm _ _ hb),rfl,rfl,_,rfl,f6 ?_⟩
    refine⟨_,rfl,b,_,0,_,rfl,rfl,i5.of (w.sm _ _ hb),rfl,rfl,_,rfl,l6 ?_⟩
    have dg:=dS Hc w.sn n
    rw[m9,aA4 hn]at dg
    exact⟨_,rfl,b,_,1,_,rfl,rfl,i5.of (w.sm _ _ hb),rfl,_,rfl,S,_,rfl,dg,_,rfl,f6 ⟨_,_,_,_,_,W,tr,rfl,w,by omega,oktr,trA⟩⟩
   | leave n=>
    cases hno
    refine⟨_,rfl,b,_,0,_,rfl,rfl,i5.of (w.sm _ _ hb),rfl,rfl,_,rfl,f6 ?_⟩
    refine⟨_,rfl,b,_,0,_,rfl,rfl,i5.of (w.sm _ _ hb),rfl,rfl,_,rfl,l6 ?_⟩
    have dg:=dS Hc w.sn n
    rw[m9,aA4 hn]at dg
    exact⟨_,rfl,b,_,1,_,rfl,rfl,i5.of (w.sm _ _ hb),rfl,_,rfl,S,_,rfl,dg,_,rfl,f6 ⟨_,_,_,_,_,W,tr,rfl,w,by omega,oktr,trA⟩⟩
  | @own d g x hd2 hg=>
   have hin:d.num∈una (f i):=aA5.mpr ⟨d,hd2,rfl⟩
   have Dl0:=w.dl d hd2
   have bl:=bd.dl d hd2
   have dg:=dS Hc w.sn d.num
   rw[m9,aB0 hin]at dg
   refine⟨_,rfl,b,_,0,_,rfl,rfl,i5.of (w.sm _ _ hb),rfl,rfl,_,rfl,f6 ?_⟩
   refine⟨_,rfl,b,_,0,_,rfl,rfl,i5.of (w.sm _ _ hb),rfl,rfl,_,rfl,l6 ?_⟩
   refine⟨_,rfl,b,_,1,_,rfl,rfl,i5.of (w.sm _ _ hb),rfl,_,rfl,S,_,rfl,dg,_,rfl,l6 ?_⟩
   refine⟨_,rfl,b,_,1,_,rfl,rfl,i5.of (w.sm _ _ hb),rfl,?_⟩
   refine⟨fun σ' H'=>σ'=[some (.ref A),some (.ref Tl),some (.ref S),some (.ref L),some (.ref M),some (.ref R),some (.ref Y),some (.int (0+(i:Int))),some (.ref b),some (.int d.num),oA,oB]∧WA S L M R Y W H H' (f i) tr,?_,fun σ' H' hM=>?_⟩
   ·refine⟨_,rfl,b,_,0,_,rfl,rfl,i5.of (w.sm _ _ hb),rfl,rfl,_,rfl,l6 ?_⟩
    refine⟨_,rfl,b,_,2,_,rfl,rfl,i5.of (w.sm _ _ hb),rfl,_,rfl,_,rfl,L,_,rfl,dL _ w.lo _ hin,_,rfl,_,rfl,M,_,rfl,dM _ w.la _ hin,W.lk d.num,W.as d.num,_,_,rfl,rfl,Dl0.lk,Dl0.as,(by rw[aA0,aA0,aA0,aF9];omega),fun c hc=>?_⟩
    rw[←aB2]
    have s1:=b9 (o:=.lst ((d.looked++d.aside.map (·.1)).map V.str)) hc
    refine⟨c,_,rfl,.inl (d7.of b0),rfl,T3 _,_,rfl,?_⟩
    rw[aB0 rfl,a5b]
    rw[aC6 (aD7 _ (a5N hg))]
    exact f6 ⟨rfl,w.new s1⟩
   obtain⟨rfl,w⟩:=hM
   refine J0 ⟨_,rfl,b,_,0,_,rfl,rfl,i5.of (w.sm _ _ hb),rfl,rfl,_,rfl,f6 (f6 ⟨rfl,rfl⟩)⟩ ?_
   refine J0 ⟨_,rfl,b,_,0,_,rfl,rfl,i5.of (w.sm _ _ hb),rfl,rfl,_,rfl,f6 ⟨rfl,rfl⟩⟩ ?_
   exact⟨_,rfl,b,_,0,_,rfl,rfl,i5.of (w.sm _ _ hb),rfl,rfl,_,rfl,f6 ⟨_,_,_,_,_,W,tr,rfl,w,by omega,oktr,trA⟩⟩
  | @look d g hd2 hg=>
   have hin:d.num∈una (f i):=aA5.mpr ⟨d,hd2,rfl⟩
   have Dl0:=w.dl d hd2
   have bl:=bd.dl d hd2
   have dg:=dS Hc w.sn d.num
   rw[m9,aB0 hin]at dg
   refine⟨_,rfl,b,_,0,_,rfl,rfl,i5.of (w.sm _ _ hb),rfl,rfl,_,rfl,f6 ?_⟩
   refine⟨_,rfl,b,_,0,_,rfl,rfl,i5.of (w.sm _ _ hb),rfl,rfl,_,rfl,l6 ?_⟩
   refine⟨_,rfl,b,_,1,_,rfl,rfl,i5.of (w.sm _ _ hb),rfl,_,rfl,S,_,rfl,dg,_,rfl,l6 ?_⟩
   refine⟨_,rfl,b,_,1,_,rfl,rfl,i5.of (w.sm _ _ hb),rfl,?_⟩
   refine⟨fun σ' H'=>σ'=[some (.ref A),some (.ref Tl),some (.ref S),some (.ref L),some (.ref M),some (.ref R),some (.ref Y),some (.int (0+(i:Int))),some (.ref b),some (.int d.num),oA,oB]∧WA S L M R Y W H H' (b5b (f i) d.num g) tr,?_,fun σ' H' hM=>?_⟩
   ·refine⟨_,rfl,b,_,0,_,rfl,rfl,i5.of (w.sm _ _ hb),rfl,rfl,_,rfl,l6 ?_⟩
    refine⟨_,rfl,b,_,2,_,rfl,rfl,i5.of (w.sm _ _ hb),rfl,_,rfl,_,rfl,L,_,rfl,dL _ w.lo _ hin,_,rfl,_,rfl,M,_,rfl,dM _ w.la _ hin,W.lk d.num,W.as d.num,_,_,rfl,rfl,Dl0.lk,Dl0.as,(by rw[aA0,aA0,aA0,aF9];omega),fun c hc=>?_⟩
    rw[←aB2]
    have s1:=b9 (o:=.lst ((d.looked++d.aside.map (·.1)).map V.str)) hc
    refine⟨c,_,rfl,.inl (d7.of b0),rfl,T3 _,_,rfl,?_⟩
    rw[aB0 rfl,a5b]
    have ng:=a7x hg
    have w1:=w.new s1
    by_cases c1:g∈d.looked
    ·rw[aC6 (aE2 _ c1)]
     refine f6 ⟨rfl,w1.mod (fun _=>⟨rfl,rfl⟩) fun e he en=>⟨?_,rfl⟩⟩
     rw[G7 nd he hd2 en]
     show C3 d.looked g=_
     unfold C3;rw[aB0 c1]
    ·rw[aB7 fun z=>(aA8.mp z).elim c1 ng]
     have D1:=w1.dl d hd2
     refine l6 ⟨_,rfl,_,rfl,L,_,rfl,dL _ w1.lo _ hin,.inl ⟨rfl,_,d7.of D1.lk⟩,_,rfl,b,_,2,_,rfl,rfl,i5.of (w1.sm _ _ hb),rfl,W.lk d.num,_,_,rfl,rfl,D1.lk,n4 (by rw[aA0];omega),rfl,w1.setLk nd hd2 c1⟩
   obtain⟨rfl,w⟩:=hM
   refine J0 ⟨_,rfl,b,_,0,_,rfl,rfl,i5.of (w.sm _ _ hb),rfl,rfl,_,rfl,f6 (f6 ⟨rfl,rfl⟩)⟩ ?_
   refine J0 ⟨_,rfl,b,_,0,_,rfl,rfl,i5.of (w.sm _ _ hb),rfl,rfl,_,rfl,f6 ⟨rfl,rfl⟩⟩ ?_
   exact⟨_,rfl,b,_,0,_,rfl,rfl,i5.of (w.sm _ _ hb),rfl,rfl,_,rfl,f6 ⟨_,_,_,_,_,W,tr,rfl,w,by omega,oktr,trA⟩⟩
  | @put d g x hd2=>
   have hin:d.num∈una (f i):=aA5.mpr ⟨d,hd2,rfl⟩
   have Dl0:=w.dl d hd2
   have bl:=bd.dl d hd2
   have dg:=dS Hc w.sn d.num
   rw[m9,aB0 hin]at dg
   refine⟨_,rfl,b,_,0,_,rfl,rfl,i5.of (w.sm _ _ hb),rfl,rfl,_,rfl,f6 ?_⟩
   refine⟨_,rfl,b,_,0,_,rfl,rfl,i5.of (w.sm _ _ hb),rfl,rfl,_,rfl,l6 ?_⟩
   refine⟨_,rfl,b,_,1,_,rfl,rfl,i5.of (w.sm _ _ hb),rfl,_,rfl,S,_,rfl,dg,_,rfl,l6 ?_⟩
   refine⟨_,rfl,b,_,1,_,rfl,rfl,i5.of (w.sm _ _ hb),rfl,?_⟩
   refine J0 ⟨_,rfl,b,_,0,_,rfl,rfl,i5.of (w.sm _ _ hb),rfl,rfl,_,rfl,f6 (f6 ⟨rfl,rfl⟩)⟩ ?_
   have Dl0:=w.dl d hd2
   refine⟨fun σ' H'=>σ'=[some (.ref A),some (.ref Tl),some (.ref S),some (.ref L),some (.ref M),some (.ref R),some (.ref Y),some (.int (0+(i:Int))),some (.ref b),some (.int d.num),oA,oB]∧WA S L M R Y W H H' (putSt (f i) d.num g x) tr,?_,fun σ' H' hM=>?_⟩
   ·refine⟨_,rfl,b,_,0,_,rfl,rfl,i5.of (w.sm _ _ hb),rfl,rfl,_,rfl,l6 ?_⟩
    refine⟨_,rfl,b,_,2,_,rfl,rfl,i5.of (w.sm _ _ hb),rfl,_,rfl,_,rfl,M,_,rfl,dM _ w.la _ hin,W.as d.num,_,rfl,.inl (d7.of Dl0.as),rfl,T3 _,_,rfl,?_⟩
    rw[aB0 rfl,a5b]
    by_cases c1:g∈d.aside.map (·.1)
    ·rw[aC6 c1]
     refine f6 ⟨rfl,w.mod (fun _=>⟨rfl,rfl⟩) fun e he en=>⟨rfl,?_⟩⟩
     rw[G7 nd he hd2 en]
     show(D9 d.aside g x).map (·.1)=_
     rw[a7j,aB0 c1]
    ·rw[aB7 c1]
     exact l6 ⟨_,rfl,_,rfl,M,_,rfl,dM _ w.la _ hin,.inl ⟨rfl,_,d7.of Dl0.as⟩,_,rfl,b,_,2,_,rfl,rfl,i5.of (w.sm _ _ hb),rfl,W.as d.num,_,_,rfl,rfl,Dl0.as,n4 (by rw[aA0,aA0];omega),rfl,w.setAs nd hd2 c1⟩
   obtain⟨rfl,w⟩:=hM
   refine J0 ⟨_,rfl,b,_,0,_,rfl,rfl,i5.of (w.sm _ _ hb),rfl,rfl,_,rfl,f6 ⟨rfl,rfl⟩⟩ ?_
   exact⟨_,rfl,b,_,0,_,rfl,rfl,i5.of (w.sm _ _ hb),rfl,rfl,_,rfl,f6 ⟨_,_,_,_,_,W,tr,rfl,w,by omega,oktr,trA⟩⟩
  | @leave d hd2=>
   have hin:d.num∈una (f i):=aA5.mpr ⟨d,hd2,rfl⟩
   have Dl0:=w.dl d hd2
   have bl:=bd.dl d hd2
   have dg:=dS Hc w.sn d.num
   rw[m9,aB0 hin]at dg
   refine⟨_,rfl,b,_,0,_,rfl,rfl,i5.of (w.sm _ _ hb),rfl,rfl,_,rfl,f6 ?_⟩
   refine⟨_,rfl,b,_,0,_,rfl,rfl,i5.of (w.sm _ _ hb),rfl,rfl,_,rfl,l6 ?_⟩
   refine⟨_,rfl,b,_,1,_,rfl,rfl,i5.of (w.sm _ _ hb),rfl,_,rfl,S,_,rfl,dg,_,rfl,l6 ?_⟩
   refine⟨_,rfl,b,_,1,_,rfl,rfl,i5.of (w.sm _ _ hb),rfl,?_⟩
   refine J0 ⟨_,rfl,b,_,0,_,rfl,rfl,i5.of (w.sm _ _ hb),rfl,rfl,_,rfl,f6 (f6 ⟨rfl,rfl⟩)⟩ ?_
   refine J0 ⟨_,rfl,b,_,0,_,rfl,rfl,i5.of (w.sm _ _ hb),rfl,rfl,_,rfl,f6 (f6 ⟨rfl,rfl⟩)⟩ ?_
   refine⟨fun σ' H'=>σ'=[some (.ref A),some (.ref Tl),some (.ref S),some (.ref L),some (.ref M),some (.ref R),some (.ref Y),some (.int (0+(i:Int))),some (.ref b),some (.int d.num),oA,oB]∧WA S L M R Y W H H' (v9 (f i) d.num) tr,?_,fun σ' H' hM=>?_⟩
   ·refine⟨_,rfl,b,_,0,_,rfl,rfl,i5.of (w.sm _ _ hb),rfl,rfl,_,rfl,l6 ?_⟩
    refine⟨_,rfl,S,rfl,.inl ⟨_,.inl w.sn⟩,_,rfl,_,Sum.inl d.num,.int (W.bg d.num),w.sn,rfl,?_,rfl,w.drop d.num⟩
    rw[m9,aB0 hin]
   obtain⟨rfl,w⟩:=hM
   exact⟨_,rfl,b,_,0,_,rfl,rfl,i5.of (w.sm _ _ hb),rfl,rfl,_,rfl,f6 ⟨_,_,_,_,_,W,tr,rfl,w,by omega,oktr,trA⟩⟩
  | ended hd2 _=>exact absurd rfl (nofin _ hd2)
  | ring hd2 _=>exact absurd rfl (nofin _ hd2)
 ·obtain⟨o7,o8,o9,oA,oB,W,tr,rfl,w,ltr,oktr,trA⟩:=z
  obtain⟨us,u1,u2⟩:=w.rc
  obtain⟨ws,y1,y2⟩:=w.ty
  refine⟨_,rfl,_,rfl,(n9 2),fun p hp=>?_⟩
  have sp:=b9 (o:=.tup [.ref R,.ref Y]) hp
  exact q p R Y us ws tr W.rl _ (w.sm.trans sp) b0 (sp _ _ u1) (Paired.mapP u2 fun _ _ z=>z.same sp) (sp _ _ y1) (Paired.mapP y2 fun _ _ z=>z.same sp) oktr trA w.nw
theorem b4j{v:F6}{m:Int}{am:Am}(nd:(v.map (·.1)).Nodup):((B6 v am m).map (·.1)).Nodup:=by
 induction am generalizing v with
 | nil=>exact nd
 | cons a am ih=>
  refine ih (v:=D7 v a.1 (m,a.2)) ?_
  rw[T5];split
  ·exact nd
  ·rename_i z
   rw[aC3]
   refine⟨nd,by simp,fun x hx y hy e=>z ?_⟩
   rw[aA3.mp hy]at e
   rw[←e];exact hx
theorem a0w{st st':j5}{d:i8}{a:u9}(h:(st.vers.map (·.1)).Nodup)(s:Step st d a st'):(st'.vers.map (·.1)).Nodup:=by
 cases s with
 | @sweep m _=>
  show((O0 st.vers m).map (·.1)).Nodup
  unfold O0
  rw[aE3];exact h
 | ended _ _=>exact b4j h
 | _=>exact h
theorem Run.to{ds:List i8}{as:List u9}{st:j5}(R:Run P0 ds as st)(okd:∀d∈ds,X2 d)(bn:ds.length≤63):∃f,Trace f ds as∧f ds.length=st:=by
 obtain⟨f,f0,f1,fs⟩:=R.trace
 have la:=a3C R
 have vb:∀i,i≤ds.length→((f i).vers.map (·.1)).Nodup∧Bd i (f i):=by
  intro i
  induction i with
  | zero=>intro _;rw[f0];exact⟨aI4,bd0⟩
  | succ i ih=>
   intro h
   have hd:=List.getElem?_eq_getElem (l:=ds) (i:=i) (by omega)
   have ha:=List.getElem?_eq_getElem (l:=as) (i:=i) (by omega)
   obtain⟨v,b⟩:=ih (by omega)
   exact⟨a0w v (fs i _ _ hd ha),a4V (by omega) v b (fs i _ _ hd ha)⟩
 exact⟨f,⟨f0,fs,la,Run.oks (st:=st) f0 ok0 la fs,Run.gds f0 gd0 la okd fs,fun i h=>(vb i h).2⟩,f1⟩
theorem a2I{st:j5}(ok:G0 st){d:Dl}(hd:d∈st.under){e:Int}{r:Rec}(rc:M9 d e r){cs:List (List Lk)}(lw:LWs r st.recs cs)(l:Lk) :
  l∈st.links++cs.flatten↔∃o∈st.recs++[r],∃p∈st.recs++[r],o.num≠p.num∧a7m o p l:=by
 have dn:d.num∈st.under.map (·.num):=aA5.mpr ⟨d,hd,rfl⟩
 have ne:∀o∈st.recs,o.num≠r.num:=fun o ho e=>(aC3.mp ok.un).2.2 o.num (aA5.mpr ⟨o,ho,rfl⟩) d.num dn (by rw[e,rc.1])
 rw[aA8,ok.mem,lw.mem]
 constructor
 ·rintro(⟨a,ha,b,hb,c,k⟩ | ⟨o,ho,k | k⟩)
  ·exact⟨a,aE2 _ ha,b,aE2 _ hb,c,k⟩
  ·exact⟨r,by simp,o,aE2 _ ho,(ne o ho).symm,k⟩
  ·exact⟨o,aE2 _ ho,r,by simp,ne o ho,k⟩
 ·rintro⟨a,ha,b,hb,c,k⟩
  rcases aA8.mp ha with u | u<;>rcases aA8.mp hb with v | v
  ·exact .inl ⟨a,u,b,v,c,k⟩
  ·rw[aA3.mp v]at k;exact .inr ⟨a,u,.inr k⟩
  ·rw[aA3.mp u]at k;exact .inr ⟨b,v,.inl k⟩
  ·rw[aA3.mp u,aA3.mp v]at c;exact absurd rfl c
theorem a7V{st:j5}(ok:G0 st){d:Dl}(hd:d∈st.under){r:Rec}(e:r.num=d.num):((st.recs++[r]).map (·.num)).Nodup:=by
 have u:=aC3.mp ok.un
 rw[aB2,aC3]
 refine⟨u.1,by simp,fun x hx y hy z=>?_⟩
 have:y=r.num:=by simpa using hy
 exact u.2.2 x hx d.num (aA5.mpr ⟨d,hd,rfl⟩) (by rw[z,this,e])
theorem a5n{st:j5}(ok:G0 st){d:Dl}(hd:d∈st.under){r:Rec}{cs:List (List Lk)}{row:List Int}(E:a3L st d r cs row):¬a4L st.recs r:=by
 have lead:∀{o p:Rec},o∈st.recs++[r]→p∈st.recs++[r]→o.num≠p.num→lnk o p=true→ahead row o.num p.num:=fun {o p} ho hp hn hl=>by
  obtain⟨l,hl⟩:=a9V.mp hl
  have:=E.row.keeps l ((a2I ok hd E.rc E.lw l).mpr ⟨o,ho,p,hp,hn,hl⟩)
  rw[hl.1,hl.2.1]at this;exact this
 have uniq:∀(i j:Nat) (x:Int),row[i]?=some x→row[j]?=some x→i=j:=fun i j x hi hj=>(aJ8 (aA2.mp hi).1 E.row.nd).mp (by rw[hi,hj])
 have tr:∀{x y z:Int},ahead row x y→ahead row y z→ahead row x z:=fun {x y z} ⟨i,j,a,b,c⟩ ⟨k,m,a',b',c'⟩=>by
  have:=uniq j k y c b'
  exact⟨i,m,by omega,b,c'⟩
 have far:∀o,Rch st.recs r o→o∈st.recs++[r]∧(o=r∨ahead row r.num o.num):=fun o h=>by
  induction h with
  | base=>exact⟨by simp,.inl rfl⟩
  | @step o p h1 hp hn hl hr ih=>
   have a:=lead ih.1 hp hn hl
   refine⟨hp,.inr ?_⟩
   rcases ih.2 with e | b
   ·rw[←e];exact a
   ·exact tr b a
 rintro⟨o,ro,no,lo⟩
 obtain⟨m,e | a⟩:=far o ro
 ·exact no (by rw[e])
 ·obtain⟨i,j,lt,b,c⟩:=tr a (lead m (by simp) no lo)
  have:=uniq i j _ b c
  omega
theorem a0k{st:j5}(ok:G0 st){d:Dl}(hd:d∈st.under){r:Rec}{cs:List (List Lk)}{rg:List Lk}(E:a3F st d r cs rg):a4L st.recs r:=by
 have nd:=a7V ok hd E.rc.1
 have ends:∀l∈rg,∃o∈st.recs++[r],∃p∈st.recs++[r],o.num≠p.num∧lnk o p=true∧o.num=l.1∧p.num=l.2.1:=fun l hl=>by
  obtain⟨o,ho,p,hp,hn,k⟩:=(a2I ok hd E.rc E.lw l).mp (E.sub l hl)
  exact⟨o,ho,p,hp,hn,a9V.mpr ⟨l,k⟩,k.1.symm,k.2.1.symm⟩
 have lp:0<rg.length:=by
  cases hrg:rg with
  | nil=>exact absurd hrg E.ring.ne
  | cons a b=>simp
 have h0:(rg[0]).1=r.num:=by
  have:=E.hd
  rw[aB4,List.getElem?_eq_getElem lp]at this
  have:(rg[0]).1=d.num:=aD1 this
  rw[this,E.rc.1]
 have go:∀i,(hi:i<rg.length)→∃o,Rch st.recs r o∧o∈st.recs++[r]∧o.num=(rg[i]).1:=by
  intro i
  induction i with
  | zero=>intro _;exact⟨r,.base,by simp,h0.symm⟩
  | succ i ih=>
   intro hi
   obtain⟨o,ro,mo,no⟩:=ih (by omega)
   obtain⟨o',ho',p,hp,hn,hl,e1,e2⟩:=ends _ (aG8 (show i<rg.length by omega))
   have:o'=o:=a7h nd ho' mo (by rw[e1,no])
   subst this
   obtain⟨m,hm,e⟩:=E.ring.next (i+1) _ (List.getElem?_eq_getElem hi)
   rw[aA4 (by omega),show i+1-1=i by omega,List.getElem?_eq_getElem (show i<rg.length by omega)]at hm
   rw[←aD1 hm]at e
   have pn:p.num≠r.num:=fun z=>by
    have a1:(rg.map (·.1))[i+1]?=some r.num:=by rw[aB4,List.getElem?_eq_getElem hi];show some (rg[i+1]).1=_;rw[e,←e2,z]
    have a2:(rg.map (·.1))[0]?=some r.num:=by rw[aB4,List.getElem?_eq_getElem lp];show some (rg[0]).1=_;rw[h0]
    have:=(aJ8 (l:=rg.map (·.1)) (i:=i+1) (j:=0) (by rw[aA0];exact hi) E.ring.nd).mp (by rw[a1,a2])
    omega
   exact⟨p,.step ro hp hn hl pn,hp,by rw[e,e2]⟩
 obtain⟨o,ro,mo,no⟩:=go (rg.length-1) (by omega)
 obtain⟨o',ho',p,hp,hn,hl,e1,e2⟩:=ends _ (aG8 (show rg.length-1<rg.length by omega))
 have:o'=o:=a7h nd ho' mo (by rw[e1,no])
 subst this
 obtain⟨m,hm,e⟩:=E.ring.next 0 _ (List.getElem?_eq_getElem lp)
 rw[aB0 rfl,List.getElem?_eq_getElem (show rg.length-1<rg.length by omega)]at hm
 rw[←aD1 hm]at e
 have pr:p=r:=a7h nd hp (by simp) (by rw[e2,←e,h0])
 subst pr
 exact⟨o',ro,hn,hl⟩
structure a7L(s t:j5):Prop where
 bg:s.begun=t.begun
 un:s.under=t.under
 ve:s.vers=t.vers
 rc:s.recs=t.recs
def a1z:u9→u9→Prop
 | .num i,.num j=>i=j
 | .word x,.word y=>x=y
 | .non,.non=>True
 | .ring _,.ring _=>True
 | _,_=>False
theorem min_one{s t:j5}(h:a7L s t){m k:Int}(a:a7E s m)(b:a7E t k):m=k:=by
 obtain⟨a1,a2⟩:=a
 obtain⟨b1,b2⟩:=b
 rw[←h.un]at b1 b2
 rw[←h.rc]at b1
 by_cases c:s.under=[]
 ·rw[a1 c,b1 c]
 ·obtain⟨a3,a4⟩:=a2 c
  obtain⟨b3,b4⟩:=b2 c
  obtain⟨x,hx,ex⟩:=aA5.mp a3
  obtain⟨y,hy,ey⟩:=aA5.mp b3
  have:=a4 y hy
  have:=b4 x hx
  omega
theorem a1I{s t s' t':j5}{d:i8}{a b:u9}(h:a7L s t)(os:G0 s)(ot:G0 t)(p:Step s d a s')(q:Step t d b t'):a7L s' t'∧a1z a b:=by
 have nd:(s.under.map (·.num)).Nodup:=(aC3.mp os.un).2.1
 obtain⟨hb,hu,hv,hr⟩:=h
 have same:∀{x y:Dl},x∈s.under→y∈t.under→x.num=y.num→x=y:=fun {x y} hx hy e=>G7 nd hx (by rw[hu];exact hy) e
 cases p with
 | begin=>
  cases q with
  | begin=>exact⟨⟨by show s.begun+1=t.begun+1;rw[hb],by show s.under++_=t.under++_;rw[hu,hb,hr],hv,hr⟩,by show((s.begun:Int))=(t.begun:Int);rw[hb]⟩
  | none h1 _=>cases h1
 | @sweep m mb=>
  cases q with
  | @sweep k kb=>
   have:=min_one ⟨hb,hu,hv,hr⟩ mb kb
   subst this
   exact⟨⟨hb,hu,by show O0 s.vers m=O0 t.vers m;rw[hv],hr⟩,by show N8 s.vers m=N8 t.vers m;rw[hv]⟩
  | none h1 _=>cases h1
 | @none _ n h1 h2=>
  have no:∀{x:Dl},x∈t.under→x.num=n→False:=fun {x} hx e=>h2 (by rw[hu,←e];exact aA5.mpr ⟨x,hx,rfl⟩)
  cases q with
  | begin=>cases h1
  | sweep _=>cases h1
  | none _ _=>exact⟨⟨hb,hu,hv,hr⟩,trivial⟩
  | own hd _=>exact(no hd (aD1 h1)).elim
  | look hd _=>exact(no hd (aD1 h1)).elim
  | put hd=>exact(no hd (aD1 h1)).elim
  | leave hd=>exact(no hd (aD1 h1)).elim
  | ended hd _=>exact(no hd (aD1 h1)).elim
  | ring hd _=>exact(no hd (aD1 h1)).elim
 | @own d g x hd hg=>
  generalize e:i8.look d.num g=dd at q
  cases q with
  | none h1 h2=>subst e;cases h1;exact(h2 (by rw[←hu];exact aA5.mpr ⟨d,hd,rfl⟩)).elim
  | own hd' hg'=>
   injection e with e1 e2
   have:=same hd hd' e1
   subst this;subst e2
   rw[hg]at hg';cases hg'
   exact⟨⟨hb,hu,hv,hr⟩,rfl⟩
  | look hd' hg'=>
   injection e with e1 e2
   have:=same hd hd' e1
   subst this;subst e2
   rw[hg]at hg';cases hg'
  | _=>cases e
 | @look d g hd hg=>
  generalize e:i8.look d.num g=dd at q
  cases q with
  | none h1 h2=>subst e;cases h1;exact(h2 (by rw[←hu];exact aA5.mpr ⟨d,hd,rfl⟩)).elim
  | own hd' hg'=>
   injection e with e1 e2
   have:=same hd hd' e1
   subst this;subst e2
   rw[hg]at hg';cases hg'
  | look hd' hg'=>
   injection e with e1 e2
   have:=same hd hd' e1
   subst this;subst e2
   exact⟨⟨hb,by show C8 s.under _ _=C8 t.under _ _;rw[hu],hv,hr⟩,by show valueAt _ _=valueAt _ _;rw[hv]⟩
  | _=>cases e
 | @put d g x hd=>
  generalize e:i8.put d.num g x=dd at q
  cases q with
  | none h1 h2=>subst e;cases h1;exact(h2 (by rw[←hu];exact aA5.mpr ⟨d,hd,rfl⟩)).elim
  | put hd'=>
   injection e with e1 e2 e3
   have:=same hd hd' e1
   subst this;subst e2;subst e3
   exact⟨⟨hb,by show C8 s.under _ _=C8 t.under _ _;rw[hu],hv,hr⟩,rfl⟩
  | _=>cases e
 | @leave d hd=>
  generalize e:i8.leave d.num=dd at q
  cases q with
  | none h1 h2=>subst e;cases h1;exact(h2 (by rw[←hu];exact aA5.mpr ⟨d,hd,rfl⟩)).elim
  | leave hd'=>
   injection e with e1
   have:=same hd hd' e1
   subst this
   exact⟨⟨hb,by show N2 s.under _=N2 t.under _;rw[hu],hv,hr⟩,rfl⟩
  | _=>cases e
 | @ended d r cs row hd E=>
  generalize e:i8.fin d.num=dd at q
  cases q with
  | none h1 h2=>subst e;cases h1;exact(h2 (by rw[←hu];exact aA5.mpr ⟨d,hd,rfl⟩)).elim
  | @ended d' r' cs' row' hd' E'=>
   injection e with e1
   have:=same hd hd' e1
   subst this
   have er:r=r':=a9b E.rc (by rw[hr];exact E'.rc)
   subst er
   exact⟨⟨hb,by show N2 s.under _=N2 t.under _;rw[hu],by show B6 s.vers _ _=B6 t.vers _ _;rw[hv,hr],by show s.recs++_=t.recs++_;rw[hr]⟩,rfl⟩
  | @ring d' r' cs' rg hd' E'=>
   injection e with e1
   have:=same hd hd' e1
   subst this
   have er:r=r':=a9b E.rc (by rw[hr];exact E'.rc)
   subst er
   have:=a0k ot hd' E'
   rw[←hr]at this
   exact absurd this (a5n os hd E)
  | _=>cases e
 | @ring d r cs rg hd E=>
  generalize e:i8.fin d.num=dd at q
  cases q with
  | none h1 h2=>subst e;cases h1;exact(h2 (by rw[←hu];exact aA5.mpr ⟨d,hd,rfl⟩)).elim
  | @ended d' r' cs' row' hd' E'=>
   injection e with e1
   have:=same hd hd' e1
   subst this
   have er:r=r':=a9b E.rc (by rw[hr];exact E'.rc)
   subst er
   have:=a0k os hd E
   rw[hr]at this
   exact absurd this (a5n ot hd' E')
  | @ring d' r' cs' rg' hd' E'=>
   injection e with e1
   have:=same hd hd' e1
   subst this
   exact⟨⟨hb,by show N2 s.under _=N2 t.under _;rw[hu],hv,hr⟩,trivial⟩
  | _=>cases e
theorem a1j{f g:Nat→j5}{ds:List i8}{as bs:List u9}(F:Trace f ds as)(G:Trace g ds bs):∀i,i≤ds.length→a7L (f i) (g i)
 | 0,_=>by rw[F.zero,G.zero];exact⟨rfl,rfl,rfl,rfl⟩
 | i+1,h=>by
  have hd:=List.getElem?_eq_getElem (l:=ds) (i:=i) (by omega)
  have ha:=List.getElem?_eq_getElem (l:=as) (i:=i) (by have:=F.len;omega)
  have hb:=List.getElem?_eq_getElem (l:=bs) (i:=i) (by have:=G.len;omega)
  exact(a1I (a1j F G i (by omega)) (F.oks i (by omega)) (G.oks i (by omega)) (F.step i _ _ hd ha) (G.step i _ _ hd hb)).1
inductive a2m(K:PySem.W.Frag)(vs:List V)(H:Hp)(Q:VK):Prop
 | mk (A Tl:Addr) (xs ys:List V) (ds:List i8) (as:List u9) (rl0:Addr→Role) (f:Nat→j5) (x0:vs=[.ref A,.ref Tl]) (x1:H A=some (.lst xs)) (x2:C1 H ds xs) (x3:H Tl=some (.lst ys)) (x4:Paired (D6 rl0 H) as ys) (x5:Trace f ds as) (x6:ds.length≤63) (xq:∀H',g6 H H'→Q (.bl true) H')
def a2o(K:PySem.W.Frag):Sp:=fun vs H Q _=>a2m K vs H Q
theorem a3o(T:A7 K mg t):g9 P w K mg base y9 3 t.f__law_ends_right t.d__law_ends_right ["_law_asked","_law_told"] (a2o K):=by
 refine T.F__law_ends_right.ok L8 (fun vs H Q E h=>?_) (fun cdv A outer s H vs Q E hr h=>?_)
 ·obtain⟨A,Tl,xs,ys,ds,as,rl0,f,rfl,_⟩:=h
  rfl
 obtain⟨A,Tl,xs,ys,ds,as,rl0,f,rfl,hA,hD,hT,pa,F,bn,q⟩:=h
 refine⟨_,(b8 (z9 aE4 rfl (q5 (d9 i3 (j8 (g9.mono (k:=2) (a3g T) (by decide)) hr rfl T.m__law_walked T.F__law_walked.kp T.F__law_walked.b .nil k8 (a6 (pv 0) (a6 (pv 1) b6))) d5 (fun _ _=>rfl))) (a3p rfl (J2 (l4 (i:=2) L8.nd rfl (Or.inl rfl)) (J2 (l4 (i:=3) L8.nd rfl (Or.inl rfl)) (J2 (l4 (i:=4) L8.nd rfl (Or.inl rfl)) a5g))))
 (c9 (k7 (f7 z8 (j8 (g9.mono (k:=2) (S4 T) (by decide)) hr rfl T.m__law_ended T.F__law_ended.kp T.F__law_ended.b .nil k8 (a6 (d9 l7 (pv 1) (pv 2) (fun _ _=>rfl)) b6)) (j8 (g9.mono (k:=2) (a9F T) (by decide)) hr rfl T.m__law_ringed T.F__law_ringed.kp T.F__law_ringed.b .nil k8 (a6 (pv 4) (a6 (pv 3) b6))) (i6 _))
 (c9 (i4 A1))
 j0)))
 (c9 (i4 A1))),?_⟩
 have la:=F.len
 have ly:=n6 pa
 refine⟨_,rfl,_,rfl,A,Tl,xs,ys,ds,as,rl0,f,rfl,hA,hD,hT,pa,F,bn,fun p R Y us ws tr rl H1 s1 hp hR pR hY pY okt _ _=>⟨p,_,1,_,rfl,rfl,i5.of hp,rfl,Y,rfl,⟨_,d7.of hY⟩,?_⟩⟩
 refine B8 (xs:=ws) (fun j σ' Hc=>∃o2 o3 o4:Option V,σ'=[some (.ref A),some (.ref Tl),o2,o3,o4]∧g6 H1 Hc) ⟨none,none,none,rfl,g6.refl H1⟩ (fun j σ' Hc _ z=>?_) (fun j v σ' Hc hv z=>?_) (fun σ' Hc z=>?_)
 ·obtain⟨_,_,_,_,sc⟩:=z
  exact d7.of (sc _ _ hY)
 ·obtain⟨o2,o3,o4,rfl,sc⟩:=z
  obtain⟨⟨k,r,rs⟩,hy,b,lb,x,zs,rfl,hb,hx,hlb,_,pz⟩:=u7 pY hv
  obtain⟨d,a,hd,ha,hu,S,isr,ers⟩:=(okt _ (aC5 hy)).ex
  have ers:rs=(f k).recs:=ers
  subst ers
  have S:Step (f k) (.fin d.num) a (f (k+1)):=S
  have isr:M9 d (((f k).recs.length:Int)+1) r:=isr
  have hu:d∈(f k).under:=hu
  have lk:k<as.length:=(aA2.mp ha).1
  have hyi:=List.getElem?_eq_getElem (show k<ys.length by omega)
  obtain⟨a',ha',hya⟩:=u7 pa hyi
  have ha:as[k]?=some a:=ha
  rw[ha]at ha';cases ha'
  have ay:F8 ys (k:Int)=some ys[k]:=i9 hyi
  generalize ys[k]=y at ay hya hyi
  have ok:=F.oks k (by omega)
  have gd:=F.gds k (by omega)
  have bd:=F.bds k (by omega)
  have s2:=s1.trans sc
  have gr:=isr.good gd hu
  have l1:r.looked.length≤63:=by rw[isr.2.2.2.1.length_eq];have:=(bd.dl d hu).1;omega
  have l2:r.put.length≤63:=by rw[isr.2.2.2.2.1.length_eq,aA0];have:=(bd.dl d hu).2;omega
  refine⟨b,_,rfl,i5.of (sc _ _ hb),rfl,_,_,rfl,_,_,rfl,_,_,rfl,rfl,?_⟩
  refine⟨_,rfl,_,rfl,Tl,_,_,_,rfl,rfl,d7.of (s2 _ _ hT),ay,rl0,a,y,rfl,hya.same s2,_,rfl,_,rfl,lb,x,zs,(f k).recs,r,rl,rfl,sc _ _ hlb,Paired.mapP pz fun _ _ z=>z.same sc,hx.same sc,a7V ok hu isr.1,fun o ho=>?_,by have:=bd.rc;omega,fun H3 s3 lo=>?_,fun H3 s3 lo=>?_⟩
  ·rcases aA8.mp ho with ho | ho
   ·exact⟨⟨gd.rl o ho,gd.rp o ho⟩,by have:=(bd.rs o ho).2;omega,by have:=(bd.rs o ho).1;omega⟩
   ·rw[aA3.mp ho];exact⟨gr,l1,l2⟩
  ·have ea:isE a=false:=by
    generalize e:i8.fin d.num=dd at S
    generalize f (k+1)=st1 at S
    cases S with
    | @ended d' r' cs' row' hd' E'=>
     injection e with e1
     have:=G7 (aC3.mp ok.un).2.1 hu hd' e1
     subst this
     have er:r=r':=a9b isr E'.rc
     subst er
     exact absurd lo (a5n ok hu E')
    | ring _ _=>rfl
    | none _ _=>rfl
    | own _ _=>cases e
    | look _ _=>cases e
    | put _=>cases e
    | leave _=>cases e
    | begin=>cases e
    | sweep _=>cases e
   rw[ea]
   exact⟨rfl,_,rfl,f6 ⟨_,_,_,rfl,sc.trans s3⟩⟩
  ·have ea:isE a=true:=by
    generalize e:i8.fin d.num=dd at S
    generalize f (k+1)=st1 at S
    cases S with
    | ended _ _=>rfl
    | @ring d' r' cs' rg' hd' E'=>
     injection e with e1
     have:=G7 (aC3.mp ok.un).2.1 hu hd' e1
     subst this
     have er:r=r':=a9b isr E'.rc
     subst er
     exact absurd (a0k ok hu E') lo
    | @none _ n h1 h2=>subst e;cases h1;exact absurd (aA5.mpr ⟨d,hu,rfl⟩) h2
    | own _ _=>cases e
    | look _ _=>cases e
    | put _=>cases e
    | leave _=>cases e
    | begin=>cases e
    | sweep _=>cases e
   rw[ea]
   exact⟨rfl,_,rfl,f6 ⟨_,_,_,rfl,sc.trans s3⟩⟩
 ·obtain⟨_,_,_,rfl,sc⟩:=z
  exact q _ (s1.trans sc)
theorem a1V(ps qs:List (Int×Int))(t:Int):cnt (ps++qs) t=cnt ps t+cnt qs t:=by
 unfold cnt;rw[aL3,aA7]
theorem a5j{ps:List (Int×Int)}{t:Int}(h:∀p∈ps,p.1≤t):cnt ps t=ps.length:=by
 unfold cnt;rw[aS9.mpr fun p hp=>aC6 (h p hp)]
theorem b0k(ps:List (Int×Int)){s t:Int}(h:s≤t):cnt ps s≤cnt ps t:=by
 induction ps with
 | nil=>exact aB3 _
 | cons p ps ih=>
  have e:∀u,cnt (p::ps) u=(if p.1≤u then 1 else 0)+cnt ps u:=fun u=>by
   unfold cnt;rw[aH8]
   split
   ·rename_i c;rw[aB0 (aF4 c),aF0,Nat.add_comm]
   ·rename_i c;rw[aA4 (fun z=>c (aC6 z)),Nat.zero_add]
  rw[e,e]
  split
  ·rw[aB0 (by omega)];omega
  ·split<;>omega
theorem a8L:∀{ps:List (Int×Int)} {t:Int},ps.Pairwise (fun p q=>p.1<q.1)→∀p∈ps.take (cnt ps t),p.1≤t
 | [],_,_,p,h=>by simp at h
 | q::ps,t,hp,p,h=>by
  obtain⟨h1,h2⟩:=aT9.mp hp
  by_cases c:q.1≤t
  ·have e:cnt (q::ps) t=cnt ps t+1:=by unfold cnt;rw[aH8,aB0 (aC6 c),aF0]
   rw[e,List.take_succ_cons]at h
   rcases aB9.mp h with rfl | h
   ·exact c
   ·exact a8L h2 p h
  ·have e:cnt (q::ps) t=0:=by
    unfold cnt
    rw[List.length_eq_zero_iff,List.filter_eq_nil_iff]
    intro r hr
    simp only[aL7]
    rcases aB9.mp hr with rfl | hr
    ·exact c
    ·have:=h1 r hr;omega
   rw[e]at h;simp at h
theorem b6s{ps:List (Int×Int)}{m x t:Int}(h:t<m):valueAt (ps++[(m,x)]) t=valueAt ps t:=by
 have e:cnt (ps++[(m,x)]) t=cnt ps t:=by
  rw[a1V]
  have:cnt [(m,x)] t=0:=by unfold cnt;rw[aH8,aA4 (by simp;omega)];rfl
  omega
 unfold valueAt
 rw[e]
 split
 ·rfl
 ·have:=a2g ps t
  rw[aE7,aE7,aE1 (by omega)]
theorem b5t{ps:List (Int×Int)}{m x:Int}(h:∀p∈ps,p.1≤m):valueAt (ps++[(m,x)]) m=x:=by
 have e:cnt (ps++[(m,x)]) m=ps.length+1:=by
  rw[a5j fun p hp=>?_,aA7];rfl
  rcases aA8.mp hp with z | z
  ·exact h p z
  ·rw[aA3.mp z];exact aQ2 _
 unfold valueAt
 rw[e,aA4 (by omega),aE7,show ps.length+1-1=ps.length by omega,aE9 (aB3 _)]
 simp
theorem b4n{ps:List (Int×Int)}{s t:Int}(h:∀p∈ps,p.1≤s)(le:s≤t):valueAt ps t=valueAt ps s:=by
 unfold valueAt
 rw[a5j h,a5j fun p hp=>Int.le_trans (h p hp) le]
theorem b2f{ps:List (Int×Int)}{m t:Int}(hp:ps.Pairwise fun p q=>p.1<q.1)(le:m≤t):valueAt (swL ps m) t=valueAt ps t:=by
 unfold swL
 generalize hk:cnt ps m-1=k
 have lk:k≤cnt ps m:=by omega
 have lm:=a2g ps m
 have mt:=b0k ps le
 have split1:cnt ps t=k+cnt (ps.drop k) t:=by
  conv=>lhs;rw[←aN6 k ps,a1V]
  rw[a5j fun p h=>?_,aD6,aR3 (by omega)]
  have:p∈ps.take (cnt ps m):=List.take_subset_take_left _ lk h
  exact Int.le_trans (a8L hp p this) le
 unfold valueAt
 by_cases c:cnt ps m=0
 ·have:k=0:=by omega
  subst this
  rw[List.drop_zero]
 ·rw[aA4 (by omega),aA4 (by omega),aE7,aE7,aI7,show k+(cnt (ps.drop k) t-1)=cnt ps t-1 by omega]
theorem b8s(v:F6)(g h:Str)(x:Int×Int):t8 (D7 v g x) h=if h=g then t8 v h++[x] else t8 v h:=by
 unfold D7
 by_cases m:g∈v.map (·.1)
 ·rw[aB0 m]
  induction v with
  | nil=>simp at m
  | cons q v ih=>
   rw[aC1]
   unfold t8
   by_cases e:q.1=h
   ·subst e
    rw[aK1 (by split<;>simp),aK1 (by simp)]
    by_cases e2:q.1=g
    ·simp[e2]
    ·simp[e2]
   ·rw[aI1 (by split<;>simpa using e),aI1 (by simpa using e)]
    by_cases m2:g∈v.map (·.1)
    ·exact ih m2
    ·have eg:q.1=g:=by
      rw[aC1]at m
      rcases aB9.mp m with z | z
      ·exact z.symm
      ·exact absurd z m2
     rw[aA4 (fun z=>e (by rw[eg,z]))]
     have:(v.map fun q=>if q.1=g then(q.1,q.2++[x]) else q)=v:=by
      conv=>rhs;rw[←aQ1 v]
      exact aD9 fun p hp=>by
       rw[aA4 fun z=>m2 (aA5.mpr ⟨p,hp,z⟩)];rfl
     rw[this]
 ·rw[aA4 m]
  unfold t8
  rw[List.find?_append]
  by_cases e:h=g
  ·subst e
   have:(v.find? fun q=>decide (q.1=h))=none:=aN0.mpr fun q hq=>by
    simp only[aL7];exact fun z=>m (aA5.mpr ⟨q,hq,z⟩)
   rw[this,aB0 rfl];simp
  ·rw[aA4 e,aI1 (by simpa using Ne.symm e)]
   cases (v.find? fun q=>decide (q.1=h))<;>rfl
theorem X0{m:Int}(h:Str):∀(am:Am) (v:F6),(am.map (·.1)).Nodup→t8 (B6 v am m) h=match t6 am h with | some x=>t8 v h++[(m,x)] | none=>t8 v h
 | [],v,_=>rfl
 | q::am,v,nd=>by
  rw[aC1,aG7]at nd
  show t8 (B6 (D7 v q.1 (m,q.2)) am m) h=_
  rw[X0 h am _ nd.2,b8s]
  by_cases e:q.1=h
  ·subst e
   have n:t6 am q.1=none:=by
    unfold t6
    rw[aN0.mpr fun p hp=>?_];rfl
    simp only[aL7];exact fun z=>nd.1 (aA5.mpr ⟨p,hp,z⟩)
   rw[n,aB0 rfl]
   have:t6 (q::am) q.1=some q.2:=by unfold t6;rw[aK1 (by simp)];rfl
   rw[this]
  ·rw[aA4 (Ne.symm e)]
   have:t6 (q::am) h=t6 am h:=by unfold t6;rw[aI1 (by simpa using e)]
   rw[this]
theorem a2z(v:F6)(m:Int)(h:Str):t8 (O0 v m) h=swL (t8 v h) m:=by
 unfold O0
 induction v with
 | nil=>rfl
 | cons q v ih=>
  rw[aC1]
  unfold t8
  by_cases e:q.1=h
  ·rw[aK1 (by simpa using e),aK1 (by simpa using e)];rfl
  ·rw[aI1 (by simpa using e),aI1 (by simpa using e)];exact ih
structure Vs(st:j5):Prop where
 up:∀g,(t8 st.vers g).Pairwise fun p q=>p.1<q.1
 le:∀g,∀p∈t8 st.vers g,p.1≤(st.recs.length:Int)
 bg:∀d∈st.under,d.beg≤(st.recs.length:Int)
 nd:∀d∈st.under,(d.aside.map (·.1)).Nodup
theorem vs0:Vs P0:=⟨fun g=>.nil,(fun g p h=>nomatch h),(fun d h=>nomatch h),(fun d h=>nomatch h)⟩
theorem a0V{m:Am}{g:Str}{a:Int}(h:(m.map (·.1)).Nodup):((D9 m g a).map (·.1)).Nodup:=by
 unfold D9
 split
 ·have:(m.map fun p=>if p.1=g then(p.1,a) else p).map (·.1)=m.map (·.1):=by
   rw[aE3];exact aD9 fun p _=>by show(if p.1=g then(p.1,a) else p).1=p.1;split<;>rfl
  rw[this];exact h
 ·rename_i c
  rw[aB2,aC3]
  refine⟨h,by simp,fun x hx y hy z=>c ?_⟩
  obtain⟨p,hp,e⟩:=aA5.mp hx
  rw[aO0]
  refine⟨p,hp,aC6 ?_⟩
  have:y=g:=by simpa using hy
  rw[e,z,this]
def valOf(st:j5)(g:Str)(t:Int):Int:=valueAt (t8 st.vers g) t
theorem a9g{st st':j5}{d:i8}{a:u9}(h:Vs st)(s:Step st d a st'):Vs st'∧((st'.recs=st.recs∧∀g t,(t=(st.recs.length:Int)∨∃d∈st.under,t=d.beg)→valOf st' g t=valOf st g t) ∨
  ∃e∈st.under,d=.fin e.num∧a=.word "ended"∧st'.recs.length=st.recs.length+1∧st'.under=N2 st.under e.num∧(∀g t,t≤(st.recs.length:Int)→valOf st' g t=valOf st g t)∧∀g,valOf st' g (st'.recs.length:Int)=(t6 e.aside g).getD (valOf st g (st.recs.length:Int))):=by
 have leave:∀n,Vs (v9 st n):=fun n=>⟨h.up,h.le,fun d hd=>h.bg d (aD5.mp hd).1,fun d hd=>h.nd d (aD5.mp hd).1⟩
 cases s with
 | begin=>
  refine⟨⟨h.up,h.le,fun d hd=>?_,fun d hd=>?_⟩,.inl ⟨rfl,fun _ _ _=>rfl⟩⟩
  ·rcases aA8.mp hd with z | z
   ·exact h.bg d z
   ·rw[aA3.mp z];exact aQ2 _
  ·rcases aA8.mp hd with z | z
   ·exact h.nd d z
   ·rw[aA3.mp z];exact aI4
 | @sweep m mb=>
  have ml:∀t,(t=(st.recs.length:Int)∨∃d∈st.under,t=d.beg)→m≤t:=fun t ht=>by
   obtain⟨b1,b2⟩:=mb
   by_cases c:st.under=[]
   ·rcases ht with e | ⟨d,hd,_⟩
    ·rw[b1 c,e];exact aQ2 _
    ·rw[c]at hd;cases hd
   ·obtain⟨b3,b4⟩:=b2 c
    rcases ht with e | ⟨d,hd,e⟩
    ·obtain⟨x,hx,ex⟩:=aA5.mp b3
     rw[e,←ex];exact h.bg x hx
    ·rw[e];exact b4 d hd
  refine⟨⟨fun g=>?_,fun g p hp=>?_,h.bg,h.nd⟩,.inl ⟨rfl,fun g t ht=>?_⟩⟩
  ·show(t8 (O0 st.vers m) g).Pairwise _
   rw[a2z];exact(h.up g).drop
  ·have hp:p∈t8 (O0 st.vers m) g:=hp
   rw[a2z]at hp
   exact h.le g p (aS1 hp)
  ·show valueAt (t8 (O0 st.vers m) g) t=_
   rw[a2z]
   exact b2f (h.up g) (ml t ht)
 | none _ _=>exact⟨h,.inl ⟨rfl,fun _ _ _=>rfl⟩⟩
 | own _ _=>exact⟨h,.inl ⟨rfl,fun _ _ _=>rfl⟩⟩
 | look _ _=>
  refine⟨⟨h.up,h.le,fun d hd=>?_,fun d hd=>?_⟩,.inl ⟨rfl,fun _ _ _=>rfl⟩⟩
  ·obtain⟨e,he,z | z⟩:=C6 hd
   ·rw[z];exact h.bg e he
   ·rw[z];exact h.bg e he
  ·obtain⟨e,he,z | z⟩:=C6 hd
   ·rw[z];exact h.nd e he
   ·rw[z];exact h.nd e he
 | put _=>
  refine⟨⟨h.up,h.le,fun d hd=>?_,fun d hd=>?_⟩,.inl ⟨rfl,fun _ _ _=>rfl⟩⟩
  ·obtain⟨e,he,z | z⟩:=C6 hd
   ·rw[z];exact h.bg e he
   ·rw[z];exact h.bg e he
  ·obtain⟨e,he,z | z⟩:=C6 hd
   ·rw[z];exact h.nd e he
   ·rw[z];exact a0V (h.nd e he)
 | leave _=>exact⟨leave _,.inl ⟨rfl,fun _ _ _=>rfl⟩⟩
 | ring _ _=>exact⟨leave _,.inl ⟨rfl,fun _ _ _=>rfl⟩⟩
 | @ended e r cs row he E=>
  have nd:=h.nd e he
  have lr:(st.recs++[r]).length=st.recs.length+1:=by rw[aA7];rfl
  refine⟨⟨fun g=>?_,fun g p hp=>?_,fun d hd=>?_,fun d hd=>h.nd d (aD5.mp hd).1⟩,.inr ⟨e,he,rfl,rfl,lr,rfl,fun g t ht=>?_,fun g=>?_⟩⟩
  ·show(t8 (B6 st.vers e.aside _) g).Pairwise _
   rw[X0 g _ _ nd]
   split
   ·rw[List.pairwise_append]
    refine⟨h.up g,by simp,fun p hp q hq=>?_⟩
    rw[aA3.mp hq]
    have:=h.le g p hp
    show p.1<(st.recs.length:Int)+1
    omega
   ·exact h.up g
  ·have hp:p∈t8 (B6 st.vers e.aside ((st.recs.length:Int)+1)) g:=hp
   rw[X0 g _ _ nd]at hp
   show p.1≤(((st.recs++[r]).length:Nat):Int)
   rw[lr]
   split at hp
   ·rcases aA8.mp hp with z | z
    ·have:=h.le g p z;omega
    ·rw[aA3.mp z];exact aQ2 _
   ·have:=h.le g p hp;omega
  ·have:=h.bg d (aD5.mp hd).1
   show d.beg≤(((st.recs++[r]).length:Nat):Int)
   rw[lr];omega
  ·show valueAt (t8 (B6 st.vers e.aside ((st.recs.length:Int)+1)) g) t=_
   rw[X0 g _ _ nd]
   split
   ·exact b6s (by omega)
   ·rfl
  ·show valueAt (t8 (B6 st.vers e.aside ((st.recs.length:Int)+1)) g) (((st.recs++[r]).length:Nat):Int)=_
   rw[X0 g _ _ nd,lr,show((st.recs.length+1:Nat):Int)=(st.recs.length:Int)+1 by omega]
   split
   ·rename_i x hx
    rw[hx]
    exact b5t fun p hp=>by have:=h.le g p hp;omega
   ·rename_i hx
    rw[hx]
    exact b4n (h.le g) (by omega)
def a6c(m am:Am):Am:=am.foldl (fun m p=>D9 m p.1 p.2) m
theorem a3W:∀(am m:Am),a3c (z6 m) (z6 am)=z6 (a6c m am)
 | [],m=>rfl
 | p::am,m=>by
  show a3c (putK (z6 m) (Sum.inr p.1) (V.int p.2)) (z6 am)=_
  rw[a0r];exact a3W am _
theorem a5P:∀(am m:Am),(a6c m am).length≤m.length+am.length
 | [],m=>aB3 _
 | p::am,m=>by
  have a:=a5P am (D9 m p.1 p.2)
  have b:=a7Q m p.1 p.2
  show(a6c (D9 m p.1 p.2) am).length≤_
  rw[aF0];omega
theorem b5q(m:Am)(g h:Str)(a:Int):t6 (D9 m g a) h=if h=g then some a else t6 m h:=by
 have e1:(t6 (D9 m g a) h).map V.int=(if h=g then some a else t6 m h).map V.int:=by
  rw[←V9,←a0r,b6o,V9]
  by_cases c:h=g
  ·subst c;rw[aB0 rfl,aB0 rfl];rfl
  ·rw[aA4 (fun z=>c (aM2 z)),aA4 c]
 generalize t6 (D9 m g a) h=x at e1 ⊢
 generalize (if h=g then some a else t6 m h)=y at e1 ⊢
 cases x<;>cases y<;>first | rfl | (simp at e1;rw[e1]) | (simp at e1)
theorem a5O(h:Str):∀(am m:Am),(am.map (·.1)).Nodup→t6 (a6c m am) h=(t6 am h).or (t6 m h)
 | [],m,_=>rfl
 | p::am,m,nd=>by
  rw[aC1,aG7]at nd
  show t6 (a6c (D9 m p.1 p.2) am) h=_
  rw[a5O h am _ nd.2,b5q]
  by_cases e:h=p.1
  ·subst e
   have n:t6 am p.1=none:=by
    unfold t6
    rw[aN0.mpr fun q hq=>?_];rfl
    simp only[aL7];exact fun z=>nd.1 (aA5.mpr ⟨q,hq,z⟩)
   have:t6 (p::am) p.1=some p.2:=by unfold t6;rw[aK1 (by simp)];rfl
   rw[n,aB0 rfl,this];rfl
  ·have:t6 (p::am) h=t6 am h:=by unfold t6;rw[aI1 (by simpa using Ne.symm e)]
   rw[aA4 e,this]
inductive a7v(t:C5)(K:PySem.W.Frag)(vs:List V)(H:Hp)(Q:VK):Prop
 | mk (l:Addr) (ds:List i8) (xs:List V) (x0:vs=[.ref l]) (x1:H l=some (.lst xs)) (x2:C1 H ds xs) (x3:ds.length≤63) (xq:∀(as:List u9) (st:j5) (G:Gh) (H':Hp) (p:Addr),Run P0 ds as st→g6 H H'→TA t.C_Tally t.C_Dealing G H' p st→Bd ds.length st→Q (.ref p) H')
def a8x(t:C5)(K:PySem.W.Frag):Sp:=fun vs H Q _=>a7v t K vs H Q
theorem a5z(T:A7 K mg t):g9 P w K mg base y9 9 t.f_tally_behind t.d_tally_behind ["deeds"] (a8x t K):=by
 refine T.F_tally_behind.ok a1e (fun vs H Q E h=>?_) (fun cdv A outer s H vs Q E hr h=>?_)
 ·obtain⟨l,ds,xs,rfl,_⟩:=h
  rfl
 obtain⟨l,ds,xs,rfl,hl,hd,bn,q⟩:=h
 refine⟨_,(b8 (g7 (i:=1) a1e.nd rfl (Or.inl rfl) (a9N T.K_Tally (g9.mono (k:=7) (a3a T) (by decide)) hr rfl T.mg_Tally T.F_Tally___init__.b .nil k8))
 (b8 (m6 (j8 (g9.mono (k:=8) (a8l T) (by decide)) hr rfl T.m_answers_at T.F_answers_at.kp T.F_answers_at.b .nil k8 (a6 (pv 1) (a6 (pv 0) b6))))
 (c9 (i4 (pv 1))))),?_⟩
 intro x dx nx ndx nxd
 have s0:g6 H (upd (upd H dx (.own x)) x (.ins t.C_Tally dx [])):=l8 (b9 ndx) nx
 refine⟨x,dx,rfl,b0,fun G H1 h1 b1 g1=>⟨rfl,?_⟩⟩
 have s1:g6 H H1:=fun c o e=>b1 c o (d6 e nx) (s0 c o e)
 have gf:∀c o,H c=some o→G.rl c=.free:=fun c o e=>g1 c o (d6 e nx) (s0 c o e)
 refine⟨_,rfl,_,rfl,G,x,l,ds,xs,rfl,h1,s1 _ _ hl,gf _ _ hl,hd.tupK s1.tupK,bn,fun as st G' H' r ys R h2 ok bd k hr pa fr nr=>?_⟩
 exact⟨_,rfl,q as st G' H' x R (fun c o e=>k.keep c o (gf c o e) (s1 c o e)) h2 bd⟩
def a1q(st:j5)(ks:List Str):Am:=ks.map fun g=>(g,valOf st g (st.recs.length:Int))
def Amt(st:j5)(H':Hp)(r:Addr):Prop:=∃(xs:List V) (ks:List Str),H' r=some (.lst xs)∧Prs H' (a1q st ks) xs∧ks.Perm (st.vers.map (·.1))∧W3 ks
inductive a0s(t:C5)(K:PySem.W.Frag)(vs:List V)(H:Hp)(Q:VK):Prop
 | mk (G:Gh) (p:Addr) (st:j5) (x0:vs=[.ref p]) (x1:TA t.C_Tally t.C_Dealing G H p st) (x2:st.vers.length≤63) (x3:(∀q∈st.vers,q.2.length≤100000)) (xq:∀(r:Addr) (H':Hp),g6 H H'→Amt st H' r→Q (.ref r) H')
def a4w(t:C5)(K:PySem.W.Frag):Sp:=fun vs H Q _=>a0s t K vs H Q
theorem a7u(T:A7 K mg t):g9 P w K mg base y9 3 t.f_Tally_amounts t.d_Tally_amounts ["self"] (a4w t K):=by
 refine T.F_Tally_amounts.ok a9u (fun vs H Q E h=>?_) (fun cdv A outer s H vs Q E hr h=>?_)
 ·obtain⟨G,p,st,rfl,_⟩:=h
  rfl
 obtain⟨G,p,st,rfl,h,z1,z2,q⟩:=h
 have hu:=M7 hr
 refine⟨_,(c9 (i4 (O8 rfl (q5 (e7 (S5 rfl) rfl T.m_sorted aR8 (a6 (t9 (pv 0) rfl) b6))) (D5.mk (own:=["good"]) (tl:=["self"]) rfl rfl rfl (fun _ _ _ _ _=>(l4 (i:=0) (a6n) rfl (Or.inl rfl))) (fun _ _ _ _ _=>T9) (fun _ _ _ _ _=>(v3 (a6 (pv 0) (a6 (j8 (g9.mono (k:=2) (a7t T) (by decide)) hr rfl T.m_value_at T.F_value_at.kp T.F_value_at.b .nil k8 (a6 (u3 hu (a2X (pv 1) rfl) (pv 0) (fun _ _=>rfl)) (a6 (P1 (pv 1) T.cl_Tally T.M_Tally_moment (g9.mono (k:=2) (M0 T) (by decide)) hr T.F_Tally_moment.b .nil k8) b6))) b6)))))))),?_⟩
 have ek:((st.vers.map fun q=>((Sum.inr q.1:Key),V.ref (G.vl q.1))).map fun q=>kV q.1)=(st.vers.map (·.1)).map V.str:=by rw[aE3,aE3];rfl
 refine⟨_,rfl,p,_,_,_,_,rfl,h.ob,T.cl_Tally,T.n_Tally_versions,rfl,G.Vd,_,rfl,.inl h.ve,?_,fun l ys hl pm io=>?_⟩
 ·rw[ek];exact⟨by simp only[aA0];omega,fun x hx=>by obtain⟨z,_,rfl⟩:=aA5.mp hx;exact⟨z,rfl⟩⟩
 rw[ek]at pm
 obtain⟨ks,rfl,pk⟩:=K1 pm
 unfold O5 at io
 rw[aE3]at io
 have s1:=b9 (o:=.lst (ks.map V.str)) hl
 have hl1:(upd H l (.lst (ks.map V.str))) l=_:=b0
 have lk:ks.length≤63:=by rw[pk.length_eq,aA0];exact z1
 generalize upd H l (.lst (ks.map V.str))=H1 at s1 hl1 ⊢
 refine⟨l,rfl,⟨_,d7.of hl1⟩,fun acc hacc=>?_⟩
 have nac:=j7 s1 hacc
 refine C0 (xs:=ks.map V.str) (fun i H'=>∃xs,g6 H1 H'∧H' acc=some (.lst xs)∧Prs H' (a1q st (ks.take i)) xs) ⟨[],b9 hacc,b0,.nil⟩ (fun i H' _ h=>d7.of (h.choose_spec.1 _ _ hl1)) (fun i x H' hx h'=>?_) (fun H2 h'=>?_)
 ·obtain⟨xs,sm,h1,h2⟩:=h'
  rw[aB4]at hx
  obtain⟨g,hg,rfl⟩:=aC9.mp hx
  have c:g∈st.vers.map (·.1):=pk.mem_iff.mp (aC5 hg)
  have hc:=h.same (s1.trans sm)
  have dv2:=t7.k (k:=Sum.inr g) hc.ve
  rw[a7b st.vers (fun g=>V.ref (G.vl g)),aB0 c]at dv2
  obtain⟨qq,hqq,rfl⟩:=aA5.mp c
  obtain⟨zs,x1,x2,_⟩:=hc.vl qq hqq
  obtain⟨xr,hR,pR⟩:=hc.rc
  have lR:=n6 pR
  refine⟨_,rfl,_,rfl,p,_,_,_,_,rfl,hc.ob,T.cl_Tally,T.n_Tally_versions,rfl,_,rfl,G.Vd,_,rfl,dv2,_,rfl,p,_,_,rfl,hc.ob,rfl,p,_,_,_,_,_,_,_,xr,rfl,hc.ob,hR,G.vl qq.1,qq.2,_,rfl,⟨zs,d7.of x1,a1k x2⟩,z2 qq hqq,fun H3 s3=>?_⟩
  refine⟨(n9 2),fun b hb=>?_⟩
  have s4:=b9 (o:=.tup [V.str qq.1,V.int (valueAt qq.2 (xr.length:Int))]) hb
  have nb:acc≠b:=d6 (s3 _ _ h1) hb
  refine⟨xs,s4 _ _ (s3 _ _ h1),n4 (by rw[n6 h2];unfold a1q;rw[aA0,aD6];omega),xs++[.ref b],l8 ((sm.trans s3).trans s4) hacc,b0,?_⟩
  have et:a1q st (ks.take (i+1))=a1q st (ks.take i)++[(qq.1,valueAt qq.2 (xr.length:Int))]:=by
   unfold a1q
   rw[aD3,hg,aF8,aB2]
   unfold valOf
   rw[aK4,W9 h.vd hqq,lR]
  rw[et]
  have k4:=p9 (o:=.lst (xs++[V.ref b])) (s4 _ _ (s3 _ _ h1))
  exact aK3 ((h2.tupK (s3.trans s4).tupK).tupK k4) ⟨b,rfl,k4.1 _ _ b0⟩
 obtain⟨xs,sm,h1,h2⟩:=h'
 rw[aA0,aE0]at h2
 exact q acc H2 (s1.trans sm) ⟨xs,ks,h1,h2,pk,io⟩
def a3A:i8→Option Str
 | .put _ g _=>some g
 | _=>none
structure Kin(L:List Str)(st:j5):Prop where
 asd:∀d∈st.under,∀p∈d.aside,p.1∈L
 ver:∀q∈st.vers,q.1∈L
theorem a7y{L:List Str}{m:Int}:∀(am:Am) (v:F6),(∀q∈v,q.1∈L)→(∀p∈am,p.1∈L)→∀q∈B6 v am m,q.1∈L
 | [],_,h,_=>h
 | a::am,v,h,k=>by
  refine a7y am (D7 v a.1 (m,a.2)) (fun q hq=>?_) fun p hp=>k p (aC4 _ hp)
  have:q.1∈(D7 v a.1 (m,a.2)).map (·.1):=aA5.mpr ⟨q,hq,rfl⟩
  rw[T5]at this
  have old:∀{x},x∈v.map (·.1)→x∈L:=fun {x} hx=>by obtain⟨r,hr,rfl⟩:=aA5.mp hx;exact h r hr
  split at this
  ·exact old this
  ·rcases aA8.mp this with z | z
   ·exact old z
   ·rw[aA3.mp z];exact k a aD0
theorem b3p{L:List Str}{st st':j5}{d:i8}{a:u9}(h:Kin L st)(hd:∀g,a3A d=some g→g∈L)(s:Step st d a st'):Kin L st':=by
 have leave:∀n,Kin L (v9 st n):=fun n=>⟨fun d hd=>h.asd d (aD5.mp hd).1,h.ver⟩
 cases s with
 | begin=>
  refine⟨fun d hd=>?_,h.ver⟩
  rcases aA8.mp hd with hd | hd
  ·exact h.asd d hd
  ·rw[aA3.mp hd];intro p hp;simp at hp
 | @sweep m _=>
  refine⟨h.asd,fun q hq=>?_⟩
  obtain⟨r,hr,rfl⟩:=aA5.mp hq
  exact h.ver r hr
 | none _ _=>exact h
 | own _ _=>exact h
 | @look d g _ _=>
  refine⟨fun e he=>?_,h.ver⟩
  obtain⟨x,hx,z | z⟩:=C6 he
  ·rw[z];exact h.asd x hx
  ·rw[z];exact h.asd x hx
 | @put d g a _=>
  refine⟨fun e he p hp=>?_,h.ver⟩
  obtain⟨x,hx,z | z⟩:=C6 he
  ·rw[z]at hp;exact h.asd x hx p hp
  ·rw[z]at hp
   rcases a3R hp with ⟨r,hr,e⟩ | e
   ·rw[←e];exact h.asd x hx r hr
   ·rw[e];exact hd g rfl
 | leave _=>exact leave _
 | ring _ _=>exact leave _
 | @ended d r cs row hu E=>exact⟨fun e he=>h.asd e (aD5.mp he).1,a7y _ _ h.ver (h.asd d hu)⟩
theorem a1D{ds:List i8}{as:List u9}{st:j5}(R:Run P0 ds as st):Kin (ds.filterMap a3A) st∧(st.vers.map (·.1)).Nodup:=by
 induction R with
 | nil=>exact⟨⟨(fun d h=>nomatch h),(fun d h=>nomatch h)⟩,aI4⟩
 | @snoc ds as st st' d a R S ih=>
  have up:Kin ((ds++[d]).filterMap a3A) st:=by
   rw[List.filterMap_append]
   exact⟨fun e he p hp=>aE2 _ (ih.1.asd e he p hp),fun q hq=>aE2 _ (ih.1.ver q hq)⟩
  refine⟨b3p up (fun g hg=>?_) S,a0w ih.2 S⟩
  rw[List.filterMap_append]
  exact aD7 _ (aP4.mpr ⟨d,by simp,hg⟩)
theorem a5S{ds:List i8}{as:List u9}{st:j5}(R:Run P0 ds as st):st.vers.length≤ds.length:=by
 have k:=a1D R
 have:=u5 (m:=ds.filterMap a3A) k.2 fun x hx=>by obtain⟨q,hq,rfl⟩:=aA5.mp hx;exact k.1.ver q hq
 rw[aA0]at this
 exact aD8 this (List.length_filterMap_le _ _)
inductive a6Z(K:PySem.W.Frag)(vs:List V)(H:Hp)(Q:VK):Prop
 | mk (l:Addr) (ds:List i8) (xs:List V) (x0:vs=[.ref l]) (x1:H l=some (.lst xs)) (x2:C1 H ds xs) (x3:ds.length≤63) (xq:∀(as:List u9) (st:j5) (p W r:Addr) (H':Hp),Run P0 ds as st→g6 H H'→H' p=some (.tup [.ref W,.ref r])→H' W=some (.lst (st.row.map V.int))→Amt st H' r→Q (.ref p) H')
def b0f(K:PySem.W.Frag):Sp:=fun vs H Q _=>a6Z K vs H Q
theorem b8d(T:A7 K mg t):g9 P w K mg base y9 10 t.f_ending t.d_ending ["deeds"] (b0f K):=by
 refine T.F_ending.ok a3H (fun vs H Q E h=>?_) (fun cdv A outer s H vs Q E hr h=>?_)
 ·obtain⟨l,ds,xs,rfl,_⟩:=h
  rfl
 obtain⟨l,ds,xs,rfl,hl,hd,bn,q⟩:=h
 refine⟨_,(b8 (g7 (i:=1) a3H.nd rfl (Or.inl rfl) (j8 (g9.mono (k:=9) (a5z T) (by decide)) hr rfl T.m_tally_behind T.F_tally_behind.kp T.F_tally_behind.b .nil k8 (a6 (pv 0) b6)))
 (c9 (i4 (v3 (a6 (t9 (pv 1) rfl) (a6 (P1 (pv 1) T.cl_Tally T.M_Tally_amounts (g9.mono (k:=9) (a7u T) (by decide)) hr T.F_Tally_amounts.b .nil k8) b6)))))),?_⟩
 refine⟨_,rfl,l,ds,xs,rfl,hl,hd,bn,fun as st G H' p R s1 h bd=>?_⟩
 have sq:ds.length*ds.length≤63*63:=aS3 bn bn
 refine⟨_,rfl,p,_,_,_,_,rfl,h.ob,T.cl_Tally,T.n_Tally_row,rfl,_,rfl,p,_,_,rfl,h.ob,rfl,G,p,st,rfl,h,aD8 (a5S R) bn,fun x hx=>by have:=bd.vl x hx;omega,fun r H2 s2 am=>?_⟩
 refine⟨(n9 2),fun b hb=>?_⟩
 have s3:=b9 (o:=.tup [.ref G.W,.ref r]) hb
 obtain⟨xs',ks,h1,h2,h3,h4⟩:=am
 exact q as st b G.W r _ R ((s1.trans s2).trans s3) b0 (s3 _ _ (s2 _ _ h.rw)) ⟨xs',ks,s3 _ _ h1,h2.tupK s3.tupK,h3,h4⟩
inductive a3K(K:PySem.W.Frag)(vs:List V)(H:Hp)(Q:VK):Prop
 | mk (a:Addr) (ns:List Int) (m b:V) (x0:vs=[.ref a,m,b]) (x1:d7 K H a (ns.map V.int)) (x2:ns.length≤63) (xq:Q m H)
def a2S(K:PySem.W.Frag):Sp:=fun vs H Q _=>a3K K vs H Q
theorem a6M(T:A7 K mg t):g9 P w K mg base y9 1 t.f__law_room t.d__law_room ["_law_script","_law_most","_law_bound"] (a2S K):=by
 refine T.F__law_room.ok a6Q (fun vs H Q E h=>?_) (fun cdv A outer s H vs Q E hr h=>?_)
 ·obtain⟨a,ns,m,b,rfl,_⟩:=h
  rfl
 obtain⟨a,ns,m,b,rfl,hS,hl,q⟩:=h
 refine⟨_,(b8 (k7 (f7 a0y (e7 g8 rfl T.m_len aC2 (a6 (pv 0) b6)) d5 (i6 _))
 (c9 (i4 (pv 2)))
 j0)
 (c9 (i4 (pv 1)))),?_⟩
 refine⟨_,rfl,a,_,rfl,.inl hS,_,_,rfl,rfl,_,rfl,?_⟩
 refine K4 (fun c=>?_) (fun c=>?_)
 ·have c':(63:Int)<(((ns.map V.int).length:Nat):Int):=aF4 c
  rw[aA0]at c'
  omega
 ·exact⟨_,rfl,q⟩
mutual
def Q4:PyData→Nat
 | .list ds=>C7 ds+1
 | .tuple ds=>C7 ds+1
 | _=>1
def C7:List PyData→Nat
 | []=>0
 | d::ds=>Q4 d+C7 ds
end
theorem O2:∀(a b:List PyData),C7 (a++b)=C7 a+C7 b
 | [],b=>by rw[aO7,C7,Nat.zero_add]
 | d::a,b=>by rw[List.cons_append,C7,C7,O2 a b];omega
theorem a8W:∀d:PyData,1≤Q4 d
 | .list ds=>by unfold Q4;omega
 | .tuple ds=>by unfold Q4;omega
 | .none=>by unfold Q4;omega
 | .bool _=>by unfold Q4;omega
 | .int _=>by unfold Q4;omega
 | .str _=>by unfold Q4;omega
 | .dict _=>by unfold Q4;omega
theorem a1l:∀ds:List PyData,ds.length≤C7 ds
 | []=>aG4 _
 | d::ds=>by have:=a8W d;have:=a1l ds;rw[aF0,C7];omega
def W4(d:PyData):Prop:=v7 d=true∧d.canLay0=true∧d.depth≤50
theorem a2W{es:List PyData}(h1:A5 es=true)(h2:PyData.canLayAll0 es=true)(h3:PyData.depthAll es≤50):∀d∈es,W4 d:=by
 induction es with
 | nil=>intro d hd;simp at hd
 | cons e es ih=>
  rw[A5,aF2]at h1
  rw[PyData.canLayAll0,aF2]at h2
  rw[PyData.depthAll]at h3
  intro d hd
  rcases aB9.mp hd with rfl | hd
  ·exact⟨h1.1,h2.1,by omega⟩
  ·exact ih h1.2 h2.2 (by omega) d hd
theorem b1h{es:List PyData}(h:W4 (.list es)):∀d∈es,W4 d:=by
 obtain⟨h1,h2,h3⟩:=h
 unfold v7 at h1
 unfold PyData.canLay0 at h2
 unfold PyData.depth at h3
 exact a2W h1 h2 (by omega)
theorem b6m{es:List PyData}(h:W4 (.tuple es)):∀d∈es,W4 d:=by
 obtain⟨h1,h2,h3⟩:=h
 unfold v7 at h1
 unfold PyData.canLay0 at h2
 unfold PyData.depth at h3
 exact a2W h1 h2 (by omega)
def Td(K:PySem.W.Frag)(H H':Hp)(ds:List PyData)(xs:List V):Prop:=Paired (fun d x=>∃p u v,x=.ref p∧H' p=some (.tup [u,v])∧Rep K H d u∧Rep K H d v) ds xs
theorem Td.tupK{K:PySem.W.Frag}{H H1 H2:Hp}(k:u0 H1 H2):∀{ds:List PyData} {xs:List V},Td K H H1 ds xs→Td K H H2 ds xs
 | _,_,.nil=>.nil
 | _,_,.cons ⟨p,u,v,e,h,r⟩ t=>.cons ⟨p,u,v,e,k.1 _ _ h,r⟩ (Td.tupK k t)
theorem Td.append{K:PySem.W.Frag}{H H1:Hp}{es:List PyData}{ys:List V}(h:Td K H H1 es ys):∀{ds:List PyData} {xs:List V},Td K H H1 ds xs→Td K H H1 (ds++es) (xs++ys)
 | _,_,.nil=>h
 | _,_,.cons r t=>.cons r (Td.append h t)
theorem Td.len{K:PySem.W.Frag}{H H1:Hp}{ds:List PyData}{xs:List V}(h:Td K H H1 ds xs):xs.length=ds.length:=by
 induction h with
 | nil=>rfl
 | cons _ _ ih=>simp[ih]
def dd(d:PyData):PyData:=.tuple [d,d]
theorem Td.reps{K:PySem.W.Frag}{H H1:Hp}(s:g6 H H1):∀{ds:List PyData} {xs:List V},Td K H H1 ds xs→p7 K H1 (ds.map dd) xs
 | _,_,.nil=>rfl
 | _,_,.cons ⟨p,u,v,e,h,r1,r2⟩ t=>by
  rw[aC1]
  unfold p7
  refine⟨_,_,rfl,?_,Td.reps s t⟩
  unfold dd
  simp only[Rep,p7]
  exact⟨p,_,e,i5.of h,u,_,rfl,r1.same s,v,_,rfl,r2.same s,rfl⟩
theorem b4i:∀{ds:List PyData},(∀d∈ds,W4 d)→PyData.canLayAll0 (ds.map dd)=true
 | [],_=>by rw[aJ5,PyData.canLayAll0]
 | d::ds,h=>by
  rw[aC1,PyData.canLayAll0,b4i fun e he=>h e (aC4 _ he)]
  simp[dd,PyData.canLay0,PyData.canLayAll0,(h d aD0).2.1]
theorem a8N:∀{ds:List PyData},(∀d∈ds,W4 d)→PyData.depthAll (ds.map dd)≤51
 | [],_=>by rw[aJ5,PyData.depthAll];omega
 | d::ds,h=>by
  rw[aC1,PyData.depthAll]
  have:=a8N fun e he=>h e (aC4 _ he)
  have z:=(h d aD0).2.2
  simp only[dd,PyData.depth,PyData.depthAll]
  omega
theorem a0t{α β:Type}{F:α→β→Prop}:∀{l:List α} {m:List β} {x:α},Paired F (l++[x]) m→∃m' y,m=m'++[y]∧Paired F l m'∧F x y
 | [],_,_,.cons r .nil=>⟨[],_,rfl,.nil,r⟩
 | a::l,_,_,.cons r t=>by
  obtain⟨m',y,e,h1,h2⟩:=a0t (l:=l) t
  exact⟨_::m',y,by rw[e];rfl,.cons r h1,h2⟩
inductive a4s(K:PySem.W.Frag)(vs:List V)(H:Hp)(Q:VK):Prop
 | mk (x y:V) (d:PyData) (x0:vs=[x,y]) (x1:Rep K H d x) (x2:Rep K H d y) (x3:W4 d) (x4:Q4 d≤1000000) (xq:∀H',g6 H H'→Q (.bl true) H')
def a0u(K:PySem.W.Frag):Sp:=fun vs H Q _=>a4s K vs H Q
theorem a1w(T:A7 K mg t):g9 P w K mg base y9 1 t.f__law_unturned t.d__law_unturned ["_law_found","_law_due"] (a0u K):=by
 refine T.F__law_unturned.ok K6 (fun vs H Q E h=>?_) (fun cdv A outer s H vs Q E hr h=>?_)
 ·obtain⟨x,y,d,rfl,_⟩:=h
  rfl
 obtain⟨x,y,d,rfl,rx,ry,fd,zd,q⟩:=h
 refine⟨_,(b8 (g7 (i:=2) K6.nd rfl (Or.inl rfl) (m7 (a6 (v3 (a6 (pv 0) (a6 (pv 1) b6))) b6)))
 (b8 (a8i aE4 (f7 (a9p hr.units) (pv 2) (m7 b6) (i6 _))
 (b8 (b3w (a9O aB1 aT7 PySem.F.type_list_pop b8c (pv 2)) (a3p rfl (J2 (l4 (i:=3) K6.nd rfl (Or.inl rfl)) (J2 (l4 (i:=4) K6.nd rfl (Or.inl rfl)) a5g))))
 (c9 (k7 (A3 (e7 a4n rfl T.m_isinstance aE8 (a6 (pv 4) (a6 (v3 (a6 (r9 (v:=.ty "list") rfl T.m_list aJ1 rfl) (a6 (r9 (v:=.ty "tuple") rfl T.m_tuple boot_tuple rfl) b6))) b6))))
 (b8 (k7 (f7 M6 (e7 u4 rfl T.m_isinstance aE8 (a6 (pv 3) (a6 (r9 (v:=.ty "list") rfl T.m_list aJ1 rfl) b6))) (e7 u4 rfl T.m_isinstance aE8 (a6 (pv 4) (a6 (r9 (v:=.ty "list") rfl T.m_list aJ1 rfl) b6))) (i6 _))
 (c9 (i4 A1))
 j0)
 (b8 (k7 (PW.pt (L7 (K8 (A3 (e7 a4n rfl T.m_isinstance aE8 (a6 (pv 3) (a6 (v3 (a6 (r9 (v:=.ty "list") rfl T.m_list aJ1 rfl) (a6 (r9 (v:=.ty "tuple") rfl T.m_tuple boot_tuple rfl) b6))) b6))))) (J3 (f7 M6 (e7 g8 rfl T.m_len aC2 (a6 (pv 3) b6)) (e7 g8 rfl T.m_len aC2 (a6 (pv 4) b6)) (i6 _)))))
 (c9 (i4 A1))
 j0)
 (c9 (z9 aE4 rfl (N6 rfl T.m_range (a6 (e7 g8 rfl T.m_len aC2 (a6 (pv 4) b6)) b6)) (l4 (i:=5) K6.nd rfl (Or.inl rfl))
 (c9 (m6 (u6 aB1 aB6 aB8 o6 (pv 2) (a6 (v3 (a6 (d9 b7d (pv 3) (pv 5) (fun _ _=>rfl)) (a6 (d9 b7d (pv 4) (pv 5) (fun _ _=>rfl)) b6))) b6))))))))
 (c9 (k7 (PW.pt (L7 (f7 a6d (pv 3) P4 (i6 _)) (J3 (f7 a6d (pv 4) P4 (i6 _)))))
 (c9 (k7 (PW.pt (L7 (f7 a1W (pv 3) P4 (i6 _)) (J3 (f7 a1W (pv 4) P4 (i6 _)))))
 (c9 (i4 A1))
 j0))
 (c9 (k7 (f7 M6 (e7 u4 rfl T.m_isinstance aE8 (a6 (pv 3) (a6 (r9 (v:=.ty "bool") rfl T.m_bool boot_bool rfl) b6))) (e7 u4 rfl T.m_isinstance aE8 (a6 (pv 4) (a6 (r9 (v:=.ty "bool") rfl T.m_bool boot_bool rfl) b6))) (i6 _))
 (c9 (i4 A1))
 (c9 (k7 (f7 M6 (e7 u4 rfl T.m_isinstance aE8 (a6 (pv 3) (a6 (r9 (v:=.ty "str") rfl T.m_str aS8 rfl) b6))) (e7 u4 rfl T.m_isinstance aE8 (a6 (pv 4) (a6 (r9 (v:=.ty "str") rfl T.m_str aS8 rfl) b6))) (i6 _))
 (c9 (i4 A1))
 (c9 (k7 (PW.pt (L7 (K8 (A3 (e7 a4n rfl T.m_isinstance aE8 (a6 (pv 3) (a6 (v3 (a6 (r9 (v:=.ty "str") rfl T.m_str aS8 rfl) (a6 (r9 (v:=.ty "int") rfl T.m_int boot_int rfl) b6))) b6))))) (J3 (f7 M6 (pv 3) (pv 4) (i6 _)))))
 (c9 (i4 A1))
 j0))))))))))))
 (c9 (i4 A1)))),?_⟩
 refine⟨_,rfl,_,rfl,(n9 2),fun p hp=>⟨(n9 1),fun l hl=>?_⟩⟩
 have hlH:H l=none:=by
  cases z:H l with
  | none=>rfl
  | some o=>rw[b9 hp _ _ z]at hl;cases hl
 refine⟨fun m σ' H'=>∃o1 o2 o3 xs ds,σ'=[some x,some y,some (.ref l),o1,o2,o3]∧g6 H H'∧H' l=some (.lst xs)∧Td K H H' ds xs∧(∀d∈ds,W4 d)∧C7 ds=m∧m≤1000000,
  ⟨Q4 d,none,none,none,[.ref p],[d],rfl,(b9 hp).trans (b9 hl),b0,.cons ⟨p,x,y,rfl,b9 hl _ _ b0,rx,ry⟩ .nil,fun e he=>by rw[aA3.mp he];exact fd,by simp[C7],zd⟩,?_⟩
 rintro m σ' H' ⟨o1,o2,o3,xs,ds,rfl,sm,hx,td,fn,rfl,zm⟩
 refine⟨_,rfl,(n9 0),fun e he=>?_⟩
 have s1:g6 H' (upd H' e (.lst [])):=b9 he
 refine⟨.list (ds.map dd),.list [],by unfold Rep;exact⟨l,xs,rfl,d7.of (s1 _ _ hx),(td.reps sm).same s1⟩,?_,?_,?_,?_,?_⟩
 ·unfold Rep;exact⟨e,[],rfl,d7.of b0,rfl⟩
 ·unfold PyData.canLay0;exact b4i fn
 ·simp[PyData.canLay0,PyData.canLayAll0]
 ·have:=a8N fn;unfold PyData.depth;omega
 have ec:∀{es:List PyData} {e:PyData},PyData.eqv (.list ((es++[e]).map dd)) (.list [])=false:=fun {es e}=>by
  cases es<;>simp[PyData.eqv,PyData.eqvAll]
 refine⟨_,rfl,?_⟩
 rcases List.eq_nil_or_concat ds with rfl | ⟨ds',d',rfl⟩
 ·refine K4 (fun c=>?_) (fun c=>?_)
  ·simp[PyData.eqv,PyData.eqvAll]at c
  ·exact q _ (sm.trans s1)
 rw[List.concat_eq_append]at td fn zm ⊢
 refine K4 (fun c=>?_) (fun c=>by exfalso;rw[ec]at c;simp at c)
 obtain⟨xs',y',rfl,td',p',u,v,rfl,hp',ru,rv⟩:=a0t td
 have fd':=fn d' (by simp)
 have fn':∀e∈ds',W4 e:=fun e he=>fn e (by simp[he])
 have dz:C7 (ds'++[d'])=C7 ds'+Q4 d':=by rw[O2];simp[C7]
 have dl:=a1l (ds'++[d'])
 refine⟨fun σ2 H2=>∃m',m'<C7 (ds'++[d'])∧∃o1 o2 o3 zs es,σ2=[some x,some y,some (.ref l),o1,o2,o3]∧g6 H H2∧H2 l=some (.lst zs)∧Td K H H2 es zs∧(∀e∈es,W4 e)∧C7 es=m'∧m'≤1000000,fun _ _ z=>z,?_⟩
 have hx1:(upd H' e (.lst [])) l=some (.lst (xs'++[.ref p'])):=s1 _ _ hx
 refine⟨_,rfl,.inl ⟨rfl,_,d7.of hx1⟩,l,_,.ref p',rfl,rfl,hx1,by simp,?_⟩
 rw[List.dropLast_concat]
 generalize hH1:upd (upd H' e (.lst [])) l (.lst xs')=H1
 have k1:u0 H' H1:=by rw[←hH1];exact s1.tupK.trans (p9 hx1)
 have sm1:g6 H H1:=by rw[←hH1];exact l8 (sm.trans s1) hlH
 have hl1:H1 l=some (.lst xs'):=by rw[←hH1];exact b0
 have td1:Td K H H1 ds' xs':=Td.tupK k1 td'
 refine⟨p',_,rfl,i5.of (k1.1 _ _ hp'),rfl,u,_,rfl,v,_,rfl,rfl,?_⟩
 refine⟨_,rfl,(n9 2),fun g hg=>⟨v,tyD d',"list","tuple",g,rfl,b0,((rv.same sm1).same (b9 hg)).ty,by decide,by decide,_,rfl,?_⟩⟩
 have sg:g6 H1 (upd H1 g (.tup [.ty "list",.ty "tuple"])):=b9 hg
 generalize hH2:upd H1 g (.tup [.ty "list",.ty "tuple"])=H2 at sg ⊢
 have sm2:=sm1.trans sg
 have hl2:H2 l=some (.lst xs'):=sg _ _ hl1
 have td2:=td1.tupK sg.tupK
 have leaf:∀o3 H3,g6 H2 H3→∃m',m'<C7 (ds'++[d'])∧∃o1 o2 o3' zs es,[some x,some y,some (.ref l),some u,some v,o3]=[some x,some y,some (.ref l),o1,o2,o3']∧g6 H H3∧H3 l=some (.lst zs)∧Td K H H3 es zs∧(∀e∈es,W4 e)∧C7 es=m'∧m'≤1000000:=fun o3 H3 s3=>
  ⟨C7 ds',by rw[dz];have:=a8W d';omega,_,_,_,xs',ds',rfl,sm2.trans s3,s3 _ _ hl2,td2.tupK s3.tupK,fn',rfl,by omega⟩
 cases d' with
 | bool b=>exact absurd fd'.1 (by simp[v7])
 | dict _=>exact absurd fd'.1 (by simp[v7])
 | list es=>
  unfold Rep at ru rv
  obtain⟨pu,us,rfl,hu,rus⟩:=ru
  obtain⟨pv',ws,rfl,hv,rvs⟩:=rv
  have lu:=rus.len
  have lv:=rvs.len
  have es0:Q4 (.list es)=C7 es+1:=by unfold Q4;rfl
  have le:=a1l es
  have fe:=b1h fd'
  refine l6 ?_
  refine⟨_,rfl,.ref pu,"list","list",rfl,.inl ⟨rfl,_,hu.same sm2⟩,by decide,_,rfl,.ref pv',"list","list",rfl,.inl ⟨rfl,_,hv.same sm2⟩,by decide,rfl,_,rfl,f6 ?_⟩
  refine⟨_,rfl,(n9 2),fun g2 hg2=>⟨.ref pu,"list","list","tuple",g2,rfl,b0,.inl ⟨rfl,_,(hu.same sm2).same (b9 hg2)⟩,by decide,by decide,_,rfl,?_⟩⟩
  have sg2:g6 H2 (upd H2 g2 (.tup [.ty "list",.ty "tuple"])):=b9 hg2
  generalize hH3:upd H2 g2 (.tup [.ty "list",.ty "tuple"])=H3 at sg2 ⊢
  have sm3:=sm2.trans sg2
  refine f6 ?_
  refine⟨_,rfl,pu,us,rfl,.inl (hu.same sm3),_,rfl,pv',ws,rfl,.inl (hv.same sm3),rfl,_,rfl,U4 (by rw[←lu,←lv]) ?_⟩
  refine⟨_,rfl,pv',ws,rfl,.inl (hv.same sm3),?_⟩
  refine⟨_,rfl,by omega,by omega,?_⟩
  have en:(((ws.length:Nat):Int)).toNat=es.length:=by omega
  rw[en]
  refine N7 (fun i σ2 Hx=>∃o zs,σ2=[some x,some y,some (.ref l),some (.ref pu),some (.ref pv'),o]∧g6 H Hx∧Hx l=some (.lst zs)∧Td K H Hx (ds'++es.take i) zs)
   ⟨o3,xs',rfl,sm3,sg2 _ _ hl2,by rw[aP5,aH1];exact td2.tupK sg2.tupK⟩ (fun i σ2 Hx hi h=>?_) (fun σ2 Hx h=>?_)
  ·obtain⟨o,zs,rfl,smx,hlx,tdx⟩:=h
   obtain⟨a1,ha1,r1⟩:=rus.at (List.getElem?_eq_getElem hi)
   obtain⟨a2,ha2,r2⟩:=rvs.at (List.getElem?_eq_getElem hi)
   have e0:(0:Int)+(i:Int)=((i:Nat):Int):=by omega
   have ax1:F8 us ((0:Int)+(i:Int))=some a1:=by rw[e0];exact i9 ha1
   have ax2:F8 ws ((0:Int)+(i:Int))=some a2:=by rw[e0];exact i9 ha2
   refine⟨_,rfl,.inl ⟨rfl,_,d7.of hlx⟩,_,rfl,_,rfl,.inl ⟨pu,us,_,a1,rfl,rfl,hu.same smx,ax1,_,rfl,_,rfl,.inl ⟨pv',ws,_,a2,rfl,rfl,hv.same smx,ax2,(n9 2),fun pn hpn=>?_⟩⟩⟩
   have hn:pn≠l:=fun z=>by rw[z,hlx]at hpn;cases hpn
   have hlp:=b9 (o:=.tup [a1,a2]) hpn _ _ hlx
   refine⟨l,zs,.ref pn,rfl,rfl,hlp,?_,?_⟩
   ·rw[tdx.len,aA7,aD6,aF9]
    rw[aA7]at dl
    rw[dz]at dl zm
    omega
   ·refine⟨_,_,rfl,l8 (smx.trans (b9 hpn)) hlH,b0,?_⟩
    rw[aD3,List.getElem?_eq_getElem hi,←aG1]
    have k3:=(F9 (o:=.tup [a1,a2]) hpn).trans (p9 (o:=.lst (zs++[.ref pn])) hlp)
    exact Td.append (.cons ⟨pn,a1,a2,rfl,by rw[b7 hn];exact b0,r1,r2⟩ .nil) (tdx.tupK k3)
  ·obtain⟨o,zs,rfl,smx,hlx,tdx⟩:=h
   rw[aE0]at tdx
   refine⟨C7 (ds'++es),by rw[dz,O2,es0];omega,_,_,_,zs,ds'++es,rfl,smx,hlx,tdx,fun e he=>(aA8.mp he).elim (fun z=>fn' e z) fun z=>fe e z,rfl,?_⟩
   rw[O2]
   rw[dz,es0]at zm
   omega
 | tuple es=>
  unfold Rep at ru rv
  obtain⟨pu,us,rfl,hu,rus⟩:=ru
  obtain⟨pv',ws,rfl,hv,rvs⟩:=rv
  have lu:=rus.len
  have lv:=rvs.len
  have es0:Q4 (.tuple es)=C7 es+1:=by unfold Q4;rfl
  have le:=a1l es
  have fe:=b6m fd'
  refine l6 ?_
  refine⟨_,rfl,.ref pu,"tuple","list",rfl,.inr (.inl ⟨rfl,_,hu.same sm2⟩),by decide,_,rfl,.ref pv',"tuple","list",rfl,.inr (.inl ⟨rfl,_,hv.same sm2⟩),by decide,rfl,_,rfl,f6 ?_⟩
  refine⟨_,rfl,(n9 2),fun g2 hg2=>⟨.ref pu,"tuple","list","tuple",g2,rfl,b0,.inr (.inl ⟨rfl,_,(hu.same sm2).same (b9 hg2)⟩),by decide,by decide,_,rfl,?_⟩⟩
  have sg2:g6 H2 (upd H2 g2 (.tup [.ty "list",.ty "tuple"])):=b9 hg2
  generalize hH3:upd H2 g2 (.tup [.ty "list",.ty "tuple"])=H3 at sg2 ⊢
  have sm3:=sm2.trans sg2
  refine f6 ?_
  refine⟨_,rfl,pu,us,rfl,.inr (hu.same sm3),_,rfl,pv',ws,rfl,.inr (hv.same sm3),rfl,_,rfl,U4 (by rw[←lu,←lv]) ?_⟩
  refine⟨_,rfl,pv',ws,rfl,.inr (hv.same sm3),?_⟩
  refine⟨_,rfl,by omega,by omega,?_⟩
  have en:(((ws.length:Nat):Int)).toNat=es.length:=by omega
  rw[en]
  refine N7 (fun i σ2 Hx=>∃o zs,σ2=[some x,some y,some (.ref l),some (.ref pu),some (.ref pv'),o]∧g6 H Hx∧Hx l=some (.lst zs)∧Td K H Hx (ds'++es.take i) zs)
   ⟨o3,xs',rfl,sm3,sg2 _ _ hl2,by rw[aP5,aH1];exact td2.tupK sg2.tupK⟩ (fun i σ2 Hx hi h=>?_) (fun σ2 Hx h=>?_)
  ·obtain⟨o,zs,rfl,smx,hlx,tdx⟩:=h
   obtain⟨a1,ha1,r1⟩:=rus.at (List.getElem?_eq_getElem hi)
   obtain⟨a2,ha2,r2⟩:=rvs.at (List.getElem?_eq_getElem hi)
   have e0:(0:Int)+(i:Int)=((i:Nat):Int):=by omega
   have ax1:F8 us ((0:Int)+(i:Int))=some a1:=by rw[e0];exact i9 ha1
   have ax2:F8 ws ((0:Int)+(i:Int))=some a2:=by rw[e0];exact i9 ha2
   refine⟨_,rfl,.inl ⟨rfl,_,d7.of hlx⟩,_,rfl,_,rfl,.inr (.inl ⟨pu,us,_,a1,rfl,rfl,hu.same smx,ax1,_,rfl,_,rfl,.inr (.inl ⟨pv',ws,_,a2,rfl,rfl,hv.same smx,ax2,(n9 2),fun pn hpn=>?_⟩)⟩)⟩
   have hn:pn≠l:=fun z=>by rw[z,hlx]at hpn;cases hpn
   have hlp:=b9 (o:=.tup [a1,a2]) hpn _ _ hlx
   refine⟨l,zs,.ref pn,rfl,rfl,hlp,?_,?_⟩
   ·rw[tdx.len,aA7,aD6,aF9]
    rw[aA7]at dl
    rw[dz]at dl zm
    omega
   ·refine⟨_,_,rfl,l8 (smx.trans (b9 hpn)) hlH,b0,?_⟩
    rw[aD3,List.getElem?_eq_getElem hi,←aG1]
    have k3:=(F9 (o:=.tup [a1,a2]) hpn).trans (p9 (o:=.lst (zs++[.ref pn])) hlp)
    exact Td.append (.cons ⟨pn,a1,a2,rfl,by rw[b7 hn];exact b0,r1,r2⟩ .nil) (tdx.tupK k3)
  ·obtain⟨o,zs,rfl,smx,hlx,tdx⟩:=h
   rw[aE0]at tdx
   refine⟨C7 (ds'++es),by rw[dz,O2,es0];omega,_,_,_,zs,ds'++es,rfl,smx,hlx,tdx,fun e he=>(aA8.mp he).elim (fun z=>fn' e z) fun z=>fe e z,rfl,?_⟩
   rw[O2]
   rw[dz,es0]at zm
   omega
 | none=>
  unfold Rep at ru rv
  subst ru;subst rv
  refine f6 ?_
  refine⟨_,rfl,rfl,_,rfl,l6 ?_⟩
  refine l6 ?_
  refine⟨_,rfl,rfl,_,rfl,f6 ?_⟩
  refine⟨_,rfl,rfl,_,rfl,f6 ?_⟩
  exact leaf _ _ (g6.refl _)
 | int i=>
  unfold Rep at ru rv
  subst ru;subst rv
  refine f6 ?_
  refine⟨_,rfl,rfl,_,rfl,f6 ?_⟩
  refine⟨_,rfl,rfl,_,rfl,f6 ?_⟩
  refine⟨_,rfl,.int i,"int","bool",rfl,rfl,by decide,_,rfl,.int i,"int","bool",rfl,rfl,by decide,rfl,_,rfl,f6 ?_⟩
  refine⟨_,rfl,.int i,"int","str",rfl,rfl,by decide,_,rfl,.int i,"int","str",rfl,rfl,by decide,rfl,_,rfl,f6 ?_⟩
  refine⟨_,rfl,(n9 2),fun g2 hg2=>⟨.int i,"int","str","int",g2,rfl,b0,rfl,by decide,by decide,_,rfl,f6 ?_⟩⟩
  refine⟨_,rfl,_,rfl,rfl,_,rfl,U4 rfl ?_⟩
  exact leaf _ _ (b9 hg2)
 | str i=>
  unfold Rep at ru rv
  subst ru;subst rv
  refine f6 ?_
  refine⟨_,rfl,rfl,_,rfl,f6 ?_⟩
  refine⟨_,rfl,rfl,_,rfl,f6 ?_⟩
  refine⟨_,rfl,.str i,"str","bool",rfl,rfl,by decide,_,rfl,.str i,"str","bool",rfl,rfl,by decide,rfl,_,rfl,f6 ?_⟩
  refine⟨_,rfl,.str i,"str","str",rfl,rfl,by decide,_,rfl,.str i,"str","str",rfl,rfl,by decide,rfl,_,rfl,f6 ?_⟩
  refine⟨_,rfl,(n9 2),fun g2 hg2=>⟨.str i,"str","str","int",g2,rfl,b0,rfl,by decide,by decide,_,rfl,f6 ?_⟩⟩
  refine⟨_,rfl,_,rfl,rfl,_,rfl,U4 rfl ?_⟩
  exact leaf _ _ (b9 hg2)
inductive a0C(K:PySem.W.Frag)(vs:List V)(H:Hp)(Q:VK):Prop
 | mk (a b:Addr) (xs ys:List V) (tb:Am) (x0:vs=[.ref a,.ref b]) (x1:d7 K H a xs) (x2:d7 K H b ys) (x3:Prs H tb xs) (x4:Prs H tb ys) (x5:tb.length≤100000) (x6:(∀p∈tb,PyData.strOk p.1=true)) (xq:Q (.bl true) H)
def a6K(K:PySem.W.Frag):Sp:=fun vs H Q _=>a0C K vs H Q
theorem a8J(T:A7 K mg t):g9 P w K mg base y9 2 t.f__law_table t.d__law_table ["_law_found","_law_due"] (a6K K):=by
 refine T.F__law_table.ok a5l (fun vs H Q E h=>?_) (fun cdv A outer s H vs Q E hr h=>?_)
 ·obtain⟨a,b,xs,ys,tb,rfl,_⟩:=h
  rfl
 obtain⟨a,b,xs,ys,tb,rfl,hA,hB,pA,pB,hl,hok,q⟩:=h
 refine⟨_,(b8 (k7 (PW.pt (L7 (K8 (A3 (e7 u4 rfl T.m_isinstance aE8 (a6 (pv 0) (a6 (r9 (v:=.ty "list") rfl T.m_list aJ1 rfl) b6))))) (J3 (f7 M6 (e7 g8 rfl T.m_len aC2 (a6 (pv 0) b6)) (e7 g8 rfl T.m_len aC2 (a6 (pv 1) b6)) (i6 _)))))
 (c9 (i4 A1))
 j0)
 (b8 (z9 aE4 rfl (N6 rfl T.m_range (a6 (e7 g8 rfl T.m_len aC2 (a6 (pv 1) b6)) b6)) (l4 (i:=2) a5l.nd rfl (Or.inl rfl))
 (b8 (k7 (PW.pt (L7 (K8 (A3 (e7 u4 rfl T.m_isinstance aE8 (a6 (d9 l7 (pv 0) (pv 2) (fun _ _=>rfl)) (a6 (r9 (v:=.ty "tuple") rfl T.m_tuple boot_tuple rfl) b6))))) (J3 (f7 M6 (e7 g8 rfl T.m_len aC2 (a6 (d9 l7 (pv 0) (pv 2) (fun _ _=>rfl)) b6)) d5 (i6 _)))))
 (c9 (i4 A1))
 j0)
 (b8 (k7 (PW.pt (L7 (K8 (A3 (e7 u4 rfl T.m_isinstance aE8 (a6 (d9 i3 (d9 l7 (pv 0) (pv 2) (fun _ _=>rfl)) d5 (fun _ _=>rfl)) (a6 (r9 (v:=.ty "str") rfl T.m_str aS8 rfl) b6))))) (J3 (K8 (A3 (j8 (g9.mono (k:=1) (O1 T) (by decide)) hr rfl T.m__law_whole T.F__law_whole.kp T.F__law_whole.b .nil k8 (a6 (d9 i3 (d9 l7 (pv 0) (pv 2) (fun _ _=>rfl)) d5 (fun _ _=>rfl)) b6)))))))
 (c9 (i4 A1))
 j0)
 (c9 (k7 (f7 (a9p hr.units) (d9 l7 (pv 0) (pv 2) (fun _ _=>rfl)) (d9 l7 (pv 1) (pv 2) (fun _ _=>rfl)) (i6 _))
 (c9 (i4 A1))
 j0)))))
 (c9 (i4 A1)))),?_⟩
 have lx:=n6 pA
 have ly:=n6 pB
 refine⟨_,rfl,.ref a,"list","list",rfl,.inl ⟨rfl,_,hA⟩,by decide,_,rfl,f6 ?_⟩
 refine⟨_,rfl,a,_,rfl,.inl hA,_,rfl,b,_,rfl,.inl hB,rfl,_,rfl,U4 (by rw[lx,ly]) ?_⟩
 refine⟨_,rfl,b,_,rfl,.inl hB,_,rfl,by omega,by omega,?_⟩
 have en:(((ys.length:Nat):Int)).toNat=tb.length:=by omega
 rw[en]
 refine N7 (fun i σ' H'=>H'=H∧∃o,σ'=[some (.ref a),some (.ref b),o]) ⟨rfl,_,rfl⟩ (fun i σ' H' hi h=>?_) (fun σ' H' h=>?_)
 ·obtain⟨rfl,o,rfl⟩:=h
  have e0:(0:Int)+(i:Int)=((i:Nat):Int):=by omega
  have hd:=List.getElem?_eq_getElem hi
  obtain⟨x,hx,r1⟩:=a5r pA hd
  obtain⟨y,hy,r2⟩:=a5r pB hd
  have ok:=hok _ (aG8 hi)
  generalize tb[i]=pr at r1 r2 ok
  obtain⟨p,rfl,hp⟩:=id r1
  have ax:F8 xs ((0:Int)+(i:Int))=some (.ref p):=by rw[e0];exact i9 hx
  have ay:F8 ys ((0:Int)+(i:Int))=some y:=by rw[e0];exact i9 hy
  have tp:=i5.of (K:=K) hp
  refine⟨_,rfl,_,rfl,a,_,_,_,rfl,rfl,hA,ax,_,"tuple","tuple",rfl,.inr (.inl ⟨rfl,_,tp⟩),by decide,_,rfl,f6 ?_⟩
  refine⟨_,rfl,_,rfl,a,_,_,_,rfl,rfl,hA,ax,p,_,rfl,.inr tp,rfl,_,rfl,f6 ?_⟩
  refine⟨_,rfl,_,rfl,a,_,_,_,rfl,rfl,hA,ax,p,_,0,_,rfl,rfl,tp,rfl,_,"str","str",rfl,rfl,by decide,_,rfl,f6 ?_⟩
  refine⟨_,rfl,_,rfl,a,_,_,_,rfl,rfl,hA,ax,p,_,1,_,rfl,rfl,tp,rfl,_,"int",rfl,rfl,_,rfl,f6 ?_⟩
  refine⟨_,rfl,_,rfl,a,_,_,_,rfl,rfl,hA,ax,_,rfl,_,rfl,b,_,_,_,rfl,rfl,hB,ay,prD pr,prD pr,r1.rep,r2.rep,a5X ok,a5X ok,b9d pr,_,rfl,?_⟩
  have ev:PyData.eqv (prD pr) (prD pr)=true:=a1x _ rfl
  rw[show(if true=true then !(prD pr).eqv (prD pr) else(prD pr).eqv (prD pr))=false by rw[ev];rfl]
  exact f6 ⟨rfl,_,rfl⟩
 ·obtain⟨rfl,_⟩:=h
  exact q
structure LG where
 rl:Addr→Role
 ba:Int→Addr
 la:Int→Addr
 bm:Int→Am
structure LD(W:LG)(H:Hp)(d:Dl):Prop where
 hb:H (W.ba d.num)=some (.dK (z6 (W.bm d.num)))
 hl:H (W.la d.num)=some (.dK (z6 d.aside))
 r5:W.rl (W.ba d.num)=.look d.num
 r6:W.rl (W.la d.num)=.side d.num
structure LA(ta bl ll ul:Addr)(W:LG)(H0 H:Hp)(st:j5)(tm:Am):Prop where
 sm:g6 H0 H
 nw:∀b,W.rl b≠.free→H0 b=none
 ht:H ta=some (.dK (z6 tm))
 hb:H bl=some (.lst ((nat st.begun).map fun n=>.ref (W.ba n)))
 hl:H ll=some (.lst ((nat st.begun).map fun n=>.ref (W.la n)))
 hu:H ul=some (.lst ((una st).map V.int))
 dl:∀d∈st.under,LD W H d
 r1:W.rl ta=.tally
 r2:W.rl bl=.recs
 r3:W.rl ll=.vers
 r4:W.rl ul=.under
 cl:∀b,H b=none→W.rl b=.free
 tv:∀g,(t6 tm g).getD 0=valOf st g (st.recs.length:Int)
 bv:∀d∈st.under,∀g,(t6 (W.bm d.num) g).getD 0=valOf st g d.beg
 tk:∀g,g∈tm.map (·.1)↔g∈st.vers.map (·.1)
 tn:(tm.map (·.1)).Nodup
theorem b2k{m:Am}{g h:Str}{a:Int}:h∈(D9 m g a).map (·.1)↔h∈m.map (·.1)∨h=g:=by
 rw[a7j]
 by_cases c:g∈m.map (·.1)
 ·rw[aB0 c];exact⟨.inl,fun z=>z.elim id fun e=>by rw[e];exact c⟩
 ·rw[aA4 c,aA8,aA3]
theorem a5M{h:Str}:∀{am m:Am},h∈(a6c m am).map (·.1)↔h∈m.map (·.1)∨h∈am.map (·.1)
 | [],m=>⟨.inl,fun z=>z.elim id fun e=>nomatch e⟩
 | p::am,m=>by
  show h∈(a6c (D9 m p.1 p.2) am).map (·.1)↔_
  rw[a5M,b2k,aC1,aB9,or_assoc]
theorem a7X:∀{am m:Am},(m.map (·.1)).Nodup→((a6c m am).map (·.1)).Nodup
 | [],m,h=>h
 | p::am,m,h=>a7X (am:=am) (m:=D9 m p.1 p.2) (a0V h)
theorem a9o{h:Str}{t:Int}:∀{am:Am} {v:F6},h∈(B6 v am t).map (·.1)↔h∈v.map (·.1)∨h∈am.map (·.1)
 | [],v=>⟨.inl,fun z=>z.elim id fun e=>nomatch e⟩
 | p::am,v=>by
  show h∈(B6 (D7 v p.1 (t,p.2)) am t).map (·.1)↔_
  rw[a9o,T5,aC1,aB9,←or_assoc]
  refine or_congr ?_ Iff.rfl
  by_cases c:p.1∈v.map (·.1)
  ·rw[aB0 c];exact⟨.inl,fun z=>z.elim id fun e=>by rw[e];exact c⟩
  ·rw[aA4 c,aA8,aA3]
section
variable{ta bl ll ul:Addr}{W:LG}{H0 H:Hp}{st st':j5}{tm:Am}
theorem LA.new{H':Hp}(h:LA ta bl ll ul W H0 H st tm)(s:g6 H H'):LA ta bl ll ul W H0 H' st tm:=
 ⟨h.sm.trans s,h.nw,s _ _ h.ht,s _ _ h.hb,s _ _ h.hl,s _ _ h.hu,fun d hd=>let D:=h.dl d hd;⟨s _ _ D.hb,s _ _ D.hl,D.r5,D.r6⟩,h.r1,h.r2,h.r3,h.r4,fun b e=>h.cl b (j7 s e),h.tv,h.bv,h.tk,h.tn⟩
theorem LA.smU(h:LA ta bl ll ul W H0 H st tm){a:Addr}(n:W.rl a≠.free)(o:HO):g6 H0 (upd H a o):=l8 h.sm (h.nw a n)
theorem LA.cong(h:LA ta bl ll ul W H0 H st tm)(e1:st'.begun=st.begun)(e2:una st'=una st)(e3:st'.recs=st.recs)(e4:∀d∈st'.under,∃e∈st.under,e.num=d.num∧e.aside=d.aside∧e.beg=d.beg)
  (ev:∀g t,(t=(st.recs.length:Int)∨∃d∈st.under,t=d.beg)→valOf st' g t=valOf st g t) (ek:st'.vers.map (·.1)=st.vers.map (·.1)):LA ta bl ll ul W H0 H st' tm:=by
 refine⟨h.sm,h.nw,h.ht,by rw[e1];exact h.hb,by rw[e1];exact h.hl,by rw[e2];exact h.hu,fun d hd=>?_,h.r1,h.r2,h.r3,h.r4,h.cl,fun g=>?_,fun d hd g=>?_,by rw[ek];exact h.tk,h.tn⟩
 ·obtain⟨e,he,n,a,b⟩:=e4 d hd
  have E:=h.dl e he
  obtain⟨E1,E2,E3,E4⟩:=E
  rw[n]at E1 E2 E3 E4
  rw[a]at E2
  exact⟨E1,E2,E3,E4⟩
 ·rw[e3,ev g _ (.inl rfl)];exact h.tv g
 ·obtain⟨e,he,n,a,b⟩:=e4 d hd
  rw[←b,←n,ev g _ (.inr ⟨e,he,rfl⟩)];exact h.bv e he g
theorem LA.drop(h:LA ta bl ll ul W H0 H st tm)(n:Int):LA ta bl ll ul W H0 (upd H ul (.lst ((una (v9 st n)).map V.int))) (v9 st n) tm:=by
 have sub:∀d∈(v9 st n).under,d∈st.under:=fun d hd=>(aD5.mp hd).1
 refine⟨h.smU (by rw[h.r4];simp) _,h.nw,ur h.ht h.r1 h.r4 (by simp),ur h.hb h.r2 h.r4 (by simp),ur h.hl h.r3 h.r4 (by simp),b0,fun d hd=>?_,h.r1,h.r2,h.r3,h.r4,fun b e=>h.cl b (p8 e),h.tv,fun d hd=>h.bv d (sub d hd),h.tk,h.tn⟩
 have D:=h.dl d (sub d hd)
 exact⟨ur D.hb D.r5 h.r4 (by simp),ur D.hl D.r6 h.r4 (by simp),D.r5,D.r6⟩
theorem LA.put(h:LA ta bl ll ul W H0 H st tm){d:Dl}(hd:d∈st.under)(nd:(una st).Nodup){g:Str}{a:Int}:LA ta bl ll ul W H0 (upd H (W.la d.num) (.dK (z6 (D9 d.aside g a)))) (putSt st d.num g a) tm:=by
 have D:=h.dl d hd
 have eu:una (putSt st d.num g a)=una st:=L5 fun _=>rfl
 refine⟨h.smU (by rw[D.r6];simp) _,h.nw,ur h.ht h.r1 D.r6 (by simp),ur h.hb h.r2 D.r6 (by simp),ur h.hl h.r3 D.r6 (by simp),by rw[eu];exact ur h.hu h.r4 D.r6 (by simp),fun e he=>?_,h.r1,h.r2,h.r3,h.r4,fun b e=>h.cl b (p8 e),h.tv,fun e he=>?_,h.tk,h.tn⟩
 ·obtain⟨x,hx,rfl⟩:=aA5.mp he
  have X:=h.dl x hx
  by_cases c:x.num=d.num
  ·have:=G7 nd hx hd c
   subst this
   rw[aB0 rfl]
   exact⟨ur X.hb X.r5 X.r6 (by simp),b0,X.r5,X.r6⟩
  ·rw[aA4 c]
   exact⟨ur X.hb X.r5 D.r6 (by simp),ur X.hl X.r6 D.r6 (by simpa using c),X.r5,X.r6⟩
 ·obtain⟨x,hx,rfl⟩:=aA5.mp he
  by_cases c:x.num=d.num
  ·rw[aB0 c];exact h.bv x hx
  ·rw[aA4 c];exact h.bv x hx
theorem LA.take{d:Dl}(h:LA ta bl ll ul W H0 H (v9 st d.num) tm)(nd:(d.aside.map (·.1)).Nodup)(bg:∀e∈st.under,e.beg≤(st.recs.length:Int))(e1:st'.begun=st.begun)(e2:st'.under=N2 st.under d.num)
  (v1:∀g t,t≤(st.recs.length:Int)→valOf st' g t=valOf st g t) (v2:∀g,valOf st' g (st'.recs.length:Int)=(t6 d.aside g).getD (valOf st g (st.recs.length:Int))) (k1:∀g,g∈st'.vers.map (·.1)↔g∈st.vers.map (·.1)∨g∈d.aside.map (·.1)) :
  LA ta bl ll ul W H0 (upd H ta (.dK (z6 (a6c tm d.aside)))) st' (a6c tm d.aside):=by
 have sub:∀e∈st'.under,e∈(v9 st d.num).under:=fun e he=>by rw[e2]at he;exact he
 refine⟨h.smU (by rw[h.r1];simp) _,h.nw,b0,by rw[e1];exact ur h.hb h.r2 h.r1 (by simp),by rw[e1];exact ur h.hl h.r3 h.r1 (by simp),?_,fun e he=>?_,h.r1,h.r2,h.r3,h.r4,fun b e=>h.cl b (p8 e),fun g=>?_,fun e he g=>?_,fun g=>a5M.trans ((or_congr (h.tk g) Iff.rfl).trans (k1 g).symm),a7X h.tn⟩
 ·have:=ur (o:=.dK (z6 (a6c tm d.aside))) h.hu h.r4 h.r1 (by simp)
  have eu:una st'=una (v9 st d.num):=by unfold una;rw[e2];rfl
  rw[eu];exact this
 ·have E:=h.dl e (sub e he)
  exact⟨ur E.hb E.r5 h.r1 (by simp),ur E.hl E.r6 h.r1 (by simp),E.r5,E.r6⟩
 ·rw[a5O g _ _ nd,v2 g]
  have t:(t6 tm g).getD 0=valOf st g (st.recs.length:Int):=h.tv g
  cases t6 d.aside g with
  | none=>exact t
  | some x=>rfl
 ·have hm:=aD5.mp (sub e he)
  rw[v1 g _ (bg e hm.1)]
  exact h.bv e (sub e he) g
def lnew(W:LG)(n:Int)(b1 l1:Addr)(m:Am):LG:=⟨fun x=>if x=b1 then .look n else if x=l1 then .side n else W.rl x,fun k=>if k=n then b1 else W.ba k,fun k=>if k=n then l1 else W.la k,fun k=>if k=n then m else W.bm k⟩
theorem LA.begin(h:LA ta bl ll ul W H0 H st tm)(ok:G0 st){b1 l1:Addr}{H1:Hp}(n1:H b1=none)(n2:H l1=none)(n12:b1≠l1)(g1:H1 b1=some (.dK (z6 tm)))(g2:H1 l1=some (.dK (z6 [])))
  (bt:∀b o,b≠ul→b≠bl→b≠ll→H b=some o→H1 b=some o)
  (hu:H1 ul=some (.lst ((una st).map V.int++[.int (st.begun:Int)])))
  (hb:H1 bl=some (.lst (((nat st.begun).map fun n=>V.ref (W.ba n))++[.ref b1])))
  (hl:H1 ll=some (.lst (((nat st.begun).map fun n=>V.ref (W.la n))++[.ref l1]))) :
  LA ta bl ll ul (lnew W (st.begun:Int) b1 l1 tm) H0 H1 (a2A st) tm:=by
 have new:∀d∈st.under,d.num≠(st.begun:Int):=ok.new
 have f1:=h.cl b1 n1
 have f2:=h.cl l1 n2
 have kp:∀b ρ,W.rl b=ρ→ρ≠.free→(lnew W (st.begun:Int) b1 l1 tm).rl b=ρ:=fun b ρ e n=>by
  show(if b=b1 then _ else if b=l1 then _ else _)=_
  rw[aA4 fun z=>n (by rw[←e,z,f1]),aA4 fun z=>n (by rw[←e,z,f2])];exact e
 have off:∀b o ρ,H b=some o→W.rl b=ρ→ρ≠.under→ρ≠.recs→ρ≠.vers→H1 b=some o:=fun b o ρ e r a1 a2 a3=>bt b o (fun z=>a1 (by rw[←r,z,h.r4])) (fun z=>a2 (by rw[←r,z,h.r2])) (fun z=>a3 (by rw[←r,z,h.r3])) e
 have h0:∀b,H b=none→H0 b=none:=fun b e=>j7 h.sm e
 have lists:∀(q:Int→Addr) (x:Addr),((nat st.begun).map fun n=>V.ref (q n))++[.ref x]=(nat (st.begun+1)).map fun k=>V.ref (if k=(st.begun:Int) then x else q k):=fun q x=>by
  rw[a3v,aB2,aK4,aB0 rfl]
  congr 1
  refine aD9 fun k hk=>?_
  rw[aA4 (by have:=(a1g.mp hk).2;omega)]
 refine⟨fun b o e=>?_,fun b hb=>?_,off _ _ _ h.ht h.r1 (by simp) (by simp) (by simp),by rw[hb,lists];rfl,by rw[hl,lists];rfl,?_,fun d hd=>?_,kp _ _ h.r1 (by simp),kp _ _ h.r2 (by simp),kp _ _ h.r3 (by simp),kp _ _ h.r4 (by simp),fun b e=>?_,h.tv,fun d hd g=>?_,h.tk,h.tn⟩
 ·have nn:∀c ρ,W.rl c=ρ→ρ≠.free→b≠c:=fun c ρ r n z=>by rw[z,h.nw c (by rw[r];exact n)] at e;cases e
  exact bt b o (nn ul _ h.r4 (by simp)) (nn bl _ h.r2 (by simp)) (nn ll _ h.r3 (by simp)) (h.sm _ _ e)
 ·by_cases c1:b=b1
  ·rw[c1];exact h0 _ n1
  by_cases c2:b=l1
  ·rw[c2];exact h0 _ n2
  refine h.nw b fun z=>hb ?_
  show(if b=b1 then _ else if b=l1 then _ else _)=_
  rw[aA4 c1,aA4 c2];exact z
 ·rw[hu]
  show _=some (HO.lst (((st.under++([⟨(st.begun:Int),(st.recs.length:Int),[],[]⟩]:List Dl)).map (·.num)).map V.int))
  rw[aB2,aB2];rfl
 ·rcases aA8.mp hd with hd | hd
  ·have D:=h.dl d hd
   have nn:=new d hd
   have e1:(lnew W (st.begun:Int) b1 l1 tm).ba d.num=W.ba d.num:=aA4 nn
   have e2:(lnew W (st.begun:Int) b1 l1 tm).la d.num=W.la d.num:=aA4 nn
   have e3:(lnew W (st.begun:Int) b1 l1 tm).bm d.num=W.bm d.num:=aA4 nn
   exact⟨by rw[e1,e3];exact off _ _ _ D.hb D.r5 (by simp) (by simp) (by simp),by rw[e2];exact off _ _ _ D.hl D.r6 (by simp) (by simp) (by simp),by rw[e1];exact kp _ _ D.r5 (by simp),by rw[e2];exact kp _ _ D.r6 (by simp)⟩
  ·rw[aA3.mp hd]
   have e1:(lnew W (st.begun:Int) b1 l1 tm).ba (st.begun:Int)=b1:=aB0 rfl
   have e2:(lnew W (st.begun:Int) b1 l1 tm).la (st.begun:Int)=l1:=aB0 rfl
   have e3:(lnew W (st.begun:Int) b1 l1 tm).bm (st.begun:Int)=tm:=aB0 rfl
   refine⟨by show H1 (LG.ba _ _)=some (.dK (z6 (LG.bm _ _)));rw[e1,e3];exact g1,by show H1 (LG.la _ _)=_;rw[e2];exact g2,by show LG.rl _ (LG.ba _ _)=_;rw[e1];exact aB0 rfl,?_⟩
   show LG.rl _ (LG.la _ _)=_
   rw[e2]
   show(if l1=b1 then _ else if l1=l1 then _ else _)=_
   rw[aA4 (Ne.symm n12),aB0 rfl]
 ·have hb':H b=none:=by
   cases z:H b with
   | none=>rfl
   | some o=>
    by_cases c1:b=ul
    ·rw[c1,hu]at e;cases e
    by_cases c2:b=bl
    ·rw[c2,hb]at e;cases e
    by_cases c3:b=ll
    ·rw[c3,hl]at e;cases e
    rw[bt b o c1 c2 c3 z]at e;cases e
  show(if b=b1 then _ else if b=l1 then _ else _)=_
  rw[aA4 (fun z=>by rw[z,g1]at e;cases e),aA4 (fun z=>by rw[z,g2]at e;cases e)]
  exact h.cl b hb'
 ·rcases aA8.mp hd with hd | hd
  ·have e3:(lnew W (st.begun:Int) b1 l1 tm).bm d.num=W.bm d.num:=aA4 (new d hd)
   rw[e3];exact h.bv d hd g
  ·rw[aA3.mp hd]
   have e3:(lnew W (st.begun:Int) b1 l1 tm).bm (st.begun:Int)=tm:=aB0 rfl
   show(t6 (LG.bm _ (st.begun:Int)) g).getD 0=_
   rw[e3];exact h.tv g
end
theorem a0R{k:Nat}{f:Int→V}{n:Int}(h0:0≤n)(h:n<(k:Int)):F8 ((nat k).map f) n=some (f n):=by
 have e:n=((n.toNat:Nat):Int):=(aT1 h0).symm
 conv=>lhs;rw[e]
 refine i9 ?_
 unfold nat
 rw[aE3,aB4,List.getElem?_range (by omega)]
 show some (f (Int.ofNat n.toNat))=_
 rw[show Int.ofNat n.toNat=n from aT1 h0]
def b4w(d:i8)(u:List Int)(b:Nat):List Int:=
 match d with
 | .begin=>u++[(b:Int)]
 | .fin n=>u.filter fun k=>decide (k≠n)
 | .leave n=>u.filter fun k=>decide (k≠n)
 | _=>u
def b7o(d:i8)(b:Nat):Nat:=
 match d with
 | .begin=>b+1
 | _=>b
theorem a2i{u:List Int}{n:Int}(h:n∉u):(u.filter fun k=>decide (k≠n))=u:=
 aS9.mpr fun k hk=>aC6 fun e=>h (by rw[←e];exact hk)
theorem b3q{st st':j5}{d:i8}{a:u9}(s:Step st d a st'):una st'=b4w d (una st) st.begun∧st'.begun=b7o d st.begun:=by
 cases s with
 | begin=>exact⟨by show(st.under++_).map _=_;rw[aB2];rfl,rfl⟩
 | sweep _=>exact⟨rfl,rfl⟩
 | @none _ n h1 h2=>
  cases d<;>cases h1<;>first | exact⟨rfl,rfl⟩ | exact⟨(a2i h2).symm,rfl⟩
 | own _ _=>exact⟨rfl,rfl⟩
 | look _ _=>exact⟨L5 fun _=>rfl,rfl⟩
 | put _=>exact⟨L5 fun _=>rfl,rfl⟩
 | leave _=>exact⟨W6 _ _,rfl⟩
 | ended _ _=>exact⟨W6 _ _,rfl⟩
 | ring _ _=>exact⟨W6 _ _,rfl⟩
section
variable{f:Nat→j5}{ds:List i8}{as:List u9}
theorem Trace.una(F:Trace f ds as){i:Nat}{d:i8}(hd:ds[i]?=some d):My.una (f (i+1))=b4w d (My.una (f i)) (f i).begun∧(f (i+1)).begun=b7o d (f i).begun:=by
 have li:=(aA2.mp hd).1
 exact b3q (F.step i _ _ hd (List.getElem?_eq_getElem (l:=as) (i:=i) (by have:=F.len;omega)))
end
theorem X4{f:Nat→j5}{ds:List i8}{as:List u9}(F:Trace f ds as):∀i,i≤ds.length→Vs (f i)
 | 0,_=>by rw[F.zero];exact vs0
 | i+1,h=>by
  have hd:=List.getElem?_eq_getElem (l:=ds) (i:=i) (by omega)
  have ha:=List.getElem?_eq_getElem (l:=as) (i:=i) (by have:=F.len;omega)
  exact(a9g (X4 F i (by omega)) (F.step i _ _ hd ha)).1
theorem LA.zero{H:Hp}{ta bl ll ul:Addr}(h1:H ta=none)(h2:(upd H ta (.dK [])) bl=none)(h3:(upd (upd H ta (.dK [])) bl (.lst [])) ll=none)(h4:(upd (upd (upd H ta (.dK [])) bl (.lst [])) ll (.lst [])) ul=none) :
  ∃W,LA ta bl ll ul W H (upd (upd (upd (upd H ta (.dK [])) bl (.lst [])) ll (.lst [])) ul (.lst [])) P0 []:=by
 have s1:=b9 (o:=.dK []) h1
 have s2:=b9 (o:=.lst []) h2
 have s3:=b9 (o:=.lst []) h3
 have s4:=b9 (o:=.lst []) h4
 have g1:=s4 _ _ (s3 _ _ (s2 _ _ (b0 (H:=H) (a:=ta) (o:=.dK []))))
 have g2:=s4 _ _ (s3 _ _ (b0 (H:=upd H ta (.dK [])) (a:=bl) (o:=.lst [])))
 have g3:=s4 _ _ (b0 (H:=upd (upd H ta (.dK [])) bl (.lst [])) (a:=ll) (o:=.lst []))
 have g4:=b0 (H:=upd (upd (upd H ta (.dK [])) bl (.lst [])) ll (.lst [])) (a:=ul) (o:=.lst [])
 have a12:ta≠bl:=d6 b0 h2
 have a13:ta≠ll:=d6 (s2 _ _ b0) h3
 have a14:ta≠ul:=d6 (s3 _ _ (s2 _ _ b0)) h4
 have a23:bl≠ll:=d6 b0 h3
 have a24:bl≠ul:=d6 (s3 _ _ b0) h4
 have a34:ll≠ul:=d6 b0 h4
 have b2:=j7 s1 h2
 have b3:=j7 (s1.trans s2) h3
 have b4:=j7 ((s1.trans s2).trans s3) h4
 have sall:=((s1.trans s2).trans s3).trans s4
 generalize upd (upd (upd (upd H ta (.dK [])) bl (.lst [])) ll (.lst [])) ul (.lst [])=HZ at g1 g2 g3 g4 sall ⊢
 refine⟨⟨fun b=>if b=ta then .tally else if b=bl then .recs else if b=ll then .vers else if b=ul then .under else .free,fun _=>0,fun _=>0,fun _=>[]⟩,sall,fun b hb=>?_,g1,g2,g3,g4,(fun d hd=>nomatch hd),aB0 rfl,?_,?_,?_,fun b e=>?_,fun g=>rfl,(fun d hd=>nomatch hd),(fun g=>Iff.rfl),aI4⟩
 ·by_cases c1:b=ta
  ·rw[c1];exact h1
  by_cases c2:b=bl
  ·rw[c2];exact b2
  by_cases c3:b=ll
  ·rw[c3];exact b3
  by_cases c4:b=ul
  ·rw[c4];exact b4
  refine absurd ?_ hb
  show(if b=ta then _ else if b=bl then _ else if b=ll then _ else if b=ul then _ else _)=_
  rw[aA4 c1,aA4 c2,aA4 c3,aA4 c4]
 ·show(if bl=ta then _ else if bl=bl then _ else _)=_
  rw[aA4 (Ne.symm a12),aB0 rfl]
 ·show(if ll=ta then _ else if ll=bl then _ else if ll=ll then _ else _)=_
  rw[aA4 (Ne.symm a13),aA4 (Ne.symm a23),aB0 rfl]
 ·show(if ul=ta then _ else if ul=bl then _ else if ul=ll then _ else if ul=ul then _ else _)=_
  rw[aA4 (Ne.symm a14),aA4 (Ne.symm a24),aA4 (Ne.symm a34),aB0 rfl]
 ·show(if b=ta then _ else if b=bl then _ else if b=ll then _ else if b=ul then _ else _)=_
  rw[aA4 (fun z=>by rw[z,g1]at e;cases e),aA4 (fun z=>by rw[z,g2]at e;cases e),aA4 (fun z=>by rw[z,g3]at e;cases e),aA4 (fun z=>by rw[z,g4]at e;cases e)]
inductive a1v(K:PySem.W.Frag)(vs:List V)(H:Hp)(Q:VK):Prop
 | mk (A Tl:Addr) (xs ys:List V) (ds:List i8) (as:List u9) (rl:Addr→Role) (f:Nat→j5) (x0:vs=[.ref A,.ref Tl]) (x1:H A=some (.lst xs)) (x2:C1 H ds xs) (x3:H Tl=some (.lst ys)) (x4:Paired (D6 rl H) as ys) (x5:Trace f ds as) (x6:ds.length≤63) (xq:∀(ta:Addr) (tm:Am) (H':Hp),g6 H H'→H' ta=some (.dK (z6 tm))→(tm.map (·.1)).Nodup→(∀g,g∈tm.map (·.1)↔g∈(f ds.length).vers.map (·.1))→(∀g,(t6 tm g).getD 0=valOf (f ds.length) g ((f ds.length).recs.length:Int))→tm.length≤63*63→Q (.ref ta) H')
def a3B(K:PySem.W.Frag):Sp:=fun vs H Q _=>a1v K vs H Q
theorem a4A(T:A7 K mg t):g9 P w K mg base y9 2 t.f__law_tallied t.d__law_tallied ["_law_asked","_law_told"] (a3B K):=by
 refine T.F__law_tallied.ok A0 (fun vs H Q E h=>?_) (fun cdv A outer s H vs Q E hr h=>?_)
 ·obtain⟨A,Tl,xs,ys,ds,as,rl,f,rfl,_⟩:=h
  rfl
 obtain⟨A,Tl,xs,ys,ds,as,rl,f,rfl,hA,hD,hT,pa,F,lds,q⟩:=h
 have hu:=M7 hr
 refine⟨_,(b8 (g7 (i:=2) A0.nd rfl (Or.inl rfl) A8)
 (b8 (g7 (i:=3) A0.nd rfl (Or.inl rfl) (m7 b6))
 (b8 (g7 (i:=4) A0.nd rfl (Or.inl rfl) (m7 b6))
 (b8 (g7 (i:=5) A0.nd rfl (Or.inl rfl) (m7 b6))
 (b8 (z9 aE4 rfl (N6 rfl T.m_range (a6 (e7 g8 rfl T.m_len aC2 (a6 (pv 0) b6)) b6)) (l4 (i:=6) A0.nd rfl (Or.inl rfl))
 (b8 (g7 (i:=7) A0.nd rfl (Or.inl rfl) (d9 l7 (pv 0) (pv 6) (fun _ _=>rfl)))
 (c9 (k7 (f7 z8 (d9 i3 (pv 7) d5 (fun _ _=>rfl)) m5 (i6 _))
 (b8 (m6 (u6 aB1 aB6 aB8 o6 (pv 5) (a6 (e7 g8 rfl T.m_len aC2 (a6 (pv 3) b6)) b6)))
 (b8 (m6 (u6 aB1 aB6 aB8 o6 (pv 3) (a6 (a9O aH5 PySem.F.slot_dict_copy PySem.F.type_dict_copy b8v (pv 2)) b6)))
 (c9 (m6 (u6 aB1 aB6 aB8 o6 (pv 4) (a6 A8 b6))))))
 (c9 (k7 (PW.pt (Q9 (f7 M6 (d9 i3 (pv 7) d5 (fun _ _=>rfl)) m5 (i6 _)) (O7 (f7 a2e (d9 i3 (pv 7) d5 (fun _ _=>rfl)) (pv 5) (by with_unfolding_all rfl)))))
 (b8 (g7 (i:=8) A0.nd rfl (Or.inl rfl) (d9 l7 (pv 4) (d9 i3 (pv 7) d5 (fun _ _=>rfl)) (fun _ _=>rfl)))
 (b8 (L1 (k7 (f7 a2e (d9 i3 (pv 7) d5 (fun _ _=>rfl)) (m7 (a6 m5 (a6 m5 b6))) (by with_unfolding_all rfl))
 (c9 (m6 (u6 aB1 aQ9 PySem.F.type_list_remove a4I (pv 5) (a6 (d9 i3 (pv 7) d5 (fun _ _=>rfl)) b6))))
 j0))
 (b8 (L1 (k7 (f7 z8 (d9 i3 (pv 7) d5 (fun _ _=>rfl)) m5 (i6 _))
 (c9 (C2 hu (pv 8) (d9 i3 (pv 7) d5 (fun _ _=>rfl)) (d9 i3 (pv 7) d5 (fun _ _=>rfl)) rfl))
 j0))
 (b8 (L1 (k7 (f7 z8 (d9 i3 (pv 7) d5 (fun _ _=>rfl)) m5 (i6 _))
 (b8 (g7 (i:=9) A0.nd rfl (Or.inl rfl) (a9k hu (pv 8) (d9 i3 (pv 7) d5 (fun _ _=>rfl)) (a9k hu (d9 l7 (pv 3) (d9 i3 (pv 7) d5 (fun _ _=>rfl)) (fun _ _=>rfl)) (d9 i3 (pv 7) d5 (fun _ _=>rfl)) d5 ⟨rfl,rfl,rfl,rfl⟩) ⟨rfl,rfl,rfl,rfl⟩))
 (c9 (k7 (PW.pt (L7 (K8 (A3 (j8 (g9.mono (k:=1) (O1 T) (by decide)) hr rfl T.m__law_whole T.F__law_whole.kp T.F__law_whole.b .nil k8 (a6 (d9 l7 (pv 1) (pv 6) (fun _ _=>rfl)) b6)))) (J3 (f7 M6 (d9 l7 (pv 1) (pv 6) (fun _ _=>rfl)) (pv 9) (i6 _)))))
 (c9 (i4 P4))
 j0)))
 j0))
 (c9 (k7 (A3 (j8 (g9.mono (k:=1) (S4 T) (by decide)) hr rfl T.m__law_ended T.F__law_ended.kp T.F__law_ended.b .nil k8 (a6 (d9 l7 (pv 1) (pv 6) (fun _ _=>rfl)) b6)))
 (c9 (m6 (u6 aH5 PySem.F.slot_dict_update PySem.F.type_dict_update b7c (pv 2) (a6 (pv 8) b6))))
 j0))))))
 j0))))))
 (c9 (i4 (pv 2)))))))),?_⟩
 have lx:=hD.len
 have la:=F.len
 have ly:=n6 pa
 refine fun ta hta=>⟨(n9 0),fun bl hbl=>⟨(n9 0),fun ll hll=>⟨(n9 0),fun ul hul=>?_⟩⟩⟩
 obtain⟨W0,w0⟩:=LA.zero hta hbl hll hul
 generalize upd (upd (upd (upd H ta (.dK [])) bl (.lst [])) ll (.lst [])) ul (.lst [])=HZ at w0 ⊢
 refine⟨_,rfl,A,xs,rfl,.inl (d7.of (w0.sm _ _ hA)),_,rfl,by omega,by omega,?_⟩
 have en:(((xs.length:Nat):Int)).toNat=ds.length:=by omega
 rw[en]
 refine N7 (fun i σ' Hc=>∃(o7 o8 o9 oA:Option V) (W:LG) (tm:Am),σ'=[some (.ref A),some (.ref Tl),some (.ref ta),some (.ref bl),some (.ref ll),some (.ref ul),o7,o8,o9,oA]∧LA ta bl ll ul W H Hc (f i) tm∧tm.length≤63*i) ⟨none,none,none,none,W0,[],rfl,by rw[F.zero];exact w0,aG4 _⟩ (fun i σ' Hc hi z=>?_) (fun σ' Hc z=>?_)
 ·obtain⟨o7,o8,o9,oA,W,tm,rfl,h,ltm⟩:=z
  have hxi:=List.getElem?_eq_getElem (show i<xs.length by omega)
  have hyi:=List.getElem?_eq_getElem (show i<ys.length by omega)
  obtain⟨d,hd,b,eb,hb⟩:=u7 hD hxi
  obtain⟨an,han,hy⟩:=u7 pa hyi
  have St:=F.step i d an hd han
  have ok:=F.oks i (by omega)
  have bd:=F.bds i (by omega)
  have vs:=X4 F i (by omega)
  have sv:=(a9g vs St).2
  have e0:(0:Int)+(i:Int)=((i:Nat):Int):=by omega
  have ax:F8 xs ((0:Int)+(i:Int))=some (.ref b):=by rw[e0,←eb];exact i9 hxi
  generalize ys[i]=y at hyi hy
  have ay:F8 ys ((0:Int)+(i:Int))=some y:=by rw[e0];exact i9 hyi
  have nd:(una (f i)).Nodup:=(aC3.mp ok.un).2.1
  have bb:=a5u F i (by omega)
  have bun:(una (f i)).length≤i:=by have:=bd.un;unfold una;rw[aA0];exact this
  refine⟨_,rfl,_,rfl,A,_,_,_,rfl,rfl,d7.of (h.sm _ _ hA),ax,?_⟩
  have TB:∀Hx,g6 H Hx→i5 K Hx b (dv d):=fun Hx sx=>i5.of (sx _ _ hb)
  have TT:∀Hx,g6 H Hx→d7 K Hx Tl ys:=fun Hx sx=>d7.of (sx _ _ hT)
  have word:=fun(e:Addr) (Hx:Hp)=>d7.of (K:=K) (b0 (H:=Hx) (a:=e) (o:=.lst [V.str "end",V.str "leave"]))
  have num:∀e∈(f i).under,0≤e.num∧e.num<((f i).begun:Int):=fun e he=>ok.lt _ (aD7 _ (aA5.mpr ⟨e,he,rfl⟩))
  have leav:∀n∈una (f i),∃j,(una (f i))[j]?=some n∧(∀k,k<j→(una (f i))[k]?≠some n)∧(una (f i)).eraseIdx j=una (v9 (f i) n):=fun n hn=>by
   obtain⟨j,h1,h2⟩:=a6i hn
   refine⟨j,h1,h2,?_⟩
   rw[erase_filter nd h1]
   exact(W6 (f i).under n).symm
  rcases b4e d with rfl | rfl | ⟨w,n,ws,ed,hn,nb,nw⟩
  ·generalize f (i+1)=st1 at St ⊢
   cases St with
   | none z _=>cases z
   | begin=>
    have hbc:=TB _ h.sm
    refine⟨_,rfl,b,_,0,_,rfl,rfl,hbc,rfl,rfl,_,rfl,l6 ?_⟩
    have nbu:bl≠ul:=P8 (G:=gOf W.rl) h.r2 h.r4 (by simp)
    have nlu:ll≠ul:=P8 (G:=gOf W.rl) h.r3 h.r4 (by simp)
    have nlb:ll≠bl:=P8 (G:=gOf W.rl) h.r3 h.r2 (by simp)
    have ntu:ta≠ul:=P8 (G:=gOf W.rl) h.r1 h.r4 (by simp)
    have ntb:ta≠bl:=P8 (G:=gOf W.rl) h.r1 h.r2 (by simp)
    have lb:((nat (f i).begun).map fun n=>V.ref (W.ba n)).length=(f i).begun:=by rw[aA0,a8b]
    have ll':((nat (f i).begun).map fun n=>V.ref (W.la n)).length=(f i).begun:=by rw[aA0,a8b]
    refine⟨_,rfl,.inl ⟨rfl,_,d7.of h.hu⟩,_,rfl,bl,_,rfl,.inl (d7.of h.hb),ul,_,_,rfl,rfl,h.hu,n4 (by rw[aA0];omega),?_⟩
    rw[lb]
    have u1:(upd Hc ul (.lst ((una (f i)).map V.int++[.int ((f i).begun:Int)]))) ul=_:=b0
    have t1:(upd Hc ul (.lst ((una (f i)).map V.int++[.int ((f i).begun:Int)]))) ta=_:=(b7 ntu).trans h.ht
    have b1:(upd Hc ul (.lst ((una (f i)).map V.int++[.int ((f i).begun:Int)]))) bl=_:=(b7 nbu).trans h.hb
    have l1:(upd Hc ul (.lst ((una (f i)).map V.int++[.int ((f i).begun:Int)]))) ll=_:=(b7 nlu).trans h.hl
    have k1:∀c o,c≠ul→Hc c=some o→(upd Hc ul (.lst ((una (f i)).map V.int++[.int ((f i).begun:Int)]))) c=some o:=fun c o n e=>(b7 n).trans e
    have z1:∀c,(upd Hc ul (.lst ((una (f i)).map V.int++[.int ((f i).begun:Int)]))) c=none→Hc c=none:=fun c e=>p8 e
    generalize upd Hc ul (.lst ((una (f i)).map V.int++[.int ((f i).begun:Int)]))=Ha at u1 t1 b1 l1 k1 z1 ⊢
    refine⟨_,rfl,.inl ⟨rfl,_,d7.of b1⟩,_,rfl,.inr (.inr (.inl ⟨rfl,.inl ⟨_,t1⟩⟩)),ta,_,rfl,rfl,t1,fun nb hnb=>?_⟩
    have s5:=b9 (o:=.dK (z6 tm)) hnb
    refine⟨bl,_,_,rfl,rfl,s5 _ _ b1,n4 (by rw[lb];omega),?_⟩
    have n1:=z1 _ hnb
    have nbb:nb≠bl:=(d6 b1 hnb).symm
    have g1:(upd (upd Ha nb (.dK (z6 tm))) bl (.lst (((nat (f i).begun).map fun n=>V.ref (W.ba n))++[.ref nb]))) nb=_:=(b7 nbb).trans b0
    have u2:(upd (upd Ha nb (.dK (z6 tm))) bl (.lst (((nat (f i).begun).map fun n=>V.ref (W.ba n))++[.ref nb]))) ul=_:=(b7 (Ne.symm nbu)).trans (s5 _ _ u1)
    have b2:(upd (upd Ha nb (.dK (z6 tm))) bl (.lst (((nat (f i).begun).map fun n=>V.ref (W.ba n))++[.ref nb]))) bl=_:=b0
    have l2:(upd (upd Ha nb (.dK (z6 tm))) bl (.lst (((nat (f i).begun).map fun n=>V.ref (W.ba n))++[.ref nb]))) ll=_:=(b7 nlb).trans (s5 _ _ l1)
    have k2:∀c o,c≠ul→c≠bl→Hc c=some o→(upd (upd Ha nb (.dK (z6 tm))) bl (.lst (((nat (f i).begun).map fun n=>V.ref (W.ba n))++[.ref nb]))) c=some o:=fun c o n m e=>(b7 m).trans (s5 _ _ (k1 c o n e))
    have z2:∀c,(upd (upd Ha nb (.dK (z6 tm))) bl (.lst (((nat (f i).begun).map fun n=>V.ref (W.ba n))++[.ref nb]))) c=none→Hc c=none:=fun c e=>z1 c (p8 (p8 e))
    generalize upd (upd Ha nb (.dK (z6 tm))) bl (.lst (((nat (f i).begun).map fun n=>V.ref (W.ba n))++[.ref nb]))=Hb at g1 u2 b2 l2 k2 z2 ⊢
    refine⟨_,rfl,.inl ⟨rfl,_,d7.of l2⟩,fun nl hnl=>?_⟩
    have s6':=b9 (o:=.dK []) hnl
    have n2:=z2 _ hnl
    have n12:nb≠nl:=d6 g1 hnl
    have nll:nl≠ll:=(d6 l2 hnl).symm
    have nbl:nb≠ll:=fun z=>by rw[z,h.hl]at n1;cases n1
    refine⟨ll,_,_,rfl,rfl,s6' _ _ l2,n4 (by rw[ll'];omega),?_⟩
    exact⟨_,_,_,_,_,tm,rfl,h.begin ok n1 n2 n12 ((b7 nbl).trans (s6' _ _ g1)) ((b7 nll).trans b0) (fun c o c1 c2 c3 e=>(b7 c3).trans (s6' _ _ (k2 c o c1 c2 e))) ((b7 (Ne.symm nlu)).trans (s6' _ _ u2)) ((b7 (Ne.symm nlb)).trans (s6' _ _ b2)) b0,by omega⟩
  ·generalize f (i+1)=st1 at St sv ⊢
   cases St with
   | none z _=>cases z
   | @sweep m mb=>
    have hbc:=TB _ h.sm
    refine⟨_,rfl,b,_,0,_,rfl,rfl,hbc,rfl,rfl,_,rfl,f6 ?_⟩
    refine⟨_,rfl,b,_,0,_,rfl,rfl,hbc,rfl,rfl,_,rfl,f6 ?_⟩
    rcases sv with ⟨_,sv⟩ | ⟨e,_,z,_⟩
    ·exact f6 ⟨_,_,_,_,W,tm,rfl,h.cong rfl rfl rfl (fun d hd=>⟨d,hd,rfl,rfl,rfl⟩) sv (by show(O0 (f i).vers m).map (·.1)=_;unfold O0;rw[aE3];rfl),by omega⟩
    ·cases z
  have hbc:=TB _ h.sm
  rw[ed]at hbc
  refine⟨_,rfl,b,_,0,.str w,rfl,rfl,hbc,i9 (j:=0) rfl,rfl,_,rfl,?_⟩
  rw[aB7 fun z=>nb (V.str.inj z)]
  refine f6 ⟨_,rfl,b,_,0,.str w,rfl,rfl,hbc,i9 (j:=0) rfl,rfl,_,rfl,?_⟩
  rw[aB7 fun z=>nw (V.str.inj z)]
  refine l6 ⟨_,rfl,b,_,1,.int n,rfl,rfl,hbc,i9 (j:=1) rfl,_,rfl,ul,_,rfl,.inl (d7.of h.hu),rfl,b4h _,_,rfl,?_⟩
  rw[b8u]
  by_cases hin:n∈una (f i)
  case neg=>
   rw[aB7 hin,b3h St hn hin]
   exact f6 ⟨_,_,_,_,W,tm,rfl,h,by omega⟩
  rw[aC6 hin]
  obtain⟨m0,m1⟩:0≤n∧n<((f i).begun:Int):=ok.lt _ (aD7 _ hin)
  refine l6 ⟨_,rfl,_,rfl,b,_,1,.int n,rfl,rfl,hbc,i9 (j:=1) rfl,ll,_,_,_,rfl,rfl,d7.of h.hl,a0R m0 m1,?_⟩
  clear hbc
  have word:=fun(e:Addr) (Hx:Hp)=>d7.of (K:=K) (b0 (H:=Hx) (a:=e) (o:=.lst [V.str "end",V.str "leave"]))
  generalize f (i+1)=st1 at St sv ⊢
  cases St with
  | begin=>cases hn
  | sweep _=>cases hn
  | none z1 z2=>rw[hn]at z1;cases z1;exact absurd hin z2
  | @own d g x hdu hg=>
   cases ed
   obtain rfl:=hy
   refine U9 (fun H'=>LA ta bl ll ul W H H' (f i) tm) ⟨_,rfl,b,_,0,_,rfl,rfl,TB _ h.sm,rfl,(n9 2),fun e he=>⟨e,_,rfl,.inl (word e _),rfl,rfl,_,rfl,f6 ⟨rfl,h.new (b9 he)⟩⟩⟩ fun H1 h=>?_
   have D:=h.dl d hdu
   refine J0 ⟨_,rfl,b,_,0,_,rfl,rfl,TB _ h.sm,rfl,rfl,_,rfl,f6 ⟨rfl,rfl⟩⟩ ?_
   refine U9 (σ:=[some (.ref A),some (.ref Tl),some (.ref ta),some (.ref bl),some (.ref ll),some (.ref ul),some (.int (0+(i:Int))),some (.ref b),some (.ref (W.la d.num)),some (.int x)]) (fun H'=>H'=H1) ⟨_,rfl,b,_,0,_,rfl,rfl,TB _ h.sm,rfl,rfl,_,rfl,l6 ⟨_,rfl,W.la d.num,rfl,.inl ⟨_,.inl D.hl⟩,_,rfl,b,_,2,_,rfl,rfl,TB _ h.sm,rfl,_,rfl,_,rfl,b,_,1,_,rfl,rfl,TB _ h.sm,rfl,bl,_,_,_,rfl,rfl,d7.of h.hb,a0R m0 m1,W.ba d.num,rfl,.inl ⟨_,.inl D.hb⟩,_,rfl,b,_,2,_,rfl,rfl,TB _ h.sm,rfl,_,t7.k (k:=Sum.inr g) D.hb,_,t7.k (k:=Sum.inr g) D.hl,?_⟩⟩ fun H2 e2=>?_
   ·rw[V9 d.aside,hg]
    exact⟨_,rfl,_,rfl,Tl,_,_,_,rfl,rfl,TT _ h.sm,ay,_,"int",rfl,rfl,_,rfl,f6 ⟨_,rfl,_,rfl,Tl,_,_,_,rfl,rfl,TT _ h.sm,ay,_,rfl,rfl,_,rfl,U4 rfl ⟨rfl,rfl⟩⟩⟩
   subst e2
   exact⟨_,rfl,_,rfl,Tl,_,_,_,rfl,rfl,TT _ h.sm,ay,rl,.num x,_,rfl,rfl,_,rfl,f6 ⟨_,_,_,_,W,tm,rfl,h,by omega⟩⟩
  | @look d g hdu hg=>
   cases ed
   obtain rfl:=hy
   refine U9 (fun H'=>LA ta bl ll ul W H H' (f i) tm) ⟨_,rfl,b,_,0,_,rfl,rfl,TB _ h.sm,rfl,(n9 2),fun e he=>⟨e,_,rfl,.inl (word e _),rfl,rfl,_,rfl,f6 ⟨rfl,h.new (b9 he)⟩⟩⟩ fun H1 h=>?_
   have D:=h.dl d hdu
   refine J0 ⟨_,rfl,b,_,0,_,rfl,rfl,TB _ h.sm,rfl,rfl,_,rfl,f6 ⟨rfl,rfl⟩⟩ ?_
   refine U9 (σ:=[some (.ref A),some (.ref Tl),some (.ref ta),some (.ref bl),some (.ref ll),some (.ref ul),some (.int (0+(i:Int))),some (.ref b),some (.ref (W.la d.num)),some (.int (valueAt (t8 (f i).vers g) d.beg))]) (fun H'=>H'=H1) ⟨_,rfl,b,_,0,_,rfl,rfl,TB _ h.sm,rfl,rfl,_,rfl,l6 ⟨_,rfl,W.la d.num,rfl,.inl ⟨_,.inl D.hl⟩,_,rfl,b,_,2,_,rfl,rfl,TB _ h.sm,rfl,_,rfl,_,rfl,b,_,1,_,rfl,rfl,TB _ h.sm,rfl,bl,_,_,_,rfl,rfl,d7.of h.hb,a0R m0 m1,W.ba d.num,rfl,.inl ⟨_,.inl D.hb⟩,_,rfl,b,_,2,_,rfl,rfl,TB _ h.sm,rfl,_,t7.k (k:=Sum.inr g) D.hb,_,t7.k (k:=Sum.inr g) D.hl,?_⟩⟩ fun H2 e2=>?_
   ·have ev:((t6 (W.bm d.num) g).map V.int).getD (V.int 0)=.int (valueAt (t8 (f i).vers g) d.beg):=by
     have:=h.bv d hdu g
     cases z:t6 (W.bm d.num) g with
     | none=>rw[z]at this;exact congrArg V.int this
     | some x=>rw[z]at this;exact congrArg V.int this
    rw[V9 d.aside,hg,V9,ev]
    exact⟨_,rfl,_,rfl,Tl,_,_,_,rfl,rfl,TT _ h.sm,ay,_,"int",rfl,rfl,_,rfl,f6 ⟨_,rfl,_,rfl,Tl,_,_,_,rfl,rfl,TT _ h.sm,ay,_,rfl,rfl,_,rfl,U4 rfl ⟨rfl,rfl⟩⟩⟩
   subst e2
   refine⟨_,rfl,_,rfl,Tl,_,_,_,rfl,rfl,TT _ h.sm,ay,rl,.num _,_,rfl,rfl,_,rfl,f6 ⟨_,_,_,_,W,tm,rfl,h.cong rfl (L5 fun _=>rfl) rfl (fun e he=>?_) (fun _ _ _=>rfl) rfl,by omega⟩⟩
   obtain⟨x,hx,z | z⟩:=C6 he
   ·rw[z];exact⟨x,hx,rfl,rfl,rfl⟩
   ·rw[z];exact⟨x,hx,rfl,rfl,rfl⟩
  | @put d g x hdu=>
   cases ed
   obtain rfl:=hy
   have bas:=(bd.dl d hdu).2
   refine U9 (fun H'=>LA ta bl ll ul W H H' (f i) tm) ⟨_,rfl,b,_,0,_,rfl,rfl,TB _ h.sm,rfl,(n9 2),fun e he=>⟨e,_,rfl,.inl (word e _),rfl,rfl,_,rfl,f6 ⟨rfl,h.new (b9 he)⟩⟩⟩ fun H1 h=>?_
   refine U9 (fun H'=>LA ta bl ll ul W H H' (putSt (f i) d.num g x) tm) ⟨_,rfl,b,_,0,_,rfl,rfl,TB _ h.sm,rfl,rfl,_,rfl,l6 ⟨_,rfl,b,_,3,_,rfl,rfl,TB _ h.sm,rfl,_,rfl,_,rfl,b,_,2,_,rfl,rfl,TB _ h.sm,rfl,W.la d.num,_,rfl,J5.k (k:=Sum.inr g) (h.dl d hdu).hl (n4 (by rw[a7g];omega)),rfl,by rw[a0r];exact h.put hdu nd⟩⟩ fun H1 h=>?_
   refine J0 ⟨_,rfl,b,_,0,_,rfl,rfl,TB _ h.sm,rfl,rfl,_,rfl,f6 ⟨rfl,rfl⟩⟩ ?_
   exact⟨_,rfl,_,rfl,Tl,_,_,_,rfl,rfl,TT _ h.sm,ay,rl,.word "put",_,rfl,rfl,_,rfl,f6 ⟨_,_,_,_,W,tm,rfl,h,by omega⟩⟩
  | @leave d hdu=>
   cases ed
   obtain rfl:=hy
   obtain⟨j,j1,j2,j3⟩:=leav d.num hin
   refine U9 (fun H'=>LA ta bl ll ul W H H' (v9 (f i) d.num) tm) ⟨_,rfl,b,_,0,_,rfl,rfl,TB _ h.sm,rfl,(n9 2),fun e he=>⟨e,_,rfl,.inl (word e _),rfl,rfl,_,rfl,l6 ⟨_,rfl,.inl ⟨rfl,_,d7.of (h.new (b9 he)).hu⟩,_,rfl,b,_,1,_,rfl,rfl,TB _ (h.new (b9 he)).sm,rfl,ul,_,_,j,rfl,rfl,(h.new (b9 he)).hu,j1,j2,rfl,by rw[j3];exact(h.new (b9 he)).drop d.num⟩⟩⟩ fun H1 h=>?_
   refine J0 ⟨_,rfl,b,_,0,_,rfl,rfl,TB _ h.sm,rfl,rfl,_,rfl,f6 ⟨rfl,rfl⟩⟩ (J0 ⟨_,rfl,b,_,0,_,rfl,rfl,TB _ h.sm,rfl,rfl,_,rfl,f6 ⟨rfl,rfl⟩⟩ ?_)
   exact⟨_,rfl,_,rfl,Tl,_,_,_,rfl,rfl,TT _ h.sm,ay,rl,.word "left",_,rfl,rfl,_,rfl,f6 ⟨_,_,_,_,W,tm,rfl,h,by omega⟩⟩
  | @ring d r cs rg hdu E0=>
   cases ed
   obtain⟨j,j1,j2,j3⟩:=leav d.num hin
   refine U9 (fun H'=>LA ta bl ll ul W H H' (v9 (f i) d.num) tm) ⟨_,rfl,b,_,0,_,rfl,rfl,TB _ h.sm,rfl,(n9 2),fun e he=>⟨e,_,rfl,.inl (word e _),rfl,rfl,_,rfl,l6 ⟨_,rfl,.inl ⟨rfl,_,d7.of (h.new (b9 he)).hu⟩,_,rfl,b,_,1,_,rfl,rfl,TB _ (h.new (b9 he)).sm,rfl,ul,_,_,j,rfl,rfl,(h.new (b9 he)).hu,j1,j2,rfl,by rw[j3];exact(h.new (b9 he)).drop d.num⟩⟩⟩ fun H1 h=>?_
   refine J0 ⟨_,rfl,b,_,0,_,rfl,rfl,TB _ h.sm,rfl,rfl,_,rfl,f6 ⟨rfl,rfl⟩⟩ (J0 ⟨_,rfl,b,_,0,_,rfl,rfl,TB _ h.sm,rfl,rfl,_,rfl,f6 ⟨rfl,rfl⟩⟩ ?_)
   exact⟨_,rfl,_,rfl,Tl,_,_,_,rfl,rfl,TT _ h.sm,ay,rl,.ring rg,_,rfl,hy.same h.sm,_,rfl,f6 ⟨_,_,_,_,W,tm,rfl,h,by omega⟩⟩
  | @ended d r cs row hdu E0=>
   cases ed
   obtain rfl:=hy
   have bas:=(bd.dl d hdu).2
   have D:=h.dl d hdu
   obtain⟨j,j1,j2,j3⟩:=leav d.num hin
   refine U9 (fun H'=>LA ta bl ll ul W H H' (v9 (f i) d.num) tm∧H' (W.la d.num)=some (.dK (z6 d.aside))) ⟨_,rfl,b,_,0,_,rfl,rfl,TB _ h.sm,rfl,(n9 2),fun e he=>⟨e,_,rfl,.inl (word e _),rfl,rfl,_,rfl,l6 ⟨_,rfl,.inl ⟨rfl,_,d7.of (h.new (b9 he)).hu⟩,_,rfl,b,_,1,_,rfl,rfl,TB _ (h.new (b9 he)).sm,rfl,ul,_,_,j,rfl,rfl,(h.new (b9 he)).hu,j1,j2,rfl,by rw[j3];exact⟨(h.new (b9 he)).drop d.num,ur (b9 he _ _ D.hl) D.r6 h.r4 (by simp)⟩⟩⟩⟩ fun H1 ⟨h,hla⟩=>?_
   refine J0 ⟨_,rfl,b,_,0,_,rfl,rfl,TB _ h.sm,rfl,rfl,_,rfl,f6 ⟨rfl,rfl⟩⟩ (J0 ⟨_,rfl,b,_,0,_,rfl,rfl,TB _ h.sm,rfl,rfl,_,rfl,f6 ⟨rfl,rfl⟩⟩ ?_)
   refine⟨_,rfl,_,rfl,Tl,_,_,_,rfl,rfl,TT _ h.sm,ay,rl,.word "ended",_,rfl,rfl,_,rfl,l6 ?_⟩
   have ne:ta≠W.la d.num:=P8 (G:=gOf W.rl) h.r1 D.r6 (by simp)
   refine⟨_,rfl,.inr (.inr (.inl ⟨rfl,.inl ⟨_,h.ht⟩⟩)),_,rfl,ta,W.la d.num,_,_,rfl,rfl,ne,h.ht,hla,aM8 (n4 (by rw[a7g,a7g];omega)),?_⟩
   rw[a3W]
   rcases sv with ⟨z,_⟩ | ⟨e,he,z,_,_,zu,v1,v2⟩
   ·have:=congrArg List.length z
    have e9:(a8h (f i) d r cs row).recs.length=(f i).recs.length+1:=by unfold a8h;simp
    omega
   injection z with z
   have:=G7 nd hdu he z
   subst this
   exact⟨_,_,_,_,W,_,rfl,h.take (vs.nd d hdu) vs.bg rfl zu v1 v2 (fun g=>a9o),aD8 (a5P _ _) (by omega)⟩
 ·obtain⟨_,_,_,_,W,tm,rfl,h,ltm⟩:=z
  exact⟨_,rfl,q ta tm Hc h.sm h.ht h.tn h.tk h.tv (by omega)⟩
def Y8:i8→Bool
 | .sweep=>false
 | _=>true
theorem b3u{d:i8}(h:Y8 d=true):d≠.sweep:=by rintro rfl;cases h
def C4(ds:List i8)(i:Nat):List Nat:=(List.range i).filter fun k=>match ds[k]? with | some d=>Y8 d | none=>false
theorem a3n{ds:List i8}{i:Nat}{d:i8}(h:ds[i]?=some d):C4 ds (i+1)=if Y8 d=true then C4 ds i++[i] else C4 ds i:=by
 unfold C4
 rw[List.range_succ,aL3]
 cases hk:Y8 d<;>simp[h,hk]
theorem a0X{ds:List i8}{i k:Nat}(h:k∈C4 ds i):k<i:=aP6.mp (aD5.mp h).1
theorem a2T(ds:List i8)(i:Nat):(C4 ds i).length≤i:=by
 unfold C4;have:=aG6 (fun k=>match ds[k]? with | some d=>Y8 d | none=>false) (List.range i);rw[List.length_range]at this;exact this
theorem b8l{ds:List i8}{i j:Nat}(h:i≤j):∃z,C4 ds j=C4 ds i++z:=by
 refine⟨((List.range j).drop i).filter fun k=>match ds[k]? with | some d=>Y8 d | none=>false,?_⟩
 unfold C4
 rw[←aL3]
 have:List.range i=(List.range j).take i:=by rw[List.take_range,aR3 h]
 rw[this,aN6]
theorem a6W{ds:List i8}{k n:Nat}{d:i8}(hd:ds[k]?=some d)(c:Y8 d=true)(lt:k<n):(C4 ds n)[(C4 ds k).length]?=some k:=by
 obtain⟨z,hz⟩:=b8l (ds:=ds) (show k+1≤n from lt)
 rw[a3n hd,aB0 c]at hz
 rw[hz,aG1,aE9 (aB3 _)];simp
theorem b2u{ds:List i8}{i k n:Nat}{d:i8}(h:(C4 ds n)[i]?=some k)(hd:ds[k]?=some d):Y8 d=true∧(C4 ds k).length=i:=by
 have hm:=aC5 h
 have c:Y8 d=true:=by have:=(aD5.mp hm).2;rw[hd]at this;exact this
 have nd:(C4 ds n).Nodup:=List.nodup_range.filter _
 exact⟨c,((aJ8 (aA2.mp h).1 nd).mp (h.trans (a6W hd c (a0X hm)).symm)).symm⟩
def b8p(ks:List Str)(am:Am):List Str:=am.foldl (fun ks p=>C3 ks p.1) ks
theorem a8y{m:Int}:∀(am:Am) (v:F6),(B6 v am m).map (·.1)=b8p (v.map (·.1)) am
 | [],_=>rfl
 | p::am,v=>by
  show(B6 (D7 v p.1 (m,p.2)) am m).map (·.1)=b8p (C3 (v.map (·.1)) p.1) am
  rw[a8y,T5];rfl
structure Sim(s t:j5):Prop where
 bg:s.begun=t.begun
 un:s.under=t.under
 rc:s.recs=t.recs
 ky:s.vers.map (·.1)=t.vers.map (·.1)
 vl:∀g x,(x=(s.recs.length:Int)∨∃d∈s.under,x=d.beg)→valOf s g x=valOf t g x
theorem Y3{s s':j5}{d:i8}{a:u9}(p:Step s d a s'):(isE a=false∧s'.vers.map (·.1)=s.vers.map (·.1)∧∀e'∈s'.under,e'.beg=(s.recs.length:Int)∨∃e∈s.under,e'.beg=e.beg) ∨
  ∃e∈s.under,d=.fin e.num∧isE a=true∧s'.vers.map (·.1)=b8p (s.vers.map (·.1)) e.aside∧s'.under=N2 s.under e.num:=by
 have old:∀e'∈s.under,e'.beg=(s.recs.length:Int)∨∃e∈s.under,e'.beg=e.beg:=fun e' he=>.inr ⟨e',he,rfl⟩
 have out:∀n,∀e'∈N2 s.under n,e'.beg=(s.recs.length:Int)∨∃e∈s.under,e'.beg=e.beg:=fun n e' he=>old e' (aD5.mp he).1
 have mod:∀(n:Int) (f:Dl→Dl),(∀d,(f d).beg=d.beg)→∀e'∈C8 s.under n f,e'.beg=(s.recs.length:Int)∨∃e∈s.under,e'.beg=e.beg:=fun n f hf e' he=>by
  obtain⟨x,hx,z | z⟩:=C6 he
  ·rw[z];exact old x hx
  ·rw[z,hf];exact old x hx
 cases p with
 | begin=>
  refine .inl ⟨rfl,rfl,fun e' he=>?_⟩
  rcases aA8.mp he with he | he
  ·exact old e' he
  ·rw[aA3.mp he];exact .inl rfl
 | @sweep m _=>exact .inl ⟨rfl,by show(O0 s.vers m).map (·.1)=_;unfold O0;rw[aE3];rfl,old⟩
 | none _ _=>exact .inl ⟨rfl,rfl,old⟩
 | own _ _=>exact .inl ⟨rfl,rfl,old⟩
 | look _ _=>exact .inl ⟨rfl,rfl,mod _ _ fun _=>rfl⟩
 | put _=>exact .inl ⟨show decide (("put":Str)="ended")=false by decide,rfl,mod _ _ fun _=>rfl⟩
 | leave _=>exact .inl ⟨show decide (("left":Str)="ended")=false by decide,rfl,out _⟩
 | ring _ _=>exact .inl ⟨rfl,rfl,out _⟩
 | ended hd _=>exact .inr ⟨_,hd,rfl,rfl,a8y _ _,rfl⟩
theorem swap{v:F6}{t t':j5}{d:i8}{b:u9}(q:Step t d b t')(nw:d≠.sweep):∃b' t1,Step { t with vers:=v } d b' t1∧t1.begun=t'.begun∧t1.under=t'.under∧t1.recs=t'.recs ∧
  (b'=b∨∃e∈t.under,∃g,d=.look e.num g∧b'=.num (valueAt (t8 v g) e.beg)∧b=.num (valueAt (t8 t.vers g) e.beg)):=by
 cases q with
 | begin=>exact⟨_,_,.begin,rfl,rfl,rfl,.inl rfl⟩
 | sweep _=>exact absurd rfl nw
 | none h1 h2=>exact⟨_,_,.none h1 h2,rfl,rfl,rfl,.inl rfl⟩
 | own h1 h2=>exact⟨_,_,.own (st:={ t with vers:=v }) h1 h2,rfl,rfl,rfl,.inl rfl⟩
 | look h1 h2=>exact⟨_,_,.look (st:={ t with vers:=v }) h1 h2,rfl,rfl,rfl,.inr ⟨_,h1,_,rfl,rfl,rfl⟩⟩
 | put h1=>exact⟨_,_,.put (st:={ t with vers:=v }) h1,rfl,rfl,rfl,.inl rfl⟩
 | leave h1=>exact⟨_,_,.leave (st:={ t with vers:=v }) h1,rfl,rfl,rfl,.inl rfl⟩
 | ended h1 E=>exact⟨_,_,.ended (st:={ t with vers:=v }) h1 ⟨E.rc,E.lw,E.row⟩,rfl,rfl,rfl,.inl rfl⟩
 | ring h1 E=>exact⟨_,_,.ring (st:={ t with vers:=v }) h1 ⟨E.rc,E.lw,E.ring,E.sub,E.hd⟩,rfl,rfl,rfl,.inl rfl⟩
theorem a1t{s s':j5}{d:i8}{a:u9}(p:Step s d a s')(h:isE a=true):s'.recs.length=s.recs.length+1:=by
 cases p with
 | ended _ _=>show(s.recs++[_]).length=_;rw[aA7];rfl
 | put _=>exact absurd (show decide (("put":Str)="ended")=true from h) (by decide)
 | leave _=>exact absurd (show decide (("left":Str)="ended")=true from h) (by decide)
 | _=>cases h
theorem b9q{s t s' t':j5}{d:i8}{a b:u9}(h:Sim s t)(os:G0 s)(ot:G0 t)(vs:Vs s)(vt:Vs t)(p:Step s d a s')(q:Step t d b t')(nw:d≠.sweep):Sim s' t'∧a1z a b:=by
 obtain⟨b',t1,q1,e1,e2,e3,eb⟩:=swap (v:=s.vers) q nw
 have lk:a7L s { t with vers:=s.vers }:=⟨h.bg,h.un,rfl,h.rc⟩
 obtain⟨L,al⟩:=a1I lk os ⟨ot.un,ot.row,ot.mem,ot.lt⟩ p q1
 have ab:a1z a b:=by
  rcases eb with rfl | ⟨e,he,g,rfl,rfl,rfl⟩
  ·exact al
  ·have:=h.vl g e.beg (.inr ⟨e,by rw[h.un];exact he,rfl⟩)
   cases a with
   | num i=>exact(show i=_ from al).trans this
   | _=>cases al
 have bg:=L.bg.trans e1
 have un:=L.un.trans e2
 have rc:=L.rc.trans e3
 have iE:isE a=isE b:=by
  cases a<;>cases b<;>first | rfl | (cases ab;rfl) | cases ab
 have sv:=(a9g vs p).2
 have tv:=(a9g vt q).2
 refine⟨⟨bg,un,rc,?_,fun g x hx=>?_⟩,ab⟩
 ·rcases Y3 p with ⟨ea,k1,_⟩ | ⟨e,he,z,ea,k1,_⟩
  ·rcases Y3 q with ⟨_,k2,_⟩ | ⟨_,_,_,eb,_⟩
   ·rw[k1,k2,h.ky]
   ·rw[iE,eb]at ea;cases ea
  ·rcases Y3 q with ⟨eb,_⟩ | ⟨e',he',z',_,k2,_⟩
   ·rw[iE,eb]at ea;cases ea
   ·rw[z]at z'
    injection z' with z'
    have:e=e':=G7 (aC3.mp os.un).2.1 he (by rw[h.un];exact he') z'
    subst this
    rw[k1,k2,h.ky]
 ·have rl:(s.recs.length:Int)=(t.recs.length:Int):=by rw[h.rc]
  rcases Y3 p with ⟨ea,_,be⟩ | ⟨e,he,z,ea,_,un'⟩
  ·rcases sv with ⟨r1,v1⟩ | ⟨_,_,_,z,_⟩
   rotate_left
   ·rw[z]at ea;exact absurd (show decide (("ended":Str)="ended")=false from ea) (by decide)
   rcases tv with ⟨r2,v2⟩ | ⟨_,_,_,z,_⟩
   rotate_left
   ·rw[iE,z]at ea;exact absurd (show decide (("ended":Str)="ended")=false from ea) (by decide)
   have hx':x=(s.recs.length:Int)∨∃d∈s.under,x=d.beg:=by
    rcases hx with hx | ⟨e',he',hx⟩
    ·rw[r1]at hx;exact .inl hx
    ·rcases be e' he' with z | ⟨e,he,z⟩
     ·exact .inl (hx.trans z)
     ·exact .inr ⟨e,he,hx.trans z⟩
   rw[v1 g x hx',v2 g x (by rw[←h.rc,←h.un];exact hx'),h.vl g x hx']
  ·rcases sv with ⟨r1,_⟩ | ⟨e1,he1,z1,_,l1,u1,v1,w1⟩
   ·have:isE b=true:=by rw[←iE];exact ea
    exfalso
    have k:=a1t p ea
    rw[r1]at k;omega
   rcases tv with ⟨r2,_⟩ | ⟨e2,he2,z2,_,l2,u2,v2,w2⟩
   ·exfalso
    have k:=a1t q (by rw[←iE];exact ea)
    rw[r2]at k;omega
   rw[z1]at z2
   injection z2 with z2
   have:e1=e2:=G7 (aC3.mp os.un).2.1 he1 (by rw[h.un];exact he2) z2
   subst this
   rcases hx with hx | ⟨e',he',hx⟩
   ·rw[hx,w1 g,rc,w2 g,h.vl g _ (.inl rfl),rl]
   ·rw[u1]at he'
    have hm:=(aD5.mp he').1
    have le:=vs.bg e' hm
    rw[hx,v1 g _ le,v2 g _ (by rw[←rl];exact le),h.vl g _ (.inr ⟨e',hm,rfl⟩)]
theorem b0g{s t s':j5}{a:u9}(h:Sim s t)(vs:Vs s)(p:Step s .sweep a s'):Sim s' t:=by
 rcases Y3 p with ⟨_,k1,_⟩ | ⟨_,_,z,_⟩
 rotate_left
 ·cases z
 rcases(a9g vs p).2 with ⟨r1,v1⟩ | ⟨_,_,z,_⟩
 rotate_left
 ·cases z
 have e:s'.begun=s.begun∧s'.under=s.under:=by
  generalize e:i8.sweep=d at p
  cases p with
  | sweep _=>exact⟨rfl,rfl⟩
  | none h1 _=>subst e;cases h1
  | _=>cases e
 refine⟨e.1.trans h.bg,e.2.trans h.un,r1.trans h.rc,k1.trans h.ky,fun g x hx=>?_⟩
 rw[r1,e.2]at hx
 rw[v1 g x hx,h.vl g x hx]
section
variable{f g:Nat→j5}{ds es:List i8}{as bs:List u9}
theorem a4O(F:Trace f ds as)(G:Trace g es bs)(he:∀(j k:Nat),(C4 ds ds.length)[j]?=some k→es[j]?=ds[k]?)(le:es.length=(C4 ds ds.length).length) :
  ∀i,i≤ds.length→Sim (f i) (g (C4 ds i).length)∧∀k d,k<i→ds[k]?=some d→Y8 d=true→∃a b,as[k]?=some a∧bs[(C4 ds k).length]?=some b∧a1z a b
 | 0,_=>by
  have e0:C4 ds 0=[]:=rfl
  rw[F.zero,e0]
  show Sim P0 (g 0)∧_
  rw[G.zero]
  exact⟨⟨rfl,rfl,rfl,rfl,fun _ _ _=>rfl⟩,fun k d h=>absurd h (aR2 _)⟩
 | i+1,hi=>by
  obtain⟨L,old⟩:=a4O F G he le i (by omega)
  have hd:=List.getElem?_eq_getElem (l:=ds) (i:=i) (by omega)
  have ha:=List.getElem?_eq_getElem (l:=as) (i:=i) (by have:=F.len;omega)
  generalize as[i]'(by have:=F.len;omega)=a at ha
  generalize ds[i]=d at hd
  have S:=F.step i d a hd ha
  rw[a3n hd]
  by_cases c:Y8 d=true
  ·rw[aB0 c]
   have hk:=a6W (n:=ds.length) hd c (by omega)
   have hes:=(he _ _ hk).trans hd
   have lj:=(aA2.mp hes).1
   have hb:=List.getElem?_eq_getElem (l:=bs) (i:=(C4 ds i).length) (by have:=G.len;omega)
   have T:=G.step _ d _ hes hb
   obtain⟨L',al⟩:=b9q L (F.oks i (by omega)) (G.oks _ (by omega)) (X4 F i (by omega)) (X4 G _ (by omega)) S T (b3u c)
   rw[aA7,aE5]
   refine⟨L',fun k e hk' hdk ck=>?_⟩
   rcases aM7.mp hk' with lt | rfl
   ·exact old k e lt hdk ck
   ·rw[hd]at hdk;cases hdk
    exact⟨a,_,ha,hb,al⟩
  ·rw[aA4 c]
   have ed:d=.sweep:=by cases d<;>first | rfl | exact absurd rfl c
   subst ed
   refine⟨b0g L (X4 F i (by omega)) S,fun k e hk' hdk ck=>?_⟩
   rcases aM7.mp hk' with lt | rfl
   ·exact old k e lt hdk ck
   ·rw[hd]at hdk;cases hdk;exact absurd ck c
end
def a6y(H:Hp)(q:Nat×Int)(x:V):Prop:=∃b,x=.ref b∧H b=some (.tup [.int (q.1:Int),.int q.2])
def kvM(mk:List Str)(ml:Str→Addr):List (Key×V):=mk.map fun g=>(Sum.inr g,V.ref (ml g))
def a7e{α:Type}(ml:Str→α)(g:Str)(l:α):Str→α:=fun h=>if h=g then l else ml h
theorem a9W(mk:List Str)(ml:Str→Addr):(kvM mk ml).length=mk.length:=aA0 _
theorem b8j(mk:List Str)(ml:Str→Addr):((kvM mk ml).map fun q=>kV q.1)=mk.map V.str:=by unfold kvM;rw[aE3];rfl
theorem a2V(mk:List Str)(ml:Str→Addr)(g:Str):A4 (kvM mk ml) (Sum.inr g)=if g∈mk then some (.ref (ml g)) else none:=by
 have:=a7b (mk.map fun g=>(g,([]:List (Int×Int)))) (fun g=>V.ref (ml g)) g
 rw[aE3,aE3]at this
 have e:((fun x:Str×List (Int×Int)=>x.1)∘fun g:Str=>(g,([]:List (Int×Int))))=id:=rfl
 rw[e,aQ1]at this
 exact this
theorem a5V(mk:List Str)(ml:Str→Addr)(g:Str)(l:Addr):putK (kvM mk ml) (Sum.inr g) (.ref l)=kvM (C3 mk g) (a7e ml g l):=by
 unfold putK C3
 have e:(kvM mk ml).any (fun kv=>decide (kv.1=(Sum.inr g:Key)))=decide (g∈mk):=by
  unfold kvM
  rw[aR6]
  induction mk with
  | nil=>rfl
  | cons k ks ih=>
   rw[aK5,ih]
   show(decide ((Sum.inr k:Key)=Sum.inr g)||_)=_
   rw[a1h]
   by_cases z:k=g
   ·subst z;simp
   ·have z':¬g=k:=fun w=>z w.symm
    simp[z,z']
 rw[e]
 by_cases c:g∈mk
 ·rw[aB0 (by simpa using c),aB0 c]
  unfold kvM a7e
  rw[aE3]
  refine aD9 fun k _=>?_
  show(if (Sum.inr k:Key)=Sum.inr g then _ else _)=_
  by_cases z:k=g
  ·subst z;rw[aB0 rfl,aB0 rfl]
  ·rw[aA4 fun w=>z (aM2 w),aA4 z]
 ·rw[aA4 (by simpa using c),aA4 c]
  unfold kvM a7e
  rw[aB2,aK4,aB0 rfl]
  congr 1
  refine aD9 fun k hk=>?_
  rw[aA4 fun z=>c (by rw[←z];exact hk)]
structure RA(ct md ud:Addr)(Hw H:Hp)(u:List Int)(bg:Int→Int)(mk:List Str)(ml:Str→Addr)(L:Str→List Int)(cs:List (Nat×Int)):Prop where
 kp:∀b o,b≠ct→b≠md→b≠ud→Hw b=some o→H b=some o
 hc:∃xs,H ct=some (.lst xs)∧Paired (a6y H) cs xs
 hm:H md=some (.dK (kvM mk ml))
 hu:H ud=some (.dK (l5 u fun n=>.int (bg n)))
 hl:∀g∈mk,H (ml g)=some (.lst ((L g).map V.int))∧Hw (ml g)=none
 nd:mk.Nodup
structure R3(ct md ud:Addr)(Hw:Hp):Prop where
 a1:Hw ct≠none
 a2:Hw md≠none
 a3:Hw ud≠none
 n1:ct≠md
 n2:ct≠ud
 n3:md≠ud
section
variable{ct md ud:Addr}{Hw H:Hp}{u:List Int}{bg:Int→Int}{mk:List Str}{ml:Str→Addr}{L:Str→List Int}{cs:List (Nat×Int)}
theorem a4k{H H':Hp}(k:u0 H H'){cs:List (Nat×Int)}{xs:List V}(h:Paired (a6y H) cs xs):Paired (a6y H') cs xs:=Paired.mapP h fun _ _ ⟨b,e,h⟩=>⟨b,e,k.1 _ _ h⟩
theorem RA.new{H':Hp}(h:RA ct md ud Hw H u bg mk ml L cs)(s:g6 H H'):RA ct md ud Hw H' u bg mk ml L cs:=
 ⟨fun b o n1 n2 n3 e=>s _ _ (h.kp b o n1 n2 n3 e),let ⟨xs,a,b⟩:=h.hc;⟨xs,s _ _ a,a4k s.tupK b⟩,s _ _ h.hm,s _ _ h.hu,fun g hg=>⟨s _ _ (h.hl g hg).1,(h.hl g hg).2⟩,h.nd⟩
theorem RA.cong{L':Str→List Int}(h:RA ct md ud Hw H u bg mk ml L cs)(e:∀g∈mk,L g=L' g):RA ct md ud Hw H u bg mk ml L' cs:=
 ⟨h.kp,h.hc,h.hm,h.hu,fun g hg=>by rw[←e g hg];exact h.hl g hg,h.nd⟩
theorem RA.off(N:R3 ct md ud Hw)(h:RA ct md ud Hw H u bg mk ml L cs){g:Str}(hg:g∈mk):ml g≠ct∧ml g≠md∧ml g≠ud:=
 have z:=(h.hl g hg).2
 ⟨fun e=>N.a1 (by rw[←e];exact z),fun e=>N.a2 (by rw[←e];exact z),fun e=>N.a3 (by rw[←e];exact z)⟩
theorem RA.setU(N:R3 ct md ud Hw)(h:RA ct md ud Hw H u bg mk ml L cs)(u':List Int)(bg':Int→Int):RA ct md ud Hw (upd H ud (.dK (l5 u' fun n=>.int (bg' n)))) u' bg' mk ml L cs:=by
 obtain⟨xs,a,b⟩:=h.hc
 exact⟨fun b o n1 n2 n3 e=>by rw[b7 n3];exact h.kp b o n1 n2 n3 e,⟨xs,by rw[b7 N.n2];exact a,a4k (J8 h.hu) b⟩,by rw[b7 N.n3];exact h.hm,b0,fun g hg=>⟨by rw[b7 (h.off N hg).2.2];exact(h.hl g hg).1,(h.hl g hg).2⟩,h.nd⟩
theorem RA.addC(N:R3 ct md ud Hw)(h:RA ct md ud Hw H u bg mk ml L cs){xs:List V}(hx:H ct=some (.lst xs)){q:Nat×Int}{x:V}(hq:a6y H q x):RA ct md ud Hw (upd H ct (.lst (xs++[x]))) u bg mk ml L (cs++[q]):=by
 obtain⟨ys,a,b⟩:=h.hc
 rw[hx]at a;cases a
 have k:=p9 (o:=.lst (xs++[x])) hx
 obtain⟨p,e,hp⟩:=hq
 exact⟨fun b o n1 n2 n3 e=>by rw[b7 n1];exact h.kp b o n1 n2 n3 e,⟨_,b0,aK3 (a4k k b) ⟨p,e,k.1 _ _ hp⟩⟩,by rw[b7 (Ne.symm N.n1)];exact h.hm,by rw[b7 (Ne.symm N.n2)];exact h.hu,fun g hg=>⟨by rw[b7 (h.off N hg).1];exact(h.hl g hg).1,(h.hl g hg).2⟩,h.nd⟩
theorem RA.setM(N:R3 ct md ud Hw)(h:RA ct md ud Hw H u bg mk ml L cs){g:Str}{l:Addr}{ns:List Int}(hl:H l=some (.lst (ns.map V.int)))(hw:Hw l=none) :
  RA ct md ud Hw (upd H md (.dK (kvM (C3 mk g) (a7e ml g l)))) u bg (C3 mk g) (a7e ml g l) (a7e L g ns) cs:=by
 obtain⟨xs,a,b⟩:=h.hc
 have nl:l≠md:=fun e=>N.a2 (by rw[←e];exact hw)
 refine⟨fun b o n1 n2 n3 e=>by rw[b7 n2];exact h.kp b o n1 n2 n3 e,⟨xs,by rw[b7 N.n1];exact a,a4k (J8 h.hm) b⟩,b0,by rw[b7 (Ne.symm N.n3)];exact h.hu,fun k hk=>?_,?_⟩
 ·unfold a7e
  by_cases z:k=g
  ·rw[aB0 z,aB0 z,b7 nl];exact⟨hl,hw⟩
  ·rw[aA4 z,aA4 z]
   have hk:k∈mk:=(a1T hk).resolve_right z
   rw[b7 (h.off N hk).2.1];exact h.hl k hk
 ·unfold C3
  split
  ·exact h.nd
  ·rename_i c
   rw[aC3]
   refine⟨h.nd,by simp,fun x hx y hy e=>c ?_⟩
   rw[←aA3.mp hy,←e];exact hx
end
theorem b5h{ks:List Str}{g h:Str}:h∈C3 ks g↔h∈ks∨h=g:=by
 unfold C3
 split
 ·rename_i c;exact⟨.inl,fun z=>z.elim id fun e=>by rw[e];exact c⟩
 ·rw[aA8,aA3]
theorem a5Y{s s':j5}{d:i8}{a:u9}(p:Step s d a s'):∀e'∈s'.under,(d=.begin∧e'.num=(s.begun:Int)∧e'.beg=(s.recs.length:Int))∨∃e∈s.under,e.num=e'.num∧e.beg=e'.beg:=by
 have old:∀e'∈s.under,(d=.begin∧e'.num=(s.begun:Int)∧e'.beg=(s.recs.length:Int))∨∃e∈s.under,e.num=e'.num∧e.beg=e'.beg:=fun e' he=>.inr ⟨e',he,rfl,rfl⟩
 have mod:∀(n:Int) (f:Dl→Dl),(∀d,(f d).beg=d.beg)→(∀d,(f d).num=d.num)→∀e'∈C8 s.under n f,∃e∈s.under,e.num=e'.num∧e.beg=e'.beg:=fun n f hf hg e' he=>by
  obtain⟨x,hx,z | z⟩:=C6 he
  ·rw[z];exact⟨x,hx,rfl,rfl⟩
  ·rw[z,hf,hg];exact⟨x,hx,rfl,rfl⟩
 have out:∀n,∀e'∈N2 s.under n,∃e∈s.under,e.num=e'.num∧e.beg=e'.beg:=fun n e' he=>⟨e',(aD5.mp he).1,rfl,rfl⟩
 cases p with
 | begin=>
  intro e' he
  rcases aA8.mp he with he | he
  ·exact .inr ⟨e',he,rfl,rfl⟩
  ·rw[aA3.mp he];exact .inl ⟨rfl,rfl,rfl⟩
 | sweep _=>exact old
 | none _ _=>exact old
 | own _ _=>exact old
 | @look d g _ _=>exact fun e' he=>.inr (mod d.num (S1 g) (fun _=>rfl) (fun _=>rfl) e' he)
 | @put d g x _=>exact fun e' he=>.inr (mod d.num (S0 g x) (fun _=>rfl) (fun _=>rfl) e' he)
 | leave _=>exact fun e' he=>.inr (out _ e' he)
 | ring _ _=>exact fun e' he=>.inr (out _ e' he)
 | ended _ _=>exact fun e' he=>.inr (out _ e' he)
def unB(d:i8)(u:List Int)(b:Nat):List Int:=
 match d with
 | .begin=>u++[(b:Int)]
 | _=>u
theorem a5H{s s':j5}{d:i8}{a:u9}(p:Step s d a s'):(isE a=true∧∃e∈s.under,d=.fin e.num∧s'.vers=B6 s.vers e.aside ((s.recs.length:Int)+1)∧s'.recs.length=s.recs.length+1) ∨
  (isE a=false∧s'.recs=s.recs∧((d=.sweep∧∃m,a7E s m∧a=.num (N8 s.vers m)∧s'.vers=O0 s.vers m)∨(d≠.sweep∧s'.vers=s.vers))):=by
 cases p with
 | ended hd _=>exact .inl ⟨rfl,_,hd,rfl,rfl,by show(s.recs++[_]).length=_;rw[aA7];rfl⟩
 | sweep mb=>exact .inr ⟨rfl,rfl,.inl ⟨rfl,_,mb,rfl,rfl⟩⟩
 | @none _ n h1 _=>exact .inr ⟨rfl,rfl,.inr ⟨(by rintro rfl;cases h1),rfl⟩⟩
 | put _=>exact .inr ⟨show decide (("put":Str)="ended")=false by decide,rfl,.inr ⟨(fun z=>nomatch z),rfl⟩⟩
 | leave _=>exact .inr ⟨show decide (("left":Str)="ended")=false by decide,rfl,.inr ⟨(fun z=>nomatch z),rfl⟩⟩
 | _=>exact .inr ⟨rfl,rfl,.inr ⟨(fun z=>nomatch z),rfl⟩⟩
theorem b9n{f:Str→Int}{l m:List Str}(p:l.Perm m):(l.map f).sum=(m.map f).sum:=by
 induction p with
 | nil=>rfl
 | cons x _ ih=>rw[aC1,aC1,List.sum_cons,List.sum_cons,ih]
 | swap x y l=>simp only[aC1,List.sum_cons];omega
 | trans _ _ a b=>exact a.trans b
theorem b6h{v:F6}(nd:(v.map (·.1)).Nodup)(m:Int):N8 v m=((v.map (·.1)).map fun g=>((cnt (t8 v g) m-1:Nat):Int)).sum:=by
 unfold N8
 rw[aE3]
 congr 1
 refine aD9 fun q hq=>?_
 show _=((cnt (t8 v q.1) m-1:Nat):Int)
 rw[W9 nd hq]
 have:=a2g q.2 m
 unfold swL
 rw[aH7]
 omega
abbrev FR(A Tl ct md ud td:Addr)(b m:Int)(o8 o9 oA oB oC oD oE:Option V):L2.St:=[some (.ref A),some (.ref Tl),some (.ref ct),some (.ref md),some (.ref ud),some (.int b),some (.int m),some (.ref td),o8,o9,oA,oB,oC,oD,oE]
theorem a5p{f:Nat→j5}{ds:List i8}{as:List u9}(F:Trace f ds as):∀i,i≤ds.length→((f i).vers.map (·.1)).Nodup
 | 0,_=>by rw[F.zero];exact aI4
 | i+1,h=>by
  have hd:=List.getElem?_eq_getElem (l:=ds) (i:=i) (by omega)
  have ha:=List.getElem?_eq_getElem (l:=as) (i:=i) (by have:=F.len;omega)
  exact a0w (a5p F i (by omega)) (F.step i _ _ hd ha)
def Lv(v:F6)(g:Str):List Int:=(t8 v g).map (·.1)
inductive a1s(K:PySem.W.Frag)(vs:List V)(H:Hp)(Q:VK):Prop
 | mk (A Tl:Addr) (xs ys:List V) (ds:List i8) (as:List u9) (rl0:Addr→Role) (f:Nat→j5) (x0:vs=[.ref A,.ref Tl]) (x1:H A=some (.lst xs)) (x2:C1 H ds xs) (x3:H Tl=some (.lst ys)) (x4:Paired (D6 rl0 H) as ys) (x5:Trace f ds as) (x6:ds.length≤63) (xq:∀(r:Addr) (zs:List V) (cs:List (Nat×Int)) (H':Hp),g6 H H'→H' r=some (.lst zs)→Paired (a6y H') cs zs→(∀q∈cs,as[q.1]?=some (.num q.2))→Q (.ref r) H')
def a9v(K:PySem.W.Frag):Sp:=fun vs H Q _=>a1s K vs H Q
theorem a3x(T:A7 K mg t):g9 P w K mg base y9 3 t.f__law_reckoned t.d__law_reckoned ["_law_asked","_law_told"] (a9v K):=by
 refine T.F__law_reckoned.ok m4 (fun vs H Q E h=>?_) (fun cdv A outer s H vs Q E hr h=>?_)
 ·obtain⟨A,Tl,xs,ys,ds,as,rl0,f,rfl,_⟩:=h
  rfl
 obtain⟨A,Tl,xs,ys,ds,as,rl0,f,rfl,hA,hD,hT,pa,F,bn,q⟩:=h
 have hu:=M7 hr
 refine⟨_,(b8 (g7 (i:=2) m4.nd rfl (Or.inl rfl) (m7 b6))
 (b8 (g7 (i:=3) m4.nd rfl (Or.inl rfl) A8)
 (b8 (g7 (i:=4) m4.nd rfl (Or.inr rfl) A8)
 (b8 (g7 (i:=5) m4.nd rfl (Or.inl rfl) d5)
 (b8 (g7 (i:=6) m4.nd rfl (Or.inl rfl) d5)
 (b8 (g7 (i:=7) m4.nd rfl (Or.inl rfl) A8)
 (b8 (z9 aE4 rfl (q5 (d9 i3 (j8 (g9.mono (k:=2) (a3g T) (by decide)) hr rfl T.m__law_walked T.F__law_walked.kp T.F__law_walked.b .nil k8 (a6 (pv 0) (a6 (pv 1) b6))) d5 (fun _ _=>rfl))) (a3p rfl (J2 (l4 (i:=8) m4.nd rfl (Or.inl rfl)) (J2 (l4 (i:=9) m4.nd rfl (Or.inl rfl)) (J2 (l4 (i:=10) m4.nd rfl (Or.inl rfl)) a5g))))
 (c9 (C2 hu (pv 7) (pv 8) (pv 9) rfl)))
 (b8 (z9 aE4 rfl (N6 rfl T.m_range (a6 (e7 g8 rfl T.m_len aC2 (a6 (pv 0) b6)) b6)) (l4 (i:=8) m4.nd rfl (Or.inl rfl))
 (b8 (L1 (k7 (f7 z8 (d9 i3 (d9 l7 (pv 0) (pv 8) (fun _ _=>rfl)) d5 (fun _ _=>rfl)) m5 (i6 _))
 (b8 (C2 hu (pv 4) (pv 5) (pv 6) rfl)
 (c9 (g7 (i:=5) m4.nd rfl (Or.inl rfl) (j6 F7 (pv 5) d5))))
 j0))
 (b8 (L1 (k7 (PW.pt (Q9 (f7 a2e (d9 i3 (d9 l7 (pv 0) (pv 8) (fun _ _=>rfl)) d5 (fun _ _=>rfl)) (m7 (a6 m5 (a6 m5 b6))) (by with_unfolding_all rfl)) (O7 (f7 (a4j hu) (d9 i3 (d9 l7 (pv 0) (pv 8) (fun _ _=>rfl)) d5 (fun _ _=>rfl)) (pv 4) (by with_unfolding_all rfl)))))
 (c9 (m6 (a8d (pv 4) (d9 i3 (d9 l7 (pv 0) (pv 8) (fun _ _=>rfl)) d5 (fun _ _=>rfl)) ⟨rfl,rfl,rfl,rfl⟩)))
 j0))
 (b8 (L1 (k7 (A3 (j8 (g9.mono (k:=2) (S4 T) (by decide)) hr rfl T.m__law_ended T.F__law_ended.kp T.F__law_ended.b .nil k8 (a6 (d9 l7 (pv 1) (pv 8) (fun _ _=>rfl)) b6)))
 (b8 (g7 (i:=6) m4.nd rfl (Or.inl rfl) (j6 F7 (pv 6) d5))
 (c9 (z9 aE4 rfl (q5 (d9 i3 (u3 hu (pv 7) (pv 8) (fun _ _=>rfl)) d5 (fun _ _=>rfl))) (l4 (i:=11) m4.nd rfl (Or.inl rfl))
 (c9 (C2 hu (pv 3) (pv 11) (j6 U7 (a9k hu (pv 3) (pv 11) (m7 b6) ⟨rfl,rfl,rfl,rfl⟩) (m7 (a6 (pv 6) b6))) rfl)))))
 j0))
 (c9 (k7 (f7 z8 (d9 i3 (d9 l7 (pv 0) (pv 8) (fun _ _=>rfl)) d5 (fun _ _=>rfl)) m5 (i6 _))
 (b8 (g7 (i:=12) m4.nd rfl (Or.inr rfl) (e7 (b5g rfl) rfl T.m_min boot_min (a6 (j6 U7 (O8 rfl (q5 (C9 (P9 rfl) rfl T.m_list aJ1 (a6 (pv 4) b6))) (D5.mk (own:=["_law_who"]) (tl:=["_law_asked","_law_told","_law_counts","_law_moments","_law_under","_law_begun","_law_moment","_law_tries","_law_k","_law_record","_law_records","_law_good","_law_low","_law_gone","_law_old"]) rfl rfl rfl (fun _ _ _ _ _=>(l4 (i:=0) (a8p) rfl (Or.inl rfl))) (fun _ _ _ _ _=>T9) (fun _ _ _ _ _=>(u3 hu (pv 5) (pv 0) (fun _ _=>rfl))))) (m7 (a6 (pv 6) b6))) b6)))
 (b8 (g7 (i:=13) m4.nd rfl (Or.inl rfl) d5)
 (b8 (z9 aE4 rfl (q5 (C9 (P9 rfl) rfl T.m_list aJ1 (a6 (pv 3) b6))) (l4 (i:=11) m4.nd rfl (Or.inl rfl))
 (b8 (a4b (i:=14) m4.nd rfl rfl rfl (q5 (u3 hu (pv 3) (pv 11) (fun _ _=>rfl))) (D5.mk (own:=["_law_one"]) (tl:=["_law_asked","_law_told","_law_counts","_law_moments","_law_under","_law_begun","_law_moment","_law_tries","_law_k","_law_record","_law_records","_law_good","_law_low","_law_gone","_law_old"]) rfl rfl rfl (fun _ _ _ _ _=>(l4 (i:=0) (a9m) rfl (Or.inl rfl))) (fun _ _ _ _ _=>(T7 (f7 a5L (pv 0) (pv 13) (i6 _)))) (fun _ _ _ _ _=>(pv 0))))
 (b8 (g7 (i:=13) m4.nd rfl (Or.inl rfl) (j6 F7 (pv 13) (e7 (a6q rfl) rfl T.m_max boot_max (a6 d5 (a6 (j6 N0 (e7 g8 rfl T.m_len aC2 (a6 (pv 14) b6)) d5) b6)))))
 (c9 (C2 hu (pv 3) (pv 11) (P2 U0 (u3 hu (pv 3) (pv 11) (fun _ _=>rfl)) (T6 (e7 (a6q rfl) rfl T.m_max boot_max (a6 d5 (a6 (j6 N0 (e7 g8 rfl T.m_len aC2 (a6 (pv 14) b6)) d5) b6)))) U1) rfl)))))
 (c9 (m6 (u6 aB1 aB6 aB8 o6 (pv 2) (a6 (v3 (a6 (pv 8) (a6 (pv 13) b6))) b6)))))))
 j0))))))
 (c9 (i4 (pv 2))))))))))),?_⟩
 have lx:=hD.len
 have la:=F.len
 have ly:=n6 pa
 refine⟨(n9 0),fun ct hct=>fun md hmd=>fun ud hud=>fun td htd=>?_⟩
 have s1:=b9 (o:=.lst []) hct
 have s2:=b9 (o:=.dK []) hmd
 have s3:=b9 (o:=.dK []) hud
 have s4:=b9 (o:=.dK []) htd
 have nmd:=j7 s1 hmd
 have nud:=j7 (s1.trans s2) hud
 have ntd:=j7 ((s1.trans s2).trans s3) htd
 have k1:=s4 _ _ (s3 _ _ (s2 _ _ (b0 (H:=H) (a:=ct) (o:=.lst []))))
 have k2:=s4 _ _ (s3 _ _ (b0 (H:=upd H ct (.lst [])) (a:=md) (o:=.dK [])))
 have k3:=s4 _ _ (b0 (H:=upd (upd H ct (.lst [])) md (.dK [])) (a:=ud) (o:=.dK []))
 have k4:=b0 (H:=upd (upd (upd H ct (.lst [])) md (.dK [])) ud (.dK [])) (a:=td) (o:=.dK [])
 have n12:ct≠md:=d6 b0 hmd
 have n13:ct≠ud:=d6 (s2 _ _ b0) hud
 have n14:ct≠td:=d6 (s3 _ _ (s2 _ _ b0)) htd
 have n23:md≠ud:=d6 b0 hud
 have n24:md≠td:=d6 (s3 _ _ b0) htd
 have n34:ud≠td:=d6 b0 htd
 have sZ:=((s1.trans s2).trans s3).trans s4
 generalize upd (upd (upd (upd H ct (.lst [])) md (.dK [])) ud (.dK [])) td (.dK [])=HZ at k1 k2 k3 k4 sZ ⊢
 clear s1 s2 s3 s4 hmd hud htd
 refine⟨_,rfl,_,rfl,A,Tl,xs,ys,ds,as,rl0,f,rfl,sZ _ _ hA,hD.tupK sZ.tupK,sZ _ _ hT,Paired.mapP pa fun _ _ z=>z.same sZ,F,bn,fun p Rr Y us ws tr rl H7 s7 hp _ _ hY pY okt trA nwr=>⟨p,_,1,_,rfl,rfl,i5.of hp,rfl,Y,rfl,⟨_,d7.of hY⟩,?_⟩⟩
 have Z7:=sZ.trans s7
 refine B8 (xs:=ws) (fun j σ' Hc=>∃(o8 o9 oA:Option V) (ks:List Int) (g:Int→V),σ'=FR A Tl ct md ud td 0 0 o8 o9 oA none none none none∧But td H7 Hc∧Hc td=some (.dK (l5 ks g))∧ks.Nodup∧(∀y∈tr.take j,((y.1:Nat):Int)∈ks)∧∀n∈ks,∃y∈tr,((y.1:Nat):Int)=n∧RcAt rl H7 y.2.1 (g n))
  ⟨none,none,none,[],fun _=>.non,rfl,fun b o _ e=>e,s7 _ _ k4,aI4,(fun y hy=>nomatch hy),(fun n hn=>nomatch hn)⟩ (fun j σ' Hc _ z=>?_) (fun j v σ' Hc hv z=>?_) (fun σ' Hc z=>?_)
 ·obtain⟨_,_,_,_,_,_,sc,h1,_⟩:=z
  refine d7.of (sc _ _ ?_ hY)
  intro e;rw[e,s7 _ _ k4]at hY;cases hY
 ·obtain⟨o8,o9,oA,ks,g,rfl,sc,h1,hl,h2,h3⟩:=z
  obtain⟨⟨k,r,rs⟩,hy,b,lb,x,zs,rfl,hb,hx,_⟩:=u7 pY hv
  have nb:b≠td:=fun e=>by rw[e,s7 _ _ k4]at hb;cases hb
  have ltr:=n6 pY
  have lj:=(aA2.mp hy).1
  have lks:ks.length≤63:=by
   have:=u5 (m:=nat ds.length) hl fun n hn=>by
    obtain⟨y,hy,e,_⟩:=h3 n hn
    obtain⟨_,_,z,_⟩:=(okt y hy).ex
    have:=(aA2.mp z).1
    exact a1g.mpr (by omega)
   rw[a8b]at this;omega
  refine⟨b,_,rfl,i5.of (sc _ _ nb hb),rfl,_,_,rfl,_,_,rfl,_,_,rfl,rfl,?_⟩
  refine⟨_,rfl,_,rfl,_,rfl,td,_,rfl,J5.k (k:=Sum.inl (k:Int)) h1 (n4 (by rw[G9];omega)),_,_,_,_,_,rfl,fun c o nc e=>by rw[b7 nc];exact sc c o nc e,by rw[b0,J9],?_,fun y hy'=>?_,fun n hn=>?_⟩
  ·split
   ·exact hl
   ·rename_i c
    rw[aC3]
    refine⟨hl,by simp,fun x hx y hy e=>c ?_⟩
    rw[←aA3.mp hy,←e];exact hx
  ·rw[aD3,hy,aF8]at hy'
   have up:∀n,n∈ks→n∈(if (k:Int)∈ks then ks else ks++[(k:Int)]):=fun n hn=>by
    split
    ·exact hn
    ·exact aE2 _ hn
   rcases aA8.mp hy' with hy' | hy'
   ·exact up _ (h2 y hy')
   ·rw[aA3.mp hy']
    show(k:Int)∈_
    split
    ·assumption
    ·exact aD7 _ (aA3.mpr rfl)
  ·by_cases c:n=(k:Int)
   ·exact⟨_,aC5 hy,c.symm,by rw[c,Y5];exact hx⟩
   ·have hn:n∈ks:=by
     split at hn
     ·exact hn
     ·exact(aA8.mp hn).resolve_right fun z=>c (aA3.mp z)
    rw[a4h c];exact h3 n hn
 obtain⟨o8,o9,oA,ks,gt,rfl,sb,hTd,_,hin,hout⟩:=z
 rw[n6 pY,aE0]at hin
 have B7:∀b o,b≠td→HZ b=some o→Hc b=some o:=fun b o n e=>sb b o n (s7 _ _ e)
 have c1:=B7 _ _ n14 k1
 have c2:=B7 _ _ n24 k2
 have c3:=B7 _ _ n34 k3
 have N:R3 ct md ud Hc:=⟨by rw[c1];simp,by rw[c2];simp,by rw[c3];simp,n12,n13,n23⟩
 have HS:∀{Hx:Hp},(∀b o,b≠ct→b≠md→b≠ud→Hc b=some o→Hx b=some o)→g6 H Hx:=fun {Hx} k b o e=>
  k b o (d6 e hct) (d6 e nmd) (d6 e nud) (B7 b o (d6 e ntd) (sZ _ _ e))
 have nda:∀{Hx:Hp},(∀b o,b≠ct→b≠md→b≠ud→Hc b=some o→Hx b=some o)→Hx td=some (.dK (l5 ks gt)):=fun {Hx} k=>k _ _ (Ne.symm n14) (Ne.symm n24) (Ne.symm n34) hTd
 have RZ:∀{Hx:Hp},(∀b o,b≠ct→b≠md→b≠ud→Hc b=some o→Hx b=some o)→∀c o,H7 c=some o→rl c=.fz→Hx c=some o:=fun {Hx} k c o e1 e2=>by
  have z:=nwr c (by rw[e2];simp)
  have ne:∀{a o},HZ a=some o→c≠a:=fun {a o} w y=>by rw[y,w]at z;cases z
  exact k c o (ne k1) (ne k2) (ne k3) (sb c o (ne k4) e1)
 have RT:∀{Hx:Hp},(∀b o,b≠ct→b≠md→b≠ud→Hc b=some o→Hx b=some o)→∀b xs,H7 b=some (.tup xs)→Hx b=some (.tup xs):=fun {Hx} k b xs h1=>by
  have ne:∀{a o},HZ a=some o→(∀xs,o≠.tup xs)→b≠a:=fun {a o} w n y=>by rw[y,s7 _ _ w]at h1;cases h1;exact n _ rfl
  exact k b _ (ne k1 fun _ z=>nomatch z) (ne k2 fun _ z=>nomatch z) (ne k3 fun _ z=>nomatch z) (sb b _ (ne k4 fun _ z=>nomatch z) h1)
 have R0:RA ct md ud Hc Hc (una (f 0)) (fun _=>0) [] (fun _=>0) (Lv (f 0).vers) []:=⟨fun b o _ _ _ e=>e,⟨[],c1,.nil⟩,c2,by rw[F.zero];exact c3,(fun g hg=>nomatch hg),aI4⟩
 refine⟨_,rfl,A,xs,rfl,.inl (d7.of (HS (fun b o _ _ _ e=>e) _ _ hA)),_,rfl,by omega,by omega,?_⟩
 have en:(((xs.length:Nat):Int)).toNat=ds.length:=by omega
 rw[en]
 have word:=fun(e:Addr) (Hx:Hp)=>d7.of (K:=K) (b0 (H:=Hx) (a:=e) (o:=.lst [V.str "end",V.str "leave"]))
 refine N7 (fun i σ' Hx=>∃(o8 o9 oA oB oC oD oE:Option V) (mk:List Str) (ml:Str→Addr) (bg:Int→Int) (cs:List (Nat×Int)),σ'=FR A Tl ct md ud td ((f i).begun:Int) ((f i).recs.length:Int) o8 o9 oA oB oC oD oE∧RA ct md ud Hc Hx (una (f i)) bg mk ml (Lv (f i).vers) cs ∧
   (∀d∈(f i).under,bg d.num=d.beg)∧(∀g,g∈mk↔g∈(f i).vers.map (·.1))∧(∀q∈cs,as[q.1]?=some (.num q.2))∧cs.length≤i)
  ⟨_,_,_,_,_,_,_,[],fun _=>0,fun _=>0,[],by rw[F.zero];rfl,R0,by rw[F.zero];exact(fun d hd=>nomatch hd),by rw[F.zero];exact fun g=>Iff.rfl,(fun q hq=>nomatch hq),aB3 _⟩ (fun i σ' Hx hi z=>?_) (fun σ' Hx z=>?_)
 rotate_left
 ·obtain⟨_,_,_,_,_,_,_,mk,ml,bg,cs,rfl,R,_,_,oc,_⟩:=z
  obtain⟨zs,z1,z2⟩:=R.hc
  exact⟨_,rfl,q ct zs cs Hx (HS R.kp) z1 z2 oc⟩
 obtain⟨o8,o9,oA,oB,oC,oD,oE,mk,ml,bg,cs,rfl,R,hbg,hky,oc,lc⟩:=z
 have hxi:=List.getElem?_eq_getElem (show i<xs.length by omega)
 have hyi:=List.getElem?_eq_getElem (show i<ys.length by omega)
 obtain⟨d,hd,b,eb,hb⟩:=u7 hD hxi
 obtain⟨an,han,hy⟩:=u7 pa hyi
 have St:=F.step i d an hd han
 have ok:=F.oks i (by omega)
 have vs:=X4 F i (by omega)
 have bd:=F.bds i (by omega)
 have sq:i*i≤63*63:=aS3 (by omega) (by omega)
 have e0:(0:Int)+(i:Int)=((i:Nat):Int):=by omega
 have ax:F8 xs ((0:Int)+(i:Int))=some (.ref b):=by rw[e0,←eb];exact i9 hxi
 generalize ys[i]=y at hyi hy
 have ay:F8 ys ((0:Int)+(i:Int))=some y:=by rw[e0];exact i9 hyi
 obtain⟨u1,v1⟩:=F.una hd
 have SA:∀{Hx:Hp},(∀b o,b≠ct→b≠md→b≠ud→Hc b=some o→Hx b=some o)→d7 K Hx A xs:=fun k=>d7.of (HS k _ _ hA)
 have TT:∀{Hx:Hp},(∀b o,b≠ct→b≠md→b≠ud→Hc b=some o→Hx b=some o)→d7 K Hx Tl ys:=fun k=>d7.of (HS k _ _ hT)
 have TB:∀{Hx:Hp},(∀b o,b≠ct→b≠md→b≠ud→Hc b=some o→Hx b=some o)→i5 K Hx b (dv d):=fun k=>i5.of (HS k _ _ hb)
 have bun:(una (f i)).length≤i:=by have:=bd.un;unfold una;rw[aA0];exact this
 have nbu:((f i).begun:Int)∉una (f i):=fun z=>by have:=(ok.lt _ (aD7 _ z)).2;omega
 refine U9 (σ:=FR A Tl ct md ud td ((f (i+1)).begun:Int) ((f i).recs.length:Int) (some (.int (0+(i:Int)))) o9 oA oB oC oD oE) (fun H'=>∃bg',RA ct md ud Hc H' (unB d (una (f i)) (f i).begun) bg' mk ml (Lv (f i).vers) cs∧∀e∈(f (i+1)).under,bg' e.num=e.beg) ?_ fun H1 ⟨bg1,R1,hb1⟩=>?_
 ·have under:=a5Y St
  rw[v1]
  by_cases c:d=.begin
  ·subst c
   refine⟨_,rfl,_,rfl,A,_,_,_,rfl,rfl,SA R.kp,ax,b,_,0,_,rfl,rfl,TB R.kp,rfl,rfl,_,rfl,l6 ?_⟩
   refine⟨_,rfl,_,rfl,_,rfl,ud,_,rfl,J5.k (k:=Sum.inl ((f i).begun:Int)) R.hu (n4 (by rw[G9];omega)),_,rfl,_,_,rfl,rfl,rfl,fun n=>if n=((f i).begun:Int) then((f i).recs.length:Int) else bg n,?_,fun e he=>?_⟩
   ·rw[J9,aA4 nbu]
    have:=R.setU N (una (f i)++[((f i).begun:Int)]) fun n=>if n=((f i).begun:Int) then((f i).recs.length:Int) else bg n
    have e:X1 (fun n=>V.int (bg n)) ((f i).begun:Int) (.int ((f i).recs.length:Int))=fun n=>V.int (if n=((f i).begun:Int) then((f i).recs.length:Int) else bg n):=by
     funext n;unfold X1;split<;>rfl
    rw[e];exact this
   ·show(if e.num=((f i).begun:Int) then((f i).recs.length:Int) else bg e.num)=e.beg
    rcases under e he with ⟨_,e1,e2⟩ | ⟨x,hx,e1,e2⟩
    ·rw[aB0 e1,e2]
    ·rw[←e1,aA4 fun z=>nbu (by rw[←z];exact aA5.mpr ⟨x,hx,rfl⟩),←e2];exact hbg x hx
  ·have same:unB d (una (f i)) (f i).begun=una (f i)∧b7o d (f i).begun=(f i).begun:=by cases d<;>first | exact⟨rfl,rfl⟩ | exact absurd rfl c
   rw[same.1,same.2]
   have goal:∀e∈(f (i+1)).under,bg e.num=e.beg:=fun e he=>by
    rcases under e he with ⟨z,_⟩ | ⟨x,hx,e1,e2⟩
    ·exact absurd z c
    ·rw[←e1,←e2];exact hbg x hx
   cases d with
   | begin=>exact absurd rfl c
   | _=>exact⟨_,rfl,_,rfl,A,_,_,_,rfl,rfl,SA R.kp,ax,b,_,0,_,rfl,rfl,TB R.kp,rfl,rfl,_,rfl,f6 ⟨rfl,bg,R,goal⟩⟩
 refine U9 (σ:=FR A Tl ct md ud td ((f (i+1)).begun:Int) ((f i).recs.length:Int) (some (.int (0+(i:Int)))) o9 oA oB oC oD oE) (fun H'=>RA ct md ud Hc H' (una (f (i+1))) bg1 mk ml (Lv (f i).vers) cs) ?_ fun H2 R2=>?_
 ·rw[u1]
  have tst:=fun(w:Str)=>w
  cases d with
  | fin n=>
   refine⟨_,rfl,_,rfl,A,_,_,_,rfl,rfl,SA R1.kp,ax,b,_,0,_,rfl,rfl,TB R1.kp,rfl,(n9 2),fun e he=>⟨e,_,rfl,.inl (word e _),rfl,rfl,_,rfl,l6 ?_⟩⟩
   have R2:=R1.new (b9 (o:=.lst [V.str "end",V.str "leave"]) he)
   generalize upd H1 e (.lst [V.str "end",V.str "leave"])=H3 at R2 ⊢
   have dg:=t7.k (k:=Sum.inl n) R2.hu
   refine⟨_,rfl,_,rfl,A,_,_,_,rfl,rfl,SA R2.kp,ax,b,_,1,_,rfl,rfl,TB R2.kp,rfl,_,rfl,ud,_,rfl,dg,_,rfl,?_⟩
   by_cases c:n∈una (f i)
   ·have c':n∈unB (.fin n) (una (f i)) (f i).begun:=c
    rw[m9,aB0 c']
    refine l6 ⟨_,rfl,ud,rfl,.inl ⟨_,.inl R2.hu⟩,_,rfl,_,rfl,A,_,_,_,rfl,rfl,SA R2.kp,ax,b,_,1,_,rfl,rfl,TB R2.kp,rfl,_,Sum.inl n,.int (bg1 n),R2.hu,rfl,by rw[m9,aB0 c'],rfl,?_⟩
    rw[a0l];exact R2.setU N _ bg1
   ·have c':n∉unB (.fin n) (una (f i)) (f i).begun:=c
    rw[m9,aA4 c']
    refine f6 ⟨rfl,?_⟩
    show RA ct md ud Hc H3 ((una (f i)).filter _) bg1 mk ml _ cs
    rw[a2i c];exact R2
  | leave n=>
   refine⟨_,rfl,_,rfl,A,_,_,_,rfl,rfl,SA R1.kp,ax,b,_,0,_,rfl,rfl,TB R1.kp,rfl,(n9 2),fun e he=>⟨e,_,rfl,.inl (word e _),rfl,rfl,_,rfl,l6 ?_⟩⟩
   have R2:=R1.new (b9 (o:=.lst [V.str "end",V.str "leave"]) he)
   generalize upd H1 e (.lst [V.str "end",V.str "leave"])=H3 at R2 ⊢
   have dg:=t7.k (k:=Sum.inl n) R2.hu
   refine⟨_,rfl,_,rfl,A,_,_,_,rfl,rfl,SA R2.kp,ax,b,_,1,_,rfl,rfl,TB R2.kp,rfl,_,rfl,ud,_,rfl,dg,_,rfl,?_⟩
   by_cases c:n∈una (f i)
   ·have c':n∈unB (.leave n) (una (f i)) (f i).begun:=c
    rw[m9,aB0 c']
    refine l6 ⟨_,rfl,ud,rfl,.inl ⟨_,.inl R2.hu⟩,_,rfl,_,rfl,A,_,_,_,rfl,rfl,SA R2.kp,ax,b,_,1,_,rfl,rfl,TB R2.kp,rfl,_,Sum.inl n,.int (bg1 n),R2.hu,rfl,by rw[m9,aB0 c'],rfl,?_⟩
    rw[a0l];exact R2.setU N _ bg1
   ·have c':n∉unB (.leave n) (una (f i)) (f i).begun:=c
    rw[m9,aA4 c']
    refine f6 ⟨rfl,?_⟩
    show RA ct md ud Hc H3 ((una (f i)).filter _) bg1 mk ml _ cs
    rw[a2i c];exact R2
  | _=>exact⟨_,rfl,_,rfl,A,_,_,_,rfl,rfl,SA R1.kp,ax,b,_,0,_,rfl,rfl,TB R1.kp,rfl,(n9 2),fun e he=>⟨e,_,rfl,.inl (word e _),rfl,rfl,_,rfl,f6 ⟨rfl,R1.new (b9 he)⟩⟩⟩
 clear R1 R
 have lmk:mk.length≤10000:=by
  have:=u5 (m:=(f i).vers.map (·.1)) R2.nd fun g hg=>(hky g).mp hg
  rw[aA0]at this
  have:=bd.ve;omega
 have lLv:∀g,(Lv (f i).vers g).length≤10000:=fun g=>by
  unfold Lv
  rw[aA0]
  by_cases c:g∈(f i).vers.map (·.1)
  ·obtain⟨x,hx,rfl⟩:=aA5.mp c
   rw[W9 (a5p F i (by omega)) hx];have:=bd.vl x hx;omega
  ·rw[a8o c];exact aG4 _
 refine⟨fun σ' H'=>∃(oB:Option V) (mk':List Str) (ml':Str→Addr) (v':F6),σ'=FR A Tl ct md ud td ((f (i+1)).begun:Int) ((f (i+1)).recs.length:Int) (some (.int (0+(i:Int)))) o9 oA oB oC oD oE∧RA ct md ud Hc H' (una (f (i+1))) bg1 mk' ml' (Lv v') cs∧(∀g,g∈mk'↔g∈v'.map (·.1))∧((d≠.sweep∧v'=(f (i+1)).vers)∨(d=.sweep∧v'=(f i).vers)),?_,fun σ' H' hM=>?_⟩
 ·refine⟨_,rfl,_,rfl,Tl,_,_,_,rfl,rfl,TT R2.kp,ay,rl0,an,y,rfl,hy.same (HS R2.kp),?_⟩
  rcases a5H St with ⟨ea,e,he,rfl,ev,er⟩ | ⟨ea,er,sw⟩
  ·rw[ea,er]
   refine⟨_,rfl,l6 ⟨_,rfl,_,_,rfl,rfl,?_⟩⟩
   obtain⟨y0,hy0,ey0⟩:=trA i (by omega) e he hd
   have hik:(i:Int)∈ks:=by rw[←ey0];exact hin y0 hy0
   obtain⟨y1,hy1,ey1,rc1⟩:=hout _ hik
   have ey1:y1.1=i:=by omega
   obtain⟨e1,a1,z1,_,z3,_,isr,_⟩:=(okt y1 hy1).ex
   rw[ey1]at z1 z3 isr
   rw[hd]at z1
   have:e=e1:=G7 (aC3.mp ok.un).2.1 he z3 (by injection (aD1 z1))
   subst this
   generalize y1.2.1=r at isr rc1
   have pn:r.put.Nodup:=isr.2.2.2.2.1.nodup_iff.mpr (vs.nd e he)
   have lp:r.put.length≤63:=by rw[isr.2.2.2.2.1.length_eq,aA0];have:=(bd.dl e he).2;omega
   have pm:∀g,g∈r.put↔g∈e.aside.map (·.1):=fun g=>isr.2.2.2.2.1.mem_iff
   have dT:=t7.k (k:=Sum.inl (0+(i:Int))) (nda R2.kp)
   rw[m9,e0,aB0 hik]at dT
   obtain⟨b1,lb1,pb1,eb1,t1,_,t3,_,t5⟩:=rc1
   rw[eb1]at dT
   refine⟨_,rfl,_,rfl,td,_,rfl,by rw[e0];exact dT,b1,_,4,_,rfl,rfl,i5.of (RT R2.kp _ _ t1),rfl,pb1,rfl,⟨_,d7.of (RZ R2.kp _ _ t3 t5)⟩,?_⟩
   refine B8 (xs:=r.put.map V.str) (fun j σ' Hx=>∃(oB:Option V) (mk':List Str) (ml':Str→Addr),σ'=FR A Tl ct md ud td ((f (i+1)).begun:Int) (((f i).recs.length:Int)+1) (some (.int (0+(i:Int)))) o9 oA oB oC oD oE∧RA ct md ud Hc Hx (una (f (i+1))) bg1 mk' ml' (fun g=>Lv (f i).vers g++if g∈r.put.take j then [((f i).recs.length:Int)+1] else []) cs∧(∀g,g∈mk'↔g∈mk∨g∈r.put.take j)∧mk'.length≤10000+j)
    ⟨_,mk,ml,rfl,R2.cong fun g _=>by rw[aA4 (by simp),aH1],fun g=>by simp,by omega⟩ (fun j σ' Hx _ z=>?_) (fun j v σ' Hx hv z=>?_) (fun σ' Hx z=>?_)
   ·obtain⟨_,_,_,_,R3,_⟩:=z
    exact d7.of (RZ R3.kp _ _ t3 t5)
   ·obtain⟨oB',mk',ml',rfl,R3,hk',lm'⟩:=z
    rw[aB4]at hv
    obtain⟨g,hg,rfl⟩:=aC9.mp hv
    have lj:=(aA2.mp hg).1
    have tk:r.put.take (j+1)=r.put.take j++[g]:=by rw[aD3,hg];rfl
    have ng:g∉r.put.take j:=fun z=>by
     have nd':(r.put.take (j+1)).Nodup:=pn.sublist (aK7 _ _)
     rw[tk,aC3]at nd'
     exact nd'.2.2 g z g (by simp) rfl
    refine⟨_,rfl,md,rfl,.inl ⟨_,.inl R3.hm⟩,_,rfl,(n9 0),fun c0 hc0=>?_⟩
    have s5:=b9 (o:=.lst []) hc0
    have dg:=t7.k (k:=Sum.inr g) (s5 _ _ R3.hm)
    rw[a2V]at dg
    obtain⟨a1,ea1,ha1⟩:∃a1,(if g∈mk' then some (V.ref (ml' g)) else none).getD (.ref c0)=.ref a1∧(upd Hx c0 (.lst [])) a1=some (.lst ((Lv (f i).vers g).map V.int)):=by
     by_cases c:g∈mk'
     ·refine⟨ml' g,by rw[aB0 c];rfl,?_⟩
      have:=(R3.hl g c).1
      rw[aA4 ng,aH1]at this
      exact s5 _ _ this
     ·refine⟨c0,by rw[aA4 c];rfl,?_⟩
      have nv:g∉(f i).vers.map (·.1):=fun z=>c ((hk' g).mpr (.inl ((hky g).mpr z)))
      unfold Lv
      rw[a8o nv];exact b0
    refine⟨_,dg,_,rfl,(n9 1),fun a2 ha2=>?_⟩
    have s6:=b9 (o:=.lst [.int (((f i).recs.length:Int)+1)]) ha2
    refine⟨a1,a2,_,_,ea1,rfl,s6 _ _ ha1,b0,by have:=lLv g;rw[aA0,aF9];simp only[aE5];omega,fun a3 ha3=>?_⟩
    have s7':=(s5.trans s6).trans (b9 (o:=.lst ((Lv (f i).vers g).map V.int++[.int (((f i).recs.length:Int)+1)])) ha3)
    have R4:=R3.new s7'
    have h3:(upd (upd (upd Hx c0 (.lst [])) a2 (.lst [.int (((f i).recs.length:Int)+1)])) a3 (.lst ((Lv (f i).vers g).map V.int++[.int (((f i).recs.length:Int)+1)]))) a3=some (.lst ((Lv (f i).vers g++[((f i).recs.length:Int)+1]).map V.int)):=by rw[b0,aB2];rfl
    have n3:Hc a3=none:=by
     cases z:Hc a3 with
     | none=>rfl
     | some o=>
      exfalso
      have n1:a3≠ct:=(d6 ((R3.new (s5.trans s6)).hc.choose_spec.1) ha3).symm
      have n2:a3≠md:=(d6 (R3.new (s5.trans s6)).hm ha3).symm
      have n3:a3≠ud:=(d6 (R3.new (s5.trans s6)).hu ha3).symm
      rw[(R3.new (s5.trans s6)).kp _ _ n1 n2 n3 z]at ha3;cases ha3
    generalize upd (upd (upd Hx c0 (.lst [])) a2 (.lst [.int (((f i).recs.length:Int)+1)])) a3 (.lst ((Lv (f i).vers g).map V.int++[.int (((f i).recs.length:Int)+1)]))=Hz at R4 h3 s7' ⊢
    refine⟨_,rfl,_,rfl,md,_,rfl,J5.k (k:=Sum.inr g) R4.hm (n4 (by rw[a9W];omega)),?_⟩
    rw[a5V]
    refine⟨_,C3 mk' g,a7e ml' g a3,rfl,(R4.setM N h3 n3).cong fun h _=>?_,fun h=>?_,by have:=a9S mk' g;omega⟩
    ·unfold a7e
     by_cases z:h=g
     ·rw[aB0 z,z,aB0 (by rw[tk];simp)]
     ·rw[aA4 z]
      have:h∈r.put.take (j+1)↔h∈r.put.take j:=by rw[tk,aA8,aA3];exact⟨fun w=>w.resolve_right z,.inl⟩
      dsimp only
      by_cases w:h∈r.put.take j
      ·rw[aB0 w,aB0 (this.mpr w)]
      ·rw[aA4 w,aA4 fun y=>w (this.mp y)]
    ·rw[b5h,hk' h,tk,aA8,aA3,or_assoc]
   ·obtain⟨oB',mk',ml',rfl,R3,hk',_⟩:=z
    rw[aA0,aE0]at R3 hk'
    have er':((f (i+1)).recs.length:Int)=((f i).recs.length:Int)+1:=by omega
    refine⟨_,mk',ml',(f (i+1)).vers,by rw[←er',er],R3.cong fun g _=>?_,fun g=>?_,.inl ⟨(fun z=>nomatch z),rfl⟩⟩
    ·rw[ev]
     unfold Lv
     rw[X0 g e.aside (f i).vers (vs.nd e he)]
     cases hg:t6 e.aside g with
     | none=>rw[aA4 fun z=>a7x hg ((pm g).mp z),aH1]
     | some x=>rw[aB0 ((pm g).mpr (a5N hg)),aB2];rfl
    ·rw[hk',ev,a9o,hky g,pm g]
  ·rw[ea,er]
   refine⟨_,rfl,f6 ⟨_,mk,ml,(f i).vers,rfl,R2,hky,?_⟩⟩
   rcases sw with ⟨rfl,_⟩ | ⟨n,e⟩
   ·exact .inr ⟨rfl,rfl⟩
   ·exact .inl ⟨n,e.symm⟩
 obtain⟨oB',mk',ml',v',rfl,R3,hky',hv'⟩:=hM
 clear R2 hky lmk
 by_cases c:d=.sweep
 rotate_left
 ·have ev:v'=(f (i+1)).vers:=hv'.elim (fun z=>z.2) fun z=>absurd z.1 c
  subst ev
  cases d with
  | sweep=>exact absurd rfl c
  | _=>exact⟨_,rfl,_,rfl,A,_,_,_,rfl,rfl,SA R3.kp,ax,b,_,0,_,rfl,rfl,TB R3.kp,rfl,rfl,_,rfl,f6 ⟨_,_,_,_,_,_,_,mk',ml',bg1,cs,rfl,R3,hb1,hky',oc,by omega⟩⟩
 subst c
 have ev:v'=(f i).vers:=hv'.elim (fun z=>absurd rfl z.1) fun z=>z.2
 subst ev
 rcases a5H St with ⟨_,_,_,z,_⟩ | ⟨_,er,⟨_,m,mb,ea,es⟩ | ⟨z,_⟩⟩
 ·cases z
 rotate_left
 ·exact absurd rfl z
 rw[er]
 refine⟨_,rfl,_,rfl,A,_,_,_,rfl,rfl,SA R3.kp,ax,b,_,0,_,rfl,rfl,TB R3.kp,rfl,rfl,_,rfl,l6 ?_⟩
 have eu:(f (i+1)).under=(f i).under:=by
  generalize f (i+1)=s1 at St
  generalize e:i8.sweep=d at St
  cases St with
  | sweep _=>rfl
  | none h1 _=>subst e;cases h1
  | _=>cases e
 have lun:(una (f (i+1))).length≤63:=by unfold una;rw[aA0,eu];have:=bd.un;omega
 refine⟨_,rfl,ud,_,rfl,.inl R3.hu,fun l0 hl0=>?_⟩
 have ek:((l5 (una (f (i+1))) fun n=>V.int (bg1 n)).map fun q=>kV q.1)=(una (f (i+1))).map V.int:=by unfold l5;rw[aE3];rfl
 rw[ek]
 have t0:=b9 (o:=.lst ((una (f (i+1))).map V.int)) hl0
 have hl1:(upd H' l0 (.lst ((una (f (i+1))).map V.int))) l0=_:=b0
 have R4:=R3.new t0
 generalize upd H' l0 (.lst ((una (f (i+1))).map V.int))=H4 at t0 hl1 R4 ⊢
 refine⟨l0,rfl,⟨_,d7.of hl1⟩,fun ac hac=>?_⟩
 refine C0 (xs:=(una (f (i+1))).map V.int) (fun j Hx=>g6 H4 Hx∧Hx ac=some (.lst ((((una (f (i+1))).take j).map bg1).map V.int))) ⟨b9 hac,b0⟩ (fun j Hx _ h=>d7.of (h.1 _ _ hl1)) (fun j x Hx hx h=>?_) (fun H5 h=>?_)
 ·obtain⟨sm,h1⟩:=h
  rw[aB4]at hx
  obtain⟨n,hn,rfl⟩:=aC9.mp hx
  have dg:=t7.k (k:=Sum.inl n) (sm _ _ R4.hu)
  rw[m9,aB0 (aC5 hn)]at dg
  refine⟨_,rfl,_,rfl,ud,_,rfl,dg,_,h1,n4 (by rw[aA0,aA0,aD6];omega),l8 sm hac,?_⟩
  rw[b0,aD3,hn,aF8,aB2,aB2];rfl
 obtain⟨s5,h5⟩:=h
 rw[aA0,aE0]at h5
 have R5:=R4.new s5
 refine⟨_,rfl,(n9 1),fun a2 ha2=>?_⟩
 have s6:=b9 (o:=.lst [.int ((f i).recs.length:Int)]) ha2
 refine⟨ac,a2,_,_,rfl,rfl,s6 _ _ h5,b0,by rw[aA0,aA0,aF9];simp only[aE5];omega,fun a3 ha3=>?_⟩
 have e3:((una (f (i+1))).map bg1).map V.int++[V.int ((f i).recs.length:Int)]=((una (f (i+1))).map bg1++[((f i).recs.length:Int)]).map V.int:=by rw[aB2];rfl
 rw[e3]
 have s7':=b9 (o:=.lst (((una (f (i+1))).map bg1++[((f i).recs.length:Int)]).map V.int)) ha3
 have R6:=(R5.new s6).new s7'
 refine⟨a3,_,rfl,d7.of b0,by simp,fun m' hm' hle=>?_⟩
 have em:m'=m:=by
  have bs:(una (f (i+1))).map bg1=(f i).under.map (·.beg):=by
   unfold una
   rw[aE3,←eu]
   exact aD9 fun d hd=>hb1 d hd
  rw[bs]at hm' hle
  have low:∀d∈(f i).under,d.beg≤((f i).recs.length:Int):=vs.bg
  by_cases z:(f i).under=[]
  ·rw[z]at hm'
   have:m'=((f i).recs.length:Int):=by simpa using hm'
   rw[this,mb.1 z]
  ·obtain⟨b1,b2⟩:=mb.2 z
   have h1:=hle m (aE2 _ b1)
   obtain⟨dm,hdm,edm⟩:=aA5.mp b1
   rcases aA8.mp hm' with w | w
   ·obtain⟨d,hd,e⟩:=aA5.mp w
    have:=b2 d hd;omega
   ·have:m'=((f i).recs.length:Int):=by simpa using w
    have:=low dm hdm;omega
 subst em
 clear hm' hle
 generalize upd (upd H5 a2 (.lst [.int ((f i).recs.length:Int)])) a3 (.lst (((una (f (i+1))).map bg1++[((f i).recs.length:Int)]).map V.int))=H6 at R6 ⊢
 clear R3 R4 R5 s5 s6 s7' t0 h5 hl1
 have lmk:mk'.length≤10000:=by
  have:=u5 (m:=(f i).vers.map (·.1)) R6.nd fun g hg=>(hky' g).mp hg
  rw[aA0]at this
  have:=bd.ve;omega
 refine⟨_,rfl,md,_,rfl,.inl R6.hm,fun l1 hl1=>?_⟩
 rw[b8j]
 have t1:=b9 (o:=.lst (mk'.map V.str)) hl1
 have hl2:(upd H6 l1 (.lst (mk'.map V.str))) l1=_:=b0
 have R7:=R6.new t1
 have nw1:∀{Hy:Hp} {a:Addr} {u bg mk ml L cs},RA ct md ud Hc Hy u bg mk ml L cs→Hy a=none→Hc a=none:=fun {Hy a u bg mk ml L cs} R h=>by
  cases z:Hc a with
  | none=>rfl
  | some o=>
   exfalso
   have n1:a≠ct:=(d6 R.hc.choose_spec.1 h).symm
   have n2:a≠md:=(d6 R.hm h).symm
   have n3:a≠ud:=(d6 R.hu h).symm
   rw[R.kp _ _ n1 n2 n3 z]at h;cases h
 have nl1:l1≠md:=(d6 R6.hm hl1).symm
 generalize upd H6 l1 (.lst (mk'.map V.str))=H7' at hl2 R7 ⊢
 refine⟨l1,rfl,⟨_,d7.of hl2⟩,?_⟩
 refine B8 (xs:=mk'.map V.str) (fun j σ' Hx=>∃(oB oE:Option V) (ml:Str→Addr),σ'=FR A Tl ct md ud td ((f (i+1)).begun:Int) ((f i).recs.length:Int) (some (.int (0+(i:Int)))) o9 oA oB (some (.int m')) (some (.int ((mk'.take j).map fun g=>((cnt (t8 (f i).vers g) m'-1:Nat):Int)).sum)) oE ∧
   RA ct md ud Hc Hx (una (f (i+1))) bg1 mk' ml (fun g=>if g∈mk'.take j then(Lv (f i).vers g).drop (cnt (t8 (f i).vers g) m'-1) else Lv (f i).vers g) cs∧Hx l1=some (.lst (mk'.map V.str)))
  ⟨_,_,ml',rfl,R7.cong fun g _=>by rw[aA4 (by simp)],hl2⟩ (fun j σ' Hx _ z=>?_) (fun j v σ' Hx hv z=>?_) (fun σ' Hx z=>?_)
 ·obtain⟨_,_,_,_,_,h⟩:=z
  exact d7.of h
 ·obtain⟨oB2,oE2,ml2,rfl,R8,h8⟩:=z
  rw[aB4]at hv
  obtain⟨g,hg,rfl⟩:=aC9.mp hv
  have hgm:=aC5 hg
  have tk:mk'.take (j+1)=mk'.take j++[g]:=by rw[aD3,hg];rfl
  have ng:g∉mk'.take j:=fun z=>by
   have nd':(mk'.take (j+1)).Nodup:=R6.nd.sublist (aK7 _ _)
   rw[tk,aC3]at nd'
   exact nd'.2.2 g z g (by simp) rfl
  have hlg:=(R8.hl g hgm).1
  rw[aA4 ng]at hlg
  have dg:∀{Hy:Hp},g6 Hx Hy→t7 Hy md (.str g) (some (.ref (ml2 g))):=fun {Hy} sy=>by
   have:=t7.k (k:=Sum.inr g) (sy _ _ R8.hm)
   rw[a2V,aB0 hgm]at this
   exact this
  generalize hP:t8 (f i).vers g=ps at hlg
  have eL:Lv (f i).vers g=ps.map (·.1):=by unfold Lv;rw[hP]
  rw[eL]at hlg
  have lps:ps.length≤10000:=by have:=lLv g;rw[eL,aA0]at this;exact this
  refine⟨_,rfl,_,rfl,md,_,rfl,dg (g6.refl Hx),ml2 g,rfl,⟨_,d7.of hlg⟩,fun ol hol=>?_⟩
  refine C0 (xs:=(ps.map (·.1)).map V.int) (fun k Hy=>g6 Hx Hy∧∃ys,Hy ol=some (.lst ys)∧ys.length=cnt (ps.take k) m') ⟨b9 hol,[],b0,rfl⟩ (fun k Hy _ h=>d7.of (h.1 _ _ hlg)) (fun k x Hy hx h=>?_) (fun Hy h=>?_)
  ·obtain⟨sm,ys,h1,h2⟩:=h
   rw[aB4,aB4]at hx
   obtain⟨n,hn,rfl⟩:=aC9.mp hx
   obtain⟨pr,hp,rfl⟩:=aC9.mp hn
   have hc:=a2g (ps.take k) m'
   rw[aD6]at hc
   refine⟨_,rfl,_,rfl,_,_,rfl,rfl,_,rfl,K4 (fun c=>?_) (fun c=>?_)⟩
   ·have c':pr.1≤m':=aF4 c
    refine⟨_,rfl,ys,h1,n4 (by omega),l8 sm hol,_,b0,?_⟩
    rw[a9i hp,aB0 c',aA7,h2];rfl
   ·have c':¬pr.1≤m':=aG9 (aJ9.mpr c)
    refine⟨sm,ys,h1,?_⟩
    rw[a9i hp,aA4 c',h2];rfl
  obtain⟨s9,ys9,h9,l9⟩:=h
  rw[aA0,aA0,aE0]at l9
  have mx:(if (ys9.length:Int)-1>0 then(ys9.length:Int)-1 else 0)=((cnt ps m'-1:Nat):Int):=by
   rw[l9]
   split<;>omega
  refine⟨_,rfl,_,rfl,ol,_,rfl,.inl (d7.of h9),_,_,rfl,rfl,_,_,rfl,_,_,rfl,rfl,?_⟩
  rw[mx]
  refine⟨_,rfl,_,rfl,md,_,rfl,dg s9,_,rfl,ol,_,rfl,.inl (d7.of h9),_,_,rfl,rfl,_,_,rfl,?_⟩
  rw[mx]
  refine⟨_,rfl,ml2 g,_,rfl,d7.of (s9 _ _ hlg),fun a5 ha5=>?_⟩
  rw[a5k,←List.map_drop]
  have R9:=(R8.new s9)
  have n5:=nw1 R9 ha5
  have sA:=b9 (o:=.lst (((ps.map (·.1)).drop (cnt ps m'-1)).map V.int)) ha5
  have RA9:=R9.new sA
  have hl8:=sA _ _ (s9 _ _ h8)
  refine⟨_,rfl,_,rfl,md,_,rfl,J5.k (k:=Sum.inr g) RA9.hm (n4 (by rw[a9W];omega)),?_⟩
  rw[a5V]
  have ead:C3 mk' g=mk':=by unfold C3;rw[aB0 hgm]
  have RB:=RA9.setM N (g:=g) (l:=a5) (ns:=(ps.map (·.1)).drop (cnt ps m'-1)) b0 n5
  rw[ead]at RB ⊢
  refine⟨some (.str g),some (.ref ol),_,?_,RB.cong fun h _=>?_,by rw[b7 nl1];exact hl8⟩
  ·rw[tk,aB2,List.sum_append,aK4,hP]
   simp
  ·unfold a7e
   by_cases z:h=g
   ·rw[aB0 z,z,aB0 (by rw[tk];simp),eL,hP]
   ·rw[aA4 z]
    have:h∈mk'.take (j+1)↔h∈mk'.take j:=by rw[tk,aA8,aA3];exact⟨fun w=>w.resolve_right z,.inl⟩
    dsimp only
    by_cases w:h∈mk'.take j
    ·rw[aB0 w,aB0 (this.mpr w)]
    ·rw[aA4 w,aA4 fun y=>w (this.mp y)]
 obtain⟨oB2,oE2,ml2,rfl,R8,_⟩:=z
 rw[aA0,aE0]at R8 ⊢
 have vnd:=a5p F i (by omega)
 have gs:(mk'.map fun g=>((cnt (t8 (f i).vers g) m'-1:Nat):Int)).sum=N8 (f i).vers m':=by rw[b6h vnd,b9n (a1b R6.nd vnd hky')]
 rw[gs]
 obtain⟨zs,hz1,hz2⟩:=R8.hc
 have lzs:=n6 hz2
 refine⟨_,rfl,.inl ⟨rfl,_,d7.of hz1⟩,_,rfl,_,rfl,(n9 2),fun b2 hb2=>?_⟩
 have sB:=b9 (o:=.tup [.int (0+(i:Int)),.int (N8 (f i).vers m')]) hb2
 refine⟨ct,zs,_,rfl,rfl,sB _ _ hz1,n4 (by omega),_,_,_,_,_,_,_,mk',ml2,bg1,cs++[(i,N8 (f i).vers m')],rfl,((R8.new sB).addC N (q:=(i,N8 (f i).vers m')) (sB _ _ hz1) ⟨b2,rfl,by rw[b0,e0]⟩).cong fun g hg=>?_,hb1,fun g=>?_,fun q hq=>?_,by rw[aA7,aE5];omega⟩
 ·rw[aB0 hg,es]
  unfold Lv
  rw[a2z,swL,List.map_drop]
 ·rw[hky' g,es]
  unfold O0
  rw[aE3];exact Iff.rfl
 ·rcases aA8.mp hq with hq | hq
  ·exact oc q hq
  ·rw[aA3.mp hq,←ea];exact han
inductive a1C(K:PySem.W.Frag)(vs:List V)(H:Hp)(Q:VK):Prop
 | mk (rl rl':Addr→Role) (a b:u9) (x y:V) (x0:vs=[x,y]) (x1:D6 rl H a x) (x2:D6 rl' H b y) (x3:a1z a b) (xq:Q (.bl true) H)
def a7K(K:PySem.W.Frag):Sp:=fun vs H Q _=>a1C K vs H Q
theorem a3J(T:A7 K mg t):g9 P w K mg base y9 2 t.f__law_alike t.d__law_alike ["_law_one","_law_two"] (a7K K):=by
 refine T.F__law_alike.ok a1K (fun vs H Q E h=>?_) (fun cdv A outer s H vs Q E hr h=>?_)
 ·obtain⟨rl,rl',a,b,x,y,rfl,_⟩:=h
  rfl
 obtain⟨rl,rl',a,b,x,y,rfl,ha,hb,al,q⟩:=h
 refine⟨_,(b8 (k7 (PW.pt (L7 (A3 (e7 u4 rfl T.m_isinstance aE8 (a6 (pv 0) (a6 (r9 (v:=.ty "list") rfl T.m_list aJ1 rfl) b6)))) (J3 (A3 (e7 u4 rfl T.m_isinstance aE8 (a6 (pv 1) (a6 (r9 (v:=.ty "list") rfl T.m_list aJ1 rfl) b6)))))))
 (c9 (i4 (V0 (e7 u4 rfl T.m_isinstance aE8 (a6 (pv 0) (a6 (r9 (v:=.ty "list") rfl T.m_list aJ1 rfl) b6))) (a1c (e7 u4 rfl T.m_isinstance aE8 (a6 (pv 1) (a6 (r9 (v:=.ty "list") rfl T.m_list aJ1 rfl) b6)))))))
 j0)
 (b8 (k7 (PW.pt (L7 (f7 a6d (pv 0) P4 (i6 _)) (J3 (f7 a6d (pv 1) P4 (i6 _)))))
 (c9 (i4 (V0 (Q1 a6d (pv 0) P4 (i6 _)) (a1c (Q1 a6d (pv 1) P4 (i6 _))))))
 j0)
 (b8 (k7 (PW.pt (L7 (A3 (e7 u4 rfl T.m_isinstance aE8 (a6 (pv 0) (a6 (r9 (v:=.ty "str") rfl T.m_str aS8 rfl) b6)))) (J3 (A3 (e7 u4 rfl T.m_isinstance aE8 (a6 (pv 1) (a6 (r9 (v:=.ty "str") rfl T.m_str aS8 rfl) b6)))))))
 (c9 (i4 (V0 (e7 u4 rfl T.m_isinstance aE8 (a6 (pv 0) (a6 (r9 (v:=.ty "str") rfl T.m_str aS8 rfl) b6))) (V0 (e7 u4 rfl T.m_isinstance aE8 (a6 (pv 1) (a6 (r9 (v:=.ty "str") rfl T.m_str aS8 rfl) b6))) (a1c (Q1 z8 (pv 0) (pv 1) (i6 _)))))))
 j0)
 (c9 (i4 (V0 (j8 (g9.mono (k:=1) (O1 T) (by decide)) hr rfl T.m__law_whole T.F__law_whole.kp T.F__law_whole.b .nil k8 (a6 (pv 0) b6)) (V0 (j8 (g9.mono (k:=1) (O1 T) (by decide)) hr rfl T.m__law_whole T.F__law_whole.kp T.F__law_whole.b .nil k8 (a6 (pv 1) b6)) (a1c (Q1 z8 (pv 0) (pv 1) (i6 _)))))))))),?_⟩
 cases a with
 | ring rg=>
  cases b<;>try cases al
  obtain⟨l,zs,rfl,h1,_⟩:=ha
  obtain⟨l',zs',rfl,h1',_⟩:=hb
  refine⟨_,rfl,.ref l,"list","list",rfl,.inl ⟨rfl,_,d7.of h1⟩,by decide,_,rfl,l6 ?_⟩
  exact⟨_,rfl,.ref l,"list","list",rfl,.inl ⟨rfl,_,d7.of h1⟩,by decide,_,rfl,l6 ⟨_,rfl,.ref l',"list","list",rfl,.inl ⟨rfl,_,d7.of h1'⟩,by decide,q⟩⟩
 | num i=>
  cases b<;>try cases al
  obtain rfl:=ha
  obtain rfl:=hb
  refine⟨_,rfl,.int i,"int","list",rfl,rfl,by decide,_,rfl,f6 ⟨_,rfl,.int i,"int","list",rfl,rfl,by decide,_,rfl,f6 ?_⟩⟩
  refine⟨_,rfl,rfl,_,rfl,f6 ⟨_,rfl,rfl,_,rfl,f6 ?_⟩⟩
  refine⟨_,rfl,.int i,"int","str",rfl,rfl,by decide,_,rfl,f6 ⟨_,rfl,.int i,"int","str",rfl,rfl,by decide,_,rfl,f6 ?_⟩⟩
  refine⟨_,rfl,.int i,"int",rfl,rfl,_,rfl,l6 ⟨_,rfl,.int i,"int",rfl,rfl,_,rfl,l6 ⟨_,rfl,_,rfl,rfl,?_⟩⟩⟩
  rw[aC6 rfl];exact q
 | word w=>
  cases b<;>try cases al
  obtain rfl:=ha
  obtain rfl:=hb
  refine⟨_,rfl,.str w,"str","list",rfl,rfl,by decide,_,rfl,f6 ⟨_,rfl,.str w,"str","list",rfl,rfl,by decide,_,rfl,f6 ?_⟩⟩
  refine⟨_,rfl,rfl,_,rfl,f6 ⟨_,rfl,rfl,_,rfl,f6 ?_⟩⟩
  refine⟨_,rfl,.str w,"str","str",rfl,rfl,by decide,_,rfl,l6 ?_⟩
  refine⟨_,rfl,.str w,"str","str",rfl,rfl,by decide,_,rfl,l6 ⟨_,rfl,.str w,"str","str",rfl,rfl,by decide,_,rfl,l6 ⟨_,rfl,_,rfl,rfl,?_⟩⟩⟩
  rw[aC6 rfl];exact q
 | non=>
  cases b<;>try cases al
  obtain rfl:=ha
  obtain rfl:=hb
  refine⟨_,rfl,.non,"NoneType","list",rfl,rfl,by decide,_,rfl,f6 ⟨_,rfl,.non,"NoneType","list",rfl,rfl,by decide,_,rfl,f6 ?_⟩⟩
  refine⟨_,rfl,rfl,_,rfl,l6 ⟨_,rfl,rfl,_,rfl,l6 ⟨_,rfl,rfl,?_⟩⟩⟩
  rw[aC6 rfl];exact q
theorem b7l{ks ms:List Str}(p:ks.Perm ms)(h:W3 ks)(k:W3 ms):ks=ms:=by
 unfold W3 at h k
 have:=a7f h k (p.map _)
 exact aU0 (fun a b e=>by
  have e:[(Sum.inr a.cps.toList:Atom)]=[Sum.inr b.cps.toList]:=e
  have e:=aM2 (List.cons.inj e).1
  cases a;cases b
  exact congrArg Str.mk (Array.ext' e)) |>.mp this
def a2j(tm:Am)(js:List Str):Am:=js.map fun g=>(g,(t6 tm g).getD 0)
theorem b5d{ds:List i8}{as:List u9}{st:j5}(R:Run P0 ds as st)(ok:∀d∈ds,X2 d){g:Str}(h:g∈st.vers.map (·.1)):PyData.strOk g=true:=by
 obtain⟨q,hq,rfl⟩:=aA5.mp h
 obtain⟨d,hd,e⟩:=aP4.mp ((a1D R).1.ver q hq)
 have:=ok d hd
 cases d with
 | put n g a=>cases e;exact this.1
 | _=>cases e
theorem b4t{d:i8}(h:X2 d):v7 (dD d)=true∧(dD d).canLay0=true∧(dD d).depth≤3∧Q4 (dD d)≤10:=by
 have s1:PyData.strOk ("begin":Str)=true:=by decide +kernel
 have s2:PyData.strOk ("look":Str)=true:=by decide +kernel
 have s3:PyData.strOk ("put":Str)=true:=by decide +kernel
 have s4:PyData.strOk ("end":Str)=true:=by decide +kernel
 have s5:PyData.strOk ("leave":Str)=true:=by decide +kernel
 have s6:PyData.strOk ("sweep":Str)=true:=by decide +kernel
 cases d with
 | look n g=>have:=h.1;simp[dD,v7,A5,PyData.canLay0,PyData.canLayAll0,PyData.depth,PyData.depthAll,Q4,C7,s2,this]
 | put n g a=>have:=h.1;simp[dD,v7,A5,PyData.canLay0,PyData.canLayAll0,PyData.depth,PyData.depthAll,Q4,C7,s3,this]
 | _=>simp[dD,v7,A5,PyData.canLay0,PyData.canLayAll0,PyData.depth,PyData.depthAll,Q4,C7,s1,s4,s5,s6]
theorem a0Q:∀{ds:List i8},(∀d∈ds,X2 d)→A5 (ds.map dD)=true∧PyData.canLayAll0 (ds.map dD)=true∧PyData.depthAll (ds.map dD)≤3∧C7 (ds.map dD)≤10*ds.length
 | [],_=>by simp[A5,PyData.canLayAll0,PyData.depthAll,C7]
 | d::ds,h=>by
  obtain⟨a1,a2,a3,a4⟩:=b4t (h d aD0)
  obtain⟨b1,b2,b3,b4⟩:=a0Q fun e he=>h e (aC4 _ he)
  rw[aC1,A5,PyData.canLayAll0,PyData.depthAll,C7,a1,b1,a2,b2,aF0]
  exact⟨rfl,rfl,by omega,by omega⟩
theorem b3m{ds:List i8}(h:∀d∈ds,X2 d)(l:ds.length≤1000):W4 (.list (ds.map dD))∧Q4 (.list (ds.map dD))≤1000000:=by
 obtain⟨b1,b2,b3,b4⟩:=a0Q h
 refine⟨⟨by unfold v7;exact b1,by unfold PyData.canLay0;exact b2,by unfold PyData.depth;omega⟩,by unfold Q4;omega⟩
theorem b3t{st s:j5}{tm:Am}{ks js:List Str}(ek:s.vers.map (·.1)=st.vers.map (·.1))(ev:∀x,valOf s x (s.recs.length:Int)=valOf st x (st.recs.length:Int))(pk:ks.Perm (s.vers.map (·.1)))(sk:W3 ks)(pj:js.Perm (tm.map (·.1)))(sj:W3 js)(tn:(tm.map (·.1)).Nodup)(vd:(s.vers.map (·.1)).Nodup)
  (tk:∀g,g∈tm.map (·.1)↔g∈st.vers.map (·.1)) (tv:∀g,(t6 tm g).getD 0=valOf st g (st.recs.length:Int)):a1q s ks=a2j tm js:=by
 rw[ek]at pk vd
 have:ks=js:=b7l (pk.trans ((a1b tn vd tk).symm.trans pj.symm)) sk sj
 subst this
 unfold a1q a2j
 refine aD9 fun g _=>?_
 rw[tv g,ev g]
def ixV(ks:List Nat):List V:=ks.map fun(k:Nat)=>V.int (k:Int)
inductive b2v(K:PySem.W.Frag)(vs:List V)(H:Hp)(Q:VK):Prop
 | mk (a:Addr) (ns:List Int) (x0:vs=[.ref a]) (x1:d7 K H a (ns.map V.int)) (x2:ns.length≤63) (xq:∀H',Q (.bl true) H')
def b9i(K:PySem.W.Frag):Sp:=fun vs H Q _=>b2v K vs H Q
theorem b4y(T:A7 K mg t):g9 P w K mg base y9 11 t.f_law t.d_law ["_law_script"] (b9i K):=by
 refine T.F_law.ok M4 (fun vs H Q E h=>?_) (fun cdv A outer s H vs Q E hr h=>?_)
 ·obtain⟨a,ns,rfl,_⟩:=h
  rfl
 obtain⟨a,ns,rfl,hS,hl,q⟩:=h
 have hu:=M7 hr
 refine⟨_,(b8 (g7 (i:=1) M4.nd rfl (Or.inr rfl) (j8 (g9.mono (k:=10) (a4J T) (by decide)) hr rfl T.m__law_deeds T.F__law_deeds.kp T.F__law_deeds.b .nil k8 (a6 (P2 U0 (pv 0) U1 (T6 (j8 (g9.mono (k:=10) (a6M T) (by decide)) hr rfl T.m__law_room T.F__law_room.kp T.F__law_room.b .nil k8 (a6 (pv 0) (a6 d5 (a6 d5 b6)))))) b6)))
 (b8 (g7 (i:=2) M4.nd rfl (Or.inl rfl) (j8 (g9.mono (k:=10) (a7z T) (by decide)) hr rfl T.m_answers T.F_answers.kp T.F_answers.b .nil k8 (a6 (C9 V1 rfl T.m_list aJ1 (a6 (pv 1) b6)) b6)))
 (b8 (k7 (PW.pt (L7 (K8 (A3 (e7 u4 rfl T.m_isinstance aE8 (a6 (pv 2) (a6 (r9 (v:=.ty "list") rfl T.m_list aJ1 rfl) b6))))) (J3 (f7 M6 (e7 g8 rfl T.m_len aC2 (a6 (pv 2) b6)) (e7 g8 rfl T.m_len aC2 (a6 (pv 1) b6)) (i6 _)))))
 (c9 (i4 A1))
 j0)
 (b8 (k7 (K8 (A3 (j8 (g9.mono (k:=10) (a3o T) (by decide)) hr rfl T.m__law_ends_right T.F__law_ends_right.kp T.F__law_ends_right.b .nil k8 (a6 (pv 1) (a6 (pv 2) b6)))))
 (c9 (i4 A1))
 j0)
 (b8 (z9 aE4 rfl (q5 (j8 (g9.mono (k:=10) (a3x T) (by decide)) hr rfl T.m__law_reckoned T.F__law_reckoned.kp T.F__law_reckoned.b .nil k8 (a6 (pv 1) (a6 (pv 2) b6)))) (a3p rfl (J2 (l4 (i:=3) M4.nd rfl (Or.inl rfl)) (J2 (l4 (i:=4) M4.nd rfl (Or.inl rfl)) a5g)))
 (c9 (k7 (PW.pt (L7 (K8 (A3 (j8 (g9.mono (k:=10) (O1 T) (by decide)) hr rfl T.m__law_whole T.F__law_whole.kp T.F__law_whole.b .nil k8 (a6 (d9 l7 (pv 2) (pv 3) (fun _ _=>rfl)) b6)))) (J3 (f7 M6 (d9 l7 (pv 2) (pv 3) (fun _ _=>rfl)) (pv 4) (i6 _)))))
 (c9 (i4 A1))
 j0)))
 (b8 (a4b (i:=5) M4.nd rfl rfl rfl (N6 rfl T.m_range (a6 (e7 g8 rfl T.m_len aC2 (a6 (pv 1) b6)) b6)) (D5.mk (own:=["_law_k"]) (tl:=["_law_script","_law_asked","_law_told",".","_law_gone","_law_kept","_law_fewer","_law_again","_law_tally","_law_due","_law_rows","_law_handed","_law_found"]) rfl rfl rfl (fun _ _ _ _ _=>(l4 (i:=0) (a4R) rfl (Or.inl rfl))) (fun _ _ _ _ _=>(T7 (f7 M6 (d9 O3 (d9 a1O (pv 2) (pv 0) (fun _ _=>rfl)) d5 (fun _ _=>rfl)) m5 (i6 _)))) (fun _ _ _ _ _=>(pv 0))))
 (b8 (a4b (i:=6) M4.nd rfl rfl rfl (q5 (pv 5)) (D5.mk (own:=["_law_k"]) (tl:=["_law_script","_law_asked","_law_told",".","_law_gone","_law_kept","_law_fewer","_law_again","_law_tally","_law_due","_law_rows","_law_handed","_law_found"]) rfl rfl rfl (fun _ _ _ _ _=>(l4 (i:=0) (a4R) rfl (Or.inl rfl))) (fun _ _ _ _ _=>T9) (fun _ _ _ _ _=>(d9 a1O (pv 2) (pv 0) (fun _ _=>rfl)))))
 (b8 (g7 (i:=7) M4.nd rfl (Or.inl rfl) (j8 (g9.mono (k:=10) (a7z T) (by decide)) hr rfl T.m_answers T.F_answers.kp T.F_answers.b .nil k8 (a6 (C9 V1 rfl T.m_list aJ1 (a6 (pv 6) b6)) b6)))
 (b8 (k7 (PW.pt (L7 (K8 (A3 (e7 u4 rfl T.m_isinstance aE8 (a6 (pv 7) (a6 (r9 (v:=.ty "list") rfl T.m_list aJ1 rfl) b6))))) (J3 (f7 M6 (e7 g8 rfl T.m_len aC2 (a6 (pv 7) b6)) (e7 g8 rfl T.m_len aC2 (a6 (pv 6) b6)) (i6 _)))))
 (c9 (i4 A1))
 j0)
 (b8 (z9 aE4 rfl (N6 rfl T.m_range (a6 (e7 g8 rfl T.m_len aC2 (a6 (pv 5) b6)) b6)) (l4 (i:=3) M4.nd rfl (Or.inl rfl))
 (c9 (k7 (K8 (A3 (j8 (g9.mono (k:=10) (a3J T) (by decide)) hr rfl T.m__law_alike T.F__law_alike.kp T.F__law_alike.b .nil k8 (a6 (d9 l7 (pv 2) (d9 l7 (pv 5) (pv 3) (fun _ _=>rfl)) (fun _ _=>rfl)) (a6 (d9 l7 (pv 7) (pv 3) (fun _ _=>rfl)) b6)))))
 (c9 (i4 A1))
 j0)))
 (b8 (g7 (i:=8) M4.nd rfl (Or.inr rfl) (j8 (g9.mono (k:=10) (a4A T) (by decide)) hr rfl T.m__law_tallied T.F__law_tallied.kp T.F__law_tallied.b .nil k8 (a6 (pv 6) (a6 (pv 7) b6))))
 (b8 (k7 (f7 a6d (pv 8) P4 (i6 _))
 (c9 (i4 A1))
 j0)
 (b8 (a4b (i:=9) M4.nd rfl rfl rfl (q5 (e7 a5f rfl T.m_sorted aR8 (a6 (C9 (P9 rfl) rfl T.m_list aJ1 (a6 (pv 8) b6)) b6))) (D5.mk (own:=["_law_good"]) (tl:=["_law_script","_law_asked","_law_told","_law_k","_law_gone","_law_kept","_law_fewer","_law_again","_law_tally","_law_due","_law_rows","_law_handed","_law_found"]) rfl rfl rfl (fun _ _ _ _ _=>(l4 (i:=0) (b3o) rfl (Or.inl rfl))) (fun _ _ _ _ _=>T9) (fun _ _ _ _ _=>(v3 (a6 (pv 0) (a6 (u3 hu (pv 9) (pv 0) (fun _ _=>rfl)) b6))))))
 (b8 (z9 aE4 rfl (q5 (m7 (a6 (pv 1) (a6 (pv 6) b6)))) (l4 (i:=10) M4.nd rfl (Or.inl rfl))
 (b8 (g7 (i:=11) M4.nd rfl (Or.inl rfl) (C9 V1 rfl T.m_list aJ1 (a6 (pv 10) b6)))
 (b8 (g7 (i:=12) M4.nd rfl (Or.inl rfl) (j8 (g9.mono (k:=10) (b8d T) (by decide)) hr rfl T.m_ending T.F_ending.kp T.F_ending.b .nil k8 (a6 (pv 11) b6)))
 (b8 (k7 (PW.pt (L7 (K8 (A3 (j8 (g9.mono (k:=10) (a1w T) (by decide)) hr rfl T.m__law_unturned T.F__law_unturned.kp T.F__law_unturned.b .nil k8 (a6 (pv 11) (a6 (pv 10) b6))))) (L7 (K8 (A3 (e7 u4 rfl T.m_isinstance aE8 (a6 (pv 12) (a6 (r9 (v:=.ty "tuple") rfl T.m_tuple boot_tuple rfl) b6))))) (J3 (f7 M6 (e7 g8 rfl T.m_len aC2 (a6 (pv 12) b6)) d5 (i6 _))))))
 (c9 (i4 A1))
 j0)
 (c9 (k7 (K8 (A3 (j8 (g9.mono (k:=10) (a8J T) (by decide)) hr rfl T.m__law_table T.F__law_table.kp T.F__law_table.b .nil k8 (a6 (d9 i3 (pv 12) d5 (fun _ _=>rfl)) (a6 (pv 9) b6)))))
 (c9 (i4 A1))
 j0))))))
 (c9 (i4 A1)))))))))))))))),?_⟩
 have ec:a2f (ns.map V.int) none (some 44)=(ns.take 44).map V.int:=by rw[show(44:Int)=((44:Nat):Int) from rfl,a1Q,List.map_take]
 refine⟨_,rfl,_,rfl,a,ns,_,_,rfl,hS,hl,_,rfl,a,_,rfl,hS,fun c hc=>?_⟩
 rw[ec]
 refine⟨c,ns.take 44,rfl,d7.of b0,by rw[aD6];omega,fun A xs ds H2 s2 hA hD lds okd _=>?_⟩
 have lds:ds.length≤63:=by rw[lds,aD6];omega
 have lx:=hD.len
 refine⟨_,rfl,A,_,rfl,.inl (d7.of hA),fun h0 hh0=>?_⟩
 have s3:=b9 (o:=.lst xs) hh0
 refine⟨h0,ds,xs,rfl,b0,hD.tupK s3.tupK,by omega,fun as st rl H3 Tl ys R s4 hT pa nr=>?_⟩
 have s24:=s3.trans s4
 have hA3:=s24 _ _ hA
 have hD3:=hD.tupK s24.tupK
 obtain⟨f,F,f1⟩:=R.to okd (by omega)
 have la:=F.len
 have ly:=n6 pa
 refine⟨_,rfl,.ref Tl,"list","list",rfl,.inl ⟨rfl,_,d7.of hT⟩,by decide,_,rfl,f6 ?_⟩
 refine⟨_,rfl,Tl,ys,rfl,.inl (d7.of hT),_,rfl,A,xs,rfl,.inl (d7.of hA3),rfl,_,rfl,U4 (by rw[ly,la,lx]) ?_⟩
 refine⟨_,rfl,_,rfl,A,Tl,xs,ys,ds,as,rl,f,rfl,hA3,hD3,hT,pa,F,by omega,fun H6 s6=>⟨_,rfl,f6 ?_⟩⟩
 refine⟨_,rfl,_,rfl,A,Tl,xs,ys,ds,as,rl,f,rfl,s6 _ _ hA3,hD3.tupK s6.tupK,s6 _ _ hT,Paired.mapP pa fun _ _ z=>z.same s6,F,by omega,fun cr zc cc H70 s70 hcr pcc occ=>⟨cr,rfl,⟨_,d7.of hcr⟩,?_⟩⟩
 have s370:=s6.trans s70
 have hT70:=s370 _ _ hT
 refine B8 (xs:=zc) (fun j σ' Hc=>∃o3 o4,σ'=[some (.ref a),some (.ref A),some (.ref Tl),o3,o4,none,none,none,none,none,none,none,none]∧Hc=H70) ⟨none,none,rfl,rfl⟩ (fun j σ' Hc _ z=>?_) (fun j v σ' Hc hv z=>?_) (fun σ' Hc z=>?_)
 ·obtain⟨_,_,_,rfl⟩:=z
  exact d7.of hcr
 ·obtain⟨o3,o4,rfl,rfl⟩:=z
  obtain⟨⟨k,g0⟩,hq,b,rfl,hb⟩:=u7 pcc hv
  have hk:=occ _ (aC5 hq)
  have hk:as[k]?=some (.num g0):=hk
  have lk:=(aA2.mp hk).1
  have hyk:=List.getElem?_eq_getElem (show k<ys.length by omega)
  obtain⟨an,han,hy⟩:=u7 (Paired.mapP pa fun _ _ z=>z.same s370:Paired (D6 rl Hc) as ys) hyk
  rw[hk]at han;cases han
  have ayk:F8 ys (k:Int)=some (.int g0):=by rw[←(show ys[k]=V.int g0 from hy)];exact i9 hyk
  refine⟨b,_,rfl,i5.of hb,rfl,_,_,rfl,_,_,rfl,rfl,?_⟩
  refine⟨_,rfl,_,rfl,Tl,_,_,_,rfl,rfl,d7.of hT70,ayk,_,"int",rfl,rfl,_,rfl,f6 ?_⟩
  exact⟨_,rfl,_,rfl,Tl,_,_,_,rfl,rfl,d7.of hT70,ayk,_,rfl,rfl,_,rfl,U4 rfl ⟨_,_,rfl,rfl⟩⟩
 obtain⟨o3,o4,rfl,rfl⟩:=z
 have hA70:=s370 _ _ hA3
 have hD70:=hD3.tupK s370.tupK
 refine⟨_,rfl,A,_,rfl,.inl (d7.of hA70),_,rfl,by omega,by omega,fun Kp hKp=>?_⟩
 have en0:(((xs.length:Nat):Int)).toNat=ds.length:=by omega
 rw[en0]
 refine b7a (fun i H'=>g6 Hc H'∧H' Kp=some (.lst (ixV (C4 ds i)))) ⟨b9 hKp,b0⟩ (fun i H' hi h=>?_) (fun H7 h=>?_)
 ·obtain⟨sm,h1⟩:=h
  have hxi:=List.getElem?_eq_getElem (show i<xs.length by omega)
  obtain⟨d,hd,b,eb,hb⟩:=u7 hD70 hxi
  have e0:(0:Int)+(i:Int)=((i:Nat):Int):=by omega
  have ax:F8 xs ((0:Int)+(i:Int))=some (.ref b):=by rw[e0,←eb];exact i9 hxi
  have lk:=a2T ds i
  rw[a3n hd]
  cases d with
  | sweep=>exact⟨_,rfl,_,rfl,A,_,_,_,rfl,rfl,d7.of (sm _ _ hA70),ax,b,_,0,_,rfl,rfl,i5.of (sm _ _ hb),rfl,rfl,_,rfl,f6 ⟨sm,h1⟩⟩
  | _=>
   refine⟨_,rfl,_,rfl,A,_,_,_,rfl,rfl,d7.of (sm _ _ hA70),ax,b,_,0,_,rfl,rfl,i5.of (sm _ _ hb),rfl,rfl,_,rfl,l6 ⟨_,rfl,_,h1,n4 (by unfold ixV;rw[aA0];omega),l8 sm hKp,?_⟩⟩
   show _=some (HO.lst (ixV (C4 ds i++[i])))
   rw[b0];unfold ixV;rw[aB2,e0];rfl
 obtain⟨s7,hK⟩:=h
 have s37:=s370.trans s7
 have hA7:=s37 _ _ hA3
 have hD7:=hD3.tupK s37.tupK
 have hT7:=s37 _ _ hT
 have pa7:Paired (D6 rl H7) as ys:=Paired.mapP pa fun _ _ z=>z.same s37
 generalize hks:C4 ds ds.length=ks at hK
 have lks:ks.length≤ds.length:=by rw[←hks];exact a2T _ _
 have klt:∀k∈ks,k<ds.length:=fun k hk=>by rw[←hks]at hk;exact a0X hk
 refine⟨_,rfl,Kp,rfl,⟨_,d7.of hK⟩,fun A2 hA2=>?_⟩
 refine C0 (xs:=ixV ks) (fun i H'=>g6 H7 H'∧∃zs es,H' A2=some (.lst zs)∧C1 H' es zs∧es.length=(ks.take i).length∧∀(j k:Nat),(ks.take i)[j]?=some k→es[j]?=ds[k]?) ⟨b9 hA2,[],[],b0,.nil,rfl,fun j k h=>by rw[aP5]at h;simp at h⟩ (fun i H' _ h=>d7.of (h.1 _ _ hK)) (fun i x H' hx h=>?_) (fun H8 h=>?_)
 ·obtain⟨sm,zs,es,h1,h2,h3,h4⟩:=h
  unfold ixV at hx
  rw[aB4]at hx
  obtain⟨k,hk,rfl⟩:=aC9.mp hx
  have lt:=klt k (aC5 hk)
  have li:=(aA2.mp hk).1
  have hxk:=List.getElem?_eq_getElem (show k<xs.length by omega)
  obtain⟨d,hd,b,eb,hb⟩:=u7 hD7 hxk
  have kk:=p9 (o:=.lst (zs++[xs[k]])) h1
  have lzs:=h2.len
  rw[aD6]at h3
  refine⟨_,rfl,_,rfl,A,_,_,_,rfl,rfl,d7.of (sm _ _ hA7),i9 hxk,zs,h1,n4 (by omega),l8 sm hA2,_,es++[d],b0,C1.snoc ⟨b,eb,kk.1 _ _ (sm _ _ hb)⟩ (h2.tupK kk),?_,fun j k' hj=>?_⟩
  ·rw[aA7,h3,aD6];simp only[aE5];omega
  ·rw[aD3,hk,aF8]at hj
   have lt:(ks.take i).length=es.length:=by rw[aD6,h3]
   rcases aP3 j es.length with l | g
   ·rw[aE1 (by omega)]at hj
    rw[aE1 l];exact h4 j k' hj
   ·rw[aE9 (by omega),lt]at hj
    rw[aE9 g]
    have e:j-es.length=0:=by
     have:=(aA2.mp hj).1
     simp only[aE5]at this;omega
    rw[e]at hj ⊢
    cases hj;exact hd.symm
 obtain⟨s8,zs,es,hA28,hE,le,he⟩:=h
 have lik:(ixV ks).length=ks.length:=aA0 _
 rw[lik,aE0]at le he
 have oke:∀d∈es,X2 d:=fun d hd=>by
  obtain⟨j,hj⟩:=aF1.mp hd
  have lj:=(aA2.mp hj).1
  have hk:=List.getElem?_eq_getElem (l:=ks) (i:=j) (by omega)
  rw[he j _ hk]at hj
  exact okd d (aC5 hj)
 have lz:=hE.len
 refine⟨_,rfl,A2,_,rfl,.inl (d7.of hA28),fun h1 hh1=>?_⟩
 have s9:=b9 (o:=.lst zs) hh1
 refine⟨h1,es,zs,rfl,b0,hE.tupK s9.tupK,by omega,fun bs st2 rl2 H9 T2 ws R2 sA hT2 pb nr2=>?_⟩
 have s89:=s9.trans sA
 have s79:=s8.trans s89
 have hA29:=s89 _ _ hA28
 have hE9:=hE.tupK s89.tupK
 have hK9:=s79 _ _ hK
 have hT9:=s79 _ _ hT7
 have pa9:Paired (D6 rl H9) as ys:=Paired.mapP pa7 fun _ _ z=>z.same s79
 obtain⟨g,G,g1⟩:=R2.to oke (by omega)
 have lb:=G.len
 have lw:=n6 pb
 refine⟨_,rfl,.ref T2,"list","list",rfl,.inl ⟨rfl,_,d7.of hT2⟩,by decide,_,rfl,f6 ?_⟩
 refine⟨_,rfl,T2,ws,rfl,.inl (d7.of hT2),_,rfl,A2,zs,rfl,.inl (d7.of hA29),rfl,_,rfl,U4 (by rw[lw,lb,lz]) ?_⟩
 have two:=a4O F G (by rw[hks];exact he) (by rw[hks];exact le)
 refine⟨_,rfl,Kp,_,rfl,.inl (d7.of hK9),_,rfl,by rw[lik];omega,by rw[lik];omega,?_⟩
 have en:((((ixV ks).length:Nat):Int)).toNat=ks.length:=by rw[lik];omega
 rw[en]
 refine N7 (fun i σ' Hc=>∃o3 o4,σ'=[some (.ref a),some (.ref A),some (.ref Tl),o3,o4,some (.ref Kp),some (.ref A2),some (.ref T2),none,none,none,none,none]∧Hc=H9) ⟨_,_,rfl,rfl⟩ (fun i σ' Hc hi z=>?_) (fun σ' Hc z=>?_)
 ·obtain⟨o3,o4,rfl,rfl⟩:=z
  have e0:(0:Int)+(i:Int)=((i:Nat):Int):=by omega
  have hk:=List.getElem?_eq_getElem hi
  have lt:=klt ks[i] (aC5 hk)
  generalize ks[i]=k at hk lt
  have ak:F8 (ixV ks) ((0:Int)+(i:Int))=some (.int (k:Int)):=by rw[e0];exact i9 (by unfold ixV;rw[aB4,hk];rfl)
  have hyk:=List.getElem?_eq_getElem (show k<ys.length by omega)
  have hwi:=List.getElem?_eq_getElem (show i<ws.length by omega)
  obtain⟨an,han,hy⟩:=u7 pa9 hyk
  obtain⟨bn,hbn,hw⟩:=u7 pb hwi
  have aw:F8 ws ((0:Int)+(i:Int))=some ws[i]:=by rw[e0];exact i9 hwi
  have hd:=List.getElem?_eq_getElem lt
  have kk:Y8 ds[k]=true∧(C4 ds k).length=i:=by
   rw[←hks]at hk
   exact b2u hk hd
  obtain⟨a',b',ea,eb,al⟩:=(two ds.length (aB3 _)).2 k _ lt hd kk.1
  rw[kk.2]at eb
  rw[han]at ea;cases ea
  rw[hbn]at eb;cases eb
  refine⟨_,rfl,_,rfl,_,rfl,Kp,_,_,_,rfl,rfl,d7.of hK9,ak,Tl,_,_,_,rfl,rfl,d7.of hT9,i9 hyk,_,rfl,_,rfl,T2,_,_,_,rfl,rfl,d7.of hT2,aw,rl,rl2,an,bn,_,_,rfl,hy,hw,al,_,rfl,f6 ⟨_,_,rfl,rfl⟩⟩
 obtain⟨o3,o4,rfl,rfl⟩:=z
 refine⟨_,rfl,_,rfl,A2,T2,zs,ws,es,bs,rl2,g,rfl,hA29,hE9,hT2,pb,G,by omega,fun ta tm HA sB hta tn tk tv ltm=>?_⟩
 refine⟨_,rfl,rfl,_,rfl,f6 ?_⟩
 have ltv:tm.length≤63:=by
  have:=u5 (m:=(g es.length).vers.map (·.1)) tn fun x hx=>(tk x).mp hx
  rw[aA0,aA0,g1]at this
  have:=a5S R2
  omega
 refine⟨_,rfl,ta,_,rfl,.inl hta,fun l1 hl1=>?_⟩
 rw[a3u]
 have sC:=b9 (o:=.lst ((tm.map (·.1)).map V.str)) hl1
 refine⟨l1,_,rfl,d7.of b0,⟨by rw[aA0,aA0];omega,fun x hx=>by obtain⟨z,_,rfl⟩:=aA5.mp hx;exact⟨z,rfl⟩⟩,fun l2 js' hl2 pm io=>?_⟩
 obtain⟨js,rfl,pj⟩:=K1 pm
 unfold O5 at io
 rw[aE3]at io
 have sD:=b9 (o:=.lst (js.map V.str)) hl2
 have hl3:(upd (upd HA l1 (.lst ((tm.map (·.1)).map V.str))) l2 (.lst (js.map V.str))) l2=_:=b0
 have sBD:=(sB.trans sC).trans sD
 have htD:=sD _ _ (sC _ _ hta)
 generalize upd (upd HA l1 (.lst ((tm.map (·.1)).map V.str))) l2 (.lst (js.map V.str))=HD at hl3 sBD htD ⊢
 have ljs:js.length≤63:=by rw[pj.length_eq,aA0];exact ltv
 refine⟨l2,rfl,⟨_,d7.of hl3⟩,fun du hdu=>?_⟩
 refine C0 (xs:=js.map V.str) (fun i H'=>g6 HD H'∧∃ps,H' du=some (.lst ps)∧Prs H' (a2j tm (js.take i)) ps) ⟨b9 hdu,[],b0,.nil⟩ (fun i H' _ h=>d7.of (h.1 _ _ hl3)) (fun i x H' hx h=>?_) (fun HF h=>?_)
 ·obtain⟨sm,ps,h1,h2⟩:=h
  rw[aB4]at hx
  obtain⟨z,hz,rfl⟩:=aC9.mp hx
  have dg:=t7.k (k:=Sum.inr z) (sm _ _ htD)
  rw[V9]at dg
  have hin:z∈tm.map (·.1):=pj.mem_iff.mp (aC5 hz)
  cases hg:t6 tm z with
  | none=>exact absurd hin (a7x hg)
  | some x=>
   rw[hg]at dg
   refine⟨_,rfl,_,rfl,_,rfl,ta,_,rfl,dg,(n9 2),fun b hb=>?_⟩
   have s4:=b9 (o:=.tup [V.str z,V.int x]) hb
   have k4:=p9 (o:=.lst (ps++[V.ref b])) (s4 _ _ h1)
   refine⟨ps,s4 _ _ h1,n4 (by rw[n6 h2];unfold a2j;rw[aA0,aD6];omega),l8 (sm.trans s4) hdu,_,b0,?_⟩
   have et:a2j tm (js.take (i+1))=a2j tm (js.take i)++[(z,x)]:=by
    unfold a2j
    rw[aD3,hz,aF8,aB2,aK4,hg];rfl
   rw[et]
   exact aK3 ((h2.tupK s4.tupK).tupK k4) ⟨b,rfl,k4.1 _ _ b0⟩
 obtain⟨sE,ps,hdu1,hps⟩:=h
 rw[aA0,aE0]at hps
 have sF:=sBD.trans sE
 have row:∀v,v∈[V.ref A,V.ref A2]→∃(X:Addr) (cs:List V) (ds':List i8),v=.ref X∧HF X=some (.lst cs)∧C1 HF ds' cs∧ds'.length≤63∧(∀d∈ds',X2 d)∧∀as st,Run P0 ds' as st→st.vers.map (·.1)=(g es.length).vers.map (·.1)∧∀x,valOf st x (st.recs.length:Int)=valOf (g es.length) x ((g es.length).recs.length:Int):=fun v hv=>by
  rcases aB9.mp hv with rfl | hv
  ·refine⟨A,xs,ds,rfl,sF _ _ (s79 _ _ hA7),(hD7.tupK s79.tupK).tupK sF.tupK,by omega,okd,fun as' st' R'=>?_⟩
   obtain⟨f',F',f1'⟩:=R'.to okd (by omega)
   have lk:=a1j F' F ds.length (aB3 _)
   rw[f1']at lk
   have L:=(two ds.length (aB3 _)).1
   rw[hks,←le]at L
   refine⟨by rw[lk.ve];exact L.ky,fun x=>?_⟩
   have:=L.vl x _ (.inl rfl)
   unfold valOf at this ⊢
   rw[lk.ve,lk.rc,this,L.rc]
  ·have hv:=aA3.mp hv
   subst hv
   refine⟨A2,zs,es,rfl,sF _ _ hA29,hE9.tupK sF.tupK,by omega,oke,fun as' st' R'=>?_⟩
   obtain⟨f',F',f1'⟩:=R'.to oke (by omega)
   have lk:=a1j F' G es.length (aB3 _)
   rw[f1']at lk
   exact⟨by rw[lk.ve],fun x=>by unfold valOf;rw[lk.ve,lk.rc]⟩
 refine⟨_,rfl,_,rfl,(n9 2),fun rw0 hrw=>?_⟩
 have sG:=b9 (o:=.lst [V.ref A,V.ref A2]) hrw
 have hr1:(upd HF rw0 (.lst [V.ref A,V.ref A2])) rw0=_:=b0
 generalize upd HF rw0 (.lst [V.ref A,V.ref A2])=HG at sG hr1 ⊢
 refine⟨rw0,rfl,⟨_,d7.of hr1⟩,?_⟩
 refine B8 (xs:=[V.ref A,V.ref A2]) (fun j σ' Hc=>∃o9 oA oB:Option V,σ'=[some (.ref a),some (.ref A),some (.ref Tl),o3,o4,some (.ref Kp),some (.ref A2),some (.ref T2),some (.ref ta),some (.ref du),o9,oA,oB]∧g6 HG Hc) ⟨none,none,none,rfl,g6.refl HG⟩ (fun j σ' Hc _ z=>?_) (fun j v σ' Hc hv z=>?_) (fun σ' Hc z=>?_)
 ·obtain⟨_,_,_,_,sc⟩:=z
  exact d7.of (sc _ _ hr1)
 ·obtain⟨o9,oA,oB,rfl,sc⟩:=z
  obtain⟨X,cs,ds',rfl,hX,hDX,lX,okX,rX⟩:=row v (aC5 hv)
  have sc':=sG.trans sc
  refine⟨_,rfl,X,_,rfl,.inl (d7.of (sc' _ _ hX)),fun hh hhh=>?_⟩
  have sH:=b9 (o:=.lst cs) hhh
  refine⟨_,rfl,hh,ds',cs,rfl,b0,(hDX.tupK sc'.tupK).tupK sH.tupK,lX,fun as' st' p W r HI R' sI hp hW am=>?_⟩
  obtain⟨ev,er⟩:=rX as' st' R'
  have sHI:=sH.trans sI
  have dI:=(hDX.tupK sc'.tupK).tupK sHI.tupK
  obtain⟨fin,siz⟩:=b3m okX (by omega)
  refine⟨_,rfl,_,rfl,.ref hh,.ref X,.list (ds'.map dD),rfl,by unfold Rep;exact⟨hh,_,rfl,d7.of (sI _ _ b0),dI.reps⟩,by unfold Rep;exact⟨X,_,rfl,d7.of (sHI _ _ (sc' _ _ hX)),dI.reps⟩,fin,siz,fun HJ sJ=>⟨_,rfl,f6 ?_⟩⟩
  obtain⟨xs',ks',a1,a2,a3,a4⟩:=am
  have td:=b3t ev er a3 a4 pj io tn (a1D R').2 tk tv
  rw[td]at a2
  have hpJ:=sJ _ _ hp
  have sIJ:=sHI.trans sJ
  refine⟨_,rfl,.ref p,"tuple","tuple",rfl,.inr (.inl ⟨rfl,_,i5.of hpJ⟩),by decide,_,rfl,f6 ?_⟩
  refine⟨_,rfl,p,_,rfl,.inr (i5.of hpJ),rfl,_,rfl,f6 ?_⟩
  refine⟨_,rfl,p,_,1,_,rfl,rfl,i5.of hpJ,rfl,_,rfl,r,du,xs',ps,a2j tm js,rfl,d7.of (sJ _ _ a1),d7.of ((sc'.trans sIJ) _ _ hdu1),a2.tupK sJ.tupK,hps.tupK (sc'.trans sIJ).tupK,by unfold a2j;rw[aA0];omega,fun pr hpr=>?_,_,rfl,f6 ⟨_,_,_,rfl,sc.trans sIJ⟩⟩
  obtain⟨z,hz,rfl⟩:=aA5.mp hpr
  have hz:z∈(g es.length).vers.map (·.1):=(tk z).mp (pj.mem_iff.mp hz)
  rw[g1]at hz
  exact b5d R2 oke hz
 ·exact q _
end
noncomputable section
theorem hM{P:Params}{f:Addr}{n q:Str}{s:Stmt}{m:Str}{t c:Nat}{ps:List Str}(h:((KK P).lookup f,PySem.W.codeIn (KK P) (.ref c) q,PySem.W.keepIn (KK P) (.ref f))=(some (hO (hF n q s m t c)),true,true))
  (b:∀us:List Value,us.length=ps.length→bindArgs (hF n q s m t c) ⟨us,[]⟩=pure (ps.zip us)):FB (KK P) n q s f (hF n q s m t c) ps:=by
 injection h with h1 h2
 injection h2 with h2 h3
 exact⟨b2y h1 h2 h3,.all b⟩
theorem all_mk{P:Params}{h:Heap}{mg:Str→Option Value}(X:(KK P).In h)(G:h.Ns mainGlobals mg):A7 (KK P) mg hT:=⟨hM (by kernel_rfl) (fun u h=>match u,h with | [_,_],_=>rfl),aD2 X G (by kernel_rfl),
 hM (by kernel_rfl) (fun u h=>match u,h with | [_,_,_,_],_=>rfl),aD2 X G (by kernel_rfl),
 hM (by kernel_rfl) (fun u h=>match u,h with | [_,_],_=>rfl),aD2 X G (by kernel_rfl),
 hM (by kernel_rfl) (fun u h=>match u,h with | [_,_],_=>rfl),aD2 X G (by kernel_rfl),
 hM (by kernel_rfl) (fun u h=>match u,h with | [_,_,_],_=>rfl),aD2 X G (by kernel_rfl),
 hM (by kernel_rfl) (fun u h=>match u,h with | [_,_],_=>rfl),aD2 X G (by kernel_rfl),
 hM (by kernel_rfl) (fun u h=>match u,h with | [_],_=>rfl),aD2 X G (by kernel_rfl),
 hM (by kernel_rfl) (fun u h=>match u,h with | [_,_],_=>rfl),aD2 X G (by kernel_rfl),
 hM (by kernel_rfl) (fun u h=>match u,h with | [_,_],_=>rfl),aD2 X G (by kernel_rfl),
 hM (by kernel_rfl) (fun u h=>match u,h with | [_,_],_=>rfl),aD2 X G (by kernel_rfl),
 hM (by kernel_rfl) (fun u h=>match u,h with | [_,_],_=>rfl),aD2 X G (by kernel_rfl),
 hM (by kernel_rfl) (fun u h=>match u,h with | [_,_],_=>rfl),aD2 X G (by kernel_rfl),
 hM (by kernel_rfl) (fun u h=>match u,h with | [_,_,_],_=>rfl),⟨(by kernel_rfl),(by kernel_rfl),(by kernel_rfl),(by kernel_rfl)⟩,
 hM (by kernel_rfl) (fun u h=>match u,h with | [_,_],_=>rfl),⟨(by kernel_rfl),(by kernel_rfl),(by kernel_rfl)⟩,
 hM (by kernel_rfl) (fun u h=>match u,h with | [_],_=>rfl),⟨(by kernel_rfl),(by kernel_rfl),(by kernel_rfl),(by kernel_rfl)⟩,
 hM (by kernel_rfl) (fun u h=>match u,h with | [_],_=>rfl),⟨(by kernel_rfl),(by kernel_rfl),(by kernel_rfl)⟩,
 hM (by kernel_rfl) (fun u h=>match u,h with | [_],_=>rfl),⟨(by kernel_rfl),(by kernel_rfl),(by kernel_rfl)⟩,
 hM (by kernel_rfl) (fun u h=>match u,h with | [_,_,_],_=>rfl),⟨(by kernel_rfl),(by kernel_rfl),(by kernel_rfl)⟩,
 hM (by kernel_rfl) (fun u h=>match u,h with | [_,_,_,_],_=>rfl),⟨(by kernel_rfl),(by kernel_rfl),(by kernel_rfl)⟩,
 hM (by kernel_rfl) (fun u h=>match u,h with | [_,_],_=>rfl),⟨(by kernel_rfl),(by kernel_rfl),(by kernel_rfl)⟩,
 hM (by kernel_rfl) (fun u h=>match u,h with | [_,_],_=>rfl),⟨(by kernel_rfl),(by kernel_rfl),(by kernel_rfl)⟩,
 hM (by kernel_rfl) (fun u h=>match u,h with | [_,_],_=>rfl),⟨(by kernel_rfl),(by kernel_rfl),(by kernel_rfl)⟩,
 hM (by kernel_rfl) (fun u h=>match u,h with | [_],_=>rfl),⟨(by kernel_rfl),(by kernel_rfl),(by kernel_rfl)⟩,
 hM (by kernel_rfl) (fun u h=>match u,h with | [_],_=>rfl),⟨(by kernel_rfl),(by kernel_rfl),(by kernel_rfl)⟩,
 hM (by kernel_rfl) (fun u h=>match u,h with | [_,_],_=>rfl),aD2 X G (by kernel_rfl),
 hM (by kernel_rfl) (fun u h=>match u,h with | [_,_],_=>rfl),aD2 X G (by kernel_rfl),
 hM (by kernel_rfl) (fun u h=>match u,h with | [_,_],_=>rfl),aD2 X G (by kernel_rfl),
 hM (by kernel_rfl) (fun u h=>match u,h with | [_,_],_=>rfl),aD2 X G (by kernel_rfl),
 hM (by kernel_rfl) (fun u h=>match u,h with | [_],_=>rfl),aD2 X G (by kernel_rfl),
 hM (by kernel_rfl) (fun u h=>match u,h with | [_],_=>rfl),aD2 X G (by kernel_rfl),
 hM (by kernel_rfl) (fun u h=>match u,h with | [_],_=>rfl),aD2 X G (by kernel_rfl),
 hM (by kernel_rfl) (fun u h=>match u,h with | [_,_],_=>rfl),aD2 X G (by kernel_rfl),
 hM (by kernel_rfl) (fun u h=>match u,h with | [_,_,_],_=>rfl),aD2 X G (by kernel_rfl),
 hM (by kernel_rfl) (fun u h=>match u,h with | [_],_=>rfl),aD2 X G (by kernel_rfl),
 hM (by kernel_rfl) (fun u h=>match u,h with | [_,_],_=>rfl),aD2 X G (by kernel_rfl),
 hM (by kernel_rfl) (fun u h=>match u,h with | [_,_],_=>rfl),aD2 X G (by kernel_rfl),
 hM (by kernel_rfl) (fun u h=>match u,h with | [_],_=>rfl),aD2 X G (by kernel_rfl),
 hM (by kernel_rfl) (fun u h=>match u,h with | [_],_=>rfl),aD2 X G (by kernel_rfl),
 hM (by kernel_rfl) (fun u h=>match u,h with | [_,_],_=>rfl),aD2 X G (by kernel_rfl),
 hM (by kernel_rfl) (fun u h=>match u,h with | [_,_],_=>rfl),aD2 X G (by kernel_rfl),
 hM (by kernel_rfl) (fun u h=>match u,h with | [_,_],_=>rfl),aD2 X G (by kernel_rfl),
 hM (by kernel_rfl) (fun u h=>match u,h with | [_,_],_=>rfl),aD2 X G (by kernel_rfl),
 hM (by kernel_rfl) (fun u h=>match u,h with | [_,_],_=>rfl),aD2 X G (by kernel_rfl),
 hM (by kernel_rfl) (fun u h=>match u,h with | [_,_],_=>rfl),aD2 X G (by kernel_rfl),
 hM (by kernel_rfl) (fun u h=>match u,h with | [_,_],_=>rfl),aD2 X G (by kernel_rfl),
 hM (by kernel_rfl) (fun u h=>match u,h with | [_],_=>rfl),aD2 X G (by kernel_rfl),
 ⟨(by kernel_rfl),(by kernel_rfl),(by kernel_rfl),(by kernel_rfl)⟩,aD2 X G (by kernel_rfl),
 (by unfold x9;kernel_rfl),
 (by unfold x9;kernel_rfl),
 (by unfold x9;kernel_rfl),
 (by unfold x9;kernel_rfl),
 ⟨(by kernel_rfl),(by kernel_rfl),(by kernel_rfl),(by kernel_rfl)⟩,aD2 X G (by kernel_rfl),
 (by unfold x9;kernel_rfl),
 (by unfold x9;kernel_rfl),
 (by unfold x9;kernel_rfl),
 (by unfold x9;kernel_rfl),
 (by unfold x9;kernel_rfl),
 (by unfold x9;kernel_rfl),
 aF7 X G (by kernel_rfl),
 aF7 X G (by kernel_rfl),
 aF7 X G (by kernel_rfl),
 aF7 X G (by kernel_rfl),
 aF7 X G (by kernel_rfl),
 aF7 X G (by kernel_rfl),
 aF7 X G (by kernel_rfl),
 aF7 X G (by kernel_rfl),
 aF7 X G (by kernel_rfl),
 aF7 X G (by kernel_rfl),
 aF7 X G (by kernel_rfl),
 aF7 X G (by kernel_rfl),
 aF7 X G (by kernel_rfl),
 aF7 X G (by kernel_rfl),
 aD2 X G (by kernel_rfl),⟨_,rfl⟩,
 aD2 X G (by kernel_rfl),⟨_,rfl⟩,
 aD2 X G (by kernel_rfl),⟨_,rfl⟩,
 aD2 X G (by kernel_rfl),⟨_,rfl⟩,
 aD2 X G (by kernel_rfl),⟨_,rfl⟩,
 aD2 X G (by kernel_rfl),⟨_,rfl⟩,
 aD2 X G (by kernel_rfl),⟨_,rfl⟩⟩
theorem hD0:PySem.W.defOf hQ (PySem.W.OpenLaw.row PySem.Challenge.rw_tallyhall_k11_whole_sweeping).name=some (⟨"law",a2b S3,W8 S3,i7 S3,(b6e S3)⟩,[]):=by kernel_rfl
theorem hW:PySem.W.WalkO hQ hL (PySem.W.XL hQ []) (PySem.W.Hook.says hH) (PySem.W.OpenRow.toRowW (PySem.W.OpenLaw.row PySem.Challenge.rw_tallyhall_k11_whole_sweeping)) ⟨"law",a2b S3,W8 S3,i7 S3,(b6e S3)⟩ [] (fun f vs=>PySem.call f vs):=
 L2.b5s (l:=PySem.Challenge.rw_tallyhall_k11_whole_sweeping) (n:=63) (k:=11) (x:="_law_script") (K:=KK) (CX:=fun _=>y9) (sp:=fun w=>b9i (KK w.params)) rfl (by decide) rfl ⟨rfl,by decide,by decide⟩ (fun w h Y=>PySem.W.kIn_of Y)
  (fun w mg fa h X G e=>by
   have e1:=e.symm.trans (aD2 X G (v:=.ref 342) (by kernel_rfl))
   cases e1
   exact⟨hT.d_law,fun s v=>.of_eq rfl,fun base _ _=>b4y (all_mk X G)⟩)
  (fun _ _ a ns hl _ hS=>⟨a,ns,rfl,hS,hl,fun _=>rfl⟩) fun _ _ _ _ _ z=>z
end
end My
open PySem PySem.W PyProof.Rows
set_option maxRecDepth 100000 in
set_option maxHeartbeats 0 in
theorem PySem.Challenge.cw_tallyhall_k11_whole_sweeping_holds : PySem.Challenge.rw_tallyhall_k11_whole_sweeping.Holds := by
 refine PySem.W.holds_law (by kernel_rfl) fun said=>?_
 refine PySem.W.holds_open (q:=My.hQ) (loose:=My.hL) (Xt:=My.hX) (XP:=XL My.hQ []) (Yf:=Hook.obs My.hH) (Ya:=Hook.val My.hH) (YP:=Hook.says My.hH) My.b1E (Hook.of My.hH) (Hook.keeps My.hH) (fun s e=>xl_of s (Bool.and_eq_true_iff.mp e).1) XL.keeps My.hD0 (by kernel_rfl) rfl (fun s e=>recFacts_of (Bool.and_eq_true_iff.mp e).2) rfl said (by kernel_rfl) ⟨rfl,rfl,rfl,rfl,rfl,by decide +kernel⟩ ?hw My.hW
 case hw=>w_witness2
