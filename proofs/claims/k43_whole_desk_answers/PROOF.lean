import PyProof.Rows.All
import Wide.All
import OpenK.AllK
import Wide.FinOn
import Lean
import PyProof.EqAt
import PyProof.EqKinds
import PyProof.TupleCall
import PyProof.StrWalks
import PyProof.ConsumeWalk
import PyProof.IsiPairs
import PyProof.IsiHeapPairs
import PyProof.StationsW
import OpenK.KOwn
import KE.KIsAll
import PyProof.ExcAttrAll.ValueError
import PyProof.Rows.StrWeight2
import KE.KLam
import KE.KSortKey
import PyProof.ListRange
import KE.KRevSl
import PyProof.EnumStmt
import PyProof.EnumMake
import PyProof.NeKinds
import PyProof.Rows.SumAny
import PyProof.SliceStr2
import PyProof.StrOps2
import PyProof.MinMaxWalk
import PyProof.ZipIter
import KE.KIntText
import PyProof.StrCalls2
import PyProof.StrLawsTight
import PyProof.StrLawsChain
import PyProof.Rows.StrItems
import PyProof.Rows.FStr
import PyProof.CallStr
import PySem.Challenge.RW_stairgauge_k43_whole_desk_answers
set_option linter.all false
set_option maxRecDepth 100000
set_option Elab.async false
set_option maxHeartbeats 0
set_option hygiene false
open _root_ renaming List->qx,Option->rW,if_neg->NS,if_pos->NW,decide_eq_true->N2,decide_eq_false->N8,of_decide_eq_true->Oc,of_decide_eq_false->Ou,congrArg->OI,or_false->Px,ne_true_of_eq_false->Qm,decide_eq_true_eq->Qu,decide_eq_decide->QG,Nat->u6,Int->u7,absurd->wz,Bool->yW,False->zh,Array->zR,String->BP,True->MK
open PySem renaming Addr->qA,Value->qT,Shared->rK,World->sW,Program->tq,Expr->tW,Around->uc,wpAny_bind->N9,wpAny_pure->OB,wpAny_mono->Pa,wpAny_truthy_bool->Pu,call_meets->PF,wpAny_standAt->PV,wpAny_Call_Name_kw->P5,wpAny_passesOwn->Qb,wpAny_holding->Qc,wpAny_pyIter_list->Qd,wpAny_loadPart_at->Qe,mem_of_lookup->Ql,tupleKind_room_in1->Qp,wpAny_field->QH,codeAny_mono->QQ,wpAny_bindName->QR,wpAny_newObj_type->QX,wpAny_execs_nil->Rp,wpAny_call->Rq,typeIs_str->Rr,wpAny_isSubtype_exc->RA,sizeLine_eq->RC,Str->va,wpAny->xA,Heap->yk,starEach->zb,Stmt->zc,mainGlobals->ze,compareOp->zm,bootBuiltins->zt,behindInMarks->zL,backTo->zV,keywordEach->AR,foldedSetIterable->AX,Scope->A3,NameKind->Bv,FuncData->BS,sysModules->BV,binaryOp->CN,attributeBase->CT,backToKw->CU,getMethod->DA,cLine->DK,codeAny->Eb,excClassObj->Ed,letOwnedTupleGo->El,callWith->FA,argBest->Gm,slicePicked->Gw,swapsWith->HW,Keyword->Ig,assignEach->IU,BindsTo->U5,callerA->U6,tupleKind->U9,ExceptHandler->Vd,noteFrame->Vv,toDigits_len_pow->VE,toDigits_len_ge->VH,Within->VZ,list_append->Wh,call->Wy,Fin->WI
open PySem.W renaming Frag->R7,methodCall_KW->P7,callWith_K->QM,mg_of->Q1,plainGet_of->Rv,callWith_K0->Rx,findIn->zD,keepIn->zE,emptyDict->zN,instObj->Br,excIn->BM,fnOf->B0,nsIn->Dr,makesIn->EH,codeIn->Ge,plainGet->GG,lookIn->U4,methodObj->Vf,hasDictIn->Vg,isFn->Vo,takerIn->Vt,cellsFrom_some->Vx,plainOver->Wf,specialIn->Wg,handedIn->Wm,OpenLaw->Wz,WalkO->WL
open List renaming length_map->NR,mem_of_getElem?->NU,getElem?_eq_getElem->NV,getElem?_eq_some_iff->NX,getD_eq_getElem?_getD->NY,mem_singleton->NZ,length_append->N1,mem_cons_of_mem->N4,mem_cons->N5,mem_cons_self->N6,getElem?_map->N7,map_append->Od,mem_append->Oe,size_toArray->Og,length_cons->Oh,length_take->Oi,mem_range->Oq,mem_append_right->Ot,take_add_one->Ov,mem_map->Ow,mem_append_left->Oy,take_length->OF,not_mem_nil->OG,map_cons->OH,map_map->OK,find?_cons->OM,take_of_length_le->OP,mem_filter->OQ,nodup_cons->OS,length_drop->OY,length_filter_le->O0,getElem?_append_left->O1,mem_iff_getElem->O2,all_eq_true->O3,length_replicate->O4,length_range->O7,getElem?_append_right->O9,find?_cons_of_neg->Pb,replicate_succ->Pc,lookup_cons->Pd,append_assoc->Pf,foldl_append->Pg,eq_nil_of_length_eq_zero->Pk,getElem_mem->Pm,sum_cons->Po,flatten_cons->Pr,find?_cons_of_pos->Pz,any_cons->PD,cons_ne_nil->PJ,filter_append->PL,append_nil->PN,range_succ->PQ,length_nil->PR,map_congr_left->PX,filter_cons->PZ,find?_eq_none->P2,length_set->P8,length_singleton->P9,length_zip->Qa,getElem?_zip_eq_some->Qh,nodup_nil->Qi,mem_filterMap->Qo,take_append_of_le_length->Qr,nodup_append->Qt,eq_nil_or_concat->Qw,concat_eq_append->Qx,map_set->Qy,length_dropLast->QD,mem_of_mem_drop->QE,mem_of_mem_take->QF,of_mem_zip->QI,pairwise_iff_getElem->QJ,mem_or_eq_of_mem_set->QL,all_map->QP,getElem?_replicate->QS,length_eq_zero_iff->QT,any_eq_false->QV,take_nil->Q2,getElem_inj->Q5,any_eq_true->Q6,getElem_map->Q7,mem_iff_getElem?->Rb,eraseIdxIfInBounds_toArray->Rg,getElem?_set_ne->Ri,map_nil->Rl,filterMap_cons->Rt,getElem_of_mem->Ry,length_pos_iff->Rz,pairwise_cons->RF,mem_replicate->RI,all_cons->RL,drop_nil->RN,ext_getElem->RS,cons_append->RT,replicate->wo,range->wx,set->x8,lookup->BZ,length->Dl,mem_of_find?_eq_some->Vl,getLast?_eq_getElem?->Vm,pairwise_singleton->Vs,getElem?_set_self->Vw,drop_eq_nil_of_le->VB,length_pos_of_mem->VC,take_succ_cons->VS,drop_succ_cons->VT,getElem?_range->VU,getElem_range->Wb,any_map->Wc,filter_filter->We,find?_append->Wi,foldl->Wu,foldl_cons->Wv,sum_append->WB,idxOf_cons->WD,drop_zero->WG,map_id'->Xl
open Nat renaming le_refl->N0,le_trans->Ob,le_of_lt->OA,ne_of_lt->OC,zero_le->ON,lt_of_lt_of_le->OT,not_lt_zero->OU,min_le_left->OX,le_succ->Pe,lt_of_le_of_lt->Pl,mul_le_mul_right->Pq,lt_irrefl->PB,lt_succ_self->PY,not_lt->Qf,lt_succ_iff_lt_or_eq->Qk,lt_succ_of_lt->Qs,succ_le_succ->QC,succ_pos->QO,le_succ_of_le->QW,le_add_right->Q8,le_of_ble_eq_true->Rf,ne_of_gt->Rj,le_of_eq->Rk,isDigit_of_mem_toDigits->RH,min_le_right->RP,le_of_not_lt->RQ,sub_self->RU,min_eq_left->RY,one_mul->R0,toDigits->Jn,lt_trichotomy->Wj,le_zero->Wk,succ_ne_self->Wr,min_eq_right->Ws,succ_mul->Xg,mul_comm->Xh,lt_trans->Xi,sub_zero->Xj,log2_lt->Xw
open PySem.Heap renaming get?_push_of_some->N3,lt_size->Of,get?_push_size->OD,get?_update_other->OZ,size_push->Pp,get?_update_ne->Py,get?_update_self->PK,get?_none_of_le->Rh,SameBut->EY,MadeExcOf->U7
open Int renaming toNat_natCast->Oa,le_refl->Oo,le_trans->OJ,emod_nonneg->Pj,emod_lt_of_pos->Pn,mul_le_mul_of_nonneg_right->PU,eq_ofNat_of_zero_le->Qn,natCast_nonneg->QN,zero_add->Rn,mul_nonneg->RB,fdiv_eq_ediv_of_nonneg->RK,ediv_nonneg->RV,natCast_add->RX,add_zero->Wa,add_mul->Wl,le_of_lt->Xe,ofNat_le->Xf,not_lt->XA
open Option.some renaming inj->Oj
open Bool renaming false_ne_true->Ol,not_eq_true->Om,and_eq_true->Oz,eq_iff_iff->P6,false_and->Qv,true_and->Q4,or_eq_false_iff->VN,or_eq_true->WC,and_false->WE,false_or->WM
open Ne renaming symm->Ox
open PySem.F renaming plainAttrs_list->OE,plainAttrs_str->OL,slot_list_index->OV,type_list_index->OW,slot_str_join->O5,type_str_join->O6,slot_list_pop->Qz,type_list_pop->QA,slot_str_split->QZ,type_str_split->Q0,slot_dict_get->Ra,args_str_split_2->RG,entry_str_split->Vj,slot_dict_delitem->Vk,args_dict_get_2->Vq,plainAttrs_dict->Vr,entry_dict_get->Vz,entry_max_loop->VA,slot_dict_pop->VG,args_list_append_2->VL,entry_list_append->VO,args_list_index_2->VQ,slot_list_append->V6,entry_list_index->V9,entry_list_pop->Wo,slot_int_rmul->Ww
open Classical renaming byContradiction->OO
open Decidable renaming not_not->O8,byContradiction->Ph
open PySem.StrLaws renaming glued_eq_join->PM
open PySem.Value.type renaming inj->P0
open PyProof.Rows renaming callWith_type1->P1,assignInOrder_cons->P4,ext_toList->QU,envOfC->DU,AllBare->F0,IntsAre->Vn,split_le->VI,callWith_builtin1->Wt,part_short->Xo
open Array renaming getElem?_eq_getElem->Qg,mem_iff_getElem->Q9,length_toList->Ru,getElem?_eq_some_iff->RM,getElem?_eq_none->Vy,getElem?_toList->VF,toList_append->VW,toList->W0
open Option renaming isSome_iff_exists->Qj,map_some->Ro,isSome_map->RO,none->Xu
open PySem.Calls renaming callWith_builtin->Qq,evalArgs_plain->QB,spliced_cons->RD,Name_function_global->Vb,spliced_nil->Vh,Constant_str->V0
open PySem.PassesOwn renaming never->QK
open Sum.inl renaming inj->QY
open List.cons renaming inj->Q3
open PySem.W.KIN renaming signs_num->Rc,call_text->Xy,num_reads->Xz
open Nat.succ renaming inj->Rm
open PySem.SeqAt.EqAt renaming str_str->RE,int_str->VX,str_int->VY,int_int->V5
open PySem.Paired renaming length->RJ,snoc->Xv
open Sum.inr renaming inj->RZ
open Sum renaming inl->xf,inr->zA
open PySem.Str renaming ofString->xT,length->zO,join->Bd,empty->Vu
open PySem.Value renaming ref->ye,int->zj,none->A4,type->CW,str->HG,bool->VJ,isStrOf->WK,isInt->Xp,bytes->Xq,float->Xr
open PySem.Txt renaming join->yL,split->Bl,isupper->U8
open PySem.NameKind renaming free->zw
open False renaming elim->Ba
open ForInStep renaming yield->B9
open True renaming intro->CZ
open PySem.Obj renaming mapSeq->C4,mapFields->Vc
open PySem.Builtin.List renaming listTooLong->Dc
open PySem.Data renaming fields->Dg
open PySem.Builtin.Str renaming strSliceIndices->Va,glued->Vi
open PySem.Challenge renaming pw_stairgauge_k43_whole_desk_answers->Ve
open PySem.MeetsSeq renaming EqGives->Vp,list_index->VR
open UInt32 renaming le_iff_toNat_le->VD
open PySem.Walks renaming list->VM
open PySem.EntryCells renaming newEntry->VP
open PySem.Flow renaming next->V1
open PySem.P renaming str_of_int->V2
open PySem.Around renaming under->V3
open PySem.Code renaming isFrame->V4,quiet_builtin->V8,frames->Xt
open Or renaming inr->V7,inl->WA
open PySem.IsL renaming update->Wn
open PySem.IsiPair renaming bool_int->Wq
open PyProof.Rows.IsTup renaming new->WH
open PySem.Builtin.Builtins renaming bindParams->WJ
open PySem.CmpOf renaming ints_gt->WN
open PySem.SeqAt.RcNeAt renaming lists_lengths->WO,lists->XM
open PySem.EqNone renaming eq_none_none->WQ,eq_none_bool->WR,eq_bool_none->WS,ne_none_none->WV,ne_none_bool->WW,ne_bool_none->WX,eq_none_int->W2,eq_none_str->W3,eq_int_none->W4,eq_str_none->W6,ne_none_int->W8,ne_none_str->W9,ne_int_none->Xa,ne_str_none->Xc
open PySem.EqMixed renaming eq_bool_str->WT,eq_str_bool->WU,ne_bool_str->WY,ne_str_bool->WZ,eq_int_str->W5,eq_str_int->W7,ne_int_str->Xb,ne_str_int->Xd
open List.Pairwise renaming imp_of_mem->Xk,sublist->Xx,filter->XF,of_map->XG,nil->XO
open Char renaming isDigit->Xm
open PySem.Builtin.Range renaming rangeSize->Xn,small->XH
open PySem.CmpOp renaming NotIn->Xs,In->XQ
open PySem.SeqAt renaming EqAt->XB
open PySem.MeetsSeq.EqGives renaming int->XD
open PySem.W.Looks renaming here->XI
open PySem.Heap.IsSliceOf renaming new->XJ
open PySem.Within renaming cons->XN
open List.Sublist renaming map->XR
open PySem.Heap.DictOf renaming new->XS
abbrev nE:=List (PySem.Addr×PySem.Obj)
abbrev oF:=PySem.Value->PySem.Shared->Prop
abbrev oR:=PySem.Str->Option PySem.Value
local macro_rules|`(tactic|erw[$[$x:term],*])=>`(tactic|refine ⟨$x,*⟩)
local macro_rules|`(tactic|show $t:term)=>`(tactic|refine $t)
local macro_rules|`(tactic|exists $x,*)=>`(tactic|refine ⟨$x,*⟩)
local macro_rules|`(tactic|nomatch $x,*)=>`(tactic|exact ⟨$x,*⟩)
local macro_rules|`(tactic|exists 0,$g,$a,$b)=>`(tactic|refine $g (T.g $a) $b λf c A o s H vs Q E hr h=>?_)
local macro_rules|`(tactic|exists 1,$g,$a,$b)=>`(tactic|refine $g (T.m $a) $b λf c A o s H vs Q E hr h=>?_)
local macro_rules|`(tactic|lia)=>`(tactic|first|with_reducible assumption|lia (config:={})|omega)
theorem Y{p:Prop}(h:p:=by lia):p:=h
theorem uw{p:Prop}(h:p:=by trivial):p:=h
theorem uD{p:Prop}(h:p:=by simp):p:=h
theorem uK{p:Prop}(h:p:=by rfl):p:=h
theorem aC{n:Nat}(h:Nat.ble n 99=true:=by rfl):n≤PySem.sizeLine:=Nat.le_trans (Nat.le_of_ble_eq_true h) (by decide)
theorem aS{p:Prop}(h:p:=by decide):p:=h
theorem Z.{u}{α:Sort u}{a:α}:a=a:=rfl
local macro_rules|`(tactic|trivial)=>`(tactic|decide +kernel)
namespace L2
open PySem PySem.Spec PyProof.Rows
abbrev Key:=Sum u7 va
def qq:Key->qT->yW
 | .inl k,v=>Xp k v
 | .inr x,v=>WK x v
def Mz (w:sW):Key->u7
 | .inl k=>hashInt k
 | .inr x=>hashStr w x
theorem dY: ∀ {k:Key}{v:qT},qq k v=true->(∃i t,k=xf i/\v=zj i t)\/(∃x t,k=zA x/\v=HG x t)
 | .inl i,v,h=>by
  obtain⟨t,e⟩:=Value.isInt_shape (k:=i) (v:=v) h;show .inl ⟨i,t,Z,e⟩
 | .inr x,v,h=>by
  obtain⟨t,e⟩:=Value.isStrOf_shape (x:=x) (v:=v) h;show .inr ⟨x,t,Z,e⟩
theorem Cz (i:u7) (t:Tok):qq (.inl i) (.int i t)=true:=by simp[qq,Xp]
theorem C7 (x:va) (t:Tok):qq (.inr x) (.str x t)=true:=by simp[qq,WK]
theorem K0 (a b:u7):decide ((xf a:Key)=xf b)=(a == b):=by
 by_cases e:a=b;.subst e; simp
 .have h: ¬(xf a:Key)=xf b:=λq=>e<|QY q;rw[N8 h];show (beq_eq_false_iff_ne.mpr e).symm
theorem KH (a b:va):decide ((zA a:Key)=zA b)=decide (a=b):=by
 by_cases e:a=b;.subst e; simp
 .have h: ¬(zA a:Key)=zA b:=λq=>e<|RZ q;rw[N8 h,N8 e]
theorem Ky (a:u7) (b:va):decide ((xf a:Key)=zA b)=false:=N8 (λq=>nomatch q)
theorem JR (a:va) (b:u7):decide ((zA a:Key)=xf b)=false:=N8 (λq=>nomatch q)
def cP (prog:tq) (w:sW):PySem.KeyKind prog w Key where
 is:=qq
 hash:=Mz w
 inj:=λv a b ha hb=>by
  rcases dY ha with⟨i,t,rfl,rfl⟩ | ⟨x,t,rfl,rfl⟩
  .rcases dY hb with⟨j,u,rfl,e⟩ | ⟨y,u,rfl,e⟩
   .injection e with e1 _; rw[e1]
   .exact nomatch e
  .rcases dY hb with⟨j,u,rfl,e⟩ | ⟨y,u,rfl,e⟩
   .exact nomatch e
   .injection e with e1 _; rw[e1]
 byValue:=λk v h=>by
  rcases dY h with⟨i,t,rfl,rfl⟩ | ⟨x,t,rfl,rfl⟩ <;> rfl
 pyHash:=λhv h=>by
  rcases dY hv with⟨i,t,rfl,rfl⟩ | ⟨x,t,rfl,rfl⟩
  .exact wpAny_pyHash_int h
  .exact wpAny_pyHash_str h
 eqBool:=λhu hv h=>by
  rcases dY hu with⟨i,t,rfl,rfl⟩ | ⟨x,t,rfl,rfl⟩
  .rcases dY hv with⟨j,u,rfl,rfl⟩ | ⟨y,u,rfl,rfl⟩
   .rw[K0] at h; show wpAny_eqBool_int h
   .rw[Ky] at h; show VX i t y u _ _ _ _ h
  .rcases dY hv with⟨j,u,rfl,rfl⟩ | ⟨y,u,rfl,rfl⟩
   .rw[JR] at h; show VY x t j u _ _ _ _ h
   .rw[KH] at h; show wpAny_eqBool_str h
 «strs» := λk x t v h=>by
  rcases dY h with⟨i,u,rfl,e⟩ | ⟨y,u,rfl,e⟩
  .exact nomatch e
  .injection e with e1 _
   subst e1;cases v <;> rfl
theorem zi (prog:tq) (w:sW) (i:u7) (t:Tok):(cP prog w).is (.inl i) (.int i t)=true:=Cz i t
theorem zU (prog:tq) (w:sW) (x:va) (t:Tok):(cP prog w).is (.inr x) (.str x t)=true:=C7 x t
inductive V where
 | non | bl (b:yW) | int (i:u7) | str (x:va) | byt (b:zR UInt8) | flt (b:UInt64) | ref (a:qA) | ty (n:BP)
 deriving DecidableEq
def RelV:V->qT->Prop
 | .non,u=>u=A4
 | .bl b,u=>u=VJ b
 | .int i,u=> ∃t,u=zj i t
 | .str x,u=> ∃t,u=HG x t
 | .byt b,u=> ∃t,u=Xq b t
 | .flt b,u=> ∃t,u=Xr b t
 | .ref a,u=>u=ye a
 | .ty n,u=>u=CW n
abbrev Vals:qx V->qx qT->Prop:=Paired RelV
variable{us:qx qT}
theorem Vals.length {xs:qx V}(r:Vals xs us):xs.length=us.length:=RJ r
theorem Vals.get: ∀ {xs:qx V}{us:qx qT}{i:u6}{x:V},Vals xs us->xs[i]?=some x-> ∃u,us[i]?=some u/\RelV x u
 | _,_,_,_,.nil,e=>by simp at e
 | _,_,0,_,.cons r _,e=>by simp at e; subst e; erw[_,Z,r]
 | _,_,i+1,x,.cons _ t,e=>by
  obtain⟨u,h1,h2⟩:=Vals.get (i:=i) (x:=x) t (by simpa using e);erw[u,by simpa using h1,h2]
variable{u:qT}
theorem Vals.set {x:V}(r:RelV x u): ∀ {xs:qx V}{us:qx qT}(i:u6),Vals xs us->Vals (xs.set i x) (us.set i u)
 | _,_,_,.nil=> .nil
 | _,_,0,.cons _ t=> .cons r t
 | _,_,i+1,.cons q t=> .cons q (Vals.set r i t)
theorem Vals.append: ∀ {xs ys:qx V}{us ws:qx qT},Vals xs us->Vals ys ws->Vals (xs++ys) (us++ws)
 | _,_,_,_,.nil,s=>s
 | _,_,_,_,.cons r t,s=> .cons r (Vals.append t s)
theorem Vals.take: ∀ {xs:qx V}{us:qx qT}(n:u6),Vals xs us->Vals (xs.take n) (us.take n)
 | _,_,0,_=> .nil
 | _,_,_+1,.nil=> .nil
 | _,_,n+1,.cons r t=> .cons r (Vals.take n t)
theorem Vals.drop: ∀ {xs:qx V}{us:qx qT}(n:u6),Vals xs us->Vals (xs.drop n) (us.drop n)
 | _,_,0,r=>r
 | _,_,_+1,.nil=> .nil
 | _,_,n+1,.cons _ t=>Vals.drop n t
def f9:rW V->rW qT->Prop
 | some v,some u=>RelV v u
 | none,none=>MK
 | _,_=>zh
def KV {κ:Type}:qx (κ×V)->qx (κ×qT)->Prop:=Paired λ(p:κ×V) (q:κ×qT)=>p.1=q.1/\RelV p.2 q.2
def kV:Key->V
 | .inl i=> .int i
 | .inr x=> .str x
inductive HO where
 | lst (xs:qx V)
 | tup (xs:qx V)
 | dK (kvs:qx (Key×V)) | dT (kvs:qx (qx Key×V))
 | set (S:u7->yW) (n:u6)
 | ins (C dx:qA) (fs:qx (va×V))
 | own (x:qA)
 | xd (fs:qx (va×V))
 | met (f x:qA)
 | SN (lo hi:u7)
 | frz (o:Obj) (u:HO)
 | tbl (ps:zR qT)
 | ext (φ:yk->Prop)
abbrev Hp:=qA->rW HO
def upd (H:Hp) (a:qA) (o:HO):Hp:=λb=>if b=a then some o else H b
theorem af {H:Hp}{a:qA}{o:HO}:upd H a o a=some o:=by unfold upd; rw[NW rfl]
variable{H:Hp}{a b:qA}
theorem ah {o:HO}(h:b≠a):upd H a o b=H b:=by unfold upd; rw[NS h]
theorem uv {o u:HO}:upd (upd H a o) a u=upd H a u:=by
 funext b; unfold upd; split <;> rfl
theorem fv {o u:HO}(h:H a=some o) (h':H b=some u) (d:o≠u):a≠b:=by
 intro e; subst e; rw[h] at h'; show d<|Oj h'
theorem az {o:HO}(h:H a=some o) (h':H b=none):a≠b:=by
 intro e; subst e; rw[h] at h'; cases h'
section
variable (P:tq) (w:sW)
def dq (H:Hp) (h:yk) (a:qA):HO->Prop
 | .lst xs=>xs.length<=sizeLine/\ ∃(its:qx qT) (n:u6),Vals xs its/\h.get? a=some { cls:= .type "list",data:= .seq its.toArray n }
 | .tup xs=>xs.length<=sizeLine/\ ∃its:qx qT,Vals xs its/\IsTup h a its.toArray
 | .dK kvs=>kvs.length<=sizeLine/\(a == BV)=false/\ ∃vs,KV kvs vs/\h.DictOf (cP P w) a vs
 | .dT kvs=>kvs.length<=sizeLine/\(a == BV)=false/\ ∃xs:qx (qx Key×qA×qT),
   Paired (λ(p:qx Key×V) (q:qx Key×qA×qT)=>p.1=q.1/\H q.2.1=some (.tup (p.1.map kV))/\RelV p.2 q.2.2) kvs xs /\
   ∃o es ep,h.get? a=some o/\o.ExactDict/\o.data= .dict es ep/\es.toList=xs.map (entryOfKey (U9 (cP P w)))/\(xs.map (·.1)).Nodup
 | .set S n=>h.SetOf (intKind P w) a S n
 | .ins C dx fs=>H dx=some (.own a)/\fs.length<=1000/\dx≠a/\h.get? a=some (Br C dx) /\
   ∃mA,h.Ns1 dx mA/\(∀f,f9 (fs.lookup f) (mA f))/\VZ mA (fs.map (·.1))
 | .own _=> ∃o,h.get? a=some o
 | .xd fs=> ∃mA,h.Ns1 a mA/\ ∀f,f9 (fs.lookup f) (mA f)
 | .SN lo hi=> ∃t u v,h.get? a=some { cls:= .type "range",data:= .fields #[.int lo t,.int hi u,.int 1 v] }
 | .frz o u=>h.get? a=some o/\dq H h a u
 | .tbl ps=>h.get? a=some { cls:= .none,data:= .fields ps }
 | .met f x=>h.get? a=some (Vf (.ref f) (.ref x))
 | .ext φ=>φ h/\(∃o,h.get? a=some o)/\ ∀h1 h2:yk,φ h1->(∀o,h1.get? a=some o->h2.get? a=some o)->φ h2
def Ss (H:Hp) (h:yk):Prop:= ∀a o,H a=some o->dq P w H h a o
end
section
variable {P:tq}{w:sW}{H H':Hp}{h h':yk}{a:qA}{o:HO}
theorem dq.lt (x:dq P w H h a o):a < h.objs.size:=by
 cases o with
 | lst xs=>obtain⟨_,_,_,_,e⟩:=x; show Of e
 | tup xs=>obtain⟨_,_,_,p⟩:=x; show p.lt
 | dK kvs=>obtain⟨_,_,_,_,o,_,_,e,_⟩:=x; show Of e
 | dT kvs=>obtain⟨_,_,_,_,o,_,_,e,_⟩:=x; show Of e
 | set S n=>obtain⟨o,_,_,_,e,_⟩:=x; show Of e
 | ins C dx fs=>obtain⟨_,_,_,e,_⟩:=x; show Of e
 | own y=>obtain⟨_,e⟩:=x; show Of e
 | xd fs=>obtain⟨_,⟨_,_,_,e,_⟩,_⟩:=x; show Of e
 | SN lo hi=>obtain⟨_,_,_,e⟩:=x; show Of e
 | frz ob u=>obtain⟨e,_⟩:=x; show Of e
 | tbl ps=>show Of (show h.get? a=some _ from x)
 | met f y=>show Of (show h.get? a=some _ from x)
 | ext φ=>obtain⟨_,⟨_,e⟩,_⟩:=x; show Of e
theorem Paired.GF {α β:Type}{F G:α->β->Prop}: ∀ {l₁:qx α}{l₂:qx β},Paired F l₁ l₂->(∀a b,F a b->G a b)->Paired G l₁ l₂
 | _,_,.nil,_=> .nil
 | _,_,.cons r t,f=> .cons (f _ _ r) (Paired.GF t f)
theorem dq.mj (x:dq P w H h a o) (k: ∀b u,(b=a\/H b=some (.own a))->h.get? b=some u->h'.get? b=some u)
  (ho: ∀b,H b=some (.own a)->H' b=some (.own a)) (ht: ∀b xs,H b=some (.tup xs)->H' b=some (.tup xs)):dq P w H' h' a o:=by
 induction o with
 | lst xs=>obtain⟨z,its,n,r,e⟩:=x; erw[z,its,n,r,k _ _ (.inl rfl) e]
 | tup xs=>obtain⟨z,its,r,ob,e,c⟩:=x; erw[z,its,r,ob,k _ _ (.inl rfl) e,c]
 | dK kvs=>obtain⟨z,y,vs,r,ob,es,ep,e,c⟩:=x; erw[z,y,vs,r,ob,es,ep,k _ _ (.inl rfl) e,c]
 | dT kvs =>
  obtain⟨z,y,xs,r,ob,es,ep,e,c⟩:=x;erw[z,y,xs,Paired.GF r λp q z=>⟨z.1,ht _ _ z.2.1,z.2.2⟩,ob,es,ep,k _ _ (.inl rfl) e,c]
 | set S n=>obtain⟨ob,es,ep,t,e,c⟩:=x; erw[ob,es,ep,t,k _ _ (.inl rfl) e,c]
 | ins C dx fs =>
  obtain⟨d,z,ne,e,mA,⟨od,es,ep,e2,c⟩,r⟩:=x;erw[ho _ d,z,ne,k _ _ (.inl rfl) e,mA,⟨od,es,ep,k _ _ (.inr d) e2,c⟩,r]
 | own y=>obtain⟨ob,e⟩:=x; erw[ob,k _ _ (.inl rfl) e]
 | xd fs=>obtain⟨mA,⟨od,es,ep,e,c⟩,r⟩:=x; erw[mA,⟨od,es,ep,k _ _ (.inl rfl) e,c⟩,r]
 | SN lo hi=>obtain⟨t,u,v,e⟩:=x; erw[t,u,v,k _ _ (.inl rfl) e]
 | frz ob u ih=>obtain⟨e,q⟩:=x; erw[k _ _ (.inl rfl) e,ih q]
 | tbl ps =>
  have e:h.get? a=some { cls:= .none,data:= .fields ps }:=x;change h'.get? a=some { cls:= .none,data:= .fields ps };show k a _ (.inl rfl) e
 | met f y =>
  have e:h.get? a=some (Vf (.ref f)<|.ref y):=x;change h'.get? a=some (Vf (.ref f)<|.ref y);show k a _ (.inl rfl) e
 | ext φ=>obtain⟨p,⟨o,e⟩,st⟩:=x; erw[st _ _ p λo q=>k _ _ (.inl rfl) q,⟨o,k _ _ (.inl rfl) e⟩,st]
theorem Ss.lt (x:Ss P w H h) (e:H a=some o):a < h.objs.size:=(x a o e).lt
theorem Ss.fresh (x:Ss P w H h) (e:h.objs.size<=a):H a=none:=by
 cases q:H a with
 | none=>rfl
 | some u=>show wz (OT (x.lt q) e) (PB _)
theorem Ss.kept (x:Ss P w H h) (k: ∀b u,h.get? b=some u->h'.get? b=some u):Ss P w H h':=λa o e =>
 (x a o e).mj (λb u _ q=>k b u q) (λ_ q=>q) λ_ _ q=>q
theorem Ss.laid (x:Ss P w H h) (k: ∀b u,h.get? b=some u->h'.get? b=some u) (hp:h.objs.size<=a) (new:dq P w (upd H a o) h' a o):Ss P w (upd H a o) h':=λb u e=>by
 have hn:=x.fresh hp;by_cases hb:b=a;.subst hb; rw[af] at e; cases e; show new
 .rw[ah hb] at e;show (x b u e).mj (λc v _ q=>k c v q) (λc q=>by rw[ah<|az q hn]; show q) λc xs q=>by rw[ah<|az q hn]; show q
end
def Rd (H:Hp) (a:qA) (u:HO):Prop:=H a=some u\/ ∃o,H a=some (.frz o u)
variable{P:tq}{w:sW}{h:yk}
theorem Rd.ok {u:HO}(r:Rd H a u) (x:Ss P w H h):dq P w H h a u:=by
 rcases r with r | ⟨o,r⟩
 .exact x a u r
 .obtain⟨_,q⟩:=x a _ r;show q
def T7:rW HO->Prop
 | some (.lst _)=>MK
 | some (.dK _)=>MK
 | some (.dT _)=>MK
 | some (.set _ _)=>MK
 | some (.ins _ _ _)=>MK
 | some (.ext _)=>MK
 | _=>zh
section
variable {P:tq}{w:sW}{H:Hp}{h h':yk}{x e:qA}{o':HO}
theorem Ss.write (ok:Ss P w H h) (mu:T7 (H x)) (he:e=x\/H e=some (.own x)) (k: ∀b u,b≠e->h.get? b=some u->h'.get? b=some u) (heo: ∃u,h'.get? e=some u)
  (new:dq P w (upd H x o') h' x o'):Ss P w (upd H x o') h':=λb u q=>by
 have nown: ∀c y,H c=some (.own y)->c≠x:=λc y r z=>by subst z; rw[r] at mu; show mu
 have ntup: ∀c xs,H c=some (.tup xs)->c≠x:=λc xs r z=>by subst z; rw[r] at mu; show mu
 by_cases hb:b=x;.subst hb; rw[af] at q; cases q; show new
 .rw[ah hb] at q;by_cases hbe:b=e
  .have q':H b=some (.own x):=by
    rcases he with z | z
    .exact wz (hbe.trans z) hb
    .rw[hbe]; show z
   rw[q] at q'; cases q';obtain⟨v,hv⟩:=heo;erw[v,by rw[hbe]; show hv]
  .show (ok b u q).mj (λc v hc r=>k c v ?_ r) (λc r=>by rw[ah<|nown c b r]; show r) λc xs r=>by rw[ah<|ntup c xs r]; show r
   rcases hc with rfl | hc
   .exact hbe
   .rintro rfl;rcases he with z | z
    .exact nown c b hc z
    .rw[hc] at z; cases z; show hb rfl
end
structure Un (fs ex:qx qA) (H H':Hp) (h h':yk):Prop where
 keep: ∀b o,h.get? b=some o->H b=none->b∉fs->b∉ex->h'.get? b=some o
 slot: ∀b o,h.get? b=some o->H b=none->b∈fs->b∉ex-> ∃sl,h'.get? b=some { o with slots:=sl }
 free: ∀b o,h.get? b=some o->H b=none->b∉ex->H' b=none
 there: ∀b o,h.get? b=some o->b∉ex-> ∃o',h'.get? b=some o'
 tups: ∀b xs,H b=some (.tup xs)->H' b=some (.tup xs)
 frzs: ∀b o u,H b=some (.frz o u)->H' b=some (.frz o u)
 tbls: ∀b ps,H b=some (.tbl ps)-> ∃more,H' b=some (.tbl (ps++more))
section
variable {fs fs' ex ex':qx qA}{H H1 H2:Hp}{h h1 h2 h':yk}{a x e:qA}{o:HO}
theorem Un.any (u:Un fs ex H H1 h h1){b:qA}{ob:Obj}(q:h.get? b=some ob) (n:H b=none) (hx:b∉ex): ∃sl,h1.get? b=some { ob with slots:=sl }:=by
 by_cases hb:b∈fs;.exact u.slot b ob q n hb hx
 .nomatch ob.slots,u.keep b ob q n hb hx
theorem Un.kept (k: ∀b u,h.get? b=some u->h'.get? b=some u):Un fs ex H H h h' :=
 ⟨λb ob q _ _ _=>k b ob q,λb ob q _ _ _=>⟨ob.slots,k b ob q⟩,λ_ _ _ n _=>n,λb ob q _=>⟨ob,k b ob q⟩,λ_ _ q=>q,λ_ _ _ q=>q,λ_ ps q=>⟨#[],by rw[q]; simp⟩⟩
theorem Un.refl:Un fs ex H H h h:=Un.kept λ_ _ q=>q
theorem Un.laid (k: ∀b u,h.get? b=some u->h'.get? b=some u) (hp:h.objs.size<=a) (hn:H a=none):Un fs ex H (upd H a o) h h' where
 keep:=λb u q _ _ _=>k b u q
 slot:=λb u q _ _ _=>⟨u.slots,k b u q⟩
 free:=λb u q n _=>by rw[ah (OC (OT (Of q) hp))]; show n
 there:=λb u q _=>⟨u,k b u q⟩
 tups:=λb xs q=>by rw[ah (az q hn)]; show q
 frzs:=λb u xs q=>by rw[ah (az q hn)]; show q
 tbls:=λb ps q=>⟨#[],by rw[ah (az q hn),q]; simp⟩
theorem Un.write (mu:T7 (H x)) (he:e=x\/H e=some (.own x)) (k: ∀b u,b≠e->h.get? b=some u->h'.get? b=some u) (heo: ∃u,h'.get? e=some u):Un fs ex H (upd H x o) h h':=by
 have hx: ∀b,H b=none->b≠x:=λb n z=>by subst z; rw[n] at mu; show mu
 have hb: ∀b,H b=none->b≠e:=λb n z=>by
  subst z;rcases he with r | r
  .exact hx b n r
  .rw[n] at r; cases r
 have hm: ∀b u,H b=some u-> ¬T7 (some u)->b≠x:=λb u q nm z=>by subst z; rw[q] at mu; show nm mu
 show⟨λb u q n _ _=>k b u (hb b n) q,λb u q n _ _=>⟨u.slots,k b u (hb b n) q⟩,λb u q n _=>by rw[ah (hx b n)]; show n,λb u q _=>?_,
  λb xs q=>by rw[ah (hm b _ q λz=>z)]; show q,λb u xs q=>by rw[ah (hm b _ q λz=>z)]; show q,λb ps q=>⟨#[],by rw[ah (hm b _ q λz=>z),q]; simp⟩⟩
 by_cases hbe:b=e;.subst hbe; show heo
 .nomatch u,k b u hbe q
end
def T8 (h:yk) (H:Hp):qx qA:=(wx h.objs.size).filter λa=>(H a).isSome
def nY (h:yk) (H:Hp):yk:=PySem.W.hideAll h (T8 h H)
theorem Dk (h:yk) (H:Hp):(nY h H).objs.size=h.objs.size:=PySem.W.hideAll_size _ _
variable{o:Obj}
theorem Gs(e:h.get? b=some o) (n:H b=none):(nY h H).get? b=some o :=
 PySem.W.hideAll_get _ e λhm=>by
  have q:(H b).isSome=true:=(OQ.mp hm).2;rw[n] at q; simp at q
theorem IX(e:(nY h H).get? b=some o):h.get? b=some o/\H b=none:=by
 have e':h.get? b=some o:=PySem.W.of_hideAll (T8 h H) e;erw[e',?_];cases q:H b with
 | none=>rfl
 | some x =>
  have hm:b∈T8 h H:=OQ.mpr ⟨Oq.mpr<|Of e',by simp[q]⟩;have z:(nY h H).get? b=none:=PySem.W.hideAll_none (T8 h H) hm;rw[z] at e; cases e
def Jo (g h:yk) (L:qA):qx (qA×Obj):=(wx h.objs.size).filterMap λa=>if a=L\/(g.get? a).isSome=true then none else (h.get? a).map λo=>(a,o)
def rest (g h:yk) (L d:qA):qx (qA×Obj):=(Jo g h L).filter λp=>decide (p.1≠d)
structure Mod (K:R7) (mg:oR) (base:yk):Prop where
 kin:K.In base
 glob:base.Ns ze mg
 blt: ∃mb,base.Ns builtinsNs mb/\ ∀x:va,x≠ "__name__" -> mb x=zt x
 nolimit:base.NoLimit
structure Cx where
 prog:tq
 w:sW
 K:R7
 mg:va->rW qT
 base:yk
 A:uc
 N:qx va
 s₀:rK
 H₀:Hp
 env:Env
 outer:qx Env
 stack:qx Env
 ex:qx qA
 fn:va->yW
 calm:yW
 pn:qx (qA×Obj)
 xe:qT->rK->Prop
def S2 (l:qx Env):qx qA:=l.filterMap (·.frame)
abbrev Cx.fs (X:Cx):qx qA:=S2 X.outer
def Ud (sc:A3) (x:va):Prop:=sc.names.lookup x=some .local\/sc.names.lookup x=some .cell\/sc.names.lookup x=some .free
def Loc (sc:A3) (x:va):Prop:=sc.names.lookup x=some .local\/sc.names.lookup x=some .cell
def Look (env:Env) (h:yk) (m:oR) (x:va) (u:qT):Prop :=
 (env.kindOf x=some .local/\m x=some u)\/((env.kindOf x=some .cell\/env.kindOf x=some .free)/\ ∃c,env.cells.lookup x=some c/\h.IsCell c (some u))
structure Cx.Ok (X:Cx):Prop where
 mod:Mod X.K X.mg X.base
 kind:X.env.scope.kind= .function
 glob:X.env.globals=ze
 blt:X.env.builtins=builtinsNs
 above:X.s₀.heap.objs.size<=X.env.locals
 inj: ∀x y c,X.env.cells.lookup x=some c->X.env.cells.lookup y=some c->x=y
 has: ∀x,(X.env.kindOf x=some .cell\/X.env.kindOf x=some .free)-> ∃c,X.env.cells.lookup x=some c
 cab: ∀x c,X.fn x=true->X.env.cells.lookup x=some c->X.s₀.heap.objs.size<=c
 hd:X.calm=true->X.A.handled=none
 frames:X.A.frames=some X.stack
 stk:X.stack=X.outer\/(X.stack=X.env::X.outer/\X.env.frame=some X.env.locals)
 exf: ∀b∈X.ex,b≠X.env.locals/\ ∀x c,X.env.cells.lookup x=some c->c≠b
 bs: ∀b o,X.base.get? b=some o->X.s₀.heap.get? b=some o/\X.H₀ b=none
 bsz:X.base.objs.size<=X.s₀.heap.objs.size
 noex: ∀b o,X.base.get? b=some o->b∉X.ex
 exfs: ∀b∈X.ex,b∉X.fs
 fF:X.s₀.heap.FunFrames X.base X.outer
 frf: ∀b∈X.fs,X.H₀ b=none
structure Inv (X:Cx) (R1:nE) (O:qx (rW V)) (H:Hp) (s:rK):Prop where
 ok:X.Ok
 os:s.os=X.s₀.os
 bare:F0 s.gens
 base:Un X.fs X.ex X.H₀ H X.s₀.heap s.heap
 loc: ∃m,s.heap.Ns X.env.locals m/\ ∀(i:u6) (x:va) (v:V),X.N[i]?=some x->O[i]?=some (some v)->Ud X.env.scope x-> ∃u,RelV v u/\Look X.env s.heap m x u
 cell: ∀x c,X.env.cells.lookup x=some c-> ∃v,s.heap.IsCell c v
 free:H X.env.locals=none
 freeC: ∀x c,X.env.cells.lookup x=some c->H c=none
 pin: ∀p∈X.pn++R1,s.heap.get? p.1=some p.2/\H p.1=none/\p.1≠X.env.locals/\p.1∉X.fs/\ ∀v,p.2.data≠ .cell v
 hok:Ss X.prog X.w H s.heap
 len:O.length=X.N.length
section
variable {X:Cx}{R1:nE}{O:qx (rW V)}{H H':Hp}{s:rK}{h':yk}
theorem Cx.Ok.MF (ok:X.Ok){b:qA}{o:Obj}(e:X.base.get? b=some o):b∉X.fs:=λhb=>by
 have:=(ok.fF.mem hb).1;rw[e] at this; cases this
theorem Inv.bs (I:Inv X R1 O H s): ∀b o,X.base.get? b=some o->s.heap.get? b=some o/\H b=none:=λb o e =>
 ⟨I.base.keep b o (I.ok.bs b o e).1 (I.ok.bs b o e).2 (I.ok.MF e) (I.ok.noex b o e),I.base.free b o (I.ok.bs b o e).1 (I.ok.bs b o e).2 (I.ok.noex b o e)⟩
theorem Inv.bk (I:Inv X R1 O H s): ∀b o,X.base.get? b=some o->s.heap.get? b=some o:=λb o e=>(I.bs b o e).1
theorem Inv.mod (I:Inv X R1 O H s):Mod X.K X.mg X.base:=I.ok.mod
theorem Inv.SQ (I:Inv X R1 O H s):X.K.In s.heap:=I.ok.mod.kin.keeps I.bk
theorem Inv.fr (I:Inv X R1 O H s): ∃m,Fr X.base X.env.locals s.heap m :=
 let ⟨m,hn,_⟩:=I.loc
 ⟨m,hn,I.bk,Ob I.ok.bsz I.ok.above⟩
theorem Inv.lt (I:Inv X R1 O H s):X.env.locals < s.heap.objs.size:=let ⟨_,hn,_⟩:=I.loc; hn.lt
theorem Inv.sz (I:Inv X R1 O H s):X.s₀.heap.objs.size<=s.heap.objs.size:=Ob I.ok.above (OA I.lt)
theorem Inv.MZ (I:Inv X R1 O H s){a:qA}(h:s.heap.objs.size<=a):a∉X.fs:=λhb=>by
 obtain⟨_,o,ho,_⟩:=I.ok.fF.mem hb;show wz (OT (Of ho)<|Ob I.sz h)<|PB _
theorem Inv.TQ (I:Inv X R1 O H s): ∀x c,X.env.cells.lookup x=some c->c≠X.env.locals:=λx c e z=>by
 obtain⟨v,o,ho,hd⟩:=I.cell x c e;obtain⟨m,⟨o',es,ep,ho',hd',_⟩,_⟩:=I.loc;rw[z,ho'] at ho; cases ho; rw[hd'] at hd; cases hd
theorem Inv.fF (I:Inv X R1 O H s):s.heap.FunFrames X.base X.outer:=by
 have all: ∀(l:qx Env),(∀b∈S2 l,b∈X.fs)->X.s₀.heap.FunFrames X.base l->s.heap.FunFrames X.base l:=by
  intro l;induction l with
  | nil=>intro _ _; trivial
  | cons env r ih =>
   intro hs hl;obtain⟨hk,⟨L,o,hf,hn,ho,hd⟩,hr⟩:=hl;have hL:L∈X.fs:=hs L (by unfold S2; rw[Rt,hf]; show N6);obtain⟨sl,e⟩:=I.base.slot L o ho (I.ok.frf L hL) hL λz=>I.ok.exfs L z hL;erw[hk,⟨L,_,hf,hn,e,hd⟩,ih (λb hb=>hs b (by unfold S2; rw[Rt,hf]; show N4 _ hb)) hr]
 show all X.outer (λ_ hb=>hb) I.ok.fF
theorem Inv.stack (I:Inv X R1 O H s):s.heap.FunFrames X.base X.stack:=by
 rcases I.ok.stk with e | ⟨e,hf⟩
 .rw[e]; show I.fF
 .rw[e];obtain⟨m,hn,_⟩:=I.loc;show .cons (by rw[I.ok.kind]; decide) hf hn ?_ I.fF;show Rh<|Ob I.ok.bsz I.ok.above
theorem Inv.tH (I:Inv X R1 O H s): ∀b∈S2 X.stack,b∈X.env.locals::X.fs:=λb hb=>by
 rcases I.ok.stk with e | ⟨e,hf⟩
 .rw[e] at hb; show N4 _ hb
 .rw[e] at hb;unfold S2 at hb;rw[Rt,hf] at hb;show hb
theorem Inv.uU (I:Inv X R1 O H s): ∀b∈S2 X.stack,H b=none:=λb hb=>by
 rcases N5.mp (I.tH b hb) with e | hb
 .rw[e]; show I.free
 .obtain⟨_,o,ho,_⟩:=I.ok.fF.mem hb;show I.base.free b o ho (I.ok.frf b hb) λz=>I.ok.exfs b z hb
theorem Inv.step {g':zR GenState}{t':u6}{d':Drawn}{ch:qx qA}(I:Inv X R1 O H s)
  (hch: ∀b∈ch,(b∈X.ex\/X.s₀.heap.objs.size<=b)/\b≠X.env.locals/\(∀x c,X.env.cells.lookup x=some c->c≠b)/\ ∀p∈X.pn++R1,p.1≠b)
  (keep: ∀b o,b≠X.env.locals->b∉X.fs->b∉ch->s.heap.get? b=some o->H b=none->h'.get? b=some o)
  (slot: ∀b o,b≠X.env.locals->b∈X.fs->b∉ch->s.heap.get? b=some o->H b=none-> ∃sl,h'.get? b=some { o with slots:=sl }) (free: ∀b o,b∉ch->s.heap.get? b=some o->H b=none->H' b=none)
  (there: ∀b o,b∉ch->s.heap.get? b=some o-> ∃o',h'.get? b=some o')
  (tups: ∀b xs,H b=some (.tup xs)->H' b=some (.tup xs)) (frzs: ∀b o u,H b=some (.frz o u)->H' b=some (.frz o u)) (tbls: ∀b ps,H b=some (.tbl ps)-> ∃more,H' b=some (.tbl (ps++more)))
  (ns: ∀m,s.heap.Ns X.env.locals m->h'.Ns X.env.locals m) (hok:Ss X.prog X.w H' h') (hg:F0 g') :
  Inv X R1 O H' { s with heap:=h',gens:=g',drawn:=d',toks:=t' }:=by
 have neL: ∀b o,X.s₀.heap.get? b=some o->b≠X.env.locals:=λb o e=>OC<|OT (Of e) I.ok.above;have neC: ∀b o,X.s₀.heap.get? b=some o->b∉X.ex->b∉ch:=λb o e hx hb=>by
  rcases (hch b hb).1 with z | z
  .exact hx z
  .exact wz (OT (Of e) z)<|PB _
 have cellK: ∀x c,X.env.cells.lookup x=some c-> ∀v,s.heap.IsCell c v->h'.IsCell c v:=λx c e v ⟨o,ho,hd⟩=>by
  have nch:c∉ch:=λz=>(hch c z).2.2.1 x c e rfl;by_cases hc:c∈X.fs
  .obtain⟨sl,q⟩:=slot c o (I.TQ x c e) hc nch ho<|I.freeC x c e;erw[_,q,hd]
  .nomatch o,keep c o (I.TQ x c e) hc nch ho<|I.freeC x c e,hd
 erw[I.ok,I.os,hg,⟨λb o e n hb hx=>?_,λb o e n hb hx=>?_,λb o e n hx=>?_,λb o e hx=>?_,λb xs e=>tups b xs<|I.base.tups b xs e,λb o xs e=>frzs b o xs<|I.base.frzs b o xs e,λb ps e=>?_⟩,?_,λx c e=>?_,?_,λx c e=>?_,λp hp=>?_,hok,I.len];.exact keep b o (neL b o e) hb (neC b o e hx) (I.base.keep b o e n hb hx)<|I.base.free b o e n hx
 .obtain⟨sl,e1⟩:=I.base.slot b o e n hb hx;obtain⟨sl',e2⟩:=slot b _ (neL b o e) hb (neC b o e hx) e1<|I.base.free b o e n hx;erw[sl',e2]
 .obtain⟨o',e1⟩:=I.base.there b o e hx;show free b o' (neC b o e hx) e1<|I.base.free b o e n hx
 .obtain⟨o',e1⟩:=I.base.there b o e hx;show there b o' (neC b o e hx) e1
 .obtain⟨m1,e1⟩:=I.base.tbls b ps e;obtain⟨m2,e2⟩:=tbls b _ e1;erw[m1++m2,by rw[e2,Array.append_assoc]]
 .obtain⟨m,hn,hl⟩:=I.loc;erw[m,ns m hn,λi x v e1 e2 e3=>?_];obtain⟨u,r,l⟩:=hl i x v e1 e2 e3;erw[u,r,?_];rcases l with l | ⟨k,c,e,z⟩
  .exact .inl l
  .exact .inr ⟨k,c,e,cellK x c e _ z⟩
 .obtain⟨v,z⟩:=I.cell x c e;erw[v,cellK x c e v z]
 .obtain⟨m,⟨o,_,_,ho,_⟩,_⟩:=I.loc;show free _ o (λz=>(hch _ z).2.1 rfl) ho I.free
 .obtain⟨v,o,ho,hd⟩:=I.cell x c e;show free c o (λz=>(hch c z).2.2.1 x c e rfl) ho<|I.freeC x c e
 .obtain⟨e,n,ne,nf,d⟩:=I.pin p hp;have nch:p.1∉ch:=λz=>(hch p.1 z).2.2.2 p hp rfl;erw[keep p.1 p.2 ne nf nch e n,free p.1 p.2 nch e n,ne,nf,d]
theorem Inv.un {t':u6}(I:Inv X R1 O H s) (u:Un X.fs [] H H' s.heap h') (hok:Ss X.prog X.w H' h'):Inv X R1 O H' { s with heap:=h',toks:=t' }:=by
 obtain⟨m,⟨o,es,ep,ho,r⟩,_⟩:=id I.loc;obtain⟨sl,hL⟩:=u.any ho I.free uD;show I.step (g':=s.gens) (d':=s.drawn) (ch:=[]) (λ_ z=>nomatch z) (λb o _ hb _ e n=>u.keep b o e n hb uD) (λb o _ hb _ e n=>u.slot b o e n hb uD) (λb o _ e n=>u.free b o e n uD) (λb o _ e=>u.there b o e uD) u.tups u.frzs u.tbls (λm' hm=>by
  obtain⟨o',es',ep',ho',r'⟩:=hm;rw[ho] at ho'; cases ho';exact⟨_,es',ep',hL,r'⟩) hok I.bare
theorem Inv.call {g':zR GenState}{t':u6}{d':Drawn}{ch:qx qA}(I:Inv X R1 O H s) (u:Un (S2 X.stack) ch H H' s.heap h') (hok:Ss X.prog X.w H' h') (hg:F0 g')
  (hch: ∀b∈ch,(b∈X.ex\/X.s₀.heap.objs.size<=b)/\b≠X.env.locals/\(∀x c,X.env.cells.lookup x=some c->c≠b)/\ ∀p∈X.pn++R1,p.1≠b) :
  Inv X R1 O H' { s with heap:=h',gens:=g',drawn:=d',toks:=t' }:=by
 obtain⟨m,⟨o,es,ep,ho,r⟩,_⟩:=id I.loc;obtain⟨sl,hL⟩:=u.any ho I.free λz=>(hch _ z).2.1 rfl;show I.step (ch:=ch) hch (λb o hL hb hc e n=>u.keep b o e n (λz=>(N5.mp (I.tH b z)).elim hL hb) hc) (λb o _ _ hc e n=>u.any e n hc) (λb o hc e n=>u.free b o e n hc) (λb o hc e=>u.there b o e hc) u.tups u.frzs u.tbls (λm' hm=>by
  obtain⟨o',es',ep',ho',r'⟩:=hm;rw[ho] at ho'; cases ho';exact⟨_,es',ep',hL,r'⟩) hok hg
theorem Inv.turned {t':u6}{it:qA}(I:Inv X R1 O H s) (k: ∀b o,b≠it->s.heap.get? b=some o->h'.get? b=some o) (hn:H it=none) (hL:it≠X.env.locals)
  (h1:it∈X.ex\/X.s₀.heap.objs.size<=it) (h2: ∀x c,X.env.cells.lookup x=some c->c≠it) (h3: ∀p∈X.pn++R1,p.1≠it):Inv X R1 O H { s with heap:=h',toks:=t' }:=by
 have nit: ∀b u,H b=some u->b≠it:=λb u e z=>by rw[z,hn] at e; cases e
 show I.step (g':=s.gens) (d':=s.drawn) (ch:=[it]) (λb hb=>?_) (λb o _ _ hc e _=>k b o (λz=>hc (by simp[z])) e) (λb o _ _ hc e _=>⟨o.slots,k b o (λz=>hc (by simp[z])) e⟩) (λ_ _ _ _ n=>n)
  (λb o hc e=>⟨o,k b o (λz=>hc (by simp[z])) e⟩) (λ_ _ e=>e) (λ_ _ _ e=>e) (λb ps e=>⟨#[],by rw[e]; simp⟩) (λm hm=>?_) (λb u e=>?_) I.bare
 .have e:b=it:=by simpa using hb
  subst e;erw[h1,hL,h2,h3]
 .obtain⟨o,es,ep,ho,r⟩:=hm;erw[o,es,ep,k _ o (Ox hL) ho,r]
 .show (I.hok b u e).mj (λc v hc q=>k c v ?_ q) (λ_ q=>q) λ_ _ q=>q;rcases hc with z | z
  .rw[z]; show nit b u e
  .exact nit c _ z
theorem Inv.tok (I:Inv X R1 O H s) (t:u6):Inv X R1 O H { s with toks:=t }:=I.un (h':=s.heap) (t':=t) Un.refl I.hok
theorem Inv.kept {t':u6}(I:Inv X R1 O H s) (k: ∀b u,s.heap.get? b=some u->h'.get? b=some u):Inv X R1 O H { s with heap:=h',toks:=t' }:=I.un (Un.kept k) (I.hok.kept k)
theorem Inv.laid {a:qA}{o:HO}{t':u6}(I:Inv X R1 O H s) (k: ∀b u,s.heap.get? b=some u->h'.get? b=some u) (hp:s.heap.objs.size<=a) (new:dq X.prog X.w (upd H a o) h' a o) :
  Inv X R1 O (upd H a o) { s with heap:=h',toks:=t' }:=I.un (Un.laid k hp (I.hok.fresh hp)) (I.hok.laid k hp new)
theorem Inv.write {x e:qA}{o:HO}{t':u6}(I:Inv X R1 O H s) (mu:T7 (H x)) (he:e=x\/H e=some (.own x)) (k: ∀b u,b≠e->s.heap.get? b=some u->h'.get? b=some u) (heo: ∃u,h'.get? e=some u)
  (new:dq X.prog X.w (upd H x o) h' x o):Inv X R1 O (upd H x o) { s with heap:=h',toks:=t' }:=I.un (Un.write mu he k heo) (I.hok.write mu he k heo new)
theorem Inv.weak {O':qx (rW V)}(I:Inv X R1 O H s) (hl:O'.length=O.length) (w: ∀(i:u6) v,O'[i]?=some (some v)->O[i]?=some (some v)):Inv X R1 O' H s :=
 ⟨I.ok,I.os,I.bare,I.base,let ⟨m,hn,hl'⟩:=I.loc; ⟨m,hn,λi x v e1 e2 e3=>hl' i x v e1 (w i v e2) e3⟩,I.cell,I.free,I.freeC,I.pin,I.hok,hl.trans I.len⟩
theorem Inv.jy {pins':nE}(I:Inv X R1 O H s) (h: ∀p∈pins',s.heap.get? p.1=some p.2/\H p.1=none/\p.1≠X.env.locals/\p.1∉X.fs/\ ∀v,p.2.data≠ .cell v):Inv X pins' O H s :=
 ⟨I.ok,I.os,I.bare,I.base,I.loc,I.cell,I.free,I.freeC,λp hp=>(Oe.mp hp).elim (λz=>I.pin p (Oy _ z)) (h p),I.hok,I.len⟩
theorem xp {N:qx va}(hN:N.Nodup){i j:u6}{x:va}(a:N[i]?=some x) (b:N[j]?=some x):i=j:=by
 obtain⟨h1,e1⟩:=NX.mp a;obtain⟨h2,e2⟩:=NX.mp b;show (Q5 hN).mp<|e1.trans e2.symm
variable{E:oF}{Q:Unit->rK->Prop}
theorem vP {M:Model}{A:uc}{i:u6}{x:va}{v:V}{u:qT}(I:Inv X R1 O H s) (hN:X.N.Nodup) (hi:X.N[i]?=some x) (hx:Loc X.env.scope x) (r:RelV v u)
  (h: ∀s',Inv X R1 (O.set i (some v)) H s'->(∃a,EY a s.heap s'.heap/\(a=X.env.locals\/X.env.cells.lookup x=some a))->Q () s') (hf:X.fn x=true\/X.env.scope.names.lookup x=some .local:=by first | show .inl rfl | show .inr rfl | assumption):xA M A (storeName X.env x u) Q E s:=by
 obtain⟨m,hn,hl⟩:=id I.loc;have hcls:(X.env.scope.kind == .class || (X.env.scope.kind == .module && X.env.locals !=X.env.globals))=false:=by rw[I.ok.kind]; rfl
 have hiσ:i < O.length:=by rw[I.len]; show (NX.mp hi).1
 have TQ:=I.TQ;have tracked: ∀ {a:qA}{h':yk},(∃o,s.heap.get? a=some o/\H a=none)->EY a s.heap h'->Ss X.prog X.w H h':=λ{a h'} ha hs b ob e=>by
  obtain⟨_,_,hfree⟩:=ha;show (I.hok b ob e).mj (λc w' hc q=>(hs.2 c ?_).trans q) (λ_ q=>q) λ_ _ q=>q;rintro rfl;rcases hc with rfl | hc
  .rw[hfree] at e; cases e
  .rw[hfree] at hc; cases hc
 rcases hx with hk | hk
 .show wpAny_storeName_local hk hn (λh' hn' hs=>?_) hcls;obtain⟨oL,_,_,hoL,_⟩:=id hn;show h _ ⟨I.ok,I.os,I.bare,⟨λb o e n hb hx=>?_,λb o e n hb hx=>?_,I.base.free,λb o e hx=>?_,I.base.tups,I.base.frzs,I.base.tbls⟩,⟨_,hn',λj y v' e1 e2 e3=>?_⟩,λy c e=>?_,I.free,I.freeC,λp hp=>?_,tracked ⟨oL,hoL,I.free⟩ hs,by simpa using I.len⟩ ⟨_,hs,.inl rfl⟩;.exact (hs.2 b<|OC<|OT (Of e) I.ok.above).trans<|I.base.keep b o e n hb hx
  .obtain⟨sl,e1⟩:=I.base.slot b o e n hb hx;erw[sl,(hs.2 b<|OC<|OT (Of e) I.ok.above).trans e1]
  .obtain⟨o',e1⟩:=I.base.there b o e hx;erw[o',(hs.2 b<|OC<|OT (Of e) I.ok.above).trans e1]
  .by_cases hj:j=i
   .subst hj;rw[hi] at e1; cases e1;rw[Vw hiσ] at e2;cases e2;erw[u,r,.inl ⟨hk,uD⟩]
   .rw[Ri<|Ox hj] at e2;obtain⟨u',r',q⟩:=hl j y v' e1 e2 e3;erw[u',r',?_];rcases q with⟨k,e⟩ | ⟨k,c,e,z⟩
    .show .inl ⟨k,?_⟩;have:y≠x:=λe=>hj<|xp hN e1<|e▸hi;simp[this,e]
    .exact .inr ⟨k,c,e,z.sameBut hs<|TQ y c e⟩
  .obtain⟨w',z⟩:=I.cell y c e;erw[w',z.sameBut hs<|TQ y c e]
  .obtain⟨e,n,ne,nf,d⟩:=I.pin p hp;erw[(hs.2 p.1 ne).trans e,n,ne,nf,d]
 .have hfn:X.fn x=true:=by
   rcases hf with z | z
   .exact z
   .rw[z] at hk; cases hk
  obtain⟨c,hc⟩:=I.ok.has x<|.inl hk;obtain⟨w',z⟩:=I.cell x c hc;show wpAny_storeName_cell I.ok.kind hk hc z λh' hc' hs=>?_;obtain⟨oc,hoc,hocd⟩:=id z;show h { s with heap:=h' } ⟨I.ok,I.os,I.bare,⟨λb o e n hb hx=>?_,λb o e n hb hx=>?_,I.base.free,λb o e hx=>?_,I.base.tups,I.base.frzs,I.base.tbls⟩,⟨m,hn.sameBut hs<|Ox<|TQ x c hc,λj y v' e1 e2 e3=>?_⟩,λy c' e=>?_,I.free,I.freeC,λp hp=>?_,tracked ⟨oc,hoc,I.freeC x c hc⟩ hs,by simpa using I.len⟩ ⟨c,hs,.inr hc⟩;.exact (hs.2 b<|OC<|OT (Of e)<|I.ok.cab x c hfn hc).trans<|I.base.keep b o e n hb hx
  .obtain⟨sl,e1⟩:=I.base.slot b o e n hb hx;erw[sl,(hs.2 b<|OC<|OT (Of e)<|I.ok.cab x c hfn hc).trans e1]
  .obtain⟨o',e1⟩:=I.base.there b o e hx;erw[o',(hs.2 b<|OC<|OT (Of e)<|I.ok.cab x c hfn hc).trans e1]
  .by_cases hj:j=i
   .subst hj;rw[hi] at e1; cases e1;rw[Vw hiσ] at e2;cases e2;erw[u,r,.inr ⟨.inl hk,c,hc,hc'⟩]
   .rw[Ri<|Ox hj] at e2;obtain⟨u',r',q⟩:=hl j y v' e1 e2 e3;erw[u',r',?_];rcases q with q | ⟨k,c',e,z'⟩
    .exact .inl q
    .show .inr ⟨k,c',e,z'.sameBut hs ?_⟩;rintro rfl;show hj<|xp hN e1<|I.ok.inj _ _ _ e hc▸hi
  .by_cases hcc:c'=c;.subst hcc; erw[_,hc']
   .obtain⟨w2,z2⟩:=I.cell y c' e;erw[w2,z2.sameBut hs hcc]
  .obtain⟨e,n,ne,nf,d⟩:=I.pin p hp;erw[(hs.2 p.1 ?_).trans e,n,ne,nf,d];intro q;rw[q,hoc] at e;have q':oc=p.2:=Oj e;show d w' (by rw[<-q']; show hocd)
theorem iE {M:Model}{A:uc}{i:u6}{x:va}{v:V}{u:qT}(I:Inv X R1 O H s) (hN:X.N.Nodup) (hi:X.N[i]?=some x) (hx:Loc X.env.scope x) (r:RelV v u)
  (h: ∀s',Inv X R1 (O.set i (some v)) H s'->Q () s') (hf:X.fn x=true\/X.env.scope.names.lookup x=some .local:=by first | show .inl rfl | show .inr rfl | assumption):xA M A (storeName X.env x u) Q E s :=
 vP I hN hi hx r (λs' I' _=>h s' I') hf
theorem Inv.Cj {s':rK}{ch:qx qA}(I:Inv X R1 O H s) (ho:s'.os=s.os) (u:Un (S2 X.stack) ch H H' s.heap s'.heap) (hok:Ss X.prog X.w H' s'.heap) (hg:F0 s'.gens)
  (hch: ∀b∈ch,(b∈X.ex\/X.s₀.heap.objs.size<=b)/\b≠X.env.locals/\(∀x c,X.env.cells.lookup x=some c->c≠b)/\ ∀p∈X.pn++R1,p.1≠b):Inv X R1 O H' s':=by
 obtain⟨h',g',d',t',o'⟩:=s';have e:o'=s.os:=ho;subst e;show I.call (g':=g') (t':=t') (d':=d') u hok hg hch
end
abbrev XK:=qT->rW qA->Hp->Prop
abbrev St:=qx (rW V)
abbrev VK:=V->Hp->Prop
abbrev TE:=St->Hp->VK->Prop
abbrev TT:=St->Hp->(yW->Hp->Prop)->Prop
abbrev TA:=St->Hp->(qx V->Hp->Prop)->Prop
structure Ends where
 nx:St->Hp->Prop
 rt:VK
 bk:St->Hp->Prop:=λ_ _=>zh
 ct:St->Hp->Prop:=λ_ _=>zh
abbrev TS:=Ends->St->Hp->Prop
def EP (X:Cx) (R1:nE) (O:St) (Q:VK) (u:qT) (s':rK):Prop:= ∃v H',Inv X R1 O H' s'/\RelV v u/\Q v H'
def TP (X:Cx) (R1:nE) (O:St) (Q:yW->Hp->Prop) (b:yW) (s':rK):Prop:= ∃H',Inv X R1 O H' s'/\Q b H'
def AP (X:Cx) (R1:nE) (O:St) (Q:qx V->Hp->Prop) (us:qx qT) (s':rK):Prop:= ∃vs H',Inv X R1 O H' s'/\Vals vs us/\Q vs H'
def SP (X:Cx) (R1:nE) (D:Ends) (f:Flow) (s':rK):Prop :=
 match f with
 | .next=> ∃O' H',Inv X R1 O' H' s'/\D.nx O' H'
 | .brk=> ∃O' H',Inv X R1 O' H' s'/\D.bk O' H'
 | .cont=> ∃O' H',Inv X R1 O' H' s'/\D.ct O' H'
 | .ret u=> ∃v O' H',Inv X R1 O' H' s'/\RelV v u/\D.rt v H'
def PE (X:Cx) (e:tW) (t:TE):Prop :=
 ∀(R1:nE) (s:rK) (O:St) (H:Hp) (Q:VK),Inv X R1 O H s->t O H Q->xA (model X.prog X.w) X.A (eval e X.env) (EP X R1 O Q) X.xe s
def PT (X:Cx) (e:tW) (t:TT):Prop :=
 ∀(R1:nE) (s:rK) (O:St) (H:Hp) (Q:yW->Hp->Prop),Inv X R1 O H s->t O H Q->xA (model X.prog X.w) X.A (isTrue e X.env (eval e X.env)) (TP X R1 O Q) X.xe s
def PW (X:Cx) (e:tW) (t:TT):Prop :=
 ∀(whole:Sem qT) (R1:nE) (s:rK) (O:St) (H:Hp) (Q:yW->Hp->Prop),Inv X R1 O H s->t O H Q->xA (model X.prog X.w) X.A (isTrue e X.env whole) (TP X R1 O Q) X.xe s
variable{X:Cx}
theorem PW.pt {e:tW}{t:TT}(h:PW X e t):PT X e t:=h _
def PA (X:Cx) (es:qx tW) (t:TA):Prop :=
 ∀(pos:Pos) (R1:nE) (s:rK) (O:St) (H:Hp) (Q:qx V->Hp->Prop),Inv X R1 O H s->t O H Q->xA (model X.prog X.w) X.A (spliced (zV pos (zb es X.env))) (AP X R1 O Q) X.xe s
def PS (X:Cx) (st:zc) (t:TS):Prop :=
 ∀(R1:nE) (s:rK) (O:St) (H:Hp) (D:Ends),Inv X R1 O H s->t D O H->xA (model X.prog X.w) X.A (exec st X.env) (SP X R1 D) X.xe s
def Sz (X:Cx) (st:qx zc) (t:TS):Prop :=
 ∀(R1:nE) (s:rK) (O:St) (H:Hp) (D:Ends),Inv X R1 O H s->t D O H->xA (model X.prog X.w) X.A (execs st X.env) (SP X R1 D) X.xe s
variable{A:uc}{E:oF}{s:rK}
theorem Sf {α:Type}{t:Sem α}{Q Q':α->rK->Prop}{M:Model}(h:xA M A t Q E s) (hQ: ∀a s,Q a s->Q' a s):xA M A t Q' E s:=Pa h hQ λ_ _ x=>x
abbrev DB (x:va):Prop:=(x == ("__debug__" : va))=false
section
variable {X:Cx}
theorem bin {a b:tW}{ta tb:TE}(ha:PE X a ta) (hb:PE X b tb){R1:nE}{s:rK}{O:St}{H:Hp}{R:V->V->Hp->Prop}(I:Inv X R1 O H s) (h:ta O H λx H1=>tb O H1 λy H2=>R x y H2)
  {α:Type}{Q:α->rK->Prop}{f:qT->qT->Sem α}
  (hf: ∀v u s2 x y H2,Inv X R1 O H2 s2->RelV x v->RelV y u->R x y H2->xA (model X.prog X.w) X.A (f v u) Q X.xe s2) :
  xA (model X.prog X.w) X.A (eval a X.env) (λv s₁=>xA (model X.prog X.w) X.A (eval b X.env) (λu s₂=>xA (model X.prog X.w) X.A (f v u) Q X.xe s₂) X.xe s₁) X.xe s:=by
 show Sf (ha R1 s O H _ I h) λv s1 ⟨x,H1,I1,r1,q1⟩=>?_;show Sf (hb R1 s1 O H1 _ I1 q1) λu s2 ⟨y,H2,I2,r2,q2⟩=>?_;show hf v u s2 x y H2 I2 r1 r2 q2
inductive Lb (i:u6) (O:St) (H:Hp) (Q:VK):Prop | mk (v:_) (e0:O[i]?=some (some v)) (q:Q v H)
def oO (i:u6):TE:=λO H Q=>Lb i O H Q
def tC (v:V):TE:=λ_ H Q=>Q v H
theorem KS {i:u6}{x:va}{pos:Pos}(hN:X.N[i]?=some x) (hv:Ud X.env.scope x) (hd:DB x:=by decide) (hcd:(x == ("__classdict__" : va))=false:=by decide):PE X (.Name x pos) (oO i):=by
 intro R1 s O H Q I h;obtain⟨v,e,h⟩:=h;obtain⟨m,hn,hl⟩:=I.loc;obtain⟨u,r,l⟩:=hl i x v hN e hv;have fin:EP X R1 O Q u s:=⟨v,H,I,r,h⟩
 rcases l with⟨hk,hm⟩ | ⟨hk,c,hc,hcell⟩
 .exact wpAny_Name (wpAny_loadName_local I.ok.kind hk hn hm fin) hd
 .rcases hk with hk | hk
  .exact wpAny_Name (wpAny_loadName_cell I.ok.kind hk hc hcell fin) hd
  .exact wpAny_Name (wpAny_loadName_free I.ok.kind hk hc hcell fin hcd) hd
theorem aa {i j pos}:PE X (.Constant (.int i) j pos) (tC (.int i)):=λ_ _ _ H _ I h=>wpAny_Constant_int ⟨.int i,H,I.tok _,⟨_,Z⟩,h⟩
theorem jP {b j pos}:PE X (.Constant (.bool b) j pos) (tC (.bl b)):=λ_ _ _ H _ I h=>Constant_bool ⟨.bl b,H,I,Z,h⟩
theorem cM {j pos}:PE X (.Constant .none j pos) (tC .non):=λ_ _ _ H _ I h=>Constant_none ⟨.non,H,I,Z,h⟩
theorem aq {x j pos}:PE X (.Constant (.str x) j pos) (tC (.str x)):=λ_ _ _ H _ I h=>V0 ⟨.str x,H,I.tok _,⟨_,Z⟩,h⟩
def Gl (X:Cx) (x:va):Prop:=X.env.kindOf x=some .globalImplicit
variable{R1:nE}{u:qT}{Q:oF}
theorem kQ {E:oF}{s:rK}{O:St}{H:Hp}{x:va}{pos:Pos}(I:Inv X R1 O H s) (hg:Gl X x) (hm:X.mg x=some u) (h:Q u s)
  (hd:DB x:=by decide):xA (model X.prog X.w) X.A (eval (.Name x pos) X.env) Q E s :=
 Vb I.ok.kind hg (Calls.loadGlobal_global (by rw[I.ok.glob]; show I.mod.glob.keeps I.bk) hm h) hd
theorem lj {E:oF}{s:rK}{O:St}{H:Hp}{x:va}{pos:Pos}(I:Inv X R1 O H s) (hg:Gl X x) (hm:X.mg x=none) (hv:zt x=some u) (h:Q u s)
  (hn:x≠ "__name__" := by decide) (hd:DB x:=by decide):xA (model X.prog X.w) X.A (eval (.Name x pos) X.env) Q E s:=by
 obtain⟨mb,h1,h2⟩:=I.mod.blt;show Vb I.ok.kind hg (Calls.loadGlobal_builtin (by rw[I.ok.glob]; show I.mod.glob.keeps I.bk) hm (by rw[I.ok.blt]; show h1.keeps I.bk) ((h2 x hn).trans hv) h) hd
theorem z8 {x:va}{v:V}{pos:Pos}(hg:Gl X x) (hm:X.mg x=some u) (r:RelV v u) (hd:DB x:=by decide):PE X (.Name x pos) (tC v) :=
 λ_ _ _ H _ I h=>kQ I hg hm ⟨v,H,I,r,h⟩ hd
theorem AA {x:va}{v:V}{pos:Pos}(hg:Gl X x) (hm:X.mg x=none) (hv:zt x=some u) (r:RelV v u) (hn:x≠ "__name__" := by decide) (hd:DB x:=by decide):PE X (.Name x pos) (tC v) :=
 λ_ _ _ H _ I h=>lj I hg hm hv ⟨v,H,I,r,h⟩ hn hd
inductive MJ (k:u7->u7->Hp->Prop) (x y:V) (H2:Hp):Prop | mk (i j:_) (e0:x= .int i) (e1:y= .int j) (q:k i j H2)
def UU (ta tb:TE) (k:u7->u7->Hp->Prop):St->Hp->Prop:=λO H=>ta O H λx H1=>tb O H1 λy H2=>MJ k x y H2
variable {a b:tW}{ta tb:TE}{pos:Pos}
def PC (X:Cx) (op:CmpOp) (a b:tW) (t:TE):Prop :=
 ∀(R1:nE) (s:rK) (O:St) (H:Hp) (Q:VK),Inv X R1 O H s->t O H Q ->
  xA (model X.prog X.w) X.A (eval a X.env) (λv s₁=>xA (model X.prog X.w) X.A (eval b X.env) (λu s₂=>xA (model X.prog X.w) X.A (zm op v u) (EP X R1 O Q) X.xe s₂) X.xe s₁) X.xe s
theorem xh (b:tW){op:CmpOp}(h:op≠ .In) (h2:op≠ .NotIn):zL op b=false:=by
 have e1:(op == XQ)=false:=by cases op <;> first | rfl | show wz rfl h
 have e2:(op == Xs)=false:=by cases op <;> first | rfl | show wz rfl h2
 cases b <;> simp[zL,e1,e2]
def uO (p:u7->u7->yW) (ta tb:TE):TE:=λO H Q=>UU ta tb (λi j H2=>Q (.bl (p i j)) H2) O H
abbrev U1:TE->TE->TE:=uO λi j=>decide (i < j)
abbrev U0:TE->TE->TE:=uO λi j=>decide (i<=j)
abbrev UZ:TE->TE->TE:=uO λi j=>decide (j < i)
abbrev U3:TE->TE->TE:=uO λi j=>decide (j<=i)
abbrev NQ:TE->TE->TE:=uO λi j=>decide (i=j)
abbrev NP:TE->TE->TE:=uO λi j=> !decide (i=j)
inductive UL (Q:yW->Hp->Prop) (x:V) (H1:Hp):Prop | mk (c:_) (e0:x= .bl c) (q:Q c H1)
def tB (t:TE):TT:=λO H Q=>t O H λx H1=>UL Q x H1
variable{t:TE}
theorem Dt {op:CmpOp}(h:PC X op a b t) (h1:zL op b=false:=by first | show xh _ aS aS | rfl):PE X (.Compare a [op] [b] pos) t:=λR1 s O H Q I hw=>wpAny_Compare1 (h R1 s O H Q I hw) h1
theorem oX {op:CmpOp}(h:PC X op a b t) (h1:zL op b=false:=by first | show xh _ aS aS | rfl):PT X (.Compare a [op] [b] pos) (tB t):=by
 intro R1 s O H Q I hw;show wpAny_isTrue_Compare1 (Sf (h R1 s O H _ I hw) λv s1 h1=>Sf h1 λu s2 h2=>Sf h2 λc s3 ⟨x,H1,I1,r1,q1⟩=>?_) h1;obtain⟨d,rfl,q⟩:=q1;cases r1;show Pu ⟨H1,I1,q⟩
variable {tA tB':TT}{rest:qx tW}
def M9 (t u:TT):TT:=λO H Q=>t O H λc H1=>if c=true then u O H1 Q else Q false H1
def UR (t u:TT):TT:=λO H Q=>t O H λc H1=>if c=true then Q true H1 else u O H1 Q
def MS (t:TT):TT:=λO H Q=>t O H λc H1=>Q (!c) H1
theorem cg (ha:PT X a tA):PW X (.BoolOp .And [a] pos) tA:=by
 intro wh R1 s O H Q I h;show isTrue_and<|Sf (ha R1 s O H Q I h) λc s1 e=>?_;cases c with
 | true=>show isTrue_and_nil e
 | false=>show e
theorem pH (ha:PT X a tA):PW X (.BoolOp .Or [a] pos) tA:=by
 intro wh R1 s O H Q I h;show isTrue_or<|Sf (ha R1 s O H Q I h) λc s1 e=>?_;cases c with
 | false=>show isTrue_or_nil e
 | true=>show e
theorem cv (ha:PT X a tA) (hb:PW X (.BoolOp .And (b::rest) pos) tB'):PW X (.BoolOp .And (a::b::rest) pos) (M9 tA tB'):=by
 intro wh R1 s O H Q I h;show isTrue_and<|Sf (ha R1 s O H _ I h) λc s1 ⟨H1,I1,q1⟩=>?_;cases c with
 | true=>show hb wh R1 s1 O H1 Q I1 q1
 | false=>exact⟨H1,I1,q1⟩
theorem sy (ha:PT X a tA) (hb:PW X (.BoolOp .Or (b::rest) pos) tB'):PW X (.BoolOp .Or (a::b::rest) pos) (UR tA tB'):=by
 intro wh R1 s O H Q I h;show isTrue_or<|Sf (ha R1 s O H _ I h) λc s1 ⟨H1,I1,q1⟩=>?_;cases c with
 | true=>exact⟨H1,I1,q1⟩
 | false=>show hb wh R1 s1 O H1 Q I1 q1
theorem lG (ha:PT X a tA):PT X (.UnaryOp .Not a pos) (MS tA):=by
 intro R1 s O H Q I h;show isTrue_not<|ha R1 s O H (λc H1=>Q (!c) H1) I h
inductive K1 (tb:TE) (O:St) (Q:VK) (x:V) (H1:Hp):Prop | mk (c:_) (e0:x= .bl c) (q:if c=true then tb O H1 Q else Q (.bl false) H1)
def Lu (ta tb:TE):TE:=λO H Q=>ta O H λx H1=>K1 tb O Q x H1
inductive LQ (tb:TE) (O:St) (Q:VK) (x:V) (H1:Hp):Prop | mk (c:_) (e0:x= .bl c) (q:if c=true then Q (.bl true) H1 else tb O H1 Q)
def Nb (ta tb:TE):TE:=λO H Q=>ta O H λx H1=>LQ tb O Q x H1
inductive Ni (Q:VK) (x:V) (H1:Hp):Prop | mk (c:_) (e0:x= .bl c) (q:Q (.bl (!c)) H1)
theorem iZ {op}(h:PE X a t):PE X (.BoolOp op [a] pos) t:=λR1 s O H Q I hw=>BoolOp_one (h R1 s O H Q I hw)
theorem k8 (ha:PE X a ta) (hb:PE X (.BoolOp .And (b::rest) pos) tb):PE X (.BoolOp .And (a::b::rest) pos) (Lu ta tb):=by
 intro R1 s O H Q I h;show BoolOp_and<|Sf (ha R1 s O H _ I h) λv s1 ⟨x,H1,I1,r1,q1⟩=>?_;obtain⟨c,rfl,q1⟩:=q1;cases r1;show Pu ?_;cases c with
 | true=>show hb R1 s1 O H1 Q I1 q1
 | false=>exact⟨.bl false,H1,I1,Z,q1⟩
theorem G9 (ha:PE X a ta) (hb:PE X (.BoolOp .Or (b::rest) pos) tb):PE X (.BoolOp .Or (a::b::rest) pos) (Nb ta tb):=by
 intro R1 s O H Q I h;show BoolOp_or<|Sf (ha R1 s O H _ I h) λv s1 ⟨x,H1,I1,r1,q1⟩=>?_;obtain⟨c,rfl,q1⟩:=q1;cases r1;show Pu ?_;cases c with
 | false=>show hb R1 s1 O H1 Q I1 q1
 | true=>exact⟨.bl true,H1,I1,Z,q1⟩
def UQ (t:TT) (ta tb:TE):TE:=λO H Q=>t O H λc H1=>if c=true then ta O H1 Q else tb O H1 Q
theorem jK {c:tW}(hc:PT X c tA) (ha:PE X a ta) (hb:PE X b tb):PE X (.IfExp c a b pos) (UQ tA ta tb):=by
 intro R1 s O H Q I h;show wpAny_IfExp<|Sf (hc R1 s O H _ I h) λd s1 ⟨H1,I1,q1⟩=>?_;cases d with
 | true=>show ha R1 s1 O H1 Q I1 q1
 | false=>show hb R1 s1 O H1 Q I1 q1
end
def R5 (K:R7) (H:Hp) (a:qA) (xs:qx V):Prop :=
 Rd H a (.lst xs) \/
  ∃(o:Obj) (its:zR qT) (n:u6),K.lookup a=some o/\o.cls= .type "list" /\ o.dict=none/\o.data= .seq its n/\its.size<=sizeLine/\Vals xs its.toList
def Se (K:R7) (H:Hp) (a:qA) (xs:qx V):Prop :=
 Rd H a (.tup xs) \/
  ∃(o:Obj) (its:zR qT) (n:u6),K.lookup a=some o/\o.cls= .type "tuple" /\ o.data= .seq its n/\its.size<=sizeLine/\Vals xs its.toList
def Mw:qT->rW V
 | .none=>some .non
 | .bool b=>some (.bl b)
 | .int i _=>some (.int i)
 | .str x _=>some (.str x)
 | .bytes b _=>some (.byt b)
 | .float b _=>some (.flt b)
 | .ref a=>some (.ref a)
 | .type n=>some (.ty n)
 | _=>none
theorem RelV.abs {x:V}(r:RelV x u):Mw u=some x:=by
 cases x with
 | non=>cases r; rfl
 | bl _=>cases r; rfl
 | int _=>obtain⟨t,rfl⟩:=r; rfl
 | str _=>obtain⟨t,rfl⟩:=r; rfl
 | byt _=>obtain⟨t,rfl⟩:=r; rfl
 | flt _=>obtain⟨t,rfl⟩:=r; rfl
 | ref _=>cases r; rfl
 | ty _=>cases r; rfl
theorem RelV.inj {x y:V}(r:RelV x u) (q:RelV y u):x=y:=Oj (r.abs.symm.trans q.abs)
theorem Vals.inj: ∀ {xs ys:qx V}{us:qx qT},Vals xs us->Vals ys us->xs=ys
 | _,_,_,.nil,.nil=>rfl
 | _,_,_,.cons r t,.cons r' t'=>by rw[r.inj r',Vals.inj t t']
section
variable {X:Cx}{R1:nE}{O:St}{H:Hp}{s:rK}{a:qA}{xs ys:qx V}
theorem R5.of {K:R7}(h:H a=some (.lst xs)):R5 K H a xs:= .inl (.inl h)
theorem Se.of {K:R7}(h:H a=some (.tup xs)):Se K H a xs:= .inl (.inl h)
theorem Inv.list (I:Inv X R1 O H s) (h:R5 X.K H a xs): ∃its:qx qT,Vals xs its/\PlainL s.heap a its.toArray/\xs.length<=sizeLine:=by
 rcases h with h | ⟨o,its,n,hk,hc,hd,hs,hz,r⟩
 .obtain⟨z,its,n,r,e⟩:=h.ok I.hok;erw[its,r,⟨_,n,e,Z,Z,Z⟩,z]
 .exists its.toList,r,⟨o,n,I.SQ a o hk,hc,hd,by simpa using hs⟩,?_;have e:=r.length;simp only[Ru] at e;lia
theorem Inv.tuple (I:Inv X R1 O H s) (h:Se X.K H a xs): ∃its:qx qT,Vals xs its/\IsTup s.heap a its.toArray/\xs.length<=sizeLine:=by
 rcases h with h | ⟨o,its,n,hk,hc,hs,hz,r⟩
 .obtain⟨z,its,r,p⟩:=h.ok I.hok;erw[its,r,p,z]
 .exists its.toList,r,⟨o,I.SQ a o hk,hc,n,by simpa using hs⟩,?_;have e:=r.length;simp only[Ru] at e;lia
theorem Inv.nS (I:Inv X R1 O H s) (h:R5 X.K H a xs) (h':R5 X.K H a ys):xs=ys:=by
 obtain⟨its,r,⟨o,n,e,_,_,d⟩,_⟩:=I.list h;obtain⟨its',r',⟨o',n',e',_,_,d'⟩,_⟩:=I.list h';rw[e] at e'; cases e';rw[d] at d';injection d' with d1 _
 have:its=its':=by simpa using OI W0 d1
 subst this;show r.inj r'
theorem Inv.DW (I:Inv X R1 O H s) (h:Se X.K H a xs) (h':Se X.K H a ys):xs=ys:=by
 obtain⟨its,r,⟨o,e,_,n,d⟩,_⟩:=I.tuple h;obtain⟨its',r',⟨o',e',_,n',d'⟩,_⟩:=I.tuple h';rw[e] at e'; cases e';rw[d] at d';injection d' with d1 _
 have:its=its':=by simpa using OI W0 d1
 subst this;show r.inj r'
end
abbrev Cx.mf (X:Cx) (E:oF):Cx:={ X with xe:=E }
abbrev Cx.TV (X:Cx):Cx:=X.mf λ_ _=>zh
theorem Cx.Ok.mf(ok:X.Ok) (E:oF):(X.mf E).Ok :=
 ⟨ok.mod,ok.kind,ok.glob,ok.blt,ok.above,ok.inj,ok.has,ok.cab,ok.hd,ok.frames,ok.stk,ok.exf,ok.bs,ok.bsz,ok.noex,ok.exfs,ok.fF,ok.frf⟩
theorem Cx.Ok.jX(ok:(X.mf E).Ok):X.Ok :=
 ⟨ok.mod,ok.kind,ok.glob,ok.blt,ok.above,ok.inj,ok.has,ok.cab,ok.hd,ok.frames,ok.stk,ok.exf,ok.bs,ok.bsz,ok.noex,ok.exfs,ok.fF,ok.frf⟩
section
variable {X:Cx}{R1:nE}{O:St}{H:Hp}{s:rK}{E:oF}
theorem Inv.mf (I:Inv X R1 O H s) (E:oF):Inv (X.mf E) R1 O H s:=⟨I.ok.mf E,I.os,I.bare,I.base,I.loc,I.cell,I.free,I.freeC,I.pin,I.hok,I.len⟩
theorem Inv.jX (I:Inv (X.mf E) R1 O H s):Inv X R1 O H s:=⟨I.ok.jX,I.os,I.bare,I.base,I.loc,I.cell,I.free,I.freeC,I.pin,I.hok,I.len⟩
theorem SP.jX {D:Ends}{f:Flow}{s':rK}(h:SP (X.mf E) R1 D f s'):SP X R1 D f s':=by
 cases f with
 | next=>obtain⟨O',H',I,q⟩:=h; erw[O',H',I.jX,q]
 | brk=>obtain⟨O',H',I,q⟩:=h; erw[O',H',I.jX,q]
 | cont=>obtain⟨O',H',I,q⟩:=h; erw[O',H',I.jX,q]
 | ret u=>obtain⟨v,O',H',I,r,q⟩:=h; erw[v,O',H',I.jX,r,q]
theorem Sz.TV {st:qx zc}{t:TS}(h:Sz X.TV st t):Sz X st t:=λR1 s O H D I hw =>
 Pa (h R1 s O H D (I.mf _) hw) (λ_ _ q=>q.jX) λ_ _ z=>Ba z
end
section
variable {X:Cx}{st:zc}{rest:qx zc}{t u:TS}{e:tW}{te:TE}{pos:Pos}
def G8:TS:=λD O H=>D.nx O H
def E1 (t u:TS):TS:=λD O H=>t { D with nx:=u D } O H
theorem ax:Sz X [] G8:=λ_ _ O H _ I h=>Rp ⟨O,H,I,h⟩
theorem ae (h1:PS X st t) (h2:Sz X rest u):Sz X (st::rest) (E1 t u):=by
 intro R1 s O H D I h;show wpAny_execs_cons<|Sf (h1 R1 s O H { D with nx:=u D } I h) λf s1 q=>?_;cases f with
 | next =>
  obtain⟨O',H',I',q⟩:=q;show h2 R1 s1 O' H' D I' q
 | ret v=>show q
 | brk=>show q
 | cont=>show q
theorem au (h1:PS X st t):Sz X [st] t:=by
 intro R1 s O H D I h;show wpAny_execs_cons<|Sf (h1 R1 s O H D I h) λf s1 q=>?_;cases f with
 | next=>show Rp q
 | ret v=>show q
 | brk=>show q
 | cont=>show q
def Mh:TS:=λD O H=>D.ct O H
theorem zP:PS X (.Continue pos) Mh:=λ_ _ O H _ I h=>wpAny_Continue ⟨O,H,I,h⟩
theorem Inv.quiet {R1:nE}{O:St}{H:Hp}{s:rK}(I:Inv X R1 O H s):interactive X.env=false:=by simp[interactive,I.ok.kind]
def Ls (te:TE):TS:=λD O H=>te O H λ_ H1=>D.nx O H1
theorem aO (he:PE X e te) (hs:HW e none pos.line X.env=pure false:=by rfl):PS X (.Expr e pos) (Ls te):=by
 intro R1 s O H D I h;show wpAny_Expr_any (Sf (he R1 s O H _ I h) λv s1 ⟨x,H1,I1,r1,q1⟩=>⟨O,H1,I1,q1⟩) I.quiet hs
def GR (te:TE):TS:=λD O H=>te O H D.rt
theorem Kr (he:PE X e te):PS X (.Return (some e) pos) (GR te):=by
 intro R1 s O H D I h;show wpAny_Return_some<|Sf (he R1 s O H _ I h) λv s1 ⟨x,H1,I1,r1,q1⟩=>⟨x,O,H1,I1,r1,q1⟩
def Gq (c:TT) (t u:TS):TS:=λD O H=>c O H λb H1=>if b=true then t D O H1 else u D O H1
theorem aB {c:tW}{a b:qx zc}{tc:TT}(hc:PT X c tc) (ha:Sz X a t) (hb:Sz X b u):PS X (.If c a b pos) (Gq tc t u):=by
 intro R1 s O H D I h;show wpAny_If<|Sf (hc R1 s O H _ I h) λd s1 ⟨H1,I1,q1⟩=>?_;cases d with
 | true=>show ha R1 s1 O H1 D I1 q1
 | false=>show hb R1 s1 O H1 D I1 q1
end
abbrev TG:=V->St->Hp->(St->Hp->Prop)->Prop
abbrev S8:=qx V->St->Hp->(St->Hp->Prop)->Prop
def PG (X:Cx) (target:tW) (t:TG):Prop :=
 ∀(R1:nE) (s:rK) (O:St) (H:Hp) (v:V) (u:qT) (Q:St->Hp->Prop),Inv X R1 O H s->RelV v u->t v O H Q ->
  xA (model X.prog X.w) X.A (assign target X.env u) (λ_ s'=> ∃O' H',Inv X R1 O' H' s'/\Q O' H') X.xe s
def Ua (X:Cx) (ts:qx tW) (t:S8):Prop :=
 ∀(R1:nE) (s:rK) (O:St) (H:Hp) (vs:qx V) (us:qx qT) (Q:St->Hp->Prop),Inv X R1 O H s->Vals vs us->t vs O H Q ->
  xA (model X.prog X.w) X.A (assignInOrder ((IU ts X.env).map (·.2)) us) (λ_ s'=> ∃O' H',Inv X R1 O' H' s'/\Q O' H') X.xe s
abbrev Fi:=V->V->V->Hp->(Hp->Prop)->Prop
def J5 (X:Cx) (t:Fi):Prop :=
 ∀(R1:nE) (s:rK) (O:St) (H:Hp) (o i v:V) (ov iv u:qT) (Q:Hp->Prop),Inv X R1 O H s->RelV o ov->RelV i iv->RelV v u->t o i v H Q ->
  xA (model X.prog X.w) X.A (setItem ov iv u) (λ_ s'=> ∃H',Inv X R1 O H' s'/\Q H') X.xe s
abbrev UJ:=V->V->Hp->VK->Prop
section
variable {X:Cx}{pos:Pos}
def aK (i:u6):TG:=λv O H Q=>Q (O.set i (some v)) H
theorem HK {i:u6}{x:va}(hN:X.N.Nodup) (hi:X.N[i]?=some x) (hx:Loc X.env.scope x) (hf:X.fn x=true\/X.env.scope.names.lookup x=some .local:=by first | show .inl rfl | show .inr rfl | assumption):PG X (.Name x pos) (aK i):=by
 intro R1 s O H v u Q I r h;show wpAny_assign_Name<|iE I hN hi hx r (λs' I'=>⟨_,H,I',h⟩) hf
def Cu:S8:=λvs O H Q=>vs=[]/\Q O H
inductive Ke (t:TG) (u:S8) (vs:qx V) (O:St) (H:Hp) (Q:St->Hp->Prop):Prop | mk (v r:_) (e0:vs=v::r) (q:t v O H λO' H'=>u r O' H' Q)
def rX (t:TG) (u:S8):S8:=λvs O H Q=>Ke t u vs O H Q
theorem de:Ua X [] Cu:=by
 intro R1 s O H vs us Q I r h;obtain⟨e,h⟩:=h;subst e;cases r;show assignInOrder_nil ⟨O,H,I,h⟩
variable{e:tW}
theorem aQ {es:qx tW}{t:TG}{u:S8}(h1:PG X e t) (h2:Ua X es u)
  (hs:(IU (e::es) X.env).map (·.2)=assign e X.env::(IU es X.env).map (·.2):=by rfl):Ua X (e::es) (rX t u):=by
 intro R1 s O H vs us Q I r h;obtain⟨v,vr,e1,h⟩:=h;subst e1;cases r with
 | cons r rr =>
  rw[hs];show P4<|Sf (h1 R1 s O H _ _ _ I r h) λ_ s1 ⟨O1,H1,I1,q1⟩=>?_;show h2 R1 s1 O1 H1 _ _ Q I1 rr q1
inductive Lo (K:R7) (n:u6) (t:S8) (v:V) (O:St) (H:Hp) (Q:St->Hp->Prop):Prop | mk (a xs:_) (e0:v= .ref a) (e1:Se K H a xs) (e2:xs.length=n) (q:t xs O H Q)
def nF (K:R7) (n:u6) (t:S8):TG:=λv O H Q=>Lo K n t v O H Q
theorem dI {es:qx tW}{k:u6}{t:S8}{n:u6}(hc:X.calm=true) (h:Ua X es t)
  (hn:(IU es X.env).length=n:=by rfl) (hst:(IU es X.env).findIdx? (·.1)=none:=by rfl):PG X (.Tuple es k pos) (nF X.K n t):=by
 intro R1 s O H v u Q I r hw;obtain⟨a,xs,e1,hq,hl,hw⟩:=hw;subst e1;cases r;obtain⟨its,rv,ht,hz⟩:=I.tuple hq;show assign_Tuple_tuple (I.ok.hd hc) ht (by simp[hn,<-hl,rv.length]) hst λh' hx=>?_;have I1:Inv X R1 O H { s with heap:=h' }:=I.kept (t':=s.toks) λb o e=>hx b o (OC<|Of e) e;show h R1 _ O H xs _ Q I1 (by simpa using rv) hw
def MG (to ti:TE) (t:Fi):TG:=λv O H Q=>to O H λo H1=>ti O H1 λi H2=>t o i v H2 λH3=>Q O H3
theorem h9 {o i:tW}{to ti:TE}{t:Fi}(ho:PE X o to) (hi:PE X i ti) (hs:J5 X t)
  (ha: ∀v,assign (.Subscript o i pos) X.env v=(do
   let ov <-holding [v] (eval o X.env)
   let iv <-holding [v,ov] (eval i X.env)
   standAt pos
   holding [v,ov,iv] (setItem ov iv v)
   release [v,ov,iv] []):=by intro _; rfl):PG X (.Subscript o i pos) (MG to ti t):=by
 intro R1 s O H v u Q I r h;rw[ha];show N9<|Qc<|Sf (ho R1 s O H _ I h) λov s1 ⟨x,H1,I1,r1,q1⟩=>?_;show N9<|Qc<|Sf (hi R1 s1 O H1 _ I1 q1) λiv s2 ⟨y,H2,I2,r2,q2⟩=>?_;show N9<|PV<|N9<|Qc<|Sf (hs R1 s2 O H2 x y v ov iv u _ I2 r1 r2 r q2) λ_ s3 ⟨H3,I3,q3⟩=>?_;show wpAny_release ⟨O,H3,I3,q3⟩
def xu (te:TE) (g:TG):TS:=λD O H=>te O H λx H1=>g x O H1 D.nx
theorem fj {tg:tW}{te:TE}{g:TG}(he:PE X e te) (hg:PG X tg g) (hs:swapsWithSole [tg] e pos.line X.env=pure false:=by rfl) (hw:swappedStores [tg] e X.env=pure none:=by rfl)
  (h1:(IU [tg] X.env).map (·.2)=[assign tg X.env]:=by rfl):PS X (.Assign [tg] e pos) (xu te g):=by
 intro R1 s O H D I h;show wpAny_Assign_stores (Sf (he R1 s O H _ I h) λv s1 ⟨x,H1,I1,r1,q1⟩=>?_) hs hw;rw[h1];show Sf (hg R1 s1 O H1 x v _ I1 r1 q1) λ_ s2 q=>q
theorem KZ {i:u6}{x:va}{te:TE}{pos':Pos}(hN:X.N.Nodup) (hi:X.N[i]?=some x) (hx:Loc X.env.scope x) (he:PE X e te) (hs:HW e (some (.Name x pos')) pos.line X.env=pure false:=by rfl) (hf:X.fn x=true\/X.env.scope.names.lookup x=some .local:=by first | show .inl rfl | show .inr rfl | assumption) :
  PS X (.Assign [.Name x pos'] e pos) (xu te (aK i)):=by
 intro R1 s O H D I h;show wpAny_Assign_Name (Sf (he R1 s O H _ I h) λv s1 ⟨y,H1,I1,r1,q1⟩=>?_) hs;show iE I1 hN hi hx r1 (λs2 I2=>⟨_,H1,I2,q1⟩) hf
inductive LG (i j:u6) (D:Ends) (O:St) (vs:qx V) (H1:Hp):Prop | mk (v w:_) (e0:vs=[v,w]) (q:D.nx ((O.set i (some v)).set j (some w)) H1)
def M7 (i j:u6) (ta:TA):TS:=λD O H=>ta O H λvs H1=>LG i j D O vs H1
theorem KQ {i j:u6}{x y:va}{a b:tW}{ta:TA}{px py pt:Pos}{kt k2 pt2}(hc:X.calm=true) (hN:X.N.Nodup) (hi:X.N[i]?=some x) (hj:X.N[j]?=some y) (hij:i≠j)
  (hx:X.env.scope.names.lookup x=some .local) (hy:X.env.scope.names.lookup y=some .local) (ha:PA X [a,b] ta)
  (hw:swappedStores [.Tuple [.Name x px,.Name y py] kt pt] (.Tuple [a,b] k2 pt2) X.env=pure (some [x,y]))
  (hs:swapsWithSole [.Tuple [.Name x px,.Name y py] kt pt] (.Tuple [a,b] k2 pt2) pos.line X.env=pure false:=by rfl) :
  PS X (.Assign [.Tuple [.Name x px,.Name y py] kt pt] (.Tuple [a,b] k2 pt2) pos) (M7 i j ta):=by
 intro R1 s O H D I h;rw[exec_Assign_arm];show N9<|PV ?_;rw[hs];show N9<|OB ?_;rw[NS aS];show N9<|Tuple_<|Sf (ha _ R1 s O H _ I h) λus s1 ⟨vs,H1,I1,r1,q1⟩=>?_;obtain⟨v,w,e1,q1⟩:=q1;subst e1;obtain⟨u1,u2,rfl,rv,rw'⟩: ∃u1 u2,us=[u1,u2]/\RelV v u1/\RelV w u2:=by
  cases r1 with
  | cons p q =>
   cases q with
   | cons p' q' =>
    cases q';erw[_,_,Z,p,p']
 show QX ?_ aC;have I2:Inv X R1 O H1 { s1 with heap:=s1.heap.push { cls:= .type "tuple",data:= .seq [u1,u2].toArray } }:=I1.kept (t':=s1.toks) λb o e=>N3 _ e;rw[hw];show N9<|OB ?_;change xA (model X.prog X.w) X.A (do rule "assign.swapped-stores"; let items <-unpackItems (.ref s1.heap.objs.size) 2 none; assignInOrder [λv=>bindName X.env y v,λv=>bindName X.env x v] items.reverse; pure V1) _ _ _;show N9<|wpAny_rule<|N9<|unpackItems_tuple (items:= #[u1,u2]) (I.ok.hd hc) (WH s1.heap _) λh' hx'=>?_;have I3:=I2.kept (h':=h') (t':=s1.toks) λb o e=>hx' b o (OC<|Of e) e;change xA _ _ (assignInOrder [λv=>bindName X.env y v,λv=>bindName X.env x v] [u2,u1] >>= λ_=>pure V1) _ _ _;show N9<|P4<|QR<|iE I3 hN hj (.inl hy) rw' (λs2 I4=>?_)<|.inr hy;show P4<|QR<|iE I4 hN hi (.inl hx) rv (λs3 I5=>assignInOrder_nil<|OB ?_)<|.inr hx;rw[List.set_comm _ _<|Ox hij] at I5;erw[_,H1,I5,q1]
inductive NC (i:u6) (te:TE) (ti:UJ) (D:Ends) (O:St) (H:Hp):Prop | mk (x:_) (e0:O[i]?=some (some x)) (q:te O H λy H1=>ti x y H1 λz H2=>D.nx (O.set i (some z)) H2)
inductive NO (f:u7->u7->u7) (x y:V) (H:Hp) (Q:VK):Prop | mk (i j:_) (e0:x= .int i) (e1:y= .int j) (q:Q (.int (f i j)) H)
end
section
variable {X:Cx}{pos:Pos}
def J3 (c:TT) (tb:TS):TS:=λD O H=> ∃W:u6->St->Hp->Prop,(∃m,W m O H)/\ ∀m O H,W m O H ->
 c O H λb H1=>if b=true then ∃N:St->Hp->Prop,(∀O' H',N O' H'-> ∃m',m' < m/\W m' O' H')/\tb { D with nx:=N,ct:=N,bk:=D.nx } O H1 else D.nx O H1
theorem m9 {c:tW}{body:qx zc}{tc:TT}{tb:TS}(hp:PassesOwn (model X.prog X.w) X.A X.env X.xe) (hc:PT X c tc) (hb:Sz X body tb):PS X (.While c body [] pos) (J3 tc tb):=by
 intro R1 s O H D I h;obtain⟨W,⟨m0,w0⟩,turn⟩:=h;show wpAny_While<|codeAny_whileLoop (λn s'=> ∃O' H',Inv X R1 O' H' s'/\W n O' H') ?_ m0 ⟨O,H,I,w0⟩;rintro n s1 ⟨O1,H1,I1,w1⟩;show Qb hp<|Sf (hc R1 s1 O1 H1 _ I1<|turn n O1 H1 w1) λb s2 ⟨H2,I2,q2⟩=>?_;cases b with
 | true =>
  obtain⟨N,hN,q2⟩:=q2;rw[NW rfl];show Qb hp<|Sf (hb R1 s2 O1 H2 _ I2 q2) λf s3 q3=>?_;cases f with
  | next =>
   obtain⟨O3,H3,I3,n3⟩:=q3;obtain⟨m',hm,w3⟩:=hN O3 H3 n3;erw[m',hm,O3,H3,I3,w3]
  | cont =>
   obtain⟨O3,H3,I3,n3⟩:=q3;obtain⟨m',hm,w3⟩:=hN O3 H3 n3;erw[m',hm,O3,H3,I3,w3]
  | brk=>show q3
  | ret v=>show q3
 | false =>
  rw[NS Ol];show Rp ⟨O1,H2,I2,q2⟩
end
structure It where
 go:u6->Hp->Prop
 yld:u6->Hp->V->Hp->Prop
 stop:u6->Hp->Prop
def cN (X:Cx) (R1:nE) (H:Hp) (b:qA):Prop :=
 H b=none/\b≠X.env.locals/\b∉X.fs/\(b∈X.ex\/X.s₀.heap.objs.size<=b)/\(∀x c,X.env.cells.lookup x=some c->c≠b)/\ ∀p∈X.pn++R1,p.1≠b
theorem Inv.g9 {R1:nE}{O:St}{H':Hp}{b:qA}(I:Inv X R1 O H s) (hb:s.heap.objs.size<=b) (hn:H' b=none):cN X R1 H' b:=by
 erw[hn,Rj<|OT I.lt hb,I.MZ hb,.inr<|Ob I.sz hb,λx c e z=>?_,λp hp z=>?_]
 .obtain⟨v,q⟩:=I.cell x c e;show wz (OT q.lt (by rw[z]; show hb))<|PB _
 .exact wz (OT (Of (I.pin p hp).1) (by rw[z]; show hb))<|PB _
structure Turn (P:tq) (w:sW) (K:R7) (tg:tW) (J:It) (fp:qx qA) (it:qA) (tn:u6->yk->Prop):Prop where
 mem:it∈fp
 obj: ∀i h,tn i h-> ∀b∈fp,∃o,h.get? b=some o/\ ∀v,o.data≠ .cell v
 keep: ∀i h h',tn i h->(∀b∈fp,∀o,h.get? b=some o->h'.get? b=some o)->tn i h'
 item: ∀(X:Cx),X.prog=P->X.w=w->X.K=K->X.calm=true-> ∀(i:u6) (R1:nE) (s:rK) (O:St) (H:Hp) (E:oF),Inv X R1 O H s->(∀b∈fp,cN X R1 H b)->tn i s.heap->J.go i H ->
  xA (model P w) X.A (pyNext (.ref it)) (λr s1=> ∃u,r=some u /\
   xA (model P w) X.A (El tg (.ref it) u) (λ_ s2=> ∃x H',Inv X R1 O H' s2/\RelV x u/\J.yld i H x H'/\tn (i+1) s2.heap/\ ∀b∈fp,H' b=none) E s1) E s
 done: ∀(X:Cx),X.prog=P->X.w=w->X.K=K->X.calm=true-> ∀(i:u6) (R1:nE) (s:rK) (O:St) (H:Hp) (E:oF),Inv X R1 O H s->(∀b∈fp,cN X R1 H b)->tn i s.heap->J.stop i H ->
  xA (model P w) X.A (pyNext (.ref it)) (λr s1=>r=none/\Inv X R1 O H s1) E s
 self: ∀(A:uc) (i:u6) (s:rK) (Q:oF) (E:oF),tn i s.heap->Q (.ref it) s->xA (model P w) A (pyIter (.ref it)) Q E s
abbrev TI:=St->Hp->(It->Hp->Prop)->Prop
def Uz (X:Cx) (R1:nE) (O:St) (tg:tW) (R:It->Hp->Prop) (itv:qT) (s2:rK):Prop :=
 ∃(it:qA) (fp:qx qA) (tn:u6->yk->Prop) (J:It) (H':Hp),itv= .ref it/\Inv X R1 O H' s2/\Turn X.prog X.w X.K tg J fp it tn/\tn 0 s2.heap/\(∀b∈fp,cN X R1 H' b)/\R J H'
def PI (X:Cx) (tg iter:tW) (wi:TI):Prop :=
 ∀(R1:nE) (s:rK) (O:St) (H:Hp) (R:It->Hp->Prop),Inv X R1 O H s->wi O H R ->
  xA (model X.prog X.w) X.A (eval iter X.env) (λv s1=>xA (model X.prog X.w) X.A (pyIter v) (Uz X R1 O tg R) X.xe s1) X.xe s
variable{tg:tW}
theorem tT {M:Model}{s:rK}{it:qA}{n:BP}{vs:zR qT}{Q:Unit->rK->Prop}(ho:s.heap.get? it=some o) (hc:o.cls= .type n) (hd:o.data= .fields vs)
  (hn:["enumerate","zip","dict_itemiterator","dict_reverseitemiterator","odict_iterator","itertools.zip_longest","itertools.pairwise"].contains n=false) (hQ:Q () s):xA M A (El tg (.ref it) u) Q E s:=by
 unfold El;cases tg <;> first
  | show OB hQ
  | (cases u <;> first
    | show OB hQ
    | (show N9 (wpAny_load ho ?_)
       rw[hc,hd];change xA M A (if (["enumerate","zip","dict_itemiterator","dict_reverseitemiterator","odict_iterator","itertools.zip_longest","itertools.pairwise"].contains n && vs[0]? == some (rawInt _))=true then _ else _) Q E s;rw[NS (by intro h; rw[hn,Qv] at h; cases h)];show OB hQ))
def Uk (K:R7) (a:qA):It :=
 ⟨λi H=> ∃xs x,R5 K H a xs/\xs[i]?=some x,λi H x H'=>H'=H/\ ∀xs,R5 K H a xs->xs[i]?=some x,λi H=> ∃xs,R5 K H a xs/\xs.length<=i⟩
def Uq (K:R7) (a:qA):It :=
 ⟨λi H=> ∃xs x,Se K H a xs/\xs[i]?=some x,λi H x H'=>H'=H/\ ∀xs,Se K H a xs->xs[i]?=some x,λi H=> ∃xs,Se K H a xs/\xs.length<=i⟩
def TR (lo:u7) (n:u6):It:=⟨λi _=>i < n,λi H x H'=>H'=H/\x= .int (lo+i),λi _=>n<=i⟩
variable{K:R7}
theorem DZ(a it:qA):Turn P w K tg (Uk K a) [it] it (λi h=>h.IsListIter it a i) where
 mem:=by simp
 obj:=λi h st b hb=>by
  have e:b=it:=by simpa using hb
  subst e;obtain⟨o,e,c,d⟩:=st;erw[o,e,λv z=>by rw[d] at z; cases z]
 keep:=λi h h' st k=>st.at λo e=>k it uD o e
 item:=by
  intro X hP hw hK hc i R1 s O H E I hf st hg;subst hP hw hK;obtain⟨xs,x,hq,hx⟩:=hg;obtain⟨its,rv,p,hz⟩:=I.list hq;obtain⟨u,hu,ru⟩:=rv.get hx;obtain⟨f0,f1,f2,f3,f4,f5⟩:=hf it uD;show wpAny_pyNext_list_item st p.isList (x:=u) (by simpa using hu) λh' st' sb=>?_;have I1:Inv X R1 O H { s with heap:=h' }:=I.turned (t':=s.toks) (λb o hb e=>(sb.2 b hb).trans e) f0 f1 f3 f4 f5;obtain⟨o,e,c,d⟩:=id st';erw[u,Z,tT (s:={ s with heap:=h' }) e c d aS ⟨x,H,I1,ru,⟨Z,λys hy=>by rw[I.nS hy hq]; show hx⟩,st',λb hb=>(hf b hb).1⟩]
 done:=by
  intro X hP hw hK hc i R1 s O H E I hf st hg;subst hP hw hK;obtain⟨xs,hq,hx⟩:=hg;obtain⟨its,rv,p,hz⟩:=I.list hq;obtain⟨f0,f1,f2,f3,f4,f5⟩:=hf it uD;have hl:=rv.length;show wpAny_pyNext_list_end (I.ok.hd hc) st p.isList (by simp; lia) λh' eb=>⟨Z,I.turned (t':=s.toks) (λb o hb e=>eb b o hb e) f0 f1 f3 f4 f5⟩
 self:=λ_ _ _ _ _ st h=>wpAny_pyIter_listiter st h
theorem Ck(a it:qA):Turn P w K tg (Uq K a) [it] it (λi h=>h.IsTupleIter it a i) where
 mem:=by simp
 obj:=λi h st b hb=>by
  have e:b=it:=by simpa using hb
  subst e;obtain⟨o,e,c,d⟩:=st;erw[o,e,λv z=>by rw[d] at z; cases z]
 keep:=λi h h' st k=>st.at λo e=>k it uD o e
 item:=by
  intro X hP hw hK hc i R1 s O H E I hf st hg;subst hP hw hK;obtain⟨xs,x,hq,hx⟩:=hg;obtain⟨its,rv,p,hz⟩:=I.tuple hq;obtain⟨u,hu,ru⟩:=rv.get hx;obtain⟨f0,f1,f2,f3,f4,f5⟩:=hf it uD;show wpAny_pyNext_tuple_item st (show s.heap.IsTuple a its.toArray from p) (x:=u) (by simpa using hu) λh' st' sb=>?_;have I1:Inv X R1 O H { s with heap:=h' }:=I.turned (t':=s.toks) (λb o hb e=>(sb.2 b hb).trans e) f0 f1 f3 f4 f5;obtain⟨o,e,c,d⟩:=id st';erw[u,Z,tT (s:={ s with heap:=h' }) e c d aS ⟨x,H,I1,ru,⟨Z,λys hy=>by rw[I.DW hy hq]; show hx⟩,st',λb hb=>(hf b hb).1⟩]
 done:=by
  intro X hP hw hK hc i R1 s O H E I hf st hg;subst hP hw hK;obtain⟨xs,hq,hx⟩:=hg;obtain⟨its,rv,p,hz⟩:=I.tuple hq;obtain⟨f0,f1,f2,f3,f4,f5⟩:=hf it uD;have hl:=rv.length;show wpAny_pyNext_tuple_end (I.ok.hd hc) st (show s.heap.IsTuple a its.toArray from p) (by simp; lia) λh' eb=>⟨Z,I.turned (t':=s.toks) (λb o hb e=>eb b o hb e) f0 f1 f3 f4 f5⟩
 self:=λ_ _ _ _ _ st h=>wpAny_pyIter_tupleiter st h
theorem Bq(it:qA) (lo:u7) (n:u6):Turn P w K tg (TR lo n) [it] it (λi h=>IsRangeIter h it (lo+(i:u6)*1) ((n:u7) - (i:u6)) 1) where
 mem:=by simp
 obj:=λi h st b hb=>by
  have e:b=it:=by simpa using hb
  subst e;exact⟨_,st,λv z=>by
   have z':Dg _=Data.cell v:=z;cases z'⟩
 keep:=λi h h' st k=>k it uD _ st
 item:=by
  intro X hP hw hK hc i R1 s O H E I hf st hg;subst hP hw hK;obtain⟨f0,f1,f2,f3,f4,f5⟩:=hf it uD;have W:=Walks.range (prog:=X.prog) (w:=X.w) (I.ok.hd hc) it lo 1 n;show W.item i s _ _ hg st λv h' tk hv st' kk=>?_;obtain⟨t,rfl⟩:=hv;have I1:Inv X R1 O H { s with heap:=h',toks:=tk }:=I.turned (λb o hb e=>kk b o (by simpa using hb) e) f0 f1 f3 f4 f5;erw[_,Z,tT (s:={ s with heap:=h',toks:=tk }) (n:= "range_iterator") st' rfl rfl aS ⟨.int<|lo+i,H,I1,⟨t,?_⟩,⟨Z,Z⟩,st',λb hb=>(hf b hb).1⟩];rw[Int.mul_one]
 done:=by
  intro X hP hw hK hc i R1 s O H E I hf st hg;subst hP hw hK;obtain⟨f0,f1,f2,f3,f4,f5⟩:=hf it uD;show wpAny_pyNext_range_end (I.ok.hd hc) st (by have:n<=i:=hg; lia) λh' eb=>⟨Z,I.turned (t':=s.toks) (λb o hb e=>eb b o hb e) f0 f1 f3 f4 f5⟩
 self:=λ_ _ _ _ _ st h=>wpAny_pyIter_rangeiter st h
section
variable {X:Cx}{tg:tW}
inductive J4 (K:R7) (R:It->Hp->Prop) (x:V) (H1:Hp):Prop | mk (a:_) (e0:x= .ref a) (e1:(∃xs,R5 K H1 a xs)) (q:R (Uk K a) H1)
def Hm (K:R7) (tl:TE):TI:=λO H R=>tl O H λx H1=>J4 K R x H1
inductive LL (K:R7) (R:It->Hp->Prop) (x:V) (H1:Hp):Prop | mk (a:_) (e0:x= .ref a) (e1:(∃xs,Se K H1 a xs)) (q:R (Uq K a) H1)
def Na (K:R7) (tl:TE):TI:=λO H R=>tl O H λx H1=>LL K R x H1
theorem Hw {l:tW}{tl:TE}(hl:PE X l tl):PI X tg l (Hm X.K tl):=by
 intro R1 s O H R I h;show Sf (hl R1 s O H _ I h) λv s1 ⟨x,H1,I1,r1,q1⟩=>?_;obtain⟨a,e,⟨xs,hq⟩,q⟩:=q1;subst e;cases r1;obtain⟨its,rv,p,hz⟩:=I1.list hq;show Qd p.isList ?_;erw[s1.heap.objs.size,[s1.heap.objs.size],_,_,H1,Z,I1.kept (t':=s1.toks) λb o e=>N3 _ e,DZ a _,⟨_,OD _ rfl,Z,Z⟩,λb hb=>?_,q];have e:b=s1.heap.objs.size:=by simpa using hb
 subst e;show I1.g9 (N0 _) (I1.hok.fresh (N0 _))
theorem Ec {l:tW}{tl:TE}(hl:PE X l tl):PI X tg l (Na X.K tl):=by
 intro R1 s O H R I h;show Sf (hl R1 s O H _ I h) λv s1 ⟨x,H1,I1,r1,q1⟩=>?_;obtain⟨a,e,⟨xs,hq⟩,q⟩:=q1;subst e;cases r1;obtain⟨its,rv,p,hz⟩:=I1.tuple hq;show wpAny_pyIter_tuple (show s1.heap.IsTuple a its.toArray from p) ?_;erw[s1.heap.objs.size,[s1.heap.objs.size],_,_,H1,Z,I1.kept (t':=s1.toks) λb o e=>N3 _ e,Ck a _,⟨_,OD _ rfl,Z,Z⟩,λb hb=>?_,q];have e:b=s1.heap.objs.size:=by simpa using hb
 subst e;show I1.g9 (N0 _) (I1.hok.fresh (N0 _))
variable{R1:nE}{O:St}{H:Hp}{s:rK}
theorem GC {R:It->Hp->Prop}{E:oF}{lo hi:u7}{t u v:Tok}{tk:u6}(I:Inv X R1 O H s) (h1: -(2 ^ 62)<=lo) (h2:lo < 2 ^ 62) (h3: -(2 ^ 62)<=hi) (h4:hi < 2 ^ 62)
  (q:R (TR lo (hi - lo).toNat) H):xA (model X.prog X.w) X.A (pyIter (.ref s.heap.objs.size)) (Uz X R1 O tg R) E { s with heap:=s.heap.push { cls:= .type "range",data:= .fields #[.int lo t,.int hi u,.int 1 v] },toks:=tk }:=by
 show wpAny_pyIter_range (IsRange.new ..) (small_one h1 h2 h3 h4) ?_;have I1:Inv X R1 O H { s with heap:=s.heap.push { cls:= .type "range",data:= .fields #[.int lo t,.int hi u,.int 1 v] },toks:=tk }:=I.kept λb o e=>N3 _ e;show⟨(s.heap.push { cls:= .type "range",data:= .fields #[.int lo t,.int hi u,.int 1 v] }).objs.size,[(s.heap.push { cls:= .type "range",data:= .fields #[.int lo t,.int hi u,.int 1 v] }).objs.size],_,_,H,Z,
  I1.kept (t':=tk) λb o e=>N3 _ e,Bq _ lo (hi - lo).toNat,?_,λb hb=>?_,q⟩
 .have e1:lo+((0:u6):u7)*1=lo:=by simp
  have e2:(((hi - lo).toNat:u6):u7) - ((0:u6):u7)=Xn lo hi 1:=by rw[rangeSize_one]; split <;> lia
  change IsRangeIter _ _ (lo+((0:u6):u7)*1) ((((hi - lo).toNat:u6):u7) - ((0:u6):u7)) 1;rw[e1,e2];show OD _ rfl
 .have e:b=(s.heap.push { cls:= .type "range",data:= .fields #[.int lo t,.int hi u,.int 1 v] }).objs.size:=by simpa using hb
  subst e;show I1.g9 (N0 _) (I1.hok.fresh (N0 _))
inductive KJ (R:It->Hp->Prop) (vs:qx V) (H1:Hp):Prop | mk (j:u7) (e0:vs=[.int j]) (e1: -(2 ^ 62)<=j) (e2:j < 2 ^ 62) (q:R (TR 0 j.toNat) H1)
def G7 (ta:TA):TI:=λO H R=>ta O H λvs H1=>KJ R vs H1
inductive Nl (R:It->Hp->Prop) (vs:qx V) (H1:Hp):Prop | mk (i j:u7) (e0:vs=[.int i,.int j]) (e1:(-(2 ^ 62)<=i/\i < 2 ^ 62/\ -(2 ^ 62)<=j/\j < 2 ^ 62)) (q:R (TR i (j - i).toNat) H1)
theorem Dw {a:tW}{ta:TA}{p pos:Pos}(hg:Gl X "range") (hm:X.mg "range" = none) (ha:PA X [a] ta) (hs:zb [a] X.env=[(false,eval a X.env)]:=by rfl):PI X tg (.Call (.Name "range" p) [a] [] pos) (G7 ta):=by
 intro R1 s O H R I h;show Call_<|lj I hg hm boot_range<|P1 (Sf (ha pos R1 s O H _ I h) λus s1 ⟨vs,H1,I1,r1,q1⟩=>?_) hs rfl;obtain⟨j,e,q1,q2,q⟩:=q1;subst e;cases r1 with
 | cons r rr =>
  cases rr;obtain⟨t,rfl⟩:=r;show call_range_1<|GC I1 Y Y q1 q2 (by simpa using q)
def Ku (wi:TI) (g:TG) (tb:TS):TS:=λD O H=>wi O H λJ H1=> ∃W:u6->u6->St->Hp->Prop,(∃m,W 0 m O H1)/\ ∀i m O H,W i m O H ->
 (J.stop i H/\D.nx O H)\/(J.go i H/\ ∃N:St->Hp->Prop,(∀O' H',N O' H'-> ∃m',m' < m/\W (i+1) m' O' H')/\ ∀x H',J.yld i H x H'->g x O H' λO2 H2=>tb { D with nx:=N,ct:=N,bk:=D.nx } O2 H2)
def oY (fp:qx qA) (h:yk):qx (qA×Obj):=fp.filterMap λb=>(h.get? b).map λo=>(b,o)
variable{fp:qx qA}
theorem kG {h:yk}{b:qA}{o:Obj}(hb:b∈fp) (e:h.get? b=some o):(b,o)∈oY fp h:=Qo.mpr ⟨b,hb,by rw[e]; rfl⟩
theorem D8 {h:yk}{p:qA×Obj}(hp:p∈oY fp h):p.1∈fp/\h.get? p.1=some p.2:=by
 obtain⟨b,hb,e⟩:=Qo.mp hp;cases q:h.get? b with
 | none=>rw[q] at e; cases e
 | some o =>
  rw[q] at e;have e':(b,o)=p:=Oj e;subst e';erw[hb,q]
theorem Inv.pinned(I:Inv X R1 O H s) (hf: ∀b∈fp,cN X R1 H b) (ho: ∀b∈fp,∃o,s.heap.get? b=some o/\ ∀v,o.data≠ .cell v):Inv X (R1++oY fp s.heap) O H s :=
 I.jy λp hp=>(Oe.mp hp).elim (λz=>I.pin p (Ot _ z)) λz=>by
  obtain⟨hb,e⟩:=D8 z;obtain⟨f0,f1,f2,_⟩:=hf p.1 hb;obtain⟨o,e',d⟩:=ho p.1 hb;rw[e] at e'; cases e';erw[e,f0,f1,f2,d]
theorem Inv.rC {pl:nE}(I:Inv X (R1++pl) O H s):Inv X R1 O H s:=I.jy λp hp=>I.pin p (Ot _ (Oy _ hp))
theorem CY {iter:tW}{body:qx zc}{wi:TI}{g:TG}{tb:TS}{pos:Pos}(hp:PassesOwn (model X.prog X.w) X.A X.env X.xe) (hc:X.calm=true) (hi:PI X tg iter wi) (hg:PG X tg g) (hb:Sz X body tb)
  (hs: ∀x,AX iter X.env x=pure x:=by intro _; rfl):PS X (.For tg iter body [] pos) (Ku wi g tb):=by
 intro R1 s O H D I h;show wpAny_For (Sf (hi R1 s O H _ I h) λv s1 h1=>Sf h1 λitv s2 h2=>?_) hs;obtain⟨it,fp,tn,J,H2,e,I2,T,st2,f2,W,⟨m0,w0⟩,turn⟩:=h2;subst e;have stat: ∀ {H':Hp},(∀b∈fp,H' b=none)-> ∀b∈fp,cN X R1 H' b:=λhn b hb=>⟨hn b hb,(f2 b hb).2⟩
 show codeAny_forLoop_any (λn s'=> ∃i O' H',Inv X R1 O' H' s'/\tn i s'.heap/\(∀b∈fp,H' b=none)/\W i n O' H') ?_ m0 ⟨0,O,H2,I2,st2,λb hb=>(f2 b hb).1,w0⟩;rintro n s3 ⟨i,O3,H3,I3,st3,fr3,w3⟩;rcases turn i n O3 H3 w3 with⟨stop,qn⟩ | ⟨go,N,hN,step⟩
 .show Qb hp<|Sf (T.done X rfl rfl rfl hc i R1 s3 O3 H3 X.xe I3 (stat fr3) st3 stop) λr s4 ⟨hr,I4⟩=>?_;subst hr;show Rp ⟨O3,H3,I4,qn⟩
 .show Qb hp<|Sf (T.item X rfl rfl rfl hc i R1 s3 O3 H3 X.xe I3 (stat fr3) st3 go) λr s4 ⟨u,hr,h4⟩=>?_;subst hr;show Qb hp<|Sf h4 λ_ s5 ⟨x,H5,I5,r5,y5,st5,fr5⟩=>?_;have I5':=I5.pinned (stat fr5)<|T.obj _ _ st5;show Qb hp<|Sf (hg _ s5 O3 H5 x u _ I5' r5<|step x H5 y5) λ_ s6 ⟨O6,H6,I6,q6⟩=>?_;show Qb hp<|Sf (hb _ s6 O6 H6 _ I6 q6) λf s7 q7=>?_;have again: ∀ {O7:St}{H7:Hp},Inv X (R1++oY fp s5.heap) O7 H7 s7->N O7 H7-> ∃m,m < n/\ ∃i O' H',Inv X R1 O' H' s7/\tn i s7.heap/\(∀b∈fp,H' b=none)/\W i m O' H':=λ{O7 H7} I7 n7=>by
   obtain⟨m',hm,w7⟩:=hN O7 H7 n7;erw[m',hm,i+1,O7,H7,I7.rC,T.keep _ _ _ st5 λb hb o e=>(I7.pin (b,o)<|Ot _<|Ot _<|kG hb e).1,λb hb=>?_,w7];obtain⟨o,e,d⟩:=T.obj _ _ st5 b hb;show (I7.pin (b,o)<|Ot _<|Ot _<|kG hb e).2.1
  cases f with
  | next=>obtain⟨O7,H7,I7,n7⟩:=q7; show again I7 n7
  | cont=>obtain⟨O7,H7,I7,n7⟩:=q7; show again I7 n7
  | brk=>obtain⟨O7,H7,I7,q7⟩:=q7; erw[O7,H7,I7.rC,q7]
  | ret v=>obtain⟨x7,O7,H7,I7,r7,q7⟩:=q7; erw[x7,O7,H7,I7.rC,r7,q7]
end
abbrev R2:=V->V->Hp->VK->Prop
def So (X:Cx) (f:qT->qT->Sem qT) (r:R2):Prop :=
 ∀(R1:nE) (s:rK) (O:St) (H:Hp) (x y:V) (v u:qT) (Q:VK),Inv X R1 O H s->RelV x v->RelV y u->r x y H Q ->
  xA (model X.prog X.w) X.A (f v u) (EP X R1 O Q) X.xe s
def Um (X:Cx) (f:qT->Sem qT) (r:V->Hp->VK->Prop):Prop :=
 ∀(R1:nE) (s:rK) (O:St) (H:Hp) (x:V) (v:qT) (Q:VK),Inv X R1 O H s->RelV x v->r x H Q ->
  xA (model X.prog X.w) X.A (f v) (EP X R1 O Q) X.xe s
def cJ (X:Cx) (f:qT) (r:qx V->Hp->VK->Prop):Prop :=
 ∀(R1:nE) (s:rK) (O:St) (H:Hp) (xs:qx V) (us:qx qT) (Q:VK),Inv X R1 O H s->Vals xs us->r xs H Q ->
  xA (model X.prog X.w) X.A (call f us) (EP X R1 O Q) X.xe s
def MW (X:Cx) (r:V->Hp->(yW->Hp->Prop)->Prop):Prop :=
 ∀(R1:nE) (s:rK) (O:St) (H:Hp) (x:V) (v:qT) (Q:yW->Hp->Prop),Inv X R1 O H s->RelV x v->r x H Q ->
  xA (model X.prog X.w) X.A (truthy v) (TP X R1 O Q) X.xe s
def S6 (r:R2) (ta tb:TE):TE:=λO H Q=>ta O H λx H1=>tb O H1 λy H2=>r x y H2 Q
def UP (r:V->Hp->VK->Prop) (ta:TE):TE:=λO H Q=>ta O H λx H1=>r x H1 Q
inductive US (C:u7->u7->Prop) (g:u7->u7->V) (x y:V) (H:Hp) (Q:VK):Prop | mk (i j:_) (e0:x= .int i) (e1:y= .int j) (e2:C i j) (q:Q (g i j) H)
def rI (C:u7->u7->Prop) (g:u7->u7->V):R2:=λx y H Q=>US C g x y H Q
inductive M5 (g:u7->u7->V) (x y:V) (H:Hp) (Q:VK):Prop | mk (i j:_) (e0:x= .int i) (e1:y= .int j) (q:Q (g i j) H)
def Tw (g:u7->u7->V):R2:=λx y H Q=>M5 g x y H Q
inductive UD (g:u7->V) (x:V) (H:Hp) (Q:VK):Prop | mk (i:_) (e0:x= .int i) (q:Q (g i) H)
def rU (g:u7->V):V->Hp->VK->Prop:=λx H Q=>UD g x H Q
section
variable {X:Cx}{a b c:tW}{ta tb tc:TE}{pos:Pos}
theorem Gj (ha:PE X a ta) (hb:PE X b tb){R1:nE}{s:rK}{O:St}{H:Hp}{R:V->V->Hp->Prop}(I:Inv X R1 O H s)
  (h:ta O H λx H1=>tb O H1 λy H2=>R x y H2) {Q:oF}{f:qT->qT->Sem qT}
  (hf: ∀v u s2 x y H2,Inv X R1 O H2 s2->RelV x v->RelV y u->R x y H2->xA (model X.prog X.w) X.A (f v u) Q X.xe s2) :
  xA (model X.prog X.w) X.A (eval a X.env) (λv s₁=>xA (model X.prog X.w) X.A (eval b X.env) (λu s₂=>xA (model X.prog X.w) X.A (f v u) Q X.xe s₂) X.xe s₁) X.xe s:=by
 show Sf (ha R1 s O H _ I h) λv s1 ⟨x,H1,I1,r1,q1⟩=>?_;show Sf (hb R1 s1 O H1 _ I1 q1) λu s2 ⟨y,H2,I2,r2,q2⟩=>?_;show hf v u s2 x y H2 I2 r1 r2 q2
theorem aw {op:Operator}{r:R2}(ho:So X (CN op) r) (ha:PE X a ta) (hb:PE X b tb):PE X (.BinOp a op b pos) (S6 r ta tb):=by
 intro R1 s O H Q I h;show wpAny_BinOp<|Gj ha hb I h λv u s2 x y H2 I2 rx ry q=>ho R1 s2 O H2 x y v u Q I2 rx ry q
theorem lR {op:UnaryOp}{r:V->Hp->VK->Prop}(ho:Um X (unaryOp op) r) (ha:PE X a ta):PE X (.UnaryOp op a pos) (UP r ta):=by
 intro R1 s O H Q I h;show UnaryOp_<|Sf (ha R1 s O H _ I h) λv s1 ⟨x,H1,I1,r1,q1⟩=>ho R1 s1 O H1 x v Q I1 r1 q1
variable{f:qT->qT->Sem qT}
theorem T3 {C:u7->u7->Prop}{g:u7->u7->u7} (rule: ∀(i j:u7) (t u:Tok) (s:rK) (Q:oF) (E:oF),C i j->Q (.int (g i j) s.toks) { s with toks:=s.toks+1 }->xA (model X.prog X.w) X.A (f (.int i t) (.int j u)) Q E s) :
  So X f (rI C λi j=> .int (g i j)):=by
 intro R1 s O H x y v u Q I rx ry h;obtain⟨i,j,rfl,rfl,hc,q⟩:=h;obtain⟨t,rfl⟩:=rx;obtain⟨t',rfl⟩:=ry;show rule i j t t' s _ _ hc ⟨.int<|g i j,H,I.tok _,⟨_,Z⟩,q⟩
theorem JE {g:u7->u7->u7} (rule: ∀(i j:u7) (t u:Tok) (s:rK) (Q:oF) (E:oF),Q (.int (g i j) s.toks) { s with toks:=s.toks+1 }->xA (model X.prog X.w) X.A (f (.int i t) (.int j u)) Q E s) :
  So X f (Tw λi j=> .int (g i j)):=by
 intro R1 s O H x y v u Q I rx ry h;obtain⟨i,j,rfl,rfl,q⟩:=h;obtain⟨t,rfl⟩:=rx;obtain⟨t',rfl⟩:=ry;show rule i j t t' s _ _ ⟨.int<|g i j,H,I.tok _,⟨_,Z⟩,q⟩
theorem AU {g:u7->u7->yW} (rule: ∀(i j:u7) (t u:Tok) (s:rK) (Q:oF) (E:oF),Q (.bool (g i j)) s->xA (model X.prog X.w) X.A (f (.int i t) (.int j u)) Q E s) :
  So X f (Tw λi j=> .bl (g i j)):=by
 intro R1 s O H x y v u Q I rx ry h;obtain⟨i,j,rfl,rfl,q⟩:=h;obtain⟨t,rfl⟩:=rx;obtain⟨t',rfl⟩:=ry;show rule i j t t' s _ _ ⟨.bl<|g i j,H,I,Z,q⟩
def MU (i j:u7):Prop:=0 < j/\j < 1073741824
def MO (i j:u7):Prop:=0<=j/\j<=1000000/\i.natAbs < 2 ^ 64
def Fe (i j:u7):Prop:=(-(2 ^ 64) < i/\i < 2 ^ 64)\/(-(2 ^ 64) < j/\j < 2 ^ 64)
theorem Fe.ok {i j:u7}(h:Fe i j):IntMulOk i j:=by
 rcases h with⟨h1,h2⟩ | ⟨h1,h2⟩
 .exact .of_left<|intBits_le_64 h1 h2
 .exact .of_right<|intBits_le_64 h1 h2
theorem bw:So X (CN .Add) (Tw λi j=> .int (i+j)):=JE λ_ _ _ _ _ _ _ q=>add_int q
theorem gN:So X (CN .Sub) (Tw λi j=> .int (i - j)):=JE λ_ _ _ _ _ _ _ q=>sub_int q
theorem tf:So X (CN .Mult) (rI Fe λi j=> .int (i*j)):=T3 λ_ _ _ _ _ _ _ hc q=>mul_int q hc.ok
theorem bM:So X (CN .FloorDiv) (rI MU λi j=> .int (i / j)):=T3 λi j _ _ _ _ _ hc q=>by
 have h1:(0:u7) < j:=hc.1;have h2:j < 1073741824:=hc.2;show floordiv_int Y (by rw[RK i Y]; show q)<|.inl<|PyProof.noPylong_small Y
theorem bt:So X (CN .Mod) (rI (λ_ j=>0 < j) λi j=> .int (i % j)):=T3 λi j _ _ _ _ _ hc q=>by
 have h1:(0:u7) < j:=hc;show mod_int' Y (by rw[Int.fmod_eq_emod_of_nonneg i Y]; show q)
theorem mT:So X (CN .Pow) (rI MO λi j=> .int (i ^ j.toNat)):=T3 λ_ _ _ _ _ _ _ hc q=>pow_int_small hc.1 hc.2.1 hc.2.2 q
theorem UW {f:qT->Sem qT}{g:u7->u7}
  (rule: ∀(i:u7) (t:Tok) (s:rK) (Q:oF) (E:oF),Q (.int (g i) s.toks) { s with toks:=s.toks+1 }->xA (model X.prog X.w) X.A (f (.int i t)) Q E s) :
  Um X f (rU λi=> .int (g i)):=by
 intro R1 s O H x v Q I rx h;obtain⟨i,rfl,q⟩:=h;obtain⟨t,rfl⟩:=rx;show rule i t s _ _ ⟨.int<|g i,H,I.tok _,⟨_,Z⟩,q⟩
theorem jR:Um X (unaryOp .USub) (rU λi=> .int (-i)):=UW λ_ _ _ _ _ q=>neg_int q
end
def JP:V->V->yW
 | .non,.non=>true | .non,.int _=>true | .int _,.non=>true | .non,.bl _=>true | .bl _,.non=>true | .non,.str _=>true | .str _,.non=>true
 | .int _,.int _=>true | .bl _,.bl _=>true | .str _,.str _=>true | .byt _,.byt _=>true
 | .int _,.str _=>true | .str _,.int _=>true | .bl _,.str _=>true | .str _,.bl _=>true
 | _,_=>false
def UB:R2:=λx y H Q=>JP x y=true/\Q (.bl (decide (x=y))) H
def UT:R2:=λx y H Q=>JP x y=true/\Q (.bl (!decide (x=y))) H
theorem Ay {i j:u7}:decide (V.int i=V.int j)=(i == j):=by
 rw[P6];simp
theorem DI {i j:yW}:decide (V.bl i=V.bl j)=(i == j):=by
 rw[P6];simp
theorem z4 {i j:va}:decide (V.str i=V.str j)=(i == j):=by
 rw[P6];simp
theorem Aa {i j:zR UInt8}:decide (V.byt i=V.byt j)=(i.toList == j.toList):=by
 rw[P6];cases i;cases j;simp
section
variable {X:Cx}{a b c:tW}{ta tb tc:TE}{pos:Pos}
theorem bK {R1:nE}{O:St}{H:Hp}{s:rK}{Q:VK}{k k':yW}(I:Inv X R1 O H s) (q:Q (.bl k) H) (e:k=k'):EP X R1 O Q (.bool k') s:=by
 subst e;erw[.bl k,H,I,Z,q]
theorem aR:So X (zm .Eq) UB:=by
 intro R1 s O H x y v u Q I rx ry h;obtain⟨hs,q⟩:=h;cases x with
 | non =>
  cases rx;cases y with
  | non=>cases ry; show WQ (bK I q uD)
  | bl j=>cases ry; show WR (bK I q uD)
  | int j=>obtain⟨t',rfl⟩:=ry; show W2 (bK I q uD)
  | str j=>obtain⟨t',rfl⟩:=ry; show W3 (bK I q uD)
  | _=>show wz (show false=true from hs) Ol
 | bl i =>
  cases rx;cases y with
  | non=>cases ry; show WS (bK I q uD)
  | bl j=>cases ry; show eq_bool (bK I q DI)
  | str j=>obtain⟨t',rfl⟩:=ry; show WT (bK I q uD)
  | _=>show wz (show false=true from hs) Ol
 | int i =>
  obtain⟨t,rfl⟩:=rx;cases y with
  | non=>cases ry; show W4 (bK I q uD)
  | int j=>obtain⟨t',rfl⟩:=ry; show eq_int (bK I q Ay)
  | str j=>obtain⟨t',rfl⟩:=ry; show W5 (bK I q uD)
  | _=>show wz (show false=true from hs) Ol
 | str i =>
  obtain⟨t,rfl⟩:=rx;cases y with
  | non=>cases ry; show W6 (bK I q uD)
  | bl j=>cases ry; show WU (bK I q uD)
  | int j=>obtain⟨t',rfl⟩:=ry; show W7 (bK I q uD)
  | str j=>obtain⟨t',rfl⟩:=ry; show eq_str (bK I q z4)
  | _=>show wz (show false=true from hs) Ol
 | byt i =>
  obtain⟨t,rfl⟩:=rx;cases y with
  | byt j=>obtain⟨t',rfl⟩:=ry; show PySem.W.eq_bytes (bK I q Aa)
  | _=>show wz (show false=true from hs) Ol
 | _=>cases y <;> show wz (show false=true from hs) Ol
theorem kC:So X (zm .NotEq) UT:=by
 intro R1 s O H x y v u Q I rx ry h;obtain⟨hs,q⟩:=h;cases x with
 | non =>
  cases rx;cases y with
  | non=>cases ry; show WV (bK I q uD)
  | bl j=>cases ry; show WW (bK I q uD)
  | int j=>obtain⟨t',rfl⟩:=ry; show W8 (bK I q uD)
  | str j=>obtain⟨t',rfl⟩:=ry; show W9 (bK I q uD)
  | _=>show wz (show false=true from hs) Ol
 | bl i =>
  cases rx;cases y with
  | non=>cases ry; show WX (bK I q uD)
  | bl j=>cases ry; show ne_bool (bK I q (OI not DI))
  | str j=>obtain⟨t',rfl⟩:=ry; show WY (bK I q uD)
  | _=>show wz (show false=true from hs) Ol
 | int i =>
  obtain⟨t,rfl⟩:=rx;cases y with
  | non=>cases ry; show Xa (bK I q uD)
  | int j=>obtain⟨t',rfl⟩:=ry; show ne_int (bK I q (OI not Ay))
  | str j=>obtain⟨t',rfl⟩:=ry; show Xb (bK I q uD)
  | _=>show wz (show false=true from hs) Ol
 | str i =>
  obtain⟨t,rfl⟩:=rx;cases y with
  | non=>cases ry; show Xc (bK I q uD)
  | bl j=>cases ry; show WZ (bK I q uD)
  | int j=>obtain⟨t',rfl⟩:=ry; show Xd (bK I q uD)
  | str j=>obtain⟨t',rfl⟩:=ry; show ne_str (bK I q (OI not z4))
  | _=>show wz (show false=true from hs) Ol
 | byt i =>
  obtain⟨t,rfl⟩:=rx;cases y with
  | byt j=>obtain⟨t',rfl⟩:=ry; show PySem.W.ne_bytes (bK I q (OI not Aa))
  | _=>show wz (show false=true from hs) Ol
 | _=>cases y <;> show wz (show false=true from hs) Ol
theorem fK:So X (zm .Lt) (Tw λi j=> .bl (decide (i < j))):=AU λ_ _ _ _ _ _ _ q=>lt_int q
theorem Hd:So X (zm .LtE) (Tw λi j=> .bl (decide (i<=j))):=AU λ_ _ _ _ _ _ _ q=>le_int q
theorem jg:So X (zm .Gt) (Tw λi j=> .bl (decide (j < i))):=AU λ_ _ _ _ _ _ _ q=>gt_int q
theorem qr:So X (zm .GtE) (Tw λi j=> .bl (decide (j<=i))):=AU λ_ _ _ _ _ _ _ q=>ge_int q
theorem lg:So X (zm .Is) (λx y H Q=>y= .non/\Q (.bl (decide (x= .non))) H):=by
 intro R1 s O H x y v u Q I rx ry h;obtain⟨rfl,q⟩:=h;cases ry;show is_none_gen<|bK I q ?_;cases x <;> first
  | (cases rx; rfl)
  | (obtain⟨t,rfl⟩:=rx; rfl)
theorem iQ:So X (zm .IsNot) (λx y H Q=>y= .non/\Q (.bl (!decide (x= .non))) H):=by
 intro R1 s O H x y v u Q I rx ry h;obtain⟨rfl,q⟩:=h;cases ry;show isnot_none_gen<|bK I q ?_;cases x <;> first
  | (cases rx; rfl)
  | (obtain⟨t,rfl⟩:=rx; rfl)
theorem EV (b:tW){op:CmpOp}(h:op≠ .In:=by decide) (h2:op≠ .NotIn:=by decide):zL op b=false:=by
 have e1:(op == XQ)=false:=by cases op <;> first | rfl | show wz rfl h
 have e2:(op == Xs)=false:=by cases op <;> first | rfl | show wz rfl h2
 cases b <;> simp[zL,e1,e2]
variable{op:CmpOp}{r:R2}
theorem Ak(ho:So X (zm op) r) (ha:PE X a ta) (hb:PE X b tb) (hm:zL op b=false):PE X (.Compare a [op] [b] pos) (S6 r ta tb):=by
 intro R1 s O H Q I h;show wpAny_Compare1 (Gj ha hb I h λv u s2 x y H2 I2 rx ry q=>ho R1 s2 O H2 x y v u Q I2 rx ry q) hm
inductive JD (Q:yW->Hp->Prop) (x:V) (H':Hp):Prop | mk (k:_) (e0:x= .bl k) (q:Q k H')
def tY (t:TE):TT:=λO H Q=>t O H λx H'=>JD Q x H'
theorem An(ho:So X (zm op) r) (ha:PE X a ta) (hb:PE X b tb) (hm:zL op b=false):PT X (.Compare a [op] [b] pos) (tY (S6 r ta tb)):=by
 intro R1 s O H Q I h;show wpAny_isTrue_Compare1 (Sf (ha R1 s O H _ I h) λv s1 ⟨x,H1,I1,r1,q1⟩=>Sf (hb R1 s1 O H1 _ I1 q1) λu s2 ⟨y,H2,I2,r2,q2⟩ =>
  Sf (ho R1 s2 O H2 x y v u _ I2 r1 r2 q2) λc s3 ⟨z,H3,I3,r3,k,e,q3⟩=>?_) hm
 subst e;cases r3;show Pu ⟨H3,I3,q3⟩
inductive Iu (r':R2) (tc:TE) (O:St) (Q:VK) (y z:V) (H3:Hp):Prop | mk (k:_) (e0:z= .bl k) (q:(if k=true then tc O H3 λw' H4=>r' y w' H4 Q else Q (.bl false) H3))
def Kl (r r':R2) (ta tb tc:TE):TE:=λO H Q=>ta O H λx H1=>tb O H1 λy H2=>r x y H2 λz H3=>Iu r' tc O Q y z H3
theorem qR {op':CmpOp}{r':R2}(ho:So X (zm op) r) (ho':So X (zm op') r') (ha:PE X a ta) (hb:PE X b tb) (hc:PE X c tc)
  (hm:lastMarks [op,op'] [b,c]=false:=by with_unfolding_all rfl):PE X (.Compare a [op,op'] [b,c] pos) (Kl r r' ta tb tc):=by
 intro R1 s O H Q I h;show Compare_chain (Sf (ha R1 s O H _ I h) λv s1 ⟨x,H1,I1,r1,q1⟩=>chain_link (Sf (hb R1 s1 O H1 _ I1 q1) λu s2 ⟨y,H2,I2,r2,q2⟩ =>
  Sf (ho R1 s2 O H2 x y v u _ I2 r1 r2 q2) λd s3 ⟨z,H3,I3,r3,k,e,q3⟩=>?_)) hm
 subst e;cases r3;show Pu ?_;cases k with
 | false=>show ite_ff ⟨.bl false,H3,I3,Z,q3⟩
 | true=>show ite_tt (chain_last (Sf (hc R1 s3 O H3 _ I3 q3) λw' s4 ⟨z',H4,I4,r4,q4⟩=>ho' R1 s4 O H4 y z' u w' Q I4 r2 r4 q4))
def Bp (K:R7) (x:V) (H:Hp) (k:yW):Prop :=
 match x with
 | .non=>k=false
 | .bl b=>k=b
 | .int i=>k=(i !=0)
 | .str y=>y.length<=sizeLine/\k=((y.length:u7) !=0)
 | .byt y=>y.size<=sizeLine/\k=((y.size:u7) !=0)
 | .ref p=>(∃xs,R5 K H p xs/\k= !xs.isEmpty)\/(∃xs,Se K H p xs/\k= !xs.isEmpty)\/ ∃kvs,H p=some (.dK kvs)/\k= !kvs.isEmpty
 | _=>zh
theorem Cb {κ:Type}{kvs:qx (κ×V)}{vs:qx (κ×qT)}(r:KV kvs vs):(!vs.isEmpty)= !kvs.isEmpty:=by
 cases r <;> rfl
theorem sQ {xs:qx V}{its:qx qT}(r:Vals xs its):(!its.toArray.isEmpty)= !xs.isEmpty:=by
 cases r <;> simp
theorem mD:(sizeLine:u6) < 2 ^ 63:=by rw[RC]; decide
theorem JT:MW X (λx H Q=> ∃k,Bp X.K x H k/\Q k H):=by
 intro R1 s O H x v Q I rx h;obtain⟨k,e,q⟩:=h;have hl:=mD;have hs:sizeLine=16777216:=RC;cases x with
 | non =>
  cases rx;have e':k=false:=e;subst e';show truthy_none ⟨H,I,q⟩
 | bl b =>
  cases rx;have e':k=b:=e;subst e';show Pu ⟨H,I,q⟩
 | int i =>
  obtain⟨t,rfl⟩:=rx;have e':k=(i !=0):=e;subst e';show PySem.P.truthy_int ⟨H,I,q⟩
 | str y =>
  obtain⟨t,rfl⟩:=rx;obtain⟨hy,e'⟩:y.length<=sizeLine/\k=((y.length:u7) !=0):=e;subst e';show PySem.P.truthy_str Y ⟨H,I.tok _,q⟩
 | byt y =>
  obtain⟨t,rfl⟩:=rx;obtain⟨hy,e'⟩:y.size<=sizeLine/\k=((y.size:u7) !=0):=e;subst e';show PySem.W.truthy_bytes Y ⟨H,I.tok _,q⟩
 | ref p =>
  cases rx;have e':(∃xs,R5 X.K H p xs/\k= !xs.isEmpty)\/(∃xs,Se X.K H p xs/\k= !xs.isEmpty)\/ ∃kvs,H p=some (.dK kvs)/\k= !kvs.isEmpty:=e;rcases e' with⟨xs,hx,e'⟩ | ⟨xs,hx,e'⟩ | ⟨kvs,hx,e'⟩
  .subst e';obtain⟨its,r,pl,hz⟩:=I.list hx;have hlen:=r.length;show wpAny_truthy_list pl.isList (by simp only[Og]; lia) ⟨H,I.tok _,by rw[sQ r]; show q⟩
  .subst e';obtain⟨its,r,pl,hz⟩:=I.tuple hx;have hlen:=r.length;show truthy_tuple pl (by simp only[Og]; lia) ⟨H,I.tok _,by rw[sQ r]; show q⟩
  .subst e';obtain⟨hz,hS,vs,r,m⟩:kvs.length<=sizeLine/\(p == BV)=false/\ ∃vs,KV kvs vs/\s.heap.DictOf (cP X.prog X.w) p vs:=I.hok p _ hx;have hlen:kvs.length=vs.length:=RJ r;show wpAny_truthy_dict hS m Y ⟨H,I.tok _,by rw[Cb r]; show q⟩
 | _=>show (show zh from e).elim
theorem FY (ha:PE X a ta) (he: ∀whole,isTrue a X.env whole=(do let v <-whole; standAt a.pos; holding [v] (truthy v))) :
  PT X a (λO H Q=>ta O H λx H'=> ∃k,Bp X.K x H' k/\Q k H'):=by
 intro R1 s O H Q I h;show isTrue_plain (Sf (ha R1 s O H _ I h) λv s1 ⟨x,H1,I1,r1,q1⟩=>JT R1 s1 O H1 x v Q I1 r1 q1)<|he _
theorem Ct:So X (CN .Add) (λx y H Q=> ∃i j,x= .str i/\y= .str j/\i.length+j.length<=sizeLine/\Q (.str (i++j)) H):=by
 intro R1 s O H x y v u Q I rx ry h;obtain⟨i,j,rfl,rfl,hz,q⟩:=h;obtain⟨t,rfl⟩:=rx;obtain⟨t',rfl⟩:=ry;show add_str (λt' tk=>⟨.str<|i++j,H,I.tok _,⟨_,Z⟩,q⟩) hz
variable{us:qx qT}
theorem vals1 {x:V}(r:Vals [x] us): ∃u,us=[u]/\RelV x u:=by
 cases r with
 | cons r1 r2=>cases r2; erw[_,Z,r1]
theorem vals2 {x y:V}(r:Vals [x,y] us): ∃u w',us=[u,w']/\RelV x u/\RelV y w':=by
 cases r with
 | cons r1 r2 =>
  cases r2 with
  | cons r3 r4=>cases r4; erw[_,_,Z,r1,r3]
theorem iW (hc:X.calm=true):cJ X (.builtin "max") (λxs H Q=> ∃i j,xs=[.int i,.int j]/\Q (.int (if j > i then j else i)) H):=by
 intro R1 s O H xs us Q I r h;obtain⟨i,j,rfl,q⟩:=h;obtain⟨u,w',rfl,⟨t,rfl⟩,⟨t',rfl⟩⟩:=vals2 r;show max_two_ints (I.ok.hd hc) λh' tk k=>⟨_,H,I.kept k,?_,q⟩
 by_cases hj:j > i;.rw[NW hj,NW hj]; erw[_,Z]
 .rw[NS hj,NS hj]; erw[_,Z]
theorem pj (hc:X.calm=true):cJ X (.builtin "min") (λxs H Q=> ∃i j,xs=[.int i,.int j]/\Q (.int (if j < i then j else i)) H):=by
 intro R1 s O H xs us Q I r h;obtain⟨i,j,rfl,q⟩:=h;obtain⟨u,w',rfl,⟨t,rfl⟩,⟨t',rfl⟩⟩:=vals2 r;show min_two_ints (I.ok.hd hc) λh' tk k=>⟨_,H,I.kept k,?_,q⟩
 by_cases hj:j < i;.rw[NW hj,NW hj]; erw[_,Z]
 .rw[NS hj,NS hj]; erw[_,Z]
theorem eg:cJ X (.type "int") (λxs H Q=>(∃i,xs=[.int i]/\Q (.int i) H)\/ ∃k,xs=[.bl k]/\Q (.int (if k then 1 else 0)) H):=by
 intro R1 s O H xs us Q I r h;rcases h with⟨i,rfl,q⟩ | ⟨k,rfl,q⟩
 .obtain⟨u,rfl,t,rfl⟩:=vals1 r;show call_int_int ⟨.int i,H,I,⟨_,Z⟩,q⟩
 .obtain⟨u,rfl,r1⟩:=vals1 r;cases r1;show call_int_bool ⟨.int (if k then 1 else 0),H,I.tok _,⟨_,Z⟩,q⟩
theorem gH:cJ X (.type "str") (λxs H Q=> ∃i,xs=[.int i]/\i.natAbs.log2 < 1920/\Q (.str (toString i)) H):=by
 intro R1 s O H xs us Q I r h;obtain⟨i,rfl,hz,q⟩:=h;obtain⟨u,rfl,t,rfl⟩:=vals1 r;show V2 hz ⟨.str _,H,I.tok _,⟨_,Z⟩,q⟩
def Kc (K:R7) (x:V) (H:Hp) (n:u6):Prop :=
 match x with
 | .str y=>y.length<=sizeLine/\n=y.length
 | .byt y=>y.size<=sizeLine/\n=y.size
 | .ref p=>(∃xs,R5 K H p xs/\n=xs.length)\/ ∃xs,Se K H p xs/\n=xs.length
 | _=>zh
theorem GQ:cJ X (.builtin "len") (λxs H Q=> ∃x n,xs=[x]/\Kc X.K x H n/\Q (.int n) H):=by
 intro R1 s O H xs us Q I r h;obtain⟨x,n,rfl,e,q⟩:=h;obtain⟨u,rfl,rx⟩:=vals1 r;have hl:=mD;have hs:sizeLine=16777216:=RC;cases x with
 | str y =>
  obtain⟨t,rfl⟩:=rx;obtain⟨hy,e'⟩:y.length<=sizeLine/\n=y.length:=e;subst e';show len_str Y ⟨.int _,H,I.tok _,⟨_,Z⟩,q⟩
 | byt y =>
  obtain⟨t,rfl⟩:=rx;obtain⟨hy,e'⟩:y.size<=sizeLine/\n=y.size:=e;subst e';show PySem.W.len_bytes Y ⟨.int _,H,I.tok _,⟨_,Z⟩,q⟩
 | ref p =>
  cases rx;have e':(∃xs,R5 X.K H p xs/\n=xs.length)\/ ∃xs,Se X.K H p xs/\n=xs.length:=e;rcases e' with⟨xs,hx,e'⟩ | ⟨xs,hx,e'⟩
  .subst e';obtain⟨its,r',pl,hz⟩:=I.list hx;have hlen:=r'.length;show Calls.call_len_list pl.isList (by simp only[Og]; lia) ⟨.int xs.length,H,I.tok _,⟨_,by simp only[Og]; rw[hlen]⟩,q⟩
  .subst e';obtain⟨its,r',pl,hz⟩:=I.tuple hx;have hlen:=r'.length;show len_tuple pl (by simp only[Og]; lia) ⟨.int xs.length,H,I.tok _,⟨_,by simp only[Og]; rw[hlen]⟩,q⟩
 | _=>show (show zh from e).elim
end
structure qX (h:yk) (x dx C:qA) (mA:oR):Prop where
 obj:h.get? x=some (Br C dx)
 ns:h.Ns1 dx mA
 ne:dx≠x
variable{mA:oR}
theorem D7 {dx:qA}(n:h.Ns1 dx mA): ∃od,h.get? dx=some od/\ ∀name,U4 name od=some (mA name):=by
 obtain⟨o,es,ep,ho,hd,hk,_,hm⟩:=n;erw[o,ho,λname=>?_];have e:=hm name;unfold nsFind findBy at e;rw[<-Array.find?_toList] at e;unfold U4;rw[hd];dsimp only;split
 .rename_i y q;rw[q] at e;show OI some e
 .rename_i q;rw[q] at e;have a:es.toList.any (·.refKey)=false:=by
   rw[QV];intro y hy;obtain⟨z,t,hkey⟩:=hk y<|Array.mem_toList_iff.mp hy;simp[DictEntry.refKey,hkey]
  have a': ¬es.toList.any (·.refKey)=true:=by rw[a]; show Ol
  rw[NS a'];show OI some e
variable{C:qA}
theorem qX.look {x dx:qA}(I:qX h x dx C mA): ∃od,PySem.W.InstAt h x (Br C dx) C (some od)/\ ∀name,U4 name od=some (mA name) :=
 let ⟨od,ho,hl⟩:=D7 I.ns
 ⟨od,⟨I.obj,Z,Z,ho⟩,hl⟩
section
variable {prog:tq}{w:sW}{A:uc}{E:oF}{s:rK}{K:R7}{x dx C f:qA}{mA:oR}{name:va}{v:qT}
theorem get_map {expr:yW}{Q:oF}(X:K.In s.heap) (I:qX s.heap x dx C mA) (hg:GG K C name=true) (hh:Vg K C=true)
  (ha:zD K (.ref C) name=some none) (hv:mA name=some v) (hv':Wm v=true) (h:Q v { s with toks:=s.toks+1 }) :
  xA (model prog w) A (getAttr (.ref x) name expr) Q E s:=by
 obtain⟨od,J,hl⟩:=I.look;show PySem.W.get_value X J (Rv hg).1 (PySem.W.findObj_own hh ha rfl (by rw[hl,hv])) hv' h
theorem Fg {pl:Sem yW}{Q:qT×qx qT->rK->Prop}(X:K.In s.heap) (I:qX s.heap x dx C mA) (hg:GG K C name=true)
  (hf:zD K (.ref C) name=some (some (.ref f))) (ht:Vo K (.ref f)=true) (hv:mA name=none) (h:Q (.ref f,[.ref x]) s) :
  xA (model prog w) A (DA (.ref x) name pl) Q E s:=by
 obtain⟨od,J,hl⟩:=I.look;show PySem.W.method_fn X J (Rv hg).1 (Rv hg).2 hf (beq_iff_eq.mp ht) (by change (U4 name od).map (·.isSome)=some false; rw[hl,hv]; rfl) h
theorem IY {ns:qx va}{Q:Unit->rK->Prop}(X:K.In s.heap) (I:qX s.heap x dx C mA)
  (hs:zD K (.ref C) "__setattr__" = some (some (.builtin "object.__setattr__"))) (hp:Wf K C=true) (ht:Vt K C name=some none) (hh:Vg K C=true)
  (hw:VZ mA ns) (hsz:ns.length<=sizeLine)
  (h: ∀h',qX h' x dx C (λy=>if y=name then some v else mA y)->EY dx s.heap h'->Q () { s with heap:=h',toks:=s.toks+2 }) :
  xA (model prog w) A (setAttr (.ref x) name v) Q E s:=by
 obtain⟨od,J,hl⟩:=I.look;show PySem.W.set_plain X J hs<|PySem.W.osa_open (s:={ s with toks:=s.toks+1 }) (r:=none) X J hp ht λb=>?_;obtain⟨cd,hc,hd'⟩:=PySem.W.any_some hh;have hx:s.heap.get? x=some ⟨.ref C,some dx,.plain,#[]⟩:=I.obj;show N9<|OB<|N9<|N9<|wpAny_loadPart hx<|N9<|XI (s:={ s with toks:=s.toks+1 }) (PySem.W.looks_clsIn X hc) ?_;rw[hd'];show OB (a:=some dx)<|N9<|OB<|N9 ?_;show wpAny_nsSet1 (s:={ s with toks:=s.toks+1 }) I.ns λh' hn2 hs2=>?_;obtain⟨oD,esD,epD,hoD,hdD,hcD⟩:=hn2.count<|XN name v hw;show N9<|wpAny_lookBehind hoD (by rw[hdD]; show pastItsLine_dict<|Ob hcD (by rw[Oh]; lia)) ?_;show OB<|h _ ⟨(hs2.2 _<|Ox I.ne).trans I.obj,hn2,I.ne⟩ hs2
theorem FQ {R:Result->rK->Prop}{vs:qx qT}{kw:qx (va×qT)}(X:K.In s.heap) (hm:EH K C=true)
  (hi:zD K (.ref C) "__init__" = some (some (.ref f))) (hf:PySem.W.typeIn K (.ref f)=some (.type "function"))
  (h:Eb (model prog w) (A.under (.builtin "type.__call__" ⟨.ref C::vs,kw⟩)) (.call (.ref f) ⟨.ref (s.heap.objs.size+1)::vs,kw⟩) (PySem.W.InitBack (s.heap.objs.size+1) R)
   { s with heap:=(s.heap.push zN).push (Br C s.heap.objs.size) }) :
  Eb (model prog w) A (.call (.ref C) ⟨vs,kw⟩) R s:=by
 obtain⟨hh,g,d,t,os⟩:=s;show PySem.W.make_core (PySem.W.makes_of X hm) (PySem.W.looks_findIn X hi) (λself=>PySem.W.bind_fn X self hf) (.inl rfl) h
end
def fY (f:va) (v:V):qx (va×V)->qx (va×V)
 | []=>[(f,v)]
 | (g,x)::r=>if g=f then (g,v)::r else (g,x)::fY f v r
theorem qJ (f g:va) (v:V): ∀fs:qx (va×V),(fY f v fs).lookup g=if g=f then some v else fs.lookup g
 | []=>by
  change BZ g [(f,v)]=_;by_cases h:g=f
  .have hb:(g == f)=true:=beq_iff_eq.mpr h;simp only[BZ,hb,NW h]
  .have hb:(g == f)=false:=beq_eq_false_iff_ne.mpr h;simp only[BZ,hb,NS h]
 | (k,x)::r=>by
  have ih:=qJ f g v r;rw[show fY f v ((k,x)::r)=(if k=f then (k,v)::r else (k,x)::fY f v r) from rfl];by_cases hk:k=f
  .rw[NW hk];by_cases h:g=k
   .have hb:(g == k)=true:=beq_iff_eq.mpr h;simp only[BZ,hb,NW<|h.trans hk]
   .have hb:(g == k)=false:=beq_eq_false_iff_ne.mpr h;simp only[BZ,hb,NS λe:g=f=>h<|e.trans hk.symm]
  .rw[NS hk];by_cases h:g=k
   .have hb:(g == k)=true:=beq_iff_eq.mpr h;simp only[BZ,hb,NS λe:g=f=>hk<|h.symm.trans e]
   .have hb:(g == k)=false:=beq_eq_false_iff_ne.mpr h;simp only[BZ,hb];show ih
theorem oP (f:va) (v:V): ∀fs:qx (va×V),f∈(fY f v fs).map (·.1)/\ ∀g,g∈fs.map (·.1)->g∈(fY f v fs).map (·.1)
 | []=>⟨by simp[fY],λg h=>by simp at h⟩
 | (k,x)::r=>by
  obtain⟨i1,i2⟩:=oP f v r;rw[show fY f v ((k,x)::r)=(if k=f then (k,v)::r else (k,x)::fY f v r) from rfl];by_cases hk:k=f
  .rw[NW hk];subst hk;erw[by simp,λg h=>by simpa using h]
  .rw[NS hk];erw[?_,λg h=>?_]
   .rw[OH];show N4 _ i1
   .rw[OH] at h ⊢;rcases N5.mp h with e | e
    .exact N5.mpr<|.inl e
    .exact N4 _<|i2 g e
theorem qK (f:va) (v:V): ∀fs:qx (va×V),(fY f v fs).length<=fs.length+1
 | []=>by simp[fY]
 | (k,x)::r=>by
  have ih:=qK f v r;rw[show fY f v ((k,x)::r)=(if k=f then (k,v)::r else (k,x)::fY f v r) from rfl];by_cases hk:k=f;.rw[NW hk,Oh,Oh]; lia
  .rw[NS hk,Oh,Oh]; lia
theorem f9.some_of {v:V}{o:rW qT}(r:f9 (some v) o): ∃u,o=some u/\RelV v u:=by
 cases o with
 | none=>show (show zh from r).elim
 | some u=>exact⟨u,Z,r⟩
theorem f9.none_of {o:rW qT}(r:f9 none o):o=none:=by
 cases o with
 | none=>rfl
 | some u=>show (show zh from r).elim
theorem EL {v:V}(r:RelV v u):Wm u=true:=by
 cases v with
 | non=>cases (show u=A4 from r); rfl
 | bl b=>cases (show u=VJ b from r); rfl
 | int i=>obtain⟨t,e⟩:=(show ∃t,u=zj i t from r); cases e; rfl
 | str x=>obtain⟨t,e⟩:=(show ∃t,u=HG x t from r); cases e; rfl
 | byt b=>obtain⟨t,e⟩:=(show ∃t,u=Xq b t from r); cases e; rfl
 | flt b=>obtain⟨t,e⟩:=(show ∃t,u=Xr b t from r); cases e; rfl
 | ref a=>cases (show u=ye a from r); rfl
 | ty n=>cases (show u=CW n from r); rfl
section
variable {P:tq}{w:sW}{H H':Hp}{h h':yk}{a C dx:qA}{fs fs':qx (va×V)}
theorem vd (hok:Ss P w H h) (e:H a=some (.ins C dx fs)): ∃mA,qX h a dx C mA/\(∀f,f9 (fs.lookup f) (mA f))/\VZ mA (fs.map (·.1))/\fs.length<=1000/\H dx=some (.own a):=by
 obtain⟨d,z,ne,ob,mA,n,r,q⟩:=(show dq P w H h a (.ins C dx fs) from hok a _ e)
 erw[mA,⟨ob,n,ne⟩,r,q,z,d]
end
structure SR (K:R7) (C:qA):Prop where
 pg:GG K C Vu=true
 hd:Vg K C=true
 po:Wf K C=true
 sa:zD K (.ref C) "__setattr__" = some (some (.builtin "object.__setattr__"))
theorem SR.get(c:SR K C) (f:va):GG K C f=true:=c.pg
def ic (K:R7) (C:qA) (f:va):Prop:=zD K (.ref C) f=some none
theorem ic.L9 {f:va}(n:ic K C f):Vt K C f=some none:=by
 unfold Vt;rw[show zD K (.ref C) f=some none from n];rfl
structure UO (K:R7) (C:qA) (f:va) (v:V) (u:qT):Prop where
 at_:zD K (.ref C) f=some (some u)
 rel:RelV v u
 get:Wg K u "__get__" = some none
 cp:PySem.W.copiedNames.contains f=false
structure Meth (K:R7) (C:qA) (m:va) (f:qA):Prop where
 at_:zD K (.ref C) m=some (some (.ref f))
 fn:Vo K (.ref f)=true
 kp:zE K (.ref f)=true
section
variable {X:Cx}{R1:nE}{O:St}{H:Hp}{s:rK}{a C dx:qA}{fs:qx (va×V)}{f:va}{v:V}{A:uc}{E:oF}
variable{Q:oF}
theorem Ce {b:yW}(I:Inv X R1 O H s) (e:H a=some (.ins C dx fs)) (c:SR X.K C) (n:ic X.K C f) (l:fs.lookup f=some v)
  (h: ∀u s',Inv X R1 O H s'->RelV v u->Q u s'):xA (model X.prog X.w) A (getAttr (.ref a) f b) Q E s:=by
 obtain⟨mA,eQ,r,_,_,_⟩:=vd I.hok e;obtain⟨u,hu,ru⟩:=f9.some_of (v:=v) (o:=mA f) (by rw[<-l]; show r f);show get_map I.SQ eQ (c.get f) c.hd n hu (EL ru)<|h u _ (I.tok _) ru
theorem jf {m:va}{g:qA}{pl:Sem yW}{Q:qT×qx qT->rK->Prop}(I:Inv X R1 O H s) (e:H a=some (.ins C dx fs)) (c:SR X.K C) (k:Meth X.K C m g) (l:fs.lookup m=none)
  (h:Q (.ref g,[.ref a]) s):xA (model X.prog X.w) A (DA (.ref a) m pl) Q E s:=by
 obtain⟨mA,eQ,r,_,_,_⟩:=vd I.hok e;have hn:mA m=none:=f9.none_of (by rw[<-l]; show r m);show Fg I.SQ eQ (c.get m) k.at_ k.fn hn h
theorem Cq {y:V}{u:qT}{Q:Unit->rK->Prop}(I:Inv X R1 O H s) (e:H a=some (.ins C dx fs)) (c:SR X.K C) (n:ic X.K C f) (hl:fs.length < 1000) (ry:RelV y u)
  (h: ∀s',Inv X R1 O (upd H a (.ins C dx (fY f y fs))) s'->Q () s'):xA (model X.prog X.w) A (setAttr (.ref a) f u) Q E s:=by
 obtain⟨mA,eQ,r,wi,_,ho⟩:=vd I.hok e;have hz:(fs.map (·.1)).length<=sizeLine:=by rw[NR,RC]; lia
 show IY I.SQ eQ c.sa c.po n.L9 c.hd wi hz λh' O' sb=>h _ ?_;have hd: ∃o,h'.get? dx=some o:=let ⟨o,_,_,e',_⟩:=O'.ns; ⟨o,e'⟩;show I.write (x:=a) (e:=dx) (by rw[e]; show CZ) (.inr ho) (λb q hb z=>(sb.2 b hb).trans z) hd ?_;show⟨by rw[ah eQ.ne]; show ho,?_,eQ.ne,O'.obj,_,O'.ns,λg=>?_,λg hg=>?_⟩;.have:=qK f y fs; lia
 .change f9 ((fY f y fs).lookup g) (if g=f then some u else mA g);rw[qJ];by_cases q:g=f;.rw[NW q,NW q]; show ry
  .rw[NS q,NS q]; show r g
 .by_cases q:g=f;.rw[q]; show (oP f y fs).1
  .show (oP f y fs).2 g<|wi g λz=>hg ?_;change (if g=f then some u else mA g)=none;rw[NS q]; show z
theorem Inv.made (I:Inv X R1 O H s):Inv X R1 O (upd (upd H s.heap.objs.size (.own (s.heap.objs.size+1))) (s.heap.objs.size+1) (.ins C s.heap.objs.size []))
  { s with heap:=(s.heap.push zN).push (Br C s.heap.objs.size) }:=by
 have e1:(s.heap.push zN).get? s.heap.objs.size=some zN:=OD s.heap rfl;have e2:((s.heap.push zN).push<|Br C s.heap.objs.size).get? (s.heap.objs.size+1)=some (Br C s.heap.objs.size):=by
  have:=OD (s.heap.push zN) (o:=Br C s.heap.objs.size) rfl
  rwa [Pp] at this
 have e3:(s.heap.push zN).Ns s.heap.objs.size (λ_=>none):=⟨zN,#[],_,e1,Z,(λe he=>wz he uD),λ_=>rfl⟩
 have I1:=I.laid (a:=s.heap.objs.size) (o:= .own<|s.heap.objs.size+1) (h':=s.heap.push zN) (t':=s.toks) (λb u q=>N3 _ q) (N0 _) ⟨_,e1⟩;show I1.laid (a:=s.heap.objs.size+1) (o:= .ins C s.heap.objs.size []) (t':=s.toks) (λb u q=>N3 _ q) (Rk<|Pp _ _) ?_;have ne:s.heap.objs.size≠s.heap.objs.size+1:=OC<|PY _;erw[by rw[ah ne,af],ON _,ne,e2,λ_=>none,(Heap.Ns1.of_empty e3).at λo q=>N3 _ q,λ_=>CZ,λy hy=>wz rfl hy]
theorem IJ {prog:tq}{w:sW}{env:Env}{e:tW}{f:va}{pos:Pos}{s:rK}(hb:CT e f env (eval e env)=eval e env)
  (h:xA (model prog w) A (eval e env) (λo s₁=>xA (model prog w) A (getAttr o f true) Q E s₁) E s):xA (model prog w) A (eval (.Attribute e f pos) env) Q E s :=
 Attribute_any_ h (by rw[arm_eval_Attribute,hb])
end
inductive Mm (K:R7) (f:va) (Q:VK) (x:V) (H1:Hp):Prop | mk (a C dx fs v:_) (e0:x= .ref a) (e1:H1 a=some (.ins C dx fs)) (e2:SR K C) (e3:ic K C f) (e4:fs.lookup f=some v) (q:Q v H1)
def Jz (K:R7) (ta:TE) (f:va):TE:=λO H Q=>ta O H λx H1=>Mm K f Q x H1
inductive NM (K:R7) (f:va) (Q:VK) (x:V) (H1:Hp):Prop | mk (a C dx fs v u:_) (e0:x= .ref a) (e1:H1 a=some (.ins C dx fs)) (e2:SR K C) (e3:UO K C f v u) (e4:fs.lookup f=none) (q:Q v H1)
inductive LB (K:R7) (f:va) (D:Ends) (O:St) (y x:V) (H2:Hp):Prop | mk (a C dx fs:_) (e0:x= .ref a) (e1:H2 a=some (.ins C dx fs)) (e2:SR K C) (e3:ic K C f) (e4:fs.length < 1000) (q:D.nx O (upd H2 a (.ins C dx (fY f y fs))))
def ME (K:R7) (ta tv:TE) (f:va):TS:=λD O H=>tv O H λy H1=>ta O H1 λx H2=>LB K f D O y x H2
section
variable {X:Cx}{o e value:tW}{f:va}{pos pos' tpos:Pos}{ta tv:TE}
theorem K3 (he:PE X e ta) (hb:CT e f X.env (eval e X.env)=eval e X.env):PE X (.Attribute e f pos) (Jz X.K ta f):=by
 intro R1 s O H Q I h;show IJ hb<|Sf (he R1 s O H _ I h) λu s1 hm=>?_;obtain⟨x,H1,I1,rx,a,C,dx,fs,v,ex,ea,c,n,l,q⟩:=hm;subst ex;obtain rfl:u=ye a:=rx;show Ce I1 ea c n l λu' s2 I2 ru=>⟨v,H1,I2,ru,q⟩
theorem ie (ha:PE X o ta) (hv:PE X value tv) (hs:HW value (some (.Attribute o f pos')) pos.line X.env=pure false):PS X (.Assign [.Attribute o f pos'] value pos) (ME X.K ta tv f):=by
 intro R1 s O H D I h;show plainObj_wpAny_Assign_Attribute (Sf (hv R1 s O H _ I h) λu s1 ⟨y,H1,I1,ry,q⟩=>Sf (ha R1 s1 O H1 _ I1 q) λov s2 hm=>?_) hs;obtain⟨x,H2,I2,rx,a,C,dx,fs,ex,ea,c,n,l,q2⟩:=hm;subst ex;obtain rfl:ov=ye a:=rx;show Cq I2 ea c n l ry λs3 I3=>⟨O,_,I3,q2⟩
inductive ND (x y:V) (H:Hp) (Q:VK):Prop | mk (i j:_) (e0:x= .int i) (e1:y= .int j) (q:Q (.int (i+j)) H)
inductive NH (x y:V) (H:Hp) (Q:VK):Prop | mk (i j:_) (e0:x= .int i) (e1:y= .int j) (q:Q (.int (i - j)) H)
theorem K7 {pl:Sem yW}{m:va}{apos:Pos}{args:qx tW}{R1:nE}{s:rK}{O:St}{H:Hp}{Q:oF}{te:TE}(he:PE X e te) (I:Inv X R1 O H s)
  (h:te O H λx H1=> ∃a C dx fs g,x= .ref a/\H1 a=some (.ins C dx fs)/\SR X.K C/\Meth X.K C m g/\fs.lookup m=none /\
   ∀s1,Inv X R1 O H1 s1->xA (model X.prog X.w) X.A (FA pos (.ref g) [.ref a] (zV pos (zb args X.env)) (CU pos (AR [] X.env))) Q X.xe s1)
  (ht:eval (.Call (.Attribute e m apos) args [] pos) X.env=(do
   let ov <-eval e X.env
   standAt apos.atName
   let (f,first) <-holding [ov] (DA ov m pl)
   FA pos f first (zV pos (zb args X.env)) (CU pos (AR [] X.env)))) :
  xA (model X.prog X.w) X.A (eval (.Call (.Attribute e m apos) args [] pos) X.env) Q X.xe s:=by
 show P7 (pl:=pl) (Sf (he R1 s O H _ I h) λu s1 hm=>?_) ht;obtain⟨x,H1,I1,rx,a,C,dx,fs,g,ex,ea,c,k,l,q⟩:=hm;subst ex;obtain rfl:u=ye a:=rx;show jf I1 ea c k l<|q s1 I1
end
section
variable {X:Cx}{R1:nE}{O:St}{H:Hp}{s:rK}{A:uc}{E:oF}{Q:oF}{c:qT}{b:yW}
inductive lL (K:R7) (H:Hp):V->qT->Prop where
 | non:lL K H .non (.type "NoneType")
 | bl (x:yW):lL K H (.bl x) (.type "bool")
 | int (i:u7):lL K H (.int i) (.type "int")
 | str (x:va):lL K H (.str x) (.type "str")
 | flt (x:UInt64):lL K H (.flt x) (.type "float")
 | lst {a:qA}{xs:qx V} (e:H a=some (.lst xs)):lL K H (.ref a) (.type "list")
 | frz {a:qA}{o:Obj}{xs:qx V} (e:H a=some (.frz o (.lst xs))):lL K H (.ref a) (.type "list")
 | tup {a:qA}{xs:qx V} (e:H a=some (.tup xs)):lL K H (.ref a) (.type "tuple")
 | dK {a:qA}{kvs:qx (Key×V)} (e:H a=some (.dK kvs)):lL K H (.ref a) (.type "dict")
 | dT {a:qA}{kvs:qx (qx Key×V)} (e:H a=some (.dT kvs)):lL K H (.ref a) (.type "dict")
 | ins {a C dx:qA}{fs:qx (va×V)} (e:H a=some (.ins C dx fs)) (cl:SR K C) (ha:zD K (.ref C) "__class__" = some (some (.builtin "object.__class__")))
   (hn:Wg K (.builtin "object.__class__") "__get__" = some (some (.builtin "getset_descriptor.__get__"))) (htk:PySem.W.takesIn K (.builtin "object.__class__")=some true)
   (hm:PySem.W.mroIn K C (.type "object")=some true):lL K H (.ref a) (.ref C)
end
abbrev SE (X:Cx) (e:tW) (es:qx tW):Prop:=zb (e::es) X.env=(false,eval e X.env)::zb es X.env
abbrev BK (X:Cx) (pos:Pos) (es:qx tW):Prop:=(zV pos (zb es X.env)).any (·.1)=false
structure b7 (k:u6) (A:uc):Prop where
 hd:A.handled=none
 dp:A.depth+3*k+5 < recursionLimit
 un:A.units+16*k+200 < DK
theorem b7.mono {j k:u6}(r:b7 k A) (h:j<=k):b7 j A:=⟨r.hd,by have:=r.dp; lia,by have:=r.un; lia⟩
theorem b7.deeper {k:u6}(r:b7 (k+1) A) (env:Env):b7 k (A.deeper env) :=
 ⟨r.hd,by have:=r.dp; change A.depth+1+3*k+5 < _; lia,by have:=r.un; change A.units+3+16*k+200 < _; lia⟩
variable{kw:qx (va×qT)}
theorem Bu:(A.under (.builtin "type.__call__" ⟨.ref C::us,kw⟩)).depth=A.depth+1:=by
 first | rfl | simp[V3,Code.weight,Code.isCreation,Code.isGuard,Code.isCaller,Xt,V4,guardIds]
theorem BD:(A.under (.builtin "type.__call__" ⟨.ref C::us,kw⟩)).units=A.units+1:=by
 first | rfl | simp[V3,Code.cUnits,Xt,V4]
theorem b7.make {k:u6}(r:b7 (k+1) A) (C:qA) (us:qx qT) (kw:qx (va×qT)):b7 k (A.under (.builtin "type.__call__" ⟨.ref C::us,kw⟩)) :=
 ⟨r.hd,by have:=r.dp; rw[Bu]; lia,by have:=r.un; rw[BD]; lia⟩
theorem b7.depth {k:u6}(r:b7 k A):A.depth < recursionLimit:=by have:=r.dp; lia
theorem b7.units {k:u6}(r:b7 k A):A.units+64 < DK:=by have:=r.un; lia
def mi:TA:=λ_ H Q=>Q [] H
def qc (ta:TE) (tr:TA):TA:=λO H Q=>ta O H λx H1=>tr O H1 λxs H2=>Q (x::xs) H2
section
variable {X:Cx}{e:tW}{es:qx tW}{te:TE}{t:TA}{pos:Pos}
theorem b8:PA X [] mi:=λ_ _ _ _ H Q I h=>Vh ⟨[],H,I,.nil,h⟩
theorem IH (ha:PE X e te) (hr:PA X es t) (hs:SE X e es:=by rfl):PA X (e::es) (qc te t):=by
 intro pos R1 s O H Q I h;rw[hs];change xA _ _ (spliced ((false,eval e X.env)::zV pos (zb es X.env))) _ _ s;show RD<|Sf (ha R1 s O H _ I h) λu s1 ⟨x,H1,I1,r1,q1⟩=>?_;show Sf (hr pos R1 s1 O H1 _ I1 q1) λus s2 ⟨xs,H2,I2,r2,q2⟩=>⟨x::xs,H2,I2,.cons r1 r2,q2⟩
inductive Mf (xs:qx V) (H:Hp) (Q:VK):Prop | mk (e:xs.length<=sizeLine) (q: ∀p,H p=none->Q (.ref p) (upd H p (.tup xs)))
def MX (t:TA):TE:=λO H Q=>t O H λxs H1=>Mf xs H1 Q
inductive LF (xs:qx V) (H:Hp) (Q:VK):Prop | mk (e:xs.length<=sizeLine) (q: ∀p,H p=none->Q (.ref p) (upd H p (.lst xs)))
def M6 (t:TA):TE:=λO H Q=>t O H λxs H1=>LF xs H1 Q
theorem bO {x1}(h:PA X es t):PE X (.Tuple es x1 pos) (MX t):=by
 intro R1 s O H Q I hq;show wpAny_Tuple_spliced<|Sf (h pos R1 s O H _ I hq) λus s1 ⟨xs,H1,I1,r,z,q⟩=>⟨by rw[<-r.length]; show z,?_⟩;have hf:H1 s1.heap.objs.size=none:=I1.hok.fresh<|N0 _;erw[.ref s1.heap.objs.size,upd H1 s1.heap.objs.size<|.tup xs,I1.laid (t':=s1.toks) (λb u e=>N3 _ e) (N0 _) ?_,Z,q _ hf];erw[z,us,r,⟨_,OD _ rfl,Z,_,Z⟩]
theorem aP (h:PA X es t):PE X (.List es pos) (M6 t):=by
 intro R1 s O H Q I hq;show wpAny_List_spliced<|Sf (h pos R1 s O H _ I hq) λus s1 ⟨xs,H1,I1,r,z,q⟩=>⟨by rw[<-r.length]; show z,?_⟩;have hf:H1 s1.heap.objs.size=none:=I1.hok.fresh<|N0 _;erw[.ref s1.heap.objs.size,upd H1 s1.heap.objs.size<|.lst xs,I1.laid (t':=s1.toks) (λb u e=>N3 _ e) (N0 _) ?_,Z,q _ hf];erw[z,us,0,r,OD _ rfl]
end
abbrev Sp:=qx V->Hp->VK->XK->Prop
abbrev SV:=qx Env->Hp->rK->XK->qT->rK->Prop
structure rM (P:tq) (w:sW) (K:R7) (mg:oR) (base:yk) (A:uc) (outer:qx Env) (s:rK) (H:Hp):Prop where
 frames:A.frames=some outer
 mod:Mod K mg base
 bs: ∀b o,base.get? b=some o->s.heap.get? b=some o/\H b=none
 bsz:base.objs.size<=s.heap.objs.size
 fF:s.heap.FunFrames base outer
 frf: ∀b∈S2 outer,H b=none
 hok:Ss P w H s.heap
 bare:F0 s.gens
def CE (outer:qx Env) (P:tq) (w:sW) (H:Hp) (s:rK) (Q:VK) (u:qT) (s':rK):Prop :=
 ∃v H',s'.os=s.os/\F0 s'.gens/\Un (S2 outer) [] H H' s.heap s'.heap/\Ss P w H' s'.heap/\RelV v u/\Q v H'
def CR (CX:SV) (outer:qx Env) (P:tq) (w:sW) (H:Hp) (s:rK) (Q:VK) (E:XK) (r:Result) (s':rK):Prop :=
 match r with
 | .ok (.ret u)=>CE outer P w H s Q u s'
 | .ok _=>zh
 | .error e=>CX outer H s E e s'
structure eP (P:tq) (w:sW) (K:R7) (mg:oR) (base:yk) (CX:SV) (k:u6) (f:qA) (fd:BS) (ps:qx va) (sp:Sp):Prop where
 len: ∀vs H Q E,sp vs H Q E->vs.length=ps.length
 run: ∀(A:uc) (outer:qx Env) (s:rK) (H:Hp) (args:Args) (us:qx qT) (vs:qx V) (Q:VK) (E:XK),b7 k A->rM P w K mg base A outer s H->U5 s fd args (ps.zip us)->Vals vs us->sp vs H Q E ->
  Eb (model P w) A (.call (.ref f) args) (CR CX outer P w H s Q E) s
variable{mg:oR}{base:yk}{CX:SV}{f:qA}{fd:BS}{ps:qx va}
theorem eP.mono {j k:u6}{sp:Sp}(F:eP P w K mg base CX j f fd ps sp) (h:j<=k) :
  eP P w K mg base CX k f fd ps sp:=⟨F.len,λA outer s H args us vs Q E hr=>F.run A outer s H args us vs Q E (hr.mono h)⟩
variable{outer:qx Env}
theorem rM.make(e:rM P w K mg base A outer s H) (C:qA) (us:qx qT) (kw:qx (va×qT)) :
  rM P w K mg base (A.under (.builtin "type.__call__" ⟨.ref C::us,kw⟩)) outer s H:=⟨by first | show e.frames | (simpa [V3,Code.envs,V4,pushEnvs] using e.frames),e.mod,e.bs,e.bsz,e.fF,e.frf,e.hok,e.bare⟩
section
variable {X:Cx}{R1:nE}{O:St}{H:Hp}{s s':rK}
theorem Inv.GK (I:Inv X R1 O H s):rM X.prog X.w X.K X.mg X.base X.A X.stack s H :=
 ⟨I.ok.frames,I.ok.mod,I.bs,Ob I.ok.bsz I.sz,I.stack,I.uU,I.hok,I.bare⟩
theorem Inv.after {Q:VK}{u:qT}(I:Inv X R1 O H s) (h:CE X.stack X.prog X.w H s Q u s'):EP X R1 O Q u s':=by
 obtain⟨v,H',os,bare,un,hok,r,q⟩:=h;obtain⟨hh,g,d,t,os'⟩:=s';obtain rfl:os'=s.os:=os;erw[v,H',I.call (h':=hh) (g':=g) (d':=d) (t':=t) (ch:=[]) un hok bare λb z=>wz z uD,r,q]
end
def Hj (sp:Sp) (dvs:qx V) (E:XK) (t:TA):TE:=λO H Q=>t O H λvs H1=>sp (vs++dvs) H1 Q E
inductive JF (C:qA) (m:va) (x:V) (H1:Hp) (k:Prop):Prop | mk (a dx fs:_) (e0:x= .ref a) (e1:H1 a=some (.ins C dx fs)) (e2:fs.lookup m=none) (q:k)
def wV (C:qA) (m:va) (sp:Sp) (dvs:qx V) (E:XK) (ta:TE) (t:TA):TE:=λO H Q=>ta O H λx H1=>JF C m x H1 (t O H1 λvs H2=>sp (x::(vs++dvs)) H2 Q E)
def Ha (C:qA) (sp:Sp) (dvs:qx V) (E:XK) (t:TA):TE:=λO H Q=>t O H λvs H1=> ∀x dx,H1 x=none->H1 dx=none->dx≠x ->
 sp (.ref x::(vs++dvs)) (upd (upd H1 dx (.own x)) x (.ins C dx [])) (λv H2=>v= .non/\Q (.ref x) H2) E
def Binds (K:R7) (fd:BS) (ps:qx va) (ds:qx qT):Prop :=
 ∀(s:rK) (us:qx qT),K.In s.heap->(us++ds).length=ps.length->U5 s fd ⟨us,[]⟩ (ps.zip (us++ds))
theorem Binds.all(h: ∀us:qx qT,us.length=ps.length->bindArgs fd ⟨us,[]⟩=pure (ps.zip us)):Binds K fd ps []:=λs us _ hl=>by
 rw[PN] at hl ⊢;show .of_eq<|h us hl
def Passes (CX:SV) (X:Cx) (E:XK):Prop:= ∀(R1:nE) (O:St) (H:Hp) (s:rK) (e:qT) (s':rK),Inv X R1 O H s->CX X.stack H s E e s'->X.xe e s'
section
variable {X:Cx}{CX:SV}{k:u6}{f C:qA}{fd:BS}{ps:qx va}{sp:Sp}{dvs:qx V}{ds:qx qT}{E:XK}{x m:va}{p pos apos:Pos}{e o:tW}{es:qx tW}{ta:TE}{t:TA}
variable{R1:nE}
theorem xE {O:St}{H:Hp}{s:rK}{Q:VK}{us:qx qT}{vs:qx V}(F:eP X.prog X.w X.K X.mg X.base CX k f fd ps sp) (hr:b7 k X.A) (hb:Binds X.K fd ps ds) (hd:Vals dvs ds) (hx:Passes CX X E)
  (I:Inv X R1 O H s) (r:Vals vs us) (h:sp (vs++dvs) H Q E):xA (model X.prog X.w) X.A (call (.ref f) us) (EP X R1 O Q) X.xe s:=by
 have r2:Vals (vs++dvs) (us++ds):=r.append hd;have hl:(us++ds).length=ps.length:=by rw[<-r2.length]; show F.len _ _ _ _ h
 show Rq<|QQ (F.run X.A X.stack s H ⟨us,[]⟩ (us++ds) (vs++dvs) Q E hr I.GK (hb s us I.SQ hl) r2 h) λr s' hq=>?_;cases r with
 | error e=>show hx R1 O H s e s' I hq
 | ok fl =>
  cases fl with
  | ret u=>show I.after hq
  | next=>show Ba hq
  | brk=>show Ba hq
  | cont=>show Ba hq
theorem Jp (F:eP X.prog X.w X.K X.mg X.base CX k f fd ps sp) (hr:b7 k X.A) (hg:Gl X x) (hm:X.mg x=some (.ref f)) (hk:zE X.K (.ref f)=true) (hb:Binds X.K fd ps ds) (hd:Vals dvs ds) (hx:Passes CX X E)
  (ha:PA X (e::es) t) (hdb:DB x:=by decide) (he:SE X e es:=by rfl) (hpl:BK X pos es:=by rfl) :
  PE X (.Call (.Name x p) (e::es) [] pos) (Hj sp dvs E t):=by
 intro R1 s O H Q I h;show P5<|kQ I hg hm ?_ hdb;show QM (h₀:=X.base) I.ok.mod.kin hk (Sf (ha pos R1 s O H _ I h) λus s1 ⟨vs,H1,I1,r,q⟩=>⟨I1.SQ,?_⟩) he hpl;show xE F hr hb hd hx I1 r q
variable{pl:Sem yW}
theorem Iz(he:PE X o ta) (c:SR X.K C) (hm:Meth X.K C m f) (F:eP X.prog X.w X.K X.mg X.base CX k f fd ps sp) (hr:b7 k X.A) (hb:Binds X.K fd ps ds) (hd:Vals dvs ds) (hx:Passes CX X E) (ha:PA X (e::es) t)
  (hst:SE X e es:=by rfl) (hpl:BK X pos es:=by rfl)
  (ht:eval (.Call (.Attribute o m apos) (e::es) [] pos) X.env=(do
   let ov <-eval o X.env
   standAt apos.atName
   let (f,first) <-holding [ov] (DA ov m pl)
   FA pos f first (zV pos (zb (e::es) X.env)) (CU pos (AR [] X.env))):=by rfl) :
  PE X (.Call (.Attribute o m apos) (e::es) [] pos) (wV C m sp dvs E ta t):=by
 intro R1 s O H Q I h;show P7 (pl:=pl) (Sf (he R1 s O H _ I h) λu s1 hm=>?_) ht;obtain⟨x,H1,I1,rx,a,dx,fs,ex,ea,l,q⟩:=hm;subst ex;obtain rfl:u=ye a:=rx;show jf I1 ea c hm l ?_;show QM (first:=[.ref a]) (h₀:=X.base) I.ok.mod.kin hm.kp (Sf (ha pos R1 s1 O H1 _ I1 q) λus s2 ⟨vs,H2,I2,r,q2⟩=>⟨I2.SQ,?_⟩) hst hpl;show xE (us:= .ref a::us) (vs:= .ref a::vs) F hr hb hd hx I2 (.cons rfl r) q2
theorem F9(he:PE X o ta) (c:SR X.K C) (hm:Meth X.K C m f) (F:eP X.prog X.w X.K X.mg X.base CX k f fd ps sp) (hr:b7 k X.A) (hb:Binds X.K fd ps ds) (hd:Vals dvs ds) (hx:Passes CX X E)
  (ht:eval (.Call (.Attribute o m apos) [] [] pos) X.env=(do
   let ov <-eval o X.env
   standAt apos.atName
   let (f,first) <-holding [ov] (DA ov m pl)
   FA pos f first (zV pos (zb [] X.env)) (CU pos (AR [] X.env))):=by rfl) :
  PE X (.Call (.Attribute o m apos) [] [] pos) (wV C m sp dvs E ta mi):=by
 intro R1 s O H Q I h;show P7 (pl:=pl) (Sf (he R1 s O H _ I h) λu s1 hm=>?_) ht;obtain⟨x,H1,I1,rx,a,dx,fs,ex,ea,l,q⟩:=hm;subst ex;obtain rfl:u=ye a:=rx;show jf I1 ea c hm l ?_;show Rx (first:=[.ref a]) I1.SQ hm.kp<|xE (us:=[.ref a]) (vs:=[.ref a]) F hr hb hd hx I1 (.cons rfl .nil) q
structure Mk (K:R7) (C f:qA):Prop where
 makes:EH K C=true
 init:zD K (.ref C) "__init__" = some (some (.ref f))
 fn:Vo K (.ref f)=true
 kp:zE K (.ref C)=true
theorem Ft {O:St}{H:Hp}{s:rK}{Q:VK}{us:qx qT}{vs:qx V}(M:Mk X.K C f) (F:eP X.prog X.w X.K X.mg X.base CX k f fd ps sp) (hr:b7 (k+1) X.A) (hb:Binds X.K fd ps ds) (hd:Vals dvs ds)
  (hx:Passes CX X E) (I:Inv X R1 O H s) (r:Vals vs us)
  (h: ∀x dx,H x=none->H dx=none->dx≠x->sp (.ref x::(vs++dvs)) (upd (upd H dx (.own x)) x (.ins C dx [])) (λv H2=>v= .non/\Q (.ref x) H2) E) :
  xA (model X.prog X.w) X.A (call (.ref C) us) (EP X R1 O Q) X.xe s:=by
 have hq:=h (s.heap.objs.size+1) s.heap.objs.size (I.hok.fresh<|Pe _) (I.hok.fresh<|N0 _)<|OC<|PY _;have I2:=Inv.made (C:=C) I;have r2:Vals (V.ref (s.heap.objs.size+1)::(vs++dvs)) (ye (s.heap.objs.size+1)::(us++ds)):= .cons rfl<|r.append hd;have hl:(ye (s.heap.objs.size+1)::us++ds).length=ps.length:=by
  have e:=r2.length;rw[F.len _ _ _ _ hq] at e;show e.symm
 show Rq (FQ (f:=f) I.SQ M.makes M.init (beq_iff_eq.mp M.fn) (QQ (F.run _ X.stack _ _ ⟨ye (s.heap.objs.size+1)::us,[]⟩ (ye (s.heap.objs.size+1)::(us++ds)) _ _ E (hr.make C us [])
  (I2.GK.make C us []) (hb _ (ye (s.heap.objs.size+1)::us) I2.SQ hl) r2 hq) λr s' hq'=>?_))
 cases r with
 | error e=>show hx R1 O _ _ e s' I2 hq'
 | ok fl =>
  cases fl with
  | ret u =>
   obtain⟨v,H',I3,rv,ev,q3⟩:=I2.after hq';subst ev;erw[rv,⟨V.ref<|s.heap.objs.size+1,H',I3,Z,q3⟩]
  | next=>show Ba hq'
  | brk=>show Ba hq'
  | cont=>show Ba hq'
theorem Gv (M:Mk X.K C f) (F:eP X.prog X.w X.K X.mg X.base CX k f fd ps sp) (hr:b7 (k+1) X.A) (hg:Gl X x) (hm:X.mg x=some (.ref C)) (hb:Binds X.K fd ps ds) (hd:Vals dvs ds) (hx:Passes CX X E)
  (hdb:DB x:=by decide):PE X (.Call (.Name x p) [] [] pos) (Ha C sp dvs E mi):=by
 intro R1 s O H Q I h;show P5<|kQ I hg hm ?_ hdb;show Rx I.SQ M.kp<|Ft (us:=[]) M F hr hb hd hx I .nil h
end
section
variable {X:Cx}{CX:SV}{k:u6}{f C:qA}{fd:BS}{ps ks:qx va}{sp:Sp}{E:XK}{x m:va}{p pos apos kpos:Pos}{e o:tW}{es:qx tW}{kws:qx Ig}{te ta:TE}{t tk:TA}{nm:rW va}
structure Np (K:R7) (fd:BS) (ps ks:qx va) (g:qx qT->qx qT->qx qT) (gV:qx V->qx V->qx V):Prop where
 to: ∀(s:rK) (us ws:qx qT),K.In s.heap->(g us ws).length=ps.length->U5 s fd ⟨us,ks.zip ws⟩ (ps.zip (g us ws))
 rel: ∀ {vs:qx V}{us:qx qT}{zs:qx V}{ws:qx qT},Vals vs us->Vals zs ws->Vals (gV vs zs) (g us ws)
variable {g:qx qT->qx qT->qx qT}{gV:qx V->qx V->qx V}
end
structure gB (N P:qx va) (sc:A3):Prop where
 kind:sc.kind= .function
 co:sc.isCoroutine=false
 gen:sc.isGenerator=false
 nd:N.Nodup
 pre:N.take P.length=P
 par: ∀x∈P,sc.names.lookup x=some .local\/sc.names.lookup x=some .cell
 nofree: ∀y∈sc.names,y.2≠ .free
variable{kindOf:va->rW Bv}
theorem vF {x:va}: ∀ {binds:qx (va×qT)}{m:oR},(∀v,(x,v)∉binds)->bindL kindOf binds m x=m x
 | [],_,_=>rfl
 | (n,v)::r,m,h=>by
  unfold bindL;rw[vF λw hw=>h w (N4 _ hw)];split
  .have:x≠n:=by rintro rfl; show h v N6
   simp[this]
  .rfl
theorem vJ {x:va}: ∀ {binds:qx (va×qT)}{m:oR},(∀v,(x,v)∉binds)->bindC kindOf binds m x=m x
 | [],_,_=>rfl
 | (n,v)::r,m,h=>by
  unfold bindC;rw[vJ λw hw=>h w (N4 _ hw)];split;.rfl
  .have:x≠n:=by rintro rfl; show h v N6
   simp[this]
theorem vh {x:va}{v:qT}: ∀ {P:qx va}{vs:qx qT}{i:u6}{m:oR},P.Nodup->P[i]?=some x->vs[i]?=some v->kindOf x=some .local ->
  bindL kindOf (P.zip vs) m x=some v
 | [],_,_,_,_,h,_,_=>by simp at h
 | _::_,[],_,_,_,_,h,_=>by simp at h
 | p::P,w::vs,0,m,nd,h1,h2,hk=>by
  simp at h1 h2; subst h1; subst h2;change bindL kindOf ((p,w)::P.zip vs) m p=_;unfold bindL;rw[vF λv hv=>(OS.mp nd).1 (QI hv).1,NW hk];simp
 | p::P,w::vs,i+1,m,nd,h1,h2,hk=>by
  change bindL kindOf ((p,w)::P.zip vs) m x=_;unfold bindL;show vh (i:=i) (OS.mp nd).2 (by simpa using h1) (by simpa using h2) hk
theorem vp {x:va}{v:qT}: ∀ {P:qx va}{vs:qx qT}{i:u6}{m:oR},P.Nodup->P[i]?=some x->vs[i]?=some v->kindOf x≠some .local ->
  bindC kindOf (P.zip vs) m x=some v
 | [],_,_,_,_,h,_,_=>by simp at h
 | _::_,[],_,_,_,_,h,_=>by simp at h
 | p::P,w::vs,0,m,nd,h1,h2,hk=>by
  simp at h1 h2; subst h1; subst h2;change bindC kindOf ((p,w)::P.zip vs) m p=_;unfold bindC;rw[vJ λv hv=>(OS.mp nd).1 (QI hv).1,NS hk];simp
 | p::P,w::vs,i+1,m,nd,h1,h2,hk=>by
  change bindC kindOf ((p,w)::P.zip vs) m x=_;unfold bindC;show vp (i:=i) (OS.mp nd).2 (by simpa using h1) (by simpa using h2) hk
def start (N:qx va) (vs:qx V):St:=vs.map some++wo (N.length - vs.length) none
def iX (CX:SV) (P:tq) (w:sW) (K:R7) (mg:oR) (base:yk) (N:qx va) (qual:va) (scope:A3) (f:qA) (cd:qT) (A:uc) (outer:qx Env) (s:rK) (H:Hp) (E:XK):Cx where
 prog:=P
 w:=w
 K:=K
 mg:=mg
 base:=base
 A:=A.deeper (DU qual scope s.heap.objs.size f cd)
 N:=N
 s₀:=s
 H₀:=H
 env:=DU qual scope s.heap.objs.size f cd
 outer:=outer
 stack:=DU qual scope s.heap.objs.size f cd::outer
 ex:=[]
 calm:=true
 fn:=λ_=>true
 pn:=[]
 xe:=λe s'=>xA (model P w) (A.deeper (DU qual scope s.heap.objs.size f cd)) (leaving (DU qual scope s.heap.objs.size f cd) e) (λ_ s''=>CX outer H s E e s'') (λe' s''=>CX outer H s E e' s'') s'
theorem yH {sc:A3}{n:u6}{x:va}(h:sc.names.lookup x=some .cell): ∃c,(cellsFrom n sc.names []).lookup x=some c:=by
 have q:=Vx sc.names n []<|.inl h;show Qj.mp q
variable{N:qx va}{scope:A3}
theorem Dj {qual:va}{cd:qT}{s1:rK}{E:XK}{vs:qx V} (S:gB N ps scope) (hd:A.handled=none) (e0:rM P w K mg base A outer s H) (hl:vs.length=ps.length) (r:Vals vs us)
  (x:InCallC s s.heap.objs.size (bindL (DU qual scope s.heap.objs.size f cd).kindOf (ps.zip us) λ_=>none) (cellsFrom (s.heap.objs.size+1) scope.names []) (bindC (DU qual scope s.heap.objs.size f cd).kindOf (ps.zip us) λ_=>none) s1) :
  Inv (iX CX P w K mg base N qual scope f cd A outer s H E) [] (start N vs) H s1:=by
 have hpl:ps.length<=N.length:=by have:=OI Dl S.pre; rw[Oi] at this; lia
 obtain⟨h1,tk,rfl,hk⟩:=x.done;have noA: ∀b:qA,b∉(iX CX P w K mg base N qual scope f cd A outer s H E).ex:=λb z=>wz (show b∈([]:qx qA) from z) uD;show⟨⟨e0.mod,S.kind,Z,Z,N0 _,λy z c h1 h2=>?_,λy hy=>?_,λy c _ h=>?_,λ_=>hd,Around.frames_deeper e0.frames,.inr ⟨Z,Z⟩,λb z=>wz z (noA b),e0.bs,e0.bsz,λb _ _=>noA b,λb z=>wz z (noA b),e0.fF,e0.frf⟩,
  rfl,e0.bare,Un.kept hk,⟨_,x.toInCall.ns,λi y v h1 h2 h3=>?_⟩,λy c h=>⟨_,x.cell y c h⟩,e0.hok.fresh (N0 _),λy c h=>?_,λp hp=>wz (show p∈([]:nE) from hp) uD,e0.hok.kept hk,?_⟩
 .exact name_of_addr x.apart (Ql h1)<|Ql h2
 .have hy:scope.names.lookup y=some .cell\/scope.names.lookup y=some .free:=hy;rcases hy with hy | hy
  .exact yH hy
  .exact wz rfl<|S.nofree _<|Ql hy
 .exact OA<|x.above y c<|Ql h
 .have hi:i < vs.length:=by
   unfold start at h2;by_cases hi:i < vs.length;.exact hi
   .rw[O9 (by simpa using hi)] at h2;rw[QS] at h2;split at h2 <;> cases h2
  have ha:vs[i]?=some v:=by
   unfold start at h2;rw[O1 (by simpa using hi),N7] at h2;cases e:vs[i]? with
   | none=>rw[e] at h2; cases h2
   | some a=>rw[e] at h2; cases h2; rfl
  obtain⟨u,hu,rv⟩:=r.get ha;have hp:ps[i]?=some y:=by
   rw[<-S.pre,List.getElem?_take_of_lt Y]; show h1
  have ndP:ps.Nodup:=by rw[<-S.pre]; show S.nd.sublist<|List.take_sublist _ _
  erw[u,rv,?_];rcases S.par y (NU hp) with k | k
  .exact .inl ⟨k,vh ndP hp hu k⟩
  .obtain⟨c,e⟩:=yH (n:=s.heap.objs.size+1) k;show .inr ⟨.inl k,c,e,?_⟩;have q:=x.cell y c e;rw[vp ndP hp hu (by change scope.names.lookup y≠_; rw[k]; decide)] at q;show q
 .exact e0.hok.fresh<|OA<|x.above y c<|Ql h
 .unfold start;change _=N.length;rw[N1,NR,O4];lia
theorem BW {k:u6}{name qual:va}{params:Arguments}{body:qx zc}{dV kV doc pm cdv ct oc:qT}{an od:rW qA} {osl:zR (rW qT)}{sp:Sp} (lk:K.lookup f=some ⟨oc,od,.func (B0 name qual params body scope dV kV doc pm an cdv ct),osl⟩) (hcd:Ge K cdv qual=true) (S:gB N ps scope)
  (len: ∀vs H Q E,sp vs H Q E->vs.length=ps.length)
  (hbody: ∀(A:uc) (outer:qx Env) (s:rK) (H:Hp) (vs:qx V) (Q:VK) (E:XK),b7 k (A.deeper (DU qual scope s.heap.objs.size f cdv))->sp vs H Q E ->
   ∃t,Sz (iX CX P w K mg base N qual scope f cdv A outer s H E) body t/\t { nx:=λ_ H'=>Q .non H',rt:=Q } (start N vs) H) :
  eP P w K mg base CX (k+1) f (B0 name qual params body scope dV kV doc pm an cdv ct) ps sp:=by
 erw[len,λA outer s H args us vs Q E hr e0 hb r hsp=>?_];have hl:=len _ _ _ _ hsp;have KX:K.In s.heap:=e0.mod.kin.keeps λb o e=>(e0.bs b o e).1;have lim:s.heap.NoLimit:=e0.mod.nolimit.keeps λb o e=>(e0.bs b o e).1;have hkind: ∀y∈ps.zip us,scope.names.lookup y.1=some .local\/(scope.names.lookup y.1=some .cell/\((cellsFrom (s.heap.objs.size+1) scope.names []).lookup y.1).isSome=true):=λ⟨n,v⟩ hy=>by
  rcases S.par n (QI hy).1 with q | q
  .exact .inl q
  .exact .inr ⟨q,Vx _ _ _<|.inl q⟩
 show codeAny_call_function hr.depth (KX _ _ lk) rfl S.co S.gen rfl (PySem.W.codeRec_of KX hcd)<|hb _ _ _ _ ?_;show wpAny_newFunctionEnv_cells S.kind hkind λenv he s1 x=>?_;subst he;erw[lim.keeps x.toInCall.keep,codeAny_func ?_];obtain⟨t,ht,hq⟩:=hbody A outer s H vs Q E (hr.deeper _) hsp;have I:Inv (iX CX P w K mg base N qual scope f cdv A outer s H E) [] (start N vs) H s1:=Dj S hr.hd e0 hl r x;show Pa (ht [] s1 (start N vs) H _ I hq) (λfl s' hs=>?_) λe s' hs=>hs;have fin: ∀ {O':St}{H':Hp}{v:V}{u:qT},Inv (iX CX P w K mg base N qual scope f cdv A outer s H E) [] O' H' s'->RelV v u->Q v H'->CE outer P w H s Q u s' :=
  λ{O' H' v u} J rv q=>⟨v,H',J.os,J.bare,J.base,J.hok,rv,q⟩
 cases fl with
 | ret u =>
  obtain⟨v,O',H',J,rv,q⟩:=hs;show fin J rv q
 | next =>
  obtain⟨O',H',J,q⟩:=hs;show fin (v:=V.non) (u:=A4) J rfl q
 | brk =>
  obtain⟨_,_,_,q⟩:=hs;show Ba q
 | cont =>
  obtain⟨_,_,_,q⟩:=hs;show Ba q
section
variable {X:Cx}{x:va}{p pos:Pos}{e:tW}{es:qx tW}{t:TA}{id T:BP}{r:qx V->Hp->VK->Prop}
def Us (r:qx V->Hp->VK->Prop) (t:TA):TE:=λO H Q=>t O H λvs H1=>r vs H1 Q
theorem bR (hc:cJ X (.builtin id) r) (hg:Gl X x) (hm:X.mg x=none) (hv:zt x=some (.builtin id)) (ha:PA X (e::es) t) (hn:x≠ "__name__" := by decide) (hdb:DB x:=by decide)
  (he:SE X e es:=by rfl) (hpl:BK X pos es:=by rfl):PE X (.Call (.Name x p) (e::es) [] pos) (Us r t):=by
 intro R1 s O H Q I h;show P5<|lj I hg hm hv ?_ hn hdb;show Wt (Sf (ha pos R1 s O H _ I h) λus s1 ⟨vs,H1,I1,r1,q1⟩=>hc R1 s1 O H1 vs us Q I1 r1 q1) he hpl
theorem bC (hc:cJ X (.type T) r) (hg:Gl X x) (hm:X.mg x=none) (hv:zt x=some (.type T)) (ha:PA X (e::es) t) (hn:x≠ "__name__" := by decide) (hdb:DB x:=by decide)
  (he:SE X e es:=by rfl) (hpl:BK X pos es:=by rfl):PE X (.Call (.Name x p) (e::es) [] pos) (Us r t):=by
 intro R1 s O H Q I h;show P5<|lj I hg hm hv ?_ hn hdb;show P1 (Sf (ha pos R1 s O H _ I h) λus s1 ⟨vs,H1,I1,r1,q1⟩=>hc R1 s1 O H1 vs us Q I1 r1 q1) he hpl
end
end L2
namespace HT
open PySem PyProof.Rows
def lexLt:qx u7->qx u7->yW
 | [],[]=>false
 | [],_::_=>true
 | _::_,[]=>false
 | x::xs,y::ys=>if x=y then lexLt xs ys else decide (x < y)
section
open PySem.SeqAt
open PySem.AutoSeq1 (wpAny_loadPart')
open PySem.MeetsSeq PySem.MeetsSeq2 PySem.MeetsSeq3
end
section
variable {prog:tq}{w:sW}{A:uc}{E:oF}{s:rK}
def Sr (n d:u6):rW u7->u6
 | none=>d
 | some v=>if v < 0 then (v+(n:u7)).toNat else min v.toNat n
theorem Av (n d k:u6):Sr n d (some (k:u7))=min k n:=by
 change (if (k:u7) < 0 then ((k:u7)+(n:u7)).toNat else min (k:u7).toNat n)=min k n;rw[NS Y,Oa]
theorem DT (n d:u6) (hd:d<=n) (o:rW u7):Sr n d o<=n:=by
 cases o with
 | none=>show hd
 | some v =>
  change (if v < 0 then (v+(n:u7)).toNat else min v.toNat n)<=n;by_cases hv:v < 0;.rw[NW hv]; lia
  .rw[NS hv]; show RP _ _
end
end HT
namespace L2
open PySem PySem.Spec PyProof.Rows
abbrev TO:=St->Hp->(rW u7->Hp->Prop)->Prop
def PO (X:Cx) (e:rW tW) (t:TO):Prop :=
 ∀(R1:nE) (s:rK) (O:St) (H:Hp) (Q:rW u7->Hp->Prop),Inv X R1 O H s->t O H Q ->
  xA (model X.prog X.w) X.A (evalPart e X.env) (λu s'=> ∃o H',Inv X R1 O H' s'/\IsPart u o/\Q o H') X.xe s
def Jt:TO:=λ_ H Q=>Q none H
inductive KN (Q:rW u7->Hp->Prop) (x:V) (H1:Hp):Prop | mk (i:_) (e0:x= .int i) (q:Q (some i) H1)
def Lw (t:TE):TO:=λO H Q=>t O H λx H1=>KN Q x H1
theorem intsAre_of {ns:qx u7}: ∀ {us:qx qT},Vals (ns.map V.int) us->Vn us ns:=by
 induction ns with
 | nil=>intro us r; rw[Rl] at r; cases r; show .nil
 | cons n ns ih =>
  intro us r;rw[OH] at r;cases r with
  | cons r1 r2 =>
   obtain⟨t,e⟩:=r1;subst e;show .cons n t<|ih r2
section
variable {X:Cx}{e:tW}{te:TE}{lo hi:rW tW}{tl th:TO}{pos p2:Pos}
theorem eD:PO X none Jt:=by
 intro R1 s O H Q I h;rw[evalPart_none];show OB ⟨none,H,I,.none,h⟩
theorem eE (h:PE X e te):PO X (some e) (Lw te):=by
 intro R1 s O H Q I hw;rw[evalPart_some];show Sf (h R1 s O H _ I hw) λu s1 ⟨x,H1,I1,r1,q1⟩=>?_;obtain⟨i,rfl,q⟩:=q1;obtain⟨t,rfl⟩:=r1;erw[some i,H1,I1,.int i t,q]
def Uc (X:Cx) (r:V->rW u7->rW u7->Hp->VK->Prop):Prop :=
 ∀(R1:nE) (s:rK) (O:St) (H:Hp) (x:V) (v vl vu:qT) (lo hi:rW u7) (sl:qA) (Q:VK),Inv X R1 O H s->RelV x v->s.heap.IsSliceOf sl vl vu .none->IsPart vl lo->IsPart vu hi->r x lo hi H Q ->
  ∃T id,typeLookup (.type T) "__getitem__" = pure (some (.builtin id))/\s.TypeIs v T/\xA (model X.prog X.w) X.A (getItem v (.ref sl)) (EP X R1 O Q) X.xe s
def UH (r:V->rW u7->rW u7->Hp->VK->Prop) (te:TE) (tl th:TO):TE:=λO H Q=>te O H λx H1=>tl O H1 λl H2=>th O H2 λu H3=>r x l u H3 Q
theorem dC {r:V->rW u7->rW u7->Hp->VK->Prop}(hr:Uc X r) (he:PE X e te) (hl:PO X lo tl) (hu:PO X hi th):PE X (.Subscript e (.Slice lo hi none p2) pos) (UH r te tl th):=by
 intro R1 s O H Q I h;show Subscript_<|Sf (he R1 s O H _ I h) λv s1 ⟨x,H1,I1,r1,q1⟩=>?_;show wpAny_Slice<|Sf (hl R1 s1 O H1 _ I1 q1) λvl s2 ⟨l,H2,I2,pl,q2⟩=>Sf (hu R1 s2 O H2 _ I2 q2) λvu s3 ⟨u,H3,I3,pu,q3⟩=>?_;rw[evalPart_none];show OB ?_;have I4:Inv X R1 O H3 { s3 with heap:=s3.heap.push { cls:= .type "slice",data:= .fields #[vl,vu,.none] } }:=I3.kept (t':=s3.toks) λb ob q=>N3 _ q;obtain⟨T,id,hT,ht,hg⟩:=hr R1 { s3 with heap:=s3.heap.push { cls:= .type "slice",data:= .fields #[vl,vu,.none] } } O H3 x v vl vu l u s3.heap.objs.size Q I4 r1 (XJ ..) pl pu q3;change xA (model X.prog X.w) X.A (subscriptTail e (.Slice lo hi none p2) v<|.ref s3.heap.objs.size) (EP X R1 O Q) X.xe { s3 with heap:=s3.heap.push { cls:= .type "slice",data:= .fields #[vl,vu,.none] } };show tail_any (ops:=[.ref s3.heap.objs.size,v]) ht hT hg (by with_unfolding_all rfl)
def lx (xs:qx V) (lo hi:rW u7):qx V:=(xs.drop (HT.Sr xs.length 0 lo)).take (HT.Sr xs.length xs.length hi - HT.Sr xs.length 0 lo)
theorem y4 (xs:qx V) (lo hi:rW u7):(lx xs lo hi).length<=xs.length:=by
 unfold lx;rw[Oi,OY];lia
inductive Nv (K:R7) (x:V) (lo hi:rW u7) (H:Hp) (Q:VK):Prop | mk (a xs:_) (e0:x= .ref a) (e1:Se K H a xs) (e2: ¬(HT.Sr xs.length 0 lo=0/\HT.Sr xs.length xs.length hi=xs.length)) (q: ∀p,H p=none->Q (.ref p) (upd H p (.tup (lx xs lo hi))))
inductive Ny (K:R7) (x y:V) (H:Hp) (Q:VK):Prop | mk (a b ns ms:_) (e0:x= .ref a) (e1:y= .ref b) (e2:Se K H a (ns.map V.int)) (e3:Se K H b (ms.map V.int)) (q:Q (.bl (HT.lexLt ns ms)) H)
inductive Nn (K:R7) (x y:V) (H:Hp) (Q:VK):Prop | mk (a b xs ys:_) (e0:x= .ref a) (e1:y= .ref b) (e2:Se K H a xs) (e3:Se K H b ys) (e4:xs≠[]) (e5:xs.length+ys.length<=sizeLine) (e6:(ys=[]->Q (.ref a) H)) (q:(ys≠[]-> ∀p,H p=none->Q (.ref p) (upd H p (.tup (xs++ys)))))
end
def Ta (n:u6) (i:u7):rW u6:=if 0<=i then (if i < n then some i.toNat else none) else if -(n:u7)<=i then some (i+n).toNat else none
def Si {α:Type}(xs:qx α) (i:u7):rW α:=(Ta xs.length i).bind λj=>xs[j]?
theorem Ao {n:u6}{i:u7}{j:u6}(h:Ta n i=some j):seqIndex? i n=some j/\j < n/\ -(n:u7)<=i/\i < n:=by
 unfold Ta at h;by_cases h0:0<=i
 .rw[NW h0] at h;by_cases h1:i < n
  .rw[NW h1] at h;have e:i.toNat=j:=Oj h;erw[by rw[seqIndex_of h0 h1,e],Y,Y,h1]
  .rw[NS h1] at h; cases h
 .rw[NS h0] at h;by_cases h1: -(n:u7)<=i
  .rw[NW h1] at h;have e:(i+n).toNat=j:=Oj h;erw[by rw[seqIndex_neg Y h1,e],Y,h1,Y]
  .rw[NS h1] at h; cases h
theorem ue {α:Type}{xs:qx α}{i:u7}{v:α}(h:Si xs i=some v): ∃j,seqIndex? i xs.length=some j/\xs[j]?=some v/\j < xs.length/\ -(xs.length:u7)<=i/\i < xs.length:=by
 unfold Si at h;cases e:Ta xs.length i with
 | none=>rw[e] at h; cases h
 | some j =>
  rw[e] at h;obtain⟨h1,h2,h3,h4⟩:=Ao e;erw[j,h1,h,h2,h3,h4]
theorem aU {α:Type}{xs:qx α}{j:u6}{v:α}(h:xs[j]?=some v):Si xs (j:u7)=some v:=by
 have hj:j < xs.length:=(NX.mp h).1;have e:Ta xs.length (j:u7)=some j:=by
  unfold Ta;rw[NW Y,NW Y]; simp
 unfold Si; rw[e]; show h
def vf (b:tW):Prop:= ∀o i,subscripted b false o i=operate [o,i] (getItem o i)
def Ue (X:Cx) (r:R2):Prop :=
 ∀(value slice:tW) (R1:nE) (s:rK) (O:St) (H:Hp) (x y:V) (v u:qT) (Q:VK),Inv X R1 O H s->RelV x v->RelV y u->r x y H Q ->
  subscripted slice false v u=operate [v,u] (getItem v u)->xA (model X.prog X.w) X.A (subscriptTail value slice v u) (EP X R1 O Q) X.xe s
def TZ (X:Cx) (id:BP) (r:V->qx V->Hp->VK->Prop):Prop :=
 ∀(R1:nE) (s:rK) (O:St) (H:Hp) (x:V) (xs:qx V) (v:qT) (us:qx qT) (Q:VK),Inv X R1 O H s->RelV x v->Vals xs us->r x xs H Q ->
  xA (model X.prog X.w) X.A (call (.builtin id) (v::us)) (EP X R1 O Q) X.xe s
section
variable {X:Cx}{a b:tW}{ta tb:TE}{pos:Pos}
theorem tK {r:R2}(hr:Ue X r) (ha:PE X a ta) (hb:PE X b tb) (hs:vf b):PE X (.Subscript a b pos) (S6 r ta tb):=by
 intro R1 s O H Q I h;show Subscript_<|Gj ha hb I h λv u s2 x y H2 I2 rx ry q=>hr a b R1 s2 O H2 x y v u Q I2 rx ry q<|hs _ _
inductive Lp (K:R7) (x y:V) (H:Hp) (Q:VK):Prop | mk (p xs i v:_) (e0:x= .ref p) (e1:y= .int i) (e2:R5 K H p xs) (e3:Si xs i=some v) (q:Q v H)
def Gx (K:R7):R2:=λx y H Q=>Lp K x y H Q
inductive Mi (K:R7) (x y:V) (H:Hp) (Q:VK):Prop | mk (p xs i v:_) (e0:x= .ref p) (e1:y= .int i) (e2:Se K H p xs) (e3:Si xs i=some v) (q:Q v H)
def Cp (K:R7):R2:=λx y H Q=>Mi K x y H Q
inductive Ma (x y:V) (H:Hp) (Q:VK):Prop | mk (z i c:_) (e0:x= .str z) (e1:y= .int i) (e2:z.length<=sizeLine) (e3:Si z.cps.toList i=some c) (q:Q (.str ⟨#[c]⟩) H)
def M4:R2:=λx y H Q=>Ma x y H Q
theorem IE:Ue X (Gx X.K):=by
 intro value slice R1 s O H x y v u Q I rx ry h hs;obtain⟨p,xs,i,z,rfl,rfl,hq,he,q⟩:=h;cases rx;obtain⟨t,rfl⟩:=ry;obtain⟨its,r,pl,hz⟩:=I.list hq;obtain⟨j,h1,h2,h3,h4,h5⟩:=ue he;obtain⟨w,ew,rw'⟩:=r.get h2;have hl:=r.length;have hn:=mD;have fin:EP X R1 O Q w s:=⟨z,H,I,rw',q⟩
 by_cases h0:0<=i
 .have hj:i.toNat=j:=by
   rw[seqIndex_of h0 h5] at h1;show Oj h1
  show item_listR pl.isList h0 Y (by rw[hj]; simpa using ew) fin hs
 .have hj:(i+(its.toArray.size:u7)).toNat=j:=by
   rw[seqIndex_neg Y h4] at h1;rw[Og,<-hl];show Oj h1
  show subscriptTail_builtinR (x:=w) pl.isList.typeIs slot_list_getitem.lookup
   (wpAny_getItem_list_neg (Q:=λr s'=>r=w/\EP X R1 O Q r s') pl.isList Y (by rw[Og] <;> lia) Y (by rw[hj]; simpa using ew) ⟨Z,fin⟩) hs
theorem JK:Ue X (Cp X.K):=by
 intro value slice R1 s O H x y v u Q I rx ry h hs;obtain⟨p,xs,i,z,rfl,rfl,hq,he,q⟩:=h;cases rx;obtain⟨t,rfl⟩:=ry;obtain⟨its,r,pl,hz⟩:=I.tuple hq;obtain⟨j,h1,h2,h3,h4,h5⟩:=ue he;obtain⟨w,ew,rw'⟩:=r.get h2;have hl:=r.length;have hn:=mD;have fin:EP X R1 O Q w s:=⟨z,H,I,rw',q⟩
 show subscriptTail_builtinR (x:=w) pl.typeIs slot_tuple_getitem.lookup
  (getItem_tuple (j:=j) (Q:=λr s'=>r=w/\EP X R1 O Q r s') pl Y Y (by rw[Og,<-hl]; show h1) (by simpa using ew) ⟨Z,fin⟩) hs
theorem yJ:Ue X M4:=by
 intro value slice R1 s O H x y v u Q I rx ry h hs;obtain⟨z,i,c,rfl,rfl,hz,he,q⟩:=h;obtain⟨t,rfl⟩:=rx;obtain⟨t',rfl⟩:=ry;obtain⟨j,h1,h2,h3,h4,h5⟩:=ue he;have hl:z.cps.toList.length=z.length:=by simp[zO]
 rw[hl] at h1 h4 h5;have hn:=mD;show tail_any (Rr s z t) slot_str_getitem.lookup (getItem_str (c:=c) (by
  have e1:decide (i < -(2 ^ 63:u7))=false:=N8 Y;have e2:decide (i>=2 ^ 63)=false:=N8 Y;rw[e1,e2,Bool.or_false]) (by rw[h1]; simpa using h2) ⟨.str ⟨#[c]⟩,H,I.tok _,⟨_,Z⟩,q⟩) hs
theorem Cd (its:qx qT) (n j:u6) (u:qT):C4 (·.setIfInBounds j u) { cls:= .type "list",data:= .seq its.toArray n }={ cls:= .type "list",data:= .seq (its.set j u).toArray n }:=by
 simp[C4]
variable{R1:nE}{O:St}{H:Hp}{s:rK}{xs:qx V}
theorem Inv.lst {p:qA}(I:Inv X R1 O H s) (h:H p=some (.lst xs)) :
  ∃(its:qx qT) (n:u6),Vals xs its/\s.heap.get? p=some { cls:= .type "list",data:= .seq its.toArray n }/\xs.length<=sizeLine:=by
 obtain⟨z,its,n,r,e⟩:=I.hok p _ h;erw[its,n,r,e,z]
theorem Inv.JU {p:qA}{ys:qx V}{its its':qx qT}{n n':u6}{f:Obj->Obj}(I:Inv X R1 O H s) (h:H p=some (.lst xs))
  (ho:s.heap.get? p=some { cls:= .type "list",data:= .seq its.toArray n }) (hf:f { cls:= .type "list",data:= .seq its.toArray n }={ cls:= .type "list",data:= .seq its'.toArray n' }) (r:Vals ys its') (hz:ys.length<=sizeLine) (t:u6) :
  Inv X R1 O (upd H p (.lst ys)) { s with heap:=s.heap.update p f,toks:=t }:=by
 have e:(s.heap.update p f).get? p=some { cls:= .type "list",data:= .seq its'.toArray n' }:=by
  rw[PK f ho (by rw[hf] <;> rfl),hf]
 show I.write (x:=p) (e:=p) (by rw[h]; trivial) (.inl rfl) (λb u hb q=>(OZ _ _<|Ox hb).trans q) ⟨_,e⟩ ?_;erw[hz,its',n',r,e]
inductive K6 (o i v:V) (H:Hp) (Q:Hp->Prop):Prop | mk (p xs k j:_) (e0:o= .ref p) (e1:i= .int k) (e2:H p=some (.lst xs)) (e3:Ta xs.length k=some j) (q:Q (upd H p (.lst (xs.set j v))))
def Ly:V->V->V->Hp->(Hp->Prop)->Prop:=λo i v H Q=>K6 o i v H Q
theorem set_list:J5 X Ly:=by
 intro R1 s O H o i v ov iv u Q I ro ri rv h;obtain⟨p,xs,k,j,rfl,rfl,hp,hj,q⟩:=h;cases ro;obtain⟨t,rfl⟩:=ri;obtain⟨its,n,r,ho,hz⟩:=I.lst hp;obtain⟨h1,h2,h3,h4⟩:=Ao hj;have hl:=r.length;have hn:=mD;have I':Inv X R1 O (upd H p<|.lst<|xs.set j v) { s with heap:=s.heap.update p (C4 (·.setIfInBounds j u)) } :=
  I.JU hp ho (Cd its n j u) (r.set rv j) (by rw[P8]; show hz) s.toks
 by_cases h0:0<=k
 .have hk:k.toNat=j:=by
   rw[seqIndex_of h0 h4] at h1;show Oj h1
  show PySem.W.ki_setAt ho h0 Y (by rw[Og,<-hl]; show h4) (by rw[hk]; exact⟨_,I',q⟩)
 .have hk:(k+(its.toArray.size:u7)).toNat=j:=by
   rw[seqIndex_neg Y h3] at h1;rw[Og,<-hl];show Oj h1
  show PySem.W.ki_setBack ho Y (by rw[Og,<-hl]; show h3) Y (by rw[hk]; exact⟨_,I',q⟩)
theorem xV (lo hi:rW u7) (n:u6):(sliceBounds lo hi none n).1=((HT.Sr n 0 lo:u6):u7)/\(sliceBounds lo hi none n).2.1=((HT.Sr n n hi:u6):u7)/\(sliceBounds lo hi none n).2.2=1:=by
 have e: ∀d (o:rW u7),o.elim d (clipAt n)=HT.Sr n d o:=λd o=>by
  cases o with
  | none=>rfl
  | some i =>
   change (max 0 (min (if i < 0 then i+n else i) n)).toNat=if i < 0 then (i+n).toNat else min i.toNat n;by_cases c:i < 0
   .rw[NW c,NW c,Int.min_eq_left Y,Int.max_def];split;.rfl
    .exact (Int.toNat_of_nonpos<|Xe<|Int.not_le.mp (by assumption)).symm
   .obtain⟨k,rfl⟩:=Qn<|XA.mp c;rw[NS c,NS c,Int.max_eq_right<|Int.le_min.mpr ⟨XA.mp c,QN n⟩];rw[Int.min_def,Nat.min_def];split;.rw[NW<|Xf.mp (by assumption)]
    .rw[NS λz=>wz (Xf.mpr z) (by assumption)];rfl
 rw[sliceBounds_plain,e,e];erw[Z,Z,Z]
theorem wq (its:qx qT) (lo hi:rW u7):slicePick its.toArray lo hi none=((its.drop (HT.Sr its.length 0 lo)).take (HT.Sr its.length its.length hi - HT.Sr its.length 0 lo)).toArray:=by
 obtain⟨h1,h2,h3⟩:=xV lo hi its.toArray.size;unfold slicePick;rw[h1,h2,h3];simp only[sliceRange_one,pick_run,Og] <;> rfl
inductive L6 (K:R7) (x:V) (lo hi:rW u7) (H:Hp) (Q:VK):Prop | mk (a xs:_) (e0:x= .ref a) (e1:R5 K H a xs) (q: ∀p,H p=none->Q (.ref p) (upd H p (.lst (lx xs lo hi))))
def KY (K:R7):V->rW u7->rW u7->Hp->VK->Prop:=λx lo hi H Q=>L6 K x lo hi H Q
theorem Jj:Uc X (KY X.K):=by
 intro R1 s O H x v vl vu lo hi sl Q I rx hs pl pu h;obtain⟨a,xs,rfl,hx,q⟩:=h;cases rx;obtain⟨its,r,ht,hz⟩:=I.list hx;have hlen:=r.length;erw["list",_,slot_list_getitem.lookup,ht.isList.typeIs,?_];show wpAny_getItem_list_slice ht.isList hs pl pu .none uD ?_ (by rw[Og] <;> lia);rw[wq,<-hlen];erw[.ref s.heap.objs.size,_,I.laid (t':=s.toks) (o:= .lst<|lx xs lo hi) (λb ob q=>N3 _ q) (N0 _) ?_,Z,q _<|I.hok.fresh<|N0 _];erw[Ob (y4 xs lo hi) hz,_,0,(r.drop<|HT.Sr xs.length 0 lo).take<|HT.Sr xs.length xs.length hi - HT.Sr xs.length 0 lo,OD _ rfl]
def c6:V->yW
 | .non=>true
 | .bl _=>true
 | .int _=>true
 | .str _=>true
 | _=>false
def Th:V->V->yW
 | .non,.non=>true
 | .bl a,.bl b=>a == b
 | .bl a,.int b=>(if a then 1 else 0) == b
 | .int a,.bl b=>a == (if b then 1 else 0)
 | .int a,.int b=>a == b
 | .str a,.str b=>a == b
 | _,_=>false
variable{v:qT}
theorem JN {A:uc}{y x:V}{u:qT}(ry:RelV y u) (rx:RelV x v) (fy:c6 y=true) (fx:c6 x=true):XB A s u v (Th y x):=by
 cases y with
 | non =>
  cases ry;cases x with
  | non=>cases rx; show SeqAt.EqAt.same _
  | bl b=>cases rx; show SeqAt.EqAt.none_bool b
  | int b=>obtain⟨t,rfl⟩:=rx; show SeqAt.EqAt.none_int b t
  | str b=>obtain⟨t,rfl⟩:=rx; show SeqAt.EqAt.none_str b t
  | _=>show wz (show false=true from fx) Ol
 | bl a =>
  cases ry;cases x with
  | non=>cases rx; show SeqAt.EqAt.bool_none a
  | bl b=>cases rx; show SeqAt.EqAt.bool_bool a b
  | int b=>obtain⟨t,rfl⟩:=rx; show SeqAt.EqAt.bool_int a b t
  | str b=>obtain⟨t,rfl⟩:=rx; show SeqAt.EqAt.bool_str a b t
  | _=>show wz (show false=true from fx) Ol
 | int a =>
  obtain⟨t',rfl⟩:=ry;cases x with
  | non=>cases rx; show SeqAt.EqAt.int_none a t'
  | bl b=>cases rx; show SeqAt.EqAt.int_bool a t' b
  | int b=>obtain⟨t,rfl⟩:=rx; show V5 a t' b t
  | str b=>obtain⟨t,rfl⟩:=rx; show VX a t' b t
  | _=>show wz (show false=true from fx) Ol
 | str a =>
  obtain⟨t',rfl⟩:=ry;cases x with
  | non=>cases rx; show SeqAt.EqAt.str_none a t'
  | bl b=>cases rx; show SeqAt.EqAt.str_bool a t' b
  | int b=>obtain⟨t,rfl⟩:=rx; show VY a t' b t
  | str b=>obtain⟨t,rfl⟩:=rx; show RE a t' b t
  | _=>show wz (show false=true from fx) Ol
 | _=>show wz (show false=true from fy) Ol
def S7 (x:V) (u:qT):yW:=match u with
 | .none=>Th .non x
 | .bool b=>Th (.bl b) x
 | .int i _=>Th (.int i) x
 | .str z _=>Th (.str z) x
 | _=>false
theorem EK {x y:V}{u:qT}(r:RelV y u) (f:c6 y=true):S7 x u=Th y x:=by
 cases y with
 | non=>cases r; rfl
 | bl b=>cases r; rfl
 | int i=>obtain⟨t,rfl⟩:=r; rfl
 | str z=>obtain⟨t,rfl⟩:=r; rfl
 | _=>show wz (show false=true from f) Ol
theorem mH {x:V}: ∀ {xs:qx V}{us:qx qT},Vals xs us->xs.all c6=true->us.any (S7 x)=xs.any λy=>Th y x
 | _,_,.nil,_=>rfl
 | y::xs,u::us,.cons r t,f=>by
  rw[RL,Oz] at f;rw[PD,PD,EK r f.1,mH t f.2]
theorem kX {A:uc}{x:V}(rx:RelV x v) (fx:c6 x=true): ∀ {xs:qx V}{us:qx qT},Vals xs us->xs.all c6=true-> ∀u∈us,XB A s u v (S7 x u)
 | _,_,.nil,_=>λu hu=>by cases hu
 | y::xs,u::us,.cons r t,f=>λu' hu=>by
  rw[RL,Oz] at f;rcases N5.mp hu with rfl | hu
  .rw[EK r f.1]; show JN r rx f.1 fx
  .exact kX rx fx t f.2 u' hu
def Sq (x:V) (xs:qx V):yW:=xs.any λy=>Th y x
inductive MH (K:R7) (neg:yW) (x y:V) (H:Hp) (Q:VK):Prop | mk (p xs:_) (e0:y= .ref p) (e1:(R5 K H p xs\/Se K H p xs)) (e2:c6 x=true) (e3:xs.all c6=true) (q:Q (.bl (if neg then !Sq x xs else Sq x xs)) H)
def T6 (K:R7) (neg:yW):R2:=λx y H Q=>MH K neg x y H Q
theorem Dy:So X (zm .In) (T6 X.K false):=by
 intro R1 s O H x y v u Q I rx ry h;obtain⟨p,xs,rfl,hq,fx,fs,q⟩:=h;cases ry;rcases hq with hq | hq
 .obtain⟨its,r,pl,hz⟩:=I.list hq;show SeqAt.in_listAt (S7 x) pl.isList (λw hw=>kX rx fx r fs w (by simpa using hw)) ⟨.bl _,H,I,Z,?_⟩;rw[show its.toArray.any (S7 x)=its.any (S7 x) by simp,mH r fs];show q
 .obtain⟨its,r,pl,hz⟩:=I.tuple hq;show SeqAt.in_tupleAt (S7 x) pl (λw hw=>kX rx fx r fs w (by simpa using hw)) ⟨.bl _,H,I,Z,?_⟩;rw[show its.toArray.any (S7 x)=its.any (S7 x) by simp,mH r fs];show q
theorem ym:So X (zm .NotIn) (T6 X.K true):=by
 intro R1 s O H x y v u Q I rx ry h;obtain⟨p,xs,rfl,hq,fx,fs,q⟩:=h;cases ry;rcases hq with hq | hq
 .obtain⟨its,r,pl,hz⟩:=I.list hq;show SeqAt.notIn_listAt (S7 x) pl.isList (λw hw=>kX rx fx r fs w (by simpa using hw)) ⟨.bl _,H,I,Z,?_⟩;rw[show its.toArray.any (S7 x)=its.any (S7 x) by simp,mH r fs];show q
 .obtain⟨its,r,pl,hz⟩:=I.tuple hq;show SeqAt.notIn_tupleAt (S7 x) pl (λw hw=>kX rx fx r fs w (by simpa using hw)) ⟨.bl _,H,I,Z,?_⟩;rw[show its.toArray.any (S7 x)=its.any (S7 x) by simp,mH r fs];show q
theorem yx:cJ X (.type "list") (λxs H Q=> ∃p ys,xs=[.ref p]/\(R5 X.K H p ys\/Se X.K H p ys)/\ ∀l,H l=none->Q (.ref l) (upd H l (.lst ys))):=by
 intro R1 s O H xs us Q I r h;obtain⟨p,ys,rfl,hq,q⟩:=h;obtain⟨u,rfl,rx⟩:=vals1 r;cases rx;have fin: ∀(its:qx qT),Vals ys its->ys.length<=sizeLine-> ∀(h':yk) (c':u6),(∀b o',s.heap.get? b=some o'->h'.get? b=some o') ->
   h'.get? s.heap.objs.size=some { cls:= .type "list",dict:=none,data:= .seq its.toArray c',slots:= #[] }->EP X R1 O Q (.ref s.heap.objs.size) { s with heap:=h' }:=λits r' hz h' c' kp e =>
  ⟨.ref s.heap.objs.size,_,I.laid (t':=s.toks) kp (N0 _) (show dq X.prog X.w _ h' _ (.lst ys) from ⟨hz,its,c',r',e⟩),Z,q _ (I.hok.fresh (N0 _))⟩
 rcases hq with hq | hq
 .obtain⟨its,r',pl,hz⟩:=I.list hq;have hlen:=r'.length;obtain⟨o,ho,hc,n,hd⟩:=pl.isList;show call_list_seq p (.inl rfl) ho hc hd (λh' c' kp e=>fin its r' hz h' c' kp e) (by simp only[Og] <;> lia)
 .obtain⟨its,r',pl,hz⟩:=I.tuple hq;have hlen:=r'.length;obtain⟨o,ho,hc,n,hd⟩:=pl;show call_list_seq p (.inr rfl) ho hc hd (λh' c' kp e=>fin its r' hz h' c' kp e) (by simp only[Og] <;> lia)
theorem wt:cJ X (.type "tuple") (λxs H Q=> ∃p ys,xs=[.ref p]/\((R5 X.K H p ys/\ ∀l,H l=none->Q (.ref l) (upd H l (.tup ys)))\/(Se X.K H p ys/\Q (.ref p) H))):=by
 intro R1 s O H xs us Q I r h;obtain⟨p,ys,rfl,h⟩:=h;obtain⟨u,rfl,rx⟩:=vals1 r;cases rx;rcases h with⟨hq,q⟩ | ⟨hq,q⟩
 .obtain⟨its,r',pl,hz⟩:=I.list hq;have hlen:=r'.length;show call_tuple_list pl.isList (λh' kp=>?_) (by simp only[Og] <;> lia);have I1:Inv X R1 O H { s with heap:=h' }:=I.kept (t':=s.toks) kp;have I2:Inv X R1 O (upd H h'.objs.size<|.tup ys) { s with heap:=h'.push { cls:= .type "tuple",data:= .seq its.toArray } } :=
   I1.laid (t':=s.toks) (λb o e=>N3 _ e) (N0 _) (show dq X.prog X.w _ _ _ (.tup ys) from ⟨hz,its,r',WH _ _⟩)
  erw[.ref h'.objs.size,_,I2,Z,q _<|I1.hok.fresh<|N0 _]
 .obtain⟨its,r',pl,hz⟩:=I.tuple hq;show call_tuple_same pl ⟨.ref p,H,I,Z,q⟩
def Ui (K:R7) (T:BP) (x:V) (H:Hp):Prop:=match x with
 | .str _=>T= "str"
 | .int _=>T= "int"
 | .ref p=>(T= "list" /\ ∃xs,R5 K H p xs)\/(T= "tuple" /\ ∃o,K.lookup p=some o/\o.cls= .type "tuple" /\ o.dict=none) \/
   (T= "dict" /\ ((∃kvs,H p=some (.dK kvs))\/ ∃kvs,H p=some (.dT kvs)))\/(T= "set" /\ ∃S n,H p=some (.set S n))
 | _=>zh
theorem C9 {T:BP}{x:V}(I:Inv X R1 O H s) (r:RelV x v) (ty:Ui X.K T x H) :
  s.TypeIs v T/\ ∀a,v= .ref a-> ∃ob,s.heap.get? a=some ob/\ob.dict=none:=by
 cases x with
 | str z =>
  obtain⟨t,rfl⟩:=r;cases (show T= "str" from ty);erw[Rr s z t,λ_ e=>nomatch e]
 | int i =>
  obtain⟨t,rfl⟩:=r;cases (show T= "int" from ty);erw[typeIs_int s i t,λ_ e=>nomatch e]
 | ref p =>
  cases r;rcases ty with⟨rfl,xs,hq⟩ | ⟨rfl,o,hk,hc,hd⟩ | ⟨rfl,hk⟩ | ⟨rfl,S,n,hk⟩
  .obtain⟨its,_,pl,_⟩:=I.list hq;erw[pl.isList.typeIs,λa e=>?_];cases e;obtain⟨o,n,e,c,hd,_⟩:=pl;erw[o,e,hd]
  .exists ⟨o,I.SQ p o hk,hc⟩,λa e=>?_;cases e;erw[o,I.SQ _ o hk,hd]
  .have z: ∃o,s.heap.get? p=some o/\o.ExactDict:=by
    rcases hk with⟨kvs,hk⟩ | ⟨kvs,hk⟩
    .obtain⟨_,_,_,_,o,_,_,e,ex,_⟩:=I.hok p _ hk;erw[o,e,ex]
    .obtain⟨_,_,_,_,o,_,_,e,ex,_⟩:=I.hok p _ hk;erw[o,e,ex]
   obtain⟨o,e,ex⟩:=z;erw[⟨o,e,ex.1⟩,λa e2=>?_];cases e2;erw[o,e,ex.2.1]
  .obtain⟨o,_,_,_,e,ex,_⟩:=I.hok p _ hk;erw[⟨o,e,ex.1⟩,λa e2=>?_];cases e2;erw[o,e,ex.2.1]
 | _=>show Ba ty
def Be (K:R7) (T:BP) (r:V->qx V->Hp->VK->Prop) (to:TE):TE:=λO H Q=>to O H λx H1=>Ui K T x H1/\r x [] H1 Q
def SS (K:R7) (T:BP) (r:V->qx V->Hp->VK->Prop) (to:TE) (t:TA):TE:=λO H Q=>to O H λx H1=>Ui K T x H1/\t O H1 λxs H2=>r x xs H2 Q
variable {o e:tW}{es:qx tW}{to:TE}{t:TA}{name:va}{apos cpos:Pos}{T id:BP}{r:V->qx V->Hp->VK->Prop}
theorem x5 (pa:PlainAttrs T) (slot:Slot T name id) (hty:typeOf (.builtin id)=pure (.type "method_descriptor")) (hm:TZ X id r) (ho:PE X o to)
  (hbase:CT o name X.env (eval o X.env)=eval o X.env:=by rfl) (hline:(apos.endLine == cpos.line)=true:=by rfl):PE X (.Call (.Attribute o name apos) [] [] cpos) (Be X.K T r to):=by
 intro R1 s O H Q I h;show wpAny_Call_method0_late hbase hline<|Sf (ho R1 s O H _ I h) λv s1 ⟨x,H1,I1,r1,ty,q1⟩=>?_;obtain⟨h1,h2⟩:=C9 I1 r1 ty;erw[T,id,pa,slot,hty,h1,h2,Qq rfl<|PySem.evalArgs_none<|hm R1 s1 O H1 x [] v [] Q I1 r1 .nil q1]
theorem c7 (pa:PlainAttrs T) (slot:Slot T name id) (hty:typeOf (.builtin id)=pure (.type "method_descriptor")) (hm:TZ X id r) (ho:PE X o to) (ha:PA X (e::es) t)
  (hbase:CT o name X.env (eval o X.env)=eval o X.env:=by rfl)
  (hfew:((zV cpos (zb (e::es) X.env)).all (λx=> !x.1) && (CU cpos (AR [] X.env)).all (λx=>x.1.isSome)
   && decide ((e::es).length+([]:qx Ig).length+(if ([]:qx Ig).isEmpty then 0 else 1) < 30))=true:=by rfl)
  (hline:(apos.endLine == cpos.line)=true:=by rfl) (hs:SE X e es:=by rfl) (hplain:BK X cpos es:=by rfl) :
  PE X (.Call (.Attribute o name apos) (e::es) [] cpos) (SS X.K T r to t):=by
 intro R1 s O H Q I h;show wpAny_Call_method_late hbase hfew hline rfl<|Sf (ho R1 s O H _ I h) λv s1 ⟨x,H1,I1,r1,ty,q1⟩=>?_;obtain⟨h1,h2⟩:=C9 I1 r1 ty;erw[T,id,pa,slot,hty,h1,h2,?_];have hA:=ha cpos R1 s1 O H1 _ I1 q1;rw[hs] at hA ⊢;show Qq (by change (false || (zV cpos<|zb es X.env).any (·.1))=false; rw[hplain] <;> rfl)<|QB ?_;show Sf hA λus s2 ⟨vs,H2,I2,r2,q2⟩=>hm R1 s2 O H2 x vs v us Q I2 r1 r2 q2
end
def TB (X:Cx) (id:BP) (r:V->qx V->Hp->VK->Prop):Prop :=
 ∀(R1:nE) (s:rK) (O:St) (H:Hp) (x:V) (xs:qx V) (v:qT) (us:qx qT) (Q:VK),Inv X R1 O H s->RelV x v->Vals xs us->r x xs H Q ->
  xA (model X.prog X.w) X.A (call (.builtin id) (v::us)) (EP X R1 O Q) X.xe s
theorem Vals.one: ∀ {x:V}{us:qx qT},Vals [x] us-> ∃u,us=[u]/\RelV x u
 | _,_,.cons r .nil=>⟨_,Z,r⟩
theorem Vals.zero: ∀ {us:qx qT},Vals [] us->us=[]
 | _,.nil=>rfl
variable{xs:qx V}{us:qx qT}
theorem Vals.dropLast(h:Vals xs us):Vals xs.dropLast us.dropLast:=by
 induction h with
 | nil=>show .nil
 | cons r t ih =>
  cases t with
  | nil=>show .nil
  | cons q t'=>show .cons r ih
theorem Vals.eraseIdx: ∀ {xs:qx V}{us:qx qT}(i:u6),Vals xs us->Vals (xs.eraseIdx i) (us.eraseIdx i)
 | _,_,_,.nil=> .nil
 | _,_,0,.cons _ t=>t
 | _,_,i+1,.cons r t=> .cons r (Vals.eraseIdx i t)
theorem Vals.rep(h:Vals xs us): ∀k:u6,Vals (wo k xs).flatten (wo k us).flatten
 | 0=> .nil
 | k+1=>by
  rw[Pc,Pc,Pr,Pr];show Vals.append h<|Vals.rep h k
theorem Bj {α:Type}(l:qx α):l.eraseIdx (l.length - 1)=l.dropLast:=by
 induction l with
 | nil=>rfl
 | cons a r ih =>
  cases r with
  | nil=>rfl
  | cons b r =>
   have e:(a::b::r).length - 1=((b::r).length - 1)+1:=by
    have h1:(a::b::r).length=r.length+2:=rfl;have h2:(b::r).length=r.length+1:=rfl;lia
   rw[e,List.eraseIdx_cons_succ,ih]
   all_goals rfl
theorem vw {α:Type}: ∀(l:qx α) (i:u6),(l.eraseIdx i).length<=l.length
 | [],_=>N0 _
 | _::_,0=>Pe _
 | _::r,i+1=>QC (vw r i)
theorem foldl_rep (its:qx qT): ∀(k:u6) (acc:qx qT),
  Wu (λx1 x2=>x1++x2) acc.toArray (wo k its.toArray)=(acc++(wo k its).flatten).toArray
 | 0,acc=>by simp
 | k+1,acc=>by
  have e:acc.toArray++its.toArray=(acc++its).toArray:=by simp
  have e2:(acc++its)++(wo k its).flatten=acc++(wo (k+1) its).flatten:=by
   rw[Pc,Pr,Pf]
  rw[<-e2,<-foldl_rep its k (acc++its),<-e,Pc,Wv]
section
variable {X:Cx}{R1:nE}{O:St}{H:Hp}{s:rK}{l b:qA}{xs ys zs:qx V}
variable{its:qx qT}
theorem Inv.xH {its':qx qT}{n:u6}{f:zR qT->zR qT}{t':u6}(I:Inv X R1 O H s) (hH:H l=some (.lst xs))
  (e:s.heap.get? l=some { cls:= .type "list",data:= .seq its.toArray n }) (hf:f its.toArray=its'.toArray) (hv:Vals ys its') (hz:ys.length<=sizeLine) :
  Inv X R1 O (upd H l (.lst ys)) { s with heap:=s.heap.update l (C4 f),toks:=t' }:=by
 have q:=Wn e f;rw[hf] at q;show I.write (x:=l) (e:=l) (by rw[hH]; show trivial) (.inl rfl) (λb' u hb hu=>(OZ s.heap (C4 f)<|Ox hb).trans hu) ⟨_,q⟩ ?_;erw[hz,its',_,hv,q]
theorem Inv.KD {t':u6}(I:Inv X R1 O H s) (hv:Vals ys its) (hz:ys.length<=sizeLine) :
  Inv X R1 O (upd H s.heap.objs.size (.lst ys)) { s with heap:=s.heap.push { cls:= .type "list",data:= .seq its.toArray },toks:=t' } :=
 I.laid (λ_ _ q=>N3 _ q) (N0 _) ⟨hz,its,0,hv,OD _ rfl⟩
theorem Inv.fresh (I:Inv X R1 O H s):H s.heap.objs.size=none:=I.hok.fresh (N0 _)
theorem Inv.lH (I:Inv X R1 O H s) (hH:H l=some (.lst xs)):xs.length<=sizeLine/\ ∃(its:qx qT) (n:u6),Vals xs its/\xs.length=its.length/\s.heap.get? l=some { cls:= .type "list",data:= .seq its.toArray n }:=by
 obtain⟨z,its,n,r,e⟩:=I.hok l _ hH;erw[z,its,n,r,r.length,e]
theorem xY {n:u6}(h:n<=sizeLine):Dc n=false:=by
 unfold Dc;show N8 Y
end
section
variable {X:Cx}
inductive E6 (x:V) (vs:qx V) (H:Hp) (Q:VK):Prop | mk (l xs y:_) (e0:x= .ref l) (e1:vs=[y]) (e2:H l=some (.lst xs)) (e3:xs.length < sizeLine) (q:Q .non (upd H l (.lst (xs++[y]))))
def Ar:V->qx V->Hp->VK->Prop:=λx vs H Q=>E6 x vs H Q
theorem D5:TB X "list.append" Ar:=by
 intro R1 s O H x vs v us Q I rx rv h;obtain⟨l,xs,y,rfl,rfl,hH,hz,q⟩:=h;cases rx;obtain⟨u,rfl,ru⟩:=rv.one;obtain⟨z,its,n,r,hl,e⟩:=I.lH hH;show PF V6 ⟨_,e,Z⟩ VO (VL _ _) (Wh l its.toArray n u (by rw[Og]; lia)) ⟨e,?_⟩;erw[.non,_,I.xH (its':=its++[u]) hH e uD (r.append<|.cons ru .nil) ?_,Z,q];rw[N1,P9];lia
inductive FD (x:V) (vs:qx V) (H:Hp) (Q:VK):Prop | mk (l b xs zs:_) (e0:x= .ref l) (e1:vs=[.ref b]) (e2:H l=some (.lst xs)) (e3:H b=some (.lst zs)) (e4:xs.length+zs.length<=sizeLine) (q:Q .non (upd H l (.lst (xs++zs))))
def HB:V->qx V->Hp->VK->Prop:=λx vs H Q=>FD x vs H Q
theorem Mn:TB X "list.extend" HB:=by
 intro R1 s O H x vs v us Q I rx rv h;obtain⟨l,b,xs,zs,rfl,rfl,hH,hB,hz,q⟩:=h;cases rx;obtain⟨u,rfl,ru⟩:=rv.one;cases ru;obtain⟨z,its,n,r,hl,e⟩:=I.lH hH;obtain⟨z2,its2,n2,r2,hl2,e2⟩:=I.lH hB;have hsz:its.toArray.size+its2.toArray.size<=sizeLine:=by rw[Og,Og]; lia
 have hlong: ¬(!its.toArray.isEmpty && Dc (its.toArray.size+its2.toArray.size))=true:=by
  rw[xY hsz,WE];show Ol
 show PF F.slot_list_extend ⟨_,e,Z⟩ F.entry_list_extend (F.args_list_extend_2 _ _)
  (AutoSeq1.list_extend_list_list_0 l its.toArray n b its2.toArray n2 hlong (by rw[Og]; lia) Y) ⟨e,e2,?_⟩
 erw[.non,_,I.xH (its':=its++its2) hH e uD (r.append r2) ?_,Z,q];rw[N1];lia
inductive Ml (x:V) (vs:qx V) (H:Hp) (Q:VK):Prop | mk (l xs y:_) (e0:x= .ref l) (e1:vs=[]) (e2:H l=some (.lst xs)) (e3:xs[xs.length - 1]?=some y) (q:Q y (upd H l (.lst xs.dropLast)))
def Mu:V->qx V->Hp->VK->Prop:=λx vs H Q=>Ml x vs H Q
theorem CI:TB X "list.pop" Mu:=by
 intro R1 s O H x vs v us Q I rx rv h;obtain⟨l,xs,y,rfl,rfl,hH,hy,q⟩:=h;cases rx;have hus:=rv.zero;subst hus;obtain⟨z,its,n,r,hl,e⟩:=I.lH hH;obtain⟨u,hu,ru⟩:=r.get hy;have hy':its.toArray[its.toArray.size - 1]?=some u:=by
  change its.toArray[its.length - 1]?=some u;rw[<-VF,<-hl];show hu
 show PF F.slot_list_pop ⟨_,e,Z⟩ Wo (F.args_list_pop_1 _) (MeetsSeq.list_pop_last l its.toArray n u hy' (by rw[Og]; lia)) ⟨e,?_⟩;erw[y,_,I.xH (its':=its.dropLast) hH e ?_ r.dropLast ?_,ru,q]
 .change its.toArray.eraseIdxIfInBounds (its.toArray.size - 1)=its.dropLast.toArray;rw[Og,Rg,Bj]
 .rw[QD];lia
inductive IB (x:V) (vs:qx V) (H:Hp) (Q:VK):Prop | mk (l xs i k y:_) (e0:x= .ref l) (e1:vs=[.int i]) (e2:H l=some (.lst xs)) (e3: -(2 ^ 63)<=i) (e4:i < 2 ^ 63) (e5:seqIndex? i xs.length=some k) (e6:xs[k]?=some y) (q:Q y (upd H l (.lst (xs.eraseIdx k))))
def Jy:V->qx V->Hp->VK->Prop:=λx vs H Q=>IB x vs H Q
theorem xM:TB X "list.pop" Jy:=by
 intro R1 s O H x vs v us Q I rx rv h;obtain⟨l,xs,i,k,y,rfl,rfl,hH,h1,h2,hk,hy,q⟩:=h;cases rx;obtain⟨u,rfl,ru⟩:=rv.one;obtain⟨t,rfl⟩:=ru;obtain⟨z,its,n,r,hl,e⟩:=I.lH hH;obtain⟨w,hw,rw'⟩:=r.get hy;show PF F.slot_list_pop ⟨_,e,Z⟩ Wo (F.args_list_pop_2 _ _)
  (MeetsSeq.list_pop_at l its.toArray n i t k w (fitsIndex_both h1 h2) (by rw[Og,<-hl]; show hk) (by rw[<-VF]; show hw) (by rw[Og]; lia)) ⟨e,?_⟩
 erw[y,_,I.xH (its':=its.eraseIdx k) hH e ?_ (r.eraseIdx k) ?_,rw',q]
 .change its.toArray.eraseIdxIfInBounds k=(its.eraseIdx k).toArray;rw[Rg]
 .have:=vw xs k;lia
inductive Mp (x:V) (vs:qx V) (H:Hp) (Q:VK):Prop | mk (l xs:_) (e0:x= .ref l) (e1:vs=[]) (e2:H l=some (.lst xs)) (q:Q .non (upd H l (.lst xs.reverse)))
inductive Ng (x:V) (vs:qx V) (H:Hp) (Q:VK):Prop | mk (l xs:_) (e0:x= .ref l) (e1:vs=[]) (e2:H l=some (.lst xs)) (q:Q .non (upd H l (.lst [])))
inductive L5 (x y:V) (H:Hp) (Q:VK):Prop | mk (l b xs zs:_) (e0:x= .ref l) (e1:y= .ref b) (e2:H l=some (.lst xs)) (e3:H b=some (.lst zs)) (e4:xs.length+zs.length<=sizeLine) (q: ∀p,H p=none->Q (.ref p) (upd H p (.lst (xs++zs))))
def M3:R2:=λx y H Q=>L5 x y H Q
theorem fQ:So X (CN .Add) M3:=by
 intro R1 s O H x y v u Q I rx ry h;obtain⟨l,b,xs,zs,rfl,rfl,hH,hB,hz,q⟩:=h;cases rx;cases ry;obtain⟨z,its,n,r,hl,e⟩:=I.lH hH;obtain⟨z2,its2,n2,r2,hl2,e2⟩:=I.lH hB;show PySem.P.add_list e e2 ?_ (by rw[Og,Og]; lia);have ea:its.toArray++its2.toArray=(its++its2).toArray:=by simp
 rw[ea];erw[.ref _,_,I.KD (t':=s.toks) (r.append r2) (by rw[N1]; lia),Z,q _ I.fresh]
inductive Li (x y:V) (H:Hp) (Q:VK):Prop | mk (l k xs:_) (e0:x= .ref l) (e1:y= .int k) (e2:H l=some (.lst xs)) (e3: -(2 ^ 63)<=k) (e4:k < 2 ^ 63) (e5:xs.length*k.toNat<=sizeLine) (q: ∀p,H p=none->Q (.ref p) (upd H p (.lst (wo k.toNat xs).flatten)))
def MT:R2:=λx y H Q=>Li x y H Q
theorem len_rep {α:Type}(xs:qx α) (k:u6):(wo k xs).flatten.length=k*xs.length:=by
 induction k with
 | zero=>simp
 | succ k ih=>rw[Pc,Pr,N1,ih,Xg,Nat.add_comm]
theorem mG:So X (CN .Mult) MT:=by
 intro R1 s O H x y v u Q I rx ry h;obtain⟨l,k,xs,rfl,rfl,hH,h1,h2,hz,q⟩:=h;cases rx;obtain⟨t,rfl⟩:=ry;obtain⟨z,its,n,r,hl,e⟩:=I.lH hH;have hlen:its.toArray.size*k.toNat<=sizeLine:=by rw[Og,<-hl]; show hz
 have hcap: ¬its.toArray.size*k.toNat > (2 ^ 63 - 1) / 8:=by
  have:(sizeLine:u6)<=(2 ^ 63 - 1) / 8:=by decide
  lia
 have hfit: ¬(!Builtin.List.listFitsIndex k)=true:=by
  rw[fitsIndex_both h1 h2];show Ol
 have hlong: ¬Dc (its.toArray.size*k.toNat)=true:=by
  rw[xY hlen];show Ol
 have hnew:Wu (λx1 x2=>x1++x2) #[] (wo (if its.toArray.isEmpty=true then 0 else k.toNat) its.toArray)=(wo k.toNat its).flatten.toArray:=by
  have f0: ∀m:u6,Wu (λx1 x2=>x1++x2) #[] (wo m its.toArray)=(wo m its).flatten.toArray:=λm=>by
   have:=foldl_rep its m [];rw[List.nil_append] at this;show this
  rw[f0];cases its with
  | nil=>simp
  | cons a r'=>rw[NS uD]
 show wpAny_binaryOp_repeat_ref (T:= "list") (U:= "int") aS ⟨_,e,Z⟩ (λs'=>typeIs_int s' k t) noFill_list_mul F.fills_int_mul Ww repeat_list F.slot_int_index.lookup
  (PF Ww (typeIs_int s k t) F.entry_int_rmul (F.args_int_rmul_2 _ _) (int___rmul___int_list k t l its.toArray n)
   ⟨e,Z,⟨_,e,Z⟩,PF F.slot_list_mul ⟨_,e,Z⟩ F.entry_list_mul (F.args_list_mul_2 _ _) (AutoListH.list___mul___list_int_3 l its.toArray n k t hfit hcap hlong) ⟨e,?_⟩⟩)
 rw[hnew];erw[.ref _,_,I.KD (t':=s.toks) (r.rep k.toNat) (by rw[len_rep,Xh]; show hz),Z,q _ I.fresh]
end
section
variable {prog:tq}{w:sW}{A:uc}{E:oF}{s:rK}
end
section
variable {X:Cx}
end
end L2
namespace Att
open PySem PySem.W PySem.Calls PyProof.Rows
theorem sq {P:Params}{h:yk}: ∀(ns:qx u7) (vs:qx qT),WellAll P h vs (ns.map WData.int)->Vn vs ns:=by
 intro ns;induction ns with
 | nil =>
  intro vs w;rw[Rl] at w;cases w;show .nil
 | cons n ns ih =>
  intro vs w;rw[OH] at w;cases w with
  | cons a b =>
   cases a;show .cons _ _<|ih _ b
variable{l:OpenLaw}
theorem Ef {n:u6}(hn:l.most=some n){P:Params}{h:yk}{args:qx WData}{vals:qx qT}
  (hpre:l.row.toRowW.claim.pre args=true) (hwl:WellAll P h vals args) :
  ∃a vs ns,vals=[ye a]/\args=[WData.list (ns.map WData.int)]/\h.get? a=some { cls:= .type "list",data:= .seq vs.toArray }/\Vn vs ns/\ns.length<=n:=by
 have hsh:WShape.hasAll [] args [.list .int]=true:=(pre_splitW hpre).1;have hc:l.pre.holds [] { args:=args }=true:=(pre_splitW hpre).2;obtain⟨d,r,rfl,h1,h2⟩:=hasAllW_cons hsh;obtain rfl:=hasAllW_nil h2;obtain⟨xs,rfl,h3⟩:=hasW_list h1;obtain⟨ns,rfl⟩:=items_int h3;have hlen:ns.length<=n:=by
  unfold OpenLaw.pre at hc;have h4:(WTm.not (.lt (.lit (.int (n:u7))) (.len (.arg 0)))).holds [] { args:=[.list (ns.map .int)] }=true:=by
   have h4:=(holds_andW hc).1;rw[hn] at h4;show h4
  have h5:=condW_of h4<|w_not<|w_lt w_lit<|w_len_list<|w_arg rfl;rw[NR] at h5;show RQ λq=>?_;have q':(n:u7) < ((ns.length:u6):u7):=Y
  first
   | (rw[N2 q'] at h5; show wz h5 aS)
   | (simp at h5; lia)
 cases hwl with
 | cons w1 w2 =>
  cases w2;cases w1 with
  | list ho hall=>exact⟨_,_,ns,Z,Z,ho,sq ns _ hall,hlen⟩
theorem EU (l:OpenLaw) (args:qx WData):l.row.toRowW.claim.post args (.bool true) args=true :=
 postW_of (r:=l.row.toRowW) (X:=(true == true))
  (show WShape.has [] (.bool true) .bool=true by first | rfl | decide | simp[WShape.has,WShape.arms,WShape.armsAll])
  (show (WTm.eq .res (.lit (.bool true))).value [] { args:=args,res:=some (.bool true),after:=args }=some (.bool (true == true)) from w_eq_bool (w_res rfl) w_lit) rfl
theorem zf {n:u6}{q:tq}{loose:qx va}{XP:(va->rW qT)->yk->Prop}{YP:sW->yk->Prop}{d:DefRec} (hn:l.most=some n) (hdf:d.params.defaults=[])
  (call: ∀(w:sW) (s₀ s₁:rK) (mg mb:oR) (fa:qA) (o:Obj) (pm cd doc:qT) (a:qA) (vs:qx qT) (ns:qx u7),
   Ground q loose [] XP w s₀ mg mb s₁.heap->YP w s₁.heap ->
   s₁.heap.get? fa=some o->o.data= .func (docDef d.name d.params d.body d.scope pm cd doc)->s₁.heap.CodeRec cd d.name->mg d.name=some (.ref fa) ->
   s₁.heap.get? a=some { cls:= .type "list",data:= .seq vs.toArray }->Vn vs ns->ns.length<=n->s₁.gens= #[] ->
   Eb (model l.prog w) U6 (.call (.ref fa) ⟨[.ref a],[]⟩) (λr s'=>r= .ok (.ret (.bool true))/\OldK s₁.heap s'.heap/\s'.os=s₁.os/\F0 s'.gens) s₁) :
  WalkO q loose XP YP l.row.toRowW d [] (λf vs=>Wy f vs):=by
 intro w s₀ s₁ mg mb G bV fa o pm cd doc dV kV ho hd hcd hD hmg hg args vals as hpre hlay hrd hwl hlo;obtain rfl:dV= .none:=Dflts.none hD hdf;obtain rfl:kV= .none:=Dflts.noKw hD;obtain⟨a,vs,ns,rfl,rfl,hobj,hints,hlen⟩:=Ef hn hpre hwl;show enter_call<|QQ (call w s₀ s₁ mg mb fa o pm cd doc a vs ns G bV ho (fd_plain hd) hcd hmg hobj hints hlen hg) λr s' hq=>?_;obtain⟨rfl,h2,h3,h4⟩:=hq;erw[.inl ⟨.bool true,.bool true,[],Z,λ_=>rfl,.bool true,EU l _,λ_=>⟨XO,λ_ hm=>(nomatch hm)⟩⟩,h2,h3,h4]
section
variable {prog:tq}{w:sW}{A:uc}{E:oF}{s:rK}{K:Frag}
def ledger (h:yk) (L d:qA):qx (qA×Obj):=(wx h.objs.size).filterMap λa=>if a=L\/a=d then none else (h.get? a).map λo=>(a,o)
end
end Att
namespace L2
open PySem PySem.Spec PyProof.Rows
theorem vN: ∀ {vs:qx qT}{ns:qx u7},Vn vs ns->Vals (ns.map V.int) vs
 | _,_,.nil=> .nil
 | _,_,.cons n t h=> .cons ⟨t,Z⟩ (vN h)
def AW (H:Hp):Prop:= ∀b,H b=none\/ ∃o xs,H b=some (.frz o (.lst xs))
theorem FN {P:tq}{w:sW}{K:R7}{mg mb:oR}{CX:SV}{k:u6}{fa a:qA}{fd:BS}{x:va}{sp:Sp}{s₁:rK}{vs:qx qT}{ns:qx u7}
  (KX:K.In s₁.heap) (hns:s₁.heap.Ns ze mg) (hb:s₁.heap.Ns builtinsNs mb) (hbb: ∀x:va,x≠ "__name__" -> mb x=zt x) (hlim:s₁.heap.NoLimit) (hg:s₁.gens= #[])
  (ha:s₁.heap.get? a=some { cls:= .type "list",data:= .seq vs.toArray }) (hi:Vn vs ns) (hl:ns.length<=sizeLine) (hr:b7 k U6)
  (F: ∀base:yk,K.In base->base.Ns ze mg->eP P w K mg base CX k fa fd [x] sp) (hbind: ∀(s:rK) (u:qT),U5 s fd ⟨[u],[]⟩ [(x,u)])
  (hsp: ∀H:Hp,AW H->R5 K H a (ns.map V.int)->sp [.ref a] H (λv _=>v= .bl true) λ_ _ _=>zh)
  (hCX: ∀H e s',CX [] H s₁ (λ_ _ _=>zh) e s'->zh) :
  Eb (model P w) U6 (.call (.ref fa) ⟨[.ref a],[]⟩) (λr s'=>r= .ok (.ret (.bool true))/\OldK s₁.heap s'.heap/\s'.os=s₁.os/\F0 s'.gens) s₁:=by
 have rv:=vN hi;have lenV:=hi.length;have core: ∀H:Hp,AW H->R5 K H a (ns.map V.int)->Ss P w H s₁.heap->(∀b,H b≠none->b=a)->(H a≠none->K.lookup a=none) ->
   Eb (model P w) U6 (.call (.ref fa) ⟨[.ref a],[]⟩) (λr s'=>r= .ok (.ret (.bool true))/\OldK s₁.heap s'.heap/\s'.os=s₁.os/\F0 s'.gens) s₁:=by
  intro H hO hS hok hA hK;have base_of: ∀ {b:qA}{o:Obj},s₁.heap.get? b=some o->H b=none->(nY s₁.heap H).get? b=some o:=λe n=>Gs e n;have noA: ∀ {b:qA}{o:Obj}{es:zR DictEntry}{ep:u6},s₁.heap.get? b=some o->o.data= .dict es ep->H b=none:=λ{b o es ep} e d=>by
   cases q:H b with
   | none=>rfl
   | some u =>
    have e':b=a:=hA b (by rw[q]; simp);subst e';rw[ha] at e; cases e;have d':Data.seq vs.toArray _=Data.dict es ep:=d;cases d'
  have nsK: ∀ {b:qA}{m:oR},s₁.heap.Ns b m->(nY s₁.heap H).Ns b m:=λ{b m} ⟨o,es,ep,e,d,r⟩=>⟨o,es,ep,base_of e<|noA e d,d,r⟩
  have hKb:K.In (nY s₁.heap H):=λb o e=>base_of (KX b o e) (by
   cases q:H b with
   | none=>rfl
   | some u =>
    have e':b=a:=hA b (by rw[q]; simp);subst e';rw[hK (by rw[q]; simp)] at e; cases e)
  have hM:Mod K mg (nY s₁.heap H):=⟨hKb,nsK hns,⟨mb,nsK hb,hbb⟩,let ⟨mc,h1,h2⟩:=hlim; ⟨mc,nsK h1,h2⟩⟩
  have e0:rM P w K mg (nY s₁.heap H) U6 [] s₁ H:=⟨Z,hM,λb o e=>IX e,Rk<|Dk _ _,trivial,λb hb=>wz (show b∈([]:qx qA) from hb) uD,hok,.of_eq hg⟩
  show QQ ((F _ hKb<|nsK hns).run U6 [] s₁ H ⟨[.ref a],[]⟩ [.ref a] [.ref a] _ _ hr e0 (hbind s₁<|.ref a) (.cons rfl .nil)<|hsp H hO hS) λr s' h=>?_;cases r with
  | error e=>show (hCX H e s' h).elim
  | ok fl =>
   cases fl with
   | next=>show Ba h
   | brk=>show Ba h
   | cont=>show Ba h
   | ret u =>
    obtain⟨v,H',os,bare,un,hok',r',q⟩:=h;have q':v= .bl true:=q;subst q';obtain rfl:u=VJ true:=r';erw[Z,OldK.of_keep λb o e=>?_,os,bare];cases q:H b with
    | none=>show un.keep b o e q (by intro z; show wz (show b∈([]:qx qA) from z) uD) uD
    | some u =>
     rcases hO b with z | ⟨ob,xs,z⟩
     .rw[q] at z; cases z
     .have z2:=un.frzs b ob _ z;obtain⟨e1,_⟩:=hok b _ z;obtain⟨e2,_⟩:=hok' b _ z2;rw[e] at e1; cases e1;show e2
 cases hk:K.lookup a with
 | some o =>
  have e:=KX a o hk;rw[ha] at e;cases e;show core (λ_=>none) (λ_=> .inl rfl) (.inr ⟨_,vs.toArray,_,hk,Z,Z,Z,by rw[Og,lenV]; show hl,by simpa using rv⟩) (λb u z=>by have z':(none:rW HO)=some u:=z; cases z') (λb z=>wz rfl z) λz=>wz rfl z
 | none =>
  show core (λb=>if b=a then some (.frz { cls:= .type "list",data:= .seq vs.toArray }<|.lst<|ns.map V.int) else none) (λb=>?_) (.inl<|.inr ⟨{ cls:= .type "list",data:= .seq vs.toArray },NW rfl⟩) (λb u z=>?_) (λb z=>?_) λ_=>hk
  .by_cases hb:b=a;.exact .inr ⟨_,_,NW hb⟩
   .exact .inl<|NS hb
  .by_cases hb:b=a
   .have z':=(NW hb).symm.trans z;cases z';subst hb;erw[ha,by rw[NR]; show hl,vs,_,rv,ha]
   .have z':=(NS hb).symm.trans z;cases z'
  .by_cases hb:b=a;.exact hb
   .exact wz (NS hb) z
abbrev T9 {K:R7}{h:yk} (_:K.In h):R7:=K
variable{q:tq}{loose:qx va}{XP:(va->rW qT)->yk->Prop}{YP:sW->yk->Prop}
theorem Ir {l:Wz}{n k:u6}{d:DefRec}{K:Params->R7}{CX:sW->SV}{sp:sW->Sp}{x:va} (hn:l.most=some n) (hn2:n<=sizeLine) (hdf:d.params.defaults=[]) (hr:b7 k U6)
  (hY: ∀(w:sW) (h:yk),YP w h->(K w.params).In h)
  (F: ∀(w:sW) (mg:oR) (fa:qA) (h:yk),(K w.params).In h->h.Ns ze mg->mg d.name=some (.ref fa) ->
   ∃fd:BS,(∀(s:rK) (u:qT),U5 s fd ⟨[u],[]⟩ [(x,u)]) /\
    ∀base:yk,(K w.params).In base->base.Ns ze mg->eP l.prog w (K w.params) mg base (CX w) k fa fd [x] (sp w))
  (hsp: ∀(w:sW) (H:Hp) (a:qA) (ns:qx u7),ns.length<=n->AW H->R5 (K w.params) H a (ns.map V.int)->sp w [.ref a] H (λv _=>v= .bl true) λ_ _ _=>zh)
  (hCX: ∀(w:sW) (H:Hp) (s:rK) (e:qT) (s':rK),CX w [] H s (λ_ _ _=>zh) e s'->zh) :
  WL q loose XP YP l.row.toRowW d [] (λf vs=>Wy f vs):=by
 show Att.zf hn hdf λw s₀ s₁ mg mb fa o pm cd doc a vs ns G bV ho hd hcd hmg hobj hints hlen hg=>?_;have KX:=hY w _ bV;obtain⟨fd,hb,hF⟩:=F w mg fa _ KX G.T.g hmg;show FN KX G.T.g G.T.b G.T.builtins G.T.nolimit hg hobj hints (Ob hlen hn2) hr hF hb (λH hO hS=>hsp w H a ns hlen hO hS) λH e s'=>hCX w H s₁ e s'
theorem FP {l:Wz}{n k:u6}{d:DefRec}{K:Params->R7}{CX:SV}{sp:R7->Sp}{x:va} (hn:l.most=some n) (hn2:n<=sizeLine) (hdf:d.params.defaults=[]) (hr:b7 k U6)
  (hY: ∀(w:sW) (h:yk),YP w h->(K w.params).In h)
  (F: ∀(w:sW) (mg:oR) (fa:qA) (h:yk),(K w.params).In h->h.Ns ze mg->mg d.name=some (.ref fa) ->
   ∃fd:BS,(∀(s:rK) (u:qT),U5 s fd ⟨[u],[]⟩ [(x,u)]) /\
    ∀base:yk,(K w.params).In base->base.Ns ze mg->eP l.prog w (K w.params) mg base CX k fa fd [x] (sp (K w.params)))
  (hsp: ∀(K:R7) (H:Hp) (a:qA) (ns:qx u7),ns.length<=n->AW H->R5 K H a (ns.map V.int)->sp K [.ref a] H (λv _=>v= .bl true) λ_ _ _=>zh)
  (hCX: ∀(H:Hp) (s:rK) (e:qT) (s':rK),CX [] H s (λ_ _ _=>zh) e s'->zh) :
  WL q loose XP YP l.row.toRowW d [] (λf vs=>Wy f vs) :=
 Ir (K:=K) (CX:=λ_=>CX) (sp:=λw=>sp (K w.params)) hn hn2 hdf hr hY F (λw H a ns h1 h2 h3=>hsp (K w.params) H a ns h1 h2 h3) λ_ H s e s'=>hCX H s e s'
def inClass (s:zc) (j:u6):zc:=match s with
 | .ClassDef _ _ _ body _ _ _ _ _ _ _=>body.getD j (.Pass ⟨0,0,0,0⟩)
 | _=> .Pass ⟨0,0,0,0⟩
def jJ (s:zc):Arguments:=match s with
 | .FunctionDef _ a _ _ _ _ _ _ _ _=>a
 | _=>{ posonlyargs:=[],args:=[],vararg:=none,kwonlyargs:=[],kw_defaults:=[],kwarg:=none,defaults:=[] }
def fc (s:zc):qx zc:=match s with
 | .FunctionDef _ _ b _ _ _ _ _ _ _=>b
 | _=>[]
def bu (s:zc):A3:=match s with
 | .FunctionDef _ _ _ _ _ _ sc _ _ _=>sc
 | _=>{ kind:= .function,names:=[],isGenerator:=false,isCoroutine:=false }
abbrev S1:SV:=λ_ _ _ _ _ _=>zh
abbrev E0:XK:=λ_ _ _=>zh
theorem wQ {X:Cx}:Passes S1 X E0:=λ_ _ _ _ _ _ _ h=>h.elim
structure TL (K:R7) (x qual:va) (st:zc) (f:qA) (fd:BS):Prop where
 ex: ∃(oc:qT) (od:rW qA) (kV doc pm:qT) (an:rW qA) (cdv ct:qT) (osl:zR (rW qT)),
  fd=B0 x qual (jJ st) (fc st) (bu st) .none kV doc pm an cdv ct/\K.lookup f=some ⟨oc,od,.func fd,osl⟩/\Ge K cdv qual=true
 kp:zE K (.ref f)=true
section
variable {P:tq}{w:sW}{K:R7}{mg:oR}{base:yk}
variable{qual:va}{f:qA}{fd:BS}{ps:qx va}
theorem TL.ok {x:va}{st:zc}{N:qx va}{k:u6}{sp:Sp}(F:TL K x qual st f fd) (S:gB N ps (bu st)) (len: ∀vs H Q E,sp vs H Q E->vs.length=ps.length)
  (hbody: ∀(cdv:qT) (A:uc) (outer:qx Env) (s:rK) (H:Hp) (vs:qx V) (Q:VK) (E:XK),b7 k (A.deeper (DU qual (bu st) s.heap.objs.size f cdv))->sp vs H Q E ->
   ∃t,Sz (iX S1 P w K mg base N qual (bu st) f cdv A outer s H E).TV (fc st) t/\t { nx:=λ_ H'=>Q .non H',rt:=Q } (start N vs) H):eP P w K mg base S1 (k+1) f fd ps sp:=by
 obtain⟨oc,od,kV,doc,pm,an,cdv,ct,osl,rfl,lk,hcd⟩:=F.ex;show BW lk hcd S len λA outer s H vs Q E hr hsp=>?_;obtain⟨t,h,q⟩:=hbody cdv A outer s H vs Q E hr hsp;erw[t,h.TV,q]
abbrev BA (x qual:va) (st:zc) (ps:qx va):Prop:= ∀(kV doc pm:qT) (an:rW qA) (cdv ct:qT) (us:qx qT),us.length=ps.length->bindArgs (B0 x qual (jJ st) (fc st) (bu st) .none kV doc pm an cdv ct) ⟨us,[]⟩=pure (ps.zip us)
theorem TL.binds {x:va}{st:zc}(F:TL K x qual st f fd)
  (h:BA x qual st ps):Binds K fd ps []:=by
 obtain⟨oc,od,kV,doc,pm,an,cdv,ct,osl,rfl,lk,hcd⟩:=F.ex;show .all<|h kV doc pm an cdv ct
theorem Ez {x:va}{st:zc}{oc:qT}{od an:rW qA}{osl:zR (rW qT)}{kV doc pm cdv ct:qT}(l:K.lookup f=some ⟨oc,od,.func (B0 x qual (jJ st) (fc st) (bu st) .none kV doc pm an cdv ct),osl⟩)
  (c:Ge K cdv qual=true) (k:zE K (.ref f)=true):TL K x qual st f (B0 x qual (jJ st) (fc st) (bu st) .none kV doc pm an cdv ct):=⟨⟨oc,od,kV,doc,pm,an,cdv,ct,osl,Z,l,c⟩,k⟩
end
theorem dB {A:uc}{k:u6}(hr:b7 k A):A.units+1 < DK:=Pl (Nat.add_le_add_left (by decide:1<=64) _) hr.units
theorem pk {n:u6}(h:n<=1000):n < sizeLine:=Pl h aS
section
variable {X:Cx}
theorem pv (i:u6){x:va}{pos:Pos}(hN:X.N[i]?=some x:=by rfl) (hv:Ud X.env.scope x:=by first | show WA rfl | show V7 (WA rfl) | show V7 (V7 rfl)) (hd:DB x:=by decide)
  (hcd:(x == ("__classdict__" : va))=false:=by decide):PE X (.Name x pos) (oO i):=KS hN hv hd hcd
abbrev aT:=@pv X 0
abbrev bY:=@pv X 1
abbrev dO:=@pv X 2
abbrev eX:=@pv X 3
abbrev gE:=@pv X 4
abbrev gT:=@pv X 5
abbrev iF:=@pv X 6
abbrev iN:=@pv X 7
abbrev iS:=@pv X 8
abbrev lE:=@pv X 9
abbrev lT:=@pv X 10
abbrev mK:=@pv X 11
end
variable{A B:Prop}
theorem aM(h:B):if false=true then A else B:=by
 rw[NS Ol];show h
theorem aW(h:A):if true=true then A else B:=by
 rw[NW rfl];show h
theorem bh {c:Prop} [Decidable c] (h1:c->A) (h2: ¬c->B):if c then A else B:=by
 by_cases h:c
 .rw[NW h];show h1 h
 .rw[NS h];show h2 h
def ag (H H':Hp):Prop:= ∀b o,H b=some o->H' b=some o
theorem ag.refl (H:Hp):ag H H:=λ_ _ h=>h
variable{H:Hp}
theorem ag.trans {H1 H2:Hp}(a:ag H H1) (b:ag H1 H2):ag H H2:=λc o h=>b c o (a c o h)
theorem ag.free {H':Hp}(e:ag H H'){l:qA}(h:H' l=Xu):H l=Xu:=by
 cases q:H l with
 | none=>rfl
 | some o =>
  rw[e l o q] at h;cases h
theorem ag.seq {K:R7}{H':Hp}{a:qA}{xs:qx V}(e:ag H H') (h:R5 K H a xs):R5 K H' a xs:=by
 rcases h with (h | ⟨o,h⟩) | h
 .exact .inl<|.inl<|e _ _ h
 .exact .inl<|.inr ⟨o,e _ _ h⟩
 .exact .inr h
end L2
namespace L2
open PySem
variable{M:qx PySem.Value->Prop}
theorem TX {n:u6}(f: ∀a t,t.length=n->M (a::t)) (us:qx PySem.Value):us.length=n+1->M us :=
 List.rec (motive:=λus=>us.length=n+1->M us) (λh=>wz h (Nat.zero_ne_add_one n)) (λa t _ h=>f a t (Rm h)) us
theorem Ub {M:qx PySem.Value->Prop}(f:M []) (us:qx PySem.Value) (h:us.length=0):M us :=
 (Pk h).symm▸f
theorem Ut {M:qx PySem.Value->Prop}(f: ∀a,M [a]): ∀us:qx PySem.Value,us.length=1->M us:=TX λa=>Ub (M:=λt=>M (a::t)) (f a)
theorem Ux {M:qx PySem.Value->Prop}(f: ∀a b,M [a,b]): ∀us:qx PySem.Value,us.length=2->M us:=TX λa=>Ut (M:=λt=>M (a::t)) (f a)
theorem Uu {M:qx PySem.Value->Prop}(f: ∀a b c,M [a,b,c]): ∀us:qx PySem.Value,us.length=3->M us:=TX λa=>Ux (M:=λt=>M (a::t)) (f a)
theorem UA {M:qx PySem.Value->Prop}(f: ∀a b c d,M [a,b,c,d]): ∀us:qx PySem.Value,us.length=4->M us:=TX λa=>Uu (M:=λt=>M (a::t)) (f a)
theorem Uv {M:qx PySem.Value->Prop}(f: ∀a b c d e,M [a,b,c,d,e]): ∀us:qx PySem.Value,us.length=5->M us:=TX λa=>UA (M:=λt=>M (a::t)) (f a)
theorem UX(f: ∀a b c d e f,M [a,b,c,d,e,f]): ∀us:qx PySem.Value,us.length=6->M us:=TX λa=>Uv (M:=λt=>M (a::t)) (f a)
end L2
namespace L2
open PySem PySem.Spec PyProof.Rows
def c8:qx (va×Bv)->qx (va×qA)->qx (va×qA)->qx (va×qA)
 | [],_,acc=>acc
 | (n,k)::r,cs,acc=>if k= .free then (match cs.lookup n with | some c=>c8 r cs ((n,c)::acc) | none=>c8 r cs acc) else c8 r cs acc
variable{scope:A3}
theorem oo {env:Env}(h: ∀x∈scope.names,x.2= .free-> ∃c,env.cells.lookup x.1=some c) :
  closureFor scope env=pure (c8 scope.names env.cells []):=by
 simp only[closureFor];have key: ∀(names:qx (va×Bv)) (acc:qx (va×qA)),(∀x∈names,x.2= .free-> ∃c,env.cells.lookup x.1=some c) ->
   (forIn names acc λx r=>if (x.2 == zw)=true then (do let __do_lift <-cellOf env x.1; pure (B9 ((x.1,__do_lift)::r))) else (pure (B9 r):Sem _))=(pure (c8 names env.cells acc):Sem _):=by
  intro names;induction names with
  | nil=>intro acc _; rfl
  | cons x r ih =>
   intro acc hx;obtain⟨n,k⟩:=x;have hr:=λy hy=>hx y<|N4 _ hy;rw[List.forIn_cons];by_cases hk:k= .free
   .subst hk;obtain⟨c,hc⟩:=hx (n,.free) N6 rfl;have hc':env.cells.lookup n=some c:=hc;have e1:cellOf env n=pure c:=(by unfold cellOf; rw[hc']);have e2:c8 ((n,zw)::r) env.cells acc=c8 r env.cells ((n,c)::acc):=by
     change (if zw=zw then (match env.cells.lookup n with | some c=>c8 r env.cells ((n,c)::acc) | none=>c8 r env.cells acc) else _)=_;rw[NW rfl,hc']
    rw[e2,<-ih _ hr];change ((if (zw == zw)=true then _ else _) >>= _)=_;rw[NW<|show (zw == zw)=true from rfl];change ((cellOf env n >>= λ__do_lift=>pure<|B9 ((n,__do_lift)::acc)) >>= _)=_;rw[e1];rfl
   .have hb:(k == zw)=false:=by simpa using hk
    have e2:c8 ((n,k)::r) env.cells acc=c8 r env.cells acc:=by
     change (if k=zw then _ else _)=_;rw[NS hk]
    rw[e2,<-ih _ hr];change ((if (k == zw)=true then _ else _) >>= _)=_;rw[NS (by rw[hb]; show Ol)];rfl
 show (OI (λz=>z >>= λr=>pure r)<|key scope.names [] h).trans rfl
theorem jT: ∀ {names:qx (va×Bv)}{cs acc:qx (va×qA)}{x:va}{c:qA},(∀y d,acc.lookup y=some d->cs.lookup y=some d)->(c8 names cs acc).lookup x=some c->cs.lookup x=some c
 | [],_,_,_,_,h,e=>h _ _ e
 | (n,k)::r,cs,acc,x,c,h,e=>by
  unfold c8 at e;split at e
  .split at e
   .rename_i d hd;show jT (names:=r) (λy z q=>?_) e;rw[Pd] at q;split at q
    .rename_i hy;cases q;rw[eq_of_beq hy];show hd
    .exact h _ _ q
   .exact jT (names:=r) h e
  .exact jT (names:=r) h e
theorem jW: ∀ {names:qx (va×Bv)}{cs acc:qx (va×qA)}{x:va}{c:qA},(∀y d,acc.lookup y=some d->cs.lookup y=some d)->cs.lookup x=some c->(x,zw)∈names\/(acc.lookup x=some c)->(c8 names cs acc).lookup x=some c
 | [],_,_,_,_,h,e,m=>by
  rcases m with m | m
  .cases m
  .exact m
 | (n,k)::r,cs,acc,x,c,h,e,m=>by
  have h2: ∀d,cs.lookup n=some d-> ∀y z,((n,d)::acc).lookup y=some z->cs.lookup y=some z:=λd hd y z q=>by
   rw[Pd] at q;split at q
   .rename_i hy;cases q;rw[eq_of_beq hy];show hd
   .exact h _ _ q
  unfold c8;split
  .rename_i hk;subst hk;split
   .rename_i d hd;show jW (names:=r) (h2 d hd) e ?_;by_cases hx:x=n
    .subst hx;right;rw[List.lookup_cons_self,<-hd,e]
    .rcases m with m | m
     .left;rcases N5.mp m with q | q
      .cases q;show wz rfl hx
      .exact q
     .right;rw[Pd];have:(x == n)=false:=beq_eq_false_iff_ne.mpr hx;rw[this];show m
   .rename_i hd;show jW (names:=r) h e ?_;rcases m with m | m
    .rcases N5.mp m with q | q
     .cases q;rw[hd] at e;cases e
     .exact .inl q
    .exact .inr m
  .rename_i hk;show jW (names:=r) h e ?_;rcases m with m | m
   .rcases N5.mp m with q | q
    .cases q;show wz rfl hk
    .exact .inl q
   .exact .inr m
def x6 (scope psc:A3):A3 :=
 { scope with names:=scope.names.map λx=>if (x.2 == .free && psc.kind == .function && psc.names.lookup x.1 == some .cell) then (x.1,.cell) else (x.1,x.2) }
variable{psc:A3}
theorem tG {scope:A3}{env:Env}(h:env.scope=psc):relabel scope env=x6 scope psc:=by
 subst h;rfl
variable{f:va×Bv->va×Bv}
theorem xD(hf: ∀x,(f x).1=x.1/\((f x).2=x.2\/(x.2= .free/\(f x).2= .cell))): ∀ {names:qx (va×Bv)}{x:va}{k:Bv},
  names.lookup x=some k-> ∃k',(names.map f).lookup x=some k'/\(k'=k\/(k= .free/\k'= .cell))
 | [],_,_,h=>by simp at h
 | (n,j)::r,x,k,h=>by
  have e1:((n,j)::r).map f=f (n,j)::r.map f:=rfl;rw[e1];obtain⟨a,b,e⟩: ∃a b,f (n,j)=(a,b):=⟨_,_,Z⟩
  obtain⟨h1,h2⟩:=hf (n,j);rw[e] at h1 h2;have h1':a=n:=h1;subst h1';rw[e,Pd];rw[Pd] at h;cases hx:x == a with
  | true =>
   rw[hx] at h;have h':j=k:=Oj h;subst h';erw[_,Z,h2]
  | false =>
   rw[hx] at h;show xD hf h
theorem Cv {psc:A3}{x:va}{k:Bv}(h:scope.names.lookup x=some k): ∃k',(x6 scope psc).names.lookup x=some k'/\(k'=k\/(k= .free/\k'= .cell)):=by
 show xD (λy=>?_) h;by_cases c:(y.2 == zw && psc.kind == .function && psc.names.lookup y.1 == some .cell)=true
 .rw[NW c];have c':y.2= .free:=by
   rw[Oz,Oz] at c;show eq_of_beq c.1.1
  erw[Z,.inr ⟨c',Z⟩]
 .rw[NS c];erw[Z,.inl rfl]
theorem m6: ∀ {l:qx (va×Bv)}{x:va}{k:Bv},l.lookup x=some k->(x,k)∈l
 | [],_,_,h=>by simp at h
 | (n,j)::r,x,k,h=>by
  rw[Pd] at h;cases hx:x == n with
  | true =>
   rw[hx] at h;have h':j=k:=Oj h;rw[eq_of_beq hx,h'];show N6
  | false =>
   rw[hx] at h;show N4 _<|m6 h
theorem pA(hf: ∀x,(f x).1=x.1): ∀ {l:qx (va×Bv)}{x:va}{k:Bv},(l.map f).lookup x=some k-> ∃k',l.lookup x=some k'/\(f (x,k')).2=k
 | [],_,_,h=>by simp at h
 | (n,j)::r,x,k,h=>by
  have e1:((n,j)::r).map f=f (n,j)::r.map f:=rfl;rw[e1] at h;obtain⟨a,b,e⟩: ∃a b,f (n,j)=(a,b):=⟨_,_,Z⟩
  have h1:=hf (n,j);rw[e] at h1;have h1':a=n:=h1;subst h1';rw[e,Pd] at h;rw[Pd];cases hx:x == a with
  | true =>
   rw[hx] at h;have h':b=k:=Oj h;erw[j,Z,?_];rw[eq_of_beq hx,e];show h'
  | false =>
   rw[hx] at h;show pA hf h
theorem Dv {x:va}(h:(x6 scope psc).names.lookup x=some .cell\/(x6 scope psc).names.lookup x=some .free):scope.names.lookup x=some .free\/scope.names.lookup x=some .cell:=by
 have key: ∀k,(x6 scope psc).names.lookup x=some k->k= .cell\/k= .free->scope.names.lookup x=some .free\/scope.names.lookup x=some .cell:=λk hk h2=>by
  obtain⟨k',h1,h3⟩:=pA (λy=>by split <;> rfl) hk;by_cases c:(k' == zw && psc.kind == .function && psc.names.lookup x == some .cell)=true
  .rw[Oz,Oz] at c;rw[h1,eq_of_beq c.1.1];show .inl rfl
  .have h3':(if (k' == zw && psc.kind == .function && psc.names.lookup x == some .cell)=true then ((x,NameKind.cell):va×Bv) else (x,k')).2=k:=h3;rw[NS c] at h3';have e:k'=k:=h3';rw[h1,e];rcases h2 with h2 | h2
   .rw[h2]; show .inr rfl
   .rw[h2]; show .inl rfl
 rcases h with h | h
 .exact key _ h<|.inl rfl
 .exact key _ h<|.inr rfl
structure gX (psc scope:A3) (own frn:qx va):Prop where
 kind:scope.kind= .function
 cell: ∀y∈scope.names,y.2≠ .cell
 names: ∀y∈scope.names,y.2= .local->scope.names.lookup y.1=some .local
 free: ∀y∈scope.names,y.2= .free->psc.names.lookup y.1=some .cell\/psc.names.lookup y.1=some .free
 nd:(own++frn).Nodup
 frn: ∀x∈frn,scope.names.lookup x=some .free
def cW (own:qx va) (fr:qx u6) (O:St):St:=own.map (λ_=>none)++fr.map λj=>(O[j]?).getD none
def bq (X:Cx) (N':qx va) (scope:A3) (C:qA) (s2:rK) (H:Hp) (fp:qx qA):Cx :=
 { X with N:=N',s₀:=s2,H₀:=H,env:=compEnvC scope (c8 scope.names X.env.cells []) C X.env,outer:=X.stack,ex:=fp,fn:=λ_=>false,pn:=[],xe:=λ_ _=>zh }
section
variable {X:Cx}{R1:nE}{O:St}{H:Hp}{s:rK}
theorem Au {psc scope:A3}{own frn:qx va}{C:qA}{fp:qx qA}(S:gX psc scope own frn) (hp:X.env.scope=psc) (I:Inv X R1 O H s) (hfp: ∀b∈fp,cN X R1 H b) (hlt: ∀b∈fp,b < s.heap.objs.size) (hC:s.heap.objs.size<=C) :
  (bq X (own++frn) scope C s H fp).Ok:=by
 have sub: ∀x c,(c8 scope.names X.env.cells []).lookup x=some c->X.env.cells.lookup x=some c:=λx c h=>jT (λy d q=>by simp at q) h;have hs:=tG (scope:=scope) hp;show {
  mod:=I.ok.mod
  kind:=S.kind
  glob:=I.ok.glob
  blt:=I.ok.blt
  above:=hC
  inj:=λx y c h1 h2=>I.ok.inj x y c (sub x c h1) (sub y c h2)
  has:=λx h=>by
   have h':(relabel scope X.env).names.lookup x=some .cell\/(relabel scope X.env).names.lookup x=some .free:=h;rw[hs] at h';have hf:scope.names.lookup x=some .free:=by
    rcases Dv h' with q | q
    .exact q
    .exact wz rfl<|S.cell _<|m6 q
   have hm:=m6 hf;have hk:=S.free _ hm rfl;rw[<-hp] at hk;obtain⟨c,hc⟩:=I.ok.has x hk;erw[c,jW (λy d q=>by simp at q) hc<|.inl hm]
  cab:=λx c h=>by cases h
  hd:=I.ok.hd
  frames:=I.ok.frames
  stk:= .inl rfl
  exf:=λb hb=>⟨λe=>wz (hlt b hb) (Qf.mpr (by rw[e]; show hC)),λx c h=>(hfp b hb).2.2.2.2.1 x c (sub x c h)⟩
  bs:=I.bs
  bsz:=Ob I.ok.bsz I.sz
  noex:=λb o e hb=>by
   rcases (hfp b hb).2.2.2.1 with h | h
   .exact I.ok.noex b o e h
   .exact wz (Of e)<|Qf.mpr<|Ob I.ok.bsz h
  exfs:=λb hb q=>by
   rcases N5.mp (I.tH b q) with h | h
   .exact (hfp b hb).2.1 h
   .exact (hfp b hb).2.2.1 h
  fF:=I.stack
  frf:=I.uU }
end
section
variable {X:Cx}{R1:nE}{O:St}{H:Hp}{s:rK}
theorem BH {psc scope:A3}{own frn:qx va}{fr:qx u6}{C:qA}{fp:qx qA}{h1:yk}{tk:u6}{m:oR}(S:gX psc scope own frn) (hp:X.env.scope=psc) (I:Inv X R1 O H s)
  (hfr:fr.map (λj=>X.N[j]?)=frn.map some) (hfp: ∀b∈fp,cN X R1 H b) (hlt: ∀b∈fp,b < s.heap.objs.size) (hC:s.heap.objs.size<=C) (hn:h1.Ns C m) (kp: ∀b o,s.heap.get? b=some o->h1.get? b=some o) :
  Inv (bq X (own++frn) scope C s H fp) [] (cW own fr O) H { s with heap:=h1,toks:=tk }:=by
 have sub: ∀x c,(c8 scope.names X.env.cells []).lookup x=some c->X.env.cells.lookup x=some c:=λx c h=>jT (λy d q=>by simp at q) h;have hlen:fr.length=frn.length:=by
  have:=OI Dl hfr;simpa using this
 show {
  ok:=Au S hp I hfp hlt hC
  os:=rfl
  bare:=I.bare
  base:=Un.kept kp
  loc:=by
   erw[m,hn,λi x v hi hv _=>?_];have hi':(own++frn)[i]?=some x:=hi;have hv':(own.map (λ_=>(none:rW V))++fr.map λj=>(O[j]?).getD none)[i]?=some (some v):=hv;by_cases hlo:i < own.length
   .rw[O1 (by simpa using hlo),N7,NV hlo] at hv';cases hv'
   .have hle:own.length<=i:=RQ hlo;rw[O9 hle] at hi';rw[O9 (by simpa using hle),NR,N7] at hv';generalize hk:i - own.length=k at hi' hv';cases hj:fr[k]? with
    | none=>rw[hj] at hv'; cases hv'
    | some j =>
     rw[hj] at hv';have hv2:(O[j]?).getD none=some v:=Oj hv';have hσ:O[j]?=some (some v):=by
      cases e:O[j]? with
      | none=>rw[e] at hv2; cases hv2
      | some z=>rw[e] at hv2; show OI some hv2
     have hN:X.N[j]?=some x:=by
      have q:=OI (λl=>l[k]?) hfr;have q':(fr.map λj=>X.N[j]?)[k]?=(frn.map some)[k]?:=q;rw[N7,N7,hj,hi'] at q';show Oj q'
     have hx:x∈frn:=NU hi';have hf:=S.frn x hx;have hm:=m6 hf;have hkd:=S.free _ hm rfl;rw[<-hp] at hkd;have hvis:Ud X.env.scope x:=by
      rcases hkd with q | q
      .exact .inr<|.inl q
      .exact .inr<|.inr q
     obtain⟨m0,hn0,hl0⟩:=I.loc;obtain⟨u,ru,hlk⟩:=hl0 j x v hN hσ hvis;erw[u,ru,?_];have hkd':X.env.kindOf x=some .cell\/X.env.kindOf x=some .free:=hkd;rcases hlk with⟨q,_⟩ | ⟨_,c,hc,hcell⟩
     .rcases hkd' with z | z <;> (rw[q] at z; cases z)
     .show .inr ⟨?_,c,jW (λy d q=>by simp at q) hc<|.inl hm,hcell.keeps kp⟩;obtain⟨k',h1',h2'⟩:=Cv (psc:=psc) hf;have h3:Env.kindOf (compEnvC scope (c8 scope.names X.env.cells []) C X.env) x=some k':=by
       change (relabel scope X.env).names.lookup x=some k';rw[tG hp];show h1'
      rcases h2' with e | ⟨_,e⟩
      .right; rw[e] at h3; show h3
      .left; rw[e] at h3; show h3
  cell:=λx c h=>by
   obtain⟨v,hv⟩:=I.cell x c<|sub x c h;erw[v,hv.keeps kp]
  free:=I.hok.fresh hC
  freeC:=λx c h=>I.freeC x c (sub x c h)
  pin:=λp hp'=>by cases hp'
  hok:=I.hok.kept kp
  len:=by
   change (own.map (λ_=>(none:rW V))++fr.map λj=>(O[j]?).getD none).length=(own++frn).length;simp[hlen] }
end
section
variable {prog:tq}{w:sW}{A:uc}{R:Result->rK->Prop}{s:rK}
theorem CP {elt tg iter:tW}{ifs:qx tW}{scope:A3}{pos:Pos}{it acc:qT}{env:Env}(J:u6->rK->Prop)
  (turn: ∀n s,J n s->xA (model prog w) A (pyNext it) (λr s1=>match r with
   | none=>R (.ok .next) s1
   | some v=>xA (model prog w) A (El tg it v) (λ_ s2=>xA (model prog w) A (assign tg env v) (λ_ s3 =>
     xA (model prog w) A (forIn ifs true λc r=>if r=true then do let ok <-isTrue c env (eval c env); pure (B9 ok) else pure (B9 r)) (λok s4 =>
      if ok=true then xA (model prog w) A (eval elt env) (λx s5=>xA (model prog w) A (call (.builtin "list.append") [acc,x]) (λ_ s6=> ∃m,m < n/\J m s6) (λ_ _=>zh) s5) (λ_ _=>zh) s4
      else ∃m,m < n/\J m s4) (λ_ _=>zh) s3) (λ_ _=>zh) s2) (λ_ _=>zh) s1) (λ_ _=>zh) s)
  (n:u6) (h:J n s):Eb (model prog w) A (.compLoop (.ListComp elt [⟨tg,iter,ifs,0⟩] scope pos) 0 it acc env) R s:=by
 show codeAny_loop rfl J (λn s hJ=>?_) n h;change xA (model prog w) A ((compTurn (.ListComp elt [⟨tg,iter,ifs,0⟩] scope pos) 0 it acc env).onRaise (λx=>do Vv x env; theTreesLotGoes x)) _ _ s;show wpAny_noted ?_;rw[compTurn_list];show N9<|PV<|N9<|Pa (turn n s hJ) (λr s1 h1=>?_) λ_ _ f=>f.elim;cases r with
 | none=>show OB h1
 | some v =>
  show N9<|Pa h1 (λ_ s2 h2=>?_) λ_ _ f=>f.elim;show N9<|Pa h2 (λ_ s3 h3=>N9<|Pa h3 (λok s4 h4=>?_) λ_ _ f=>f.elim) λ_ _ f=>f.elim;cases ok with
  | false=>show OB ⟨Z,h4⟩
  | true=>show N9 (N9 (Pa h4 (λx s5 h5=>N9 (Pa h5 (λ_ s6 h6=>OB (OB ⟨Z,h6⟩)) λ_ _ f=>f.elim)) λ_ _ f=>f.elim))
end
def gG:TT:=λ_ H Q=>Q true H
def Tr (X:Cx) (ifs:qx tW) (t:TT):Prop :=
 ∀(R1:nE) (s:rK) (O:St) (H:Hp) (Q:yW->Hp->Prop),Inv X R1 O H s->t O H Q ->
  xA (model X.prog X.w) X.A (forIn ifs true λc r=>if r=true then do let ok <-isTrue c X.env (eval c X.env); pure (B9 ok) else pure (B9 r)) (TP X R1 O Q) X.xe s
variable{X:Cx}
theorem iL:Tr X [] gG:=λ_ _ _ H _ I h=>wpAny_tests_nil ⟨H,I,h⟩
theorem kT {c:tW}{t:TT}(h:PT X c t):Tr X [c] t:=λR1 s O H Q I q=>wpAny_tests_one (h R1 s O H Q I q)
def kI (J:It) (g:TG) (tt:TT) (te:TE) (own:qx va) (fr:qx u6) (O:St) (H:Hp) (Q:VK):Prop :=
 ∃W:u6->u6->qx V->Hp->Prop,(∃m,W 0 m [] H)/\ ∀i m ys H2,W i m ys H2 ->
  (J.stop i H2/\ys.length<=sizeLine/\ ∀p,H2 p=none->Q (.ref p) (upd H2 p (.lst ys))) \/
  (J.go i H2/\ys.length < sizeLine/\ ∀x H3,J.yld i H2 x H3->g x (cW own fr O) H3 λO4 H4=>tt O4 H4 λb H5 =>
   if b=true then te O4 H5 λy H6=> ∃m',m' < m/\W (i+1) m' (ys++[y]) H6 else ∃m',m' < m/\W (i+1) m' ys H5)
def n8 (wi:TI) (g:TG) (tt:TT) (te:TE) (own:qx va) (fr:qx u6):TE:=λO H Q=>wi O H λJ H1=>kI J g tt te own fr O H1 Q
def ko (n:u6) (g:TG):Prop:= ∀x O H Q,g x O H Q->g x O H λO' H'=>(O'.length=O.length/\ ∀j,n<=j->O'[j]?=O[j]?)/\Q O' H'
def wY (n:u6) (g:S8):Prop:= ∀xs O H Q,g xs O H Q->g xs O H λO' H'=>(O'.length=O.length/\ ∀j,n<=j->O'[j]?=O[j]?)/\Q O' H'
variable{n:u6}
theorem pW {i:u6}(h:i < n):ko n (aK i):=λx O H Q q =>
 ⟨⟨P8,λj hj=>Ri Y⟩,q⟩
theorem Jk:wY n Cu:=λxs O H Q ⟨e,q⟩=>⟨e,⟨Z,λ_ _=>rfl⟩,q⟩
def A1 (g:TG):Prop:= ∀x O H (Q Q':St->Hp->Prop),(∀O' H',Q O' H'->Q' O' H')->g x O H Q->g x O H Q'
def t5 (g:S8):Prop:= ∀xs O H (Q Q':St->Hp->Prop),(∀O' H',Q O' H'->Q' O' H')->g xs O H Q->g xs O H Q'
theorem uI {i:u6}:A1 (aK i):=λx O H Q Q' h q=>h _ _ q
theorem AG:t5 Cu:=λxs O H Q Q' h ⟨e,q⟩=>⟨e,h _ _ q⟩
variable{gs:S8}
theorem Fc {g:TG}(h1:A1 g) (h2:t5 gs):t5 (rX g gs):=λxs O H Q Q' h ⟨v,r,e,q⟩ =>
 ⟨v,r,e,h1 _ _ _ _ _ (λO' H' z=>h2 _ _ _ _ _ h z) q⟩
theorem xm {g:TG}(h1:ko n g) (m1:A1 g) (h2:wY n gs) (m2:t5 gs):wY n (rX g gs):=λxs O H Q ⟨v,r,e,q⟩=>by
 erw[v,r,e,m1 _ _ _ _ _ (λO' H' z=>?_)<|h1 _ _ _ _ q];obtain⟨⟨l1,k1⟩,z⟩:=z;show m2 _ _ _ _ _ (λO2 H2 z2=>?_)<|h2 _ _ _ _ z;obtain⟨⟨l2,k2⟩,z2⟩:=z2;erw[⟨l2.trans l1,λj hj=>(k2 j hj).trans<|k1 j hj⟩,z2]
variable{K:R7}
theorem KG {k:u6}(h:wY n gs):ko n (nF K k gs):=λx O H Q ⟨a,xs,e,hq,hl,q⟩=>⟨a,xs,e,hq,hl,h _ _ _ _ q⟩
structure BO (cond:Cx->Prop) (P:tq) (w:sW) (K:R7) (tg:tW) (J:It) (fp:qx qA) (it:qA) (tn:u6->yk->Prop):Prop where
 mem:it∈fp
 obj: ∀i h,tn i h-> ∀b∈fp,∃o,h.get? b=some o/\ ∀v,o.data≠ .cell v
 keep: ∀i h h',tn i h->(∀b∈fp,∀o,h.get? b=some o->h'.get? b=some o)->tn i h'
 item: ∀(X:Cx),X.prog=P->X.w=w->X.K=K->cond X-> ∀(i:u6) (R1:nE) (s:rK) (O:St) (H:Hp) (E:oF),Inv X R1 O H s->(∀b∈fp,cN X R1 H b)->tn i s.heap->J.go i H ->
  xA (model P w) X.A (pyNext (.ref it)) (λr s1=> ∃u,r=some u /\
   xA (model P w) X.A (El tg (.ref it) u) (λ_ s2=> ∃x H',Inv X R1 O H' s2/\RelV x u/\J.yld i H x H'/\tn (i+1) s2.heap/\ ∀b∈fp,H' b=none) E s1) E s
 done: ∀(X:Cx),X.prog=P->X.w=w->X.K=K->cond X-> ∀(i:u6) (R1:nE) (s:rK) (O:St) (H:Hp) (E:oF),Inv X R1 O H s->(∀b∈fp,cN X R1 H b)->tn i s.heap->J.stop i H ->
  xA (model P w) X.A (pyNext (.ref it)) (λr s1=>r=none/\Inv X R1 O H s1) E s
 self: ∀(A:uc) (i:u6) (s:rK) (Q:oF) (E:oF),tn i s.heap->Q (.ref it) s->xA (model P w) A (pyIter (.ref it)) Q E s
variable{P:tq}{w:sW}{tg:tW}{J:It}
theorem Turn.c {fp:qx qA}{it:qA}{tn:u6->yk->Prop}(T:Turn P w K tg J fp it tn):BO (λX=>X.calm=true) P w K tg J fp it tn:=⟨T.mem,T.obj,T.keep,T.item,T.done,T.self⟩
def Ur (cond:Cx->Prop) (X:Cx) (tg iter:tW) (wi:TI):Prop :=
 ∀(R1:nE) (s:rK) (O:St) (H:Hp) (R:It->Hp->Prop),Inv X R1 O H s->wi O H R ->
  xA (model X.prog X.w) X.A (eval iter X.env) (λv s1=>xA (model X.prog X.w) X.A (pyIter v) (λitv s2 =>
   ∃(it:qA) (fp:qx qA) (tn:u6->yk->Prop) (J:It) (H':Hp),itv= .ref it/\Inv X R1 O H' s2/\BO cond X.prog X.w X.K tg J fp it tn/\tn 0 s2.heap/\(∀b∈fp,cN X R1 H' b)/\R J H') X.xe s1) X.xe s
theorem PI.c {iter:tW}{wi:TI}(h:PI X tg iter wi):Ur (λX=>X.calm=true) X tg iter wi:=λR1 s O H R I q =>
 Sf (h R1 s O H R I q) λv s1 h1=>Sf h1 λitv s2 ⟨it,fp,tn,J,H',e,I',T,a,b,c⟩=>⟨it,fp,tn,J,H',e,I',T.c,a,b,c⟩
def gu (its:qx qT) (n:u6):Obj:={ cls:= .type "list",data:= .seq its.toArray n }
section
variable {X:Cx}{R1:nE}{O:St}{H:Hp}{s:rK}
theorem GV {scope:A3}{own frn:qx va}{fr:qx u6}{C D it:qA}{fp:qx qA}{tg elt iter:tW}{ifs:qx tW}{pos:Pos}{tn:u6->yk->Prop}{J:It}{g:TG}{tt:TT}{te:TE}{Q:VK}{s4:rK}{W:u6->u6->qx V->Hp->Prop}{m0:u6}{R:Result->rK->Prop}{cond:Cx->Prop}
  (hc:cond (bq X (own++frn) scope C s H fp)) (go:ko own.length g) (T:BO cond X.prog X.w X.K tg J fp it tn) (hD:s.heap.objs.size<=D) (hDC:D≠C) (hDf:D∉fp)
  (hg:PG (bq X (own++frn) scope C s H fp) tg g) (ht:Tr (bq X (own++frn) scope C s H fp) ifs tt) (he:PE (bq X (own++frn) scope C s H fp) elt te)
  (I:Inv (bq X (own++frn) scope C s H fp) [] (cW own fr O) H s4) (st:tn 0 s4.heap) (hfp: ∀b∈fp,cN (bq X (own++frn) scope C s H fp) [] H b) (hacc:s4.heap.get? D=some (gu [] 0)) (hDn:H D=none)
  (w0:W 0 m0 [] H) (turn: ∀i m ys H2,W i m ys H2 ->
   (J.stop i H2/\ys.length<=sizeLine/\ ∀p,H2 p=none->Q (.ref p) (upd H2 p (.lst ys))) \/
   (J.go i H2/\ys.length < sizeLine/\ ∀x H3,J.yld i H2 x H3->g x (cW own fr O) H3 λO4 H4=>tt O4 H4 λb H5 =>
    if b=true then te O4 H5 λy H6=> ∃m',m' < m/\W (i+1) m' (ys++[y]) H6 else ∃m',m' < m/\W (i+1) m' ys H5))
  (fin: ∀s5 H5 ys its n O5,Inv (bq X (own++frn) scope C s H fp) [] O5 H5 s5->s5.heap.get? D=some (gu its n)->Vals ys its->ys.length<=sizeLine->H5 D=none->Q (.ref D) (upd H5 D (.lst ys))->R (.ok .next) s5) :
  Eb (model X.prog X.w) X.A (.compLoop (.ListComp elt [⟨tg,iter,ifs,0⟩] scope pos) 0 (.ref it) (.ref D) (compEnvC scope (c8 scope.names X.env.cells []) C X.env)) R s4:=by
 have stat: ∀ {H':Hp}{pl:nE},(∀b∈fp,H' b=none)->(∀p∈pl,p.1∉fp)-> ∀b∈fp,cN (bq X (own++frn) scope C s H fp) pl H' b:=λ{H' pl} hn hpl b hb=>by
  obtain⟨_,f1,f2,f3,f4,_⟩:=hfp b hb;erw[hn b hb,f1,f2,f3,f4,λp hp z=>?_];have hp':p∈pl:=hp;show hpl p hp' (by rw[z]; show hb)
 show CP (env:=compEnvC scope (c8 scope.names X.env.cells []) C X.env) (λn s'=> ∃i ys H' its k,Inv (bq X (own++frn) scope C s H fp) [] (cW own fr O) H' s'/\tn i s'.heap/\(∀b∈fp,H' b=none)/\s'.heap.get? D=some (gu its k)/\H' D=none/\Vals ys its/\W i n ys H') ?_ m0
  ⟨0,[],H,[],0,I,st,λb hb=>(hfp b hb).1,hacc,hDn,.nil,w0⟩
 rintro n s3 ⟨i,ys,H3,its,k,I3,st3,fr3,ha3,hD3,rv3,w3⟩;have hne: ∀p∈[(D,gu its k)],p.1∉fp:=λp hp=>by
  rcases NZ.mp hp with rfl
  show hDf
 have hnofs:D∉(bq X (own++frn) scope C s H fp).fs:=λhb=>by
  obtain⟨_,o,ho,_⟩:=I3.ok.fF.mem hb;show wz (Of ho)<|Qf.mpr hD
 have I3p:Inv (bq X (own++frn) scope C s H fp) [(D,gu its k)] (cW own fr O) H3 s3:=I3.jy λp hp=>by
  rcases NZ.mp hp with rfl
  erw[ha3,hD3,hDC,hnofs,λv z=>by cases z]
 have back: ∀ {O':St},(O'.length=(cW own fr O).length/\ ∀j,own.length<=j->O'[j]?=(cW own fr O)[j]?)-> ∀(j:u6) v,(cW own fr O)[j]?=some (some v)->O'[j]?=some (some v):=λ{O'} h j v e=>by
  by_cases hj:j < own.length
  .unfold cW at e;rw[O1 (by simpa using hj),N7,NV hj] at e;cases e
  .rw[h.2 j<|RQ hj];show e
 rcases turn i n ys H3 w3 with⟨stop,hz,q⟩ | ⟨hgo,hz,step⟩
 .show Sf (T.done (bq X (own++frn) scope C s H fp) rfl rfl rfl hc i _ s3 _ H3 _ I3p (stat fr3 hne) st3 stop) λr s4 ⟨hr,I4⟩=>?_;subst hr;show fin s4 H3 ys its k _ (I4.jy λp hp=>by cases hp) (I4.pin (D,gu its k)<|Ot _ N6).1 rv3 hz hD3<|q D hD3
 .show Sf (T.item (bq X (own++frn) scope C s H fp) rfl rfl rfl hc i _ s3 _ H3 _ I3p (stat fr3 hne) st3 hgo) λr s4 ⟨u,hr,h4⟩=>?_;subst hr;show Sf h4 λ_ s5 ⟨x,H5,I5,r5,y5,st5,fr5⟩=>?_;have I5':=I5.pinned (stat fr5 hne)<|T.obj _ _ st5;have pinD: ∀ {O':St}{H':Hp}{s':rK},Inv (bq X (own++frn) scope C s H fp) ([(D,gu its k)]++oY fp s5.heap) O' H' s'->s'.heap.get? D=some (gu its k)/\H' D=none/\tn (i+1) s'.heap/\ ∀b∈fp,H' b=none:=λ{O' H' s'} I'=>by
   have p1:=I'.pin (D,gu its k)<|Ot _<|Oy _ N6;erw[p1.1,p1.2.1,T.keep _ _ _ st5 λb hb o e=>(I'.pin (b,o)<|Ot _<|Ot _<|kG hb e).1,λb hb=>?_];obtain⟨o,e,d⟩:=T.obj _ _ st5 b hb;show (I'.pin (b,o)<|Ot _<|Ot _<|kG hb e).2.1
  show Sf (hg _ s5 _ H5 x u _ I5' r5<|go _ _ _ _<|step x H5 y5) λ_ s6 ⟨O6,H6,I6,hk6,q6⟩=>?_;show Sf (ht _ s6 O6 H6 _ I6 q6) λb s7 ⟨H7,I7,q7⟩=>?_;cases b with
  | false =>
   rw[NS Ol] at q7 ⊢;obtain⟨m',hm,w7⟩:=q7;obtain⟨a7,d7,t7,f7⟩:=pinD I7;erw[m',hm,i+1,ys,H7,its,k,(I7.weak hk6.1.symm<|back hk6).jy (λp hp=>by cases hp),t7,f7,a7,d7,rv3,w7]
  | true =>
   rw[NW rfl] at q7 ⊢;show Sf (he _ s7 O6 H7 _ I7 q7) λv s8 ⟨y,H8,I8,r8,m',hm,w8⟩=>?_;obtain⟨a8,d8,t8,f8⟩:=pinD I8;show PF V6 ⟨_,a8,Z⟩ VO (VL _ _) (Wh D its.toArray k v (by rw[Og,<-rv3.length]; lia)) ⟨a8,?_⟩;obtain⟨n9,q9⟩: ∃n9,(s8.heap.update D (C4 (·.push v))).get? D=some (gu (its++[v]) n9):=by
    have q9:=Wn a8 (·.push v);have e10:(its.toArray.push v)=(its++[v]).toArray:=uD;rw[e10] at q9;erw[_,q9]
   have e9: ∀b o,b≠D->s8.heap.get? b=some o->(s8.heap.update D (C4 (·.push v))).get? b=some o:=λb o hb e=>(OZ s8.heap (C4 (·.push v))<|Ox hb).trans e;have I8':Inv (bq X (own++frn) scope C s H fp) [] (cW own fr O) H8 s8:=(I8.weak hk6.1.symm<|back hk6).jy λp hp=>by cases hp
   erw[m',hm,i+1,ys++[y],H8,its++[v],n9,I8'.turned (t':=s8.toks) e9 d8 hDC (.inr hD) (λz c hc' e=>?_) (λp hp=>by cases hp),T.keep _ _ _ t8 λb hb o e=>e9 b o (λz=>hDf (by rw[<-z]; show hb)) e,f8,q9,d8,rv3.append<|.cons r8 .nil,w8];obtain⟨v',o,ho,hd⟩:=I8'.cell z c hc';rw[e,a8] at ho;cases ho;cases hd
end
section
variable {X:Cx}{R1:nE}{O:St}{H:Hp}{s:rK}
variable{scope:A3}
theorem comp_back {N':qx va}{C D:qA}{fp:qx qA}{H5:Hp}{s5:rK}{O5:St}{ys:qx V}{its:qx qT}{n:u6}{h':yk}(I:Inv X R1 O H s) (hfp: ∀b∈fp,cN X R1 H b) (hC:s.heap.objs.size<=C) (hD:s.heap.objs.size<=D) (hDC:D≠C)
  (I5:Inv (bq X N' scope C s H fp) [] O5 H5 s5) (ha:s5.heap.get? D=some (gu its n)) (rv:Vals ys its) (hz:ys.length<=sizeLine) (hDn:H5 D=none) (sb:EY C s5.heap h') :
  Inv X R1 O (upd H5 D (.lst ys)) { s5 with heap:=h' }:=by
 have u5:Un (S2 X.stack) fp H H5 s.heap s5.heap:=I5.base;have nC: ∀b o,s.heap.get? b=some o->b≠C:=λb o e z=>wz (Of e)<|Qf.mpr (by rw[z]; show hC);have nD: ∀b o,s.heap.get? b=some o->b≠D:=λb o e z=>wz (Of e)<|Qf.mpr (by rw[z]; show hD);have tD: ∀b o,H5 b=some o->b≠D:=λb o e z=>by rw[z,hDn] at e; cases e
 have fC:H5 C=none:=I5.free;show I.Cj (ch:=fp) (H':=upd H5 D<|.lst ys) I5.os ?_ ?_ I5.bare λb hb=>⟨(hfp b hb).2.2.2.1,(hfp b hb).2.1,λx c hc=>(hfp b hb).2.2.2.2.1 x c hc,(hfp b hb).2.2.2.2.2⟩
 .exact {
   keep:=λb o e h1 h2 h3=>sb.extBut b o (nC b o e) (u5.keep b o e h1 h2 h3)
   slot:=λb o e h1 h2 h3=>by
    obtain⟨sl,q⟩:=u5.slot b o e h1 h2 h3;erw[sl,sb.extBut b _ (nC b o e) q]
   free:=λb o e h1 h3=>by
    rw[ah<|nD b o e];show u5.free b o e h1 h3
   there:=λb o e h3=>by
    obtain⟨o',q⟩:=u5.there b o e h3;erw[o',sb.extBut b _ (nC b o e) q]
   tups:=λb xs e=>by
    have q:=u5.tups b xs e;rw[ah<|tD b _ q];show q
   frzs:=λb o u e=>by
    have q:=u5.frzs b o u e;rw[ah<|tD b _ q];show q
   tbls:=λb ps e=>by
    obtain⟨more,q⟩:=u5.tbls b ps e;erw[more,?_];rw[ah (tD b _ q)];show q }
 .intro a o e;by_cases hd:a=D
  .subst hd;rw[af] at e;cases e;erw[hz,its,n,rv,sb.extBut a _ hDC ha]
  .rw[ah hd] at e;show (I5.hok a o e).mj (λb u hb q=>sb.extBut b u (λz=>?_) q) (λb hb=>by rw[ah<|tD b _ hb]; show hb) (λb xs hb=>by rw[ah<|tD b _ hb]; show hb);rcases hb with hb | hb
   .rw[z] at hb;rw[<-hb,fC] at e;cases e
   .rw[z,fC] at hb;cases hb
variable{psc:A3}{own frn:qx va}{tg elt iter:tW}{ifs:qx tW}{pos:Pos}{wi:TI}{tt:TT}{te:TE}{cond:Cx->Prop}
theorem vB {fr:qx u6}{g:TG}{Q:VK}{RR:qT->qA->Result->rK->Prop}(S:gX psc scope own frn) (hp:X.env.scope=psc) (hfr:fr.map (λj=>X.N[j]?)=frn.map some)
  (hc: ∀C s2 H2 fp,cond (bq X (own++frn) scope C s2 H2 fp)) (go:ko own.length g) (hi:Ur cond X tg iter wi)
  (hb: ∀C s2 H2 fp,PG (bq X (own++frn) scope C s2 H2 fp) tg g/\Tr (bq X (own++frn) scope C s2 H2 fp) ifs tt/\PE (bq X (own++frn) scope C s2 H2 fp) elt te)
  (I:Inv X R1 O H s) (h:n8 wi g tt te own fr O H Q)
  (fin: ∀C D s5 H6 m,Inv X R1 O H6 s5->(∀h',EY C s5.heap h'->Inv X R1 O H6 { s5 with heap:=h' })->s5.heap.Ns C m->H6 C=none->C≠X.env.locals->X.s₀.heap.objs.size<=C->(∀x c,X.env.cells.lookup x=some c->c≠C)->(∀p∈X.pn++R1,p.1≠C)->Q (.ref D) H6->RR (.ref D) C (.ok .next) s5) :
  xA (model X.prog X.w) X.A (eval iter X.env) (λx s₁=>xA (model X.prog X.w) X.A (pyIter x) (λit s₂=>xA (model X.prog X.w) X.A (newList []) (λacc s₃=>xA (model X.prog X.w) X.A (newFunctionEnv scope X.env.globals (c8 scope.names X.env.cells []) [] X.env.qual none .none (some X.env)) (λcenv s₄ =>
   Eb (model X.prog X.w) X.A (.compStart (.ListComp elt [⟨tg,iter,ifs,0⟩] scope pos) 0 it acc { cenv with scope:=relabel scope X.env }) (RR acc cenv.locals) s₄) X.xe s₃) X.xe s₂) X.xe s₁) X.xe s:=by
 show Sf (hi R1 s O H _ I h) λv s1 h1=>Sf h1 λitv s2 h2=>?_;obtain⟨it,fp,tn,J,H2,rfl,I2,T,st2,f2,W,⟨m0,w0⟩,turn⟩:=h2;show QX (wpAny_newFunctionEnv S.cell (by intro y hy; simp at hy) (λh1 hns1 hsb1=>?_) S.kind);dsimp only at hns1 hsb1 ⊢;generalize hH:s2.heap.push { cls:= .type "list",dict:=none,data:= .seq ([]:qx qT).toArray }=HH at hns1 hsb1 ⊢;have hC:HH.objs.size=s2.heap.objs.size+1:=by rw[<-hH,Pp]
 have hDC:s2.heap.objs.size≠HH.objs.size:=by rw[hC]; show OC<|PY _
 have hCle:s2.heap.objs.size<=HH.objs.size:=by rw[hC]; show Pe _
 have kp: ∀b o,s2.heap.get? b=some o->h1.get? b=some o:=λb o e =>
  hsb1.extBut b o (λz=>wz (Of e) (Qf.mpr (by rw[z]; show hCle))) (N3 _ (hH▸N3 _ e))
 have ha:h1.get? s2.heap.objs.size=some (gu [] 0):=hsb1.extBut _ _ hDC<|N3 _<|hH▸OD _ rfl;have hlt: ∀b∈fp,b < s2.heap.objs.size:=λb hb=>by
  obtain⟨o,e,_⟩:=T.obj _ _ st2 b hb;show Of e
 obtain⟨b1,b2,b3⟩:=hb HH.objs.size s2 H2 fp;have IS: ∀tk,Inv (bq X (own++frn) scope HH.objs.size s2 H2 fp) [] (cW own fr O) H2 { s2 with heap:=h1,toks:=tk }:=λtk=>BH S hp I2 hfr f2 hlt hCle hns1 kp;have st3:tn 0 h1:=T.keep _ _ _ st2 λb _ o e=>kp b o e;have okc:=Au S hp I2 f2 hlt hCle;have fp3: ∀b∈fp,cN (bq X (own++frn) scope HH.objs.size s2 H2 fp) [] H2 b:=λb hb=>⟨(f2 b hb).1,(okc.exf b hb).1,okc.exfs b hb,.inl hb,(okc.exf b hb).2,λp hp'=>by cases hp'⟩
 have loop: ∀tk,Eb (model X.prog X.w) X.A (.compLoop (.ListComp elt [⟨tg,iter,ifs,0⟩] scope pos) 0 (.ref it) (.ref s2.heap.objs.size)<|compEnvC scope (c8 scope.names X.env.cells []) HH.objs.size X.env)
   (RR (.ref s2.heap.objs.size) HH.objs.size) { s2 with heap:=h1,toks:=tk }:=λtk=>by
  show GV (hc _ _ _ _) go T (N0 _) hDC (λz=>wz (hlt _ z)<|PB _) b1 b2 b3 (IS tk) st3 fp3 ha I2.fresh w0 turn λs5 H5 ys its n O5 I5 a5 rv hz d5 q=>?_;obtain⟨m5,n5,_⟩:=I5.loc;have fC:=I2.g9 (b:=HH.objs.size) (H':=H2) hCle<|I2.hok.fresh hCle;have f5:H5 HH.objs.size=none:=I5.free;show fin HH.objs.size _ s5 _ m5 (comp_back I2 f2 hCle (N0 _) hDC I5 a5 rv hz d5<|.refl ..) (λh' sb=>comp_back I2 f2 hCle (N0 _) hDC I5 a5 rv hz d5 sb) n5 ?_ fC.2.1 (Ob I2.sz hCle) fC.2.2.2.2.1 fC.2.2.2.2.2 q;rw[ah<|Ox hDC];show f5
 show codeAny_compStart_list (loop _)<|T.self _ _ _ _ _ st3<|loop _
theorem Fw {fr:qx u6}{g:TG}(S:gX psc scope own frn) (hp:X.env.scope=psc) (hfr:fr.map (λj=>X.N[j]?)=frn.map some)
  (hc: ∀C s2 H2 fp,cond (bq X (own++frn) scope C s2 H2 fp)) (go:ko own.length g) (hi:Ur cond X tg iter wi)
  (hb: ∀C s2 H2 fp,PG (bq X (own++frn) scope C s2 H2 fp) tg g/\Tr (bq X (own++frn) scope C s2 H2 fp) ifs tt/\PE (bq X (own++frn) scope C s2 H2 fp) elt te)
  (hs: ∀x,AX iter X.env x=pure x:=by intro _; rfl):PE X (.ListComp elt [⟨tg,iter,ifs,0⟩] scope pos) (n8 wi g tt te own fr):=by
 intro R1 s O H Q I h;have hclos:closureFor scope X.env=pure (c8 scope.names X.env.cells []):=oo λx hx hk=>I.ok.has x.1 (by have:=S.free x hx hk; rw[<-hp] at this; show this);rw[eval_ListComp];show wpAny_comprehension_free (use:=none) rfl hs hclos S.kind S.names<|vB (RR:=λacc C=>compPost (model X.prog X.w) X.A X.xe none (EP X R1 O Q) acc C) S hp hfr hc go hi hb I h ?_;intro C D s5 H6 m5 I5 I5' n5 _ _ _ _ _ q;erw[m5,n5,λh' sb=>⟨.ref D,H6,I5' h' sb,Z,q⟩]
theorem Jq {fr:qx u6}{g:TG}(S:gX psc scope own frn) (hp:X.env.scope=psc) (hfr:fr.map (λj=>X.N[j]?)=frn.map some)
  (hc:X.calm=true) (go:ko own.length g) (hi:PI X tg iter wi)
  (hb: ∀C s2 H2 fp,PG (bq X (own++frn) scope C s2 H2 fp) tg g/\Tr (bq X (own++frn) scope C s2 H2 fp) ifs tt/\PE (bq X (own++frn) scope C s2 H2 fp) elt te)
  (hs: ∀x,AX iter X.env x=pure x:=by intro _; rfl):PE X (.ListComp elt [⟨tg,iter,ifs,0⟩] scope pos) (n8 wi g tt te own fr):=Fw S hp hfr (λ_ _ _ _=>hc) go hi.c hb hs
theorem HP {i:u6}{y:va}{fr:qx u6}{py spos:Pos}{g:TG}(hN:X.N.Nodup) (hy:X.N[i]?=some y) (hl:Loc X.env.scope y) (S:gX psc scope own frn) (hp:X.env.scope=psc) (hfr:fr.map (λj=>X.N[j]?)=frn.map some)
  (hc:X.calm=true) (go:ko own.length g) (hi:PI X tg iter wi)
  (hb: ∀C s2 H2 fp,PG (bq X (own++frn) scope C s2 H2 fp) tg g/\Tr (bq X (own++frn) scope C s2 H2 fp) ifs tt/\PE (bq X (own++frn) scope C s2 H2 fp) elt te)
  (hsw:HW (.ListComp elt [⟨tg,iter,ifs,0⟩] scope pos) (some (.Name y py)) spos.line X.env=pure true:=by rfl)
  (hs: ∀x,AX iter X.env x=pure x:=by intro _; rfl)
  (hf:X.fn y=true\/X.env.scope.names.lookup y=some .local:=by first | show .inl rfl | show .inr rfl | assumption) :
  PS X (.Assign [.Name y py] (.ListComp elt [⟨tg,iter,ifs,0⟩] scope pos) spos) (xu (n8 wi g tt te own fr) (aK i)):=by
 intro R1 s O H E I h;have hclos:closureFor scope X.env=pure (c8 scope.names X.env.cells []):=oo λx hx hk=>I.ok.has x.1 (by have:=S.free x hx hk; rw[<-hp] at this; show this);rw[exec_Assign_Name_used _ _ _ _ hsw];show N9 (PV (N9 ?_));change xA _ X.A (do let _ <-comprehension (.ListComp elt [⟨tg,iter,ifs,0⟩] scope pos) scope X.env _ (newList []) false (eval iter X.env) (some (assign (.Name y py) X.env))) _ _ s;show N9 (Pa (wpAny_comprehension_free (use:=some (assign (.Name y py) X.env)) (Q:=λ_ s'=>SP X R1 E .next s') rfl hs hclos S.kind S.names (vB (Q:=λv H'=>E.nx (O.set i (some v)) H')
  (RR:=λacc C=>compPost (model X.prog X.w) X.A X.xe (some (assign (.Name y py) X.env)) (λ_ s'=>SP X R1 E .next s') acc C) S hp hfr (cond:=λX=>X.calm=true) (λ_ _ _ _=>hc) go hi.c hb I h ?_)) (λ_ s' hq=>OB (OB hq)) λ_ _ e=>e)
 intro C D s5 H6 m5 I5 _ n5 f1 f2 f3 f4 f5 q;change xA _ X.A (assign (.Name y py) X.env<|.ref D) _ _ _;show wpAny_assign_Name<|vP (v:= .ref D) I5 hN hy hl rfl (λs6 I6 ⟨a,sb,ha⟩=>?_) hf;have hCa:C≠a:=by
  rcases ha with rfl | e
  .exact f2
  .exact λz=>f4 _ _ e z.symm
 erw[m5,n5.sameBut sb hCa,λh' sb'=>⟨_,H6,I6.turned (t':=s6.toks) (it:=C) (λb o hb e=>sb'.extBut b o hb e) f1 f2 (.inr f3) f4 f5,q⟩]
end
def TY (z:va):It:=⟨λi _=>i < z.cps.size,λi H x H'=>H'=H/\ ∃c,z.cps[i]?=some c/\x= .str ⟨#[c]⟩,λi _=>z.cps.size<=i⟩
theorem EA(z:va) (t:Tok) (it:qA):Turn P w K tg (TY z) [it] it (λi h=>h.IsStrIter it "str_ascii_iterator" z t i) where
 mem:=by simp
 obj:=λi h ⟨o,e,c,d⟩ b hb=>by
  rcases NZ.mp hb with rfl
  erw[o,e,λv y=>by rw[d] at y; cases y]
 keep:=λi h h' ⟨o,e,r⟩ k=>⟨o,k it uD o e,r⟩
 item:=by
  intro X hP hw hK hc i R1 s O H E I hf st hg;subst hP hw hK;obtain⟨f0,f1,f2,f3,f4,f5⟩:=hf it uD;have hg:i < z.cps.size:=hg;show wpAny_pyNext_ascii_item st (c:=z.cps[i]'hg) (Qg hg) λh' st' sb=>?_;have I1:Inv X R1 O H { s with heap:=h',toks:=s.toks+1 }:=I.turned (λb o hb e=>(sb.2 b hb).trans e) f0 f1 f3 f4 f5;obtain⟨o,e,c,d⟩:=id st';erw[_,Z,tT (s:={ s with heap:=h',toks:=s.toks+1 }) e c d aS ⟨.str ⟨#[z.cps[i]'hg]⟩,H,I1,⟨_,Z⟩,⟨Z,_,Qg hg,Z⟩,st',λb hb=>(hf b hb).1⟩]
 done:=by
  intro X hP hw hK hc i R1 s O H E I hf st hg;subst hP hw hK;obtain⟨f0,f1,f2,f3,f4,f5⟩:=hf it uD;show wpAny_pyNext_ascii_end (I.ok.hd hc) st (Vy hg) λh' eb=>⟨Z,I.turned (t':=s.toks) (λb o hb e=>eb b o hb e) f0 f1 f3 f4 f5⟩
 self:=λ_ _ _ _ _ st h=>wpAny_pyIter_striter_ascii st h
theorem EN(z:va) (t:Tok) (it:qA):Turn P w K tg (TY z) [it] it (λi h=>h.IsStrIter it "str_iterator" z t i) where
 mem:=by simp
 obj:=λi h ⟨o,e,c,d⟩ b hb=>by
  rcases NZ.mp hb with rfl
  erw[o,e,λv y=>by rw[d] at y; cases y]
 keep:=λi h h' ⟨o,e,r⟩ k=>⟨o,k it uD o e,r⟩
 item:=by
  intro X hP hw hK hc i R1 s O H E I hf st hg;subst hP hw hK;obtain⟨f0,f1,f2,f3,f4,f5⟩:=hf it uD;have hg:i < z.cps.size:=hg;show wpAny_pyNext_wide_item st (c:=z.cps[i]'hg) (Qg hg) λh' st' sb=>?_;have I1:Inv X R1 O H { s with heap:=h',toks:=s.toks+1 }:=I.turned (λb o hb e=>(sb.2 b hb).trans e) f0 f1 f3 f4 f5;obtain⟨o,e,c,d⟩:=id st';erw[_,Z,tT (s:={ s with heap:=h',toks:=s.toks+1 }) e c d aS ⟨.str ⟨#[z.cps[i]'hg]⟩,H,I1,⟨_,Z⟩,⟨Z,_,Qg hg,Z⟩,st',λb hb=>(hf b hb).1⟩]
 done:=by
  intro X hP hw hK hc i R1 s O H E I hf st hg;subst hP hw hK;obtain⟨f0,f1,f2,f3,f4,f5⟩:=hf it uD;show wpAny_pyNext_wide_end (I.ok.hd hc) st (Vy hg) λh' eb=>⟨Z,I.turned (t':=s.toks) (λb o hb e=>eb b o hb e) f0 f1 f3 f4 f5⟩
 self:=λ_ _ _ _ _ st h=>wpAny_pyIter_striter_wide st h
section
variable {X:Cx}{tg:tW}
inductive LV (R:It->Hp->Prop) (x:V) (H1:Hp):Prop | mk (z:_) (e0:x= .str z) (q:R (TY z) H1)
def MC (tl:TE):TI:=λO H R=>tl O H λx H1=>LV R x H1
theorem CG {l:tW}{tl:TE}(hl:PE X l tl):PI X tg l (MC tl):=by
 intro R1 s O H R I h;show Sf (hl R1 s O H _ I h) λv s1 ⟨x,H1,I1,r1,q1⟩=>?_;obtain⟨z,rfl,q⟩:=q1;obtain⟨t,rfl⟩:=r1;cases ha:z.cps.all (· < 128) with
 | true =>
  show wpAny_pyIter_ascii ha ⟨_,[s1.heap.objs.size],_,TY z,H1,Z,I1.kept (t':=s1.toks) λb o e=>N3 _ e,EA z t _,⟨_,OD _ rfl,Z,Z⟩,λb hb=>?_,q⟩;rcases NZ.mp hb with rfl
  show I1.g9 (N0 _) I1.fresh
 | false =>
  show wpAny_pyIter_wide ha ⟨_,[s1.heap.objs.size],_,TY z,H1,Z,I1.kept (t':=s1.toks) λb o e=>N3 _ e,EN z t _,⟨_,OD _ rfl,Z,Z⟩,λb hb=>?_,q⟩;rcases NZ.mp hb with rfl
  show I1.g9 (N0 _) I1.fresh
end
section
variable {X:Cx}
theorem lX:So X (zm .LtE) (λx y H Q=> ∃i j,x= .str i/\y= .str j/\Q (.bl (!decide (j.cps.toList < i.cps.toList))) H):=by
 intro R1 s O H x y v u Q I r1 r2 h;obtain⟨i,j,rfl,rfl,q⟩:=h;obtain⟨t,rfl⟩:=r1;obtain⟨t',rfl⟩:=r2;show PySem.P.le_str ⟨.bl _,H,I,Z,q⟩
theorem qP {prog:tq}{w:sW}{A:uc}{its:qx qT}{bs:qx yW}(r:Vals (bs.map V.bl) its):TruthOf prog w A (λi v=>its.toArray[i]?=some v) (λi=>bs.getD i false):=by
 intro i v s Q E hv hq;have hv':its[i]?=some v:=by simpa using hv
 have hb:i < bs.length:=by
  have h1:=(NX.mp hv').1;have h2:=r.length;rw[NR] at h2;lia
 obtain⟨u,e1,e2⟩:=r.get (i:=i) (x:=V.bl<|bs.getD i false) (by rw[N7,NY,NV hb]; rfl);rw[hv'] at e1;cases e1;have e3:v=VJ (bs.getD i false):=e2;rw[e3];show Pu hq
theorem range_all (bs:qx yW):(wx bs.length).all (λi=>bs.getD i false)=bs.all id:=by
 rw[P6,O3,O3];constructor
 .intro h x hx;obtain⟨i,hi,rfl⟩:=Ry hx;have:=h i<|Oq.mpr hi
  rwa [NY,NV hi] at this
 .intro h i hi;have hi':=Oq.mp hi;rw[NY,NV hi'];show h _<|Pm hi'
theorem range_any (bs:qx yW):(wx bs.length).any (λi=>bs.getD i false)=bs.any id:=by
 rw[P6,Q6,Q6];constructor
 .rintro⟨i,hi,h⟩;have hi':=Oq.mp hi;rw[NY,NV hi'] at h;erw[_,Pm hi',h]
 .rintro⟨x,hx,h⟩;obtain⟨i,hi,rfl⟩:=Ry hx;erw[i,Oq.mpr hi,by rw[NY,NV hi]; show h]
theorem qU (hc:X.calm=true):cJ X (.builtin "all") (λxs H Q=> ∃(a:qA) (bs:qx yW),xs=[.ref a]/\R5 X.K H a (bs.map V.bl)/\Q (.bl (bs.all id)) H):=by
 intro R1 s O H xs us Q I r h;obtain⟨a,bs,rfl,hq,q⟩:=h;obtain⟨u,rfl,ru⟩:=vals1 r;cases ru;obtain⟨its,rv,p,hz⟩:=I.list hq;have hlt:a < s.heap.objs.size:=p.lt;have hl:bs.length=its.toArray.size:=by
  have:=rv.length;rw[NR] at this;simpa using this
 show call_all_walk (Qd p.isList ⟨_,_,_,_,_,_,_,Z,VM (A:=X.A.in1) (I.ok.hd hc) s.heap.objs.size a (OC hlt) its.toArray,
  ⟨⟨_,OD _ rfl,Z,Z⟩,p.isList.at λo e=>N3 _ e⟩,qP rv,λh' tk k=>?_⟩)
 rw[<-hl,range_all];exact⟨.bl _,H,I.kept (t':=tk) λb o e=>k b o (λz=>by
  rcases NZ.mp z with rfl
  show wz (Of e) (PB _)) (N3 _ e),Z,q⟩
theorem FV (hc:X.calm=true):cJ X (.builtin "any") (λxs H Q=> ∃(a:qA) (bs:qx yW),xs=[.ref a]/\R5 X.K H a (bs.map V.bl)/\Q (.bl (bs.any id)) H):=by
 intro R1 s O H xs us Q I r h;obtain⟨a,bs,rfl,hq,q⟩:=h;obtain⟨u,rfl,ru⟩:=vals1 r;cases ru;obtain⟨its,rv,p,hz⟩:=I.list hq;have hlt:a < s.heap.objs.size:=p.lt;have hl:bs.length=its.toArray.size:=by
  have:=rv.length;rw[NR] at this;simpa using this
 show call_any_walk (Qd p.isList ⟨_,_,_,_,_,_,_,Z,VM (A:=X.A.in1) (I.ok.hd hc) s.heap.objs.size a (OC hlt) its.toArray,
  ⟨⟨_,OD _ rfl,Z,Z⟩,p.isList.at λo e=>N3 _ e⟩,qP rv,λh' tk k=>?_⟩)
 rw[<-hl,range_any];exact⟨.bl _,H,I.kept (t':=tk) λb o e=>k b o (λz=>by
  rcases NZ.mp z with rfl
  show wz (Of e) (PB _)) (N3 _ e),Z,q⟩
def Ul (K:R7) (x:V) (H:Hp) (T:BP) (b:yW):Prop :=
 match x with
 | .int _=>(T= "int" /\ b=true)\/(T∈["bool","str","list","tuple","dict"]/\b=false)
 | .bl _=>(T∈["int","bool"]/\b=true)\/(T∈["str","list","tuple","dict"]/\b=false)
 | .str _=>(T= "str" /\ b=true)\/(T∈["int","bool","list","tuple","dict"]/\b=false)
 | .ref a=>((∃xs,R5 K H a xs)/\((T= "list" /\ b=true)\/(T∈["int","bool","str","tuple","dict"]/\b=false))) \/
   ((∃xs,Se K H a xs)/\((T= "tuple" /\ b=true)\/(T∈["int","bool","str","list","dict"]/\b=false)))
 | _=>zh
variable{T a b:BP}
theorem BI {c d e:BP}(h:T∈[a,b,c,d,e]):T=a\/T=b\/T=c\/T=d\/T=e:=by simpa using h
theorem MM {c d:BP}(h:T∈[a,b,c,d]):T=a\/T=b\/T=c\/T=d:=by simpa using h
theorem MQ(h:T∈[a,b]):T=a\/T=b:=by simpa using h
theorem xg:cJ X (.builtin "isinstance") (λxs H Q=> ∃x T b,xs=[x,.ty T]/\Ul X.K x H T b/\Q (.bl b) H):=by
 intro R1 s O H xs us Q I r h;obtain⟨x,T,b,rfl,hi,q⟩:=h;obtain⟨u,u2,rfl,ru,ru2⟩:=vals2 r;cases ru2;have fin: ∀tk,EP X R1 O Q (.bool b) { s with toks:=tk }:=λtk=>⟨.bl b,H,I.tok tk,Z,q⟩
 have fin0:EP X R1 O Q (.bool b) s:=⟨.bl b,H,I,Z,q⟩
 cases x with
 | int n =>
  obtain⟨t,rfl⟩:=ru;rcases hi with⟨rfl,rfl⟩ | ⟨hm,rfl⟩
  .exact IsiPair.int_int fin0
  .rcases BI hm with rfl | rfl | rfl | rfl | rfl
   .exact IsiPair.int_bool<|fin _
   .exact IsiPair.int_str<|fin _
   .exact IsiPair.int_list<|fin _
   .exact IsiPair.int_tuple<|fin _
   .exact IsiPair.int_dict<|fin _
 | bl n =>
  cases ru;rcases hi with⟨hm,rfl⟩ | ⟨hm,rfl⟩
  .rcases MQ hm with rfl | rfl
   .first | show Wq fin0 | show Wq (fin _)
   .exact IsiPair.bool_bool fin0
  .rcases MM hm with rfl | rfl | rfl | rfl
   .exact IsiPair.bool_str<|fin _
   .exact IsiPair.bool_list<|fin _
   .exact IsiPair.bool_tuple<|fin _
   .exact IsiPair.bool_dict<|fin _
 | str n =>
  obtain⟨t,rfl⟩:=ru;rcases hi with⟨rfl,rfl⟩ | ⟨hm,rfl⟩
  .exact IsiPair.str_str fin0
  .rcases BI hm with rfl | rfl | rfl | rfl | rfl
   .exact IsiPair.str_int<|fin _
   .exact IsiPair.str_bool<|fin _
   .exact IsiPair.str_list<|fin _
   .exact IsiPair.str_tuple<|fin _
   .exact IsiPair.str_dict<|fin _
 | ref a =>
  cases ru;rcases hi with⟨⟨xs,hq⟩,hi⟩ | ⟨⟨xs,hq⟩,hi⟩
  .obtain⟨its,_,⟨o,n,e,c,_⟩,_⟩:=I.list hq;rcases hi with⟨rfl,rfl⟩ | ⟨hm,rfl⟩
   .exact IsiPair.list_list e c fin0
   .rcases BI hm with rfl | rfl | rfl | rfl | rfl
    .exact IsiPair.list_int e c<|fin _
    .exact IsiPair.list_bool e c<|fin _
    .exact IsiPair.list_str e c<|fin _
    .exact IsiPair.list_tuple e c<|fin _
    .exact IsiPair.list_dict e c<|fin _
  .obtain⟨its,_,hT,_⟩:=I.tuple hq;obtain⟨o,e,c,_⟩:=hT;rcases hi with⟨rfl,rfl⟩ | ⟨hm,rfl⟩
   .exact IsiPair.tuple_tuple e c fin0
   .rcases BI hm with rfl | rfl | rfl | rfl | rfl
    .exact IsiPair.tuple_int e c<|fin _
    .exact IsiPair.tuple_bool e c<|fin _
    .exact IsiPair.tuple_str e c<|fin _
    .exact IsiPair.tuple_list e c<|fin _
    .exact IsiPair.tuple_dict e c<|fin _
 | _=>show hi.elim
end
def TF (K:R7) (mg:oR) (x:va) (st:zc):Prop:= ∃f fd,mg x=some (.ref f)/\TL K x x st f fd
def Sj (P:tq) (w:sW) (K:R7) (mg:oR) (base:yk) (k:u6) (x:va) (ps:qx va) (sp:Sp):Prop :=
 ∃f fd,mg x=some (.ref f)/\(∃oc od osl,K.lookup f=some ⟨oc,od,.func fd,osl⟩)/\zE K (.ref f)=true/\Binds K fd ps []/\eP P w K mg base S1 k f fd ps sp
section
variable {P:tq}{w:sW}{K:R7}{mg:oR}{base:yk}
variable{st:zc}
theorem Lz {h:yk}{x:va}{f:qA}{oc:qT}{od an:rW qA}{osl:zR (rW qT)}{kV doc pm cdv ct:qT}(X:K.In h) (G:h.Ns ze mg) (a:Dr K ze x=some (some (.ref f)))
  (l:K.lookup f=some ⟨oc,od,.func (B0 x x (jJ st) (fc st) (bu st) .none kV doc pm an cdv ct),osl⟩) (c:Ge K cdv x=true) (k:zE K (.ref f)=true):TF K mg x st :=
 ⟨f,_,Q1 X G a,Ez (st:=st) l c k⟩
theorem bH {x:va}{N ps:qx va}{k:u6}{sp:Sp}(h:TF K mg x st) (S:gB N ps (bu st))
  (hbody: ∀(f:qA) (cdv:qT) (A:uc) (outer:qx Env) (s:rK) (H:Hp) (vs:qx V) (Q:VK) (E:XK),b7 k (A.deeper (DU x (bu st) s.heap.objs.size f cdv))->sp vs H Q E ->
   ∃t,Sz (iX S1 P w K mg base N x (bu st) f cdv A outer s H E).TV (fc st) t/\t { nx:=λ_ H'=>Q .non H',rt:=Q } (start N vs) H)
  (hb:BA x x st ps:=by trivial)
  (len: ∀vs H Q E,sp vs H Q E->vs.length=ps.length:=by trivial):Sj P w K mg base (k+1) x ps sp:=by
 obtain⟨f,fd,hm,F⟩:=h;obtain⟨oc,od,_,_,_,_,_,_,osl,_,lk,_⟩:=id F.ex;erw[f,fd,hm,⟨oc,od,osl,lk⟩,F.kp,F.binds hb,F.ok S len λcdv A outer s H vs Q E hr hs=>hbody f cdv A outer s H vs Q E hr hs]
theorem HD {x p:va}{sp:Sp}{k:u6}{fa:qA}(h:TF K mg x st) (hg: ∀base,Sj P w K mg base k x [p] sp) (hmg:mg x=some (.ref fa))
  (hb: ∀(kV doc pm:qT) (an:rW qA) (cdv ct:qT) (s:rK) (u:qT),U5 s (B0 x x (jJ st) (fc st) (bu st) .none kV doc pm an cdv ct) ⟨[u],[]⟩ [(p,u)]) :
  ∃fd:BS,(∀(s:rK) (u:qT),U5 s fd ⟨[u],[]⟩ [(p,u)])/\ ∀base:yk,eP P w K mg base S1 k fa fd [p] sp:=by
 obtain⟨f,fd,hm,F⟩:=h;obtain⟨oc,od,kV,doc,pm,an,cdv,ct,osl,rfl,lk,_⟩:=F.ex;have e:=hmg.symm.trans hm;cases e;erw[_,hb kV doc pm an cdv ct,λbase=>?_];obtain⟨f',fd',hm',⟨oc',od',osl',lk'⟩,_,_,G⟩:=hg base;have e:=hm.symm.trans hm';cases e;have e2:=lk.symm.trans lk';cases e2;show G
end
section
variable {X:Cx}{k:u6}{x:va}{ps:qx va}{sp:Sp}{p pos:Pos}{e:tW}{es:qx tW}{t:TA}
theorem aF (F:Sj X.prog X.w X.K X.mg X.base k x ps sp) (ha:PA X (e::es) t) (hr:b7 k X.A:=by show hr.mm) (hg:Gl X x:=by rfl) (hdb:DB x:=by decide)
  (he:SE X e es:=by rfl) (hpl:BK X pos es:=by rfl):PE X (.Call (.Name x p) (e::es) [] pos) (Hj sp [] E0 t):=by
 obtain⟨f,fd,hm,_,kp,hb,F⟩:=F;show Jp F hr hg hm kp hb .nil wQ ha hdb he hpl
end
def kf (K:R7) (mg:oR) (x:va) (xs:qx V):Prop:= ∃a,mg x=some (.ref a)/\ ∀H,Se K H a xs
variable{xs:qx V}{a:qA}{o:Obj}
theorem Jf {mg:oR}{h:yk}{x:va}{its:zR qT}(X:K.In h) (G:h.Ns ze mg) (e:Dr K ze x=some (some (.ref a)))
  (l:K.lookup a=some o) (hc:o.cls= .type "tuple") (hd:o.data= .seq its n) (hz:its.size<=sizeLine) (hv:Vals xs its.toList):kf K mg x xs :=
 ⟨a,Q1 X G e,λH=> .inr ⟨o,its,n,l,hc,hd,hz,hv⟩⟩
variable{pos:Pos}
theorem gy {x:va}(h:kf X.K X.mg x xs) (hg:Gl X x:=by rfl) (hd:DB x:=by decide):PE X (.Name x pos) (λ_ H Q=> ∀a,(∀H',Se X.K H' a xs)->Q (.ref a) H):=by
 obtain⟨a,hm,hq⟩:=h;intro R1 s O H Q I q;show z8 (v:= .ref a) hg hm rfl hd R1 s O H Q I<|q a hq
def rN (mg:oR) (x:va) (v:V):Prop:= ∃u,mg x=some u/\RelV v u
theorem jt {x:va}{v:V}(h:rN X.mg x v) (hg:Gl X x:=by rfl) (hd:DB x:=by decide):PE X (.Name x pos) (tC v):=by
 obtain⟨u,hm,r⟩:=h;show z8 hg hm r hd
theorem boot_all:zt "all" = some (.builtin "all"):=by trivial
theorem boot_int:zt "int" = some (.type "int"):=by trivial
theorem boot_str:zt "str" = some (.type "str"):=by trivial
theorem boot_list:zt "list" = some (.type "list"):=by trivial
theorem boot_tuple:zt "tuple" = some (.type "tuple"):=by trivial
theorem boot_dict:zt "dict" = some (.type "dict"):=by trivial
theorem boot_max:zt "max" = some (.builtin "max"):=by trivial
theorem boot_min:zt "min" = some (.builtin "min"):=by trivial
theorem boot_sum:zt "sum" = some (.builtin "sum"):=by trivial
theorem boot_any:zt "any" = some (.builtin "any"):=by trivial
theorem boot_isinstance:zt "isinstance" = some (.builtin "isinstance"):=by trivial
structure JL (J:It) (H:Hp) (xs:qx V):Prop where
 go: ∀i,i < xs.length->J.go i H
 yld: ∀i x H',i < xs.length->J.yld i H x H'->H'=H/\xs[i]?=some x
 stop: ∀i,xs.length<=i->J.stop i H
variable{H:Hp}
theorem bf(h:R5 K H a xs):JL (Uk K a) H xs :=
 ⟨λi hi=>⟨xs,_,h,NV hi⟩,λi x H' _ q=>⟨q.1,q.2 xs h⟩,λi hi=>⟨xs,h,hi⟩⟩
theorem Ei(h:Se K H a xs):JL (Uq K a) H xs :=
 ⟨λi hi=>⟨xs,_,h,NV hi⟩,λi x H' _ q=>⟨q.1,q.2 xs h⟩,λi hi=>⟨xs,h,hi⟩⟩
def cf (lo:u7) (n:u6):qx V:=(wx n).map λi=>V.int (lo+(i:u6))
theorem cj {lo:u7}:JL (TR lo n) H (cf lo n):=by
 have hl:(cf lo n).length=n:=by simp[cf]
 show⟨λi hi=>by rw[hl] at hi; show hi,λi x H' hi q=>⟨q.1,?_⟩,λi hi=>by rw[hl] at hi; show hi⟩;rw[hl] at hi;rw[q.2];simp[cf,hi]
def gv (z:va):qx V:=z.cps.toList.map λc=>V.str ⟨#[c]⟩
theorem CM {z:va}:JL (TY z) H (gv z):=by
 have hl:(gv z).length=z.cps.size:=by simp[gv]
 show⟨λi hi=>by rw[hl] at hi; show hi,λi x H' hi q=>⟨q.1,?_⟩,λi hi=>by rw[hl] at hi; show hi⟩;obtain⟨_,c,hc,rfl⟩:=q;have hc':z.cps.toList[i]?=some c:=by simpa using hc
 simp[gv,hc']
variable{own:qx va}{O:St}
theorem zF {tt:TT}{te:TE}{fr:qx u6}{Q:VK}(hJ:JL J H xs) (pt:V->yW) (f:V->V) (hz:xs.length < sizeLine)
  (ht: ∀x∈xs,∀R:yW->Hp->Prop,R (pt x) H->tt ((cW own fr O).set 0 (some x)) H R)
  (hs: ∀x∈xs,pt x=true-> ∀R:VK,R (f x) H->te ((cW own fr O).set 0 (some x)) H R)
  (hq: ∀p,H p=none->Q (.ref p) (upd H p (.lst ((xs.filter pt).map f)))):kI J (aK 0) tt te own fr O H Q:=by
 erw[λi m ys H2=>H2=H/\i<=xs.length/\m=xs.length - i/\ys=((xs.take i).filter pt).map f,⟨xs.length,Z,ON _,Z,Z⟩,?_];rintro i m ys H2 ⟨rfl,hi,rfl,rfl⟩;have hlen:(((xs.take i).filter pt).map f).length<=xs.length:=by
  rw[NR];show Ob (O0 _ _) (by rw[Oi]; show RP _ _)
 by_cases hlt:i < xs.length
 .show .inr ⟨hJ.go i hlt,Pl hlen hz,λx H3 hy=>?_⟩;obtain⟨rfl,hx⟩:=hJ.yld i x H3 hlt hy;have hm:x∈xs:=NU hx;have hstep:((xs.take<|i+1).filter pt)=(xs.take i).filter pt++if pt x then [x] else []:=by
   rw[Ov,hx,PL];cases hp:pt x <;> simp[hp]
  show ht x hm _ ?_;cases hp:pt x with
  | false =>
   rw[NS Ol];erw[xs.length - (i+1),Y,Z,hlt,Z,?_];rw[hstep,hp];simp
  | true =>
   rw[NW rfl];show hs x hm hp _ ⟨xs.length - (i+1),Y,Z,hlt,Z,?_⟩;rw[hstep,hp];simp
 .have e:i=xs.length:=Y;subst e;show .inl ⟨hJ.stop _<|N0 _,Ob hlen<|OA hz,λp hp=>?_⟩;rw[OF];show hq p hp
theorem iU {xs:qx V}{te:TE}{fr:qx u6}{Q:VK}(hJ:JL J H xs) (f:V->V) (hz:xs.length < sizeLine)
  (hs: ∀x∈xs,∀R:VK,R (f x) H->te ((cW own fr O).set 0 (some x)) H R)
  (hq: ∀p,H p=none->Q (.ref p) (upd H p (.lst (xs.map f)))):kI J (aK 0) gG te own fr O H Q:=by
 show zF hJ (λ_=>true) f hz (λ_ _ R q=>q) (λx hx _ R q=>hs x hx R q) λp hp=>?_;have e:xs.filter (λ_=>true)=xs:=by simp
 rw[e];show hq p hp
theorem cA {xs:qx V}{g:TG}{tb:TS}{D:Ends}(Pv:u6->St->Hp->Prop) (h0:Pv 0 O H) (hJ: ∀i O H,i<=xs.length->Pv i O H->JL J H xs)
  (hs: ∀i x O H,xs[i]?=some x->Pv i O H->g x O H λO2 H2=>tb { D with nx:=Pv (i+1),ct:=Pv (i+1),bk:=D.nx } O2 H2) (hd: ∀O H,Pv xs.length O H->D.nx O H) :
  ∃W:u6->u6->St->Hp->Prop,(∃m,W 0 m O H)/\ ∀i m O H,W i m O H ->
   (J.stop i H/\D.nx O H)\/(J.go i H/\ ∃N:St->Hp->Prop,(∀O' H',N O' H'-> ∃m',m' < m/\W (i+1) m' O' H')/\ ∀x H',J.yld i H x H'->g x O H' λO2 H2=>tb { D with nx:=N,ct:=N,bk:=D.nx } O2 H2):=by
 erw[λi m O H=>i<=xs.length/\m=xs.length - i/\Pv i O H,⟨xs.length,ON _,Z,h0⟩,?_];rintro i m O H ⟨hi,rfl,hp⟩;have hj:=hJ i O H hi hp;by_cases hlt:i < xs.length
 .show .inr ⟨hj.go i hlt,Pv<|i+1,λO' H' q=>⟨xs.length - (i+1),Y,hlt,Z,q⟩,λx H' hy=>?_⟩;obtain⟨rfl,hx⟩:=hj.yld i x H' hlt hy;show hs i x O H' hx hp
 .have e:i=xs.length:=Y;subst e;show .inl ⟨hj.stop _<|N0 _,hd O H hp⟩
def Kb (t u:TS):TS:=λD O H=> ∃Mid:St->Hp->Prop,t { D with nx:=Mid } O H/\ ∀O' H',Mid O' H'->u D O' H'
def Mc (t:TE):TE:=λO H Q=> ∃Mid:VK,t O H Mid/\ ∀v H',Mid v H'->Q v H'
section
variable {X:Cx}{st:zc}{rest:qx zc}{t u:TS}{e:tW}{te:TE}
theorem dD (h1:PS X st t) (h2:Sz X rest u):Sz X (st::rest) (Kb t u):=by
 intro R1 s O H D I h;obtain⟨Mid,ha,hb⟩:=h;show wpAny_execs_cons<|Sf (h1 R1 s O H { D with nx:=Mid } I ha) λf s1 q=>?_;cases f with
 | next =>
  obtain⟨O',H',I',m⟩:=q;show h2 R1 s1 O' H' D I'<|hb _ _ m
 | ret v=>show q
 | brk=>show q
 | cont=>show q
theorem eV (h:PE X e te):PE X e (Mc te):=by
 intro R1 s O H Q I q;obtain⟨Mid,ha,hb⟩:=q;show Sf (h R1 s O H Mid I ha) λv s' ⟨x,H',I',r,m⟩=>⟨x,H',I',r,hb _ _ m⟩
end
section
variable {prog:tq}{w:sW}{A:uc}{E:oF}{h:yk}{g:zR GenState}{d:Drawn}{tk:u6}{os:OsState}
variable {nm qn:va}{C N:qA}{bs bm bmB:qx qT}{hd:yW}{sn:qx va}{sub:qx qT}{ab:yW}{col:rW yW}{dd:rW qA}{k0 k1 k2 k3 k5:rW qT}{B newId initId:BP}
theorem tj (F:ExcBaseFacts B newId initId bmB) (T:OwnTail h bmB bm){mN:oR}{as:qx qT}{Q:WI->rK->Prop}
  (hC:h.get? C=some (Ed nm qn C N bs bm hd sn sub ab col dd k0 k1 k2 k3 k5 newId)) (hn:h.Ns N mN) (hni:mN "__init__" = none)
  (hq: ∀h' e,U7 h h' e (.ref C) as->h.objs.size<=e->Q (.done (.ret (.ref e))) ⟨h',g,d,tk,os⟩) (hz:as.length<=sizeLine) :
  xA (model prog w) A (Builtin.«type.__call__» ⟨.ref C::as,[]⟩) Q E ⟨h,g,d,tk,os⟩:=by
 repeat (first | with_reducible show Qe hC ?_ | with_reducible show wpAny_madeBy_exc hC ?_ | wp_step)
 show codeAny_call_builtin_code (V8 _ F.quiet)<|wpAny_check_new_subT F T hC<|codeAny_exc_new_subT F T hC ?_ hz;change xA _ _ _ _ _ _;have c1:=N3 { cls:= .ref C,data:= .fields #[.ref h.objs.size,.none,.none,.none,.bool false,.none] }<|N3 { cls:= .type "tuple",data:= .seq as.toArray } hC;have n1:((h.push { cls:= .type "tuple",data:= .seq as.toArray }).push { cls:= .ref C,data:= .fields #[.ref h.objs.size,.none,.none,.none,.bool false,.none] }).Ns N mN:=hn.keeps λb o e=>N3 _<|N3 _ e;have g1:((h.push { cls:= .type "tuple",data:= .seq as.toArray }).push { cls:= .ref C,data:= .fields #[.ref h.objs.size,.none,.none,.none,.bool false,.none] }).get? (h.objs.size+1)=some { cls:= .ref C,data:= .fields #[.ref h.objs.size,.none,.none,.none,.bool false,.none] }:=by heap_get
 have cc:(ye C::bm).contains (.ref C)=true:=by simp
 have t1:=T.keeps (h':=(h.push { cls:= .type "tuple",data:= .seq as.toArray }).push { cls:= .ref C,data:= .fields #[.ref h.objs.size,.none,.none,.none,.bool false,.none] }) λb o e=>N3 _<|N3 _ e;unfold isInstance
 repeat (first | with_reducible show Qe g1 ?_ | (with_reducible show RA c1 ?_; rw[cc]) | wp_step)
 change xA _ _ (typeLookup (.ref C) _) _ _ _;show wpAny_typeLookup_tail c1 n1 t1 F.mroIs F.init.lookup ?_;rw[hni];show Qc (N9 (wpAny_of_eq (F.init.bind _) (N9 (Rq (codeAny_call_builtin F.init.plain F.initEntry (wpAny_check_init_subT F t1 c1 g1 rfl ?_))))))
 wp_walk
 show hq _ _ ⟨λb o hb=>?_,Rh<|Pe _,h.objs.size+2,?_,Rh Y,?_⟩<|Pe _;.rw[OZ _ _<|Rj<|Qs<|Of hb]; show N3 _<|N3 _<|N3 _ hb
 .rw[PK _ (N3 _ g1) rfl];simp only[Pp];rfl
 .rw[OZ _ _<|show h.objs.size+1≠h.objs.size+2 by lia]; show Heap.get?_push_at (by simp only[Pp]) rfl
theorem BR (F:ExcBaseFacts B newId initId bmB) (T:OwnTail h bmB bm){mN:oR}{as:qx qT}{Q:oF}
  (hC:h.get? C=some (Ed nm qn C N bs bm hd sn sub ab col dd k0 k1 k2 k3 k5 newId)) (hn:h.Ns N mN) (hni:mN "__init__" = none)
  (hq: ∀h' e,U7 h h' e (.ref C) as->h.objs.size<=e->Q (.ref e) ⟨h',g,d,tk,os⟩) (hz:as.length<=sizeLine) :
  xA (model prog w) A (call (.ref C) as) Q E ⟨h,g,d,tk,os⟩:=by
 have f1:=tc_lookup;have f2:=tc_bind<|.ref C;have ty:(⟨h,g,d,tk,os⟩:rK).TypeIs (.ref C) "type" := ⟨_,hC,Z⟩
 show Rq<|codeAny_of_tree ?_;change xA _ _ (callAny (.ref C) _) _ _ _
 repeat (any_goals (first | assumption | with_reducible show Qe hC ?_ | wp_step))
 erw[Z,codeAny_call_builtin_at (V8 _ uw) entry_typeCall<|wpAny_check_type_call_sub hC<|tj F T hC hn hni (λh' e m y=>hq h' e m y) hz]
end
section
variable {prog:tq}{w:sW}{A:uc}{E:oF}{s:rK}{env:Env}
variable {nm qn:va}{C N:qA}{bs bm bmB:qx qT}{hd:yW}{sn:qx va}{sub:qx qT}{ab:yW}{col:rW yW}{dd:rW qA}{k0 k1 k2 k3 k5:rW qT}{B newId initId:BP}
theorem zM (F:ExcBaseFacts B newId initId bmB){mN:oR}{x:va}{np cpos pos:Pos}{args:qx tW}{Q:Flow->rK->Prop}
  (hbase:bm.contains (.type "BaseException")=true) (hh:A.handled=none) (hplain:(zV cpos (zb args env)).any (·.1)=false) (hni:mN "__init__" = none)
  (h:xA (model prog w) A (eval (.Name x np) env) (λf s1=>f= .ref C/\xA (model prog w) A (evalArgs (.ref C) true (zV cpos (zb args env)) [])
   (λa s2=>a.kw=[]/\a.pos.length<=sizeLine/\s2.heap.get? C=some (Ed nm qn C N bs bm hd sn sub ab col dd k0 k1 k2 k3 k5 newId)/\s2.heap.Ns N mN/\OwnTail s2.heap bmB bm /\
    ∀h' e,U7 s2.heap h' e (.ref C) a.pos->s2.heap.objs.size<=e->E (.ref e) { s2 with heap:=h' }) E s1) E s) :
  xA (model prog w) A (exec (.Raise (some (.Call (.Name x np) args [] cpos)) none pos) env) Q E s:=by
 rw[arm_exec_Raise];show N9<|PV<|wpAny_raiseStmt_made_sub (C:=C) (nm:=nm) (q:=qn) (N:=N) (bs:=bs) (bm:=bm) (hdct:=hd) (sn:=sn) (sub:=sub) (ab:=ab) (col:=col) (dd:=dd) (k0:=k0) (k1:=k1) (k2:=k2) (k3:=k3) (k5:=k5) (newId:=newId) hbase hh ?_;show N9<|Pa (wpAny_Call_ofName<|Pa h (λf s1 h1=>?_) λ_ _ y=>y) (λv s3 h3=>N9<|PV<|OB h3) λ_ _ y=>y;obtain⟨rfl,h1⟩:=h1;unfold FA;show N9<|Qc<|Pa h1 (λa s2 h2=>N9<|PV ?_) λ_ _ y=>y;obtain⟨ap,ak⟩:=a;obtain⟨hkw,hlen,hC,hn,T,h2⟩:=h2;have hkw:ak=[]:=hkw;subst hkw;obtain⟨hp,g,d,tk,os⟩:=s2;simp only[hplain];show N9<|wpAny_keeperOf_exc hC<|N9<|BR F T hC hn hni (λh' e hm hy=>N9<|Qc<|wpAny_point<|OB ?_) hlen;obtain⟨t,ht,_,_⟩:=hm.there;erw[e,t,Z,hm.keeps _ _ hC,ht,h2 h' e hm hy]
end
def nR (cls:qT) (t:qA) (tb:qT):Obj:={ cls:=cls,data:= .fields #[.ref t,tb,.none,.none,.bool false,.none] }
def GD (h:yk) (T:qA) (fl:qT):Prop:= ∃oT ts,h.get? T=some oT/\oT.data= .fields ts/\ts[3]?=some fl
section
variable {M:Model}{A:uc}{E:oF}{s:rK}
theorem vg {base:yk}{env:Env}{outer:qx Env}{L x t:qA}{cls head:qT}{hadNext:yW}{Q:Unit->rK->Prop}(hfr:A.frames=some (env::outer)) (hl:s.heap.FunFrames base (env::outer)) (hf:env.frame=some L)
  (he:s.heap.get? x=some (nR cls t head)) (h: ∀h' T',s.heap.objs.size<=T'->h'.get? x=some (nR cls t (.ref T'))->GD h' T' (rawInt L)->(∀b o,b≠x->b∉S2 (env::outer)->s.heap.get? b=some o->h'.get? b=some o) ->
   (∀b o,b≠x->s.heap.get? b=some o-> ∃sl,h'.get? b=some { o with slots:=sl })->Q () { s with heap:=h' }) :
  xA M A (do let a <-frameOf env; let pl <-entryPlaceOf L hadNext; let b <-VP head a .none (rawInt L) .none pl; setField (.ref x) 1 b) Q E s:=by
 have hx:x∉(env::outer).filterMap (·.frame):=λhm=>by
  obtain⟨_,o,ho,hn⟩:=hl.mem hm;rw[he] at ho;cases ho;show hn _ rfl
 show N9 (wpAny_frameOf_fun hfr hl hf λh1 sl1=>N9 (wpAny_entryPlaceOf λpl hpl=>?_));unfold VP newFields;show N9 (QX ?_ (hpl.sizeOk5 _ _ _ _ _));have e1:h1.get? x=some (nR cls t head):=(sl1.2.1 x hx).trans he;generalize hT:({ cls:= .type "traceback",dict:=none,data:= .fields ([head,.ref L,.none,rawInt L,.none]++(if pl.isEmpty then wo 6 A4 else pl)).toArray }:Obj)=oT;have e2:(h1.push oT).get? x=some (nR cls t head):=N3 _ e1;have hTx:h1.objs.size≠x:=Rj (Of e1);have fT:s.heap.objs.size<=h1.objs.size:=Rk sl1.1.symm;show wpAny_setField e2 rfl (by change 1 < 6; decide) (h _ h1.objs.size fT ?_ ?_ (λb o hb hn e=>?_) (λb o hb e=>?_));.exact PK _ e2 rfl
 .show⟨oT,([head,.ref L,.none,rawInt L,.none]++(if pl.isEmpty then wo 6 A4 else pl)).toArray,?_,by rw[<-hT],uD⟩;rw[OZ _ _<|Ox hTx];show OD _ (by rw[<-hT]; rfl)
 .rw[OZ _ _<|Ox hb];show N3 _<|(sl1.2.1 b hn).trans e
 .obtain⟨sl,q⟩:=sl1.2.2 b o e;erw[sl,by rw[OZ _ _<|Ox hb]; show N3 _ q]
end
structure mq (X:Cx) (pn:nE) (H:Hp) (h:yk) (x:qA) (cls fl:qT):Prop where
 ok:cN X pn H x
 ex: ∃t T,h.get? x=some (nR cls t (.ref T))/\T≠x/\cN X pn H T/\GD h T fl
def Exc (X:Cx) (pn:nE) (H:Hp) (h:yk) (x:qA) (cls:qT):Prop :=
 (cN X pn H x/\ ∃t,h.get? x=some (nR cls t .none))\/mq X pn H h x cls .none\/mq X pn H h x cls (rawInt X.env.locals)
def Own (X:Cx):Prop:=X.stack=X.env::X.outer/\X.env.frame=some X.env.locals
section
variable {X:Cx}{pn:nE}{O:St}{H:Hp}{s:rK}{E:oF}
theorem Inv.Fd {ch:qx qA}{h':yk}(I:Inv X pn O H s) (hch: ∀b∈ch,cN X pn H b) (k1: ∀b o,b∉ch->b∉S2 X.stack->s.heap.get? b=some o->h'.get? b=some o)
  (k2: ∀b o,b∉ch->s.heap.get? b=some o-> ∃sl,h'.get? b=some { o with slots:=sl }):Inv X pn O H { s with heap:=h' }:=by
 show I.Cj (s':={ s with heap:=h' }) (ch:=ch) (H':=H) rfl ?_ ?_ I.bare λb hb=>⟨(hch b hb).2.2.2.1,(hch b hb).2.1,λx c hc=>(hch b hb).2.2.2.2.1 x c hc,(hch b hb).2.2.2.2.2⟩
 .nomatch λb o e _ hf hx=>k1 b o hx hf e,λb o e _ _ hx=>k2 b o hx e,λb o _ n _=>n,λb o e hx=>let ⟨sl,q⟩:=k2 b o hx e; ⟨_,q⟩,λb xs e=>e,λb o u e=>e,λb ps e=>⟨#[],by simpa using e⟩
 .intro a o e;show (I.hok a o e).mj (λb u hb q=>?_) (λb hb=>hb) λb xs hb=>hb;have tr: ∃o',H b=some o':=by
   rcases hb with rfl | hb
   .nomatch o,e
   .nomatch _,hb
  obtain⟨o',ho'⟩:=tr;show k1 b u (λz=>?_) (λz=>?_) q
  .rw[(hch b z).1] at ho';cases ho'
  .rw[I.uU b z] at ho';cases ho'
theorem Own.frames (eQ:Own X) (I:Inv X pn O H s):X.A.frames=some (X.env::X.outer):=by rw[<-eQ.1]; show I.ok.frames
theorem Own.fF (eQ:Own X) (I:Inv X pn O H s):s.heap.FunFrames X.base (X.env::X.outer):=by rw[<-eQ.1]; show I.stack
variable{cls:qT}{Q:Unit->rK->Prop}
theorem rb {x:qA}{A:uc}(eQ:Own X) (hA:A.frames=X.A.frames) (I:Inv X pn O H s) (e:Exc X pn H s.heap x cls)
  (h: ∀s',Inv X pn O H s'->mq X pn H s'.heap x cls (rawInt X.env.locals)->Q () s'):xA (model X.prog X.w) A (Vv (.ref x) X.env) Q E s:=by
 have hfr:A.frames=some (X.env::X.outer):=hA.trans<|eQ.frames I;have hxf: ∀ {b:qA},cN X pn H b->b∉S2 (X.env::X.outer):=λ{b} f z=>by
  rw[<-eQ.1] at z;rcases N5.mp (I.tH b z) with q | q
  .exact f.2.1 q
  .exact f.2.2.1 q
 rcases e with⟨fx,t,ex⟩ | ⟨fx,t,T,ex,hTx,fT,oT,ts,eT,dT,h3⟩ | e
 .unfold Vv;simp only[eQ.2];show N9 (QH ex rfl (x:= .none) rfl ?_);rw[NS aS];show vg hfr (eQ.fF I) eQ.2 ex λh' T' hT' ex' tb' k1 k2=>?_;have fT':cN X pn H T':=I.g9 hT' (I.hok.fresh hT');show h _ (I.Fd (ch:=[x]) (λb hb=>by rcases NZ.mp hb with rfl; show fx) (λb o hb hn q=>k1 b o (λz=>hb (by simp[z])) (by rw[<-eQ.1]; show hn) q) (λb o hb q=>k2 b o (λz=>hb (by simp[z])) q))
   ⟨fx,t,T',ex',λz=>?_,fT',tb'⟩
  show wz (Of ex)<|Qf.mpr (by rw[<-z]; show hT')
 .unfold Vv;simp only[eQ.2];show N9 (QH ex rfl (x:= .ref T) rfl ?_);rw[NW (show (ye T !=A4)=true from by simp)];show N9 (QH eT dT h3 ?_);rw[NS (show ¬((A4 == rawInt X.env.locals)=true) from by simp[rawInt])];show N9 (wpAny_setField eT dT (RM.mp h3).1 ?_);have o1: ∀b,b≠T->(s.heap.update T (Vc (·.setIfInBounds 3 A4))).get? b=s.heap.get? b:=λb hb=>OZ _ _ (Ox hb);have hTf:=hxf fT;have l1:(s.heap.update T (Vc (·.setIfInBounds 3 A4))).FunFrames X.base (X.env::X.outer):=(eQ.fF I).of_keeps λb o hb hn=>⟨o,(o1 b λz=>by
   rw[z,eT] at hb;cases hb;show hn _ dT).trans hb,Z⟩
  show vg (s:={ s with heap:=s.heap.update T (Vc (·.setIfInBounds 3 A4)) }) hfr l1 eQ.2 ((o1 x<|Ox hTx).trans ex) λh' T' hT' ex' tb' k1 k2=>?_;have hT2:s.heap.objs.size<=T':=by
   rw[Heap.size_after_update] at hT';show hT'
  have fT':cN X pn H T':=I.g9 hT2<|I.hok.fresh hT2;show h _ (I.Fd (ch:=[x,T]) (λb hb=>?_) (λb o hb hn q=>?_) λb o hb q=>?_) ⟨fx,t,T',ex',λz=>?_,fT',tb'⟩
  .rcases N5.mp hb with rfl | hb
   .exact fx
   .rcases NZ.mp hb with rfl
    show fT
  .exact k1 b o (λz=>hb (by simp[z])) (by rw[<-eQ.1]; show hn)<|(o1 b λz=>hb (by simp[z])).trans q
  .exact k2 b o (λz=>hb (by simp[z]))<|(o1 b λz=>hb (by simp[z])).trans q
  .exact wz (Of ex)<|Qf.mpr (by rw[<-z]; show hT2)
 .obtain⟨fx,t,T,ex,hTx,fT,oT,ts,eT,dT,h3⟩:=id e;unfold Vv;simp only[eQ.2];show N9<|QH ex rfl (x:= .ref T) rfl ?_;rw[NW<|show (ye T !=A4)=true from by simp];show N9<|QH eT dT h3 ?_;rw[NW (show (rawInt X.env.locals == rawInt X.env.locals)=true from by first | (simp; done) | show beq_self_eq_true _)];show OB<|h s I e
theorem kA {x:qA}{fl:qT}{fr:rW qA}{A:uc}(I:Inv X pn O H s) (e:mq X pn H s.heap x cls fl)
  (h: ∀s',Inv X pn O H s'->mq X pn H s'.heap x cls (fr.elim .none λf=>rawInt f)->Q () s'):xA (model X.prog X.w) A (setFlight (.ref x) fr) Q E s:=by
 obtain⟨fx,t,T,ex,hTx,fT,oT,ts,eT,dT,h3⟩:=e;have hsz:3 < ts.size:=(RM.mp h3).1;unfold setFlight;show N9<|QH ex rfl (x:= .ref T) rfl ?_;rw[NW<|show (ye T !=A4)=true from by simp];show wpAny_setField eT dT hsz ?_;have o1: ∀b,b≠T->(s.heap.update T (Vc (·.setIfInBounds 3 (fr.elim .none λf=>rawInt f)))).get? b=s.heap.get? b:=λb hb=>OZ _ _<|Ox hb;have dT':=Obj.data_mapFields dT (·.setIfInBounds 3 (fr.elim .none λf=>rawInt f));show h _ (I.Fd (ch:=[T]) (λb hb=>by rcases NZ.mp hb with rfl; show fT) (λb o hb _ q=>(o1 b λz=>hb (by simp[z])).trans q) λb o hb q=>⟨o.slots,(o1 b λz=>hb (by simp[z])).trans q⟩)
  ⟨fx,t,T,(o1 x (Ox hTx)).trans ex,hTx,fT,_,_,PK _ eT (Obj.isFreed_of_fields dT'),dT',by simp[hsz]⟩
end
def XE (X:Cx) (pn:nE) (E:St->XK):qT->rK->Prop:=λe s=> ∃O H x cls,e= .ref x/\Inv X pn O H s/\Exc X pn H s.heap x cls/\E O cls none H
abbrev Cx.exc (X:Cx) (pn:nE) (E:St->XK):Cx:={ X with xe:=XE X pn E,pn:=X.pn++pn }
theorem Cx.Ok.exc {pn:nE}{E:St->XK}(ok:X.Ok):(X.exc pn E).Ok :=
 ⟨ok.mod,ok.kind,ok.glob,ok.blt,ok.above,ok.inj,ok.has,ok.cab,ok.hd,ok.frames,ok.stk,ok.exf,ok.bs,ok.bsz,ok.noex,ok.exfs,ok.fF,ok.frf⟩
theorem Cx.Ok.eY {pn:nE}{E:St->XK}(ok:(X.exc pn E).Ok):X.Ok :=
 ⟨ok.mod,ok.kind,ok.glob,ok.blt,ok.above,ok.inj,ok.has,ok.cab,ok.hd,ok.frames,ok.stk,ok.exf,ok.bs,ok.bsz,ok.noex,ok.exfs,ok.fF,ok.frf⟩
section
variable {X:Cx}{pn R1:nE}{E:St->XK}{O:St}{H:Hp}{s:rK}
theorem Inv.exc (I:Inv X (pn++R1) O H s):Inv (X.exc pn E) R1 O H s :=
 ⟨I.ok.exc,I.os,I.bare,I.base,I.loc,I.cell,I.free,I.freeC,λp hp=>I.pin p (by rw[<-Pf]; show hp),I.hok,I.len⟩
theorem Inv.eY (I:Inv (X.exc pn E) R1 O H s):Inv X (pn++R1) O H s :=
 ⟨I.ok.eY,I.os,I.bare,I.base,I.loc,I.cell,I.free,I.freeC,λp hp=>I.pin p (by rw[<-Pf] at hp; show hp),I.hok,I.len⟩
theorem cN.eY {b:qA}(f:cN (X.exc pn E) R1 H b):cN X pn H b :=
 ⟨f.1,f.2.1,f.2.2.1,f.2.2.2.1,f.2.2.2.2.1,λp hp=>f.2.2.2.2.2 p (Oy _ hp)⟩
variable{cls:qT}
theorem mq.eY {h:yk}{x:qA}{fl:qT}(e:mq (X.exc pn E) R1 H h x cls fl):mq X pn H h x cls fl :=
 ⟨e.ok.eY,let ⟨t,T,a,b,c,d⟩:=e.ex; ⟨t,T,a,b,c.eY,d⟩⟩
theorem Exc.eY {h:yk}{x:qA}(e:Exc (X.exc pn E) R1 H h x cls):Exc X pn H h x cls:=by
 rcases e with⟨f,t,e⟩ | e | e
 .exact .inl ⟨f.eY,t,e⟩
 .exact .inr<|.inl e.eY
 .exact .inr<|.inr e.eY
theorem yF {x:qA}(I:Inv (X.exc pn E) R1 O H s) (e:Exc (X.exc pn E) R1 H s.heap x cls) (q:E O cls none H):(X.exc pn E).xe (.ref x) s :=
 ⟨O,H,x,cls,Z,I.eY.jy λp hp=>I.eY.pin p (Ot _ (Oy _ hp)),e.eY,q⟩
theorem Bi (eQ:Own X):PassesOwn (model X.prog X.w) X.A X.env (XE X pn E):=by
 rintro e s ⟨O,H,x,cls,rfl,I,ex,q⟩;show rb eQ rfl I ex λs1 I1 e1=>?_;change xA (model X.prog X.w) X.A _ _ _ s1;obtain⟨fx,t,T,h1,_⟩:=id e1;show N9<|QH h1 rfl (x:= .ref T) rfl ?_;rw[NS<|show ¬((ye T == A4)=true) from by simp];show kA (fr:=X.env.frame) I1 e1 λs2 I2 e2=>?_;rw[eQ.2] at e2;erw[O,H,x,cls,Z,I2,.inr<|.inr e2,q]
end
def S9 (P:tq) (w:sW):SV:=λouter H s E e s'=> ∃x t T cls H',e= .ref x/\s'.os=s.os/\F0 s'.gens/\Un (S2 outer) [] H H' s.heap s'.heap/\Ss P w H' s'.heap /\
 s.heap.objs.size<=x/\s.heap.objs.size<=T/\s'.heap.get? x=some (nR cls t (.ref T))/\T≠x/\GD s'.heap T .none/\H' x=none/\H' T=none/\E cls none H'
section
variable {X:Cx}{pn R1:nE}{E:St->XK}{O:St}{H:Hp}{s:rK}
theorem zQ (I:Inv (X.exc pn E) R1 O H s){e:qT}{s':rK}(c:S9 X.prog X.w X.stack H s (E O) e s'):(X.exc pn E).xe e s':=by
 obtain⟨x,t,T,cls,H',rfl,ho,hg,u,hok,hx,hT,ex,hTx,tb,fx,fT,q⟩:=c;have I':Inv (X.exc pn E) R1 O H' s':=I.Cj (ch:=[]) ho u hok hg λb hb=>by cases hb
 have F: ∀b,s.heap.objs.size<=b->H' b=none->cN (X.exc pn E) R1 H' b:=λb hb hn=>I.g9 hb hn;show yF I' (.inr<|.inl ⟨F x hx fx,t,T,ex,hTx,F T hT fT,tb⟩) q
end
section
variable {P:tq}{w:sW}{K:R7}{mg:oR}{base:yk}
variable{N:qx va}{scope:A3}{outer:qx Env}
theorem GH {CX:SV}{qual:va}{f:qA}{cd:qT}{A:uc}{s:rK}{H:Hp}{E:XK}:Own (iX CX P w K mg base N qual scope f cd A outer s H E):=⟨Z,Z⟩
theorem yo {qual:va}{f:qA}{cd:qT}{A:uc}{s:rK}{H:Hp}{E:XK}{body:qx zc}{t:TS} (h:Sz ((iX (S9 P w) P w K mg base N qual scope f cd A outer s H E).exc [] λ_=>E) body t):Sz (iX (S9 P w) P w K mg base N qual scope f cd A outer s H E) body t:=by
 intro R1 s1 O H1 D I q;show Pa (h R1 s1 O H1 D (Inv.exc (pn:=[]) I) q) (λfl s2 sp=>?_) λe s2 x=>?_
 .cases fl with
  | next=>obtain⟨O',H',I',q'⟩:=sp; erw[O',H',I'.eY,q']
  | brk=>obtain⟨O',H',I',q'⟩:=sp; erw[O',H',I'.eY,q']
  | cont=>obtain⟨O',H',I',q'⟩:=sp; erw[O',H',I'.eY,q']
  | ret u=>obtain⟨v,O',H',I',r,q'⟩:=sp; erw[v,O',H',I'.eY,r,q']
 .obtain⟨O2,H2,x,cls,rfl,I2,ex,q2⟩:=x;change xA _ _ (leaving _<|.ref x) _ _ s2;unfold leaving;show N9<|rb GH rfl I2 ex λs3 I3 e3=>?_;show kA (fr:=none) I3 e3 λs4 I4 e4=>?_;obtain⟨fx,t,T,ex4,hTx,fT,tb⟩:=e4;have young: ∀ {b:qA},cN (iX (S9 P w) P w K mg base N qual scope f cd A outer s H E) [] H2 b->s.heap.objs.size<=b:=λ{b} z=>by
   rcases z.2.2.2.1 with y | y
   .cases y
   .exact y
  erw[x,t,T,cls,H2,Z,I4.os,I4.bare,I4.base,I4.hok,young fx,young fT,ex4,hTx,tb,fx.1,fT.1,q2]
end
def SW (P:tq) (w:sW) (K:R7) (mg:oR) (base:yk) (k:u6) (x:va) (ps:qx va) (sp:Sp):Prop :=
 ∃f fd,mg x=some (.ref f)/\(∃oc od osl,K.lookup f=some ⟨oc,od,.func fd,osl⟩)/\zE K (.ref f)=true/\Binds K fd ps []/\eP P w K mg base (S9 P w) k f fd ps sp
section
variable {P:tq}{w:sW}{K:R7}{mg:oR}{base:yk}
variable{ps:qx va}{sp:Sp}
theorem jG {x:va}{st:zc}{N:qx va}{k:u6}(h:TF K mg x st) (S:gB N ps (bu st))
  (hbody: ∀(f:qA) (cdv:qT) (A:uc) (outer:qx Env) (s:rK) (H:Hp) (vs:qx V) (Q:VK) (E:XK),b7 k (A.deeper (DU x (bu st) s.heap.objs.size f cdv))->sp vs H Q E ->
   ∃t,Sz ((iX (S9 P w) P w K mg base N x (bu st) f cdv A outer s H E).exc [] λ_=>E) (fc st) t/\t { nx:=λ_ H'=>Q .non H',rt:=Q } (start N vs) H)
  (hb:BA x x st ps:=by trivial)
  (len: ∀vs H Q E,sp vs H Q E->vs.length=ps.length:=by trivial):SW P w K mg base (k+1) x ps sp:=by
 obtain⟨f,fd,hm,F⟩:=h;obtain⟨oc,od,kV,doc,pm,an,cdv,ct,osl,rfl,lk,hcd⟩:=id F.ex;erw[f,_,hm,⟨oc,od,osl,lk⟩,F.kp,F.binds hb,BW lk hcd S len λA outer s H vs Q E hr hs=>?_];obtain⟨t,h1,h2⟩:=hbody f cdv A outer s H vs Q E hr hs;erw[t,yo h1,h2]
theorem eP.Jw {k:u6}{f:qA}{fd:BS}(F:eP P w K mg base S1 k f fd ps sp):eP P w K mg base (S9 P w) k f fd ps sp :=
 ⟨F.len,λA outer s H args us vs Q E hr e0 hb hv hs=>QQ (F.run A outer s H args us vs Q E hr e0 hb hv hs) λr s' c=>by
  cases r with
  | ok f=>cases f <;> show c
  | error e=>show c.elim⟩
theorem Sj.x {k:u6}{x:va}(F:Sj P w K mg base k x ps sp):SW P w K mg base k x ps sp:=by
 obtain⟨f,fd,a,l,b,c,d⟩:=F;erw[f,fd,a,l,b,c,d.Jw]
end
section
variable {X:Cx}{pn:nE}{E:St->XK}{k:u6}{x:va}{ps:qx va}{sp:Sp}{p pos:Pos}{e:tW}{es:qx tW}{t:TA}
def JI (sp:Sp) (E:St->XK) (t:TA):TE:=λO H Q=>t O H λvs H1=>sp (vs++[]) H1 Q (E O)
theorem uM {R1:nE}{O:St}{H:Hp}{s:rK}{Q:VK}{us:qx qT}{vs:qx V}{f:qA}{fd:BS}(F:eP X.prog X.w X.K X.mg X.base (S9 X.prog X.w) k f fd ps sp) (hr:b7 k X.A) (hb:Binds X.K fd ps [])
  (I:Inv (X.exc pn E) R1 O H s) (r:Vals vs us) (h:sp (vs++[]) H Q (E O)):xA (model X.prog X.w) X.A (call (.ref f) us) (EP (X.exc pn E) R1 O Q) (X.exc pn E).xe s:=by
 have hl:(us++[]).length=ps.length:=by
  rw[<-(r.append (.nil:Vals [] [])).length];show F.len _ _ _ _ h
 show Rq<|QQ (F.run X.A X.stack s H ⟨us,[]⟩ (us++[]) (vs++[]) Q (E O) hr I.GK (hb s us I.SQ hl) (r.append .nil) h) λr s' hq=>?_;cases r with
 | error e=>show zQ I hq
 | ok fl =>
  cases fl with
  | ret u=>show I.after hq
  | next=>show hq.elim
  | brk=>show hq.elim
  | cont=>show hq.elim
theorem a6 (F:SW X.prog X.w X.K X.mg X.base k x ps sp) (ha:PA (X.exc pn E) (e::es) t) (hr:b7 k X.A:=by show hr.mm) (hg:Gl (X.exc pn E) x:=by rfl) (hdb:DB x:=by decide)
  (he:SE X e es:=by rfl) (hpl:BK X pos es:=by rfl):PE (X.exc pn E) (.Call (.Name x p) (e::es) [] pos) (JI sp E t):=by
 obtain⟨f,fd,hm,_,kp,hb,F⟩:=F;intro R1 s O H Q I h;show P5<|kQ I hg hm ?_ hdb;show QM (h₀:=X.base) I.ok.mod.kin kp (Sf (ha pos R1 s O H _ I h) λus s1 ⟨vs,H1,I1,r,q⟩=>⟨I1.SQ,uM F hr hb I1 r q⟩) he hpl
end
abbrev rH:qx qT:=[.type "ValueError",.type "Exception",.type "BaseException",.type "object"]
theorem oV {h:yk}{C:qA}{bmB:qx qT}{newId:BP}(X:K.In h) (q:BM K C bmB newId=true) :
  ∃bm N nm qn bs hdct sn sub ab col dd k0 k1 k2 k3 k5 mN,h.get? C=some (Ed nm qn C N bs bm hdct sn sub ab col dd k0 k1 k2 k3 k5 newId)/\h.Ns N mN/\mN "__init__" = none/\OwnTail h bmB bm/\K.lookup C=some (Ed nm qn C N bs bm hdct sn sub ab col dd k0 k1 k2 k3 k5 newId):=by
 unfold BM at q;split at q
 .rename_i dd cd sl ho;split at q
  .rename_i C' bm k0 k1 k2 k3 n k5 hm hs;simp only[Oz,beq_iff_eq,Bool.not_eq_true'] at q;obtain⟨⟨⟨⟨⟨e1,e2⟩,hdel⟩,ht⟩,hok⟩,hni⟩:=q;subst e1 e2;obtain⟨nm,bs,mro,ns,qn,hd,sn,sub,ab,col,del⟩:=cd;dsimp only at hm hdel hok hni;subst hm hdel;have hsl:sl= #[k0,k1,k2,k3,some (.builtin n),k5]:=by
    obtain⟨l⟩:=sl;simp only at hs;rw[hs]
   subst hsl;erw[bm,ns,nm,qn,bs,hd,sn,sub,ab,col,dd,k0,k1,k2,k3,k5,_,X _ _ ho,.of_isNs (PySem.W.isNs_of_in X hok),PySem.W.nsMap_none_of_in X hok hni,PySem.W.tail_of_in X ht,ho]
  .cases q
 .cases q
def XC (K:R7) (mg:oR) (x:va) (C:qA):Prop:=mg x=some (.ref C)/\BM K C rH "ValueError.__new__" = true
def J0 (E:St->XK) (C:qA) (t:TA):TS:=λ_ O H=>t O H λvs H1=>vs.length<=1000/\E O (.ref C) none H1
section
variable {X:Cx}{pn:nE}{E:St->XK}{x:va}{C:qA}{np cpos pos:Pos}{e:tW}{es:qx tW}{t:TA}
theorem F5 {R1:nE}{O:St}{H:Hp}{s:rK}{h':yk}{a:qA}{vs:qx qT}(I:Inv (X.exc pn E) R1 O H s) (m:U7 s.heap h' a (.ref C) vs) (hy:s.heap.objs.size<=a) (q:E O (.ref C) none H):(X.exc pn E).xe (.ref a) { s with heap:=h' }:=by
 obtain⟨t,e,_,_⟩:=m.there;have I':Inv (X.exc pn E) R1 O H { s with heap:=h' }:=I.kept (t':=s.toks) m.keeps;show yF I' (.inl ⟨I.g9 hy<|I.hok.fresh hy,t,e⟩) q
theorem dU (c:XC X.K X.mg x C) (hc:X.calm=true) (ha:PA (X.exc pn E) (e::es) t) (hg:Gl (X.exc pn E) x:=by rfl) (hdb:DB x:=by decide)
  (he:SE X e es:=by rfl) (hpl:BK X cpos es:=by rfl) :
  PS (X.exc pn E) (.Raise (some (.Call (.Name x np) (e::es) [] cpos)) none pos) (J0 E C t):=by
 intro R1 s O H D I h;obtain⟨bm,N,nm,qn,bs,hdct,sn,sub,ab,col,dd,k0,k1,k2,k3,k5,mN,hC,hN,hni,T,_⟩:=oV I.mod.kin c.2;have kp: ∀ {s':rK}{H':Hp},Inv (X.exc pn E) R1 O H' s'-> ∀b o,X.base.get? b=some o->s'.heap.get? b=some o:=λI'=>I'.bk;show zM (C:=C) (nm:=nm) (qn:=qn) (N:=N) (bs:=bs) (bm:=bm) (hd:=hdct) (sn:=sn) (sub:=sub) (ab:=ab) (col:=col) (dd:=dd) (k0:=k0) (k1:=k1) (k2:=k2) (k3:=k3) (k5:=k5) F.excBase_ValueError (T.hasType rfl) (I.ok.hd hc) (by rw[he]; change (false || (zV cpos<|zb es X.env).any (·.1))=false; rw[hpl]; rfl) hni<|kQ I hg c.1 ⟨rfl,?_⟩ hdb;have h0:=ha cpos R1 s O H _ I h;rw[show zb (e::es) (X.exc pn E).env=(false,eval e X.env)::zb es X.env from he] at h0 ⊢;show QB<|Sf h0 λus s1 ⟨vs,H1,I1,r,hz,q⟩=>⟨Z,?_,kp I1 _ _ hC,hN.keeps<|kp I1,T.keeps<|kp I1,λh' a m y=>F5 I1 m y q⟩;rw[<-r.length];show OA<|pk hz
end
section
variable {M:Model}{A:uc}{E:oF}{h:yk}{g:zR GenState}{d:Drawn}{tk:u6}{os:OsState}
variable {nm qn nm' qn':va}{C N D N':qA}{bs bm bs' bm':qx qT}{hd hd':yW}{sn sn':qx va}{sub sub':qx qT}{ab ab':yW}{col col':rW yW}{dd dd':rW qA}{k0 k1 k2 k3 k5 j0 j1 j2 j3 j5:rW qT}{newId newId':BP}
theorem zu {x:qA}{oe:Obj}{Q:yW->rK->Prop}(hC:h.get? C=some (Ed nm qn C N bs bm hd sn sub ab col dd k0 k1 k2 k3 k5 newId)) (he:h.get? x=some oe) (hcls:oe.cls= .ref C)
  (hD:h.get? D=some (Ed nm' qn' D N' bs' bm' hd' sn' sub' ab' col' dd' j0 j1 j2 j3 j5 newId')) (hb:bm'.contains (.type "BaseException")=true)
  (hq:Q ((ye C::bm).contains (.ref D)) ⟨h,g,d,tk,os⟩):xA M A (excMatches (.ref x) (.ref D)) Q E ⟨h,g,d,tk,os⟩:=by
 have cb:(ye D::bm').contains (.type "BaseException")=true:=by rw[List.contains_cons,hb,Bool.or_true]
 have f:=tc_notTuple;generalize hr:(ye C::bm).contains (.ref D)=r at hq;unfold excMatches
 repeat (first | (with_reducible show Qe he ?_; rw[hcls]) | with_reducible show Qe hD ?_ | with_reducible show Qe hC ?_ | (with_reducible show RA hD ?_; rw[cb]) | (with_reducible show RA hC ?_; rw[hr]) | wp_step)
 cases r <;> (wp_walk; show hq)
end
def ra (K:R7) (cls:qT) (D:qA):rW yW:=match cls with
 | .ref C=>(match K.lookup C with | some ⟨_,_,.cls cd,_⟩=>some (cd.mro.contains (.ref D)) | _=>none)
 | _=>none
theorem Hu {C D:qA}{c:qT}{d:rW qA}{cd:ClassData}{sl:zR (rW qT)}{b:yW}(l:K.lookup C=some ⟨c,d,.cls cd,sl⟩) (e:cd.mro.contains (.ref D)=b):ra K (.ref C) D=some b:=by
 unfold ra;simp only;rw[l];show OI some e
section
variable {X:Cx}{R1:nE}{O:St}{H:Hp}{s:rK}
theorem G0 {A:uc}{E:oF}{C D x:qA}{fl:qT}{b:yW}{Q:yW->rK->Prop}(I:Inv X R1 O H s) (e:mq X R1 H s.heap x (.ref C) fl)
  (cC:BM X.K C rH "ValueError.__new__" = true) (cD:BM X.K D rH "ValueError.__new__" = true) (hs:ra X.K (.ref C) D=some b) (q:Q b s) :
  xA (model X.prog X.w) A (excMatches (.ref x) (.ref D)) Q E s:=by
 obtain⟨bm,N,nm,qn,bs,hdct,sn,sub,ab,col,dd,k0,k1,k2,k3,k5,mN,hC,_,_,T,lC⟩:=oV I.mod.kin cC;obtain⟨bm',N',nm',qn',bs',hdct',sn',sub',ab',col',dd',j0,j1,j2,j3,j5,mN',hD,_,_,T',_⟩:=oV I.mod.kin cD;obtain⟨_,t,Tb,ex,_⟩:=e;have e1:some ((ye C::bm).contains<|.ref D)=some b:=by
  unfold ra at hs;simp only at hs;rw[lC] at hs;show hs
 have e2:=Oj e1;obtain⟨hp,g,d,tk,os⟩:=s;show zu (I.bk _ _ hC) ex rfl (I.bk _ _ hD) (T'.hasType rfl) (by rw[e2]; show q)
end
abbrev Cx.SH (X:Cx) (R1:nE) (x:qA) (o:Obj):Cx:={ X with A:=X.A.mark (some (.ref x)),calm:=false,xe:=λ_ _=>zh,pn:=X.pn++R1++[(x,o)] }
variable{R1:nE}
theorem Cx.Ok.SH {x:qA}(ok:X.Ok):(X.SH R1 x o).Ok :=
 ⟨ok.mod,ok.kind,ok.glob,ok.blt,ok.above,ok.inj,ok.has,ok.cab,(λh=>by cases h),ok.frames,ok.stk,ok.exf,ok.bs,ok.bsz,ok.noex,ok.exfs,ok.fF,ok.frf⟩
theorem Cx.Ok.pT {x:qA}(hc:X.calm=true->X.A.handled=none) (ok:(X.SH R1 x o).Ok):X.Ok :=
 ⟨ok.mod,ok.kind,ok.glob,ok.blt,ok.above,ok.inj,ok.has,ok.cab,hc,ok.frames,ok.stk,ok.exf,ok.bs,ok.bsz,ok.noex,ok.exfs,ok.fF,ok.frf⟩
section
variable {X:Cx}{R1:nE}{O:St}{H:Hp}{s:rK}
theorem Inv.SH {x t T:qA}{cls:qT}(I:Inv X R1 O H s) (f:cN X R1 H x) (ex:s.heap.get? x=some (nR cls t (.ref T))):Inv (X.SH R1 x (nR cls t (.ref T))) [] O H s :=
 ⟨I.ok.SH,I.os,I.bare,I.base,I.loc,I.cell,I.free,I.freeC,λp hp=>by
  rw[PN] at hp;rcases Oe.mp hp with hp | hp
  .exact I.pin p hp
  .rcases NZ.mp hp with rfl
   exact⟨ex,f.1,f.2.1,f.2.2.1,λv z=>by cases z⟩,I.hok,I.len⟩
theorem Inv.pT {pl:nE}{x:qA}{o:Obj}{O':St}{H':Hp}{s':rK}(hc:X.calm=true->X.A.handled=none) (I:Inv (X.SH R1 x o) pl O' H' s'):Inv X R1 O' H' s' :=
 ⟨I.ok.pT hc,I.os,I.bare,I.base,I.loc,I.cell,I.free,I.freeC,λp hp=>I.pin p (Oy _ (Oy _ hp)),I.hok,I.len⟩
end
abbrev TH:=Ends->qT->St->Hp->Prop
def PH (X:Cx) (hs:qx Vd) (th:TH):Prop :=
 ∀(R1:nE) (s:rK) (O:St) (H:Hp) (D:Ends) (x:qA) (cls:qT),Inv X R1 O H s->mq X R1 H s.heap x cls .none->th D cls O H ->
  xA (model X.prog X.w) X.A (handleBy (.ref x) X.env hs) (SP X R1 D) X.xe s
theorem J2:PH X [] (λ_ _ _ _=>zh):=λ_ _ _ _ _ _ _ _ _ h=>h.elim
def JW (K:R7) (D:qA) (ts:qx (qA×Obj)->qA->Obj->TS) (th:TH):TH:=λDs cls O H=> ∃C b,cls= .ref C/\BM K C rH "ValueError.__new__" = true/\ra K cls D=some b/\if b=true then ∀R1 x o,ts R1 x o Ds O H else th Ds cls O H
variable{th:TH}
theorem gU {n:va}{D:qA}{np:Pos}{b0:zc}{suite:qx zc}{rest:qx Vd}{ts:qx (qA×Obj)->qA->Obj->TS}(c:XC X.K X.mg n D) (hsu: ∀R1 x o,Sz (X.SH R1 x o) (b0::suite) (ts R1 x o)) (hr:PH X rest th)
  (hg:Gl X n:=by rfl) (hdb:DB n:=by decide):PH X (.ExceptHandler (some (.Name n np)) none (b0::suite) pos::rest) (JW X.K D ts th):=by
 intro R1 s O H Ds x cls I e q;obtain⟨C,b,rfl,hC,hsb,q⟩:=q;obtain⟨fx,t,T,ex,hT⟩:=id e;have Ih:=I.SH fx ex;show wpAny_handleBy_cons (codeAny_handlers_test (wpAny_noRaise (kQ (X:=X.SH R1 x _) (E:=λ_ _=>zh) Ih hg c.1 ?_ hdb) |> λz=>z)) (by intro z; cases z);show G0 I e hC c.2 hsb ?_;cases b with
 | true =>
  rw[NW rfl] at q;show codeAny_handlers_suite<|wpAny_noRaise ?_;show kA (X:=X) (fr:=none) I e λs2 I2 e2=>?_;obtain⟨fx2,t2,T2,ex2,_⟩:=id e2;show wpAny_noRaise<|Sf (hsu R1 x _ [] s2 O H Ds (I2.SH fx2 ex2)<|q _ _ _) λf s3 sp=>?_;cases f with
  | next=>obtain⟨O',H',I',q'⟩:=sp; erw[O',H',I'.pT I.ok.hd,q']
  | brk=>obtain⟨O',H',I',q'⟩:=sp; erw[O',H',I'.pT I.ok.hd,q']
  | cont=>obtain⟨O',H',I',q'⟩:=sp; erw[O',H',I'.pT I.ok.hd,q']
  | ret v=>obtain⟨v',O',H',I',r,q'⟩:=sp; erw[v',O',H',I'.pT I.ok.hd,r,q']
 | false =>
  rw[NS Ol] at q;show hr R1 s O H Ds x (.ref C) I e q
def Kd (tb:qx (qA×Obj)->(St->XK)->TS) (to:TS) (th:TH):TS:=λD O H=> ∃E':St->XK,(∀R1,tb R1 E' { D with nx:=to D } O H)/\ ∀O' cls H',E' O' cls none H'->th D cls O' H'
variable{body:qx zc}{h0:Vd}{hs:qx Vd}{tb:qx (qA×Obj)->(St->XK)->TS}
theorem Ia {orelse:qx zc}{to:TS}(eQ:Own X) (hb: ∀R1 E',Sz (X.exc R1 E') body (tb R1 E')) (ho:Sz X orelse to) (hh:PH X (h0::hs) th) :
  PS X (.Try body (h0::hs) orelse [] pos) (Kd tb to th):=by
 intro R1 s O H D I q;obtain⟨E',q1,q2⟩:=q;have I0:Inv (X.exc R1 E') [] O H s:=Inv.exc (by rw[PN]; show I);have back: ∀ {O':St}{H':Hp}{s':rK},Inv (X.exc R1 E') [] O' H' s'->Inv X R1 O' H' s':=λI'=>by
  have:=I'.eY
  rwa [PN] at this
 show wpAny_Try_except<|Pa (hb R1 E' [] s O H _ I0<|q1 R1) (λf s1 sp=>?_) λe s1 x=>?_
 .cases f with
  | next =>
   obtain⟨O',H',I',q'⟩:=sp;show ho R1 s1 O' H' D (back I') q'
  | brk=>obtain⟨O',H',I',q'⟩:=sp; erw[O',H',back I',q']
  | cont=>obtain⟨O',H',I',q'⟩:=sp; erw[O',H',back I',q']
  | ret v=>obtain⟨v',O',H',I',r,q'⟩:=sp; erw[v',O',H',back I',r,q']
 .obtain⟨O1,H1,x,cls,rfl,I1,ex,q'⟩:=x;show rb eQ rfl I1 ex λs2 I2 e2=>?_;show kA (fr:=none) I2 e2 λs3 I3 e3=>?_;show hh R1 s3 O1 H1 D x cls I3 e3<|q2 O1 cls H1 q'
theorem Kt(eQ:Own X) (hb: ∀R1 E',Sz (X.exc R1 E') body (tb R1 E')) (hh:PH X (h0::hs) th) :
  PS X (.Try body (h0::hs) [] [] pos) (Kd tb G8 th):=Ia eQ hb ax hh
section
variable {prog:tq}{w:sW}{A:uc}{E:oF}{s:rK}
end
structure NL (k:u6) (A:uc):Prop where
 dp:A.depth+3*k+5 < recursionLimit
 un:A.units+16*k+200 < DK
section
variable {P:tq}{w:sW}{K:R7}{mg:oR}{base:yk}
end
end L2
namespace L2
open PySem PySem.Spec PyProof.Rows PySem.W
structure EC (K:Frag) (C:qA):Prop where
 ga:findIn K (.ref C) "__getattribute__" = some (some (.builtin "BaseException.__getattribute__"))
 gn:findIn K (.ref C) "__getattr__" = some none
 cl:findIn K (.ref C) "__class__" = some (some (.builtin "object.__class__"))
 sb:subIn K (.ref C) (.type "BaseException")=some true
 so:subIn K (.ref C) (.type "object")=some true
section
variable {prog:tq}{w:sW}{A:uc}{E:oF}{K:Frag}{h:yk}{g:zR GenState}{d:Drawn}{tk:u6}{os:OsState}{a C:qA}{o:Obj}
end
end L2
namespace L2
open PySem PySem.Spec PyProof.Rows
section
variable {h base:yk}{x b:qA}{o:Obj}
end
section
variable {X:Cx}{R1:nE}{k:u6}{x tt:qA}{cls tb:qT}{n:va}{ps:qx va}{sp:yk->Sp}{p pos:Pos}{e:tW}{es:qx tW}{t:TA}
end
section
variable {M:Model}{A:uc}{E:oF}{s:rK}
end
section
variable {X:Cx}{R1:nE}{O:St}{H:Hp}{s:rK}
end
def isStar:tW->yW
 | .Starred _ _=>true
 | _=>false
theorem oi {e:tW}{es:qx tW}{env:Env}(h:isStar e=false):zb (e::es) env=(false,eval e env)::zb es env:=by
 cases e <;> first | rfl | cases h
theorem aj {X:Cx}{e:tW}{es:qx tW}{te:TE}{t:TA}(ha:PE X e te) (hr:PA X es t) (hs:isStar e=false:=by rfl):PA X (e::es) (qc te t):=IH ha hr (oi hs)
theorem vU: ∀ {ys:qx va}{us:qx qT},Vals (ys.map V.str) us->StrsAre us ys
 | [],_,.nil=> .nil
 | y::ys,_,.cons r t=>by
  obtain⟨k,rfl⟩:=r;show .cons y k<|vU t
inductive Ki (K:R7) (x:V) (vs:qx V) (H:Hp) (Q:VK):Prop | mk (z l ys:_) (e0:x= .str z) (e1:vs=[.ref l]) (e2:R5 K H l (ys.map V.str)) (e3:z.length<=16) (e4:(ys.map (·.length)).sum+ys.length<=1048576) (q:Q (.str (yL z ys)) H)
def rJoin (K:R7):V->qx V->Hp->VK->Prop:=λx vs H Q=>Ki K x vs H Q
theorem gW {X:Cx}:TZ X "str.join" (rJoin X.K):=by
 intro R1 s O H x vs v us Q I rx rv h;obtain⟨z,l,ys,rfl,rfl,hq,h1,h2,q⟩:=h;obtain⟨t,rfl⟩:=rx;obtain⟨u,rfl,ru⟩:=rv.one;cases ru;obtain⟨its,r,p,_⟩:=I.list hq;show join_listW p.isList (vU r) h1 h2 λt' k=>⟨.str _,H,I.tok k,⟨t',Z⟩,q⟩
end L2
namespace L2
open PySem PySem.Spec PyProof.Rows PySem.W
structure MD (psc scope:A3) (p:va) (frn:qx va):Prop where
 kind:scope.kind= .function
 co:scope.isCoroutine=false
 gen:scope.isGenerator=false
 cell: ∀y∈scope.names,y.2≠ .cell
 par:scope.names.lookup p=some .local
 free: ∀y∈scope.names,y.2= .free->psc.names.lookup y.1=some .cell\/psc.names.lookup y.1=some .free
 nd:(p::frn).Nodup
 frn: ∀x∈frn,scope.names.lookup x=some .free
abbrev Nh (X:Cx) (qual:va) (scope:A3) (L f c:qA):Env:=envX qual scope L f (.ref c) (c8 scope.names X.env.cells [])
section
variable {X:Cx}{R1:nE}{O:St}{H:Hp}{s:rK}
end
section
variable {X:Cx}{R1:nE}{O:St}{H:Hp}{s:rK}
end
section
variable {X:Cx}{R1:nE}{O:St}{H:Hp}{s:rK}{A:uc}{E:oF}{a kS:qA}{vs:qx qT}{kz:qx u7}{keys:zR qT}{e e1:u6}{P:WI->rK->Prop}
end
section
variable {X:Cx}{R1:nE}{O:St}{H:Hp}{s:rK}{A:uc}{E:oF}{a kS:qA}{vs:qx qT}{kz:qx u7}{keys:zR qT}{e e1:u6}{P:WI->rK->Prop}
end
theorem Inv.G5 {X:Cx}{R1:nE}{O:St}{H:Hp}{s:rK}{a:qA}{o:HO}(I:Inv X R1 O H s) (f:cN X R1 H a) (new:dq X.prog X.w (upd H a o) s.heap a o):Inv X R1 O (upd H a o) s:=by
 obtain⟨f0,f1,f2,f3,f4,f5⟩:=f;have ne: ∀b u,H b=some u->b≠a:=λb u e=>az e f0;erw[I.ok,I.os,I.bare,⟨I.base.keep,I.base.slot,λb ob e n hx=>?_,I.base.there,λb xs e=>?_,λb ob u e=>?_,λb ps e=>?_⟩,I.loc,I.cell,?_,λx c e=>?_,λp hp=>?_,λb u e=>?_,I.len]
 .rw[ah λz=>?_];.exact I.base.free b ob e n hx
  .rcases f3 with h | h
   .exact hx<|z▸h
   .exact wz (Of e)<|Qf.mpr (by rw[z]; show h)
 .have:=I.base.tups b xs e;rw[ah<|ne b _ this];show this
 .have:=I.base.frzs b ob u e;rw[ah<|ne b _ this];show this
 .obtain⟨m,this⟩:=I.base.tbls b ps e;erw[m,by rw[ah<|ne b _ this]; show this]
 .rw[ah<|Ox f1];show I.free
 .rw[ah<|f4 x c e];show I.freeC x c e
 .obtain⟨a1,a2,a3,a4,a5⟩:=I.pin p hp;erw[a1,by rw[ah<|f5 p hp]; show a2,a3,a4,a5]
 .by_cases hb:b=a
  .subst hb;rw[af] at e;cases e;show new
  .rw[ah hb] at e;show (I.hok b u e).mj (λ_ _ _ z=>z) (λc z=>by rw[ah<|ne c _ z]; show z) λc xs z=>by rw[ah<|ne c _ z]; show z
section
variable {X:Cx}
end
end L2
namespace L2
open PySem PySem.Spec PyProof.Rows
inductive Iw (x:V) (vs:qx V) (H:Hp) (Q:VK):Prop | mk (l:qA) (ns:qx u7) (i:u7) (j:u6) (e0:x= .ref l) (e1:vs=[.int i]) (e2:H l=some (.lst (ns.map V.int))) (e3:ns[j]?=some i) (e4:(∀m,m < j->ns[m]?≠some i)) (q:Q (.int (j:u6)) H)
def Kv:V->qx V->Hp->VK->Prop:=λx vs H Q=>Iw x vs H Q
theorem Fy {X:Cx}:TB X "list.index" Kv:=by
 intro R1 s O H x vs v us Q I rx rv h;obtain⟨l,ns,i,j,rfl,rfl,hH,hj,hno,q⟩:=h;cases rx;obtain⟨u,rfl,t,rfl⟩:=rv.one;obtain⟨z,its,n,r,hl,e⟩:=I.lH hH;have hlen:its.length=ns.length:=by
  rw[<-hl,NR]
 have hat: ∀m k,ns[m]?=some k-> ∃t,its[m]?=some (zj k t):=λm k hm=>by
  obtain⟨u,hu,ru⟩:=r.get (i:=m) (x:= .int k) (by rw[N7,hm]; rfl);obtain⟨t,rfl⟩:=ru;erw[t,hu]
 have hjl:j < ns.length:=(NX.mp hj).1;have val: ∀m (hm:m < its.toArray.size),∃k t,ns[m]?=some k/\its.toArray[m]=zj k t:=λm hm=>by
  have hm':m < ns.length:=by simpa [hlen] using hm
  obtain⟨t,ht⟩:=hat m ns[m]<|NV hm';erw[ns[m],t,NV hm',?_];have:=(NX.mp ht).2;simpa using this
 let eq:qT->yW:=λy=>match y with | .int k _=>k == i | _=>false
 have he: ∀y,y∈its.toArray->Vp y (.int i t) (eq y):=λy hy=>by
  obtain⟨m,hm,rfl⟩:=Q9.mp hy;obtain⟨k,t',_,e2⟩:=val m hm;rw[e2];show XD k i t' t
 have hjs:j < its.toArray.size:=by rw[Og,hlen]; show hjl
 show PF F.slot_list_index ⟨_,e,Z⟩ V9 (VQ _ _) (VR l its.toArray n (.int i t) eq he j hjs ?_ ?_ ?_) ⟨e,?_⟩
 .rw[hl] at z;have:its.length<=sizeLine:=Y;have h2:sizeLine < 2 ^ 62:=by decide
  lia
 .obtain⟨k,t',e1,e2⟩:=val j hjs;rw[e2];rw[hj] at e1;cases e1;simp[eq]
 .intro m hm hmj;obtain⟨k,t',e1,e2⟩:=val m hm;rw[e2];have:k≠i:=λz=>hno m hmj<|z▸e1;simpa [eq] using this
 .nomatch .int (j:u6),H,I.tok _,⟨_,Z⟩,q
section
variable {X:Cx}
inductive LI (K:R7) (xs:qx V) (H:Hp) (Q:VK):Prop | mk (x n:_) (e0:xs=[x]) (e1:Kc K x H n) (q:Q (.int n) H)
def K2 (K:R7):qx V->Hp->VK->Prop:=λxs H Q=>LI K xs H Q
theorem D0:cJ X (.builtin "len") (K2 X.K):=λ_ _ _ _ _ _ _ I r ⟨x,n,e,l,q⟩=>GQ _ _ _ _ _ _ _ I r ⟨x,n,e,l,q⟩
inductive GU (K:R7) (xs:qx V) (H:Hp) (Q:VK):Prop | mk (p ys:_) (e0:xs=[.ref p]) (e1:(R5 K H p ys\/Se K H p ys)) (q: ∀l,H l=none->Q (.ref l) (upd H l (.lst ys)))
def pS (K:R7):qx V->Hp->VK->Prop:=λxs H Q=>GU K xs H Q
theorem kh:cJ X (.type "list") (pS X.K):=λ_ _ _ _ _ _ _ I r ⟨x,n,e,l,q⟩=>yx _ _ _ _ _ _ _ I r ⟨x,n,e,l,q⟩
end
inductive Lk (K:R7) (x y:V) (H:Hp) (Q:VK):Prop | mk (a b:qA) (ns ms:qx u7) (e0:x= .ref a) (e1:y= .ref b) (e2:R5 K H a (ns.map V.int)) (e3:R5 K H b (ms.map V.int)) (q:Q (.bl (decide (ns=ms))) H)
def Gi (K:R7):R2:=λx y H Q=>Lk K x y H Q
theorem qN {ns:qx u7}{us:qx qT}(r:Vals (ns.map V.int) us){j:u6}(h:j < us.length): ∃t,us[j]'h=zj (ns.getD j 0) t:=by
 have hl:us.length=ns.length:=by rw[<-r.length,NR]
 have hj:j < ns.length:=Y;obtain⟨u,hu,t,rfl⟩:=r.get (i:=j) (x:= .int ns[j]) (by rw[N7,NV hj]; rfl);erw[t,?_];have:=(NX.mp hu).2;rw[this,NY,NV hj];rfl
theorem GN (ns ms:qx u7) (h:ns.length=ms.length):(wx ns.length).all (λi=>ns.getD i 0 == ms.getD i 0)=decide (ns=ms):=by
 rw[P6,O3,Qu];constructor
 .intro a;show RS h λi h1 h2=>?_;have:=a i<|Oq.mpr h1;simpa [NY,h1,h2] using this
 .intro e i _;rw[e];show beq_self_eq_true _
theorem DQ {X:Cx}(hu:X.A.units+1 < DK):So X (zm .Eq) (Gi X.K):=by
 intro R1 s O H x y v u Q I rx ry h;obtain⟨a,b,ns,ms,rfl,rfl,ha,hb,q⟩:=h;cases rx;cases ry;obtain⟨us,r1,p1,z1⟩:=I.list ha;obtain⟨vs,r2,p2,z2⟩:=I.list hb;have l1:us.length=ns.length:=by rw[<-r1.length,NR]
 have l2:vs.length=ms.length:=by rw[<-r2.length,NR]
 by_cases hl:ns.length=ms.length
 .show SeqAt.eq_listAt (e:=λi=>ns.getD i 0 == ms.getD i 0) p1.isList p2.isList (by simp; lia) Y (λj h1 h2=>?_) ?_
  .obtain⟨t1,e1⟩:=qN r1 (j:=j) (by simpa using h1);obtain⟨t2,e2⟩:=qN r2 (j:=j) (by simpa using h2);simp only[List.getElem_toArray,e1,e2];show V5 _ _ _ _
  .rw[show us.toArray.size=ns.length by simpa using l1,GN ns ms hl];erw[.bl _,H,I,Z,q]
 .show SeqAt.eq_list_lengthsAt p1.isList p2.isList (by simp; lia) Y ?_;rw[show decide (ns=ms)=false from N8 λe=>hl (by rw[e])] at q;erw[.bl _,H,I,Z,q]
section
variable {X:Cx}{e st:tW}{te ts:TE}{pos p2:Pos}
inductive NG (K:R7) (Q:VK) (x:V) (H2:Hp):Prop | mk (a xs:_) (e0:x= .ref a) (e1:R5 K H2 a xs) (q: ∀p,H2 p=none->Q (.ref p) (upd H2 p (.lst xs.reverse)))
end
end L2
namespace MA
abbrev ao:=u7×u7×u7
def g (ws:qx u7) (i:u7):u7:=ws.getD i.toNat 0
def mx (i j:u7):u7:=if j > i then j else i
theorem fP (i j:u7):i<=mx i j:=by unfold mx; split <;> lia
theorem iP (i j:u7):j<=mx i j:=by unfold mx; split <;> lia
variable{i:u7}
theorem sC {j k:u7}(h1:i<=k) (h2:j<=k):mx i j<=k:=by unfold mx; split <;> lia
def ask (f:u7->u7) (r:ao):u7:=if r.2.1= -1 then r.2.2 else f r.2.1+r.2.2
def put (ws:qx u7) (i v:u7):qx u7:=ws.set i.toNat v
def dJ (ws:qx u7) (r:ao):qx u7:=put ws r.1 (mx (g ws r.1) (ask (g ws) r))
def bQ (rs:qx ao) (ws:qx u7):qx u7:=rs.foldl dJ ws
def Sh (n:u6) (r:ao):Prop:=0<=r.1/\r.1 < n/\ -1<=r.2.1/\r.2.1 < n/\0<=r.2.2
def Met (rs:qx ao) (f:u7->u7):Prop:= ∀r∈rs,ask f r<=f r.1
def Le (n:u6) (f h:u7->u7):Prop:= ∀i:u7,0<=i->i < n->f i<=h i
variable{ws:qx u7}
theorem fJ {v j:u7}(hi:0<=i) (hl:i < ws.length) (hj:0<=j):g (put ws i v) j=if j=i then v else g ws j:=by
 unfold g put;rw[NY,NY,List.getElem?_set];by_cases e:j=i
 .subst e;have:j.toNat < ws.length:=Y;simp[this]
 .have:i.toNat≠j.toNat:=Y;simp[this,e]
theorem gC {v:u7}:(put ws i v).length=ws.length:=P8
variable{r:ao}
theorem ji:(dJ ws r).length=ws.length:=gC
theorem fV (rs:qx ao): ∀ws,(bQ rs ws).length=ws.length:=by
 induction rs with
 | nil=>intro ws; rfl
 | cons r rs ih=>intro ws; show (ih _).trans ji
variable{n:u6}{f:u7->u7}
theorem xv {h:u7->u7}(k:Sh n r) (hl:Le n f h):ask f r<=ask h r:=by
 obtain⟨_,_,h3,h4,_⟩:=k;unfold ask;split;.exact Oo _
 .have:=hl r.2.1 Y h4;lia
theorem vG(k:Sh n r) (hl:ws.length=n):Le n (g ws) (g (dJ ws r)):=λi h0 h1=>by
 unfold dJ;rw[fJ k.1 (by rw[hl]; show k.2.1) h0];split;.rename_i e; rw[e]; show fP _ _
 .exact Oo _
theorem jF: ∀(rs:qx ao) (ws:qx u7),(∀r∈rs,Sh n r)->ws.length=n->Le n (g ws) (g (bQ rs ws))
 | [],ws,_,_=>λi _ _=>Oo _
 | r::rs,ws,k,hl=>λi h0 h1=>OJ (vG (k r (N6)) hl i h0 h1) (jF rs (dJ ws r) (λx hx=>k x (N4 _ hx)) (ji.trans hl) i h0 h1)
theorem CQ(k:Sh n r) (hl:ws.length=n) (hf:ask f r<=f r.1) (h:Le n (g ws) f):Le n (g (dJ ws r)) f:=λi h0 h1=>by
 unfold dJ;rw[fJ k.1 (by rw[hl]; show k.2.1) h0];split;.rename_i e; rw[e]; show sC (h _ k.1 k.2.1) (OJ (xv k h) hf)
 .exact h i h0 h1
theorem jI: ∀(rs:qx ao) (ws:qx u7),(∀r∈rs,Sh n r)->ws.length=n->Met rs f->Le n (g ws) f->Le n (g (bQ rs ws)) f
 | [],ws,_,_,_,h=>h
 | r::rs,ws,k,hl,hf,h=>jI rs (dJ ws r) (λx hx=>k x (N4 _ hx)) (ji.trans hl) (λx hx=>hf x (N4 _ hx)) (CQ (k r (N6)) hl (hf r (N6)) h)
theorem pG: ∀(rs:qx ao) (ws:qx u7) (f:u7->u7),(∀r∈rs,Sh n r)->ws.length=n->Le n f (g ws)-> ∀r∈rs,ask f r<=g (bQ rs ws) r.1
 | [],ws,f,_,_,_=>λr hr=>by cases hr
 | q::rs,ws,f,k,hl,h=>λr hr=>by
  have k':=λx hx=>k x<|N4 q hx;have kq:=k q<|N6;have hl':(dJ ws q).length=n:=ji.trans hl;rcases N5.mp hr with rfl | hr
  .have h1:ask f r<=g (dJ ws r) r.1:=by
    unfold dJ;rw[fJ kq.1 (by rw[hl]; show kq.2.1) kq.1,NW rfl];show OJ (xv kq h) (iP _ _)
   show OJ h1<|jF rs (dJ ws r) k' hl' _ kq.1 kq.2.1
  .exact pG rs (dJ ws q) f k' hl' (λi h0 h1=>OJ (h i h0 h1)<|vG kq hl i h0 h1) r hr
variable{rs:qx ao}
theorem iy(k: ∀r∈rs,Sh n r) (hl:ws.length=n) (h:bQ rs ws=ws):Met rs (g ws):=λr hr=>by
 have:=pG rs ws (g ws) k hl (λ_ _ _=>Oo _) r hr
 rwa [h] at this
variable{us:qx u7}
theorem He(h:ws.length=us.length) (e: ∀i:u7,0<=i->i < ws.length->g ws i=g us i):ws=us:=by
 show RS h λi h1 h2=>?_;have:=e i Y Y;unfold g at this;simpa [NY,h1,h2] using this
def it (rs:qx ao):u6->qx u7->qx u7
 | 0,ws=>ws
 | k+1,ws=>it rs k (bQ rs ws)
theorem Az (rs:qx ao): ∀k ws,it rs (k+1) ws=bQ rs (it rs k ws)
 | 0,ws=>rfl
 | k+1,ws=>Az rs k (bQ rs ws)
theorem my (rs:qx ao): ∀k ws,(it rs k ws).length=ws.length
 | 0,ws=>rfl
 | k+1,ws=>(my rs k _).trans (fV rs ws)
theorem tM(k: ∀r∈rs,Sh n r): ∀m ws,ws.length=n->Le n (g ws) (g (it rs m ws))
 | 0,ws,_=>λ_ _ _=>Oo _
 | m+1,ws,hl=>λi h0 h1=>OJ (jF rs ws k hl i h0 h1) (tM k m (bQ rs ws) ((fV rs ws).trans hl) i h0 h1)
theorem sN(k: ∀r∈rs,Sh n r) (hf:Met rs f): ∀m ws,ws.length=n->Le n (g ws) f->Le n (g (it rs m ws)) f
 | 0,ws,_,h=>h
 | m+1,ws,hl,h=>sN k hf m (bQ rs ws) ((fV rs ws).trans hl) (jI rs ws k hl hf h)
def gap (n:u6) (f:u7->u7) (ws:qx u7):u6:=((wx n).map λi=>(f (i:u6) - g ws (i:u6)).toNat).sum
theorem tL: ∀(l:qx u6) (a b:u6->u6),(∀i∈l,a i<=b i)->(l.map a).sum<=(l.map b).sum
 | [],_,_,_=>N0 _
 | x::l,a,b,h=>by
  simp only[OH,Po];have:=h x<|N6;have:=tL l a b λi hi=>h i<|N4 _ hi;lia
theorem oU: ∀(l:qx u6) (a b:u6->u6),(∀i∈l,a i<=b i)->(∃i∈l,a i < b i)->(l.map a).sum < (l.map b).sum
 | [],_,_,_,⟨_,h,_⟩=>by cases h
 | x::l,a,b,h,⟨i,hi,hl⟩=>by
  simp only[OH,Po];have h1:=h x<|N6;have h2: ∀i∈l,a i<=b i:=λi hi=>h i<|N4 _ hi;rcases N5.mp hi with rfl | hi
  .have:=tL l a b h2;lia
  .have:=oU l a b h2 ⟨i,hi,hl⟩;lia
theorem xB(h1:ws.length=n) (h2:us.length=n) (hne:ws≠us): ∃i:u6,i < n/\g ws (i:u6)≠g us (i:u6):=by
 show OO λc=>hne<|He (h1.trans h2.symm) λi h0 hi=>?_;show OO λd=>c ⟨i.toNat,Y,?_⟩;rw[show ((i.toNat:u6):u7)=i by lia];show d
theorem ends(k: ∀r∈rs,Sh n r) (hf:Met rs f): ∀(m:u6) (ws:qx u7),ws.length=n->Le n (g ws) f->gap n f ws=m-> ∃N,bQ rs (it rs N ws)=it rs N ws:=by
 intro m;induction m using Nat.strongRecOn with
 | _ m ih =>
  intro ws hl h hm;by_cases e:bQ rs ws=ws;.exact⟨0,e⟩
  .have hl':(bQ rs ws).length=n:=(fV rs ws).trans hl;have hf':=jI rs ws k hl hf h;have hup:=jF rs ws k hl;obtain⟨i,hi,hd⟩:=xB hl' hl e;have lt:gap n f (bQ rs ws) < gap n f ws:=by
    show oU _ _ _ (λj hj=>?_) ⟨i,Oq.mpr hi,?_⟩
    .have hj:=Oq.mp hj;have:=hup (j:u6) Y Y;lia
    .have:=hup (i:u6) Y Y;have:=hf' (i:u6) Y Y;have:=h (i:u6) Y Y;lia
   obtain⟨N,hN⟩:=ih _ (hm▸lt) (bQ rs ws) hl' hf' rfl;erw[N+1,hN]
variable{L:qx u7}
theorem Il {ws0:qx u7}(k: ∀r∈rs,Sh n r) (hl:ws.length=n) (hL:L.length=n) (h0:Le n (g ws0) (g ws)) (h1:Le n (g ws) (g L)) (hm:Met rs (g L))
  (least: ∀f,Le n (g ws0) f->Met rs f->Le n (g L) f) (hne:ws≠L): ∃i:u6,i < n/\g ws (i:u6) < g L (i:u6)/\g (bQ rs ws) (i:u6)=g L (i:u6):=by
 show OO λc=>?_;have c': ∀i:u7,0<=i->i < n->g ws i < g L i->g (bQ rs ws) i < g L i:=λi a b d=>by
  have up:=jI rs ws k hl hm h1 i a b;have: ¬g (bQ rs ws) i=g L i:=λe=>c ⟨i.toNat,Y,by rw[show ((i.toNat:u6):u7)=i by lia]; exact⟨d,e⟩⟩;lia
 let f:u7->u7:=λi=>if g ws i < g L i then g L i - 1 else g L i
 have f_le: ∀i,f i<=g L i:=λi=>by
  change (if g ws i < g L i then g L i - 1 else g L i)<=g L i;split <;> lia
 have fm:Met rs f:=λr hr=>by
  obtain⟨r1,r2,r3,r4,r5⟩:=k r hr;have a1:=pG rs ws (g ws) k hl (λ_ _ _=>Oo _) r hr;have a2:=hm r hr;have hb:=λ(x:0<=r.2.1)=>h1 r.2.1 x r4;have ho:=c' r.1 r1 r2;change ask f r<=if g ws r.1 < g L r.1 then g L r.1 - 1 else g L r.1;unfold ask at a1 a2 ⊢;by_cases e:r.2.1= -1
  .rw[NW e] at a1 a2 ⊢;split <;> lia
  .rw[NS e] at a1 a2 ⊢;have hb:=hb Y;change (if g ws r.2.1 < g L r.2.1 then g L r.2.1 - 1 else g L r.2.1)+r.2.2<=_;split <;> split <;> lia
 have f0:Le n (g ws0) f:=λi a b=>by
  have:=h0 i a b;have:=h1 i a b;change _<=if g ws i < g L i then g L i - 1 else g L i;split <;> lia
 obtain⟨i,hi,hd⟩:=xB hl hL hne;have q:=least f f0 fm (i:u6) Y Y;have p:=h1 (i:u6) Y Y;have fe:f (i:u6)=g L (i:u6) - 1:=NW Y;lia
theorem D6: ∀l:qx u6,(l.map λ_=>1).sum=l.length
 | []=>rfl
 | _::l=>by simp only[OH,Po,Oh,D6 l]; lia
theorem ones (n:u6):((wx n).map λ_=>1).sum=n:=(D6 _).trans O7
def cnt (n:u6) (ws L:qx u7):u6:=((wx n).map λi=>if g ws (i:u6)=g L (i:u6) then 1 else 0).sum
theorem HQ(h1:ws.length=n) (h2:L.length=n) (h:n<=cnt n ws L):ws=L:=by
 show OO λhne=>?_;obtain⟨i,hi,hd⟩:=xB h1 h2 hne;have:=oU (wx n) (λi=>if g ws (i:u6)=g L (i:u6) then 1 else 0) (λ_=>1) (λi _=>by change (if _ then 1 else 0)<=1; split <;> lia) ⟨i,Oq.mpr hi,by change (if _ then 1 else 0) < 1; rw[NS hd]; lia⟩;have e:((wx n).map λ_=>1).sum=n:=ones n;unfold cnt at h;lia
theorem yU {f:u7->u7}(k: ∀r∈rs,Sh n r) (hl:ws.length=n) (hf:Met rs f) (h:Le n (g ws) f):bQ rs (it rs n ws)=it rs n ws:=by
 obtain⟨N,hN⟩:=ends k hf _ ws hl h rfl;have hLl:(it rs N ws).length=n:=(my rs N ws).trans hl;have hm:=iy k hLl hN;have least: ∀f,Le n (g ws) f->Met rs f->Le n (g (it rs N ws)) f:=λf a b=>sN k b N ws hl a;have up:=tM k N ws hl;generalize it rs N ws=L at hN hLl hm least up;have main: ∀m,it rs m ws=L\/m<=cnt n (it rs m ws) L:=λm=>by
  induction m with
  | zero=>show .inr (ON _)
  | succ m ih =>
   rw[Az];rcases ih with e | ih
   .rw[e]; show .inl hN
   .by_cases e:it rs m ws=L;.rw[e]; show .inl hN
    .have hml:(it rs m ws).length=n:=(my rs m ws).trans hl;have hmL:=sN k hm m ws hl up;obtain⟨i,hi,a,b⟩:=Il k hml hLl (tM k m ws hl) hmL hm least e;have hrL:=jI rs (it rs m ws) k hml hm hmL;have hru:=jF rs (it rs m ws) k hml;show .inr<|Pl ih<|oU _ _ _ (λj hj=>?_) ⟨i,Oq.mpr hi,?_⟩
     .have hj:=Oq.mp hj;have:=hrL (j:u6) Y Y;have:=hru (j:u6) Y Y;split <;> split <;> lia
     .change (if _ then 1 else 0) < (if _ then 1 else 0);rw[NS Y,NW b];decide
 rcases main n with e | e
 .rw[e]; show hN
 .rw[HQ ((my rs n ws).trans hl) hLl e]; show hN
def loop (rs:qx ao):u6->qx u7->rW (qx u7)
 | 0,_=>none
 | k+1,ws=>if bQ rs ws=ws then some ws else loop rs k (bQ rs ws)
def aZ (n:u6) (rs:qx ao):rW (qx u7):=loop rs (n+1) (wo n 0)
theorem vi(k: ∀r∈rs,Sh n r): ∀(m:u6) (ws L:qx u7),ws.length=n->loop rs m ws=some L->L.length=n/\Met rs (g L)/\Le n (g ws) (g L)/\ ∀f,Le n (g ws) f->Met rs f->Le n (g L) f
 | 0,ws,L,_,h=>by cases h
 | m+1,ws,L,hl,h=>by
  unfold loop at h;split at h
  .rename_i e;cases h;erw[hl,iy k hl e,λ_ _ _=>Oo _,λf a _=>a]
  .obtain⟨a,b,c,d⟩:=vi k m (bQ rs ws) L ((fV rs ws).trans hl) h;erw[a,b,λi h0 h1=>OJ (jF rs ws k hl i h0 h1)<|c i h0 h1,λf p q=>d f (jI rs ws k hl q p) q]
theorem vE (rs:qx ao): ∀(m:u6) (ws:qx u7),loop rs m ws=none-> ∀j,j < m->bQ rs (it rs j ws)≠it rs j ws
 | 0,_,_,_,h=>wz h (OU _)
 | m+1,ws,h,j,hj=>by
  unfold loop at h;split at h;.cases h
  .rename_i e;cases j with
   | zero=>show e
   | succ j=>show vE rs m (bQ rs ws) h j Y
theorem kZ(i:u7):g (wo n 0) i=0:=by
 unfold g;rw[NY,QS];split <;> rfl
theorem bG(k: ∀r∈rs,Sh n r) (h:aZ n rs=some L):L.length=n/\Met rs (g L)/\(∀i:u7,0<=i->i < n->0<=g L i)/\ ∀f:u7->u7,(∀i:u7,0<=i->i < n->0<=f i)->Met rs f->Le n (g L) f:=by
 obtain⟨a,b,c,d⟩:=vi k (n+1) _ L uD h;erw[a,b,λi h0 h1=>?_,λf p q=>d f (λi h0 h1=>by rw[kZ]; show p i h0 h1) q];have:=c i h0 h1
 rwa [kZ] at this
theorem lP(k: ∀r∈rs,Sh n r) (h0: ∀i:u7,0<=i->i < n->0<=f i) (hf:Met rs f): ∃L,aZ n rs=some L:=by
 cases e:aZ n rs with
 | some L=>exact⟨L,Z⟩
 | none=>show wz (yU k uD hf λi a b=>by rw[kZ]; show h0 i a b) (vE rs (n+1) _ e n Y)
end MA
namespace L2
open PySem PySem.Spec PyProof.Rows
def jc (K:R7) (H:Hp) (v:V) (q:MA.ao):Prop:= ∃a,v= .ref a/\Se K H a [.int q.1,.int q.2.1,.int q.2.2]
inductive cF (K:R7) (H:Hp):qx V->qx MA.ao->Prop where
 | nil:cF K H [] []
 | cons {v q xs rs}:jc K H v q->cF K H xs rs->cF K H (v::xs) (q::rs)
def SU (K:R7) (H:Hp) (r:qA) (rs:qx MA.ao):Prop:= ∃xs,R5 K H r xs/\cF K H xs rs
def iD (K:R7) (H:Hp) (r:qA) (rs:qx MA.ao):Prop:= ∃xs,H r=some (.lst xs)/\cF K H xs rs
section
variable {K:R7}{H H':Hp}{a l r:qA}{xs ys:qx V}{rs qs:qx MA.ao}{v:V}{q:MA.ao}{o:HO}
theorem ag.fZ (e:ag H H') (h:Se K H a xs):Se K H' a xs:=by
 rcases h with (h | ⟨o,h⟩) | h
 .exact .inl<|.inl<|e _ _ h
 .exact .inl<|.inr ⟨o,e _ _ h⟩
 .exact .inr h
theorem jc.same (e:ag H H') (h:jc K H v q):jc K H' v q:=by
 obtain⟨a,rfl,h⟩:=h;erw[a,Z,e.fZ h]
theorem cF.same (e:ag H H') (h:cF K H xs rs):cF K H' xs rs:=by
 induction h with
 | nil=>show .nil
 | cons t _ ih=>show .cons (t.same e) ih
theorem SU.same (e:ag H H') (h:SU K H r rs):SU K H' r rs:=by
 obtain⟨xs,a,b⟩:=h;erw[xs,e.seq a,b.same e]
theorem iD.same (e:ag H H') (h:iD K H r rs):iD K H' r rs:=by
 obtain⟨xs,a,b⟩:=h;erw[xs,e _ _ a,b.same e]
theorem iD.Tg (h:iD K H r rs):SU K H r rs:=by
 obtain⟨xs,a,b⟩:=h;erw[xs,R5.of a,b]
def LN (H:Hp) (l:qA):Prop:=H l=none\/ ∃ys,H l=some (.lst ys)
theorem LN.of (h:H l=some (.lst xs)):LN H l:= .inr ⟨_,h⟩
theorem LN.free (h:H l=none):LN H l:= .inl h
theorem Iy (n:LN H l) (h:Se K H a xs):Se K (upd H l o) a xs:=by
 have ne: ∀u,H a=some u->(∀ys,u≠ .lst ys)->a≠l:=λu hu hn e=>by
  subst e;rcases n with n | ⟨ys,n⟩
  .rw[n] at hu; cases hu
  .rw[n] at hu;show hn ys (Oj hu).symm
 rcases h with (h | ⟨o',h⟩) | h
 .exact .inl<|.inl<|(ah<|ne _ h λys z=>by cases z).trans h
 .exact .inl<|.inr ⟨o',(ah<|ne _ h λys z=>by cases z).trans h⟩
 .exact .inr h
theorem jc.upd (n:LN H l) (h:jc K H v q):jc K (upd H l o) v q:=by
 obtain⟨a,rfl,h⟩:=h;erw[a,Z,Iy n h]
theorem cF.upd (n:LN H l) (h:cF K H xs rs):cF K (upd H l o) xs rs:=by
 induction h with
 | nil=>show .nil
 | cons t _ ih=>show .cons (t.upd n) ih
theorem cF.length (h:cF K H xs rs):xs.length=rs.length:=by
 induction h with
 | nil=>rfl
 | cons _ _ ih=>rw[Oh,Oh,ih]
theorem cF.append (h:cF K H xs rs) (k:cF K H ys qs):cF K H (xs++ys) (rs++qs):=by
 induction h with
 | nil=>show k
 | cons t _ ih=>show .cons t ih
theorem cF.one (h:jc K H v q):cF K H [v] [q]:= .cons h .nil
theorem cF.take (h:cF K H xs rs): ∀n,cF K H (xs.take n) (rs.take n):=by
 induction h with
 | nil=>intro n; rw[Q2,Q2]; show .nil
 | cons t _ ih =>
  intro n;cases n with
  | zero=>show .nil
  | succ n=>rw[VS,VS]; show .cons t (ih n)
theorem cF.drop (h:cF K H xs rs): ∀n,cF K H (xs.drop n) (rs.drop n):=by
 induction h with
 | nil=>intro n; rw[RN,RN]; show .nil
 | cons t k ih =>
  intro n;cases n with
  | zero=>show .cons t k
  | succ n=>rw[VT,VT]; show ih n
theorem cF.get (h:cF K H xs rs): ∀ {i:u6},xs[i]?=some v-> ∃q,rs[i]?=some q/\jc K H v q:=by
 induction h with
 | nil=>intro i e; simp at e
 | cons t _ ih =>
  intro i e;cases i with
  | zero=>simp at e; subst e; erw[_,Z,t]
  | succ i=>show ih (i:=i) (by simpa using e)
theorem cF.at (h:cF K H xs rs): ∀ {i:u6},rs[i]?=some q-> ∃v,xs[i]?=some v/\jc K H v q:=by
 induction h with
 | nil=>intro i e; simp at e
 | cons t _ ih =>
  intro i e;cases i with
  | zero=>simp at e; subst e; erw[_,Z,t]
  | succ i=>show ih (i:=i) (by simpa using e)
theorem iD.push {t:qA}(h:iD K H l rs) (ht:H t=none) (e:H l=some (.lst xs)):iD K (L2.upd (L2.upd H t (.tup [.int q.1,.int q.2.1,.int q.2.2])) l (.lst (xs++[.ref t]))) l (rs++[q]):=by
 obtain⟨xs',a,b⟩:=h;rw[e] at a;cases a;have hl:(L2.upd H t<|.tup [.int q.1,.int q.2.1,.int q.2.2]) l=some (.lst xs):=(ah<|az e ht).trans e;erw[_,af,((b.upd<|.free ht).upd<|.of hl).append<|.one<|jc.upd (.of hl) ⟨t,Z,Se.of af⟩]
theorem ag.upd {p:qA}(h:H p=none):ag H (L2.upd H p o):=λb u hb=>by
 rw[ah<|az hb h];show hb
theorem ag.cT {u:HO}(s:ag H H') (h:H l=none):ag H (L2.upd H' l u):=λb z hb=>by
 rw[ah<|az hb h];show s b z hb
theorem ag.MP {p q:qA}{u:HO}(s:ag H H') (hp:H' p=none) (hq:H q=none):ag H (L2.upd (L2.upd H' p o) q u):=(s.trans (ag.upd hp)).cT hq
end
variable{n:u6}
theorem bU {lo:u7}{i:u6}{x:V}(h:(cf lo n)[i]?=some x):i < n/\x= .int (lo+(i:u6)):=by
 unfold cf at h;rw[N7] at h;cases e:(wx n)[i]? with
 | none=>rw[e] at h; cases h
 | some j =>
  rw[e] at h;have hi:i < n:=by
   have:=(NX.mp e).1
   rwa [O7] at this
  rw[VU hi] at e;cases e;erw[hi,(Oj h).symm]
theorem bN {lo:u7}:(cf lo n).length=n:=by simp[cf]
theorem cI {ws:qx u7}{i:u7}(h0:0<=i) (h1:i < ws.length):Si (ws.map V.int) i=some (.int (MA.g ws i)):=by
 have hn:i.toNat < ws.length:=Y;have e:i=((i.toNat:u6):u7):=Y;have h:=aU (xs:=ws.map V.int) (j:=i.toNat) (v:= .int<|MA.g ws i) (by simp[MA.g,hn])
 rwa [<-e] at h
theorem h8 {i:u7}(h0:0<=i) (h1:i < n):Ta n i=some i.toNat:=by
 unfold Ta;rw[NW h0,NW h1]
end L2
namespace MA
abbrev Mt:=u6->u6->u7
def setM (M:Mt) (a b:u6) (v:u7):Mt:=λi j=>if i=a/\j=b then v else M i j
def Tc (k a:u6) (M:Mt) (b:u6):Mt:=if 0<=M k b then setM M a b (mx (M a b) (M a k+M k b)) else M
def inner (n k a:u6) (M:Mt):Mt:=(wx n).foldl (Tc k a) M
def j9 (n k:u6) (M:Mt) (a:u6):Mt:=if M a k < 0 then M else inner n k a M
def mid (n:u6) (M:Mt) (k:u6):Mt:=(wx n).foldl (j9 n k) M
def S4 (M:Mt) (q:ao):Mt:=if 0<=q.2.1 then setM M q.2.1.toNat q.1.toNat (mx (M q.2.1.toNat q.1.toNat) q.2.2) else M
def wX (M:Mt) (k:u6):Mt:=setM M k k 0
def M1 (n:u6):Mt:=(wx n).foldl wX (λ_ _=> -1)
def M2 (n:u6) (rs:qx ao):Mt:=rs.foldl S4 (M1 n)
def aH (n:u6) (rs:qx ao):Mt:=(wx n).foldl (mid n) (M2 n rs)
def gq (n:u6) (rs:qx ao):yW:=(wx n).any λk=>decide (0 < aH n rs k k)
theorem gg {α β:Type}(I:β->Prop) (f:β->α->β): ∀(l:qx α) (x:β),I x->(∀y a,a∈l->I y->I (f y a))->I (l.foldl f x)
 | [],_,h,_=>h
 | a::l,x,h,hs=>gg I f l (f x a) (hs x a (N6) h) λy b hb=>hs y b (N4 _ hb)
def Sd (f:u7->u7) (M:Mt):Prop:= ∀i j:u6,0<=M i j->f (i:u6)+M i j<=f (j:u6)
variable{f:u7->u7}{M:Mt}{a:u6}
theorem Sd.set {b:u6}{v:u7}(h:Sd f M) (hv:0<=v->f (a:u6)+v<=f (b:u6)):Sd f (setM M a b v):=λi j=>by
 unfold setM;split;.rename_i e; rw[e.1,e.2]; show hv
 .exact h i j
theorem xa (i j:u7):mx i j=i\/mx i j=j:=by unfold mx; split <;> simp
variable{n:u6}
theorem Sd.mid {k:u6}(h:Sd f M):Sd f (MA.mid n M k):=by
 show gg (Sd f) _ _ _ h λy a _ hy=>?_;unfold j9;split;.exact hy
 .rename_i hk;show (gg (λM=>Sd f M/\0<=M a k) _ _ _ ⟨hy,Y⟩ λz b _ hz=>?_).1;unfold Tc;split
  .rename_i hb;erw[hz.1.set λhv=>?_,?_]
   .have h1:=hz.1 a k hz.2;have h2:=hz.1 k b hb;have h3:=hz.1 a b;rcases xa (z a b) (z a k+z k b) with e | e <;> rw[e] at hv ⊢ <;> lia
   .unfold setM;split
    .rename_i e;have:=fP (z a b) (z a k+z k b);have e2:=e.2;subst e2;show OJ hz.2 this
    .exact hz.2
  .exact hz
variable{rs:qx ao}
theorem iV(k: ∀r∈rs,Sh n r) (hf:Met rs f):Sd f (aH n rs):=by
 have h1:Sd f (M1 n):=gg (Sd f) _ _ _ (λi j h=>wz h aS) λy a _ hy=>hy.set λ_=>Y;have h2:Sd f (M2 n rs):=gg (Sd f) _ _ _ h1 λy q hq hy=>by
  unfold S4;split
  .rename_i hb;show hy.set λhv=>?_;have m:=hf q hq;have kq:=k q hq;unfold ask at m;rw[NS Y] at m;have e1:((q.2.1.toNat:u6):u7)=q.2.1:=Y;have e2:((q.1.toNat:u6):u7)=q.1:=(by have:=kq.1; lia);have h3:=hy q.2.1.toNat q.1.toNat;rw[e1,e2] at h3 ⊢;rcases xa (y q.2.1.toNat q.1.toNat) q.2.2 with e | e <;> rw[e] at hv ⊢ <;> lia
  .exact hy
 show gg (Sd f) _ _ _ h2 λy a _ hy=>hy.mid
theorem pR(k: ∀r∈rs,Sh n r) (h:gq n rs=true) (f:u7->u7): ¬Met rs f:=λhf=>by
 unfold gq at h;rw[Q6] at h;obtain⟨i,_,hi⟩:=h;have hi:=Oc hi;have:=iV k hf i i Y;lia
def SJ (M N:Mt):Prop:= ∀i j,M i j<=N i j
theorem SJ.refl (M:Mt):SJ M M:=λ_ _=>Oo _
theorem SJ.trans {N eQ:Mt}(h:SJ M N) (k:SJ N eQ):SJ M eQ:=λi j=>OJ (h i j) (k i j)
theorem C6 {b:u6}{v:u7}:SJ M (setM M a b (mx (M a b) v)):=λi j=>by
 unfold setM;split;.rename_i e; rw[e.1,e.2]; show fP _ _
 .exact Oo _
theorem kU {α:Type}(f:Mt->α->Mt) (h: ∀M a,SJ M (f M a)) (l:qx α) (M:Mt):SJ M (l.foldl f M):=gg (SJ M) f l M (SJ.refl M) λy a _ hy=>hy.trans (h y a)
theorem DG {k:u6}(M:Mt):SJ M (mid n M k):=kU _ (λM a=>by
 unfold j9;split;.exact SJ.refl M
 .show kU _ (λM b=>?_) _ M;unfold Tc;split;.exact C6
  .exact SJ.refl M) _ M
theorem Em (M:Mt) (q:ao):SJ M (S4 M q):=by
 unfold S4;split;.exact C6
 .exact SJ.refl M
theorem AD: ∀(m k:u6),k < m->(wx m).foldl wX (λ_ _=> -1) k k=0
 | 0,k,h=>wz h (OU _)
 | m+1,k,h=>by
  rw[PQ,Pg];change setM ((wx m).foldl wX λ_ _=> -1) m m 0 k k=0;unfold setM;split;.rfl
  .exact AD m k Y
def U (n k:u6) (D:Mt):Mt:=λi j=>if i < n/\j < n/\0<=D i k/\0<=D k j then mx (D i j) (D i k+D k j) else D i j
variable{D:Mt}
theorem Hn {k:u6}(h:D k k=0) (i:u6):U n k D i k=D i k:=by
 unfold U;split;.rw[h,Wa]; unfold mx; split <;> lia
 .rfl
theorem G6 {k:u6}(h:D k k=0) (j:u6):U n k D k j=D k j:=by
 unfold U;split;.rw[h,Rn]; unfold mx; split <;> lia
 .rfl
theorem xO {k:u6}(h:D k k=0) (ha:a < n) (hp:0<=D a k): ∀b,b<=n->(wx b).foldl (Tc k a) (λi j=>if i < a then U n k D i j else D i j)=λi j=>if i < a\/(i=a/\j < b) then U n k D i j else D i j
 | 0,_=>by
  funext i j;simp
 | b+1,hb=>by
  rw[PQ,Pg,xO h ha hp b Y];change Tc k a (λi j=>if i < a\/(i=a/\j < b) then U n k D i j else D i j) b=_;have e1: ∀j,(λi j=>if i < a\/(i=a/\j < b) then U n k D i j else D i j:Mt) k j=D k j:=λj=>by
   change (if k < a\/(k=a/\j < b) then U n k D k j else D k j)=D k j;split;.exact G6 h j
   .rfl
  have e2:(λi j=>if i < a\/(i=a/\j < b) then U n k D i j else D i j:Mt) a k=D a k:=by
   change (if a < a\/(a=a/\k < b) then U n k D a k else D a k)=D a k;split;.exact Hn h a
   .rfl
  have e3:(λi j=>if i < a\/(i=a/\j < b) then U n k D i j else D i j:Mt) a b=D a b:=by
   change (if a < a\/(a=a/\b < b) then U n k D a b else D a b)=D a b;rw[NS Y]
  unfold Tc;rw[e1,e2,e3];funext i j;by_cases hc:0<=D k b
  .rw[NW hc];unfold setM;by_cases e:i=a/\j=b
   .rw[NW e,NW Y,e.1,e.2];unfold U;rw[NW ⟨ha,Y,hp,hc⟩]
   .rw[NS e];change (if i < a\/(i=a/\j < b) then U n k D i j else D i j)=_;by_cases e':i < a\/(i=a/\j < b);.rw[NW e',NW Y]
    .rw[NS e',NS Y]
  .rw[NS hc];by_cases e':i < a\/(i=a/\j < b);.rw[NW e',NW Y]
   .rw[NS e'];split
    .rename_i e'';have:i=a/\j=b:=Y;rw[this.1,this.2];unfold U;rw[NS (λz=>hc z.2.2.2)]
    .rfl
theorem DH {k:u6}(h:D k k=0): ∀a,a<=n->(wx a).foldl (j9 n k) D=λi j=>if i < a then U n k D i j else D i j
 | 0,_=>by
  funext i j;simp
 | a+1,ha=>by
  rw[PQ,Pg,DH h a Y];change j9 n k (λi j=>if i < a then U n k D i j else D i j) a=_;unfold j9;have e:(λi j=>if i < a then U n k D i j else D i j:Mt) a k=D a k:=NS<|PB a;rw[e];by_cases hp:D a k < 0
  .rw[NW hp];funext i j;by_cases e1:i < a;.rw[NW e1,NW Y]
   .rw[NS e1];split
    .have:i=a:=Y;rw[this];unfold U;rw[NS λz=>wz z.2.2.1 Y]
    .rfl
  .rw[NS hp];change (wx n).foldl (Tc k a) _=_;rw[xO h Y Y n<|N0 n];funext i j;by_cases e1:i < a;.rw[NW<|.inl e1,NW Y]
   .by_cases e2:i=a
    .by_cases e3:j < n;.rw[NW (.inr ⟨e2,e3⟩),NW Y]
     .rw[NS Y,NW Y];unfold U;rw[NS λz=>e3 z.2.1]
    .rw[NS Y,NS Y]
theorem Ld {k:u6}(h:D k k=0):mid n D k=U n k D:=by
 unfold mid;rw[DH h n (N0 n)];funext i j;split;.rfl
 .rename_i e;unfold U;rw[NS (λz=>e z.1)]
def Cl (n k:u6) (D:Mt):Prop:= ∀m,m < k-> ∀a b,a < n->b < n->0<=D a m->0<=D m b->D a m+D m b<=D a b
theorem Cl.step {k:u6}(hk:k < n) (h:D k k=0) (c:Cl n k D):Cl n (k+1) (U n k D):=by
 have f1: ∀i j,D i j<=U n k D i j:=λi j=>by
  unfold U;split;.exact fP _ _
  .exact Oo _
 have f2: ∀i j,i < n->j < n->0<=D i k->0<=D k j->D i k+D k j<=U n k D i j:=λi j a b p q=>by
  unfold U;rw[NW ⟨a,b,p,q⟩];show iP _ _
 have f3: ∀i j,U n k D i j=D i j\/(0<=D i k/\0<=D k j/\U n k D i j=D i k+D k j):=λi j=>by
  unfold U;split
  .rename_i z;rcases xa (D i j) (D i k+D k j) with e | e
   .exact .inl e
   .exact .inr ⟨z.2.2.1,z.2.2.2,e⟩
  .exact .inl rfl
 intro m hm a b ha hb h1 h2;by_cases e:m=k
 .subst e;rw[Hn h] at h1 ⊢;rw[G6 h] at h2 ⊢;show f2 a b ha hb h1 h2
 .have hm:m < k:=Y;have hmn:m < n:=Y;have g1:=f1 a b;have g2:=f2 a b ha hb;rcases f3 a m with e1 | ⟨p1,p2,e1⟩ <;> rcases f3 m b with e2 | ⟨p3,p4,e2⟩ <;> rw[e1] at h1 ⊢ <;> rw[e2] at h2 ⊢
  .have:=c m hm a b ha hb h1 h2;lia
  .have:=c m hm a k ha hk h1 p3;have:=g2 Y p4;lia
  .have:=c m hm k b hk hb p2 h2;have:=g2 p1 Y;lia
  .have:=c m hm k k hk hk p2 p3;have:=g2 p1 p4;lia
theorem n6(h: ∀k,k < n->aH n rs k k<=0):SJ (M2 n rs) (aH n rs)/\(∀k,k < n->aH n rs k k=0)/\Cl n n (aH n rs):=by
 have hup: ∀k,k<=n->SJ ((wx k).foldl (mid n)<|M2 n rs) (aH n rs):=λk hk=>by
  have e:wx n=wx k++(wx<|n - k).map (k+ ·):=by
   have:=List.range_add (n:=k) (m:=n - k)
   rwa [show k+(n - k)=n by lia] at this
  unfold aH;rw[e,Pg];show kU _ (λM a=>DG M) _ _
 have hd0: ∀k,k < n->M1 n k k=0:=λk hk=>AD n k hk;have h12:SJ (M1 n) (M2 n rs):=kU _ Em _ _;have hd: ∀m,m<=n-> ∀k,k < n->(wx m).foldl (mid n) (M2 n rs) k k=0:=λm hm k hk=>by
  have a:=hup m hm k k;have b:=h k hk;have c:SJ (M2 n rs) ((wx m).foldl (mid n)<|M2 n rs):=kU _ (λM a=>DG M) _ _;have:=c k k;have:=h12 k k;have:=hd0 k hk;lia
 have cl: ∀m,m<=n->Cl n m ((wx m).foldl (mid n)<|M2 n rs):=λm=>by
  induction m with
  | zero=>intro _ m hm; show wz hm (OU _)
  | succ m ih =>
   intro hm;rw[PQ,Pg];change Cl n (m+1) (mid n _ m);rw[Ld<|hd m Y m Y];show (ih Y).step Y<|hd m Y m Y
 erw[hup 0<|ON _,hd n<|N0 n,cl n<|N0 n]
def big:qx u6->(u6->u7)->u7
 | [],_=>0
 | i::l,f=>mx (big l f) (f i)
theorem BX: ∀(l:qx u6) (f:u6->u7),0<=big l f
 | [],_=>Oo _
 | i::l,f=>OJ (BX l f) (fP _ _)
theorem CD: ∀(l:qx u6) (f:u6->u7),∀i∈l,f i<=big l f
 | [],_,_,h=>by cases h
 | j::l,f,i,h=>by
  rcases N5.mp h with rfl | h
  .exact iP _ _
  .exact OJ (CD l f i h)<|fP _ _
theorem Eg: ∀(l:qx u6) (f:u6->u7) (c:u7),0<=c->(∀i∈l,f i<=c)->big l f<=c
 | [],_,_,h,_=>h
 | j::l,f,c,h,k=>sC (Eg l f c h λi hi=>k i (N4 _ hi)) (k j (N6))
theorem rO: ∀rs:qx ao,∃C:u7,0<=C/\ ∀r∈rs,r.2.2<=C
 | []=>⟨0,Oo _,λr h=>by cases h⟩
 | r::rs=>by
  obtain⟨C,h0,h⟩:=rO rs;erw[mx C r.2.2,OJ h0<|fP _ _,λq hq=>?_];rcases N5.mp hq with rfl | hq
  .exact iP _ _
  .exact OJ (h q hq)<|fP _ _
theorem p9 {n:u6}: ∀(rs:qx ao) (M:Mt) (q:ao),q∈rs->0<=q.2.1->q.2.2<=rs.foldl S4 M q.2.1.toNat q.1.toNat
 | [],_,_,h,_=>by cases h
 | r::rs,M,q,h,hb=>by
  rcases N5.mp h with rfl | h
  .show OJ ?_ (kU S4 Em rs (S4 M q) _ _);unfold S4;rw[NW hb];unfold setM;rw[NW ⟨Z,Z⟩];show iP _ _
  .exact p9 (n:=n) rs (S4 M r) q h hb
theorem qO(k: ∀r∈rs,Sh n r) (h:gq n rs=false): ∃f:u7->u7,(∀i,0<=f i)/\Met rs f:=by
 have hd: ∀k,k < n->aH n rs k k<=0:=λi hi=>by
  unfold gq at h;rw[QV] at h;have:=h i (Oq.mpr hi);have: ¬ 0 < aH n rs i i:=λz=>this (N2 z);lia
 obtain⟨up,dg,cl⟩:=n6 hd;obtain⟨C,c0,hC⟩:=rO rs;erw[λv=>C+big (wx n) λu=>aH n rs u v.toNat,λv=>?_,λr hr=>?_]
 .have:=BX (wx n) λu=>aH n rs u v.toNat;change 0<=C+_;lia
 .obtain⟨r1,r2,r3,r4,r5⟩:=k r hr;have hCr:=hC r hr;have hb0:=BX (wx n) λu=>aH n rs u r.1.toNat;unfold ask;change (if r.2.1= -1 then r.2.2 else C+big (wx n) (λu=>aH n rs u r.2.1.toNat)+r.2.2)<=C+big (wx n) (λu=>aH n rs u r.1.toNat);by_cases e:r.2.1= -1
  .rw[NW e];lia
  .rw[NS e];have hl:r.2.2<=aH n rs r.2.1.toNat r.1.toNat:=OJ (p9 (n:=n) rs (M1 n) r hr Y)<|up _ _;have t1:=CD (wx n) λu=>aH n rs u r.1.toNat;have t2:big (wx n) (λu=>aH n rs u r.2.1.toNat)<=big (wx n) (λu=>aH n rs u r.1.toNat) - r.2.2:=by
    show Eg _ _ _ ?_ λu hu=>?_
    .have:=t1 r.2.1.toNat<|Oq.mpr (by lia);have:aH n rs r.2.1.toNat r.1.toNat<=_:=this;lia
    .have hu':=Oq.mp hu;have:aH n rs r.2.1.toNat r.1.toNat<=_:=t1 r.2.1.toNat<|Oq.mpr (by lia);have:aH n rs u r.1.toNat<=_:=t1 u hu;change aH n rs u r.2.1.toNat<=_;by_cases hp:0<=aH n rs u r.2.1.toNat
     .have:=cl r.2.1.toNat Y u r.1.toNat hu' Y hp Y;lia
     .lia
   lia
end MA
namespace L2
open PySem PySem.Spec PyProof.Rows
theorem tN {lo:u7}{n:u6}{te:TE}{own:qx va}{fr:qx u6}{O:St}{H:Hp}{Q:VK}(Pv:u6->qx V->Hp->Prop) (h0:Pv 0 [] H) (hz:n < sizeLine) (hlen: ∀i ys H,Pv i ys H->ys.length=i)
  (hs: ∀i ys H2,i < n->Pv i ys H2->te ((cW own fr O).set 0 (some (.int (lo+(i:u6))))) H2 λy H6=>Pv (i+1) (ys++[y]) H6)
  (hq: ∀ys H2 p,Pv n ys H2->H2 p=none->Q (.ref p) (upd H2 p (.lst ys))):kI (TR lo n) (aK 0) gG te own fr O H Q:=by
 erw[λi m ys H2=>i<=n/\m=n - i/\Pv i ys H2,⟨n,ON _,Z,h0⟩,?_];rintro i m ys H2 ⟨hi,rfl,hp⟩;by_cases hlt:i < n
 .show .inr ⟨hlt,by rw[hlen i ys H2 hp]; lia,λx H3 hy=>?_⟩;obtain⟨rfl,rfl⟩:=hy;have:=hs i ys H3 hlt hp;have e:(te ((cW own fr O).set 0<|some<|.int<|lo+(i:u6)) H3 λy H6=> ∃m',m' < n - i/\i+1<=n/\m'=n - (i+1)/\Pv (i+1) (ys++[y]) H6)=te ((cW own fr O).set 0<|some<|.int<|lo+(i:u6)) H3 λy H6=>Pv (i+1) (ys++[y]) H6:=by
   congr 1;funext y H6;show propext ⟨λ⟨_,_,_,_,z⟩=>z,λz=>⟨n - (i+1),Y,hlt,Z,z⟩⟩
  rw[<-e] at this;show this
 .have e:i=n:=Y;subst e;show .inl ⟨N0 _,by rw[hlen _ ys H2 hp]; lia,λp np=>hq ys H2 p hp np⟩
def gY (n:u6) (M:MA.Mt) (i:u6):qx V:=(wx n).map λj=>V.int (M i j)
theorem jD {n:u6}{M:MA.Mt}{i:u6}:(gY n M i).length=n:=by simp[gY]
structure SK (H0 H:Hp) (n:u6) (p:qA) (ds:qx qA) (M:MA.Mt):Prop where
 top:H p=some (.lst (ds.map V.ref))
 len:ds.length=n
 nd:ds.Nodup
 np:p∉ds
 row: ∀i d,ds[i]?=some d->H d=some (.lst (gY n M i))
 sm:ag H0 H
 fp:H0 p=none
 fd: ∀d∈ds,H0 d=none
section
variable {H0 H:Hp}{n:u6}{p:qA}{ds:qx qA}{M:MA.Mt}
theorem SK.at (m:SK H0 H n p ds M){a:u7}(h0:0<=a) (h1:a < n): ∃d,ds[a.toNat]?=some d/\Si (ds.map V.ref) a=some (.ref d)/\H d=some (.lst (gY n M a.toNat)):=by
 have hn:a.toNat < ds.length:=by rw[m.len]; lia
 erw[ds[a.toNat],NV hn,?_,m.row _ _<|NV hn];have e:a=((a.toNat:u6):u7):=Y;have h:=aU (xs:=ds.map V.ref) (j:=a.toNat) (v:= .ref ds[a.toNat]) (by simp[hn])
 rwa [<-e] at h
theorem iJ {i:u6}{b:u7}(h0:0<=b) (h1:b < n):Si (gY n M i) b=some (.int (M i b.toNat)):=by
 have e:b=((b.toNat:u6):u7):=Y;have h:=aU (xs:=gY n M i) (j:=b.toNat) (v:= .int (M i b.toNat)) (by
  have:b.toNat < n:=Y;simp[gY,this])
 rwa [<-e] at h
theorem Fl {a b:u6}{v:u7}(hb:b < n):(gY n M a).set b (.int v)=gY n (MA.setM M a b v) a:=by
 show RS (by rw[P8,jD,jD]) λj h1 h2=>?_;rw[jD] at h2;rw[List.getElem_set];by_cases e:b=j
 .rw[NW e];simp only[gY,Q7,Wb,MA.setM];rw[NW ⟨trivial,e.symm⟩]
 .rw[NS e];simp only[gY,Q7,Wb,MA.setM];rw[NS λz=>e z.2.symm]
theorem Hx {a b i:u6}{v:u7}(h:i≠a):gY n (MA.setM M a b v) i=gY n M i:=by
 unfold gY;show PX λj _=>?_;unfold MA.setM;rw[NS (λz=>h z.1)]
theorem SK.put (m:SK H0 H n p ds M){a b:u6}{d:qA}{v:u7}(hd:ds[a]?=some d) (hb:b < n):SK H0 (upd H d (.lst ((gY n M a).set b (.int v)))) n p ds (MA.setM M a b v):=by
 have hmem:d∈ds:=NU hd;erw[?_,m.len,m.nd,m.np,λi e he=>?_,m.sm.cT<|m.fd d hmem,m.fp,m.fd]
 .rw[ah<|show p≠d from λz=>m.np (by rw[z]; show hmem)];show m.top
 .by_cases q:i=a
  .subst q;rw[hd] at he;cases he;rw[af,Fl hb]
  .have ne:e≠d:=λz=>by
    subst z;obtain⟨h1,e1⟩:=NX.mp hd;obtain⟨h2,e2⟩:=NX.mp he;show q ((Q5 m.nd).mp (e2.trans e1.symm))
   rw[ah ne,Hx q];show m.row i e he
theorem SK.grow {ys:qx V}{H2:Hp}{p:qA}(ds:qx qA) (e:ys=ds.map V.ref) (hl:ds.length=n) (nd:ds.Nodup) (hr: ∀d∈ds,H2 d=some (.lst (wo n (V.int (-1))))/\H0 d=none) (sm:ag H0 H2) (hp:H2 p=none) :
  SK H0 (upd H2 p (.lst ys)) n p ds (λ_ _=> -1):=by
 have ne: ∀d∈ds,d≠p:=λd hd=>az (hr d hd).1 hp;show⟨by rw[af,e],hl,nd,λz=>ne p z rfl,λi d hi=>?_,sm.trans<|ag.upd hp,sm.free hp,λd hd=>(hr d hd).2⟩;have hd:=NU hi;rw[ah<|ne d hd,(hr d hd).1];congr 2;unfold gY;rw[List.map_const',O7]
end
theorem dR {α:Type}(f:α->u6->α) (x:α) (i:u6):(wx (i+1)).foldl f x=f ((wx i).foldl f x) i:=by
 rw[PQ,Pg];rfl
theorem foldl_take_succ {α β:Type}(f:α->β->α) (x:α){l:qx β}{i:u6}{b:β}(h:l[i]?=some b):(l.take (i+1)).foldl f x=f ((l.take i).foldl f x) b:=by
 rw[Ov,h,Pg];rfl
def NT (o:HO):Prop:= ∀ps,o≠ .tbl ps
structure Nz (H H':Hp):Prop where
 nt: ∀b o,H b=some o->NT o->H' b=some o
 tb: ∀b ps,H b=some (.tbl ps)-> ∃ps',H' b=some (.tbl ps')
section
variable {K:R7}{H H' H2:Hp}{a l r:qA}{xs ys:qx V}{rs qs:qx MA.ao}{v:V}{q:MA.ao}{o:HO}
end
def aJ (is:qx u6):qx V:=is.map λi=>V.int (i:u6)
theorem Ab {is:qx u6}{k:u7}(h0:0<=k) (h1:k < is.length):Si (aJ is) k=some (.int (is.getD k.toNat 0:u6)):=by
 have hn:k.toNat < is.length:=Y;have e:k=((k.toNat:u6):u7):=Y;have h:=aU (xs:=aJ is) (j:=k.toNat) (v:= .int (is.getD k.toNat 0:u6)) (by simp[aJ,hn])
 rwa [<-e] at h
end L2
namespace MA
end MA
namespace L2
open PySem PySem.Spec PyProof.Rows
section
variable {κ:Type} [DecidableEq κ]
def aY (kvs:qx (κ×V)) (k:κ):rW V:=(kvs.find? λkv=>decide (kv.1=k)).map (·.2)
def putK (kvs:qx (κ×V)) (k:κ) (v:V):qx (κ×V) :=
 if (kvs.any λkv=>decide (kv.1=k))=true then kvs.map (λkv=>if kv.1=k then (kv.1,v) else kv) else kvs++[(k,v)]
def gf (kvs:qx (κ×V)) (k:κ):qx (κ×V):=kvs.filter λkv=>decide (kv.1≠k)
theorem E5 {k:κ}:aY ([]:qx (κ×V)) k=none:=rfl
variable{r:qx (κ×V)}
theorem dr {p:κ×V}{k:κ}(e:p.1=k):aY (p::r) k=some p.2:=by simp[aY,OM,e]
theorem cZ {p:κ×V}{k:κ}(e: ¬p.1=k):aY (p::r) k=aY r k:=by simp[aY,OM,e]
theorem kY (k:κ): ∀kvs:qx (κ×V),(kvs.any λkv=>decide (kv.1=k))=(aY kvs k).isSome
 | []=>rfl
 | p::r=>by
  rw[PD];by_cases e:p.1=k;.simp only[dr e,N2 e,Bool.true_or,Option.isSome_some]
  .rw[cZ e,N8 e,WM]; show kY k r
theorem xj (k j:κ) (y:V): ∀kvs:qx (κ×V),aY (kvs.map λkv=>if kv.1=k then (kv.1,y) else kv) j=(aY kvs j).map λx=>if j=k then y else x
 | []=>rfl
 | p::r=>by
  have ih:=xj k j y r;rw[OH];by_cases h:p.1=k
  .rw[NW h];by_cases e:p.1=j;.rw[dr (p:=(p.1,y)) e,dr e,Ro,NW<|e.symm.trans h]
   .rw[cZ (p:=(p.1,y)) e,cZ e,ih]
  .rw[NS h];by_cases e:p.1=j;.rw[dr (p:=p) e,dr e,Ro,NS λz=>h<|e.trans z]
   .rw[cZ (p:=p) e,cZ e,ih]
theorem vI (k j:κ) (y:V): ∀kvs:qx (κ×V),aY kvs k=none->aY (kvs++[(k,y)]) j=if j=k then some y else aY kvs j
 | [],_=>by
  by_cases e:k=j;.rw[NW e.symm]; show dr (p:=(k,y)) e
  .rw[NS λz=>e z.symm]; show cZ (p:=(k,y)) e
 | p::r,hn=>by
  rw[RT];have hk: ¬p.1=k:=λz=>by rw[dr z] at hn; cases hn
  rw[cZ hk] at hn;have ih:=vI k j y r hn;by_cases e:p.1=j;.rw[dr e,dr e,NS λz=>hk<|e.trans z]
  .rw[cZ e,cZ e,ih]
theorem ly (kvs:qx (κ×V)) (k j:κ) (y:V):aY (putK kvs k y) j=if j=k then some y else aY kvs j:=by
 unfold putK;by_cases a:(kvs.any λkv=>decide (kv.1=k))=true
 .rw[NW a,xj];rw[kY] at a;by_cases e:j=k
  .obtain⟨x,hx⟩:=Qj.mp a;rw[NW e,e,hx,Ro,NW rfl]
  .rw[NS e];cases aY kvs j with
   | none=>rfl
   | some x=>rw[Ro,NS e]
 .rw[NS a];show vI k j y kvs ?_;rw[kY] at a;cases q:aY kvs k with
  | none=>rfl
  | some x=>rw[q] at a; show (a rfl).elim
theorem ig (kvs:qx (κ×V)) (k:κ) (v:V):(putK kvs k v).length<=kvs.length+1:=by
 unfold putK;split;.rw[NR]; lia
 .rw[N1,Oh,PR]; lia
variable{kvs:qx (κ×V)}
theorem xK {k:κ}(v:V) (h:aY kvs k=none):putK kvs k v=kvs++[(k,v)]:=by
 unfold putK;rw[kY,h];show NS aS
variable{o:rW V}{u:rW qT}
theorem f9.iO(r:f9 o u):o.isSome=u.isSome:=by
 cases o with
 | none=>cases u with
  | none=>rfl
  | some _=>show (show zh from r).elim
 | some _=>cases u with
  | none=>show (show zh from r).elim
  | some _=>rfl
theorem f9.getD {d:V}{d':qT}(r:f9 o u) (rd:RelV d d'):RelV (o.getD d) (u.getD d'):=by
 cases o with
 | none=>cases u with
  | none=>show rd
  | some _=>show (show zh from r).elim
 | some _=>cases u with
  | none=>show (show zh from r).elim
  | some _=>show r
variable{vs:qx (κ×qT)}
theorem KV.val(r:KV kvs vs) (k:κ):f9 (aY kvs k) (valueAt vs k):=by
 unfold KV at r;induction r with
 | nil=>show CZ
 | @cons p q ps qs h t ih =>
  obtain⟨h1,h2⟩:=h;by_cases e:p.1=k
  .have e':q.1=k:=h1.symm.trans e;have b:valueAt (q::qs) k=some q.2:=(by simp[valueAt,OM,e']);rw[dr e,b]; show h2
  .have e': ¬q.1=k:=λz=>e<|h1.trans z;have b:valueAt (q::qs) k=valueAt qs k:=(by simp[valueAt,OM,e']);rw[cZ e,b]; show ih
theorem KV.any(r:KV kvs vs) (k:κ):(kvs.any λkv=>decide (kv.1=k))=vs.any λkv=>decide (kv.1=k):=by
 unfold KV at r;induction r with
 | nil=>rfl
 | cons h t ih=>rw[PD,PD,ih,h.1]
theorem KV.Fv(r:KV kvs vs) (k:κ){y:V}{u:qT}(ry:RelV y u) :
  KV (kvs.map λkv=>if kv.1=k then (kv.1,y) else kv) (vs.map λkv=>if kv.1=k then (kv.1,u) else kv):=by
 unfold KV at r ⊢;induction r with
 | nil=>show .nil
 | @cons p q ps qs h t ih =>
  rw[OH,OH];show .cons ?_ ih;obtain⟨h1,h2⟩:=h;by_cases e:p.1=k;.rw[NW e,NW<|h1.symm.trans e]; erw[h1,ry]
  .rw[NS e,NS λz=>e<|h1.trans z]; erw[h1,h2]
theorem KV.put(r:KV kvs vs) (k:κ){y:V}{u:qT}(ry:RelV y u):KV (putK kvs k y) (stored vs k u):=by
 unfold putK stored;rw[r.any k];by_cases e:(vs.any λkv=>decide (kv.1=k))=true;.rw[NW e,NW e]; show r.Fv k ry
 .rw[NS e,NS e]; show Xv r ⟨Z,ry⟩
theorem KV.drop(r:KV kvs vs) (k:κ):KV (gf kvs k) (without vs k):=by
 unfold KV at r ⊢;unfold gf without;induction r with
 | nil=>show .nil
 | @cons p q ps qs h t ih =>
  obtain⟨h1,h2⟩:=h;rw[PZ,PZ];by_cases e:p.1=k
  .have a: ¬decide (p.1≠k)=true:=by simp[e]
   have b: ¬decide (q.1≠k)=true:=(by simp[h1.symm.trans e]);rw[NS a,NS b]; show ih
  .have e': ¬q.1=k:=λz=>e<|h1.trans z;have a:decide (p.1≠k)=true:=(by simp[e]);have b:decide (q.1≠k)=true:=(by simp[e']);rw[NW a,NW b]; show .cons ⟨h1,h2⟩ ih
theorem KV.length(r:KV kvs vs):kvs.length=vs.length:=RJ r
theorem nW (kvs:qx (κ×V)) (k:κ):(gf kvs k).length<=kvs.length:=O0 _ _
end
variable{P:tq}{w:sW}
theorem kB {k:Key}{u:qT}(r:RelV (kV k) u):(cP P w).is k u=true:=by
 cases k with
 | inl i=>obtain⟨t,e⟩:=(show ∃t,u=zj i t from r); subst e; show zi P w i t
 | inr x=>obtain⟨t,e⟩:=(show ∃t,u=HG x t from r); subst e; show zU P w x t
theorem vM: ∀ {ks:qx Key}{us:qx qT},Vals (ks.map kV) us->ItemsAre (cP P w) ks us
 | [],_,r=>by rw[Rl] at r; cases r; show .nil
 | k::ks,_,r=>by
  rw[OH] at r;cases r with
  | cons h t=>show .cons (kB h) (vM t)
abbrev KT (H:Hp):qx (qx Key×V)->qx (qx Key×qA×qT)->Prop:=Paired λp q=>p.1=q.1/\H q.2.1=some (.tup (p.1.map kV))/\RelV p.2 q.2.2
variable{H:Hp}{kvs:qx (qx Key×V)}{xs:qx (qx Key×qA×qT)}
theorem KT.val(r:KT H kvs xs) (k:qx Key):f9 (aY kvs k) ((atKey xs k).map (·.2)):=by
 induction r with
 | nil=>show CZ
 | @cons p q ps qs h t ih =>
  obtain⟨h1,_,h2⟩:=h;by_cases e:p.1=k
  .have e':q.1=k:=h1.symm.trans e;have b:atKey (q::qs) k=some q.2:=(by simp[atKey,OM,e']);rw[dr e,b]; show h2
  .have e': ¬q.1=k:=λz=>e<|h1.trans z;have b:atKey (q::qs) k=atKey qs k:=(by simp[atKey,OM,e']);rw[cZ e,b]; show ih
theorem KT.Fv(r:KT H kvs xs) (k:qx Key){y:V}{u:qT}(ry:RelV y u) :
  KT H (kvs.map λkv=>if kv.1=k then (kv.1,y) else kv) (xs.map (putAt k u)):=by
 induction r with
 | nil=>show .nil
 | @cons p q ps qs h t ih =>
  rw[OH,OH];show .cons ?_ ih;obtain⟨h1,h2,h3⟩:=h;unfold putAt;by_cases e:p.1=k;.rw[NW e,NW<|h1.symm.trans e]; erw[h1,h2,ry]
  .rw[NS e,NS λz=>e<|h1.trans z]; erw[h1,h2,h3]
theorem KT.put(r:KT H kvs xs) (k:qx Key){b:qA}{y:V}{u:qT}(hb:H b=some (.tup (k.map kV))) (ry:RelV y u) :
  KT H (putK kvs k y) (storedH xs k b u):=by
 have e:(kvs.any λkv=>decide<|kv.1=k)=(atKey xs k).isSome:=by
  rw[kY,(r.val k).iO,RO]
 unfold putK storedH;rw[e];by_cases q:(atKey xs k).isSome=true;.rw[NW q,NW q]; show r.Fv k ry
 .rw[NS q,NS q]; show Xv r ⟨Z,hb,ry⟩
theorem KT.keeps {H':Hp}(r:KT H kvs xs) (ht: ∀b ys,H b=some (.tup ys)->H' b=some (.tup ys)):KT H' kvs xs :=
 Paired.GF r λ_ _ z=>⟨z.1,ht _ _ z.2.1,z.2.2⟩
section
variable {P:tq}{w:sW}{H:Hp}{h:yk}{a:qA}
theorem Hi {u:HO}(ok:Ss P w H h) (e:Rd H a u):dq P w H h a u:=e.ok ok
theorem lW {kvs:qx (Key×V)}(ok:Ss P w H h) (e:Rd H a (.dK kvs)):kvs.length<=sizeLine/\(a == BV)=false/\ ∃vs,KV kvs vs/\h.DictOf (cP P w) a vs :=
 show dq P w H h a (.dK kvs) from Hi ok e
theorem xb {kvs:qx (Key×V)}(ok:Ss P w H h) (e:H a=some (.dK kvs)):kvs.length<=sizeLine/\(a == BV)=false/\ ∃vs,KV kvs vs/\h.DictOf (cP P w) a vs:=lW ok (.inl e)
theorem mQ {ks:qx Key}(ok:Ss P w H h) (e:H a=some (.tup (ks.map kV))):(U9 (cP P w)).is h ks a:=by
 obtain⟨_,its,r,o,h1,h2,n,h3⟩:=(show dq P w H h a (.tup<|ks.map kV) from ok a _ e)
 erw[o,its.toArray,n,h1,h2,h3,by simpa using vM r]
variable{kvs:qx (qx Key×V)}
theorem m7(ok:Ss P w H h) (e:Rd H a (.dT kvs)):kvs.length<=sizeLine/\(a == BV)=false /\
  ∃xs,KT H kvs xs/\h.DictOfH (U9 (cP P w)) a xs:=by
 obtain⟨z,y,xs,r,o,es,ep,h1,h2,h3,h4,h5⟩:=(show dq P w H h a (.dT kvs) from Hi ok e)
 erw[z,y,xs,r,o,es,ep,h1,h2,h3,h4,λx hx=>?_,h5];have all: ∀ {l:qx (qx Key×V)}{m:qx (qx Key×qA×qT)},KT H l m-> ∀x∈m,(U9<|cP P w).is h x.1 x.2.1:=by
  intro l m q;induction q with
  | nil=>intro x hx; show nomatch hx
  | @cons p q ps qs hq t ih =>
   intro x hx;rcases N5.mp hx with e | hx
   .subst e;show mQ ok (by rw[<-hq.1]; show hq.2.1)
   .exact ih x hx
 show all r x hx
theorem Lm(ok:Ss P w H h) (e:H a=some (.dT kvs)):kvs.length<=sizeLine/\(a == BV)=false /\
  ∃xs,KT H kvs xs/\h.DictOfH (U9 (cP P w)) a xs:=m7 ok (.inl e)
end
def dz (H:Hp) (a:qA) (y:V) (r:rW V):Prop :=
 (∃kvs k,Rd H a (.dK kvs)/\y=kV k/\r=aY kvs k)\/ ∃kvs k b,Rd H a (.dT kvs)/\y= .ref b/\H b=some (.tup (k.map kV))/\r=aY kvs k
def pD (H:Hp) (a:qA) (y v:V) (H':Hp):Prop :=
 (∃kvs k,H a=some (.dK kvs)/\y=kV k/\kvs.length < sizeLine/\H'=upd H a (.dK (putK kvs k v))) \/
 ∃kvs k b,H a=some (.dT kvs)/\y= .ref b/\H b=some (.tup (k.map kV))/\kvs.length < sizeLine/\H'=upd H a (.dT (putK kvs k v))
variable{a:qA}
theorem dz.k {kvs:qx (Key×V)}{k:Key}(e:H a=some (.dK kvs)):dz H a (kV k) (aY kvs k):= .inl ⟨kvs,k,.inl e,Z,Z⟩
theorem pD.k {kvs:qx (Key×V)}{k:Key}{v:V}(e:H a=some (.dK kvs)) (hl:kvs.length < sizeLine):pD H a (kV k) v (upd H a (.dK (putK kvs k v))):= .inl ⟨kvs,k,e,Z,hl,Z⟩
section
variable {X:Cx}{R1:nE}{O:St}{H:Hp}{s:rK}{a:qA}{y v:V}{u r:qT}{o:rW V}{A:uc}{E:oF}
theorem Inv.big (I:Inv X R1 O H s):BV < s.heap.objs.size:=by
 have h:ze < s.heap.objs.size:=(I.mod.glob.keeps I.bk).lt;show Xi aS h
variable{Q:oF}
theorem Es(hu:A.units+1 < DK) (I:Inv X R1 O H s) (g:dz H a y (some v)) (ry:RelV y u) (h: ∀w' s',Inv X R1 O H s'->RelV v w'->Q w' s') :
  xA (model X.prog X.w) A (getItem (.ref a) u) Q E s:=by
 rcases g with⟨kvs,k,e,ey,l⟩ | ⟨kvs,k,b,e,ey,eb,l⟩
 .subst ey;obtain⟨z,hd,vs,rel,dd⟩:=lW I.hok e;obtain⟨w',hw,rw'⟩:=f9.some_of (v:=v) (o:=valueAt vs k) (by rw[l]; show rel.val k);show wpAny_getItem_of (kB ry) dd.mapOf hw (h w' _ (I.tok _) rw')
 .subst ey;cases (show u=ye b from ry);obtain⟨z,hd,xs,rel,dd⟩:=m7 I.hok e;obtain⟨w',hw,rw'⟩:=f9.some_of (v:=v) (o:=(atKey xs k).map (·.2)) (by rw[l]; show rel.val k);obtain⟨p,hp,hp2⟩:=Option.map_eq_some_iff.mp hw;show wpAny_getItem_heap (Qp hu) (mQ I.hok eb) dd hp ?_;rw[hp2];show h w' _ (I.tok _) rw'
theorem Mr(hu:A.units+1 < DK) (I:Inv X R1 O H s) (g:dz H a y o) (ry:RelV y u) (h: ∀s',Inv X R1 O H s'->Q (.bool o.isSome) s') :
  xA (model X.prog X.w) A (zm .In u (.ref a)) Q E s:=by
 rcases g with⟨kvs,k,e,ey,l⟩ | ⟨kvs,k,b,e,ey,eb,l⟩
 .subst ey;obtain⟨z,hd,vs,rel,dd⟩:=lW I.hok e;show wpAny_in_of (kB ry) hd dd.mapOf ?_;rw[<-(rel.val k).iO,<-l];show h _ (I.tok _)
 .subst ey;cases (show u=ye b from ry);obtain⟨z,hd,xs,rel,dd⟩:=m7 I.hok e;show wpAny_in_heap (Qp hu) (mQ I.hok eb) hd dd ?_;have q:=(rel.val k).iO;rw[RO] at q;rw[<-q,<-l];show h _ (I.tok _)
theorem HN(hu:A.units+1 < DK) (I:Inv X R1 O H s) (g:dz H a y o) (ry:RelV y u) (h: ∀s',Inv X R1 O H s'->Q (.bool (!o.isSome)) s') :
  xA (model X.prog X.w) A (zm .NotIn u (.ref a)) Q E s:=by
 rcases g with⟨kvs,k,e,ey,l⟩ | ⟨kvs,k,b,e,ey,eb,l⟩
 .subst ey;obtain⟨z,hd,vs,rel,dd⟩:=lW I.hok e;show wpAny_notIn_of (kB ry) hd dd.mapOf ?_;rw[<-(rel.val k).iO,<-l];show h _ (I.tok _)
 .subst ey;cases (show u=ye b from ry);obtain⟨z,hd,xs,rel,dd⟩:=m7 I.hok e;show wpAny_notIn_heap (Qp hu) (mQ I.hok eb) hd dd ?_;have q:=(rel.val k).iO;rw[RO] at q;rw[<-q,<-l];show h _ (I.tok _)
theorem mV {h':yk}{t':u6}{ob:HO}(I:Inv X R1 O H s) (mu:T7 (H a)) (hs:EY a s.heap h') (he: ∃q,h'.get? a=some q) (new:dq X.prog X.w (upd H a ob) h' a ob) :
  Inv X R1 O (upd H a ob) { s with heap:=h',toks:=t' } :=
 I.write (x:=a) (e:=a) mu (.inl rfl) (λb q hb z=>(hs.2 b hb).trans z) he new
theorem oM {P:tq}{w:sW}{H':Hp}{h':yk}{kvs:qx (Key×V)}{vs:qx (Key×qT)}(z:kvs.length<=sizeLine) (hd:(a == BV)=false) (rel:KV kvs vs) (dd:h'.DictOf (cP P w) a vs) :
  dq P w H' h' a (.dK kvs):=⟨z,hd,vs,rel,dd⟩
theorem C5 {H':Hp}{Q:Unit->rK->Prop}(hu:A.units+1 < DK) (I:Inv X R1 O H s) (g:pD H a y v H') (ry:RelV y u) (rv:RelV v r) (h: ∀s',Inv X R1 O H' s'->Q () s') :
  xA (model X.prog X.w) A (setItem (.ref a) u r) Q E s:=by
 rcases g with⟨kvs,k,e,ey,l,eH⟩ | ⟨kvs,k,b,e,ey,eb,l,eH⟩
 .subst ey eH;obtain⟨z,hd,vs,rel,dd⟩:=xb I.hok e;have hz:vs.length<=sizeLine:=by rw[<-rel.length]; show z
  have hl:(putK kvs k v).length<=sizeLine:=by have:=ig kvs k v; lia
  show wpAny_setItem_pairs (hsz:=hz) (kB ry) dd λh' dd' hs=>h _ ?_;have he: ∃q,h'.get? a=some q:=let ⟨q,_,_,hq,_⟩:=dd'; ⟨q,hq⟩;show mV I (by rw[e]; show CZ) hs he<|oM hl hd (rel.put k rv) dd'
 .subst ey eH;cases (show u=ye b from ry);obtain⟨z,hd,xs,rel,dd⟩:=Lm I.hok e;have hz:xs.length<=sizeLine:=by rw[<-RJ rel]; show z
  have hl:(putK kvs k v).length<=sizeLine:=by have:=ig kvs k v; lia
  show wpAny_setItem_heap (hsz:=hz) (Qp hu) (mQ I.hok eb) dd λh' dd' hs=>h _ ?_;obtain⟨q,es,ep,hq,h2,h3,h4,_,h5⟩:=dd';show mV I (by rw[e]; show CZ) hs ⟨q,hq⟩ ⟨hl,hd,_,(rel.put k eb rv).keeps λc ys ec=>?_,q,es,ep,hq,h2,h3,h4,h5⟩;rw[ah<|fv ec e λz=>nomatch z];show ec
end
section
variable {X:Cx}{R1:nE}{O:St}{H:Hp}{s:rK}{a:qA}{kvs:qx (Key×V)}{k:Key}{u:qT}{A:uc}{E:oF}
theorem Mo {Q:Unit->rK->Prop}(I:Inv X R1 O H s) (e:H a=some (.dK kvs)) (ry:RelV (kV k) u) (l:(aY kvs k).isSome=true) (h: ∀s',Inv X R1 O (upd H a (.dK (gf kvs k))) s'->Q () s') :
  xA (model X.prog X.w) A (delItem (.ref a) u) Q E s:=by
 obtain⟨z,hd,vs,rel,dd⟩:=xb I.hok e;show wpAny_delItem_slot dd.typeIs aS Vk
  (call_meetsIn Vk dd.typeIs PySem.F.entry_dict_delitem (PySem.F.args_dict_delitem_2 _ _) (meets_dict_delitem_pairs (cP X.prog X.w) a (kB ry)) ⟨vs,dd,by rw[<-rel.length]; show z,by rw[<-(rel.val k).iO]; show l,λh' dd' hs=>h _ ?_⟩)
 have he: ∃q,h'.get? a=some q:=let ⟨q,_,_,hq,_⟩:=dd'; ⟨q,hq⟩;show mV I (by rw[e]; show CZ) hs he<|oM (Ob (nW kvs k) z) hd (rel.drop k) dd'
theorem Lh {v:V}{more:qx qT}{Q:oF}(I:Inv X R1 O H s) (e:H a=some (.dK kvs)) (ry:RelV (kV k) u) (l:aY kvs k=some v) (hm:more=[]\/ ∃x,more=[x])
  (h: ∀w' s',Inv X R1 O (upd H a (.dK (gf kvs k))) s'->RelV v w'->Q w' s'):xA (model X.prog X.w) A (call (.builtin "dict.pop") (.ref a::u::more)) Q E s:=by
 obtain⟨z,hd,vs,rel,dd⟩:=xb I.hok e;obtain⟨w',hw,rw'⟩:=f9.some_of (v:=v) (o:=valueAt vs k) (by rw[<-l]; show rel.val k);have hp:(keyPart u).isSome=true:=by
  cases k with
  | inl i=>obtain⟨t,q⟩:=(show ∃t,u=zj i t from ry); subst q; rfl
  | inr x=>obtain⟨t,q⟩:=(show ∃t,u=HG x t from ry); subst q; rfl
 have ha:argsOk "dict.pop" ⟨.ref a::u::more,[]⟩:=by
  rcases hm with q | ⟨x,q⟩
  .subst q; show PySem.F.args_dict_pop_2 _ _
  .subst q; show PySem.F.args_dict_pop_3 _ _ _
 show call_meetsIn VG dd.typeIs PySem.F.entry_dict_pop ha (meets_dict_pop_there (cP X.prog X.w) a (kB ry) more hm hp)
  ⟨vs,w',dd,by rw[<-rel.length]; show z,hw,λh' dd' hs=>h w' _ ?_ rw'⟩
 have he: ∃q,h'.get? a=some q:=let ⟨q,_,_,hq,_⟩:=dd'; ⟨q,hq⟩;show mV I (by rw[e]; show CZ) hs he<|oM (Ob (nW kvs k) z) hd (rel.drop k) dd'
end
def Km (i:tW):Prop:= ∀ov iv,subscripted i false ov iv=operate [ov,iv] (getItem ov iv)
variable{s:rK}{pos:Pos}
theorem Hz {prog:tq}{A:uc}{E:oF}{env:Env}{value slice:tW}{T id:BP}{Q:oF} (hl:typeLookup (.type T) "__getitem__" = pure (some (.builtin id))) (hs:Km slice)
  (h:xA (model prog w) A (eval value env) (λo s₁=>xA (model prog w) A (eval slice env) (λi s₂=>s₂.TypeIs o T/\xA (model prog w) A (getItem o i) Q E s₂) E s₁) E s) :
  xA (model prog w) A (eval (.Subscript value slice pos) env) Q E s:=by
 show Subscript_<|Pa h (λo s₁ h₁=>Pa h₁ (λi s₂ h₂=>?_) λ_ _ x=>x) λ_ _ x=>x;obtain⟨hT,h₂⟩:=h₂;unfold subscriptTail;show N9 ?_;rw[getitemInPython_of_ne hT.not_modules];show N9<|wpAny_specialOf hT hl ?_;have fin:xA (model prog w) A (subscripted slice false o i) (λr s₃=>xA (model prog w) A (letTemporaryGo value o r >>= λ_=>pure r) Q E s₃) E s₂:=by
  rw[hs o i];show wpAny_operating<|Pa h₂ (λr s₃ h₃=>N9<|wpAny_letTemporaryGo<|OB h₃) λ_ _ x=>x
 first
  | show OB (N9 fin)
  | show N9 (OB (N9 fin))
  | show N9 fin
variable{X:Cx}{R1:nE}{O:St}
theorem zW {y:V}{o:rW V}(I:Inv X R1 O H s) (g:dz H a y o):s.TypeIs (.ref a) "dict" := by
 rcases g with⟨kvs,k,e,_,_⟩ | ⟨kvs,k,b,e,_,_,_⟩
 .obtain⟨_,_,vs,_,dd⟩:=lW I.hok e;show dd.typeIs
 .obtain⟨_,_,xs,_,dd⟩:=m7 I.hok e;show dd.typeIs
inductive KL (Q:VK) (x y:V) (H2:Hp):Prop | mk (a v:_) (e0:x= .ref a) (e1:dz H2 a y (some v)) (q:Q v H2)
def Mj (td ty:TE):TE:=λO H Q=>td O H λx H1=>ty O H1 λy H2=>KL Q x y H2
inductive L8 (Q:VK) (y x:V) (H2:Hp):Prop | mk (a o:_) (e0:x= .ref a) (e1:dz H2 a y o) (q:Q (.bl o.isSome) H2)
def MN (ty td:TE):TE:=λO H Q=>ty O H λy H1=>td O H1 λx H2=>L8 Q y x H2
inductive FF (Q:VK) (y x:V) (H2:Hp):Prop | mk (a o:_) (e0:x= .ref a) (e1:dz H2 a y o) (q:Q (.bl (!o.isSome)) H2)
def Jm (ty td:TE):TE:=λO H Q=>ty O H λy H1=>td O H1 λx H2=>FF Q y x H2
inductive JY (D:Ends) (O:St) (v x y:V) (H3:Hp):Prop | mk (a H4:_) (e0:x= .ref a) (e1:pD H3 a y v H4) (q:D.nx O H4)
def Lq (td ty tv:TE):TS:=λD O H=>tv O H λv H1=>td O H1 λx H2=>ty O H2 λy H3=>JY D O v x y H3
inductive Nq (tv:TE) (rd:V->V->Hp->VK->Prop) (D:Ends) (O:St) (x y:V) (H2:Hp):Prop | mk (a v:_) (e0:x= .ref a) (e1:dz H2 a y (some v)) (q:tv O H2 λy2 H3=>rd v y2 H3 λz H4=> ∃H5,pD H4 a y z H5/\D.nx O H5)
inductive Nk (D:Ends) (O:St) (x y:V) (H2:Hp):Prop | mk (a kvs k:_) (e0:x= .ref a) (e1:H2 a=some (.dK kvs)) (e2:y=kV k) (e3:(aY kvs k).isSome=true) (q:D.nx O (upd H2 a (.dK (gf kvs k))))
section
variable {X:Cx}{o i e value:tW}{pos pos' tpos:Pos}{td ty tv:TE}
theorem mE (hu:X.A.units+1 < DK) (ho:PE X o td) (hi:PE X i ty) (hs:Km i):PE X (.Subscript o i pos) (Mj td ty):=by
 intro R1 s O H Q I h;show Hz PySem.F.slot_dict_getitem.lookup hs<|Sf (ho R1 s O H _ I h) λu s1 ⟨x,H1,I1,rx,q1⟩=>Sf (hi R1 s1 O H1 _ I1 q1) λiv s2 hm=>?_;obtain⟨y,H2,I2,ry,a,v,ex,g,q2⟩:=hm;subst ex;obtain rfl:u=ye a:=rx;erw[zW I2 g,Es hu I2 g ry λw' s3 I3 rw'=>⟨v,H2,I3,rw',q2⟩]
theorem rZ (hu:X.A.units+1 < DK) (hi:PE X i ty) (ho:PE X o td):PC X .In i o (MN ty td):=by
 intro R1 s O H Q I h;show Sf (hi R1 s O H _ I h) λiv s1 ⟨y,H1,I1,ry,q1⟩=>Sf (ho R1 s1 O H1 _ I1 q1) λu s2 ⟨x,H2,I2,rx,a,ov,ex,g,q2⟩=>?_;subst ex;obtain rfl:u=ye a:=rx;show Mr hu I2 g ry λs3 I3=>⟨.bl ov.isSome,H2,I3,Z,q2⟩
theorem pP (hu:X.A.units+1 < DK) (hi:PE X i ty) (ho:PE X o td):PC X .NotIn i o (Jm ty td):=by
 intro R1 s O H Q I h;show Sf (hi R1 s O H _ I h) λiv s1 ⟨y,H1,I1,ry,q1⟩=>Sf (ho R1 s1 O H1 _ I1 q1) λu s2 ⟨x,H2,I2,rx,a,ov,ex,g,q2⟩=>?_;subst ex;obtain rfl:u=ye a:=rx;show HN hu I2 g ry λs3 I3=>⟨.bl<|!ov.isSome,H2,I3,Z,q2⟩
theorem ur (hu:X.A.units+1 < DK) (ho:PE X o td) (hi:PE X i ty) (hv:PE X value tv) (hs:HW value (some (.Subscript o i pos')) pos.line X.env=pure false) :
  PS X (.Assign [.Subscript o i pos'] value pos) (Lq td ty tv):=by
 intro R1 s O H D I h;show wpAny_Assign_Subscript (Sf (hv R1 s O H _ I h) λr s1 ⟨v,H1,I1,rv,q1⟩=>Sf (ho R1 s1 O H1 _ I1 q1) λu s2 ⟨x,H2,I2,rx,q2⟩=>Sf (hi R1 s2 O H2 _ I2 q2) λiv s3 hm=>?_) hs;obtain⟨y,H3,I3,ry,a,H4,ex,g,q3⟩:=hm;subst ex;obtain rfl:u=ye a:=rx;show C5 hu I3 g ry rv λs4 I4=>⟨O,H4,I4,q3⟩
end
theorem yq(h:yk) (hb:BV < h.objs.size):dq P w H (h.push { cls:= .type "dict",data:= .dict #[] }) h.objs.size (.dK []) :=
 ⟨ON _,beq_eq_false_iff_ne.mpr (Ox (OC hb)),[],.nil,XS h⟩
def Ks:TE:=λ_ H Q=> ∀p,H p=none->Q (.ref p) (upd H p (.dK []))
section
variable {X:Cx}{pos:Pos}
theorem FT:PE X (.Dict [] [] pos) Ks:=λR1 s O H Q I h =>
 wpAny_Dict_empty ⟨.ref s.heap.objs.size,_,I.laid (a:=s.heap.objs.size) (o:= .dK []) (t':=s.toks) (λ_ _ q=>N3 _ q) (N0 _) (yq s.heap I.big),Z,h _ (I.hok.fresh (N0 _))⟩
end
def yg:qx (TE×TE)->St->Hp->(qx (V×V)->Hp->Prop)->Prop
 | [],_,H,Q=>Q [] H
 | (tk,tv)::r,O,H,Q=>tk O H λx H1=>tv O H1 λy H2=>yg r O H2 λps H3=>Q ((x,y)::ps) H3
abbrev VV:qx (V×V)->qx (qT×qT)->Prop:=Paired λp q=>RelV p.1 q.1/\RelV p.2 q.2
def Ug (X:Cx) (pos:Pos) (keys:qx (rW tW)) (values:qx tW) (trs:qx (TE×TE)):Prop :=
 ∀(R1:nE) (s:rK) (O:St) (H:Hp) (Q:qx (V×V)->Hp->Prop),Inv X R1 O H s->yg trs O H Q ->
  xA (model X.prog X.w) X.A (evalPairs (pairTrees keys values X.env pos)) (λvs s'=> ∃ps H',Inv X R1 O H' s'/\VV ps vs/\Q ps H') X.xe s
theorem AK:Ug X pos [] [] []:=λR1 s O H Q I h=>pairTrees_nil_walk ⟨[],H,I,.nil,h⟩
variable{trs:qx (TE×TE)}
theorem xX {k v:tW}{ks:qx (rW tW)}{vs:qx tW}{tk tv:TE}(hk:PE X k tk) (hv:PE X v tv) (hr:Ug X pos ks vs trs) :
  Ug X pos (some k::ks) (v::vs) ((tk,tv)::trs):=λR1 s O H Q I h =>
 pairTrees_cons_walk (Sf (hk R1 s O H _ I h) λu s1 ⟨x,H1,I1,rx,q1⟩=>Sf (hv R1 s1 O H1 _ I1 q1) λw2 s2 ⟨y,H2,I2,ry,q2⟩ =>
  Sf (hr R1 s2 O H2 _ I2 q2) λws s3 ⟨ps,H3,I3,rel,q3⟩=>⟨(x,y)::ps,H3,I3,.cons ⟨rx,ry⟩ rel,q3⟩)
def kW (kvs more:qx (Key×V)):qx (Key×V):=more.foldl (λacc kv=>putK acc kv.1 kv.2) kvs
theorem KV.merge: ∀ {more:qx (Key×V)}{rs:qx (Key×qT)}{kvs:qx (Key×V)}{vs:qx (Key×qT)},KV more rs->KV kvs vs->KV (kW kvs more) (merged vs rs):=by
 intro more rs kvs vs r;unfold KV at r;induction r generalizing kvs vs with
 | nil=>intro q; show q
 | @cons p q ps qs h t ih =>
  intro r0;have e:KV (putK kvs p.1 p.2) (stored vs q.1 q.2):=by
   have:=r0.put p.1 h.2;rw[<-h.1]; show this
  show ih e
theorem oy: ∀(more kvs:qx (Key×V)),(kW kvs more).length<=kvs.length+more.length
 | [],kvs=>by change kvs.length<=kvs.length+0; lia
 | p::r,kvs=>by
  have h1:=oy r<|putK kvs p.1 p.2;have h2:=ig kvs p.1 p.2;change (kW (putK kvs p.1 p.2) r).length<=_;rw[Oh]; lia
theorem sJ {P:tq}{w:sW}: ∀ {kvs:qx (Key×V)}{ws:qx (qT×qT)},VV (kvs.map λkv=>(kV kv.1,kv.2)) ws-> ∃rs,Carries (cP P w) ws rs/\KV kvs rs
 | [],_,r=>by rw[Rl] at r; cases r; erw[[],CZ,.nil]
 | p::kvs,_,r=>by
  rw[OH] at r;cases r with
  | @cons a b as bs h t =>
   obtain⟨rs,c,q⟩:=sJ (P:=P) (w:=w) t;obtain⟨b1,b2⟩:=b;erw[(p.1,b2)::rs,⟨kB h.1,Z,c⟩,.cons ⟨Z,h.2⟩ q]
def Mg (trs:qx (TE×TE)):TE:=λO H Q=> ∀p,H p=none->yg trs O (upd H p (.dK [])) λps H2=>H2 p=some (.dK [])/\ ∃kvs:qx (Key×V),ps=kvs.map (λkv=>(kV kv.1,kv.2))/\kvs.length<=15/\Q (.ref p) (upd H2 p (.dK (kW [] kvs)))
theorem AF {keys:qx (rW tW)}{values:qx tW}(h:Ug X pos keys values trs) (hall:keys.all (·.isSome)=true) (hl:keys.length=values.length) (h0:keys≠[])
  (h15:keys.length<=15):PE X (.Dict keys values pos) (Mg trs):=by
 intro R1 s O H Q I q;have hn:=I.hok.fresh<|N0 s.heap.objs.size;have I1:=I.laid (a:=s.heap.objs.size) (o:= .dK []) (h':=s.heap.push { cls:= .type "dict",data:= .dict #[] }) (t':=s.toks) (λ_ _ q=>N3 _ q) (N0 _)<|yq s.heap I.big;show wpAny_Dict_walk (knd:=cP X.prog X.w) hall hl h0 h15<|Sf (h R1 _ O _ _ I1<|q _ hn) λws s2 hm=>?_;obtain⟨ps,H2,I2,rel,e,kvs,ep,lk,q2⟩:=hm;subst ep;obtain⟨rs,c,rk⟩:=sJ (P:=X.prog) (w:=X.w) rel;obtain⟨z,hd,vs0,r0,dd⟩:=xb I2.hok e;cases r0;erw[rs,c,dd,λh' dd' hs=>⟨.ref s.heap.objs.size,_,?_,Z,q2⟩];have hz:(kW [] kvs).length<=sizeLine:=by
  have h1:=oy kvs [];rw[PR] at h1;rw[RC]; lia
 have he: ∃q,h'.get? s.heap.objs.size=some q:=let ⟨q,_,_,hq,_⟩:=dd'; ⟨q,hq⟩;show mV I2 (by rw[e]; show CZ) hs he<|oM hz hd (rk.merge .nil) dd'
structure M1 (X:Cx) (o:tW) (m:va) (apos:Pos) (e:tW) (cpos:Pos):Prop where
 base:CT o m X.env (eval o X.env)=eval o X.env
 SX:((zV cpos (zb [e] X.env)).all (λx=> !x.1) && (CU cpos (AR [] X.env)).all (λx=>x.1.isSome)
  && decide (([e]:qx tW).length+([]:qx Ig).length+(if ([]:qx Ig).isEmpty then 0 else 1) < 30))=true
 line:(apos.endLine == cpos.line)=true
 trees:zV cpos (zb [e] X.env)=[(false,eval e X.env)]
structure M2 (X:Cx) (o:tW) (m:va) (apos:Pos) (e f:tW) (cpos:Pos):Prop where
 base:CT o m X.env (eval o X.env)=eval o X.env
 SX:((zV cpos (zb [e,f] X.env)).all (λx=> !x.1) && (CU cpos (AR [] X.env)).all (λx=>x.1.isSome)
  && decide (([e,f]:qx tW).length+([]:qx Ig).length+(if ([]:qx Ig).isEmpty then 0 else 1) < 30))=true
 line:(apos.endLine == cpos.line)=true
 trees:zV cpos (zb [e,f] X.env)=[(false,eval e X.env),(false,eval f X.env)]
def T5 (H:Hp) (a:qA):Prop:=(∃kvs,Rd H a (.dK kvs))\/ ∃kvs,Rd H a (.dT kvs)
theorem C8(I:Inv X R1 O H s) (d:T5 H a) :
  s.TypeIs (.ref a) "dict" /\ (∀b,ye a= .ref b-> ∃ob,s.heap.get? b=some ob/\ob.dict=none)/\(a == BV)=false:=by
 rcases d with⟨kvs,e⟩ | ⟨kvs,e⟩
 .obtain⟨_,hd,vs,_,dd⟩:=lW I.hok e;erw[dd.typeIs,λb q=>?_,hd];cases q;obtain⟨ob,_,_,h1,h2,_⟩:=dd;erw[ob,h1,h2.2.1]
 .obtain⟨_,hd,xs,_,dd⟩:=m7 I.hok e;erw[dd.typeIs,λb q=>?_,hd];cases q;obtain⟨ob,_,_,h1,h2,_⟩:=dd;erw[ob,h1,h2.2.1]
section
variable {X:Cx}{R1:nE}{O:St}{H:Hp}{s:rK}{a:qA}{y d:V}{u r:qT}{o:rW V}{A:uc}{E:oF}
theorem Kx {Q:oF}(hu:A.units+1 < DK) (I:Inv X R1 O H s) (g:dz H a y o) (ry:RelV y u) (h: ∀w' s',Inv X R1 O H s'->RelV (o.getD .non) w'->Q w' s') :
  xA (model X.prog X.w) A (call (.builtin "dict.get") [.ref a,u]) Q E s:=by
 rcases g with⟨kvs,k,e,ey,l⟩ | ⟨kvs,k,b,e,ey,eb,l⟩
 .subst ey;obtain⟨z,hd,vs,rel,dd⟩:=lW I.hok e;show call_meetsIn Ra dd.typeIs Vz (Vq _ _) (meets_dict_get (cP X.prog X.w) a (kB ry) hd) ⟨_,dd.mapOf,h _ _ (I.tok _) ?_⟩;rw[l];show (rel.val k).getD rfl
 .subst ey;cases (show u=ye b from ry);obtain⟨z,hd,xs,rel,dd⟩:=m7 I.hok e;show call_meetsIn Ra dd.typeIs Vz (Vq _ _) (meetsH_dict_get (U9 (cP X.prog X.w)) a b hd) ⟨Qp hu,k,xs,mQ I.hok eb,dd,h _ _ (I.tok _) ?_⟩;rw[l];show (rel.val k).getD rfl
end
inductive Ht (ty:TE) (O:St) (Q:VK) (x:V) (H1:Hp):Prop | mk (a:_) (e0:x= .ref a) (e1:T5 H1 a) (q:ty O H1 λy H2=> ∃o,dz H2 a y o/\Q (o.getD .non) H2)
def CH (td ty:TE):TE:=λO H Q=>td O H λx H1=>Ht ty O Q x H1
inductive Nc (ty tx:TE) (O:St) (Q:VK) (x:V) (H1:Hp):Prop | mk (a:_) (e0:x= .ref a) (e1:T5 H1 a) (q:ty O H1 λy H2=>tx O H2 λz H3=> ∃o,dz H3 a y o/\Q (o.getD z) H3)
inductive Jg (ty:TE) (O:St) (Q:VK) (x:V) (H1:Hp):Prop | mk (a:_) (e0:x= .ref a) (e1:T5 H1 a) (q:ty O H1 λy H2=> ∃kvs k v,H2 a=some (.dK kvs)/\y=kV k/\aY kvs k=some v/\Q v (upd H2 a (.dK (gf kvs k))))
def JX (td ty:TE):TE:=λO H Q=>td O H λx H1=>Jg ty O Q x H1
inductive Nf (ty tx:TE) (O:St) (Q:VK) (x:V) (H1:Hp):Prop | mk (a:_) (e0:x= .ref a) (e1:T5 H1 a) (q:ty O H1 λy H2=>tx O H2 λz H3=> ∃kvs k,H3 a=some (.dK kvs)/\y=kV k/\(∀v,aY kvs k=some v->Q v (upd H3 a (.dK (gf kvs k))))/\(aY kvs k=none->Q z H3))
section
variable {X:Cx}{o e f:tW}{apos cpos:Pos}{td ty tx:TE}
theorem rB (hu:X.A.units+1 < DK) (ho:PE X o td) (he:PE X e ty) (m:M1 X o "get" apos e cpos):PE X (.Call (.Attribute o "get" apos) [e] [] cpos) (CH td ty):=by
 intro R1 s O H Q I h;show wpAny_Call_method m.base m.SX m.line Vr Ra PySem.F.type_dict_get<|Sf (ho R1 s O H _ I h) λu s1 ⟨x,H1,I1,rx,a,ex,d,q1⟩=>?_;subst ex;obtain rfl:u=ye a:=rx;obtain⟨t1,t2,_⟩:=C8 I1 d;erw[t1,t2,?_];rw[m.trees];show Qq rfl<|QB<|RD<|Sf (he R1 s1 O H1 _ I1 q1) λiv s2 ⟨y,H2,I2,ry,ov,g,q2⟩=>Vh ?_;show Kx hu I2 g ry λw' s3 I3 rw'=>⟨_,H2,I3,rw',q2⟩
theorem G2 (ho:PE X o td) (he:PE X e ty) (m:M1 X o "pop" apos e cpos):PE X (.Call (.Attribute o "pop" apos) [e] [] cpos) (JX td ty):=by
 intro R1 s O H Q I h;show wpAny_Call_method m.base m.SX m.line Vr VG PySem.F.type_dict_pop<|Sf (ho R1 s O H _ I h) λu s1 ⟨x,H1,I1,rx,a,ex,d,q1⟩=>?_;subst ex;obtain rfl:u=ye a:=rx;obtain⟨t1,t2,_⟩:=C8 I1 d;erw[t1,t2,?_];rw[m.trees];show Qq rfl<|QB<|RD<|Sf (he R1 s1 O H1 _ I1 q1) λiv s2 ⟨y,H2,I2,ry,kvs,k,v,ea,ey,l,q2⟩=>Vh ?_;subst ey;show Lh I2 ea ry l (.inl rfl) λw' s3 I3 rw'=>⟨v,_,I3,rw',q2⟩
end
section
variable {X:Cx}{R1:nE}{O:St}{H:Hp}{s:rK}{a:qA}{kvs:qx (Key×V)}{A:uc}{E:oF}
theorem Fx {Q:oF}(I:Inv X R1 O H s) (e:Rd H a (.dK kvs)) (h: ∀p s',H p=none->Inv X R1 O (upd H p (.dK kvs)) s'->Q (.ref p) s'):xA (model X.prog X.w) A (call (.type "dict") [.ref a]) Q E s:=by
 obtain⟨z,hd,vs,rel,dd⟩:=lW I.hok e;show kt_call_dict hd dd (by rw[<-rel.length]; show z) λh' dd' hs=>?_;show h _ _ (I.hok.fresh<|N0 _)<|I.laid (a:=s.heap.objs.size) (o:= .dK kvs) (t':=s.toks) (λb q hq=>?_) (N0 _)<|oM z (beq_eq_false_iff_ne.mpr<|Ox<|OC I.big) rel dd';show (hs.2 b<|OC<|Of hq).trans<|N3 _ hq
end
section
variable {X:Cx}{R1:nE}{O:St}{H:Hp}{s:rK}{a:qA}{y:V}{u:qT}{A:uc}{E:oF}
end
section
variable {X:Cx}
end
section
variable {κ:Type} [DecidableEq κ]
variable{r:qx (κ×V)}
theorem CJ {p:κ×V}{k:κ}(e:p.1=k):gf (p::r) k=gf r k:=by
 unfold gf;rw[PZ,NS (by simp[e])]
theorem EG {p:κ×V}{k:κ}(e: ¬p.1=k):gf (p::r) k=p::gf r k:=by
 unfold gf;rw[PZ,NW (by simp[e])]
end
section
variable {X:Cx}{R1:nE}{O:St}{H:Hp}{s:rK}{h':yk}
theorem Inv.HV {t':u6}{a b:qA}(I:Inv X R1 O H s) (k: ∀c o,c≠a->c≠b->s.heap.get? c=some o->h'.get? c=some o) (fa:cN X R1 H a) (fb:cN X R1 H b):Inv X R1 O H { s with heap:=h',toks:=t' }:=by
 have na: ∀c u,H c=some u->c≠a:=λc u e z=>by rw[z,fa.1] at e; cases e
 have nb: ∀c u,H c=some u->c≠b:=λc u e z=>by rw[z,fb.1] at e; cases e
 have kk: ∀c o,c∉[a,b]->s.heap.get? c=some o->h'.get? c=some o:=λc o hc e=>k c o (λz=>hc (by simp[z])) (λz=>hc (by simp[z])) e;show I.step (g':=s.gens) (d':=s.drawn) (ch:=[a,b]) (λc hc=>?_) (λc o _ _ hc e _=>kk c o hc e) (λc o _ _ hc e _=>⟨o.slots,kk c o hc e⟩) (λ_ _ _ _ n=>n)
  (λc o hc e=>⟨o,kk c o hc e⟩) (λ_ _ e=>e) (λ_ _ _ e=>e) (λc ps e=>⟨#[],by rw[e]; simp⟩) (λm hm=>?_) (λc u e=>?_) I.bare
 .rcases N5.mp hc with rfl | hc
  .nomatch fa.2.2.2.1,fa.2.1,fa.2.2.2.2.1,fa.2.2.2.2.2
  .rw[NZ.mp hc];erw[fb.2.2.2.1,fb.2.1,fb.2.2.2.2.1,fb.2.2.2.2.2]
 .obtain⟨o,es,ep,ho,r⟩:=hm;erw[o,es,ep,k _ o (Ox fa.2.1) (Ox fb.2.1) ho,r]
 .show (I.hok c u e).mj (λd v hd q=>k d v ?_ ?_ q) (λ_ q=>q) λ_ _ q=>q
  .rcases hd with z | z
   .rw[z]; show na c u e
   .exact na d _ z
  .rcases hd with z | z
   .rw[z]; show nb c u e
   .exact nb d _ z
end
def Tq (K:R7) (a:qA):It :=
 ⟨λi H=> ∃xs x,R5 K H a xs/\xs[i]?=some x,λi H v H'=> ∃t x,v= .ref t/\H t=none/\H'=upd H t (.tup [.int (i:u6),x])/\ ∀xs,R5 K H a xs->xs[i]?=some x,λi H=> ∃xs,R5 K H a xs/\xs.length<=i⟩
theorem CF {K:R7}{elts:qx tW}{x1}(a e it:qA):Turn P w K (.Tuple elts x1 pos) (Tq K a) [e,it] e (λi h=>(∃old,IsEnum h e it (i:u6) old)/\h.IsListIter it a i/\e≠it) where
 mem:=by simp
 obj:=λi h st b hb=>by
  obtain⟨⟨old,he⟩,⟨o,e1,c,d⟩,_⟩:=st;rcases N5.mp hb with rfl | hb
  .nomatch _,he,λv z=>by cases z
  .rw[NZ.mp hb];erw[o,e1,λv z=>by rw[d] at z; cases z]
 keep:=λi h h' st k=>by
  obtain⟨⟨old,he⟩,hit,ne⟩:=st;erw[⟨old,k e uD _ he⟩,hit.at λo q=>k it uD o q,ne]
 item:=by
  intro X hP hw hK hc i R1 s O H E I hf st hg;subst hP hw hK;obtain⟨⟨old,he⟩,hit,hne⟩:=st;obtain⟨xs,x,hq,hx⟩:=hg;obtain⟨its,rv,p,hz⟩:=I.list hq;obtain⟨u,hu,ru⟩:=rv.get hx;have fe:=hf e uD;have fi:=hf it uD;show wpAny_pyNext_enum_item he hit p.isList (x:=u) (by simpa using hu) hne λh' heo hit' ht hz' hk=>?_;erw[_,Z,wpAny_letOwnedTupleGo_enum heo λh2 he2 sb=>?_];have heS:e < s.heap.objs.size:=Of he;have hiS:it < s.heap.objs.size:=by obtain⟨o,q,_⟩:=id hit; show Of q
  have kall: ∀c o,c≠e->c≠it->s.heap.get? c=some o->h2.get? c=some o:=λc o c1 c2 q=>(sb.2 c c1).trans<|hk c o c1 c2 q;have I1:Inv X R1 O H { s with heap:=h2,toks:=s.toks+1 }:=I.HV kall fe fi;have ht2:h2.get? s.heap.objs.size=some { cls:= .type "tuple",data:= .seq #[.int i s.toks,u] }:=(sb.2 _<|Rj heS).trans ht;have fT:cN X R1 H s.heap.objs.size:=I.g9 (N0 _)<|I.hok.fresh<|N0 _;have new:dq X.prog X.w (upd H s.heap.objs.size<|.tup [.int (i:u6),x]) h2 s.heap.objs.size (.tup [.int (i:u6),x]):=⟨aC,[.int i s.toks,u],.cons ⟨_,Z⟩<|.cons ru .nil,⟨_,ht2,Z,_,Z⟩⟩
  erw[.ref s.heap.objs.size,_,I1.G5 fT new,Z,⟨_,x,Z,fT.1,Z,λys hy=>by rw[I.nS hy hq]; show hx⟩,⟨⟨u,he2⟩,?_,hne⟩,λb hb=>?_];.exact hit'.at λo q=>(sb.2 it<|Ox hne).trans q
  .rcases N5.mp hb with rfl | hb
   .rw[ah<|OC heS]; show fe.1
   .rw[NZ.mp hb,ah<|OC hiS]; show fi.1
 done:=by
  intro X hP hw hK hc i R1 s O H E I hf st hg;subst hP hw hK;obtain⟨⟨old,he⟩,hit,hne⟩:=st;obtain⟨xs,hq,hx⟩:=hg;obtain⟨its,rv,p,hz⟩:=I.list hq;obtain⟨f0,f1,f2,f3,f4,f5⟩:=hf it uD;have hl:=rv.length;show wpAny_pyNext_enum_end (I.ok.hd hc) he hit p.isList (by simp; lia) λh' eb=>⟨Z,I.turned (t':=s.toks) (λb o hb e=>eb b o hb e) f0 f1 f3 f4 f5⟩
 self:=λ_ _ _ _ _ st h=>by
  obtain⟨⟨old,he⟩,_⟩:=st;show wpAny_pyIter_enum he h
section
variable {X:Cx}
inductive JB (K:R7) (R:It->Hp->Prop) (vs:qx V) (H1:Hp):Prop | mk (a:_) (e0:vs=[.ref a]) (e1:(∃xs,R5 K H1 a xs)) (q:R (Tq K a) H1)
def Lx (K:R7) (ta:TA):TI:=λO H R=>ta O H λvs H1=>JB K R vs H1
theorem boot_enumerate:zt "enumerate" = some (.type "enumerate"):=by trivial
theorem kP {elts:qx tW}{x1}{tpos:Pos}{a:tW}{ta:TA}{p pos:Pos}(hg:Gl X "enumerate") (hm:X.mg "enumerate" = none) (ha:PA X [a] ta) (hs:zb [a] X.env=[(false,eval a X.env)]:=by rfl):PI X (.Tuple elts x1 tpos) (.Call (.Name "enumerate" p) [a] [] pos) (Lx X.K ta):=by
 intro R1 s O H R I h;show Call_<|lj I hg hm boot_enumerate<|P1 (Sf (ha pos R1 s O H _ I h) λus s1 ⟨vs,H1,I1,r1,q1⟩=>?_) hs rfl;obtain⟨l,e,⟨xs,hq⟩,q⟩:=q1;subst e;cases r1 with
 | cons r rr =>
  cases rr;cases r;obtain⟨its,rv,pl,hz⟩:=I1.list hq;show call_enumerate_list pl.isList λh' he hit hsz hk=>?_;show wpAny_pyIter_enum he ?_;have I2:Inv X R1 O H1 { s1 with heap:=h' }:=I1.kept (t':=s1.toks) hk;erw[s1.heap.objs.size+1,[s1.heap.objs.size+1,s1.heap.objs.size],_,_,H1,Z,I2,CF l _ _,⟨⟨.none,he⟩,hit,Wr _⟩,λb hb=>?_,q];have hb':s1.heap.objs.size<=b:=by
   rcases N5.mp hb with rfl | hb
   .lia
   .rw[NZ.mp hb]; show N0 _
  show I1.g9 hb'<|I1.hok.fresh hb'
end
theorem nA {K:R7}{xs:qx V}{g:TG}{tb:TS}{D:Ends}(Pv:u6->St->Hp->Prop) (h0:Pv 0 O H) (hJ: ∀i O H,i<=xs.length->Pv i O H->R5 K H a xs)
  (hs: ∀i x O H t,xs[i]?=some x->Pv i O H->H t=none->g (.ref t) O (upd H t (.tup [.int (i:u6),x])) λO2 H2=>tb { D with nx:=Pv (i+1),ct:=Pv (i+1),bk:=D.nx } O2 H2) (hd: ∀O H,Pv xs.length O H->D.nx O H) :
  ∃W:u6->u6->St->Hp->Prop,(∃m,W 0 m O H)/\ ∀i m O H,W i m O H ->
   ((Tq K a).stop i H/\D.nx O H)\/((Tq K a).go i H/\ ∃N:St->Hp->Prop,(∀O' H',N O' H'-> ∃m',m' < m/\W (i+1) m' O' H')/\ ∀x H',(Tq K a).yld i H x H'->g x O H' λO2 H2=>tb { D with nx:=N,ct:=N,bk:=D.nx } O2 H2):=by
 erw[λi m O H=>i<=xs.length/\m=xs.length - i/\Pv i O H,⟨xs.length,ON _,Z,h0⟩,?_];rintro i m O H ⟨hi,rfl,hp⟩;have hj:=hJ i O H hi hp;by_cases hlt:i < xs.length
 .show .inr ⟨⟨xs,xs[i],hj,NV hlt⟩,Pv<|i+1,λO' H' q=>⟨xs.length - (i+1),Y,hlt,Z,q⟩,λv H' hy=>?_⟩;obtain⟨t,x,rfl,nt,rfl,hx⟩:=hy;show hs i x O H t (hx xs hj) hp nt
 .have e:i=xs.length:=Y;subst e;show .inl ⟨⟨xs,hj,N0 _⟩,hd O H hp⟩
end L2
namespace MA
inductive Path (rs:qx ao) (s:u7):u7->qx u6->Prop
 | nil:Path rs s s []
 | snoc {k:u7}{ps:qx u6}{i:u6}{q:ao}:Path rs s k ps->rs[i]?=some q->q.2.1=k->Path rs s q.1 (ps++[i])
def hE (rs:qx ao) (i:u6):u7:=(rs.getD i (0,0,0)).1
def jV (rs:qx ao) (i:u6):u7:=(rs.getD i (0,0,0)).2.2
def Sm (rs:qx ao) (ps:qx u6):qx u7:=ps.map (hE rs)
variable{rs:qx ao}{i:u6}{q:ao}
theorem gx(h:rs[i]?=some q):hE rs i=q.1:=by
 unfold hE;rw[NY,h];rfl
theorem lZ(h:rs[i]?=some q):jV rs i=q.2.2:=by
 unfold jV;rw[NY,h];rfl
theorem gI {ps:qx u6}(h:rs[i]?=some q):Sm rs (ps++[i])=Sm rs ps++[q.1]:=by
 unfold Sm;rw[Od,OH,Rl,gx h]
variable{ps:qx u6}
theorem pX:(Sm rs ps).length=ps.length:=NR ..
theorem Path.spec {s k:u7}(h:Path rs s k ps):(∀j i:u6,ps[j]?=some i-> ∃q,rs[i]?=some q/\q.2.1=(s::Sm rs ps).getD j 0)/\k=(s::Sm rs ps).getD ps.length 0:=by
 induction h with
 | nil=>exact⟨λj i e=>by simp at e,Z⟩
 | @snoc k ps i q hp hi hb ih =>
  obtain⟨a,b⟩:=ih;have e1:s::Sm rs (ps++[i])=(s::Sm rs ps)++[q.1]:=by rw[gI hi]; rfl
  have l1:(s::Sm rs ps).length=ps.length+1:=by rw[Oh,pX]
  erw[λj m e=>?_,?_]
  .rw[e1];by_cases hj:j < ps.length
   .rw[O1 hj] at e;obtain⟨q',h1,h2⟩:=a j m e;erw[q',h1,h2.trans ?_];rw[NY,NY,O1 Y]
   .have hj2:j=ps.length:=by
     have:=(NX.mp e).1;rw[N1] at this;have:ps.length+[i].length=ps.length+1:=rfl;lia
    subst hj2;have hm:i=m:=(by simpa using e);subst hm;erw[q,hi,hb.trans (b.trans ?_)];rw[NY,NY,O1 Y]
  .rw[e1,N1,NY,O9 (by rw[l1]; show N0 _),l1];have:ps.length+[i].length - (ps.length+1)=0:=(by change ps.length+1 - (ps.length+1)=0; lia);rw[this];rfl
theorem Path.le {n:u6}{f:u7->u7}(k: ∀r∈rs,Sh n r) (hf:Met rs f){s e:u7}(hs:0<=s){ps:qx u6}(h:Path rs s e ps):0<=e/\f s<=f e:=by
 induction h with
 | nil=>exact⟨hs,Oo _⟩
 | @snoc e ps i q hp hi hb ih =>
  have hq:=NU hi;obtain⟨k1,k2,k3,k4,k5⟩:=k q hq;have m:=hf q hq;unfold ask at m;rw[NS Y,hb] at m;erw[k1,Y]
def h7:qx ao->(ao->u7)->u7
 | [],_=>0
 | r::rs,f=>h7 rs f+f r
theorem uf: ∀(rs:qx ao) (f h:ao->u7),(∀r∈rs,f r<=h r)->h7 rs f<=h7 rs h
 | [],_,_,_=>Oo _
 | r::rs,f,h,k=>by
  have h1:=k r<|N6;have h2:=uf rs f h λx hx=>k x<|N4 _ hx;change h7 rs f+f r<=h7 rs h+h r;lia
theorem Al: ∀(rs:qx ao) (f h:ao->u7) (q:ao) (d:u7),(∀r∈rs,f r<=h r)->q∈rs->f q+d<=h q->h7 rs f+d<=h7 rs h
 | [],_,_,_,_,_,hq,_=>by cases hq
 | r::rs,f,h,q,d,k,hq,hd=>by
  have k2: ∀x∈rs,f x<=h x:=λx hx=>k x<|N4 _ hx;change h7 rs f+f r+d<=h7 rs h+h r;rcases N5.mp hq with rfl | hq
  .have:=uf rs f h k2;lia
  .have:=Al rs f h q d k2 hq hd;have:=k r<|N6;lia
theorem DL: ∀(rs:qx ao) (f:ao->u7),(∀r∈rs,0<=f r)->0<=h7 rs f
 | [],_,_=>Oo _
 | r::rs,f,k=>by
  have:=DL rs f λx hx=>k x<|N4 _ hx;have:=k r<|N6;change 0<=h7 rs f+f r;lia
theorem F7 {n:u6}(k: ∀r∈rs,Sh n r) (h: ∀q∈rs,q.2.1≠ -1->0 < q.2.2-> ∃S:u7->Prop,S q.1/\ ¬S q.2.1/\ ∀r∈rs,0<=r.2.1->S r.2.1->S r.1):gq n rs=false:=by
 classical
 obtain⟨C,c0,hC⟩:=rO rs;have pick: ∃S:ao->u7->Prop,∀q∈rs,q.2.1≠ -1->0 < q.2.2->S q q.1/\ ¬S q q.2.1/\ ∀r∈rs,0<=r.2.1->S q r.2.1->S q r.1:=by
  erw[λq=>if z:q∈rs/\q.2.1≠ -1/\0 < q.2.2 then Classical.choose (h q z.1 z.2.1 z.2.2) else λ_=>MK,λq a b c=>?_];have z:q∈rs/\q.2.1≠ -1/\0 < q.2.2:=⟨a,b,c⟩
  simp only[dif_pos z];show Classical.choose_spec<|h q a b c
 obtain⟨S,hS⟩:=pick
 let w:u7->ao->u7:=λv q=>if q.2.1≠ -1/\0 < q.2.2/\S q v then q.2.2 else 0
 cases e:gq n rs with
 | false=>rfl
 | true =>
  show wz (?_:Met rs λv=>C+h7 rs (w v))<|pR k e _;intro r hr;obtain⟨r1,r2,r3,r4,r5⟩:=k r hr;have w0: ∀v,0<=h7 rs (w v):=λv=>DL rs _ λq hq=>by
   change 0<=if q.2.1≠ -1/\0 < q.2.2/\S q v then q.2.2 else 0;split <;> lia
  unfold ask;by_cases hp:r.2.1= -1
  .rw[NW hp];have:=w0 r.1;have:=hC r hr;change r.2.2<=C+h7 rs (w r.1);lia
  .rw[NS hp];have mono: ∀q∈rs,w r.2.1 q<=w r.1 q:=λq hq=>by
    change (if q.2.1≠ -1/\0 < q.2.2/\S q r.2.1 then q.2.2 else 0)<=(if q.2.1≠ -1/\0 < q.2.2/\S q r.1 then q.2.2 else 0);by_cases c:q.2.1≠ -1/\0 < q.2.2/\S q r.2.1
    .rw[NW c,NW ⟨c.1,c.2.1,(hS q hq c.1 c.2.1).2.2 r hr Y c.2.2⟩];show Oo _
    .rw[NS c];split <;> lia
   change C+h7 rs (w r.2.1)+r.2.2<=C+h7 rs (w r.1);by_cases hm:0 < r.2.2
   .have s:=hS r hr hp hm;have:=Al rs (w r.2.1) (w r.1) r r.2.2 mono hr (by
     change (if r.2.1≠ -1/\0 < r.2.2/\S r r.2.1 then r.2.2 else 0)+r.2.2<=(if r.2.1≠ -1/\0 < r.2.2/\S r r.1 then r.2.2 else 0);rw[NS (λz=>s.2.1 z.2.2),NW ⟨hp,hm,s.1⟩];lia)
    lia
   .have:=uf rs (w r.2.1) (w r.1) mono;lia
end MA
namespace L2
open PySem PySem.Spec PyProof.Rows
abbrev Sx:=qx (Key×V)
def has (kvs:Sx) (k:u7):Prop:=(aY kvs (xf k)).isSome=true
def kj (n:u6) (kvs:Sx):u6:=((wx n).map λi=>if (aY kvs (xf ((i:u6):u7))).isSome then 0 else 1).sum
def Me (H:Hp) (rs:qx MA.ao) (s:u7) (q:qA) (kvs:Sx) (k:u7) (v:V):Prop :=
 ∃a ps,v= .ref a/\H a=some (.lst (aJ ps))/\a≠q/\MA.Path rs s k ps/\(s::MA.Sm rs ps).Nodup/\(∀x∈s::MA.Sm rs ps,has kvs x)/\ps.length+1<=kvs.length
structure Bf (H0 H:Hp) (n:u6) (rs:qx MA.ao) (s:u7) (d q:qA) (kvs:Sx) (ws:qx u7) (sk:u7->Prop):Prop where
 hd:H d=some (.dK kvs)
 hq:H q=some (.lst (ws.map V.int))
 sm:ag H0 H
 fd:H0 d=none
 fq:H0 q=none
 SN: ∀k,has kvs k->0<=k/\k < n
 val: ∀k v,aY kvs (xf k)=some v->Me H rs s q kvs k v
 st:has kvs s
 wk: ∀m∈ws,has kvs m
 cl: ∀k,has kvs k->k∉ws-> ¬sk k-> ∀r∈rs,r.2.1=k->has kvs r.1
 cn:kvs.length+kj n kvs<=n
section
variable {H0 H:Hp}{n:u6}{rs:qx MA.ao}{s:u7}{d q:qA}{kvs:Sx}{ws:qx u7}{sk:u7->Prop}
theorem Bf.ne (b:Bf H0 H n rs s d q kvs ws sk):d≠q:=fv b.hd b.hq (by intro z; cases z)
theorem Bf.grow {H':Hp}(b:Bf H0 H n rs s d q kvs ws sk) (e:ag H H'):Bf H0 H' n rs s d q kvs ws sk :=
 ⟨e _ _ b.hd,e _ _ b.hq,b.sm.trans e,b.fd,b.fq,b.SN,λk v h=>by
  obtain⟨a,ps,e1,e2,r⟩:=b.val k v h;exact⟨a,ps,e1,e _ _ e2,r⟩,b.st,b.wk,b.cl,b.cn⟩
theorem Bf.pop {m:u7}{r:qx u7}(b:Bf H0 H n rs s d q kvs (m::r) sk) (hs: ∀k,¬sk k):Bf H0 (upd H q (.lst (r.map V.int))) n rs s d q kvs r (λk=>k=m) :=
 ⟨(ah b.ne).trans b.hd,af,b.sm.cT b.fq,b.fd,b.fq,b.SN,λk v h=>by
  obtain⟨a,ps,e1,e2,e3,r⟩:=b.val k v h;exact⟨a,ps,e1,(ah e3).trans e2,e3,r⟩,b.st,λx hx=>b.wk x (N4 _ hx),λk h1 h2 h3=>b.cl k h1 (λz=>(N5.mp z).elim h3 h2) (hs k),b.cn⟩
theorem cR {k:u7}{v:V}{j:u7}:has (putK kvs (xf k) v) j↔j=k\/has kvs j:=by
 unfold has;rw[ly];by_cases e:j=k;.subst e; simp
 .rw[NS λz=>e<|QY z]; simp[e]
theorem kN {k:u7}{v:V}(h0:0<=k) (h1:k < n) (hn: ¬has kvs k):kj n (putK kvs (xf k) v)+1<=kj n kvs:=by
 show MA.oU _ _ _ (λi _=>?_) ⟨k.toNat,Oq.mpr (by lia),?_⟩
 .by_cases c:has kvs (i:u6)
  .rw[NW<|show (aY (putK kvs (xf k) v)<|xf ((i:u6):u7)).isSome=true from cR.mpr<|.inr c];show ON _
  .rw[NS<|show ¬(aY kvs<|xf ((i:u6):u7)).isSome=true from c];split <;> lia
 .have e:((k.toNat:u6):u7)=k:=Y;rw[e,NW<|show (aY (putK kvs (xf k) v)<|xf k).isSome=true from cR.mpr<|.inl rfl,NS<|show ¬(aY kvs<|xf k).isSome=true from hn];decide
theorem Bf.reach {m:u7}{a p:qA}{ps:qx u6}{i:u6}{rl:MA.ao}(b:Bf H0 H n rs s d q kvs ws (λk=>k=m)) (hv:aY kvs (xf m)=some (.ref a)) (ha:H a=some (.lst (aJ ps)))
  (hp:MA.Path rs s m ps) (SH:(s::MA.Sm rs ps).Nodup) (hall: ∀x∈s::MA.Sm rs ps,has kvs x) (hl:ps.length+1<=kvs.length)
  (hr:rs[i]?=some rl) (hb:rl.2.1=m) (k0:0<=rl.1) (k1:rl.1 < n) (hn: ¬has kvs rl.1) (hpp:H p=some (.lst (aJ (ps++[i])))) (npq:p≠q) :
  Bf H0 (upd (upd H d (.dK (putK kvs (xf rl.1) (.ref p)))) q (.lst ((ws++[rl.1]).map V.int))) n rs s d q (putK kvs (xf rl.1) (.ref p)) (ws++[rl.1]) (λk=>k=m):=by
 have lenP:(putK kvs (xf rl.1)<|V.ref p).length=kvs.length+1:=by
  rw[xK _ (by unfold has at hn; simpa using hn),N1];rfl
 have keep: ∀c xs,H c=some (.lst xs)->c≠q->(upd (upd H d<|.dK<|putK kvs (xf rl.1)<|.ref p) q<|.lst<|(ws++[rl.1]).map V.int) c=some (.lst xs):=λc xs e ne=>by
  rw[ah ne,ah<|fv e b.hd (by intro z; cases z)];show e
 erw[(ah b.ne).trans af,af,?_,b.fd,b.fq,λj hj=>?_,λj v hj=>?_,cR.mpr<|.inr b.st,λx hx=>?_,λj h1 h2 h3 r hrr hrb=>?_,?_];.exact (b.sm.cT b.fd).cT b.fq
 .rcases cR.mp hj with rfl | hj
  .nomatch k0,k1
  .exact b.SN j hj
 .rw[ly] at hj;by_cases e:j=rl.1
  .rw[NW (by rw[e])] at hj;cases hj;rw[e];erw[p,ps++[i],Z,keep p _ hpp npq,npq,.snoc hp hr hb,?_,λx hx=>?_,?_]
   .rw[MA.gI hr,<-RT];show Qt.mpr ⟨SH,OS.mpr ⟨OG,Qi⟩,λx hx y hy=>?_⟩;rw[NZ.mp hy];intro z;show hn<|z▸hall x hx
   .rw[MA.gI hr,<-RT] at hx;rcases Oe.mp hx with hx | hx
    .exact cR.mpr<|.inr<|hall x hx
    .exact cR.mpr<|.inl<|NZ.mp hx
   .rw[N1,lenP];change ps.length+1+1<=_;lia
  .rw[NS λz=>e<|QY z] at hj;obtain⟨a2,ps2,e1,e2,e3,e4,e5,e6,e7⟩:=b.val j v hj;erw[a2,ps2,e1,keep a2 _ e2 e3,e3,e4,e5,λx hx=>cR.mpr<|.inr<|e6 x hx,by rw[lenP]; lia]
 .rcases Oe.mp hx with hx | hx
  .exact cR.mpr<|.inr<|b.wk x hx
  .exact cR.mpr<|.inl<|NZ.mp hx
 .rcases cR.mp h1 with e | h1
  .exact wz (Ot _ (by rw[e]; show NZ.mpr rfl)) h2
  .exact cR.mpr<|.inr<|b.cl j h1 (λz=>h2<|Oy _ z) h3 r hrr hrb
 .have:=kN (v:= .ref p) k0 k1 hn;have:=b.cn;rw[lenP];lia
end
theorem Fo {ps qs:qx u6}:aJ (ps++qs)=aJ ps++aJ qs:=Od
theorem z6 (x:u7): ∀ms:qx u7,Sq (.int x) (ms.map V.int)=decide (x∈ms)
 | []=>by simp[Sq]
 | m::ms=>by
  have:=z6 x ms;unfold Sq at this ⊢;rw[OH,PD,this];change (m == x || decide (x∈ms))=decide (x∈m::ms);by_cases e:m=x;.subst e; simp
  .have e': ¬x=m:=λz=>e z.symm;simp[e,e']
theorem vC: ∀ms:qx u7,(ms.map V.int).all c6=true
 | []=>rfl
 | m::ms=>by rw[OH,RL,vC ms]; rfl
end L2
namespace MA
def fE (ws:qx u7) (q:ao):qx u7:=if q.2.1 < 0 then put ws q.1 (mx (g ws q.1) q.2.2) else ws
def du (n:u6) (rs:qx ao):qx u7:=rs.foldl fE (wo n 0)
def fS (M:Mt) (fs:qx u7) (a:u6) (ws:qx u7) (b:u6):qx u7:=if 0<=M a b then put ws (b:u6) (mx (g ws (b:u6)) (g fs (a:u6)+M a b)) else ws
def jC (n:u6) (M:Mt) (fs:qx u7) (ws:qx u7) (a:u6):qx u7:=(wx n).foldl (fS M fs a) ws
def oZ (n:u6) (M:Mt) (fs:qx u7):qx u7:=(wx n).foldl (jC n M fs) (wo n 0)
def c9 (n:u6) (rs:qx ao):qx u7:=oZ n (aH n rs) (du n rs)
variable{ws:qx u7}
theorem jE {q:ao}:(fE ws q).length=ws.length:=by
 unfold fE;split;.exact gC
 .rfl
variable{M:Mt}{a:u6}
theorem jB {fs:qx u7}{b:u6}:(fS M fs a ws b).length=ws.length:=by
 unfold fS;split;.exact gC
 .rfl
theorem gM {α:Type}(f:qx u7->α->qx u7) (h: ∀ws a,(f ws a).length=ws.length): ∀(l:qx α) (ws:qx u7),(l.foldl f ws).length=ws.length
 | [],_=>rfl
 | a::l,ws=>(gM f h l (f ws a)).trans (h ws a)
variable{n:u6}{rs:qx ao}
theorem E7:(du n rs).length=n:=(gM _ (λ_ _=>jE) _ _).trans uD
theorem lB {fs:qx u7}:(jC n M fs ws a).length=ws.length:=gM _ (λ_ _=>jB) _ _
theorem rA {fs:qx u7}:(oZ n M fs).length=n:=(gM _ (λ_ _=>lB) _ _).trans uD
theorem C1(k: ∀r∈rs,Sh n r):(∀i:u7,0<=i->i < n->0<=g (du n rs) i)/\(∀r∈rs,r.2.1= -1->r.2.2<=g (du n rs) r.1) /\
  ∀h:u7->u7,(∀i:u7,0<=i->i < n->0<=h i)->(∀r∈rs,r.2.1= -1->r.2.2<=h r.1)->Le n (g (du n rs)) h:=by
 have up: ∀(l:qx ao) (ws:qx u7),(∀r∈l,Sh n r)->ws.length=n->Le n (g ws) (g<|l.foldl fE ws):=λl=>by
  induction l with
  | nil=>intro ws _ _ i _ _; show Oo _
  | cons r l ih =>
   intro ws hk hl i h0 h1;have kr:=hk r<|N6;show OJ ?_ (ih (fE ws r) (λx hx=>hk x<|N4 _ hx) (jE.trans hl) i h0 h1);unfold fE;split
   .rw[fJ kr.1 (by rw[hl]; show kr.2.1) h0];split;.rename_i e; rw[e]; show fP _ _
    .exact Oo _
   .exact Oo _
 erw[λi h0 h1=>?_,λr hr hb=>?_,λh h0 hh=>?_]
 .have:=up rs (wo n 0) k uD i h0 h1;rw[kZ] at this;show this
 .have: ∀(l:qx ao) (ws:qx u7),(∀r∈l,Sh n r)->ws.length=n->r∈l->r.2.2<=g (l.foldl fE ws) r.1:=λl=>by
   induction l with
   | nil=>intro ws _ _ h; cases h
   | cons q l ih =>
    intro ws hk hl hm;have kq:=hk q<|N6;have hk':=λx hx=>hk x<|N4 q hx;rcases N5.mp hm with rfl | hm
    .show OJ ?_ (up l (fE ws r) hk' (jE.trans hl) r.1 kq.1 kq.2.1);unfold fE;rw[NW Y,fJ kq.1 (by rw[hl]; show kq.2.1) kq.1,NW rfl];show iP _ _
    .exact ih (fE ws q) hk' (jE.trans hl) hm
  show this rs _ k uD hr
 .have: ∀(l:qx ao) (ws:qx u7),(∀r∈l,Sh n r)->(∀r∈l,r.2.1= -1->r.2.2<=h r.1)->ws.length=n->Le n (g ws) h->Le n (g<|l.foldl fE ws) h:=λl=>by
   induction l with
   | nil=>intro ws _ _ _ hw; show hw
   | cons q l ih =>
    intro ws hk hh hl hw;have kq:=hk q<|N6;show ih (fE ws q) (λx hx=>hk x<|N4 _ hx) (λx hx=>hh x<|N4 _ hx) (jE.trans hl) λi i0 i1=>?_;unfold fE;split
    .rename_i hb;rw[fJ kq.1 (by rw[hl]; show kq.2.1) i0];split;.rename_i e; rw[e]; show sC (hw _ kq.1 kq.2.1) (hh q (N6) (by have:=kq.2.2.1; lia))
     .exact hw i i0 i1
    .exact hw i i0 i1
  show this rs _ k hh uD λi a b=>by rw[kZ]; show h0 i a b
theorem HM {fs:qx u7}{b:u6}(hb:b < n) (hl:ws.length=n):Le n (g ws) (g (fS M fs a ws b)):=λi h0 h1=>by
 unfold fS;split
 .rw[fJ Y Y h0];split;.rename_i e; rw[e]; show fP _ _
  .exact Oo _
 .exact Oo _
theorem uR {fs:qx u7}: ∀(l:qx u6) (ws:qx u7),(∀b∈l,b < n)->ws.length=n->Le n (g ws) (g (l.foldl (fS M fs a) ws))
 | [],_,_,_=>λ_ _ _=>Oo _
 | b::l,ws,hb,hl=>λi h0 h1=>OJ (HM (hb b (N6)) hl i h0 h1) (uR l (fS M fs a ws b) (λx hx=>hb x (N4 _ hx)) (jB.trans hl) i h0 h1)
theorem zZ {fs:qx u7}: ∀(l:qx u6) (ws:qx u7),ws.length=n->Le n (g ws) (g (l.foldl (jC n M fs) ws))
 | [],_,_=>λ_ _ _=>Oo _
 | a::l,ws,hl=>λi h0 h1=>OJ (uR (wx n) ws (λb hb=>Oq.mp hb) hl i h0 h1) (zZ l (jC n M fs ws a) (lB.trans hl) i h0 h1)
theorem mF {n:u6}{M:Mt}{fs:qx u7}{a b:u6}(ha:a < n) (hb:b < n) (hm:0<=M a b):g fs (a:u6)+M a b<=g (oZ n M fs) (b:u6):=by
 have inner: ∀(l:qx u6) (ws:qx u7),(∀b∈l,b < n)->ws.length=n->b∈l->g fs (a:u6)+M a b<=g (l.foldl (fS M fs a) ws) (b:u6):=λl=>by
  induction l with
  | nil=>intro ws _ _ h; cases h
  | cons c l ih =>
   intro ws hl hw hm';have hl':=λx hx=>hl x<|N4 c hx;rcases N5.mp hm' with rfl | hm'
   .show OJ ?_ (uR l (fS M fs a ws b) hl' (jB.trans hw) (b:u6) Y Y);unfold fS;rw[NW hm,fJ Y Y Y,NW rfl];show iP _ _
   .exact ih (fS M fs a ws c) hl' (jB.trans hw) hm'
 have outer: ∀(l:qx u6) (ws:qx u7),ws.length=n->a∈l->g fs (a:u6)+M a b<=g (l.foldl (jC n M fs) ws) (b:u6):=λl=>by
  induction l with
  | nil=>intro ws _ h; cases h
  | cons c l ih =>
   intro ws hw hm';rcases N5.mp hm' with rfl | hm'
   .exact OJ (inner (wx n) ws (λb hb=>Oq.mp hb) hw<|Oq.mpr hb)<|zZ l (jC n M fs ws a) (lB.trans hw) (b:u6) Y Y
   .exact ih (jC n M fs ws c) (lB.trans hw) hm'
 show outer (wx n) _ uD<|Oq.mpr ha
theorem Aq {n:u6}{M:Mt}{fs:qx u7}{h:u7->u7}(h0: ∀i:u7,0<=i->i < n->0<=h i) (hh: ∀a b:u6,a < n->b < n->0<=M a b->g fs (a:u6)+M a b<=h (b:u6)):Le n (g (oZ n M fs)) h:=by
 show (gg (λws=>ws.length=n/\Le n (g ws) h) _ _ _ ⟨uD,λi a b=>by rw[kZ]; show h0 i a b⟩ λws a ha hw=>?_).2;show gg (λws=>ws.length=n/\Le n (g ws) h) _ _ _ hw λus b hb hu=>?_;erw[jB.trans hu.1,λi i0 i1=>?_];have hb:=Oq.mp hb;unfold fS;split
 .rename_i hm;rw[fJ Y (by have:=hu.1; lia) i0];split
  .rename_i e;rw[e];show sC (hu.2 _ Y Y) (hh a b (Oq.mp ha) hb hm)
  .exact hu.2 i i0 i1
 .exact hu.2 i i0 i1
theorem vx {L:qx u7}(k: ∀r∈rs,Sh n r) (h:aZ n rs=some L):c9 n rs=L:=by
 obtain⟨l1,l2,l3,l4⟩:=bG k h;obtain⟨f1,f2,f3⟩:=C1 k;have sd:=iV k l2;have hd: ∀i,i < n->aH n rs i i<=0:=λi hi=>by
  show OO λc=>?_;have:=sd i i Y;lia
 obtain⟨up,dg,cl⟩:=n6 hd;have fL:Le n (g<|du n rs) (g L):=f3 (g L) l3 λr hr hb=>by
  have:=l2 r hr;unfold ask at this;rw[NW hb] at this;show this
 have dl:Le n (g<|c9 n rs) (g L):=Aq l3 λa b ha hb hm=>by
  have h1:=sd a b hm;have h2:=fL (a:u6) Y Y;lia
 have d0: ∀i:u7,0<=i->i < n->0<=g (c9 n rs) i:=λi i0 i1=>by
  have e:((i.toNat:u6):u7)=i:=Y;have h1:=mF (n:=n) (M:=aH n rs) (fs:=du n rs) (a:=i.toNat) (b:=i.toNat) Y Y (by rw[dg _ Y]; lia);rw[dg _ Y,e] at h1;have:=f1 i i0 i1;change 0<=g (oZ n (aH n rs)<|du n rs) i;lia
 have dm:Met rs (g<|c9 n rs):=λr hr=>by
  obtain⟨r1,r2,r3,r4,r5⟩:=k r hr;have e1:((r.1.toNat:u6):u7)=r.1:=Y;unfold ask;split
  .rename_i hb;have h1:=mF (n:=n) (M:=aH n rs) (fs:=du n rs) (a:=r.1.toNat) (b:=r.1.toNat) Y Y (by rw[dg _ Y]; lia);rw[dg _ Y,e1] at h1;have h2:=f2 r hr hb;change _<=g (oZ n (aH n rs) (du n rs)) r.1;lia
  .rename_i hb;have e2:((r.2.1.toNat:u6):u7)=r.2.1:=Y;have hl:r.2.2<=aH n rs r.2.1.toNat r.1.toNat:=OJ (p9 (n:=n) rs (M1 n) r hr Y) (up _ _);have hb1:=mF (n:=n) (M:=aH n rs) (fs:=du n rs) (a:=r.2.1.toNat) (b:=r.1.toNat) Y Y Y;rw[e1,e2] at hb1;have hf:=f1 r.2.1 Y r4;have:=Aq (n:=n) (M:=aH n rs) (fs:=du n rs) (h:=λv=>if v=r.2.1 then g (c9 n rs) r.1 - r.2.2 else g (c9 n rs) v) (λi i0 i1=>?_) (λa b ha hb' hm=>?_) r.2.1 Y r4
   .have this:g (c9 n rs) r.2.1<=if r.2.1=r.2.1 then g (c9 n rs) r.1 - r.2.2 else g (c9 n rs) r.2.1:=this;rw[NW rfl] at this;lia
   .change 0<=if i=r.2.1 then g (c9 n rs) r.1 - r.2.2 else g (c9 n rs) i;split
    .change 0<=g (oZ n (aH n rs) (du n rs)) r.1 - r.2.2;lia
    .exact d0 i i0 i1
   .change g (du n rs) (a:u6)+aH n rs a b<=if (b:u7)=r.2.1 then g (c9 n rs) r.1 - r.2.2 else g (c9 n rs) (b:u6);split
    .rename_i e;have eb:b=r.2.1.toNat:=Y;rw[eb] at hm ⊢;have c:=cl r.2.1.toNat Y a r.1.toNat ha Y hm Y;have h2:=mF (n:=n) (M:=aH n rs) (fs:=du n rs) (a:=a) (b:=r.1.toNat) ha Y Y;rw[e1] at h2;change _<=g (oZ n (aH n rs) (du n rs)) r.1 - r.2.2;lia
    .exact mF ha hb' hm
 show He (rA.trans l1.symm) λi i0 i1=>?_;have i1:i < n:=by
  have:(c9 n rs).length=n:=rA;lia
 have a:=dl i i0 i1;have b:=l4 (g<|c9 n rs) d0 dm i i0 i1;lia
inductive Sw (rs:qx ao):u7->qx u6->Prop
 | one {i:u6}{q:ao}:rs[i]?=some q->Sw rs q.1 [i]
 | snoc {k:u7}{ps:qx u6}{i:u6}{q:ao}:Sw rs k ps->rs[i]?=some q->q.2.1=k->Sw rs q.1 (ps++[i])
def dt (rs:qx ao) (ps:qx u6):u7:=(ps.map (jV rs)).sum
theorem gJ {ps:qx u6}{i:u6}{q:ao}(h:rs[i]?=some q):dt rs (ps++[i])=dt rs ps+q.2.2:=by
 unfold dt;rw[Od,WB];change _+(jV rs i+0)=_;rw[lZ h,Wa]
theorem Sw.lt {k:u7}{ps:qx u6}(h:Sw rs k ps): ∀i∈ps,i < rs.length:=by
 induction h with
 | one hi=>intro j hj; rw[NZ.mp hj]; show (NX.mp hi).1
 | snoc _ hi _ ih =>
  intro j hj;rcases Oe.mp hj with hj | hj
  .exact ih j hj
  .rw[NZ.mp hj]; show (NX.mp hi).1
end MA
namespace L2
open PySem PySem.Spec PyProof.Rows
inductive NI (K:R7) (x y:V) (H:Hp) (Q:VK):Prop | mk (a b:qA) (ns ms:qx u7) (e0:x= .ref a) (e1:y= .ref b) (e2:R5 K H a (ns.map V.int)) (e3:R5 K H b (ms.map V.int)) (q:Q (.bl (!decide (ns=ms))) H)
theorem xN {ps:qx u6}{i:u6}{x:V}(h:(aJ ps)[i]?=some x): ∃y,ps[i]?=some y/\x= .int (y:u6):=by
 unfold aJ at h;rw[N7] at h;cases e:ps[i]? with
 | none=>rw[e] at h; cases h
 | some y=>rw[e] at h; erw[y,Z,(Oj h).symm]
theorem uV {K:R7}{H:Hp}{xs:qx V}{rs:qx MA.ao}(h:cF K H xs rs){k:u6}{q:MA.ao}(hq:rs[k]?=some q): ∃a,Si xs (k:u6)=some (.ref a)/\Se K H a [.int q.1,.int q.2.1,.int q.2.2]:=by
 obtain⟨v,hv,a,rfl,ha⟩:=h.at hq;erw[a,aU hv,ha]
end L2
namespace MA
def over (x:u7):rW u7->yW
 | none=>false
 | some c=>decide (c < x)
def bP (ws:qx u7) (cs:qx (rW u7)):rW u6:=(wx ws.length).find? λi=>over (g ws (i:u6)) (cs.getD i none)
variable{p:u6->yW}
theorem sG: ∀ {n i:u6},i < n->p i=true->(∀j,j < i->p j=false)->(wx n).find? p=some i
 | 0,_,h,_,_=>wz h (OU _)
 | n+1,i,h,hp,hn=>by
  rw[PQ,Wi];by_cases e:i < n
  .rw[sG e hp hn];rfl
  .have e:i=n:=Y;subst e;have:(wx i).find? p=none:=P2.mpr λj hj=>by rw[hn j<|Oq.mp hj]; show Ol
   rw[this];change ([i].find? p)=some i;simp[hp]
theorem find_none {n:u6}(h: ∀j,j < n->p j=false):(wx n).find? p=none:=P2.mpr λj hj=>by rw[h j (Oq.mp hj)]; show Ol
variable{ws:qx u7}{cs:qx (rW u7)}
theorem sU {i:u6}(hi:i < ws.length) (h:over (g ws (i:u6)) (cs.getD i none)=true) (hn: ∀j,j < i->over (g ws (j:u6)) (cs.getD j none)=false):bP ws cs=some i:=sG hi h hn
theorem sj(h: ∀j,j < ws.length->over (g ws (j:u6)) (cs.getD j none)=false):bP ws cs=none:=find_none h
def tE (n:u6) (rs:qx ao) (L:qx u7) (m x:u7):qx u7:=it rs n (put L m (g L m+x))
theorem Io {n:u6}{rs:qx ao}{L:qx u7}{m x:u7}(k: ∀r∈rs,Sh n r) (h:aZ n rs=some L) (m0:0<=m) (m1:m < n) (x0:0<=x):(tE n rs L m x).length=n /\
  ∀v:u6,v < n->g (tE n rs L m x) (v:u6)=if 0<=aH n rs m.toNat v then mx (g L (v:u6)) (g L m+x+aH n rs m.toNat v) else g L (v:u6):=by
 obtain⟨l1,l2,l3,l4⟩:=bG k h;have sd:=iV k l2;have hd: ∀i,i < n->aH n rs i i<=0:=λi hi=>by
  show OO λc=>?_;have:=sd i i Y;lia
 obtain⟨up,dg,cl⟩:=n6 hd;have em:((m.toNat:u6):u7)=m:=Y;have sl:(put L m<|g L m+x).length=n:=gC.trans l1;have sg: ∀i:u7,0<=i->g (put L m<|g L m+x) i=if i=m then g L m+x else g L i:=λi i0=>fJ m0 Y i0
 let hh:u7->u7:=λv=>if 0<=aH n rs m.toNat v.toNat then mx (g L v) (g L m+x+aH n rs m.toNat v.toNat) else g L v
 have hL: ∀v,g L v<=hh v:=λv=>by
  change g L v<=if 0<=aH n rs m.toNat v.toNat then mx (g L v) (g L m+x+aH n rs m.toNat v.toNat) else g L v;split;.exact fP _ _
  .exact Oo _
 have hX: ∀v:u7,0<=aH n rs m.toNat v.toNat->g L m+x+aH n rs m.toNat v.toNat<=hh v:=λv c=>by
  change _<=if 0<=aH n rs m.toNat v.toNat then mx (g L v) (g L m+x+aH n rs m.toNat v.toNat) else g L v;rw[NW c];show iP _ _
 have hC: ∀v:u7,hh v=g L v\/(0<=aH n rs m.toNat v.toNat/\hh v=g L m+x+aH n rs m.toNat v.toNat):=λv=>by
  by_cases c:0<=aH n rs m.toNat v.toNat
  .have e:hh v=mx (g L v) (g L m+x+aH n rs m.toNat v.toNat):=NW c;rcases xa (g L v) (g L m+x+aH n rs m.toNat v.toNat) with z | z
   .exact .inl<|e.trans z
   .exact .inr ⟨c,e.trans z⟩
  .exact .inl<|NS c
 have hm:Met rs hh:=λr hr=>by
  obtain⟨r1,r2,r3,r4,r5⟩:=k r hr;have a:=l2 r hr;unfold ask at a ⊢;split
  .rename_i e;rw[NW e] at a;show OJ a (hL _)
  .rename_i e;rw[NS e] at a;have hb:=hL r.1;rcases hC r.2.1 with z | ⟨c,z⟩
   .rw[z]; lia
   .rw[z];have hl:r.2.2<=aH n rs r.2.1.toNat r.1.toNat:=OJ (p9 (n:=n) rs (M1 n) r hr Y)<|up _ _;have c2:=cl r.2.1.toNat Y m.toNat r.1.toNat Y Y c Y;have:=hX r.1 Y;lia
 have hst:Le n (g<|put L m<|g L m+x) hh:=λi i0 i1=>by
  rw[sg i i0];split
  .rename_i e;rw[e];have:=hX m (by rw[dg _ Y]; lia);rw[dg _ Y] at this;lia
  .exact hL i
 have st:=yU k sl hm hst;have rl:(tE n rs L m x).length=n:=(my _ _ _).trans sl;have rm:Met rs (g<|tE n rs L m x):=iy k rl st;have ru:=tM k n (put L m<|g L m+x) sl;have rle:=sN k hm n (put L m<|g L m+x) sl hst;erw[rl,λv hv=>?_];have e1:hh (v:u6)=if 0<=aH n rs m.toNat v then mx (g L (v:u6)) (g L m+x+aH n rs m.toNat v) else g L (v:u6):=rfl;rw[<-e1];have a:=rle (v:u6) Y Y;have b:=ru (v:u6) Y Y;rw[sg (v:u6) Y] at b;have bm:=ru m m0 m1;rw[sg m m0,NW rfl] at bm;have s2:=iV k rm m.toNat v;rw[em] at s2;have bL:g L (v:u6)<=g (it rs n<|put L m<|g L m+x) (v:u6):=by
  split at b
  .rename_i e;have:g L (v:u6)=g L m:=(by rw[e]);lia
  .exact b
 change g (it rs n (put L m (g L m+x))) (v:u6)=hh (v:u6);have s2:0<=aH n rs m.toNat v->g (it rs n (put L m (g L m+x))) m+aH n rs m.toNat v<=g (it rs n (put L m (g L m+x))) (v:u6):=s2;rcases hC (v:u6) with z | ⟨c,z⟩
 .lia
 .have c:0<=aH n rs m.toNat v:=c;have z:hh (v:u6)=g L m+x+aH n rs m.toNat v:=z;have:=s2 c;lia
def fO (n:u6) (rs:qx ao) (L:qx u7) (cs:qx (rW u7)) (m:u7):rW (u7×u6)->Prop
 | none=> ∀(v:u6) (c:u7),v < n->cs.getD v none=some c->aH n rs m.toNat v < 0
 | some (s,stop)=>0<=s/\stop < n/\(∃c,cs.getD stop none=some c/\0<=aH n rs m.toNat stop/\c=g L m+s+aH n rs m.toNat stop) /\
   (∀(v:u6) (c:u7),v < n->cs.getD v none=some c->0<=aH n rs m.toNat v->g L m+s+aH n rs m.toNat v<=c)/\ ∀(v:u6) (c:u7),v < stop->cs.getD v none=some c->0<=aH n rs m.toNat v->g L m+s+aH n rs m.toNat v < c
def Within (n:u6) (L:qx u7) (cs:qx (rW u7)):Prop:= ∀(v:u6) (c:u7),v < n->cs.getD v none=some c->g L (v:u6)<=c
section
variable {n:u6}{rs:qx ao}{L:qx u7}{cs:qx (rW u7)}{m:u7}
end
end MA
namespace L2
open PySem PySem.Spec PyProof.Rows
inductive Lc (K:R7) (xs:qx V) (H:Hp) (Q:VK):Prop | mk (a:qA) (ns:qx u7) (e0:xs=[.ref a]) (e1:R5 K H a (ns.map V.int)) (q:Q (.int ns.sum) H)
def yy (K:R7):qx V->Hp->VK->Prop:=λxs H Q=>Lc K xs H Q
variable{X:Cx}
theorem nG(hc:X.calm=true):cJ X (.builtin "sum") (yy X.K):=by
 intro R1 s O H xs us Q I r h;obtain⟨a,ns,rfl,ha,q⟩:=h;obtain⟨u,rfl,ru⟩:=vals1 r;cases ru;obtain⟨its,rv,pl,hz⟩:=I.list ha;have hi:Vn its ns:=intsAre_of rv;obtain⟨zs,e⟩:=hi.allInts.items;have hn:(numsOf its.toArray.toList).sum=ns.sum:=by rw[show its.toArray.toList=its from rfl,hi.numsOf]
 show sum_intListG (I.ok.hd hc) (e▸pl.isList) λh' tk t' hk=>?_;erw[.int ns.sum,H,I.kept (t':=tk) hk,⟨t',?_⟩,q];rw[<-hn,e,nums_intItems,preSum_eq,OP uD]
def dW:rW u7->V
 | none=> .non
 | some c=> .int c
theorem yG {cs:qx (rW u7)}{k:u6}(h:k < cs.length):Si (cs.map dW) (k:u6)=some (dW (cs.getD k none)):=aU (by rw[N7,NV h,NY,NV h]; rfl)
def TM (K:R7) (C:qA) (m qual:va) (st:zc):Prop:= ∃f fd,Meth K C m f/\TL K m qual st f fd
def GM (CX:SV) (P:tq) (w:sW) (K:R7) (mg:oR) (base:yk) (k:u6) (C:qA) (m:va) (ps:qx va) (sp:Sp):Prop :=
 ∃f fd,Meth K C m f/\Binds K fd ps []/\eP P w K mg base CX k f fd ps sp
abbrev TK:=GM S1
abbrev SY (P:tq) (w:sW):=GM (S9 P w) P w
section
variable {P:tq}{w:sW}{K:R7}{mg:oR}{base:yk}{C:qA}{m qual:va}{st:zc}{N ps:qx va}{k:u6}{sp:Sp}
theorem LU {f:qA}{oc:qT}{od an:rW qA}{osl:zR (rW qT)}{kV doc pm cdv ct:qT}(a:zD K (.ref C) m=some (some (.ref f))) (i:Vo K (.ref f)=true)
  (l:K.lookup f=some ⟨oc,od,.func (B0 m qual (jJ st) (fc st) (bu st) .none kV doc pm an cdv ct),osl⟩) (c:Ge K cdv qual=true) (k:zE K (.ref f)=true):TM K C m qual st :=
 ⟨f,_,⟨a,i,k⟩,Ez (st:=st) l c k⟩
theorem rz (h:TM K C m qual st) (S:gB N ps (bu st))
  (hbody: ∀(f:qA) (cdv:qT) (A:uc) (outer:qx Env) (s:rK) (H:Hp) (vs:qx V) (Q:VK) (E:XK),b7 k (A.deeper (DU qual (bu st) s.heap.objs.size f cdv))->sp vs H Q E ->
   ∃t,Sz (iX S1 P w K mg base N qual (bu st) f cdv A outer s H E).TV (fc st) t/\t { nx:=λ_ H'=>Q .non H',rt:=Q } (start N vs) H)
  (hb:BA m qual st ps:=by trivial)
  (len: ∀vs H Q E,sp vs H Q E->vs.length=ps.length:=by trivial):GM S1 P w K mg base (k+1) C m ps sp:=by
 obtain⟨f,fd,hm,F⟩:=h;erw[f,fd,hm,F.binds hb,F.ok S len λcdv A outer s H vs Q E hr hs=>hbody f cdv A outer s H vs Q E hr hs]
theorem g8 (h:TM K C m qual st) (S:gB N ps (bu st))
  (hbody: ∀(f:qA) (cdv:qT) (A:uc) (outer:qx Env) (s:rK) (H:Hp) (vs:qx V) (Q:VK) (E:XK),b7 k (A.deeper (DU qual (bu st) s.heap.objs.size f cdv))->sp vs H Q E ->
   ∃t,Sz ((iX (S9 P w) P w K mg base N qual (bu st) f cdv A outer s H E).exc [] λ_=>E) (fc st) t/\t { nx:=λ_ H'=>Q .non H',rt:=Q } (start N vs) H)
  (hb:BA m qual st ps:=by trivial)
  (len: ∀vs H Q E,sp vs H Q E->vs.length=ps.length:=by trivial):GM (S9 P w) P w K mg base (k+1) C m ps sp:=by
 obtain⟨f,fd,hm,F⟩:=h;obtain⟨oc,od,kV,doc,pm,an,cdv,ct,osl,rfl,lk,hcd⟩:=id F.ex;erw[f,_,hm,F.binds hb,BW lk hcd S len λA outer s H vs Q E hr hs=>?_];obtain⟨t,h1,h2⟩:=hbody f cdv A outer s H vs Q E hr hs;erw[t,yo h1,h2]
theorem GM.x (F:GM S1 P w K mg base k C m ps sp):GM (S9 P w) P w K mg base k C m ps sp:=by
 obtain⟨f,fd,a,b,d⟩:=F;erw[f,fd,a,b,d.Jw]
theorem GM.mono {CX:SV}{j:u6}(F:GM CX P w K mg base j C m ps sp) (h:j<=k):GM CX P w K mg base k C m ps sp:=by
 obtain⟨f,fd,a,b,d⟩:=F;erw[f,fd,a,b,d.mono h]
end
section
variable {X:Cx}{k:u6}{C:qA}{m:va}{ps:qx va}{sp:Sp}{p pos apos:Pos}{o e:tW}{es:qx tW}{ta:TE}{t:TA}
variable{pl:Sem yW}
theorem yf(G:GM S1 X.prog X.w X.K X.mg X.base k C m ps sp) (he:PE X o ta) (ha:PA X (e::es) t) (hr:b7 k X.A:=by show hr.mm) (c:SR X.K C:=by show T.aV.cl)
  (hst:SE X e es:=by rfl) (hpl:BK X pos es:=by rfl)
  (ht:eval (.Call (.Attribute o m apos) (e::es) [] pos) X.env=(do
   let ov <-eval o X.env
   standAt apos.atName
   let (f,first) <-holding [ov] (DA ov m pl)
   FA pos f first (zV pos (zb (e::es) X.env)) (CU pos (AR [] X.env))):=by rfl) :
  PE X (.Call (.Attribute o m apos) (e::es) [] pos) (wV C m sp [] E0 ta t):=by
 obtain⟨f,fd,hm,hb,F⟩:=G;show Iz he c hm F hr hb .nil wQ ha hst hpl ht
theorem lY(G:GM S1 X.prog X.w X.K X.mg X.base k C m ps sp) (he:PE X o ta) (hr:b7 k X.A:=by show hr.mm) (c:SR X.K C:=by show T.aV.cl)
  (ht:eval (.Call (.Attribute o m apos) [] [] pos) X.env=(do
   let ov <-eval o X.env
   standAt apos.atName
   let (f,first) <-holding [ov] (DA ov m pl)
   FA pos f first (zV pos (zb [] X.env)) (CU pos (AR [] X.env))):=by rfl) :
  PE X (.Call (.Attribute o m apos) [] [] pos) (wV C m sp [] E0 ta mi):=by
 obtain⟨f,fd,hm,hb,F⟩:=G;show F9 he c hm F hr hb .nil wQ ht
end
section
variable {X:Cx}{pn:nE}{E:St->XK}{k:u6}{C:qA}{m:va}{ps:qx va}{sp:Sp}{p pos apos:Pos}{o e:tW}{es:qx tW}{ta:TE}{t:TA}
inductive Hq (C:qA) (m:va) (x:V) (H1:Hp) (k:Prop):Prop | mk (a dx fs:_) (e0:x= .ref a) (e1:H1 a=some (.ins C dx fs)) (e2:fs.lookup m=none) (q:k)
def EF (C:qA) (m:va) (sp:Sp) (E:St->XK) (ta:TE) (t:TA):TE:=λO H Q=>ta O H λx H1=>Hq C m x H1 (t O H1 λvs H2=>sp (x::(vs++[])) H2 Q (E O))
variable{pl:Sem yW}
theorem cG(G:GM (S9 X.prog X.w) X.prog X.w X.K X.mg X.base k C m ps sp) (he:PE (X.exc pn E) o ta) (ha:PA (X.exc pn E) (e::es) t) (hr:b7 k X.A:=by show hr.mm) (c:SR X.K C:=by show T.aV.cl)
  (hst:SE X e es:=by rfl) (hpl:BK X pos es:=by rfl)
  (ht:eval (.Call (.Attribute o m apos) (e::es) [] pos) X.env=(do
   let ov <-eval o X.env
   standAt apos.atName
   let (f,first) <-holding [ov] (DA ov m pl)
   FA pos f first (zV pos (zb (e::es) X.env)) (CU pos (AR [] X.env))):=by rfl) :
  PE (X.exc pn E) (.Call (.Attribute o m apos) (e::es) [] pos) (EF C m sp E ta t):=by
 obtain⟨f,fd,hm,hb,F⟩:=G;intro R1 s O H Q I h;show P7 (pl:=pl) (Sf (he R1 s O H _ I h) λu s1 hm=>?_) ht;obtain⟨x,H1,I1,rx,a,dx,fs,ex,ea,l,q⟩:=hm;subst ex;obtain rfl:u=ye a:=rx;show jf I1 ea c hm l ?_;show QM (first:=[.ref a]) (h₀:=X.base) I.ok.mod.kin hm.kp (Sf (ha pos R1 s1 O H1 _ I1 q) λus s2 ⟨vs,H2,I2,r,q2⟩=>⟨I2.SQ,?_⟩) hst hpl;show uM (us:= .ref a::us) (vs:= .ref a::vs) F hr hb I2 (.cons rfl r) q2
theorem bc(G:GM (S9 X.prog X.w) X.prog X.w X.K X.mg X.base k C m ps sp) (he:PE (X.exc pn E) o ta) (hr:b7 k X.A:=by show hr.mm) (c:SR X.K C:=by show T.aV.cl)
  (ht:eval (.Call (.Attribute o m apos) [] [] pos) X.env=(do
   let ov <-eval o X.env
   standAt apos.atName
   let (f,first) <-holding [ov] (DA ov m pl)
   FA pos f first (zV pos (zb [] X.env)) (CU pos (AR [] X.env))):=by rfl) :
  PE (X.exc pn E) (.Call (.Attribute o m apos) [] [] pos) (EF C m sp E ta mi):=by
 obtain⟨f,fd,hm,hb,F⟩:=G;intro R1 s O H Q I h;show P7 (pl:=pl) (Sf (he R1 s O H _ I h) λu s1 hm=>?_) ht;obtain⟨x,H1,I1,rx,a,dx,fs,ex,ea,l,q⟩:=hm;subst ex;obtain rfl:u=ye a:=rx;show jf I1 ea c hm l ?_;show Rx (first:=[.ref a]) I1.SQ hm.kp<|uM (us:=[.ref a]) (vs:=[.ref a]) F hr hb I1 (.cons rfl .nil) q
end
def GI (P:tq) (w:sW) (K:R7) (mg:oR) (base:yk) (k:u6) (C:qA) (x:va) (ps:qx va) (sp:Sp):Prop :=
 mg x=some (.ref C)/\ ∃f fd,Mk K C f/\Binds K fd ps []/\eP P w K mg base S1 k f fd ps sp
theorem LY {P:tq}{w:sW}{K:R7}{mg:oR}{base:yk}{k:u6}{C:qA}{x:va}{ps:qx va}{sp:Sp}(hx:mg x=some (.ref C)) (hmk:EH K C=true) (hk:zE K (.ref C)=true) (G:GM S1 P w K mg base k C "__init__" ps sp):GI P w K mg base k C x ps sp:=by
 obtain⟨f,fd,hm,hb,F⟩:=G;erw[hx,f,fd,⟨hmk,hm.at_,hm.fn,hk⟩,hb,F]
section
variable {X:Cx}{k:u6}{C:qA}{x:va}{ps:qx va}{sp:Sp}{p pos:Pos}{e:tW}{es:qx tW}{t:TA}
theorem CV (G:GI X.prog X.w X.K X.mg X.base k C x ps sp) (hr:b7 (k+1) X.A:=by show hr.mm) (hg:Gl X x:=by rfl) (hdb:DB x:=by decide):PE X (.Call (.Name x p) [] [] pos) (Ha C sp [] E0 mi):=by
 obtain⟨hx,f,fd,M,hb,F⟩:=G;show Gv M F hr hg hx hb .nil wQ hdb
end
structure TC (K:R7) (mg:oR) (C:qA) (x:va):Prop where
 cl:SR K C
 mg:mg x=some (.ref C)
 mks:EH K C=true
 kp:zE K (.ref C)=true
variable{f:va}{v:V}{r:qx (va×V)}
theorem bx {g:va}(h:(f == g)=false):BZ f ((g,v)::r)=BZ f r:=by
 rw[Pd,h]
theorem bB:BZ f ((f,v)::r)=some v:=by
 rw[Pd,show (f == f)=true from by simp]
theorem kM {g:va}{x:V}(h:(f == g)=false):fY f v ((g,x)::r)=(g,x)::fY f v r:=by
 have: ¬g=f:=λe=>by rw[e] at h; simp at h
 change (if g=f then _ else _)=_;rw[NS this]
theorem jH {x:V}:fY f v ((f,x)::r)=(f,v)::r:=by
 change (if f=f then _ else _)=_;rw[NW rfl]
def je (z:va) (lo hi:rW u7):qx u6:=(z.cps.toList.drop (HT.Sr z.length 0 lo)).take (HT.Sr z.length z.length hi - HT.Sr z.length 0 lo)
theorem Ie (lo:rW u7) (n:u6):(match lo with | none=>(0:u7) | some i=>let i:=if i < 0 then i+(n:u7) else i; if (1:u7) > 0 then max 0 (min i (n:u7)) else max (-1) (min i ((n:u7) - 1)))=((HT.Sr n 0 lo:u6):u7):=by
 cases lo with
 | none=>rfl
 | some i =>
  simp only[HT.Sr,show (1:u7) > 0 by decide,if_true];by_cases h:i < 0;.simp only[h,if_true] <;> lia
  .simp only[h,if_false] <;> lia
theorem II (hi:rW u7) (n:u6):(match hi with | none=>(n:u7) | some i=>let i:=if i < 0 then i+(n:u7) else i; if (1:u7) > 0 then max 0 (min i (n:u7)) else max (-1) (min i ((n:u7) - 1)))=((HT.Sr n n hi:u6):u7):=by
 cases hi with
 | none=>rfl
 | some i =>
  simp only[HT.Sr,show (1:u7) > 0 by decide,if_true];by_cases h:i < 0;.simp only[h,if_true] <;> lia
  .simp only[h,if_false] <;> lia
theorem yn (lo hi:rW u7) (n:u6):Va lo hi 1 n=(wx (HT.Sr n n hi - HT.Sr n 0 lo)).map (HT.Sr n 0 lo+ ·):=by
 unfold Va;simp only[];rw[<-sliceRange_one,<-Ie lo n,<-II hi n];rfl
inductive LM (x:V) (lo hi:rW u7) (H:Hp) (Q:VK):Prop | mk (z:_) (e0:x= .str z) (e1:z.length<=sizeLine) (q: ∀r:va,r.cps.toList=je z lo hi->Q (.str r) H)
def M8:V->rW u7->rW u7->Hp->VK->Prop:=λx lo hi H Q=>LM x lo hi H Q
theorem part_of {v:qT}{o:rW u7}(h:IsPart v o): ∃p,v=partValue p/\p.map (·.1)=o:=by
 cases h with
 | none=>exact⟨none,Z,Z⟩
 | int i t=>exact⟨some (i,t),Z,Z⟩
theorem EE:Uc X M8:=by
 intro R1 s O H x v vl vu lo hi sl Q I rx hs pl pu h;obtain⟨z,rfl,hz,q⟩:=h;obtain⟨t,rfl⟩:=rx;erw["str",_,F.slot_str_getitem.lookup,Rr _ _ _,?_];obtain⟨p1,rfl,e1⟩:=part_of pl;obtain⟨p2,rfl,e2⟩:=part_of pu;obtain⟨o,ho,hc,hd⟩:=hs;show wpAny_getItem_str_slice (l:=p1) (u:=p2) (st:=none) ⟨o,ho,hc,hd⟩ rfl ?_;have ep:Gw z p1 p2 none=(wx<|HT.Sr z.length z.length hi - HT.Sr z.length 0 lo).map (HT.Sr z.length 0 lo+ ·):=by
  unfold Gw;rw[e1,e2];show yn lo hi z.length
 have er:(Gw z p1 p2 none).filterMap (z.cps[·]?)=je z lo hi:=by
  rw[ep,pick_run];rfl
 unfold sliceMade;split
 .rename_i c;erw[.str z,H,I,⟨t,Z⟩,q z ?_];have c2:(Gw z p1 p2 none).length=z.length:=by
   have:=(Oz _ _▸c).2;show beq_iff_eq.mp this
  rw[ep,NR,O7] at c2;have h1:HT.Sr z.length z.length hi<=z.length:=HT.DT _ _ (N0 _) _;have h2:HT.Sr z.length 0 lo<=z.length:=HT.DT _ _ (ON _) _;unfold je;by_cases hz0:z.length=0
  .have:z.cps.toList=[]:=Pk (by simpa [zO] using hz0);rw[this];simp
  .have a0:HT.Sr z.length 0 lo=0:=Y;rw[a0,WG,Xj,OP (by rw[show z.cps.toList.length=z.length from by simp[zO]]; lia)]
 .exists ?_,.str ⟨((Gw z p1 p2 none).filterMap (z.cps[·]?)).toArray⟩,H,I.tok _,⟨_,Z⟩,q _ ?_
  .rw[er];have:(je z lo hi).length<=z.length:=by
    unfold je;rw[Oi,OY];have:z.cps.toList.length=z.length:=(by simp[zO]);lia
   change (je z lo hi).toArray.size<=sizeLine;rw[Og];lia
  .change ((Gw z p1 p2 none).filterMap (z.cps[·]?)).toArray.toList=je z lo hi;rw[List.toList_toArray];show er
inductive J7 (x y:V) (H:Hp) (Q:VK):Prop | mk (z:va) (n:u7) (e0:x= .str z) (e1:y= .int n) (e2:0<=n) (e3:n<=1000) (e4:z.length<=1000) (q: ∀r:va,r.cps.toList=(wo n.toNat z.cps.toList).flatten->Q (.str r) H)
def LD:R2:=λx y H Q=>J7 x y H Q
theorem zX (c:zR u6): ∀n:u6,((wo n c).foldl (· ++ ·) #[]).toList=(wo n c.toList).flatten:=by
 have: ∀(n:u6) (b:zR u6),((wo n c).foldl (· ++ ·) b).toList=b.toList++(wo n c.toList).flatten:=λn=>by
  induction n with
  | zero=>intro b; simp
  | succ n ih =>
   intro b;rw[Pc,Wv,ih,Pc,Pr,VW,Pf]
 intro n;rw[this];rfl
theorem uY:So X (CN .Mult) LD:=by
 intro R1 s O H x y v u Q I rx ry h;obtain⟨z,n,rfl,rfl,n0,n1,hz,q⟩:=h;obtain⟨t,rfl⟩:=rx;obtain⟨t',rfl⟩:=ry;have big:z.length*n.toNat<=1000000:=Ob (Nat.mul_le_mul hz<|show n.toNat<=1000 by lia) aS;have b2:z.length*n.toNat<=sizeLine:=Ob big aS;show P.mul_str (by simp; lia) (λh1 h2=>?_) (λh1 h2=>?_) ?_
 .have h3:(1000:u7)<=(2 ^ 63 - 1) / n:=Int.le_ediv_of_mul_le Y Y;lia
 .change decide (z.length*n.toNat > sizeLine)=false;show N8 Y
 .by_cases c:n < 1
  .rw[NW c];erw[aS,.str Vu,H,I.tok _,⟨_,Z⟩,q _ ?_];rw[show n.toNat=0 by lia];rfl
  .rw[NS c];split
   .rename_i d;erw[.str z,H,I,⟨t,Z⟩,q z ?_];rcases WC _ _▸d with d | d
    .have:n=1:=beq_iff_eq.mp d;rw[this];simp
    .have e:z.cps.toList=[]:=Pk (by simpa [zO] using d);rw[e];simp
   .exists ?_,.str ⟨(wo n.toNat z.cps).foldl (· ++ ·) #[]⟩,H,I.tok _,⟨_,Z⟩,q _<|zX _ _;change ((wo n.toNat z.cps).foldl (· ++ ·) #[]).size<=sizeLine;rw[<-Ru,zX];simp;have:z.cps.size=z.length:=rfl;rw[this,Xh];show b2
inductive Gy (x:V) (vs:qx V) (H:Hp) (Q:VK):Prop | mk (l:qA) (xs:qx va) (y:va) (j:u6) (e0:x= .ref l) (e1:vs=[.str y]) (e2:H l=some (.lst (xs.map V.str))) (e3:xs[j]?=some y) (e4:(∀m,m < j->xs[m]?≠some y)) (q:Q .non (upd H l (.lst ((xs.eraseIdx j).map V.str))))
def HS:V->qx V->Hp->VK->Prop:=λx vs H Q=>Gy x vs H Q
theorem sH: ∀ {xs:qx V}{us:qx qT}(j:u6),Vals xs us->Vals (xs.eraseIdx j) (us.eraseIdx j)
 | _,_,_,.nil=> .nil
 | _,_,0,.cons _ t=>t
 | _,_,j+1,.cons r t=> .cons r (sH j t)
theorem vo {α β:Type}(f:α->β): ∀(l:qx α) (j:u6),(l.map f).eraseIdx j=(l.eraseIdx j).map f
 | [],_=>rfl
 | _::_,0=>rfl
 | a::l,j+1=>by
  change f a::(l.map f).eraseIdx j=f a::(l.eraseIdx j).map f;rw[vo f l j]
theorem Du:TB X "list.remove" HS:=by
 intro R1 s O H x vs v us Q I rx rv h;obtain⟨l,xs,y,j,rfl,rfl,hH,hj,hno,q⟩:=h;cases rx;obtain⟨u,rfl,t,rfl⟩:=rv.one;obtain⟨z,its,n,r,hl,e⟩:=I.lH hH;have hlen:its.length=xs.length:=by rw[<-hl,NR]
 have val: ∀m (hm:m < its.toArray.size),∃k t,xs[m]?=some k/\its.toArray[m]=HG k t:=λm hm=>by
  have hm':m < xs.length:=by simpa [hlen] using hm
  obtain⟨u,hu,t,rfl⟩:=r.get (i:=m) (x:= .str xs[m]) (by rw[N7,NV hm']; rfl);erw[xs[m],t,NV hm',?_];have:=(NX.mp hu).2;simpa using this
 have hjl:j < xs.length:=(NX.mp hj).1
 let eq:qT->yW:=λw=>match w with | .str k _=>k == y | _=>false
 have he: ∀w,w∈its.toArray->Vp w (.str y t) (eq w):=λw hw=>by
  obtain⟨m,hm,rfl⟩:=Q9.mp hw;obtain⟨k,t',_,e2⟩:=val m hm;rw[e2];show λprog w A E s Q h=>RE k t' y t prog w E Q h
 have hjs:j < its.toArray.size:=by rw[Og,hlen]; show hjl
 show PF F.slot_list_remove ⟨_,e,Z⟩ F.entry_list_remove (F.args_list_remove_2 _ _) (MeetsSeq.list_remove l its.toArray n (.str y t) eq he j hjs ?_ ?_ ?_) ⟨e,?_⟩
 .obtain⟨k,t',e1,e2⟩:=val j hjs;rw[e2];rw[hj] at e1;cases e1;simp[eq]
 .intro m hm hmj;obtain⟨k,t',e1,e2⟩:=val m hm;rw[e2];have:k≠y:=λz=>hno m hmj<|z▸e1;simpa [eq] using this
 .rw[Og];lia
 .have ee:its.toArray.eraseIdxIfInBounds j=(its.eraseIdx j).toArray:=by
   unfold Array.eraseIdxIfInBounds;rw[dif_pos hjs];simp
  erw[.non,_,I.xH (its':=its.eraseIdx j) hH e ?_ (by rw[<-vo]; show sH j r) ?_,Z,q];.exact ee
  .rw[NR];rw[NR] at z;show Ob (List.length_eraseIdx_le _ _) z
theorem bS (a b:va):(a++b).cps.toList=a.cps.toList++b.cps.toList:=by
 change (a.cps++b.cps).toList=_;rw[VW]
theorem yv: ∀ys:qx va,(Bd (xT "") ys).cps.toList=(ys.map λy=>y.cps.toList).flatten
 | []=>rfl
 | [y]=>by
  change y.cps.toList=_;simp
 | y::z::r=>by
  change ((y++xT "")++Bd (xT "") (z::r)).cps.toList=_;rw[bS,bS,yv (z::r)];change y.cps.toList++[]++_=y.cps.toList++_;rw[PN]
theorem xP (ys:qx va):(yL (xT "") ys).cps.toList=(ys.map λy=>y.cps.toList).flatten:=by
 change (Vi (xT "") ys).cps.toList=_;rw[PM,yv]
def small (c:u6):Prop:=97<=c/\c<=122
def T1 (cs:qx u6):Prop:=1<=cs.length/\cs.length<=8/\ ∀c∈cs,small c
def Nm (y:va):Prop:=T1 y.cps.toList
theorem Nm.len {y:va}(h:Nm y):y.length<=8:=by
 have:y.cps.toList.length=y.length:=by simp[zO]
 have:=h.2.1;lia
def nK:va:= "abcdefghijklmnopqrstuvwxyz"
theorem Ae:nK.cps.toList.length=26:=by trivial
theorem C0: ∀c∈nK.cps.toList,small c:=by
 unfold small;decide +kernel
theorem ER {α:Type}{xs:qx α}{i:u7}(h0:0<=i) (h1:i < xs.length): ∃x,Si xs i=some x/\x∈xs:=by
 have hn:i.toNat < xs.length:=Y;erw[xs[i.toNat],?_,Pm hn];have e:i=((i.toNat:u6):u7):=Y;have h:=aU (xs:=xs) (j:=i.toNat) (v:=xs[i.toNat]) uD
 rwa [<-e] at h
theorem CL (m:u7): ∃c,Si nK.cps.toList (m % 26)=some c/\small c:=by
 obtain⟨c,h1,h2⟩:=ER (xs:=nK.cps.toList) (i:=m % 26) Y (by rw[Ae]; lia);erw[c,h1,C0 c h2]
theorem AL (n:u6) (d:u6) (k:u7) (h:0<=k):HT.Sr n d (some k)=min k.toNat n:=by
 unfold HT.Sr;simp only[];rw[NS Y]
end L2
namespace MA
variable {n:u6}{rs:qx ao}{L:qx u7}
structure SF (n:u6) (rs:qx ao) (L:qx u7):Prop where
 k: ∀r∈rs,Sh n r
 met:Met rs (g L)
 nn: ∀i:u7,0<=i->i < n->0<=g L i
 len:L.length=n
theorem Sw.SN (w:SF n rs L){k:u7}{ps:qx u6}(h:Sw rs k ps):0<=k/\k < n:=by
 cases h with
 | one hi=>have:=w.k _ (NU hi); erw[this.1,this.2.1]
 | snoc _ hi _=>have:=w.k _ (NU hi); erw[this.1,this.2.1]
theorem iB {i:u6}{q:ao}(h:rs[i]?=some q):dt rs [i]=q.2.2:=by
 have:=gJ (ps:=[]) h;simpa [dt] using this
theorem Sw.le (w:SF n rs L){k:u7}{ps:qx u6}(h:Sw rs k ps):dt rs ps<=g L k:=by
 induction h with
 | @one i q hi =>
  have m:=NU hi;obtain⟨a1,a2,a3,a4,a5⟩:=w.k _ m;have:=w.met _ m;unfold ask at this;rw[iB hi];split at this;.exact this
  .have:=w.nn q.2.1 Y a4;lia
 | @snoc k ps i q hp hi hb ih =>
  have m:=NU hi;have:=w.met _ m;have hr:=hp.SN w;unfold ask at this;rw[NS Y,hb] at this;rw[gJ hi];lia
theorem Ci (w:SF n rs L){k:u7}{ps:qx u6}{i:u6}{q:ao}(hp:Sw rs k ps) (hi:rs[i]?=some q) (hb:q.2.1=k) (e:dt rs (ps++[i])=g L q.1):dt rs ps=g L k/\g L q.1=g L k+q.2.2:=by
 have m:=NU hi;have:=w.met _ m;have hr:=hp.SN w;have:=hp.le w;unfold ask at *;rw[NS Y,hb] at *;rw[gJ hi] at e;lia
theorem qt {i:u6}{q:ao}(h:rs[i]?=some q):Sm rs [i]=[q.1]:=by
 have:=gI (ps:=[]) h;simpa [Sm] using this
theorem Sw.xi (w:SF n rs L){k:u7}{ps:qx u6}(h:Sw rs k ps): ∀x∈Sm rs ps,0<=x/\x < n:=by
 induction h with
 | @one i q hi =>
  intro x hx;rw[qt hi,NZ] at hx;rw[hx];have:=w.k _<|NU hi;erw[this.1,this.2.1]
 | @snoc k ps i q hp hi hb ih =>
  intro x hx;rw[gI hi] at hx;rcases Oe.mp hx with hx | hx
  .exact ih x hx
  .rw[NZ] at hx;rw[hx];have:=w.k _<|NU hi;erw[this.1,this.2.1]
theorem Sw.cut (w:SF n rs L){k:u7}{ps:qx u6}(h:Sw rs k ps):dt rs ps=g L k->(Sm rs ps).Nodup-> ∀x∈Sm rs ps,∃qs,Sw rs x qs/\dt rs qs=g L x/\qs.length<=ps.length/\(Sm rs qs).Nodup:=by
 induction h with
 | @one i q hi =>
  intro e nd x hx;rw[qt hi,NZ] at hx;rw[hx];erw[[i],.one hi,e,N0 _,nd]
 | @snoc k ps i q hp hi hb ih =>
  intro e nd x hx;obtain⟨e1,_⟩:=Ci w hp hi hb e;have hx':=hx;rw[gI hi] at hx';rcases Oe.mp hx' with hx' | hx'
  .have nd':(Sm rs ps).Nodup:=by rw[gI hi] at nd; show (Qt.mp nd).1
   obtain⟨qs,a,b,c,d⟩:=ih e1 nd' x hx';erw[qs,a,b,by rw[N1]; lia,d]
  .rw[NZ] at hx';rw[hx'];erw[ps++[i],.snoc hp hi hb,e,N0 _,nd]
theorem Sw.short (w:SF n rs L){k:u7}{ps:qx u6}(h:Sw rs k ps):dt rs ps=g L k-> ∃qs,Sw rs k qs/\dt rs qs=g L k/\qs.length<=ps.length/\(Sm rs qs).Nodup:=by
 induction h with
 | @one i q hi=>show λe=>⟨[i],.one hi,e,N0 _,by rw[qt hi]; simp⟩
 | @snoc k ps i q hp hi hb ih =>
  intro e;obtain⟨e1,e2⟩:=Ci w hp hi hb e;obtain⟨qs,a,b,c,d⟩:=ih e1;by_cases hm:q.1∈Sm rs qs
  .obtain⟨us,a2,b2,c2,d2⟩:=a.cut w b d _ hm;erw[us,a2,b2,by rw[N1]; lia,d2]
  .show⟨qs++[i],.snoc a hi hb,by rw[gJ hi]; lia,by rw[N1,N1]; lia,?_⟩;rw[gI hi,Qt];erw[d,uD,λx hx y hy z=>by rw[NZ] at hy; rw[hy] at z; rw[z] at hx; show hm hx]
theorem xr: ∀(n:u6) (xs:qx u7),xs.Nodup->(∀x∈xs,0<=x/\x < n)->xs.length<=n
 | 0,[],_,_=>N0 _
 | 0,x::xs,_,h=>by have:=h x N6; lia
 | n+1,xs,nd,h=>by
  have a:=xr n (xs.erase (n:u7)) (nd.erase _) λx hx=>by
   have h1:=h x<|List.mem_of_mem_erase hx;have h2:x≠n:=λz=>by
    rw[z] at hx;show (nd.mem_erase_iff.mp hx).1 rfl
   lia
  have b:xs.length - 1<=(xs.erase (n:u7)).length:=by
   rw[List.length_erase];split <;> lia
  lia
theorem SX (w:SF n rs L){k:u7}{ps:qx u6}(h:Sw rs k ps) (e:dt rs ps=g L k) (m: ∀qs,Sw rs k qs->dt rs qs=g L k->ps.length<=qs.length):ps.length<=n:=by
 obtain⟨qs,a,b,_,d⟩:=h.short w e;have h1:=xr n _ d<|a.xi w;have h2:=m qs a b;have h3:(Sm rs qs).length=qs.length:=pX;lia
def mn (i j:u7):u7:=if j < i then j else i
def Tu (L:qx u7) (st:qx u7) (q:ao):qx u7 :=
 if q.2.1 < 0 then (if g L q.1=q.2.2 then put st q.1 (mn (g st q.1) 1) else st)
 else if g L q.1=g L q.2.1+q.2.2 then put st q.1 (mn (g st q.1) (g st q.2.1+1)) else st
structure Tv (n:u6) (rs:qx ao) (L:qx u7) (st:qx u7):Prop where
 len:st.length=n
 lo: ∀m:u7,0<=m->m < n->0<=g st m
 hi: ∀m:u7,0<=m->m < n->g st m<=99
 z: ∀m:u7,0<=m->m < n->g L m=0->g st m=0
 ch: ∀m:u7,0<=m->m < n->g st m < 99->g L m=0\/ ∃ps,Sw rs m ps/\dt rs ps=g L m/\(ps.length:u7)=g st m
theorem Tv.put (c:Tv n rs L st){m v:u7}(h0:0<=m) (h1:m < n) (v0:0<=v) (hv:v < g st m-> ∃ps,Sw rs m ps/\dt rs ps=g L m/\(ps.length:u7)=v):Tv n rs L (put st m (mn (g st m) v)):=by
 have gp: ∀j:u7,0<=j->g (MA.put st m<|mn (g st m) v) j=if j=m then mn (g st m) v else g st j:=λj hj=>fJ h0 (by rw[c.len]; show h1) hj;have cl:=c.lo m h0 h1;have cu:=c.hi m h0 h1;erw[gC.trans c.len,λj j0 j1=>?_,λj j0 j1=>?_,λj j0 j1 e=>?_,λj j0 j1 e=>?_]
 .rw[gp j j0];split;.unfold mn; split <;> lia
  .exact c.lo j j0 j1
 .rw[gp j j0];split;.unfold mn; split <;> lia
  .exact c.hi j j0 j1
 .rw[gp j j0];split
  .rename_i ej;rw[ej] at e;have:=c.z m h0 h1 e;unfold mn; split <;> lia
  .exact c.z j j0 j1 e
 .rw[gp j j0] at e ⊢;split at e
  .rename_i ej;rw[ej,NW rfl];unfold mn at e ⊢;split;.rename_i l; show .inr (hv l)
   .rename_i l;rw[NS l] at e;show c.ch m h0 h1 e
  .rename_i ej;rw[NS ej];show c.ch j j0 j1 e
theorem Tv.Tu (w:SF n rs L) (c:Tv n rs L st){q:ao}{i:u6}(hi:rs[i]?=some q):Tv n rs L (Tu L st q):=by
 obtain⟨a1,a2,a3,a4,a5⟩:=w.k _<|NU hi;unfold MA.Tu;split
 .split
  .rename_i e;show c.put a1 a2 Y λ_=>⟨[i],.one hi,by rw[iB hi,e],Z⟩
  .exact c
 .split
  .rename_i hb e;have b0:0<=q.2.1:=Y;have l0:=c.lo q.2.1 b0 a4;have u0:=c.hi q.1 a1 a2;show c.put a1 a2 Y λhv=>?_;by_cases z:g L q.2.1=0
   .show⟨[i],.one hi,by rw[iB hi]; lia,?_⟩;rw[c.z _ b0 a4 z];rfl
   .rcases c.ch _ b0 a4 Y with z' | ⟨ps,p1,p2,p3⟩
    .exact wz z' z
    .show⟨ps++[i],.snoc p1 hi rfl,by rw[gJ hi]; lia,?_⟩;rw[N1];change ((ps.length+1:u6):u7)=_;lia
  .exact c
theorem Kq (c:Tv n rs L st){q:ao}(k:Sh n q):Le n (g (MA.Tu L st q)) (g st):=λj j0 j1=>by
 obtain⟨a1,a2,a3,a4,a5⟩:=k;unfold MA.Tu;have gp: ∀v,g (MA.put st q.1 v) j=if j=q.1 then v else g st j:=λv=>fJ a1 (by rw[c.len]; show a2) j0;split
 .split
  .rw[gp];split;.rename_i e; rw[e]; unfold mn; split <;> lia
   .lia
  .lia
 .split
  .rw[gp];split;.rename_i e; rw[e]; unfold mn; split <;> lia
   .lia
  .lia
theorem run (w:SF n rs L): ∀(us:qx ao) (st:qx u7),(∀q∈us,q∈rs)->Tv n rs L st->Tv n rs L (us.foldl (MA.Tu L) st)/\Le n (g (us.foldl (MA.Tu L) st)) (g st)
 | [],st,_,c=>⟨c,λ_ _ _=>Oo _⟩
 | q::us,st,h,c=>by
  obtain⟨i,hi,e⟩:=Ry<|h q N6;have hi':rs[i]?=some q:=by rw[NV hi,e]
  obtain⟨a,b⟩:=run w us (MA.Tu L st q) (λx hx=>h x<|N4 _ hx)<|c.Tu w hi';erw[a,λj j0 j1=>OJ (b j j0 j1)<|Kq c (w.k _<|NU hi') j j0 j1]
end MA
namespace L2
open PySem PySem.Spec PyProof.Rows
def Bm (xs ys:qx V):yW:=(wx (min xs.length ys.length)).all (λi=>Th (xs.getD i .non) (ys.getD i .non)) && xs.length == ys.length
inductive Nu (K:R7) (x y:V) (H:Hp) (Q:VK):Prop | mk (a b:qA) (xs ys:qx V) (e0:x= .ref a) (e1:y= .ref b) (e2:Se K H a xs) (e3:Se K H b ys) (e4:xs.all c6=true) (e5:ys.all c6=true) (q:Q (.bl (!Bm xs ys)) H)
inductive NA (K:R7) (x y:V) (H:Hp) (Q:VK):Prop | mk (a b:qA) (xs ys:qx V) (e0:x= .ref a) (e1:y= .ref b) (e2:Se K H a xs) (e3:Se K H b ys) (e4:xs.all c6=true) (e5:ys.all c6=true) (q:Q (.bl (Bm xs ys)) H)
end L2
namespace MA
variable {n:u6}{rs:qx ao}{L:qx u7}
def lh (n:u6) (rs:qx ao) (ws:qx u7):Prop:= ∀m:u7,0<=m->m < n->0<=g ws m/\(g ws m=0\/ ∃ps,Sw rs m ps/\dt rs ps=g ws m)
theorem pB (k: ∀r∈rs,Sh n r): ∀(qs:qx ao) (ws:qx u7),(∀q∈qs,q∈rs)->ws.length=n->lh n rs ws->lh n rs (bQ qs ws)
 | [],ws,_,_,h=>h
 | q::qs,ws,hq,hl,h=>by
  show pB k qs (dJ ws q) (λx hx=>hq x<|N4 _ hx) (ji.trans hl) λm m0 m1=>?_;have hm:=hq q N6;obtain⟨a1,a2,a3,a4,a5⟩:=k q hm;obtain⟨i,hi,ei⟩:=O2.mp hm;have hi':rs[i]?=some q:=by rw[NV hi,ei]
  unfold dJ;rw[fJ a1 (by rw[hl]; show a2) m0];split
  .rename_i e;rw[e];unfold mx;have h1:=h q.1 a1 a2;split
   .rename_i c;unfold ask at c ⊢;split
    .rename_i b;rw[NW b] at c;erw[a5,.inr ⟨[i],.one hi',iB hi'⟩]
    .rename_i b;rw[NS b] at c;obtain⟨z0,h2⟩:=h q.2.1 Y a4;erw[Y,?_];rcases h2 with z | ⟨ps,p1,p2⟩
     .exact .inr ⟨[i],.one hi',by rw[iB hi']; lia⟩
     .exact .inr ⟨ps++[i],.snoc p1 hi' rfl,by rw[gJ hi']; lia⟩
   .exact h1
  .exact h m m0 m1
theorem qH (k: ∀r∈rs,Sh n r): ∀(j:u6) (ws:qx u7),ws.length=n->lh n rs ws->loop rs j ws=some L->lh n rs L
 | 0,ws,_,_,e=>by unfold loop at e; cases e
 | j+1,ws,hl,h,e=>by
  unfold loop at e;split at e;.cases e; show h
  .exact qH k j (bQ rs ws) ((fV _ _).trans hl) (pB k rs ws (λ_ z=>z) hl h) e
theorem Dn (k: ∀r∈rs,Sh n r) (h:aZ n rs=some L):lh n rs L :=
 qH k (n+1) (wo n 0) (O4 ..) (λm _ _=>by rw[kZ]; exact⟨Oo _,.inl rfl⟩) h
theorem jU (k: ∀r∈rs,Sh n r) (h:aZ n rs=some L):SF n rs L:=by
 obtain⟨l1,l2,l3,_⟩:=bG k h;erw[k,l2,l3,l1]
def Tl (L:qx u7) (q:ao):Prop:=q.2.1≠ -1/\g L q.1=g L q.2.1+q.2.2
inductive Tp (rs:qx ao) (L:qx u7) (m:u7):u7->qx u6->Prop
 | nil:Tp rs L m m []
 | cons {i:u6}{q:ao}{ps:qx u6}:rs[i]?=some q->Tl L q->Tp rs L m q.1 ps->Tp rs L m q.2.1 (i::ps)
theorem Tp.snoc {k v:u7}{ps:qx u6}{i:u6}{q:ao}(h:Tp rs L k v ps) (hi:rs[i]?=some q) (t:Tl L q) (e:q.2.1=k):Tp rs L q.1 v (ps++[i]):=by
 induction h with
 | nil=>subst e; show .cons hi t .nil
 | cons h1 t1 _ ih=>show .cons h1 t1 ih
theorem Tp.nil_eq {m v:u7}(h:Tp rs L m v []):v=m:=by cases h; rfl
theorem xq (w:SF n rs L){m:u7}{qs:qx u6}(h:Sw rs m qs):dt rs qs=g L m-> ∃i q ps,qs=i::ps/\rs[i]?=some q/\q.2.2=g L q.1/\Tp rs L m q.1 ps:=by
 induction h with
 | @one i q hi=>intro e; rw[iB hi] at e; erw[i,q,[],Z,hi,e,.nil]
 | @snoc k ps i q hp hi hb ih =>
  intro e;obtain⟨e1,e2⟩:=Ci w hp hi hb e;obtain⟨i0,q0,ps0,rfl,a,b,c⟩:=ih e1;have:=hp.SN w;erw[i0,q0,ps0++[i],Z,a,b,c.snoc hi ⟨Y,by rw[hb]; show e2⟩ hb]
variable{ps:qx u6}
theorem Co {m v:u7}(h:Tp rs L m v ps): ∀pre,Sw rs v pre->dt rs pre=g L v->Sw rs m (pre++ps)/\dt rs (pre++ps)=g L m:=by
 induction h with
 | nil=>intro pre a b; rw[PN]; erw[a,b]
 | @cons i q ps hi t _ ih =>
  intro pre a b;have:=ih (pre++[i]) (.snoc a hi rfl) (by rw[gJ hi,b]; show t.2.symm);rw[Pf] at this;show this
theorem KP {m:u7}{i:u6}{q:ao}(hi:rs[i]?=some q) (e:q.2.2=g L q.1) (h:Tp rs L m q.1 ps):Sw rs m (i::ps)/\dt rs (i::ps)=g L m :=
 Co h [i] (.one hi) ((iB hi).trans e)
structure iu (rs:qx ao) (L:qx u7) (m:u7) (F:u7->rW u6):Prop where
 ex: ∀v d,F v=some d-> ∃ps,Tp rs L m v ps/\ps.length=d
 lo: ∀v ps,Tp rs L m v ps-> ∃d,F v=some d/\d<=ps.length
def Nx (rs:qx ao) (L:qx u7) (F:u7->rW u6) (v:u7) (i:u6):Prop :=
 ∃(q:ao) (d:u6),rs[i]?=some q/\q.2.1=v/\Tl L q/\F v=some (d+1)/\F q.1=some d/\ ∀(j:u6) (q':ao),j < i->rs[j]?=some q'->q'.2.1=v->Tl L q'->F q'.1≠some d
inductive Gr (rs:qx ao) (L:qx u7) (F:u7->rW u6) (m:u7):u7->qx u6->Prop
 | nil:Gr rs L F m m []
 | cons {v:u7}{i:u6}{q:ao}{ps:qx u6}:Nx rs L F v i->rs[i]?=some q->Gr rs L F m q.1 ps->Gr rs L F m v (i::ps)
variable {F:u7->rW u6}{m:u7}
theorem iu.zero (D:iu rs L m F):F m=some 0:=by
 obtain⟨d,e,l⟩:=D.lo m [] .nil;rw[e,Wk.mp l]
theorem Gr.len (D:iu rs L m F){v:u7}{ps:qx u6}(h:Gr rs L F m v ps):F v=some ps.length/\Tp rs L m v ps:=by
 induction h with
 | nil=>exact⟨D.zero,.nil⟩
 | @cons v i q ps nx hi _ ih =>
  obtain⟨q',d,a,b,c,e,f,_⟩:=nx;rw[hi] at a;cases a;rw[ih.1] at f;cases f;erw[e,?_];rw[<-b];show .cons hi c ih.2
def lO (one other:qx u6):Prop:= ∃k x y:u6,one[k]?=some x/\other[k]?=some y/\x < y/\ ∀j,j < k->one[j]?=other[j]?
theorem lO.tail {i:u6}{a b:qx u6}(h:lO (i::a) (i::b)):lO a b:=by
 obtain⟨k,x,y,h1,h2,h3,h4⟩:=h;cases k with
 | zero=>cases h1; cases h2; lia
 | succ k=>exact⟨k,x,y,h1,h2,h3,λj hj=>h4 (j+1) Y⟩
theorem Gr.first (D:iu rs L m F){v:u7}{ps:qx u6}(h:Gr rs L F m v ps): ∀qs,Tp rs L m v qs->qs.length=ps.length-> ¬lO qs ps:=by
 induction h with
 | nil=>rintro qs _ _ ⟨k,x,y,_,h2,_⟩; cases h2
 | @cons v i q ps nx hi hg ih =>
  intro qs ht hl he;obtain⟨q',d,a,b,c,e,f,mn⟩:=nx;rw[hi] at a;cases a;have gl:=hg.len D;rw[gl.1] at f;cases f;cases ht with
  | nil=>cases hl
  | @cons j q2 qs' hj t2 ht' =>
  have hl':qs'.length=ps.length:=Rm hl;obtain⟨d2,e2,l2⟩:=D.lo _ _ ht';have l3:ps.length<=d2:=by
   obtain⟨ps2,p1,p2⟩:=D.ex _ _ e2;obtain⟨d3,e3,l3⟩:=D.lo _ _<|Tp.cons hj t2 p1;rw[e] at e3;cases e3;rw[Oh] at l3;lia
  have ed:d2=ps.length:=Y;have hij: ¬j < i:=λz=>mn j q2 z hj rfl t2 (by rw[e2,ed]);by_cases eq:j=i
  .subst eq;rw[hj] at hi;cases hi;show ih qs' ht' hl' he.tail
  .obtain⟨k,x,y,h1,h2,h3,h4⟩:=he;cases k with
   | zero=>cases h1; cases h2; lia
   | succ k =>
    have:=h4 0<|QO _;cases this;show eq rfl
def cK (rs:qx ao) (L:qx u7) (m:u7) (ps:qx u6):Prop:=(g L m=0/\ps=[])\/(0 < g L m/\Sw rs m ps/\dt rs ps=g L m/\ ∀qs,Sw rs m qs->dt rs qs=g L m->ps.length<=qs.length/\(qs.length=ps.length-> ¬lO qs ps))
theorem cK.lt(h:cK rs L m ps): ∀i∈ps,i < rs.length:=by
 rcases h with⟨_,e⟩ | ⟨_,hc,_⟩
 .rw[e]; intro i hi; cases hi
 .exact hc.lt
theorem cK.SX(w:SF n rs L) (h:cK rs L m ps):ps.length<=n:=by
 rcases h with⟨_,e⟩ | ⟨_,hc,hs,hm⟩
 .rw[e]; show ON _
 .exact MA.SX w hc hs λqs a b=>(hm qs a b).1
def Uw (rs:qx ao) (L:qx u7) (F:u7->rW u6) (i:u6):Prop :=
 ∃(q:ao) (d:u6),rs[i]?=some q/\q.2.2=g L q.1/\F q.1=some d/\(∀(j:u6) (q':ao) (d':u6),rs[j]?=some q'->q'.2.2=g L q'.1->F q'.1=some d'->d<=d')/\ ∀(j:u6) (q':ao),j < i->rs[j]?=some q'->q'.2.2=g L q'.1->F q'.1≠some d
theorem rV (w:SF n rs L) (D:iu rs L m F) (hz:0 < g L m){i:u6}{q:ao}{ps:qx u6}(h:Uw rs L F i) (hi:rs[i]?=some q) (hg:Gr rs L F m q.1 ps):cK rs L m (i::ps):=by
 obtain⟨q',d,a,b,c,mn,fr⟩:=h;rw[hi] at a;cases a;obtain⟨g1,g2⟩:=hg.len D;rw[g1] at c;cases c;obtain⟨c1,c2⟩:=KP hi b g2;show .inr ⟨hz,c1,c2,λqs h1 h2=>?_⟩;obtain⟨j,q2,qs',rfl,a2,b2,t2⟩:=xq w h1 h2;obtain⟨d2,e2,l2⟩:=D.lo _ _ t2;have l3:=mn j q2 d2 a2 b2 e2;show⟨by rw[Oh,Oh]; lia,λhl he=>?_⟩;have hl':qs'.length=ps.length:=Rm hl;have ed:d2=ps.length:=Y;have hij: ¬j < i:=λz=>fr j q2 z a2 b2 (by rw[e2,ed]);by_cases eq:j=i
 .subst eq;rw[a2] at hi;cases hi;show hg.first D qs' t2 hl' he.tail
 .obtain⟨k,x,y,h1,h2,h3,h4⟩:=he;cases k with
  | zero=>cases h1; cases h2; lia
  | succ k =>
   have:=h4 0<|QO _;cases this;show eq rfl
theorem FX (w:SF n rs L) (D:iu rs L m F) (f:lh n rs L) (m0:0<=m) (m1:m < n) (hz:0 < g L m): ∃(i:u6) (q:ao) (d:u6),rs[i]?=some q/\q.2.2=g L q.1/\F q.1=some d:=by
 rcases (f m m0 m1).2 with z | ⟨ps,p1,p2⟩
 .lia
 .obtain⟨i,q,ps',rfl,a,b,t⟩:=xq w p1 p2;obtain⟨d,e,_⟩:=D.lo _ _ t;erw[i,q,d,a,b,e]
theorem Jh (D:iu rs L m F){v:u7}{d:u6}(e:F v=some d) (hv:v≠m): ∃(d' i:u6) (q:ao),d=d'+1/\rs[i]?=some q/\q.2.1=v/\Tl L q/\F q.1=some d':=by
 obtain⟨ps,p1,p2⟩:=D.ex _ _ e;cases p1 with
 | nil=>show wz rfl hv
 | @cons i q ps' hi t ht =>
  obtain⟨d2,e2,l2⟩:=D.lo _ _ ht;rw[Oh] at p2;erw[ps'.length,i,q,p2.symm,hi,Z,t,?_];obtain⟨ps2,r1,r2⟩:=D.ex _ _ e2;obtain⟨d3,e3,l3⟩:=D.lo _ _<|Tp.cons hi t r1;rw[e] at e3;cases e3;rw[Oh] at l3;rw[e2,show d2=ps'.length by lia]
end MA
namespace L2
open PySem PySem.Spec PyProof.Rows
variable{tt:TT}{te:TE}{own:qx va}{O:St}{H:Hp}{Q:VK}
theorem rE {J:It}{g:TG}{fr:qx u6}(n:u6) (Pv:u6->qx V->Hp->Prop) (h0:Pv 0 [] H) (hz:n < sizeLine) (hlen: ∀i ys H,Pv i ys H->ys.length<=i)
  (hgo: ∀i ys H,i < n->Pv i ys H->J.go i H) (hstop: ∀ys H,Pv n ys H->J.stop n H)
  (hs: ∀i ys H2 x H3,i < n->Pv i ys H2->J.yld i H2 x H3->g x (cW own fr O) H3 λO4 H4=>tt O4 H4 λb H5=>if b=true then te O4 H5 λy H6=>Pv (i+1) (ys++[y]) H6 else Pv (i+1) ys H5)
  (hq: ∀ys H2 p,Pv n ys H2->H2 p=none->Q (.ref p) (upd H2 p (.lst ys))):kI J g tt te own fr O H Q:=by
 erw[λi m ys H2=>i<=n/\m=n - i/\Pv i ys H2,⟨n,ON _,Z,h0⟩,?_];rintro i m ys H2 ⟨hi,rfl,hp⟩;by_cases hlt:i < n
 .show .inr ⟨hgo i ys H2 hlt hp,Pl (hlen i ys H2 hp) Y,λx H3 hy=>?_⟩;have e: ∀zs H6,(∃m',m' < n - i/\i+1<=n/\m'=n - (i+1)/\Pv (i+1) zs H6)=Pv (i+1) zs H6:=λzs H6=>propext ⟨λ⟨_,_,_,_,z⟩=>z,λz=>⟨n - (i+1),Y,hlt,Z,z⟩⟩;simp only[e];show hs i ys H2 x H3 hlt hp hy
 .have e:i=n:=Y;subst e;show .inl ⟨hstop ys H2 hp,OA<|Pl (hlen _ ys H2 hp) hz,λp np=>hq ys H2 p hp np⟩
inductive Lg (K:R7) (Q:yW->Hp->Prop) (x:V) (H':Hp):Prop | mk (k:_) (e0:Bp K x H' k) (q:Q k H')
def E4 (K:R7) (t:TE):TT:=λO H Q=>t O H λx H'=>Lg K Q x H'
theorem Cy {X:Cx}{a:tW}{ta:TE}(ha:PE X a ta) (he: ∀whole,isTrue a X.env whole=(do let v <-whole; standAt a.pos; holding [v] (truthy v))):PT X a (E4 X.K ta):=by
 have e:E4 X.K ta=λO H Q=>ta O H λx H'=> ∃k,Bp X.K x H' k/\Q k H':=by
  funext O H Q;show OI (ta O H) (funext λx=>funext λH'=>propext ⟨λ⟨k,a,b⟩=>⟨k,a,b⟩,λ⟨k,a,b⟩=>⟨k,a,b⟩⟩)
 rw[e];show FY ha he
variable{K:R7}{a:qA}
theorem vT {xs:qx V}{g:TG}{fr:qx u6}(Pv:u6->qx V->Hp->Prop) (hJ: ∀i ys H,Pv i ys H->R5 K H a xs) (h0:Pv 0 [] H) (hz:xs.length < sizeLine) (hlen: ∀i ys H,Pv i ys H->ys.length<=i)
  (hs: ∀i ys H2 x t,xs[i]?=some x->Pv i ys H2->H2 t=none->g (.ref t) (cW own fr O) (upd H2 t (.tup [.int (i:u6),x])) λO4 H4=>tt O4 H4 λb H5=>if b=true then te O4 H5 λy H6=>Pv (i+1) (ys++[y]) H6 else Pv (i+1) ys H5)
  (hq: ∀ys H2 p,Pv xs.length ys H2->H2 p=none->Q (.ref p) (upd H2 p (.lst ys))):kI (Tq K a) g tt te own fr O H Q:=by
 show rE xs.length Pv h0 hz hlen (λi ys H hi hp=>⟨xs,xs[i],hJ i ys H hp,NV hi⟩) (λys H hp=>⟨xs,hJ _ ys H hp,N0 _⟩) (λi ys H2 x H3 hi hp hy=>?_) hq;obtain⟨t,x,rfl,nt,rfl,hx⟩:=hy;show hs i ys H2 x t (hx xs<|hJ i ys H2 hp) hp nt
theorem cH {J:It}{xs:qx V}{g:TG}{fr:qx u6}(Pv:u6->qx V->Hp->Prop) (hJ: ∀i ys H,i<=xs.length->Pv i ys H->JL J H xs) (h0:Pv 0 [] H) (hz:xs.length < sizeLine) (hlen: ∀i ys H,Pv i ys H->ys.length<=i)
  (hs: ∀i ys H2 x,xs[i]?=some x->Pv i ys H2->g x (cW own fr O) H2 λO4 H4=>tt O4 H4 λb H5=>if b=true then te O4 H5 λy H6=>Pv (i+1) (ys++[y]) H6 else Pv (i+1) ys H5)
  (hq: ∀ys H2 p,Pv xs.length ys H2->H2 p=none->Q (.ref p) (upd H2 p (.lst ys))):kI J g tt te own fr O H Q:=by
 show rE xs.length Pv h0 hz hlen (λi ys H hi hp=>(hJ i ys H (OA hi) hp).go i hi) (λys H hp=>(hJ _ ys H (N0 _) hp).stop _<|N0 _) (λi ys H2 x H3 hi hp hy=>?_) hq;obtain⟨rfl,hx⟩:=(hJ i ys H2 (OA hi) hp).yld i x H3 hi hy;show hs i ys H3 x hx hp
section
variable {X:Cx}{R1:nE}{O:St}{H:Hp}{s:rK}{h':yk}
theorem Inv.p8 {t':u6}{ch:qx qA}(I:Inv X R1 O H s) (k: ∀c o,c∉ch->s.heap.get? c=some o->h'.get? c=some o) (fa: ∀a∈ch,cN X R1 H a):Inv X R1 O H { s with heap:=h',toks:=t' }:=by
 have na: ∀c u,H c=some u->c∉ch:=λc u e z=>by rw[(fa c z).1] at e; cases e
 show I.step (g':=s.gens) (d':=s.drawn) (ch:=ch) (λc hc=>?_) (λc o _ _ hc e _=>k c o hc e) (λc o _ _ hc e _=>⟨o.slots,k c o hc e⟩) (λ_ _ _ _ n=>n)
  (λc o hc e=>⟨o,k c o hc e⟩) (λ_ _ e=>e) (λ_ _ _ e=>e) (λc ps e=>⟨#[],by rw[e]; simp⟩) (λm hm=>?_) (λc u e=>?_) I.bare
 .nomatch (fa c hc).2.2.2.1,(fa c hc).2.1,(fa c hc).2.2.2.2.1,(fa c hc).2.2.2.2.2
 .obtain⟨o,es,ep,ho,r⟩:=hm;erw[o,es,ep,k _ o (λz=>(fa _ z).2.1 rfl) ho,r]
 .show (I.hok c u e).mj (λd v hd q=>k d v ?_ q) (λ_ q=>q) λ_ _ q=>q;rcases hd with z | z
  .rw[z]; show na c u e
  .exact na d _ z
end
def Uj (K:R7) (a b:qA):It :=
 ⟨λi H=> ∃xs ys x y,R5 K H a xs/\R5 K H b ys/\xs[i]?=some x/\ys[i]?=some y,λi H v H'=> ∃t x y,v= .ref t/\H t=none/\H'=upd H t (.tup [x,y])/\(∀xs,R5 K H a xs->xs[i]?=some x)/\ ∀ys,R5 K H b ys->ys[i]?=some y,λi H=> ∃xs ys,R5 K H a xs/\R5 K H b ys/\(xs.length<=i\/ys.length<=i)⟩
theorem vD {h:yk}{z TI TO i1 i2 b:qA}{f0 u v:qT}{k1 k2:u6}{xs ys:zR qT}(hz:IsZip h z TI TO f0) (h1:h.IsListIter i1 a k1) (h2:h.IsListIter i2 b k2) (hp:IsPair h TO u v) (ha:h.IsList a xs) (hb:h.IsList b ys) :
  a≠z/\a≠TO/\a≠i1/\a≠i2/\b≠z/\b≠TO/\b≠i1/\b≠i2:=by
 obtain⟨o1,e1,c1,d1⟩:=h1;obtain⟨o2,e2,c2,d2⟩:=h2;obtain⟨oa,ea,ca,da⟩:=ha;obtain⟨ob,eb,cb,db⟩:=hb;show⟨λe=>?_,λe=>?_,λe=>?_,λe=>?_,λe=>?_,λe=>?_,λe=>?_,λe=>?_⟩ <;> subst e;.rw[hz] at ea; cases ea; show wz (P0 ca) aS
 .rw[hp] at ea; cases ea; show wz (P0 ca) aS
 .rw[e1] at ea; cases ea; rw[c1] at ca; show wz (P0 ca) aS
 .rw[e2] at ea; cases ea; rw[c2] at ca; show wz (P0 ca) aS
 .rw[hz] at eb; cases eb; show wz (P0 cb) aS
 .rw[hp] at eb; cases eb; show wz (P0 cb) aS
 .rw[e1] at eb; cases eb; rw[c1] at cb; show wz (P0 cb) aS
 .rw[e2] at eb; cases eb; rw[c2] at cb; show wz (P0 cb) aS
structure UC (z TI TO i1 i2:qA):Prop where
 TIz:TI≠z
 TOz:TO≠z
 i1z:i1≠z
 i2z:i2≠z
 TITO:TI≠TO
 TIi1:TI≠i1
 TIi2:TI≠i2
 TOi1:TO≠i1
 TOi2:TO≠i2
 i12:i1≠i2
structure UG (h:yk) (z TI TO i1 i2 a b:qA) (i:u6):Prop where
 zp:IsZip h z TI TO .none
 pi:IsPair h TI (.ref i1) (.ref i2)
 po: ∃u v,IsPair h TO u v
 h1:h.IsListIter i1 a i
 h2:h.IsListIter i2 b i
 ap:UC z TI TO i1 i2
variable{w:sW}
theorem GW {P:tq}{elts:qx tW}{x1}{pos:Pos}(a b z TI TO i1 i2:qA):Turn P w K (.Tuple elts x1 pos) (Uj K a b) [z,TI,TO,i1,i2] z (λi h=>UG h z TI TO i1 i2 a b i) where
 mem:=by simp
 obj:=λi h st c hc=>by
  obtain⟨hz,hp,⟨u,v,ho⟩,⟨o1,e1,c1,d1⟩,⟨o2,e2,c2,d2⟩,_⟩:=st;simp only[N5,OG,Px] at hc;rcases hc with rfl | rfl | rfl | rfl | rfl
  .nomatch _,hz,λv q=>by cases q
  .nomatch _,hp,λv q=>by cases q
  .nomatch _,ho,λv q=>by cases q
  .nomatch o1,e1,λv q=>by rw[d1] at q; cases q
  .nomatch o2,e2,λv q=>by rw[d2] at q; cases q
 keep:=λi h h' st k=>by
  obtain⟨hz,hp,⟨u,v,ho⟩,h1,h2,ap⟩:=st;erw[k z uD _ hz,k TI uD _ hp,⟨u,v,k TO uD _ ho⟩,h1.at λo q=>k i1 uD o q,h2.at λo q=>k i2 uD o q,ap]
 item:=by
  intro X hP hw hK hc i R1 s O H E I hf st hg;subst hP hw hK;obtain⟨hz,hp,⟨u,v,ho⟩,h1,h2,ap⟩:=st;obtain⟨xs,ys,x,y,hqa,hqb,hx,hy⟩:=hg;obtain⟨its,rv,p,hsz⟩:=I.list hqa;obtain⟨jts,rw',p2,hsz2⟩:=I.list hqb;obtain⟨ux,hux,rux⟩:=rv.get hx;obtain⟨uy,huy,ruy⟩:=rw'.get hy;obtain⟨q1,q2,q3,q4,q5,q6,q7,q8⟩:=vD hz h1 h2 ho p.isList p2.isList;have za:ZipApart z TI TO i1 i2 a b:=⟨ap.TIz,ap.TOz,ap.i1z,ap.i2z,ap.TITO,ap.TIi1,ap.TIi2,ap.TOi1,ap.TOi2,ap.i12,q1,q2,q3,q4,q5,q6,q7,q8⟩
  have ltz:z < s.heap.objs.size:=Of hz;have ltI:TI < s.heap.objs.size:=Of hp;have ltO:TO < s.heap.objs.size:=Of ho;have TU:i1 < s.heap.objs.size:=by obtain⟨o,q,_⟩:=id h1; show Of q
  have lt2:i2 < s.heap.objs.size:=by obtain⟨o,q,_⟩:=id h2; show Of q
  show wpAny_pyNext_zip_item za hz hp ho h1 h2 p.isList p2.isList (x:=ux) (y:=uy) (by simpa using hux) (by simpa using huy) λh' hz' ho' h1' h2' ht hs' hk=>?_;erw[_,Z,wpAny_letOwnedTupleGo_zip hz' λh3 hz3 sb=>?_];have kall: ∀c o,c∉[z,TI,TO,i1,i2]->s.heap.get? c=some o->h3.get? c=some o:=λc o hc q=>by
   simp only[N5,OG,Px,not_or] at hc;show (sb.2 c hc.1).trans<|hk c o hc.1 hc.2.2.1 hc.2.2.2.1 hc.2.2.2.2 q
  have I1:Inv X R1 O H { s with heap:=h3,toks:=s.toks }:=I.p8 kall hf;have ht2:h3.get? s.heap.objs.size=some { cls:= .type "tuple",data:= .seq #[ux,uy] }:=(sb.2 _<|Rj ltz).trans ht;have fT:cN X R1 H s.heap.objs.size:=I.g9 (N0 _)<|I.hok.fresh<|N0 _;have new:dq X.prog X.w (upd H s.heap.objs.size<|.tup [x,y]) h3 s.heap.objs.size (.tup [x,y]):=⟨aC,[ux,uy],.cons rux<|.cons ruy .nil,⟨_,ht2,Z,_,Z⟩⟩
  erw[.ref s.heap.objs.size,_,I1.G5 fT new,Z,⟨_,x,y,Z,fT.1,Z,λzs hzs=>by rw[I.nS hzs hqa]; show hx,λzs hzs=>by rw[I.nS hzs hqb]; show hy⟩,⟨hz3,?_,?_,?_,?_,ap⟩,λc hc=>?_];.exact (sb.2 _ ap.TIz).trans<|hk _ _ ap.TIz ap.TITO ap.TIi1 ap.TIi2 hp
  .nomatch _,_,(sb.2 _ ap.TOz).trans ho'
  .exact h1'.at λo q=>(sb.2 _ ap.i1z).trans q
  .exact h2'.at λo q=>(sb.2 _ ap.i2z).trans q
  .have:=(hf c hc).1;simp only[N5,OG,Px] at hc;rcases hc with rfl | rfl | rfl | rfl | rfl
   .rw[ah<|OC ltz]; show this
   .rw[ah<|OC ltI]; show this
   .rw[ah<|OC ltO]; show this
   .rw[ah<|OC TU]; show this
   .rw[ah<|OC lt2]; show this
 done:=by
  intro X hP hw hK hc i R1 s O H E I hf st hg;subst hP hw hK;obtain⟨hz,hp,⟨u,v,ho⟩,h1,h2,ap⟩:=st;obtain⟨xs,ys,hqa,hqb,hx⟩:=hg;obtain⟨its,rv,p,hsz⟩:=I.list hqa;obtain⟨jts,rw',p2,hsz2⟩:=I.list hqb;obtain⟨q1,q2,q3,q4,q5,q6,q7,q8⟩:=vD hz h1 h2 ho p.isList p2.isList;have za:ZipApart z TI TO i1 i2 a b:=⟨ap.TIz,ap.TOz,ap.i1z,ap.i2z,ap.TITO,ap.TIi1,ap.TIi2,ap.TOi1,ap.TOi2,ap.i12,q1,q2,q3,q4,q5,q6,q7,q8⟩
  have hl:=rv.length;have hl2:=rw'.length;show wpAny_pyNext_zip_end (I.ok.hd hc) za hz hp ho h1 h2 p.isList p2.isList ?_ λh' hk=>⟨Z,I.p8 (t':=s.toks) (ch:=[z,TI,TO,i1,i2]) (λc o hc q=>?_) hf⟩
  .rcases hx with hx | hx
   .left; simp; lia
   .right; simp; lia
  .simp only[N5,OG,Px,not_or] at hc;show hk c o hc.1 hc.2.2.1 hc.2.2.2.1 hc.2.2.2.2 q
 self:=λ_ _ _ _ _ st h=>wpAny_pyIter_zip st.zp h
section
variable {X:Cx}
inductive LO (K:R7) (R:It->Hp->Prop) (vs:qx V) (H1:Hp):Prop | mk (a b:_) (e0:vs=[.ref a,.ref b]) (e1:(∃xs,R5 K H1 a xs)) (e2:(∃ys,R5 K H1 b ys)) (q:R (Uj K a b) H1)
def My (K:R7) (ta:TA):TI:=λO H R=>ta O H λvs H1=>LO K R vs H1
theorem boot_zip:zt "zip" = some (.type "zip"):=by trivial
theorem tJ {elts:qx tW}{x1}{tpos:Pos}{a b:tW}{ta:TA}{p pos:Pos}(hg:Gl X "zip") (hm:X.mg "zip" = none) (ha:PA X [a,b] ta) (hs:zb [a,b] X.env=(false,eval a X.env)::zb [b] X.env:=by rfl) (hs2:((zV pos (zb [b] X.env)).any λx=>x.fst)=false:=by rfl):PI X (.Tuple elts x1 tpos) (.Call (.Name "zip" p) [a,b] [] pos) (My X.K ta):=by
 intro R1 s O H R I h;show Call_<|lj I hg hm boot_zip<|P1 (Sf (ha pos R1 s O H _ I h) λus s1 ⟨vs,H1,I1,r1,q1⟩=>?_) hs hs2;obtain⟨l1,l2,e,⟨xs,hq1⟩,⟨ys,hq2⟩,q⟩:=q1;subst e;obtain⟨u1,u2,rfl,ru1,ru2⟩:=vals2 r1;cases ru1;cases ru2;obtain⟨its,rv,pl,hz⟩:=I1.list hq1;obtain⟨jts,rw',pl2,hz2⟩:=I1.list hq2;show call_zip_2 pl.isList pl2.isList λh' hzp hpi hpo h1 h2 hsz hk=>?_;show wpAny_pyIter_zip hzp ?_;have I2:Inv X R1 O H1 { s1 with heap:=h' }:=I1.kept (t':=s1.toks) hk;erw[s1.heap.objs.size+4,[s1.heap.objs.size+4,s1.heap.objs.size+2,s1.heap.objs.size+3,s1.heap.objs.size,s1.heap.objs.size+1],_,_,H1,Z,I2,GW l1 l2 _ _ _ _ _,⟨hzp,hpi,⟨_,_,hpo⟩,h1,h2,?_⟩,λb hb=>?_,q];.constructor <;> intro e <;> show wz e (by change ¬(_:u6)=_; lia)
 .have hb':s1.heap.objs.size<=b:=by
   simp only[N5,OG,Px] at hb;rcases hb with rfl | rfl | rfl | rfl | rfl
   .exact Q8 _ _
   .exact Q8 _ _
   .exact Q8 _ _
   .exact N0 _
   .exact Q8 _ _
  show I1.g9 hb'<|I1.hok.fresh hb'
end
theorem nH {b:qA}{xs zs:qx V}{g:TG}{fr:qx u6}(Pv:u6->qx V->Hp->Prop) (hJ: ∀i ys H,Pv i ys H->R5 K H a xs/\R5 K H b zs) (hl:zs.length=xs.length) (h0:Pv 0 [] H) (hz:xs.length < sizeLine) (hlen: ∀i ys H,Pv i ys H->ys.length<=i)
  (hs: ∀i ys H2 x z t,xs[i]?=some x->zs[i]?=some z->Pv i ys H2->H2 t=none->g (.ref t) (cW own fr O) (upd H2 t (.tup [x,z])) λO4 H4=>tt O4 H4 λb H5=>if b=true then te O4 H5 λy H6=>Pv (i+1) (ys++[y]) H6 else Pv (i+1) ys H5)
  (hq: ∀ys H2 p,Pv xs.length ys H2->H2 p=none->Q (.ref p) (upd H2 p (.lst ys))):kI (Uj K a b) g tt te own fr O H Q:=by
 show rE xs.length Pv h0 hz hlen (λi ys H hi hp=>⟨xs,zs,xs[i],zs[i],(hJ i ys H hp).1,(hJ i ys H hp).2,NV hi,NV _⟩) (λys H hp=>⟨xs,zs,(hJ _ ys H hp).1,(hJ _ ys H hp).2,.inl<|N0 _⟩) (λi ys H2 x H3 hi hp hy=>?_) hq;obtain⟨t,x,z,rfl,nt,rfl,hx,hz'⟩:=hy;show hs i ys H2 x z t (hx xs (hJ i ys H2 hp).1) (hz' zs (hJ i ys H2 hp).2) hp nt
section
variable {X:Cx}
theorem AN (val:u6->u7): ∀n i,i<=n->val (Gm (λi j=>decide (val i < val j)) n)<=val i/\Gm (λi j=>decide (val i < val j)) n<=n
 | 0,i,h=>by rw[Wk.mp h]; unfold Gm; erw[Oo _,N0 _]
 | n+1,i,h=>by
  have ih:=AN val n;unfold Gm;split
  .rename_i c;have c:=Oc c;erw[?_,N0 _];by_cases e:i=n+1;.rw[e]; show Oo _
   .have:=(ih i Y).1;lia
  .rename_i c;have c:=Ou (Om _▸c);erw[?_,QW (ih n (N0 _)).2];by_cases e:i=n+1;.rw[e]; lia
   .exact (ih i Y).1
theorem AE (val:u6->u7): ∀n i,i<=n->val i<=val (Gm (λi j=>decide (val i > val j)) n)/\Gm (λi j=>decide (val i > val j)) n<=n
 | 0,i,h=>by rw[Wk.mp h]; unfold Gm; erw[Oo _,N0 _]
 | n+1,i,h=>by
  have ih:=AE val n;unfold Gm;split
  .rename_i c;have c:=Oc c;erw[?_,N0 _];by_cases e:i=n+1;.rw[e]; show Oo _
   .have:=(ih i Y).1;lia
  .rename_i c;have c:=Ou (Om _▸c);erw[?_,QW (ih n (N0 _)).2];by_cases e:i=n+1;.rw[e]; lia
   .exact (ih i Y).1
inductive LP (K:R7) (xs:qx V) (H:Hp) (Q:VK):Prop | mk (a:qA) (ns:qx u7) (e0:xs=[.ref a]) (e1:R5 K H a (ns.map V.int)) (e2:0 < ns.length) (q: ∀M,M∈ns->(∀x∈ns,M<=x)->Q (.int M) H)
def J9 (K:R7):qx V->Hp->VK->Prop:=λxs H Q=>LP K xs H Q
inductive LJ (K:R7) (xs:qx V) (H:Hp) (Q:VK):Prop | mk (a:qA) (ns:qx u7) (e0:xs=[.ref a]) (e1:R5 K H a (ns.map V.int)) (e2:0 < ns.length) (q: ∀M,M∈ns->(∀x∈ns,x<=M)->Q (.int M) H)
def JC (K:R7):qx V->Hp->VK->Prop:=λxs H Q=>LJ K xs H Q
theorem mI {ns:qx u7}{its:qx qT}(rv:Vals (ns.map V.int) its): ∀(i:u6) (v:qT),its.toArray[i]?=some v-> ∃t,v=zj (ns.getD i 0) t:=λi v h=>by
 have h:its[i]?=some v:=by simpa using h
 obtain⟨hi,rfl⟩:=NX.mp h;have hl:=rv.length;rw[NR] at hl;obtain⟨u,hu,ru⟩:=rv.get (i:=i) (x:= .int<|ns.getD i 0) (by rw[N7,NV Y,NY,NV Y]; rfl);rw[h] at hu;cases hu;obtain⟨t,e⟩:=ru;erw[t,e]
theorem CS (hc:X.calm=true):cJ X (.builtin "min") (J9 X.K):=by
 intro R1 s O H xs us Q I r h;obtain⟨a,ns,rfl,ha,hn,q⟩:=h;obtain⟨u,rfl,ru⟩:=vals1 r;cases ru;obtain⟨its,rv,pl,hz⟩:=I.list ha;have hl:=rv.length;rw[NR] at hl;show call_min_walk<|Qd pl.isList ?_;have hk0: ∀(b:qA) (o:Obj),s.heap.get? b=some o->(s.heap.push { cls:=CW "list_iterator",data:=Dg #[ye a,zj 0 0] }).get? b=some o:=λb o e=>N3 _ e;have hlt:a < s.heap.objs.size:=by obtain⟨o,q,_⟩:=pl.isList; show Of q
 have I1:Inv X R1 O H { s with heap:=s.heap.push { cls:=CW "list_iterator",data:=Dg #[ye a,zj 0 0] },toks:=s.toks }:=I.kept (t':=s.toks) hk0;have fI:cN X R1 H s.heap.objs.size:=I.g9 (N0 _)<|I.hok.fresh<|N0 _;erw[s.heap.objs.size,_,_,_,_,_,_,Z,VM (A:=X.A.in1) (show X.A.in1.handled=none from I.ok.hd hc) s.heap.objs.size a (OC hlt) its.toArray,⟨⟨_,OD _ rfl,Z,Z⟩,?_⟩,λb hb=>?_,by simp; lia,CmpOf.ints_lt (λi=>ns.getD i 0)<|mI rv,λv h' tk hv hk=>?_]
 .obtain⟨o,q1,q2⟩:=pl.isList;erw[o,hk0 _ _ q1,q2]
 .simp only[N5,OG,Px] at hb;rw[Pp];rcases hb with rfl | rfl
  .exact PY _
  .exact Qs hlt
 .obtain⟨t,rfl⟩:=mI rv _ _ hv;have sz:its.toArray.size - 1=ns.length - 1:=by simp; lia
  rw[sz] at *;have hb:=AN (λi=>ns.getD i 0)<|ns.length - 1;erw[.int _,H,I1.p8 (t':=tk) (ch:=[s.heap.objs.size]) (λc o hc e=>hk c o hc e) (λb hb=>by rw[NZ.mp hb]; show fI),⟨t,Z⟩,q _ ?_ λx hx=>?_]
  .have:=(hb 0<|ON _).2;change ns.getD _ 0∈ns;rw[NY,NV<|show Gm _ (ns.length - 1) < ns.length by lia];show Pm _
  .obtain⟨i,hi,rfl⟩:=O2.mp hx;have:=(hb i Y).1;rw[NY (l:=ns) (i:=i),NV hi] at this;show this
theorem ED (hc:X.calm=true):cJ X (.builtin "max") (JC X.K):=by
 intro R1 s O H xs us Q I r h;obtain⟨a,ns,rfl,ha,hn,q⟩:=h;obtain⟨u,rfl,ru⟩:=vals1 r;cases ru;obtain⟨its,rv,pl,hz⟩:=I.list ha;have hl:=rv.length;rw[NR] at hl;show call_max_walk<|Qd pl.isList ?_;have hk0: ∀(b:qA) (o:Obj),s.heap.get? b=some o->(s.heap.push { cls:=CW "list_iterator",data:=Dg #[ye a,zj 0 0] }).get? b=some o:=λb o e=>N3 _ e;have hlt:a < s.heap.objs.size:=by obtain⟨o,q,_⟩:=pl.isList; show Of q
 have I1:Inv X R1 O H { s with heap:=s.heap.push { cls:=CW "list_iterator",data:=Dg #[ye a,zj 0 0] },toks:=s.toks }:=I.kept (t':=s.toks) hk0;have fI:cN X R1 H s.heap.objs.size:=I.g9 (N0 _)<|I.hok.fresh<|N0 _;erw[s.heap.objs.size,_,_,_,_,_,_,Z,VM (A:=X.A.in1) (show X.A.in1.handled=none from I.ok.hd hc) s.heap.objs.size a (OC hlt) its.toArray,⟨⟨_,OD _ rfl,Z,Z⟩,?_⟩,λb hb=>?_,by simp; lia,WN (λi=>ns.getD i 0)<|mI rv,λv h' tk hv hk=>?_]
 .obtain⟨o,q1,q2⟩:=pl.isList;erw[o,hk0 _ _ q1,q2]
 .simp only[N5,OG,Px] at hb;rw[Pp];rcases hb with rfl | rfl
  .exact PY _
  .exact Qs hlt
 .obtain⟨t,rfl⟩:=mI rv _ _ hv;have sz:its.toArray.size - 1=ns.length - 1:=by simp; lia
  rw[sz] at *;have hb:=AE (λi=>ns.getD i 0)<|ns.length - 1;erw[.int _,H,I1.p8 (t':=tk) (ch:=[s.heap.objs.size]) (λc o hc e=>hk c o hc e) (λb hb=>by rw[NZ.mp hb]; show fI),⟨t,Z⟩,q _ ?_ λx hx=>?_]
  .have:=(hb 0<|ON _).2;change ns.getD _ 0∈ns;rw[NY,NV<|show Gm _ (ns.length - 1) < ns.length by lia];show Pm _
  .obtain⟨i,hi,rfl⟩:=O2.mp hx;have:=(hb i Y).1;rw[NY (l:=ns) (i:=i),NV hi] at this;show this
end
def nD (kvs:Sx) (v:u7):rW u6:=match aY kvs (xf v) with
 | some (.int k)=>some k.toNat
 | _=>none
theorem Hh {kvs:Sx}{v:u7}{j:u6}(h:aY kvs (xf v)=some (.int (j:u6))):nD kvs v=some j:=by unfold nD; rw[h]; change some ((j:u7).toNat)=_; rw[Oa]
theorem jd {kvs:Sx}{u v:u7}{j:u6}:nD (putK kvs (xf u) (.int (j:u6))) v=if v=u then some j else nD kvs v:=by
 unfold nD;rw[ly];by_cases e:v=u
 .subst e;rw[NW rfl,NW rfl];change some ((j:u7).toNat)=_;rw[Oa]
 .rw[NS λz=>e<|QY z,NS e]
structure Bg (H0 H:Hp) (n:u6) (rs:qx MA.ao) (L:qx u7) (m:u7) (d q:qA) (kvs:Sx) (ws:qx u7) (sk:u7->Prop):Prop where
 hd:H d=some (.dK kvs)
 hq:H q=some (.lst (ws.map V.int))
 sm:ag H0 H
 fd:H0 d=none
 fq:H0 q=none
 SN: ∀k,has kvs k->0<=k/\k < n
 num: ∀k v,aY kvs (xf k)=some v-> ∃j:u6,v= .int (j:u6)
 ex: ∀k j,nD kvs k=some j-> ∃ps,MA.Tp rs L m k ps/\ps.length=j
 st:nD kvs m=some 0
 wk: ∀w∈ws,has kvs w
 srt:ws.Pairwise λa b=> ∀x y,nD kvs a=some x->nD kvs b=some y->x<=y
 top: ∀k x,nD kvs k=some x-> ∀w∈ws,∀y,nD kvs w=some y->x<=y+1
 cl: ∀k x,nD kvs k=some x->k∉ws-> ¬sk k-> ∀r∈rs,MA.Tl L r->r.1=k-> ∃y,nD kvs r.2.1=some y/\y<=x+1
 cn:kvs.length+kj n kvs<=n
 bd: ∀k j,nD kvs k=some j->j+1<=kvs.length
section
variable {H0 H:Hp}{n:u6}{rs:qx MA.ao}{L:qx u7}{m:u7}{d q:qA}{kvs:Sx}{ws:qx u7}{sk:u7->Prop}
theorem tZ (num: ∀k v,aY kvs (xf k)=some v-> ∃j:u6,v=V.int (j:u6)){k:u7}(h:has kvs k): ∃j:u6,nD kvs k=some j/\aY kvs (xf k)=some (.int (j:u6)):=by
 obtain⟨v,hv⟩:=Qj.mp<|show (aY kvs<|xf k).isSome=true from h;obtain⟨j,rfl⟩:=num k v hv;erw[j,Hh hv,hv]
theorem xw {k:u7}{j:u6}(h:nD kvs k=some j):has kvs k:=by
 unfold nD at h;unfold has;split at h;.rename_i e; rw[e]; rfl
 .cases h
theorem sL (num: ∀k v,aY kvs (xf k)=some v-> ∃j:u6,v=V.int (j:u6)){k:u7}{j:u6}(h:nD kvs k=some j):aY kvs (xf k)=some (.int (j:u6)):=by
 obtain⟨j',e,hv⟩:=tZ num<|xw h;rw[h] at e;cases e;show hv
theorem HL (num: ∀k v,aY kvs (xf k)=some v-> ∃j:u6,v=V.int (j:u6)){k:u7}(h:nD kvs k=none):aY kvs (xf k)=none:=by
 cases e:aY kvs (xf k) with
 | none=>rfl
 | some v =>
  obtain⟨j,rfl⟩:=num k v e;rw[Hh e] at h;cases h
theorem Bg.ne (b:Bg H0 H n rs L m d q kvs ws sk):d≠q:=fv b.hd b.hq (by intro z; cases z)
theorem Bg.pop {mb:u7}{r:qx u7}(b:Bg H0 H n rs L m d q kvs (mb::r) sk) (hs: ∀k,¬sk k):Bg H0 (upd H q (.lst (r.map V.int))) n rs L m d q kvs r (λk=>k=mb) :=
 ⟨(ah b.ne).trans b.hd,af,b.sm.cT b.fq,b.fd,b.fq,b.SN,b.num,b.ex,b.st,λx hx=>b.wk x (N4 _ hx),(RF.mp b.srt).2,λk x h w hw=>b.top k x h w (N4 _ hw),λk x h1 h2 h3=>b.cl k x h1 (λz=>(N5.mp z).elim h3 h2) (hs k),b.cn,b.bd⟩
theorem Bg.reach {mb:u7}{d0:u6}{r:MA.ao}(b:Bg H0 H n rs L m d q kvs ws (λk=>k=mb)) (hm:nD kvs mb=some d0) (low: ∀w∈ws,∀y,nD kvs w=some y->d0<=y) (bnd: ∀k x,nD kvs k=some x->x<=d0+1)
  {i:u6} (hi:rs[i]?=some r) (t:MA.Tl L r) (e:r.1=mb) (u0:0<=r.2.1) (u1:r.2.1 < n) (nh: ¬has kvs r.2.1) :
  Bg H0 (upd (upd H d (.dK (putK kvs (xf r.2.1) (.int ((d0+1:u6):u7))))) q (.lst ((ws++[r.2.1]).map V.int))) n rs L m d q (putK kvs (xf r.2.1) (.int ((d0+1:u6):u7))) (ws++[r.2.1]) (λk=>k=mb) /\
  nD (putK kvs (xf r.2.1) (.int ((d0+1:u6):u7))) mb=some d0/\(∀w∈ws++[r.2.1],∀y,nD (putK kvs (xf r.2.1) (.int ((d0+1:u6):u7))) w=some y->d0<=y)/\(∀k x,nD (putK kvs (xf r.2.1) (.int ((d0+1:u6):u7))) k=some x->x<=d0+1):=by
 have old: ∀k j,nD kvs k=some j->k≠r.2.1:=λk j h z=>nh<|z▸xw h;have low': ∀w∈ws++[r.2.1],∀y,nD (putK kvs (xf r.2.1)<|.int ((d0+1:u6):u7)) w=some y->d0<=y:=λw hw y hy=>by
  rw[jd] at hy;split at hy;.cases hy; lia
  .rename_i ne;rcases Oe.mp hw with hw | hw
   .exact low w hw y hy
   .exact wz (NZ.mp hw) ne
 have bnd': ∀k x,nD (putK kvs (xf r.2.1)<|.int ((d0+1:u6):u7)) k=some x->x<=d0+1:=λk x h=>by
  rw[jd] at h;split at h;.cases h; show N0 _
  .exact bnd k x h
 have keep: ∀k j,nD kvs k=some j->nD (putK kvs (xf r.2.1)<|.int ((d0+1:u6):u7)) k=some j:=λk j h=>by rw[jd,NS<|old k j h]; show h
 erw[⟨(ah b.ne).trans af,af,(b.sm.cT b.fd).cT b.fq,b.fd,b.fq,λk hk=>?_,λk v hv=>?_,λk j hj=>?_,keep _ _ b.st,λw hw=>?_,?_,λk x h w hw y hy=>?_,λk x h h1 h2 r' hr' t' e'=>?_,?_,λk j hj=>?_⟩,keep _ _ hm,low',bnd']
 .rcases cR.mp hk with rfl | hk
  .nomatch u0,u1
  .exact b.SN k hk
 .rw[ly] at hv;split at hv;.cases hv; erw[_,Z]
  .exact b.num k v hv
 .rw[jd] at hj;split at hj
  .rename_i ek;cases hj;obtain⟨ps,p1,p2⟩:=b.ex mb d0 hm;rw[ek];erw[i::ps,.cons hi t (e▸p1),by rw[Oh,p2]]
  .exact b.ex k j hj
 .rcases Oe.mp hw with hw | hw
  .exact cR.mpr<|.inr<|b.wk w hw
  .exact cR.mpr<|.inl<|NZ.mp hw
 .show List.pairwise_append.mpr ⟨?_,Vs ..,λa ha c hc x y hx hy=>?_⟩
  .show Xk ?_ b.srt;intro a c ha hc h x y hx hy;have na:a≠r.2.1:=λz=>nh<|z▸b.wk a ha;have nc:c≠r.2.1:=λz=>nh<|z▸b.wk c hc;rw[jd,NS na] at hx;rw[jd,NS nc] at hy;show h x y hx hy
  .rw[NZ.mp hc,jd,NW rfl] at hy;cases hy;show bnd' a x hx
 .have:=bnd' k x h;have:=low' w hw y hy;lia
 .have nk:k≠r.2.1:=λz=>h1<|z▸Ot _ (NZ.mpr rfl);rw[jd,NS nk] at h;obtain⟨y,y1,y2⟩:=b.cl k x h (λz=>h1<|Oy _ z) h2 r' hr' t' e';erw[y,keep _ _ y1,y2]
 .have c1:=b.cn;have c2:=kN (n:=n) (kvs:=kvs) (v:=V.int ((d0+1:u6):u7)) u0 u1 nh;have c3:=ig kvs (xf r.2.1:Key)<|V.int ((d0+1:u6):u7);lia
 .have lenP:(putK kvs (xf r.2.1)<|V.int ((d0+1:u6):u7)).length=kvs.length+1:=by
   rw[xK _ (by unfold has at nh; simpa using nh),N1];rfl
  have:=b.bd mb d0 hm;rw[lenP];rw[jd] at hj;split at hj;.cases hj; lia
  .have:=b.bd k j hj; lia
theorem Bg.dist (b:Bg H0 H n rs L m d q kvs [] sk) (hs: ∀k,¬sk k):MA.iu rs L m (nD kvs):=by
 erw[b.ex,λv ps h=>?_];induction h with
 | nil=>exact⟨0,b.st,N0 _⟩
 | @cons i q ps hi t _ ih =>
  obtain⟨x,e,l⟩:=ih;obtain⟨y,y1,y2⟩:=b.cl _ x e OG (hs _) q (NU hi) t rfl;erw[y,y1,by rw[Oh]; lia]
end
def Hb (ns:qx u7) (dv v:qT):Prop:=(ns=[]/\v=dv)\/ ∃M t,v=zj M t/\M∈ns/\ ∀x∈ns,x<=M
variable{prog:tq}
theorem Df {A:uc}{R:Result->rK->Prop}(hA:A.handled=none){l I S:qA}{its:qx qT}{ns:qx u7}{dv:qT}(hv: ∀(i:u6) (v:qT),its.toArray[i]?=some v-> ∃t,v=zj (ns.getD i 0) t) (hn:ns.length=its.length)
  (lI:l≠I) (lS:l≠S) (SI:S≠I): ∀(k j:u6) (s:rK) (bst:zR qT) (c:u6),its.length - j=k->j<=its.length->s.heap.IsListIter I l j->s.heap.IsList l its.toArray->s.heap.get? S=some { cls:= .type "list",data:= .seq bst c } ->
  ((bst= #[]/\j=0)\/ ∃b t,bst= #[zj b t,zj b t]/\b∈ns.take j/\ ∀x∈ns.take j,x<=b) ->
  (∀(v:qT) (h':yk) (tk:u6),Hb ns dv v->(∀(b:qA) (o:Obj),b≠I->b≠S->s.heap.get? b=some o->h'.get? b=some o)->R (.ok (.ret v)) { s with heap:=h',toks:=tk }) ->
  Eb (model prog w) A (.builtin "max.loop" ⟨[.ref I,.none,.ref S],[(xT "default",dv)]⟩) R s:=by
 intro k;induction k with
 | zero =>
  intro j s bst c hk hj hI hl hS hb q;have ej:j=its.length:=Y;show codeAny_builtin VA ?_;unfold Builtin.«max.loop»;show N9<|wpAny_seqItems hS rfl ?_;show N9<|wpAny_tryCatch<|wpAny_pyNext_list_end hA hI hl (by simp; lia) λh' he=>?_;have hS':h'.get? S=some { cls:= .type "list",data:= .seq bst c }:=he S _ SI hS;rcases hb with⟨rfl,rfl⟩ | ⟨b,t,rfl,h1,h2⟩
  .show N9<|wpAny_rule<|OB ?_;show q dv h' s.toks (.inl ⟨QT.mp Y,Z⟩) λb o n1 _ e=>he b o n1 e
  .show N9<|wpAny_updateSeq hS' rfl ?_ aC (by change 0<=sizeLine+1; show ON _);show N9<|wpAny_letGo<|OB ?_;rw[ej,<-hn,OF] at h1 h2;show q _ _ s.toks (.inr ⟨b,t,Z,h1,h2⟩) λd o n1 n2 e=>(Py _ _ _ _ n2).trans<|he d o n1 e
 | succ k ih =>
  intro j s bst c hk hj hI hl hS hb q;have hlt:j < its.length:=Y;obtain⟨t0,e0⟩:=hv j its[j] (by simp[hlt]);show codeAny_builtin VA ?_;unfold Builtin.«max.loop»;show N9<|wpAny_seqItems hS rfl ?_;show N9<|wpAny_tryCatch<|wpAny_pyNext_list_item hI hl (x:=its[j]) (by simp[hlt]) λh' hI' sb=>?_;have hS':h'.get? S=some { cls:= .type "list",data:= .seq bst c }:=(sb.2 S SI).trans hS;have hl':h'.IsList l its.toArray:=by
   obtain⟨o,q1,q2⟩:=hl;erw[o,(sb.2 l lI).trans q1,q2]
  rw[e0];have tk:ns.take (j+1)=ns.take j++[ns.getD j 0]:=by
   rw[Ov,NY,NV Y];rfl
  show N9<|OB ?_;rcases hb with⟨rfl,rfl⟩ | ⟨b,t,rfl,h1,h2⟩
  .show N9<|wpAny_updateSeq hS' rfl ?_ aC (by change 2<=sizeLine+1; decide);show OB ⟨Z,?_⟩;show ih 1 _ #[.int (ns.getD 0 0) t0,.int (ns.getD 0 0) t0] (c+1) Y Y (hI'.at λo e=>(Py _ _ _ _ SI.symm).trans e) ?_ ?_ (.inr ⟨_,t0,Z,?_,?_⟩) λv h2 tk2 m fr=>?_
   .obtain⟨o,q1,q2⟩:=hl';erw[o,(Py _ _ _ _ lS).trans q1,q2]
   .exact (PK (C4 λ_=> #[zj (ns.getD 0 0) t0,zj (ns.getD 0 0) t0]) hS' rfl)
   .rw[tk]; simp
   .rw[tk]; intro x hx; simp at hx; rw[hx]; show Oo _
   .exact q v h2 tk2 m λd o n1 n2 e=>fr d o n1 n2<|(Py _ _ _ _ n2).trans<|(sb.2 d n1).trans e
  .show N9<|wpAny_tryCatch<|Qc<|N9<|WN (A:=A.under _) (P:=λi v=> ∃t,v=zj (if i=0 then ns.getD j 0 else b) t) (λi=>if i=0 then ns.getD j 0 else b) (λi v z=>z) 0 1 _ _ _ _ _ ⟨t0,Z⟩ ⟨t,Z⟩ ?_;show N9<|Qc<|Pu ?_;show N9<|wpAny_letGo<|OB ?_;split
   .rename_i cmp;have cmp:ns.getD j 0 > b:=Oc cmp;show N9 (wpAny_updateSeq hS' rfl ?_ aC (by change 2<=sizeLine+1; decide));show N9 (wpAny_letGo ?_);show OB ⟨Z,?_⟩;show ih (j+1) _ #[.int (ns.getD j 0) t0,.int (ns.getD j 0) t0] c Y Y (hI'.at λo e=>(Py _ _ _ _ SI.symm).trans e) ?_ ?_ (.inr ⟨_,t0,Z,?_,?_⟩) λv h2 tk2 m fr=>?_
    .obtain⟨o,q1,q2⟩:=hl';erw[o,(Py _ _ _ _ lS).trans q1,q2]
    .exact (PK (C4 λ_=> #[zj (ns.getD j 0) t0,zj (ns.getD j 0) t0]) hS' rfl)
    .rw[tk]; simp
    .rw[tk];intro x hx;rcases Oe.mp hx with hx | hx
     .have:=h2 x hx; lia
     .rw[NZ.mp hx]; show Oo _
    .exact q v h2 tk2 m λd o n1 n2 e=>fr d o n1 n2<|(Py _ _ _ _ n2).trans<|(sb.2 d n1).trans e
   .rename_i cmp;have cmp: ¬ns.getD j 0 > b:=Ou (Om _▸cmp);show N9 (wpAny_letGo ?_);show OB ⟨Z,?_⟩;show ih (j+1) _ #[.int b t,.int b t] c Y Y hI' hl' hS' (.inr ⟨_,t,Z,?_,?_⟩) λv h2 tk2 m fr=>?_;.rw[tk]; show Oy _ h1
    .rw[tk];intro x hx;rcases Oe.mp hx with hx | hx
     .exact h2 x hx
     .rw[NZ.mp hx]; lia
    .exact q v h2 tk2 m λd o n1 n2 e=>fr d o n1 n2<|(sb.2 d n1).trans e
theorem EI {A:uc}{E:oF}{s:rK}{l:qA}{its:qx qT}{ns:qx u7}{dv:qT}{Q:oF}(hA:A.handled=none) (hl:s.heap.IsList l its.toArray) (hv: ∀(i:u6) (v:qT),its.toArray[i]?=some v-> ∃t,v=zj (ns.getD i 0) t) (hn:ns.length=its.length)
  (q: ∀(v:qT) (h':yk) (tk:u6),Hb ns dv v->(∀(b:qA) (o:Obj),s.heap.get? b=some o->h'.get? b=some o)->Q v { s with heap:=h',toks:=tk }) :
  xA (model prog w) A (call (.builtin "max") [.ref l] [(xT "default",dv)]) Q E s:=by
 show Rq<|codeAny_call_builtin PySem.F.plain_max PySem.F.entry_max<|OB ?_;unfold Builtin.max;show N9 (m:=WJ _ _ _ _)<|OB ?_;show N9<|OB ?_;show N9<|Qd hl ?_;show N9<|wpAny_newList ?_ (ON _);show OB ⟨Z,?_⟩;have hlt:l < s.heap.objs.size:=by obtain⟨o,q,_⟩:=id hl; show Of q
 have e1: ∀(b:qA) (o:Obj),s.heap.get? b=some o->(s.heap.push { cls:=CW "list_iterator",data:=Dg #[ye l,zj 0 0] }).get? b=some o:=λb o e=>N3 _ e;have e2: ∀(b:qA) (o:Obj),s.heap.get? b=some o->((s.heap.push { cls:=CW "list_iterator",data:=Dg #[ye l,zj 0 0] }).push { cls:=CW "list",data:=Data.seq #[] 0 }).get? b=some o:=λb o e=>N3 _<|e1 b o e;show Df (l:=l) (I:=s.heap.objs.size) (S:=(s.heap.push { cls:=CW "list_iterator",data:=Dg #[ye l,zj 0 0] }).objs.size) (its:=its) (ns:=ns) hA hv hn ?_ ?_ ?_ its.length 0 _ #[] 0 rfl (ON _) ?_ ?_ ?_ (.inl ⟨Z,Z⟩) λv h' tk m fr=>?_;.exact OC hlt
 .rw[Pp]; show OC<|Qs hlt
 .rw[Pp]; show Wr _
 .nomatch _,N3 _<|OD _ rfl,Z,Z
 .obtain⟨o,q1,q2⟩:=hl;erw[o,e2 _ _ q1,q2]
 .exact OD _ rfl
 .show q v h' tk m λb o e=>fr b o ?_ ?_ (e2 b o e);.exact OC<|Of e
  .rw[Pp]; show OC<|Qs<|Of e
section
variable {X:Cx}
inductive DM (K:R7) (td:TE) (O:St) (Q:VK) (v:V) (H1:Hp):Prop | mk (a:qA) (ns:qx u7) (e0:v= .ref a) (e1:R5 K H1 a (ns.map V.int)) (q:td O H1 λw H2=> ∃d:u7,w= .int d/\R5 K H2 a (ns.map V.int)/\(ns=[]->Q (.int d) H2)/\ ∀M,M∈ns->(∀x∈ns,x<=M)->Q (.int M) H2)
def Hl (K:R7) (te td:TE):TE:=λO H Q=>te O H λv H1=>DM K td O Q v H1
theorem Ji {e d:tW}{te td:TE}{np pos kpos:Pos}(hc:X.calm=true) (hg:Gl X "max") (hm:X.mg "max" = none) (he:PE X e te) (hd:PE X d td) (hst:isStar e=false:=by rfl) :
  PE X (.Call (.Name "max" np) [e] [⟨some "default",d,kpos⟩] pos) (Hl X.K te td):=by
 intro R1 s O H Q I h;show P5<|lj I hg hm boot_max ?_;have e1:zV pos (zb [e] X.env)=(false,eval e X.env)::zV pos (zb [] X.env):=by rw[oi hst]; rfl
 show callWith_kw ?_ e1 (by rw[e1]; rfl);generalize hR:(λ(v:V) (H1:Hp)=>DM X.K td O Q v H1)=REST;have h':te O H REST:=by rw[<-hR]; show h
 have hA:=aj he (b8 (X:=X)) hst pos R1 s O H (λvs H1=>match vs with | [v]=>REST v H1 | _=>zh) I h';show Sf hA λus s1 ⟨vs,H1,I1,r1,q1⟩=>?_;cases r1 with
 | nil=>show q1.elim
 | cons r2 r3 =>
  cases r3 with
  | cons _ _=>show q1.elim
  | nil =>
   have q1':REST _ H1:=q1;rw[<-hR] at q1';obtain⟨a,ns,rfl,ha,q2⟩:=q1';cases r2;change xA _ _ (evalAll ((do let v <-eval d X.env; standAt pos; pure v)::(CU pos<|AR [] X.env).map (·.2))) _ _ s1;show wpAny_evalAll_cons<|N9<|Sf (hd R1 s1 O H1 _ I1 q2) λu s2 ⟨w,H2,I2,rw2,q3⟩=>N9<|PV<|OB ?_;obtain⟨dd,rfl,ha2,qe,qm⟩:=q3;obtain⟨td',rfl⟩:=rw2;show wpAny_evalAll_nil ?_;obtain⟨its,rv,pl,hz⟩:=I2.list ha2;have hl:=rv.length;rw[NR] at hl;show EI (ns:=ns) (I2.ok.hd hc) pl.isList (mI rv) Y λv h' tk m fr=>?_;have I3:=I2.kept (t':=tk) fr;rcases m with⟨rfl,rfl⟩ | ⟨M,t,rfl,m1,m2⟩
   .nomatch .int dd,H2,I3,⟨_,Z⟩,qe rfl
   .nomatch .int M,H2,I3,⟨_,Z⟩,qm M m1 m2
end
end L2
namespace MA
variable {n:u6}{rs:qx ao}{L:qx u7}{cs:qx (rW u7)}{m x:u7}
theorem BC (k: ∀r∈rs,Sh n r) (h:aZ n rs=some L) (m0:0<=m) (m1:m < n) (x0:0<=x):(∀r∈rs++[(m,-1,g L m+x)],Sh n r)/\ ∃W,aZ n (rs++[(m,-1,g L m+x)])=some W/\W.length=n /\
  ∀v:u6,v < n->g W (v:u6)=if 0<=aH n rs m.toNat v then mx (g L (v:u6)) (g L m+x+aH n rs m.toNat v) else g L (v:u6):=by
 obtain⟨l1,l2,l3,l4⟩:=bG k h;have sl:(put L m<|g L m+x).length=n:=gC.trans l1;have sg: ∀i:u7,0<=i->g (put L m<|g L m+x) i=if i=m then g L m+x else g L i:=λi i0=>fJ m0 Y i0;have st:bQ rs (it rs n<|put L m<|g L m+x)=it rs n (put L m<|g L m+x):=by
  show yU (f:=λv=>g L v+x) k sl (λr hr=>?_) λi i0 i1=>?_
  .have a:=l2 r hr;unfold ask at a ⊢;split at a;.rename_i e; rw[NW e]; change r.2.2<=g L r.1+x; lia
   .rename_i e; rw[NS e]; change g L r.2.1+x+r.2.2<=g L r.1+x; lia
  .rw[sg i i0];change _<=g L i+x;split;.rename_i e; rw[e]; show Oo _
   .lia
 have pl:(it rs n<|put L m<|g L m+x).length=n:=(my _ _ _).trans sl;have pm:Met rs (g<|it rs n<|put L m<|g L m+x):=iy k pl st;have pu:=tM k n _ sl;have p0: ∀i:u7,0<=i->i < n->0<=g (it rs n<|put L m<|g L m+x) i:=λi i0 i1=>by
  have:=pu i i0 i1;rw[sg i i0] at this;have h1:=l3 i i0 i1;have h2:=l3 m m0 m1;split at this <;> lia
 have k': ∀r∈rs++[(m,-1,g L m+x)],Sh n r:=λr hr=>by
  rcases Oe.mp hr with hr | hr
  .exact k r hr
  .rw[NZ.mp hr];have:=l3 m m0 m1;erw[m0,m1,by change (-1:u7)<= -1; decide,by change (-1:u7) < n; lia,by change 0<=g L m+x; lia]
 have pm':Met (rs++[(m,-1,g L m+x)]) (g<|it rs n<|put L m<|g L m+x):=λr hr=>by
  rcases Oe.mp hr with hr | hr
  .exact pm r hr
  .rw[NZ.mp hr];have:=pu m m0 m1;rw[sg m m0,NW rfl] at this;show this
 obtain⟨W,eW⟩:=lP k' p0 pm';obtain⟨w1,w2,w3,w4⟩:=bG k' eW;erw[k',W,eW,w1,λv hv=>?_];have a:=w4 _ p0 pm' (v:u6) Y Y;have wm:Met rs (g W):=λr hr=>w2 r (Oy _ hr);have b:=sN k wm n _ sl (λi i0 i1=>by
  rw[sg i i0];split
  .rename_i e;rw[e];show w2 _ (Ot _ (NZ.mpr rfl))
  .exact l4 _ w3 wm i i0 i1) (v:u6) Y Y
 have e:g W (v:u6)=g (tE n rs L m x) (v:u6):=Int.le_antisymm a b;rw[e];show (Io k h m0 m1 x0).2 v hv
def Te (w:u7):rW u7->u7
 | none=>0
 | some c=>if c < w then w - c else 0
theorem AY (k: ∀r∈rs,Sh n r) (h:aZ n rs=some L) (m0:0<=m) (m1:m < n) (hw:Within n L cs) (hx: ∀(v:u6) (c:u7),cs.getD v none=some c->c < x){W:qx u7}
  (eW: ∀v:u6,v < n->g W (v:u6)=if 0<=aH n rs m.toNat v then mx (g L (v:u6)) (g L m+x+aH n rs m.toNat v) else g L (v:u6)) {M:u7} (hM: ∀v:u6,v < n->Te (g W (v:u6)) (cs.getD v none)<=M) :
  (M=0->fO n rs L cs m none)/\ ∀stop,stop < n->Te (g W (stop:u6)) (cs.getD stop none)=M->(∀j,j < stop->Te (g W (j:u6)) (cs.getD j none)≠M)->M≠0->fO n rs L cs m (some (x - M,stop)):=by
 obtain⟨l1,l2,l3,l4⟩:=bG k h;have sd:=iV k l2;have em:((m.toNat:u6):u7)=m:=Y;have hm:=l3 m m0 m1;have reach: ∀(v:u6) (c:u7),v < n->cs.getD v none=some c->0<=aH n rs m.toNat v->Te (g W (v:u6)) (cs.getD v none)=g L m+x+aH n rs m.toNat v - c/\c < g L m+x+aH n rs m.toNat v:=λv c hv hc hf=>by
  have h1:=hw v c hv hc;have h2:=hx v c hc;rw[eW v hv,NW hf,hc];have e:mx (g L (v:u6)) (g L m+x+aH n rs m.toNat v)=g L m+x+aH n rs m.toNat v:=by unfold mx; split <;> lia
  rw[e];unfold Te;erw[NW Y,Y]
 have out: ∀v:u6,v < n->Te (g W (v:u6)) (cs.getD v none)≠0-> ∃c,cs.getD v none=some c/\0<=aH n rs m.toNat v:=λv hv hne=>by
  cases ec:cs.getD v none with
  | none=>rw[ec] at hne; show wz rfl hne
  | some c =>
   erw[c,Z,OO λhf=>hne ?_];have h1:=hw v c hv ec;rw[eW v hv,NS hf,ec];unfold Te;show NS Y
 erw[λz v c hv hc=>?_,λstop hs he hf hne=>?_]
 .show OO λhf=>?_;obtain⟨r1,r2⟩:=reach v c hv hc Y;have:=hM v hv;lia
 .obtain⟨c,hc,hfar⟩:=out stop hs (by rw[he]; show hne);obtain⟨r1,r2⟩:=reach stop c hs hc hfar;have s1:=sd m.toNat stop hfar;rw[em] at s1;have s2:=hw stop c hs hc;erw[Y,hs,⟨c,hc,hfar,Y⟩,λv c' hv hc' hf'=>?_,λv c' hv hc' hf'=>?_]
  .obtain⟨q1,q2⟩:=reach v c' hv hc' hf';have:=hM v hv;lia
  .obtain⟨q1,q2⟩:=reach v c' Y hc' hf';have:=hM v Y;have:=hf v hv;lia
end MA
namespace MA
variable {n:u6}{rs:qx ao}{L lv:qx u7}{m:u7}
variable{q:ao}{ps:qx u6}
theorem nX {i:u6}(h:rs[i]?=some q):Sm rs (i::ps)=q.1::Sm rs ps:=by
 have e:i::ps=[i]++ps:=rfl;rw[e];unfold Sm;rw[Od];have:=qt h;unfold Sm at this;rw[this];rfl
theorem Tp.SN (w:SF n rs L) (m0:0<=m) (m1:m < n){v:u7}{ps:qx u6}(h:Tp rs L m v ps):0<=v/\v < n:=by
 cases h with
 | nil=>exact⟨m0,m1⟩
 | cons hi t _ =>
  obtain⟨a1,a2,a3,a4,a5⟩:=w.k _<|NU hi;have:=t.1;erw[Y,a4]
theorem Tp.xi (w:SF n rs L){v:u7}{ps:qx u6}(h:Tp rs L m v ps): ∀x∈Sm rs ps,0<=x/\x < n:=by
 induction h with
 | nil=>intro x hx; cases hx
 | cons hi t _ ih =>
  intro x hx;rw[nX hi] at hx;rcases N5.mp hx with rfl | hx
  .have:=w.k _<|NU hi;erw[this.1,this.2.1]
  .exact ih x hx
theorem Tp.cut {v:u7}(h:Tp rs L m v ps):(v::Sm rs ps).Nodup-> ∀x∈v::Sm rs ps,∃qs,Tp rs L m x qs/\qs.length<=ps.length/\(x::Sm rs qs).Nodup:=by
 induction h with
 | nil =>
  intro nd x hx;rcases N5.mp hx with rfl | hx
  .nomatch [],.nil,N0 _,nd
  .cases hx
 | @cons i q ps hi t h ih =>
  intro nd x hx;rcases N5.mp hx with rfl | hx
  .nomatch i::ps,.cons hi t h,N0 _,nd
  .rw[nX hi] at hx nd;obtain⟨qs,a,b,c⟩:=ih (OS.mp nd).2 x hx;erw[qs,a,QW b,c]
theorem Tp.short {v:u7}(h:Tp rs L m v ps): ∃qs,Tp rs L m v qs/\qs.length<=ps.length/\(v::Sm rs qs).Nodup:=by
 induction h with
 | nil=>exact⟨[],.nil,N0 _,OS.mpr ⟨λz=>(by cases z),Qi⟩⟩
 | @cons i q ps hi t h ih =>
  obtain⟨qs,a,b,c⟩:=ih;by_cases hm:q.2.1∈q.1::Sm rs qs
  .obtain⟨us,a2,b2,c2⟩:=a.cut c _ hm;erw[us,a2,QW<|Ob b2 b,c2]
  .nomatch i::qs,.cons hi t a,QC b,by rw[nX hi]; show OS.mpr ⟨hm,c⟩
theorem Tp.SX (w:SF n rs L) (m0:0<=m) (m1:m < n){v:u7}{ps:qx u6}(h:Tp rs L m v ps): ∃qs,Tp rs L m v qs/\qs.length<=ps.length/\qs.length < n:=by
 obtain⟨qs,a,b,c⟩:=h.short;have h1:=xr n _ c λx hx=>by
  rcases N5.mp hx with rfl | hx
  .exact a.SN w m0 m1
  .exact a.xi w x hx
 have h3:(Sm rs qs).length=qs.length:=pX;rw[Oh] at h1;erw[qs,a,b,Y]
def SD (L lv:qx u7) (q:ao):qx u7:=if 0<=q.2.1/\g L q.1=g L q.2.1+q.2.2 then put lv q.2.1 (mn (g lv q.2.1) (g lv q.1+1)) else lv
def S5 (L:qx u7) (rs:qx ao) (lv:qx u7):u6->qx u7
 | 0=>lv
 | k+1=>rs.foldl (SD L) (S5 L rs lv k)
structure Lf (n:u6) (rs:qx ao) (L:qx u7) (m:u7) (lv:qx u7):Prop where
 len:lv.length=n
 lo: ∀v:u7,0<=v->v < n->0<=g lv v
 hi: ∀v:u7,0<=v->v < n->g lv v<=99
 ch: ∀v:u7,0<=v->v < n->g lv v < 99-> ∃ps,Tp rs L m v ps/\(ps.length:u7)=g lv v
theorem Lf.step (w:SF n rs L) (c:Lf n rs L m lv){q:ao}{i:u6}(hi:rs[i]?=some q):Lf n rs L m (SD L lv q)/\Le n (g (SD L lv q)) (g lv)/\(0<=q.2.1->g L q.1=g L q.2.1+q.2.2->g (SD L lv q) q.2.1<=g lv q.1+1):=by
 obtain⟨a1,a2,a3,a4,a5⟩:=w.k _<|NU hi;unfold SD;split
 case isFalse h=>exact⟨c,λ_ _ _=>Oo _,λa b=>wz ⟨a,b⟩ h⟩
 case isTrue h =>
  obtain⟨b0,e⟩:=h;have gp: ∀(u j:u7),0<=j->g (MA.put lv q.2.1 u) j=if j=q.2.1 then u else g lv j:=λu j hj=>fJ b0 (by rw[c.len]; show a4) hj;have l1:=c.lo q.1 a1 a2;have l2:=c.lo q.2.1 b0 a4;have u2:=c.hi q.2.1 b0 a4;erw[⟨gC.trans c.len,λv v0 v1=>?_,λv v0 v1=>?_,λv v0 v1 hv=>?_⟩,λv v0 v1=>?_,λ_ _=>?_]
  .rw[gp _ v v0];split;.unfold mn; split <;> lia
   .exact c.lo v v0 v1
  .rw[gp _ v v0];split;.unfold mn; split <;> lia
   .exact c.hi v v0 v1
  .rw[gp _ v v0] at hv ⊢;by_cases ev:v=q.2.1
   .rw[NW ev] at hv ⊢;rw[ev];unfold mn at hv ⊢;split
    .rename_i l;rw[NW l] at hv;obtain⟨ps,p1,p2⟩:=c.ch q.1 a1 a2 Y;erw[i::ps,.cons hi ⟨Y,e⟩ p1,?_];rw[Oh,<-p2];rfl
    .rename_i l;rw[NS l] at hv;show c.ch _ b0 a4 hv
   .rw[NS ev] at hv ⊢;show c.ch v v0 v1 hv
  .rw[gp _ v v0];split;.rename_i ev; rw[ev]; unfold mn; split <;> lia
   .exact Oo _
  .rw[gp _ _ b0,NW rfl];unfold mn; split <;> lia
theorem Lf.run (w:SF n rs L): ∀(us:qx ao) (lv:qx u7),(∀q∈us,q∈rs)->Lf n rs L m lv->Lf n rs L m (us.foldl (SD L) lv)/\Le n (g (us.foldl (SD L) lv)) (g lv)/\ ∀q∈us,0<=q.2.1->g L q.1=g L q.2.1+q.2.2->g (us.foldl (SD L) lv) q.2.1<=g lv q.1+1
 | [],lv,_,c=>⟨c,λ_ _ _=>Oo _,λq hq=>by cases hq⟩
 | r::us,lv,h,c=>by
  obtain⟨i,hi,ei⟩:=O2.mp<|h r N6;have hi':rs[i]?=some r:=by rw[NV hi,ei]
  obtain⟨c1,l1,s1⟩:=c.step w hi';obtain⟨c2,l2,s2⟩:=Lf.run w us _ (λq hq=>h q<|N4 _ hq) c1;erw[c2,λv v0 v1=>OJ (l2 v v0 v1)<|l1 v v0 v1,λq hq b0 e=>?_];obtain⟨a1,a2,a3,a4,a5⟩:=w.k _<|h q hq;rcases N5.mp hq with rfl | hq
  .exact OJ (l2 _ b0 a4)<|s1 b0 e
  .have:=s2 q hq b0 e;have:=l1 q.1 a1 a2;change g (us.foldl (SD L)<|SD L lv r) q.2.1<=_;lia
theorem yt (m0:0<=m) (m1:m < n):Lf n rs L m (put (wo n 99) m 0)/\g (put (wo n 99) m 0) m=0:=by
 have gr: ∀v:u7,0<=v->v < n->g (wo n 99) v=99:=λv v0 v1=>by
  unfold g;rw[NY,QS,NW Y];rfl
 have gp: ∀j:u7,0<=j->g (MA.put (wo n 99) m 0) j=if j=m then 0 else g (wo n 99) j:=λj hj=>fJ m0 (by rw[O4]; show m1) hj;show⟨⟨gC.trans<|O4 ..,λv v0 v1=>?_,λv v0 v1=>?_,λv v0 v1 h=>?_⟩,by rw[gp m m0,NW rfl]⟩;.rw[gp v v0,gr v v0 v1]; split <;> lia
 .rw[gp v v0,gr v v0 v1]; split <;> lia
 .rw[gp v v0,gr v v0 v1] at h ⊢;by_cases e:v=m
  .rw[NW e,e];erw[[],.nil,Z]
  .rw[NS e] at h;lia
theorem rQ (w:SF n rs L) (m0:0<=m) (m1:m < n): ∀k:u6,Lf n rs L m (S5 L rs (put (wo n 99) m 0) k)/\ ∀v ps,Tp rs L m v ps->ps.length<=k->g (S5 L rs (put (wo n 99) m 0) k) v<=(ps.length:u7)
 | 0=>⟨(yt m0 m1).1,λv ps h hl=>by
  have e:ps=[]:=Pk Y;subst e;rw[h.nil_eq];show Int.le_of_eq (yt (rs:=rs) (L:=L) m0 m1).2⟩
 | k+1=>by
  obtain⟨c,ih⟩:=rQ w m0 m1 k;obtain⟨c2,l2,s2⟩:=c.run w rs _ λ_ h=>h;erw[c2,λv ps h hl=>?_];cases h with
  | nil =>
   have h1:=ih m [] .nil<|ON _;have h2:=l2 m m0 m1;change g (rs.foldl (SD L) _) m<=_;lia
  | @cons i q ps hi t h =>
   have hq:=NU hi;obtain⟨a1,a2,a3,a4,a5⟩:=w.k _ hq;have t1:=t.1;have h1:=s2 q hq Y t.2;have h2:=ih q.1 ps h<|Nat.le_of_succ_le_succ hl;change g (rs.foldl (SD L) _) q.2.1<=_;rw[Oh];lia
def SA (n:u6) (lv:qx u7) (v:u7):rW u6:=if 0<=v/\v < n/\g lv v < 99 then some (g lv v).toNat else none
theorem IW (w:SF n rs L) (m0:0<=m) (m1:m < n) (n9:n<=90):iu rs L m (SA n (S5 L rs (put (wo n 99) m 0) n)):=by
 obtain⟨c,h⟩:=rQ w m0 m1 n;erw[λv d e=>?_,λv ps t=>?_]
 .unfold SA at e;split at e
  .rename_i hv;cases e;obtain⟨ps,p1,p2⟩:=c.ch v hv.1 hv.2.1 hv.2.2;erw[ps,p1,Y]
  .cases e
 .obtain⟨qs,a,b,d⟩:=t.SX w m0 m1;obtain⟨v0,v1⟩:=a.SN w m0 m1;have:=h v qs a Y;have:=c.lo v v0 v1;unfold SA;rw[NW ⟨v0,v1,Y⟩];erw[_,Z,Y]
theorem yu: ∀(ps qs:qx u6),ps.length=qs.length->ps=qs\/lO ps qs\/lO qs ps
 | [],[],_=> .inl rfl
 | p::ps,q::qs,h=>by
  by_cases e:p=q
  .subst e;rcases yu ps qs (Rm h) with z | z | z
   .exact .inl (by rw[z])
   .obtain⟨k,x,y,h1,h2,h3,h4⟩:=z;show .inr (.inl ⟨k+1,x,y,h1,h2,h3,λj hj=>by
     cases j with
     | zero=>rfl
     | succ j=>show h4 j Y⟩)
   .obtain⟨k,x,y,h1,h2,h3,h4⟩:=z;show .inr (.inr ⟨k+1,x,y,h1,h2,h3,λj hj=>by
     cases j with
     | zero=>rfl
     | succ j=>show h4 j Y⟩)
  .rcases Nat.lt_or_gt_of_ne e with z | z
   .exact .inr<|.inl ⟨0,p,q,Z,Z,z,λj hj=>wz hj<|OU j⟩
   .exact .inr<|.inr ⟨0,q,p,Z,Z,z,λj hj=>wz hj<|OU j⟩
theorem cK.one {ps qs:qx u6}(h1:cK rs L m ps) (h2:cK rs L m qs):ps=qs:=by
 rcases h1 with⟨z1,e1⟩ | ⟨z1,c1,s1,m1⟩
 .rcases h2 with⟨z2,e2⟩ | ⟨z2,_⟩
  .rw[e1,e2]
  .lia
 .rcases h2 with⟨z2,_⟩ | ⟨z2,c2,s2,m2⟩
  .lia
  .obtain⟨a1,b1⟩:=m1 qs c2 s2;obtain⟨a2,b2⟩:=m2 ps c1 s1;have el:ps.length=qs.length:=Y;rcases yu ps qs el with z | z | z
   .exact z
   .exact wz z<|b2 el
   .exact wz z<|b1 el.symm
def nP (rs:qx ao) (lv:qx u7) (fit:ao->Prop) (k:u6) (s:u7):Prop:=(s= -1/\ ∀(j:u6) (q:ao),j < k->rs[j]?=some q-> ¬fit q) \/
 ∃(i:u6) (q:ao),s=(i:u6)/\i < k/\rs[i]?=some q/\fit q/\(∀(j:u6) (q':ao),j < k->rs[j]?=some q'->fit q'->g lv q.1<=g lv q'.1)/\ ∀(j:u6) (q':ao),j < i->rs[j]?=some q'->fit q'->g lv q.1 < g lv q'.1
variable{fit:ao->Prop}
theorem nP.keep {k:u6}{s:u7}(b:nP rs lv fit k s) (hk:rs[k]?=some q) (h: ¬fit q\/ ∃(i:u6) (q':ao),s=(i:u6)/\rs[i]?=some q'/\g lv q'.1<=g lv q.1):nP rs lv fit (k+1) s:=by
 rcases b with⟨e,b⟩ | ⟨i,q0,e,hi,hq,hf,h1,h2⟩
 .rcases h with h | ⟨i,q',e',_⟩
  .show .inl ⟨e,λj q' hj hq'=>?_⟩;by_cases z:j=k
   .rw[z,hk] at hq';cases hq';show h
   .exact b j q' Y hq'
  .lia
 .show .inr ⟨i,q0,e,Y,hq,hf,λj q' hj hq' hf'=>?_,h2⟩;by_cases z:j=k
  .rw[z,hk] at hq';cases hq';rcases h with h | ⟨i',q'',e',hq'',hl⟩
   .exact wz hf' h
   .have:i'=i:=Y;rw[this,hq] at hq'';cases hq'';show hl
  .exact h1 j q' Y hq' hf'
theorem nP.take {k:u6}{s:u7}(b:nP rs lv fit k s) (hk:rs[k]?=some q) (hf:fit q) (h:s < 0\/ ∃(i:u6) (q':ao),s=(i:u6)/\rs[i]?=some q'/\g lv q.1 < g lv q'.1):nP rs lv fit (k+1) (k:u6):=by
 have lt: ∀(j:u6) (q':ao),j < k->rs[j]?=some q'->fit q'->g lv q.1 < g lv q'.1:=λj q' hj hq' hf'=>by
  rcases b with⟨e,b⟩ | ⟨i,q0,e,hi,hq,hf0,h1,h2⟩
  .exact wz hf'<|b j q' hj hq'
  .rcases h with h | ⟨i',q'',e',hq'',hl⟩
   .lia
   .have:i'=i:=Y;rw[this,hq] at hq'';cases hq'';have:=h1 j q' hj hq' hf';lia
 show .inr ⟨k,q,Z,PY k,hk,hf,λj q' hj hq' hf'=>?_,lt⟩;by_cases z:j=k
 .rw[z,hk] at hq';cases hq';show Oo _
 .exact Xe<|lt j q' Y hq' hf'
theorem A9 (w:SF n rs L) (c:Lf n rs L m lv) (D:iu rs L m (SA n lv)) (fo:lh n rs L) (m0:0<=m) (m1:m < n) (hz:0 < g L m){s:u7}(b:nP rs lv (λq=>g L q.1=q.2.2) rs.length s): ∃(i:u6) (q:ao) (d:u6),s=(i:u6)/\rs[i]?=some q/\SA n lv q.1=some d/\ ∀ps,Gr rs L (SA n lv) m q.1 ps->cK rs L m (i::ps):=by
 obtain⟨_,h0 | ⟨qs,h1,h2⟩⟩:=fo m m0 m1;.lia
 obtain⟨j,q2,qs',rfl,a2,b2,t2⟩:=xq w h1 h2;have jl:=(NX.mp a2).1;have val: ∀ {v:u7}{d:u6},SA n lv v=some d->g lv v=d/\0<=v/\v < n/\g lv v < 99:=λ{v d} e=>by
  unfold SA at e;split at e
  .rename_i hv;cases e;have:=c.lo v hv.1 hv.2.1;erw[Y,hv]
  .cases e
 obtain⟨d2,e2,l2⟩:=D.lo _ _ t2;obtain⟨v2,_,_,u2⟩:=val e2;rcases b with⟨e,b⟩ | ⟨i,q,e,hi,hq,hf,b1,b3⟩
 .exact wz b2.symm<|b j q2 jl a2
 have a:=w.k _<|NU hq;have le:=b1 j q2 jl a2 b2.symm;have lo:=c.lo q.1 a.1 a.2.1;have ed:SA n lv q.1=some (g lv q.1).toNat:=by unfold SA; rw[NW ⟨a.1,a.2.1,Y⟩]
 erw[i,q,_,e,hq,ed,λps hg=>rV w D hz ⟨q,_,hq,hf.symm,ed,λj' q' d' hj' he' hd'=>?_,λj' q' hj' hq' he' hd'=>?_⟩ hq hg]
 .obtain⟨v',_⟩:=val hd';have:=b1 j' q' (NX.mp hj').1 hj' he'.symm;lia
 .obtain⟨v',_⟩:=val hd';have:=b3 j' q' hj' hq' he'.symm;lia
theorem DD (w:SF n rs L) (c:Lf n rs L m lv) (D:iu rs L m (SA n lv)) (m0:0<=m) (m1:m < n){v s:u7}{d:u6}(hv:SA n lv v=some d) (hm:v≠m) (b:nP rs lv (λq=>q.2.1=v/\g L q.1=g L q.2.1+q.2.2) rs.length s): ∃(i:u6) (q:ao) (d':u6),s=(i:u6)/\rs[i]?=some q/\d' < d/\SA n lv q.1=some d'/\ ∀ps,Gr rs L (SA n lv) m q.1 ps->Gr rs L (SA n lv) m v (i::ps):=by
 have val: ∀ {v:u7}{d:u6},SA n lv v=some d->g lv v=d/\0<=v/\v < n/\g lv v < 99:=λ{v d} e=>by
  unfold SA at e;split at e
  .rename_i hv;cases e;have:=c.lo v hv.1 hv.2.1;erw[Y,hv]
  .cases e
 obtain⟨ev,v0,v1,v9⟩:=val hv;obtain⟨ps,t,el⟩:=D.ex _ _ hv;have low: ∀(q':ao) (j:u6) (d':u6),rs[j]?=some q'->q'.2.1=v->g L q'.1=g L q'.2.1+q'.2.2->SA n lv q'.1=some d'->d<=d'+1:=λq' j d' hj eb et e=>by
  obtain⟨qs,t',l'⟩:=D.ex _ _ e;have t2:Tp rs L m q'.2.1 (j::qs):= .cons hj ⟨Y,et⟩ t';rw[eb] at t2;obtain⟨d3,e3,l3⟩:=D.lo _ _ t2;rw[hv] at e3;cases e3;rw[Oh] at l3;lia
 cases t with
 | nil=>show wz rfl hm
 | @cons j q2 qs hj t2 h2 =>
  have jl:=(NX.mp hj).1;rw[Oh] at el;obtain⟨d2,e2,l2⟩:=D.lo _ _ h2;obtain⟨w2,_,_,u2⟩:=val e2;rcases b with⟨e,b⟩ | ⟨i,q,e,hi,hq,⟨hb,ht⟩,b1,b3⟩
  .exact wz ⟨Z,t2.2⟩<|b j q2 jl hj
  have a:=w.k _<|NU hq;have le:=b1 j q2 jl hj ⟨Z,t2.2⟩;have lo:=c.lo q.1 a.1 a.2.1;have ed:SA n lv q.1=some (g lv q.1).toNat:=by unfold SA; rw[NW ⟨a.1,a.2.1,Y⟩]
  have lw:=low q i _ hq hb ht ed;erw[i,q,_,e,hq,Y,ed,λps hg=> .cons ⟨q,(g lv q.1).toNat,hq,hb,⟨Y,ht⟩,?_,ed,λj' q' hj' hq' he' ht' hd'=>?_⟩ hq hg]
  .rw[hv];congr 1;lia
  .obtain⟨v',_⟩:=val hd';have:=b3 j' q' hj' hq' ⟨he',ht'.2⟩;lia
end MA
namespace L2
open PySem PySem.Spec PyProof.Rows
inductive E3 (x:V) (vs:qx V) (H:Hp) (Q:VK):Prop | mk (l:qA) (xs:qx va) (y:va) (j:u6) (e0:x= .ref l) (e1:vs=[.str y]) (e2:H l=some (.lst (xs.map V.str))) (e3:xs[j]?=some y) (e4:(∀m,m < j->xs[m]?≠some y)) (q:Q (.int (j:u6)) H)
def Hy:V->qx V->Hp->VK->Prop:=λx vs H Q=>E3 x vs H Q
variable{X:Cx}
theorem fk:TB X "list.index" Hy:=by
 intro R1 s O H x vs v us Q I rx rv h;obtain⟨l,xs,y,j,rfl,rfl,hH,hj,hno,q⟩:=h;cases rx;obtain⟨u,rfl,t,rfl⟩:=rv.one;obtain⟨z,its,n,r,hl,e⟩:=I.lH hH;have hlen:its.length=xs.length:=by rw[<-hl,NR]
 have val: ∀m (hm:m < its.toArray.size),∃k t,xs[m]?=some k/\its.toArray[m]=HG k t:=λm hm=>by
  have hm':m < xs.length:=by simpa [hlen] using hm
  obtain⟨u,hu,t,rfl⟩:=r.get (i:=m) (x:= .str xs[m]) (by rw[N7,NV hm']; rfl);erw[xs[m],t,NV hm',?_];have:=(NX.mp hu).2;simpa using this
 have hjl:j < xs.length:=(NX.mp hj).1
 let eq:qT->yW:=λw=>match w with | .str k _=>k == y | _=>false
 have he: ∀w,w∈its.toArray->Vp w (.str y t) (eq w):=λw hw=>by
  obtain⟨m,hm,rfl⟩:=Q9.mp hw;obtain⟨k,t',_,e2⟩:=val m hm;rw[e2];show λprog w A E s Q h=>RE k t' y t prog w E Q h
 have hjs:j < its.toArray.size:=by rw[Og,hlen]; show hjl
 show PF F.slot_list_index ⟨_,e,Z⟩ V9 (VQ _ _) (VR l its.toArray n (.str y t) eq he j hjs ?_ ?_ ?_) ⟨e,?_⟩
 .rw[hl] at z;have:its.length<=sizeLine:=Y;have h2:sizeLine < 2 ^ 62:=by decide
  lia
 .obtain⟨k,t',e1,e2⟩:=val j hjs;rw[e2];rw[hj] at e1;cases e1;simp[eq]
 .intro m hm hmj;obtain⟨k,t',e1,e2⟩:=val m hm;rw[e2];have:k≠y:=λz=>hno m hmj<|z▸e1;simpa [eq] using this
 .nomatch .int (j:u6),H,I.tok _,⟨_,Z⟩,q
inductive F2 {α β:Type} (R:α->β->Prop):qx α->qx β->Prop
 | nil:F2 R [] []
 | cons {a b as bs}:R a b->F2 R as bs->F2 R (a::as) (b::bs)
namespace F2
variable {α β:Type}{R S:α->β->Prop}{as as':qx α}{bs bs':qx β}
theorem length (h:F2 R as bs):as.length=bs.length:=by induction h with
 | nil=>rfl
 | cons _ _ ih=>rw[Oh,Oh,ih]
theorem get (h:F2 R as bs): ∀ {i:u6}{a:α},as[i]?=some a-> ∃b,bs[i]?=some b/\R a b:=by
 induction h with
 | nil=>intro i a e; cases e
 | @cons a0 b0 _ _ r _ ih =>
  intro i a e;cases i with
  | zero=>cases e; erw[_,Z,r]
  | succ i=>show ih e
theorem at' (h:F2 R as bs): ∀ {i:u6}{b:β},bs[i]?=some b-> ∃a,as[i]?=some a/\R a b:=by
 induction h with
 | nil=>intro i a e; cases e
 | @cons a0 b0 _ _ r _ ih =>
  intro i a e;cases i with
  | zero=>cases e; erw[_,Z,r]
  | succ i=>show ih e
theorem append (h:F2 R as bs) (h':F2 R as' bs'):F2 R (as++as') (bs++bs'):=by
 induction h with
 | nil=>show h'
 | cons r _ ih=>show .cons r ih
theorem take (h:F2 R as bs): ∀k,F2 R (as.take k) (bs.take k):=by
 induction h with
 | nil=>intro k; rw[Q2,Q2]; show .nil
 | cons r _ ih =>
  intro k;cases k with
  | zero=>show .nil
  | succ k=>show .cons r (ih k)
theorem drop (h:F2 R as bs): ∀k,F2 R (as.drop k) (bs.drop k):=by
 induction h with
 | nil=>intro k; rw[RN,RN]; show .nil
 | cons r hh ih =>
  intro k;cases k with
  | zero=>show .cons r hh
  | succ k=>show ih k
theorem imp (h:F2 R as bs) (f: ∀a b,R a b->S a b):F2 S as bs:=by
 induction h with
 | nil=>show .nil
 | cons r _ ih=>show .cons (f _ _ r) ih
theorem mem (h:F2 R as bs): ∀ {a:α},a∈as-> ∃b∈bs,R a b:=by
 induction h with
 | nil=>intro a e; cases e
 | cons r _ ih =>
  intro a e;rcases N5.mp e with rfl | e
  .nomatch _,N6,r
  .obtain⟨b,hb,hr⟩:=ih e;erw[b,N4 _ hb,hr]
end F2
abbrev Mem:=va×rW u7
abbrev Sn:=va×va×rW va×u7
structure Sb where
 ms:qx Mem
 ds:qx Sn
 ks:qx (qx Mem×qx Sn)
def hZ:rW va->V
 | none=> .non
 | some s=> .str s
def lA (d:Sn):qx V:=[.str d.1,.str d.2.1,hZ d.2.2.1,.int d.2.2.2]
def pf (m:Mem):qx V:=[.str m.1,dW m.2]
def Bb (is:qx qA) (H:Hp) (v:V) (m:Mem):Prop:= ∃t,v= .ref t/\t∈is/\H t=some (.tup (pf m))
def B5 (is:qx qA) (H:Hp) (v:V) (d:Sn):Prop:= ∃t,v= .ref t/\t∈is/\H t=some (.tup (lA d))
def MR (is:qx qA) (H:Hp) (p:qA) (ms:qx Mem):Prop:=p∈is/\ ∃xs,H p=some (.lst xs)/\F2 (Bb is H) xs ms
def DR (is:qx qA) (H:Hp) (p:qA) (ds:qx Sn):Prop:=p∈is/\ ∃xs,H p=some (.lst xs)/\F2 (B5 is H) xs ds
def wN (is:qx qA) (H:Hp) (v:V) (k:qx Mem×qx Sn):Prop:= ∃t p q,v= .ref t/\t∈is/\H t=some (.tup [.ref p,.ref q])/\MR is H p k.1/\DR is H q k.2
section
variable {is is':qx qA}{H H':Hp}{p q:qA}{ms:qx Mem}{ds:qx Sn}{v:V}
theorem Bb.mono {m:Mem}(h:Bb is H v m) (si: ∀b∈is,b∈is') (sh: ∀b o,b∈is->H b=some o->H' b=some o):Bb is' H' v m:=by
 obtain⟨t,e,a,b⟩:=h;erw[t,e,si _ a,sh _ _ a b]
theorem B5.mono {m:Sn}(h:B5 is H v m) (si: ∀b∈is,b∈is') (sh: ∀b o,b∈is->H b=some o->H' b=some o):B5 is' H' v m:=by
 obtain⟨t,e,a,b⟩:=h;erw[t,e,si _ a,sh _ _ a b]
theorem MR.mono (h:MR is H p ms) (si: ∀b∈is,b∈is') (sh: ∀b o,b∈is->H b=some o->H' b=some o):MR is' H' p ms:=by
 obtain⟨a,xs,b,c⟩:=h;erw[si _ a,xs,sh _ _ a b,c.imp λ_ _ r=>r.mono si sh]
theorem DR.mono (h:DR is H p ds) (si: ∀b∈is,b∈is') (sh: ∀b o,b∈is->H b=some o->H' b=some o):DR is' H' p ds:=by
 obtain⟨a,xs,b,c⟩:=h;erw[si _ a,xs,sh _ _ a b,c.imp λ_ _ r=>r.mono si sh]
theorem wN.mono {k:qx Mem×qx Sn}(h:wN is H v k) (si: ∀b∈is,b∈is') (sh: ∀b o,b∈is->H b=some o->H' b=some o):wN is' H' v k:=by
 obtain⟨t,p,q,e,a,b,c,d⟩:=h;erw[t,p,q,e,si _ a,sh _ _ a b,c.mono si sh,d.mono si sh]
end
abbrev lV (p q r:qA):qx (va×V):=[("member_rows",.ref p),("demand_rows",.ref q),("kept_deeds",.ref r)]
structure Su (C:qA) (H:Hp) (h dx p q r:qA) (is:qx qA) (kv:qx V) (S:Sb):Prop where
 n1:dx≠h
 n2:r≠h
 n3:r≠dx
 nh:h∉is
 nd:dx∉is
 nr:r∉is
 ih:H h=some (.ins C dx (lV p q r))
 id:H dx=some (.own h)
 ir:H r=some (.lst kv)
 ks:F2 (wN is H) kv S.ks
 ms:MR is H p S.ms
 ds:DR is H q S.ds
 al: ∀b∈is,∃o,H b=some o
def HI (C:qA) (H:Hp) (h:qA) (os:qx qA) (S:Sb):Prop:= ∃dx p q r is kv,os=h::dx::r::is/\Su C H h dx p q r is kv S
def Ll (os:qx qA) (H H':Hp):Prop:= ∀b o,b∉os->H b=some o->H' b=some o
def cq (C:qA) (H:Hp) (h:qA) (os:qx qA) (S:Sb) (H':Hp):Prop:=Ll os H H'/\ ∃os',HI C H' h os' S/\ ∀b∈os',b∈os\/H b=none
section
variable {C h dx p q r:qA}{H H':Hp}{is os:qx qA}{kv:qx V}{S:Sb}
theorem Su.sh (I:Su C H h dx p q r is kv S){b:qA}(hb:b∈is):b≠h/\b≠dx/\b≠r:=⟨λz=>I.nh (z▸hb),λz=>I.nd (z▸hb),λz=>I.nr (z▸hb)⟩
theorem Su.Aw (I:Su C H h dx p q r is kv S) (s: ∀b o,b∈h::dx::r::is->H b=some o->H' b=some o):Su C H' h dx p q r is kv S:=by
 have si: ∀b o,b∈is->H b=some o->H' b=some o:=λb o hb e=>s b o (by simp[hb]) e;exact⟨I.n1,I.n2,I.n3,I.nh,I.nd,I.nr,s _ _ uD I.ih,s _ _ uD I.id,s _ _ uD I.ir,I.ks.imp λ_ _ z=>z.mono (λ_ z=>z) si,I.ms.mono (λ_ z=>z) si,I.ds.mono (λ_ z=>z) si,λb hb=>by
  obtain⟨o,e⟩:=I.al b hb;exact⟨o,si b o hb e⟩⟩
theorem Su.same (I:Su C H h dx p q r is kv S) (s:ag H H'):Su C H' h dx p q r is kv S:=I.Aw λb o _ e=>s b o e
theorem HI.grow (i:HI C H h os S) (s: ∀b o,b∈os->H b=some o->H' b=some o):HI C H' h os S:=by
 obtain⟨dx,p,q,r,is,kv,rfl,I⟩:=i;erw[dx,p,q,r,is,kv,Z,I.Aw s]
theorem HI.has (i:HI C H h os S): ∀b∈os,∃o,H b=some o:=by
 obtain⟨dx,p,q,r,is,kv,rfl,I⟩:=i;intro b hb;rcases N5.mp hb with rfl | hb
 .nomatch _,I.ih
 rcases N5.mp hb with rfl | hb
 .nomatch _,I.id
 rcases N5.mp hb with rfl | hb
 .nomatch _,I.ir
 .exact I.al b hb
theorem cq.of (i:HI C H h os S) (s:ag H H'):cq C H h os S H':=⟨λb o _ e=>s b o e,os,i.grow λb o _ e=>s b o e,λb hb=> .inl hb⟩
theorem Su.keep {t:qA}(I:Su C H h dx p q r is kv S) (nt:H t=none):Su C (upd (upd H t (.tup [.ref p,.ref q])) r (.lst (kv++[.ref t]))) h dx p q r (t::is) (kv++[.ref t]) ⟨S.ms,S.ds,S.ks++[(S.ms,S.ds)]⟩:=by
 have th:h≠t:=az I.ih nt;have td:dx≠t:=az I.id nt;have tr:r≠t:=az I.ir nt;have si: ∀b o,b∈is->H b=some o->(upd (upd H t<|.tup [.ref p,.ref q]) r<|.lst<|kv++[.ref t]) b=some o:=λb o hb e=>(ah (I.sh hb).2.2).trans<|(ah<|az e nt).trans e;have su: ∀b∈is,b∈t::is:=λb hb=>N4 _ hb;have ht:(upd (upd H t<|.tup [.ref p,.ref q]) r<|.lst<|kv++[.ref t]) t=some (.tup [.ref p,.ref q]):=(ah<|Ox tr).trans af;erw[I.n1,I.n2,I.n3,?_,?_,?_,?_,?_,af,?_,I.ms.mono su si,I.ds.mono su si,λb hb=>?_]
 .intro z; rcases N5.mp z with z | z
  .exact th z
  .exact I.nh z
 .intro z; rcases N5.mp z with z | z
  .exact td z
  .exact I.nd z
 .intro z; rcases N5.mp z with z | z
  .exact tr z
  .exact I.nr z
 .exact (ah<|Ox I.n2).trans<|(ah th).trans I.ih
 .exact (ah<|Ox I.n3).trans<|(ah td).trans I.id
 .show (I.ks.imp λ_ _ z=>z.mono su si).append<|.cons ⟨t,p,q,Z,N6,ht,I.ms.mono su si,I.ds.mono su si⟩ .nil
 .rcases N5.mp hb with rfl | hb
  .nomatch _,ht
  .obtain⟨o,e⟩:=I.al b hb;erw[o,si b o hb e]
theorem Su.put {p' q':qA}{is':qx qA}{ms':qx Mem}{ds':qx Sn}(I:Su C H h dx p q r is kv S) (su: ∀b∈is,b∈is') (new: ∀b∈is',b≠h/\b≠dx/\b≠r) (al: ∀b∈is',∃o,H b=some o) (m:MR is' H p' ms') (d:DR is' H q' ds') :
  Su C (upd H h (.ins C dx (lV p' q' r))) h dx p' q' r is' kv ⟨ms',ds',S.ks⟩:=by
 have si: ∀b o,b∈is'->H b=some o->(upd H h<|.ins C dx<|lV p' q' r) b=some o:=λb o hb e=>(ah (new b hb).1).trans e;erw[I.n1,I.n2,I.n3,λz=>(new _ z).1 rfl,λz=>(new _ z).2.1 rfl,λz=>(new _ z).2.2 rfl,af,(ah I.n1).trans I.id,(ah I.n2).trans I.ir,?_,m.mono (λ_ z=>z) si,d.mono (λ_ z=>z) si,λb hb=>?_];.exact I.ks.imp λ_ _ z=>z.mono su λb o hb e=>si b o (su b hb) e
 .obtain⟨o,e⟩:=al b hb;erw[o,si b o hb e]
theorem Su.next (I:Su C H h dx p q r is kv S){H':Hp}{p' q':qA}{is':qx qA}{kv':qx V}{S':Sb}(I':Su C H' h dx p' q' r is' kv' S') (so: ∀b o,b≠h->b≠r->H b=some o->H' b=some o) (new: ∀b∈is',b∈is\/H b=none):cq C H h (h::dx::r::is) S' H':=by
 erw[λb o hb e=>so b o (λz=>hb (by simp[z])) (λz=>hb (by simp[z])) e,_,⟨dx,p',q',r,is',kv',Z,I'⟩,λb hb=>?_];simp only[N5] at hb ⊢;rcases hb with rfl | rfl | rfl | hb
 .exact .inl<|.inl rfl
 .exact .inl<|.inr<|.inl rfl
 .exact .inl<|.inr<|.inr<|.inl rfl
 .rcases new b hb with z | z
  .exact .inl<|.inr<|.inr<|.inr z
  .exact .inr z
end
def refs (xs:qx V):qx qA:=xs.filterMap λv=>match v with
 | .ref t=>some t
 | _=>none
theorem x3 {xs:qx V}{t:qA}:t∈refs xs↔V.ref t∈xs:=by
 unfold refs;rw[Qo];constructor
 .rintro⟨v,hv,e⟩;cases v <;> simp at e;subst e;show hv
 .exact λh=>⟨_,h,Z⟩
section
variable {C h dx p q r:qA}{H:Hp}{is:qx qA}{kv:qx V}{S:Sb}
def nT {α:Type}(f:α->qx V) (is:qx qA) (H3 H4:Hp) (v:V) (m:α):Prop:= ∃t,v= .ref t/\(t∈is\/H3 t=none)/\H4 t=some (.tup (f m))
theorem Su.rows {α:Type}{f:α->qx V}(I:Su C H h dx p q r is kv S){H4:Hp}(s4: ∀b o,b∈is->H b=some o->H4 b=some o){p':qA}(np:H p'=none){xs:qx V}(hp:H4 p'=some (.lst xs)){ms:qx α}(hx:F2 (nT f is H H4) xs ms) :
  (∀b∈p'::(refs xs++is),b≠h/\b≠dx/\b≠r)/\(∀b∈p'::(refs xs++is),∃o,H4 b=some o)/\(∀b∈p'::(refs xs++is),b∈is\/H b=none)/\F2 (λv m=> ∃t,v= .ref t/\t∈p'::(refs xs++is)/\H4 t=some (.tup (f m))) xs ms:=by
 have fr: ∀b,H b=none->b≠h/\b≠dx/\b≠r:=λb e=>⟨λz=>(by rw[z,I.ih] at e; cases e),λz=>(by rw[z,I.id] at e; cases e),λz=>(by rw[z,I.ir] at e; cases e)⟩
 have key: ∀b∈p'::(refs xs++is),(b∈is\/H b=none)/\ ∃o,H4 b=some o:=λb hb=>by
  rcases N5.mp hb with rfl | hb
  .nomatch .inr np,_,hp
  rcases Oe.mp hb with hb | hb
  .obtain⟨m,_,t,e,ht,hh⟩:=hx.mem<|x3.mp hb;cases e;erw[ht,_,hh]
  .obtain⟨o,e⟩:=I.al b hb;erw[.inl hb,o,s4 _ _ hb e]
 erw[λb hb=>?_,λb hb=>(key b hb).2,λb hb=>(key b hb).1,?_]
 .rcases (key b hb).1 with z | z
  .exact I.sh z
  .exact fr b z
 .have: ∀ {ys:qx V}{zs:qx α},F2 (nT f is H H4) ys zs->(∀v∈ys,v∈xs)->F2 (λv m=> ∃t,v= .ref t/\t∈p'::(refs xs++is)/\H4 t=some (.tup<|f m)) ys zs:=by
   intro ys zs hy;induction hy with
   | nil=>show λ_=> .nil
   | @cons v m _ _ r _ ih =>
    intro sub;obtain⟨t,rfl,_,hh⟩:=r;show .cons ⟨t,Z,N4 _<|Oy _<|x3.mpr<|sub _ N6,hh⟩<|ih λv hv=>sub v<|N4 _ hv
  show this hx λ_ z=>z
theorem Su.BU (I:Su C H h dx p q r is kv S){H2:Hp}(s2:ag H H2){t:qA}(nt:H2 t=none){H4:Hp}(s4:ag (upd (upd H2 t (.tup [.ref p,.ref q])) r (.lst (kv++[.ref t]))) H4){p':qA}(np:H p'=none){xs:qx V}(hp:H4 p'=some (.lst xs)){ms:qx Mem}
  (hx:F2 (nT pf is H H4) xs ms):cq C H h (h::dx::r::is) ⟨ms,S.ds,S.ks++[(S.ms,S.ds)]⟩ (upd H4 h (.ins C dx (lV p' q r))):=by
 have I3:=(I.same s2).keep nt;have nt0:=s2.free nt;have s3: ∀b o,b≠r->H b=some o->(upd (upd H2 t<|.tup [.ref p,.ref q]) r<|.lst<|kv++[.ref t]) b=some o:=λb o n e=>(ah n).trans<|(ah<|az (s2 _ _ e) nt).trans<|s2 _ _ e;obtain⟨a1,a2,a3,a4⟩:=I.rows (λb o hb e=>s4 _ _<|s3 b o (I.sh hb).2.2 e) np hp hx;have lift: ∀b∈p'::(refs xs++(t::is)),b=t\/b∈p'::(refs xs++is):=λb hb=>by
  simp only[N5,Oe] at hb ⊢;rcases hb with z | z | z | z
  .exact .inr<|.inl z
  .exact .inr<|.inr<|.inl z
  .exact .inl z
  .exact .inr<|.inr<|.inr z
 have a1': ∀b∈p'::(refs xs++(t::is)),b≠h/\b≠dx/\b≠r:=λb hb=>by
  rcases lift b hb with z | z
  .rw[z]; erw[(az I.ih nt0).symm,(az I.id nt0).symm,(az I.ir nt0).symm]
  .exact a1 b z
 have a2': ∀b∈p'::(refs xs++(t::is)),∃o,H4 b=some o:=λb hb=>by
  rcases lift b hb with z | z
  .rw[z]; obtain⟨o,e⟩:=I3.al t N6; erw[o,s4 _ _ e]
  .exact a2 b z
 have sub: ∀b∈p'::(refs xs++is),b∈p'::(refs xs++(t::is)):=λb hb=>by
  simp only[N5,Oe] at hb ⊢;rcases hb with z | z | z
  .exact .inl z
  .exact .inr<|.inl z
  .exact .inr<|.inr<|.inr z
 have a4':=a4.imp (S:=λv m=> ∃t',v=V.ref t'/\t'∈p'::(refs xs++(t::is))/\H4 t'=some (.tup<|pf m)) λv m ⟨b,e,z,w⟩=>⟨b,e,sub b z,w⟩
 have su3: ∀b∈t::is,b∈p'::(refs xs++(t::is)):=λb hb=>N4 _<|Ot _ hb;have su:=su3;have I5:=(I3.same s4).put (p':=p') (q':=q) (ms':=ms) (ds':=S.ds) su a1' a2' ⟨N6,xs,hp,a4'⟩<|(I3.same s4).ds.mono su3 λ_ _ _ e=>e;show I.next I5 (λb o n1 n2 e=>(ah n1).trans<|s4 _ _<|s3 b o n2 e) λb hb=>?_
 rcases lift b hb with z | z
 .rw[z]; show .inr nt0
 .exact a3 b z
theorem Su.Ho (I:Su C H h dx p q r is kv S){H2:Hp}(s2:ag H H2){t:qA}(nt:H2 t=none){H4:Hp}(s4:ag (upd (upd H2 t (.tup [.ref p,.ref q])) r (.lst (kv++[.ref t]))) H4){q':qA}(np:H q'=none){xs:qx V}(hp:H4 q'=some (.lst xs)){ds:qx Sn}
  (hx:F2 (nT lA is H H4) xs ds):cq C H h (h::dx::r::is) ⟨S.ms,ds,S.ks++[(S.ms,S.ds)]⟩ (upd H4 h (.ins C dx (lV p q' r))):=by
 have I3:=(I.same s2).keep nt;have nt0:=s2.free nt;have s3: ∀b o,b≠r->H b=some o->(upd (upd H2 t<|.tup [.ref p,.ref q]) r<|.lst<|kv++[.ref t]) b=some o:=λb o n e=>(ah n).trans<|(ah<|az (s2 _ _ e) nt).trans<|s2 _ _ e;obtain⟨a1,a2,a3,a4⟩:=I.rows (λb o hb e=>s4 _ _<|s3 b o (I.sh hb).2.2 e) np hp hx;have lift: ∀b∈q'::(refs xs++(t::is)),b=t\/b∈q'::(refs xs++is):=λb hb=>by
  simp only[N5,Oe] at hb ⊢;rcases hb with z | z | z | z
  .exact .inr<|.inl z
  .exact .inr<|.inr<|.inl z
  .exact .inl z
  .exact .inr<|.inr<|.inr z
 have a1': ∀b∈q'::(refs xs++(t::is)),b≠h/\b≠dx/\b≠r:=λb hb=>by
  rcases lift b hb with z | z
  .rw[z]; erw[(az I.ih nt0).symm,(az I.id nt0).symm,(az I.ir nt0).symm]
  .exact a1 b z
 have a2': ∀b∈q'::(refs xs++(t::is)),∃o,H4 b=some o:=λb hb=>by
  rcases lift b hb with z | z
  .rw[z]; obtain⟨o,e⟩:=I3.al t N6; erw[o,s4 _ _ e]
  .exact a2 b z
 have sub: ∀b∈q'::(refs xs++is),b∈q'::(refs xs++(t::is)):=λb hb=>by
  simp only[N5,Oe] at hb ⊢;rcases hb with z | z | z
  .exact .inl z
  .exact .inr<|.inl z
  .exact .inr<|.inr<|.inr z
 have a4':=a4.imp (S:=λv m=> ∃t',v=V.ref t'/\t'∈q'::(refs xs++(t::is))/\H4 t'=some (.tup<|lA m)) λv m ⟨b,e,z,w⟩=>⟨b,e,sub b z,w⟩
 have su3: ∀b∈t::is,b∈q'::(refs xs++(t::is)):=λb hb=>N4 _<|Ot _ hb;have su:=su3;have I5:=(I3.same s4).put (p':=p) (q':=q') (ms':=S.ms) (ds':=ds) su a1' a2' ((I3.same s4).ms.mono su3 λ_ _ _ e=>e) ⟨N6,xs,hp,a4'⟩;show I.next I5 (λb o n1 n2 e=>(ah n1).trans<|s4 _ _<|s3 b o n2 e) λb hb=>?_
 rcases lift b hb with z | z
 .rw[z]; show .inr nt0
 .exact a3 b z
theorem Su.back (I:Su C H h dx p q r is kv S){ks:qx (qx Mem×qx Sn)}{k:qx Mem×qx Sn}(e:S.ks=ks++[k]): ∃kv' t p' q',kv=kv'++[.ref t]/\H t=some (.tup [.ref p',.ref q'])/\t≠r/\t≠h /\
  cq C H h (h::dx::r::is) ⟨k.1,k.2,ks⟩ (upd (upd H r (.lst kv')) h (.ins C dx (lV p' q' r))):=by
 have hk:=I.ks;rw[e] at hk;have hl:=hk.length;rw[N1,P9] at hl;obtain⟨v,hv,t,p',q',rfl,ti,ht,hm,hd⟩:=hk.at' (i:=ks.length) (b:=k) uD;have ekv:kv=kv.take ks.length++[.ref t]:=by
  have h1:kv.drop ks.length=[.ref t]:=by
   rw[List.drop_eq_getElem_cons Y,VB Y];have:=(NX.mp hv).2;rw[this]
  rw[<-h1,List.take_append_drop]
 have hk2:=hk.take ks.length;rw[Qr<|N0 _,OF] at hk2;have si: ∀b o,b∈is->H b=some o->(upd H r<|.lst<|kv.take ks.length) b=some o:=λb o hb e=>(ah (I.sh hb).2.2).trans e;have I2:Su C (upd H r<|.lst<|kv.take ks.length) h dx p q r is (kv.take ks.length) ⟨S.ms,S.ds,ks⟩ :=
  ⟨I.n1,I.n2,I.n3,I.nh,I.nd,I.nr,(ah (Ox I.n2)).trans I.ih,(ah (Ox I.n3)).trans I.id,af,hk2.imp λ_ _ z=>z.mono (λ_ z=>z) si,I.ms.mono (λ_ z=>z) si,I.ds.mono (λ_ z=>z) si,λb hb=>by
   obtain⟨o,e⟩:=I.al b hb;exact⟨o,si b o hb e⟩⟩
 erw[kv.take ks.length,t,p',q',ekv,ht,(I.sh ti).2.2,(I.sh ti).1,?_];have I3:=I2.put (p':=p') (q':=q') (is':=is) (λ_ z=>z) (λb hb=>I.sh hb) I2.al (hm.mono (λ_ z=>z) si)<|hd.mono (λ_ z=>z) si;show I.next I3 (λb o n1 n2 e=>(ah n1).trans<|(ah n2).trans e) λb hb=> .inl hb
end
variable{H:Hp}
theorem qg {p q r:qA}{H2:Hp}{kv:qx V}(s2:ag H H2){t b:qA}(nt:H2 t=none) (e:(upd (upd H2 t (.tup [.ref p,.ref q])) r (.lst (kv++[.ref t]))) b=none):H b=none:=by
 cases eb:H b with
 | none=>rfl
 | some o =>
  by_cases n:b=r;.rw[n,af] at e; cases e
  .rw[ah n,ah<|az (s2 _ _ eb) nt,s2 _ _ eb] at e; cases e
def av (S:Sb):qx va:=S.ms.map (·.1)
def aN (S:Sb):qx va:=S.ds.map (·.1)
inductive cE
 | member (y:va) | plain (y m:va) (p e o:u7) | link (y m b:va) (mo:u7) | top (m:va) (wd:u7) | back | sM (m:va) | sD (y:va) | sT (m:va)
def fG:cE->qx V
 | .member y=>[.str "member",.str y]
 | .plain y m p e o=>[.str "plain",.str y,.str m,.int p,.int e,.int o]
 | .link y m b mo=>[.str "link",.str y,.str m,.str b,.int mo]
 | .top m wd=>[.str "top",.str m,.int wd]
 | .back=>[.str "back"]
 | .sM m=>[.str "strike",.str "member",.str m]
 | .sD y=>[.str "strike",.str "demand",.str y]
 | .sT m=>[.str "strike",.str "top",.str m]
def eJ (p e o:u7):u7:=(p*e+o - 1) / o
def Sy (p e o:u7):Prop:=0<=p/\p<=999/\1<=e/\e<=999/\1<=o/\o<=999
def Td:cE->Prop
 | .member y=>Nm y
 | .plain y m p e o=>Nm y/\Nm m/\Sy p e o
 | .link y m b mo=>Nm y/\Nm m/\Nm b/\0<=mo/\mo<=99
 | .top m wd=>Nm m/\0<=wd/\wd<=99999
 | .back=>MK
 | .sM m=>Nm m
 | .sD y=>Nm y
 | .sT m=>Nm m
inductive Due
 | ok | unknown | inUse | tooMuch | full | nothing
deriving DecidableEq
def wordOf:Due->va
 | .ok=> ""
 | .unknown=> "unknown"
 | .inUse=> "in use"
 | .tooMuch=> "too much"
 | .full=> "full"
 | .nothing=> "nothing back"
def bD (ms:qx Mem) (m:va):rW u7:=match ms.find? (λx=>x.1 == m) with
 | some x=>x.2
 | none=>none
def mh (y:va) (ds:qx Sn):yW:=ds.any λd=>decide (d.2.1=y) || decide (d.2.2.1=some y)
def bz (S:Sb):cE->Due
 | .member y=>if y∈av S then .inUse else if 12<=S.ms.length then .full else .ok
 | .plain y m p e o=>if m∉av S then .unknown else if y∈aN S then .inUse else if 99999 < eJ p e o then .tooMuch else if 24<=S.ds.length then .full else .ok
 | .link y m b _=>if m∉av S\/b∉av S then .unknown else if y∈aN S then .inUse else if 24<=S.ds.length then .full else .ok
 | .top m _=>if m∉av S then .unknown else if bD S.ms m≠none then .inUse else .ok
 | .back=>if S.ks=[] then .nothing else .ok
 | .sM m=>if m∉av S then .unknown else if mh m S.ds=true then .inUse else .ok
 | .sD y=>if y∉aN S then .unknown else .ok
 | .sT m=>if bD S.ms m=none then .unknown else .ok
def fN (ms:qx Mem) (m:va) (o:rW u7):qx Mem:=ms.map λx=>if x.1=m then (m,o) else x
def gh (S:Sb):cE->Sb
 | .member y=>⟨S.ms++[(y,none)],S.ds,S.ks++[(S.ms,S.ds)]⟩
 | .plain y m p e o=>⟨S.ms,S.ds++[(y,m,none,eJ p e o)],S.ks++[(S.ms,S.ds)]⟩
 | .link y m b mo=>⟨S.ms,S.ds++[(y,m,some b,mo)],S.ks++[(S.ms,S.ds)]⟩
 | .top m wd=>⟨fN S.ms m (some wd),S.ds,S.ks++[(S.ms,S.ds)]⟩
 | .back=>match S.ks.getLast? with
  | some k=>⟨k.1,k.2,S.ks.dropLast⟩
  | none=>S
 | .sM m=>⟨S.ms.filter λx=>decide (x.1≠m),S.ds,S.ks++[(S.ms,S.ds)]⟩
 | .sD y=>⟨S.ms,S.ds.filter λx=>decide (x.1≠y),S.ks++[(S.ms,S.ds)]⟩
 | .sT m=>⟨fN S.ms m none,S.ds,S.ks++[(S.ms,S.ds)]⟩
structure Sv (ms:qx Mem) (ds:qx Sn):Prop where
 ml:ms.length<=12
 dl:ds.length<=24
 mn:(ms.map (·.1)).Nodup
 dn:(ds.map (·.1)).Nodup
 mN: ∀y∈ms.map (·.1),Nm y
 dN: ∀y∈ds.map (·.1),Nm y
structure Gd (S:Sb):Prop where
 now:Sv S.ms S.ds
 ks: ∀k∈S.ks,Sv k.1 k.2
 bot:(S.ks=[]->S.ms=[]/\S.ds=[])/\ ∀k,S.ks[0]?=some k->k=([],[])
theorem o9 {α:Type}{l:qx α}{x:α}(h:l.Nodup) (n:x∉l):(l++[x]).Nodup:=by
 rw[Qt];erw[h,uD,λa ha b hb e=>by rw[NZ] at hb; subst hb; subst e; show n ha]
variable{ms:qx Mem}{o:rW u7}
theorem fu {m:va}:(fN ms m o).map (·.1)=ms.map (·.1):=by
 unfold fN;rw[OK];show PX λx _=>?_;change (if x.1=m then (m,o) else x).1=x.1;split;.rename_i e; show e.symm
 .rfl
theorem mO {α β:Type}{f:α->β}{p:α->yW}{l:qx α}: ∀y∈(l.filter p).map f,y∈l.map f:=λy hy=>by
 obtain⟨x,hx,rfl⟩:=Ow.mp hy;show Ow.mpr ⟨x,(OQ.mp hx).1,Z⟩
theorem oI {α β:Type}{f:α->β}{p:α->yW}{l:qx α}(h:(l.map f).Nodup):((l.filter p).map f).Nodup :=
 Xx (XR f List.filter_sublist) h
theorem Ep {α:Type}{l:qx α}{x:α}:l++[x]≠[]:=by simp
variable{S:Sb}
theorem jr(g:Gd S){ms:qx Mem}{ds:qx Sn}(n:Sv ms ds):Gd ⟨ms,ds,S.ks++[(S.ms,S.ds)]⟩:=by
 erw[n,λk hk=>?_,λz=>wz z Ep,λk hk=>?_]
 .rcases Oe.mp hk with hk | hk
  .exact g.ks k hk
  .rw[NZ.mp hk]; show g.now
 .cases e:S.ks with
  | nil =>
   have hk:(S.ks++[(S.ms,S.ds)])[0]?=some k:=hk;rw[e] at hk;cases hk;obtain⟨h1,h2⟩:=g.bot.1 e;rw[h1,h2]
  | cons k0 r =>
   have hk:(S.ks++[(S.ms,S.ds)])[0]?=some k:=hk;show g.bot.2 k ?_;rw[e] at hk ⊢;show hk
variable{d:cE}
theorem Ip(g:Gd S) (ok:Td d) (due:bz S d= .ok):Gd (gh S d):=by
 obtain⟨⟨ml,dl,mn,dn,mN,dN⟩,gk,gb⟩:=id g;cases d with
 | member y =>
  rw[bz] at due;split at due;.cases due
  rename_i hm;split at due;.cases due
  rename_i hl;show jr g ⟨by rw[N1]; change S.ms.length+1<=12; lia,dl,?_,dn,?_,dN⟩;.rw[Od]; show o9 mn hm
  .intro z hz;rw[Od] at hz;rcases Oe.mp hz with hz | hz
   .exact mN z hz
   .rw[NZ.mp hz]; show ok
 | plain y m p e o =>
  rw[bz] at due;split at due;.cases due
  split at due;.cases due
  rename_i hn;split at due;.cases due
  split at due;.cases due
  rename_i hl;show jr g ⟨ml,by rw[N1]; change S.ds.length+1<=24; lia,mn,?_,mN,?_⟩;.rw[Od]; show o9 dn hn
  .intro z hz;rw[Od] at hz;rcases Oe.mp hz with hz | hz
   .exact dN z hz
   .rw[NZ.mp hz]; show ok.1
 | link y m b mo =>
  rw[bz] at due;split at due;.cases due
  split at due;.cases due
  rename_i hn;split at due;.cases due
  rename_i hl;show jr g ⟨ml,by rw[N1]; change S.ds.length+1<=24; lia,mn,?_,mN,?_⟩;.rw[Od]; show o9 dn hn
  .intro z hz;rw[Od] at hz;rcases Oe.mp hz with hz | hz
   .exact dN z hz
   .rw[NZ.mp hz]; show ok.1
 | top m wd=>show jr g ⟨by unfold fN; rw[NR]; show ml,dl,by rw[fu]; show mn,dn,by rw[fu]; show mN,dN⟩
 | sT m=>show jr g ⟨by unfold fN; rw[NR]; show ml,dl,by rw[fu]; show mn,dn,by rw[fu]; show mN,dN⟩
 | sM m=>show jr g ⟨Ob (O0 _ _) ml,dl,oI mn,dn,λy hy=>mN y (mO y hy),dN⟩
 | sD y=>show jr g ⟨ml,Ob (O0 _ _) dl,mn,oI dn,mN,λz hz=>dN z (mO z hz)⟩
 | back =>
  change Gd (match S.ks.getLast? with | some k=>⟨k.1,k.2,S.ks.dropLast⟩ | none=>S);rcases Qw S.ks with hk | ⟨ks,k,hk⟩
  .rw[hk]; show g
  .have hk:S.ks=ks++[k]:=by rw[hk,Qx]
   rw[show S.ks.getLast?=some k from by rw[hk]; simp,show S.ks.dropLast=ks from by rw[hk]; simp];erw[gk k (by rw[hk]; simp),λk' hk'=>gk k' (by rw[hk]; simp[hk']),λz=>?_,λk' hk'=>?_]
   .have z:ks=[]:=z;have:=gb.2 k (by rw[hk,z]; rfl);rw[this];erw[Z,Z]
   .show gb.2 k' ?_;have hk':ks[0]?=some k':=hk';cases ks with
    | nil=>cases hk'
    | cons a b=>rw[hk]; show hk'
theorem sS {α:Type}{f:α->va}: ∀ {l:qx α}{j:u6}{y:va},(l.map f).Nodup->(l.map f)[j]?=some y->l.take j++l.drop (j+1)=l.filter λx=>decide (f x≠y)
 | [],j,y,_,h=>by cases h
 | x::l,0,y,nd,h=>by
  have e:f x=y:=Oj h;have nx:f x∉l.map f:=(OS.mp nd).1;change l=_;rw[PZ,NS (by simp[e])];symm;rw[List.filter_eq_self];intro z hz;show N2 λq=>nx ?_;rw[e,<-q];show Ow.mpr ⟨z,hz,Z⟩
 | x::l,j+1,y,nd,h=>by
  have nx:f x∉l.map f:=(OS.mp nd).1;have h':(l.map f)[j]?=some y:=h;have ne:f x≠y:=λq=>nx<|q▸NU h';change x::(l.take j++l.drop (j+1))=_;rw[sS (OS.mp nd).2 h',PZ,NW<|N2 ne]
theorem yB: ∀ {l:qx Mem}{j:u6}{m:va}{o:rW u7},(l.map (·.1)).Nodup->(l.map (·.1))[j]?=some m->l.take j++[(m,o)]++l.drop (j+1)=fN l m o
 | [],j,m,o,_,h=>by cases h
 | x::l,0,m,o,nd,h=>by
  have e:x.1=m:=Oj h;have nx:x.1∉l.map (·.1):=(OS.mp nd).1;change (m,o)::l=(if x.1=m then (m,o) else x)::l.map _;rw[NW e];congr 1;symm;have q:l.map (λx=>if x.1=m then (m,o) else x)=l.map λx=>x:=PX λz hz=>NS λq=>nx (by rw[e,<-q]; show Ow.mpr ⟨z,hz,Z⟩);rw[q,Xl]
 | x::l,j+1,m,o,nd,h=>by
  have nx:x.1∉l.map (·.1):=(OS.mp nd).1;have h':(l.map (·.1))[j]?=some m:=h;have ne:x.1≠m:=λq=>nx<|q▸NU h';change x::(l.take j++[(m,o)]++l.drop (j+1))=(if x.1=m then (m,o) else x)::fN l m o;rw[NS ne,yB (OS.mp nd).2 h']
theorem u9: ∀ {l:qx Mem}{j:u6}{m:va}{o:rW u7},l[j]?=some (m,o)->(∀i,i < j->(l.map (·.1))[i]?≠some m)->bD l m=o
 | [],j,m,o,h,_=>by cases h
 | x::l,0,m,o,h,_=>by
  have e:x=(m,o):=Oj h;unfold bD;rw[e,Pz uD]
 | x::l,j+1,m,o,h,hf=>by
  have ne:x.1≠m:=λq=>hf 0 (QO _) (by change some x.1=some m; rw[q]);have:=u9 (l:=l) (j:=j) h λi hi=>hf (i+1) Y;unfold bD at this ⊢;rw[Pb (by simpa using ne)];show this
theorem rF {l:qx Mem}{m:va}(h:m∉l.map (·.1)):bD l m=none:=by
 unfold bD;rw[P2.mpr λx hx=>by
  simp only[beq_iff_eq];show λq=>h (Ow.mpr ⟨x,hx,q⟩)]
section
variable {X:Cx}{pos:Pos}
inductive Kn (i j k:u6) (D:Ends) (O:St) (vs:qx V) (H1:Hp):Prop | mk (v w u:_) (e0:vs=[v,w,u]) (q:D.nx (((O.set k (some u)).set j (some w)).set i (some v)) H1)
def K8 (i j k:u6) (ta:TA):TS:=λD O H=>ta O H λvs H1=>Kn i j k D O vs H1
theorem Jl {i j k:u6}{x y z:va}{a b c:tW}{ta:TA}{px py pz pt:Pos}{kt k2 pt2}(hc:X.calm=true) (hN:X.N.Nodup) (hi:X.N[i]?=some x) (hj:X.N[j]?=some y) (hk:X.N[k]?=some z)
  (hx:X.env.scope.names.lookup x=some .local) (hy:X.env.scope.names.lookup y=some .local) (hz:X.env.scope.names.lookup z=some .local) (ha:PA X [a,b,c] ta)
  (hw:swappedStores [.Tuple [.Name x px,.Name y py,.Name z pz] kt pt] (.Tuple [a,b,c] k2 pt2) X.env=pure (some [x,y,z]))
  (hs:swapsWithSole [.Tuple [.Name x px,.Name y py,.Name z pz] kt pt] (.Tuple [a,b,c] k2 pt2) pos.line X.env=pure false:=by rfl) :
  PS X (.Assign [.Tuple [.Name x px,.Name y py,.Name z pz] kt pt] (.Tuple [a,b,c] k2 pt2) pos) (K8 i j k ta):=by
 intro R1 s O H D I h;rw[exec_Assign_arm];show N9<|PV ?_;rw[hs];show N9<|OB ?_;rw[NS aS];show N9<|Tuple_<|Sf (ha _ R1 s O H _ I h) λus s1 ⟨vs,H1,I1,r1,q1⟩=>?_;obtain⟨v,w,u,e1,q1⟩:=q1;subst e1;obtain⟨u1,u2,u3,rfl,rv,rw',ru⟩: ∃u1 u2 u3,us=[u1,u2,u3]/\RelV v u1/\RelV w u2/\RelV u u3:=by
  cases r1 with
  | cons p q =>
   cases q with
   | cons p' q' =>
    cases q' with
    | cons p'' q'' =>
     cases q'';erw[_,_,_,Z,p,p',p'']
 show QX ?_ aC;have I2:Inv X R1 O H1 { s1 with heap:=s1.heap.push { cls:= .type "tuple",data:= .seq [u1,u2,u3].toArray } }:=I1.kept (t':=s1.toks) λb o e=>N3 _ e;rw[hw];show N9<|OB ?_;change xA (model X.prog X.w) X.A (do rule "assign.swapped-stores"; let items <-unpackItems (.ref s1.heap.objs.size) 3 none; assignInOrder [λv=>bindName X.env z v,λv=>bindName X.env y v,λv=>bindName X.env x v] items.reverse; pure V1) _ _ _;show N9<|wpAny_rule<|N9<|unpackItems_tuple (items:= #[u1,u2,u3]) (I.ok.hd hc) (WH s1.heap _) λh' hx'=>?_;have I3:=I2.kept (h':=h') (t':=s1.toks) λb o e=>hx' b o (OC<|Of e) e;change xA _ _ (assignInOrder [λv=>bindName X.env z v,λv=>bindName X.env y v,λv=>bindName X.env x v] [u3,u2,u1] >>= λ_=>pure V1) _ _ _;show N9<|P4<|QR<|iE I3 hN hk (.inl hz) ru (λs2 I4=>?_)<|.inr hz;show P4<|QR<|iE I4 hN hj (.inl hy) rw' (λs3 I5=>?_)<|.inr hy;show P4<|QR<|iE I5 hN hi (.inl hx) rv (λs4 I6=>assignInOrder_nil<|OB ?_)<|.inr hx;erw[_,H1,I6,q1]
end
theorem rn:So X (CN .FloorDiv) (rI (λ_ j=>0 < j/\j < 18446744073709551616) λi j=> .int (i / j)):=T3 λi j _ _ _ _ _ hc q=>by
 have h1:(0:u7) < j:=hc.1;have h2:j < 18446744073709551616:=hc.2;show floordiv_int Y (by rw[RK i Y]; show q)<|.inl<|PyProof.noPylong_of_log2 ?_;have:j.natAbs.log2 < 64:=(Xw Y).mpr (by lia);lia
inductive FR (xs:qx V) (H:Hp) (Q:VK):Prop | mk (a kvs:_) (e0:xs=[.ref a]) (e1:H a=some (.dK kvs)) (q: ∀p,H p=none->Q (.ref p) (upd H p (.dK kvs)))
def Hv:qx V->Hp->VK->Prop:=λxs H Q=>FR xs H Q
theorem xG:cJ X (.type "dict") Hv:=by
 intro R1 s O H xs us Q I r h;obtain⟨a,kvs,rfl,ha,q⟩:=h;obtain⟨u,rfl,ru⟩:=vals1 r;cases ru;show Fx I (.inl ha) λp s' np I'=>⟨.ref p,_,I',Z,q p np⟩
theorem vz {kvs:Sx}{k k':Key}:aY (gf kvs k) k'=if k'=k then none else aY kvs k':=by
 induction kvs with
 | nil=>split <;> rfl
 | cons p r ih =>
  by_cases e:p.1=k
  .rw[CJ e,ih];split;.rfl
   .rename_i n; rw[cZ (λz=>n (z.symm.trans e))]
  .rw[EG e];by_cases e2:p.1=k';.rw[dr e2,dr e2,NS λz=>e<|e2.trans z]
   .rw[cZ e2,cZ e2,ih]
variable{m':va}
theorem vn {m:va}(h:m∈ms.map (·.1)):bD (fN ms m o) m'=if m'=m then o else bD ms m':=by
 induction ms with
 | nil=>cases h
 | cons x r ih =>
  have ex:fN (x::r) m o=(if x.1=m then (m,o) else x)::fN r m o:=rfl;rw[ex];unfold bD at ih ⊢;by_cases e:x.1=m
  .rw[NW e];by_cases e2:m'=m;.rw[NW e2,Pz (by simp[e2])]
   .rw[NS e2,Pb (by simpa using λz=>e2 z.symm),Pb (by simpa [e] using λz=>e2 z.symm)];by_cases hr:m∈r.map (·.1)
    .have:=ih hr;rw[NS e2] at this;show this
    .have es:fN r m o=r:=by
      unfold fN;have q:r.map (λx=>if x.1=m then (m,o) else x)=r.map λx=>x:=PX λz hz=>NS λq=>hr (by rw[<-q]; show Ow.mpr ⟨z,hz,Z⟩);rw[q,Xl]
     rw[es]
  .rw[NS e];have hr:m∈r.map (·.1):=(N5.mp h).resolve_left λz=>e z.symm;by_cases e3:x.1=m';.rw[Pz (by simpa using e3),Pz (by simpa using e3),NS λz=>e<|e3.trans z]
   .rw[Pb (by simpa using e3),Pb (by simpa using e3)];show ih hr
theorem vj {m:va}:bD (ms.filter λx=>decide (x.1≠m)) m'=if m'=m then none else bD ms m':=by
 induction ms with
 | nil=>show none=if m'=m then none else none; split <;> rfl
 | cons x r ih =>
  rw[PZ];by_cases e:x.1=m
  .rw[NS (by simp[e]),ih];split;.rfl
   .rename_i n;unfold bD;rw[Pb (by simpa [e] using λz=>n z.symm)]
  .rw[NW<|N2 e];unfold bD at ih ⊢;by_cases e3:x.1=m';.rw[Pz (by simpa using e3),Pz (by simpa using e3),NS λz=>e<|e3.trans z]
   .rw[Pb (by simpa using e3),Pb (by simpa using e3)];show ih
variable{y:va}
theorem CA(h:y∉ms.map (·.1)):bD (ms++[(y,none)]) m'=bD ms m':=by
 unfold bD;rw[Wi];cases e:ms.find? (λx=>x.1 == m') with
 | some x=>rfl
 | none =>
  by_cases c:y=m';.simp[c]
  .simp[c]
def jZ (xs:qx qA) (H:Hp) (v:V) (d:Sn):Prop:= ∃t,v= .ref t/\t∉xs/\H t=some (.tup (lA d))
structure UM (xs:qx qA) (n:u6) (H:Hp) (ts ln la dd:qA) (vs:qx V) (kvs:Sx) (ms:qx Mem) (ds:qx Sn):Prop where
 t0:ts∉xs
 ht:H ts=some (.tup [.ref ln,.ref la,.ref dd])
 n0:ln∉xs
 hn:H ln=some (.lst ((ms.map (·.1)).map V.str))
 a0:la∉xs
 ha:H la=some (.lst vs)
 ar:F2 (jZ xs H) vs ds
 d0:dd∉xs
 hd:H dd=some (.dK kvs)
 cp: ∀m,aY kvs (zA m)=(bD ms m).map V.int
 kl:kvs.length<=n
def LS (xs:qx qA) (n:u6) (H:Hp) (ts:qA) (ms:qx Mem) (ds:qx Sn):Prop:= ∃ln la dd vs kvs,UM xs n H ts ln la dd vs kvs ms ds
section
variable {xs xs':qx qA}{n n':u6}{H H':Hp}{ts:qA}{ms:qx Mem}{ds:qx Sn}
theorem LS.mono (l:LS xs n H ts ms ds) (h: ∀b o,b∉xs->H b=some o->H' b=some o/\b∉xs') (hn:n<=n'):LS xs' n' H' ts ms ds:=by
 obtain⟨ln,la,dd,vs,kvs,l⟩:=l;erw[ln,la,dd,vs,kvs,(h _ _ l.t0 l.ht).2,(h _ _ l.t0 l.ht).1,(h _ _ l.n0 l.hn).2,(h _ _ l.n0 l.hn).1,(h _ _ l.a0 l.ha).2,(h _ _ l.a0 l.ha).1,l.ar.imp λv d ⟨t,e,a,b⟩=>⟨t,e,(h _ _ a b).2,(h _ _ a b).1⟩,(h _ _ l.d0 l.hd).2,(h _ _ l.d0 l.hd).1,l.cp,Ob l.kl hn]
theorem LS.same (l:LS xs n H ts ms ds) (s:ag H H'):LS xs n H' ts ms ds:=l.mono (λb o nb e=>⟨s b o e,nb⟩) (N0 _)
end
theorem dP {K:R7}{J:It}{nm:va}{fr:qx u6}{O:St}{Q:VK}{vs:qx V}{ds:qx Sn}{xs:qx qA}{i:u7}(f:Sn->V) (hf: ∀d,Si (lA d) i=some (f d)) (hJ:JL J H vs) (ar:F2 (jZ xs H) vs ds) (hl:ds.length<=100) (q: ∀p,H p=none->Q (.ref p) (upd H p (.lst (ds.map f)))) :
  kI J (aK 0) gG (S6 (Cp K) (oO 0) (tC (.int i))) [nm] fr O H Q:=by
 have vl:=ar.length;show cH (xs:=vs) (λi ys H'=>H'=H/\ys=(ds.take i).map f) (λi ys H' _ h=>by rw[h.1]; show hJ) ⟨Z,Z⟩ (Pl (show vs.length<=1000 by lia) aS) (λi ys H' h=>by rw[h.2,NR,Oi]; show OX _ _) ?_ ?_
 .rintro j ys H2 x hi ⟨rfl,rfl⟩;obtain⟨m,hm,t,rfl,_,ht⟩:=ar.get hi;dsimp only[aK,gG];show aW ⟨_,Z,t,_,_,_,Z,Z,Se.of ht,hf m,Z,?_⟩;rw[Ov,hm,Od];rfl
 .rintro ys H2 p2 ⟨rfl,rfl⟩ np;rw[vl,OF];show q p2 np
structure Wd (C:qA) (n:u6) (H:Hp) (h:qA) (os:qx qA) (pl ts:qA) (S:Sb):Prop where
 it:HI C H h os S
 po:pl∉os
 pv: ∃pv,H pl=some (.lst pv)/\F2 (λv k=> ∃t,v=V.ref t/\LS (pl::os) n H t k.1 k.2) pv S.ks
 ls:LS (pl::os) n H ts S.ms S.ds
 gd:Gd S
section
variable {C h pl ts:qA}{n:u6}{H H':Hp}{os:qx qA}{S:Sb}
end
theorem J1 {l1 l2 d ts:qA}{us:qx va}(n1:H l1=none) (n2:(upd H l1 (.lst (us.map V.str))) l2=none) (n3:(upd (upd H l1 (.lst (us.map V.str))) l2 (.lst [])) d=none) (n4:(upd (upd (upd H l1 (.lst (us.map V.str))) l2 (.lst [])) d (.dK [])) ts=none) :
  ag H (upd (upd (upd (upd H l1 (.lst (us.map V.str))) l2 (.lst [])) d (.dK [])) ts (.tup [.ref l1,.ref l2,.ref d]))/\ ∀(xs:qx qA) (ms:qx Mem),(∀b∈xs,∃o,H b=some o)->ms.map (·.1)=us->(∀m,bD ms m=none)->LS xs 0 (upd (upd (upd (upd H l1 (.lst (us.map V.str))) l2 (.lst [])) d (.dK [])) ts (.tup [.ref l1,.ref l2,.ref d])) ts ms []:=by
 have s1:=ag.upd (o:= .lst<|us.map V.str) n1;have s2:=ag.upd (o:= .lst []) n2;have s3:=ag.upd (o:= .dK []) n3;have s4:=ag.upd (o:= .tup [.ref l1,.ref l2,.ref d]) n4;erw[((s1.trans s2).trans s3).trans s4,λxs ms hx e hc=>?_];have fr: ∀ {b:qA},H b=none->b∉xs:=λ{b} e z=>by obtain⟨o,e'⟩:=hx b z; rw[e] at e'; cases e'
 erw[l1,l2,d,[],[],fr<|((s1.trans s2).trans s3).free n4,af,fr n1,?_,fr<|s1.free n2,((s3.trans s4) _ _ af),.nil,fr<|(s1.trans s2).free n3,s4 _ _ af,λm=>?_,N0 _];.rw[e]; show ((s2.trans s3).trans s4) _ _ af
 .rw[hc m]; rfl
structure Wx (C:qA) (n:u6) (H:Hp) (h:qA) (os:qx qA) (pl ts:qA) (S:Sb) (X:qx qA):Prop where
 it:HI C H h os S
 po:pl∉os
 xo: ∀b∈X,b∉pl::os/\ ∃o,H b=some o
 pv: ∃pv,H pl=some (.lst pv)/\F2 (λv k=> ∃t,v=V.ref t/\LS (pl::(os++X)) n H t k.1 k.2) pv S.ks
 ls:LS (pl::(os++X)) n H ts S.ms S.ds
 gd:Gd S
section
variable {C h pl ts:qA}{n n':u6}{H H':Hp}{os X:qx qA}{S:Sb}
end
structure UY (C:qA) (n:u6) (H:Hp) (h:qA) (os:qx qA) (pl ts:qA) (S:Sb) (h':qA) (os':qx qA) (pl' ts':qA) (S':Sb) (sl:qA):Prop where
 a:Wx C n H h os pl ts S (pl'::(os'++[sl]))
 b:Wx C n H h' os' pl' ts' S' (pl::(os++[sl]))
 ka:S.ks.length<=n
 kb:S'.ks.length<=n
section
variable {C h pl ts h' pl' ts' sl:qA}{n n':u6}{H H':Hp}{os os':qx qA}{S S':Sb}
end
theorem sub_len {α:Type} [BEq α] [LawfulBEq α]: ∀ {l m:qx α},l.Nodup->(∀x∈l,x∈m)->l.length<=m.length
 | [],_,_,_=>ON _
 | a::l,m,hn,hs=>by
  obtain⟨h1,h2⟩:=OS.mp hn;have ha:=hs a<|N6;have:=sub_len (m:=m.erase a) h2 λx hx=>(List.mem_erase_of_ne λ(z:x=a)=>h1<|z▸hx).mpr<|hs x<|N4 _ hx;have e:=List.length_erase_of_mem ha;have:0 < m.length:=VC ha;simp only[Oh];lia
def bare (ys:qx va):qx Mem:=ys.map λy=>(y,none)
def gR (c:u6):yW:=decide (97<=c) && decide (c<=122)
def dj (cs:qx u6):yW:=decide (1<=(cs.length:u7)) && decide ((cs.length:u7)<=8) && cs.all gR
theorem Nm.good(h:Nm y):dj y.cps.toList=true:=by
 obtain⟨h1,h2,h3⟩:=h;unfold dj;rw[Oz,Oz];erw[⟨N2 Y,N2 Y⟩,O3.mpr λc hc=>?_];have:=h3 c hc;unfold small at this;unfold gR;rw[Oz];erw[N2 this.1,N2 this.2]
theorem Nm.of(h:dj y.cps.toList=true):Nm y:=by
 unfold dj at h;rw[Oz,Oz] at h;obtain⟨⟨h1,h2⟩,h3⟩:=h;have h1:=Oc h1;have h2:=Oc h2;erw[Y,Y,λc hc=>?_];have:=O3.mp h3 c hc;unfold gR at this;rw[Oz] at this;erw[Oc this.1,Oc this.2]
inductive pI
 | ok | unknown | inUse | badName | badNumber | tooMuch | full | nothing
deriving DecidableEq
def gF:pI->va
 | .ok=> ""
 | .unknown=> "unknown"
 | .inUse=> "in use"
 | .badName=> "bad name"
 | .badNumber=> "bad number"
 | .tooMuch=> "too much"
 | .full=> "full"
 | .nothing=> "nothing back"
instance (p e o:u7):Decidable (Sy p e o):=by unfold Sy; infer_instance
def a9 (S:Sb):cE->pI
 | .member y=>if y∈av S then .inUse else if dj y.cps.toList=false then .badName else if 12<=S.ms.length\/150<=S.ks.length then .full else .ok
 | .plain y m p e o=>if m∉av S then .unknown else if y∈aN S then .inUse else if dj y.cps.toList=false then .badName else if ¬Sy p e o then .badNumber else if 99999 < eJ p e o then .tooMuch else if 24<=S.ds.length\/150<=S.ks.length then .full else .ok
 | .link y m b mo=>if m∉av S\/b∉av S then .unknown else if y∈aN S then .inUse else if dj y.cps.toList=false then .badName else if ¬(0<=mo/\mo<=99) then .badNumber else if 24<=S.ds.length\/150<=S.ks.length then .full else .ok
 | .top m wd=>if m∉av S then .unknown else if bD S.ms m≠none then .inUse else if ¬(0<=wd/\wd<=99999) then .badNumber else if 150<=S.ks.length then .full else .ok
 | .back=>if S.ks=[] then .nothing else .ok
 | .sM m=>if m∉av S then .unknown else if mh m S.ds=true then .inUse else if 150<=S.ks.length then .full else .ok
 | .sD y=>if y∉aN S then .unknown else if 150<=S.ks.length then .full else .ok
 | .sT m=>if bD S.ms m=none then .unknown else if 150<=S.ks.length then .full else .ok
def dZ (S:Sb) (d:cE):Sb:=if a9 S d= .ok then gh S d else S
theorem IG {m:va}(h:bD ms m≠none):m∈ms.map (·.1):=Ph λz=>h (rF z)
theorem uh(g:Sv S.ms S.ds) (h:a9 S d= .ok):bz S d= .ok/\Td d/\(S.ks.length < 150\/d= .back):=by
 cases d with
 | member y =>
  rw[a9] at h;split at h; · cases h
  rename_i h1; split at h; · cases h
  rename_i h2; split at h; · cases h
  rename_i h3;erw[by rw[bz,NS h1,NS Y],Nm.of (by simpa using h2),.inl Y]
 | plain y m p e o =>
  rw[a9] at h;split at h; · cases h
  rename_i h1; split at h; · cases h
  rename_i h2; split at h; · cases h
  rename_i h3; split at h; · cases h
  rename_i h4; split at h; · cases h
  rename_i h5; split at h; · cases h
  rename_i h6;erw[by rw[bz,NS h1,NS h2,NS h5,NS Y],⟨Nm.of (by simpa using h3),g.mN m (O8.mp h1),O8.mp h4⟩,.inl Y]
 | link y m b mo =>
  rw[a9] at h;split at h; · cases h
  rename_i h1; split at h; · cases h
  rename_i h2; split at h; · cases h
  rename_i h3; split at h; · cases h
  rename_i h4; split at h; · cases h
  rename_i h6;erw[by rw[bz,NS h1,NS h2,NS Y],⟨Nm.of (by simpa using h3),g.mN m (Ph λz=>h1 (.inl z)),g.mN b (Ph λz=>h1 (.inr z)),O8.mp h4⟩,.inl Y]
 | top m wd =>
  rw[a9] at h;split at h; · cases h
  rename_i h1; split at h; · cases h
  rename_i h2; split at h; · cases h
  rename_i h3; split at h; · cases h
  rename_i h4;erw[by rw[bz,NS h1,NS h2],⟨g.mN m (O8.mp h1),O8.mp h3⟩,.inl Y]
 | back =>
  rw[a9] at h;split at h; · cases h
  rename_i h1;erw[by rw[bz,NS h1],trivial,.inr rfl]
 | sM m =>
  rw[a9] at h;split at h; · cases h
  rename_i h1; split at h; · cases h
  rename_i h2; split at h; · cases h
  rename_i h3;erw[by rw[bz,NS h1,NS h2],g.mN m (O8.mp h1),.inl Y]
 | sD y =>
  rw[a9] at h;split at h; · cases h
  rename_i h1; split at h; · cases h
  rename_i h3;erw[by rw[bz,NS h1],g.dN y (O8.mp h1),.inl Y]
 | sT m =>
  rw[a9] at h;split at h; · cases h
  rename_i h1; split at h; · cases h
  rename_i h3;erw[by rw[bz,NS h1],g.mN m (IG h1),.inl Y]
theorem Gb(g:Gd S):Gd (dZ S d):=by
 unfold dZ;split
 .rename_i e;obtain⟨h1,h2,_⟩:=uh g.now e;show Ip g h2 h1
 .exact g
theorem Ag:(gh S d).ks.length<=S.ks.length+1:=by
 cases d with
 | back =>
  change (match S.ks.getLast? with | some k=>(⟨k.1,k.2,S.ks.dropLast⟩:Sb) | none=>S).ks.length<=_;cases S.ks.getLast? with
  | none=>show Pe _
  | some k=>show S.ks.dropLast.length<=_; rw[QD]; lia
 | _=>show Rk (by first | show N1)
theorem Ga(hk:S.ks.length<=150) (g:Sv S.ms S.ds):(dZ S d).ks.length<=S.ks.length+1/\(dZ S d).ks.length<=150:=by
 unfold dZ;split
 .rename_i e;obtain⟨_,_,h3⟩:=uh g e;erw[Ag,?_];rcases h3 with h3 | rfl
  .exact Ob Ag Y
  .change (match S.ks.getLast? with | some k=>(⟨k.1,k.2,S.ks.dropLast⟩:Sb) | none=>S).ks.length<=_;cases S.ks.getLast? with
   | none=>show hk
   | some k=>show S.ks.dropLast.length<=_; rw[QD]; lia
 .nomatch Pe _,hk
section
variable {X:Cx}
end
section
variable {X:Cx}
end
end L2
namespace L2
open PySem PySem.Spec PyProof.Rows
open Builtin Builtin.Str
theorem mL: ∀ {l:qx (va×Tok)}{ys:qx va},l.map (·.1)=ys->Vals (ys.map V.str) (strValues l)
 | [],_,h=>by subst h; show .nil
 | p::l,_,h=>by subst h; show .cons ⟨p.2,Z⟩ (mL rfl)
inductive HR (x:V) (vs:qx V) (H:Hp) (Q:VK):Prop | mk (z y:va) (e0:x= .str z) (e1:vs=[.str y]) (e2:(y.length == 0)=false) (e3:z.length<=1000) (q: ∀p,H p=none->Q (.ref p) (upd H p (.lst ((Bl z y).map V.str))))
def Jx:V->qx V->Hp->VK->Prop:=λx vs H Q=>HR x vs H Q
variable{X:Cx}
theorem qZ:TZ X "str.split" Jx:=by
 intro R1 s O H x vs v us Q I rx rv h;obtain⟨z,y,rfl,rfl,hy,hz,q⟩:=h;obtain⟨t,rfl⟩:=rx;obtain⟨u',rfl,ru⟩:=rv.one;obtain⟨u,rfl⟩:=ru;have hl:(Bl z y).length<=sizeLine:=Ob (split_le z y)<|Ob (show z.length+2<=1002 by lia) aS;have hzs:z.length<=sizeLine:=Ob hz aS;have fin: ∀(l:qx (va×Tok)) (k:u6),l.map (·.1)=Bl z y->EP X R1 O Q (.ref s.heap.objs.size) { s with heap:=s.heap.push { cls:= .type "list",data:= .seq (strValues l).toArray },toks:=k }:=λl k e =>
  ⟨.ref s.heap.objs.size,_,I.laid (a:=s.heap.objs.size) (o:= .lst ((Bl z y).map V.str)) (t':=k) (λ_ _ q=>N3 _ q) (N0 _) ⟨by rw[NR]; show hl,strValues l,_,mL e,OD _ rfl⟩,Z,q _ (I.hok.fresh (N0 _))⟩
 cases h1:(decide (z.length < y.length) || decide (strKind z < strKind y))
 .cases hf:(occurrences z y 0 z.length<|z.length+1).isEmpty
  .have hsz2:(partsBetween z (occurrences z y 0 z.length<|z.length+1) y.length).length<=sizeLine:=by
    have e:Bl z y=partsBetween z (occurrences z y 0 z.length<|z.length+1) y.length:=(NS<|Qm h1).trans<|NS<|Qm hf;rw[<-e]; show hl
   show PF F.slot_str_split (Rr _ _ _) Vj (RG _ _) (meets_str_split_sep z y t u h1 hy hf hzs hsz2) ?_;change wants _ _ _ { s with toks:=_,heap:=s.heap.push { cls:= .type "list",data:= .seq (strsFrom s.toks<|partsBetween z (occurrences z y 0 z.length<|z.length+1) y.length).toArray } };rw[strsFrom_eq];show fin (numbered s.toks _) _<|(numbered_texts _ _).trans ((NS<|Qm h1).trans<|NS<|Qm hf).symm
  .exact PF F.slot_str_split (Rr _ _ _) Vj (RG _ _) (meets_str_split_not_found z y t u h1 hy hf)
    (fin [(z,t)] _ ((NS (Qm h1)).trans (NW hf)).symm)
 .exact PF F.slot_str_split (Rr _ _ _) Vj (RG _ _) (meets_str_split_cannot_occur z y t u h1)
   (fin [(z,t)] _ (NW h1).symm)
inductive Kp (x:V) (vs:qx V) (H:Hp) (Q:VK):Prop | mk (z:va) (e0:x= .str z) (e1:vs=[]) (q:Q (.bl (U8 z)) H)
def Lr:V->qx V->Hp->VK->Prop:=λx vs H Q=>Kp x vs H Q
theorem A8:TZ X "str.isupper" Lr:=by
 intro R1 s O H x vs v us Q I rx rv h;obtain⟨z,rfl,rfl,q⟩:=h;obtain⟨t,rfl⟩:=rx;cases rv;show SC.isupper ⟨.bl _,H,I,Z,q⟩
theorem ES:cJ X (.type "int") (λxs H Q=> ∃(z:va) (n:u7),xs=[.str z]/\intText? z=some n/\z.length<=640/\Q (.int n) H):=by
 intro R1 s O H xs us Q I r h;obtain⟨z,n,rfl,hn,hl,q⟩:=h;obtain⟨u,rfl,t,rfl⟩:=vals1 r;show Xy hn hl ⟨.int n,H,I.tok _,⟨_,Z⟩,q⟩
def gS (c:u6):qx (qx u6)->qx u6
 | []=>[]
 | [p]=>p
 | p::q::r=>p++c::gS c (q::r)
theorem kD (c:u6): ∀ys:qx va,(Bd ⟨#[c]⟩ ys).cps.toList=gS c (ys.map λy=>y.cps.toList)
 | []=>rfl
 | [y]=>rfl
 | y::z::r=>by
  change ((y++(⟨#[c]⟩:va))++Bd ⟨#[c]⟩ (z::r)).cps.toList=_;rw[bS,bS,kD c (z::r)];change y.cps.toList++[c]++_=y.cps.toList++c::_;rw[Pf];rfl
theorem AB {c:u6}: ∀ {a b x y:qx u6},c∉a->c∉b->a++c::x=b++c::y->a=b/\x=y
 | [],[],_,_,_,_,h=>⟨Z,(Q3 h).2⟩
 | [],b::bs,_,_,_,hb,h=>wz (N5.mpr (.inl (Q3 h).1)) hb
 | a::as,[],_,_,ha,_,h=>wz (N5.mpr (.inl (Q3 h).1.symm)) ha
 | a::as,b::bs,_,_,ha,hb,h=>by
  obtain⟨h1,h2⟩:=Q3 h;obtain⟨e1,e2⟩:=AB (λz=>ha<|N4 _ z) (λz=>hb<|N4 _ z) h2;erw[by rw[h1,e1],e2]
theorem vL {c:u6}: ∀ {ps qs:qx (qx u6)},ps≠[]->qs≠[]->(∀p∈ps,c∉p)->(∀q∈qs,c∉q)->gS c ps=gS c qs->ps=qs
 | [],_,h,_,_,_,_=>wz rfl h
 | _,[],_,h,_,_,_=>wz rfl h
 | [p],[q],_,_,_,_,h=>by rw[show p=q from h]
 | [p],q::r::s,_,_,hp,_,h=>wz (by rw[show p=q++c::gS c (r::s) from h]; simp) (hp p (N6))
 | p::r::s,[q],_,_,_,hq,h=>wz (by rw[show q=p++c::gS c (r::s) from h.symm]; simp) (hq q (N6))
 | p::r::s,q::t::u,_,_,hp,hq,h=>by
  obtain⟨e1,e2⟩:=AB (hp p<|N6) (hq q<|N6) (show p++c::gS c (r::s)=q++c::gS c (t::u) from h);rw[e1,vL (PJ _ _) (PJ _ _) (λx hx=>hp x<|N4 _ hx) (λx hx=>hq x<|N4 _ hx) e2]
theorem vR: ∀ {ps qs:qx va},ps.map (λy=>y.cps.toList)=qs.map (λy=>y.cps.toList)->ps=qs
 | [],[],_=>rfl
 | [],_::_,h=>by cases h
 | _::_,[],h=>by cases h
 | p::ps,q::qs,h=>by
  obtain⟨h1,h2⟩:=Q3 h;rw[vR h2,ext_toList h1]
theorem t9 {ws:qx va}(h0:ws≠[]) (hw: ∀w∈ws,32∉w.cps.toList):Bl (yL " " ws) " " = ws:=by
 have e:(" " : va)=⟨#[32]⟩:=by trivial
 rw[e];have j1:yL (⟨#[32]⟩:va) ws=Bd ⟨#[32]⟩ ws:=PM _ _;rw[j1];have j2:=StrLaws.join_split (Bd ⟨#[32]⟩ ws) ⟨#[32]⟩;have fr:=StrLaws.split_free (Bd ⟨#[32]⟩ ws) 32;have ne:Bl (Bd ⟨#[32]⟩ ws) ⟨#[32]⟩≠[]:=λz=>by
  have:=split_pos (Bd ⟨#[32]⟩ ws) ⟨#[32]⟩;rw[z] at this;show wz this aS
 generalize Bl (Bd ⟨#[32]⟩ ws) ⟨#[32]⟩=ps at j2 fr ne;have j3:gS 32 (ps.map λy=>y.cps.toList)=gS 32 (ws.map λy=>y.cps.toList):=by rw[<-kD,<-kD,j2]
 show vR<|vL (by simpa using ne) (by simpa using h0) (λp hp=>?_) (λp hp=>?_) j3
 .obtain⟨y,hy,rfl⟩:=Ow.mp hp;show fr y hy
 .obtain⟨y,hy,rfl⟩:=Ow.mp hp;show hw y hy
end L2
namespace L2
open PySem PySem.Spec PyProof.Rows
def jx:qx va:=["PEOPLE","EACH","OVER","MORE","WIDTH"]
def o6 (c:u6):yW:=decide (48<=c) && decide (c<=57)
def cU (z:va):yW:=decide (1<=(z.length:u7)) && decide ((z.length:u7)<=6) && z.cps.toList.all o6
def g7 (z:va):u7:=((NumText.digitsVal z.cps.toList:u6):u7)
def bJ (p z:va):yW:=if p∈jx then cU z else U8 p || decide (p=z)
def cL (p z:va):V:=if p∈jx then .int (g7 z) else .str z
def mY:qx va:=["member NAME","plain NAME MEMBER PEOPLE EACH OVER","link NAME MEMBER BASE MORE","top MEMBER WIDTH","strike member MEMBER","strike demand DEMAND","strike top MEMBER","back","widths","chain MEMBER","why","slack MEMBER","cost DEMAND"]
def cV:qx (qx va):=[["member","NAME"],["plain","NAME","MEMBER","PEOPLE","EACH","OVER"],["link","NAME","MEMBER","BASE","MORE"],["top","MEMBER","WIDTH"],["strike","member","MEMBER"],["strike","demand","DEMAND"],["strike","top","MEMBER"],["back"],["widths"],["chain","MEMBER"],["why"],["slack","MEMBER"],["cost","DEMAND"]]
theorem y9:mY.map (λt=>Bl t " ")=cV:=by trivial
def cO (ps ws:qx va):yW:=decide (ps.length=ws.length) && (ps.zip ws).all λx=>bJ x.1 x.2
def df (ws:qx va):rW (qx V):=(cV.find? λps=>cO ps ws).map λps=>(ps.zip ws).map λx=>cL x.1 x.2
def qS (row:va):rW (qx V):=df (Bl row " ")
variable{z:va}
theorem xx(h:cU z=true):intText? z=some (g7 z)/\z.length<=6:=by
 unfold cU at h;rw[Oz,Oz] at h;obtain⟨⟨h1,h2⟩,h3⟩:=h;have h1:=Oc h1;have h2:=Oc h2;erw[PySem.intText_digits (λc hc=>?_) (λe=>?_) Y,Y]
 .have:=O3.mp h3 c hc;unfold o6 at this;rw[Oz] at this;erw[Oc this.1,Oc this.2]
 .have:z.length=0:=by rw[show z.length=z.cps.toList.length by simp[zO],e]; rfl
  lia
variable{p:va}
theorem mz(h:p∈jx):bJ p z=cU z:=NW h
theorem sI(h:p∉jx) (u:U8 p=true):bJ p z=true:=by unfold bJ; rw[NS h,u]; rfl
theorem e8(h:p∉jx) (u:U8 p=false):bJ p z=decide (p=z):=by unfold bJ; rw[NS h,u]; rfl
theorem lJ(h:p∈jx):cL p z= .int (g7 z):=NW h
theorem cX(h:p∉jx):cL p z= .str z:=NS h
theorem fW (z:va):bJ "member" z=decide (("member" : va)=z):=e8 uw uw
theorem Gz (z:va):bJ "plain" z=decide (("plain" : va)=z):=e8 uw uw
theorem Js (z:va):bJ "link" z=decide (("link" : va)=z):=e8 uw uw
theorem t4 (z:va):bJ "top" z=decide (("top" : va)=z):=e8 uw uw
theorem l8 (z:va):bJ "strike" z=decide (("strike" : va)=z):=e8 uw uw
theorem lN (z:va):bJ "demand" z=decide (("demand" : va)=z):=e8 uw uw
theorem ui (z:va):bJ "back" z=decide (("back" : va)=z):=e8 uw uw
theorem oK (z:va):bJ "widths" z=decide (("widths" : va)=z):=e8 uw uw
theorem nV (z:va):bJ "chain" z=decide (("chain" : va)=z):=e8 uw uw
theorem yX (z:va):bJ "why" z=decide (("why" : va)=z):=e8 uw uw
theorem ng (z:va):bJ "slack" z=decide (("slack" : va)=z):=e8 uw uw
theorem qj (z:va):bJ "cost" z=decide (("cost" : va)=z):=e8 uw uw
theorem kR (z:va):bJ "NAME" z=true:=sI uw uw
theorem eM (z:va):bJ "MEMBER" z=true:=sI uw uw
theorem Ib (z:va):bJ "BASE" z=true:=sI uw uw
theorem fX (z:va):bJ "DEMAND" z=true:=sI uw uw
theorem DE (z:va):bJ "PEOPLE" z=cU z:=mz uw
theorem HE (z:va):bJ "EACH" z=cU z:=mz uw
theorem Ja (z:va):bJ "OVER" z=cU z:=mz uw
theorem IZ (z:va):bJ "MORE" z=cU z:=mz uw
theorem nO (z:va):bJ "WIDTH" z=cU z:=mz uw
theorem vk (z:va):cL "member" z= .str z:=cX uw
theorem GL (z:va):cL "plain" z= .str z:=cX uw
theorem HF (z:va):cL "link" z= .str z:=cX uw
theorem EJ (z:va):cL "top" z= .str z:=cX uw
theorem oQ (z:va):cL "strike" z= .str z:=cX uw
theorem EB (z:va):cL "demand" z= .str z:=cX uw
theorem IV (z:va):cL "back" z= .str z:=cX uw
theorem DS (z:va):cL "widths" z= .str z:=cX uw
theorem Fu (z:va):cL "chain" z= .str z:=cX uw
theorem KC (z:va):cL "why" z= .str z:=cX uw
theorem GZ (z:va):cL "slack" z= .str z:=cX uw
theorem Jd (z:va):cL "cost" z= .str z:=cX uw
theorem u4 (z:va):cL "NAME" z= .str z:=cX uw
theorem gO (z:va):cL "MEMBER" z= .str z:=cX uw
theorem Jb (z:va):cL "BASE" z= .str z:=cX uw
theorem vH (z:va):cL "DEMAND" z= .str z:=cX uw
theorem Ew (z:va):cL "PEOPLE" z= .int (g7 z):=lJ uw
theorem Iv (z:va):cL "EACH" z= .int (g7 z):=lJ uw
theorem Ii (z:va):cL "OVER" z= .int (g7 z):=lJ uw
theorem Ic (z:va):cL "MORE" z= .int (g7 z):=lJ uw
theorem Fb (z:va):cL "WIDTH" z= .int (g7 z):=lJ uw
theorem yP:decide (("back" : va)= "back")=true:=by trivial
theorem yY:decide (("back" : va)= "why")=false:=by trivial
theorem ub:decide (("back" : va)= "widths")=false:=by trivial
theorem uT:decide (("chain" : va)= "chain")=true:=by trivial
theorem wB:decide (("chain" : va)= "cost")=false:=by trivial
theorem uP:decide (("chain" : va)= "slack")=false:=by trivial
theorem yD:decide (("cost" : va)= "cost")=true:=by trivial
theorem rJ:decide (("demand" : va)= "demand")=true:=by trivial
theorem oj:decide (("demand" : va)= "top")=false:=by trivial
theorem yM:decide (("link" : va)= "link")=true:=by trivial
theorem sV:decide (("member" : va)= "chain")=false:=by trivial
theorem uC:decide (("member" : va)= "cost")=false:=by trivial
theorem qW:decide (("member" : va)= "demand")=false:=by trivial
theorem lb:decide (("member" : va)= "member")=true:=by trivial
theorem tR:decide (("member" : va)= "slack")=false:=by trivial
theorem oh:decide (("member" : va)= "top")=false:=by trivial
theorem uk:decide (("plain" : va)= "plain")=true:=by trivial
theorem vX:decide (("slack" : va)= "cost")=false:=by trivial
theorem ve:decide (("slack" : va)= "slack")=true:=by trivial
theorem iI:decide (("strike" : va)= "strike")=true:=by trivial
theorem kx:decide (("top" : va)= "strike")=false:=by trivial
theorem tP:decide (("top" : va)= "top")=true:=by trivial
theorem BG:decide (("why" : va)= "why")=true:=by trivial
theorem wa:decide (("widths" : va)= "why")=false:=by trivial
theorem rD:decide (("widths" : va)= "widths")=true:=by trivial
variable{w1:va}
theorem Bo:df ["member",w1]=some [.str "member",.str w1]:=by
 unfold df cV;simp[OM,cO,-String.reduceEq,fX,eM,kR,nV,qj,fW,ng,u4,vk,lb]
theorem Dz {w1 w2 w3 w4 w5:va}(h3:cU w3=true) (h4:cU w4=true) (h5:cU w5=true):df ["plain",w1,w2,w3,w4,w5]=some [.str "plain",.str w1,.str w2,.int (g7 w3),.int (g7 w4),.int (g7 w5)]:=by
 unfold df cV;simp[OM,cO,-String.reduceEq,HE,eM,kR,Ja,DE,Gz,Iv,gO,u4,Ii,Ew,GL,uk,h3,h4,h5]
theorem FZ {w1 w2 w3 w4:va}(h4:cU w4=true):df ["link",w1,w2,w3,w4]=some [.str "link",.str w1,.str w2,.str w3,.int (g7 w4)]:=by
 unfold df cV;simp[OM,cO,-String.reduceEq,Ib,eM,IZ,kR,Js,Jb,gO,Ic,u4,HF,yM,h4]
variable{w2:va}
theorem IL {w1:va}(h2:cU w2=true):df ["top",w1,w2]=some [.str "top",.str w1,.int (g7 w2)]:=by
 unfold df cV;simp[OM,cO,-String.reduceEq,fX,eM,nO,lN,fW,l8,t4,gO,Fb,EJ,oj,oh,tP,h2]
theorem qy:df ["strike","member",w2]=some [.str "strike",.str "member",.str w2]:=by
 unfold df cV;simp[OM,cO,-String.reduceEq,fX,eM,nO,lN,fW,l8,t4,gO,vk,oQ,lb,iI,kx]
theorem qC:df ["strike","demand",w2]=some [.str "strike",.str "demand",.str w2]:=by
 unfold df cV;simp[OM,cO,-String.reduceEq,fX,eM,nO,lN,fW,l8,t4,vH,EB,oQ,rJ,qW,iI,kx]
theorem uq:df ["strike","top",w2]=some [.str "strike",.str "top",.str w2]:=by
 unfold df cV;simp[OM,cO,-String.reduceEq,fX,eM,nO,lN,fW,l8,t4,gO,oQ,EJ,oj,oh,iI,kx,tP]
theorem FK:df ["back"]=some [.str "back"]:=by
 unfold df cV;simp[OM,cO,-String.reduceEq,ui,yX,oK,IV,yP]
theorem BB:df ["widths"]=some [.str "widths"]:=by
 unfold df cV;simp[OM,cO,-String.reduceEq,ui,yX,oK,DS,ub,rD]
theorem Ea:df ["chain",w1]=some [.str "chain",.str w1]:=by
 unfold df cV;simp[OM,cO,-String.reduceEq,fX,eM,kR,nV,qj,fW,ng,gO,Fu,uT,sV]
theorem IM:df ["why"]=some [.str "why"]:=by
 unfold df cV;simp[OM,cO,-String.reduceEq,ui,yX,oK,KC,yY,BG,wa]
theorem Ey:df ["slack",w1]=some [.str "slack",.str w1]:=by
 unfold df cV;simp[OM,cO,-String.reduceEq,fX,eM,kR,nV,qj,fW,ng,gO,GZ,uP,tR,ve]
theorem GJ:df ["cost",w1]=some [.str "cost",.str w1]:=by
 unfold df cV;simp[OM,cO,-String.reduceEq,fX,eM,kR,nV,qj,fW,ng,vH,Jd,wB,yD,uC,vX]
theorem vy (c:u6): ∀ps:qx (qx u6),(gS c ps).length<=(ps.map Dl).sum+ps.length
 | []=>N0 _
 | [p]=>by simp[gS]
 | p::q::r=>by
  have:=vy c (q::r);change (p++c::gS c (q::r)).length<=_;rw[N1,Oh,OH,Po,Oh];lia
theorem GA (ws:qx va):(yL " " ws).length<=(ws.map (·.length)).sum+ws.length:=by
 have e:(" " : va)=⟨#[32]⟩:=by trivial
 rw[e];have j1:yL (⟨#[32]⟩:va) ws=Bd ⟨#[32]⟩ ws:=PM _ _;rw[j1,show (Bd ⟨#[32]⟩ ws).length=(Bd ⟨#[32]⟩ ws).cps.toList.length by simp[zO],kD];have:=vy 32<|ws.map λy=>y.cps.toList;rw[NR,OK] at this;have e2:(Dl∘λy:va=>y.cps.toList)=λy:va=>y.length:=by funext y; simp[zO]
 rw[e2] at this;show this
theorem oS {ws:qx va}(h0:ws≠[]) (hw: ∀w∈ws,32∉w.cps.toList):qS (yL " " ws)=df ws:=by unfold qS; rw[t9 h0 hw]
section
open MA (Sh aZ bP)
theorem dF {α:Type} [BEq α] [LawfulBEq α]: ∀ {ys:qx α}{j:u6}{y:α},ys[j]?=some y->(∀m,m < j->ys[m]?≠some y)->ys.idxOf y=j
 | [],_,_,h,_=>by cases h
 | z::ys,0,y,h,_=>by
  cases h;rw[WD];simp
 | z::ys,j+1,y,h,hm=>by
  have h0:z≠y:=λe=>hm 0 (QO _) (by rw[e]; rfl);rw[WD,show (z == y)=false from by simpa using h0,cond_false,dF (j:=j) h λm hmj=>hm (m+1) Y]
def fA (ns:qx va) (d:Sn):MA.ao:=(((ns.idxOf d.2.1:u6):u7),match d.2.2.1 with | none=> -1 | some b=>((ns.idxOf b:u6):u7),d.2.2.2)
def aD (ms:qx Mem) (ds:qx Sn):qx MA.ao:=ds.map (fA (ms.map (·.1)))
def SM (ms:qx Mem) (ds:qx Sn):Prop:= ∀d∈ds,d.2.1∈ms.map (·.1)/\(∀b,d.2.2.1=some b->b∈ms.map (·.1))/\0<=d.2.2.2/\d.2.2.2<=99999
def ja (ms:qx Mem):Prop:= ∀m∈ms,∀c,m.2=some c->0<=c/\c<=99999
structure GB (S:Sb):Prop where
 now:SM S.ms S.ds
 cap:ja S.ms
 ks: ∀k∈S.ks,SM k.1 k.2/\ja k.1
theorem Kk:GB ⟨[],[],[]⟩:=⟨λd hd=>(by cases hd),λm hm=>(by cases hm),λk hk=>(by cases hk)⟩
theorem Iq {p e o:u7}(h:Sy p e o):0<=eJ p e o:=by
 unfold Sy at h;unfold eJ;have:0<=p*e:=RB h.1 Y;show RV Y Y
variable{S:Sb}
theorem jz(g:GB S){ms:qx Mem}{ds:qx Sn}(n:SM ms ds) (c:ja ms):GB ⟨ms,ds,S.ks++[(S.ms,S.ds)]⟩:=⟨n,c,λk hk=>by
 rcases Oe.mp hk with hk | hk
 .exact g.ks k hk
 .rw[NZ.mp hk]; exact⟨g.now,g.cap⟩⟩
variable{ms:qx Mem}
theorem Aj {m:va}{o:rW u7}(h:ja ms) (ho: ∀c,o=some c->0<=c/\c<=99999):ja (fN ms m o):=λx hx c e=>by
 unfold fN at hx;obtain⟨y,hy,rfl⟩:=Ow.mp hx;split at e;.exact ho c e
 .exact h y hy c e
theorem HJ {d:cE}(g:GB S) (due:a9 S d= .ok):GB (gh S d):=by
 obtain⟨gn,gc,gk⟩:=id g;cases d with
 | member y =>
  show jz g (λd hd=>?_) λx hx c e=>?_
  .obtain⟨h1,h2,h3⟩:=gn d hd;rw[Od];erw[Oe.mpr<|.inl h1,λb hb=>Oe.mpr<|.inl<|h2 b hb,h3]
  .rcases Oe.mp hx with hx | hx
   .exact gc x hx c e
   .rw[NZ.mp hx] at e; cases e
 | plain y m p e o =>
  rw[a9] at due;split at due; · cases due
  rename_i h1; split at due; · cases due
  split at due; · cases due
  split at due; · cases due
  rename_i h4; split at due; · cases due
  rename_i h5;show jz g (λd hd=>?_) gc;rcases Oe.mp hd with hd | hd
  .exact gn d hd
  .rw[NZ.mp hd];erw[O8.mp h1,λb hb=>(by cases hb),Iq<|O8.mp h4,by change eJ p e o<=99999; lia]
 | link y m b mo =>
  rw[a9] at due;split at due; · cases due
  rename_i h1; split at due; · cases due
  split at due; · cases due
  split at due; · cases due
  rename_i h4;show jz g (λd hd=>?_) gc;rcases Oe.mp hd with hd | hd
  .exact gn d hd
  .rw[NZ.mp hd];have h4:=O8.mp h4;erw[Ph λz=>h1<|.inl z,λb' hb=>(by cases hb; show Ph λz=>h1<|.inr z),h4.1,by change mo<=99999; lia]
 | top m wd =>
  rw[a9] at due;split at due; · cases due
  split at due; · cases due
  split at due; · cases due
  rename_i h3;show jz g (λd hd=>?_) (Aj gc λc e=>by cases e; show O8.mp h3);rw[fu];show gn d hd
 | sT m =>
  show jz g (λd hd=>?_) (Aj gc λc e=>by cases e);rw[fu];show gn d hd
 | sM m =>
  rw[a9] at due;split at due; · cases due
  split at due; · cases due
  rename_i h2;show jz g (λd hd=>?_) (λx hx c e=>gc x (OQ.mp hx).1 c e);obtain⟨k1,k2,k3⟩:=gn d hd;have nb:d.2.1≠m/\d.2.2.1≠some m:=by
   have h2:mh m S.ds=false:=(by simpa using h2);unfold mh at h2;have:=QV.mp h2 d hd;simp only[WC,Qu,not_or] at this;show this
  have keep: ∀y:va,y∈S.ms.map (·.1)->y≠m->y∈(S.ms.filter λx=>decide<|x.1≠m).map (·.1):=λy hy ne=>by
   obtain⟨x,hx,rfl⟩:=Ow.mp hy;show Ow.mpr ⟨x,OQ.mpr ⟨hx,N2 ne⟩,Z⟩
  erw[keep _ k1 nb.1,λb hb=>keep _ (k2 b hb) λe=>nb.2 (by rw[hb,e]),k3]
 | sD y=>show jz g (λd hd=>gn d (OQ.mp hd).1) gc
 | back =>
  change GB (match S.ks.getLast? with | some k=>⟨k.1,k.2,S.ks.dropLast⟩ | none=>S);rcases Qw S.ks with hk | ⟨ks,k,hk⟩
  .rw[hk]; show g
  .have hk:S.ks=ks++[k]:=by rw[hk,Qx]
   rw[show S.ks.getLast?=some k from by rw[hk]; simp,show S.ks.dropLast=ks from by rw[hk]; simp];obtain⟨a1,a2⟩:=gk k (by rw[hk]; simp);erw[a1,a2,λk' hk'=>gk k' (by rw[hk]; simp[hk'])]
theorem IC {d:cE}(g:GB S):GB (dZ S d):=by
 unfold dZ;split;.rename_i e; show HJ g e
 .exact g
theorem jb {ns:qx va}{y:va}(h:y∈ns):ns.idxOf y < ns.length:=List.idxOf_lt_length_iff.mpr h
theorem b9 {ds:qx Sn}(h:SM ms ds): ∀q∈aD ms ds,Sh ms.length q:=λq hq=>by
 obtain⟨d,hd,rfl⟩:=Ow.mp hq;obtain⟨h1,h2,h3,_⟩:=h d hd;have a1:=jb h1;rw[NR] at a1;erw[by change (0:u7)<=((_:u6):u7); lia,by change ((_:u6):u7) < _; lia,?_,?_,h3]
 .change -1<=(match d.2.2.1 with | none=>(-1:u7) | some b=>(((ms.map λx:Mem=>x.1).idxOf b:u6):u7));cases d.2.2.1 with
  | none=>show Oo _
  | some b=>show (-1:u7)<=((_:u6):u7); lia
 .change (match d.2.2.1 with | none=>(-1:u7) | some b=>(((ms.map λx:Mem=>x.1).idxOf b:u6):u7)) < _;cases e:d.2.2.1 with
  | none=>show (-1:u7) < _; lia
  | some b =>
   have a2:=jb<|h2 b e;rw[NR] at a2;change ((_:u6):u7) < _;lia
def nQ (S:Sb):qx (rW u7):=S.ms.map (·.2)
def ba (S:Sb):rW (qx u7):=match aZ S.ms.length (aD S.ms S.ds) with
 | none=>none
 | some L=>match bP L (nQ S) with
  | none=>some L
  | some _=>none
variable{n:u6}{L:qx u7}{cs:qx (rW u7)}
theorem qM(hl:L.length=n) (h:bP L cs=none):MA.Within n L cs:=λv c hv e=>by
 have:=P2.mp h v<|Oq.mpr (by lia);rw[e] at this;have this: ¬decide (c < MA.g L (v:u6))=true:=this;simp at this;show this
theorem zY {i:u6}(h:bP L cs=some i):i < L.length:=Oq.mp (Vl h)
variable{rs:qx MA.ao}
theorem vA {rs':qx MA.ao}(k: ∀q∈rs,Sh n q) (h:aZ n rs=some L) (s: ∀q∈rs',q∈rs): ∃L',aZ n rs'=some L':=by
 obtain⟨_,l2,l3,_⟩:=MA.bG k h;show MA.lP (λq hq=>k q<|s q hq) l3 λq hq=>l2 q<|s q hq
theorem I9 {s k:u7}{ps:qx u6}(h:MA.Path rs s k ps): ∀i∈ps,i < rs.length:=by
 induction h with
 | nil=>intro i hi; cases hi
 | snoc hp hq e ih =>
  intro i hi;rcases Oe.mp hi with hi | hi
  .exact ih i hi
  .rw[NZ.mp hi]; show (NX.mp hq).1
def iq (rs:qx MA.ao) (way:qx u6):Prop:= ∃(i:u6) (q:MA.ao) (ps:qx u6),way=i::ps/\rs[i]?=some q/\q.2.1≠ -1/\0 < q.2.2/\MA.Path rs q.1 q.2.1 ps/\(q.1::MA.Sm rs ps).Nodup
variable{way:qx u6}
theorem iq.lt(h:iq rs way): ∀i∈way,i < rs.length:=by
 obtain⟨i,q,ps,rfl,hi,_,_,hp,_⟩:=h;intro j hj;rcases N5.mp hj with rfl | hj
 .exact (NX.mp hi).1
 .exact I9 hp j hj
theorem iq.none(k: ∀q∈rs,Sh n q) (h:iq rs way):aZ n rs=none:=by
 obtain⟨i,q,ps,rfl,hi,hb,hm,hp,_⟩:=h;cases e:aZ n rs with
 | none=>rfl
 | some L =>
  exfalso;obtain⟨_,l2,l3,_⟩:=MA.bG k e;have hq:=NU hi;obtain⟨o1,o2,o3,o4,o5⟩:=k q hq;have a1:=(MA.Path.le k l2 o1 hp).2;have a2:=l2 q hq;have a3:MA.ask (MA.g L) q=MA.g L q.2.1+q.2.2:=by
   unfold MA.ask;simp[hb]
  lia
theorem DX(k: ∀q∈rs,Sh n q) (h: ∀q∈rs,q.2.1≠ -1->0 < q.2.2-> ∃S:u7->Prop,S q.1/\ ¬S q.2.1/\ ∀r∈rs,0<=r.2.1->S r.2.1->S r.1): ∃L,aZ n rs=some L:=by
 obtain⟨f,f0,f1⟩:=MA.qO k<|MA.F7 k h;show MA.lP k (λi _ _=>f0 i) f1
theorem Fm(h:ja S.ms){v:u6}{c:u7}(e:(S.ms.map λm:Mem=>m.2).getD v none=some c):c<=99999:=by
 rw[NY,N7] at e;cases hm:S.ms[v]? with
 | none=>rw[hm] at e; cases e
 | some m =>
  rw[hm] at e;show (h m (NU hm) c e).2
end
section
open MA (Sh aZ bP)
theorem Kg {S:Sb}(db:SM S.ms S.ds) (h: ∀f,¬MA.Met (aD S.ms S.ds) f):ba S=none:=by
 unfold ba;cases e:aZ S.ms.length (aD S.ms S.ds) with
 | none=>rfl
 | some L=>show wz (MA.bG (b9 db) e).2.1 (h _)
def UK (ns:qx va):qx Mem:=ns.map λy=>(y,none)
variable{ns:qx va}
theorem getD_at {k:u6}(h:k < ns.length):ns[k]?=some (ns.getD k ""):=by
 rw[NY,NV h]; rfl
theorem DF(hn:ns.Nodup){k:u6}(h:k < ns.length):ns.idxOf (ns.getD k "")=k:=by
 show dF (getD_at h) λm hm e=>?_;have hml:m < ns.length:=Y;have e1:=(NX.mp e)
 have e2:=(NX.mp<|getD_at h)
 show QJ.mp hn m k hml h hm (by rw[e1.2,e2.2])
section
variable {ns cs:qx va}{w:u6}{p:u7}{mo:u6->u7}{k:u6}
end
section
variable {S:Sb}{y m b:va}
end
end
section
open MA (Sh aZ bP)
structure U2 (H0:Hp) (os:qx qA) (H:Hp):Prop where
 s:ag H0 H
 n: ∀b∈os,H0 b=none
section
variable {H0 H H':Hp}{os os':qx qA}{pr t:qA}{o u:HO}{rs:qx MA.ao}{q:MA.ao}{xs:qx V}{K:R7}
end
end
def UE {α:Type}(xs:qx α):qx α:=(wx ((xs.length+1) / 2)).filterMap λk=>xs[2*k]?
inductive Nw (K:R7) (Q:VK) (x:V) (H2:Hp):Prop | mk (a xs:_) (e0:x= .ref a) (e1:R5 K H2 a xs) (q: ∀p,H2 p=none->Q (.ref p) (upd H2 p (.lst (UE xs))))
section
variable {X:Cx}{e st:tW}{te ts:TE}{p2 pos:Pos}
end
section
open MA (Sh aZ bP)
section
variable {H H':Hp}{os os':qx qA}{la t:qA}{ds:qx Sn}{d:Sn}{xs:qx V}
end
section
open MA
variable {n:u6}{rs:qx MA.ao}{r:MA.ao}{ws L:qx u7}{k:u7}
end
end
section
open MA (Sh aZ bP)
theorem Hr {ms:qx Mem}(hn:(ms.map (·.1)).Nodup):(ms.map (·.1)).map (λy=>bD ms y)=ms.map (·.2):=by
 rw[OK];show PX λm hm=>?_;change bD ms m.1=m.2;unfold bD;cases e:ms.find? (λx=>x.1 == m.1) with
 | none=>show wz (P2.mp e m hm) uD
 | some x =>
  have h1:x.1=m.1:=by simpa using List.find?_some e
  have hx:=Vl e;obtain⟨i,hi⟩:=Rb.mp hm;obtain⟨j,hj⟩:=Rb.mp hx;obtain⟨l1,e1⟩:=NX.mp hi;obtain⟨l2,e2⟩:=NX.mp hj;have:j=i:=(Q5 (h₀:=by rw[NR]; show l2) (h₁:=by rw[NR]; show l1) hn).mp (by rw[Q7,Q7,e1,e2]; show h1);subst this;rw[hj] at hi;cases hi;rfl
theorem zo {S:Sb}(db:SM S.ms S.ds):(MA.gq S.ms.length (aD S.ms S.ds)=true->ba S=none)/\(MA.gq S.ms.length (aD S.ms S.ds)=false-> ∃L,aZ S.ms.length (aD S.ms S.ds)=some L/\MA.c9 S.ms.length (aD S.ms S.ds)=L/\(bP L (nQ S)=none->ba S=some L)/\(bP L (nQ S)≠none->ba S=none)):=by
 have k:=b9 db;erw[λh=>Kg db<|MA.pR k h,λh=>?_];obtain⟨f,f0,hf⟩:=MA.qO k h;obtain⟨L,eL⟩:=MA.lP k (λi _ _=>f0 i) hf;erw[L,eL,MA.vx k eL,λe=>?_,λe=>?_]
 .unfold ba;rw[eL];change (match bP L (nQ S) with | none=>some L | some _=>none)=some L;rw[e]
 .unfold ba;rw[eL];change (match bP L (nQ S) with | none=>some L | some _=>none)=none;cases e2:bP L (nQ S) with
  | none=>show wz e2 e
  | some j=>rfl
end
inductive NB (K:R7) (x y:V) (H:Hp) (Q:VK):Prop | mk (a b:qA) (ys:qx V) (e0:x= .ref a) (e1:y= .ref b) (e2:Se K H b ys) (e3:ys.all c6=true) (q:((∃xs,R5 K H a xs/\Q (.bl false) H)\/ ∃xs,Se K H a xs/\xs.all c6=true/\Q (.bl (Bm xs ys)) H))
inductive NN (K:R7) (x y:V) (H:Hp) (Q:VK):Prop | mk (a b:qA) (ys:qx V) (e0:x= .ref a) (e1:y= .ref b) (e2:Se K H b ys) (e3:ys.all c6=true) (q:((∃xs,R5 K H a xs/\Q (.bl true) H)\/ ∃xs,Se K H a xs/\xs.all c6=true/\Q (.bl (!Bm xs ys)) H))
inductive NK (K:R7) (x y:V) (H:Hp) (Q:VK):Prop | mk (a b:qA) (xs ys:qx V) (e0:x= .ref a) (e1:y= .ref b) (e2:R5 K H a xs) (e3:R5 K H b ys) (e4:xs.length=ys.length) (e5:xs.all c6=true) (e6:ys.all c6=true) (q:Q (.bl ((wx xs.length).all λi=>Th (xs.getD i .non) (ys.getD i .non))) H)
inductive NF (K:R7) (x y:V) (H:Hp) (k:Prop):Prop | mk (a b:qA) (xs:qx V) (e0:x= .ref a) (e1:y= .ref b) (e2:R5 K H a xs) (e3:R5 K H b []) (e4:0 < xs.length) (q:k)
section
variable {xs xs':qx qA}{n:u6}{H H':Hp}{ts ln la dd:qA}{vs:qx V}{kvs:Sx}{ms:qx Mem}{ds:qx Sn}
end
inductive Uo (us:qx va):qx Mem->qx (qx Mem×va)->Prop
 | nil:Uo us (UK us) []
 | snoc {mp:qx Mem}{g:va}{c:u7}{st:qx (qx Mem×va)}:Uo us mp st->bD mp g=none->g∈mp.map (·.1)->Uo us (fN mp g (some c)) (st++[(mp,g)])
theorem Uh (A:u6->St->Hp->Prop): ∃P:u6->St->Hp->Prop,(∀i O H,A i O H->P i O H)/\ ∀i O H,P i O H->A i O H:=⟨A,λ_ _ _ h=>h,λ_ _ _ h=>h⟩
theorem MV (A:St->Hp->Prop): ∃P:St->Hp->Prop,(∀O H,A O H->P O H)/\ ∀O H,P O H->A O H:=⟨A,λ_ _ h=>h,λ_ _ h=>h⟩
variable{D:Ends}{O:St}{H:Hp}
theorem cm {J:It}{xs:qx V}{g:TG}{tb:TS}(Pv:u6->St->Hp->Prop) (h0:Pv 0 O H) (hJ: ∀i O H,i<=xs.length->Pv i O H->JL J H xs)
  (hs: ∀i x O H (D':Ends),(∀O H,Pv (i+1) O H->D'.nx O H)->(∀v H,D.rt v H->D'.rt v H)->xs[i]?=some x->Pv i O H->g x O H λO2 H2=>tb D' O2 H2) (hd: ∀O H,Pv xs.length O H->D.nx O H) :
  ∃W:u6->u6->St->Hp->Prop,(∃m,W 0 m O H)/\ ∀i m O H,W i m O H ->
   (J.stop i H/\D.nx O H)\/(J.go i H/\ ∃N:St->Hp->Prop,(∀O' H',N O' H'-> ∃m',m' < m/\W (i+1) m' O' H')/\ ∀x H',J.yld i H x H'->g x O H' λO2 H2=>tb { D with nx:=N,ct:=N,bk:=D.nx } O2 H2) :=
 cA Pv h0 hJ (λi x O H hx hp=>hs i x O H _ (λ_ _ z=>z) (λ_ _ z=>z) hx hp) hd
theorem nJ {m:u6}{W:u6->St->Hp->Prop}{tb:TS}(h: ∀D':Ends,(∀O H m',m' < m->W m' O H->D'.nx O H)->tb D' O H): ∃N:St->Hp->Prop,(∀O' H',N O' H'-> ∃m',m' < m/\W m' O' H')/\tb { D with nx:=N,ct:=N,bk:=D.nx } O H :=
 ⟨λO H=> ∃m',m' < m/\W m' O H,λ_ _ z=>z,h _ λ_ _ m' a b=>⟨m',a,b⟩⟩
inductive LR (K:R7) (x y:V) (H:Hp) (Q:VK):Prop | mk (a b:qA) (xs:qx V) (e0:x= .ref a) (e1:y= .ref b) (e2:R5 K H a xs) (e3:R5 K H b []) (q:Q (.bl (decide (0 < xs.length))) H)
def Cg (K:R7):R2:=λx y H Q=>LR K x y H Q
variable{X:Cx}
theorem xn(hu:X.A.units+1 < DK):So X (zm .NotEq) (Cg X.K):=by
 intro R1 s O H x y v u Q I rx ry h;obtain⟨a,b,xs,rfl,rfl,ha,hb,q⟩:=h;cases rx;cases ry;obtain⟨us,r1,p1,z1⟩:=I.list ha;obtain⟨vs,r2,p2,z2⟩:=I.list hb;have l1:=r1.length;have l2:=r2.length;have l2:vs.length=0:=by rw[<-l2]; rfl
 by_cases hl:0 < xs.length
 .rw[N2 hl] at q;show WO p1.isList p2.isList (by simp; lia) Y _ _ _ _ ⟨.bl _,H,I,Z,q⟩
 .rw[N8 hl] at q;show XM (e:=λi=>true) p1.isList p2.isList (by simp; lia) Y (λj h1 h2=>?_) _ _ _ _ ?_
  .have h1':j < us.length:=by simpa using h1
   lia
  .rw[show us.toArray.size=0 from (show us.length=0 by lia)];erw[.bl _,H,I,Z,q]
section
variable {X:Cx}
end
def MB (lo:u7) (n:u6):It:=⟨λi _=>i < n,λi H x H'=>H'=H/\x= .int (lo - i),λi _=>n<=i⟩
section
variable {X:Cx}{tg:tW}
inductive Nj (R:It->Hp->Prop) (vs:qx V) (H1:Hp):Prop | mk (i j:u7) (e0:vs=[.int i,.int j,.int (-1)]) (e1:XH i j (-1)=true) (q:R (MB i (i - j).toNat) H1)
end
inductive Nt (K:R7) (x y:V) (H:Hp) (Q:VK):Prop | mk (a b:qA) (xs ys:qx V) (e0:x= .ref a) (e1:y= .ref b) (e2:R5 K H a xs) (e3:R5 K H b ys) (e4:xs.length=ys.length) (e5:xs.all c6=true) (e6:ys.all c6=true) (q:Q (.bl (!((wx xs.length).all λi=>Th (xs.getD i .non) (ys.getD i .non)))) H)
inductive NJ (K:R7) (x y:V) (H:Hp) (k:Prop):Prop | mk (a b:qA) (xs:qx V) (e0:x= .ref a) (e1:y= .ref b) (e2:R5 K H a xs) (e3:R5 K H b []) (e4:0 < xs.length) (q:k)
section
variable {X:Cx}
end
theorem Fq {n:u6}(h:n < 1000000):cU (xT (toString (n:u7)))=true/\g7 (xT (toString (n:u7)))=n/\32∉(xT (toString (n:u7))).cps.toList/\(xT (toString (n:u7))).length<=6:=by
 have e:=Rc n;have dg: ∀c∈Jn 10 n,48<=c.toNat/\c.toNat<=57:=λc hc=>by
  have:=RH (b:=10) aS aS hc;unfold Xm at this;simp only[Oz,Qu,ge_iff_le,VD] at this;show this
 have l6:(Jn 10 n).length<=6:=VE aS aS h;have l1:=VH 10 n;have ln:(xT<|toString (n:u7)).length=(Jn 10 n).length:=by
  have:=OI Dl e;rw[NR] at this;rw[<-this];simp[zO]
 have nf:cU (xT<|toString (n:u7))=true:=by
  unfold cU;rw[ln,e,Oz,Oz];erw[⟨N2 Y,N2 Y⟩,O3.mpr λc hc=>?_];obtain⟨d,hd,rfl⟩:=Ow.mp hc;have:=dg d hd;unfold o6;rw[Oz];erw[N2 this.1,N2 this.2]
 erw[nf,?_,λhc=>?_,Y]
 .have a:=(xx nf).1;have b:=Xz (n:=(n:u7)) Y Y;show Oj<|a.symm.trans b
 .rw[e] at hc;obtain⟨d,hd,ed⟩:=Ow.mp hc;have:=dg d hd;lia
theorem oG {n:u7}(h0:0<=n) (h:n < 1000000):cU (xT (toString n))=true/\g7 (xT (toString n))=n/\32∉(xT (toString n)).cps.toList/\(xT (toString n)).length<=6:=by
 obtain⟨k,rfl⟩: ∃k:u6,n=(k:u7):=⟨n.toNat,Y⟩
 show Fq Y
theorem bA {t u:TS}(h: ∀D':Ends,(∀O' H',u D O' H'->D'.nx O' H')->(∀v H,D.rt v H->D'.rt v H)->t D' O H):E1 t u D O H:=h { D with nx:=u D } (λ_ _ z=>z) λ_ _ z=>z
theorem Fs {t u:TS}(M:St->Hp->Prop) (h: ∀D':Ends,(∀O' H',M O' H'->D'.nx O' H')->(∀v H,D.rt v H->D'.rt v H)->t D' O H) (k: ∀O' H',M O' H'->u D O' H'):Kb t u D O H:=⟨M,h { D with nx:=M } (λ_ _ z=>z) λ_ _ z=>z,k⟩
theorem bo {K:R7}{i:u6}{j:u7}{x y:va}{A B:TS}{td:qA}{us:qx V}(hs:O[i]?=some (some (.ref td))) (ht:Se K H td us) (h0:Si us j=some (.str x)) (n:x≠y) (k:B D O H):Gq (tY (S6 UB (S6 (Cp K) (oO i) (tC (.int j))) (tC (.str y)))) A B D O H :=
 ⟨_,hs,td,_,_,_,Z,Z,ht,h0,Z,_,Z,by rw[N8 λz=>n (V.str.inj z)]; show k⟩
theorem b7.mm {j k:u6}{A:uc}(r:b7 k A) (h:j<=k:=by decide):b7 j A:=r.mono h
theorem SO (l:qx va) (h:l.Nodup:=by trivial):l.Nodup:=h
theorem TJ:ko 1 (aK 0):=pW aS
inductive JS (x y:V) (H:Hp) (Q:VK):Prop | mk (i j:va) (e:x= .str i) (f:y= .str j) (g:i.length+j.length<=sizeLine) (q:Q (.str (i++j)) H)
def Mb:R2:=λx y H Q=>JS x y H Q
theorem dE:So X (CN .Add) Mb:=λR1 s O H x y v u Q I rx ry ⟨i,j,e,f,g,q⟩=>Ct R1 s O H x y v u Q I rx ry ⟨i,j,e,f,g,q⟩
section
variable {X:Cx}{a b e:tW}{ta tb te:TE}{es:qx tW}{pos p q:Pos}
theorem R6 (h:PE X e te) (hs:isStar e=false:=by rfl):PA X [e] (qc te mi):=aj h b8 hs
theorem Sa (K:R7) (ha:PE X a ta) (hb:PE X b tb) (hK:X.K=K:=by rfl) (hs:vf b:=by show λ_ _=>rfl):PE X (.Subscript a b pos) (S6 (Gx K) ta tb):=by
 subst hK; show tK IE ha hb hs
theorem R8 (K:R7) (ha:PE X a ta) (hb:PE X b tb) (hK:X.K=K:=by rfl) (hs:vf b:=by show λ_ _=>rfl):PE X (.Subscript a b pos) (S6 (Cp K) ta tb):=by
 subst hK; show tK JK ha hb hs
variable{op:CmpOp}{r:R2}
theorem dH(ho:So X (zm op) r) (ha:PE X a ta) (hb:PE X b tb) (hm:zL op b=false:=by show EV _):PE X (.Compare a [op] [b] pos) (S6 r ta tb):=Ak ho ha hb hm
theorem aA(ho:So X (zm op) r) (ha:PE X a ta) (hb:PE X b tb) (hm:zL op b=false:=by show EV _):PT X (.Compare a [op] [b] pos) (tY (S6 r ta tb)):=An ho ha hb hm
theorem Ti (K:R7) (hK:X.K=K:=by rfl):So X (zm .In) (T6 K false):=by subst hK; show Dy
theorem rG (K:R7) (hK:X.K=K:=by rfl):So X (zm .NotIn) (T6 K true):=by subst hK; show ym
theorem Bz(ho:So X (zm op) r) (ha:PE X a ta) (hb:PE X b tb) (hm:zL op b=false:=by with_unfolding_all rfl):PE X (.Compare a [op] [b] pos) (S6 r ta tb):=Ak ho ha hb hm
theorem f6(ho:So X (zm op) r) (ha:PE X a ta) (hb:PE X b tb) (hm:zL op b=false:=by with_unfolding_all rfl):PT X (.Compare a [op] [b] pos) (tY (S6 r ta tb)):=An ho ha hb hm
theorem Tf (K:R7) (hK:X.K=K:=by rfl):Uc X (KY K):=by subst hK; show Jj
theorem gn (i:u6){x:va}(hN:X.N.Nodup) (hi:X.N[i]?=some x:=by rfl) (hx:Loc X.env.scope x:=by first | show WA rfl | show V7 rfl) (hf:X.fn x=true\/X.env.scope.names.lookup x=some .local:=by first | show .inl rfl | show .inr rfl | assumption):PG X (.Name x pos) (aK i):=HK hN hi hx hf
theorem R9 (i:u6){x:va}{te:TE}{pos':Pos}(hN:X.N.Nodup) (he:PE X e te) (hi:X.N[i]?=some x:=by rfl) (hx:Loc X.env.scope x:=by first | show WA rfl | show V7 rfl) (hs:HW e (some (.Name x pos')) pos.line X.env=pure false:=by rfl) (hf:X.fn x=true\/X.env.scope.names.lookup x=some .local:=by first | show .inl rfl | show .inr rfl | assumption) :
  PS X (.Assign [.Name x pos'] e pos) (xu te (aK i)):=KZ hN hi hx he hs hf
theorem eR (K:R7) (ha:PE X a ta) (hK:X.K=K:=by rfl) (he: ∀whole,isTrue a X.env whole=(do let v <-whole; standAt a.pos; holding [v] (truthy v)):=by show λ_=>rfl):PT X a (E4 K ta):=by subst hK; show Cy ha he
theorem c5 (K:R7) (hm:X.mg "len" = none) (h:PE X e te) (hK:X.K=K:=by rfl) (hg:Gl X "len" := by rfl) (hs:isStar e=false:=by rfl)
  (he:SE X e []:=by rfl) (hpl:BK X pos []:=by rfl):PE X (.Call (.Name "len" p) [e] [] pos) (Us (K2 K) (qc te mi)):=by
 subst hK; show bR D0 hg hm boot_len (aj h b8 hs) aS aS he hpl
theorem cw (K:R7){f:va}(he:PE X e ta) (hK:X.K=K:=by rfl) (hb:CT e f X.env (eval e X.env)=eval e X.env:=by rfl):PE X (.Attribute e f pos) (Jz K ta f):=by subst hK; show K3 he hb
theorem cS (K:R7){tg:tW}(hl:PE X e te) (hK:X.K=K:=by rfl):PI X tg e (Hm K te):=by subst hK; show Hw hl
theorem fB {tg:tW}{te:TE}(hm:X.mg "range" = none) (h:PE X e te) (hg:Gl X "range" := by rfl) (hi:isStar e=false:=by rfl) (hs:zb [e] X.env=[(false,eval e X.env)]:=by rfl):PI X tg (.Call (.Name "range" p) [e] [] pos) (G7 (qc te mi)):=Dw hg hm (aj h b8 hi) hs
theorem fR (K:R7){o:tW}{to:TE}{apos cpos:Pos}(ho:PE X o to) (h:PE X e te) (hK:X.K=K:=by rfl) (hsr:isStar e=false:=by rfl) (hbase:CT o "append" X.env (eval o X.env)=eval o X.env:=by rfl)
  (hfew:((zV cpos (zb [e] X.env)).all (λx=> !x.1) && (CU cpos (AR [] X.env)).all (λx=>x.1.isSome)
   && decide ([e].length+([]:qx Ig).length+(if ([]:qx Ig).isEmpty then 0 else 1) < 30))=true:=by rfl)
  (hline:(apos.endLine == cpos.line)=true:=by rfl) (hs:SE X e []:=by rfl) (hplain:BK X cpos []:=by rfl) :
  PE X (.Call (.Attribute o "append" apos) [e] [] cpos) (SS K "list" Ar to (qc te mi)):=by
 subst hK; show c7 OE PySem.F.slot_list_append PySem.F.type_list_append D5 ho (aj h b8 hsr) hbase hfew hline hs hplain
theorem cY {tg iter:tW}{body:qx zc}{wi:TI}{g:TG}{tb:TS}(hi:PI X tg iter wi) (hg:PG X tg g) (hb:Sz X body tb) (hp:PassesOwn (model X.prog X.w) X.A X.env X.xe:=by show QK) (hc:X.calm=true:=by rfl)
  (hs: ∀x,AX iter X.env x=pure x:=by intro _; rfl):PS X (.For tg iter body [] pos) (Ku wi g tb):=CY hp hc hi hg hb hs
section
variable {scope:A3}{tg elt iter:tW}{ifs:qx tW}{wi:TI}{g:TG}{tt:TT}
theorem ug (st:zc) (own frn:qx va) (fr:qx u6) (go:ko own.length g) (hi:PI X tg iter wi)
  (hb: ∀C s2 H2 fp,PG (bq X (own++frn) scope C s2 H2 fp) tg g/\Tr (bq X (own++frn) scope C s2 H2 fp) ifs tt/\PE (bq X (own++frn) scope C s2 H2 fp) elt te)
  (S:gX (bu st) scope own frn:=by exact⟨Z,uw,uw,uw,uw,uw⟩) (hp:X.env.scope=bu st:=by rfl) (hfr:fr.map (λj=>X.N[j]?)=frn.map some:=by rfl) (hc:X.calm=true:=by rfl)
  (hs: ∀x,AX iter X.env x=pure x:=by intro _; rfl):PE X (.ListComp elt [⟨tg,iter,ifs,0⟩] scope pos) (n8 wi g tt te own fr):=Jq S hp hfr hc go hi hb hs
theorem Tx (i:u6){y:va}{py spos:Pos}(hN:X.N.Nodup) (st:zc) (own frn:qx va) (fr:qx u6) (go:ko own.length g) (hi:PI X tg iter wi)
  (hb: ∀C s2 H2 fp,PG (bq X (own++frn) scope C s2 H2 fp) tg g/\Tr (bq X (own++frn) scope C s2 H2 fp) ifs tt/\PE (bq X (own++frn) scope C s2 H2 fp) elt te)
  (hy:X.N[i]?=some y:=by rfl) (hl:Loc X.env.scope y:=by first | show WA rfl | show V7 rfl)
  (S:gX (bu st) scope own frn:=by exact⟨Z,uw,uw,uw,uw,uw⟩) (hp:X.env.scope=bu st:=by rfl) (hfr:fr.map (λj=>X.N[j]?)=frn.map some:=by rfl) (hc:X.calm=true:=by rfl)
  (hsw:HW (.ListComp elt [⟨tg,iter,ifs,0⟩] scope pos) (some (.Name y py)) spos.line X.env=pure true:=by rfl)
  (hs: ∀x,AX iter X.env x=pure x:=by intro _; rfl)
  (hf:X.fn y=true\/X.env.scope.names.lookup y=some .local:=by first | show .inl rfl | show .inr rfl | assumption) :
  PS X (.Assign [.Name y py] (.ListComp elt [⟨tg,iter,ifs,0⟩] scope pos) spos) (xu (n8 wi g tt te own fr) (aK i)):=HP hN hy hl S hp hfr hc go hi hb hsw hs hf
end
end
section
variable {P:tq}{w:sW}{K:R7}{mg:oR}{base:yk}{x m qual:va}{C:qA}{st:zc}{N ps:qx va}{k:u6}{sp:Sp}
end
inductive ke:V->va->Prop
 | str (z:va):ke (.str z) z
 | int (i:u7) (h:i.natAbs.log2 < 1920):ke (.int i) (xT (toString i))
theorem ke.fmt {P:tq}{w:sW}{A:uc}{E:oF}{s:rK}{x:V}{v:qT}{R:oF}(h:ke x z) (r:RelV x v) (hz:z.length<=sizeLine) (k: ∀t tk,R (.str z t) { s with toks:=tk }):xA (model P w) A (formatField v Vu) R E s:=by
 cases h with
 | str z =>
  obtain⟨t,rfl⟩:=r;show formatField_str (λt' tk=>k t' tk) hz
 | int i hd =>
  obtain⟨t,rfl⟩:=r;show formatField_int_small hd<|k _ _
inductive Mx (tb:TE) (c:va) (O:St) (Q:VK) (x:V) (H:Hp):Prop | mk (z:va) (e:ke x z) (f:z.length<=1000) (q:tb O H λy H2=> ∃w,ke y w/\w.length<=10000/\Q (.str (z++c++w)) H2)
def UI (ta:TE) (c:va) (tb:TE):TE:=λO H Q=>ta O H λx H1=>Mx tb c O Q x H1
theorem dQ (a b:va):(a++b).length=a.length+b.length:=by
 have:=OI Dl<|bS a b;rw[N1] at this;simpa [zO] using this
theorem Hg {a b:tW}{ta tb:TE}{c:va}{p1 p2 p3 pos:Pos}{j}(ha:PE X a ta) (hb:PE X b tb) (hc:c.length<=1000:=by trivial) :
  PE X (.JoinedStr [.FormattedValue a (-1) none p1,.Constant (.str c) j p2,.FormattedValue b (-1) none p3] pos) (UI ta c tb):=by
 intro R1 s O H Q I h;show JoinedStr_many<|joinParts_cons<|FormattedValue_plain<|Sf (ha R1 s O H _ I h) λv s1 ⟨x,H1,I1,r1,q1⟩=>?_;obtain⟨z,ez,lz,q1⟩:=q1;have e0:Vu++z=z:=ext_toList (by rw[bS]; rfl);have s1k:(1000:u6)<=sizeLine:=by decide
 show ez.fmt r1 (Ob lz s1k) λt tk=>?_;change (Vu++z).length<=sizeLine/\_;rw[e0];erw[Ob lz s1k,joinParts_cons<|V0 ?_];change (z++c).length<=sizeLine/\_;have l2:(z++c).length<=2000:=by rw[dQ]; lia
 erw[Ob l2 aS,joinParts_cons<|FormattedValue_plain<|Sf (hb R1 _ O H1 _ ((I1.tok _).tok _) q1) λu s2 ⟨y,H2,I2,r2,q2⟩=>?_];obtain⟨w,ew,lw,q2⟩:=q2;have l3:(z++c++w).length<=12000:=by rw[dQ]; lia
 show ew.fmt r2 (Ob lw aS) λt tk=>?_;change (z++c++w).length<=sizeLine/\_;erw[Ob l3 aS,joinParts_nil ⟨.str _,H2,(I2.tok _).tok _,⟨_,Z⟩,q2⟩<|Ob l3 aS]
section
open MA (Sh aZ bP)
def dM (i:u7):va:=xT (toString i)
def eqT (x:va×u7):va:=x.1++ "=" ++ dM x.2
def rL (ns:qx va) (L:qx u7):va:=if ns=[] then "none" else yL " " ((ns.zip L).map eqT)
def kE (x:va) (ys:qx va):va:=x++ " by " ++ yL " " ys
theorem eK {k:u6}: ∀ {ys:qx va},(∀y∈ys,y.length<=k)->(ys.map (·.length)).sum<=ys.length*k
 | [],_=>ON _
 | y::r,h=>by
  have a:=eK (ys:=r) λz hz=>h z<|N4 _ hz;have b:=h y N6;rw[OH,Po,Oh,Xg];lia
theorem fz {ys:qx va}{n k:u6}(hl:ys.length<=n) (h: ∀y∈ys,y.length<=k):(yL " " ys).length<=n*(k+1):=by
 have a:=GA ys;have b:=eK h;have c:ys.length*(k+1)<=n*(k+1):=Pq _ hl;rw[Nat.mul_succ] at c;lia
variable{i:u7}
theorem iR(h1:i.natAbs < 2 ^ 30):i.natAbs.log2 < 1920:=by
 by_cases z:i.natAbs=0;.rw[z]; decide
 .have:=(Xw z (k:=30)).mpr h1;lia
theorem gP(h0:0<=i) (h1:i < 1000000000):(dM i).length<=9:=by
 obtain⟨n,rfl⟩:=Qn h0;have e:=Rc n;have:=OI Dl e;rw[NR] at this;have l7:(Jn 10 n).length<=9:=VE aS aS Y;change (xT<|toString (n:u7)).length<=9;rw[show (xT<|toString (n:u7)).length=(xT<|toString (n:u7)).cps.toList.length by simp[zO]];lia
theorem qb(h0:0<=i) (h1:i < 1000000000):ke (.int i) (dM i):= .int i (iR Y)
theorem Kj {ws:qx u7}{B:u7}(h0:0<=B) (h: ∀x∈ws,x<=B) (i:u7):MA.g ws i<=B:=by
 unfold MA.g;rw[NY];cases e:ws[i.toNat]? with
 | none=>show h0
 | some x=>show h x (NU e)
theorem vQ {m:u7}(m0:0<=m): ∀(rs:qx MA.ao) (ws:qx u7) (B:u7),0<=B->(∀r∈rs,r.2.2<=m)->(∀x∈ws,x<=B)-> ∀x∈MA.bQ rs ws,x<=B+rs.length*m
 | [],ws,B,h0,_,h,x,hx=>by
  have:=h x hx;simp only[PR];lia
 | r::rs,ws,B,h0,hm,h,x,hx=>by
  have hr:=hm r N6;have:=vQ m0 rs (MA.dJ ws r) (B+m) Y (λq hq=>hm q (N4 _ hq)) (λy hy=>by
   rcases QL hy with hy | rfl
   .have:=h y hy; lia
   .show MA.sC (by have:=Kj h0 h r.1; lia) ?_;unfold MA.ask;split;.lia
    .have:=Kj h0 h r.2.1; lia) x hx
  have e:((rs.length+1:u6):u7)*m=rs.length*m+m:=by rw[RX,Wl]; simp
  rw[Oh,e];lia
theorem xW {m:u7}(m0:0<=m){rs:qx MA.ao}(hm: ∀r∈rs,r.2.2<=m): ∀(k:u6) (ws L:qx u7) (B:u7),0<=B->(∀x∈ws,x<=B)->MA.loop rs k ws=some L-> ∀x∈L,x<=B+k*(rs.length*m)
 | 0,ws,L,B,_,_,h=>by cases h
 | k+1,ws,L,B,h0,hw,h=>by
  have c0:0<=(rs.length:u7)*m:=RB (QN _) m0;have e:((k+1:u6):u7)*(rs.length*m)=k*(rs.length*m)+rs.length*m:=by rw[RX,Wl]; simp
  have c1:0<=(k:u7)*(rs.length*m):=RB (QN _) c0;unfold MA.loop at h;split at h
  .cases h;intro x hx;have:=hw x hx;lia
  .intro x hx;have:=xW m0 hm k _ L _ Y (vQ m0 rs ws B h0 hm hw) h x hx;lia
variable{L:qx u7}
theorem nI {S:Sb}{rs:qx MA.ao}(g:Sv S.ms S.ds) (db:SM S.ms S.ds) (sub: ∀q∈rs,q∈aD S.ms S.ds) (l2:rs.length<=24) (h:aZ S.ms.length rs=some L): ∀x∈L,0<=x/\x<=31199688:=λx hx=>by
 have hm: ∀r∈rs,r.2.2<=99999:=λr hr=>by
  obtain⟨d,hd,rfl⟩:=Ow.mp<|sub r hr;show (db d hd).2.2.2
 have a:=xW (m:=99999) aS hm _ _ _ 0 (Oo 0) (λy hy=>by rw[List.eq_of_mem_replicate hy]; decide) h x hx;have l1:=g.ml;have b:(rs.length:u7)*99999<=24*99999:=PU Y aS;have c:((S.ms.length+1:u6):u7)*((rs.length:u7)*99999)<=13*(24*99999):=Int.mul_le_mul Y b (RB (QN _) aS) aS;erw[?_,Y];obtain⟨i,hi⟩:=Rb.mp hx;obtain⟨ll,_,nn,_⟩:=MA.bG (λq hq=>b9 db q<|sub q hq) h;have il:=(NX.mp hi).1;have:=nn (i:u6) Y Y;unfold MA.g at this;rw[NY,Oa,hi] at this;show this
theorem iK {S:Sb}(g:Sv S.ms S.ds) (db:SM S.ms S.ds) (h:aZ S.ms.length (aD S.ms S.ds)=some L): ∀x∈L,0<=x/\x<=31199688:=nI g db (λ_ h=>h) (by unfold aD; rw[NR]; show g.dl) h
end
inductive LH (xs:qx V) (H:Hp) (Q:VK):Prop | mk (x:V) (z:va) (e:xs=[x]) (f:ke x z) (q:Q (.str z) H)
def LC:qx V->Hp->VK->Prop:=λxs H Q=>LH xs H Q
theorem Dp:cJ X (.type "str") LC:=by
 intro R1 s O H xs us Q I r h;obtain⟨x,z,rfl,hz,q⟩:=h;obtain⟨u,rfl,ru⟩:=vals1 r;cases hz with
 | str z =>
  obtain⟨t,rfl⟩:=ru;show PySem.P.str_of_str ⟨.str _,H,I,⟨_,Z⟩,q⟩
 | int i hd =>
  obtain⟨t,rfl⟩:=ru;show V2 hd ⟨.str _,H,I.tok _,⟨_,Z⟩,q⟩
inductive Nr (K:R7) (x y:V) (H:Hp) (Q:VK):Prop | mk (a b:qA) (xs:qx V) (e0:x= .ref a) (e1:y= .ref b) (e2:R5 K H a xs) (e3:R5 K H b []) (q:Q (.bl (decide (xs.length=0))) H)
end L2
namespace MA
def R2 (W M:u7):qx ao:=[(0,-1,W),(1,0,M)]
def R3 (W M B:u7):qx ao:=[(0,-1,W),(1,0,M),(0,1,B)]
end MA
namespace L2
open PySem
end L2
namespace MA
def ku (n:u6) (rs:qx ao) (L:qx u7) (cs:qx (rW u7)) (m:u7) (i:u6):rW (u7×u6)->Prop
 | none=> ∀(v:u6) (c:u7),v < i->cs.getD v none=some c->aH n rs m.toNat v < 0
 | some (s,stop)=>stop < i/\(∃c,cs.getD stop none=some c/\0<=aH n rs m.toNat stop/\c=g L m+s+aH n rs m.toNat stop) /\
   (∀(v:u6) (c:u7),v < i->cs.getD v none=some c->0<=aH n rs m.toNat v->g L m+s+aH n rs m.toNat v<=c)/\ ∀(v:u6) (c:u7),v < stop->cs.getD v none=some c->0<=aH n rs m.toNat v->g L m+s+aH n rs m.toNat v < c
section
variable {n:u6}{rs:qx ao}{L:qx u7}{cs:qx (rW u7)}{m:u7}{i:u6}
theorem LW:ku n rs L cs m 0 none:=λv c h=>wz h (OU v)
variable{o:rW (u7×u6)}
theorem x9(h:ku n rs L cs m i o) (z: ∀c,cs.getD i none=some c->aH n rs m.toNat i < 0):ku n rs L cs m (i+1) o:=by
 cases o with
 | none =>
  intro v c hv hc;rcases Qk.mp hv with hv | rfl
  .exact h v c hv hc
  .exact z c hc
 | some p =>
  obtain⟨s,stop⟩:=p;obtain⟨a,b,d,e⟩:=h;erw[Y,b,λv c hv hc hf=>?_,e];rcases Qk.mp hv with hv | rfl
  .exact d v c hv hc hf
  .have:=z c hc; lia
theorem F6 {c0:u7}(h:ku n rs L cs m i o) (hc0:cs.getD i none=some c0) (hf0:0<=aH n rs m.toNat i) (z: ∀s stop,o=some (s,stop)->c0 - aH n rs m.toNat i - g L m < s):ku n rs L cs m (i+1) (some (c0 - aH n rs m.toNat i - g L m,i)):=by
 have old: ∀(v:u6) (c:u7),v < i->cs.getD v none=some c->0<=aH n rs m.toNat v->g L m+(c0 - aH n rs m.toNat i - g L m)+aH n rs m.toNat v < c:=λv c hv hc hf=>by
  cases o with
  | none=>have:=h v c hv hc; lia
  | some p =>
   obtain⟨s,stop⟩:=p;have:=h.2.2.1 v c hv hc hf;have:=z s stop rfl;lia
 erw[Y,⟨c0,hc0,hf0,Y⟩,λv c hv hc hf=>?_,old];rcases Qk.mp hv with hv | rfl
 .have:=old v c hv hc hf; lia
 .rw[hc0] at hc; cases hc; lia
theorem F1 {s c0:u7}{stop:u6}(h:ku n rs L cs m i (some (s,stop))) (hc0:cs.getD i none=some c0) (z: ¬c0 - aH n rs m.toNat i - g L m < s):ku n rs L cs m (i+1) (some (s,stop)):=by
 obtain⟨a,b,d,e⟩:=h;erw[Y,b,λv c hv hc hf=>?_,e];rcases Qk.mp hv with hv | rfl
 .exact d v c hv hc hf
 .rw[hc0] at hc; cases hc; lia
theorem yE {o':rW (u7×u6)}(h:ku n rs L cs m n o) (h':fO n rs L cs m o'):o=o':=by
 cases o with
 | none =>
  cases o' with
  | none=>rfl
  | some p' =>
   obtain⟨s',t'⟩:=p';obtain⟨_,a,⟨c,b,d,_⟩,_⟩:=h';have:=h t' c a b;lia
 | some p =>
  obtain⟨s,t⟩:=p;obtain⟨a,⟨c,b,d,e⟩,f,k⟩:=h;cases o' with
  | none=>have:=h' t c a b; lia
  | some p' =>
   obtain⟨s',t'⟩:=p';obtain⟨_,a',⟨c',b',d',e'⟩,f',k'⟩:=h';have x1:=f t' c' a' b' d';have x2:=f' t c a b d;obtain rfl:s=s':=Y;rcases Wj t t' with z | z | z
   .have:=k' t c z b d; lia
   .rw[z]
   .have:=k t' c' z b' d'; lia
end
end MA
namespace L2
open PySem PySem.Spec PyProof.Rows
inductive Tn (K:R7) (mg:oR) (tp:u6->zc):qx (va×u6)->Prop
 | nil:Tn K mg tp []
 | cons {x:va}{i:u6}{l:qx (va×u6)} (h:TF K mg x (tp i)) (r:Tn K mg tp l):Tn K mg tp ((x,i)::l)
variable{K:R7}{mg:oR}{tp:u6->zc}
theorem Tn.at {x:va}{i:u6}: ∀ {l:qx (va×u6)}(k:u6) (_:Tn K mg tp l) (_:l[k]?=some (x,i)),TF K mg x (tp i)
 | _,0,.cons h _,e=>by cases e; show h
 | _,k+1,.cons _ r,e=>Tn.at k r e
inductive Ts (K:R7) (C:qA) (tp:u6->zc):qx (va×va×u6)->Prop
 | nil:Ts K C tp []
 | cons {x q:va}{i:u6}{l:qx (va×va×u6)} (h:TM K C x q (tp i)) (r:Ts K C tp l):Ts K C tp ((x,q,i)::l)
variable{C:qA}
theorem Ts.at {x q:va}{i:u6}: ∀ {l:qx (va×va×u6)}(k:u6) (_:Ts K C tp l) (_:l[k]?=some (x,q,i)),TM K C x q (tp i)
 | _,0,.cons h _,e=>by cases e; show h
 | _,k+1,.cons _ r,e=>Ts.at k r e
def xS (K:R7) (es:qx qA) (C:qA):Prop:= ∀D∈es,ra K (.ref C) D=some (decide (C=D))
theorem Je {es:qx qA}{c:qT}{d:rW qA}{cd:ClassData}{sl:zR (rW qT)}(l:K.lookup C=some ⟨c,d,.cls cd,sl⟩) (e:(es.all λD=>cd.mro.contains (.ref D) == decide (C=D))=true):xS K es C:=λD hD =>
 Hu l (Oc (by simpa using O3.mp e D hD))
variable{h:yk}
theorem LZ {x:va}(X:K.In h) (G:h.Ns ze mg) (e:Dr K ze x=some (some (.ref C))) (a:SR K C) (b:EH K C=true) (c:zE K (.ref C)=true):TC K mg C x:=⟨a,Q1 X G e,b,c⟩
theorem BE {f:va}(h:zD K (.ref C) f=some none):ic K C f:=h
def wZ (K:R7):qx (qA×(qx (qA×Obj)->qA->Obj->TS))->TH
 | []=>λ_ _ _ _=>zh
 | (D,ts)::l=>JW K D ts (wZ K l)
theorem JA {es:qx qA}(u: ∀C∈es,xS K es C) (v:es.Nodup){i j:u6}{C D:qA}(hC:es[i]?=some C) (hD:es[j]?=some D):ra K (.ref C) D=some (decide (i=j)):=by
 rw[u C (NU hC) D<|NU hD];show OI some<|decide_eq_decide.mpr ⟨λe=>?_,λe=>?_⟩
 .subst e;obtain⟨a,b⟩:=NX.mp hC;obtain⟨c,d⟩:=NX.mp hD;rcases Wj i j with h | h | h
  .exact wz (b.trans d.symm)<|QJ.mp v i j a c h
  .exact h
  .exact wz (d.trans b.symm)<|QJ.mp v j i c a h
 .subst e;show Oj (hC.symm.trans hD)
theorem Er {es:qx qA}(u: ∀C∈es,xS K es C) (v:es.Nodup){C:qA}(x:BM K C rH "ValueError.__new__" = true){i:u6}(hC:es[i]?=some C){Ds:Ends}{O:St}{H:Hp}{ts:qx (qA×Obj)->qA->Obj->TS}(q: ∀R1 x o,ts R1 x o Ds O H) :
  ∀(l:qx (qA×(qx (qA×Obj)->qA->Obj->TS))) (n:u6),es.drop n=l.map (·.1)->n<=i->l[i - n]?=some (C,ts)->wZ K l Ds (.ref C) O H
 | [],n,_,_,e=>by cases e
 | (D,t0)::l,n,hd,hn,e=>by
  have hD:es[n]?=some D:=by
   have:=OI (·[0]?) hd;simpa using this
  erw[C,_,Z,x,JA u v hC hD,?_];by_cases z:i=n
  .subst z;rw[RU] at e;cases e;rw[NW (N2 rfl)];show q
  .rw[NS (by simpa using z)];show Er u v x hC q l (n+1) (by rw[<-List.drop_drop,hd]; rfl) Y ?_;rw[show i - n=i - (n+1)+1 by lia] at e;show e
theorem jh {es:qx qA}{Ds:Ends}{O:St}{H:Hp}{ts:qx (qA×Obj)->qA->Obj->TS}{l:qx (qA×(qx (qA×Obj)->qA->Obj->TS))}(u: ∀C∈es,xS K es C) (v:es.Nodup) (i:u6) (x:BM K C rH "ValueError.__new__" = true) (hl:es=l.map (·.1)) (hk:l[i]?=some (C,ts)) (q: ∀R1 x o,ts R1 x o Ds O H):wZ K l Ds (.ref C) O H :=
 Er u v x (by rw[hl,N7,hk]; rfl) q l 0 hl (ON _) hk
theorem La(X:K.In h) (G:h.Ns ze mg){x:va}(e:Dr K ze x=some none):mg x=none:=PySem.W.mg_none_of X G e
theorem K9(X:K.In h) (G:h.Ns ze mg){x:va}{xs:qx V}{a:qA}{o:Obj}{its:zR qT}{n:u6}(e:Dr K ze x=some (some (.ref a)))
  (l:K.lookup a=some o) (hc:o.cls= .type "tuple") (hd:o.data= .seq its n) (hz:its.size<=sizeLine) (hv:Vals xs its.toList):kf K mg x xs:=Jf X G e l hc hd hz hv
theorem LX(X:K.In h) (G:h.Ns ze mg){x:va}{v:V}{u:qT}(e:Dr K ze x=some (some u)) (r:RelV v u):rN mg x v:=⟨u,Q1 X G e,r⟩
theorem LA(X:K.In h) (G:h.Ns ze mg){x:va}{C:qA}(e:Dr K ze x=some (some (.ref C))) (r:BM K C rH "ValueError.__new__" = true):XC K mg x C:=⟨Q1 X G e,r⟩
section
variable {X:Cx}{e:tW}{te:TE}{pos p q:Pos}
theorem aE (he:PE X e te):Sz X [.Return (some e) pos] (GR te):=au (Kr he)
theorem go2 {K:R7}:ko 2 (nF K 2 (rX (aK 0) (rX (aK 1) Cu))):=KG (xm (pW aS) uI (xm (pW aS) uI Jk AG) (Fc uI AG))
variable {scope:A3}{elt iter:tW}{wi:TI}{x:va}
theorem eZ (st:zc) (own frn:qx va) (fr:qx u6) (hi:PI X (.Name x p) iter wi) (hb: ∀C s2 H2 fp,PE (bq X (own++frn) scope C s2 H2 fp) elt te)
  (hN:(own++frn).Nodup:=by trivial) (h0:(own++frn)[0]?=some x:=by rfl) (hl: ∀C s2 H2 fp,(bq X (own++frn) scope C s2 H2 fp).env.scope.names.lookup x=some .local:=by show λ_ _ _ _=>rfl) (ho:0 < own.length:=by decide)
  (S:gX (bu st) scope own frn:=by exact⟨Z,uw,uw,uw,uw,uw⟩) (hp:X.env.scope=bu st:=by rfl) (hfr:fr.map (λj=>X.N[j]?)=frn.map some:=by rfl) (hc:X.calm=true:=by rfl)
  (hs: ∀y,AX iter X.env y=pure y:=by intro _; rfl):PE X (.ListComp elt [⟨.Name x p,iter,[],0⟩] scope pos) (n8 wi (aK 0) gG te own fr) :=
 ug st own frn fr (pW ho) hi (λC s2 H2 fp=>⟨gn 0 hN h0 (.inl (hl C s2 H2 fp)) (.inr (hl C s2 H2 fp)),iL,hb C s2 H2 fp⟩) S hp hfr hc hs
end
end L2
local macro_rules | `(tactic| trivial)=> `(tactic| first | show λ_ _ _ _ _ _=>L2.Ut λ_=>rfl | show λ_ _ _ _ _ _=>L2.Ux λ_ _=>rfl | show λ_ _ _ _ _ _=>L2.Uu λ_ _ _=>rfl | show λ_ _ _ _ _ _=>L2.UA λ_ _ _ _=>rfl | show λ_ _ _ _ _ _=>L2.Uv λ_ _ _ _ _=>rfl | show λ_ _ _ _ _ _=>L2.UX λ_ _ _ _ _ _=>rfl | show λ_ _ _ _ _ _=>L2.Ub rfl | (intro vs H Q E h; cases h; subst_vars; show rfl) | (intro vs H Q E h; repeat first | (obtain⟨e,_⟩:=h; subst e; show rfl) | (obtain⟨_,h⟩:=h)))
local macro_rules|`(tactic|trivial)=>`(tactic|decide +kernel)
namespace K43
open PySem L2
abbrev uo(a:PySem.Addr):Option L2.V:=some (.ref a)
theorem Sg {N P:qx va}{sc:A3}(k:sc.kind= .function:=by rfl) (c:sc.isCoroutine=false:=by rfl) (g:sc.isGenerator=false:=by rfl) (n:N.Nodup:=by trivial) (p:N.take P.length=P:=by rfl) (r: ∀x∈P,sc.names.lookup x=some .local\/sc.names.lookup x=some .cell:=by trivial) (f: ∀y∈sc.names,y.2≠ .free:=by trivial):gB N P sc:=⟨k,c,g,n,p,r,f⟩
theorem Sk {m:va}{p q r:qA}(h:((m == "member_rows") || (m == "demand_rows") || (m == "kept_deeds"))=false:=by trivial):(lV p q r).lookup m=none:=by
 rw[VN,VN] at h;show (bx h.1.1).trans<|(bx h.1.2).trans<|(bx h.2).trans rfl
def top (i:u6):zc:=Ve.main.body.getD i (.Pass ⟨0,0,0,0⟩)
abbrev FS (N:qx va) (k i:u6):Prop:=gB N (N.take k) (bu (top i))
abbrev FM (N:qx va) (k i:u6):Prop:=gB N (N.take k) (bu (inClass (top 59) i))
theorem DN:FS ["number","span"] 2 24:=Sg
theorem Bk:FS ["rule"] 1 27:=Sg
theorem uS:FS ["rule","widths"] 2 28:=Sg
theorem nz:FS ["rules","widths","wider","rule"] 2 29:=Sg
theorem ft:FS ["count","rules","widths","spent","wider"] 2 30:=Sg
theorem zq:FS ["rule","widths"] 2 32:=Sg
theorem fh:FS ["rules","widths","goal","fewest","waiting","member","rule"] 3 33:=Sg
abbrev km:zc:=top 34
theorem jA:FS ["rules","widths","fewest","places","nearest"] 3 34:=Sg
abbrev oE:zc:=top 35
theorem kg:FS ["rules","widths","fewest","member","nearer","links"] 4 35:=Sg
theorem jO:FS ["count","rules","member","widths","fewest","chain"] 3 36:=Sg
theorem tO:FS ["count","rules","place","others"] 3 38:=Sg
theorem rT:FS ["sign"] 1 40:=Sg
abbrev zJ:zc:=top 41
theorem xQ:FS ["text"] 1 41:=Sg
theorem tQ:FS ["people","each","over","width"] 3 43:=Sg
theorem gw:FS ["rules","start","goal","ways","waiting","member","place","rule"] 3 45:=Sg
theorem jj:FS ["count","rules","place","rule","way"] 2 46:=Sg
theorem GY:FS ["width","top"] 2 48:=Sg
theorem jY:FS ["widths","tops","place","width"] 2 49:=Sg
theorem DC:FS ["width","top"] 2 50:=Sg
abbrev sv:zc:=top 51
theorem gz:FS ["count","rules","tops","member","least","growth","widths","excesses","worst"] 4 51:=Sg
theorem qD:FS ["name","names"] 2 53:=Sg
theorem yZ:FS ["name","names"] 2 54:=Sg
theorem pM:FS ["name","names"] 2 55:=Sg
theorem qz:FS ["number","span"] 2 56:=Sg
theorem uH:FS ["count","most"] 2 57:=Sg
theorem ua:FS ["row","names","base"] 2 58:=Sg
abbrev y6:zc:=top 63
theorem xJ:FS ["word"] 1 63:=Sg
theorem IK:FS ["part","word"] 2 64:=Sg
theorem xy:FS ["part","word"] 2 65:=Sg
abbrev sX:zc:=top 66
theorem jM:FS ["row","words","form","parts"] 1 66:=Sg
theorem Dm:FS ["house","kind","name"] 3 68:=Sg
theorem B7:FS ["house","words"] 2 69:=Sg
theorem tX:FS ["what","names","row"] 2 70:=Sg
abbrev wc:zc:=top 71
theorem mC:FS ["house","pairs"] 1 71:=Sg
theorem j7:FS ["house","member","names","width"] 2 72:=Sg
theorem qF:FS ["house","reason"] 1 73:=Sg
theorem ou:FS ["house","member","found"] 2 74:=Sg
theorem sO:FS ["house","words"] 2 75:=Sg
theorem wC:FS ["house","row"] 2 76:=Sg
theorem kH:FS ["rows","house","texts","row"] 1 77:=Sg
theorem eS:FS ["_law_script","_law_many","_law_words_here","_law_word","_law_k","_law_cell"] 2 79:=Sg
theorem eG:FS ["_law_script","_law_many","_law_words_here","_law_word","_law_k","_law_cell"] 2 80:=Sg
theorem bT:FS ["_law_word","_law_many","_law_signs","_law_stem","_law_left","_law_k","_law_spot","_law_made","_law_sign","_law_row","_law_five"] 2 81:=Sg
theorem vb:FS ["_law_people","_law_each","_law_over"] 3 82:=Sg
abbrev iH:zc:=top 83
theorem cB:FS ["_law_state","_law_sort","_law_name","_law_names_here","_law_asked_here","_law_caps","_law_stands","_law_bound"] 3 83:=Sg
abbrev EW:zc:=top 84
theorem kK:FS ["_law_state","_law_kept","_law_deed_here","_law_names_here","_law_asked_here","_law_caps"] 3 84:=Sg
abbrev zx:zc:=top 85
theorem gQ:FS ["_law_state","_law_deed_here","_law_names_here","_law_asked_here","_law_caps"] 2 85:=Sg
theorem dw:FS ["_law_word","_law_pool","_law_call","_law_block","_law_small","_law_kinds","_law_a","_law_b","_law_size","_law_kind","_law_over","_law_more"] 6 86:=Sg
theorem bX:FS ["_law_script","_law_most","_law_words_here","_law_block","_law_small","_law_first","_law_many","_law_kinds","_law_pool","_law_calls","_law_day_here","_law_k","_law_word","_law_spot"] 2 87:=Sg
abbrev D9:zc:=top 88
theorem eI:FS ["_law_count","_law_rules_here","_law_far_here","_law_k","_law_on","_law_base","_law_more","_law_mid","_law_a","_law_b"] 2 88:=Sg
theorem dy:FS ["_law_count","_law_rules_here","_law_far_here","_law_first","_law_on","_law_base","_law_more","_law_due_here","_law_a","_law_b"] 2 89:=Sg
theorem j6:FS ["_law_count","_law_rules_here","_law_far_here","_law_k"] 2 90:=Sg
theorem eh:FS ["_law_state","_law_made","_law_call","_law_member","_law_base","_law_number","_law_spot"] 1 91:=Sg
abbrev wG:zc:=top 92
theorem uu:FS ["_law_state"] 1 92:=Sg
theorem ox:FS ["_law_widths","_law_caps","_law_k"] 2 93:=Sg
theorem aX:FS ["_law_count","_law_rules_here","_law_widths","_law_member","_law_left","_law_turn","_law_on","_law_base","_law_more","_law_way","_law_at","_law_spot","_law_place","_law_fits"] 4 94:=Sg
theorem cy:FS ["_law_rules_here","_law_way","_law_at","_law_passed_here","_law_total","_law_place","_law_on","_law_base","_law_more"] 2 95:=Sg
theorem eA:FS ["_law_state","_law_count","_law_rules_here","_law_widths","_law_member","_law_far_here","_law_caps","_law_best","_law_room","_law_k"] 5 96:=Sg
abbrev nL:zc:=top 97
theorem eO:FS ["_law_state","_law_parts","_law_rules_here","_law_widths","_law_names_here","_law_calls","_law_told_here","_law_place","_law_less","_law_member","_law_way"] 4 97:=Sg
abbrev mU:zc:=top 98
theorem eC:FS ["_law_state","_law_parts","_law_names_here","_law_rules_here","_law_widths","_law_spot","_law_way"] 2 98:=Sg
abbrev zk:zc:=top 99
theorem i9:FS ["_law_word","_law_state","_law_kind","_law_stands"] 2 99:=Sg
abbrev uX:zc:=top 100
theorem bF:FS ["_law_script","_law_others_here","_law_state","_law_past","_law_told_here","_law_k","_law_deed_here","_law_word","_law_row","_law_parts"] 1 100:=Sg
abbrev lU:zc:=top 101
theorem eU:FS ["_law_state","_law_found","_law_calls","_law_parts","_law_call","_law_spots"] 2 101:=Sg
abbrev Ln:zc:=top 102
theorem sx:FS ["_law_script","_law_told_here","_law_found","_law_k"] 1 102:=Sg
theorem wu:FM ["self"] 1 0:=Sg
theorem pE:FM ["self"] 1 1:=Sg
theorem oC:FM ["self","name"] 2 2:=Sg
theorem oW:FM ["self","name","member","people","each","over"] 6 3:=Sg
theorem qv:FM ["self","name","member","base","more"] 5 4:=Sg
theorem mJ:FM ["self","row"] 2 5:=Sg
theorem lK:FM ["self","member","width","place"] 3 6:=Sg
theorem jk:FM ["self","place","top","row"] 3 7:=Sg
abbrev mR:zc:=inClass (top 59) 8
theorem ip:FM ["self","name","place"] 2 8:=Sg
theorem ij:FM ["self","name","place"] 2 9:=Sg
theorem jq:FM ["self","member","place"] 2 10:=Sg
theorem jQ:FM ["self","stood"] 1 11:=Sg
abbrev tS:zc:=inClass (top 59) 12
theorem rP:FM ["self"] 1 12:=Sg
abbrev nZ:zc:=inClass (top 59) 15
theorem mW:FM ["self"] 1 15:=Sg
abbrev lM:zc:=inClass (top 59) 16
theorem lD:FM ["self"] 1 16:=Sg
abbrev wA:zc:=inClass (top 59) 17
theorem mS:FM ["self","names"] 1 17:=Sg
abbrev rj:zc:=inClass (top 59) 18
theorem qw:FM ["self","places"] 2 18:=Sg
theorem md:FM ["self","least"] 1 19:=Sg
theorem iY:FM ["self","name","names","place"] 3 20:=Sg
theorem mM:FM ["self","member","place"] 2 21:=Sg
theorem gK:FM ["self","count","rules","ring","place"] 1 22:=Sg
theorem jw:FM ["self","member","place","found"] 2 23:=Sg
theorem oq:FM ["self","demand","place"] 2 24:=Sg
structure Adr where
 (Unknown InUse BadName BadNumber TooMuch Full NothingBack NoWidths BadRow House:qA)
abbrev qf (x:va) (i:u6):va×u6:=(x,i)
abbrev rf (x y:va) (i:u6):va×va×u6:=(x,y,i)
abbrev fl:qx (va×u6):=[qf "inside" 24,qf "is_link" 27,qf "asked_width" 28,qf "widened" 29,qf "least_widths" 30,qf "hands_on" 32,qf "fewest_links" 33,qf "first_place" 34,qf "next_place" 35,qf "chain_of" 36,qf "cost_of" 38,qf "small_letter" 40,qf "good_name" 41,qf "portion" 43,qf "find_way" 45,qf "find_ring" 46,qf "above" 48,qf "first_wide" 49,qf "excess" 50,qf "slack_of" 51,qf "refuse_unknown" 53,qf "place_of" 54,qf "refuse_new_name" 55,qf "refuse_outside" 56,qf "refuse_full" 57,qf "as_rule" 58,qf "is_number" 63,qf "fits" 64,qf "read_word" 65,qf "read_row" 66,qf "strike" 68,qf "do_deed" 69,qf "told_by" 70,qf "tell_widths" 71,qf "tell_chain" 72,qf "tell_why" 73,qf "tell_slack" 74,qf "answer_words" 75,qf "answer_row" 76,qf "answers" 77,qf "_law_words" 79,qf "_law_others" 80,qf "_law_names" 81,qf "_law_rounded" 82,qf "_law_due_strike" 83,qf "_law_due" 84,qf "_law_after" 85,qf "_law_deed" 86,qf "_law_day" 87,qf "_law_far" 88,qf "_law_least" 89,qf "_law_ringed" 90,qf "_law_rules" 91,qf "_law_caps_of" 92,qf "_law_passed" 93,qf "_law_first_chain" 94,qf "_law_is_ring" 95,qf "_law_slack" 96,qf "_law_told" 97,qf "_law_question" 98,qf "_law_asked" 99,qf "_law_day_told" 100,qf "_law_ring_told" 101,qf "law" 102]
abbrev tl:qx (va×va×u6):=[rf "__init__" "House.__init__" 0,rf "keep_deed" "House.keep_deed" 1,rf "add_member" "House.add_member" 2,rf "add_plain" "House.add_plain" 3,rf "add_link" "House.add_link" 4,rf "bring_demand" "House.bring_demand" 5,rf "set_top" "House.set_top" 6,rf "change_top" "House.change_top" 7,rf "strike_member" "House.strike_member" 8,rf "strike_demand" "House.strike_demand" 9,rf "strike_top" "House.strike_top" 10,rf "take_back" "House.take_back" 11,rf "members" "House.members" 12,rf "demand_names" "House.demand_names" 15,rf "greatest_widths" "House.greatest_widths" 16,rf "rules" "House.rules" 17,rf "names_at" "House.names_at" 18,rf "widths" "House.widths" 19,rf "asked_place" "House.asked_place" 20,rf "chain" "House.chain" 21,rf "why" "House.why" 22,rf "slack" "House.slack" 23,rf "cost" "House.cost" 24]
abbrev es (a:Adr):qx qA:=[a.Unknown,a.InUse,a.BadName,a.BadNumber,a.TooMuch,a.Full,a.NothingBack,a.NoWidths,a.BadRow]
structure Txt (K:R7) (mg:oR) (a:Adr):Prop where
 aV:TC K mg a.House "House"
 aI:ic K a.House "member_rows"
 bg:ic K a.House "demand_rows"
 eu:ic K a.House "kept_deeds"
 t:Ts K a.House (inClass (top 59)) tl
 f:Tn K mg top fl
 yr:kf K mg "NAME_SIGNS" [.int 1,.int 8]
 E9:kf K mg "PEOPLE" [.int 0,.int 999]
 Kz:kf K mg "EACH" [.int 1,.int 999]
 Kh:kf K mg "OVER" [.int 1,.int 999]
 uA:rN mg "PORTION_MOST" (.int 99999)
 uF:rN mg "MEMBERS_MOST" (.int 12)
 uL:rN mg "DEMANDS_MOST" (.int 24)
 zK:kf K mg "LINK_MORE" [.int 0,.int 99]
 zS:kf K mg "TOP_WIDTH" [.int 0,.int 99999]
 yS:rN mg "DEEDS_MOST" (.int 150)
 uj:kf K mg "NUMBER_SIGNS" [.int 1,.int 6]
 pO:rN mg "NO_BASE" (.int (-1))
 IA:kf K mg "FORMS" [.str "member NAME",.str "plain NAME MEMBER PEOPLE EACH OVER",.str "link NAME MEMBER BASE MORE",.str "top MEMBER WIDTH",.str "strike member MEMBER",.str "strike demand DEMAND",.str "strike top MEMBER",.str "back",.str "widths",.str "chain MEMBER",.str "why",.str "slack MEMBER",.str "cost DEMAND"]
 vt:kf K mg "NUMBERS" [.str "PEOPLE",.str "EACH",.str "OVER",.str "MORE",.str "WIDTH"]
 Cn:mg "all" = none
 L3:mg "any" = none
 JM:mg "dict" = none
 gA:mg "enumerate" = none
 iz:mg "int" = none
 oJ:mg "isinstance" = none
 bZ:mg "len" = none
 sR:mg "list" = none
 lQ:mg "max" = none
 wR:mg "min" = none
 cx:mg "range" = none
 nU:mg "str" = none
 wW:mg "sum" = none
 Ij:mg "tuple" = none
 wO:mg "zip" = none
 l5:XC K mg "Unknown" a.Unknown
 mw:XC K mg "InUse" a.InUse
 pF:XC K mg "BadName" a.BadName
 jN:XC K mg "BadNumber" a.BadNumber
 pJ:XC K mg "TooMuch" a.TooMuch
 yO:XC K mg "Full" a.Full
 j8:XC K mg "NothingBack" a.NothingBack
 og:XC K mg "NoWidths" a.NoWidths
 qQ:XC K mg "BadRow" a.BadRow
 u: ∀C∈es a,xS K (es a) C
 v:(es a).Nodup
variable{K:R7}{mg:oR}
theorem Ms {cUnknown cInUse cBadName cBadNumber cTooMuch cFull cNothingBack cNoWidths cBadRow cHouse:qA}(h:Txt K mg ⟨cUnknown,cInUse,cBadName,cBadNumber,cTooMuch,cFull,cNothingBack,cNoWidths,cBadRow,cHouse⟩): ∃a,Txt K mg a:=⟨_,h⟩
theorem Txt.g {a:Adr}(T:Txt K mg a) (k:u6){x:va}{i:u6}(e:fl[k]?=some (x,i):=by rfl):TF K mg x (top i):=T.f.at k e
theorem Txt.m {a:Adr}(T:Txt K mg a) (k:u6){x q:va}{i:u6}(e:tl[k]?=some (x,q,i):=by rfl):TM K a.House x q (inClass (top 59) i):=T.t.at k e
inductive Ee(K:R7)(vs:qx V)(H:Hp)(Q:VK)(_E:XK):Prop|mk(a:qA)(ns:qx u7)(_:vs=[.ref a])(_:R5 K H a (ns.map V.int))(_:ns.length<=63)(_:∀H',Q (.bl true) H')
open MA (Sh bQ dJ aZ loop Met Le)
inductive Bh(K:R7)(vs:qx V)(H:Hp)(Q:VK)(_E:XK):Prop|mk(v q)(_:vs=[v])(_:jc K H v q)(_:Q (.bl (!decide (q.2.1= -1))) H)
inductive F4(K:R7)(vs:qx V)(H:Hp)(Q:VK)(_E:XK):Prop|mk(v q w ws)(_:vs=[v,.ref w])(_:jc K H v q)(_:R5 K H w (ws.map V.int))(_:Sh ws.length q)(_:Q (.int (MA.ask (MA.g ws) q)) H)
inductive Bt(K:R7)(vs:qx V)(H:Hp)(Q:VK)(_E:XK):Prop|mk(r rs w ws)(_:vs=[.ref r,.ref w])(_:SU K H r rs)(_:R5 K H w (ws.map V.int))(_:∀q∈rs,Sh ws.length q)(_:∀p H',H p=none->ag H H'->H' p=some (.lst ((bQ rs ws).map V.int))->Q (.ref p) H')
inductive FW(K:R7)(vs:qx V)(H:Hp)(Q:VK)(_E:XK):Prop|mk(n:u6)(r:qA)(rs:qx MA.ao)(_:vs=[.int n,.ref r])(_:n<=1000)(_:SU K H r rs)(_:∀q∈rs,Sh n q)(_:∀H',ag H H'->aZ n rs=none->Q .non H')(_:∀p L H',H p=none->ag H H'->aZ n rs=some L->H' p=some (.lst (L.map V.int))->Q (.ref p) H')
def isInt:V->yW
 | .int _=>true
 | _=>false
inductive Mq (K:R7) (vs:qx V) (H:Hp) (Q:VK):Prop | mk (v:V) (_:vs=[v]) (_:(∃b1 b2,Ul K v H "int" b1/\Ul K v H "bool" b2/\(b1 && !b2)=isInt v)) (_:Q (.bl (isInt v)) H)
section
variable {P:tq}{w:sW}{K:R7}{mg:oR}{base:yk}{a:Adr}
inductive yV(K:R7)(vs:qx V)(H:Hp)(Q:VK)(_E:XK):Prop|mk(a:qA)(ns:qx u7)(m:u6)(_:vs=[.ref a,.int m])(_:R5 K H a (ns.map V.int))(_:m<=1000)(_:∀(p:qA) (ws:qx u7) (H':Hp),H p=none->ag H H'->H' p=some (.lst (ws.map V.int))->ws.length=m->(∀x∈ws,0<=x)->Q (.ref p) H')
variable{n:u6}
theorem ay(h:n<=1000):n < sizeLine:=Pl h aS
theorem Uy {k x y:u7}(h:k=0\/k=1): ∃d:u7,Si ([.int x,.int y]:qx V) k=some (.int d)/\(d=x\/d=y):=by
 rcases h with rfl | rfl
 .nomatch x,Z,.inl rfl
 .nomatch y,Z,.inr rfl
theorem mod2 (x:u7):x % 2=0\/x % 2=1:=Y
theorem FL (T:Txt K mg a):Sj P w K mg base 1 "_law_words" ["_law_script","_law_many"] (yV K):=by
 exists 0,bH,40,eS;obtain⟨a,ns,m,rfl,hS,hm,q⟩:=h;erw[_,(ae (R9 2 eS.nd<|aP b8)<|ae (R9 3 eS.nd aa)<|ae (cY (fB T.cx bY) (gn 4 eS.nd)<|ae (R9 5 eS.nd aa)<|dD (aB (aA fK gE<|c5 K T.bZ aT) (au<|R9 5 eS.nd<|Sa K aT gE) ax)<|ae (R9 3 eS.nd<|aw bt (aw tf (aw bw (aw bw eX gT) gE) aa)<|aw bw (aw mT aa aa) aa)<|au<|aO<|fR K dO eX)<|aE dO),?_];erw[aS,λl nl=>?_];erw[_,Z,_,Z,Y,Y,?_];rw[Oa];show cA (xs:=cf 0 m) (λi O' H'=> ∃(ws:qx u7) (wd:u7) (v4 v5:rW V),O'=[uo a,some<|.int m,uo l,some<|.int wd,v4,v5]/\ag H H'/\H' l=some (.lst<|ws.map V.int)/\ws.length=i/\ ∀x∈ws,0<=x) ⟨[],_,none,none,Z,ag.upd nl,af,Z,λx hx=>by cases hx⟩ (λi O' H' _ _=>cj) ?_ ?_
 .rintro i x O' H' hi ⟨ws,wd,v4,v5,rfl,sm,hl,hw,h0⟩;obtain⟨hi,rfl⟩:=bU hi;erw[λO2 H2=> ∃c:u7,O2=[uo a,some<|.int m,uo l,some<|.int wd,some<|.int<|0+(i:u6),some<|.int c]/\H2=H',?_,?_]
  .exists _,Z,_,Z,_,_,Z,.inl ⟨_,sm.seq hS,Z⟩,_,_,Z,Z,_,Z,?_;rw[NR];show bh (λc=>?_) λc=>?_
   .have c:=Oc c;erw[_,Z,_,Z,a,_,_,_,Z,Z,sm.seq hS,cI Y c,_,Z,Z]
   .nomatch 0,Z,Z
  rintro O2 H2 ⟨c,rfl,rfl⟩;erw[_,Z,_,Z,_,_,Z,Z,_,Z,_,_,Z,Z,_,_,Z,Z,.inr ⟨aS,aS⟩,_,_,Z,Z,⟨aS,aS,aS⟩,_,_,Z,Z,_,_,Z,Z,(by change (0:u7) < 10 ^ 18+9; decide),?_];show⟨_,Z,.inl ⟨Z,_,R5.of hl⟩,_,Z,l,_,_,Z,Z,hl,by rw[NR,hw]; show ay Y,?_⟩;show⟨ws++[(wd+c+(0+(i:u6)))*618033988749894849 % (10 ^ 18+9)],_,_,_,Z,sm.cT nl,by rw[af,Od]; rfl,by rw[N1,hw]; rfl,λx hx=>?_⟩;rcases Oe.mp hx with hx | hx
  .exact h0 x hx
  .rw[NZ.mp hx];show Pj _ aS
 .rintro O' H' ⟨ws,wd,v4,v5,rfl,sm,hl,hw,h0⟩;rw[bN] at hw;erw[_,Z,q l ws H' nl sm hl hw h0]
theorem Dd (T:Txt K mg a):Sj P w K mg base 1 "_law_others" ["_law_script","_law_many"] (yV K):=by
 exists 0,bH,41,eG;obtain⟨a,ns,m,rfl,hS,hm,q⟩:=h;erw[_,(ae (R9 2 eG.nd<|aP b8)<|ae (R9 3 eG.nd aa)<|ae (cY (fB T.cx bY) (gn 4 eG.nd)<|ae (R9 5 eG.nd aa)<|dD (aB (aA fK gE<|c5 K T.bZ aT) (au<|R9 5 eG.nd<|Sa K aT gE) ax)<|ae (R9 3 eG.nd<|aw bt (aw tf (aw bw (aw bw eX gT) gE) aa)<|aw bw (aw mT aa aa) aa)<|au<|aO<|fR K dO eX)<|aE dO),?_];erw[aS,λl nl=>?_];erw[_,Z,_,Z,Y,Y,?_];rw[Oa];show cA (xs:=cf 0 m) (λi O' H'=> ∃(ws:qx u7) (wd:u7) (v4 v5:rW V),O'=[uo a,some<|.int m,uo l,some<|.int wd,v4,v5]/\ag H H'/\H' l=some (.lst<|ws.map V.int)/\ws.length=i/\ ∀x∈ws,0<=x) ⟨[],_,none,none,Z,ag.upd nl,af,Z,λx hx=>by cases hx⟩ (λi O' H' _ _=>cj) ?_ ?_
 .rintro i x O' H' hi ⟨ws,wd,v4,v5,rfl,sm,hl,hw,h0⟩;obtain⟨hi,rfl⟩:=bU hi;erw[λO2 H2=> ∃c:u7,O2=[uo a,some<|.int m,uo l,some<|.int wd,some<|.int<|0+(i:u6),some<|.int c]/\H2=H',?_,?_]
  .exists _,Z,_,Z,_,_,Z,.inl ⟨_,sm.seq hS,Z⟩,_,_,Z,Z,_,Z,?_;rw[NR];show bh (λc=>?_) λc=>?_
   .have c:=Oc c;erw[_,Z,_,Z,a,_,_,_,Z,Z,sm.seq hS,cI Y c,_,Z,Z]
   .nomatch 0,Z,Z
  rintro O2 H2 ⟨c,rfl,rfl⟩;erw[_,Z,_,Z,_,_,Z,Z,_,Z,_,_,Z,Z,_,_,Z,Z,.inr ⟨aS,aS⟩,_,_,Z,Z,⟨aS,aS,aS⟩,_,_,Z,Z,_,_,Z,Z,(by change (0:u7) < 10 ^ 18+3; decide),?_];show⟨_,Z,.inl ⟨Z,_,R5.of hl⟩,_,Z,l,_,_,Z,Z,hl,by rw[NR,hw]; show ay Y,?_⟩;show⟨ws++[(wd+c+(0+(i:u6)))*618033988749894849 % (10 ^ 18+3)],_,_,_,Z,sm.cT nl,by rw[af,Od]; rfl,by rw[N1,hw]; rfl,λx hx=>?_⟩;rcases Oe.mp hx with hx | hx
  .exact h0 x hx
  .rw[NZ.mp hx];show Pj _ aS
 .rintro O' H' ⟨ws,wd,v4,v5,rfl,sm,hl,hw,h0⟩;rw[bN] at hw;erw[_,Z,q l ws H' nl sm hl hw h0]
inductive Gp(K:R7)(vs:qx V)(H:Hp)(Q:VK)(_E:XK):Prop|mk(x:u7)(m:u6)(_:vs=[.int x,.int m])(_:m<=32)(_:∀(p:qA) (ys:qx va) (H':Hp),H p=none->ag H H'->H' p=some (.lst (ys.map V.str))->ys.length=m->(∀y∈ys,Nm y)->Q (.ref p) H')
theorem dX (z:va):z.cps.toList.length=z.length:=by simp[zO]
def sf:va:= "zyxw"
theorem HY {k:u7}(h0:0<=k) (h1:k < 4): ∃c,Si sf.cps.toList k=some c/\small c:=by
 have l:sf.cps.toList.length=4:=by trivial
 have s: ∀c∈sf.cps.toList,small c:=by
  unfold small;decide +kernel
 obtain⟨c,a,b⟩:=ER (xs:=sf.cps.toList) (i:=k) h0 Y;erw[c,a,s c b]
def one (y:va):Prop:= ∃c,y.cps.toList=[c]/\small c
theorem LK:one "z" := ⟨122,uw,by unfold small; decide⟩
theorem Lj:one "a" := ⟨97,uw,by unfold small; decide⟩
theorem L7:one "b" := ⟨98,uw,by unfold small; decide⟩
theorem z3: ∀ys:qx va,(∀y∈ys,one y)->((ys.map λy=>y.cps.toList).flatten).length=ys.length/\(∀c∈(ys.map λy=>y.cps.toList).flatten,small c)/\(ys.map (·.length)).sum=ys.length
 | [],_=>⟨Z,(λc hc=>by cases hc),Z⟩
 | y::ys,h=>by
  obtain⟨c,e,s⟩:=h y<|N6;obtain⟨a,b,d⟩:=z3 ys λz hz=>h z<|N4 _ hz;have l1:y.length=1:=by rw[<-dX,e]; rfl
  erw[?_,λx hx=>?_,?_]
  .rw[OH,Pr,e,N1,a];change 1+ys.length=ys.length+1;lia
  .rw[OH,Pr,e] at hx;rcases Oe.mp hx with hx | hx
   .rw[NZ.mp hx]; show s
   .exact b x hx
  .simp only[OH,Po,Oh,l1];lia
theorem AM (n:u6) (c:u6):(wo n [c]).flatten=wo n c:=by
 induction n with
 | zero=>rfl
 | succ n ih=>rw[Pc,Pr,ih,Pc]; rfl
variable{st:va}{spot:u7}
theorem Ad {r:va}(e:r.cps.toList=je st none (some spot)):r.length<=st.length:=by
 rw[<-dX,e];unfold je;rw[Oi,OY,dX];lia
theorem Ik {r:va}(e:r.cps.toList=je st (some spot) none):r.length<=st.length:=by
 rw[<-dX,e];unfold je;rw[Oi,OY,dX];lia
theorem E8 {r1 r2:va}(h:0<=spot) (e1:r1.cps.toList=je st none (some spot)) (e2:r2.cps.toList=je st (some spot) none):r1.length+r2.length=st.length:=by
 rw[<-dX r1,<-dX r2,e1,e2];unfold je;rw[Oi,OY,Oi,OY,dX,AL _ _ _ h,AL _ _ _ h];have h:=RP spot.toNat st.length;change min (min spot.toNat st.length) st.length+min _ _=st.length;rw[RY h];show (OI _<|Nat.min_self _).trans<|Nat.add_sub_of_le h
theorem xc (T:Txt K mg a):Sj P w K mg base 1 "_law_names" ["_law_word","_law_many"] (Gp K):=by
 exists 0,bH,42,bT;obtain⟨x,m,rfl,hm,q⟩:=h;erw[_,(ae (R9 2 bT.nd aq)<|ae (R9 3 bT.nd aq)<|ae (R9 4 bT.nd<|aw bM aT aa)<|ae (cY (fB T.cx<|aw bt (aw bM aT aa) aa) (gn 5 bT.nd)<|ae (R9 3 bT.nd<|aw dE eX<|tK yJ dO (aw bt gE aa) λ_ _=>rfl)<|au<|R9 4 bT.nd<|aw bM gE aa)<|ae (R9 6 bT.nd<|aw bt (aw bM aT aa) aa)<|ae (R9 7 bT.nd<|aP b8)<|ae (cY (fB T.cx bY) (gn 5 bT.nd)<|ae (R9 8 bT.nd<|tK yJ dO (aw bt (aw bw gT<|aw bM aT aa) aa) λ_ _=>rfl)<|ae (R9 9 bT.nd<|aw mG (aP<|R6 aq) aa)<|ae (fj aq<|h9 lE (aw bt gT aa) set_list)<|ae (fj aq<|h9 lE (aw bt (aw bw (aw bw (aw bt gT aa) aa)<|aw bM gT aa) aa) set_list)<|ae (R9 10 bT.nd<|aP<|aj iS<|aj (aw dE (aw dE (dC EE eX eD<|eE iF) iS)<|dC EE eX (eE iF) eD)<|R6<|aw uY iS<|aw bw aa<|aw bt gT aa)<|ae (R9 10 bT.nd<|aw fQ lT<|aP<|aj (aw dE (aw uY aq<|aw bt gT aa)<|tK yJ aq (aw bM gT aa) λ_ _=>rfl)<|R6<|c7 OL O5 O6 gW aq<|R6 lE)<|au<|aO<|fR K iN<|Sa K lT<|aw bt aT aa)<|aE iN),?_];have big:nK.length<=sizeLine:=by rw[<-dX,Ae]; decide
 erw[_,Z,_,_,Z,Z,⟨aS,aS⟩,?_];erw[_,Z,_,_,Z,Z,⟨aS,aS⟩,_,_,Z,Z,(by change (0:u7) < 8; decide),_,Z,Y,Y,?_];show cA (xs:=cf 0 (x / 1040 % 8).toNat) (λi O' H'=> ∃(st:va) (lf:u7) (v5:rW V),O'=[some<|.int x,some<|.int m,some<|.str nK,some<|.str st,some<|.int lf,v5,none,none,none,none,none]/\H'=H/\st.cps.toList.length=i/\ ∀c∈st.cps.toList,small c) ⟨"",_,none,Z,Z,Z,λc hc=>by cases hc⟩ (λi O' H' _ _=>cj) ?_ ?_
 .rintro i y O' H' hi ⟨st,lf,v5,rfl,rfl,hl,hs⟩;obtain⟨hi,rfl⟩:=bU hi;obtain⟨c,hc,hcs⟩:=CL lf;erw[_,Z,_,Z,_,Z,_,_,Z,Z,(by change (0:u7) < 26; decide),nK,_,c,Z,Z,big,hc,_,_,Z,Z,?_,?_]
  .rw[<-dX,hl];change i+1<=sizeLine;show OA<|ay Y
  erw[_,Z,_,_,Z,Z,⟨aS,aS⟩,_,_,_,Z,Z,?_,λd hd=>?_]
  .rw[bS,N1,hl];rfl
  .rw[bS] at hd;rcases Oe.mp hd with hd | hd
   .exact hs d hd
   .rw[NZ.mp hd]; show hcs
 rintro O1 H1 ⟨st,lf,v5,rfl,rfl,hstl,hsts⟩;rw[bN] at hstl;erw[_,Z,_,_,Z,Z,⟨aS,aS⟩,_,_,Z,Z,(by change (0:u7) < 8; decide),?_];have sp0:0<=x / 5 % 8:=Y;have stl:st.length<=7:=by rw[<-dX,hstl]; lia
 dsimp only[aK,x8];generalize x / 5 % 8=spot at sp0;erw[aS,λl nl=>?_];erw[_,Z,_,Z,Y,Y,?_];rw[Oa];show cm (xs:=cf 0 m) (λi O' H'=> ∃(ys:qx va) (v5 v8 v9 v10:rW V),O'=[some (.int x),some (.int m),some (.str nK),some (.str st),some (.int lf),v5,some (.int spot),uo l,v8,v9,v10]/\ag H1 H'/\H' l=some (.lst (ys.map V.str))/\ys.length=i/\ ∀y∈ys,Nm y) ⟨[],v5,none,none,none,Z,ag.upd nl,af,Z,λy hy=>by cases hy⟩ (λi O' H' _ _=>cj) ?_ ?_
 .rintro i y O' H' D1 nx1 - hi ⟨ys,v5,v8,v9,v10,rfl,sm,hl,hyl,hnm⟩;obtain⟨hin,rfl⟩:=bU hi;obtain⟨c,hc,hcs⟩:=CL (0+(i:u6)+x / 40);erw[_,Z,_,Z,_,Z,_,_,Z,Z,⟨aS,aS⟩,_,_,Z,Z,_,_,Z,Z,(by change (0:u7) < 26; decide),nK,_,c,Z,Z,big,hc,?_];erw[aC,λl0 n0=>⟨l0,_,_,Z,Z,af,aS,aS,aS,λr nr=>?_⟩];have sr:=sm.trans ((ag.upd (o:= .lst [.str "z"]) n0).trans (ag.upd (o:= .lst ((wo 8 (xT "z")).map V.str)) nr));have hr1:(upd (upd H' l0 (.lst [.str "z"])) r (.lst (wo (8:u7).toNat [V.str "z"]).flatten)) r=some (.lst ((wo 8 (xT "z")).map V.str)):=af;have hl1:(upd (upd H' l0 (.lst [.str "z"])) r (.lst (wo (8:u7).toNat [V.str "z"]).flatten)) l=some (.lst (ys.map V.str)):=((ag.upd (o:= .lst [.str "z"]) n0).trans (ag.upd nr)) _ _ hl;have nrH:H1 r=none:=(sm.trans (ag.upd n0)).free nr;have sr:ag H1 (upd (upd H' l0 (.lst [.str "z"])) r (.lst (wo (8:u7).toNat [V.str "z"]).flatten)):=sr;have nlr:l≠r:=az (ag.upd n0 _ _ hl) nr;dsimp only[aK,x8];generalize upd (upd H' l0 (.lst [.str "z"])) r (.lst (wo (8:u7).toNat [V.str "z"]).flatten)=H2 at hr1 hl1 sr;have j1:Ta 8 ((0+(i:u6):u7) % 8)=some ((0+(i:u6):u7) % 8).toNat:=h8 Y Y;erw[_,Z,_,Z,_,_,Z,Z,(by change (0:u7) < 8; decide),r,_,_,_,Z,Z,hr1,j1,?_];generalize ((0+(i:u6):u7) % 8).toNat=p1;have j2:Ta 8 (((0+(i:u6):u7) % 8+1+(0+(i:u6):u7) / 8) % 8)=some (((0+(i:u6):u7) % 8+1+(0+(i:u6):u7) / 8) % 8).toNat:=h8 Y Y;erw[_,Z,_,Z,_,_,Z,Z,(by change (0:u7) < 8; decide),_,_,Z,Z,_,Z,_,_,Z,Z,⟨aS,aS⟩,_,_,Z,Z,_,_,Z,Z,(by change (0:u7) < 8; decide),r,_,_,_,Z,Z,af,(by rw[P8]; show j2),?_];generalize (((0+(i:u6):u7) % 8+1+(0+(i:u6):u7) / 8) % 8).toNat=p2;rw[uv];have erow:(((wo 8 (xT "z")).map V.str).set p1 (.str "a")).set p2 (.str "b")=(((wo 8 (xT "z")).set p1 "a").set p2 "b").map V.str:=by
   rw[Qy,Qy]
  rw[erow];have hone: ∀y∈((wo 8<|xT "z").set p1 "a").set p2 "b",one y:=λy hy=>by
   rcases QL hy with hy | rfl
   .rcases QL hy with hy | rfl
    .rw[(RI.mp hy).2]; show LK
    .exact Lj
   .exact L7
  have hrl:(((wo 8<|xT "z").set p1 "a").set p2 "b").length=8:=by rw[P8,P8]; rfl
  generalize ((wo 8 (xT "z")).set p1 "a").set p2 "b" = row at hone hrl;obtain⟨o1,o2,o3⟩:=z3 row hone;have sr3:ag H1 (upd H2 r (.lst (row.map V.str))):=sr.cT nrH;have hl3:(upd H2 r (.lst (row.map V.str))) l=some (.lst (ys.map V.str)):=(ah nlr).trans hl1;have hr3:(upd H2 r (.lst (row.map V.str))) r=some (.lst (row.map V.str)):=af;generalize upd H2 r (.lst (row.map V.str))=H3 at sr3 hl3 hr3;erw[_,Z,_,Z,_,Z,_,Z,st,Z,OA (ay Y),λr1 e1=>⟨_,Z,_,_,Z,Z,?_,_,Z,_,Z,_,Z,st,Z,OA (ay Y),λr2 e2=>⟨_,_,Z,Z,?_,?_⟩⟩]
  .change r1.length+1<=sizeLine;show OA (ay (by have:=Ad e1; lia))
  .have h1:=Ad e1;have h2:=Ik e2;have h3:(r1++(⟨#[c]⟩:va)).length=r1.length+1:=(by rw[<-dX,bS,N1,dX]; rfl);rw[h3];show OA<|ay Y
  have n1:Nm (⟨#[c]⟩:va):=⟨N0 _,by change 1<=8; decide,λd hd=>by rw[NZ.mp hd]; show hcs⟩
  have n2:Nm ((r1++(⟨#[c]⟩:va))++r2):=by
   have e:((r1++(⟨#[c]⟩:va))++r2).cps.toList=r1.cps.toList++[c]++r2.cps.toList:=(by rw[bS,bS]);have hlen:=E8 sp0 e1 e2;unfold Nm T1;rw[e];show⟨by simp only[N1,Oh,PR]; lia,by simp only[N1,Oh,PR,dX]; lia,λd hd=>?_⟩;rcases Oe.mp hd with hd | hd
   .rcases Oe.mp hd with hd | hd
    .rw[e1] at hd;show hsts d<|QE<|QF hd
    .rw[NZ.mp hd]; show hcs
   .rw[e2] at hd;show hsts d<|QE<|QF hd
  show⟨_,Z,_,Z,_,_,Z,Z,(by change (0:u7) < 8; decide),_,_,Z,Z,_,_,Z,Z,Y,Y,by change 1<=1000; decide,λr3 e3=>?_⟩;have n3:Nm r3:=by
   have e:r3.cps.toList=wo (1+(0+(i:u6):u7) % 8).toNat c:=e3.trans<|AM _ _;unfold Nm T1;rw[e,O4];erw[Y,Y,λd hd=>by rw[(RI.mp hd).2]; show hcs]
  erw[aC,λf1 nf1=>?_];have hl4:=ag.upd (o:= .lst [.str ⟨#[c]⟩,.str ((r1++(⟨#[c]⟩:va))++r2),.str r3]) nf1 _ _ hl3;have hr4:=ag.upd (o:= .lst [.str ⟨#[c]⟩,.str ((r1++(⟨#[c]⟩:va))++r2),.str r3]) nf1 _ _ hr3;have sr4:=sr3.trans (ag.upd (o:= .lst [.str ⟨#[c]⟩,.str ((r1++(⟨#[c]⟩:va))++r2),.str r3]) nf1);have hf4:(upd H3 f1 (.lst [.str ⟨#[c]⟩,.str ((r1++(⟨#[c]⟩:va))++r2),.str r3])) f1=some (.lst [.str ⟨#[c]⟩,.str ((r1++(⟨#[c]⟩:va))++r2),.str r3]):=af;dsimp only[aK,x8];generalize upd H3 f1 (.lst [.str ⟨#[c]⟩,.str ((r1++(⟨#[c]⟩:va))++r2),.str r3])=H4 at hl4 hr4 sr4 hf4;obtain⟨c2,hc2,hcs2⟩:=HY (k:=(0+(i:u6):u7) / 8) Y Y;show⟨_,Z,_,Z,_,_,Z,Z,(by change (0:u7) < 8; decide),_,_,Z,Z,Y,Y,by change 1<=1000; decide,λr4 e4=>?_⟩;have e4':r4.cps.toList=wo ((0+(i:u6):u7) % 8).toNat 122:=by
   rw[e4,show (xT "z").cps.toList=[122] from by trivial];show AM _ _
  have l4:r4.length<=7:=by
   rw[<-dX,e4',O4];lia
  have n4:Nm (r4++(⟨#[c2]⟩:va)):=by
   have e:(r4++(⟨#[c2]⟩:va)).cps.toList=r4.cps.toList++[c2]:=(by rw[bS]);unfold Nm T1;rw[e,e4'];show⟨by simp only[N1,Oh,PR]; lia,by simp only[N1,Oh,PR,O4]; lia,λd hd=>?_⟩;rcases Oe.mp hd with hd | hd
   .rw[(RI.mp hd).2];unfold small;lia
   .rw[NZ.mp hd]; show hcs2
  have n5:Nm (yL (xT "") row):=by
   unfold Nm T1;rw[xP,o1,hrl];erw[aS,aS,o2]
  erw[_,Z,_,_,Z,Z,⟨aS,aS⟩,sf,_,c2,Z,Z,uw,hc2,_,_,Z,Z,?_,?_]
  .change r4.length+1<=sizeLine;show OA (ay Y)
  show⟨Z,_,Z,_,r,row,Z,Z,R5.of hr4,uw,by rw[o3,hrl]; decide,?_⟩;erw[aC,λf2 nf2=>⟨f1,f2,_,_,Z,Z,(ah<|az hf4 nf2).trans hf4,af,(by change 3+2<=sizeLine; decide),λf3 nf3=>?_⟩];have s5:=(ag.upd (o:= .lst [.str<|r4++(⟨#[c2]⟩:va),.str<|yL (xT "") row]) nf2).trans<|ag.upd (o:= .lst<|[.str ⟨#[c]⟩,.str<|(r1++(⟨#[c]⟩:va))++r2,.str r3]++[.str<|r4++(⟨#[c2]⟩:va),.str<|yL (xT "") row]) nf3;have hl5:=s5 _ _ hl4;obtain⟨y,hy,hyn⟩: ∃y:va,Si ([.str ⟨#[c]⟩,.str<|(r1++(⟨#[c]⟩:va))++r2,.str r3]++[.str<|r4++(⟨#[c2]⟩:va),.str<|yL (xT "") row]:qx V) (x % 5)=some (.str y)/\Nm y:=by
   have h:x % 5=0\/x % 5=1\/x % 5=2\/x % 5=3\/x % 5=4:=Y;rcases h with e | e | e | e | e <;> rw[e]
   .nomatch _,Z,n1
   .nomatch _,Z,n2
   .nomatch _,Z,n3
   .nomatch _,Z,n4
   .nomatch _,Z,n5
  show⟨_,Z,.inl ⟨Z,_,R5.of hl5⟩,_,Z,_,Z,_,_,Z,Z,(by change (0:u7) < 5; decide),f3,_,_,_,Z,Z,R5.of af,hy,l,_,_,Z,Z,hl5,by rw[NR,hyl]; show ay Y,?_⟩;show nx1 _ _ ⟨ys++[y],_,_,_,_,Z,(sr4.trans s5).cT nl,by rw[af,Od]; rfl,by rw[N1,hyl]; rfl,λz hz=>?_⟩;rcases Oe.mp hz with hz | hz
  .exact hnm z hz
  .rw[NZ.mp hz]; show hyn
 .rintro O' H' ⟨ys,v5,v8,v9,v10,rfl,sm,hl,hyl,hnm⟩;rw[bN] at hyl;erw[_,Z,q l ys H' nl sm hl hyl hnm]
theorem KI {ys:qx va}{i:u6}(h:i < ys.length): ∃y,Si (ys.map V.str) (i:u6)=some (.str y)/\y∈ys:=⟨ys[i],aU (by rw[N7,NV h]; rfl),Pm h⟩
theorem TU (a b:u6):decide (([a]:qx u6) < [b])=decide (a < b):=by
 rw[QG];constructor
 .intro h;cases h with
  | rel h=>show h
  | cons h=>cases h
 .exact λh=> .rel h
def sA:va:= "a"
def sZ:va:= "z"
theorem Kf:sA.cps.toList=[97]:=by trivial
theorem KW:sZ.cps.toList=[122]:=by trivial
def txt (cs:qx u6):va:=⟨cs.toArray⟩
theorem IT (cs:qx u6):(txt cs).cps.toList=cs:=by simp[txt]
theorem Ah (cs:qx u6):(txt cs).length=cs.length:=by simp[txt,zO]
inductive Cw(K:R7)(vs:qx V)(H:Hp)(Q:VK)(_E:XK):Prop|mk(n lo hi:u7)(a:qA)(_:vs=[.int n,.ref a])(_:Se K H a [.int lo,.int hi])(_:Q (.bl (decide (lo<=n) && decide (n<=hi))) H)
inductive F3(vs:qx V)(H:Hp)(Q:VK)(_E:XK):Prop|mk(c:u6)(_:vs=[.str ⟨#[c]⟩])(_:Q (.bl (gR c)) H)
inductive HA(vs:qx V)(H:Hp)(Q:VK)(_E:XK):Prop|mk(cs:qx u6)(_:vs=[.str (txt cs)])(_:cs.length<=1000)(_:∀H',ag H H'->Q (.bl (dj cs)) H')
theorem iT (T:Txt K mg a):Sj P w K mg base 1 "inside" ["number","span"] (Cw K):=by
 exists 0,bH,0,DN;obtain⟨n,lo,hi,a,rfl,hq,q⟩:=h;erw[_,(aE<|qR Hd Hd (R8 K bY aa) aT<|R8 K bY aa),?_];erw[_,Z,a,_,_,_,Z,Z,hq,Z,_,Z,_,_,Z,Z,_,Z,?_];show bh (λh1=>?_) λh1=>?_
 .exists _,Z,a,_,_,_,Z,Z,hq,Z,_,_,Z,Z,?_;rw[h1,Q4] at q;show q
 .rw[Om] at h1;rw[h1,Qv] at q;show q
theorem sY (T:Txt K mg a):Sj P w K mg base 1 "small_letter" ["sign"] F3:=by
 exists 0,bH,11,rT;obtain⟨c,rfl,q⟩:=h;erw[_,(aE<|qR lX lX aq aT aq),?_];have e1:(!decide ((⟨#[c]⟩:va).cps.toList < sA.cps.toList))=decide (97<=c):=by
  rw[Kf];change (!decide ([c] < [97]))=_;rw[TU,<-decide_not,QG];lia
 have e2:(!decide (sZ.cps.toList < (⟨#[c]⟩:va).cps.toList))=decide (c<=122):=by
  rw[KW];change (!decide ([122] < [c]))=_;rw[TU,<-decide_not,QG];lia
 erw[_,Z,sA,_,Z,Z,_,Z,?_];rw[e1];show bh (λh1=>?_) λh1=>?_
 .exists _,sZ,Z,Z,?_;rw[e2];unfold gR at q;rw[h1,Q4] at q;show q
 .rw[Om] at h1;unfold gR at q;rw[h1,Qv] at q;show q
theorem xC (T:Txt K mg a):Sj P w K mg base 2 "good_name" ["text"] HA:=by
 exists 0,bH,12,xQ;obtain⟨cs,rfl,hz,q⟩:=h;erw[_,(aE<|eV<|k8 (aF (iT T:)<|aj (c5 K T.bZ aT)<|R6<|gy T.yr)<|iZ<|bR (qU rfl) uK T.Cn boot_all<|R6<|eZ zJ ["sign"] [] [] (CG aT) λC s2 H2 fp=>(aF (sY T:)<|R6 aT)),?_];have hl:(txt cs).length<=sizeLine:=by rw[Ah]; show OA<|pk hz
 erw[Q,?_,λ_ _ z=>z];erw[_,Z,_,_,Z,⟨hl,Z⟩,λa ha=>?_];erw[_,1,8,a,Z,ha _,_,Z,?_];rw[Ah];show bh (λh1=>?_) λh1=>?_
 .exists _,Z,_,Z,?_;have ec:gv (txt cs)=cs.map λc=>V.str ⟨#[c]⟩:=by unfold gv; rw[IT]
  show iU (xs:=gv<|txt cs) CM (λv=>match v with | .str z=> .bl (gR<|z.cps.getD 0 0) | _=> .bl false) (by rw[ec,NR]; show pk hz) (λx hx R hR=>?_) λp hp=>?_
  .rw[ec] at hx;obtain⟨c,_,rfl⟩:=Ow.mp hx;erw[_,Z,c,Z,hR]
  .exists p,cs.map gR,Z,R5.of ?_,?_
   .rw[af,ec,OK,OK];rfl
   .have e:(cs.map gR).all id=cs.all gR:=by rw[QP]; rfl
    rw[e];have q':=q (upd H p<|.lst<|(gv<|txt cs).map (λv=>match v with | .str z=> .bl (gR<|z.cps.getD 0 0) | _=> .bl false)) λb o hb=>by
     rw[ah<|az hb hp];show hb
    unfold dj at q';rw[h1,Q4] at q';show q'
 .have q':=q H<|ag.refl H;rw[Om] at h1;unfold dj at q';rw[h1,Qv] at q';show q'
theorem Ka (y:va):txt y.cps.toList=y:=by simp[txt]
theorem cz (x:va): ∀ms:qx va,Sq (.str x) (ms.map V.str)=decide (x∈ms)
 | []=>by simp[Sq]
 | m::ms=>by
  have:=cz x ms;unfold Sq at this ⊢;rw[OH,PD,this];change (m == x || decide (x∈ms))=decide (x∈m::ms);by_cases e:m=x;.subst e; simp
  .have e': ¬x=m:=λz=>e z.symm;simp[e,e']
theorem bW: ∀ms:qx va,(ms.map V.str).all c6=true
 | []=>rfl
 | m::ms=>by rw[OH,RL,bW ms]; rfl
variable{y:va}
theorem dG: ∀ {ys:qx va},y∈ys-> ∃j:u6,ys[j]?=some y/\ ∀m,m < j->ys[m]?≠some y
 | [],h=>by cases h
 | z::ys,h=>by
  by_cases e:z=y
  .subst e;nomatch 0,Z,λm hm=>wz hm (OU _)
  .obtain⟨j,a,b⟩:=dG<|(N5.mp h).resolve_left λq=>e q.symm;erw[j+1,a,λm hm=>?_];cases m with
   | zero=>show λq=>e (Oj q)
   | succ m=>show b m Y
theorem pN (xs:qx V) (k:u6):lx xs none (some (k:u6))=xs.take k:=by
 unfold lx;rw[HT.Av];change (xs.drop 0).take (min k xs.length - 0)=xs.take k;rw[WG,Xj];by_cases h:k<=xs.length;.rw[RY h]
 .rw[Ws Y,OF,OP Y]
theorem iA (xs:qx V) (k:u6):lx xs (some (k:u6)) none=xs.drop k:=by
 unfold lx;rw[HT.Av];change (xs.drop (min k xs.length)).take (xs.length - min k xs.length)=xs.drop k;by_cases h:k<=xs.length
 .rw[RY h];show OP (by rw[OY]; show N0 _)
 .rw[Ws Y,List.drop_length,VB Y];show Q2
inductive qB(K:R7)(a:Adr)(vs:qx V)(H:Hp)(Q:VK)(E:XK):Prop|mk(y:va)(p:qA)(ys:qx va)(_:vs=[.str y,.ref p])(_:R5 K H p (ys.map V.str))(_:y∈ys->Q .non H)(_:y∉ys->E (.ref a.Unknown) none H)
theorem fH (T:Txt K mg a):SW P w K mg base 1 "refuse_unknown" ["name","names"] (qB K a):=by
 exists 0,jG,20,qD;obtain⟨y,p,ys,rfl,hp,q,e⟩:=h;erw[_,(au<|aB (f6 (rG K) aT bY) (au<|dU T.l5 rfl<|R6 aq) ax),?_];by_cases hm:y∈ys;.exact⟨_,Z,_,Z,p,_,Z,.inl hp,Z,bW ys,false,OI V.bl (by change (!Sq (.str y) (ys.map V.str))=false; rw[cz,N2 hm]; rfl),aM<|q hm⟩
 .nomatch _,Z,_,Z,p,_,Z,.inl hp,Z,bW ys,true,OI V.bl (by change (!Sq (.str y) (ys.map V.str))=true; rw[cz,N8 hm]; rfl),aW ⟨aS,e hm⟩
inductive zg(a:Adr)(vs:qx V)(H:Hp)(Q:VK)(E:XK):Prop|mk(y:va)(p:qA)(ys:qx va)(_:vs=[.str y,.ref p])(_:H p=some (.lst (ys.map V.str)))(_:∀j:u6,ys[j]?=some y->(∀m,m < j->ys[m]?≠some y)->Q (.int (j:u6)) H)(_:y∉ys->E (.ref a.Unknown) none H)
theorem ik (T:Txt K mg a):SW P w K mg base 2 "place_of" ["name","names"] (zg a):=by
 exists 0,jG,21,yZ;obtain⟨y,p,ys,rfl,hp,q,e⟩:=h;erw[_,(ae (aO<|a6 (fH T:)<|aj aT<|R6 bY)<|aE<|show PE _ _ (SS K _ _ _ _) from c7 OE OV OW fk bY<|R6 aT),?_];erw[_,Z,_,Z,y,p,ys,Z,R5.of hp,λhm=>?_,e];obtain⟨j,j1,j2⟩:=dG hm;erw[_,Z,.inl ⟨Z,_,R5.of hp⟩,_,Z,p,ys,y,j,Z,Z,hp,j1,j2,q j j1 j2]
inductive wJ(K:R7)(a:Adr)(vs:qx V)(H:Hp)(Q:VK)(E:XK):Prop|mk(y:va)(p:qA)(ys:qx va)(_:vs=[.str y,.ref p])(_:R5 K H p (ys.map V.str))(_:y.cps.toList.length<=1000)(_:y∈ys->E (.ref a.InUse) none H)(_:∀H',ag H H'->y∉ys->(dj y.cps.toList=true->Q .non H')/\(dj y.cps.toList=false->E (.ref a.BadName) none H'))
theorem gL (T:Txt K mg a):SW P w K mg base 3 "refuse_new_name" ["name","names"] (wJ K a):=by
 exists 0,jG,22,pM;obtain⟨y,p,ys,rfl,hp,hy,e1,q⟩:=h;erw[_,(ae (aB (f6 (Ti K) aT bY) (au<|dU T.mw rfl<|R6 aq) ax)<|au<|aB (lG<|eR K<|a6 (xC T:).x<|R6 aT) (au<|dU T.pF rfl<|R6 aq) ax),?_];by_cases hm:y∈ys;.exact⟨_,Z,_,Z,p,_,Z,.inl hp,Z,bW ys,true,OI V.bl<|(cz y ys).trans<|N2 hm,aW ⟨aS,e1 hm⟩⟩
 .exists _,Z,_,Z,p,_,Z,.inl hp,Z,bW ys,false,OI V.bl<|(cz y ys).trans<|N8 hm,aM ?_;show⟨_,Z,y.cps.toList,by rw[Ka]; rfl,hy,λH1 s1=>⟨_,Z,?_⟩⟩;cases e:dj y.cps.toList with
  | true=>show aM ((q H1 s1 hm).1 e)
  | false=>show aW ⟨aS,(q H1 s1 hm).2 e⟩
inductive uz(a:Adr)(vs:qx V)(H:Hp)(Q:VK)(E:XK):Prop|mk(c m:u7)(_:vs=[.int c,.int m])(_:c < m->Q .non H)(_:m<=c->E (.ref a.Full) none H)
theorem ju (T:Txt K mg a):SW P w K mg base 1 "refuse_full" ["count","most"] (uz a):=by
 exists 0,jG,24,uH;obtain⟨c,m,rfl,q,e⟩:=h;erw[_,(au<|aB (aA qr aT bY) (au<|dU T.yO rfl<|R6 aq) ax),?_];erw[_,Z,_,Z,_,_,Z,Z,_,Z,?_];show bh (λz=>⟨aS,e<|Oc z⟩) λz=>q ?_;have:=Ou<|Om _▸z;lia
inductive xt(C:qA)(vs:qx V)(H:Hp)(Q:VK)(_E:XK):Prop|mk(h dx:qA)(_:vs=[.ref h])(_:H h=some (.ins C dx []))(_:H dx=some (.own h))(_:∀(os:qx qA) (H':Hp),(∀b o,b≠h->b≠dx->H b=some o->H' b=some o)->HI C H' h os ⟨[],[],[]⟩->(∀b∈os,b=h\/b=dx\/H b=none)->Q .non H')
theorem we (T:Txt K mg a):TK P w K mg base 1 a.House "__init__" ["self"] (xt a.House):=by
 exists 1,rz,0,wu;obtain⟨h,dx,rfl,hh,hd,q⟩:=h;erw[_,(ae (ie aT (aP b8) rfl)<|ae (ie aT (aP b8) rfl)<|au<|ie aT (aP b8) rfl),?_];have hd1:dx≠h:=λz=>by rw[z,hh] at hd; cases hd
 erw[aS,λp np=>⟨_,Z,h,a.House,dx,[],Z,ag.upd np _ _ hh,T.aV.cl,T.aI,aS,?_⟩];have ph:p≠h:=(az hh np).symm;have pd:p≠dx:=(az hd np).symm;erw[aS,λq1 nq=>?_];have qh:q1≠h:=λz=>by rw[z,af] at nq; cases nq
 rw[ah qh] at nq;have qp:q1≠p:=λz=>by rw[z,af] at nq; cases nq
 rw[ah qp] at nq;have qd:q1≠dx:=(az hd nq).symm;erw[_,Z,h,a.House,dx,[("member_rows",.ref p)],Z,(ah<|Ox qh).trans af,T.aV.cl,T.bg,(by change 1 < 1000; decide),?_];erw[aS,λr nr=>?_];have rh:r≠h:=λz=>by rw[z,af] at nr; cases nr
 rw[ah rh] at nr;have rq:r≠q1:=λz=>by rw[z,af] at nr; cases nr
 rw[ah rq,ah rh] at nr;have rp:r≠p:=λz=>by rw[z,af] at nr; cases nr
 rw[ah rp] at nr;have rd:r≠dx:=(az hd nr).symm;erw[_,Z,h,a.House,dx,[("member_rows",.ref p),("demand_rows",.ref q1)],Z,?_,T.aV.cl,T.eu,(by change 2 < 1000; decide),?_]
 .rw[ah<|Ox rh,af,kM uw];rfl
 show q [h,dx,r,p,q1] _ (λb o b1 b2 e=>?_) ⟨dx,p,q1,r,[p,q1],[],Z,hd1,rh,rd,?_,?_,?_,?_,?_,?_,.nil,?_,?_,?_⟩ λb hb=>?_
 .have b3:b≠p:=az e np;have b4:b≠q1:=az e nq;have b5:b≠r:=az e nr;rw[ah b1,ah b5,ah b1,ah b4,ah b1,ah b3];show e
 .simp only[N5,OG,Px,not_or];erw[Ox ph,Ox qh]
 .simp only[N5,OG,Px,not_or];erw[Ox pd,Ox qd]
 .simp only[N5,OG,Px,not_or];erw[rp,rq]
 .rw[af,kM uw,kM uw];rfl
 .rw[ah hd1,ah<|Ox rd,ah hd1,ah<|Ox qd,ah hd1,ah<|Ox pd];show hd
 .rw[ah rh,af]
 .show⟨uD,[],?_,.nil⟩;rw[ah ph,ah<|Ox rp,ah ph,ah<|Ox qp,ah ph,af]
 .show⟨uD,[],?_,.nil⟩;rw[ah qh,ah<|Ox rq,ah qh,af]
 .intro b hb;simp only[N5,OG,Px] at hb;rcases hb with rfl | rfl
  .nomatch _,by rw[ah ph,ah<|Ox rp,ah ph,ah<|Ox qp,ah ph,af]
  .nomatch _,by rw[ah qh,ah<|Ox rq,ah qh,af]
 .simp only[N5,OG,Px] at hb;rcases hb with rfl | rfl | rfl | rfl | rfl
  .exact .inl rfl
  .exact .inr<|.inl rfl
  .exact .inr<|.inr nr
  .exact .inr<|.inr np
  .exact .inr<|.inr nq
inductive B3(C:qA)(vs:qx V)(H:Hp)(Q:VK)(_E:XK):Prop|mk(h:qA)(os:qx qA)(S:Sb)(_:vs=[.ref h])(_:HI C H h os S)(_:S.ms.length<=100)(_:∀(p:qA) (H':Hp),H p=none->ag H H'->H' p=some (.lst ((av S).map V.str))->Q (.ref p) H')
theorem ud{p:Prop}(h:p:=by (repeat (first | show bB | show (bx uw).trans ?_))):p:=h
theorem bI (T:Txt K mg a):TK P w K mg base 1 a.House "members" ["self"] (B3 a.House):=by
 exists 1,rz,12,rP;obtain⟨h,os,S,rfl,⟨dx,p,q0,r,is,kv,rfl,I⟩,hl,q⟩:=h;obtain⟨pi,xs,hp,hX⟩:=I.ms;have xl:=hX.length;erw[_,(aE<|eZ tS ["row"] [] [] (cS K<|cw K aT) λC s2 H2 fp=>(R8 K aT aa)),?_];erw[_,Z,h,a.House,dx,_,.ref p,Z,I.ih,T.aV.cl,T.aI,ud,p,rfl,⟨_,R5.of hp⟩,?_];show cH (xs:=xs) (λi ys H'=>H'=H/\ys=(S.ms.take i).map λm=>V.str m.1) (λi ys H' _ h=>by rw[h.1]; show bf<|R5.of hp) ⟨Z,Z⟩ (ay Y) (λi ys H' h=>by rw[h.2,NR,Oi]; show OX _ _) ?_ ?_
 .rintro i ys H2 x hi ⟨rfl,rfl⟩;obtain⟨m,hm,t,rfl,_,ht⟩:=hX.get hi;dsimp only[aK,gG];show aW ⟨_,Z,t,_,_,_,Z,Z,Se.of ht,Z,Z,?_⟩;rw[Ov,hm,Od];rfl
 .rintro ys H2 p2 ⟨rfl,rfl⟩ np;show q p2 _ np (ag.upd np) ?_;rw[af,xl,OF];unfold av;rw[OK];rfl
inductive IP(a:Adr)(vs:qx V)(H:Hp)(Q:VK)(E:XK):Prop|mk(h dx p q r:qA)(is:qx qA)(kv:qx V)(S:Sb)(_:vs=[.ref h])(_:Su a.House H h dx p q r is kv S)(_:S.ks.length<=150)(_:150<=S.ks.length->E (.ref a.Full) none H)(_:S.ks.length < 150-> ∀t,H t=none->Q .non (upd (upd H t (.tup [.ref p,.ref q])) r (.lst (kv++[.ref t]))))
theorem d6 (T:Txt K mg a):SY P w K mg base 2 a.House "keep_deed" ["self"] (IP a):=by
 exists 1,g8,1,pE;obtain⟨h,dx,p,q0,r,is,kv,S,rfl,I,hl,e,q⟩:=h;have kl:=I.ks.length;erw[_,(ae (aO<|a6 (ju T:)<|aj (c5 K T.bZ<|cw K aT)<|R6<|jt T.yS)<|au<|aO<|fR K (cw K aT)<|bO<|aj (cw K aT)<|R6<|cw K aT),?_];erw[_,Z,h,a.House,dx,_,.ref r,Z,I.ih,T.aV.cl,T.eu,ud,_,_,rfl,.inl ⟨_,R5.of I.ir,rfl⟩,_,_,rfl,λz=>?_,λz=>e Y];erw[_,Z,h,a.House,dx,_,.ref r,Z,I.ih,T.aV.cl,T.eu,ud,.inl ⟨rfl,_,R5.of I.ir⟩,_,rfl,h,a.House,dx,_,.ref p,rfl,I.ih,T.aV.cl,T.aI,ud,_,rfl,h,a.House,dx,_,.ref q0,rfl,I.ih,T.aV.cl,T.bg,ud,aC,λt nt=>?_];erw[r,_,_,Z,Z,(ah<|az I.ir nt).trans I.ir,ay Y,?_];show q Y t nt
inductive om(a:Adr)(vs:qx V)(H:Hp)(Q:VK)(E:XK):Prop|mk(h:qA)(os:qx qA)(S:Sb)(y:va)(_:vs=[.ref h,.str y])(_:HI a.House H h os S)(_:y.cps.toList.length<=1000)(_:S.ms.length<=12)(_:S.ks.length<=150)(_:∀H',ag H H'->y∈av S->E (.ref a.InUse) none H')(_:∀H',ag H H'->y∉av S->dj y.cps.toList=false->E (.ref a.BadName) none H')(_:∀H',ag H H'->y∉av S->dj y.cps.toList=true->(12<=S.ms.length\/150<=S.ks.length)->E (.ref a.Full) none H')(_:∀H',y∉av S->dj y.cps.toList=true->S.ms.length < 12->S.ks.length < 150->cq a.House H h os ⟨S.ms++[(y,none)],S.ds,S.ks++[(S.ms,S.ds)]⟩ H'->Q .non H')
theorem oA (T:Txt K mg a):SY P w K mg base 4 a.House "add_member" ["self","name"] (om a):=by
 exists 1,g8,2,oC;obtain⟨h,os,S,y,rfl,hI,hy,hml,hkl,e1,e2,e3,q⟩:=h;have hI0:=hI;obtain⟨dx,p,q0,r,is,kv,rfl,I⟩:=hI;erw[_,(ae (aO (a6 (gL T:) (aj bY (R6 (bc (bI T:).x aT))))) (ae (aO (a6 (ju T:) (aj (c5 K T.bZ (cw K aT)) (R6 (jt T.uF))))) (ae (aO (bc (d6 T:) aT)) (au (ie aT (aw fQ (cw K aT) (aP (R6 (bO (aj bY (R6 cM)))))) rfl))))),?_];erw[_,Z,_,Z,h,dx,_,Z,I.ih,Sk,h,_,S,Z,hI0,Y,λpm H1 npm s1 hpm=>?_];erw[y,pm,av S,Z,R5.of hpm,hy,λhm=>e1 H1 s1 hm,λH2 s2 hm=>⟨λhg=>?_,λhb=>e2 H2 (s1.trans s2) hm hb⟩];have s12:=s1.trans s2;have I2:=I.same s12;obtain⟨pi,xs,hp,hX⟩:=I2.ms;have xl:=hX.length;erw[_,Z,h,a.House,dx,_,.ref p,Z,I2.ih,T.aV.cl,T.aI,ud,_,_,rfl,.inl ⟨_,R5.of hp,rfl⟩,_,_,rfl,λz=>?_,λz=>e3 H2 s12 hm hg (.inl Y)];erw[_,Z,h,dx,_,Z,I2.ih,Sk,h,dx,p,q0,r,is,kv,S,Z,I2,hkl,λz=>e3 H2 s12 hm hg (.inr z),λz2 t nt=>?_];have I3:=I2.keep nt;have hp3:(upd (upd H2 t (.tup [.ref p,.ref q0])) r (.lst (kv++[.ref t]))) p=some (.lst xs):=(ah (I2.sh pi).2.2).trans ((ah (az hp nt)).trans hp);erw[_,Z,h,a.House,dx,_,.ref p,Z,I3.ih,T.aV.cl,T.aI,ud,_,rfl,aC,λt2 nt2=>⟨aC,λl nl=>?_⟩];have st:=ag.upd (o:= .tup [.str y,.non]) nt2;have sl:=ag.upd (o:= .lst [.ref t2]) nl;show⟨p,l,_,_,Z,Z,(st.trans sl) _ _ hp3,af,by rw[xl]; show OA (ay (by change S.ms.length+1<=1000; lia)),λp' np'=>?_⟩;have s4:=(st.trans sl).trans (ag.upd (o:= .lst (xs++[.ref t2])) np');have ht2:=(sl.trans (ag.upd (o:= .lst (xs++[.ref t2])) np')) _ _ (af (H:=(upd (upd H2 t (.tup [.ref p,.ref q0])) r (.lst (kv++[.ref t])))) (a:=t2) (o:= .tup [.str y,.non]));have hp4:(upd (upd (upd (upd (upd H2 t (.tup [.ref p,.ref q0])) r (.lst (kv++[.ref t]))) t2 (.tup [.str y,.non])) l (.lst [.ref t2])) p' (.lst (xs++[.ref t2]))) p'=some (.lst (xs++[.ref t2])):=af;have np3:=(st.trans sl).free np';erw[_,Z,h,a.House,dx,_,Z,s4 _ _ I3.ih,T.aV.cl,T.aI,(by change 3 < 1000; decide),?_];rw[jH];generalize upd (upd (upd (upd (upd H2 t (.tup [.ref p,.ref q0])) r (.lst (kv++[.ref t]))) t2 (.tup [.str y,.non])) l (.lst [.ref t2])) p' (.lst (xs++[.ref t2]))=H4 at s4 ht2 hp4;show q _ hm hg Y z2 (I.BU s12 nt s4 (qg s12 nt np3) hp4 (F2.append ?_ (.cons ⟨t2,Z,.inr (qg s12 nt nt2),ht2⟩ .nil)));show hX.imp λv m ⟨b,e,bi,hb⟩=>⟨b,e,.inl bi,s4 _ _ ((ah (I2.sh bi).2.2).trans ((ah (az hb nt)).trans hb))⟩
def bound (y:va) (ds:qx Sn):yW:=ds.any λd=>decide (d.2.1=y) || decide (d.2.2.1=some y)
inductive lr(a:Adr)(vs:qx V)(H:Hp)(Q:VK)(E:XK):Prop|mk(h:qA)(os:qx qA)(S:Sb)(y:va)(_:vs=[.ref h,.str y])(_:HI a.House H h os S)(_:S.ms.length<=12)(_:S.ds.length<=24)(_:S.ks.length<=150)(_:∀H',ag H H'->y∉av S->E (.ref a.Unknown) none H')(_:∀H',ag H H'->y∈av S->bound y S.ds=true->E (.ref a.InUse) none H')(_:∀H',ag H H'->y∈av S->bound y S.ds=false->150<=S.ks.length->E (.ref a.Full) none H')(_:∀(H':Hp) (j:u6),(av S)[j]?=some y->(∀m,m < j->(av S)[m]?≠some y)->bound y S.ds=false->S.ks.length < 150->cq a.House H h os ⟨S.ms.take j++S.ms.drop (j+1),S.ds,S.ks++[(S.ms,S.ds)]⟩ H'->Q .non H')
theorem mv (T:Txt K mg a):SY P w K mg base 4 a.House "strike_member" ["self","name"] (lr a):=by
 exists 1,g8,8,ip;obtain⟨h,os,S,y,rfl,hI,hml,hdl,hkl,e1,e2,e3,q⟩:=h;have hI0:=hI;obtain⟨dx,p,q0,r,is,kv,rfl,I⟩:=hI;erw[_,(ae (R9 2 ip.nd<|a6 (ik T:)<|aj bY<|R6<|bc (bI T:).x aT)<|ae (aB (eR K<|bR (FV rfl) uK T.L3 boot_any<|R6<|eZ mR ["row"] ["name"] [1] (cS K<|cw K aT) λC s2 H2 fp=>(Bz (Ti K) bY<|bO<|aj (R8 K aT aa)<|R6<|R8 K aT aa)) (au<|dU T.mw rfl<|R6 aq) ax)<|ae (aO<|bc (d6 T:) aT)<|au<|ie aT (aw fQ (dC (Tf K) (cw K aT) eD<|eE dO)<|dC (Tf K) (cw K aT) (eE<|aw bw dO aa) eD) rfl),?_];erw[_,Z,_,Z,h,dx,_,Z,I.ih,Sk,h,_,S,Z,hI0,Y,λpm H1 npm s1 hpm=>?_];erw[y,pm,av S,Z,hpm,λj hj hjm=>?_,λhm=>e1 H1 s1 hm];have hm:y∈av S:=NU hj;have I1:=I.same s1;obtain⟨qi,ys,hq,hY⟩:=I1.ds;have yl:=hY.length;erw[_,Z,h,a.House,dx,_,.ref q0,Z,I1.ih,T.aV.cl,T.bg,ud,q0,rfl,⟨_,R5.of hq⟩,?_];show cH (xs:=ys) (λi zs H'=>ag H1 H'/\zs=(S.ds.take i).map λd=>V.bl (decide (d.2.1=y) || decide (d.2.2.1=some y))) (λi zs H' _ h=>bf<|R5.of<|h.1 _ _ hq) ⟨ag.refl H1,Z⟩ (ay Y) (λi zs H' h=>by rw[h.2,NR,Oi]; show OX _ _) ?_ ?_
 .rintro i zs H2 x hi ⟨sm,rfl⟩;obtain⟨d,hd,t,rfl,_,ht⟩:=hY.get hi;have ht2:=sm _ _ ht;dsimp only[aK,gG];show aW ⟨_,Z,_,Z,t,_,_,_,Z,Z,Se.of ht2,Z,_,Z,t,_,_,_,Z,Z,Se.of ht2,Z,aC,λt3 nt3=>?_⟩;erw[t3,_,Z,.inr<|Se.of af,Z,?_,sm.trans<|ag.upd nt3,?_]
  .obtain⟨d1,d2,d3,d4⟩:=d;cases d3 <;> rfl
  .rw[Ov,hd,Od];obtain⟨d1,d2,d3,d4⟩:=d;congr 1;change [V.bl<|Sq (.str y) [.str d2,hZ d3]]=[V.bl (decide (d2=y) || decide (d3=some y))];have:Sq (.str y) [.str d2,hZ d3]=(decide (d2=y) || decide (d3=some y)):=by
    unfold Sq;cases d3 with
    | none=>show (d2 == y || (false || false))=_; by_cases c:d2=y <;> simp[c]
    | some z=>show (d2 == y || (z == y || false))=_; by_cases c:d2=y <;> by_cases c2:z=y <;> simp[c,c2]
   rw[this]
 .rintro zs H2 p2 ⟨sm,rfl⟩ np2;rw[yl,OF];have s2:=s1.trans<|sm.trans<|ag.upd (o:= .lst<|S.ds.map λd=>V.bl (decide (d.2.1=y) || decide (d.2.2.1=some y))) np2;have hp2:(upd H2 p2<|.lst<|S.ds.map λd=>V.bl (decide (d.2.1=y) || decide (d.2.2.1=some y))) p2=some (.lst<|(S.ds.map λd=>(decide (d.2.1=y) || decide (d.2.2.1=some y))).map V.bl):=by rw[af,OK]; rfl
  generalize upd H2 p2 (.lst (S.ds.map λd=>V.bl (decide (d.2.1=y) || decide (d.2.2.1=some y))))=H3 at s2 hp2;have eb:(S.ds.map λd=>(decide (d.2.1=y) || decide (d.2.2.1=some y))).any id=bound y S.ds:=by unfold bound; rw[Wc]; rfl
  erw[p2,_,Z,R5.of hp2,_,Z,?_];rw[eb];show bh (λc=>?_) λc=>?_;.exact⟨aS,e2 _ s2 hm c⟩
  have c:bound y S.ds=false:=Om _▸c;have I3:=I.same s2;obtain⟨pi,xs,hp,hX⟩:=I3.ms;have xl:=hX.length;erw[_,Z,h,dx,_,Z,I3.ih,Sk,h,dx,p,q0,r,is,kv,S,Z,I3,hkl,λz=>e3 _ s2 hm c z,λz2 t nt=>?_];have I4:=I3.keep nt;have hp4:(upd (upd H3 t<|.tup [.ref p,.ref q0]) r<|.lst<|kv++[.ref t]) p=some (.lst xs):=(ah (I3.sh pi).2.2).trans<|(ah<|az hp nt).trans hp;have hold:F2 (nT pf is H<|upd (upd H3 t<|.tup [.ref p,.ref q0]) r<|.lst<|kv++[.ref t]) xs S.ms:=hX.imp λv m ⟨b,e,bi,hb⟩=>⟨b,e,.inl bi,(ah (I3.sh bi).2.2).trans<|(ah<|az hb nt).trans hb⟩
  dsimp only[aK,L2.start,x8];erw[_,Z,h,a.House,dx,_,.ref p,Z,I4.ih,T.aV.cl,T.aI,ud,_,rfl,_,rfl,p,xs,rfl,R5.of hp4,λc1 nc1=>?_];rw[pN];erw[_,Z,h,a.House,dx,_,.ref p,Z,ag.upd nc1 _ _ I4.ih,T.aV.cl,T.aI,ud,_,rfl,_,_,rfl,rfl,_,rfl,p,xs,rfl,R5.of (ag.upd nc1 _ _ hp4),λc2 nc2=>?_];rw[show (((j:u6):u7)+1)=((j+1:u6):u7) by lia,iA];show⟨c1,c2,_,_,Z,Z,ag.upd nc2 _ _ af,af,by rw[Oi,OY]; show OA (ay Y),λc3 nc3=>?_⟩;have s4:=((ag.upd (o:= .lst (xs.take j)) nc1).trans (ag.upd (o:= .lst (xs.drop (j+1))) nc2)).trans (ag.upd (o:= .lst (xs.take j++xs.drop (j+1))) nc3);have hc3:(upd (upd (upd (upd (upd H3 t (.tup [.ref p,.ref q0])) r (.lst (kv++[.ref t]))) c1 (.lst (xs.take j))) c2 (.lst (xs.drop (j+1)))) c3 (.lst (xs.take j++xs.drop (j+1)))) c3=some (.lst (xs.take j++xs.drop (j+1))):=af;have np3:=((ag.upd (o:= .lst (xs.take j)) nc1).trans (ag.upd (o:= .lst (xs.drop (j+1))) nc2)).free nc3;erw[_,Z,h,a.House,dx,_,Z,s4 _ _ I4.ih,T.aV.cl,T.aI,(by change 3 < 1000; decide),?_];rw[jH];generalize upd (upd (upd (upd (upd H3 t (.tup [.ref p,.ref q0])) r (.lst (kv++[.ref t]))) c1 (.lst (xs.take j))) c2 (.lst (xs.drop (j+1)))) c3 (.lst (xs.take j++xs.drop (j+1)))=H4 at s4 hc3;have hold4:F2 (nT pf is H H4) xs S.ms:=hold.imp λv m ⟨b,e,bi,hb⟩=>⟨b,e,bi,s4 _ _ hb⟩
  show q _ j hj hjm c z2<|I.BU s2 nt s4 (qg s2 nt np3) hc3<|(hold4.take j).append<|hold4.drop<|j+1
inductive BF(a:Adr)(vs:qx V)(H:Hp)(Q:VK)(E:XK):Prop|mk(p e o:u7)(_:vs=[.int p,.int e,.int o])(_:Sy p e o->eJ p e o<=99999->Q (.int (eJ p e o)) H)(_:Sy p e o->99999 < eJ p e o->E (.ref a.TooMuch) none H)(_:¬Sy p e o->E (.ref a.BadNumber) none H)
theorem B6 (T:Txt K mg a):SW P w K mg base 2 "portion" ["people","each","over"] (BF a):=by
 exists 0,jG,13,tQ;obtain⟨p,e,o,rfl,q1,q2,q3⟩:=h;erw[_,(ae (aB (lG<|PW.pt<|cv (eR K<|a6 (iT T:).x<|aj aT<|R6<|gy T.E9)<|cv (eR K<|a6 (iT T:).x<|aj bY<|R6<|gy T.Kz)<|cg<|eR K<|a6 (iT T:).x<|aj dO<|R6<|gy T.Kh) (au<|dU T.jN rfl<|R6 aq) ax)<|ae (R9 3 tQ.nd<|aw bM (aw gN (aw bw (aw tf aT bY) dO) aa) dO)<|ae (aB (aA jg eX<|jt T.uA) (au<|dU T.pJ rfl<|R6 aq) ax)<|aE eX),?_];have bad: ¬Sy p e o->([V.str "a number of the portion is outside its range"].length<=1000/\E (.ref a.BadNumber) none H):=λz=>⟨aS,q3 z⟩
 erw[_,Z,λa1 h1=>⟨_,0,999,a1,Z,h1 _,_,Z,?_⟩];show bh (λc1=>?_) λc1=>?_;rotate_left
 .show aW<|bad λz=>?_;unfold Sy at z;simp at c1;lia
 .exists _,Z,λa2 h2=>⟨_,1,999,a2,Z,h2 _,_,Z,?_⟩;show bh (λc2=>?_) λc2=>?_;rotate_left
  .show aW<|bad λz=>?_;unfold Sy at z;simp at c2;lia
  .exists _,Z,λa3 h3=>⟨_,1,999,a3,Z,h3 _,_,Z,?_⟩;show bh (λc3=>bad λz=>?_) λc3=>?_
   .unfold Sy at z;simp at c3;lia
   .have hin:Sy p e o:=by
     simp at c1 c2 c3;unfold Sy;lia
    have hin':=id hin;unfold Sy at hin';erw[_,Z,_,Z,_,_,Z,Z,.inl ⟨Y,Y⟩,_,Z,_,_,Z,Z,_,_,Z,Z,_,Z,_,_,Z,Z,⟨Y,Y⟩,?_];erw[_,Z,_,_,Z,Z,_,Z,?_];show bh (λc4=>?_) λc4=>?_;.exact⟨by change 1<=1000; decide,q2 hin<|Oc c4⟩
    .nomatch _,Z,q1 hin (by have:=Ou<|Om _▸c4; unfold eJ; lia)
inductive tU(C:qA)(vs:qx V)(H:Hp)(Q:VK)(_E:XK):Prop|mk(h:qA)(os:qx qA)(S:Sb)(_:vs=[.ref h])(_:HI C H h os S)(_:S.ds.length<=100)(_:∀(p:qA) (H':Hp),H p=none->ag H H'->H' p=some (.lst ((aN S).map V.str))->Q (.ref p) H')
theorem eB (T:Txt K mg a):TK P w K mg base 1 a.House "demand_names" ["self"] (tU a.House):=by
 exists 1,rz,13,mW;obtain⟨h,os,S,rfl,⟨dx,p0,p,r,is,kv,rfl,I⟩,hl,q⟩:=h;obtain⟨pi,xs,hp,hX⟩:=I.ds;have xl:=hX.length;erw[_,(aE<|eZ nZ ["row"] [] [] (cS K<|cw K aT) λC s2 H2 fp=>(R8 K aT aa)),?_];erw[_,Z,h,a.House,dx,_,.ref p,Z,I.ih,T.aV.cl,T.bg,ud,p,rfl,⟨_,R5.of hp⟩,?_];show cH (xs:=xs) (λi ys H'=>H'=H/\ys=(S.ds.take i).map λm=>V.str m.1) (λi ys H' _ h=>by rw[h.1]; show bf<|R5.of hp) ⟨Z,Z⟩ (ay Y) (λi ys H' h=>by rw[h.2,NR,Oi]; show OX _ _) ?_ ?_
 .rintro i ys H2 x hi ⟨rfl,rfl⟩;obtain⟨m,hm,t,rfl,_,ht⟩:=hX.get hi;dsimp only[aK,gG];show aW ⟨_,Z,t,_,_,_,Z,Z,Se.of ht,Z,Z,?_⟩;rw[Ov,hm,Od];rfl
 .rintro ys H2 p2 ⟨rfl,rfl⟩ np;show q p2 _ np (ag.upd np) ?_;rw[af,xl,OF];unfold aN;rw[OK];rfl
inductive B8(K:R7)(a:Adr)(vs:qx V)(H:Hp)(Q:VK)(E:XK):Prop|mk(n lo hi:u7)(p:qA)(_:vs=[.int n,.ref p])(_:Se K H p [.int lo,.int hi])(_:lo<=n/\n<=hi->Q .non H)(_:¬(lo<=n/\n<=hi)->E (.ref a.BadNumber) none H)
theorem ky (T:Txt K mg a):SW P w K mg base 2 "refuse_outside" ["number","span"] (B8 K a):=by
 exists 0,jG,23,qz;obtain⟨n,lo,hi,p,rfl,hp,q,e⟩:=h;erw[_,(au<|aB (lG<|eR K<|a6 (iT T:).x<|aj aT<|R6 bY) (au<|dU T.jN rfl<|R6 aq) ax),?_];erw[_,Z,_,Z,n,lo,hi,p,Z,hp,_,Z,?_];by_cases c:lo<=n/\n<=hi
 .rw[show (decide (lo<=n) && decide (n<=hi))=true from by simp[c.1,c.2]];show aM<|q c
 .rw[show (decide (lo<=n) && decide (n<=hi))=false from by
   rw[Bool.eq_false_iff];intro z;rw[Oz] at z;show c ⟨Oc z.1,Oc z.2⟩]
  show aW ⟨aS,e c⟩
inductive Gn(a:Adr)(vs:qx V)(H:Hp)(Q:VK)(E:XK):Prop|mk(h dx p q r:qA)(is:qx qA)(kv:qx V)(S:Sb)(H0:Hp)(t:qA)(d:Sn)(_:vs=[.ref h,.ref t])(_:Su a.House H0 h dx p q r is kv S)(_:ag H0 H)(_:H0 t=none)(_:H t=some (.tup (lA d)))(_:S.ds.length<=24)(_:S.ks.length<=150)(_:(24<=S.ds.length\/150<=S.ks.length)->E (.ref a.Full) none H)(_:∀H',S.ds.length < 24->S.ks.length < 150->cq a.House H0 h (h::dx::r::is) ⟨S.ms,S.ds++[d],S.ks++[(S.ms,S.ds)]⟩ H'->Q .non H')
theorem iM (T:Txt K mg a):SY P w K mg base 3 a.House "bring_demand" ["self","row"] (Gn a):=by
 exists 1,g8,5,mJ;obtain⟨h,dx,p,q0,r,is,kv,S,H0,t0,d,rfl,I,s0,nt0,ht0,hdl,hkl,e,q⟩:=h;erw[_,(ae (aO<|a6 (ju T:)<|aj (c5 K T.bZ<|cw K aT)<|R6<|jt T.uL)<|ae (aO<|bc (d6 T:) aT)<|au<|ie aT (aw fQ (cw K aT)<|aP<|R6 bY) rfl),?_];have I2:=I.same s0;obtain⟨pi,xs,hp,hX⟩:=I2.ds;have xl:=hX.length;erw[_,Z,h,a.House,dx,_,.ref q0,Z,I2.ih,T.aV.cl,T.bg,ud,_,_,rfl,.inl ⟨_,R5.of hp,rfl⟩,_,_,rfl,λz=>?_,λz=>e<|.inl Y];erw[_,Z,h,dx,_,Z,I2.ih,Sk,h,dx,p,q0,r,is,kv,S,Z,I2,hkl,λz=>e<|.inr z,λz2 t nt=>?_];have I3:=I2.keep nt;have hp3:(upd (upd H t<|.tup [.ref p,.ref q0]) r<|.lst<|kv++[.ref t]) q0=some (.lst xs):=(ah (I2.sh pi).2.2).trans<|(ah<|az hp nt).trans hp;have tr:t0≠r:=λz=>by rw[z,I.ir] at nt0; cases nt0
 have ht3:(upd (upd H t (.tup [.ref p,.ref q0])) r (.lst (kv++[.ref t]))) t0=some (.tup (lA d)):=(ah tr).trans ((ah (az ht0 nt)).trans ht0);erw[_,Z,h,a.House,dx,_,.ref q0,Z,I3.ih,T.aV.cl,T.bg,ud,_,rfl,aC,λl nl=>?_];have sl:=ag.upd (o:= .lst [.ref t0]) nl;show⟨q0,l,_,_,Z,Z,sl _ _ hp3,af,by rw[xl]; show OA (ay (by change S.ds.length+1<=1000; lia)),λp' np'=>?_⟩;have s4:=sl.trans (ag.upd (o:= .lst (xs++[.ref t0])) np');have hp4:(upd (upd (upd (upd H t (.tup [.ref p,.ref q0])) r (.lst (kv++[.ref t]))) l (.lst [.ref t0])) p' (.lst (xs++[.ref t0]))) p'=some (.lst (xs++[.ref t0])):=af;have np3:=sl.free np';erw[_,Z,h,a.House,dx,_,Z,s4 _ _ I3.ih,T.aV.cl,T.bg,(by change 3 < 1000; decide),?_];rw[kM uw,jH];generalize upd (upd (upd (upd H t (.tup [.ref p,.ref q0])) r (.lst (kv++[.ref t]))) l (.lst [.ref t0])) p' (.lst (xs++[.ref t0]))=H4 at s4 hp4;show q _ Y z2 (I.Ho s0 nt s4 (qg s0 nt np3) hp4 (F2.append ?_ (.cons ⟨t0,Z,.inr nt0,s4 _ _ ht3⟩ .nil)));show hX.imp λv m ⟨b,e,bi,hb⟩=>⟨b,e,.inl bi,s4 _ _ ((ah (I2.sh bi).2.2).trans ((ah (az hb nt)).trans hb))⟩
inductive oN(a:Adr)(vs:qx V)(H:Hp)(Q:VK)(E:XK):Prop|mk(h:qA)(os:qx qA)(S:Sb)(y m:va)(pe ea ov:u7)(_:vs=[.ref h,.str y,.str m,.int pe,.int ea,.int ov])(_:HI a.House H h os S)(_:y.cps.toList.length<=1000)(_:S.ms.length<=12)(_:S.ds.length<=24)(_:S.ks.length<=150)(_:∀H',ag H H'->m∉av S->E (.ref a.Unknown) none H')(_:∀H',ag H H'->m∈av S->y∈aN S->E (.ref a.InUse) none H')(_:∀H',ag H H'->m∈av S->y∉aN S->dj y.cps.toList=false->E (.ref a.BadName) none H')(_:∀H',ag H H'->m∈av S->y∉aN S->dj y.cps.toList=true-> ¬Sy pe ea ov->E (.ref a.BadNumber) none H')(_:∀H',ag H H'->m∈av S->y∉aN S->dj y.cps.toList=true->Sy pe ea ov->99999 < eJ pe ea ov->E (.ref a.TooMuch) none H')(_:∀H',ag H H'->m∈av S->y∉aN S->dj y.cps.toList=true->Sy pe ea ov->eJ pe ea ov<=99999->(24<=S.ds.length\/150<=S.ks.length)->E (.ref a.Full) none H')(_:∀H',m∈av S->y∉aN S->dj y.cps.toList=true->Sy pe ea ov->eJ pe ea ov<=99999->S.ds.length < 24->S.ks.length < 150->cq a.House H h os ⟨S.ms,S.ds++[(y,m,none,eJ pe ea ov)],S.ks++[(S.ms,S.ds)]⟩ H'->Q .non H')
theorem pQ (T:Txt K mg a):SY P w K mg base 4 a.House "add_plain" ["self","name","member","people","each","over"] (oN a):=by
 exists 1,g8,3,oW;obtain⟨h,os,S,y,m,pe,ea,ov,rfl,hI,hy,hml,hdl,hkl,e1,e2,e3,e4,e5,e6,q⟩:=h;have hI0:=hI;obtain⟨dx,p,q0,r,is,kv,rfl,I⟩:=hI;erw[_,(ae (aO<|a6 (fH T:)<|aj dO<|R6<|bc (bI T:).x aT)<|ae (aO<|a6 (gL T:)<|aj bY<|R6<|bc (eB T:).x aT)<|au<|aO<|cG (iM T:) aT<|R6<|bO<|aj bY<|aj dO<|aj cM<|R6<|a6 (B6 T:)<|aj eX<|aj gE<|R6 gT),?_];erw[_,Z,_,Z,h,dx,_,Z,I.ih,Sk,h,_,S,Z,hI0,Y,λpm H1 npm s1 hpm=>?_];erw[m,pm,av S,Z,R5.of hpm,λhm=>?_,λhm=>e1 H1 s1 hm];erw[_,Z,_,Z,h,dx,_,Z,(I.same s1).ih,Sk,h,_,S,Z,⟨dx,p,q0,r,is,kv,Z,I.same s1⟩,Y,λpd H2 npd s2 hpd=>?_];have s12:=s1.trans s2;erw[y,pd,aN S,Z,R5.of hpd,hy,λhn=>e2 H2 s12 hm hn,λH3 s3 hn=>⟨λhg=>?_,λhb=>e3 H3 (s12.trans s3) hm hn hb⟩];have s13:=s12.trans s3;erw[_,Z,h,dx,_,Z,(I.same s13).ih,Sk,_,Z,_,Z,_,Z,_,Z,_,Z,pe,ea,ov,Z,λhr1 hr2=>⟨aC,λt nt=>?_⟩,λhr1 hr2=>e5 H3 s13 hm hn hg hr1 hr2,λhr1=>e4 H3 s13 hm hn hg hr1];erw[h,dx,p,q0,r,is,kv,S,H,t,(y,m,none,eJ pe ea ov),Z,I,s13.trans<|ag.upd nt,s13.free nt,af,hdl,hkl,λz=>e6 _ (s13.trans<|ag.upd nt) hm hn hg hr1 hr2 z,λH' z1 z2 hN=>q H' hm hn hg hr1 hr2 z1 z2 hN]
inductive qL(a:Adr)(vs:qx V)(H:Hp)(Q:VK)(E:XK):Prop|mk(h:qA)(os:qx qA)(S:Sb)(y m b:va)(mo:u7)(_:vs=[.ref h,.str y,.str m,.str b,.int mo])(_:HI a.House H h os S)(_:y.cps.toList.length<=1000)(_:S.ms.length<=12)(_:S.ds.length<=24)(_:S.ks.length<=150)(_:∀H',ag H H'->(m∉av S\/b∉av S)->E (.ref a.Unknown) none H')(_:∀H',ag H H'->m∈av S->b∈av S->y∈aN S->E (.ref a.InUse) none H')(_:∀H',ag H H'->m∈av S->b∈av S->y∉aN S->dj y.cps.toList=false->E (.ref a.BadName) none H')(_:∀H',ag H H'->m∈av S->b∈av S->y∉aN S->dj y.cps.toList=true-> ¬(0<=mo/\mo<=99)->E (.ref a.BadNumber) none H')(_:∀H',ag H H'->m∈av S->b∈av S->y∉aN S->dj y.cps.toList=true->0<=mo/\mo<=99->(24<=S.ds.length\/150<=S.ks.length)->E (.ref a.Full) none H')(_:∀H',m∈av S->b∈av S->y∉aN S->dj y.cps.toList=true->0<=mo/\mo<=99->S.ds.length < 24->S.ks.length < 150->cq a.House H h os ⟨S.ms,S.ds++[(y,m,some b,mo)],S.ks++[(S.ms,S.ds)]⟩ H'->Q .non H')
theorem qE (T:Txt K mg a):SY P w K mg base 4 a.House "add_link" ["self","name","member","base","more"] (qL a):=by
 exists 1,g8,4,qv;obtain⟨h,os,S,y,m,b,mo,rfl,hI,hy,hml,hdl,hkl,e1,e2,e3,e4,e6,q⟩:=h;have hI0:=hI;obtain⟨dx,p,q0,r,is,kv,rfl,I⟩:=hI;erw[_,(ae (aO<|a6 (fH T:)<|aj dO<|R6<|bc (bI T:).x aT)<|ae (aO<|a6 (fH T:)<|aj eX<|R6<|bc (bI T:).x aT)<|ae (aO<|a6 (gL T:)<|aj bY<|R6<|bc (eB T:).x aT)<|ae (aO<|a6 (ky T:)<|aj gE<|R6<|gy T.zK)<|au<|aO<|cG (iM T:) aT<|R6<|bO<|aj bY<|aj dO<|aj eX<|R6 gE),?_];erw[_,Z,_,Z,h,dx,_,Z,I.ih,Sk,h,_,S,Z,hI0,Y,λpm H1 npm s1 hpm=>?_];erw[m,pm,av S,Z,R5.of hpm,λhm=>?_,λhm=>e1 H1 s1<|.inl hm];erw[_,Z,_,Z,h,dx,_,Z,(I.same s1).ih,Sk,h,_,S,Z,⟨dx,p,q0,r,is,kv,Z,I.same s1⟩,Y,λpb H1' npb s1' hpb=>?_];have s1:=s1.trans s1';erw[b,pb,av S,Z,R5.of hpb,λhb'=>?_,λhb'=>e1 H1' s1<|.inr hb'];erw[_,Z,_,Z,h,dx,_,Z,(I.same s1).ih,Sk,h,_,S,Z,⟨dx,p,q0,r,is,kv,Z,I.same s1⟩,Y,λpd H2 npd s2 hpd=>?_];have s12:=s1.trans s2;erw[y,pd,aN S,Z,R5.of hpd,hy,λhn=>e2 H2 s12 hm hb' hn,λH3 s3 hn=>⟨λhg=>?_,λhb=>e3 H3 (s12.trans s3) hm hb' hn hb⟩];have s13:=s12.trans s3;erw[_,Z,λa1 h1=>⟨mo,0,99,a1,Z,h1 _,λhr1=>?_,λhr1=>e4 H3 s13 hm hb' hn hg hr1⟩];erw[_,Z,h,dx,_,Z,(I.same s13).ih,Sk,_,Z,_,Z,_,Z,_,Z,aC,λt nt=>?_];erw[h,dx,p,q0,r,is,kv,S,H,t,(y,m,some b,mo),Z,I,s13.trans<|ag.upd nt,s13.free nt,af,hdl,hkl,λz=>e6 _ (s13.trans<|ag.upd nt) hm hb' hn hg hr1 z,λH' z1 z2 hN=>q H' hm hb' hn hg hr1 z1 z2 hN]
inductive lq(a:Adr)(vs:qx V)(H:Hp)(Q:VK)(E:XK):Prop|mk(h:qA)(os:qx qA)(S:Sb)(y:va)(_:vs=[.ref h,.str y])(_:HI a.House H h os S)(_:S.ds.length<=24)(_:S.ks.length<=150)(_:∀H',ag H H'->y∉aN S->E (.ref a.Unknown) none H')(_:∀H',ag H H'->y∈aN S->150<=S.ks.length->E (.ref a.Full) none H')(_:∀(H':Hp) (j:u6),(aN S)[j]?=some y->(∀m,m < j->(aN S)[m]?≠some y)->S.ks.length < 150->cq a.House H h os ⟨S.ms,S.ds.take j++S.ds.drop (j+1),S.ks++[(S.ms,S.ds)]⟩ H'->Q .non H')
theorem me (T:Txt K mg a):SY P w K mg base 4 a.House "strike_demand" ["self","name"] (lq a):=by
 exists 1,g8,9,ij;obtain⟨h,os,S,y,rfl,hI,hdl,hkl,e1,e3,q⟩:=h;have hI0:=hI;obtain⟨dx,p,q0,r,is,kv,rfl,I⟩:=hI;erw[_,(ae (R9 2 ij.nd (a6 (ik T:) (aj bY (R6 (bc (eB T:).x aT))))) (ae (aO (bc (d6 T:) aT)) (au (ie aT (aw fQ (dC (Tf K) (cw K aT) eD (eE dO)) (dC (Tf K) (cw K aT) (eE (aw bw dO aa)) eD)) rfl)))),?_];erw[_,Z,_,Z,h,dx,_,Z,I.ih,Sk,h,_,S,Z,hI0,Y,λpm H3 npm s2 hpm=>?_];erw[y,pm,aN S,Z,hpm,λj hj hjm=>?_,λhm=>e1 H3 s2 hm];have hm:y∈aN S:=NU hj;have I3:=I.same s2;obtain⟨pi,xs,hp,hX⟩:=I3.ds;have xl:=hX.length;erw[_,Z,h,dx,_,Z,I3.ih,Sk,h,dx,p,q0,r,is,kv,S,Z,I3,hkl,λz=>e3 _ s2 hm z,λz2 t nt=>?_];have I4:=I3.keep nt;have hp4:(upd (upd H3 t (.tup [.ref p,.ref q0])) r (.lst (kv++[.ref t]))) q0=some (.lst xs):=(ah (I3.sh pi).2.2).trans ((ah (az hp nt)).trans hp);dsimp only[aK,L2.start,x8];erw[_,Z,h,a.House,dx,_,.ref q0,Z,I4.ih,T.aV.cl,T.bg,ud,_,rfl,_,rfl,q0,xs,rfl,R5.of hp4,λc1 nc1=>?_];rw[pN];erw[_,Z,h,a.House,dx,_,.ref q0,Z,ag.upd nc1 _ _ I4.ih,T.aV.cl,T.bg,ud,_,rfl,_,_,rfl,rfl,_,rfl,q0,xs,rfl,R5.of (ag.upd nc1 _ _ hp4),λc2 nc2=>?_];rw[show (((j:u6):u7)+1)=((j+1:u6):u7) by lia,iA];show⟨c1,c2,_,_,Z,Z,ag.upd nc2 _ _ af,af,by rw[Oi,OY]; show OA (ay Y),λc3 nc3=>?_⟩;have s4:=((ag.upd (o:= .lst (xs.take j)) nc1).trans (ag.upd (o:= .lst (xs.drop (j+1))) nc2)).trans (ag.upd (o:= .lst (xs.take j++xs.drop (j+1))) nc3);have hc3:(upd (upd (upd (upd (upd H3 t (.tup [.ref p,.ref q0])) r (.lst (kv++[.ref t]))) c1 (.lst (xs.take j))) c2 (.lst (xs.drop (j+1)))) c3 (.lst (xs.take j++xs.drop (j+1)))) c3=some (.lst (xs.take j++xs.drop (j+1))):=af;have np3:=((ag.upd (o:= .lst (xs.take j)) nc1).trans (ag.upd (o:= .lst (xs.drop (j+1))) nc2)).free nc3;erw[_,Z,h,a.House,dx,_,Z,s4 _ _ I4.ih,T.aV.cl,T.bg,(by change 3 < 1000; decide),?_];rw[kM uw,jH];generalize upd (upd (upd (upd (upd H3 t (.tup [.ref p,.ref q0])) r (.lst (kv++[.ref t]))) c1 (.lst (xs.take j))) c2 (.lst (xs.drop (j+1)))) c3 (.lst (xs.take j++xs.drop (j+1)))=H4 at s4 hc3;have hold4:F2 (nT lA is H H4) xs S.ds:=hX.imp λv m ⟨b,e,bi,hb⟩=>⟨b,e,.inl bi,s4 _ _ ((ah (I3.sh bi).2.2).trans ((ah (az hb nt)).trans hb))⟩
 show q _ j hj hjm z2<|I.Ho s2 nt s4 (qg s2 nt np3) hc3<|(hold4.take j).append<|hold4.drop<|j+1
def bE (S:Sb):qx (rW u7):=S.ms.map (·.2)
inductive zd(C:qA)(vs:qx V)(H:Hp)(Q:VK)(_E:XK):Prop|mk(h:qA)(os:qx qA)(S:Sb)(_:vs=[.ref h])(_:HI C H h os S)(_:S.ms.length<=100)(_:∀(p:qA) (H':Hp),H p=none->ag H H'->H' p=some (.lst ((bE S).map dW))->Q (.ref p) H')
theorem cQ (T:Txt K mg a):TK P w K mg base 1 a.House "greatest_widths" ["self"] (zd a.House):=by
 exists 1,rz,14,lD;obtain⟨h,os,S,rfl,⟨dx,p,q0,r,is,kv,rfl,I⟩,hl,q⟩:=h;obtain⟨pi,xs,hp,hX⟩:=I.ms;have xl:=hX.length;erw[_,(aE<|eZ lM ["row"] [] [] (cS K<|cw K aT) λC s2 H2 fp=>(R8 K aT aa)),?_];erw[_,Z,h,a.House,dx,_,.ref p,Z,I.ih,T.aV.cl,T.aI,ud,p,rfl,⟨_,R5.of hp⟩,?_];show cH (xs:=xs) (λi ys H'=>H'=H/\ys=(S.ms.take i).map λm=>dW m.2) (λi ys H' _ h=>by rw[h.1]; show bf<|R5.of hp) ⟨Z,Z⟩ (ay Y) (λi ys H' h=>by rw[h.2,NR,Oi]; show OX _ _) ?_ ?_
 .rintro i ys H2 x hi ⟨rfl,rfl⟩;obtain⟨m,hm,t,rfl,_,ht⟩:=hX.get hi;dsimp only[aK,gG];show aW ⟨_,Z,t,_,_,_,Z,Z,Se.of ht,Z,Z,?_⟩;rw[Ov,hm,Od];rfl
 .rintro ys H2 p2 ⟨rfl,rfl⟩ np;show q p2 _ np (ag.upd np) ?_;rw[af,xl,OF];unfold bE;rw[OK];rfl
inductive Dh(a:Adr)(vs:qx V)(H:Hp)(Q:VK)(E:XK):Prop|mk(h dx p q r:qA)(is:qx qA)(kv:qx V)(S:Sb)(H0:Hp)(j:u6)(o:rW u7)(m:Mem)(_:vs=[.ref h,.int (j:u6),dW o])(_:Su a.House H0 h dx p q r is kv S)(_:ag H0 H)(_:S.ms[j]?=some m)(_:S.ms.length<=12)(_:S.ks.length<=150)(_:150<=S.ks.length->E (.ref a.Full) none H)(_:∀H',S.ks.length < 150->cq a.House H0 h (h::dx::r::is) ⟨S.ms.take j++[(m.1,o)]++S.ms.drop (j+1),S.ds,S.ks++[(S.ms,S.ds)]⟩ H'->Q .non H')
theorem jo (T:Txt K mg a):SY P w K mg base 3 a.House "change_top" ["self","place","top"] (Dh a):=by
 exists 1,g8,7,jk;obtain⟨h,dx,p,q0,r,is,kv,S,H0,j,o,m,rfl,I,s0,hj,hml,hkl,e,q⟩:=h;erw[_,(ae (aO<|bc (d6 T:) aT)<|ae (R9 3 jk.nd<|bO<|aj (R8 K (Sa K (cw K aT) bY) aa)<|R6 dO)<|au<|ie aT (aw fQ (aw fQ (dC (Tf K) (cw K aT) eD<|eE bY)<|aP<|R6 eX)<|dC (Tf K) (cw K aT) (eE<|aw bw bY aa) eD) rfl),?_];have I2:=I.same s0;obtain⟨pi,xs,hp,hX⟩:=I2.ms;have xl:=hX.length;erw[_,Z,h,dx,_,Z,I2.ih,Sk,h,dx,p,q0,r,is,kv,S,Z,I2,hkl,λz=>e z,λz2 t nt=>?_];have I3:=I2.keep nt;have hp3:(upd (upd H t<|.tup [.ref p,.ref q0]) r<|.lst<|kv++[.ref t]) p=some (.lst xs):=(ah (I2.sh pi).2.2).trans<|(ah<|az hp nt).trans hp;have hX3:F2 (nT pf is H0<|upd (upd H t<|.tup [.ref p,.ref q0]) r<|.lst<|kv++[.ref t]) xs S.ms:=hX.imp λv m ⟨b,e,bi,hb⟩=>⟨b,e,.inl bi,(ah (I2.sh bi).2.2).trans<|(ah<|az hb nt).trans hb⟩
 have fr: ∀ {b:qA},(upd (upd H t<|.tup [.ref p,.ref q0]) r<|.lst<|kv++[.ref t]) b=none->H0 b=none:=λz=>qg s0 nt z;obtain⟨H3,e3⟩: ∃H3,H3=upd (upd H t<|.tup [.ref p,.ref q0]) r (.lst<|kv++[.ref t]):=⟨_,Z⟩
 have deed:=λ{H4:Hp}=>@Su.BU a.House h dx p q0 r H0 is kv S I H s0 t nt H4;rw[<-e3] at I3 hp3 hX3 fr deed ⊢;obtain⟨v,hv,tm,rfl,_,htm⟩:=hX3.at' hj;erw[_,Z,h,a.House,dx,_,.ref p,Z,I3.ih,T.aV.cl,T.aI,ud,_,rfl,p,_,_,_,rfl,rfl,R5.of hp3,aU hv,tm,_,_,_,rfl,rfl,Se.of htm,rfl,_,rfl,aC,λt2 nt2=>?_];have s4:=ag.upd (o:= .tup [.str m.1,dW o]) nt2;have ht4:(upd H3 t2 (.tup [.str m.1,dW o])) t2=some (.tup (pf (m.1,o))):=af;dsimp only[aK,L2.start,x8];generalize upd H3 t2 (.tup [.str m.1,dW o])=H4 at s4 ht4;erw[_,Z,h,a.House,dx,_,.ref p,Z,s4 _ _ I3.ih,T.aV.cl,T.aI,ud,_,rfl,_,rfl,p,xs,rfl,R5.of (s4 _ _ hp3),λc1 nc1=>?_];rw[pN];have s5:=ag.upd (o:= .lst (xs.take j)) nc1;have hc1:(upd H4 c1 (.lst (xs.take j))) c1=some (.lst (xs.take j)):=af;generalize upd H4 c1 (.lst (xs.take j))=H5 at s5 hc1;erw[_,Z,aC,λl nl=>?_];have s6:=ag.upd (o:= .lst [.ref t2]) nl;have hl6:(upd H5 l (.lst [.ref t2])) l=some (.lst [.ref t2]):=af;generalize upd H5 l (.lst [.ref t2])=H6 at s6 hl6;show⟨c1,l,_,_,Z,Z,s6 _ _ hc1,hl6,by rw[Oi]; show OA (ay (by change min j xs.length+1<=1000; lia)),λc2 nc2=>?_⟩;have s7:=ag.upd (o:= .lst (xs.take j++[.ref t2])) nc2;have hc2:(upd H6 c2 (.lst (xs.take j++[.ref t2]))) c2=some (.lst (xs.take j++[.ref t2])):=af;generalize upd H6 c2 (.lst (xs.take j++[.ref t2]))=H7 at s7 hc2;have s47:=(s5.trans s6).trans s7;erw[_,Z,h,a.House,dx,_,.ref p,Z,s47 _ _ (s4 _ _ I3.ih),T.aV.cl,T.aI,ud,_,rfl,_,_,rfl,rfl,_,rfl,p,xs,rfl,R5.of (s47 _ _ (s4 _ _ hp3)),λc3 nc3=>?_];rw[show (((j:u6):u7)+1)=((j+1:u6):u7) by lia,iA];have s8:=ag.upd (o:= .lst (xs.drop (j+1))) nc3;have hc3:(upd H7 c3 (.lst (xs.drop (j+1)))) c3=some (.lst (xs.drop (j+1))):=af;generalize upd H7 c3 (.lst (xs.drop (j+1)))=H8 at s8 hc3;show⟨c2,c3,_,_,Z,Z,s8 _ _ hc2,hc3,by rw[N1,Oi,OY]; show OA (ay (by change min j xs.length+1+(xs.length - (j+1))<=1000; lia)),λc4 nc4=>?_⟩;have s9:=ag.upd (o:= .lst (xs.take j++[.ref t2]++xs.drop (j+1))) nc4;have hc4:(upd H8 c4 (.lst (xs.take j++[.ref t2]++xs.drop (j+1)))) c4=some (.lst (xs.take j++[.ref t2]++xs.drop (j+1))):=af;generalize upd H8 c4 (.lst (xs.take j++[.ref t2]++xs.drop (j+1)))=H9 at s9 hc4;have s48:=s47.trans s8;have s49:=s48.trans s9;have s39:=s4.trans s49;erw[_,Z,h,a.House,dx,_,Z,s39 _ _ I3.ih,T.aV.cl,T.aI,(by change 3 < 1000; decide),?_];rw[jH];have hold:F2 (nT pf is H0 H9) xs S.ms:=hX3.imp λv m ⟨b,e,bi,hb⟩=>⟨b,e,bi,s39 _ _ hb⟩
 show q _ z2<|deed s39 (fr<|(s4.trans s48).free nc4) hc4<|((hold.take j).append<|.cons ⟨t2,Z,.inr<|fr nt2,s49 _ _ ht4⟩ .nil).append<|hold.drop<|j+1
inductive tV(a:Adr)(vs:qx V)(H:Hp)(Q:VK)(E:XK):Prop|mk(h:qA)(os:qx qA)(S:Sb)(m:va)(wd:u7)(_:vs=[.ref h,.str m,.int wd])(_:HI a.House H h os S)(_:S.ms.length<=12)(_:S.ks.length<=150)(_:∀H',ag H H'->m∉av S->E (.ref a.Unknown) none H')(_:∀(j:u6) (o:rW u7),(av S)[j]?=some m->(∀i,i < j->(av S)[i]?≠some m)->S.ms[j]?=some (m,o)->(∀H',ag H H'->o≠none->E (.ref a.InUse) none H')/\(∀H',ag H H'->o=none-> ¬(0<=wd/\wd<=99999)->E (.ref a.BadNumber) none H')/\(∀H',ag H H'->o=none->0<=wd/\wd<=99999->150<=S.ks.length->E (.ref a.Full) none H')/\(∀H',o=none->0<=wd/\wd<=99999->S.ks.length < 150->cq a.House H h os ⟨S.ms.take j++[(m,some wd)]++S.ms.drop (j+1),S.ds,S.ks++[(S.ms,S.ds)]⟩ H'->Q .non H'))
variable{S:Sb}{j:u6}
theorem ET {m:va}(h:(av S)[j]?=some m): ∃o,S.ms[j]?=some (m,o):=by
 unfold av at h;rw[N7] at h;cases e:S.ms[j]? with
 | none=>rw[e] at h; cases h
 | some x=>rw[e] at h; obtain⟨m',o⟩:=x; cases h; erw[o,Z]
theorem Am {m:va}{o:rW u7}(h:S.ms[j]?=some (m,o)):Si ((bE S).map dW) (j:u6)=some (dW o):=aU (by unfold bE; rw[N7,N7,h]; rfl)
theorem rg (T:Txt K mg a):SY P w K mg base 4 a.House "set_top" ["self","member","width"] (tV a):=by
 exists 1,g8,6,lK;obtain⟨h,os,S,m,wd,rfl,hI,hml,hkl,e1,k⟩:=h;have hI0:=hI;obtain⟨dx,p,q0,r,is,kv,rfl,I⟩:=hI;erw[_,(ae (R9 3 lK.nd<|a6 (ik T:)<|aj bY<|R6<|bc (bI T:).x aT)<|ae (aB (aA iQ (Sa K (bc (cQ T:).x aT) eX) cM) (au<|dU T.mw rfl<|R6 aq) ax)<|ae (aO<|a6 (ky T:)<|aj dO<|R6<|gy T.zS)<|au<|aO<|cG (jo T:) aT<|aj eX<|R6 dO),?_];erw[_,Z,_,Z,h,dx,_,Z,I.ih,Sk,h,_,S,Z,hI0,Y,λpm H1 npm s1 hpm=>?_];erw[m,pm,av S,Z,hpm,λj hj hjm=>?_,λhm=>e1 H1 s1 hm];obtain⟨o,ho⟩:=ET hj;obtain⟨k1,k2,k3,k4⟩:=k j o hj hjm ho;erw[_,Z,h,dx,_,Z,(I.same s1).ih,Sk,h,_,S,Z,⟨dx,p,q0,r,is,kv,Z,I.same s1⟩,Y,λpg H2 npg s2 hpg=>?_];have s12:=s1.trans s2;erw[_,Z,pg,_,_,_,Z,Z,R5.of hpg,Am ho,Z,_,Z,?_];cases o with
 | some c=>show aW ⟨aS,k1 H2 s12 (by intro z; cases z)⟩
 | none =>
  show aM ⟨_,Z,λa1 h1=>⟨wd,0,99999,a1,Z,h1 _,λhr1=>?_,λhr1=>k2 H2 s12 rfl hr1⟩⟩;erw[_,Z,h,dx,_,Z,(I.same s12).ih,Sk,_,Z,_,Z,h,dx,p,q0,r,is,kv,S,H,j,some wd,(m,none),Z,I,s12,ho,hml,hkl,λz=>k3 H2 s12 rfl hr1 z,λH' z hN=>k4 H' rfl hr1 z hN]
inductive oz(a:Adr)(vs:qx V)(H:Hp)(Q:VK)(E:XK):Prop|mk(h:qA)(os:qx qA)(S:Sb)(m:va)(_:vs=[.ref h,.str m])(_:HI a.House H h os S)(_:S.ms.length<=12)(_:S.ks.length<=150)(_:∀H',ag H H'->m∉av S->E (.ref a.Unknown) none H')(_:∀(j:u6) (o:rW u7),(av S)[j]?=some m->(∀i,i < j->(av S)[i]?≠some m)->S.ms[j]?=some (m,o)->(∀H',ag H H'->o=none->E (.ref a.Unknown) none H')/\(∀H',ag H H'->o≠none->150<=S.ks.length->E (.ref a.Full) none H')/\(∀H',o≠none->S.ks.length < 150->cq a.House H h os ⟨S.ms.take j++[(m,none)]++S.ms.drop (j+1),S.ds,S.ks++[(S.ms,S.ds)]⟩ H'->Q .non H'))
theorem oB (T:Txt K mg a):SY P w K mg base 4 a.House "strike_top" ["self","member"] (oz a):=by
 exists 1,g8,10,jq;obtain⟨h,os,S,m,rfl,hI,hml,hkl,e1,k⟩:=h;have hI0:=hI;obtain⟨dx,p,q0,r,is,kv,rfl,I⟩:=hI;erw[_,(ae (R9 2 jq.nd<|a6 (ik T:)<|aj bY<|R6<|bc (bI T:).x aT)<|ae (aB (aA lg (Sa K (bc (cQ T:).x aT) dO) cM) (au<|dU T.l5 rfl<|R6 aq) ax)<|au<|aO<|cG (jo T:) aT<|aj dO<|R6 cM),?_];erw[_,Z,_,Z,h,dx,_,Z,I.ih,Sk,h,_,S,Z,hI0,Y,λpm H1 npm s1 hpm=>?_];erw[m,pm,av S,Z,hpm,λj hj hjm=>?_,λhm=>e1 H1 s1 hm];obtain⟨o,ho⟩:=ET hj;obtain⟨k1,k3,k4⟩:=k j o hj hjm ho;erw[_,Z,h,dx,_,Z,(I.same s1).ih,Sk,h,_,S,Z,⟨dx,p,q0,r,is,kv,Z,I.same s1⟩,Y,λpg H2 npg s2 hpg=>?_];have s12:=s1.trans s2;erw[_,Z,pg,_,_,_,Z,Z,R5.of hpg,Am ho,Z,_,Z,?_];cases o with
 | none=>show aW ⟨aS,k1 H2 s12 rfl⟩
 | some c =>
  have nn:(some c:rW u7)≠none:=by intro z; cases z
  show aM ⟨_,Z,h,dx,_,Z,(I.same s12).ih,Sk,_,Z,h,dx,p,q0,r,is,kv,S,H,j,none,(m,some c),Z,I,s12,ho,hml,hkl,λz=>k3 H2 s12 nn z,λH' z hN=>k4 H' nn z hN⟩
variable{H:Hp}
theorem uv {b:qA}{o o':HO}:upd (upd H b o) b o'=upd H b o':=by
 funext c;by_cases e:c=b;.rw[e,af,af]
 .rw[ah e,ah e,ah e]
inductive Af(a:Adr)(vs:qx V)(H:Hp)(Q:VK)(E:XK):Prop|mk(h:qA)(os:qx qA)(S:Sb)(_:vs=[.ref h])(_:HI a.House H h os S)(_:S.ks.length<=150)(_:S.ks=[]->E (.ref a.NothingBack) none H)(_:∀(H':Hp) (ks:qx (qx Mem×qx Sn)) (k:qx Mem×qx Sn),S.ks=ks++[k]->cq a.House H h os ⟨k.1,k.2,ks⟩ H'->Q .non H')
theorem pC (T:Txt K mg a):SY P w K mg base 1 a.House "take_back" ["self"] (Af a):=by
 exists 1,g8,11,jQ;obtain⟨h,os,S,rfl,⟨dx,p,q0,r,is,kv,rfl,I⟩,hkl,e,q⟩:=h;have kl:=I.ks.length;erw[_,(ae (aB (aA aR (c5 K T.bZ<|cw K aT) aa) (au<|dU T.j8 rfl<|R6 aq) ax)<|ae (R9 1 jQ.nd<|show PE _ _ (Be K _ _ _) from x5 OE Qz QA CI<|cw K aT) (ae (ie aT (R8 K bY aa) rfl)<|au<|ie aT (R8 K bY aa) rfl)),?_];erw[_,Z,h,a.House,dx,_,.ref r,Z,I.ih,T.aV.cl,T.eu,ud,_,_,rfl,.inl ⟨_,R5.of I.ir,rfl⟩,rfl,_,rfl,?_];rcases Qw S.ks with hk | ⟨ks,k,hk⟩
 .rw[hk] at kl;rw[show kv=[] from QT.mp kl];show aW ⟨aS,e hk⟩
 .have hk:S.ks=ks++[k]:=by rw[hk,Qx]
  obtain⟨kv',t,p',q',ek,ht,tr,th,hN⟩:=I.back hk;have l0:kv.length≠0:=by rw[ek]; simp
  rw[show decide (V.int (kv.length:u6)=V.int 0)=false from N8 λz=>l0 (by have:=V.int.inj z; lia)];show aM ⟨_,Z,h,a.House,dx,_,.ref r,Z,I.ih,T.aV.cl,T.eu,ud,.inl ⟨rfl,_,R5.of I.ir⟩,r,kv,.ref t,rfl,rfl,I.ir,by rw[ek]; simp,?_⟩;rw[show kv.dropLast=kv' from by rw[ek]; simp];have ht2:(upd H r<|.lst kv') t=some (.tup [.ref p',.ref q']):=(ah tr).trans ht;have hh2:(upd H r<|.lst kv') h=some (.ins a.House dx<|lV p q0 r):=(ah<|Ox I.n2).trans I.ih;dsimp only[aK,L2.start,x8];erw[_,Z,t,_,_,_,Z,Z,Se.of ht2,Z,_,Z,h,a.House,dx,_,Z,hh2,T.aV.cl,T.aI,(by change 3 < 1000; decide),?_];rw[jH];erw[_,Z,t,_,_,_,Z,Z,Se.of<|(ah th).trans ht2,Z,_,Z,h,a.House,dx,_,Z,af,T.aV.cl,T.bg,(by change 3 < 1000; decide),?_];rw[kM uw,jH,uv];show q _ ks k hk hN
theorem nB (T:Txt K mg a):Sj P w K mg base 1 "is_link" ["rule"] (Bh K):=by
 exists 0,bH,1,Bk;obtain⟨v,q,rfl,⟨p,rfl,hp⟩,k⟩:=h;erw[_,(aE<|dH kC (R8 K aT aa)<|jt T.pO),?_];erw[_,Z,p,_,_,_,Z,Z,hp,Z,Z,?_];rw[show decide (V.int q.2.1=V.int (-1))=decide (q.2.1= -1) from by simp];show k
theorem yd (T:Txt K mg a):Sj P w K mg base 2 "asked_width" ["rule","widths"] (F4 K):=by
 exists 0,bH,2,uS;obtain⟨v,q,w,ws,rfl,⟨p,rfl,hp⟩,hw,hk,k⟩:=h;erw[_,(ae (aB (eR K<|aF (nB T:)<|R6 aT) (aE<|aw bw (Sa K bY<|R8 K aT aa)<|R8 K aT aa) ax)<|aE<|R8 K aT aa),?_];erw[_,Z,_,q,Z,⟨p,Z,hp⟩,_,Z,?_];unfold MA.ask at k;show bh (λc=>?_) λc=>?_
 .have c: ¬q.2.1= -1:=by simpa using c
  rw[NS c] at k;obtain⟨_,_,h3,h4,_⟩:=hk;erw[_,Z,_,Z,p,_,_,_,Z,Z,hp,Z,w,_,_,_,Z,Z,hw,cI Y h4,_,Z,p,_,_,_,Z,Z,hp,Z,_,_,Z,Z,k]
 .have c:q.2.1= -1:=by simpa using c
  rw[NW c] at k;erw[_,Z,p,_,_,_,Z,Z,hp,Z,k]
variable{rs:qx MA.ao}{ws:qx u7}{i:u6}{q:MA.ao}
theorem B1(h:rs[i]?=some q):bQ (rs.take (i+1)) ws=dJ (bQ (rs.take i) ws) q:=by
 unfold bQ;rw[Ov,h,Pg];rfl
theorem B4 (T:Txt K mg a):Sj P w K mg base 3 "widened" ["rules","widths"] (Bt K):=by
 exists 0,bH,3,nz;obtain⟨r,rs,w,ws,rfl,⟨xs,hx,hX⟩,hw,hk,k⟩:=h;erw[_,(ae (R9 2 nz.nd<|bC (show cJ _ _ (pS K) from kh) uK T.sR boot_list (R6 bY)) (ae (cY (cS K aT) (gn 3 nz.nd)<|au<|fj (bR (iW rfl) uK T.lQ boot_max<|aj (Sa K dO<|R8 K eX aa)<|R6<|aF (yd T:)<|aj eX<|R6 dO)<|h9 dO (R8 K eX aa) set_list)<|aE dO)),?_];erw[_,Z,w,_,Z,.inl hw,λl hl=>?_];erw[_,Z,r,Z,⟨_,(ag.upd hl).seq hx⟩,?_];show cA (xs:=xs) (λi O' H'=> ∃v,O'=[uo r,uo w,uo l,v]/\ag H H'/\H' l=some (.lst<|(bQ (rs.take i) ws).map V.int)) ⟨none,Z,ag.upd hl,af⟩ (λi O' H' _ ⟨_,_,sm,_⟩=>bf<|sm.seq hx) ?_ ?_
 .rintro i x O' H' hi ⟨v,rfl,sm,hl'⟩;obtain⟨q,hq,p,rfl,hp⟩:=hX.get hi;have kq:Sh ws.length q:=hk q<|NU hq;have hlen:(bQ (rs.take i) ws).length=ws.length:=MA.fV _ _;have hp':=sm.fZ hp;erw[_,Z,_,Z,p,_,_,_,Z,Z,hp',Z,l,_,_,_,Z,Z,R5.of hl',cI kq.1 (by rw[hlen]; show kq.2.1),?_];show⟨_,Z,_,Z,_,q,l,_,Z,⟨p,Z,hp'⟩,R5.of hl',by rw[hlen]; show kq,?_⟩;show⟨_,_,Z,_,Z,_,Z,p,_,_,_,Z,Z,hp',Z,l,_,_,_,Z,Z,hl',by rw[NR,hlen]; show h8 kq.1 kq.2.1,?_⟩;erw[some<|.ref p,Z,sm.cT hl,?_];rw[af,B1 hq,<-Qy];rfl
 .rintro O' H' ⟨v,rfl,sm,hl'⟩;rw[hX.length,OF] at hl';erw[_,Z,k l H' hl sm hl']
theorem iG (T:Txt K mg a):Sj P w K mg base 4 "least_widths" ["count","rules"] (FW K):=by
 exists 0,bH,4,ft;obtain⟨n,r,rs,rfl,hn,hR,hk,k1,k2⟩:=h;erw[_,(ae (R9 2 ft.nd<|aw mG (aP<|R6 aa) aT)<|ae (cY (fB T.cx<|aw bw aT aa) (gn 3 ft.nd)<|ae (R9 4 ft.nd<|aF (B4 T:)<|aj bY<|R6 dO)<|ae (aB (aA (show So _ _ (Gi K) from DQ<|dB hr) gE dO) (aE dO) ax) (au<|R9 2 ft.nd gE)) (aE cM)),?_];erw[aC,λl0 n0=>?_];show⟨_,Z,l0,_,_,Z,Z,af,Y,Y,by change 1*(n:u7).toNat<=sizeLine; rw[Oa,R0]; show Ob hn aS,λl nl=>?_⟩;erw[_,Z,_,_,Z,Z,_,Z,Y,Y,?_];have e1:((n:u7)+1).toNat=n+1:=Y;rw[e1];show cA (xs:=cf 0<|n+1) (λi O' H'=> ∃p ws v3 v4,O'=[some<|.int n,uo r,uo p,v3,v4]/\H p=none/\ag H H'/\H' p=some (.lst<|ws.map V.int)/\ws.length=n/\aZ n rs=loop rs (n+1 - i) ws) ?_ (λi O' H' _ _=>cj) ?_ ?_
 .show⟨l,wo n 0,none,none,Z,(ag.upd n0).free nl,(ag.upd n0).trans<|ag.upd nl,?_,uD,Z⟩;rw[af,Oa];simp
 .rintro i x O' H' hi ⟨p,ws,v3,v4,rfl,np,sm,hp,hl,e⟩;obtain⟨hi,rfl⟩:=bU hi;rw[show n+1 - i=(n - i)+1 by lia] at e;unfold loop at e;show⟨_,Z,_,Z,r,rs,p,ws,Z,hR.same sm,R5.of hp,by rw[hl]; show hk,λp2 H2 np2 sm2 hp2=>?_⟩;erw[_,Z,_,Z,p2,p,_,ws,Z,Z,R5.of hp2,R5.of<|sm2 _ _ hp,_,Z,?_];show bh (λc=>?_) λc=>?_
  .rw[NW<|Oc c] at e;erw[_,Z,k2 p ws H2 np (sm.trans sm2) e<|sm2 _ _ hp]
  .rw[NS<|Ou<|Om _▸c] at e;erw[_,Z,p2,bQ rs ws,_,_,Z,sm.free np2,sm.trans sm2,hp2,(MA.fV _ _).trans hl,?_];rw[show n+1 - (i+1)=n - i by lia];show e
 .rintro O' H' ⟨p,ws,v3,v4,rfl,np,sm,hp,hl,e⟩;rw[bN,RU] at e;show k1 H' sm e
def xk (rs:qx MA.ao) (s g:u7):Prop:= ∃S:u7->Prop,S s/\ ¬S g/\ ∀r∈rs,0<=r.2.1->S r.2.1->S r.1
inductive y7(K:R7)(vs:qx V)(H:Hp)(Q:VK)(_E:XK):Prop|mk(r:qA)(rs:qx MA.ao)(n:u6)(s g:u7)(_:vs=[.ref r,.int s,.int g])(_:SU K H r rs)(_:∀q∈rs,Sh n q)(_:n<=100)(_:0<=s)(_:s < n)(_:∀H',ag H H'->xk rs s g->Q .non H')(_:∀(H':Hp) (a:qA) (ps:qx u6),ag H H'->H' a=some (.lst (aJ ps))->ps.length<=100->MA.Path rs s g ps->(s::MA.Sm rs ps).Nodup->Q (.ref a) H')
theorem zC (T:Txt K mg a):Sj P w K mg base 1 "find_way" ["rules","start","goal"] (y7 K):=by
 exists 0,bH,14,gw;obtain⟨r,rs,n,s,g,rfl,⟨xs,hx,hX⟩,hk,hn,hs0,hs1,k1,k2⟩:=h;erw[_,(ae (R9 3 gw.nd<|AF (xX bY (aP b8) AK) rfl rfl (by intro z; cases z) aS)<|ae (R9 4 gw.nd<|aP<|R6 bY)<|ae (m9 QK (PW.pt<|cv (eR K gE)<|cg<|oX (pP (dB hr) dO eX) (by with_unfolding_all rfl))<|ae (R9 5 gw.nd<|show PE _ _ (SS K _ _ _ _) from c7 OE Qz QA xM gE<|R6 aa) (au<|cY (kP rfl T.gA<|R6 aT) (dI rfl<|aQ (gn 6 gw.nd)<|aQ (gn 7 gw.nd) de)<|au<|aB (PW.pt<|cv (aA aR (R8 K iN aa) gT)<|cg<|oX (pP (dB hr) (R8 K iN aa) eX) (by with_unfolding_all rfl)) (ae (ur (dB hr) eX (R8 K iN aa) (aw fQ (mE (dB hr) eX gT λ_ _=>rfl)<|aP<|R6 iF) rfl)<|au<|aO<|fR K gE<|R8 K iN aa) ax)) (aE<|rB (dB hr) eX dO (by constructor <;> first | rfl | (intros; rfl)))),?_];show λd nd=>⟨_,Z,aS,λl0 nl0=>⟨(ah<|az af nl0).trans af,[(xf s,.ref l0)],Z,by change 1<=15; decide,?_⟩⟩
 erw[_,Z,aC,λq nq=>?_];have em:kW [] [(xf s,V.ref l0)]=[((xf s:Key),V.ref l0)]:=rfl;rw[em] at nq ⊢;have nq1:q≠d:=λz=>by rw[z,af] at nq; cases nq
 have nq2:(upd (upd H d<|.dK []) l0<|.lst []) q=none:=by rw[ah nq1] at nq; show nq
 have ld:l0≠d:=λz=>by rw[z,af] at nl0; cases nl0
 have nl1:H l0=none:=by rw[ah ld] at nl0; show nl0
 have ql:q≠l0:=λz=>by rw[z,af] at nq2; cases nq2
 have nq0:H q=none:=by rw[ah ql,ah nq1] at nq2; show nq2
 have v1: ∀j:u7,aY [((xf s:Key),V.ref l0)] (xf j)=if j=s then some (.ref l0) else none:=λj=>by
  by_cases e:j=s;.rw[NW e,e]; show dr rfl
  .rw[NS e,cZ λz=>e (QY z).symm]; rfl
 have h1: ∀j:u7,has [((xf s:Key),V.ref l0)] j↔j=s:=λj=>by
  unfold has;rw[v1];by_cases e:j=s <;> simp[e]
 have b0:Bf H (upd (upd (upd (upd H d<|.dK []) l0<|.lst []) d<|.dK [((xf s:Key),V.ref l0)]) q<|.lst [.int s]) n rs s d q [((xf s:Key),V.ref l0)] [s] (λ_=>zh):=by
  erw[(ah<|Ox nq1).trans af,af,?_,nd,nq0,λj hj=>?_,λj v hj=>?_,(h1 s).mpr rfl,λm hm=>(h1 m).mpr<|NZ.mp hm,λj hj hw=>wz (NZ.mpr<|(h1 j).mp hj) hw,?_];.exact ((((ag.upd nd).trans<|ag.upd nl0).cT nd).cT nq0)
  .rw[(h1 j).mp hj]; erw[hs0,hs1]
  .rw[v1] at hj;by_cases e:j=s
   .rw[NW e] at hj;cases hj;rw[e];erw[l0,[],Z,?_,Ox ql,.nil,OS.mpr ⟨OG,Qi⟩,λx hx=>(h1 x).mpr<|NZ.mp hx,N0 _];rw[ah<|Ox ql,ah ld,af];rfl
   .rw[NS e] at hj; cases hj
  .have:=kN (n:=n) (kvs:=[]) (k:=s) (v:=V.ref l0) hs0 hs1 (by unfold has; simp[E5]);have e:putK ([]:Sx) (xf s) (V.ref l0)=[((xf s:Key),V.ref l0)]:=rfl;rw[e] at this;have t:kj n []<=n:=by
    have:=MA.tL (wx n) (λi=>if (aY ([]:Sx)<|xf ((i:u6):u7)).isSome then 0 else 1) (λ_=>1) λi _=>by change (if _ then 0 else 1)<=1; split <;> lia
    rw[MA.ones] at this;show this
   change 1+_<=n;lia
 dsimp only[aK,L2.start,x8];generalize upd (upd (upd (upd H d (.dK [])) l0 (.lst [])) d (.dK [((xf s:Key),V.ref l0)])) q (.lst [.int s])=H1 at b0;erw[λm O' H'=> ∃(kvs:Sx) (ws:qx u7) (v5 v6 v7:rW V),O'=[uo r,some (.int s),some (.int g),uo d,uo q,v5,v6,v7]/\Bf H H' n rs s d q kvs ws (λ_=>zh)/\ws.length+kj n kvs<=m/\m<=100,⟨_,_,_,none,none,none,Z,b0,N0 _,Ob b0.cn hn⟩,?_];rintro m O' H' ⟨kvs,ws,v5,v6,v7,rfl,b,hm,hm100⟩;have fin:(ws=[]\/has kvs g)->(GR (CH (oO 3) (oO 2))) { nx:=λ_ H'=>Q .non H',rt:=Q } [uo r,some (.int s),some (.int g),uo d,uo q,v5,v6,v7] H':=λhend=>by
  erw[_,Z,d,Z,.inl ⟨kvs,.inl b.hd⟩,_,Z,_,dz.k (k:=xf g) b.hd,?_];cases hv:aY kvs (xf g) with
  | some v =>
   obtain⟨a,ps,rfl,ha,_,hp,SH,_,hl⟩:=b.val g v hv;have:=b.cn;show k2 H' a ps b.sm ha Y hp SH
  | none =>
   have hg: ¬has kvs g:=(by unfold has; rw[hv]; simp);have hw:ws=[]:=hend.resolve_right hg;show k1 H' b.sm ⟨has kvs,b.st,hg,λrl hrl _ h=>b.cl _ h (by rw[hw]; show OG) (λz=>z) rl hrl rfl⟩
 erw[_,Z,_,.inl ⟨_,R5.of b.hq,Z⟩,?_];cases ws with
 | nil=>show aM (aM (fin (.inl rfl)))
 | cons mb ws =>
 show aW ⟨_,Z,_,Z,d,_,Z,dz.k (k:=xf g) b.hd,_,Z,?_⟩;cases hv:aY kvs (xf g) with
 | some v=>show aM (fin (.inr (by unfold has; rw[hv]; rfl)))
 | none =>
 show aW ?_;clear hv fin;have hmb:has kvs mb:=b.wk mb<|N6;have bp:=b.pop λ_ z=>z;show nJ λD1 nxW=>?_;show⟨_,Z,.inl ⟨Z,_,R5.of b.hq⟩,q,_,_,0,.int mb,Z,Z,b.hq,aS,aS,by unfold seqIndex?; simp,Z,?_⟩;have hm':ws.length+kj n kvs < m:=by
  have:(mb::ws).length=ws.length+1:=rfl;lia
 have ee:((mb::ws).map V.int).eraseIdx 0=ws.map V.int:=rfl;rw[ee];clear ee;dsimp only[aK,x8];generalize upd H' q (.lst (ws.map V.int))=H2 at bp;clear b hm;erw[_,Z,r,Z,⟨_,bp.sm.seq hx⟩,?_];show nA (xs:=xs) (λi O' H'=> ∃(kvs:Sx) (ws:qx u7) (v6 v7:rW V),O'=[uo r,some (.int s),some (.int g),uo d,uo q,some (.int mb),v6,v7]/\Bf H H' n rs s d q kvs ws (λk=>k=mb)/\has kvs mb/\ws.length+kj n kvs < m/\ ∀(j:u6) (rl:MA.ao),j < i->rs[j]?=some rl->rl.2.1=mb->has kvs rl.1) ⟨kvs,ws,v6,v7,Z,bp,hmb,hm',λj _ hj=>wz hj (OU _)⟩ (λi O' H' _ ⟨_,_,_,_,_,bb,_⟩=>bb.sm.seq hx) ?_ ?_
 .clear bp hmb hm' kvs ws;rintro i x O' H' t hi ⟨kvs,ws,v6,v7,rfl,b,hmb,hm',hdn⟩ nt;obtain⟨rl,hq,ta,rfl,hta⟩:=hX.get hi;obtain⟨o1,o2,o3,o4,o5⟩:=hk rl (NU hq);have b1:=b.grow (ag.upd (o:= .tup [.int (i:u6),.ref ta]) nt);erw[t,_,Z,Se.of af,Z,_,_,Z,_,_,Z,Z,?_];have hta1:=b1.sm.fZ hta;generalize upd H' t (.tup [.int (i:u6),.ref ta])=H1' at b1 hta1;clear b nt;have skip:(rl.2.1=mb->has kvs rl.1)-> ∀(j:u6) (r':MA.ao),j < i+1->rs[j]?=some r'->r'.2.1=mb->has kvs r'.1:=λhh j r' hj hr' hb'=>by
   by_cases e:j=i
   .subst e;rw[hq] at hr';cases hr';show hh hb'
   .exact hdn j r' Y hr' hb'
  erw[_,Z,ta,_,_,_,Z,Z,hta1,Z,_,Z,Z,_,Z,?_];show bh (λc=>?_) λc=>?_;rotate_left
  .have c: ¬rl.2.1=mb:=by simpa using c
   show aM ⟨kvs,ws,_,_,Z,b1,hmb,hm',skip λz=>wz z c⟩
  have c:rl.2.1=mb:=by simpa using c
  erw[_,Z,ta,_,_,_,Z,Z,hta1,Z,_,Z,d,_,Z,dz.k (k:=xf rl.1) b1.hd,_,Z,?_];by_cases hh:has kvs rl.1
  .rw[show (!(aY kvs<|xf rl.1).isSome)=false from by rw[show (aY kvs<|xf rl.1).isSome=true from hh]; rfl];show aM ⟨kvs,ws,_,_,Z,b1,hmb,hm',skip λ_=>hh⟩
  .rw[show (!(aY kvs<|xf rl.1).isSome)=true from by rw[show (aY kvs<|xf rl.1).isSome=false from by simpa [has] using hh]; rfl];show aW ?_;obtain⟨vm,hvm⟩:=Qj.mp<|show (aY kvs<|xf mb).isSome=true from hmb;obtain⟨a,ps,rfl,ha,naq,hp,SH,hall,hl⟩:=b1.val mb vm hvm;have hcn:=b1.cn;erw[_,Z,_,Z,d,.ref a,Z,hvm▸dz.k (k:=xf mb) b1.hd,_,Z,aC,λl1 nl1=>?_];have b2:=b1.grow<|ag.upd (o:= .lst [.int (i:u6)]) nl1;have ha2:=ag.upd (o:= .lst [.int (i:u6)]) nl1 _ _ ha;erw[a,l1,aJ ps,[.int (i:u6)],Z,Z,ha2,af,?_,λp np=>?_]
   .rw[show (aJ ps).length=ps.length from NR ..];change ps.length+1<=sizeLine;show OA<|ay Y
   have b3:=b2.grow<|ag.upd (o:= .lst<|aJ ps++[.int (i:u6)]) np;have ha3:=ag.upd (o:= .lst<|aJ ps++[.int (i:u6)]) np _ _ ha2;have hta3:=(((ag.upd (o:= .lst [.int (i:u6)]) nl1).trans<|ag.upd (o:= .lst<|aJ ps++[.int (i:u6)]) np).fZ hta1)
   have hpp:(upd (upd H1' l1<|.lst [.int (i:u6)]) p<|.lst<|aJ ps++[.int (i:u6)]) p=some (.lst<|aJ<|ps++[i]):=(by rw[af,Fo]; rfl);have npq:p≠q:=λz=>by
    have:=b2.hq;rw[z] at np;rw[np] at this;cases this
   generalize upd (upd H1' l1 (.lst [.int (i:u6)])) p (.lst (aJ ps++[.int (i:u6)]))=H3 at b3 ha3 hta3 hpp;have br:=b3.reach hvm ha3 hp SH hall hl hq c o1 o2 hh hpp npq;have cp:=kN (n:=n) (v:=V.ref p) o1 o2 hh;erw[_,Z,_,Z,ta,_,_,_,Z,Z,hta3,Z,d,_,Z,pD.k (k:=xf rl.1) b3.hd (ay Y),?_];have hq4:(upd H3 d (.dK (putK kvs (xf rl.1) (.ref p)))) q=some (.lst (ws.map V.int)):=(ah (Ox b3.ne)).trans b3.hq;have hta4:Se K (upd H3 d (.dK (putK kvs (xf rl.1) (.ref p)))) ta [.int rl.1,.int rl.2.1,.int rl.2.2]:=by
    have hd3:=b3.hd;have ne: ∀u,H3 ta=some u->(∀kv,u≠ .dK kv)->ta≠d:=λu hu hn e=>by
     rw[e,hd3] at hu;show hn _ (Oj hu).symm
    rcases hta3 with (h | ⟨o',h⟩) | h
    .exact .inl<|.inl<|(ah<|ne _ h λkv z=>by cases z).trans h
    .exact .inl<|.inr ⟨o',(ah<|ne _ h λkv z=>by cases z).trans h⟩
    .exact .inr h
   have hws:ws.length<=1000:=Y;show⟨_,Z,.inl ⟨Z,_,R5.of hq4⟩,_,Z,ta,_,_,_,Z,Z,hta4,Z,q,_,_,Z,Z,hq4,by rw[NR]; show ay hws,?_⟩;erw[putK kvs (xf rl.1)<|.ref p,ws++[rl.1],_,_,Z,?_,cR.mpr<|.inr hmb,?_,?_]
   .rw[Od] at br;show br
   .rw[N1];change ws.length+1+_ < m;lia
   .intro j r' hj hr' hb';by_cases e:j=i
    .subst e;rw[hq] at hr';cases hr';show cR.mpr (.inl rfl)
    .exact cR.mpr<|.inr<|hdn j r' Y hr' hb'
 .rintro O' H' ⟨kvs,ws,v6,v7,rfl,b,hmb,hm',hdn⟩;show nxW _ _ _ hm' ⟨kvs,ws,_,_,_,Z,⟨b.hd,b.hq,b.sm,b.fd,b.fq,b.SN,b.val,b.st,b.wk,λj h1 h2 _ rl hrl hb=>?_,b.cn⟩,N0 _,Y⟩;by_cases e:j=mb
  .obtain⟨i,hi,rfl⟩:=O2.mp hrl;show hdn i _ (by rw[hX.length]; show hi) (NV hi)<|hb.trans e
  .exact b.cl j h1 h2 e rl hrl hb
inductive yA(K:R7)(vs:qx V)(H:Hp)(Q:VK)(_E:XK):Prop|mk(r:qA)(rs:qx MA.ao)(n:u6)(_:vs=[.int n,.ref r])(_:SU K H r rs)(_:rs.length<=1000)(_:∀q∈rs,Sh n q)(_:n<=100)(_:∀(H':Hp) (a:qA),ag H H'->H' a=some (.lst [])->(∀q∈rs,q.2.1≠ -1->0 < q.2.2->xk rs q.1 q.2.1)->Q (.ref a) H')(_:∀(H':Hp) (a:qA) (way:qx u6),ag H H'->H' a=some (.lst (aJ way))->way.length<=200->iq rs way->Q (.ref a) H')
theorem yR (T:Txt K mg a):Sj P w K mg base 2 "find_ring" ["count","rules"] (yA K):=by
 exists 0,bH,15,jj;obtain⟨r,rs,n,rfl,⟨xs,hx,hX⟩,hrl,hk,hn,k1,k2⟩:=h;erw[_,(ae (cY (kP rfl T.gA<|R6 bY) (dI rfl<|aQ (gn 2 jj.nd)<|aQ (gn 3 jj.nd) de)<|au<|aB (PW.pt<|cv (eR K<|aF (nB T:)<|R6 eX)<|cg<|aA jg (R8 K eX aa) aa) (ae (R9 4 jj.nd<|aF (zC T:)<|aj bY<|aj (R8 K eX aa)<|R6<|R8 K eX aa)<|au<|aB (aA iQ gE cM) (aE<|aw fQ (aP<|R6 dO) gE) ax) ax)<|aE<|aP b8),?_];erw[_,Z,r,Z,⟨_,hx⟩,?_];show nA (xs:=xs) (λi O' H'=> ∃v2 v3 v4:rW V,O'=[some<|.int n,uo r,v2,v3,v4]/\ag H H'/\ ∀(j:u6) (q:MA.ao),j < i->rs[j]?=some q->q.2.1≠ -1->0 < q.2.2->xk rs q.1 q.2.1) ⟨none,none,none,Z,ag.refl H,λj _ hj=>wz hj<|OU _⟩ (λi O' H' _ ⟨_,_,_,_,sm,_⟩=>sm.seq hx) ?_ ?_
 .rintro i x O' H' t hi ⟨v2,v3,v4,rfl,sm,hdn⟩ nt;obtain⟨q,hq,ta,rfl,hta⟩:=hX.get hi;obtain⟨o1,o2,o3,o4,o5⟩:=hk q (NU hq);have s1:=sm.trans (ag.upd (o:= .tup [.int (i:u6),.ref ta]) nt);erw[t,_,Z,Se.of af,Z,_,_,Z,_,_,Z,Z,?_];generalize upd H' t (.tup [.int (i:u6),.ref ta])=H1 at s1;have hta1:=s1.fZ hta;have nxt: ∀H2,ag H H2->(q.2.1≠ -1->0 < q.2.2->xk rs q.1 q.2.1)-> ∀v4:rW V,∃v2' v3' v4':rW V,[some (.int n),uo r,some (.int (i:u6)),uo ta,v4]=[some (V.int n),some (V.ref r),v2',v3',v4']/\ag H H2/\ ∀(j:u6) (q:MA.ao),j < i+1->rs[j]?=some q->q.2.1≠ -1->0 < q.2.2->xk rs q.1 q.2.1:=λH2 s2 hh v4=>⟨_,_,_,Z,s2,λj q' hj hq'=>by
   by_cases e:j=i
   .subst e;rw[hq] at hq';cases hq';show hh
   .exact hdn j q' Y hq'⟩
  erw[_,Z,_,q,Z,⟨ta,Z,hta1⟩,_,Z,?_];show bh (λc=>?_) λc=>?_;rotate_left
  .have c:q.2.1= -1:=by simpa using c
   show aM<|nxt H1 s1 (λz=>wz c z) v4
  have c: ¬q.2.1= -1:=by simpa using c
  erw[_,Z,ta,_,_,_,Z,Z,hta1,Z,_,_,Z,Z,_,Z,?_];show bh (λc2=>?_) λc2=>?_;rotate_left
  .have c2:=Ou<|Om _▸c2;show nxt H1 s1 (λ_ z=>wz z c2) v4
  have c2:=Oc c2;erw[_,Z,_,Z,ta,_,_,_,Z,Z,hta1,Z,_,Z,ta,_,_,_,Z,Z,hta1,Z,?_];erw[r,rs,n,q.1,q.2.1,Z,⟨xs,s1.seq hx,hX.same s1⟩,hk,hn,o1,o2,λH2 s2 hsh=>?_,λH2 a ps s2 ha hpl hp SH=>?_];.exact⟨_,Z,Z,_,Z,aM<|nxt H2 (s1.trans s2) (λ_ _=>hsh) _⟩
  .exists _,Z,Z,_,Z,aW ⟨_,Z,aC,λl1 nl1=>⟨_,Z,l1,a,[.int (i:u6)],aJ ps,Z,Z,af,(ah<|az ha nl1).trans ha,?_,λp np=>?_⟩⟩
   .rw[show (aJ ps).length=ps.length from NR ..];change 1+ps.length<=sizeLine;show OA<|ay Y
   .exact k2 _ p (i::ps) (((s1.trans s2).trans<|ag.upd nl1).trans<|ag.upd np) af (by rw[Oh]; lia) ⟨i,q,ps,Z,hq,c,c2,hp,SH⟩
 .rintro O' H' ⟨v2,v3,v4,rfl,sm,hdn⟩;erw[aS,λp np=>k1 _ p (sm.trans<|ag.upd np) af λq hq=>?_];obtain⟨j,hj,rfl⟩:=O2.mp hq;show hdn j _ (by rw[hX.length]; show hj)<|NV hj
open MA (lO cK)
inductive zv(K:R7)(vs:qx V)(H:Hp)(Q:VK)(_E:XK):Prop|mk(n:u6)(r:qA)(rs:qx MA.ao)(L:qx u7)(m:u7)(_:vs=[.int n,.ref r,.int m])(_:n<=12)(_:rs.length<=24)(_:SU K H r rs)(_:∀q∈rs,Sh n q)(_:aZ n rs=some L)(_:0<=m)(_:m < n)(_:∀(p:qA) (ps:qx u6) (H':Hp),H p=none->ag H H'->H' p=some (.lst (aJ ps))->cK rs L m ps->Q (.ref p) H')
def Tz (L:qx u7) (q:MA.ao):yW:= !decide (q.2.1= -1) && decide (MA.g L q.1=MA.g L q.2.1+q.2.2)
variable{L:qx u7}
theorem qu:Tz L q=true↔MA.Tl L q:=by
 unfold Tz MA.Tl;simp
inductive GO(K:R7)(vs:qx V)(H:Hp)(Q:VK)(_E:XK):Prop|mk(v q w ws)(_:vs=[v,.ref w])(_:jc K H v q)(_:R5 K H w (ws.map V.int))(_:Sh ws.length q)(_:Q (.bl (Tz ws q)) H)
theorem qI (T:Txt K mg a):Sj P w K mg base 3 "hands_on" ["rule","widths"] (GO K):=by
 exists 0,bH,5,zq;obtain⟨v,q,w,ws,rfl,⟨p,rfl,hp⟩,hw,hk,k⟩:=h;obtain⟨k1,k2,k3,k4,k5⟩:=id hk;erw[_,(aE<|eV<|k8 (aF (nB T:)<|R6 aT)<|iZ<|dH aR (Sa K bY<|R8 K aT aa)<|aF (yd T:)<|aj aT<|R6 bY),?_];show⟨λv' H'=>v'= .bl (Tz ws q)/\H'=H,?_,λv' H' z=>by rw[z.1,z.2]; show k⟩;erw[_,Z,_,q,Z,⟨p,Z,hp⟩,_,Z,?_];show bh (λc=>?_) λc=>?_
 .have c: ¬q.2.1= -1:=by simpa using c
  erw[_,Z,_,Z,p,_,_,_,Z,Z,hp,Z,w,_,_,_,Z,Z,hw,cI k1 k2,_,Z,_,Z,_,q,w,ws,Z,⟨p,Z,hp⟩,hw,hk,Z,?_,Z];unfold Tz MA.ask;rw[NS c];simp[c]
 .have c:q.2.1= -1:=by simpa using c
  erw[?_,Z];unfold Tz;simp[c]
inductive Eo(K:R7)(vs:qx V)(H:Hp)(Q:VK)(_E:XK):Prop|mk(r w:qA)(rs:qx MA.ao)(L:qx u7)(m:u7)(_:vs=[.ref r,.ref w,.int m])(_:SU K H r rs)(_:R5 K H w (L.map V.int))(_:∀q∈rs,Sh L.length q)(_:L.length<=100)(_:0<=m)(_:m < L.length)(_:∀(d:qA) (kvs:Sx) (H':Hp),H d=none->ag H H'->H' d=some (.dK kvs)->(∀k v,aY kvs (xf k)=some v-> ∃j:u6,v=V.int (j:u6))->MA.iu rs L m (nD kvs)->(∀k j,nD kvs k=some j->j<=L.length)->Q (.ref d) H')
theorem rY (T:Txt K mg a):Sj P w K mg base 4 "fewest_links" ["rules","widths","goal"] (Eo K):=by
 exists 0,bH,6,fh;obtain⟨r,w,rs,L,s,rfl,⟨xs,hx,hX⟩,hw,hk,hn,hs0,hs1,k2⟩:=h;erw[_,(ae (R9 3 fh.nd<|AF (xX dO aa AK) rfl rfl (by intro z; cases z) aS)<|ae (R9 4 fh.nd<|aP<|R6 dO)<|ae (m9 QK (eR K gE)<|ae (R9 5 fh.nd<|show PE _ _ (SS K _ _ _ _) from c7 OE Qz QA xM gE<|R6 aa) (au<|cY (cS K aT) (gn 6 fh.nd)<|au<|aB (PW.pt<|cv (aA aR (R8 K iF aa) gT)<|cv (oX (pP (dB hr) (R8 K iF aa) eX) (by with_unfolding_all rfl))<|cg<|eR K<|aF (qI T:)<|aj iF<|R6 bY) (ae (ur (dB hr) eX (R8 K iF aa) (aw bw (mE (dB hr) eX gT λ_ _=>rfl) aa) rfl)<|au<|aO<|fR K gE<|R8 K iF aa) ax)) (aE eX)),?_];show λd nd=>⟨_,Z,af,[(xf s,.int 0)],Z,by change 1<=15; decide,?_⟩
 erw[_,Z,aC,λq nq=>?_];have em:kW [] [(xf s,V.int 0)]=[((xf s:Key),V.int 0)]:=rfl;rw[em] at nq ⊢;have nq1:q≠d:=λz=>by rw[z,af] at nq; cases nq
 have nq0:H q=none:=by rw[ah nq1,ah nq1] at nq; show nq
 have v1: ∀j:u7,aY [((xf s:Key),V.int 0)] (xf j)=if j=s then some (.int 0) else none:=λj=>by
  by_cases e:j=s;.rw[NW e,e]; show dr rfl
  .rw[NS e,cZ λz=>e (QY z).symm]; rfl
 have h1: ∀j:u7,has [((xf s:Key),V.int 0)] j↔j=s:=λj=>by
  unfold has;rw[v1];by_cases e:j=s <;> simp[e]
 have n1: ∀j:u7,nD [((xf s:Key),V.int 0)] j=if j=s then some 0 else none:=λj=>by
  unfold nD;rw[v1];by_cases e:j=s <;> simp[e]
 have b0:Bg H (upd (upd (upd H d<|.dK []) d<|.dK [((xf s:Key),V.int 0)]) q<|.lst [.int s]) L.length rs L s d q [((xf s:Key),V.int 0)] [s] (λ_=>zh):=by
  erw[(ah<|Ox nq1).trans af,af,?_,nd,nq0,λj hj=>?_,λj v hj=>?_,λj x hj=>?_,(by rw[n1,NW rfl]),λm hm=>(h1 m).mpr<|NZ.mp hm,Vs ..,λk x hx w hw y hy=>?_,λj x hj hw=>wz (NZ.mpr<|(h1 j).mp<|xw hj) hw,?_,λj x hj=>?_];.exact ((((ag.upd nd)).cT nd).cT nq0)
  .rw[(h1 j).mp hj]; erw[hs0,hs1]
  .rw[v1] at hj;by_cases e:j=s
   .rw[NW e] at hj;cases hj;erw[0,Z]
   .rw[NS e] at hj; cases hj
  .rw[n1] at hj;by_cases e:j=s
   .rw[NW e] at hj;cases hj;rw[e];erw[[],.nil,Z]
   .rw[NS e] at hj; cases hj
  .rw[n1] at hx;split at hx;.cases hx; lia
   .cases hx
  .have:=kN (n:=L.length) (kvs:=[]) (k:=s) (v:=V.int 0) hs0 hs1 (λz=>by have z:(none:rW V).isSome=true:=z; cases z);have e:putK ([]:Sx) (xf s) (V.int 0)=[((xf s:Key),V.int 0)]:=rfl;rw[e] at this;have t:kj L.length []<=L.length:=by
    have:=MA.tL (wx L.length) (λi=>if (aY ([]:Sx)<|xf ((i:u6):u7)).isSome then 0 else 1) (λ_=>1) λi _=>by change (if _ then 0 else 1)<=1; split <;> lia
    rw[MA.ones] at this;show this
   change 1+_<=L.length;lia
  .rw[n1] at hj;split at hj;.cases hj; show N0 _
   .cases hj
 dsimp only[aK,L2.start,x8];generalize upd (upd (upd H d (.dK [])) d (.dK [((xf s:Key),V.int 0)])) q (.lst [.int s])=H1 at b0;erw[λm O' H'=> ∃(kvs:Sx) (ws:qx u7) (v5 v6:rW V),O'=[uo r,uo w,some (.int s),uo d,uo q,v5,v6]/\Bg H H' L.length rs L s d q kvs ws (λ_=>zh)/\ws.length+kj L.length kvs<=m/\m<=100,⟨_,_,_,none,none,Z,b0,N0 _,Ob b0.cn hn⟩,?_];rintro m O' H' ⟨kvs,ws,v5,v6,rfl,b,hm,hm100⟩;erw[_,Z,_,.inl ⟨_,R5.of b.hq,Z⟩,?_];cases ws with
 | nil=>show aM ⟨_,Z,k2 d kvs H' b.fd b.sm b.hd b.num (b.dist λ_ z=>z) λk j hj=>by have:=b.bd k j hj; have:=b.cn; lia⟩
 | cons mb ws =>
 show aW ?_;have hmb0:has kvs mb:=b.wk mb<|N6;obtain⟨d0,hmb,hv0⟩:=tZ b.num hmb0;have low: ∀w∈ws,∀y,nD kvs w=some y->d0<=y:=λw hw y hy=>(RF.mp b.srt).1 w hw d0 y hmb hy;have bnd: ∀k x,nD kvs k=some x->x<=d0+1:=λk x hx=>b.top k x hx mb N6 d0 hmb;have bp:=b.pop λ_ z=>z;show nJ λD1 nxW=>?_;show⟨_,Z,.inl ⟨Z,_,R5.of b.hq⟩,q,_,_,0,.int mb,Z,Z,b.hq,aS,aS,by unfold seqIndex?; simp,Z,?_⟩;have hm':ws.length+kj L.length kvs < m:=by
  have:(mb::ws).length=ws.length+1:=rfl;lia
 have ee:((mb::ws).map V.int).eraseIdx 0=ws.map V.int:=rfl;rw[ee];clear ee;dsimp only[aK,x8];generalize upd H' q (.lst (ws.map V.int))=H2 at bp;clear b hm;erw[_,Z,r,Z,⟨_,bp.sm.seq hx⟩,?_];show cm (xs:=xs) (λi O' H'=> ∃(kvs:Sx) (ws:qx u7) (v6:rW V),O'=[uo r,uo w,some (.int s),uo d,uo q,some (.int mb),v6]/\Bg H H' L.length rs L s d q kvs ws (λk=>k=mb)/\nD kvs mb=some d0/\(∀w∈ws,∀y,nD kvs w=some y->d0<=y)/\(∀k x,nD kvs k=some x->x<=d0+1)/\ws.length+kj L.length kvs < m/\ ∀(j:u6) (rl:MA.ao),j < i->rs[j]?=some rl->MA.Tl L rl->rl.1=mb->has kvs rl.2.1) ⟨kvs,ws,v6,Z,bp,hmb,low,bnd,hm',λj _ hj=>wz hj (OU _)⟩ (λi O' H' _ ⟨_,_,_,_,bb,_⟩=>bf (bb.sm.seq hx)) ?_ ?_
 .clear bp hmb hm' low bnd hmb0 hv0 kvs ws;rintro i x O' H' D2 nx2 - hi ⟨kvs,ws,v6,rfl,b,hmb,low,bnd,hm',hdn⟩;obtain⟨rl,hq,ta,rfl,hta⟩:=hX.get hi;have hrk:=hk rl (NU hq);obtain⟨o1,o2,o3,o4,o5⟩:=id hrk;have hta1:=b.sm.fZ hta;have skip:(MA.Tl L rl->rl.1=mb->has kvs rl.2.1)-> ∀(j:u6) (r':MA.ao),j < i+1->rs[j]?=some r'->MA.Tl L r'->r'.1=mb->has kvs r'.2.1:=λhh j r' hj hr' ht' hb'=>by
   by_cases e:j=i
   .subst e;rw[hq] at hr';cases hr';show hh ht' hb'
   .exact hdn j r' Y hr' ht' hb'
  erw[_,Z,ta,_,_,_,Z,Z,hta1,Z,_,Z,Z,_,Z,?_];show bh (λc=>?_) λc=>?_;rotate_left
  .have c: ¬rl.1=mb:=by simpa using c
   show aM<|nx2 _ _ ⟨kvs,ws,_,Z,b,hmb,low,bnd,hm',skip λ_ z=>wz z c⟩
  have c:rl.1=mb:=by simpa using c
  erw[_,Z,ta,_,_,_,Z,Z,hta1,Z,_,Z,d,_,Z,dz.k (k:=xf rl.2.1) b.hd,_,Z,?_];by_cases hh:has kvs rl.2.1
  .rw[show (!(aY kvs<|xf rl.2.1).isSome)=false from by rw[show (aY kvs<|xf rl.2.1).isSome=true from hh]; rfl];show aM<|aM<|nx2 _ _ ⟨kvs,ws,_,Z,b,hmb,low,bnd,hm',skip λ_ _=>hh⟩
  .rw[show (!(aY kvs<|xf rl.2.1).isSome)=true from by rw[show (aY kvs<|xf rl.2.1).isSome=false from by simpa [has] using hh]; rfl];show aW ⟨_,Z,_,Z,_,rl,w,L,Z,⟨ta,Z,hta1⟩,b.sm.seq hw,hrk,_,Z,?_⟩;show bh (λct=>?_) λct=>?_;rotate_left;.exact nx2 _ _ ⟨kvs,ws,_,Z,b,hmb,low,bnd,hm',skip λz=>wz (qu.mpr z) ct⟩
   have ct:=qu.mp ct;have u0:0<=rl.2.1:=(by have:=ct.1; lia);have vm:=sL b.num hmb;obtain⟨br,hmb',low',bnd'⟩:=b.reach hmb low bnd hq ct c u0 o4 hh;have cp:=kN (n:=L.length) (v:=V.int ((d0+1:u6):u7)) u0 o4 hh;have hcn:=b.cn;erw[_,Z,_,Z,d,.int (d0:u6),Z,vm▸dz.k (k:=xf mb) b.hd,_,_,Z,Z,?_];erw[_,Z,_,Z,ta,_,_,_,Z,Z,hta1,Z,d,_,Z,pD.k (k:=xf rl.2.1) b.hd<|ay Y,?_];have hq4:(upd H' d<|.dK<|putK kvs (xf rl.2.1)<|.int ((d0+1:u6):u7)) q=some (.lst<|ws.map V.int):=(ah<|Ox b.ne).trans b.hq;have hta4:Se K (upd H' d<|.dK<|putK kvs (xf rl.2.1)<|.int ((d0+1:u6):u7)) ta [.int rl.1,.int rl.2.1,.int rl.2.2]:=by
    have hd3:=b.hd;have ne: ∀u,H' ta=some u->(∀kv,u≠ .dK kv)->ta≠d:=λu hu hn e=>by
     rw[e,hd3] at hu;show hn _ (Oj hu).symm
    rcases hta1 with (h | ⟨o',h⟩) | h
    .exact .inl<|.inl<|(ah<|ne _ h λkv z=>by cases z).trans h
    .exact .inl<|.inr ⟨o',(ah<|ne _ h λkv z=>by cases z).trans h⟩
    .exact .inr h
   have hws:ws.length<=1000:=Y;show⟨_,Z,.inl ⟨Z,_,R5.of hq4⟩,_,Z,ta,_,_,_,Z,Z,hta4,Z,q,_,_,Z,Z,hq4,by rw[NR]; show ay hws,?_⟩;show nx2 _ _ ⟨putK kvs (xf rl.2.1)<|.int ((d0+1:u6):u7),ws++[rl.2.1],_,Z,?_,hmb',low',bnd',?_,?_⟩
   .rw[Od] at br;show br
   .rw[N1];change ws.length+1+_ < m;lia
   .intro j r' hj hr' ht' hb';by_cases e:j=i
    .subst e;rw[hq] at hr';cases hr';show cR.mpr (.inl rfl)
    .exact cR.mpr<|.inr<|hdn j r' Y hr' ht' hb'
 .rintro O' H' ⟨kvs,ws,v6,rfl,b,hmb,low,bnd,hm',hdn⟩;show nxW _ _ _ hm' ⟨kvs,ws,_,_,Z,⟨b.hd,b.hq,b.sm,b.fd,b.fq,b.SN,b.num,b.ex,b.st,b.wk,b.srt,b.top,λj x h1 h2 _ rl hrl ht hb=>?_,b.cn,b.bd⟩,N0 _,Y⟩;by_cases e:j=mb
  .obtain⟨i,hi,rfl⟩:=O2.mp hrl;have:=hdn i _ (by rw[hX.length]; show hi) (NV hi) ht<|hb.trans e;obtain⟨y,y1,_⟩:=tZ b.num this;rw[e,hmb] at h1;cases h1;erw[y,y1,bnd _ _ y1]
  .exact b.cl j x h1 h2 e rl hrl ht hb
variable{p:u6->yW}
theorem vq {N:u6}{t:qx u6}(h:(wx N).filter p=i::t):i < N/\p i=true/\ ∀j,j < i->p j=false:=by
 have hm:i∈(wx N).filter p:=by rw[h]; show N6
 obtain⟨h1,h2⟩:=OQ.mp hm;have h1:=Oq.mp h1;erw[h1,h2,λj hj=>?_];cases e:p j with
 | false=>rfl
 | true =>
  have hj':j∈(wx N).filter p:=OQ.mpr ⟨Oq.mpr (by lia),e⟩;have pw:((wx N).filter p).Pairwise (· < ·):=XF _ List.pairwise_lt_range;rw[h] at hj' pw;rcases N5.mp hj' with z | z
  .lia
  .have:=(RF.mp pw).1 j z;lia
theorem gD:(wx (i+1)).filter p=(wx i).filter p++(if p i=true then [i] else []):=by
 rw[PQ,PL];congr 1;by_cases h:p i=true;.simp[h]
 .simp[h]
def SG (rs:qx MA.ao) (kvs:Sx) (j:u6):u6:=(nD kvs (MA.hE rs j)).getD 0
def i8 (rs:qx MA.ao) (L:qx u7) (kvs:Sx) (j:u6):yW:=match rs[j]? with
 | some q=>decide (q.2.2=MA.g L q.1) && (aY kvs (xf q.1)).isSome
 | none=>false
theorem qY {L:qx u7}{kvs:Sx}(h:rs[j]?=some q):i8 rs L kvs j=(decide (q.2.2=MA.g L q.1) && (aY kvs (xf q.1)).isSome):=by unfold i8; rw[h]
inductive uE(K:R7)(vs:qx V)(H:Hp)(Q:VK)(_E:XK):Prop|mk(r w d:qA)(rs:qx MA.ao)(L:qx u7)(kvs:Sx)(_:vs=[.ref r,.ref w,.ref d])(_:SU K H r rs)(_:rs.length<=100)(_:R5 K H w (L.map V.int))(_:∀q∈rs,Sh L.length q)(_:H d=some (.dK kvs))(_:∀k v,aY kvs (xf k)=some v-> ∃j:u6,v=V.int (j:u6))(_:∃(i:u6) (q:MA.ao) (j:u6),rs[i]?=some q/\q.2.2=MA.g L q.1/\nD kvs q.1=some j)(_:∀(i:u6) (H':Hp),ag H H'->MA.Uw rs L (nD kvs) i->Q (.int (i:u6)) H')
theorem jS {xs:qx u6}:aJ xs++[V.int (i:u6)]=aJ (xs++[i]):=by unfold aJ; rw[Od]; rfl
variable{ps:qx u6}
theorem o8 {x:V}(h:(aJ ps)[i]?=some x): ∃y,ps[i]?=some y/\x= .int (y:u6):=by
 unfold aJ at h;rw[N7] at h;cases e:ps[i]? with
 | none=>rw[e] at h; cases h
 | some y=>rw[e] at h; erw[y,Z,(Oj h).symm]
theorem take_succ_get {y:u6}(h:ps[i]?=some y):ps.take (i+1)=ps.take i++[y]:=by rw[Ov,h]; rfl
variable{xs:qx V}
theorem jv(h:cF K H xs rs){k:u6}{q:MA.ao}(hq:rs[k]?=some q): ∃a,Si xs (k:u6)=some (.ref a)/\Se K H a [.int q.1,.int q.2.1,.int q.2.2]:=by
 obtain⟨v,hv,a,rfl,ha⟩:=h.at hq;erw[a,aU hv,ha]
theorem uQ (T:Txt K mg a):Sj P w K mg base 1 "first_place" ["rules","widths","fewest"] (uE K):=by
 exists 0,bH,7,jA;obtain⟨r,w,d,rs,L,kvs,rfl,⟨xs,hx,hX⟩,hrl,hw,hk,hd,num,hex,q⟩:=h;erw[_,(ae (Tx 3 jA.nd km ["place","rule"] ["fewest","widths"] [2,1] go2 (kP rfl T.gA<|R6 aT) λC s2 H2 fp=>⟨(show PG _ _ (nF K 2 _) from dI (n:=2) rfl<|aQ (gn 0<|SO ["place","rule","fewest","widths"])<|aQ (gn 1<|SO ["place","rule","fewest","widths"]) de),(kT<|PW.pt<|cv (aA aR (R8 K bY aa)<|Sa K eX<|R8 K bY aa)<|cg<|oX (rZ (dB hr) (R8 K bY aa) dO) (by with_unfolding_all rfl)),aT⟩) (ae (R9 4 jA.nd<|bR (show cJ _ _ (J9 K) from CS rfl) uK T.wR boot_min (R6<|eZ km ["place"] ["fewest","rules"] [2,0] (cS K eX) λC s2 H2 fp=>(mE (dB hr) bY (R8 K (Sa K dO aT) aa) λ_ _=>rfl))) (aE<|Sa K (ug km ["place"] ["nearest","fewest","rules"] [4,2,0] TJ (cS K eX) λC s2 H2 fp=>⟨(gn 0<|SO ["place","nearest","fewest","rules"]),(kT<|aA aR (mE (dB hr) dO (R8 K (Sa K eX aT) aa) λ_ _=>rfl) bY),aT⟩) aa))),?_];erw[_,Z,r,Z,⟨_,hx⟩,?_];have xl:=hX.length;show vT (xs:=xs) (λi ys H'=>ag H H'/\ys=aJ ((wx i).filter<|i8 rs L kvs)) (λi ys H' h=>h.1.seq hx) ⟨ag.refl H,Z⟩ (ay Y) (λi ys H' h=>by rw[h.2]; unfold aJ; rw[NR]; show Ob (O0 _ _) (by rw[O7]; show N0 _)) ?_ ?_
 .rintro i ys H2 x t hi ⟨sm,rfl⟩ nt;obtain⟨rl,hq,ta,rfl,hta⟩:=hX.get hi;obtain⟨o1,o2,o3,o4,o5⟩:=hk rl (NU hq);have s1:=sm.trans (ag.upd (o:= .tup [.int (i:u6),.ref ta]) nt);erw[t,_,Z,Se.of af,Z,_,_,Z,_,_,Z,Z,?_];generalize upd H2 t (.tup [.int (i:u6),.ref ta])=H3 at s1;have hta1:=s1.fZ hta;have hc:=qY (L:=L) (kvs:=kvs) hq;have no:i8 rs L kvs i=false->ag H H3/\aJ ((wx i).filter (i8 rs L kvs))=aJ ((wx (i+1)).filter (i8 rs L kvs)):=λz=>⟨s1,by rw[gD,z]; simp⟩
  erw[_,Z,ta,_,_,_,Z,Z,hta1,Z,_,Z,_,Z,ta,_,_,_,Z,Z,hta1,Z,w,_,_,_,Z,Z,s1.seq hw,cI o1 o2,Z,_,Z,?_];show bh (λc=>?_) λc=>?_;rotate_left
  .have c: ¬rl.2.2=MA.g L rl.1:=by simpa using c
   show aM<|no (by rw[hc]; simp[c])
  have c:rl.2.2=MA.g L rl.1:=by simpa using c
  erw[_,Z,ta,_,_,_,Z,Z,hta1,Z,_,Z,d,_,Z,dz.k (k:=xf rl.1)<|s1 _ _ hd,_,Z,?_];show bh (λc2=>?_) λc2=>?_
  .exists _,Z,s1,?_;rw[gD,NW (by rw[hc,c2]; simp[c]),jS]
  .exact no (by rw[hc]; simp[c,c2])
 .rintro ys H2 p ⟨sm,rfl⟩ np;rw[xl] at *;have s1:=sm.trans (ag.upd (o:= .lst (aJ ((wx rs.length).filter (i8 rs L kvs)))) np);have hp1:(upd H2 p (.lst (aJ ((wx rs.length).filter (i8 rs L kvs))))) p=some (.lst (aJ ((wx rs.length).filter (i8 rs L kvs)))):=af;dsimp only[aK,L2.start,x8];generalize upd H2 p (.lst (aJ ((wx rs.length).filter (i8 rs L kvs))))=H3 at s1 hp1;obtain⟨cs,ecs⟩: ∃cs,(wx rs.length).filter (i8 rs L kvs)=cs:=⟨_,Z⟩
  rw[ecs] at hp1;have csl:cs.length<=100:=by rw[<-ecs]; show Ob (O0 _ _) (by rw[O7]; show hrl)
  have csm: ∀j∈cs,∃ql,rs[j]?=some ql/\ql.2.2=MA.g L ql.1/\aY kvs (xf ql.1)=some (.int (SG rs kvs j:u6))/\nD kvs ql.1=some (SG rs kvs j):=λj hj=>by
   rw[<-ecs] at hj;obtain⟨h1,h2⟩:=OQ.mp hj;have h1:=Oq.mp h1;rw[qY<|NV h1,Oz] at h2;obtain⟨y,y1,y2⟩:=tZ num h2.2;have ed:SG rs kvs j=y:=(by unfold SG; rw[MA.gx<|NV h1,y1]; rfl);erw[_,NV h1,Oc h2.1,by rw[ed]; show y2,by rw[ed]; show y1]
  have cmem: ∀(j:u6) (ql:MA.ao) (y:u6),rs[j]?=some ql->ql.2.2=MA.g L ql.1->nD kvs ql.1=some y->j∈cs/\SG rs kvs j=y:=λj ql y h1 h2 h3=>by
   show⟨?_,by unfold SG; rw[MA.gx h1,h3]; rfl⟩;rw[<-ecs];show OQ.mpr ⟨Oq.mpr (NX.mp h1).1,?_⟩;rw[qY h1,N2 h2,sL num h3];rfl
  erw[_,Z,p,Z,⟨_,R5.of hp1⟩,?_];show cH (xs:=aJ cs) (λi ys H'=>ag H3 H'/\ys=((cs.take i).map λj=>V.int (SG rs kvs j:u6))) (λi ys H' _ h=>bf<|R5.of<|h.1 _ _ hp1) ⟨ag.refl H3,Z⟩ (ay (by unfold aJ; rw[NR]; lia)) (λi ys H' h=>by rw[h.2,NR,Oi]; show OX _ _) ?_ ?_
  .rintro i ys H4 x hi ⟨sm4,rfl⟩;obtain⟨y,hy,rfl⟩:=o8 hi;obtain⟨ql,hq,hq2,hq3,_⟩:=csm y<|NU hy;have s4:=s1.trans sm4;obtain⟨ta,hat,hta⟩:=jv (hX.same s4) hq;dsimp only[aK,gG];show aW ⟨_,Z,_,Z,_,Z,r,_,_,_,Z,Z,s4.seq hx,hat,ta,_,_,_,Z,Z,hta,Z,d,_,Z,hq3▸dz.k (k:=xf ql.1) (s4 _ _ hd),sm4,?_⟩;rw[take_succ_get hy,Od];rfl
  .rintro ys H4 p4 ⟨sm4,rfl⟩ np4;rw[show (aJ cs).length=cs.length from NR ..,OF] at *;have s5:=s1.trans (sm4.trans (ag.upd (o:= .lst (cs.map λj=>V.int (SG rs kvs j:u6))) np4));have hp5:=(sm4.trans (ag.upd (o:= .lst (cs.map λj=>V.int (SG rs kvs j:u6))) np4)) _ _ hp1;have h45:(upd H4 p4 (.lst (cs.map λj=>V.int (SG rs kvs j:u6)))) p4=some (.lst ((cs.map λj=>((SG rs kvs j:u6):u7)).map V.int)):=(by rw[af,OK]; rfl);generalize upd H4 p4 (.lst (cs.map λj=>V.int (SG rs kvs j:u6)))=H5 at s5 hp5 h45;obtain⟨i0,q0,y0,e0,e1,e2⟩:=hex;have hne:0 < cs.length:=VC (cmem i0 q0 y0 e0 e1 e2).1;show⟨p4,_,Z,R5.of h45,by rw[NR]; show hne,λM hM hle=>?_⟩;obtain⟨jm,hjm,rfl⟩:=Ow.mp hM;generalize hdm:SG rs kvs jm=dm at *;dsimp only[aK,x8];erw[_,Z,p,Z,⟨_,R5.of hp5⟩,?_];show cH (xs:=aJ cs) (λi ys H'=>ag H5 H'/\ys=aJ ((cs.take i).filter λj=>decide (SG rs kvs j=dm))) (λi ys H' _ h=>bf (R5.of (h.1 _ _ hp5))) ⟨ag.refl H5,Z⟩ (ay (by unfold aJ; rw[NR]; lia)) (λi ys H' h=>by rw[h.2]; unfold aJ; rw[NR]; show Ob (O0 _ _) (by rw[Oi]; show OX _ _)) ?_ ?_
   .rintro i ys H6 x hi ⟨sm6,rfl⟩;obtain⟨y,hy,rfl⟩:=o8 hi;obtain⟨ql,hq,hq2,hq3,_⟩:=csm y<|NU hy;have s6:=s5.trans sm6;obtain⟨ta,hat,hta⟩:=jv (hX.same s6) hq;erw[_,Z,_,Z,_,Z,r,_,_,_,Z,Z,s6.seq hx,hat,ta,_,_,_,Z,Z,hta,Z,d,_,Z,hq3▸dz.k (k:=xf ql.1) (s6 _ _ hd),_,Z,Z,_,Z,?_];show bh (λc=>?_) λc=>?_
    .have c:((SG rs kvs y:u6):u7)=dm:=by simpa using c
     have c:SG rs kvs y=dm:=Y;erw[_,Z,sm6,?_];rw[take_succ_get hy,PL,jS];simp[c]
    .have c: ¬((SG rs kvs y:u6):u7)=dm:=by simpa using c
     have c: ¬SG rs kvs y=dm:=Y;erw[sm6,?_];rw[take_succ_get hy,PL];simp[c]
   .rintro ys H6 p6 ⟨sm6,rfl⟩ np6;rw[show (aJ cs).length=cs.length from NR ..,OF] at *;have hin:jm∈cs.filter λj=>decide (SG rs kvs j=dm):=OQ.mpr ⟨hjm,N2 hdm⟩;cases ef:cs.filter λj=>decide (SG rs kvs j=dm) with
    | nil=>rw[ef] at hin; cases hin
    | cons i1 tl =>
    have ef2:=ef;rw[<-ecs,We] at ef2;obtain⟨g1,g2,g3⟩:=vq ef2;have hi1:i1∈cs.filter λj=>decide (SG rs kvs j=dm):=(by rw[ef]; show N6);obtain⟨hi2,hi3⟩:=OQ.mp hi1;have hi3:=Oc hi3;obtain⟨q1,w1,w2,_,w4⟩:=csm i1 hi2;erw[p6,_,_,_,Z,Z,R5.of af,(show Si _ ((0:u6):u7)=_ from aU rfl),?_];show q i1 _ (s5.trans<|sm6.trans<|ag.upd np6) ⟨q1,dm,w1,w2,by rw[w4,hi3],λj q' y a b c=>?_,λj q' hj a b c=>?_⟩
    .obtain⟨z1,z2⟩:=cmem j q' y a b c;have:=hle _<|Ow.mpr ⟨j,z1,Z⟩;rw[z2] at this;lia
    .obtain⟨z1,z2⟩:=cmem j q' dm a b c;rw[<-ecs] at z1;have:=g3 j hj;rw[z2,(OQ.mp z1).2] at this;simp at this
def iw (rs:qx MA.ao) (L:qx u7) (v:u7) (j:u6):yW:=match rs[j]? with
 | some q=>decide (q.2.1=v) && Tz L q
 | none=>false
theorem rR {L:qx u7}{v:u7}(h:rs[j]?=some q):iw rs L v j=(decide (q.2.1=v) && Tz L q):=by unfold iw; rw[h]
inductive vZ(K:R7)(vs:qx V)(H:Hp)(Q:VK)(_E:XK):Prop|mk(r w d:qA)(rs:qx MA.ao)(L:qx u7)(kvs:Sx)(v:u7)(k:u6)(_:vs=[.ref r,.ref w,.ref d,.int v])(_:SU K H r rs)(_:rs.length<=100)(_:R5 K H w (L.map V.int))(_:∀q∈rs,Sh L.length q)(_:H d=some (.dK kvs))(_:∀k v,aY kvs (xf k)=some v-> ∃j:u6,v=V.int (j:u6))(_:nD kvs v=some (k+1))(_:∃(i:u6) (q:MA.ao),rs[i]?=some q/\q.2.1=v/\MA.Tl L q/\nD kvs q.1=some k)(_:∀(i:u6) (H':Hp),ag H H'->MA.Nx rs L (nD kvs) v i->Q (.int (i:u6)) H')
theorem wI (T:Txt K mg a):Sj P w K mg base 4 "next_place" ["rules","widths","fewest","member"] (vZ K):=by
 exists 0,bH,8,kg;obtain⟨r,w,d,rs,L,kvs,v,k,rfl,⟨xs,hx,hX⟩,hrl,hw,hk,hd,num,hv,hex,q⟩:=h;erw[_,(ae (R9 4 kg.nd<|aw gN (mE (dB hr) dO eX λ_ _=>rfl) aa)<|ae (Tx 5 kg.nd oE ["place","rule"] ["member","widths"] [3,1] go2 (kP rfl T.gA<|R6 aT) λC s2 H2 fp=>⟨(show PG _ _ (nF K 2 _) from dI (n:=2) rfl<|aQ (gn 0<|SO ["place","rule","member","widths"])<|aQ (gn 1<|SO ["place","rule","member","widths"]) de),(kT<|PW.pt<|cv (aA aR (R8 K bY aa) dO)<|cg<|eR K<|aF (qI T:)<|aj bY<|R6 eX),aT⟩) (aE<|Sa K (ug oE ["place"] ["nearer","fewest","rules"] [4,2,0] TJ (cS K gT) λC s2 H2 fp=>⟨(gn 0<|SO ["place","nearer","fewest","rules"]),(kT<|aA aR (rB (dB hr) dO (R8 K (Sa K eX aT) aa) (by constructor <;> first | rfl | (intros; rfl))) bY),aT⟩) aa)),?_];have vv:=sL num hv;erw[_,Z,_,Z,d,.int ((k+1:u6):u7),Z,vv▸dz.k (k:=xf v) hd,_,_,Z,Z,?_];erw[_,Z,r,Z,⟨_,hx⟩,?_];have xl:=hX.length;show vT (xs:=xs) (λi ys H'=>ag H H'/\ys=aJ ((wx i).filter<|iw rs L v)) (λi ys H' h=>h.1.seq hx) ⟨ag.refl H,Z⟩ (ay Y) (λi ys H' h=>by rw[h.2]; unfold aJ; rw[NR]; show Ob (O0 _ _) (by rw[O7]; show N0 _)) ?_ ?_
 .rintro i ys H2 x t hi ⟨sm,rfl⟩ nt;obtain⟨rl,hq,ta,rfl,hta⟩:=hX.get hi;have hrk:=hk rl (NU hq);have s1:=sm.trans (ag.upd (o:= .tup [.int (i:u6),.ref ta]) nt);erw[t,_,Z,Se.of af,Z,_,_,Z,_,_,Z,Z,?_];generalize upd H2 t (.tup [.int (i:u6),.ref ta])=H3 at s1;have hta1:=s1.fZ hta;have hc:=rR (L:=L) (v:=v) hq;have no:iw rs L v i=false->ag H H3/\aJ ((wx i).filter (iw rs L v))=aJ ((wx (i+1)).filter (iw rs L v)):=λz=>⟨s1,by rw[gD,z]; simp⟩
  erw[_,Z,ta,_,_,_,Z,Z,hta1,Z,_,Z,Z,_,Z,?_];show bh (λc=>?_) λc=>?_;rotate_left
  .have c: ¬rl.2.1=v:=by simpa using c
   show aM<|no (by rw[hc]; simp[c])
  have c:rl.2.1=v:=by simpa using c
  erw[_,Z,_,Z,_,rl,w,L,Z,⟨ta,Z,hta1⟩,s1.seq hw,hrk,_,Z,?_];show bh (λc2=>?_) λc2=>?_
  .exists _,Z,s1,?_;rw[gD,NW (by rw[hc,c2]; simp[c]),jS]
  .exact no (by rw[hc]; simp[c,c2])
 .rintro ys H2 p ⟨sm,rfl⟩ np;rw[xl] at *;have s1:=sm.trans (ag.upd (o:= .lst (aJ ((wx rs.length).filter (iw rs L v)))) np);have hp1:(upd H2 p (.lst (aJ ((wx rs.length).filter (iw rs L v))))) p=some (.lst (aJ ((wx rs.length).filter (iw rs L v)))):=af;dsimp only[aK,L2.start,x8];generalize upd H2 p (.lst (aJ ((wx rs.length).filter (iw rs L v))))=H3 at s1 hp1;obtain⟨cs,ecs⟩: ∃cs,(wx rs.length).filter (iw rs L v)=cs:=⟨_,Z⟩
  rw[ecs] at hp1;have csl:cs.length<=100:=by rw[<-ecs]; show Ob (O0 _ _) (by rw[O7]; show hrl)
  have csm: ∀j∈cs,∃ql,rs[j]?=some ql/\ql.2.1=v/\MA.Tl L ql:=λj hj=>by
   rw[<-ecs] at hj;obtain⟨h1,h2⟩:=OQ.mp hj;have h1:=Oq.mp h1;rw[rR<|NV h1,Oz] at h2;erw[_,NV h1,Oc h2.1,qu.mp h2.2]
  have cmem: ∀(j:u6) (ql:MA.ao),rs[j]?=some ql->ql.2.1=v->MA.Tl L ql->iw rs L v j=true:=λj ql h1 h2 h3=>by
   rw[rR h1,N2 h2,qu.mpr h3];rfl
  erw[_,Z,p,Z,⟨_,R5.of hp1⟩,?_];show cH (xs:=aJ cs) (λi ys H'=>ag H3 H'/\ys=aJ ((cs.take i).filter λj=>decide<|nD kvs (MA.hE rs j)=some k)) (λi ys H' _ h=>bf<|R5.of<|h.1 _ _ hp1) ⟨ag.refl H3,Z⟩ (ay (by unfold aJ; rw[NR]; lia)) (λi ys H' h=>by rw[h.2]; unfold aJ; rw[NR]; show Ob (O0 _ _) (by rw[Oi]; show OX _ _)) ?_ ?_
  .rintro i ys H6 x hi ⟨sm6,rfl⟩;obtain⟨y,hy,rfl⟩:=o8 hi;obtain⟨ql,hq,hq2,hq3⟩:=csm y<|NU hy;have s6:=s1.trans sm6;obtain⟨ta,hat,hta⟩:=jv (hX.same s6) hq;have hd6:=s6 _ _ hd;have eo:MA.hE rs y=ql.1:=MA.gx hq;have yes:nD kvs ql.1=some k->ag H3 H6/\aJ ((cs.take i).filter λj=>decide<|nD kvs (MA.hE rs j)=some k)++[V.int (y:u6)]=aJ ((cs.take<|i+1).filter λj=>decide<|nD kvs (MA.hE rs j)=some k):=λz=>by
    erw[sm6,?_];rw[take_succ_get hy,PL,jS];simp[eo,z]
   have no: ¬nD kvs ql.1=some k->ag H3 H6/\aJ ((cs.take i).filter λj=>decide<|nD kvs (MA.hE rs j)=some k)=aJ ((cs.take<|i+1).filter λj=>decide<|nD kvs (MA.hE rs j)=some k):=λz=>by
    erw[sm6,?_];rw[take_succ_get hy,PL];simp[eo,z]
   erw[_,Z,d,Z,.inl ⟨kvs,.inl hd6⟩,_,Z,_,Z,r,_,_,_,Z,Z,s6.seq hx,hat,ta,_,_,_,Z,Z,hta,Z,_,dz.k (k:=xf ql.1) hd6,?_];cases en:nD kvs ql.1 with
   | none =>
    rw[HL num en];erw[_,Z,Z,_,Z,aM<|no (by rw[en]; intro z; cases z)]
   | some y1 =>
    rw[sL num en];erw[_,Z,Z,_,Z,?_];show bh (λc=>?_) λc=>?_
    .have c:((y1:u6):u7)=((k+1:u6):u7) - 1:=by simpa using c
     erw[_,Z,yes (by rw[en,show y1=k by lia])]
    .have c: ¬((y1:u6):u7)=((k+1:u6):u7) - 1:=by simpa using c
     show no (by rw[en]; intro z; cases z; lia)
  .rintro ys H6 p6 ⟨sm6,rfl⟩ np6;rw[show (aJ cs).length=cs.length from NR ..,OF] at *;obtain⟨jm,qm,m1,m2,m3,m4⟩:=hex;have hin:jm∈cs.filter λj=>decide (nD kvs (MA.hE rs j)=some k):=OQ.mpr ⟨by rw[<-ecs]; show OQ.mpr ⟨Oq.mpr (NX.mp m1).1,cmem jm qm m1 m2 m3⟩,N2 (by rw[MA.gx m1]; show m4)⟩;cases ef:cs.filter λj=>decide (nD kvs (MA.hE rs j)=some k) with
   | nil=>rw[ef] at hin; cases hin
   | cons i1 tl =>
   have ef2:=ef;rw[<-ecs,We] at ef2;obtain⟨g1,g2,g3⟩:=vq ef2;have hi1:i1∈cs.filter λj=>decide (nD kvs (MA.hE rs j)=some k):=(by rw[ef]; show N6);obtain⟨hi2,hi3⟩:=OQ.mp hi1;have hi3:=Oc hi3;obtain⟨q1,w1,w2,w3⟩:=csm i1 hi2;rw[MA.gx w1] at hi3;erw[p6,_,_,_,Z,Z,R5.of af,(show Si _ ((0:u6):u7)=_ from aU rfl),?_];show q i1 _ (s1.trans<|sm6.trans<|ag.upd np6) ⟨q1,k,w1,w2,w3,hv,hi3,λj q' hj a b c e=>?_⟩;have:=g3 j hj;rw[MA.gx a,e,cmem j q' a b c] at this;simp at this
theorem qG (T:Txt K mg a):Sj P w K mg base 5 "chain_of" ["count","rules","member"] (zv K):=by
 exists 0,bH,9,jO;obtain⟨n,r,rs,L,m,rfl,hn,hl,hR,hk,eL,m0,m1,q⟩:=h;have lw:=MA.jU hk eL;have ll:=lw.len;erw[_,(ae (R9 3 jO.nd<|aF (iG T:)<|aj aT<|R6 bY)<|ae (aB (aA aR (Sa K eX dO) aa) (aE<|aP b8) ax)<|ae (R9 4 jO.nd<|aF (rY T:)<|aj bY<|aj eX<|R6 dO)<|ae (R9 5 jO.nd<|aP<|R6<|aF (uQ T:)<|aj bY<|aj eX<|R6 gE)<|ae (m9 QK (aA kC (R8 K (Sa K bY<|Sa K gT<|lR jR aa) aa) dO)<|au<|aO<|fR K gT<|aF (wI T:)<|aj bY<|aj eX<|aj gE<|R6<|R8 K (Sa K bY<|Sa K gT<|lR jR aa) aa)<|aE gT),?_];erw[_,Z,_,Z,n,r,rs,Z,Y,hR,hk,λH1 _ z=>(by rw[eL] at z; cases z),λw L0 H1 nw s1 e hw=>?_];rw[eL] at e;cases e;erw[_,Z,_,Z,w,_,_,_,Z,Z,R5.of hw,cI m0 (by rw[ll]; show m1),Z,_,Z,?_];show bh (λc=>?_) λc=>?_
 .have c:MA.g L m=0:=by simpa using c
  erw[aS,λp np=>q p [] _ (s1.free np) (s1.trans<|ag.upd np) af<|.inl ⟨c,Z⟩]
 have c: ¬MA.g L m=0:=by simpa using c
 have hz:0 < MA.g L m:=by have:=lw.nn m m0 m1; lia
 have hk': ∀q∈rs,Sh L.length q:=by rw[ll]; show hk
 show⟨_,Z,_,Z,_,Z,r,w,rs,L,m,Z,hR.same s1,R5.of hw,hk',Y,m0,by rw[ll]; show m1,λd kvs H2 nd s2 hd num D dbd=>?_⟩;have s12:=s1.trans s2;have hw2:=s2 _ _ hw;erw[_,Z,_,Z,_,Z,r,w,d,rs,L,kvs,Z,hR.same s12,Y,R5.of hw2,hk',hd,num,MA.FX lw D (MA.Dn hk eL) m0 m1 hz,λi H3 s3 hf=>?_];erw[aC,λcp ncp=>?_];have s3':=s3.trans (ag.upd (o:= .lst [.int (i:u6)]) ncp);have s123:=s12.trans s3';have fcp:H cp=none:=(s12.trans s3).free ncp;have ncw:w≠cp:=az (s3 _ _ hw2) ncp;have hcp:(upd H3 cp (.lst [.int (i:u6)])) cp=some (.lst (aJ [i])):=af;obtain⟨qi,di,hi,_⟩:=id hf;dsimp only[aK,L2.start,x8];generalize upd H3 cp (.lst [.int (i:u6)])=H4 at s3' s123 hcp;erw[λμ O' H'=> ∃(cs:qx u6) (il:u6) (ql:MA.ao),O'=[some (.int n),uo r,some (.int m),uo w,uo d,uo cp]/\ag H H'/\H' w=some (.lst (L.map V.int))/\H' d=some (.dK kvs)/\H' cp=some (.lst (aJ (cs++[il])))/\rs[il]?=some ql/\nD kvs ql.1=some μ/\cs.length+μ<=100/\ ∀rest,MA.Gr rs L (nD kvs) m ql.1 rest->cK rs L m (cs++il::rest),?_,?_]
 .obtain⟨q0,d0,a1,a2,a3,a4,a5⟩:=id hf;erw[d0,[],i,q0,Z,s123,s3' _ _ hw2,s3' _ _ hd,hcp,a1,a3,?_,λrest hg=>MA.rV lw D hz hf a1 hg];have:=dbd _ _ a3;change 0+d0<=100;lia
 .rintro μ O' H' ⟨cs,il,ql,rfl,sm,hw5,hd5,hc5,hil,hμ,hle,hgood⟩;obtain⟨xs,hx,hX⟩:=hR.same sm;obtain⟨ta,hat,hta⟩:=jv hX hil;have hlast:Si (aJ<|cs++[il]) (-1)=some (.int (il:u6)):=by
   unfold Si Ta aJ;rw[NR,N1];simp;rw[NW Y,show (-1+((cs.length:u7)+1)).toNat=cs.length by lia];simp
  erw[_,Z,_,Z,_,Z,cp,_,_,_,Z,Z,R5.of hc5,hlast,r,_,_,_,Z,Z,hx,hat,ta,_,_,_,Z,Z,hta,Z,_,Z,Z,_,Z,?_];show bh (λc=>?_) λc=>?_;rotate_left
  .have c:ql.1=m:=by simpa using c
   erw[_,Z,q cp (cs++[il]) H' fcp sm hc5<|hgood []<|c▸ .nil]
  have c: ¬ql.1=m:=by simpa using c
  obtain⟨μ',i2,q2,rfl,b1,b2,b3,b4⟩:=MA.Jh D hμ c;erw[λO' H'=> ∃m',m' < μ'+1/\ ∃(cs:qx u6) (il:u6) (ql:MA.ao),O'=[some<|.int n,uo r,some<|.int m,uo w,uo d,uo cp]/\ag H H'/\H' w=some (.lst<|L.map V.int)/\H' d=some (.dK kvs)/\H' cp=some (.lst<|aJ<|cs++[il])/\rs[il]?=some ql/\nD kvs ql.1=some m'/\cs.length+m'<=100/\ ∀rest,MA.Gr rs L (nD kvs) m ql.1 rest->cK rs L m (cs++il::rest),λ_ _ z=>z,?_];erw[_,Z,.inl ⟨Z,_,R5.of hc5⟩,_,Z,_,Z,_,Z,_,Z,_,Z,_,Z,cp,_,_,_,Z,Z,R5.of hc5,hlast,r,_,_,_,Z,Z,hx,hat,ta,_,_,_,Z,Z,hta,Z,?_];erw[r,w,d,rs,L,kvs,ql.1,μ',Z,⟨xs,hx,hX⟩,Y,R5.of hw5,hk',hd5,num,hμ,⟨i2,q2,b1,b2,b3,b4⟩,λi3 H6 s6 hnx=>?_];obtain⟨q3,d3,e1,e2,e3,e4,e5,e6⟩:=id hnx;rw[hμ] at e4;cases e4;have hc6:=s6 _ _ hc5;erw[cp,_,_,Z,Z,hc6,ay (by unfold aJ; rw[NR,N1]; change cs.length+1<=1000; lia),?_];have ncd:cp≠d:=λz=>by
   have:=hd5;rw[<-z,hc5] at this;cases this
  erw[μ',PY _,cs++[il],i3,q3,Z,(sm.trans s6).cT fcp,(ah ncw).trans<|s6 _ _ hw5,(ah<|Ox ncd).trans<|s6 _ _ hd5,?_,e1,e5,?_,λrest hg=>?_];.rw[af,jS]
  .rw[N1]; change cs.length+1+μ'<=100; lia
  .have:=hgood (i3::rest)<|.cons hnx e1 hg;rw[Pf];show this
inductive Fp(K:R7)(vs:qx V)(H:Hp)(Q:VK)(_E:XK):Prop|mk(x:u7)(c:rW u7)(_:vs=[.int x,dW c])(_:Q (.bl (MA.over x c)) H)
theorem xF (T:Txt K mg a):Sj P w K mg base 1 "above" ["width","top"] (Fp K):=by
 exists 0,bH,16,GY;obtain⟨x,c,rfl,q⟩:=h;erw[_,(aE<|eV<|k8 (dH iQ bY cM)<|iZ<|dH jg aT bY),?_];show⟨λv' H'=>v'= .bl (MA.over x c)/\H'=H,?_,λv' H' z=>by rw[z.1,z.2]; show q⟩;erw[_,Z,Z,_,Z,?_];cases c with
 | none=>exact⟨Z,Z⟩
 | some c=>exact⟨_,Z,_,Z,_,_,Z,Z,Z,Z⟩
def Mv:rW u6->V
 | none=> .non
 | some i=> .int (i:u6)
inductive vY(K:R7)(vs:qx V)(H:Hp)(Q:VK)(_E:XK):Prop|mk(p:qA)(ws:qx u7)(c:qA)(cs:qx (rW u7))(_:vs=[.ref p,.ref c])(_:R5 K H p (ws.map V.int))(_:R5 K H c (cs.map dW))(_:cs.length=ws.length)(_:ws.length<=12)(_:∀H',ag H H'->Q (Mv (MA.bP ws cs)) H')
theorem ow (T:Txt K mg a):Sj P w K mg base 2 "first_wide" ["widths","tops"] (vY K):=by
 exists 0,bH,17,jY;obtain⟨p,ws,c,cs,rfl,hp,hc,hcl,hwl,q⟩:=h;erw[_,(ae (cY (kP rfl T.gA<|R6 aT) (dI rfl<|aQ (gn 2 jY.nd)<|aQ (gn 3 jY.nd) de)<|au<|aB (eR K<|aF (xF T:)<|aj eX<|R6<|Sa K bY dO) (aE dO) ax)<|aE cM),?_];erw[_,Z,p,Z,⟨_,hp⟩,?_];show nA (xs:=ws.map V.int) (λi O' H'=> ∃v2 v3:rW V,O'=[uo p,uo c,v2,v3]/\ag H H'/\ ∀j,j < i->MA.over (MA.g ws (j:u6)) (cs.getD j none)=false) ⟨none,none,Z,ag.refl H,λj hj=>wz hj<|OU _⟩ (λi O' H' _ ⟨_,_,_,sm,_⟩=>sm.seq hp) ?_ ?_
 .rintro i x O' H' t hi ⟨v2,v3,rfl,sm,hdn⟩ nt;have s1:=sm.trans<|ag.upd (o:= .tup [.int (i:u6),x]) nt;obtain⟨hin,rfl⟩:i < ws.length/\x= .int (MA.g ws (i:u6)):=by
   rw[N7] at hi;cases e:ws[i]? with
   | none=>rw[e] at hi; cases hi
   | some y =>
    rw[e] at hi;obtain⟨hl,rfl⟩:=NX.mp e;erw[hl,?_];rw[show MA.g ws (i:u6)=ws[i] from by unfold MA.g; rw[Oa,NY,e]; rfl];show (Oj hi).symm
  erw[t,_,Z,Se.of af,Z,_,_,Z,_,_,Z,Z,?_];generalize upd H' t (.tup [.int (i:u6),.int (MA.g ws (i:u6))])=H1 at s1;erw[_,Z,_,Z,_,Z,c,_,_,_,Z,Z,s1.seq hc,yG (cs:=cs) (k:=i) Y,?_];erw[_,_,Z,_,Z,?_];show bh (λz=>?_) (λz=>?_)
  .have hw:MA.bP ws cs=some i:=MA.sU hin z hdn;rw[hw] at q;erw[_,Z,q _ s1]
  .exists _,_,Z,s1,λj hj=>?_;by_cases e:j=i;.rw[e]; show Om _▸z
   .exact hdn j Y
 .rintro O' H' ⟨v2,v3,rfl,sm,hdn⟩;rw[NR] at hdn;rw[MA.sj hdn] at q;show q _ sm
inductive zz(K:R7)(vs:qx V)(H:Hp)(Q:VK)(_E:XK):Prop|mk(n:u6)(r:qA)(rs:qx MA.ao)(L:qx u7)(c:qA)(cs:qx (rW u7))(m:u7):vs=[.int n,.ref r,.ref c,.int m]->n<=12->rs.length<=24->iD K H r rs->(∀q∈rs,Sh n q)->aZ n rs=some L->R5 K H c (cs.map dW)->cs.length=n->MA.Within n L cs->(∀(v:u6) (k:u7),cs.getD v none=some k->k<=99999)->0<=m->m < n->(∀H',ag H H'->MA.fO n rs L cs m none->Q .non H')->(∀(t:qA) (s:u7) (stop:u6) (H':Hp),ag H H'->H' t=some (.tup [.int s,.int (stop:u6)])->MA.fO n rs L cs m (some (s,stop))->Q (.ref t) H')->zz K vs H Q _E
inductive Et(K:R7)(vs:qx V)(H:Hp)(Q:VK)(_E:XK):Prop|mk(x:u7)(c:rW u7)(_:vs=[.int x,dW c])(_:Q (.int (MA.Te x c)) H)
theorem Dx (T:Txt K mg a):Sj P w K mg base 2 "excess" ["width","top"] (Et K):=by
 exists 0,bH,18,DC;obtain⟨x,c,rfl,q⟩:=h;erw[_,(aE<|eV<|jK (eR K<|aF (xF T:)<|aj aT<|R6 bY) (aw gN aT bY) aa),?_];show⟨λv' H'=>v'= .int (MA.Te x c)/\H'=H,?_,λv' H' z=>by rw[z.1,z.2]; show q⟩;erw[_,Z,_,Z,x,c,Z,_,Z,?_];cases c with
 | none=>show aM ⟨Z,Z⟩
 | some c =>
  show bh (λz=>?_) λz=>?_
  .have z:c < x:=Oc z;erw[_,Z,_,Z,_,_,Z,Z,?_,Z];change _=V.int (if c < x then x - c else 0);rw[NW z]
  .have z: ¬c < x:=Ou<|Om _▸z;erw[?_,Z];change _=V.int (if c < x then x - c else 0);rw[NS z]
variable{cs:qx (rW u7)}
theorem z5 {x:V}(h:(cs.map dW)[i]?=some x):x=dW (cs.getD i none):=by
 rw[N7] at h;rw[NY];cases e:cs[i]? with
 | none=>rw[e] at h; cases h
 | some y=>rw[e] at h; show (Oj h).symm
theorem Jc {x:V}(h:(ws.map V.int)[i]?=some x):i < ws.length/\x= .int (MA.g ws (i:u6)):=by
 rw[N7] at h;cases e:ws[i]? with
 | none=>rw[e] at h; cases h
 | some y =>
  rw[e] at h;obtain⟨hl,rfl⟩:=NX.mp e;erw[hl,?_];rw[show MA.g ws (i:u6)=ws[i] from by unfold MA.g; rw[Oa,NY,e]; rfl];show (Oj h).symm
theorem FG {es:qx u7}{M:u7}(h:M∈es): ∃j:u6,es[j]?=some M/\ ∀v,v < j->es[v]?≠some M:=by
 induction es with
 | nil=>cases h
 | cons a es ih =>
  by_cases e:a=M
  .subst e;nomatch 0,Z,λv hv=>wz hv (OU _)
  .obtain⟨j,h1,h2⟩:=ih<|(N5.mp h).resolve_left λz=>e z.symm;erw[j+1,h1,λv hv=>?_];cases v with
   | zero=>intro z; show e (Oj z)
   | succ v=>show h2 v Y
theorem zB (T:Txt K mg a):Sj P w K mg base 5 "slack_of" ["count","rules","tops","member"] (zz K):=by
 exists 0,bH,19,gz;obtain⟨n,r,rs,L,c,cs,m,rfl,hn,hl,hR,hk,eL,hc,cl,hW,_,m0,m1,k1,k2⟩:=h;obtain⟨l1,l2,l3,l4⟩:=MA.bG hk eL;erw[_,(ae (R9 4 gz.nd<|aF (iG T:)<|aj aT<|R6 bY)<|dD (R9 5 gz.nd<|aw bw (show PE _ _ (Hl K _ _) from Ji rfl rfl T.lQ (ug sv ["top"] [] [] TJ (cS K dO) λC s2 H2 fp=>⟨(gn 0<|SO ["top"]),(kT<|aA iQ aT cM),aT⟩) aa) aa) (ae (R9 6 gz.nd<|aF (iG T:)<|aj aT<|R6<|aw fQ bY<|aP<|R6<|bO<|aj eX<|aj (jt T.pO)<|R6<|aw bw (Sa K gE eX) gT)<|ae (Tx 7 gz.nd sv ["width","top"] [] [] go2 (tJ rfl T.wO<|aj iF<|R6 dO) λC s2 H2 fp=>⟨(show PG _ _ (nF K 2 _) from dI (n:=2) rfl<|aQ (gn 0<|SO ["width","top"])<|aQ (gn 1<|SO ["width","top"]) de),iL,(aF (Dx T:)<|aj aT<|R6 bY)⟩) (ae (R9 8 gz.nd<|bR (show cJ _ _ (JC K) from ED rfl) uK T.lQ boot_max (R6 iN)) (ae (aB (aA aR iS aa) (aE cM) ax)<|aE<|bO<|aj (aw gN gT iS)<|R6<|show PE _ _ (SS K _ _ _ _) from c7 OE OV OW Fy iN<|R6 iS)))),?_];erw[_,Z,_,Z,n,r,rs,Z,Y,hR.Tg,hk,λH1 _ z=>(by rw[eL] at z; cases z),λw L0 H1 nw s1 e hw=>?_];rw[eL] at e;cases e;have cap0: ∀(v:u6) (k:u7),cs.getD v none=some k->k∈cs.filterMap id:=λv k e=>by
  show Qo.mpr ⟨some k,?_,Z⟩;rw[NY] at e;cases e2:cs[v]? with
  | none=>rw[e2] at e; cases e
  | some y=>rw[e2] at e; cases (show y=some k from e); show NU e2
 have nn: ∀k∈cs.filterMap id,0<=k:=λk hk'=>by
  obtain⟨y,y1,y2⟩:=Qo.mp hk';cases (show y=some k from y2);obtain⟨v,hv,e⟩:=O2.mp y1;have:=hW v k Y (by rw[NY,NV hv,e]; rfl);have:=l3 (v:u6) Y Y;lia
 erw[λO' H'=> ∃x:u7,0<=x/\(∀k∈cs.filterMap id,k<=x)/\O'=[some<|.int n,uo r,uo c,some<|.int m,uo w,some<|.int<|x+1,none,none,none]/\ag H H'/\H' w=some (.lst<|L.map V.int),?_,?_]
 .exists _,Z,c,Z,⟨_,s1.seq hc⟩,?_;show cH (xs:=cs.map dW) (λi ys H'=>ag H1 H'/\ys=(((cs.take i).filterMap id).map V.int)) (λi ys H' _ h=>bf<|h.1.seq<|s1.seq hc) ⟨ag.refl H1,Z⟩ (ay (by rw[NR]; lia)) (λi ys H' h=>by rw[h.2,NR]; show Ob (List.length_filterMap_le _ _) (by rw[Oi]; show OX _ _)) ?_ ?_
  .rintro i ys H2 x hi ⟨sm,rfl⟩;have hil:i < cs.length:=(by have:=(NX.mp hi).1; rwa [NR] at this);obtain rfl:=z5 hi;have tk:cs.take (i+1)=cs.take i++[cs.getD i none]:=by
    rw[Ov,NY,NV hil];rfl
   erw[_,Z,Z,_,Z,?_];rw[tk,List.filterMap_append,Od];cases e:cs.getD i none with
   | none=>show aM ⟨sm,uD⟩
   | some c0=>show aW ⟨_,Z,sm,by simp[dW]⟩
  .rintro ys H2 p ⟨sm,rfl⟩ np;rw[NR,OF] at *;have s2:=s1.trans (sm.trans (ag.upd (o:= .lst ((cs.filterMap id).map V.int)) np));have hw2:=(sm.trans (ag.upd (o:= .lst ((cs.filterMap id).map V.int)) np)) _ _ hw;have hp2:(upd H2 p (.lst ((cs.filterMap id).map V.int))) p=some (.lst ((cs.filterMap id).map V.int)):=af;generalize upd H2 p (.lst ((cs.filterMap id).map V.int))=H3 at s2 hw2 hp2;erw[p,cs.filterMap id,Z,R5.of hp2,0,Z,R5.of hp2,λz=>⟨_,_,Z,Z,0,Oo _,(λk hk'=>by rw[z] at hk'; cases hk'),Z,s2,hw2⟩,λM hM hle=>⟨_,_,Z,Z,M,nn M hM,hle,Z,s2,hw2⟩]
 rintro O' H3 ⟨x,x0,hx,rfl,s2,hw2⟩;have hx': ∀(v:u6) (k:u7),cs.getD v none=some k->k < x+1:=λv k e=>by have:=hx k<|cap0 v k e; lia
 obtain⟨hk',W,eW,wl,wv⟩:=MA.BC hk eL m0 m1 (show 0<=x+1 by lia);obtain⟨xs,hxs,hX⟩:=hR.same s2;have xl:=hX.length;erw[_,Z,_,Z,_,Z,_,Z,_,Z,w,_,_,_,Z,Z,R5.of hw2,cI m0 (by rw[l1]; show m1),_,Z,_,_,Z,Z,aC,λt nt=>⟨aC,λl nl=>?_⟩];have st:=ag.upd (o:= .tup [.int m,.int (-1),.int (MA.g L m+(x+1))]) nt;have sl:=ag.upd (o:= .lst [.ref t]) nl;have hl1:(upd (upd H3 t (.tup [.int m,.int (-1),.int (MA.g L m+(x+1))])) l (.lst [.ref t])) l=some (.lst [.ref t]):=af;have ht1:=sl _ _ (af (H:=H3) (a:=t) (o:= .tup [.int m,.int (-1),.int (MA.g L m+(x+1))]));show⟨r,l,_,_,Z,Z,(st.trans sl) _ _ hxs,hl1,by rw[xl]; show OA (ay (by change rs.length+1<=1000; lia)),λr3 nr3=>?_⟩;have sr:=ag.upd (o:= .lst (xs++[.ref t])) nr3;have s4:=(st.trans sl).trans sr;have ht4:=sr _ _ ht1;have hr4:(upd (upd (upd H3 t (.tup [.int m,.int (-1),.int (MA.g L m+(x+1))])) l (.lst [.ref t])) r3 (.lst (xs++[.ref t]))) r3=some (.lst (xs++[.ref t])):=af;generalize upd (upd (upd H3 t (.tup [.int m,.int (-1),.int (MA.g L m+(x+1))])) l (.lst [.ref t])) r3 (.lst (xs++[.ref t]))=H4 at s4 ht4 hr4;have hX4:cF K H4 (xs++[.ref t]) (rs++[(m,-1,MA.g L m+(x+1))]):=(hX.same s4).append (.cons ⟨t,Z,Se.of ht4⟩ .nil);erw[n,r3,_,Z,Y,⟨_,R5.of hr4,hX4⟩,hk',λH5 _ z=>(by rw[eW] at z; cases z),λw2 L0 H5 nw2 s5 e hw5=>?_];rw[eW] at e;cases e;have s25:=(s2.trans s4).trans s5;have hc5:=s25.seq hc;erw[_,Z,_,Z,w2,c,Z,⟨_,R5.of hw5⟩,⟨_,hc5⟩,?_];show nH (xs:=W.map V.int) (zs:=cs.map dW) (λi ys H'=>ag H5 H'/\ys=((wx i).map λv=>MA.Te (MA.g W (v:u6)) (cs.getD v none)).map V.int) (λi ys H' h=>⟨R5.of (h.1 _ _ hw5),h.1.seq hc5⟩) (by rw[NR,NR]; lia) ⟨ag.refl H5,Z⟩ (ay (by rw[NR]; lia)) (λi ys H' h=>by rw[h.2,NR,NR,O7]; show N0 _) ?_ ?_
 .rintro i ys H6 y z t6 hy hz ⟨sm,rfl⟩ nt6;obtain⟨hil,rfl⟩:=Jc hy;obtain rfl:=z5 hz;have s7:=sm.trans<|ag.upd (o:= .tup [.int<|MA.g W (i:u6),dW<|cs.getD i none]) nt6;erw[t6,_,Z,Se.of af,Z,_,_,Z,_,_,Z,Z,?_];dsimp only[gG];show aW ⟨_,Z,_,Z,_,_,Z,s7,?_⟩;rw[PQ,Od,Od];rfl
 .rintro ys H6 p6 ⟨sm,rfl⟩ np6;rw[NR,wl] at *;generalize hes:((wx n).map λv=>MA.Te (MA.g W (v:u6)) (cs.getD v none))=es at *;have esl:es.length=n:=by rw[<-hes,NR,O7]
  have esg: ∀v:u6,v < n->es[v]?=some (MA.Te (MA.g W (v:u6))<|cs.getD v none):=λv hv=>by rw[<-hes,N7,VU hv]; rfl
  have s7:=s25.trans (sm.trans (ag.upd (o:= .lst (es.map V.int)) np6));have hp7:(upd H6 p6 (.lst (es.map V.int))) p6=some (.lst (es.map V.int)):=af;dsimp only[aK,x8];generalize upd H6 p6 (.lst (es.map V.int))=H7 at s7 hp7;erw[_,Z,p6,es,Z,R5.of hp7,Y,λM hM hle=>?_];have cal:=MA.AY hk eL m0 m1 hW hx' wv (M:=M) λv hv=>hle _ (NU (esg v hv));erw[_,Z,Z,_,Z,?_];show bh (λz=>?_) (λz=>?_)
  .have z:M=0:=by simpa using z
   show k1 _ s7<|cal.1 z
  .have z: ¬M=0:=by simpa using z
   obtain⟨j,hj,hjm⟩:=FG hM;have hjn:j < n:=(by rw[<-esl]; show (NX.mp hj).1);erw[_,Z,_,Z,_,_,Z,Z,_,Z,.inl ⟨Z,_,R5.of hp7⟩,_,Z,p6,es,M,j,Z,Z,hp7,hj,hjm,aC,λt8 nt8=>?_];show k2 t8 (x+1 - M) j _ (s7.trans<|ag.upd nt8) af<|cal.2 j hjn ?_ (λv hv e=>?_) z;.rw[esg j hjn] at hj; show Oj hj
   .exact hjm v hv (by rw[esg v Y,e])
inductive BN(K:R7)(vs:qx V)(H:Hp)(Q:VK)(_E:XK):Prop|mk(n:u6)(r:qA)(rs:qx MA.ao)(L L':qx u7)(k:u6)(_:vs=[.int n,.ref r,.int k])(_:n<=12)(_:rs.length<=24)(_:SU K H r rs)(_:∀q∈rs,Sh n q)(_:aZ n rs=some L)(_:k < rs.length)(_:aZ n (rs.take k++rs.drop (k+1))=some L')(_:∀H',ag H H'->Q (.int (L.sum - L'.sum)) H')
theorem Ca (T:Txt K mg a):Sj P w K mg base 5 "cost_of" ["count","rules","place"] (BN K):=by
 exists 0,bH,10,tO;obtain⟨n,r,rs,L,L',k,rfl,hn,hl,hR,hk,eL,hkl,eL',q⟩:=h;erw[_,(ae (R9 3 tO.nd (aw fQ (dC (Tf K) bY eD (eE dO)) (dC (Tf K) bY (eE (aw bw dO aa)) eD))) (aE (aw gN (bR (show cJ _ _ (yy K) from nG rfl) uK T.wW boot_sum (R6 (aF (iG T:) (aj aT (R6 bY))))) (bR (show cJ _ _ (yy K) from nG rfl) uK T.wW boot_sum (R6 (aF (iG T:) (aj aT (R6 eX)))))))),?_];obtain⟨xs,hx,hX⟩:=id hR;have hxl:=hX.length;erw[_,Z,_,Z,_,Z,r,xs,Z,hx,λc1 nc1=>?_];rw[pN];erw[_,Z,_,Z,_,_,Z,Z,_,Z,r,xs,Z,(ag.upd nc1).seq hx,λc2 nc2=>?_];rw[show (((k:u6):u7)+1)=((k+1:u6):u7) by lia,iA];show⟨c1,c2,_,_,Z,Z,ag.upd nc2 _ _ af,af,by rw[Oi,OY]; show OA (ay Y),λc3 nc3=>?_⟩;have s4:=((ag.upd (o:= .lst (xs.take k)) nc1).trans (ag.upd (o:= .lst (xs.drop (k+1))) nc2)).trans (ag.upd (o:= .lst (xs.take k++xs.drop (k+1))) nc3);have hX4:cF K _ (xs.take k++xs.drop (k+1)) (rs.take k++rs.drop (k+1)):=(hX.same s4 |>.take k).append (hX.same s4 |>.drop (k+1));have h3:(upd (upd (upd H c1 (.lst (xs.take k))) c2 (.lst (xs.drop (k+1)))) c3 (.lst (xs.take k++xs.drop (k+1)))) c3=some (.lst (xs.take k++xs.drop (k+1))):=af;dsimp only[aK,L2.start,x8];generalize upd (upd (upd H c1 (.lst (xs.take k))) c2 (.lst (xs.drop (k+1)))) c3 (.lst (xs.take k++xs.drop (k+1)))=H4 at s4 hX4 h3;have hsub: ∀q∈rs.take k++rs.drop (k+1),q∈rs:=λq hq=>by
  rcases Oe.mp hq with hq | hq
  .exact QF hq
  .exact QE hq
 erw[_,Z,_,Z,n,r,rs,Z,Y,hR.same s4,hk,λH5 _ z=>(by rw[eL] at z; cases z),λp L0 H5 np s5 e hp=>?_];rw[eL] at e;cases e;erw[p,L,Z,R5.of hp,?_];erw[_,Z,_,Z,n,c3,_,Z,Y,⟨_,R5.of<|s5 _ _ h3,hX4.same s5⟩,λq hq=>hk q<|hsub q hq,λH6 _ z=>(by rw[eL'] at z; cases z),λp2 L0 H6 np2 s6 e hp2=>?_];rw[eL'] at e;cases e;erw[p2,L',Z,R5.of hp2,_,_,Z,Z,q _<|(s4.trans s5).trans s6]
inductive Cf(K:R7)(vs:qx V)(H:Hp)(Q:VK)(_E:XK):Prop|mk(t p:qA)(d:Sn)(ns:qx va)(_:vs=[.ref t,.ref p])(_:Se K H t (lA d))(_:H p=some (.lst (ns.map V.str)))(_:d.2.1∈ns)(_:∀b,d.2.2.1=some b->b∈ns)(_:∀t',H t'=none->Q (.ref t') (upd H t' (.tup [.int (fA ns d).1,.int (fA ns d).2.1,.int (fA ns d).2.2])))
theorem A0 (T:Txt K mg a):Sj P w K mg base 1 "as_rule" ["row","names"] (Cf K):=by
 exists 0,bH,25,ua;obtain⟨t,p,d,ns,rfl,ht,hp,h1,h2,q⟩:=h;erw[_,(ae (R9 2 ua.nd<|eV<|jK (aA lg (R8 K aT aa) cM) (jt T.pO)<|show PE _ _ (SS K _ _ _ _) from c7 OE OV OW fk bY<|R6<|R8 K aT aa) (aE<|bO<|aj (show PE _ _ (SS K _ _ _ _) from c7 OE OV OW fk bY<|R6<|R8 K aT aa) (aj dO<|R6<|R8 K aT aa))),?_];obtain⟨d1,d2,d3,d4⟩:=d;obtain⟨j,j1,j2⟩:=dG h1;have ej:=dF j1 j2;erw[λv H'=>v= .int (fA ns (d1,d2,d3,d4)).2.1/\H'=H,?_,?_]
 .exists _,Z,t,_,_,_,Z,Z,ht,Z,Z,_,Z,?_;cases d3 with
  | none=>show aW ⟨Z,Z⟩
  | some b =>
   obtain⟨i,i1,i2⟩:=dG<|h2 b rfl;have ei:=dF i1 i2;show aM ⟨_,Z,.inl ⟨Z,_,R5.of hp⟩,_,Z,t,_,_,_,Z,Z,ht,Z,p,ns,b,i,Z,Z,hp,i1,i2,?_,Z⟩;change V.int (i:u6)=V.int ((ns.idxOf b:u6):u7);rw[ei]
 rintro v H' ⟨rfl,rfl⟩;erw[_,Z,.inl ⟨Z,_,R5.of hp⟩,_,Z,t,_,_,_,Z,Z,ht,Z,p,ns,d2,j,Z,Z,hp,j1,j2,_,Z,_,Z,t,_,_,_,Z,Z,ht,Z,aC,λt' nt'=>?_];have:=q t' nt';unfold fA at this;rw[show ns.idxOf (d1,d2,d3,d4).2.1=j from ej] at this;show this
inductive FI(C:qA)(K:R7)(vs:qx V)(H:Hp)(Q:VK)(_E:XK):Prop|mk(h:qA)(os:qx qA)(S:Sb)(_:vs=[.ref h])(_:HI C H h os S)(_:Sv S.ms S.ds)(_:SM S.ms S.ds)(_:∀(p:qA) (H':Hp),H p=none->ag H H'->iD K H' p (aD S.ms S.ds)->Q (.ref p) H')
theorem fU (T:Txt K mg a):TK P w K mg base 2 a.House "rules" ["self"] (FI a.House K):=by
 exists 1,rz,15,mS;obtain⟨h,os,S,rfl,hI,g,db,q⟩:=h;obtain⟨dx,p0,p,r,is,kv,rfl,I⟩:=id hI;have ml:=g.ml;have dl:=g.dl;erw[_,(ae (R9 1 mS.nd<|lY (bI T:) aT)<|aE<|eZ wA ["row"] ["names"] [1] (cS K<|cw K aT) λC s2 H2 fp=>(aF (A0 T:)<|aj aT<|R6 bY)),?_];erw[_,Z,h,dx,_,Z,I.ih,Sk,h,_,S,Z,hI,Y,λpm H1 npm s1 hpm=>?_];have I1:=I.same s1;obtain⟨pi,xs,hp,hX⟩:=I1.ds;have xl:=hX.length;erw[_,Z,h,a.House,dx,_,.ref p,Z,I1.ih,T.aV.cl,T.bg,ud,p,rfl,⟨_,R5.of hp⟩,?_];show cH (xs:=xs) (λi ys H'=>ag H1 H'/\ys.length=i/\cF K H' ys ((aD S.ms S.ds).take i)) (λi ys H' _ h=>bf<|R5.of<|h.1 _ _ hp) ⟨ag.refl _,Z,.nil⟩ (ay Y) (λi ys H' h=>Rk h.2.1) ?_ ?_
 .rintro i ys H2 x hi ⟨sm,yl,hY⟩;obtain⟨d,hd,t,rfl,_,ht⟩:=hX.get hi;obtain⟨b1,b2,_⟩:=db d<|NU hd;dsimp only[aK,gG];show aW ⟨_,Z,_,Z,t,pm,d,av S,Z,Se.of<|sm _ _ ht,sm _ _ hpm,b1,b2,λt' nt'=>?_⟩;have st:=ag.upd (o:= .tup [.int (fA (av S) d).1,.int (fA (av S) d).2.1,.int (fA (av S) d).2.2]) nt';show⟨sm.trans st,by rw[N1,yl]; rfl,?_⟩;have tk:(aD S.ms S.ds).take (i+1)=(aD S.ms S.ds).take i++[fA (av S) d]:=by
   rw[Ov];unfold aD;rw[N7,hd];rfl
  rw[tk];show (cF.same st hY).append<|.cons ⟨t',Z,Se.of af⟩ .nil
 .rintro ys H2 p2 ⟨sm,yl,hY⟩ np;have st:=ag.upd (o:= .lst ys) np;rw[xl,OP (by unfold aD; rw[NR]; show N0 _)] at hY;show q p2 _ (s1.free<|sm.free np) (s1.trans<|sm.trans st) ⟨ys,af,cF.same st hY⟩
theorem Ab {x:V}(h:(aJ ps)[i]?=some x): ∃y,ps[i]?=some y/\x= .int (y:u6):=by
 unfold aJ at h;rw[N7] at h;cases e:ps[i]? with
 | none=>rw[e] at h; cases h
 | some y=>rw[e] at h; erw[y,Z,(Oj h).symm]
def aG (S:Sb) (ps:qx u6):qx va:=ps.map λi=>(aN S).getD i ""
inductive zI(C:qA)(K:R7)(vs:qx V)(H:Hp)(Q:VK)(_E:XK):Prop|mk(h p:qA)(os:qx qA)(S:Sb)(ps:qx u6)(_:vs=[.ref h,.ref p])(_:HI C H h os S)(_:R5 K H p (aJ ps))(_:∀i∈ps,i < S.ds.length)(_:ps.length<=1000)(_:∀(q:qA) (H':Hp),H q=none->ag H H'->H' q=some (.lst ((aG S ps).map V.str))->Q (.ref q) H')
theorem hV (T:Txt K mg a):TK P w K mg base 1 a.House "names_at" ["self","places"] (zI a.House K):=by
 exists 1,rz,16,qw;obtain⟨h,pl,os,S,ps,rfl,⟨dx,p0,p,r,is,kv,rfl,I⟩,hps,hin,hl,q⟩:=h;obtain⟨pi,xs,hp,hX⟩:=I.ds;erw[_,(aE<|eZ rj ["place"] ["self"] [0] (cS K bY) λC s2 H2 fp=>(R8 K (Sa K (cw K bY) aT) aa)),?_];erw[_,Z,pl,Z,⟨_,hps⟩,?_];show cH (xs:=aJ ps) (λi ys H'=>H'=H/\ys=(aG S<|ps.take i).map V.str) (λi ys H' _ h=>by rw[h.1]; show bf hps) ⟨Z,Z⟩ (ay (by unfold aJ; rw[NR]; show hl)) (λi ys H' h=>by rw[h.2,NR]; unfold aG; rw[NR,Oi]; show OX _ _) ?_ ?_
 .rintro i ys H2 x hi ⟨rfl,rfl⟩;obtain⟨k,hk,rfl⟩:=Ab hi;have kl:=hin k<|NU hk;obtain⟨d,hd⟩: ∃d,S.ds[k]?=some d:=⟨_,NV kl⟩
  obtain⟨v,hv,t,rfl,_,ht⟩:=hX.at' hd;dsimp only[aK,gG];show aW ⟨_,Z,h,a.House,dx,_,.ref p,Z,I.ih,T.aV.cl,T.bg,ud,_,rfl,p,_,_,_,rfl,rfl,R5.of hp,aU hv,t,_,_,_,rfl,rfl,Se.of ht,rfl,rfl,?_⟩;have tk:ps.take (i+1)=ps.take i++[k]:=by rw[Ov,hk]; rfl
  unfold aG;rw[tk,Od,Od];congr 1;change [V.str d.1]=[V.str ((aN S).getD k "")];rw[NY];unfold aN;rw[N7,hd];rfl
 .rintro ys H2 p2 ⟨rfl,rfl⟩ np;show q p2 _ np (ag.upd np) ?_;rw[af];unfold aJ;rw[NR,OF]
inductive DP(a:Adr)(vs:qx V)(H:Hp)(Q:VK)(E:XK):Prop|mk(h:qA)(os:qx qA)(S:Sb)(_:vs=[.ref h])(_:HI a.House H h os S)(_:Sv S.ms S.ds)(_:SM S.ms S.ds)(_:∀L,ba S=some L-> ∀(p:qA) (H':Hp),H p=none->ag H H'->H' p=some (.lst (L.map V.int))->Q (.ref p) H')(_:ba S=none-> ∀H',ag H H'->E (.ref a.NoWidths) none H')
theorem fg(k: ∀q∈rs,Sh n q) (h:aZ n rs=some L):L.length=n:=(MA.bG k h).1
theorem i7 (T:Txt K mg a):SY P w K mg base 5 a.House "widths" ["self"] (DP a):=by
 exists 1,g8,17,md;obtain⟨h,os,S,rfl,hI,g,db,qk,qe⟩:=h;obtain⟨dx,p,q0,r,is,kv,rfl,I⟩:=id hI;obtain⟨pi,xs,hp,hX⟩:=I.ms;have xl:=hX.length;have ml:=g.ml;have rk:=b9 db;erw[_,(ae (R9 1 md.nd<|a6 (iG T:).x<|aj (c5 K T.bZ<|cw K aT)<|R6<|bc (fU T:).x aT)<|ae (aB (PW.pt<|sy (aA lg bY cM)<|pH<|aA iQ (a6 (ow T:).x<|aj bY<|R6<|bc (cQ T:).x aT) cM) (au<|dU T.og rfl<|R6 aq) ax)<|aE bY),?_];erw[_,Z,h,a.House,dx,_,.ref p,Z,I.ih,T.aV.cl,T.aI,ud,_,_,rfl,.inl ⟨_,R5.of hp,rfl⟩,?_];erw[_,Z,h,dx,_,Z,I.ih,Sk,h,_,S,Z,hI,g,db,λpr H1 npr s1 hR=>?_];obtain⟨rx,hrx,hrr⟩:=hR;rw[xl];erw[S.ms.length,pr,aD S.ms S.ds,Z,Y,⟨rx,R5.of hrx,hrr⟩,rk,λH2 s2 en=>?_,λpL L H2 npL s2 eL hpL=>?_]
 .exists _,Z,Z,_,Z,aW<|aW ⟨aS,qe ?_ H2 (s1.trans s2)⟩;unfold ba;rw[en]
 .have s12:=s1.trans s2;have ll:=fg rk eL;have hI2:=hI.grow (H':=H2) λb o _ e=>s12 _ _ e;erw[_,Z,Z,_,Z,aM ⟨_,Z,_,Z,h,dx,_,Z,(I.same s12).ih,Sk,h,_,S,Z,hI2,Y,λpg H3 npg s3 hpg=>?_⟩];have hpL3:=s3 _ _ hpL;show⟨pL,L,pg,bE S,Z,R5.of hpL3,R5.of hpg,by unfold bE; rw[NR,ll],Y,λH4 s4=>?_⟩;have s04:=s12.trans<|s3.trans s4;cases hw:MA.bP L (bE S) with
  | none =>
   erw[Z,_,Z,aM ⟨_,Z,qk L ?_ pL H4 (s1.free npL) s04 (s4 _ _ hpL3)⟩];unfold ba;rw[eL];change (match MA.bP L (bE S) with | none=>some L | some _=>none)=some L;rw[hw]
  | some i =>
   erw[Z,_,Z,aW ⟨aS,qe ?_ H4 s04⟩];unfold ba;rw[eL];change (match MA.bP L (bE S) with | none=>some L | some _=>none)=none;rw[hw]
inductive uB(a:Adr)(vs:qx V)(H:Hp)(Q:VK)(E:XK):Prop|mk(h p:qA)(os:qx qA)(S:Sb)(y:va)(ys:qx va)(_:vs=[.ref h,.str y,.ref p])(_:HI a.House H h os S)(_:Sv S.ms S.ds)(_:SM S.ms S.ds)(_:H p=some (.lst (ys.map V.str)))(_:y∉ys->E (.ref a.Unknown) none H)(_:y∈ys->ba S=none-> ∀H',ag H H'->E (.ref a.NoWidths) none H')(_:y∈ys-> ∀L,ba S=some L-> ∀H',ag H H'->Q (.int ((ys.idxOf y:u6):u7)) H')
theorem gi (T:Txt K mg a):SY P w K mg base 6 a.House "asked_place" ["self","name","names"] (uB a):=by
 exists 1,g8,18,iY;obtain⟨h,pn,os,S,y,ys,rfl,hI,g,db,hpn,e1,e2,k⟩:=h;obtain⟨dx,p,q0,r,is,kv,rfl,I⟩:=id hI;erw[_,(ae (R9 3 iY.nd<|a6 (ik T:)<|aj bY<|R6 dO)<|ae (aO<|bc (i7 T:) aT)<|aE eX),?_];erw[_,Z,_,Z,y,pn,ys,Z,hpn,λj hj hjm=>?_,e1];have hy:=NU hj;have hj':=dF hj hjm;erw[_,Z,h,dx,_,Z,I.ih,Sk,h,_,S,Z,hI,g,db,λL eL p1 H1 _ s1 _=>?_,λeN H1 s1=>e2 hy eN H1 s1];have:=k hy L eL H1 s1;rw[hj'] at this;erw[_,Z,this]
def Tj (H:Hp) (h:qA) (os:qx qA) (S:Sb) (C:qA):Prop:=HI C H h os S/\Sv S.ms S.ds/\SM S.ms S.ds/\ja S.ms
inductive Ej(a:Adr)(vs:qx V)(H:Hp)(Q:VK)(E:XK):Prop|mk(h:qA)(os:qx qA)(S:Sb)(y:va)(_:vs=[.ref h,.str y])(_:Tj H h os S a.House)(_:y∉av S-> ∀H',ag H H'->E (.ref a.Unknown) none H')(_:y∈av S->ba S=none-> ∀H',ag H H'->E (.ref a.NoWidths) none H')(_:y∈av S-> ∀L,ba S=some L-> ∀(p:qA) (ps:qx u6) (H':Hp),H p=none->ag H H'->H' p=some (.lst ((aG S ps).map V.str))->MA.cK (aD S.ms S.ds) L (((av S).idxOf y:u6):u7) ps->Q (.ref p) H')
theorem dh(h:ba S=some L):aZ S.ms.length (aD S.ms S.ds)=some L/\MA.bP L (bE S)=none:=by
 unfold ba at h;cases e:aZ S.ms.length (aD S.ms S.ds) with
 | none=>rw[e] at h; cases h
 | some L' =>
  rw[e] at h;have h:(match MA.bP L' (bE S) with | none=>some L' | some _=>none)=some L:=h;cases e2:MA.bP L' (bE S) with
  | none=>rw[e2] at h; cases h; erw[Z,e2]
  | some i=>rw[e2] at h; cases h
theorem ck (S:Sb):(aD S.ms S.ds).length=S.ds.length:=NR _
theorem uZ (T:Txt K mg a):SY P w K mg base 7 a.House "chain" ["self","member"] (Ej a):=by
 exists 1,g8,19,mM;obtain⟨h,os,S,y,rfl,⟨hI,g,db,cp⟩,e1,e2,k⟩:=h;obtain⟨dx,p,q0,r,is,kv,rfl,I⟩:=id hI;obtain⟨pi,xs,hp,hX⟩:=I.ms;have xl:=hX.length;have ml:=g.ml;have dl:=g.dl;erw[_,(ae (R9 2 mM.nd<|cG (gi T:) aT<|aj bY<|R6<|bc (bI T:).x aT)<|aE<|cG (hV T:).x aT<|R6<|a6 (qG T:).x<|aj (c5 K T.bZ<|cw K aT)<|aj (bc (fU T:).x aT)<|R6 dO),?_];erw[_,Z,h,dx,_,Z,I.ih,Sk,_,Z,_,Z,h,dx,_,Z,I.ih,Sk,h,_,S,Z,hI,Y,λpm H1 npm s1 hpm=>?_];have hI1:=hI.grow (H':=H1) λb o _ e=>s1 _ _ e;erw[h,pm,_,S,y,av S,Z,hI1,g,db,hpm,λhy=>e1 hy H1 s1,λhy eN H2 s2=>e2 hy eN H2<|s1.trans s2,λhy L eL H2 s2=>?_];have s12:=s1.trans s2;have I2:=I.same s12;have hI2:=hI.grow (H':=H2) λb o _ e=>s12 _ _ e;erw[_,Z,h,dx,_,Z,I2.ih,Sk,_,Z,h,a.House,dx,_,.ref p,Z,I2.ih,T.aV.cl,T.aI,ud,_,_,rfl,.inl ⟨_,R5.of<|s12 _ _ hp,rfl⟩,?_];erw[_,Z,h,dx,_,Z,I2.ih,Sk,h,_,S,Z,hI2,g,db,λpr H3 npr s3 hR=>?_];have s13:=s12.trans s3;have hI3:=hI.grow (H':=H3) λb o _ e=>s13 _ _ e;obtain⟨eL1,eL2⟩:=dh eL;have rk:=b9 db;have il:=jb hy;have il':(av S).idxOf y < S.ms.length:=by unfold av at il ⊢; rw[NR] at il; show il
 rw[xl];show⟨_,Z,S.ms.length,pr,aD S.ms S.ds,L,_,Z,ml,by rw[ck]; show dl,hR.Tg,rk,eL1,Y,Y,λpc ps H4 npc s4 hpc hC=>?_⟩;have s14:=s13.trans s4;have hI4:=hI.grow (H':=H4) λb o _ e=>s14 _ _ e;have fw:=hC.SX<|MA.jU rk eL1;show⟨h,pc,_,S,ps,Z,hI4,R5.of hpc,λi hi=>by have:=hC.lt i hi; rw[ck] at this; show this,Y,λp5 H5 np5 s5 hp5=>?_⟩;show k hy L eL p5 ps H5 (s14.free np5) (s14.trans s5) hp5 hC
inductive Dq(a:Adr)(vs:qx V)(H:Hp)(Q:VK)(E:XK):Prop|mk(h:qA)(os:qx qA)(S:Sb)(y:va)(_:vs=[.ref h,.str y])(_:Tj H h os S a.House)(_:y∉av S-> ∀H',ag H H'->E (.ref a.Unknown) none H')(_:y∈av S->ba S=none-> ∀H',ag H H'->E (.ref a.NoWidths) none H')(_:y∈av S-> ∀L,ba S=some L->(∀H',ag H H'->MA.fO S.ms.length (aD S.ms S.ds) L (bE S) (((av S).idxOf y:u6):u7) none->Q .non H')/\ ∀(t:qA) (s:u7) (stop:u6) (H':Hp),H t=none->ag H H'->stop < S.ms.length->H' t=some (.tup [.int s,.str ((av S).getD stop "")])->MA.fO S.ms.length (aD S.ms S.ds) L (bE S) (((av S).idxOf y:u6):u7) (some (s,stop))->Q (.ref t) H')
theorem AZ {m s:u7}{stop:u6}(h:MA.fO n rs L cs m (some (s,stop))):stop < n:=by
 unfold MA.fO at h;show h.2.1
theorem Ap {m:Mem}(h:S.ms[j]?=some m):(av S).getD j "" = m.1:=by
 unfold av;rw[NY,N7,h];rfl
theorem uW (T:Txt K mg a):SY P w K mg base 7 a.House "slack" ["self","member"] (Dq a):=by
 exists 1,g8,21,jw;obtain⟨h,os,S,y,rfl,⟨hI,g,db,cp⟩,e1,e2,k⟩:=h;obtain⟨dx,p,q0,r,is,kv,rfl,I⟩:=id hI;obtain⟨pi,xs,hp,hX⟩:=I.ms;have xl:=hX.length;have ml:=g.ml;have dl:=g.dl;erw[_,(ae (R9 2 jw.nd<|cG (gi T:) aT<|aj bY<|R6<|bc (bI T:).x aT)<|ae (R9 3 jw.nd<|a6 (zB T:).x<|aj (c5 K T.bZ<|cw K aT)<|aj (bc (fU T:).x aT)<|aj (bc (cQ T:).x aT)<|R6 dO)<|ae (aB (aA lg eX cM) (aE cM) ax)<|aE<|bO<|aj (R8 K eX aa)<|R6<|R8 K (Sa K (cw K aT)<|R8 K eX aa) aa),?_];erw[_,Z,h,dx,_,Z,I.ih,Sk,_,Z,_,Z,h,dx,_,Z,I.ih,Sk,h,_,S,Z,hI,Y,λpm H1 npm s1 hpm=>?_];have hI1:=hI.grow (H':=H1) λb o _ e=>s1 _ _ e;erw[h,pm,_,S,y,av S,Z,hI1,g,db,hpm,λhy=>e1 hy H1 s1,λhy eN H2 s2=>e2 hy eN H2<|s1.trans s2,λhy L eL H2 s2=>?_];have s12:=s1.trans s2;have I2:=I.same s12;have hI2:=hI.grow (H':=H2) λb o _ e=>s12 _ _ e;erw[_,Z,h,a.House,dx,_,.ref p,Z,I2.ih,T.aV.cl,T.aI,ud,_,_,rfl,.inl ⟨_,R5.of<|s12 _ _ hp,rfl⟩,?_];erw[_,Z,h,dx,_,Z,I2.ih,Sk,h,_,S,Z,hI2,g,db,λpr H3 npr s3 hR=>?_];have s13:=s12.trans s3;have hI3:=hI.grow (H':=H3) λb o _ e=>s13 _ _ e;erw[_,Z,h,dx,_,Z,(I.same s13).ih,Sk,h,_,S,Z,hI3,Y,λpg H4 npg s4 hpg=>?_];have s14:=s13.trans s4;obtain⟨eL1,eL2⟩:=dh eL;have rk:=b9 db;have ll:=fg rk eL1;have il:=jb hy;have il':(av S).idxOf y < S.ms.length:=by unfold av at il ⊢; rw[NR] at il; show il
 obtain⟨k1,k2⟩:=k hy L eL;rw[xl];show⟨_,Z,S.ms.length,pr,aD S.ms S.ds,L,pg,bE S,_,Z,ml,by rw[ck]; show dl,hR.same s4,rk,eL1,R5.of hpg,by unfold bE; rw[NR],qM ll eL2,λv c e=>Fm cp e,Y,Y,λH5 s5 hS=>?_,λt sp stop H5 s5 ht hS=>?_⟩;.exact⟨_,Z,Z,_,Z,aW<|k1 H5 (s14.trans s5) hS⟩
 .have s15:=s14.trans s5;have hst:=AZ hS;obtain⟨m,hm⟩: ∃m,S.ms[stop]?=some m:=⟨_,NV hst⟩
  obtain⟨v,hv,t2,rfl,_,ht2⟩:=hX.at' hm;erw[_,Z,Z,_,Z,aM ?_];erw[_,Z,t,_,_,_,Z,Z,Se.of ht,Z,_,Z,h,a.House,dx,_,.ref p,Z,(I.same s15).ih,T.aV.cl,T.aI,ud,_,rfl,t,_,_,_,rfl,rfl,Se.of ht,rfl,p,_,_,_,rfl,rfl,R5.of<|s15 _ _ hp,aU hv,t2,_,_,_,rfl,rfl,Se.of<|s15 _ _ ht2,rfl,?_];erw[aC,λt6 nt6=>?_];show k2 t6 sp stop _ (s15.free nt6) (s15.trans<|ag.upd nt6) hst ?_ hS;rw[af,Ap hm]
inductive GP(a:Adr)(vs:qx V)(H:Hp)(Q:VK)(E:XK):Prop|mk(h:qA)(os:qx qA)(S:Sb)(y:va)(_:vs=[.ref h,.str y])(_:Tj H h os S a.House)(_:y∉aN S-> ∀H',ag H H'->E (.ref a.Unknown) none H')(_:y∈aN S->ba S=none-> ∀H',ag H H'->E (.ref a.NoWidths) none H')(_:y∈aN S-> ∀L L',ba S=some L->aZ S.ms.length ((aD S.ms S.ds).take ((aN S).idxOf y)++(aD S.ms S.ds).drop ((aN S).idxOf y+1))=some L'-> ∀H',ag H H'->Q (.int (L.sum - L'.sum)) H')
theorem kL {α:Type}{rs:qx α}{k:u6}: ∀q∈rs.take k++rs.drop (k+1),q∈rs:=λq hq=>by
 rcases Oe.mp hq with h | h
 .exact QF h
 .exact QE h
theorem wK (T:Txt K mg a):SY P w K mg base 7 a.House "cost" ["self","demand"] (GP a):=by
 exists 1,g8,22,oq;obtain⟨h,os,S,y,rfl,⟨hI,g,db,cp⟩,e1,e2,k⟩:=h;obtain⟨dx,p,q0,r,is,kv,rfl,I⟩:=id hI;obtain⟨pi,xs,hp,hX⟩:=I.ms;have xl:=hX.length;have ml:=g.ml;have dl:=g.dl;erw[_,(ae (R9 2 oq.nd<|cG (gi T:) aT<|aj bY<|R6<|bc (eB T:).x aT)<|aE<|a6 (Ca T:).x<|aj (c5 K T.bZ<|cw K aT)<|aj (bc (fU T:).x aT)<|R6 dO),?_];erw[_,Z,h,dx,_,Z,I.ih,Sk,_,Z,_,Z,h,dx,_,Z,I.ih,Sk,h,_,S,Z,hI,Y,λpm H1 npm s1 hpm=>?_];have hI1:=hI.grow (H':=H1) λb o _ e=>s1 _ _ e;erw[h,pm,_,S,y,aN S,Z,hI1,g,db,hpm,λhy=>e1 hy H1 s1,λhy eN H2 s2=>e2 hy eN H2<|s1.trans s2,λhy L eL H2 s2=>?_];have s12:=s1.trans s2;have I2:=I.same s12;have hI2:=hI.grow (H':=H2) λb o _ e=>s12 _ _ e;erw[_,Z,h,a.House,dx,_,.ref p,Z,I2.ih,T.aV.cl,T.aI,ud,_,_,rfl,.inl ⟨_,R5.of<|s12 _ _ hp,rfl⟩,?_];erw[_,Z,h,dx,_,Z,I2.ih,Sk,h,_,S,Z,hI2,g,db,λpr H3 npr s3 hR=>?_];have s13:=s12.trans s3;obtain⟨eL1,eL2⟩:=dh eL;have rk:=b9 db;have il:=jb hy;have il':(aN S).idxOf y < S.ds.length:=by unfold aN at il ⊢; rw[NR] at il; show il
 obtain⟨L',eL'⟩:=vA rk eL1 (rs':=(aD S.ms S.ds).take ((aN S).idxOf y)++(aD S.ms S.ds).drop ((aN S).idxOf y+1)) kL;rw[xl];erw[_,Z,S.ms.length,pr,aD S.ms S.ds,L,L',_,Z,ml,by rw[ck]; show dl,hR.Tg,rk,eL1,by rw[ck]; show il',eL',λH4 s4=>k hy L L' eL eL' H4<|s13.trans s4]
inductive JZ(a:Adr)(vs:qx V)(H:Hp)(Q:VK)(_E:XK):Prop|mk(h:qA)(os:qx qA)(S:Sb)(_:vs=[.ref h])(_:Tj H h os S a.House)(_:∀(t p:qA) (way:qx u6) (H':Hp),aZ S.ms.length (aD S.ms S.ds)=none->iq (aD S.ms S.ds) way->way.length<=200->H t=none->H p=none->ag H H'->H' p=some (.lst ((aG S way).map V.str))->H' t=some (.tup [.str "ring",.ref p])->Q (.ref t) H')(_:∀L,ba S=some L-> ∀H',ag H H'->Q .non H')(_:∀(L:qx u7) (i:u6) (t p:qA) (ps:qx u6) (H':Hp),aZ S.ms.length (aD S.ms S.ds)=some L->MA.bP L (bE S)=some i->i < S.ms.length->MA.cK (aD S.ms S.ds) L (i:u6) ps->H t=none->H p=none->ag H H'->H' p=some (.lst ((aG S ps).map V.str))->H' t=some (.tup [.str "wide",.str ((av S).getD i ""),.ref p])->Q (.ref t) H')
theorem x4 (T:Txt K mg a):TK P w K mg base 6 a.House "why" ["self"] (JZ a):=by
 exists 1,rz,20,gK;obtain⟨h,os,S,rfl,⟨hI,g,db,cp⟩,k1,k2,k3⟩:=h;obtain⟨dx,p,q0,r,is,kv,rfl,I⟩:=id hI;obtain⟨pi,xs,hp,hX⟩:=I.ms;have xl:=hX.length;have ml:=g.ml;have dl:=g.dl;have rk:=b9 db;have rl:=ck S;erw[_,(ae (R9 1 gK.nd<|c5 K T.bZ<|cw K aT)<|ae (R9 2 gK.nd<|lY (fU T:) aT)<|ae (R9 3 gK.nd<|aF (yR T:)<|aj bY<|R6 dO)<|ae (aB (eR K eX) (aE<|bO<|aj aq<|R6<|yf (hV T:) aT<|R6 eX) ax)<|ae (R9 4 gK.nd<|aF (ow T:)<|aj (aF (iG T:)<|aj bY<|R6 dO)<|R6<|lY (cQ T:) aT)<|ae (aB (aA lg gE cM) (aE cM) ax)<|aE<|bO<|aj aq<|aj (R8 K (Sa K (cw K aT) gE) aa)<|R6<|yf (hV T:) aT<|R6<|aF (qG T:)<|aj bY<|aj dO<|R6 gE),?_];erw[_,Z,h,a.House,dx,_,.ref p,Z,I.ih,T.aV.cl,T.aI,ud,_,_,rfl,.inl ⟨_,R5.of hp,rfl⟩,?_];erw[_,Z,h,dx,_,Z,I.ih,Sk,h,_,S,Z,hI,g,db,λpr H1 npr s1 hR=>?_];have hI1:=hI.grow (H':=H1) λb o _ e=>s1 _ _ e;rw[xl];erw[_,Z,_,Z,pr,aD S.ms S.ds,S.ms.length,Z,hR.Tg,Y,rk,Y,λH2 pe s2 hpe hsh=>?_,λH2 pe way s2 hpe hwl hw=>?_]
 .have s12:=s1.trans s2;have hI2:=hI.grow (H':=H2) λb o _ e=>s12 _ _ e;obtain⟨L,eL⟩:=DX rk hsh;have ll:=fg rk eL;erw[_,Z,false,.inl ⟨_,R5.of hpe,Z⟩,?_];show aM ?_;erw[_,Z,_,Z,S.ms.length,pr,aD S.ms S.ds,Z,Y,(hR.same s2).Tg,rk,λH3 _ z=>(by rw[eL] at z; cases z),λpL L0 H3 npL s3 e hpL=>?_];rw[eL] at e;cases e;have s13:=s12.trans s3;have hI3:=hI.grow (H':=H3) λb o _ e=>s13 _ _ e;erw[_,Z,h,dx,_,Z,(I.same s13).ih,Sk,h,_,S,Z,hI3,Y,λpg H4 npg s4 hpg=>?_];show⟨pL,L,pg,bE S,Z,R5.of<|s4 _ _ hpL,R5.of hpg,by unfold bE; rw[NR,ll],Y,λH5 s5=>?_⟩;have s15:=s13.trans<|s4.trans s5;cases hw:MA.bP L (bE S) with
  | none =>
   erw[_,Z,Z,_,Z,aW<|k2 L ?_ H5 s15];unfold ba;rw[eL];change (match MA.bP L (bE S) with | none=>some L | some _=>none)=some L;rw[hw]
  | some i =>
   have hi:i < S.ms.length:=(by have:=zY hw; lia);obtain⟨m,hm⟩: ∃m,S.ms[i]?=some m:=⟨_,NV hi⟩
   obtain⟨v,hv,t2,rfl,_,ht2⟩:=hX.at' hm;erw[_,Z,Z,_,Z,aM ?_];erw[_,Z,h,a.House,dx,_,.ref p,Z,(I.same s15).ih,T.aV.cl,T.aI,ud,_,rfl,p,_,_,_,rfl,rfl,R5.of<|s15 _ _ hp,aU hv,t2,_,_,_,rfl,rfl,Se.of<|s15 _ _ ht2,rfl,?_];erw[_,Z,h,dx,_,Z,(I.same s15).ih,Sk,_,Z,_,Z,_,Z,S.ms.length,pr,aD S.ms S.ds,L,_,Z,ml,Y,(hR.same<|s2.trans<|s3.trans<|s4.trans s5).Tg,rk,eL,Y,Y,λpc ps H6 npc s6 hpc hC=>?_];have s16:=s15.trans s6;have hI6:=hI.grow (H':=H6) λb o _ e=>s16 _ _ e;have fw:=hC.SX<|MA.jU rk eL;show⟨h,pc,_,S,ps,Z,hI6,R5.of hpc,λj hj=>by have:=hC.lt j hj; lia,Y,λp7 H7 np7 s7 hp7=>?_⟩;erw[aC,λt8 nt8=>?_];have s17:=s16.trans s7;show k3 L i t8 p7 ps _ eL hw hi hC (s17.free nt8) (s16.free np7) (s17.trans<|ag.upd nt8) ?_ ?_;.rw[ah<|az hp7 nt8]; show hp7
   .rw[af,Ap hm]
 .have s12:=s1.trans s2;have hI2:=hI.grow (H':=H2) λb o _ e=>s12 _ _ e;obtain⟨i0,q0',ps0,ew,_⟩:=id hw;erw[_,Z,true,.inl ⟨_,R5.of hpe,(by rw[ew]; rfl)⟩,?_];show aW ?_;show⟨_,Z,h,dx,_,Z,(I.same s12).ih,Sk,_,Z,h,pe,_,S,way,Z,hI2,R5.of hpe,λj hj=>by have:=hw.lt j hj; lia,Y,λp7 H7 np7 s7 hp7=>?_⟩;erw[aC,λt8 nt8=>?_];have s17:=s12.trans s7;show k1 t8 p7 way _ (hw.none rk) hw hwl (s17.free nt8) (s12.free np7) (s17.trans<|ag.upd nt8) ?_ ?_;.rw[ah<|az hp7 nt8]; show hp7
  .rw[af]
def Gf (a:Adr):L2.pI->qA
 | .ok=>a.Unknown
 | .unknown=>a.Unknown
 | .inUse=>a.InUse
 | .badName=>a.BadName
 | .badNumber=>a.BadNumber
 | .tooMuch=>a.TooMuch
 | .full=>a.Full
 | .nothing=>a.NothingBack
def Out (a:Adr) (H:Hp) (h:qA) (os:qx qA) (S:Sb) (d:cE) (Q:VK) (E:XK):Prop:=(a9 S d= .ok-> ∀H',cq a.House H h os (gh S d) H'->Q .non H')/\(a9 S d≠ .ok-> ∀H',ag H H'->E (.ref (Gf a (a9 S d))) none H')
section
variable {H:Hp}{h:qA}{os:qx qA}{S:Sb}{Q:VK}{E:XK}
theorem Out.er {d:cE}(o:Out a H h os S d Q E) (x:pI) (hx:a9 S d=x) (hne:x≠ .ok) (H':Hp) (s:ag H H'):E (.ref (Gf a x)) none H':=by
 have:=o.2 (hx▸hne) H' s;rw[hx] at this;show this
variable{y:va}
theorem Gg(hI:HI a.House H h os S) (g:Sv S.ms S.ds) (hk:S.ks.length<=150) (hy:y.cps.toList.length<=1000) (o:Out a H h os S (.member y) Q E):om a [.ref h,.str y] H Q E:=by
 erw[h,os,S,y,Z,hI,hy,g.ml,hk,λH' s hm=>?_,λH' s hm hb=>?_,λH' s hm hg hf=>?_,λH' hm hg h1 h2 hN=>?_];.exact o.er .inUse (by rw[a9,NW hm]) aS H' s
 .exact o.er .badName (by rw[a9,NS hm,NW hb]) aS H' s
 .exact o.er .full (by rw[a9,NS hm,NS (by rw[hg]; decide),NW hf]) aS H' s
 .exact o.1 (by rw[a9,NS hm,NS (by rw[hg]; decide),NS Y]) H' hN
theorem HX {m:va}{p e o':u7}(hI:HI a.House H h os S) (g:Sv S.ms S.ds) (hk:S.ks.length<=150) (hy:y.cps.toList.length<=1000) (o:Out a H h os S (.plain y m p e o') Q E):oN a [.ref h,.str y,.str m,.int p,.int e,.int o'] H Q E:=by
 erw[h,os,S,y,m,p,e,o',Z,hI,hy,g.ml,g.dl,hk,λH' s hm=>?_,λH' s hm hn=>?_,λH' s hm hn hb=>?_,λH' s hm hn hg hr1=>?_,λH' s hm hn hg hr1 hr2=>?_,λH' s hm hn hg hr1 hr2 hf=>?_,λH' hm hn hg hr1 hr2 h1 h2 hN=>?_];.exact o.er .unknown (by rw[a9,NW hm]) aS H' s
 .exact o.er .inUse (by rw[a9,NS λz=>z hm,NW hn]) aS H' s
 .exact o.er .badName (by rw[a9,NS λz=>z hm,NS hn,NW hb]) aS H' s
 .exact o.er .badNumber (by rw[a9,NS λz=>z hm,NS hn,NS (by rw[hg]; decide),NW hr1]) aS H' s
 .exact o.er .tooMuch (by rw[a9,NS λz=>z hm,NS hn,NS (by rw[hg]; decide),NS λz=>z hr1,NW hr2]) aS H' s
 .exact o.er .full (by rw[a9,NS λz=>z hm,NS hn,NS (by rw[hg]; decide),NS λz=>z hr1,NS Y,NW hf]) aS H' s
 .exact o.1 (by rw[a9,NS λz=>z hm,NS hn,NS (by rw[hg]; decide),NS λz=>z hr1,NS Y,NS Y]) H' hN
theorem KU {m b:va}{mo:u7}(hI:HI a.House H h os S) (g:Sv S.ms S.ds) (hk:S.ks.length<=150) (hy:y.cps.toList.length<=1000) (o:Out a H h os S (.link y m b mo) Q E):qL a [.ref h,.str y,.str m,.str b,.int mo] H Q E:=by
 have nn: ∀ {m b:va},m∈av S->b∈av S-> ¬(m∉av S\/b∉av S):=λhm hb z=>z.elim (λz=>z hm) λz=>z hb;erw[h,os,S,y,m,b,mo,Z,hI,hy,g.ml,g.dl,hk,λH' s hm=>?_,λH' s hm hb hn=>?_,λH' s hm hb hn hg=>?_,λH' s hm hb hn hg hr1=>?_,λH' s hm hb hn hg hr1 hf=>?_,λH' hm hb hn hg hr1 h1 h2 hN=>?_];.exact o.er .unknown (by rw[a9,NW hm]) aS H' s
 .exact o.er .inUse (by rw[a9,NS<|nn hm hb,NW hn]) aS H' s
 .exact o.er .badName (by rw[a9,NS<|nn hm hb,NS hn,NW hg]) aS H' s
 .exact o.er .badNumber (by rw[a9,NS<|nn hm hb,NS hn,NS (by rw[hg]; decide),NW hr1]) aS H' s
 .exact o.er .full (by rw[a9,NS<|nn hm hb,NS hn,NS (by rw[hg]; decide),NS λz=>z hr1,NW hf]) aS H' s
 .exact o.1 (by rw[a9,NS<|nn hm hb,NS hn,NS (by rw[hg]; decide),NS λz=>z hr1,NS Y]) H' hN
theorem ML(hI:HI a.House H h os S) (g:Sv S.ms S.ds) (hk:S.ks.length<=150) (o:Out a H h os S (.sD y) Q E):lq a [.ref h,.str y] H Q E:=by
 erw[h,os,S,y,Z,hI,g.dl,hk,λH' s hm=>o.er .unknown (by rw[a9,NW hm]) aS H' s,λH' s hm hf=>o.er .full (by rw[a9,NS λz=>z hm,NW hf]) aS H' s,λH' j hj hjm h2 hN=>?_];rw[sS g.dn hj] at hN;show o.1 (by rw[a9,NS λz=>z<|NU hj,NS Y]) H' hN
theorem M0 {m:va}(hI:HI a.House H h os S) (g:Sv S.ms S.ds) (hk:S.ks.length<=150) (o:Out a H h os S (.sM m) Q E):lr a [.ref h,.str m] H Q E:=by
 erw[h,os,S,m,Z,hI,g.ml,g.dl,hk,λH' s hm=>o.er .unknown (by rw[a9,NW hm]) aS H' s,λH' s hm hb=>?_,λH' s hm hb hf=>?_,λH' j hj hjm hb h2 hN=>?_];.exact o.er .inUse (by rw[a9,NS λz=>z hm,NW<|show mh m S.ds=true from hb]) aS H' s
 .have hb':mh m S.ds=false:=hb;show o.er .full (by rw[a9,NS λz=>z hm,NS (by rw[hb']; decide),NW hf]) aS H' s
 .rw[sS g.mn hj] at hN;have hb':mh m S.ds=false:=hb;show o.1 (by rw[a9,NS λz=>z<|NU hj,NS (by rw[hb']; decide),NS Y]) H' hN
theorem L4 {m:va}{wd:u7}(hI:HI a.House H h os S) (g:Sv S.ms S.ds) (hk:S.ks.length<=150) (o:Out a H h os S (.top m wd) Q E):tV a [.ref h,.str m,.int wd] H Q E:=by
 erw[h,os,S,m,wd,Z,hI,g.ml,hk,λH' s hm=>o.er .unknown (by rw[a9,NW hm]) aS H' s,λj o' hj hjm ho=>?_];have hm:m∈av S:=NU hj;have hc:=u9 ho hjm;erw[λH' s z=>?_,λH' s z hr1=>?_,λH' s z hr1 hf=>?_,λH' z hr1 h2 hN=>?_];.exact o.er .inUse (by rw[a9,NS λz=>z hm,NW (by rw[hc]; show z)]) aS H' s
 .exact o.er .badNumber (by rw[a9,NS λz=>z hm,NS (by rw[hc,z]; show λq=>q rfl),NW hr1]) aS H' s
 .exact o.er .full (by rw[a9,NS λz=>z hm,NS (by rw[hc,z]; show λq=>q rfl),NS λz=>z hr1,NW hf]) aS H' s
 .rw[yB g.mn hj] at hN;show o.1 (by rw[a9,NS λz=>z hm,NS (by rw[hc,z]; show λq=>q rfl),NS λz=>z hr1,NS Y]) H' hN
theorem MY {m:va}(hI:HI a.House H h os S) (g:Sv S.ms S.ds) (hk:S.ks.length<=150) (o:Out a H h os S (.sT m) Q E):oz a [.ref h,.str m] H Q E:=by
 erw[h,os,S,m,Z,hI,g.ml,hk,λH' s hm=>o.er .unknown (by rw[a9,NW<|rF hm]) aS H' s,λj o' hj hjm ho=>?_];have hc:=u9 ho hjm;erw[λH' s z=>o.er .unknown (by rw[a9,NW<|hc.trans z]) aS H' s,λH' s z hf=>o.er .full (by rw[a9,NS (by rw[hc]; show z),NW hf]) aS H' s,λH' z h2 hN=>?_];rw[yB g.mn hj] at hN;show o.1 (by rw[a9,NS (by rw[hc]; show z),NS Y]) H' hN
theorem Kw (hI:HI a.House H h os S) (hk:S.ks.length<=150) (o:Out a H h os S .back Q E):Af a [.ref h] H Q E:=by
 erw[h,os,S,Z,hI,hk,λz=>o.er .nothing (by rw[a9,NW z]) aS H<|ag.refl H,λH' ks k e hN=>?_];show o.1 (by rw[a9,NS (by rw[e]; show Ep)]) H' ?_;have es:gh S .back=⟨k.1,k.2,ks⟩:=by
  change (match S.ks.getLast? with | some k=>(⟨k.1,k.2,S.ks.dropLast⟩:Sb) | none=>S)=_;rw[show S.ks.getLast?=some k from by rw[e]; simp,show S.ks.dropLast=ks from by rw[e]; simp]
 rw[es];show hN
end
def s0:va:= "0"
def s9:va:= "9"
theorem J8:s0.cps.toList=[48]:=by trivial
theorem JV:s9.cps.toList=[57]:=by trivial
inductive FJ(vs:qx V)(H:Hp)(Q:VK)(_E:XK):Prop|mk(z:va)(_:vs=[.str z])(_:z.length<=1000)(_:∀H',ag H H'->Q (.bl (cU z)) H')
theorem yp (T:Txt K mg a):Sj P w K mg base 2 "is_number" ["word"] FJ:=by
 exists 0,bH,26,xJ;obtain⟨z,rfl,hz,q⟩:=h;erw[_,(aE<|eV<|k8 (aF (iT T:)<|aj (c5 K T.bZ aT)<|R6<|gy T.uj)<|iZ<|bR (qU rfl) uK T.Cn boot_all<|R6<|eZ y6 ["sign"] [] [] (CG aT) λC s2 H2 fp=>(qR lX lX aq aT aq)),?_];have hl:z.length<=sizeLine:=OA<|ay hz;have lz:z.cps.toList.length=z.length:=by simp[zO]
 erw[Q,?_,λ_ _ z=>z];erw[_,Z,_,_,Z,⟨hl,Z⟩,λa ha=>?_];erw[_,1,6,a,Z,ha _,_,Z,?_];show bh (λh1=>?_) λh1=>?_
 .exists _,Z,_,Z,?_;show iU (xs:=gv z) CM (λv=>match v with | .str z=> .bl (o6<|z.cps.getD 0 0) | _=> .bl false) (by unfold gv; rw[NR,lz]; show ay hz) (λx hx R hR=>?_) λp hp=>?_
  .obtain⟨c,_,rfl⟩:=Ow.mp<|show x∈z.cps.toList.map λc=>V.str ⟨#[c]⟩ from hx;have e1:(!decide ((⟨#[c]⟩:va).cps.toList < s0.cps.toList))=decide (48<=c):=by
    rw[J8];change (!decide ([c] < [48]))=_;rw[TU,<-decide_not,QG];lia
   have e2:(!decide (s9.cps.toList < (⟨#[c]⟩:va).cps.toList))=decide (c<=57):=by
    rw[JV];change (!decide ([57] < [c]))=_;rw[TU,<-decide_not,QG];lia
   have hR:R (.bl<|decide (48<=c) && decide (c<=57)) H:=hR;erw[_,Z,s0,_,Z,Z,_,Z,?_];rw[e1];show bh (λh1=>?_) λh1=>?_
   .exists _,s9,Z,Z,?_;rw[e2];rw[h1,Q4] at hR;show hR
   .rw[Om] at h1;rw[h1,Qv] at hR;show hR
  .exists p,z.cps.toList.map o6,Z,R5.of ?_,?_
   .rw[af];unfold gv;rw[OK,OK];rfl
   .have e:(z.cps.toList.map o6).all id=z.cps.toList.all o6:=by rw[QP]; rfl
    rw[e];have q':=q _<|ag.upd (o:= .lst<|(gv z).map (λv=>match v with | .str z=> .bl (o6<|z.cps.getD 0 0) | _=> .bl false)) hp;unfold cU at q';rw[h1,Q4] at q';show q'
 .have q':=q H<|ag.refl H;rw[Om] at h1;unfold cU at q';rw[h1,Qv] at q';show q'
inductive Im(vs:qx V)(H:Hp)(Q:VK)(_E:XK):Prop|mk(p z:va)(_:vs=[.str p,.str z])(_:z.length<=1000)(_:∀H',ag H H'->Q (.bl (bJ p z)) H')
theorem Jr (T:Txt K mg a):Sj P w K mg base 3 "fits" ["part","word"] Im:=by
 exists 0,bH,27,IK;obtain⟨p,z,rfl,hz,q⟩:=h;erw[_,(ae (aB (f6 (Ti K) aT<|gy T.vt) (aE<|aF (yp T:)<|R6 bY) ax)<|aE<|eV<|G9 (show PE _ _ (Be K _ _ _) from x5 OL PySem.F.slot_str_isupper PySem.F.type_str_isupper A8 aT) (iZ<|dH aR aT bY)),?_];erw[_,Z,λnu hnu=>⟨nu,jx.map V.str,Z,.inr<|hnu H,Z,Z,_,Z,?_⟩];change if Sq (.str p) (jx.map V.str)=true then _ else _;rw[cz];by_cases hp:p∈jx
 .rw[N2 hp];show aW ⟨_,Z,z,Z,hz,λH' s=>?_⟩;have:=q H' s;unfold bJ at this;rw[NW hp] at this;show this
 .rw[N8 hp];have q':=q H<|ag.refl H;unfold bJ at q';rw[NS hp] at q';show aM ⟨Q,?_,λ_ _ z=>z⟩;erw[_,Z,Z,p,Z,Z,_,Z,?_];cases hu:U8 p with
  | true=>rw[hu] at q'; show aW q'
  | false =>
   rw[hu,WM] at q';show aM ⟨_,Z,_,Z,Z,?_⟩;rw[show decide (V.str p=V.str z)=decide (p=z) from decide_eq_decide.mpr ⟨λe=>V.str.inj e,λe=>by rw[e]⟩];show q'
inductive yQ(vs:qx V)(H:Hp)(Q:VK)(_E:XK):Prop|mk(p z:va)(_:vs=[.str p,.str z])(_:bJ p z=true)(_:Q (cL p z) H)
theorem yK (T:Txt K mg a):Sj P w K mg base 1 "read_word" ["part","word"] yQ:=by
 exists 0,bH,28,xy;obtain⟨p,z,rfl,hf,q⟩:=h;erw[_,(aE<|eV<|jK (f6 (Ti K) aT<|gy T.vt) (bC ES uK T.iz boot_int<|R6 bY) bY),?_];erw[Q,?_,λ_ _ z=>z];erw[_,Z,λnu hnu=>⟨nu,jx.map V.str,Z,.inr<|hnu H,Z,Z,_,Z,?_⟩];change if Sq (.str p) (jx.map V.str)=true then _ else _;rw[cz];unfold cL at q;by_cases hp:p∈jx
 .rw[N2 hp];rw[NW hp] at q;unfold bJ at hf;rw[NW hp] at hf;obtain⟨h1,h2⟩:=xx hf;show aW ⟨_,Z,z,_,Z,h1,Y,q⟩
 .rw[N8 hp];rw[NS hp] at q;show aM ⟨_,Z,q⟩
inductive zr(a:Adr)(vs:qx V)(H:Hp)(Q:VK)(E:XK):Prop|mk(row:va)(_:vs=[.str row])(_:row.length<=900)(_:∀xs,qS row=some xs-> ∀(p:qA) (H':Hp),ag H H'->H p=none->H' p=some (.tup xs)->Q (.ref p) H')(_:qS row=none-> ∀H',ag H H'->E (.ref a.BadRow) none H')
variable{row:va}
theorem zT {z:va}(h:z∈Bl row " "):z.length<=row.length:=Xo h
theorem Eh {ps ws:qx va}{x z:V}(h1:(ps.map V.str)[i]?=some x) (h2:(ws.map V.str)[i]?=some z): ∃p w,x= .str p/\z= .str w/\ps[i]?=some p/\ws[i]?=some w:=by
 rw[N7] at h1 h2;cases e1:ps[i]? with
 | none=>rw[e1] at h1; cases h1
 | some p =>
  cases e2:ws[i]? with
  | none=>rw[e2] at h2; cases h2
  | some w=>rw[e1] at h1; rw[e2] at h2; cases h1; cases h2; erw[p,w,Z,Z,Z,Z]
theorem yC {ps ws:qx va}{p w:va}(h1:ps[i]?=some p) (h2:ws[i]?=some w):(ps.zip ws).take (i+1)=(ps.zip ws).take i++[(p,w)]:=by
 have:(ps.zip ws)[i]?=some (p,w):=Qh.mpr ⟨h1,h2⟩;rw[Ov,this];rfl
theorem zH (T:Txt K mg a):SW P w K mg base 4 "read_row" ["row"] (zr a):=by
 exists 0,jG,29,jM;obtain⟨row,rfl,hz,qk,qe⟩:=h;erw[_,(ae (R9 1 jM.nd<|show PE _ _ (SS K _ _ _ _) from c7 OL QZ Q0 qZ aT<|R6 aq) (ae (CY (Bi ⟨Z,Z⟩) rfl (Ec<|gy T.IA) (gn 2 jM.nd)<|ae (R9 3 jM.nd<|show PE _ _ (SS K _ _ _ _) from c7 OL QZ Q0 qZ dO<|R6 aq) (au<|aB (PW.pt<|cv (aA aR (c5 K T.bZ eX)<|c5 K T.bZ bY)<|cg<|eR K<|bR (qU rfl) uK T.Cn boot_all<|R6<|ug sX ["part","word"] [] [] go2 (tJ rfl T.wO<|aj eX<|R6 bY) λC s2 H2 fp=>⟨(show PG _ _ (nF K 2 _) from dI (n:=2) rfl<|aQ (gn 0<|SO ["part","word"])<|aQ (gn 1<|SO ["part","word"]) de),iL,(aF (Jr T:)<|aj aT<|R6 bY)⟩) (aE<|bC wt uK T.Ij boot_tuple<|R6<|ug sX ["part","word"] [] [] go2 (tJ rfl T.wO<|aj eX<|R6 bY) λC s2 H2 fp=>⟨(show PG _ _ (nF K 2 _) from dI (n:=2) rfl<|aQ (gn 0<|SO ["part","word"])<|aQ (gn 1<|SO ["part","word"]) de),iL,(aF (yK T:)<|aj aT<|R6 bY)⟩) ax)) (au<|dU T.qQ rfl<|R6 aq))),?_];show⟨_,Z,Z,_,_,Z,Z,uw,Y,λpw npw=>?_⟩;obtain⟨ws,ews⟩: ∃ws,ws=Bl row " " := ⟨_,Z⟩
 have wl:ws.length<=1000:=by rw[ews]; show Ob (VI row " ") Y
 have wsh: ∀z∈ws,z.length<=1000:=λz hz=>by rw[ews] at hz; show Ob (zT hz) Y
 have eF:qS row=df ws:=by unfold qS; rw[ews]
 rw[eF] at qk qe;rw[<-ews];have sw:=ag.upd (o:= .lst (ws.map V.str)) npw;have hpw:(upd H pw (.lst (ws.map V.str))) pw=some (.lst (ws.map V.str)):=af;dsimp only[aK,L2.start,x8];generalize upd H pw (.lst (ws.map V.str))=H1 at sw hpw;show λfa hfa=>⟨fa,Z,⟨_,hfa _⟩,?_⟩
 show cA (xs:=mY.map V.str) (λi O' H'=> ∃v2 v3:rW V,O'=[some<|.str row,uo pw,v2,v3]/\ag H1 H'/\ ∀ps∈cV.take i,cO ps ws=false) ⟨none,none,Z,ag.refl _,λps hp=>by cases hp⟩ (λi O' H' _ _=>Ei<|hfa _) ?_ ?_
 .rintro i x O' H' hi ⟨v2,v3,rfl,sm,hno⟩;obtain⟨fo,hfo,rfl⟩: ∃fo,mY[i]?=some fo/\x=V.str fo:=by
   rw[N7] at hi;cases e:mY[i]? with
   | none=>rw[e] at hi; cases hi
   | some fo=>rw[e] at hi; erw[fo,Z,(Oj hi).symm]
  obtain⟨ps,eps⟩: ∃ps,ps=Bl fo " " := ⟨_,Z⟩
  have hps:cV[i]?=some ps:=by rw[<-y9,N7,hfo,eps]; rfl
  have fol:fo.length<=1000:=(show ∀t∈mY,t.length<=1000 by trivial) fo<|NU hfo;have tk:cV.take (i+1)=cV.take i++[ps]:=by rw[Ov,hps]; rfl
  have s1:=sw.trans sm;show⟨_,Z,Z,_,_,Z,Z,uw,fol,λpp npp=>?_⟩;rw[<-eps];have pl:ps.length<=1000:=by rw[eps]; show Ob (VI fo " ")<|(show ∀t∈mY,t.length+2<=1000 by trivial) fo<|NU hfo
  have sp:=ag.upd (o:= .lst (ps.map V.str)) npp;have hpp:(upd H' pp (.lst (ps.map V.str))) pp=some (.lst (ps.map V.str)):=af;dsimp only[aK,L2.start,x8];generalize upd H' pp (.lst (ps.map V.str))=H2 at sp hpp;have s2:=sm.trans sp;have hpw2:=s2 _ _ hpw;erw[_,Z,_,_,Z,.inl ⟨_,R5.of hpp,Z⟩,_,Z,_,_,Z,.inl ⟨_,R5.of hpw2,Z⟩,Z,_,Z,?_];by_cases hl:ps.length=ws.length;rotate_left
  .rw[show decide (V.int ((ps.map V.str).length:u6)=V.int ((ws.map V.str).length:u6))=false from N8 λz=>hl (by have z:=V.int.inj z; rw[NR,NR] at z; lia)];show aM<|aM ⟨_,_,Z,s2,λq hq=>?_⟩;rw[tk] at hq;rcases Oe.mp hq with hq | hq
   .exact hno q hq
   .rw[NZ.mp hq];unfold cO;rw[N8 hl];rfl
  rw[show decide (V.int ((ps.map V.str).length:u6)=V.int ((ws.map V.str).length:u6))=true from N2 (by rw[NR,NR,hl])];show aW ⟨_,Z,_,Z,pp,pw,Z,⟨_,R5.of hpp⟩,⟨_,R5.of hpw2⟩,?_⟩;show nH (xs:=ps.map V.str) (zs:=ws.map V.str) (λj ys H3=>ag H2 H3/\ys=(((ps.zip ws).take j).map λx=>bJ x.1 x.2).map V.bl) (λj ys H3 z=>⟨R5.of<|z.1 _ _ hpp,R5.of<|z.1 _ _ hpw2⟩) (by rw[NR,NR,hl]) ⟨ag.refl _,Z⟩ (by rw[NR]; show ay pl) (λj ys H3 z=>by rw[z.2,NR,NR,Oi]; show OX _ _) ?_ ?_
  .rintro j ys H3 x z t hx hz2 ⟨sm3,rfl⟩ nt;obtain⟨p,wd,rfl,rfl,h1,h2⟩:=Eh hx hz2;have st:=sm3.trans<|ag.upd (o:= .tup [.str p,.str wd]) nt;erw[t,_,Z,Se.of af,Z,_,_,Z,_,_,Z,Z,_,Z,_,Z,p,wd,Z,wsh wd<|NU h2,λH4 s4=>⟨st.trans s4,?_⟩];rw[yC h1 h2,Od,Od];rfl
  rintro ys H3 pb ⟨sm3,rfl⟩ npb;rw[NR,OP (by rw[Qa]; lia)];erw[pb,_,Z,R5.of af,_,Z,?_];have s3:=sm3.trans (ag.upd (o:= .lst ((((ps.zip ws).map λx=>bJ x.1 x.2)).map V.bl)) npb);generalize upd H3 pb (.lst ((((ps.zip ws).map λx=>bJ x.1 x.2)).map V.bl))=H4 at s3;have ea:((ps.zip ws).map λx=>bJ x.1 x.2).all id=(ps.zip ws).all λx=>bJ x.1 x.2:=by rw[QP]; rfl
  rw[ea];cases hb:(ps.zip ws).all λx=>bJ x.1 x.2 with
  | false =>
   show aM ⟨_,_,Z,s2.trans s3,λq hq=>?_⟩;rw[tk] at hq;rcases Oe.mp hq with hq | hq
   .exact hno q hq
   .rw[NZ.mp hq];unfold cO;rw[hb,WE]
  | true =>
   have fa:cO ps ws=true:=(by unfold cO; rw[hb,N2 hl]; rfl);have fnd:cV.find? (λq=>cO q ws)=some ps:=by
    rw[List.find?_eq_some_iff_getElem];erw[fa,i,(NX.mp hps).1,(NX.mp hps).2,λj hj=>?_];have hjl:j < cV.length:=Xi hj (NX.mp hps).1;rw[hno _<|List.mem_take_iff_getElem.mpr ⟨j,Y,Z⟩];rfl
   have er:df ws=some ((ps.zip ws).map λx=>cL x.1 x.2):=(by unfold df; rw[fnd]; rfl);have hpp4:=s3 _ _ hpp;have hpw4:=s3 _ _ hpw2;show aW ⟨_,Z,_,Z,pp,pw,Z,⟨_,R5.of hpp4⟩,⟨_,R5.of hpw4⟩,?_⟩;show nH (xs:=ps.map V.str) (zs:=ws.map V.str) (λj ys H5=>ag H4 H5/\ys=((ps.zip ws).take j).map λx=>cL x.1 x.2) (λj ys H3 z=>⟨R5.of<|z.1 _ _ hpp4,R5.of<|z.1 _ _ hpw4⟩) (by rw[NR,NR,hl]) ⟨ag.refl _,Z⟩ (by rw[NR]; show ay pl) (λj ys H3 z=>by rw[z.2,NR,Oi]; show OX _ _) ?_ ?_
   .rintro j ys H5 x z t hx hz2 ⟨sm5,rfl⟩ nt;obtain⟨p,wd,rfl,rfl,h1,h2⟩:=Eh hx hz2;have st:=sm5.trans<|ag.upd (o:= .tup [.str p,.str wd]) nt;have hf:bJ p wd=true:=O3.mp hb (p,wd)<|NU<|Qh.mpr ⟨h1,h2⟩;erw[t,_,Z,Se.of af,Z,_,_,Z,_,_,Z,Z,_,Z,_,Z,p,wd,Z,hf,st,?_];rw[yC h1 h2,Od];rfl
   rintro ys H5 pl2 ⟨sm5,rfl⟩ npl;rw[NR,OP (by rw[Qa]; lia)];have s5:=sm5.trans<|ag.upd (o:= .lst<|(ps.zip ws).map λx=>cL x.1 x.2) npl;have s05:=((s1.trans sp).trans s3).trans s5;erw[pl2,_,Z,.inl ⟨R5.of af,λtp ntp=>qk _ er tp _ (s05.trans<|ag.upd ntp) (s05.free ntp) af⟩]
 .rintro O' H' ⟨v2,v3,rfl,sm,hno⟩;erw[aS,qe ?_ H' (sw.trans sm)];unfold df;rw[P2.mpr λq hq=>?_];.rfl
  .rw[hno q (by rw[NR,show mY.length=cV.length from rfl,OF]; show hq)];decide
variable{A B:Prop}
theorem bj {x:va}(h:x≠y) (b:B):if decide (V.str x=V.str y)=true then A else B:=by
 rw[N8 λz=>h<|V.str.inj z];show b
theorem R4 {x:va}(b:B)(h:x≠y:=by trivial):if decide (V.str x=V.str y)=true then A else B:=bj h b
theorem b6 {x:va}(b:A):if decide (V.str x=V.str x)=true then A else B:=by
 rw[N2 rfl];show b
def Eu:cE->Prop
 | .member y=>y.cps.toList.length<=1000
 | .plain y _ _ _ _=>y.cps.toList.length<=1000
 | .link y _ _ _=>y.cps.toList.length<=1000
 | _=>MK
inductive Cm(K:R7)(a:Adr)(vs:qx V)(H:Hp)(Q:VK)(E:XK):Prop|mk(h:qA)(os:qx qA)(S:Sb)(d:cE)(kind m:va)(_:vs=[.ref h,.str kind,.str m])(_:HI a.House H h os S)(_:Sv S.ms S.ds)(_:S.ks.length<=150)(_:(kind= "member" /\ d= .sM m)\/(kind= "demand" /\ d= .sD m)\/(kind= "top" /\ d= .sT m))(_:Out a H h os S d Q E)
theorem BJ (T:Txt K mg a):SW P w K mg base 5 "strike" ["house","kind","name"] (Cm K a):=by
 exists 0,jG,30,Dm;obtain⟨h,os,S,d,kind,m,rfl,hI,g,hk,hd,o⟩:=h;obtain⟨dx,p,q0,r,is,kv,eo,I⟩:=id hI;erw[_,(au<|aB (aA aR bY aq) (au<|aO<|cG (mv T:) aT<|R6 dO)<|au<|aB (aA aR bY aq) (au<|aO<|cG (me T:) aT<|R6 dO)<|au<|aO<|cG (oB T:) aT<|R6 dO),?_];rcases hd with⟨rfl,rfl⟩ | ⟨rfl,rfl⟩ | ⟨rfl,rfl⟩
 .nomatch _,Z,Z,_,Z,b6 ⟨_,Z,h,dx,_,Z,I.ih,Sk,_,Z,M0 hI g hk o⟩
 .nomatch _,Z,Z,_,Z,R4 ⟨_,Z,Z,_,Z,b6 ⟨_,Z,h,dx,_,Z,I.ih,Sk,_,Z,ML hI g hk o⟩⟩
 .nomatch _,Z,Z,_,Z,R4 ⟨_,Z,Z,_,Z,R4 ⟨_,Z,h,dx,_,Z,I.ih,Sk,_,Z,MY hI g hk o⟩⟩
inductive A7(K:R7)(a:Adr)(vs:qx V)(H:Hp)(Q:VK)(E:XK):Prop|mk(h:qA)(os:qx qA)(S:Sb)(d:cE)(td:qA)(_:vs=[.ref h,.ref td])(_:HI a.House H h os S)(_:Sv S.ms S.ds)(_:S.ks.length<=150)(_:Se K H td (fG d))(_:Eu d)(_:Out a H h os S d Q E)
theorem A6 (T:Txt K mg a):SW P w K mg base 6 "do_deed" ["house","words"] (A7 K a):=by
 exists 0,jG,31,B7;obtain⟨h,os,S,d,td,rfl,hI,g,hk,hq,sh,o⟩:=h;obtain⟨dx,p,q0,r,is,kv,eo,I⟩:=id hI;erw[_,(au<|aB (aA aR (R8 K bY aa) aq) (au<|aO<|cG (oA T:) aT<|R6<|R8 K bY aa)<|au<|aB (aA aR (R8 K bY aa) aq) (au<|aO<|cG (pQ T:) aT<|aj (R8 K bY aa)<|aj (R8 K bY aa)<|aj (R8 K bY aa)<|aj (R8 K bY aa)<|R6<|R8 K bY aa)<|au<|aB (aA aR (R8 K bY aa) aq) (au<|aO<|cG (qE T:) aT<|aj (R8 K bY aa)<|aj (R8 K bY aa)<|aj (R8 K bY aa)<|R6<|R8 K bY aa)<|au<|aB (aA aR (R8 K bY aa) aq) (au<|aO<|cG (rg T:) aT<|aj (R8 K bY aa)<|R6<|R8 K bY aa)<|au<|aB (aA aR (R8 K bY aa) aq) (au<|aO<|a6 (BJ T:)<|aj aT<|aj (R8 K bY aa)<|R6<|R8 K bY aa)<|au<|aO<|bc (pC T:) aT),?_];cases d with
 | member y =>
  erw[_,Z,td,_,_,_,Z,Z,hq,Z,Z,_,Z,b6 ⟨_,Z,h,dx,_,Z,I.ih,Sk,_,Z,td,_,_,_,Z,Z,hq,Z,Gg hI g hk sh o⟩]
 | plain y m pp e o' =>
  erw[_,Z,td,_,_,_,Z,Z,hq,Z,Z,_,Z,R4 ?_];erw[_,Z,td,_,_,_,Z,Z,hq,Z,Z,_,Z,b6 ⟨_,Z,h,dx,_,Z,I.ih,Sk,_,Z,td,_,_,_,Z,Z,hq,Z,_,Z,td,_,_,_,Z,Z,hq,Z,_,Z,td,_,_,_,Z,Z,hq,Z,_,Z,td,_,_,_,Z,Z,hq,Z,_,Z,td,_,_,_,Z,Z,hq,Z,HX hI g hk sh o⟩]
 | link y m b mo =>
  erw[_,Z,td,_,_,_,Z,Z,hq,Z,Z,_,Z,R4 ?_];erw[_,Z,td,_,_,_,Z,Z,hq,Z,Z,_,Z,R4 ?_];erw[_,Z,td,_,_,_,Z,Z,hq,Z,Z,_,Z,b6 ⟨_,Z,h,dx,_,Z,I.ih,Sk,_,Z,td,_,_,_,Z,Z,hq,Z,_,Z,td,_,_,_,Z,Z,hq,Z,_,Z,td,_,_,_,Z,Z,hq,Z,_,Z,td,_,_,_,Z,Z,hq,Z,KU hI g hk sh o⟩]
 | top m wd =>
  erw[_,Z,td,_,_,_,Z,Z,hq,Z,Z,_,Z,R4 ?_];erw[_,Z,td,_,_,_,Z,Z,hq,Z,Z,_,Z,R4 ?_];erw[_,Z,td,_,_,_,Z,Z,hq,Z,Z,_,Z,R4 ?_];erw[_,Z,td,_,_,_,Z,Z,hq,Z,Z,_,Z,b6 ⟨_,Z,h,dx,_,Z,I.ih,Sk,_,Z,td,_,_,_,Z,Z,hq,Z,_,Z,td,_,_,_,Z,Z,hq,Z,L4 hI g hk o⟩]
 | sM m =>
  erw[_,Z,td,_,_,_,Z,Z,hq,Z,Z,_,Z,R4 ?_];erw[_,Z,td,_,_,_,Z,Z,hq,Z,Z,_,Z,R4 ?_];erw[_,Z,td,_,_,_,Z,Z,hq,Z,Z,_,Z,R4 ?_];erw[_,Z,td,_,_,_,Z,Z,hq,Z,Z,_,Z,R4 ?_];erw[_,Z,td,_,_,_,Z,Z,hq,Z,Z,_,Z,b6 ⟨_,Z,_,Z,td,_,_,_,Z,Z,hq,Z,_,Z,td,_,_,_,Z,Z,hq,Z,h,os,S,_,_,m,Z,hI,g,hk,.inl ⟨Z,Z⟩,o⟩]
 | sD m =>
  erw[_,Z,td,_,_,_,Z,Z,hq,Z,Z,_,Z,R4 ?_];erw[_,Z,td,_,_,_,Z,Z,hq,Z,Z,_,Z,R4 ?_];erw[_,Z,td,_,_,_,Z,Z,hq,Z,Z,_,Z,R4 ?_];erw[_,Z,td,_,_,_,Z,Z,hq,Z,Z,_,Z,R4 ?_];erw[_,Z,td,_,_,_,Z,Z,hq,Z,Z,_,Z,b6 ⟨_,Z,_,Z,td,_,_,_,Z,Z,hq,Z,_,Z,td,_,_,_,Z,Z,hq,Z,h,os,S,_,_,m,Z,hI,g,hk,.inr<|.inl ⟨Z,Z⟩,o⟩]
 | sT m =>
  erw[_,Z,td,_,_,_,Z,Z,hq,Z,Z,_,Z,R4 ?_];erw[_,Z,td,_,_,_,Z,Z,hq,Z,Z,_,Z,R4 ?_];erw[_,Z,td,_,_,_,Z,Z,hq,Z,Z,_,Z,R4 ?_];erw[_,Z,td,_,_,_,Z,Z,hq,Z,Z,_,Z,R4 ?_];erw[_,Z,td,_,_,_,Z,Z,hq,Z,Z,_,Z,b6 ⟨_,Z,_,Z,td,_,_,_,Z,Z,hq,Z,_,Z,td,_,_,_,Z,Z,hq,Z,h,os,S,_,_,m,Z,hI,g,hk,.inr<|.inr ⟨Z,Z⟩,o⟩]
 | back =>
  erw[_,Z,td,_,_,_,Z,Z,hq,Z,Z,_,Z,R4 ?_];erw[_,Z,td,_,_,_,Z,Z,hq,Z,Z,_,Z,R4 ?_];erw[_,Z,td,_,_,_,Z,Z,hq,Z,Z,_,Z,R4 ?_];erw[_,Z,td,_,_,_,Z,Z,hq,Z,Z,_,Z,R4 ?_];erw[_,Z,td,_,_,_,Z,Z,hq,Z,Z,_,Z,R4 ?_];erw[_,Z,h,dx,_,Z,I.ih,Sk,Kw hI hk o]
inductive EM(K:R7)(vs:qx V)(H:Hp)(Q:VK)(_E:XK):Prop|mk(x:V)(p:qA)(z:va)(ys:qx va)(_:vs=[x,.ref p])(_:ke x z)(_:z.length<=1000)(_:R5 K H p (ys.map V.str))(_:ys.length<=200)(_:∀y∈ys,y.length<=20)(_:Q (.str (kE z ys)) H)
theorem nv (T:Txt K mg a):Sj P w K mg base 1 "told_by" ["what","names"] (EM K):=by
 exists 0,bH,32,tX;obtain⟨x,p,z,ys,rfl,ex,zl,hp,yl,ys8,q⟩:=h;erw[_,(ae (R9 2 tX.nd<|c7 OL O5 O6 gW aq<|R6 bY)<|aE<|Hg aT dO),?_];have b:=eK ys8;have b2:ys.length*20<=4000:=Pq 20 yl;have jl:(yL " " ys).length<=10000:=Ob (fz yl ys8) aS;erw[Z,_,Z,_,p,ys,Z,Z,hp,uw,Y,_,Z,z,ex,zl,_,Z,_,.str _,jl,q]
inductive FE(a:Adr)(vs:qx V)(H:Hp)(Q:VK)(E:XK):Prop|mk(h:qA)(os:qx qA)(S:Sb)(_:vs=[.ref h])(_:Tj H h os S a.House)(_:∀L,ba S=some L-> ∀H',ag H H'->Q (.str (rL (av S) L)) H')(_:ba S=none-> ∀H',ag H H'->E (.ref a.NoWidths) none H')
theorem um (T:Txt K mg a):SW P w K mg base 6 "tell_widths" ["house"] (FE a):=by
 exists 0,jG,33,mC;obtain⟨h,os,S,rfl,⟨hI,g,db,cp⟩,qk,qe⟩:=h;obtain⟨dx,p,q0,r,is,kv,eo,I⟩:=id hI;erw[_,(ae (Tx 1 mC.nd wc ["name","width"] [] [] go2 (tJ rfl T.wO<|aj (bc (bI T:).x aT)<|R6<|bc (i7 T:) aT) λC s2 H2 fp=>⟨(show PG _ _ (nF K 2 _) from dI (n:=2) rfl<|aQ (gn 0<|SO ["name","width"])<|aQ (gn 1<|SO ["name","width"]) de),iL,(Hg aT bY)⟩) (aE<|eV<|jK (eR K bY) (c7 OL O5 O6 gW aq<|R6 bY) aq)),?_];show⟨_,Z,h,dx,_,Z,I.ih,Sk,h,_,S,Z,hI,by have:=g.ml; lia,λpm H1 npm s1 hpm=>?_⟩;have hI1:=hI.grow (H':=H1) λb o _ e=>s1 _ _ e;erw[_,Z,h,dx,_,Z,(I.same s1).ih,Sk,h,_,S,Z,hI1,g,db,λL eLw pL H2 npL s2 hpL=>?_,λen H2 s2=>qe en H2<|s1.trans s2];have s12:=s1.trans s2;obtain⟨eL,_⟩:=dh eLw;have ll:=fg (b9 db) eL;have cap:=iK g db eL;have hpm2:=s2 _ _ hpm;have ml:=g.ml;have nl:(av S).length=S.ms.length:=by unfold av; rw[NR]
 erw[pm,pL,Z,⟨_,R5.of hpm2⟩,⟨_,R5.of hpL⟩,?_];show nH (xs:=(av S).map V.str) (zs:=L.map V.int) (λj ys H3=>ag H2 H3/\ys=((((av S).zip L).take j).map eqT).map V.str) (λj ys H3 z=>⟨R5.of<|z.1 _ _ hpm2,R5.of<|z.1 _ _ hpL⟩) (by rw[NR,NR,nl,ll]) ⟨ag.refl _,Z⟩ (by rw[NR]; show ay Y) (λj ys H3 z=>by rw[z.2,NR,NR,Oi]; show OX _ _) ?_ ?_
 .rintro j ys H3 x z t hx hz ⟨sm,rfl⟩ nt;rw[N7] at hx hz;cases e1:(av S)[j]? with
  | none=>rw[e1] at hx; cases hx
  | some y =>
   cases e2:L[j]? with
   | none=>rw[e2] at hz; cases hz
   | some l =>
    rw[e1] at hx;rw[e2] at hz;cases hx;cases hz;have y8:=(g.mN y<|NU e1).len;obtain⟨l0,l1⟩:=cap l<|NU e2;erw[t,_,Z,Se.of af,Z,_,_,Z,_,_,Z,Z,_,Z,y,.str y,Y,_,Z,_,qb l0 Y,Ob (gP l0 Y) aS,sm.trans<|ag.upd nt,?_];have tk:((av S).zip L).take (j+1)=((av S).zip L).take j++[(y,l)]:=by
     have e3:((av S).zip L)[j]?=some (y,l):=Qh.mpr ⟨e1,e2⟩;rw[Ov,e3];rfl
    rw[tk,Od,Od];rfl
 rintro ys H3 p3 ⟨sm,rfl⟩ np3;rw[NR,OP (by rw[Qa]; lia)];have fin:=qk L eLw _<|s12.trans<|sm.trans<|ag.upd (o:= .lst<|(((av S).zip L).map eqT).map V.str) np3;unfold rL at fin;have jl: ∀t∈((av S).zip L).map eqT,t.length<=20:=λt ht=>by
  obtain⟨⟨y,l⟩,hyl,rfl⟩:=Ow.mp ht;obtain⟨hy,hl⟩:=QI hyl;have:=(g.mN y hy).len;obtain⟨l0,l1⟩:=cap l hl;have:=gP l0 Y;change (y++ "=" ++ dM l).length<=20;rw[dQ,dQ,show ("=" : va).length=1 by trivial];lia
 have js:=eK jl;have jn:(((av S).zip L).map eqT).length<=12:=by rw[NR,Qa]; lia
 have jn2:(((av S).zip L).map eqT).length*20<=12*20:=Pq 20 jn;erw[Q,?_,λ_ _ z=>z];cases em:S.ms with
 | nil =>
  have e0:av S=[]:=by unfold av; rw[em]; rfl
  rw[NW e0] at fin;rw[e0];erw[_,Z,false,.inl ⟨_,R5.of af,Z⟩,aM ?_];rw[e0] at fin;show fin
 | cons m0 mr =>
  have e0:av S≠[]:=by unfold av; rw[em]; show PJ _ _
  rw[NS e0] at fin;have ne:((((av S).zip L).map eqT).map V.str).isEmpty=false:=by
   have e1:=Rz.mpr e0;cases e:(((av S).zip L).map eqT).map V.str with
   | nil=>have e:=OI Dl e; rw[NR,NR,Qa,PR] at e; lia
   | cons _ _=>rfl
  erw[_,Z,true,.inl ⟨_,R5.of af,by rw[ne]; rfl⟩,aW ?_];erw[Z,_,Z,_,p3,_,Z,Z,R5.of af,uw,Y,fin]
variable{ns:qx va}
theorem lu(h: ∀y∈ns,Nm y) (i:u6):(ns.getD i "").length<=8:=by
 rw[NY];cases e:ns[i]? with
 | none=>show ON _
 | some y=>show (h y (NU e)).len
theorem ff(g:Sv S.ms S.ds) (ps:qx u6): ∀y∈aG S ps,y.length<=8:=λy hy=>by
 obtain⟨i,_,rfl⟩:=Ow.mp hy;show lu g.dN i
def sE (S:Sb) (L:qx u7) (i:u6) (ps:qx u6):va:=if MA.g L (i:u6)=0 then "0" else kE (dM (MA.g L (i:u6))) (aG S ps)
def xI (S:Sb) (s:u7) (stop:u6):va:=kE (dM s) [(av S).getD stop ""]
inductive Fz(a:Adr)(vs:qx V)(H:Hp)(Q:VK)(E:XK):Prop|mk(h:qA)(os:qx qA)(S:Sb)(y:va)(_:vs=[.ref h,.str y])(_:Tj H h os S a.House)(_:y∉av S-> ∀H',ag H H'->E (.ref a.Unknown) none H')(_:y∈av S->ba S=none-> ∀H',ag H H'->E (.ref a.NoWidths) none H')(_:y∈av S-> ∀L,ba S=some L-> ∀(ps:qx u6) (H':Hp),ag H H'->MA.cK (aD S.ms S.ds) L (((av S).idxOf y:u6):u7) ps->Q (.str (sE S L ((av S).idxOf y) ps)) H')
theorem wb (T:Txt K mg a):SW P w K mg base 8 "tell_chain" ["house","member"] (Fz a):=by
 exists 0,jG,34,j7;obtain⟨h,os,S,y,rfl,hq,e1,e2,k⟩:=h;obtain⟨hI,g,db,cp⟩:=id hq;obtain⟨dx,p,q0,r,is,kv,eo,I⟩:=id hI;have ml:=g.ml;erw[_,(ae (R9 2 j7.nd<|cG (uZ T:) aT<|R6 bY)<|ae (R9 3 j7.nd<|Sa K (bc (i7 T:) aT)<|show PE _ _ (SS K _ _ _ _) from c7 OE OV OW fk (bc (bI T:).x aT)<|R6 bY) (aE<|eV<|jK (aA aR eX aa) aq<|a6 (nv T:).x<|aj eX<|R6 dO)),?_];erw[_,Z,h,dx,_,Z,I.ih,Sk,_,Z,h,os,S,y,Z,hq,e1,e2,λhy L eL pc ps H1 npc s1 hpc hC=>?_];have hI1:=hI.grow (H':=H1) λb o _ e=>s1 _ _ e;obtain⟨eL1,_⟩:=dh eL;have ll:=fg (b9 db) eL1;have cap:=iK g db eL1;have il:=jb hy;have nl:(av S).length=S.ms.length:=by unfold av; rw[NR]
 obtain⟨j,j1,j2⟩:=dG hy;have ej:=dF j1 j2;show⟨_,Z,h,dx,_,Z,(I.same s1).ih,Sk,h,_,S,Z,hI1,g,db,λL2 eL2 pL H2 npL s2 hpL=>?_,λen H2 s2=>by rw[eL] at en; cases en⟩;rw[eL] at eL2;cases eL2;have s12:=s1.trans s2;erw[_,Z,h,dx,_,Z,(I.same s12).ih,Sk,h,_,S,Z,hI.grow λb o _ e=>s12 _ _ e,Y,λpm H3 npm s3 hpm=>?_];erw[.inl ⟨Z,_,R5.of hpm⟩,_,Z,pm,av S,y,j,Z,Z,hpm,j1,j2,?_];have gj:0<=MA.g L (j:u6)/\MA.g L (j:u6)<=31199688:=by
  unfold MA.g;rw[NY,Oa];cases e:L[j]? with
  | none=>exact⟨Oo 0,aS⟩
  | some x=>show cap x (NU e)
 have fin:=k hy L eL ps H3 (s12.trans s3) hC;rw[ej] at fin;unfold sE at fin;erw[pL,_,_,_,Z,Z,R5.of<|s3 _ _ hpL,cI Y Y,?_];have fw:=hC.SX<|MA.jU (b9 db) eL1;erw[Q,?_,λ_ _ z=>z];erw[_,Z,Z,_,Z,?_];by_cases c:MA.g L (j:u6)=0
 .rw[NW c] at fin;rw[show decide (V.int (MA.g L (j:u6))=V.int 0)=true from N2 (by rw[c])];show aW fin
 .rw[NS c] at fin;rw[show decide (V.int (MA.g L (j:u6))=V.int 0)=false from N8 λz=>c<|V.int.inj z];have nps:=ff g ps;show aM ⟨_,Z,_,Z,_,pc,dM<|MA.g L (j:u6),aG S ps,Z,qb gj.1 Y,Ob (gP gj.1 Y) aS,R5.of<|(s2.trans s3) _ _ hpc,by unfold aG; rw[NR]; lia,λy hy=>Ob (nps y hy) aS,fin⟩
inductive Fh(a:Adr)(vs:qx V)(H:Hp)(Q:VK)(_E:XK):Prop|mk(h:qA)(os:qx qA)(S:Sb)(_:vs=[.ref h])(_:Tj H h os S a.House)(_:∀(way:qx u6) (H':Hp),aZ S.ms.length (aD S.ms S.ds)=none->iq (aD S.ms S.ds) way->way.length<=200->ag H H'->Q (.str ("ring " ++ yL " " (aG S way))) H')(_:∀L,ba S=some L-> ∀H',ag H H'->Q (.str "fits") H')(_:∀(L:qx u7) (i:u6) (ps:qx u6) (H':Hp),aZ S.ms.length (aD S.ms S.ds)=some L->MA.bP L (bE S)=some i->i < S.ms.length->MA.cK (aD S.ms S.ds) L (i:u6) ps->ag H H'->Q (.str ("wide " ++ kE ((av S).getD i "") (aG S ps))) H')
theorem zG (T:Txt K mg a):Sj P w K mg base 7 "tell_why" ["house"] (Fh a):=by
 exists 0,bH,35,qF;obtain⟨h,os,S,rfl,hq,k1,k2,k3⟩:=h;obtain⟨hI,g,db,cp⟩:=id hq;obtain⟨dx,p,q0,r,is,kv,eo,I⟩:=id hI;have ml:=g.ml;erw[_,(ae (R9 1 qF.nd<|lY (x4 T:) aT)<|ae (aB (aA lg bY cM) (aE aq) ax)<|ae (aB (aA aR (R8 K bY aa) aq) (aE<|aw dE aq<|c7 OL O5 O6 gW aq<|R6<|R8 K bY aa) ax)<|aE<|aw dE aq<|aF (nv T:)<|aj (R8 K bY aa)<|R6<|R8 K bY aa),?_];erw[_,Z,h,dx,_,Z,I.ih,Sk,h,os,S,Z,hq,λt p way H1 en hw hl nt np s1 hp ht=>?_,λL eL H1 s1=>⟨_,Z,Z,_,Z,aW<|k2 L eL H1 s1⟩,λL i t p ps H1 eL hwd hi hC nt np s1 hp ht=>?_]
 .exists _,Z,Z,_,Z,aM ?_;erw[_,Z,t,_,_,_,Z,Z,Se.of ht,Z,Z,_,Z,b6 ?_];have nps:=ff g way;have js:=eK nps;have jn:(aG S way).length<=200:=by unfold aG; rw[NR]; show hl
  have jn2:(aG S way).length*8<=200*8:=Pq 8 jn;have jl:(yL " "<|aG S way).length<=2000:=Ob (fz jn nps) aS;show⟨Z,_,Z,t,_,_,_,Z,Z,Se.of ht,Z,_,p,_,Z,Z,R5.of hp,uw,Y,?_⟩;erw[_,_,Z,Z,Ob (show _<=3000 by have:("ring " : va).length=5:=uw; lia) aS,k1 way H1 en hw hl s1]
 .exists _,Z,Z,_,Z,aM ?_;erw[_,Z,t,_,_,_,Z,Z,Se.of ht,Z,Z,_,Z,R4 ?_];have nps:=ff g ps;have fw:=hC.SX<|MA.jU (b9 db) eL;have m8:((av S).getD i "").length<=8:=lu g.mN i;show⟨_,Z,t,_,_,_,Z,Z,Se.of ht,Z,_,Z,t,_,_,_,Z,Z,Se.of ht,Z,_,p,(av S).getD i "",aG S ps,Z,.str _,Ob m8 aS,R5.of hp,by unfold aG; rw[NR]; lia,λy hy=>Ob (nps y hy) aS,?_⟩;have jl:(yL " "<|aG S ps).length<=200:=Ob (fz (n:=12) (by unfold aG; rw[NR]; lia) nps) aS;have tl:(kE ((av S).getD i "")<|aG S ps).length<=300:=by
   unfold kE;rw[dQ,dQ,show (" by " : va).length=4 by trivial];lia
  erw[_,_,Z,Z,Ob (show _<=3000 by have:("wide " : va).length=5:=uw; lia) aS,k3 L i ps H1 eL hwd hi hC s1]
inductive GX(a:Adr)(vs:qx V)(H:Hp)(Q:VK)(E:XK):Prop|mk(h:qA)(os:qx qA)(S:Sb)(y:va)(_:vs=[.ref h,.str y])(_:Tj H h os S a.House)(_:y∉av S-> ∀H',ag H H'->E (.ref a.Unknown) none H')(_:y∈av S->ba S=none-> ∀H',ag H H'->E (.ref a.NoWidths) none H')(_:y∈av S-> ∀L,ba S=some L->(∀H',ag H H'->MA.fO S.ms.length (aD S.ms S.ds) L (bE S) (((av S).idxOf y:u6):u7) none->Q (.str "no end") H')/\ ∀(s:u7) (stop:u6) (H':Hp),ag H H'->stop < S.ms.length->MA.fO S.ms.length (aD S.ms S.ds) L (bE S) (((av S).idxOf y:u6):u7) (some (s,stop))->Q (.str (xI S s stop)) H')
theorem wF (T:Txt K mg a):SW P w K mg base 8 "tell_slack" ["house","member"] (GX a):=by
 exists 0,jG,36,ou;obtain⟨h,os,S,y,rfl,hq,e1,e2,k⟩:=h;obtain⟨hI,g,db,cp⟩:=id hq;obtain⟨dx,p,q0,r,is,kv,eo,I⟩:=id hI;erw[_,(ae (R9 2 ou.nd<|cG (uW T:) aT<|R6 bY)<|ae (aB (aA lg dO cM) (aE aq) ax)<|aE<|a6 (nv T:).x<|aj (R8 K dO aa)<|R6<|aP<|R6<|R8 K dO aa),?_];erw[_,Z,h,dx,_,Z,I.ih,Sk,_,Z,h,os,S,y,Z,hq,e1,e2,λhy L eL=>?_];obtain⟨k1,k2⟩:=k hy L eL;erw[λH1 s1 hS=>⟨_,Z,Z,_,Z,aW<|k1 H1 s1 hS⟩,λt s0 stop H1 nt s1 hst ht hS=>?_];have m8:((av S).getD stop "").length<=8:=lu g.mN stop;obtain⟨h0,_,⟨c,hc,f0,ec⟩,_⟩:=id hS;have c1:c<=99999:=by
  rw[NY] at hc;cases e:(bE S)[stop]? with
  | none=>rw[e] at hc; cases hc
  | some o =>
   rw[e] at hc;obtain⟨m,hm,em⟩:=Ow.mp<|NU e;show (cp m hm c<|em.trans hc).2
 obtain⟨eL1,_⟩:=dh eL;have g0:0<=MA.g L (((av S).idxOf y:u6):u7):=(MA.bG (b9 db) eL1).2.2.1 _ Y (by have:=jb hy; unfold av at this ⊢; rw[NR] at this; lia);have n9:=gP h0 Y;erw[_,Z,Z,_,Z,aM ?_];erw[_,Z,t,_,_,_,Z,Z,Se.of ht,Z,_,Z,t,_,_,_,Z,Z,Se.of ht,Z,aC,λl nl=>?_];erw[_,l,dM s0,[(av S).getD stop ""],Z,qb h0 Y,Ob n9 aS,R5.of af,(by change 1<=200; decide),λy hy=>by rw[NZ.mp hy]; lia,k2 s0 stop _ (s1.trans<|ag.upd nl) hst hS]
inductive Ask
 | deed (d:cE) | widths | why | chain (y:va) | slack (y:va) | cost (y:va)
def J6:Ask->qx V
 | .deed d=>fG d
 | .widths=>[.str "widths"]
 | .why=>[.str "why"]
 | .chain y=>[.str "chain",.str y]
 | .slack y=>[.str "slack",.str y]
 | .cost y=>[.str "cost",.str y]
inductive vc
 | ok | noW | no (x:pI)
def fD (S:Sb) (b:yW):vc:=if b=false then .no .unknown else if ba S=none then .noW else .ok
def d9 (S:Sb):Ask->vc
 | .deed d=>if a9 S d= .ok then .ok else .no (a9 S d)
 | .widths=>fD S true
 | .why=> .ok
 | .chain y=>fD S (decide (y∈av S))
 | .slack y=>fD S (decide (y∈av S))
 | .cost y=>fD S (decide (y∈aN S))
def tF (S:Sb):Ask->Sb
 | .deed d=>dZ S d
 | _=>S
def K5:pI->va
 | .ok=> ""
 | .unknown=> "refused: unknown"
 | .inUse=> "refused: in use"
 | .badName=> "refused: bad name"
 | .badNumber=> "refused: bad number"
 | .tooMuch=> "refused: too much"
 | .full=> "refused: full"
 | .nothing=> "refused: nothing back"
def Gu:vc->va
 | .ok=> ""
 | .noW=> "refused: no widths"
 | .no x=>K5 x
def Ko (a:Adr):vc->qA
 | .ok=>a.NoWidths
 | .noW=>a.NoWidths
 | .no x=>Gf a x
def BL (S:Sb):Ask->va->Prop
 | .deed _,t=>t= "done"
 | .widths,t=> ∃L,ba S=some L/\t=rL (av S) L
 | .why,t=>(∃way,aZ S.ms.length (aD S.ms S.ds)=none/\iq (aD S.ms S.ds) way/\way.length<=200/\t= "ring " ++ yL " " (aG S way))\/(∃L,ba S=some L/\t= "fits")\/ ∃L i ps,aZ S.ms.length (aD S.ms S.ds)=some L/\MA.bP L (bE S)=some i/\i < S.ms.length/\MA.cK (aD S.ms S.ds) L (i:u6) ps/\t= "wide " ++ kE ((av S).getD i "") (aG S ps)
 | .chain y,t=> ∃L ps,ba S=some L/\MA.cK (aD S.ms S.ds) L (((av S).idxOf y:u6):u7) ps/\t=sE S L ((av S).idxOf y) ps
 | .slack y,t=> ∃L,ba S=some L/\((MA.fO S.ms.length (aD S.ms S.ds) L (bE S) (((av S).idxOf y:u6):u7) none/\t= "no end")\/ ∃s stop,stop < S.ms.length/\MA.fO S.ms.length (aD S.ms S.ds) L (bE S) (((av S).idxOf y:u6):u7) (some (s,stop))/\t=xI S s stop)
 | .cost y,t=> ∃L L',ba S=some L/\aZ S.ms.length ((aD S.ms S.ds).take ((aN S).idxOf y)++(aD S.ms S.ds).drop ((aN S).idxOf y+1))=some L'/\t=dM (L.sum - L'.sum)
def Hc:Ask->Prop
 | .deed d=>Eu d
 | _=>MK
theorem mB {B:u7}: ∀ {L:qx u7},(∀x∈L,0<=x/\x<=B)->0<=L.sum/\L.sum<=L.length*B
 | [],_=>⟨Oo _,uD⟩
 | x::r,h=>by
  have a:=mB (L:=r) λy hy=>h y<|N4 _ hy;have b:=h x N6;have e:((r.length+1:u6):u7)*B=r.length*B+B:=by rw[RX,Wl]; simp
  rw[Po,Oh,e];lia
inductive sP(K:R7)(a:Adr)(vs:qx V)(H:Hp)(Q:VK)(E:XK):Prop|mk(h:qA)(os:qx qA)(S:Sb)(q:Ask)(tw:qA)(_:vs=[.ref h,.ref tw])(_:Tj H h os S a.House)(_:S.ks.length<=150)(_:Se K H tw (J6 q))(_:Hc q)(_:d9 S q= .ok-> ∀t H',BL S q t->cq a.House H h os (tF S q) H'->Q (.str t) H')(_:d9 S q≠ .ok-> ∀H',ag H H'->E (.ref (Ko a (d9 S q))) none H')
theorem sF (T:Txt K mg a):SW P w K mg base 9 "answer_words" ["house","words"] (sP K a):=by
 exists 0,jG,37,sO;obtain⟨h,os,S,q,tw,rfl,hQ,hk,hq,ok,qk,qe⟩:=h;obtain⟨hI,g,db,cp⟩:=id hQ;obtain⟨dx,p,q0,r,is,kv,eo,I⟩:=id hI;erw[_,(ae (aB (aA aR (R8 K bY aa) aq) (aE<|a6 (um T:)<|R6 aT) ax)<|ae (aB (aA aR (R8 K bY aa) aq) (aE<|a6 (wb T:)<|aj aT<|R6<|R8 K bY aa) ax)<|ae (aB (aA aR (R8 K bY aa) aq) (aE<|a6 (zG T:).x<|R6 aT) ax)<|ae (aB (aA aR (R8 K bY aa) aq) (aE<|a6 (wF T:)<|aj aT<|R6<|R8 K bY aa) ax)<|ae (aB (aA aR (R8 K bY aa) aq) (aE<|bC gH uK T.nU boot_str<|R6<|cG (wK T:) aT<|R6<|R8 K bY aa) ax)<|ae (aO<|a6 (A6 T:)<|aj aT<|R6 bY)<|aE aq),?_];have wd: ∀ {b H'},d9 S q=fD S b->b=true->ba S=none->ag H H'->E (.ref a.NoWidths) none H':=λ{b H'} e eb en s=>by
  have e2:d9 S q= .noW:=by rw[e,eb]; unfold fD; rw[NS aS,NW en]
  have:=qe (by rw[e2]; intro z; cases z) H' s;rw[e2] at this;show this
 have un: ∀ {b H'},d9 S q=fD S b->b=false->ag H H'->E (.ref a.Unknown) none H':=λ{b H'} e eb s=>by
  have e2:d9 S q= .no .unknown:=by rw[e,eb]; unfold fD; rw[NW rfl]
  have:=qe (by rw[e2]; intro z; cases z) H' s;rw[e2] at this;show this
 have okk: ∀ {b L},d9 S q=fD S b->b=true->ba S=some L->d9 S q= .ok:=λ{b L} e eb eL=>by
  rw[e,eb]; unfold fD; rw[NS aS,NS (by rw[eL]; intro z; cases z)]
 cases q with
 | widths=>exact⟨_,Z,tw,_,_,_,Z,Z,hq,Z,Z,_,Z,b6 ⟨_,Z,h,os,S,Z,hQ,λL eL H' s=>qk (okk rfl rfl eL) _ H' ⟨L,eL,Z⟩ (cq.of hI s),λen H' s=>wd rfl rfl en s⟩⟩
 | chain y =>
  erw[_,Z,tw,_,_,_,Z,Z,hq,Z,Z,_,Z,R4 ?_];erw[_,Z,tw,_,_,_,Z,Z,hq,Z,Z,_,Z,b6 ⟨_,Z,_,Z,tw,_,_,_,Z,Z,hq,Z,h,os,S,y,Z,hQ,λhy H' s=>un rfl (N8 hy) s,λhy en H' s=>wd rfl (N2 hy) en s,λhy L eL ps H' s hC=>qk (okk rfl (N2 hy) eL) _ H' ⟨L,ps,eL,hC,Z⟩<|cq.of hI s⟩]
 | why =>
  erw[_,Z,tw,_,_,_,Z,Z,hq,Z,Z,_,Z,R4 ?_];erw[_,Z,tw,_,_,_,Z,Z,hq,Z,Z,_,Z,R4 ?_];erw[_,Z,tw,_,_,_,Z,Z,hq,Z,Z,_,Z,b6 ⟨_,Z,h,os,S,Z,hQ,λway H' en hw hl s=>qk rfl _ H' (.inl ⟨way,en,hw,hl,Z⟩)<|cq.of hI s,λL eL H' s=>qk rfl _ H' (.inr<|.inl ⟨L,eL,Z⟩)<|cq.of hI s,λL i ps H' eL hwd hi hC s=>qk rfl _ H' (.inr<|.inr ⟨L,i,ps,eL,hwd,hi,hC,Z⟩)<|cq.of hI s⟩]
 | slack y =>
  erw[_,Z,tw,_,_,_,Z,Z,hq,Z,Z,_,Z,R4 ?_];erw[_,Z,tw,_,_,_,Z,Z,hq,Z,Z,_,Z,R4 ?_];erw[_,Z,tw,_,_,_,Z,Z,hq,Z,Z,_,Z,R4 ?_];erw[_,Z,tw,_,_,_,Z,Z,hq,Z,Z,_,Z,b6 ⟨_,Z,_,Z,tw,_,_,_,Z,Z,hq,Z,h,os,S,y,Z,hQ,λhy H' s=>un rfl (N8 hy) s,λhy en H' s=>wd rfl (N2 hy) en s,λhy L eL=>⟨λH' s hS=>qk (okk rfl (N2 hy) eL) _ H' ⟨L,eL,.inl ⟨hS,Z⟩⟩<|cq.of hI s,λs0 stop H' s hst hS=>qk (okk rfl (N2 hy) eL) _ H' ⟨L,eL,.inr ⟨s0,stop,hst,hS,Z⟩⟩<|cq.of hI s⟩⟩]
 | cost y =>
  erw[_,Z,tw,_,_,_,Z,Z,hq,Z,Z,_,Z,R4 ?_];erw[_,Z,tw,_,_,_,Z,Z,hq,Z,Z,_,Z,R4 ?_];erw[_,Z,tw,_,_,_,Z,Z,hq,Z,Z,_,Z,R4 ?_];erw[_,Z,tw,_,_,_,Z,Z,hq,Z,Z,_,Z,R4 ?_];erw[_,Z,tw,_,_,_,Z,Z,hq,Z,Z,_,Z,b6 ⟨_,Z,h,dx,_,Z,I.ih,Sk,_,Z,tw,_,_,_,Z,Z,hq,Z,h,os,S,y,Z,hQ,λhy H' s=>un rfl (N8 hy) s,λhy en H' s=>wd rfl (N2 hy) en s,λhy L L' eL eL' H' s=>?_⟩];obtain⟨eL1,_⟩:=dh eL;have c1:=mB<|iK g db eL1;have ll:=fg (b9 db) eL1;have ml:=g.ml;have k': ∀q∈(aD S.ms S.ds).take ((aN S).idxOf y)++(aD S.ms S.ds).drop ((aN S).idxOf y+1),MA.Sh S.ms.length q:=λq hq=>b9 db q<|kL q hq;have ll':=fg k' eL';have c2:=mB<|nI g db kL (by have:=g.dl; rw[N1,Oi,OY,ck]; lia) eL';have b1:(L.length:u7)*31199688<=12*31199688:=PU Y aS;have b2:(L'.length:u7)*31199688<=12*31199688:=PU Y aS;erw[_,Z,iR Y,qk (okk rfl (N2 hy) eL) _ H' ⟨L,L',eL,eL',Z⟩<|cq.of hI s]
 | deed d =>
  obtain⟨w0,r0,ew,n1,n2,n3,n4,n5⟩: ∃w0 r0,fG d= .str w0::r0/\w0≠ "widths" /\ w0≠ "chain" /\ w0≠ "why" /\ w0≠ "slack" /\ w0≠ "cost" := by
   cases d <;> exact⟨_,_,Z,uw,uw,uw,uw,uw⟩
  have hq0:Se K H tw (fG d):=hq;have hq:Se K H tw (.str w0::r0):=ew▸hq0;have a0:Si (V.str w0::r0) ((0:u6):u7)=some (.str w0):=aU rfl;erw[_,Z,tw,_,_,_,Z,Z,hq,a0,Z,_,Z,bj n1 ?_];erw[_,Z,tw,_,_,_,Z,Z,hq,a0,Z,_,Z,bj n2 ?_];erw[_,Z,tw,_,_,_,Z,Z,hq,a0,Z,_,Z,bj n3 ?_];erw[_,Z,tw,_,_,_,Z,Z,hq,a0,Z,_,Z,bj n4 ?_];erw[_,Z,tw,_,_,_,Z,Z,hq,a0,Z,_,Z,bj n5 ?_];erw[_,Z,_,Z,h,os,S,d,tw,Z,hI,g,hk,hq0,ok,λe H' hN=>qk (NW e) _ H' rfl ?_,λne H' s=>?_]
  .change cq a.House H h os (dZ S d) H';unfold dZ;rw[NW (show a9 S d= .ok from e)];show hN
  .have e2:d9 S (.deed d)= .no (a9 S d):=NS ne;have:=qe (by rw[e2]; intro z; cases z) H' s;rw[e2] at this;show this
def mZ (row:va) (q:rW Ask):Prop:=row.length<=900/\qS row=q.map J6/\ ∀x,q=some x->Hc x
def wU (S:Sb):rW Ask->Sb
 | none=>S
 | some x=>tF S x
def Cc (S:Sb):rW Ask->va->Prop
 | none,t=>t= "refused: bad row"
 | some x,t=>(d9 S x= .ok/\BL S x t)\/(d9 S x≠ .ok/\t=Gu (d9 S x))
theorem G1 {x:Ask}(h:d9 S x≠ .ok):tF S x=S:=by
 cases x with
 | deed d =>
  change dZ S d=S;unfold dZ;show NS λz=>h (NW z)
 | _=>rfl
variable{b:yW}
theorem pU:fD S b≠ .no .ok:=by
 unfold fD;split;.intro z; cases z
 .split <;> (intro z; cases z)
theorem IQ {S:Sb}: ∀ {x:Ask},d9 S x≠ .no .ok
 | .deed d=>by
  change (if a9 S d= .ok then vc.ok else .no (a9 S d))≠_;split;.intro z; cases z
  .rename_i h; intro z; show h (vc.no.inj z)
 | .widths=>pU
 | .why=>λz=>by cases z
 | .chain _=>pU
 | .slack _=>pU
 | .cost _=>pU
inductive wg(K:R7)(a:Adr)(vs:qx V)(H:Hp)(Q:VK)(_E:XK):Prop|mk(h:qA)(os:qx qA)(S:Sb)(row:va)(q:rW Ask)(_:vs=[.ref h,.str row])(_:Tj H h os S a.House)(_:S.ks.length<=150)(_:mZ row q)(_:∀t H',Cc S q t->cq a.House H h os (wU S q) H'->Q (.str t) H')
theorem wH (T:Txt K mg a):Sj P w K mg base 10 "answer_row" ["house","row"] (wg K a):=by
 exists 0,bH,38,wC;obtain⟨h,os,S,row,q,rfl,hQ,hk,⟨rl,rw,ok⟩,k⟩:=h;obtain⟨hI,g,db,cp⟩:=id hQ;erw[_,(au<|Kt ⟨Z,Z⟩ (λR1 E'=>(aE<|a6 (sF T:)<|aj aT<|R6<|a6 (zH T:)<|R6 bY))<|gU T.l5 (λR1 x o=>(aE aq))<|gU T.mw (λR1 x o=>(aE aq))<|gU T.pF (λR1 x o=>(aE aq))<|gU T.jN (λR1 x o=>(aE aq))<|gU T.pJ (λR1 x o=>(aE aq))<|gU T.yO (λR1 x o=>(aE aq))<|gU T.j8 (λR1 x o=>(aE aq))<|gU T.og (λR1 x o=>(aE aq))<|gU T.qQ (λR1 x o=>(aE aq)) J2),?_];erw[λO' cls _ H'=>ag H H'/\((q=none/\cls= .ref a.BadRow)\/ ∃x,q=some x/\d9 S x≠ .ok/\cls= .ref (Ko a<|d9 S x)),λR1=>?_,?_]
 .exists _,Z,_,Z,row,Z,rl,λxs er p H1 s1 np hp=>?_,λer H1 s1=>?_
  .cases q with
   | none=>rw[er] at rw; cases rw
   | some x =>
    rw[er] at rw;cases rw;have hQ1:Tj H1 h os S a.House:=⟨hI.grow (H':=H1) λb o _ e=>s1 _ _ e,g,db,cp⟩
    erw[h,os,S,x,p,Z,hQ1,hk,Se.of hp,ok x rfl,λe t H2 ht hN=>?_,λne H2 s2=>⟨s1.trans s2,.inr ⟨x,Z,ne,Z⟩⟩];obtain⟨so,os',hI2,nw⟩:=hN;show k t H2 (.inl ⟨e,ht⟩) ⟨λb o nb e=>so b o nb<|s1 _ _ e,os',hI2,λb hb=>(nw b hb).imp (λz=>z) λz=>s1.free z⟩
  .cases q with
   | none=>exact⟨s1,.inl ⟨Z,Z⟩⟩
   | some x=>rw[er] at rw; cases rw
 .rintro O' cls H' ⟨s,hx⟩;change wZ K [(_,_),(_,_),(_,_),(_,_),(_,_),(_,_),(_,_),(_,_),(_,_)] _ cls _ _;rcases hx with⟨rfl,rfl⟩ | ⟨x,rfl,ne,rfl⟩
  .have fin:=k _ H' rfl<|cq.of hI s;show jh T.u T.v 8 T.qQ.2 rfl rfl λ_ _ _=>fin
  .have fin:=k (Gu (d9 S x)) H' (.inr ⟨ne,Z⟩) (by
    change cq a.House H h os (tF S x) H';rw[G1 ne];show cq.of hI s)
   have hno:=IQ (S:=S) (x:=x);generalize d9 S x=z at fin ne hno;cases z with
   | ok=>show wz rfl ne
   | noW=>show jh T.u T.v 7 T.og.2 rfl rfl λ_ _ _=>fin
   | no y =>
    cases y with
    | ok=>show wz rfl hno
    | unknown=>show jh T.u T.v 0 T.l5.2 rfl rfl λ_ _ _=>fin
    | inUse=>show jh T.u T.v 1 T.mw.2 rfl rfl λ_ _ _=>fin
    | badName=>show jh T.u T.v 2 T.pF.2 rfl rfl λ_ _ _=>fin
    | badNumber=>show jh T.u T.v 3 T.jN.2 rfl rfl λ_ _ _=>fin
    | tooMuch=>show jh T.u T.v 4 T.pJ.2 rfl rfl λ_ _ _=>fin
    | full=>show jh T.u T.v 5 T.yO.2 rfl rfl λ_ _ _=>fin
    | nothing=>show jh T.u T.v 6 T.j8.2 rfl rfl λ_ _ _=>fin
def S0:Sb:=⟨[],[],[]⟩
def hU (qs:qx (rW Ask)) (i:u6):Sb:=(qs.take i).foldl wU S0
variable{qs:qx (rW Ask)}
theorem o7 {q:rW Ask}(h:qs[i]?=some q):hU qs (i+1)=wU (hU qs i) q:=by
 unfold hU;rw[Ov,h,Pg];rfl
theorem KR:Gd S0:=⟨⟨ON _,ON _,Qi,Qi,λy hy=>(by cases hy),λy hy=>(by cases hy)⟩,λk hk=>(by cases hk),λ_=>⟨Z,Z⟩,λk hk=>(by cases hk)⟩
structure Std (S:Sb):Prop where
 gd:Gd S
 gb:GB S
 kl:S.ks.length<=150
theorem Std.next(h:Std S) (q:rW Ask):Std (wU S q):=by
 cases q with
 | none=>show h
 | some x =>
  cases x with
  | deed d=>exact⟨Gb h.gd,IC h.gb,(Ga h.kl h.gd.now).2⟩
  | _=>show h
theorem mX (qs:qx (rW Ask)): ∀i,Std (hU qs i)
 | 0=>⟨KR,Kk,ON _⟩
 | i+1=>by
  cases e:qs[i]? with
  | none =>
   have:hU qs (i+1)=hU qs i:=(by unfold hU; rw[Ov,e]; simp);rw[this];show mX qs i
  | some q=>rw[o7 e]; show (mX qs i).next q
inductive Bs(a:Adr)(vs:qx V)(H:Hp)(Q:VK)(_E:XK):Prop|mk(p:qA)(rs:qx (va×rW Ask))(_:vs=[.ref p])(_:H p=some (.lst ((rs.map (·.1)).map V.str)))(_:rs.length<=200)(_:∀r∈rs,mZ r.1 r.2)(_:∀(q:qA) (ts:qx va) (H':Hp),H q=none->ag H H'->H' q=some (.lst (ts.map V.str))->ts.length=rs.length->(∀(i:u6) r t,rs[i]?=some r->ts[i]?=some t->Cc (hU (rs.map (·.2)) i) r.2 t)->Q (.ref q) H')
theorem Gk (T:Txt K mg a):GI P w K mg base 4 a.House "House" ["self"] (xt a.House):=LY T.aV.mg T.aV.mks T.aV.kp ((we T:).mono aS)
theorem BQ (T:Txt K mg a):Sj P w K mg base 11 "answers" ["rows"] (Bs a):=by
 exists 0,bH,39,kH;obtain⟨p,rs,rfl,hp,rl,ri,q⟩:=h;erw[_,(ae (R9 1 kH.nd<|CV (Gk T:))<|ae (R9 2 kH.nd<|aP b8)<|ae (cY (cS K aT) (gn 3 kH.nd)<|au<|aO<|fR K dO<|aF (wH T:)<|aj bY<|R6 eX)<|aE dO),?_];show λh dx nh ndx hdx=>⟨h,dx,Z,af,(ah hdx).trans af,λos0 H1 hs hI hos=>⟨Z,?_⟩⟩
 have s1:ag H H1:=λb o e=>by
  have b1:b≠h:=λz=>by rw[z,nh] at e; cases e
  have b2:b≠dx:=λz=>by rw[z,ndx] at e; cases e
  show hs b o b1 b2<|((ah b1).trans<|ah b2).trans e
 have hnew: ∀b∈os0,H b=none:=λb hb=>by
  rcases hos b hb with rfl | rfl | e
  .exact nh
  .exact ndx
  .by_cases b1:b=h;.rw[b1]; show nh
   .by_cases b2:b=dx;.rw[b2]; show ndx
    .rw[ah b1,ah b2] at e; show e
 dsimp only[aK,L2.start,x8];erw[aS,λl nl=>?_];have s2:=ag.upd (o:= .lst []) nl;have hl:(upd H1 l (.lst [])) l=some (.lst []):=af;have lo:l∉os0:=λz=>by obtain⟨o,e⟩:=hI.has l z; rw[nl] at e; cases e
 have hI2:=hI.grow (H':=upd H1 l (.lst [])) λb o _ e=>s2 _ _ e;have nlH:H l=none:=s1.free nl;have s12:=s1.trans s2;generalize upd H1 l (.lst [])=H2 at hl hI2 s12;erw[_,Z,p,Z,⟨_,R5.of (s12 _ _ hp)⟩,?_];show cm (xs:=(rs.map (·.1)).map V.str) (λi O' H'=> ∃(os:qx qA) (v3:rW V) (ts:qx va),O'=[uo p,uo h,uo l,v3]/\HI a.House H' h os (hU (rs.map (·.2)) i)/\(∀b∈os,H b=none)/\l∉os/\H' l=some (.lst (ts.map V.str))/\ts.length=i/\(∀(j:u6) r t,rs[j]?=some r->ts[j]?=some t->Cc (hU (rs.map (·.2)) j) r.2 t)/\ag H H') ⟨os0,none,[],Z,hI2,hnew,lo,hl,Z,λj r t _ h=>(by cases h),s12⟩ (λi O' H' _ ⟨_,_,_,_,_,_,_,_,_,_,sm⟩=>bf (R5.of (sm _ _ hp))) ?_ ?_
 .rintro i x O' H' D1 nx1 - hi ⟨os,v3,ts,rfl,hI',no,lo',hl',tl,hts,sm⟩;rw[N7,N7] at hi;cases hr1:rs[i]? with
  | none=>rw[hr1] at hi; cases hi
  | some r =>
   rw[hr1] at hi;cases hi;have il:=(NX.mp hr1).1;have st:=mX (rs.map (·.2)) i;have qi:(rs.map (·.2))[i]?=some r.2:=(by rw[N7,hr1]; rfl);erw[_,Z,.inl ⟨Z,_,R5.of hl'⟩,_,Z,_,Z,h,os,_,r.1,r.2,Z,⟨hI',st.gd.now,st.gb.now,st.gb.cap⟩,st.kl,ri r<|NU hr1,λt H6 ht hN=>?_];rw[<-o7 qi] at hN;obtain⟨so,os',hI6,nw⟩:=hN;have hl6:=so _ _ lo' hl';have lo6:l∉os':=λz=>by
    rcases nw l z with z | z
    .exact lo' z
    .rw[hl'] at z; cases z
   have sm6:ag H H6:=λb o e=>so b o (λz=>by rw[no b z] at e; cases e)<|sm _ _ e;show⟨l,_,_,Z,Z,hl6,by rw[NR,tl]; show ay Y,?_⟩;show nx1 _ _ ⟨os',_,ts++[t],Z,hI6.grow λb o hb e=>(ah<|show b≠l from λz=>lo6<|z▸hb).trans e,λb hb=>(nw b hb).elim (no b) λz=>sm.free z,lo6,by rw[af,Od]; rfl,by rw[N1,tl]; rfl,λj r' t' hj ht'=>?_,sm6.cT nlH⟩;by_cases c:j < ts.length
   .rw[O1 c] at ht';show hts j r' t' hj ht'
   .have jl:=(NX.mp ht').1;rw[N1,P9] at jl;obtain rfl:j=i:=Y;rw[hr1] at hj;cases hj;rw[O9 Y,show j - ts.length=0 by lia] at ht';cases ht';show ht
 rintro O' H' ⟨os,v3,ts,rfl,_,_,_,hl',tl,hts,sm⟩;rw[NR,NR] at tl;erw[_,Z,q l ts H' nlH sm hl' tl hts]
theorem at2 {x y:V}:Si [x,y] (if b=true then 1 else 0)=some (if b=true then y else x):=by cases b <;> rfl
inductive Bn(vs:qx V)(H:Hp)(Q:VK)(_E:XK):Prop|mk(p e o:u7)(_:vs=[.int p,.int e,.int o])(_:Sy p e o)(_:Q (.int (eJ p e o)) H)
theorem tI (T:Txt K mg a):Sj P w K mg base 1 "_law_rounded" ["_law_people","_law_each","_law_over"] Bn:=by
 exists 0,bH,43,vb;obtain⟨p,e,o,rfl,hin,q⟩:=h;erw[_,(aE<|aw bM (aw gN (aw bw (aw tf aT bY) dO) aa) dO),?_];have hin':=id hin;unfold Sy at hin';erw[_,Z,_,Z,_,_,Z,Z,.inl ⟨Y,Y⟩,_,Z,_,_,Z,Z,_,_,Z,Z,_,Z,_,_,Z,Z,⟨Y,Y⟩,q]
theorem Hs (y:va) (ds:qx Sn):Sq (.str y) (ds.map (λd=>V.str d.2.1)++ds.map λd=>hZ d.2.2.1)=mh y ds:=by
 unfold Sq mh;rw[List.any_append,Wc,Wc];have e1: ∀d:Sn,(match V.str d.2.1,V.str y with | .str a,.str b=>a == b | _,_=>false)=decide (d.2.1=y):=λd=>by
  change (d.2.1 == y)=_;by_cases c:d.2.1=y <;> simp[c]
 induction ds with
 | nil=>rfl
 | cons d r ih =>
  obtain⟨d1,d2,d3,d4⟩:=d;have b1:(d2 == y)=decide (d2=y):=by by_cases c:d2=y <;> simp[c]
  have b2: ∀z:va,(z == y)=decide (z=y):=λz=>by by_cases c:z=y <;> simp[c]
  rw[PD,PD,PD,<-ih];cases d3 with
  | none =>
   change ((d2 == y) || _ || (false || _))=(decide (d2=y) || decide ((none:rW va)=some y) || (_ || _));rw[b1];simp[Bool.or_assoc]
  | some z =>
   change ((d2 == y) || _ || ((z == y) || _))=(decide (d2=y) || decide (some z=some y) || (_ || _));rw[b1,b2];by_cases c1:d2=y <;> by_cases c2:z=y <;> simp[c1,c2]
theorem Fj (ds:qx Sn):(ds.map (λd=>V.str d.2.1)++ds.map λd=>hZ d.2.2.1).all c6=true:=by
 rw[List.all_append,QP,QP];have h1:ds.all (c6∘λd=>V.str d.2.1)=true:=O3.mpr λd _=>rfl;have h2:ds.all (c6∘λd=>hZ d.2.2.1)=true:=O3.mpr λd _=>by
  obtain⟨d1,d2,d3,d4⟩:=d;cases d3 <;> rfl
 rw[h1,h2];rfl
theorem kF (ds:qx Sn):(ds.map λd=>V.str d.1).all c6=true:=by
 rw[QP];show O3.mpr λd _=>rfl
theorem qo (y:va) (ds:qx Sn):Sq (.str y) (ds.map λd=>V.str d.1)=decide (y∈ds.map (·.1)):=by
 have e:(ds.map λd=>V.str d.1)=(ds.map (·.1)).map V.str:=by rw[OK]; rfl
 rw[e,cz]
inductive wM(K:R7)(vs:qx V)(H:Hp)(Q:VK)(_E:XK):Prop|mk(xs:qx qA)(n:u6)(ts:qA)(S:Sb)(sort m:va)(d:cE)(_:vs=[.ref ts,.str sort,.str m])(_:LS xs n H ts S.ms S.ds)(_:S.ds.length<=24)(_:(sort= "member" /\ d= .sM m)\/(sort= "demand" /\ d= .sD m)\/(sort= "top" /\ d= .sT m))(_:∀H',ag H H'->Q (.str (wordOf (bz S d))) H')
theorem wD (T:Txt K mg a):Sj P w K mg base 1 "_law_due_strike" ["_law_state","_law_sort","_law_name"] (wM K):=by
 exists 0,bH,44,cB;obtain⟨xs,n,ts,S,sort,m,d,rfl,⟨ln,la,dd,vs,kvs,l⟩,hdl,hs,q⟩:=h;erw[_,(ae (fj aT<|dI rfl<|aQ (gn 3 cB.nd)<|aQ (gn 4 cB.nd)<|aQ (gn 5 cB.nd) de)<|ae (R9 6 cB.nd<|Dt (rZ (dB hr) dO gT) (by with_unfolding_all rfl))<|dD (aB (aA aR bY aq) (au<|R9 6 cB.nd<|Bz (Ti K) dO eX) ax)<|dD (aB (aA aR bY aq) (au<|R9 6 cB.nd<|Bz (Ti K) dO<|eZ iH ["_law_row"] [] [] (cS K gE) λC s2 H2 fp=>(R8 K aT aa)) ax)<|ae (aB (lG<|eR K iF) (aE aq) ax)<|ae (R9 7 cB.nd<|aw fQ (eZ iH ["_law_row"] [] [] (cS K gE) λC s2 H2 fp=>(R8 K aT aa))<|eZ iH ["_law_row"] [] [] (cS K gE) λC s2 H2 fp=>(R8 K aT aa))<|ae (aB (PW.pt<|cv (aA aR bY aq)<|cg<|f6 (Ti K) dO iN) (aE aq) ax)<|aE aq),?_];erw[_,Z,ts,_,Z,Se.of l.ht,Z,_,_,Z,_,_,Z,_,_,Z,Z,?_];erw[_,Z,_,Z,dd,_,Z,dz.k (k:=zA m) l.hd,?_];dsimp only[aK,L2.start,x8];have e1:aN S=S.ds.map (·.1):=rfl;have e2:av S=S.ms.map (·.1):=rfl;rcases hs with⟨rfl,rfl⟩ | ⟨rfl,rfl⟩ | ⟨rfl,rfl⟩
 .exists λO' H'=>O'=[uo ts,some<|.str "member",some<|.str m,uo ln,uo la,uo dd,some<|.bl<|decide<|m∈av S,none]/\H'=H,⟨_,Z,Z,_,Z,b6 ⟨_,Z,_,Z,ln,_,Z,.inl<|R5.of l.hn,Z,bW _,?_,Z⟩⟩,?_
  .change [some (V.ref ts),some (.str "member"),some (.str m),uo ln,uo la,uo dd,some (.bl (Sq (.str m) _)),none]=_;rw[cz];rfl
  rintro O1 H1 ⟨rfl,rfl⟩;erw[λO' H'=>O'=[uo ts,some<|.str "member",some<|.str m,uo ln,uo la,uo dd,some<|.bl<|decide<|m∈av S,none]/\H'=H1,⟨_,Z,Z,_,Z,R4 ⟨Z,Z⟩⟩,?_];rintro O1 H2 ⟨rfl,rfl⟩;by_cases hm:m∈av S
  .rw[N2 hm];erw[_,Z,_,Z,aM ?_];erw[_,Z,la,Z,⟨_,R5.of l.ha⟩,dP (λd=>V.str d.2.1) (λd=>rfl) (bf (R5.of l.ha)) l.ar Y λp1 np1=>?_];have s1:=ag.upd (o:= .lst (S.ds.map λd=>V.str d.2.1)) np1;have h1:(upd H2 p1 (.lst (S.ds.map λd=>V.str d.2.1))) p1=some (.lst (S.ds.map λd=>V.str d.2.1)):=af;generalize upd H2 p1 (.lst (S.ds.map λd=>V.str d.2.1))=H3 at s1 h1;have ar3:F2 (jZ xs H3) vs S.ds:=l.ar.imp λv d ⟨t,e,a,b⟩=>⟨t,e,a,s1 _ _ b⟩
   erw[_,Z,la,Z,⟨_,R5.of<|s1 _ _ l.ha⟩,dP (λd=>hZ d.2.2.1) (λd=>rfl) (bf<|R5.of<|s1 _ _ l.ha) ar3 Y λp2 np2=>?_];have s2:=ag.upd (o:= .lst<|S.ds.map λd=>hZ d.2.2.1) np2;show⟨p1,p2,_,_,Z,Z,s2 _ _ h1,af,by rw[NR,NR]; show OA<|ay Y,λp3 np3=>?_⟩;have s3:=ag.upd (o:= .lst<|S.ds.map (λd=>V.str d.2.1)++S.ds.map λd=>hZ d.2.2.1) np3;have s13:=(s1.trans s2).trans s3;erw[_,Z,Z,_,Z,b6 ⟨_,Z,_,Z,p3,_,Z,.inl<|R5.of af,Z,Fj _,_,Z,?_⟩];change if Sq (.str m) _=true then _ else _;rw[Hs];show bh (λc=>?_) λc=>?_
   .have:=q _ s13;rw[bz,NS λz=>z hm,NW c] at this;show this
   .have:=q _ s13;rw[bz,NS λz=>z hm,NS c] at this;show this
  .rw[N8 hm];erw[_,Z,_,Z,aW ?_];have:=q _<|ag.refl H2;rw[bz,NW hm] at this;show this
 .exists λO' H'=>O'=[uo ts,some<|.str "demand",some<|.str m,uo ln,uo la,uo dd,some<|.bl (aY kvs<|zA m).isSome,none]/\H'=H,⟨_,Z,Z,_,Z,R4 ⟨Z,Z⟩⟩,?_;rintro O1 H1 ⟨rfl,rfl⟩;erw[λO' H'=>O'=[uo ts,some<|.str "demand",some<|.str m,uo ln,uo la,uo dd,some<|.bl<|decide<|m∈aN S,none]/\ag H1 H',⟨_,Z,Z,_,Z,b6 ⟨_,Z,_,Z,la,Z,⟨_,R5.of l.ha⟩,dP (λd=>V.str d.1) (λd=>rfl) (bf<|R5.of l.ha) l.ar Y λp1 np1=>⟨p1,_,Z,.inl<|R5.of af,Z,kF _,?_,ag.upd np1⟩⟩⟩,?_]
  .change [some (V.ref ts),some (.str "demand"),some (.str m),uo ln,uo la,uo dd,some (.bl (Sq (.str m) _)),none]=_;rw[qo];rfl
  rintro O1 H2 ⟨rfl,s2⟩;by_cases hm:m∈aN S
  .rw[N2 hm];erw[_,Z,_,Z,aM ?_];have ar2:F2 (jZ xs H2) vs S.ds:=l.ar.imp λv d ⟨t,e,a,b⟩=>⟨t,e,a,s2 _ _ b⟩
   erw[_,Z,la,Z,⟨_,R5.of (s2 _ _ l.ha)⟩,dP (λd=>V.str d.2.1) (λd=>rfl) (bf (R5.of (s2 _ _ l.ha))) ar2 Y λp1 np1=>?_];have s1:=ag.upd (o:= .lst (S.ds.map λd=>V.str d.2.1)) np1;have h1:(upd H2 p1 (.lst (S.ds.map λd=>V.str d.2.1))) p1=some (.lst (S.ds.map λd=>V.str d.2.1)):=af;generalize upd H2 p1 (.lst (S.ds.map λd=>V.str d.2.1))=H3 at s1 h1;have s12:=s2.trans s1;have ar3:F2 (jZ xs H3) vs S.ds:=l.ar.imp λv d ⟨t,e,a,b⟩=>⟨t,e,a,s12 _ _ b⟩
   erw[_,Z,la,Z,⟨_,R5.of<|s12 _ _ l.ha⟩,dP (λd=>hZ d.2.2.1) (λd=>rfl) (bf<|R5.of<|s12 _ _ l.ha) ar3 Y λp2 np2=>?_];have s3:=ag.upd (o:= .lst<|S.ds.map λd=>hZ d.2.2.1) np2;show⟨p1,p2,_,_,Z,Z,s3 _ _ h1,af,by rw[NR,NR]; show OA<|ay Y,λp3 np3=>?_⟩;have s4:=ag.upd (o:= .lst<|S.ds.map (λd=>V.str d.2.1)++S.ds.map λd=>hZ d.2.2.1) np3;erw[_,Z,Z,_,Z,R4<|aM ?_];have:=q _<|(s12.trans s3).trans s4;rw[bz,NS λz=>z hm] at this;show this
  .rw[N8 hm];erw[_,Z,_,Z,aW ?_];have:=q _ s2;rw[bz,NW hm] at this;show this
 .exists λO' H'=>O'=[uo ts,some<|.str "top",some<|.str m,uo ln,uo la,uo dd,some<|.bl (aY kvs<|zA m).isSome,none]/\H'=H,⟨_,Z,Z,_,Z,R4 ⟨Z,Z⟩⟩,?_;rintro O1 H1 ⟨rfl,rfl⟩;erw[λO' H'=>O'=[uo ts,some<|.str "top",some<|.str m,uo ln,uo la,uo dd,some<|.bl (aY kvs<|zA m).isSome,none]/\H'=H1,⟨_,Z,Z,_,Z,R4 ⟨Z,Z⟩⟩,?_];rintro O1 H2 ⟨rfl,rfl⟩;have hc:=l.cp m;cases ec:bD S.ms m with
  | some c =>
   rw[ec] at hc;rw[show aY kvs (zA m)=some (V.int c) from hc];erw[_,Z,_,Z,aM ?_];erw[_,Z,la,Z,⟨_,R5.of l.ha⟩,dP (λd=>V.str d.2.1) (λd=>rfl) (bf (R5.of l.ha)) l.ar Y λp1 np1=>?_];have s1:=ag.upd (o:= .lst (S.ds.map λd=>V.str d.2.1)) np1;have h1:(upd H2 p1 (.lst (S.ds.map λd=>V.str d.2.1))) p1=some (.lst (S.ds.map λd=>V.str d.2.1)):=af;generalize upd H2 p1 (.lst (S.ds.map λd=>V.str d.2.1))=H3 at s1 h1;have ar3:F2 (jZ xs H3) vs S.ds:=l.ar.imp λv d ⟨t,e,a,b⟩=>⟨t,e,a,s1 _ _ b⟩
   erw[_,Z,la,Z,⟨_,R5.of<|s1 _ _ l.ha⟩,dP (λd=>hZ d.2.2.1) (λd=>rfl) (bf<|R5.of<|s1 _ _ l.ha) ar3 Y λp2 np2=>?_];have s3:=ag.upd (o:= .lst<|S.ds.map λd=>hZ d.2.2.1) np2;show⟨p1,p2,_,_,Z,Z,s3 _ _ h1,af,by rw[NR,NR]; show OA<|ay Y,λp3 np3=>?_⟩;have s4:=ag.upd (o:= .lst<|S.ds.map (λd=>V.str d.2.1)++S.ds.map λd=>hZ d.2.2.1) np3;erw[_,Z,Z,_,Z,R4<|aM ?_];have:=q _<|(s1.trans s3).trans s4;rw[bz,NS (by rw[ec]; intro z; cases z)] at this;show this
  | none =>
   rw[ec] at hc;rw[show aY kvs (zA m)=none from hc];erw[_,Z,_,Z,aW ?_];have:=q _<|ag.refl H2;rw[bz,NW ec] at this;show this
inductive JH(K:R7)(vs:qx V)(H:Hp)(Q:VK)(_E:XK):Prop|mk(xs:qx qA)(n:u6)(ts td:qA)(S:Sb)(d:cE)(_:vs=[.ref ts,.int (S.ks.length:u6),.ref td])(_:LS xs n H ts S.ms S.ds)(_:S.ms.length<=12)(_:S.ds.length<=24)(_:Se K H td (fG d))(_:Td d)(_:∀H',ag H H'->Q (.str (wordOf (bz S d))) H')
theorem Jv (T:Txt K mg a):Sj P w K mg base 2 "_law_due" ["_law_state","_law_kept","_law_deed_here"] (JH K):=by
 exists 0,bH,45,kK;obtain⟨xs,n,ts,td,S,d,rfl,ls,hml,hdl,hq,ok,q⟩:=h;obtain⟨ln,la,dd,vs,kvs,l⟩:=id ls;erw[_,(ae (fj aT<|dI rfl<|aQ (gn 3 kK.nd)<|aQ (gn 4 kK.nd)<|aQ (gn 5 kK.nd) de)<|ae (aB (aA aR (R8 K dO aa) aq) (aE<|Sa K (aP<|aj aq<|R6 aq)<|bC eg uK T.iz boot_int<|R6<|dH aR bY aa) ax)<|ae (aB (aA aR (R8 K dO aa) aq) (aE<|aF (wD T:)<|aj aT<|aj (R8 K dO aa)<|R6<|R8 K dO aa) ax)<|ae (aB (aA aR (R8 K dO aa) aq) (ae (aB (f6 (Ti K) (R8 K dO aa) eX) (aE aq) ax)<|aE<|Sa K (aP<|aj aq<|R6 aq)<|bC eg uK T.iz boot_int<|R6<|dH aR (c5 K T.bZ eX) aa) ax)<|ae (aB (aA aR (R8 K dO aa) aq) (ae (aB (f6 (rG K) (R8 K dO aa) eX) (aE aq) ax)<|aE<|Sa K (aP<|aj aq<|R6 aq)<|bC eg uK T.iz boot_int<|R6<|Dt (rZ (dB hr) (R8 K dO aa) gT) (by with_unfolding_all rfl)) ax)<|ae (aB (PW.pt<|sy (f6 (rG K) (R8 K dO aa) eX)<|pH<|PW.pt<|cv (aA aR (R8 K dO aa) aq)<|cg<|f6 (rG K) (R8 K dO aa) eX) (aE aq) ax)<|ae (aB (f6 (Ti K) (R8 K dO aa)<|eZ EW ["_law_row"] [] [] (cS K gE) λC s2 H2 fp=>(R8 K aT aa)) (aE aq) ax)<|ae (aB (PW.pt<|cv (aA aR (R8 K dO aa) aq)<|cg<|aA jg (aF (tI T:)<|aj (R8 K dO aa)<|aj (R8 K dO aa)<|R6<|R8 K dO aa) aa) (aE aq) ax)<|aE<|Sa K (aP<|aj aq<|R6 aq)<|bC eg uK T.iz boot_int<|R6<|dH aR (c5 K T.bZ gE) aa),?_];erw[_,Z,ts,_,Z,Se.of l.ht,Z,_,_,Z,_,_,Z,_,_,Z,Z,?_];dsimp only[aK,L2.start,x8];have two: ∀ {b:yW}{z:va}{x:L2.Due},bz S d=x->(if b=true then V.str z else V.str "")=V.str (wordOf x)-> ∀H',ag H H'->Q (if b=true then V.str z else V.str "") H':=λ{b z x} e1 e2 H' s=>by
  rw[e2,<-e1];show q H' s
 cases d with
 | back =>
  erw[_,Z,td,_,_,_,Z,Z,hq,Z,Z,_,Z,b6 ⟨aC,λp np=>⟨_,Z,Z,.inr ⟨_,Z,p,_,_,_,Z,Z,R5.of af,at2,?_⟩⟩⟩];by_cases c:S.ks=[];.exact two (x:= .nothing) (by rw[bz,NW c]) (by rw[show decide (V.int (S.ks.length:u6)=V.int 0)=true from N2 (by rw[c]; rfl)]; rfl) _ (ag.upd np)
  .show two (x:= .ok) (by rw[bz,NS c]) ?_ _ (ag.upd np);rw[show decide (V.int (S.ks.length:u6)=V.int 0)=false from N8 λz=>c<|QT.mp (by have:=V.int.inj z; lia)];rfl
 | sM m =>
  show bo rfl hq rfl uw ?_;erw[_,Z,td,_,_,_,Z,Z,hq,Z,Z,_,Z,b6 ⟨_,Z,_,Z,td,_,_,_,Z,Z,hq,Z,_,Z,td,_,_,_,Z,Z,hq,Z,xs,n,ts,S,_,m,.sM m,Z,ls,hdl,.inl ⟨Z,Z⟩,q⟩]
 | sD m =>
  show bo rfl hq rfl uw ?_;erw[_,Z,td,_,_,_,Z,Z,hq,Z,Z,_,Z,b6 ⟨_,Z,_,Z,td,_,_,_,Z,Z,hq,Z,_,Z,td,_,_,_,Z,Z,hq,Z,xs,n,ts,S,_,m,.sD m,Z,ls,hdl,.inr<|.inl ⟨Z,Z⟩,q⟩]
 | sT m =>
  show bo rfl hq rfl uw ?_;erw[_,Z,td,_,_,_,Z,Z,hq,Z,Z,_,Z,b6 ⟨_,Z,_,Z,td,_,_,_,Z,Z,hq,Z,_,Z,td,_,_,_,Z,Z,hq,Z,xs,n,ts,S,_,m,.sT m,Z,ls,hdl,.inr<|.inr ⟨Z,Z⟩,q⟩]
 | member y =>
  show bo rfl hq rfl uw ?_;show bo rfl hq rfl uw ?_;erw[_,Z,td,_,_,_,Z,Z,hq,Z,Z,_,Z,b6 ?_];by_cases hm:y∈av S
  .exists _,Z,td,_,_,_,Z,Z,hq,Z,_,Z,ln,_,Z,.inl<|R5.of l.hn,Z,bW _,true,OI V.bl<|(cz y _).trans<|N2 hm,aW ?_;have:=q H<|ag.refl H;rw[bz,NW hm] at this;show this
  .exists _,Z,td,_,_,_,Z,Z,hq,Z,_,Z,ln,_,Z,.inl<|R5.of l.hn,Z,bW _,false,OI V.bl<|(cz y _).trans<|N8 hm,aM ?_;erw[aC,λp np=>⟨_,Z,_,_,Z,.inl ⟨_,R5.of<|ag.upd np _ _ l.hn,Z⟩,Z,.inr ⟨_,Z,p,_,_,_,Z,Z,R5.of af,at2,?_⟩⟩];rw[NR,NR];by_cases c:12<=S.ms.length;.exact two (x:= .full) (by rw[bz,NS hm,NW c]) (by rw[show decide (V.int (S.ms.length:u6)=V.int 12)=true from N2 (by rw[show S.ms.length=12 by lia]; rfl)]; rfl) _ (ag.upd np)
   .exact two (x:= .ok) (by rw[bz,NS hm,NS c]) (by rw[show decide (V.int (S.ms.length:u6)=V.int 12)=false from N8 λz=>c (by have:=V.int.inj z; lia)]; rfl) _ (ag.upd np)
 | top m wd =>
  show bo rfl hq rfl uw ?_;show bo rfl hq rfl uw ?_;show bo rfl hq rfl uw ?_;erw[_,Z,td,_,_,_,Z,Z,hq,Z,Z,_,Z,b6 ?_];by_cases hm:m∈av S
  .exists _,Z,td,_,_,_,Z,Z,hq,Z,_,Z,ln,_,Z,.inl<|R5.of l.hn,Z,bW _,false,OI V.bl (by change (!Sq (.str m) _)=false; rw[cz]; change (!decide (m∈av S))=false; rw[N2 hm]; rfl),aM ?_;erw[aC,λp np=>⟨_,Z,td,_,_,_,Z,Z,(ag.upd np).fZ hq,Z,_,Z,dd,_,Z,dz.k (k:=zA m)<|ag.upd np _ _ l.hd,.inr ⟨_,Z,p,_,_,_,Z,Z,R5.of af,at2,?_⟩⟩];rw[l.cp m];cases ec:bD S.ms m with
   | none=>show two (x:= .ok) (by rw[bz,NS (λz=>z hm),NS (by rw[ec]; show λz=>z rfl)]) rfl _ (ag.upd np)
   | some c=>show two (x:= .inUse) (by rw[bz,NS (λz=>z hm),NW (by rw[ec]; intro z; cases z)]) rfl _ (ag.upd np)
  .exists _,Z,td,_,_,_,Z,Z,hq,Z,_,Z,ln,_,Z,.inl<|R5.of l.hn,Z,bW _,true,OI V.bl (by change (!Sq (.str m) _)=true; rw[cz]; change (!decide (m∈av S))=true; rw[N8 hm]; rfl),aW ?_;have:=q H<|ag.refl H;rw[bz,NW hm] at this;show this
 | plain y m pp e o =>
  obtain⟨o1,o2,o3⟩:Nm y/\Nm m/\Sy pp e o:=ok;show bo rfl hq rfl uw ?_;show bo rfl hq rfl uw ?_;show bo rfl hq rfl uw ?_;show bo rfl hq rfl uw ?_;by_cases hm:m∈av S;rotate_left
  .exists _,Z,td,_,_,_,Z,Z,hq,Z,_,Z,ln,_,Z,.inl<|R5.of l.hn,Z,bW _,true,OI V.bl (by change (!Sq (.str m) _)=true; rw[cz]; change (!decide (m∈av S))=true; rw[N8 hm]; rfl),aW<|aW ?_;have:=q H<|ag.refl H;rw[bz,NW hm] at this;show this
  erw[_,Z,td,_,_,_,Z,Z,hq,Z,_,Z,ln,_,Z,.inl (R5.of l.hn),Z,bW _,false,OI V.bl (by change (!Sq (.str m) _)=false; rw[cz]; change (!decide (m∈av S))=false; rw[N2 hm]; rfl),aM ?_];erw[_,Z,td,_,_,_,Z,Z,hq,Z,Z,_,Z,R4 (aM ?_)];erw[_,Z,td,_,_,_,Z,Z,hq,Z,_,Z,la,Z,⟨_,R5.of l.ha⟩,dP (λd=>V.str d.1) (λd=>rfl) (bf (R5.of l.ha)) l.ar Y λp1 np1=>⟨p1,_,Z,.inl (R5.of af),Z,kF _,_,Z,?_⟩];have s1:=ag.upd (o:= .lst (S.ds.map λd=>V.str d.1)) np1;generalize upd H p1 (.lst (S.ds.map λd=>V.str d.1))=H1 at s1;change if Sq (.str y) _=true then _ else _;rw[qo];by_cases hn:y∈aN S
  .rw[show decide (y∈S.ds.map (·.1))=true from N2 hn];show aW ?_;have:=q _ s1;rw[bz,NS λz=>z hm,NW hn] at this;show this
  rw[show decide (y∈S.ds.map (·.1))=false from N8 hn];have hq1:=s1.fZ hq;show aM ⟨_,Z,td,_,_,_,Z,Z,hq1,Z,Z,_,Z,b6 ⟨_,Z,td,_,_,_,Z,Z,hq1,Z,_,Z,td,_,_,_,Z,Z,hq1,Z,_,Z,td,_,_,_,Z,Z,hq1,Z,pp,e,o,Z,o3,_,_,Z,Z,_,Z,?_⟩⟩;by_cases hp:99999 < eJ pp e o
  .rw[show decide (99999 < eJ pp e o)=true from N2 hp];show aW ?_;have:=q _ s1;rw[bz,NS λz=>z hm,NS hn,NW hp] at this;show this
  rw[show decide (99999 < eJ pp e o)=false from N8 hp];show aM ⟨aC,λp np=>⟨_,Z,_,_,Z,.inl ⟨_,R5.of<|ag.upd np _ _<|s1 _ _ l.ha,Z⟩,Z,.inr ⟨_,Z,p,_,_,_,Z,Z,R5.of af,at2,?_⟩⟩⟩;rw[l.ar.length];by_cases c:24<=S.ds.length;.exact two (x:= .full) (by rw[bz,NS λz=>z hm,NS hn,NS hp,NW c]) (by rw[show decide (V.int (S.ds.length:u6)=V.int 24)=true from N2 (by rw[show S.ds.length=24 by lia]; rfl)]; rfl) _ (s1.trans<|ag.upd np)
  .exact two (x:= .ok) (by rw[bz,NS λz=>z hm,NS hn,NS hp,NS c]) (by rw[show decide (V.int (S.ds.length:u6)=V.int 24)=false from N8 λz=>c (by have:=V.int.inj z; lia)]; rfl) _ (s1.trans<|ag.upd np)
 | link y m b mo =>
  show bo rfl hq rfl uw ?_;show bo rfl hq rfl uw ?_;show bo rfl hq rfl uw ?_;show bo rfl hq rfl uw ?_;by_cases hm:m∈av S;rotate_left
  .exists _,Z,td,_,_,_,Z,Z,hq,Z,_,Z,ln,_,Z,.inl<|R5.of l.hn,Z,bW _,true,OI V.bl (by change (!Sq (.str m) _)=true; rw[cz]; change (!decide (m∈av S))=true; rw[N8 hm]; rfl),aW<|aW ?_;have:=q H<|ag.refl H;rw[bz,NW<|.inl hm] at this;show this
  erw[_,Z,td,_,_,_,Z,Z,hq,Z,_,Z,ln,_,Z,.inl<|R5.of l.hn,Z,bW _,false,OI V.bl (by change (!Sq (.str m) _)=false; rw[cz]; change (!decide (m∈av S))=false; rw[N2 hm]; rfl),aM ?_];by_cases hb:b∈av S;rotate_left
  .exists _,Z,td,_,_,_,Z,Z,hq,Z,Z,_,Z,b6 ⟨_,Z,td,_,_,_,Z,Z,hq,Z,_,Z,ln,_,Z,.inl<|R5.of l.hn,Z,bW _,true,OI V.bl (by change (!Sq (.str b) _)=true; rw[cz]; change (!decide (b∈av S))=true; rw[N8 hb]; rfl),aW ?_⟩;have:=q H<|ag.refl H;rw[bz,NW<|.inr hb] at this;show this
  have hu: ¬(m∉av S\/b∉av S):=λz=>z.elim (λz=>z hm) λz=>z hb;erw[_,Z,td,_,_,_,Z,Z,hq,Z,Z,_,Z,b6 ⟨_,Z,td,_,_,_,Z,Z,hq,Z,_,Z,ln,_,Z,.inl (R5.of l.hn),Z,bW _,false,OI V.bl (by change (!Sq (.str b) _)=false; rw[cz]; change (!decide (b∈av S))=false; rw[N2 hb]; rfl),aM ?_⟩];erw[_,Z,td,_,_,_,Z,Z,hq,Z,_,Z,la,Z,⟨_,R5.of l.ha⟩,dP (λd=>V.str d.1) (λd=>rfl) (bf (R5.of l.ha)) l.ar Y λp1 np1=>⟨p1,_,Z,.inl (R5.of af),Z,kF _,_,Z,?_⟩];have s1:=ag.upd (o:= .lst (S.ds.map λd=>V.str d.1)) np1;generalize upd H p1 (.lst (S.ds.map λd=>V.str d.1))=H1 at s1;change if Sq (.str y) _=true then _ else _;rw[qo];by_cases hn:y∈aN S
  .rw[show decide (y∈S.ds.map (·.1))=true from N2 hn];show aW ?_;have:=q _ s1;rw[bz,NS hu,NW hn] at this;show this
  rw[show decide (y∈S.ds.map (·.1))=false from N8 hn];have hq1:=s1.fZ hq;show aM ⟨_,Z,td,_,_,_,Z,Z,hq1,Z,Z,_,Z,R4<|aM ?_⟩;erw[aC,λp np=>⟨_,Z,_,_,Z,.inl ⟨_,R5.of<|ag.upd np _ _<|s1 _ _ l.ha,Z⟩,Z,.inr ⟨_,Z,p,_,_,_,Z,Z,R5.of af,at2,?_⟩⟩];rw[l.ar.length];by_cases c:24<=S.ds.length;.exact two (x:= .full) (by rw[bz,NS hu,NS hn,NW c]) (by rw[show decide (V.int (S.ds.length:u6)=V.int 24)=true from N2 (by rw[show S.ds.length=24 by lia]; rfl)]; rfl) _ (s1.trans<|ag.upd np)
  .exact two (x:= .ok) (by rw[bz,NS hu,NS hn,NS c]) (by rw[show decide (V.int (S.ds.length:u6)=V.int 24)=false from N8 λz=>c (by have:=V.int.inj z; lia)]; rfl) _ (s1.trans<|ag.upd np)
inductive G3(K:R7)(vs:qx V)(H:Hp)(Q:VK)(_E:XK):Prop|mk(xs:qx qA)(n:u6)(ts td:qA)(S:Sb)(d:cE)(_:vs=[.ref ts,.ref td])(_:LS xs n H ts S.ms S.ds)(_:∀b∈xs,∃o,H b=some o)(_:n<=500)(_:Gd S)(_:Se K H td (fG d))(_:Td d)(_:bz S d= .ok)(_:∀z,d=z->z≠ .back)(_:∀(ts':qA) (H':Hp),ag H H'->LS xs (n+1) H' ts' (gh S d).ms (gh S d).ds->Q (.ref ts') H')
theorem zy {ms:qx Mem}{m:va}(nd:(ms.map (·.1)).Nodup) (hj:(ms.map (·.1))[j]?=some m):(ms.map (·.1)).eraseIdx j=(ms.filter λx=>decide (x.1≠m)).map (·.1):=by
 rw[<-sS nd hj,List.eraseIdx_eq_take_drop_succ,Od,List.map_take,List.map_drop]
theorem Fn (T:Txt K mg a):Sj P w K mg base 2 "_law_after" ["_law_state","_law_deed_here"] (G3 K):=by
 exists 0,bH,46,gQ;obtain⟨xs,n,ts,td,S,d,rfl,⟨ln0,la0,dd0,vs,kvs,l⟩,hx,hn,g,hq,ok,due,nb,q⟩:=h;obtain⟨ml,dl,mn,dn,mN,dN⟩:=g.now;have vl:=l.ar.length;have fr: ∀ {b:qA},H b=none->b∉xs:=λ{b} e z=>by obtain⟨o,e'⟩:=hx b z; rw[e] at e'; cases e'
 erw[_,(ae (R9 2 gQ.nd (bC (show cJ _ _ (pS K) from kh) uK T.sR boot_list (R6 (R8 K aT aa)))) (ae (R9 3 gQ.nd (bC (show cJ _ _ (pS K) from kh) uK T.sR boot_list (R6 (R8 K aT aa)))) (ae (R9 4 gQ.nd (bC xG uK T.JM boot_dict (R6 (R8 K aT aa)))) (dD (aB (aA aR (R8 K bY aa) aq) (au (aO (fR K dO (R8 K bY aa)))) (au (aB (aA aR (R8 K bY aa) aq) (au (ur (dB hr) gE (R8 K bY aa) (R8 K bY aa) rfl)) (au (aB (aA aR (R8 K bY aa) aq) (au (aO (fR K eX (bO (aj (R8 K bY aa) (aj (R8 K bY aa) (aj cM (R6 (aF (tI T:) (aj (R8 K bY aa) (aj (R8 K bY aa) (R6 (R8 K bY aa))))))))))))) (au (aB (aA aR (R8 K bY aa) aq) (au (aO (fR K eX (bO (aj (R8 K bY aa) (aj (R8 K bY aa) (aj (R8 K bY aa) (R6 (R8 K bY aa))))))))) (au (aB (aA aR (R8 K bY aa) aq) (au (Tx 3 gQ.nd zx ["_law_row"] ["_law_deed_here"] [1] TJ (cS K eX) (λC s2 H2 fp=>⟨(gn 0 (SO ["_law_row","_law_deed_here"])),(kT (aA kC (R8 K aT aa) (R8 K bY aa))),aT⟩))) (dD (aB (aA aR (R8 K bY aa) aq) (au (aO (show PE _ _ (SS K _ _ _ _) from c7 OE PySem.F.slot_list_remove PySem.F.type_list_remove Du dO (R6 (R8 K bY aa))))) ax) (au (aB (oX (rZ (dB hr) (R8 K bY aa) gE) (by with_unfolding_all rfl)) (au (aO (G2 gE (R8 K bY aa) (by constructor <;> first | rfl | (intros; rfl))))) ax)))))))))))) (aE (bO (aj dO (aj eX (R6 gE))))))))),?_];erw[_,Z,ts,_,_,_,Z,Z,Se.of l.ht,Z,ln0,_,Z,.inl (R5.of l.hn),λln nln=>?_];have s1:=ag.upd (o:= .lst ((S.ms.map (·.1)).map V.str)) nln;have h1:(upd H ln (.lst ((S.ms.map (·.1)).map V.str))) ln=some (.lst ((S.ms.map (·.1)).map V.str)):=af;generalize upd H ln (.lst ((S.ms.map (·.1)).map V.str))=H1 at s1 h1;erw[_,Z,ts,_,_,_,Z,Z,Se.of (s1 _ _ l.ht),Z,la0,_,Z,.inl (R5.of (s1 _ _ l.ha)),λla nla1=>?_];have nla:=s1.free nla1;have s2':=ag.upd (o:= .lst vs) nla1;have s2:=s1.trans s2';have h2:(upd H1 la (.lst vs)) la=some (.lst vs):=af;generalize upd H1 la (.lst vs)=H2 at s2 s2' h2;have h12:=s2' _ _ h1;erw[_,Z,ts,_,_,_,Z,Z,Se.of (s2 _ _ l.ht),Z,dd0,kvs,Z,s2 _ _ l.hd,λdd ndd2=>?_];have ndd:=s2.free ndd2;have s3':=ag.upd (o:= .dK kvs) ndd2;have s3:=s2.trans s3';have h3:(upd H2 dd (.dK kvs)) dd=some (.dK kvs):=af;have h13:=s3' _ _ h12;have h23:=s3' _ _ h2;dsimp only[aK,L2.start,x8];generalize upd H2 dd (.dK kvs)=H3 at s3 s3' h3 h13 h23;have hq3:=s3.fZ hq;have nl1:ln≠la:=fv h13 h23 |> λ_=>λz=>by
  have:=nla1;rw[<-z,h1] at this;cases this
 have nl2:ln≠dd:=fv h13 h3 (by intro z; cases z);have nl3:la≠dd:=fv h23 h3 (by intro z; cases z);have ar3:F2 (jZ xs H3) vs S.ds:=l.ar.imp λv d ⟨t,e,a,b⟩=>⟨t,e,a,s3 _ _ b⟩
 have rowne: ∀ {t:qA}{u:qx V},H t=some (.tup u)->t≠ln/\t≠la/\t≠dd:=λe=>⟨az e nln,az e nla,az e ndd⟩
 show Fs (λO' H'=> ∃(la2:qA) (vs2:qx V) (kvs2:Sx),O'=[uo ts,uo td,uo ln,uo la2,uo dd]/\ag H H'/\H la2=none/\H' ln=some (.lst (((gh S d).ms.map (·.1)).map V.str))/\H' la2=some (.lst vs2)/\F2 (jZ xs H') vs2 (gh S d).ds/\H' dd=some (.dK kvs2)/\(∀m,aY kvs2 (zA m)=(bD (gh S d).ms m).map V.int)/\kvs2.length<=n+1) (λD2 mk2 _=>?_) ?_;rotate_left
 .rintro O' H' ⟨la2,vs2,kvs2,rfl,sm,nla2,g1,g2,g3,g4,g5,g6⟩;erw[_,Z,_,Z,_,Z,aC,λts' nts=>?_];have s5:=ag.upd (o:= .tup [.ref ln,.ref la2,.ref dd]) nts;show q ts' _ (sm.trans s5) ⟨ln,la2,dd,vs2,kvs2,fr<|sm.free nts,af,fr nln,s5 _ _ g1,fr nla2,s5 _ _ g2,g3.imp λv d ⟨t,e,a,b⟩=>⟨t,e,a,s5 _ _ b⟩,fr ndd,s5 _ _ g4,g5,g6⟩
 have kl:=l.kl;cases d with
 | back=>show wz rfl (nb _ rfl)
 | member y =>
  erw[_,Z,td,_,_,_,Z,Z,hq3,Z,Z,_,Z,b6 ⟨_,Z,.inl ⟨Z,_,R5.of h13⟩,_,Z,td,_,_,_,Z,Z,hq3,Z,ln,_,_,Z,Z,h13,by rw[NR,NR]; show ay Y,?_⟩];have hm:y∉av S:=λz=>by rw[bz,NW z] at due; cases due
  show mk2 _ _ ⟨la,vs,kvs,Z,s3.cT nln,nla,?_,(ah<|Ox nl1).trans h23,ar3.imp λv d ⟨t,e,a,b⟩=>⟨t,e,a,?_⟩,(ah<|Ox nl2).trans h3,λm=>?_,Y⟩
  .rw[af];change some (HO.lst<|(av S).map V.str++[V.str y])=some (HO.lst<|((S.ms++[((y,none):Mem)]).map λx:Mem=>x.1).map V.str);rw[Od,Od];rfl
  .exact (ah<|fv b h13 (by intro z; cases z)).trans b
  .change _=(bD (S.ms++[(y,none)]) m).map V.int;rw[CA hm];show l.cp m
 | top m wd =>
  show bo rfl hq3 rfl uw ?_;have hm:m∈av S:=OO λz=>by rw[bz,NW z] at due; cases due
  erw[_,Z,td,_,_,_,Z,Z,hq3,Z,Z,_,Z,b6 ⟨_,Z,td,_,_,_,Z,Z,hq3,Z,_,Z,_,Z,td,_,_,_,Z,Z,hq3,Z,dd,_,Z,pD.k (k:=zA m) h3<|ay Y,?_⟩];show mk2 _ _ ⟨la,vs,_,Z,s3.cT ndd,nla,?_,(ah nl3).trans h23,ar3.imp λv d ⟨t,e,a,b⟩=>⟨t,e,a,(ah<|fv b h3 (by intro z; cases z)).trans b⟩,af,λm'=>?_,?_⟩
  .rw[ah nl2,h13];change _=some (HO.lst (((fN S.ms m<|some wd).map (·.1)).map V.str));rw[fu]
  .change _=(bD (fN S.ms m (some wd)) m').map V.int;rw[ly,vn hm];by_cases c:m'=m;.rw[NW (by rw[c]),NW c]; rfl
   .rw[NS λz=>c<|RZ z,NS c]; show l.cp m'
  .have:=ig kvs (zA m:Key)<|V.int wd;lia
 | plain y m pp e o =>
  obtain⟨o1,o2,o3⟩:Nm y/\Nm m/\Sy pp e o:=ok;show bo rfl hq3 rfl uw ?_;show bo rfl hq3 rfl uw ?_;erw[_,Z,td,_,_,_,Z,Z,hq3,Z,Z,_,Z,b6 ⟨_,Z,.inl ⟨Z,_,R5.of h23⟩,_,Z,td,_,_,_,Z,Z,hq3,Z,_,Z,td,_,_,_,Z,Z,hq3,Z,_,Z,td,_,_,_,Z,Z,hq3,Z,_,Z,td,_,_,_,Z,Z,hq3,Z,_,Z,td,_,_,_,Z,Z,hq3,Z,pp,e,o,Z,o3,aC,λt nt=>?_⟩];have s4:=ag.upd (o:= .tup [.str y,.str m,.non,.int (eJ pp e o)]) nt;have ht:(upd H3 t (.tup [.str y,.str m,.non,.int (eJ pp e o)])) t=some (.tup (lA (y,m,none,eJ pp e o))):=af;generalize upd H3 t (.tup [.str y,.str m,.non,.int (eJ pp e o)])=H4 at s4 ht;show⟨la,_,_,Z,Z,s4 _ _ h23,by rw[vl]; show ay Y,?_⟩;have keep: ∀ {b:qA}{u:qx V},H4 b=some (.tup u)->(upd H4 la (.lst (vs++[.ref t]))) b=some (.tup u):=λe=>(ah (fv e (s4 _ _ h23) (by intro z; cases z))).trans e;show mk2 _ _ ⟨la,_,kvs,Z,(s3.trans s4).cT nla,nla,(ah nl1).trans (s4 _ _ h13),af,F2.append (ar3.imp λv d ⟨t,e,a,b⟩=>⟨t,e,a,keep (s4 _ _ b)⟩) (.cons ⟨t,Z,fr (s3.free nt),keep ht⟩ .nil),(ah (Ox nl3)).trans (s4 _ _ h3),l.cp,Y⟩
 | link y m b mo =>
  show bo rfl hq3 rfl uw ?_;show bo rfl hq3 rfl uw ?_;show bo rfl hq3 rfl uw ?_;erw[_,Z,td,_,_,_,Z,Z,hq3,Z,Z,_,Z,b6 ⟨_,Z,.inl ⟨Z,_,R5.of h23⟩,_,Z,td,_,_,_,Z,Z,hq3,Z,_,Z,td,_,_,_,Z,Z,hq3,Z,_,Z,td,_,_,_,Z,Z,hq3,Z,_,Z,td,_,_,_,Z,Z,hq3,Z,aC,λt nt=>?_⟩];have s4:=ag.upd (o:= .tup [.str y,.str m,.str b,.int mo]) nt;have ht:(upd H3 t (.tup [.str y,.str m,.str b,.int mo])) t=some (.tup (lA (y,m,some b,mo))):=af;generalize upd H3 t (.tup [.str y,.str m,.str b,.int mo])=H4 at s4 ht;show⟨la,_,_,Z,Z,s4 _ _ h23,by rw[vl]; show ay Y,?_⟩;have keep: ∀ {b:qA}{u:qx V},H4 b=some (.tup u)->(upd H4 la (.lst (vs++[.ref t]))) b=some (.tup u):=λe=>(ah (fv e (s4 _ _ h23) (by intro z; cases z))).trans e;show mk2 _ _ ⟨la,_,kvs,Z,(s3.trans s4).cT nla,nla,(ah nl1).trans (s4 _ _ h13),af,F2.append (ar3.imp λv d ⟨t,e,a,b⟩=>⟨t,e,a,keep (s4 _ _ b)⟩) (.cons ⟨t,Z,fr (s3.free nt),keep ht⟩ .nil),(ah (Ox nl3)).trans (s4 _ _ h3),l.cp,Y⟩
 | sD y =>
  show bo rfl hq3 rfl uw ?_;show bo rfl hq3 rfl uw ?_;show bo rfl hq3 rfl uw ?_;show bo rfl hq3 rfl uw ?_;erw[_,Z,td,_,_,_,Z,Z,hq3,Z,Z,_,Z,b6 ⟨_,Z,la,Z,⟨_,R5.of h23⟩,?_⟩];show cH (xs:=vs) (λi ys H'=>H'=H3/\ys.length<=i/\F2 (jZ xs H3) ys ((S.ds.take i).filter λx=>decide<|x.1≠y)) (λi ys H' _ h=>by rw[h.1]; show bf<|R5.of h23) ⟨Z,N0 _,.nil⟩ (ay Y) (λi ys H' h=>h.2.1) ?_ ?_
  .rintro i ys H4 x hi ⟨rfl,hyl,hY⟩;obtain⟨dm,hdm,t,rfl,ti,ht⟩:=ar3.get hi;have tk:(S.ds.take<|i+1).filter (λx=>decide<|x.1≠y)=(S.ds.take i).filter (λx=>decide<|x.1≠y)++(if dm.1=y then [] else [dm]):=by
    rw[Ov,hdm,PL];congr 1;change [dm].filter _=_;by_cases c:dm.1=y <;> simp[c]
   erw[_,Z,t,_,_,_,Z,Z,Se.of ht,Z,_,Z,td,_,_,_,Z,Z,hq3,Z,Z,_,Z,?_];rw[tk];by_cases c:dm.1=y
   .rw[show (!decide (V.str dm.1=V.str y))=false from by rw[c]; simp,NW c,PN];show aM ⟨Z,Y,hY⟩
   .rw[show (!decide (V.str dm.1=V.str y))=true from by simp[c],NS c];show aW ⟨_,Z,Z,by rw[N1]; change ys.length+1<=i+1; lia,hY.append<|.cons ⟨t,Z,ti,ht⟩ .nil⟩
  .rintro ys H4 p2 ⟨rfl,hyl,hY⟩ np;rw[vl,OF] at hY;have s4:=ag.upd (o:= .lst ys) np;show mk2 _ _ ⟨p2,ys,kvs,Z,s3.trans s4,s3.free np,s4 _ _ h13,af,hY.imp λv d ⟨t,e,a,b⟩=>⟨t,e,a,s4 _ _ b⟩,s4 _ _ h3,l.cp,Y⟩
 | sM m =>
  show bo rfl hq3 rfl uw ?_;show bo rfl hq3 rfl uw ?_;show bo rfl hq3 rfl uw ?_;show bo rfl hq3 rfl uw ?_;show bo rfl hq3 rfl uw ?_;have hm:m∈av S:=OO λz=>by rw[bz,NW z] at due; cases due
  obtain⟨j,j1,j2⟩:=dG hm;erw[λO' H'=>O'=[uo ts,uo td,uo ln,uo la,uo dd]/\H'=upd H3 ln (.lst (((S.ms.filter λx=>decide<|x.1≠m).map (·.1)).map V.str)),?_,?_]
  .exists _,Z,td,_,_,_,Z,Z,hq3,Z,Z,_,Z,b6 ⟨_,Z,.inl ⟨Z,_,R5.of h13⟩,_,Z,td,_,_,_,Z,Z,hq3,Z,ln,av S,m,j,Z,Z,h13,j1,j2,Z,?_⟩;change upd H3 ln (.lst<|((S.ms.map λx:Mem=>x.1).eraseIdx j).map V.str)=_;rw[zy mn j1]
  rintro O' H4 ⟨rfl,rfl⟩;have keep: ∀ {b:qA}{u:qx V},H3 b=some (.tup u)->(upd H3 ln (.lst (((S.ms.filter λx=>decide<|x.1≠m).map (·.1)).map V.str))) b=some (.tup u):=λe=>(ah<|fv e h13 (by intro z; cases z)).trans e;have hd4:(upd H3 ln (.lst (((S.ms.filter λx=>decide<|x.1≠m).map (·.1)).map V.str))) dd=some (.dK kvs):=(ah<|Ox nl2).trans h3;have sm4:ag H (upd H3 ln (.lst (((S.ms.filter λx=>decide<|x.1≠m).map (·.1)).map V.str))):=s3.cT nln;have hn4:(upd H3 ln (.lst (((S.ms.filter λx=>decide<|x.1≠m).map (·.1)).map V.str))) ln=some (.lst (((S.ms.filter λx=>decide<|x.1≠m).map (·.1)).map V.str)):=af;have ha4:(upd H3 ln (.lst (((S.ms.filter λx=>decide<|x.1≠m).map (·.1)).map V.str))) la=some (.lst vs):=(ah<|Ox nl1).trans h23;have ar4:F2 (jZ xs (upd H3 ln (.lst (((S.ms.filter λx=>decide<|x.1≠m).map (·.1)).map V.str)))) vs S.ds:=ar3.imp λv d ⟨t,e,a,b⟩=>⟨t,e,a,keep b⟩
  generalize upd H3 ln (.lst (((S.ms.filter λx=>decide (x.1≠m)).map (·.1)).map V.str))=H4 at sm4 hd4 hn4 ha4 ar4;have hq4:=sm4.fZ hq;erw[_,Z,td,_,_,_,Z,Z,hq4,Z,_,Z,dd,_,Z,dz.k (k:=zA m) hd4,_,Z,?_];cases ev:aY kvs (zA m) with
  | none =>
   show aM<|mk2 _ _ ⟨la,vs,kvs,Z,sm4,nla,hn4,ha4,ar4,hd4,λm'=>?_,Y⟩;change _=(bD (S.ms.filter λx=>decide<|x.1≠m) m').map V.int;rw[vj];by_cases c:m'=m;.rw[NW c,c,ev]; rfl
   .rw[NS c]; show l.cp m'
  | some v =>
   show aW ⟨_,Z,dd,Z,.inl ⟨kvs,.inl hd4⟩,_,Z,td,_,_,_,Z,Z,hq4,Z,kvs,zA m,v,hd4,Z,ev,?_⟩;show mk2 _ _ ⟨la,vs,_,Z,sm4.cT ndd,nla,(ah nl2).trans hn4,(ah nl3).trans ha4,ar4.imp λv d ⟨t,e,a,b⟩=>⟨t,e,a,(ah<|fv b hd4 (by intro z; cases z)).trans b⟩,af,λm'=>?_,by have:=nW kvs (zA m:Key); lia⟩;change _=(bD (S.ms.filter λx=>decide<|x.1≠m) m').map V.int;rw[vj,vz];by_cases c:m'=m;.rw[NW (by rw[c]),NW c]; rfl
   .rw[NS λz=>c<|RZ z,NS c]; show l.cp m'
 | sT m =>
  show bo rfl hq3 rfl uw ?_;show bo rfl hq3 rfl uw ?_;show bo rfl hq3 rfl uw ?_;show bo rfl hq3 rfl uw ?_;show bo rfl hq3 rfl uw ?_;erw[λO' H'=>O'=[uo ts,uo td,uo ln,uo la,uo dd]/\H'=H3,⟨_,Z,td,_,_,_,Z,Z,hq3,Z,Z,_,Z,R4 ⟨Z,Z⟩⟩,?_];rintro O' H4 ⟨rfl,rfl⟩;have hc:bD S.ms m≠none:=λz=>by rw[bz,NW z] at due; cases due
  have hm:m∈av S:=OO λz=>hc<|rF z;erw[_,Z,td,_,_,_,Z,Z,hq3,Z,_,Z,dd,_,Z,dz.k (k:=zA m) h3,_,Z,?_];cases ev:aY kvs (zA m) with
  | none=>rw[l.cp m] at ev; cases ec:bD S.ms m with
   | none=>show wz ec hc
   | some c=>rw[ec] at ev; cases ev
  | some v =>
   show aW ⟨_,Z,dd,Z,.inl ⟨kvs,.inl h3⟩,_,Z,td,_,_,_,Z,Z,hq3,Z,kvs,zA m,v,h3,Z,ev,?_⟩;show mk2 _ _ ⟨la,vs,_,Z,s3.cT ndd,nla,?_,(ah nl3).trans h23,ar3.imp λv d ⟨t,e,a,b⟩=>⟨t,e,a,(ah<|fv b h3 (by intro z; cases z)).trans b⟩,af,λm'=>?_,by have:=nW kvs (zA m:Key); lia⟩
   .rw[ah nl2,h13];change _=some (HO.lst (((fN S.ms m none).map (·.1)).map V.str));rw[fu]
   .change _=(bD (fN S.ms m none) m').map V.int;rw[vn hm,vz];by_cases c:m'=m;.rw[NW (by rw[c]),NW c]; rfl
    .rw[NS λz=>c<|RZ z,NS c]; show l.cp m'
theorem kO {ys:qx va}{i:u7}(h0:0<=i) (h1:i < ys.length) (hN: ∀y∈ys,Nm y): ∃y,Si (ys.map V.str) i=some (.str y)/\Nm y:=by
 obtain⟨k,rfl⟩: ∃k:u6,i=(k:u7):=⟨i.toNat,Y⟩
 obtain⟨y,hy,hm⟩:=KI (ys:=ys) (i:=k) Y;erw[y,hy,hN y hm]
inductive ID(K:R7)(vs:qx V)(H:Hp)(Q:VK)(_E:XK):Prop|mk(wd:u7)(pn:qA)(pool:qx va)(call:va)(block small kinds:u7):vs=[.int wd,.ref pn,.str call,.int block,.int small,.int kinds]->0<=wd->H pn=some (.lst (pool.map V.str))->0 < pool.length->(∀y∈pool,Nm y)->Nm call->0<=block->block<=4->(small=0\/small=1)->1<=kinds->kinds<=24->(∀(t:qA) (d:cE) (H':Hp),ag H H'->H t=none->H' t=some (.tup (fG d))->Td d->Q (.ref t) H')->ID K vs H Q _E
theorem HZ (T:Txt K mg a):Sj P w K mg base 1 "_law_deed" ["_law_word","_law_pool","_law_call","_law_block","_law_small","_law_kinds"] (ID K):=by
 exists 0,bH,47,dw;obtain⟨wd,pn,pool,call,block,small,kinds,rfl,w0,hp,pl0,hN,hcall,b0,b4,hsm,k17,k24,q⟩:=h;erw[_,(ae (R9 6 dw.nd<|aw bt (aw bM aT aa)<|c5 K T.bZ bY)<|ae (R9 7 dw.nd<|aw bt (aw bM aT aa)<|c5 K T.bZ bY)<|ae (R9 8 dw.nd<|aw bM aT aa)<|ae (R9 9 dw.nd<|aw bt (aw bt aT aa) gT)<|ae (aB (PW.pt<|cv (aA fK lE aa)<|cg<|aA aR gE aa) (aE<|bO<|aj aq<|aj dO<|aj (Sa K bY iF)<|aj (aw bt iS aa)<|aj (aw bw aa<|aw bt (aw bM iS aa) aa)<|R6<|aw bw aa<|aw bt (aw bM iS aa) aa) ax)<|ae (aB (aA fK lE aa) (ae (R9 10 dw.nd<|aw bw aa<|aw bt (aw bM iS aa) aa)<|dD (aB (aA aR (aw bt (aw bM iS aa) aa) aa) (au<|R9 10 dw.nd<|aw bw aa<|aw bt lT aa) ax)<|aE<|bO<|aj aq<|aj dO<|aj (Sa K bY iF)<|aj (aw bt iS aa)<|aj (aw bw aa<|aw bt (aw bM iS aa) aa)<|R6 lT) ax)<|ae (aB (aA fK lE aa) (ae (R9 11 dw.nd<|aw bt iS<|Sa K (aP<|aj aa<|R6 aa) gE)<|dD (aB (PW.pt<|cv (aA jg eX aa)<|cg<|aA aR (aw bM iF eX)<|aw bM iN eX) (au<|R9 11 dw.nd aa)<|au<|aB (aA jg eX aa) (au<|KQ (i:=6) (j:=7) rfl dw.nd rfl rfl aS rfl rfl (aj (bR (iW rfl) uK T.lQ boot_max<|aj iF<|R6 iN)<|R6<|bR (pj rfl) uK T.wR boot_min<|aj iF<|R6 iN) (by with_unfolding_all rfl)) ax)<|aE<|bO<|aj aq<|aj dO<|aj (Sa K bY iF)<|aj (Sa K bY iN)<|R6 mK) ax)<|ae (aB (aA fK lE aa) (aE<|bO<|aj aq<|aj (Sa K bY iF)<|R6<|aw bt iS<|Sa K (aP<|aj aa<|R6 aa) gE) ax)<|ae (aB (aA fK lE aa) (aE<|bO<|aj aq<|R6<|Sa K bY iF) ax)<|ae (aB (aA aR lE aa) (aE<|bO<|R6 aq) ax)<|ae (aB (aA aR lE aa) (aE<|bO<|aj aq<|aj aq<|R6 dO) ax)<|aE<|bO<|aj aq<|aj (Sa K (aP<|aj aq<|R6 aq)<|bC eg uK T.iz boot_int<|R6<|dH aR lE aa)<|R6<|Sa K bY iF),?_];have lp:(0:u7) < ((pool.map V.str).length:u6):=by rw[NR]; lia
 erw[_,Z,_,_,Z,Z,⟨aS,aS⟩,_,Z,_,_,Z,.inl ⟨_,R5.of hp,Z⟩,_,_,Z,Z,lp,?_];erw[_,Z,_,_,Z,Z,⟨aS,aS⟩,_,Z,_,_,Z,.inl ⟨_,R5.of hp,Z⟩,_,_,Z,Z,lp,?_];erw[_,Z,_,_,Z,Z,⟨aS,aS⟩,?_];erw[_,Z,_,_,Z,Z,(by change (0:u7) < 24; decide),_,Z,_,_,Z,Z,Y,?_];have a0:=Pj (wd / 24) (show ((pool.map V.str).length:u7)≠0 by lia);have a1:=Pn (wd / 24) lp;have c0:=Pj (wd / 336) (show ((pool.map V.str).length:u7)≠0 by lia);have c1:=Pn (wd / 336) lp;have d0:=Pj (wd % 24) (show kinds≠0 by lia);have d1:=Pn (wd % 24) (show 0 < kinds by lia);have z0:0<=wd / 4704:=RV w0 aS;dsimp only[aK,L2.start,x8];generalize wd / 24 % ((pool.map V.str).length:u6)=ia at a0 a1;generalize wd / 336 % ((pool.map V.str).length:u6)=ib at c0 c1;generalize wd % 24 % kinds=kd at d0 d1;generalize wd / 4704=sz at z0;rw[NR] at a1 c1;obtain⟨ya,hya,na⟩:=kO a0 a1 hN;obtain⟨yb,hyb,nb⟩:=kO c0 c1 hN;have tup: ∀(d:cE),Td d-> ∀t,H t=none->Q (.ref t) (upd H t (.tup (fG d))):=λd ok t nt=>q t d _ (ag.upd nt) nt af ok;erw[_,Z,_,_,Z,Z,_,Z,?_];show bh (λk5=>?_) (λk5=>?_)
 .have k5:=Oc k5;have big: ∀o:u7,1<=o->o<=999-> ∀t,H t=none->Q (.ref t) (upd H t<|.tup [.str "plain",.str call,.str ya,.int<|sz % 1000,.int<|1+sz / 1000 % 999,.int o]):=λo o1 o2 t nt=>tup (.plain call ya (sz % 1000) (1+sz / 1000 % 999) o) ⟨hcall,na,by unfold Sy; lia⟩ t nt;erw[_,Z,Z,_,Z,?_];show bh (λc=>?_) λc=>?_;.exact⟨_,Z,_,Z,_,Z,pn,_,_,_,Z,Z,R5.of hp,hya,_,Z,_,_,Z,Z,(by change (0:u7) < 6; decide),_,Z,_,_,Z,Z,⟨aS,aS⟩,_,_,Z,Z,(by change (0:u7) < 3; decide),_,_,Z,Z,_,Z,_,_,Z,Z,⟨aS,aS⟩,_,_,Z,Z,(by change (0:u7) < 3; decide),_,_,Z,Z,aC,λt nt=>tup (.plain call ya (sz % 6) (1+sz / 6 % 3)<|1+sz / 18 % 3) ⟨hcall,na,by unfold Sy; lia⟩ t nt⟩
  .exists _,Z,_,_,Z,Z,_,Z,?_;rw[show decide (kd < 5)=true from N2 k5];show aW ⟨_,Z,_,_,Z,Z,⟨aS,aS⟩,_,_,Z,Z,(by change (0:u7) < 999; decide),_,_,Z,Z,?_⟩;erw[λO' H'=> ∃o:u7,1<=o/\o<=999/\O'=[some<|.int wd,uo pn,some<|.str call,some<|.int block,some<|.int small,some<|.int kinds,some<|.int ia,some<|.int ib,some<|.int sz,some<|.int kd,some<|.int o,none]/\H'=H,?_,?_]
   .exists _,Z,_,_,Z,Z,⟨aS,aS⟩,_,_,Z,Z,(by change (0:u7) < 4; decide),Z,_,Z,?_;show bh (λc=>?_) λc=>⟨1+sz / 999000 % 999,Y,Y,Z,Z⟩;erw[_,Z,_,_,Z,Z,(by change (0:u7) < 4; decide),_,_,Z,Z,1+(1+sz / 999000 % 999) % 4,Y,Y,Z,Z]
   rintro O' H' ⟨o,o1,o2,rfl,rfl⟩;erw[_,Z,_,Z,_,Z,pn,_,_,_,Z,Z,R5.of hp,hya,_,Z,_,_,Z,Z,(by change (0:u7) < 1000; decide),_,Z,_,_,Z,Z,⟨aS,aS⟩,_,_,Z,Z,(by change (0:u7) < 999; decide),_,_,Z,Z,_,Z,aC,λt nt=>big o o1 o2 t nt]
 have k5:=Ou<|Om _▸k5;show aM ⟨_,Z,_,_,Z,Z,_,Z,?_⟩;rw[show decide (kd < 5)=false from N8 k5];show aM ⟨_,Z,_,_,Z,Z,_,Z,?_⟩;show bh (λk16=>?_) λk16=>?_
 .
  obtain⟨dv,hdv,e1⟩:=Uy (k:=small) (x:=100) (y:=3) hsm;erw[_,Z,aC,λu nu=>⟨_,Z,u,_,_,_,Z,Z,R5.of af,hdv,_,_,Z,Z,Y,?_⟩];have s1:=ag.upd (o:= .lst [.int 100,.int 3]) nu;dsimp only[aK,x8];generalize upd H u (.lst [.int 100,.int 3])=H1 at s1;have hp1:=s1 _ _ hp;erw[λO' H'=> ∃(i j mo:u7),0<=i/\i < pool.length/\0<=j/\j < pool.length/\0<=mo/\mo<=99/\O'=[some (.int wd),uo pn,some (.str call),some (.int block),some (.int small),some (.int kinds),some (.int i),some (.int j),some (.int sz),some (.int kd),none,some (.int mo)]/\H'=H1,?_,?_]
  .have m0:=Pj sz (show dv≠0 by lia);have m1:=Pn sz (show 0 < dv by lia);erw[_,Z,_,_,Z,Z,_,Z,?_];show bh (λcb=>?_) λcb=>?_
   .have cb:=Oc cb;erw[_,Z,_,Z,_,_,Z,Z,⟨Y,Y⟩,_,Z,_,Z,_,_,Z,Z,⟨Y,Y⟩,Z,_,Z,?_];show bh (λcc=>⟨ia,ib,0,a0,a1,c0,c1,aS,aS,Z,Z⟩) λcc=>?_;erw[_,Z,_,_,Z,Z,_,Z,?_];rw[show decide (block > 0)=true from N2 cb];show aW ?_;erw[_,Z,_,Z,_,_,Z,_,Z,_,Z,_,_,Z,_,_,Z,?_];erw[if ib > ia then ib else ia,if ib < ia then ib else ia,sz % dv,?_,?_,?_,?_,m0,Y,Z,Z];.split <;> lia
    .split <;> lia
    .split <;> lia
    .split <;> lia
   .have cb:=Ou<|Om _▸cb;show aM ⟨_,Z,_,_,Z,Z,_,Z,?_⟩;rw[show decide (block > 0)=false from N8 cb];show aM ⟨ia,ib,sz % dv,a0,a1,c0,c1,m0,Y,Z,Z⟩
  rintro O' H' ⟨i,j,mo,i0,i1,j0,j1,mo0,mo1,rfl,rfl⟩;obtain⟨yi,hyi,ni⟩:=kO i0 i1 hN;obtain⟨yj,hyj,nj⟩:=kO j0 j1 hN;erw[_,Z,_,Z,_,Z,pn,_,_,_,Z,Z,R5.of hp1,hyi,_,Z,_,Z,pn,_,_,_,Z,Z,R5.of hp1,hyj,_,Z,aC,λt nt=>q t (.link call yi yj mo) _ (s1.trans<|ag.upd nt) (s1.free nt) af ⟨hcall,ni,nj,mo0,mo1⟩]
 have k16:=Ou<|Om _▸k16;erw[_,Z,_,_,Z,Z,_,Z,?_];show bh (λk18=>?_) λk18=>?_
 .obtain⟨dv,hdv,e1⟩:=Uy (k:=small) (x:=100000) (y:=20) hsm;have m0:=Pj sz (show dv≠0 by lia);have m1:=Pn sz (show 0 < dv by lia);erw[_,Z,_,Z,pn,_,_,_,Z,Z,R5.of hp,hya,_,Z,aC,λu nu=>⟨_,Z,u,_,_,_,Z,Z,R5.of af,hdv,_,_,Z,Z,Y,aC,λt nt=>q t (.top ya<|sz % dv) _ ((ag.upd nu).trans<|ag.upd nt) ((ag.upd nu).free nt) af ⟨na,m0,Y⟩⟩]
 erw[_,Z,_,_,Z,Z,_,Z,?_];show bh (λk20=>?_) λk20=>?_;.exact⟨_,Z,_,Z,pn,_,_,_,Z,Z,R5.of hp,hya,aC,λt nt=>tup (.member ya) na t nt⟩
 erw[_,Z,Z,_,Z,?_];show bh (λk20'=>?_) λk20'=>?_;.exact⟨aC,λt nt=>tup .back trivial t nt⟩
 erw[_,Z,Z,_,Z,?_];show bh (λk21=>?_) λk21=>?_;.exact⟨_,Z,aC,λt nt=>tup (.sD call) hcall t nt⟩
 erw[aC,λu nu=>⟨_,Z,Z,.inr ⟨_,Z,u,_,_,_,Z,Z,R5.of af,at2,?_⟩⟩];have s1:=ag.upd (o:= .lst [.str "member",.str "top"]) nu;erw[_,Z,_,Z,pn,_,_,_,Z,Z,R5.of (s1 _ _ hp),hya,aC,λt nt=>?_];generalize decide (V.int kd=V.int 23)=b;cases b with
 | true=>show q t (.sT ya) _ (s1.trans (ag.upd nt)) (s1.free nt) af na
 | false=>show q t (.sM ya) _ (s1.trans (ag.upd nt)) (s1.free nt) af na
def lF (H0 H:Hp) (v:V) (d:cE):Prop:= ∃t,v= .ref t/\H0 t=none/\H t=some (.tup (fG d))/\Td d
variable{H':Hp}{d:cE}
theorem lF.same {H0:Hp}{v:V}(s: ∀t o,H t=some (.tup o)->H' t=some (.tup o)) (h:lF H0 H v d):lF H0 H' v d:=by
 obtain⟨t,e,a,b,c⟩:=h;erw[t,e,a,s _ _ b,c]
theorem UN {i:u7}(h0:0<=i) (h1:i < 4): ∃b:u7,Si ([.int 0,.int 1,.int 1,.int 4]:qx V) i=some (.int b)/\0<=b/\b<=4:=by
 have h:i=0\/i=1\/i=2\/i=3:=Y;rcases h with rfl | rfl | rfl | rfl
 .nomatch 0,Z,aS,aS
 .nomatch 1,Z,aS,aS
 .nomatch 1,Z,aS,aS
 .nomatch 4,Z,aS,aS
theorem MI {x y:u7}: ∃s:u7,Si ([.int x,.int y]:qx V) (if b=true then 1 else 0)=some (.int s):=by
 cases b;.exact⟨x,Z⟩
 .nomatch y,Z
inductive JG(K:R7)(vs:qx V)(H:Hp)(Q:VK)(_E:XK):Prop|mk(sa:qA)(ns:qx u7)(most:u6)(_:vs=[.ref sa,.int (most:u6)])(_:R5 K H sa (ns.map V.int))(_:most<=150)(_:∀(p:qA) (us:qx V) (ds:qx cE) (H':Hp),H p=none->ag H H'->H' p=some (.lst us)->F2 (lF H H') us ds->ds.length<=most+12->Q (.ref p) H')
theorem JQ (T:Txt K mg a):Sj P w K mg base 2 "_law_day" ["_law_script","_law_most"] (JG K):=by
 exists 0,bH,48,bX;obtain⟨sa,ns,most,rfl,hS,hmo,q⟩:=h;erw[_,(ae (R9 2 bX.nd (aF (FL T:) (aj aT (R6 (aw bw bY aa))))) (ae (R9 3 bX.nd (Sa K (aP (aj aa (aj aa (aj aa (R6 aa))))) (aw bt (Sa K dO aa) aa))) (ae (R9 4 bX.nd (aw bt (aw bM (Sa K dO aa) aa) aa)) (ae (R9 5 bX.nd (bR (pj rfl) uK T.wR boot_min (aj aa (R6 (aw bt (aw bM (Sa K dO aa) aa) aa))))) (ae (R9 6 bX.nd (aw bt (aw bM (Sa K dO aa) aa) (aw bw bY aa))) (ae (R9 7 bX.nd aa) (dD (aB (aA aR (aw bt (aw rn (Sa K dO aa) (aw mT aa aa)) aa) aa) (au (R9 6 bX.nd bY)) ax) (dD (aB (aA aR (aw bt (aw rn (Sa K dO aa) (aw mT aa aa)) aa) aa) (au (Jl (i:=5) (j:=6) (k:=7) rfl bX.nd rfl rfl rfl rfl rfl rfl (aj aa (aj bY (R6 aa))) (by with_unfolding_all rfl))) ax) (ae (R9 8 bX.nd (aF (xc T:) (aj (Sa K dO aa) (R6 (Sa K (aP (aj (aw bw gT aa) (R6 aa))) (bC eg uK T.iz boot_int (R6 (dH aR iN aa)))))))) (ae (R9 9 bX.nd (aF (xc T:) (aj (Sa K dO aa) (R6 aa)))) (ae (R9 10 bX.nd (aP b8)) (ae (cY (fB T.cx gT) (gn 11 bX.nd) (au (aO (fR K lT (bO (aj aq (R6 (Sa K iS (aw bt (aw bw mK (aw bt (aw bM (Sa K dO aa) aa) aa)) gT))))))))) (ae (cY (fB T.cx iF) (gn 11 bX.nd) (ae (R9 12 bX.nd (aw bM (Sa K dO (aw bw aa mK)) aa)) (ae (R9 13 bX.nd (Sa K (aP (aj mK (R6 (aw rn (pv 12) (aw mT aa aa))))) (bC eg uK T.iz boot_int (R6 (dH aR (aw bt (Sa K dO (aw bw aa mK)) aa) aa))))) (au (aO (fR K lT (aF (HZ T:) (aj (pv 12) (aj iS (aj (Sa K lE (aw bt (pv 13) aa)) (aj eX (aj gE (R6 iN))))))))))))) (aE lT)))))))))))))),?_];erw[_,Z,_,Z,_,_,Z,Z,sa,ns,most+3,Z,hS,Y,λp ws H1 np s1 hp hwl h0=>?_];have p0:=cI (ws:=ws) (i:=0) aS Y;have p1:=cI (ws:=ws) (i:=1) aS Y;have p2:=cI (ws:=ws) (i:=2) aS Y;obtain⟨block,hb,b0,b4⟩:=UN (i:=MA.g ws 2 % 4) Y Y;erw[aC,λu nu=>⟨_,Z,p,_,_,_,Z,Z,R5.of (ag.upd nu _ _ hp),p2,_,_,Z,Z,(by change (0:u7) < 4; decide),u,_,_,_,Z,Z,R5.of af,hb,?_⟩];have s2:=s1.trans (ag.upd (o:= .lst [.int 0,.int 1,.int 1,.int 4]) nu);have hp2:=ag.upd (o:= .lst [.int 0,.int 1,.int 1,.int 4]) nu _ _ hp;dsimp only[aK,L2.start,x8];generalize upd H1 u (.lst [.int 0,.int 1,.int 1,.int 4])=H2 at s2 hp2;have hs2:=R5.of (K:=K) hp2;erw[_,Z,p,_,_,_,Z,Z,hs2,p2,_,_,Z,Z,⟨aS,aS⟩,_,_,Z,Z,(by change (0:u7) < 2; decide),?_];erw[_,Z,p,_,_,_,Z,Z,hs2,p2,_,_,Z,Z,⟨aS,aS⟩,_,_,Z,Z,(by change (0:u7) < 17; decide),_,_,Z,?_];erw[_,Z,p,_,_,_,Z,Z,hs2,p2,_,_,Z,Z,⟨aS,aS⟩,_,Z,_,_,Z,Z,_,_,Z,Z,Y,?_];have hsm:=mod2 (MA.g ws 2 / 4);have hm0:=Pj (MA.g ws 2 / 1904) (show ((most:u6):u7)+1≠0 by lia);have hm1:=Pn (MA.g ws 2 / 1904) (show (0:u7) < ((most:u6):u7)+1 by lia);obtain⟨fi0,ef,f1⟩: ∃fi:u6,(if MA.g ws 2 / 8 % 17 < 12 then MA.g ws 2 / 8 % 17 else 12)=(fi:u7)/\fi<=12:=⟨(if MA.g ws 2 / 8 % 17 < 12 then MA.g ws 2 / 8 % 17 else 12).toNat,by split <;> lia,by split <;> lia⟩
 obtain⟨ma0,em,m1⟩: ∃ma:u6,MA.g ws 2 / 1904 % (((most:u6):u7)+1)=(ma:u7)/\ma<=most:=⟨(MA.g ws 2 / 1904 % (((most:u6):u7)+1)).toNat,Y,Y⟩
 dsimp only[aK,x8];rw[ef,em];generalize MA.g ws 2 / 4 % 2=small at hsm;erw[λO' H'=> ∃ma:u6,ma<=most/\O'=[uo sa,some (.int (most:u6)),uo p,some (.int block),some (.int small),some (.int (fi0:u6)),some (.int (ma:u6)),some (.int 24),none,none,none,none,none,none]/\H'=H2,?_,?_]
 .exists _,Z,p,_,_,_,Z,Z,hs2,p2,_,_,Z,Z,⟨aS,aS,aS⟩,_,_,Z,Z,⟨aS,aS⟩,_,_,Z,Z,(by change (0:u7) < 3; decide),Z,_,Z,?_;show bh (λc=>⟨_,Z,most,N0 _,Z,Z⟩) λc=>⟨ma0,m1,Z,Z⟩
 rintro O' H' ⟨ma1,m2,rfl,rfl⟩;erw[λO' H''=> ∃(fi ma:u6) (ki:u7),fi<=12/\ma<=most/\(ki=24\/(ki=17/\fi=12))/\O'=[uo sa,some<|.int (most:u6),uo p,some<|.int block,some<|.int small,some<|.int (fi:u6),some<|.int (ma:u6),some<|.int ki,none,none,none,none,none,none]/\ag H' H'',?_,?_]
 .exists _,Z,p,_,_,_,Z,Z,hs2,p2,_,_,Z,Z,⟨aS,aS,aS⟩,_,_,Z,Z,⟨aS,aS⟩,_,_,Z,Z,(by change (0:u7) < 6; decide),Z,_,Z,?_;show bh (λc=>?_) λc=>⟨fi0,ma1,24,f1,m2,.inl rfl,Z,ag.refl _⟩;erw[_,Z,_,_,_,Z,12,most,17,N0 _,N0 _,.inr ⟨Z,Z⟩,Z,ag.refl _]
 clear ef em m1 f1 fi0 ma0 m2 ma1;rintro O' H3 ⟨fi,ma,ki,f1,m1,hki,rfl,s3'⟩;have s3:=s2.trans s3';have hp3:=s3' _ _ hp2;erw[_,Z,p,_,_,_,Z,Z,R5.of hp3,p0,_,Z,_,_,Z,Z,aC,λu nu=>⟨_,Z,Z,.inr ⟨_,Z,u,_,_,_,Z,Z,R5.of af,at2,?_⟩⟩];obtain⟨npl,enp,n1,n2,n3⟩: ∃npl:u6,(if decide (V.int ki=V.int 17)=true then V.int 12 else V.int (((fi:u6):u7)+2))=V.int (npl:u6)/\fi<=npl/\0 < npl/\npl<=32:=by
  rcases hki with rfl | ⟨rfl,rfl⟩
  .nomatch fi+2,by rw[show decide (V.int 24=V.int 17)=false from N8 λz=>by have:=V.int.inj z; lia]; rfl,Y,Y,Y
  .nomatch 12,by rw[show decide (V.int 17=V.int 17)=true from N2 rfl]; rfl,N0 _,aS,aS
 rw[enp];have s4:=s3.trans (ag.upd (o:= .lst [.int (((fi:u6):u7)+2),.int 12]) nu);have hp4:=ag.upd (o:= .lst [.int (((fi:u6):u7)+2),.int 12]) nu _ _ hp3;generalize upd H3 u (.lst [.int (((fi:u6):u7)+2),.int 12])=H4 at s4 hp4;erw[_,npl,Z,n3,λpn pool H5 npn s5 hpn hpl hN=>?_];have hp5:=s5 _ _ hp4;erw[_,Z,p,_,_,_,Z,Z,R5.of hp5,p1,_,26,Z,aS,λcn calls H6 ncn s6 hcn hcl hcN=>?_];have hp6:=s6 _ _ hp5;have hpn6:=s6 _ _ hpn;have s06:=(s4.trans s5).trans s6;dsimp only[aK,x8];erw[aS,λdl ndl=>?_];have ndl0:=s06.free ndl;have hdl0:(upd H6 dl (.lst [])) dl=some (.lst []):=af;have s67:=ag.upd (o:= .lst []) ndl;generalize upd H6 dl (.lst [])=H7 at hdl0 s67;erw[_,Z,_,Z,Y,Y,?_];rw[Oa];show cm (xs:=cf 0 fi) (λi O' H'=> ∃(us:qx V) (ds:qx cE) (v11:rW V),O'=[uo sa,some (.int (most:u6)),uo p,some (.int block),some (.int small),some (.int (fi:u6)),some (.int (ma:u6)),some (.int ki),uo pn,uo cn,uo dl,v11,none,none]/\ag H6 H'/\H' dl=some (.lst us)/\F2 (lF H H') us ds/\ds.length=i) ⟨[],[],none,Z,s67,hdl0,.nil,Z⟩ (λi O' H' _ _=>cj) ?_ ?_
 .rintro i x O' H' D1 nx1 - hi ⟨us,ds,v11,rfl,sm,hd,hF,hl⟩;obtain⟨hin,rfl⟩:=bU hi;have fl:us.length=i:=by rw[hF.length,hl]
  have e0:=Pj (0+(i:u6)+MA.g ws 2 / 136 % 14) (show ((fi:u6):u7)≠0 by lia);have e1:=Pn (0+(i:u6)+MA.g ws 2 / 136 % 14) (show (0:u7) < ((fi:u6):u7) by lia);obtain⟨y,hy,ny⟩:=kO e0 Y hN;erw[_,Z,.inl ⟨Z,_,R5.of hd⟩,_,Z,_,Z,_,Z,p,_,_,_,Z,Z,R5.of (sm _ _ hp6),p2,_,_,Z,Z,⟨aS,aS⟩,_,_,Z,Z,(by change (0:u7) < 14; decide),_,_,Z,Z,_,Z,_,_,Z,Z,Y,pn,_,_,_,Z,Z,R5.of (sm _ _ hpn6),hy,aC,λt nt=>?_];have st:=ag.upd (o:= .tup [.str "member",.str y]) nt;have ht:(upd H' t (.tup [.str "member",.str y])) t=some (.tup (fG (.member y))):=af;generalize upd H' t (.tup [.str "member",.str y])=H8 at st ht;erw[dl,_,_,Z,Z,st _ _ hd,ay Y,?_];have kt: ∀t o,H8 t=some (.tup o)->(upd H8 dl (.lst (us++[.ref t]))) t=some (.tup o):=λt o e=>(ah (fv e (st _ _ hd) (by intro z; cases z))).trans e;have kt2: ∀b o,H8 b=some (.tup o)->(upd H8 dl (.lst (us++[.ref t]))) b=some (.tup o):=λb o e=>(ah (fv e (st _ _ hd) (by intro z; cases z))).trans e;show nx1 _ _ ⟨_,ds++[.member y],_,Z,(sm.trans st).cT ndl,af,F2.append (hF.imp λv d z=>lF.same kt2 (lF.same (λt o e=>st _ _ e) z)) (.cons (show lF H _ (V.ref t) (.member y) from ⟨t,Z,s06.free (sm.free nt),kt2 _ _ ht,ny⟩) .nil),by rw[N1,hl]; rfl⟩
 rintro O' H8 ⟨Ub,ds0,v11,rfl,s8,hd8,hF8,hl8⟩;rw[bN] at hl8;erw[_,Z,_,Z,Y,Y,?_];rw[Oa];show cm (xs:=cf 0 ma) (λi O' H'=> ∃(us:qx V) (ds:qx cE) (v11 v12 v13:rW V),O'=[uo sa,some<|.int (most:u6),uo p,some<|.int block,some<|.int small,some<|.int (fi:u6),some<|.int (ma:u6),some<|.int ki,uo pn,uo cn,uo dl,v11,v12,v13]/\ag H6 H'/\H' dl=some (.lst us)/\F2 (lF H H') us ds/\ds.length=fi+i) ⟨Ub,ds0,v11,none,none,Z,s8,hd8,hF8,hl8⟩ (λi O' H' _ _=>cj) ?_ ?_
 .rintro i x O' H' D1 nx1 - hi ⟨us,ds,v11,v12,v13,rfl,sm,hd,hF,hl⟩;obtain⟨hin,rfl⟩:=bU hi;have fl:us.length=fi+i:=by rw[hF.length,hl]
  have hpS:=R5.of (K:=K)<|sm _ _ hp6;have pi:=cI (ws:=ws) (i:=3+(0+(i:u6))) Y Y;have wn:0<=MA.g ws (3+(0+(i:u6))):=by
   have hlt:(3+(0+(i:u6)):u7).toNat < ws.length:=Y;unfold MA.g;rw[NY,NV hlt];show h0 _<|Pm hlt
  erw[_,Z,_,Z,_,_,Z,Z,p,_,_,_,Z,Z,hpS,pi,_,_,Z,Z,⟨aS,aS⟩,?_];erw[_,Z,_,Z,_,_,Z,Z,⟨aS,aS,aS⟩,_,_,Z,Z,⟨aS,aS⟩,aC,λu nu=>?_];obtain⟨spot,es⟩:=MI (x:=0+(i:u6)) (y:=MA.g ws (3+(0+(i:u6))) / 4 / 10 ^ 15) (b:=decide (V.int (MA.g ws (3+(0+(i:u6))) % 4)=V.int 0));erw[_,Z,_,Z,_,_,Z,Z,p,_,_,_,Z,Z,(ag.upd nu).seq hpS,pi,_,_,Z,Z,(by change (0:u7) < 4; decide),Z,.inr ⟨_,Z,u,_,_,_,Z,Z,R5.of af,es,?_⟩];have wn4:0<=MA.g ws (3+(0+(i:u6))) / 4:=RV wn aS;have su:ag H' (upd H' u (.lst [.int (0+(i:u6)),.int (MA.g ws (3+(0+(i:u6))) / 4 / 10 ^ Int.toNat 15)])):=ag.upd nu;dsimp only[aK,x8];generalize upd H' u (.lst [.int (0+(i:u6)),.int (MA.g ws (3+(0+(i:u6))) / 4 / 10 ^ Int.toNat 15)])=H9 at su;have s69:=sm.trans su;obtain⟨yc,hyc,nc⟩:=kO (ys:=calls) (i:=spot % 26) Y Y hcN;erw[_,Z,.inl ⟨Z,_,R5.of (su _ _ hd)⟩,_,Z,_,Z,_,Z,_,Z,_,_,Z,Z,(by change (0:u7) < 26; decide),cn,_,_,_,Z,Z,R5.of (s69 _ _ hcn),hyc,_,Z,_,Z,_,Z,?_];show⟨_,pn,pool,yc,block,small,ki,Z,wn4,s69 _ _ hpn6,Y,hN,nc,b0,b4,hsm,by rcases hki with z | z <;> lia,by rcases hki with z | z <;> lia,λt d H10 s10 nt ht ok=>?_⟩;have hd10:=s10 _ _ (su _ _ hd);erw[dl,_,_,Z,Z,hd10,ay Y,?_];have kt2: ∀b o,H10 b=some (.tup o)->(upd H10 dl (.lst (us++[.ref t]))) b=some (.tup o):=λb o e=>(ah (fv e hd10 (by intro z; cases z))).trans e;show nx1 _ _ ⟨_,ds++[d],_,_,_,Z,(s69.trans s10).cT ndl,af,F2.append (hF.imp λv d z=>lF.same kt2 (lF.same (λt o e=>(su.trans s10) _ _ e) z)) (.cons ⟨t,Z,s06.free (s69.free nt),kt2 _ _ ht,ok⟩ .nil),by rw[N1,hl]; rfl⟩
 .rintro O' H' ⟨us,ds,v11,v12,v13,rfl,sm,hd,hF,hl⟩;rw[bN] at hl;erw[_,Z,q dl us ds H' ndl0 (s06.trans sm) hd hF Y]
inductive KO(K:R7)(vs:qx V)(H:Hp)(Q:VK)(_E:XK):Prop|mk(n:u6)(r:qA)(rs:qx MA.ao)(_:vs=[.int n,.ref r])(_:n<=1000)(_:SU K H r rs)(_:∀q∈rs,Sh n q)(_:∀(p:qA) (ds:qx qA) (H':Hp),SK H H' n p ds (MA.aH n rs)->Q (.ref p) H')
theorem yI (T:Txt K mg a):Sj P w K mg base 1 "_law_far" ["_law_count","_law_rules_here"] (KO K):=by
 exists 0,bH,49,eI;obtain⟨n,r,rs,rfl,hn,⟨xs,hx,hX⟩,hk,q⟩:=h;erw[_,(ae (Tx 2 eI.nd D9 ["_law_k"] ["_law_count"] [0] TJ (fB T.cx aT) λC s2 H2 fp=>⟨(gn 0<|SO ["_law_k","_law_count"]),iL,(aw mG (aP<|R6<|lR jR aa) bY)⟩)<|ae (cY (fB T.cx aT) (gn 3 eI.nd)<|au<|fj aa<|h9 (Sa K dO eX) eX set_list)<|ae (cY (cS K bY) (dI rfl<|aQ (gn 4 eI.nd)<|aQ (gn 5 eI.nd)<|aQ (gn 6 eI.nd) de)<|au<|aB (aA qr gT aa) (au<|fj (bR (iW rfl) uK T.lQ boot_max<|aj (Sa K (Sa K dO gT) gE)<|R6 iF)<|h9 (Sa K dO gT) gE set_list) ax)<|ae (cY (fB T.cx aT) (gn 7 eI.nd)<|au<|cY (fB T.cx aT) (gn 8 eI.nd)<|ae (aB (aA fK (Sa K (Sa K dO iS) iN) aa) (au zP) ax)<|au<|cY (fB T.cx aT) (gn 9 eI.nd)<|au<|aB (aA qr (Sa K (Sa K dO iN) lE) aa) (au<|fj (bR (iW rfl) uK T.lQ boot_max<|aj (Sa K (Sa K dO iS) lE)<|R6<|aw bw (Sa K (Sa K dO iS) iN)<|Sa K (Sa K dO iN) lE)<|h9 (Sa K dO iS) lE set_list) ax)<|aE dO),?_];erw[_,Z,_,Z,Y,Y,?_];rw[Oa];show tN (λi ys H2=> ∃ds:qx qA,ys=ds.map V.ref/\ds.length=i/\ds.Nodup/\(∀d∈ds,H2 d=some (.lst<|wo n<|V.int<|-1)/\H d=none)/\ag H H2) ⟨[],Z,Z,Qi,(λd hd=>by cases hd),ag.refl H⟩ (ay hn) (λi ys H2 ⟨ds,e,hl,_⟩=>by rw[e,NR]; show hl) ?_ ?_
 .rintro i ys H2 hi ⟨ds,rfl,hl,nd,hr2,sm⟩;erw[_,Z,aC,λl0 n0=>?_];show⟨_,Z,l0,_,_,Z,Z,af,Y,Y,by change 1*(n:u7).toNat<=sizeLine; rw[Oa,R0]; show OA<|ay hn,λl nl=>?_⟩;have s2:ag H2 (upd (upd H2 l0<|.lst [.int<|-1]) l<|.lst<|wo n<|V.int<|-1):=(ag.upd n0).trans<|ag.upd nl;have e1:(wo (n:u7).toNat [V.int<|-1]).flatten=wo n (V.int<|-1):=by rw[Oa]; simp
  erw[ds++[l],by rw[Od]; rfl,by rw[N1,hl]; rfl,?_,λd hd=>?_,?_]
  .show Qt.mpr ⟨nd,OS.mpr ⟨OG,Qi⟩,λd hd e he=>?_⟩;rw[NZ.mp he];show az (ag.upd n0 _ _ (hr2 d hd).1) nl
  .rcases Oe.mp hd with hd | hd
   .exists ?_,(hr2 d hd).2;rw[ah<|az (ag.upd n0 _ _ (hr2 d hd).1) nl];show ag.upd n0 _ _ (hr2 d hd).1
   .rw[NZ.mp hd];erw[by rw[af,e1],sm.free<|(ag.upd n0).free nl]
  .exact sm.trans<|(ag.upd n0).trans<|ag.upd nl
 rintro ys H2 p ⟨ds,e,hl,nd,hr2,sm⟩ hp;have m0:SK H (upd H2 p (.lst ys)) n p ds (λ_ _=> -1):=SK.grow ds e hl nd hr2 sm hp;clear hr2 e nd hl sm hp;generalize upd H2 p (.lst ys)=H3 at m0;erw[_,Z,_,Z,Y,Y,?_];rw[Oa];show cA (xs:=cf 0 n) (λi O' H'=> ∃v3:rW V,O'=[some (.int n),uo r,uo p,v3,none,none,none,none,none,none]/\SK H H' n p ds ((wx i).foldl MA.wX (λ_ _=> -1))) ⟨none,Z,m0⟩ (λi O' H' _ _=>cj) ?_ ?_
 .rintro i x O' H' hi ⟨v3,rfl,m⟩;obtain⟨hin,rfl⟩:=bU hi;obtain⟨d,hd,ha,hrow⟩:=m.at (a:=0+(i:u6)) Y Y;show⟨_,Z,_,Z,p,_,_,_,Z,Z,R5.of m.top,ha,_,Z,d,_,_,_,Z,Z,hrow,by rw[jD]; show h8 Y Y,?_⟩;have ei:(0+(i:u6):u7).toNat=i:=Y;rw[ei] at hd hrow ⊢;erw[_,Z,?_];rw[dR];show m.put hd hin
 rintro O1 H1 ⟨v3,rfl,m1⟩;rw[bN] at m1;have m1:SK H H1 n p ds (MA.M1 n):=m1;erw[_,Z,r,Z,⟨_,m1.sm.seq hx⟩,?_];show cA (xs:=xs) (λi O' H'=> ∃v4 v5 v6:rW V,O'=[some<|.int n,uo r,uo p,v3,v4,v5,v6,none,none,none]/\SK H H' n p ds ((rs.take i).foldl MA.S4<|MA.M1 n)) ⟨none,none,none,Z,m1⟩ (λi O' H' _ ⟨_,_,_,_,m⟩=>bf<|m.sm.seq hx) ?_ ?_
 .rintro i x O' H' hi ⟨v4,v5,v6,rfl,m⟩;obtain⟨rl,hq,t,rfl,ht⟩:=hX.get hi;obtain⟨k1,k2,k3,k4,k5⟩:=hk rl<|NU hq;erw[t,_,Z,m.sm.fZ ht,Z,_,_,Z,_,_,Z,_,_,Z,Z,?_];erw[_,Z,_,_,Z,Z,_,Z,?_];show bh (λc=>?_) λc=>?_
  .have c:=Oc c;obtain⟨d,hd,ha,hrow⟩:=m.at (a:=rl.2.1) c k4;erw[_,Z,_,Z,p,_,_,_,Z,Z,R5.of m.top,ha,_,Z,d,_,_,_,Z,Z,R5.of hrow,iJ k1 k2,_,Z,_,_,Z,?_];show⟨_,Z,_,Z,p,_,_,_,Z,Z,R5.of m.top,ha,_,Z,d,_,_,_,Z,Z,hrow,by rw[jD]; show h8 k1 k2,?_⟩;erw[_,_,_,Z,?_];rw[foldl_take_succ MA.S4 _ hq];unfold MA.S4;rw[NW c];show m.put hd Y
  .have c:=Ou<|Om _▸c;erw[_,_,_,Z,?_];rw[foldl_take_succ MA.S4 _ hq];change SK H H' n p ds (MA.S4 _ rl);rw[show ∀M,MA.S4 M rl=M from λM=>NS c];show m
 rintro O2 H2 ⟨v4,v5,v6,rfl,m2⟩;rw[hX.length,OF] at m2;have m2:SK H H2 n p ds (MA.M2 n rs):=m2;erw[_,Z,_,Z,Y,Y,?_];rw[Oa];show cA (xs:=cf 0 n) (λk O' H'=> ∃v7 v8 v9:rW V,O'=[some<|.int n,uo r,uo p,v3,v4,v5,v6,v7,v8,v9]/\SK H H' n p ds ((wx k).foldl (MA.mid n)<|MA.M2 n rs)) ⟨none,none,none,Z,m2⟩ (λi O' H' _ _=>cj) ?_ ?_
 .rintro k x O' H' hi ⟨v7,v8,v9,rfl,m⟩;obtain⟨hkn,rfl⟩:=bU hi;generalize hD:(wx k).foldl (MA.mid n) (MA.M2 n rs)=D at m;have ek:(0+(k:u6):u7).toNat=k:=Y;erw[_,Z,_,Z,Y,Y,?_];rw[Oa];show cA (xs:=cf 0 n) (λi O' H'=> ∃v8 v9:rW V,O'=[some (.int n),uo r,uo p,v3,v4,v5,v6,some (.int (0+(k:u6))),v8,v9]/\SK H H' n p ds ((wx i).foldl (MA.j9 n k) D)) ⟨v8,v9,Z,m⟩ (λi O' H' _ _=>cj) ?_ ?_
  .clear m;rintro i x O' H' hi ⟨v8,v9,rfl,m⟩;obtain⟨hin,rfl⟩:=bU hi;generalize hF:(wx i).foldl (MA.j9 n k) D=F at m;have ei:(0+(i:u6):u7).toNat=i:=Y;obtain⟨d,hd,ha,hrow⟩:=m.at (a:=0+(i:u6)) Y Y;rw[ei] at hd hrow;have hck:=iJ (M:=F) (i:=i) (b:=0+(k:u6)) (n:=n) Y Y;rw[ek] at hck;erw[_,Z,_,Z,p,_,_,_,Z,Z,R5.of m.top,ha,_,Z,d,_,_,_,Z,Z,R5.of hrow,hck,_,_,Z,Z,_,Z,?_];have hstep:(wx (i+1)).foldl (MA.j9 n k) D=MA.j9 n k F i:=(by rw[dR,hF]);show bh (λc=>?_) (λc=>?_)
   .have c:=Oc c;erw[_,_,Z,?_];rw[hstep];unfold MA.j9;rw[NW c];show m
   have c:=Ou<|Om _▸c;erw[_,Z,_,Z,Y,Y,?_];rw[Oa];show cA (xs:=cf 0 n) (λj O' H'=> ∃v9:rW V,O'=[some<|.int n,uo r,uo p,v3,v4,v5,v6,some<|.int<|0+(k:u6),some<|.int<|0+(i:u6),v9]/\SK H H' n p ds ((wx j).foldl (MA.Tc k i) F)) ⟨v9,Z,m⟩ (λi O' H' _ _=>cj) ?_ ?_
   .clear m hrow hck;rintro j x O' H' hi ⟨v9,rfl,m⟩;obtain⟨hjn,rfl⟩:=bU hi;generalize hG:(wx j).foldl (MA.Tc k i) F=G at m;have ej:(0+(j:u6):u7).toNat=j:=Y;obtain⟨dk,hdk,hak,hrk⟩:=m.at (a:=0+(k:u6)) Y Y;rw[ek] at hdk hrk;have hkj:=iJ (M:=G) (i:=k) (b:=0+(j:u6)) (n:=n) Y Y;rw[ej] at hkj;erw[_,Z,_,Z,p,_,_,_,Z,Z,R5.of m.top,hak,_,Z,dk,_,_,_,Z,Z,R5.of hrk,hkj,_,_,Z,Z,_,Z,?_];have hst:(wx (j+1)).foldl (MA.Tc k i) F=MA.Tc k i G j:=(by rw[dR,hG]);show bh (λc2=>?_) (λc2=>?_)
    .have c2:=Oc c2;obtain⟨di,hdi,hai,hri⟩:=m.at (a:=0+(i:u6)) Y Y;rw[ei] at hdi hri;have hij:=iJ (M:=G) (i:=i) (b:=0+(j:u6)) (n:=n) Y Y;rw[ej] at hij;have hik:=iJ (M:=G) (i:=i) (b:=0+(k:u6)) (n:=n) Y Y;rw[ek] at hik;erw[_,Z,_,Z,p,_,_,_,Z,Z,R5.of m.top,hai,_,Z,di,_,_,_,Z,Z,R5.of hri,hij,?_];erw[_,Z,_,Z,p,_,_,_,Z,Z,R5.of m.top,hai,_,Z,di,_,_,_,Z,Z,R5.of hri,hik,?_];erw[_,Z,_,Z,p,_,_,_,Z,Z,R5.of m.top,hak,_,Z,dk,_,_,_,Z,Z,R5.of hrk,hkj,_,_,Z,Z,_,_,Z,?_];show⟨_,Z,_,Z,p,_,_,_,Z,Z,R5.of m.top,hai,_,Z,di,_,_,_,Z,Z,hri,by rw[jD]; show h8 Y Y,?_⟩;rw[ej];erw[_,Z,?_];rw[hst];unfold MA.Tc;rw[NW c2];show m.put hdi hjn
    .have c2:=Ou<|Om _▸c2;erw[_,Z,?_];rw[hst];unfold MA.Tc;rw[NS c2];show m
   .rintro O' H' ⟨v9,rfl,m⟩;rw[bN] at m;erw[_,_,Z,?_];rw[hstep];unfold MA.j9;rw[NS c];show m
  .rintro O' H' ⟨v8,v9,rfl,m⟩;rw[bN] at m;erw[_,_,_,Z,?_];rw[dR,hD];show m
 .rintro O' H' ⟨v7,v8,v9,rfl,m⟩;rw[bN] at m;erw[_,Z,q p ds H' m]
inductive C3(K:R7)(vs:qx V)(H:Hp)(Q:VK)(_E:XK):Prop|mk(n:u6)(r:qA)(rs:qx MA.ao)(_:vs=[.int n,.ref r])(_:n<=1000)(_:SU K H r rs)(_:∀q∈rs,Sh n q)(_:∀(H':Hp),ag H H'->Q (.bl (MA.gq n rs)) H')
theorem DJ (T:Txt K mg a):Sj P w K mg base 2 "_law_ringed" ["_law_count","_law_rules_here"] (C3 K):=by
 exists 0,bH,51,j6;obtain⟨n,r,rs,rfl,hn,hR,hk,q⟩:=h;erw[_,(ae (R9 2 j6.nd<|aF (yI T:)<|aj aT<|R6 bY)<|ae (cY (fB T.cx aT) (gn 3 j6.nd)<|au<|aB (aA jg (Sa K (Sa K dO eX) eX) aa) (aE jP) ax)<|aE jP),?_];erw[_,Z,_,Z,n,r,rs,Z,hn,hR,hk,λp ds H1 m=>?_];erw[_,Z,_,Z,Y,Y,?_];rw[Oa];show cA (xs:=cf 0 n) (λi O' H'=> ∃v3:rW V,O'=[some<|.int n,uo r,uo p,v3]/\H'=H1/\ ∀j,j < i-> ¬ 0 < MA.aH n rs j j) ⟨none,Z,Z,λj hj=>wz hj<|OU _⟩ (λi O' H' _ _=>cj) ?_ ?_
 .rintro i x O' H' hi ⟨v3,rfl,rfl,hno⟩;obtain⟨hin,rfl⟩:=bU hi;obtain⟨d,hd,ha,hrow⟩:=m.at (a:=0+(i:u6)) Y Y;have ei:(0+(i:u6):u7).toNat=i:=Y;have hii:=iJ (M:=MA.aH n rs) (i:=i) (b:=0+(i:u6)) (n:=n) Y Y;rw[ei] at hrow hii;erw[_,Z,_,Z,p,_,_,_,Z,Z,R5.of m.top,ha,_,Z,d,_,_,_,Z,Z,R5.of hrow,hii,_,_,Z,Z,_,Z,?_];show bh (λc=>?_) λc=>?_
  .have e:MA.gq n rs=true:=Q6.mpr ⟨i,Oq.mpr hin,c⟩;rw[e] at q;show q H' m.sm
  .have c:=Ou<|Om _▸c;erw[_,Z,Z,λj hj=>?_];by_cases e:j=i;.rw[e]; show c
   .exact hno j Y
 .rintro O' H' ⟨v3,rfl,rfl,hno⟩;rw[bN] at hno;have e:MA.gq n rs=false:=QV.mpr λj hj=>λz=>hno j (Oq.mp hj)<|Oc z;rw[e] at q;show q H' m.sm
inductive C2(K:R7)(vs:qx V)(H:Hp)(Q:VK)(_E:XK):Prop|mk(n:u6)(r:qA)(rs:qx MA.ao)(_:vs=[.int n,.ref r])(_:n<=1000)(_:SU K H r rs)(_:∀q∈rs,Sh n q)(_:∀(p:qA) (H':Hp),H p=none->ag H H'->H' p=some (.lst ((MA.c9 n rs).map V.int))->Q (.ref p) H')
theorem vO (T:Txt K mg a):Sj P w K mg base 2 "_law_least" ["_law_count","_law_rules_here"] (C2 K):=by
 exists 0,bH,50,dy;obtain⟨n,r,rs,rfl,hn,hR,hk,q⟩:=h;obtain⟨xs,hx,hX⟩:=id hR;erw[_,(ae (R9 2 dy.nd<|aF (yI T:)<|aj aT<|R6 bY)<|ae (R9 3 dy.nd<|aw mG (aP<|R6 aa) aT)<|ae (cY (cS K bY) (dI rfl<|aQ (gn 4 dy.nd)<|aQ (gn 5 dy.nd)<|aQ (gn 6 dy.nd) de)<|au<|aB (aA fK gT aa) (au<|fj (bR (iW rfl) uK T.lQ boot_max<|aj (Sa K eX gE)<|R6 iF)<|h9 eX gE set_list) ax)<|ae (R9 7 dy.nd<|aw mG (aP<|R6 aa) aT)<|ae (cY (fB T.cx aT) (gn 8 dy.nd)<|au<|cY (fB T.cx aT) (gn 9 dy.nd)<|au<|aB (aA qr (Sa K (Sa K dO iS) lE) aa) (au<|fj (bR (iW rfl) uK T.lQ boot_max<|aj (Sa K iN lE)<|R6<|aw bw (Sa K eX iS)<|Sa K (Sa K dO iS) lE)<|h9 iN lE set_list) ax)<|aE iN),?_];erw[_,Z,_,Z,n,r,rs,Z,hn,hR,hk,λp ds H1 m=>?_];have rep: ∀ {l0 l:qA}{H':Hp} (n0:H' l0=none) (nl:(upd H' l0<|.lst [.int 0]) l=none),(upd (upd H' l0<|.lst [.int 0]) l<|.lst (wo (n:u7).toNat [V.int 0]).flatten) l=some (.lst<|(wo n (0:u7)).map V.int):=λn0 nl=>by
  rw[af,Oa];simp
 have hrep:1*(n:u7).toNat<=sizeLine:=by rw[Oa,R0]; show OA<|ay hn
 erw[aC,λl0 n0=>⟨_,Z,l0,_,_,Z,Z,af,Y,Y,hrep,λl nl=>?_⟩];have s1:=(ag.upd (o:= .lst [.int 0]) n0).trans<|ag.upd (o:= .lst (wo (n:u7).toNat [V.int 0]).flatten) nl;have hl1:=rep n0 nl;have nlH:H1 l=none:=(ag.upd n0).free nl;have m1:SK H (upd (upd H1 l0<|.lst [.int 0]) l<|.lst (wo (n:u7).toNat [V.int 0]).flatten) n p ds (MA.aH n rs):=⟨s1 _ _ m.top,m.len,m.nd,m.np,λi d hd=>s1 _ _<|m.row i d hd,m.sm.trans s1,m.fp,m.fd⟩
 generalize upd (upd H1 l0 (.lst [.int 0])) l (.lst (wo (n:u7).toNat [V.int 0]).flatten)=H2 at s1 hl1 m1;clear n0 nl rep;erw[_,Z,r,Z,⟨_,m1.sm.seq hx⟩,?_];show cm (xs:=xs) (λi O' H'=> ∃v4 v5 v6:rW V,O'=[some (.int n),uo r,uo p,uo l,v4,v5,v6,none,none,none]/\ag H1 H'/\H' l=some (.lst (((rs.take i).foldl MA.fE (wo n 0)).map V.int))) ⟨none,none,none,Z,s1,hl1⟩ (λi O' H' _ ⟨_,_,_,_,sm,_⟩=>bf ((m.sm.trans sm).seq hx)) ?_ ?_
 .clear s1 hl1 m1;rintro i x O' H' D1 nx1 - hi ⟨v4,v5,v6,rfl,sm,hl⟩;obtain⟨rl,hq,t,rfl,ht⟩:=hX.get hi;obtain⟨k1,k2,k3,k4,k5⟩:=hk rl (NU hq);have hlen:((rs.take i).foldl MA.fE (wo n 0)).length=n:=(MA.gM _ (λ_ _=>MA.jE) _ _).trans uD;have hst:(rs.take (i+1)).foldl MA.fE (wo n 0)=MA.fE ((rs.take i).foldl MA.fE (wo n 0)) rl:=foldl_take_succ _ _ hq;generalize (rs.take i).foldl MA.fE (wo n 0)=G at hl hlen hst;erw[t,_,Z,(m.sm.trans sm).fZ ht,Z,_,_,Z,_,_,Z,_,_,Z,Z,?_];erw[_,Z,_,_,Z,Z,_,Z,?_];show bh (λc=>?_) (λc=>?_)
  .have c:=Oc c;show⟨_,Z,_,Z,l,_,_,_,Z,Z,R5.of hl,cI k1 Y,_,Z,_,_,Z,_,Z,_,Z,l,_,_,_,Z,Z,hl,by rw[NR,hlen]; show h8 k1 k2,?_⟩;show nx1 _ _ ⟨_,_,_,Z,sm.cT nlH,?_⟩;rw[af,hst,<-Qy];unfold MA.fE;rw[NW c];rfl
  .have c:=Ou<|Om _▸c;show nx1 _ _ ⟨_,_,_,Z,sm,?_⟩;rw[hst];unfold MA.fE;rw[NS c];show hl
 rintro O3 H3 ⟨v4,v5,v6,rfl,s3,hl3⟩;rw[hX.length,OF] at hl3;have hl3:H3 l=some (.lst<|(MA.du n rs).map V.int):=hl3;have fl:(MA.du n rs).length=n:=MA.E7;erw[aC,λl0 n0=>⟨_,Z,l0,_,_,Z,Z,af,Y,Y,hrep,λu nu=>?_⟩];have s4:=(ag.upd (o:= .lst [.int 0]) n0).trans<|ag.upd (o:= .lst (wo (n:u7).toNat [V.int 0]).flatten) nu;have hu4:(upd (upd H3 l0<|.lst [.int 0]) u<|.lst (wo (n:u7).toNat [V.int 0]).flatten) u=some (.lst<|(wo n (0:u7)).map V.int):=by
  rw[af,Oa];simp
 have nuH:H3 u=none:=(ag.upd n0).free nu;have nu1:H1 u=none:=s3.free nuH;have nu0:H u=none:=m.sm.free nu1;have mat: ∀ {H':Hp},ag H3 H'->SK H H' n p ds (MA.aH n rs):=λz=>⟨(s3.trans z) _ _ m.top,m.len,m.nd,m.np,λi d hd=>(s3.trans z) _ _<|m.row i d hd,m.sm.trans<|s3.trans z,m.fp,m.fd⟩
 generalize upd (upd H3 l0 (.lst [.int 0])) u (.lst (wo (n:u7).toNat [V.int 0]).flatten)=H4 at s4 hu4;erw[_,Z,_,Z,Y,Y,?_];rw[Oa];show cm (xs:=cf 0 n) (λi O' H'=> ∃v8 v9:rW V,O'=[some (.int n),uo r,uo p,uo l,v4,v5,v6,uo u,v8,v9]/\ag H3 H'/\H' u=some (.lst (((wx i).foldl (MA.jC n (MA.aH n rs) (MA.du n rs)) (wo n 0)).map V.int))) ⟨none,none,Z,s4,hu4⟩ (λi O' H' _ _=>cj) ?_ ?_
 .rintro a x O' H' D1 nx1 - hi ⟨v8,v9,rfl,sm,hu⟩;obtain⟨han,rfl⟩:=bU hi;have ea:(0+(a:u6):u7).toNat=a:=Y;have ea2:(0+(a:u6):u7)=(a:u6):=Y;erw[_,Z,_,Z,Y,Y,?_];rw[Oa];have hlen0:((wx a).foldl (MA.jC n (MA.aH n rs) (MA.du n rs)) (wo n 0)).length=n:=(MA.gM _ (λ_ _=>MA.lB) _ _).trans uD;have hst:(wx (a+1)).foldl (MA.jC n (MA.aH n rs) (MA.du n rs)) (wo n 0)=MA.jC n (MA.aH n rs) (MA.du n rs) ((wx a).foldl (MA.jC n (MA.aH n rs) (MA.du n rs)) (wo n 0)) a:=dR _ _ _;generalize (wx a).foldl (MA.jC n (MA.aH n rs) (MA.du n rs)) (wo n 0)=G at hu hlen0 hst;show cm (xs:=cf 0 n) (λb O' H'=> ∃v9:rW V,O'=[some (.int n),uo r,uo p,uo l,v4,v5,v6,uo u,some (.int (0+(a:u6))),v9]/\ag H3 H'/\H' u=some (.lst (((wx b).foldl (MA.fS (MA.aH n rs) (MA.du n rs) a) G).map V.int))) ⟨v9,Z,sm,hu⟩ (λi O' H' _ _=>cj) ?_ ?_
  .clear hu sm;rintro b x O' H' D2 nx2 - hi ⟨v9,rfl,sm,hu⟩;obtain⟨hbn,rfl⟩:=bU hi;have eb:(0+(b:u6):u7).toNat=b:=Y;have eb2:(0+(b:u6):u7)=(b:u6):=Y;have hlen1:((wx b).foldl (MA.fS (MA.aH n rs) (MA.du n rs) a) G).length=n:=(MA.gM _ (λ_ _=>MA.jB) _ _).trans hlen0;have hst1:(wx (b+1)).foldl (MA.fS (MA.aH n rs) (MA.du n rs) a) G=MA.fS (MA.aH n rs) (MA.du n rs) a ((wx b).foldl (MA.fS (MA.aH n rs) (MA.du n rs) a) G) b:=dR _ _ _;generalize (wx b).foldl (MA.fS (MA.aH n rs) (MA.du n rs) a) G=F at hu hlen1 hst1;have mm:=mat sm;obtain⟨d,hd,had,hrow⟩:=mm.at (a:=0+(a:u6)) Y Y;rw[ea] at hrow;have hab:=iJ (M:=MA.aH n rs) (i:=a) (b:=0+(b:u6)) (n:=n) Y Y;rw[eb] at hab;erw[_,Z,_,Z,p,_,_,_,Z,Z,R5.of mm.top,had,_,Z,d,_,_,_,Z,Z,R5.of hrow,hab,_,_,Z,Z,_,Z,?_];show bh (λc=>?_) (λc=>?_)
   .have c:=Oc c;erw[_,Z,_,Z,u,_,_,_,Z,Z,R5.of hu,cI Y Y,?_];erw[_,Z,_,Z,l,_,_,_,Z,Z,R5.of<|sm _ _ hl3,cI Y Y,?_];erw[_,Z,_,Z,p,_,_,_,Z,Z,R5.of mm.top,had,_,Z,d,_,_,_,Z,Z,R5.of hrow,hab,_,_,Z,Z,_,_,Z,?_];show⟨_,Z,_,Z,u,_,_,_,Z,Z,hu,by rw[NR,hlen1]; show h8 Y Y,?_⟩;show nx2 _ _ ⟨_,Z,sm.cT nuH,?_⟩;rw[af,hst1,<-Qy];unfold MA.fS;rw[NW c,ea2,eb2];rfl
   .have c:=Ou<|Om _▸c;show nx2 _ _ ⟨_,Z,sm,?_⟩;rw[hst1];unfold MA.fS;rw[NS c];show hu
  .rintro O' H' ⟨v9,rfl,sm,hu⟩;rw[bN] at hu;show nx1 _ _ ⟨_,_,Z,sm,?_⟩;rw[hst];show hu
 .rintro O' H' ⟨v8,v9,rfl,sm,hu⟩;rw[bN] at hu;erw[_,Z,q u H' nu0 (m.sm.trans<|s3.trans sm) hu]
def A2:rW u6->u7
 | none=> -1
 | some i=>(i:u6)
inductive CK(K:R7)(vs:qx V)(H:Hp)(Q:VK)(_E:XK):Prop|mk(p:qA)(ws:qx u7)(c:qA)(cs:qx (rW u7))(_:vs=[.ref p,.ref c])(_:R5 K H p (ws.map V.int))(_:R5 K H c (cs.map dW))(_:cs.length=ws.length)(_:ws.length<=1000)(_:Q (.int (A2 (MA.bP ws cs))) H)
theorem EO (T:Txt K mg a):Sj P w K mg base 1 "_law_passed" ["_law_widths","_law_caps"] (CK K):=by
 exists 0,bH,54,ox;obtain⟨p,ws,c,cs,rfl,hp,hc,hcl,hwl,q⟩:=h;erw[_,(ae (cY (fB T.cx<|c5 K T.bZ aT) (gn 2 ox.nd)<|au<|aB (PW.pt<|cv (aA iQ (Sa K bY dO) cM)<|cg<|aA jg (Sa K aT dO)<|Sa K bY dO) (aE dO) ax)<|aE<|lR jR aa),?_];show⟨_,Z,_,_,Z,.inl ⟨_,hp,Z⟩,_,Z,Y,by rw[NR]; lia,?_⟩;rw[Oa,NR];show cA (xs:=cf 0 ws.length) (λi O' H'=> ∃v2:rW V,O'=[uo p,uo c,v2]/\H'=H/\ ∀j,j < i->MA.over (MA.g ws (j:u6)) (cs.getD j none)=false) ⟨none,Z,Z,λj hj=>wz hj<|OU _⟩ (λi O' H' _ _=>cj) ?_ ?_
 .rintro i x O' H' hi ⟨v2,rfl,rfl,hno⟩;obtain⟨hin,rfl⟩:=bU hi;have ei:(0+(i:u6):u7)=(i:u6):=Y;rw[ei];have hca:=yG (cs:=cs) (k:=i) Y;have nxt:MA.over (MA.g ws (i:u6)) (cs.getD i none)=false-> ∃v2:rW V,[some (V.ref p),some (V.ref c),some (V.int (i:u6))]=[some (V.ref p),some (V.ref c),v2]/\H'=H'/\ ∀j,j < i+1->MA.over (MA.g ws (j:u6)) (cs.getD j none)=false:=λz=>⟨_,Z,Z,λj hj=>by
   by_cases e:j=i;.rw[e]; show z
   .exact hno j Y⟩
  erw[_,Z,_,Z,c,_,_,_,Z,Z,hc,hca,Z,_,Z,?_];cases e:cs.getD i none with
  | none=>show aM (aM (nxt (by rw[e]; rfl)))
  | some k =>
   rw[e] at hca;show aW ⟨_,Z,_,Z,p,_,_,_,Z,Z,hp,cI Y Y,_,Z,_,Z,c,_,_,_,Z,Z,hc,hca,_,_,Z,Z,_,Z,?_⟩;show bh (λz=>?_) λz=>?_
   .have hw:MA.bP ws cs=some i:=MA.sU hin (by rw[e]; show z) hno;rw[hw] at q;erw[_,Z,q]
   .exact nxt (by rw[e]; show Om _▸z)
 .rintro O' H' ⟨v2,rfl,rfl,hno⟩;rw[bN] at hno;rw[MA.sj hno] at q;erw[_,Z,q]
inductive DV(K:R7)(vs:qx V)(H:Hp)(Q:VK)(_E:XK):Prop|mk(ts:qA)(os:qx qA)(n:u6)(ms:qx Mem)(ds:qx Sn)(_:vs=[.ref ts])(_:LS os n H ts ms ds)(_:SM ms ds)(_:ds.length<=1000)(_:∀(p:qA) (H':Hp),H p=none->ag H H'->iD K H' p (aD ms ds)->Q (.ref p) H')
theorem vK (T:Txt K mg a):Sj P w K mg base 1 "_law_rules" ["_law_state"] (DV K):=by
 exists 0,bH,52,eh;obtain⟨ts,os,n,ms,ds,rfl,⟨ln,la,dd,vs,kvs,l⟩,db,dl,q⟩:=h;erw[_,(ae (R9 1 eh.nd<|aP b8)<|ae (cY (cS K<|R8 K aT aa) (dI rfl<|aQ (gn 2 eh.nd)<|aQ (gn 3 eh.nd)<|aQ (gn 4 eh.nd)<|aQ (gn 5 eh.nd) de)<|ae (R9 6 eh.nd<|lR jR aa)<|dD (aB (aA iQ gE cM) (au<|R9 6 eh.nd<|show PE _ _ (SS K _ _ _ _) from c7 OE OV OW fk (R8 K aT aa)<|R6 gE) ax) (au<|aO<|fR K bY<|bO<|aj (show PE _ _ (SS K _ _ _ _) from c7 OE OV OW fk (R8 K aT aa)<|R6 eX) (aj iF<|R6 gT))) (aE bY)),?_];erw[aC,λp np=>?_];have s1:=ag.upd (o:= .lst []) np;have vl:=l.ar.length;dsimp only[aK,L2.start,x8];erw[_,Z,ts,_,_,_,Z,Z,Se.of<|s1 _ _ l.ht,Z,la,Z,⟨_,R5.of<|s1 _ _ l.ha⟩,?_];show cA (xs:=vs) (λi O' H'=> ∃(v2 v3 v4 v5 v6:rW V),O'=[uo ts,uo p,v2,v3,v4,v5,v6]/\ag H H'/\iD K H' p ((aD ms ds).take i)) ⟨none,none,none,none,none,Z,s1,[],af,.nil⟩ (λi O' H' _ ⟨_,_,_,_,_,_,sm,_⟩=>bf<|R5.of<|sm _ _ l.ha) ?_ ?_
 .rintro i x O' H' hi ⟨v2,v3,v4,v5,v6,rfl,sm,hR⟩;obtain⟨d,hd,t,rfl,_,ht⟩:=l.ar.get hi;have ht':=sm _ _ ht;have hn':=sm _ _ l.hn;have hs':=sm _ _ l.ht;obtain⟨b1,b2,b3⟩:=db d<|NU hd;obtain⟨j,j1,j2⟩:=dG b1;have ej:=dF j1 j2;have il:i < ds.length:=(NX.mp hd).1;erw[t,_,Z,Se.of ht',Z,_,_,Z,_,_,Z,_,_,Z,_,_,Z,Z,?_];erw[_,Z,?_];dsimp only[aK,x8];erw[λO2 H2=>O2=[uo ts,uo p,some<|.str d.1,some<|.str d.2.1,some<|hZ d.2.2.1,some<|.int d.2.2.2,some (.int (fA (ms.map (·.1)) d).2.1)]/\H'=H2,?_,?_]
  .exists _,Z,?_;cases ed:d.2.2.1 with
   | none =>
    erw[Z,_,Z,aM ⟨?_,Z⟩];unfold fA;rw[ed]
   | some b =>
    obtain⟨k,i1,i2⟩:=dG<|b2 b ed;have ei:=dF i1 i2;erw[Z,_,Z,aW ⟨_,Z,ts,_,_,_,Z,Z,Se.of hs',Z,.inl ⟨Z,_,R5.of hn'⟩,_,Z,ln,_,b,k,Z,Z,hn',i1,i2,?_,Z⟩];unfold fA;rw[ed];change _=[_,_,_,_,_,_,some (V.int (((ms.map (·.1)).idxOf b:u6):u7))];rw[ei];rfl
  rintro O2 H2 ⟨rfl,rfl⟩;obtain⟨xs,hx,hX⟩:=id hR;erw[_,Z,.inl ⟨Z,_,R5.of hx⟩,_,Z,ts,_,_,_,Z,Z,Se.of hs',Z,.inl ⟨Z,_,R5.of hn'⟩,_,Z,ln,_,d.2.1,j,Z,Z,hn',j1,j2,_,Z,_,Z,aC,λt nt=>?_];have hx':=(ah (o:= .tup [.int ((j:u6):u7),.int (fA (ms.map (·.1)) d).2.1,.int d.2.2.2])<|az hx nt).trans hx;show⟨p,_,_,Z,Z,hx',by rw[hX.length,Oi]; show ay Y,?_⟩;have er:(aD ms ds).take (i+1)=(aD ms ds).take i++[(((j:u6):u7),(fA (ms.map (·.1)) d).2.1,d.2.2.2)]:=by
   rw[Ov];congr 1;unfold aD;rw[N7,hd];change [fA (ms.map (·.1)) d]=_;rw[<-ej];rfl
  rw[er];erw[_,_,_,_,_,Z,sm.MP nt np,iD.push (q:=(((j:u6):u7),(fA (ms.map (·.1)) d).2.1,d.2.2.2)) hR nt hx]
 .rintro O' H' ⟨v2,v3,v4,v5,v6,rfl,sm,hR⟩;rw[vl,OP (by unfold aD; rw[NR]; lia)] at hR;erw[_,Z,q p H' np sm hR]
inductive Di(K:R7)(vs:qx V)(H:Hp)(Q:VK)(_E:XK):Prop|mk(ts:qA)(os:qx qA)(n:u6)(ms:qx Mem)(ds:qx Sn)(_:vs=[.ref ts])(_:LS os n H ts ms ds)(_:(ms.map (·.1)).Nodup)(_:ms.length<=1000)(_:∀(p:qA) (H':Hp),H p=none->ag H H'->H' p=some (.lst ((ms.map (·.2)).map dW))->Q (.ref p) H')
theorem vS (T:Txt K mg a):Sj P w K mg base 1 "_law_caps_of" ["_law_state"] (Di K):=by
 exists 0,bH,53,uu;obtain⟨ts,os,n,ms,ds,rfl,⟨ln,la,dd,vs,kvs,l⟩,hn,ml,q⟩:=h;erw[_,(aE<|eZ wG ["_law_name"] ["_law_state"] [0] (cS K<|R8 K aT aa) λC s2 H2 fp=>(rB (dB hr) (R8 K bY aa) aT (by constructor <;> first | rfl | (intros; rfl)))),?_];erw[_,Z,ts,_,_,_,Z,Z,Se.of l.ht,Z,ln,Z,⟨_,R5.of l.hn⟩,?_];show iU (xs:=(ms.map (·.1)).map V.str) (bf<|R5.of l.hn) (λv=>match v with | .str y=>dW (bD ms y) | _=> .non) (by rw[NR,NR]; show ay ml) (λx hx R hR=>?_) λp np=>?_
 .obtain⟨y,_,rfl⟩:=Ow.mp hx;erw[_,Z,ts,_,_,_,Z,Z,Se.of l.ht,Z,dd,Z,.inl ⟨kvs,.inl l.hd⟩,_,Z,_,dz.k (k:=zA y) l.hd,?_];rw[l.cp y];have hR:R (dW<|bD ms y) H:=hR;cases e:bD ms y with
  | none=>rw[e] at hR; show hR
  | some c=>rw[e] at hR; show hR
 .have e:((ms.map (·.1)).map V.str).map (λv=>match v with | .str y=>dW (bD ms y) | _=> .non)=(ms.map (·.2)).map dW:=by
   rw[<-Hr hn];simp only[OK];rfl
  rw[e];show q p _ np (ag.upd np) af
inductive wj(K:R7)(vs:qx V)(H:Hp)(Q:VK)(_E:XK):Prop|mk(n:u6)(r p:qA)(rs:qx MA.ao)(L:qx u7)(m:u7):vs=[.int n,.ref r,.ref p,.int m]->n<=12->rs.length<=24->SU K H r rs->(∀q∈rs,Sh n q)->R5 K H p (L.map V.int)->aZ n rs=some L->0<=m->m < n->(∀(t:qA) (ps:qx u6) (H':Hp),H t=none->ag H H'->H' t=some (.lst (aJ ps))->MA.cK rs L m ps->Q (.ref t) H')->wj K vs H Q _E
variable{lv:qx u7}
theorem HU:(MA.SD L lv q).length=lv.length:=by
 unfold MA.SD;split;.exact MA.gC
 .rfl
theorem uN: ∀(rs:qx MA.ao) (lv:qx u7),(rs.foldl (MA.SD L) lv).length=lv.length
 | [],_=>rfl
 | q::rs,lv=>(uN rs (MA.SD L lv q)).trans HU
theorem Ax: ∀k,(MA.S5 L rs lv k).length=lv.length
 | 0=>rfl
 | k+1=>(uN rs _).trans (Ax k)
def fM (L:qx u7) (at':u7) (q:MA.ao):Prop:=if at' < 0 then MA.g L q.1=q.2.2 else q.2.1=at'/\MA.g L q.1=MA.g L q.2.1+q.2.2
instance (L:qx u7) (v:u7) (q:MA.ao):Decidable (fM L v q):=by unfold fM; infer_instance
theorem De:aJ ps++[V.int (i:u6)]=aJ (ps++[i]):=by
 unfold aJ;rw[Od];rfl
theorem ot (T:Txt K mg a):Sj P w K mg base 1 "_law_first_chain" ["_law_count","_law_rules_here","_law_widths","_law_member"] (wj K):=by
 exists 0,bH,55,aX;obtain⟨n,r,p,rs,L,m,rfl,hn,hrl,hR,hk,hp,eL,m0,m1,q⟩:=h;obtain⟨xs,hx,hX⟩:=hR;have lw:=MA.jU hk eL;have ll:=lw.len;erw[_,(ae (R9 4 aX.nd<|aw mG (aP<|R6 aa) aT)<|ae (fj aa<|h9 gE eX set_list)<|dD (cY (fB T.cx aT) (gn 5 aX.nd)<|au<|cY (cS K bY) (dI rfl<|aQ (gn 6 aX.nd)<|aQ (gn 7 aX.nd)<|aQ (gn 8 aX.nd) de)<|au<|aB (PW.pt<|cv (aA qr iN aa)<|cg<|aA aR (Sa K dO iF)<|aw bw (Sa K dO iN) iS) (au<|fj (bR (pj rfl) uK T.wR boot_min<|aj (Sa K gE iN)<|R6<|aw bw (Sa K gE iF) aa)<|h9 gE iN set_list) ax)<|ae (R9 9 aX.nd<|aP b8)<|ae (R9 10 aX.nd<|lR jR aa)<|ae (m9 QK (PW.pt<|cv (aA jg (Sa K dO eX) aa)<|cg<|aA kC lT eX)<|ae (R9 11 aX.nd<|lR jR aa)<|ae (cY (fB T.cx<|c5 K T.bZ bY) (gn 12 aX.nd)<|ae (fj (Sa K bY<|pv 12)<|dI rfl<|aQ (gn 6 aX.nd)<|aQ (gn 7 aX.nd)<|aQ (gn 8 aX.nd) de)<|dD (aB (aA fK lT aa) (au<|R9 13 aX.nd<|eV<|k8 (dH aR (Sa K dO iF) iS)<|iZ<|eV<|G9 (dH fK iN aa)<|iZ<|dH aR (Sa K dO iN) aa)<|au<|R9 13 aX.nd<|eV<|k8 (dH aR iN lT)<|iZ<|dH aR (Sa K dO iF)<|aw bw (Sa K dO iN) iS)<|au<|aB (PW.pt<|cv (eR K<|pv 13)<|cg<|PW.pt<|sy (aA fK mK aa)<|pH<|aA fK (Sa K gE iF)<|Sa K gE<|R8 K (Sa K bY mK) aa) (au<|R9 11 aX.nd<|pv 12) ax)<|ae (aO<|fR K lE mK)<|au<|R9 10 aX.nd<|R8 K (Sa K bY mK) aa)<|aE lE),?_];have hrep:1*(n:u7).toNat<=sizeLine:=by rw[Oa,R0]; show OA<|ay Y
 erw[aC,λl0 n0=>⟨_,Z,l0,_,_,Z,Z,af,Y,Y,hrep,λl nl=>?_⟩];have s1:=(ag.upd (o:= .lst [.int 99]) n0).trans<|ag.upd (o:= .lst (wo (n:u7).toNat [V.int 99]).flatten) nl;have hl1:(upd (upd H l0<|.lst [.int 99]) l<|.lst (wo (n:u7).toNat [V.int 99]).flatten) l=some (.lst<|(wo n (99:u7)).map V.int):=by
  rw[af,Oa];simp
 have nlH:H l=none:=(ag.upd n0).free nl;dsimp only[aK,L2.start,x8];generalize upd (upd H l0 (.lst [.int 99])) l (.lst (wo (n:u7).toNat [V.int 99]).flatten)=H1 at s1 hl1;clear n0 nl;show⟨_,Z,_,Z,l,_,_,_,Z,Z,hl1,by rw[NR,O4]; show h8 m0 m1,?_⟩;have hl2:(upd H1 l (.lst (((wo n (99:u7)).map V.int).set m.toNat (.int 0)))) l=some (.lst ((MA.S5 L rs (MA.put (wo n 99) m 0) 0).map V.int)):=by
  rw[af,<-Qy];rfl
 have s2:ag H (upd H1 l (.lst (((wo n (99:u7)).map V.int).set m.toNat (.int 0)))):=s1.cT nlH;generalize upd H1 l (.lst (((wo n (99:u7)).map V.int).set m.toNat (.int 0)))=H2 at s2 hl2;have flen: ∀i,(MA.S5 L rs (MA.put (wo n 99) m 0) i).length=n:=λi=>(Ax i).trans (MA.gC.trans (O4 ..));obtain⟨Md,mkM,unM⟩:=MV λO' H'=> ∃v5 v6 v7 v8:rW V,O'=[some (.int n),uo r,uo p,some (.int m),uo l,v5,v6,v7,v8,none,none,none,none,none]/\ag H H'/\H' l=some (.lst ((MA.S5 L rs (MA.put (wo n 99) m 0) n).map V.int));erw[Md,?_,?_];erw[_,Z,_,Z,Y,Y,?_];rw[Oa];obtain⟨Pv,mk,un⟩:=Uh λi O' H'=> ∃v5 v6 v7 v8:rW V,O'=[some (.int n),uo r,uo p,some (.int m),uo l,v5,v6,v7,v8,none,none,none,none,none]/\ag H H'/\H' l=some (.lst ((MA.S5 L rs (MA.put (wo n 99) m 0) i).map V.int));show cm (xs:=cf 0 n) Pv (mk _ _ _ ⟨none,none,none,none,Z,s2,hl2⟩) (λi O' H' _ _=>cj) ?_ ?_
 .clear hl1 s1 hl2 s2;rintro i x O' H' D1 nx1 _ hi hp1;obtain⟨v5,v6,v7,v8,rfl,sm,hl⟩:=un _ _ _ hp1;erw[_,Z,r,Z,⟨_,sm.seq hx⟩,?_];obtain⟨Pw,mk2,un2⟩:=Uh λj O' H'=> ∃v6 v7 v8:rW V,O'=[some (.int n),uo r,uo p,some (.int m),uo l,some x,v6,v7,v8,none,none,none,none,none]/\ag H H'/\H' l=some (.lst (((rs.take j).foldl (MA.SD L) (MA.S5 L rs (MA.put (wo n 99) m 0) i)).map V.int));show cm (xs:=xs) Pw (mk2 _ _ _ ⟨v6,v7,v8,Z,sm,hl⟩) (λj O' H' _ h=>by obtain⟨_,_,_,_,sm,_⟩:=un2 _ _ _ h; show bf (sm.seq hx)) ?_ ?_
  .clear sm hl hp1;rintro j y O' H' D2 nx2 _ hj hp2;obtain⟨v6,v7,v8,rfl,sm,hl⟩:=un2 _ _ _ hp2;obtain⟨rl,hq,t,rfl,ht⟩:=hX.get hj;obtain⟨k1,k2,k3,k4,k5⟩:=hk rl (NU hq);have hlen:((rs.take j).foldl (MA.SD L) (MA.S5 L rs (MA.put (wo n 99) m 0) i)).length=n:=(uN _ _).trans (flen i);have hst:(rs.take (j+1)).foldl (MA.SD L) (MA.S5 L rs (MA.put (wo n 99) m 0) i)=MA.SD L ((rs.take j).foldl (MA.SD L) (MA.S5 L rs (MA.put (wo n 99) m 0) i)) rl:=foldl_take_succ _ _ hq;generalize (rs.take j).foldl (MA.SD L) (MA.S5 L rs (MA.put (wo n 99) m 0) i)=G at hl hlen hst;have hon:=cI (ws:=L) k1 Y;erw[t,_,Z,sm.fZ ht,Z,_,_,Z,_,_,Z,_,_,Z,Z,?_];erw[_,Z,_,_,Z,Z,_,Z,?_];show bh (λc=>?_) (λc=>?_)
   .have c:=Oc c;erw[_,Z,_,Z,p,_,_,_,Z,Z,sm.seq hp,hon,_,Z,_,Z,p,_,_,_,Z,Z,sm.seq hp,cI c Y,_,Z,_,_,Z,Z,Z,_,Z,?_];show bh (λc2=>?_) λc2=>?_
    .have c2:=V.int.inj<|Oc c2;show⟨_,Z,_,Z,l,_,_,_,Z,Z,R5.of hl,cI c Y,_,Z,_,Z,l,_,_,_,Z,Z,R5.of hl,cI k1 Y,_,_,Z,Z,_,_,Z,_,Z,_,Z,l,_,_,_,Z,Z,hl,by rw[NR,hlen]; show h8 c k4,?_⟩;show nx2 _ _<|mk2 _ _ _ ⟨_,_,_,Z,sm.cT nlH,?_⟩;rw[af,hst,<-Qy,show MA.SD L G rl=MA.put G rl.2.1 (MA.mn (MA.g G rl.2.1)<|MA.g G rl.1+1) from NW ⟨c,c2⟩];rfl
    .have c2:=Ou<|Om _▸c2;show nx2 _ _<|mk2 _ _ _ ⟨_,_,_,Z,sm,?_⟩;rw[hst];unfold MA.SD;rw[NS λz=>c2<|OI V.int z.2];show hl
   .have c:=Ou<|Om _▸c;show aM<|nx2 _ _<|mk2 _ _ _ ⟨_,_,_,Z,sm,?_⟩;rw[hst];unfold MA.SD;rw[NS λz=>c z.1];show hl
  .rintro O' H' hp2;obtain⟨v6,v7,v8,rfl,sm,hl⟩:=un2 _ _ _ hp2;rw[hX.length,OF] at hl;show nx1 _ _<|mk _ _ _ ⟨_,_,_,_,Z,sm,hl⟩
 .rintro O' H3 hp1;obtain⟨v5,v6,v7,v8,rfl,s3,hl3⟩:=un _ _ _ hp1;rw[bN] at hl3;show mkM _ _ ⟨_,_,_,_,Z,s3,hl3⟩
 rintro O' H3 hp1;obtain⟨v5,v6,v7,v8,rfl,s3,hl3⟩:=unM _ _ hp1;clear hp1;obtain⟨lf,_⟩:=MA.rQ lw m0 m1 n;have D:=MA.IW lw m0 m1 (by lia:n<=90);have fo:=MA.Dn hk eL;generalize MA.S5 L rs (MA.put (wo n 99) m 0) n=lv at lf D hl3;clear hl1 hl2 s1 s2 flen hrep;erw[aS,λwy nwy=>?_];have fwy:H wy=none:=s3.free nwy;have nwl:l≠wy:=az hl3 nwy;have s4:=s3.trans (ag.upd (o:= .lst []) nwy);have hl4:(upd H3 wy (.lst [])) l=some (.lst (lv.map V.int)):=(ah nwl).trans hl3;have hw4:(upd H3 wy (.lst [])) wy=some (.lst (aJ [])):=af;dsimp only[aK,L2.start,x8];generalize upd H3 wy (.lst [])=H4 at s4 hl4 hw4;have gm:=lw.nn m m0 m1;erw[_,Z,?_];dsimp only[aK,x8];obtain⟨W,mkW,unW⟩:=Uh λμ O' H'=> ∃(cs:qx u6) (at':u7) (v5 v6 v7 v8 v11 v12 v13:rW V),O'=[some (.int n),uo r,uo p,some (.int m),uo l,v5,v6,v7,v8,uo wy,some (.int at'),v11,v12,v13]/\ag H H'/\H' l=some (.lst (lv.map V.int))/\H' wy=some (.lst (aJ cs))/\((cs=[]/\at'= -1/\μ=200)\/(0<=at'/\MA.SA n lv at'=some μ/\cs.length+μ<=150/\0 < MA.g L m/\ ∀ps,MA.Gr rs L (MA.SA n lv) m at' ps->MA.cK rs L m (cs++ps)));erw[W,⟨200,mkW _ _ _ ⟨[],-1,v5,v6,v7,v8,none,none,none,Z,s4,hl4,hw4,.inl ⟨Z,Z,Z⟩⟩⟩,?_];clear hl4 hw4 s4 nwy hl3 s3;rintro μ O' H' hp0;obtain⟨cs,at',v5,v6,v7,v8,v11,v12,v13,rfl,sm,hl,hw,inv⟩:=unW _ _ _ hp0;clear hp0;erw[_,Z,_,Z,p,_,_,_,Z,Z,sm.seq hp,cI m0 Y,_,_,Z,Z,_,Z,?_];show bh (λc=>?_) (λc=>?_);rotate_left
 .have c:=Ou<|Om _▸c;rcases inv with⟨rfl,rfl,_⟩ | ⟨_,_,_,z,_⟩
  .exact aM ⟨_,Z,q wy [] H' fwy sm hw<|.inl ⟨Y,Z⟩⟩
  .lia
 have hz:=Oc c;clear c;erw[_,Z,_,Z,Z,_,Z,?_];by_cases c:at'=m
 .rw[show (!decide (V.int at'=V.int m))=false from by rw[c]; simp];rcases inv with⟨_,z,_⟩ | ⟨_,_,_,_,hg⟩
  .lia
  .have:=hg []<|c▸ .nil;rw[PN] at this;show aM ⟨_,Z,q wy cs H' fwy sm hw this⟩
 rw[show (!decide (V.int at'=V.int m))=true from by simp[c]];show aW ?_;show nJ λD1 nxW=>?_;erw[_,Z,?_];dsimp only[aK,x8];show⟨_,Z,_,_,Z,.inl ⟨_,sm.seq hx,Z⟩,_,Z,Y,by rw[hX.length]; lia,?_⟩;rw[Oa,hX.length];obtain⟨Pv,mk,un⟩:=Uh λi O' H2=> ∃(s:u7) (v6 v7 v8 v12 v13:rW V),O'=[some<|.int n,uo r,uo p,some<|.int m,uo l,v5,v6,v7,v8,uo wy,some<|.int at',some<|.int s,v12,v13]/\H2=H'/\MA.nP rs lv (fM L at') i s;show cm (xs:=cf 0 rs.length) Pv (mk _ _ _ ⟨-1,v6,v7,v8,v12,v13,Z,Z,.inl ⟨Z,λj q hj=>wz hj<|OU j⟩⟩) (λi O' H' _ _=>cj) ?_ ?_
 .rintro i x O' H2 D2 nx2 _ hi hp1;obtain⟨s,v6,v7,v8,v12,v13,rfl,rfl,bst⟩:=un _ _ _ hp1;clear hp1;obtain⟨il,rfl⟩:=bU hi;have iC:(0+(i:u6):u7)=((i:u6):u7):=Y;obtain⟨v,hv⟩: ∃v,xs[i]?=some v:=⟨_,NV (by rw[hX.length]; show il)⟩
  obtain⟨rl,hq,t,rfl,ht⟩:=hX.get hv;obtain⟨k1,k2,k3,k4,k5⟩:=hk rl<|NU hq;have hmet:=lw.met rl<|NU hq;have hon:=cI (ws:=L) k1 Y;erw[_,Z,_,Z,r,_,_,_,Z,Z,sm.seq hx,(by rw[iC]; show aU hv),t,_,Z,sm.fZ ht,Z,_,_,Z,_,_,Z,_,_,Z,Z,?_];dsimp only[aK,x8];erw[λO' H3=>O'=[some<|.int n,uo r,uo p,some<|.int m,uo l,v5,some<|.int rl.1,some<|.int rl.2.1,some<|.int rl.2.2,uo wy,some<|.int at',some<|.int s,some<|.int<|0+(i:u6),some<|.bl<|decide<|fM L at' rl]/\H3=H2,?_,?_]
  .exists _,Z,_,_,Z,Z,_,Z,bh (λc1=>?_) λc1=>?_
   .have c1:=Oc c1;erw[λv H3=>v= .bl (decide<|fM L at' rl)/\H3=H2,?_,λv H3 z=>⟨by rw[z.1]; rfl,z.2⟩];erw[_,Z,_,Z,p,_,_,_,Z,Z,sm.seq hp,hon,_,Z,Z,_,Z,?_];by_cases hf:MA.g L rl.1=rl.2.2
    .rw[show decide (V.int (MA.g L rl.1)=V.int rl.2.2)=true from N2<|OI _ hf];have fit:decide (fM L at' rl)=true:=N2 (by unfold fM; rw[NW c1]; show hf);show aW ⟨λv H3=>v= .bl true/\H3=H2,?_,λv H3 z=>⟨by rw[z.1,fit],z.2⟩⟩;erw[_,Z,_,_,Z,Z,_,Z,bh (λc2=>?_) λc2=>?_];.exact⟨Z,Z⟩
     .have c2:=Ou<|Om _▸c2;erw[_,Z,_,Z,p,_,_,_,Z,Z,sm.seq hp,cI Y Y,Z,?_,Z];have b0:=lw.nn rl.2.1 Y k4;unfold MA.ask at hmet;rw[NS Y] at hmet;rw[show MA.g L rl.2.1=0 by lia];rfl
    .rw[show decide (V.int (MA.g L rl.1)=V.int rl.2.2)=false from N8 λz=>hf<|V.int.inj z];show aM ⟨by rw[N8 (show ¬fM L at' rl by unfold fM; rw[NW c1]; show hf)],Z⟩
   .have c1:=Ou<|Om _▸c1;erw[λv H3=>v= .bl (decide<|fM L at' rl)/\H3=H2,?_,λv H3 z=>⟨by rw[z.1]; rfl,z.2⟩];erw[_,Z,_,Z,Z,_,Z,?_];by_cases hb:rl.2.1=at'
    .rw[show decide (V.int rl.2.1=V.int at')=true from N2<|OI _ hb];show aW ⟨_,Z,_,Z,p,_,_,_,Z,Z,sm.seq hp,hon,_,Z,_,Z,p,_,_,_,Z,Z,sm.seq hp,cI Y Y,_,Z,_,_,Z,Z,Z,?_,Z⟩;congr 1;show decide_eq_decide.mpr ⟨λz=>?_,λz=>?_⟩
     .unfold fM;rw[NS c1];erw[hb,V.int.inj z]
     .unfold fM at z;rw[NS c1] at z;show OI V.int z.2
    .rw[show decide (V.int rl.2.1=V.int at')=false from N8 λz=>hb<|V.int.inj z];show aM ⟨by rw[N8 (show ¬fM L at' rl by unfold fM; rw[NS c1]; show λz=>hb z.1)],Z⟩
  .rintro O' H3 ⟨rfl,rfl⟩;erw[_,Z,decide<|fM L at' rl,Z,?_];by_cases hf:fM L at' rl
   .rw[N2 hf];show aW ⟨_,Z,_,_,Z,Z,_,Z,bh (λc2=>?_) λc2=>?_⟩;.exact aW ⟨_,Z,nx2 _ _<|mk _ _ _ ⟨_,_,_,_,_,_,Z,Z,by rw[iC]; show bst.take hq hf<|.inl<|Oc c2⟩⟩
    .have c2:=Ou<|Om _▸c2;obtain⟨i',q',rfl,hq'⟩: ∃(i':u6) (q':MA.ao),s=(i':u6)/\rs[i']?=some q':=by
      rcases id bst with⟨e,_⟩ | ⟨i',q',e,_,hq',_⟩
      .lia
      .nomatch i',q',e,hq'
     obtain⟨j1,j2,j3,j4,j5⟩:=hk q'<|NU hq';obtain⟨t2,hat,ht2⟩:=jv hX hq';erw[_,Z,_,Z,l,_,_,_,Z,Z,R5.of hl,cI k1 (by rw[lf.len]; show k2),_,Z,_,Z,_,Z,r,_,_,_,Z,Z,sm.seq hx,hat,t2,_,_,_,Z,Z,sm.fZ ht2,Z,l,_,_,_,Z,Z,R5.of hl,cI j1 (by rw[lf.len]; show j2),_,_,Z,Z,_,Z,bh (λc3=>?_) λc3=>?_];.exact⟨_,Z,nx2 _ _<|mk _ _ _ ⟨_,_,_,_,_,_,Z,Z,by rw[iC]; show bst.take hq hf<|.inr ⟨i',q',Z,hq',Oc c3⟩⟩⟩
     .have c3:=Ou<|Om _▸c3;show nx2 _ _<|mk _ _ _ ⟨_,_,_,_,_,_,Z,Z,bst.keep hq<|.inr ⟨i',q',Z,hq',Y⟩⟩
   .rw[N8 hf];show aM<|aM<|nx2 _ _<|mk _ _ _ ⟨_,_,_,_,_,_,Z,Z,bst.keep hq<|.inl hf⟩
 .rintro O' H2 hp1;obtain⟨s,v6,v7,v8,v12,v13,rfl,rfl,bst⟩:=un _ _ _ hp1;clear hp1;rw[bN] at bst;obtain⟨i,q2,d',rfl,hq2,hd',hlt,hlen,hgood⟩: ∃(i:u6) (q2:MA.ao) (d':u6),s=(i:u6)/\rs[i]?=some q2/\MA.SA n lv q2.1=some d'/\d' < μ/\(cs++[i]).length+d'<=150/\ ∀ps,MA.Gr rs L (MA.SA n lv) m q2.1 ps->MA.cK rs L m ((cs++[i])++ps):=by
   have nine: ∀ {v:u7}{d:u6},MA.SA n lv v=some d->d < 99:=λ{v d} e=>by
    unfold MA.SA at e;split at e
    .rename_i hv;cases e;lia
    .cases e
   rcases inv with⟨rfl,rfl,rfl⟩ | ⟨a0,hμ,hle,_,hg⟩
   .have ef:fM L (-1)=λq=>MA.g L q.1=q.2.2:=by
     funext q;unfold fM;rw[NW aS]
    rw[ef] at bst;obtain⟨i,q2,d,e,hq2,hd,hg⟩:=MA.A9 lw lf D fo m0 m1 hz bst;have:=nine hd;erw[i,q2,d,e,hq2,hd,Y,by change 1+d<=150; lia,hg]
   .have ef:fM L at'=λq=>q.2.1=at'/\MA.g L q.1=MA.g L q.2.1+q.2.2:=by
     funext q;unfold fM;rw[NS Y]
    rw[ef] at bst;obtain⟨i,q2,d,e,hq2,hlt,hd,hg2⟩:=MA.DD lw lf D m0 m1 hμ c bst;show⟨i,q2,d,e,hq2,hd,hlt,by rw[N1]; change cs.length+1+d<=150; lia,λps h=>?_⟩;rw[Pf];show hg _<|hg2 ps h
  obtain⟨j1,j2,j3,j4,j5⟩:=hk q2<|NU hq2;obtain⟨t2,hat,ht2⟩:=jv hX hq2;have csl:cs.length<=150:=by rw[N1] at hlen; lia
  have s5:ag H (upd H2 wy<|.lst<|aJ cs++[V.int (i:u6)]):=sm.cT fwy;show⟨_,Z,.inl ⟨Z,_,R5.of hw⟩,_,Z,wy,_,_,Z,Z,hw,by unfold aJ; rw[NR]; show ay Y,?_⟩;erw[_,Z,_,Z,r,_,_,_,Z,Z,s5.seq hx,hat,t2,_,_,_,Z,Z,s5.fZ ht2,Z,?_];dsimp only[aK,x8];show nxW _ _ d' hlt<|mkW _ _ _ ⟨cs++[i],q2.1,_,_,_,_,_,_,_,Z,s5,(ah nwl).trans hl,by rw[af,De],.inr ⟨j1,hd',hlen,hz,hgood⟩⟩
def dt (rs:qx MA.ao) (ps:qx u6):u7:=(ps.map (MA.jV rs)).sum
inductive Bw(K:R7)(vs:qx V)(H:Hp)(Q:VK)(_E:XK):Prop|mk(r:qA)(rs:qx MA.ao)(p:qA)(way:qx u6)(n:u6)(_:vs=[.ref r,.ref p])(_:SU K H r rs)(_:H p=some (.lst (aJ way)))(_:way.length<=200)(_:∀q∈rs,Sh n q)(_:iq rs way)(_:∀H',ag H H'->Q (.bl true) H')
theorem xN {x:V}(h:(aJ ps)[i]?=some x): ∃y,ps[i]?=some y/\x= .int (y:u6):=by
 unfold aJ at h;rw[N7] at h;cases e:ps[i]? with
 | none=>rw[e] at h; cases h
 | some y=>rw[e] at h; erw[y,Z,(Oj h).symm]
theorem uV(h:cF K H xs rs){k:u6}{q:MA.ao}(hq:rs[k]?=some q): ∃a,Si xs (k:u6)=some (.ref a)/\Se K H a [.int q.1,.int q.2.1,.int q.2.2]:=by
 obtain⟨v,hv,a,rfl,ha⟩:=h.at hq;erw[a,aU hv,ha]
theorem AQ (T:Txt K mg a):Sj P w K mg base 1 "_law_is_ring" ["_law_rules_here","_law_way"] (Bw K):=by
 exists 0,bH,56,cy;obtain⟨r,rs,p,way,n,rfl,⟨xs,hx,hX⟩,hp,hwl,hk,⟨i0,q0,ps,hway,hi0,hl0,hm0,hpath,SH⟩,q⟩:=h;obtain⟨sp1,sp2⟩:=hpath.spec;erw[_,(ae (aB (aA (show So _ _ (Gi K) from DQ<|dB hr) bY (aP b8)) (aE jP) ax) (ae (R9 2 cy.nd<|R8 K (Sa K aT<|Sa K bY<|lR jR aa) aa)<|ae (R9 3 cy.nd<|aP b8)<|ae (R9 4 cy.nd aa)<|ae (cY (cS K bY) (gn 5 cy.nd)<|ae (fj (Sa K aT gT)<|dI rfl<|aQ (gn 6 cy.nd)<|aQ (gn 7 cy.nd)<|aQ (gn 8 cy.nd) de)<|ae (aB (PW.pt<|sy (aA kC iN dO)<|pH<|f6 (Ti K) iF eX) (aE jP) ax)<|ae (aO<|fR K eX iF)<|ae (R9 4 cy.nd<|aw bw gE iS)<|au<|R9 2 cy.nd iF)<|aE<|dH jg gE aa)),?_];have eN:aJ way=(way.map λi=>((i:u6):u7)).map V.int:=by
  unfold aJ;rw[OK];rfl
 have hons:MA.Sm rs way=q0.1::MA.Sm rs ps:=by rw[hway]; change MA.hE rs i0::_=_; rw[MA.gx hi0]; rfl
 have hwlen:way.length=ps.length+1:=by rw[hway]; rfl
 have links: ∀j i:u6,way[j]?=some i-> ∃q:MA.ao,rs[i]?=some q/\q.2.1=(if j=0 then q0.2.1 else (MA.Sm rs way).getD (j - 1) 0):=λj i hj=>by
  cases j with
  | zero =>
   rw[hway] at hj;cases hj;erw[q0,hi0,Z]
  | succ j =>
   rw[hway] at hj;obtain⟨q,e1,e2⟩:=sp1 j i hj;erw[q,e1,?_];rw[NS Y,hons];show e2
 have last: ∃il ql,way.getLast?=some il/\rs[il]?=some ql/\ql.1=q0.2.1:=by
  have e:way[ps.length]?=some (way.getD ps.length 0):=by rw[NY,NV Y]; rfl
  obtain⟨ql,h1,_⟩:=links _ _ e;erw[way.getD ps.length 0,ql,?_,h1,?_]
  .rw[Vm,hwlen];show e
  .rw[sp2,<-hons];have:(MA.Sm rs way)[ps.length]?=some (MA.hE rs<|way.getD ps.length 0):=by
    unfold MA.Sm;rw[N7,e];rfl
   rw[NY,this,MA.gx h1];rfl
 obtain⟨il,ql,hil,hql,hqb⟩:=last;erw[_,Z,aS,λl0 nl0=>⟨p,l0,way.map λi=>((i:u6):u7),[],Z,Z,eN▸(ag.upd nl0).seq (R5.of hp),R5.of af,_,Z,?_⟩];have s1:=ag.upd (o:= .lst []) nl0;generalize upd H l0 (.lst [])=H1 at s1;rw[show decide (way.map (λi=>((i:u6):u7))=[])=false from by rw[hway]; simp];show aM ?_;obtain⟨al,hal,hal2⟩:=uV (hX.same s1) hql;have hlast:Si (aJ way) (-1)=some (.int (il:u6)):=by
  have hl1:(aJ way).length=ps.length+1:=(NR ..).trans hwlen;unfold Si Ta;rw[NS aS,NW Y,hl1];change (aJ way)[(-1+((ps.length+1:u6):u7)).toNat]?=_;rw[show (-1+((ps.length+1:u6):u7)).toNat=ps.length by lia];unfold aJ;rw[N7];rw[Vm,hwlen] at hil;have hil:way[ps.length]?=some il:=hil;rw[hil];rfl
 erw[_,Z,_,Z,_,Z,p,_,_,_,Z,Z,R5.of<|s1 _ _ hp,hlast,r,_,_,_,Z,Z,s1.seq hx,hal,al,_,_,_,Z,Z,hal2,Z,?_];rw[hqb];erw[aS,λl nl=>?_];have nlH:H l=none:=s1.free nl;have s2:=s1.trans<|ag.upd (o:= .lst []) nl;erw[_,Z,p,Z,⟨_,R5.of<|s2 _ _ hp⟩,?_];have hol:(MA.Sm rs way).length=way.length:=MA.pX;show cA (xs:=aJ way) (λj O' H'=> ∃v5 v6 v7 v8:rW V,O'=[uo r,uo p,some<|.int (if j=0 then q0.2.1 else (MA.Sm rs way).getD (j - 1) 0),uo l,some<|.int<|dt rs<|way.take j,v5,v6,v7,v8]/\ag H H'/\H' l=some (.lst<|((MA.Sm rs way).take j).map V.int)) ⟨none,none,none,none,Z,s2,af⟩ (λj O' H' _ ⟨_,_,_,_,_,sm,_⟩=>bf<|R5.of<|sm _ _ hp) ?_ ?_
 .rintro j x O' H' hj ⟨v5,v6,v7,v8,rfl,sm,hl⟩;obtain⟨i,hi,rfl⟩:=xN hj;obtain⟨qi,hqi,hbi⟩:=links j i hi;obtain⟨ai,hai,hai2⟩:=uV (hX.same sm) hqi;have hjl:j < way.length:=(NX.mp hi).1;have hoj:(MA.Sm rs way)[j]?=some qi.1:=by
   unfold MA.Sm;rw[N7,hi];change some (MA.hE rs i)=_;rw[MA.gx hqi]
  erw[_,Z,_,Z,r,_,_,_,Z,Z,sm.seq hx,hai,ai,_,Z,hai2,Z,_,_,Z,_,_,Z,_,_,Z,Z,?_];erw[_,Z,_,Z,Z,_,Z,?_];rw[show (!decide (V.int qi.2.1=V.int (if j=0 then q0.2.1 else (MA.Sm rs way).getD (j - 1) 0)))=false from by rw[hbi]; simp];show aM ⟨_,Z,_,Z,l,_,Z,.inl<|R5.of hl,Z,vC _,_,Z,?_⟩;have nin: ¬qi.1∈(MA.Sm rs way).take j:=λz=>by
   obtain⟨m,hm,e⟩:=O2.mp z;rw[Oi] at hm;rw[List.getElem_take] at e;have nd:(MA.Sm rs way).Nodup:=(by rw[hons]; show SH);obtain⟨h1,e1⟩:=NX.mp hoj;have:=(Q5 nd).mp<|e.trans e1.symm;lia
  have ein:Sq (V.int qi.1) (((MA.Sm rs way).take j).map V.int)=false:=by rw[z6]; show N8 nin
  change if Sq (V.int qi.1) (((MA.Sm rs way).take j).map V.int)=true then _ else _;rw[ein];show aM ⟨_,Z,.inl ⟨Z,_,R5.of hl⟩,_,Z,l,_,_,Z,Z,hl,?_,?_⟩
  .rw[NR,Oi];show ay Y
  erw[_,Z,_,Z,_,_,Z,Z,_,Z,?_];have t1:(MA.Sm rs way).take (j+1)=(MA.Sm rs way).take j++[qi.1]:=by rw[Ov,hoj]; rfl
  have t2:dt rs (way.take<|j+1)=dt rs (way.take j)+qi.2.2:=by
   unfold dt;rw[Ov,hi,Od,WB];change _+(MA.jV rs i+0)=_;rw[MA.lZ hqi,Wa]
  have t3:(if j+1=0 then q0.2.1 else (MA.Sm rs way).getD (j+1 - 1) 0)=qi.1:=by
   rw[NS Y,Nat.add_sub_cancel,NY,hoj];rfl
  erw[some<|.int (i:u6),some<|.int qi.1,some<|.int qi.2.1,some<|.int qi.2.2,?_,sm.cT nlH,?_]
  .rw[t2,t3];rfl
  .rw[af,t1,Od];rfl
 .rintro O' H' ⟨v5,v6,v7,v8,rfl,sm,hl⟩;rw[show (aJ way).length=way.length from NR ..,OF];erw[_,Z,_,_,Z,Z,?_];have hpos:0 < dt rs way:=by
   have hall: ∀l:qx u6,(∀i∈l,0<=MA.jV rs i)->0<=(l.map<|MA.jV rs).sum:=λl=>by
    induction l with
    | nil=>intro _; show Oo _
    | cons i l ih =>
     intro h;have h1:=h i<|N6;have h2:=ih λj hj=>h j<|N4 _ hj;rw[OH,Po];lia
   have h2:=hall ps λi hi=>by
    obtain⟨j,hj,rfl⟩:=O2.mp hi;obtain⟨q',e1,_⟩:=sp1 j _<|NV hj;rw[MA.lZ e1];show (hk q'<|NU e1).2.2.2.2
   unfold dt;rw[hway,OH,Po,MA.lZ hi0];lia
  have z:=q H' sm;rw[<-show decide ((0:u7) < dt rs way)=true from N2 hpos] at z;show z
theorem rS {i:u7}(h0:0<=i): ∃c∈(dM i).cps.toList,48<=c/\c<=57:=by
 obtain⟨n,rfl⟩:=Qn h0;have e:=Rc n;have l1:=VH 10 n;obtain⟨c,hc⟩:=List.exists_mem_of_length_pos (show 0 < (Jn 10 n).length by lia);have:=RH (b:=10) aS aS hc;unfold Xm at this;simp only[Oz,Qu,ge_iff_le,VD] at this;erw[c.toNat,?_,this];change c.toNat∈(xT<|toString (n:u7)).cps.toList;rw[e];show Ow.mpr ⟨c,hc,Z⟩
theorem jL {t:va}{c:u6}(h:c∈t.cps.toList) (hc:c < 97):t≠ "ring" := λe=>by
 rw[e] at h;show wz hc<|Qf.mpr<|(show ∀c∈("ring" : va).cps.toList,97<=c by trivial) c h
def AV (S:Sb):rW (u7×u6)->va
 | none=> "no end"
 | some (s,stop)=>xI S s stop
theorem join_one (y:va):yL " " [y]=y:=rfl
def Hk:rW (u7×u6)->u7
 | none=>1000000000
 | some (s,_)=>s
theorem Hf {c:u7}(cp:ja S.ms) (hc:(bE S).getD i none=some c):0<=c/\c<=99999:=by
 rw[NY] at hc;cases e:(bE S)[i]? with
 | none=>rw[e] at hc; cases hc
 | some o =>
  rw[e] at hc;obtain⟨m,hm,em⟩:=Ow.mp<|NU e;show cp m hm c<|em.trans hc
inductive A5(K:R7)(vs:qx V)(H:Hp)(Q:VK)(_E:XK):Prop|mk(ts pr pL:qA)(os:qx qA)(n:u6)(S:Sb)(L:qx u7)(i:u6):vs=[.ref ts,.int (S.ms.length:u6),.ref pr,.ref pL,.int (i:u6)]->LS os n H ts S.ms S.ds->Sv S.ms S.ds->SM S.ms S.ds->ja S.ms->iD K H pr (aD S.ms S.ds)->H pL=some (.lst (L.map V.int))->ba S=some L->i < S.ms.length->(∀(o:rW (u7×u6)) (H':Hp),ag H H'->MA.ku S.ms.length (aD S.ms S.ds) L (bE S) (i:u6) S.ms.length o->Q (.str (AV S o)) H')->A5 K vs H Q _E
theorem B2 (T:Txt K mg a):Sj P w K mg base 2 "_law_slack" ["_law_state","_law_count","_law_rules_here","_law_widths","_law_member"] (A5 K):=by
 exists 0,bH,57,eA;obtain⟨ts,pr,pL,os,n,S,L,i,rfl,hls,g,db,cp,hR,hpL,eL,il,q1⟩:=h;erw[_,(ae (R9 5 eA.nd<|Sa K (aF (yI T:)<|aj bY<|R6 dO) gE)<|ae (R9 6 eA.nd<|aF (vS T:)<|R6 aT)<|ae (R9 7 eA.nd aq)<|ae (R9 8 eA.nd<|aw mT aa aa)<|ae (cY (fB T.cx bY) (gn 9 eA.nd)<|au<|aB (PW.pt<|cv (aA iQ (Sa K iF lE) cM)<|cv (aA qr (Sa K gT lE) aa)<|cg<|aA fK (aw gN (aw gN (Sa K iF lE)<|Sa K gT lE)<|Sa K eX gE) iS) (ae (R9 8 eA.nd<|aw gN (aw gN (Sa K iF lE)<|Sa K gT lE)<|Sa K eX gE)<|au<|R9 7 eA.nd<|aw dE (aw dE (bC gH uK T.nU boot_str<|R6 iS) aq)<|Sa K (R8 K aT aa) lE) ax)<|aE iN),?_];obtain⟨ln,la,dd,vs,kvs,l⟩:=id hls;have k:=b9 db;have ml:=g.ml;obtain⟨e1,e2⟩:=dh eL;have hL:=fg k e1;have met:=(MA.bG k e1).2.1;have g0: ∀i:u6,i < S.ms.length->0<=MA.g L (i:u6):=λi h=>(MA.bG k e1).2.2.1 _ Y Y;have tl:(bE S).length=S.ms.length:=by unfold bE; rw[NR]
 show bA λD1 hR1 _=>?_;erw[_,Z,_,Z,S.ms.length,pr,aD S.ms S.ds,Z,Y,hR.Tg,k,λp ds H1 m=>?_];obtain⟨d,hd,ha,hrow⟩:=m.at (a:=((i:u6):u7)) Y Y;rw[Oa] at hrow;erw[_,Z,p,_,_,_,Z,Z,R5.of m.top,ha,hR1 [uo ts,some<|.int (S.ms.length:u6),uo pr,uo pL,some<|.int (i:u6),uo d,none,none,none,none] _ ?_];have s1:=m.sm;clear m ha hd;show bA λD1 hR1 _=>?_;erw[_,Z,ts,os,n,S.ms,S.ds,Z,hls.same s1,g.mn,Y,λpc H2 npc s2 hpc=>hR1 _ _ ?_];show bA λD1 hR1 _=>?_;show hR1 _ _ ?_;show bA λD1 hR1 _=>?_;erw[_,_,Z,Z,⟨aS,aS,aS⟩,hR1 _ _ ?_];dsimp only[aK,x8];rw[show (10:u7) ^ (9:u7).toNat=1000000000 from rfl];have fit:MA.Within S.ms.length L (bE S):=qM hL e2;have s02:=s1.trans s2;have hpL2:=s02 _ _ hpL;have hn2:=s02 _ _ l.hn;have ht2:=s02 _ _ l.ht;have hrow2:=s2 _ _ hrow;show bA λD1 hR1 _=>?_;erw[_,Z,_,Z,Y,Y,?_];rw[Oa];show cm (xs:=cf 0 S.ms.length) (λj O' H'=> ∃(o:rW (u7×u6)) (v9:rW V),O'=[uo ts,some<|.int (S.ms.length:u6),uo pr,uo pL,some<|.int (i:u6),uo d,uo pc,some<|.str<|AV S o,some<|.int<|Hk o,v9]/\ag H2 H'/\MA.ku S.ms.length (aD S.ms S.ds) L (bE S) (i:u6) j o) ⟨none,none,Z,ag.refl _,MA.LW⟩ (λj O' H' _ _=>cj) ?_ ?_
 .rintro j x O' H' D2 nx2 - hi ⟨o,v9,rfl,sm,hP⟩;obtain⟨jn,rfl⟩:=bU hi;rw[Rn];dsimp only[aK,x8];have hca:=L2.yG (cs:=bE S) (k:=j) Y;have hpc':=sm _ _ hpc;have hrow':=sm _ _ hrow2;have hn':=sm _ _ hn2;have ht':=sm _ _ ht2;have hpL':=sm _ _ hpL2;have arow:=iJ (M:=MA.aH S.ms.length<|aD S.ms S.ds) (i:=i) (b:=((j:u6):u7)) (n:=S.ms.length) Y Y;rw[Oa] at arow;have aL:=cI (ws:=L) (i:=((i:u6):u7)) Y Y;have an:Si ((S.ms.map (·.1)).map V.str) ((j:u6):u7)=some (.str<|(av S).getD j ""):=aU (by rw[N7,show (S.ms.map (·.1))[j]?=some ((av S).getD j "") from L2.getD_at (by rw[NR]; show jn)]; rfl);have skip:MA.ku S.ms.length (aD S.ms S.ds) L (bE S) (i:u6) (j+1) o->D2.nx [uo ts,some<|.int (S.ms.length:u6),uo pr,uo pL,some<|.int (i:u6),uo d,uo pc,some<|.str<|AV S o,some<|.int<|Hk o,some<|.int (j:u6)] H':=λz=>nx2 _ _ ⟨o,_,Z,sm,z⟩;erw[_,Z,_,Z,pc,_,_,_,Z,Z,R5.of hpc',hca,Z,_,Z,?_];cases e:(bE S).getD j none with
  | none=>show aM (aM (skip (MA.x9 hP (λc hc=>by rw[Oa] at *; rw[e] at hc; cases hc))))
  | some c0 =>
   rw[e] at hca;show aW ⟨_,Z,_,Z,d,_,_,_,Z,Z,R5.of hrow',arow,_,_,Z,Z,_,Z,?_⟩;show bh (λz=>?_) λz=>skip (MA.x9 hP λc _=>by rw[Oa]; have:=mt N2 z; lia);have z:=Oc z;erw[_,Z,_,Z,pc,_,_,_,Z,Z,R5.of hpc',hca,_,Z,_,Z,d,_,_,_,Z,Z,R5.of hrow',arow,_,_,Z,Z,_,Z,_,Z,pL,_,_,_,Z,Z,R5.of hpL',aL,_,_,Z,Z,_,Z,_,_,Z,Z,_,Z,?_];show bh (λy=>?_) λy=>?_;rotate_left
   .have y:=mt N2 y;cases o with
    | none=>show wz (by change c0 - _ - _ < 1000000000; have:=fit j c0 jn e; have:=(Hf cp e).2; have:=g0 i il; lia) y
    | some so=>show skip (MA.F1 hP e (by rw[Oa]; show y))
   have y:=Oc y;have less: ∀s stop,o=some (s,stop)->c0 - MA.aH S.ms.length (aD S.ms S.ds) i j - MA.g L ((i:u6):u7) < s:=λs stop eo=>by rw[eo] at y; show y
   have hP2:=MA.F6 hP e (by rw[Oa]; show z) (by rw[Oa]; show less);rw[Oa] at hP2;have r0:0<=c0 - MA.aH S.ms.length (aD S.ms S.ds) i j - MA.g L ((i:u6):u7):=by
    have:=MA.iV k met i j z;have:=fit j c0 jn e;lia
   have c1:c0<=99999:=(Hf cp e).2;have gi0:=g0 i il;show bA λD3 hR3 _=>?_;erw[_,Z,_,Z,pc,_,_,_,Z,Z,R5.of hpc',hca,_,Z,_,Z,d,_,_,_,Z,Z,R5.of hrow',arow,_,_,Z,Z,_,Z,_,Z,pL,_,_,_,Z,Z,R5.of hpL',aL,_,_,Z,Z,hR3 _ _ ?_];dsimp only[aK,x8];obtain⟨rm,erm⟩: ∃rm,rm=c0 - MA.aH S.ms.length (aD S.ms S.ds) i j - MA.g L ((i:u6):u7):=⟨_,Z⟩
   rw[<-erm] at hP2 r0 ⊢;have rl:=gP r0 Y;have m8:((av S).getD j "").length<=8:=lu g.mN j;have b4:(" by " : va).length=4:=uw;have s100:(1000:u6)<=sizeLine:=(by decide);erw[_,Z,_,Z,iR Y,_,_,Z,Z,(by change (dM rm).length+_<=_; lia),_,Z,ts,_,_,_,Z,Z,Se.of ht',Z,_,Z,ln,_,_,_,Z,Z,R5.of hn',an,_,_,Z,Z,(by change (dM rm++ " by ").length+_<=_; rw[dQ]; lia),nx2 _ _ ⟨some (rm,j),_,Z,sm,hP2⟩]
 .rintro O' H' ⟨o,v9,rfl,sm,hP⟩;rw[bN] at hP;show hR1 _ _ ⟨_,Z,q1 o _ (s02.trans sm) hP⟩
def gZ:Ask->qx va
 | .deed _=>[]
 | .widths=>["widths"]
 | .why=>["why"]
 | .chain y=>["chain",y]
 | .slack y=>["slack",y]
 | .cost y=>["cost",y]
def KA (S:Sb):Ask->Prop
 | .deed _=>zh
 | .widths=>MK
 | .why=>zh
 | .chain y=>y∈av S
 | .slack y=>y∈av S
 | .cost y=>y∈aN S
theorem Nd {i:u7}(h0:0<=i) (z:va):dM i++z≠ "ring" := by
 obtain⟨c,hc,a,b⟩:=rS h0;show jL (c:=c) (by rw[bS]; show Oy _ hc) Y
theorem Lv {i:u6}(g:Sv S.ms S.ds) (db:SM S.ms S.ds) (e:aZ S.ms.length (aD S.ms S.ds)=some L):0<=MA.g L (i:u6)/\MA.g L (i:u6)<=31199688:=by
 unfold MA.g;rw[NY,Oa];cases e2:L[i]? with
 | none=>exact⟨Oo 0,aS⟩
 | some x=>show iK g db e x (NU e2)
theorem F8(g:Sv S.ms S.ds) (hL:L.length=S.ms.length) (cap: ∀x∈L,0<=x/\x<=31199688):((((av S).zip L).map eqT).map (·.length)).sum+(((av S).zip L).map eqT).length<=1048576:=by
 have jl: ∀t∈((av S).zip L).map eqT,t.length<=20:=λt ht=>by
  obtain⟨⟨y,l⟩,hyl,rfl⟩:=Ow.mp ht;obtain⟨hy,hl⟩:=QI hyl;have:=(g.mN y hy).len;obtain⟨l0,l1⟩:=cap l hl;have:=gP l0 Y;change (y++ "=" ++ dM l).length<=20;rw[dQ,dQ,show ("=" : va).length=1 by trivial];lia
 have js:=eK jl;have nl:=g.ml;have jn:(((av S).zip L).map eqT).length<=12:=by rw[NR,Qa]; lia
 have jn2:(((av S).zip L).map eqT).length*20<=12*20:=Pq 20 jn;lia
theorem GS {c:u6}{r:qx va}(h:c∈y.cps.toList):c∈(yL " " (y::r)).cps.toList:=by
 change c∈(Vi " " (y::r)).cps.toList;rw[PM];cases r with
 | nil=>show h
 | cons z r =>
  change c∈((y++ " ")++Bd " " (z::r)).cps.toList;rw[bS,bS];show Oy _ (Oy _ h)
theorem JJ:rL ns L≠ "ring" := by
 unfold rL;by_cases c:ns=[];.rw[NW c]; decide +kernel
 rw[NS c];cases h:(ns.zip L).map eqT with
 | nil=>show (show yL " " []≠("ring" : va) by trivial)
 | cons y r =>
  have hy:y∈(ns.zip L).map eqT:=by rw[h]; show N6
  obtain⟨⟨a,b⟩,_,rfl⟩:=Ow.mp hy;show jL (c:=61) (GS ?_) aS;change 61∈((a++ "=")++dM b).cps.toList;rw[bS,bS];show Oy _<|Ot _ uw
theorem xZ: ∀ {a b:qx u7},a.length=b.length->(∀i:u6,i < a.length->a.getD i 0<=b.getD i 0)->a.sum<=b.sum
 | [],[],_,_=>Oo _
 | x::a,y::b,h,k=>by
  have z:=k 0<|QO _;have r:=xZ (a:=a) (b:=b) (Rm h) λi hi=>k (i+1)<|Nat.succ_lt_succ hi;have z:x<=y:=z;rw[Po,Po];lia
theorem FC {L':qx u7}(g:Sv S.ms S.ds) (db:SM S.ms S.ds) (e:aZ S.ms.length (aD S.ms S.ds)=some L) (sub: ∀q∈rs,q∈aD S.ms S.ds) (l2:rs.length<=24) (e':aZ S.ms.length rs=some L'):0<=L.sum - L'.sum/\L.sum - L'.sum < 1000000000:=by
 have k:=b9 db;obtain⟨a1,a2,a3,_⟩:=MA.bG k e;obtain⟨b1,_,_,b4⟩:=MA.bG (λq hq=>k q<|sub q hq) e';have ml:=g.ml;have le:=xZ (a:=L') (b:=L) Y λi hi=>by
  have:=b4 (MA.g L) a3 (λr hr=>a2 r<|sub r hr) (i:u6) Y Y;unfold MA.g at this;rw[Oa] at this;show this
 have c1:=mB<|iK g db e;have c2:=mB<|nI g db sub l2 e';have m1:(L.length:u7)*31199688<=12*31199688:=PU Y aS;lia
theorem JO {i:u7}(h0:0<=i):dM i≠ "ring" := by
 obtain⟨c,hc,a,b⟩:=rS h0;show jL hc Y
theorem K4 {m:u7}{o:rW (u7×u6)}(h:MA.ku S.ms.length (aD S.ms S.ds) L (bE S) m i o):AV S o≠ "ring" := by
 cases o with
 | none=>show (show ("no end" : va)≠ "ring" by trivial)
 | some p =>
  obtain⟨s,st⟩:=p;show jL (c:=32) ?_ aS;change 32∈((dM s++ " by ")++yL " " [(av S).getD st ""]).cps.toList;rw[bS,bS];show Oy _<|Ot _ uw
inductive Ek(K:R7)(vs:qx V)(H:Hp)(Q:VK)(_E:XK):Prop|mk(ts pp pr pL:qA)(os:qx qA)(n:u6)(S:Sb)(L:qx u7)(x:Ask):vs=[.ref ts,.ref pp,.ref pr,.ref pL]->LS os n H ts S.ms S.ds->Sv S.ms S.ds->SM S.ms S.ds->ja S.ms->KA S x->H pp=some (.lst ((gZ x).map V.str))->iD K H pr (aD S.ms S.ds)->H pL=some (.lst (L.map V.int))->ba S=some L->(∀(d:va) (H':Hp),ag H H'->d≠ "ring" -> (∀t,BL S x t->t=d)->Q (.str d) H')->Ek K vs H Q _E
theorem CC (T:Txt K mg a):Sj P w K mg base 4 "_law_told" ["_law_state","_law_parts","_law_rules_here","_law_widths"] (Ek K):=by
 exists 0,bH,58,eO;obtain⟨ts,pp,pr,pL,os,n,S,L,x,rfl,hls,g,db,cp,hx,hpp,hR,hpL,eL,q⟩:=h;erw[_,(ae (R9 4 eO.nd<|R8 K aT aa)<|ae (R9 5 eO.nd<|eZ nL ["_law_row"] [] [] (cS K<|R8 K aT aa) λC s2 H2 fp=>(R8 K aT aa))<|ae (aB (aA aR (Sa K bY aa) aq) (ae (R9 6 eO.nd<|c7 OL O5 O6 gW aq<|R6<|eZ nL ["_law_k"] ["_law_names_here","_law_widths"] [4,3] (fB T.cx<|c5 K T.bZ gE) λC s2 H2 fp=>(aw dE (aw dE (Sa K bY aT) aq)<|bC gH uK T.nU boot_str<|R6<|Sa K dO aT))<|aE<|Sa K (aP<|aj aq<|R6 iF)<|bC eg uK T.iz boot_int<|R6<|dH (show So _ _ (Cg K) from xn<|dB hr) gE (aP b8)) ax) (ae (aB (aA aR (Sa K bY aa) aq) (ae (R9 7 eO.nd<|show PE _ _ (SS K _ _ _ _) from c7 OE OV OW fk gT<|R6<|Sa K bY aa) (ae (R9 8 eO.nd<|aF (vO T:)<|aj (c5 K T.bZ gE)<|R6<|aw fQ (dC (Tf K) dO eD<|eE iN)<|dC (Tf K) dO (eE<|aw bw iN aa) eD)<|aE<|bC gH uK T.nU boot_str<|R6<|aw gN (bR (show cJ _ _ (yy K) from nG rfl) uK T.wW boot_sum (R6 eX)) (bR (show cJ _ _ (yy K) from nG rfl) uK T.wW boot_sum (R6 iS)))) ax) (ae (R9 9 eO.nd<|show PE _ _ (SS K _ _ _ _) from c7 OE OV OW fk gE<|R6<|Sa K bY aa) (ae (aB (aA aR (Sa K bY aa) aq) (aE<|aF (B2 T:)<|aj aT<|aj (c5 K T.bZ gE)<|aj dO<|aj eX<|R6 lE) ax)<|ae (R9 10 eO.nd<|aF (ot T:)<|aj (c5 K T.bZ gE)<|aj dO<|aj eX<|R6 lE)<|aE<|aw dE (aw dE (bC gH uK T.nU boot_str<|R6<|Sa K eX lE)<|aw uY aq<|bC eg uK T.iz boot_int<|R6<|dH (show So _ _ (Cg K) from xn<|dB hr) lT (aP b8)) (c7 OL O5 O6 gW aq<|R6<|eZ nL ["_law_place"] ["_law_calls"] [5] (cS K lT) λC s2 H2 fp=>(Sa K bY aT)))))),?_];obtain⟨ln,la,dd,vs,kvs,l⟩:=id hls;have k:=b9 db;have ml:=g.ml;have dl:=g.dl;obtain⟨e1,e2⟩:=dh eL;have hL:=fg k e1;have nl:(av S).length=S.ms.length:=by unfold av; rw[NR]
 show bA λD1 hR1 _=>?_;erw[_,Z,ts,_,_,_,Z,Z,Se.of l.ht,Z,hR1 [uo ts,uo pp,uo pr,uo pL,uo ln,none,none,none,none,none,none] _ ?_];show bA λD1 hR1 _=>?_;erw[_,Z,ts,_,_,_,Z,Z,Se.of l.ht,Z,la,Z,⟨_,R5.of l.ha⟩,dP (λd=>V.str d.1) (λd=>rfl) (bf (R5.of l.ha)) l.ar Y λpc npc=>hR1 _ _ ?_];rw[show S.ds.map (λd=>V.str d.1)=(aN S).map V.str by unfold aN; rw[OK]; rfl];have s1:=ag.upd (o:= .lst ((aN S).map V.str)) npc;have hpc:(upd H pc (.lst ((aN S).map V.str))) pc=some (.lst ((aN S).map V.str)):=af;have hpp1:=s1 _ _ hpp;have hpL1:=s1 _ _ hpL;have hR1':=hR.same s1;have hn1:=s1 _ _ l.hn;dsimp only[x8];generalize upd H pc (.lst ((aN S).map V.str))=H1 at s1 hpc hpp1 hpL1 hR1' hn1;show bA λD1 hR1 rt1=>?_;cases x with
 | deed d=>show hx.elim
 | why=>show hx.elim
 | widths =>
  erw[_,Z,pp,_,_,_,Z,Z,R5.of hpp1,(show Si _ ((0:u6):u7)=_ from aU rfl),Z,_,Z,aW ?_];show bA λD2 hR2 rt2=>?_;have cap:=iK g db e1;show⟨Z,_,Z,_,_,Z,.inl ⟨_,R5.of hn1,Z⟩,_,Z,Y,by rw[NR,NR]; lia,?_⟩;rw[Oa,NR,NR];show tN (λi ys H2=>ys.length=i/\H2=H1/\ys=((((av S).zip L).take i).map eqT).map V.str) ⟨Z,Z,Z⟩ (ay Y) (λi ys H2 z=>z.1) ?_ ?_
  .rintro i ys H2 hi ⟨yl,rfl,rfl⟩;obtain⟨y,hy⟩: ∃y,(av S)[i]?=some y:=⟨_,NV Y⟩
   obtain⟨v,hv⟩: ∃v,L[i]?=some v:=⟨_,NV Y⟩
   have y8:=(g.mN y<|NU hy).len;obtain⟨v0,v1⟩:=cap v<|NU hv;have z9:(xT<|toString v).length<=9:=gP v0 Y;have s100:(1000:u6)<=sizeLine:=(by decide);have q1l:("=" : va).length=1:=uw;have at1:Si ((S.ms.map (·.1)).map V.str) (0+(i:u6):u7)=some (.str y):=(by rw[Rn]; show aU (by rw[N7,show (S.ms.map (·.1))[i]?=some y from hy]; rfl));have a2:Si (L.map V.int) (0+(i:u6):u7)=some (.int v):=(by rw[Rn]; show aU (by rw[N7,hv]; rfl));show⟨_,Z,_,Z,ln,_,_,_,Z,Z,R5.of hn1,at1,_,_,Z,Z,Y,_,Z,_,Z,pL,_,_,_,Z,Z,R5.of hpL1,a2,_,Z,iR Y,_,_,Z,Z,(by rw[dQ]; lia),by rw[N1,yl]; rfl,Z,?_⟩;have e3:((av S).zip L)[i]?=some (y,v):=Qh.mpr ⟨hy,hv⟩;rw[show ((av S).zip L).take (i+1)=((av S).zip L).take i++[(y,v)] by rw[Ov,e3]; rfl,Od,Od];rfl
  rintro ys H2 p3 ⟨_,rfl,rfl⟩ np3;rw[OP (by rw[Qa]; lia)];have jl:=F8 g hL cap;show⟨_,p3,_,Z,Z,R5.of af,uw,jl,hR2 _ _ ?_⟩;have s13:=s1.trans (ag.upd (o:= .lst ((((av S).zip L).map eqT).map V.str)) np3);have hn3:=(ag.upd (o:= .lst ((((av S).zip L).map eqT).map V.str)) np3) _ _ hn1;dsimp only[aK,x8];generalize upd H2 p3 (.lst ((((av S).zip L).map eqT).map V.str))=H3 at s13 hn3;erw[_,Z,aC,λu nu=>?_];have su:=ag.upd (o:= .lst [.str "none",.str (yL " " (((av S).zip L).map eqT))]) nu;have hu:(upd H3 u (.lst [.str "none",.str (yL " " (((av S).zip L).map eqT))])) u=some (.lst [.str "none",.str (yL " " (((av S).zip L).map eqT))]):=af;have hn4:=su _ _ hn3;have s14:=s13.trans su;generalize upd H3 u (.lst [.str "none",.str (yL " " (((av S).zip L).map eqT))])=H4 at hu hn4 s14;erw[_,Z,aS,λe0 ne0=>⟨ln,e0,_,Z,Z,R5.of (ag.upd ne0 _ _ hn4),R5.of af,.inr ⟨_,Z,u,_,_,_,Z,Z,R5.of (ag.upd ne0 _ _ hu),at2,rt1 _ _ ?_⟩⟩];have fin:=q (rL (av S) L) _ (s14.trans (ag.upd (o:= .lst []) ne0)) JJ λt ⟨L',eL',et⟩=>(by rw[eL] at eL'; cases eL'; show et)
  unfold rL at fin;by_cases c:av S=[]
  .rw[NW c] at fin;rw[NS (by unfold av at c; rw[c]; decide)];show fin
  .rw[NS c] at fin;rw[NW<|N2 (by rw[NR]; show Rz.mpr c)];show fin
 | cost y =>
  erw[_,Z,pp,_,_,_,Z,Z,R5.of hpp1,(show Si _ ((0:u6):u7)=_ from aU rfl),Z,_,Z,aM<|hR1 _ _ ?_];show bA λD1 hR1 rt2=>?_;erw[_,Z,pp,_,_,_,Z,Z,R5.of hpp1,(show Si _ ((0:u6):u7)=_ from aU rfl),Z,_,Z,aW ?_];obtain⟨j,j1,j2⟩:=dG hx;have ej:=dF j1 j2;show bA λD2 hR2 _=>?_;erw[_,Z,.inl ⟨Z,_,R5.of hpc⟩,_,Z,pp,_,_,_,Z,Z,R5.of hpp1,(show Si _ ((1:u6):u7)=_ from aU rfl),pc,aN S,y,j,Z,Z,hpc,j1,j2,hR2 _ _ ?_];dsimp only[aK,x8];obtain⟨ys,hy,hY⟩:=id hR1';have kc: ∀q∈(aD S.ms S.ds).take j++(aD S.ms S.ds).drop (j+1),Sh S.ms.length q:=λq hq=>k q<|kL q hq;obtain⟨L',eL'⟩:=vA k e1 (rs':=(aD S.ms S.ds).take j++(aD S.ms S.ds).drop (j+1)) kL;have yl:ys.length=S.ds.length:=by rw[hY.length,ck]
  show bA λD2 hR2 _=>?_;erw[_,Z,_,_,Z,.inl ⟨_,R5.of hn1,Z⟩,_,Z,_,Z,_,Z,pr,ys,Z,R5.of hy,λc1 nc1=>?_];rw[pN,NR,NR];have sc1:=ag.upd (o:= .lst<|ys.take j) nc1;erw[_,Z,_,Z,_,_,Z,Z,_,Z,pr,ys,Z,R5.of<|sc1 _ _ hy,λc2 nc2=>?_];rw[show (((j:u6):u7)+1)=((j+1:u6):u7) by lia,iA];have sc2:=ag.upd (o:= .lst<|ys.drop<|j+1) nc2;show⟨c1,c2,_,_,Z,Z,sc2 _ _ af,af,by rw[Oi,OY]; show OA<|ay Y,λc3 nc3=>?_⟩;have s2:=sc1.trans<|sc2.trans<|ag.upd (o:= .lst<|ys.take j++ys.drop (j+1)) nc3;have hY8:=hY.same s2;erw[S.ms.length,c3,_,Z,Y,⟨_,R5.of af,(hY8.take j).append<|hY8.drop<|j+1⟩,kc,λpl H9 npl s9 hpl=>hR2 _ _ ?_];rw[MA.vx kc eL'] at hpl;have s19:=s2.trans s9;obtain⟨b1,b2⟩:=FC g db e1 kL (by rw[N1,Oi,OY,ck]; lia) eL';erw[_,Z,pL,L,Z,R5.of<|s19 _ _ hpL1,_,Z,pl,L',Z,R5.of hpl,_,_,Z,Z,_,Z,iR Y,rt2 _ _ ?_];show q (dM<|L.sum - L'.sum) _ (s1.trans s19) (JO b1) λt ⟨L1,L2,a1,a2,et⟩=>?_;rw[eL] at a1;cases a1;rw[ej,eL'] at a2;cases a2;show et
 | slack y =>
  obtain⟨j,j1,j2⟩:=dG hx;have ej:=dF j1 j2;have jl:j < S.ms.length:=by have:=jb hx; lia
  erw[_,Z,pp,_,_,_,Z,Z,R5.of hpp1,(show Si _ ((0:u6):u7)=_ from aU rfl),Z,_,Z,aM<|hR1 _ _ ?_];show bA λD2 hR2 _=>?_;erw[_,Z,pp,_,_,_,Z,Z,R5.of hpp1,(show Si _ ((0:u6):u7)=_ from aU rfl),Z,_,Z,aM<|hR2 _ _ ?_];show bA λD2 hR2 _=>?_;erw[_,Z,.inl ⟨Z,_,R5.of hn1⟩,_,Z,pp,_,_,_,Z,Z,R5.of hpp1,(show Si _ ((1:u6):u7)=_ from aU rfl),ln,av S,y,j,Z,Z,hn1,j1,j2,hR2 _ _ ?_];dsimp only[aK,x8];show bA λD2 hR2 rt2=>?_;erw[_,Z,pp,_,_,_,Z,Z,R5.of hpp1,(show Si _ ((0:u6):u7)=_ from aU rfl),Z,_,Z,aW ?_];erw[_,Z,_,Z,_,_,Z,.inl ⟨_,R5.of hn1,Z⟩,_,Z,_,Z,_,Z,?_];rw[NR,NR];erw[ts,pr,pL,os,n,S,L,j,Z,hls.same s1,g,db,cp,hR1',hpL1,eL,jl,λo H' s' hP=>rt2 _ _<|q _ _ (s1.trans s') (K4 hP) λt ⟨L1,a1,a2⟩=>?_];rw[eL] at a1;cases a1;rw[ej] at a2;rcases a2 with⟨a,et⟩ | ⟨s0,st,_,a,et⟩
  .rw[MA.yE hP a]; show et
  .rw[MA.yE hP a]; show et
 | chain y =>
  obtain⟨j,j1,j2⟩:=dG hx;have ej:=dF j1 j2;have jl:j < S.ms.length:=by have:=jb hx; lia
  erw[_,Z,pp,_,_,_,Z,Z,R5.of hpp1,(show Si _ ((0:u6):u7)=_ from aU rfl),Z,_,Z,aM<|hR1 _ _ ?_];show bA λD2 hR2 _=>?_;erw[_,Z,pp,_,_,_,Z,Z,R5.of hpp1,(show Si _ ((0:u6):u7)=_ from aU rfl),Z,_,Z,aM<|hR2 _ _ ?_];show bA λD2 hR2 _=>?_;erw[_,Z,.inl ⟨Z,_,R5.of hn1⟩,_,Z,pp,_,_,_,Z,Z,R5.of hpp1,(show Si _ ((1:u6):u7)=_ from aU rfl),ln,av S,y,j,Z,Z,hn1,j1,j2,hR2 _ _ ?_];dsimp only[aK,x8];show bA λD2 hR2 _=>?_;erw[_,Z,pp,_,_,_,Z,Z,R5.of hpp1,(show Si _ ((0:u6):u7)=_ from aU rfl),Z,_,Z,aM<|hR2 _ _ ?_];show bA λD2 hR2 _=>?_;erw[_,Z,_,_,Z,.inl ⟨_,R5.of hn1,Z⟩,_,Z,_,Z,_,Z,?_];rw[NR,NR];show⟨S.ms.length,pr,pL,aD S.ms S.ds,L,((j:u6):u7),Z,ml,by rw[ck]; show dl,hR1'.Tg,k,R5.of hpL1,e1,Y,Y,λw ps H2 nw s2 hw hC=>hR2 _ _ ?_⟩;dsimp only[aK,x8];have lw: ∀j∈ps,j < S.ds.length:=λj hj=>by have:=hC.lt j hj; rw[ck] at this; show this
  have SX:=hC.SX<|MA.jU k e1;obtain⟨g1,g2⟩:=Lv (i:=j) g db e1;have rl:=gP g1 Y;have s100:(1000:u6)<=sizeLine:=by decide
  erw[_,Z,_,Z,pL,_,_,_,Z,Z,R5.of (s2 _ _ hpL1),cI Y Y,_,Z,iR Y,_,Z,aS,λe0 ne0=>⟨w,e0,_,Z,Z,R5.of (ag.upd ne0 _ _ hw),R5.of af,.inr ⟨_,Z," by ",_,Z,Z,by split <;> decide,by split <;> decide,uw,λr er=>?_⟩⟩];have hw2:=(ag.upd (o:= .lst []) ne0) _ _ hw;have hp2:=(ag.upd (o:= .lst []) ne0) _ _ (s2 _ _ hpc);have s12:=(s1.trans s2).trans (ag.upd (o:= .lst []) ne0);dsimp only[aK,x8];generalize upd H2 e0 (.lst [])=H3 at hw2 hp2 s12;have er2:r=if ps=[] then ("" : va) else " by " := by
   show QU ?_;rw[er];cases ps with
   | nil=>rfl
   | cons a b=>rw[show decide (0 < (aJ (a::b)).length)=true from N2 (QO _),NW rfl,NS (PJ _ _)]; rfl
  have r4:r.length<=4:=by rw[er2]; split <;> decide +kernel
  have nps:=ff g ps;have js:=eK nps;have jn:(aG S ps).length<=12:=by unfold aG; rw[NR]; lia
  have jn2:(aG S ps).length*8<=12*8:=Pq 8 jn;have jl:(yL " "<|aG S ps).length<=200:=Ob (fz (n:=12) jn nps) aS;erw[_,_,Z,Z,(by change (dM<|MA.g L ((j:u6):u7)).length+_<=_; lia),Z,_,Z,w,Z,⟨_,R5.of hw2⟩,?_];show iU (xs:=aJ ps) (bf<|R5.of hw2) (λv=>match v with | .int j=> .str ((aN S).getD j.toNat "") | _=> .non) (by unfold aJ; rw[NR]; show ay Y) (λx hx R hR=>?_) λpz npz=>?_
  .obtain⟨i,hi,rfl⟩:=Ow.mp hx;have il:=lw i hi;erw[_,Z,_,Z,pc,_,_,_,Z,Z,R5.of hp2,aU (by rw[N7,show (aN S)[i]?=some ((aN S).getD i "") from L2.getD_at (by unfold aN; rw[NR]; show il)]; rfl),hR]
  have e:(aJ ps).map (λv=>match v with | .int j=>V.str ((aN S).getD j.toNat "") | _=> .non)=(aG S ps).map V.str:=by
   unfold aJ aG;simp only[OK];rfl
  rw[e];show⟨_,pz,aG S ps,Z,Z,R5.of af,uw,Y,_,_,Z,Z,(by change (dM (MA.g L ((j:u6):u7))++r).length+_<=_; rw[dQ]; lia),?_⟩;show q (dM (MA.g L ((j:u6):u7))++r++yL " " (aG S ps)) _ (s12.trans<|ag.upd npz) ?_ λt ⟨L1,ps1,a1,a2,et⟩=>?_
  .obtain⟨c,hc,a,b⟩:=rS g1;show jL (c:=c) ?_ Y;rw[bS,bS];show Oy _<|Oy _ hc
  .rw[eL] at a1;cases a1;rw[ej] at a2 et;obtain rfl:=MA.cK.one hC a2;rw[et,er2];unfold sE kE;rcases hC with⟨z,zp⟩ | ⟨z,_,zs,_⟩
   .rw[NW z,NW zp,z,zp];show (show ("0" : va)=dM 0++ "" ++ yL " " [] by trivial)
   .rw[NS Y,NS (λe=>by rw[e] at zs; have zs:(0:u7)=_:=zs; lia)]
def To:Ask->Prop
 | .deed _=>zh
 | _=>MK
def kJ (S:Sb) (x:Ask) (d:va):Prop:=(d= "ring" /\ x= .why/\aZ S.ms.length (aD S.ms S.ds)=none)\/(d≠ "ring" /\ ∀t,Cc S (some x) t->t=d)
theorem AI {x:Ask}{d:va}(h:d9 S x≠ .ok) (e:Gu (d9 S x)=d) (n:d≠ "ring"):kJ S x d:= .inr ⟨n,λt a=>by
 rcases a with⟨z,_⟩ | ⟨_,z⟩
 .exact wz z h
 .rw[z,e]⟩
theorem uJ {x:Ask}{d:va}(h:d9 S x= .ok) (n:d≠ "ring") (k: ∀t,BL S x t->t=d):kJ S x d:= .inr ⟨n,λt a=>by
 rcases a with⟨_,z⟩ | ⟨z,_⟩
 .exact k t z
 .exact wz h z⟩
def Known (S:Sb):Ask->Prop
 | .chain y=>y∈av S
 | .slack y=>y∈av S
 | .cost y=>y∈aN S
 | _=>MK
theorem Ai {x:Ask}(hx:To x) (h: ¬Known S x):d9 S x= .no .unknown:=by
 cases x with
 | deed d=>show hx.elim
 | widths=>show wz trivial h
 | why=>show wz trivial h
 | chain y=>show fD S (decide (y∈av S))=_; rw[N8 (id h: ¬y∈_)]; rfl
 | slack y=>show fD S (decide (y∈av S))=_; rw[N8 (id h: ¬y∈_)]; rfl
 | cost y=>show fD S (decide (y∈aN S))=_; rw[N8 (id h: ¬y∈_)]; rfl
theorem vV {x:Ask}(hx:To x) (h:Known S x) (hw:x≠ .why):d9 S x=fD S true:=by
 cases x with
 | deed d=>show hx.elim
 | widths=>rfl
 | why=>show wz rfl hw
 | chain y=>show fD S (decide (y∈av S))=_; rw[N2 (id h:y∈_)]
 | slack y=>show fD S (decide (y∈av S))=_; rw[N2 (id h:y∈_)]
 | cost y=>show fD S (decide (y∈aN S))=_; rw[N2 (id h:y∈_)]
theorem yT {x:Ask}(hx:To x) (h:Known S x) (hw:x≠ .why) (wn:ba S=none):kJ S x "refused: no widths" := by
 have e:d9 S x= .noW:=(vV hx h hw).trans (by unfold fD; rw[NS aS,NW wn]);show AI (by rw[e]; intro z; cases z) (by rw[e]; rfl) uw
theorem Up {t:TT}{A B:TS}{D:Ends}{O:St}(M:yW->Hp->Prop) (ht: ∀Q:yW->Hp->Prop,(∀c H',M c H'->Q c H')->t O H Q) (hA: ∀H',M true H'->A D O H') (hB: ∀H',M false H'->B D O H'):Gq t A B D O H:=ht _ λc H' m=>by
 cases c;.exact aM<|hB H' m
 .exact aW<|hA H' m
inductive FU(K:R7)(vs:qx V)(H:Hp)(Q:VK)(_E:XK):Prop|mk(ts pp:qA)(os:qx qA)(n:u6)(S:Sb)(x:Ask)(_:vs=[.ref ts,.ref pp])(_:LS os n H ts S.ms S.ds)(_:Sv S.ms S.ds)(_:SM S.ms S.ds)(_:ja S.ms)(_:To x)(_:H pp=some (.lst ((gZ x).map V.str)))(_:∀(d:va) (H':Hp),ag H H'->kJ S x d->Q (.str d) H')
theorem xR (T:Txt K mg a):Sj P w K mg base 5 "_law_question" ["_law_state","_law_parts"] (FU K):=by
 exists 0,bH,59,eC;obtain⟨ts,pp,os,n,S,x,rfl,hls,g,db,cp,hx,hpp,q⟩:=h;erw[_,(ae (R9 2 eC.nd<|R8 K aT aa)<|ae (aB (PW.pt<|cv (f6 (Ti K) (Sa K bY aa)<|bO<|aj aq<|R6 aq)<|cg<|f6 (rG K) (Sa K bY aa) dO) (aE aq) ax)<|ae (aB (PW.pt<|cv (aA aR (Sa K bY aa) aq)<|cg<|f6 (rG K) (Sa K bY aa)<|eZ mU ["_law_row"] [] [] (cS K<|R8 K aT aa) λC s2 H2 fp=>(R8 K aT aa)) (aE aq) ax)<|ae (R9 3 eC.nd<|aF (vK T:)<|R6 aT)<|ae (aB (eR K<|aF (DJ T:)<|aj (c5 K T.bZ dO)<|R6 eX) (aE<|Sa K (aP<|aj aq<|R6 aq)<|bC eg uK T.iz boot_int<|R6<|dH aR (Sa K bY aa) aq) ax)<|ae (R9 4 eC.nd<|aF (vO T:)<|aj (c5 K T.bZ dO)<|R6 eX)<|ae (R9 5 eC.nd<|aF (EO T:)<|aj gE<|R6<|aF (vS T:)<|R6 aT)<|ae (aB (aA fK gT aa) (aE<|eV<|jK (aA aR (Sa K bY aa) aq) aq<|aF (CC T:)<|aj aT<|aj bY<|aj eX<|R6 gE) ax)<|ae (aB (aA kC (Sa K bY aa) aq) (aE aq) ax)<|ae (R9 6 eC.nd<|aF (ot T:)<|aj (c5 K T.bZ dO)<|aj eX<|aj gE<|R6 gT)<|aE<|aw dE (aw dE (aw dE aq<|Sa K dO gT) aq)<|c7 OL O5 O6 gW aq<|R6<|eZ mU ["_law_place"] ["_law_state"] [0] (cS K iF) λC s2 H2 fp=>(R8 K (Sa K (R8 K bY aa) aT) aa)),?_];obtain⟨ln,la,dd,vs,kvs,l⟩:=id hls;have k:=b9 db;have ml:=g.ml;have dl:=g.dl;have nl:(av S).length=S.ms.length:=by unfold av; rw[NR]
 obtain⟨w0,r0,ew⟩: ∃w0 r0,gZ x=w0::r0:=by cases x <;> first | show hx.elim | exact⟨_,_,rfl⟩
 have a0:Si ((gZ x).map V.str) ((0:u6):u7)=some (.str w0):=aU (by rw[ew]; rfl);show bA λD1 hR1 _=>?_;erw[_,Z,ts,_,_,_,Z,Z,Se.of l.ht,Z,hR1 [uo ts,uo pp,uo ln,none,none,none,none] _ ?_];have unk: ∀H',ag H H'-> ¬Known S x->Q (.str "refused: unknown") H':=λH' s' h=>q _ _ s'<|AI (by rw[Ai hx h]; intro z; cases z) (by rw[Ai hx h]; rfl) uw;have hn:=l.hn;show bA λD1 hR1 rt1=>?_;show Up (λc H'=>ag H H'/\(c=true-> ¬Known S x)/\(c=false-> ∀y,x= .chain y\/x= .slack y->Known S x)) (λQ' hM=>?_) (λH2 ⟨s2,z,_⟩=>rt1 _ _<|unk _ s2<|z rfl) λH2 ⟨s2,_,z1⟩=>hR1 _ _ ?_
 .exists _,Z,pp,_,_,_,Z,Z,R5.of hpp,a0,aC,λt nt=>⟨t,_,Z,.inr<|Se.of af,Z,Z,_,Z,?_⟩;have st:=ag.upd (o:= .tup [.str "chain",.str "slack"]) nt;have ask: ∀y,gZ x=[w0,y]->(Known S x↔y∈av S)->tY (S6 (T6 K true) (S6 (Gx K) (oO 1)<|tC<|.int 1)<|oO 2) [uo ts,uo pp,uo ln,none,none,none,none] (upd H t<|.tup [.str "chain",.str "slack"]) Q':=λy ey kn=>by
   have a1:Si ((gZ x).map V.str) ((1:u6):u7)=some (.str y):=aU (by rw[ey]; rfl);erw[_,Z,pp,_,_,_,Z,Z,R5.of<|st _ _ hpp,a1,_,Z,ln,_,Z,.inl<|R5.of<|st _ _ hn,Z,bW _,_,Z,?_];change Q' (!Sq (.str y) ((av S).map V.str)) _;rw[cz];show hM _ _ ⟨st,λc h=>?_,λc y' _=>?_⟩;.simp at c; show c<|kn.mp h
   .simp at c; show kn.mpr c
  cases x with
  | deed d=>show hx.elim
  | chain y =>
   cases ew;show aW<|ask y rfl Iff.rfl
  | slack y =>
   cases ew;show aW<|ask y rfl Iff.rfl
  | _ =>
   cases ew;show aM<|hM _ _ ⟨st,λc=>(by cases c),λ_ y h=>(by rcases h with h | h <;> cases h)⟩
 show bA λD1 hR1 rt1=>?_;show Up (λc H'=>ag H H'/\(c=true-> ¬Known S x)/\(c=false-> ∀y,x= .cost y->Known S x)) (λQ' hM=>?_) (λH3 ⟨s3,z,_⟩=>rt1 _ _<|unk _ s3<|z rfl) λH3 ⟨s3,_,z2⟩=>hR1 _ _ ?_
 .exists _,Z,pp,_,_,_,Z,Z,R5.of<|s2 _ _ hpp,a0,Z,_,Z,?_;by_cases hc: ∃y,x= .cost y
  .obtain⟨y,rfl⟩:=hc;cases ew;have ar2:F2 (jZ os H2) vs S.ds:=l.ar.imp λv d ⟨t,e,a,b⟩=>⟨t,e,a,s2 _ _ b⟩
   show aW ⟨_,Z,pp,_,_,_,Z,Z,R5.of<|s2 _ _ hpp,(show Si _ ((1:u6):u7)=_ from aU rfl),_,Z,ts,_,_,_,Z,Z,Se.of<|s2 _ _ l.ht,Z,la,Z,⟨_,R5.of<|s2 _ _ l.ha⟩,dP (λd=>V.str d.1) (λd=>rfl) (bf<|R5.of<|s2 _ _ l.ha) ar2 Y λpc npc=>?_⟩;have sc:=ag.upd (o:= .lst<|S.ds.map λd=>V.str d.1) npc;erw[pc,_,Z,.inl<|R5.of af,Z,kF _,_,Z,?_];change Q' (!Sq (.str y) (S.ds.map λd=>V.str d.1)) _;rw[qo];show hM _ _ ⟨s2.trans sc,λc h=>?_,λc y' _=>?_⟩;.simp at c; show wz h (by simpa [Known,aN] using c)
   .simp at c; simpa [Known,aN] using c
  .have:decide (V.str w0=V.str "cost")=false:=by
    cases x <;> first | show hx.elim | show wz ⟨_,rfl⟩ hc | (cases ew; decide +kernel)
   rw[this];show aM<|hM _ _ ⟨s2,λc=>(by cases c),λ_ y h=>wz ⟨y,h⟩ hc⟩
 have kn:Known S x:=by
  cases x with
  | deed d=>show hx.elim
  | chain y=>show z1 rfl y (.inl rfl)
  | slack y=>show z1 rfl y (.inr rfl)
  | cost y=>show z2 rfl y rfl
  | _=>trivial
 clear z1 z2 unk s2;have ww:decide (V.str w0=V.str "why")=decide (w0= "why"):=by
  by_cases c:w0= "why";.rw[c]; rfl
  .rw[N8 c,N8 λz=>c<|V.str.inj z]
 have hw:w0= "why" ↔ x= .why:=by
  cases x <;> first | show hx.elim | (cases ew; exact⟨λz=>wz z uw,λz=>by cases z⟩) | (cases ew; exact⟨λ_=>rfl,λ_=>rfl⟩)
 obtain⟨wr1,wr2⟩:=zo db;have lw:(MA.c9 S.ms.length<|aD S.ms S.ds).length=S.ms.length:=MA.rA;show bA λD1 hR1 _=>?_;erw[_,Z,ts,os,n,S.ms,S.ds,Z,hls.same s3,db,Y,λpr H4 npr s4 hR=>hR1 _ _ ?_];dsimp only[aK,x8];have s04:=s3.trans s4;show bA λD1 hR1 rt1=>?_;erw[_,Z,_,_,Z,.inl ⟨_,R5.of<|s04 _ _ hn,Z⟩,_,Z,?_];rw[NR,NR];erw[S.ms.length,pr,aD S.ms S.ds,Z,Y,hR.Tg,k,λH5 s5=>⟨_,Z,?_⟩];have s05:=s04.trans s5;cases er:MA.gq S.ms.length (aD S.ms S.ds) with
 | true =>
  have en:aZ S.ms.length (aD S.ms S.ds)=none:=by
   cases e:aZ S.ms.length (aD S.ms S.ds) with
   | none=>rfl
   | some L=>show wz (MA.bG k e).2.1 (MA.pR k er _)
  have wn:=wr1 er;show aW ⟨aC,λu nu=>?_⟩;have su:=ag.upd (o:= .lst [.str "refused: no widths",.str "ring"]) nu;erw[_,Z,pp,_,_,_,Z,Z,R5.of<|su _ _<|s05 _ _ hpp,a0,Z,.inr ⟨_,Z,u,_,_,_,Z,Z,R5.of af,at2,?_⟩];rw[ww];by_cases c:w0= "why"
  .rw[NW<|N2 c];show rt1 _ _<|q "ring" _ (s05.trans su)<|.inl ⟨Z,hw.mp c,en⟩
  .rw[NS (by simpa using c)];show rt1 _ _<|q _ _ (s05.trans su)<|yT hx kn (λz=>c<|hw.mpr z) wn
 | false =>
 obtain⟨L,eL,eLL,w1,w2⟩:=wr2 er;show aM<|hR1 _ _ ?_;have hR5:=hR.same s5;show bA λD1 hR1 _=>?_;erw[_,Z,_,_,Z,.inl ⟨_,R5.of<|s05 _ _ hn,Z⟩,_,Z,?_];rw[NR,NR];erw[S.ms.length,pr,_,Z,Y,hR5.Tg,k,λpL H6 npL s6 hpL=>hR1 _ _ ?_];dsimp only[aK,x8];have s06:=s05.trans s6;rw[eLL] at hpL lw;have hR6:=hR5.same s6;show bA λD1 hR1 _=>?_;erw[_,Z,_,Z,ts,os,n,S.ms,S.ds,Z,hls.same s06,g.mn,Y,λpc H7 npc s7 hpc=>?_];show⟨pL,L,pc,S.ms.map (·.2),Z,R5.of<|s7 _ _ hpL,R5.of hpc,by rw[lw,NR],Y,hR1 _ _ ?_⟩;dsimp only[aK,x8];have s07:=s06.trans s7;have hR7:=hR6.same s7;have hpL7:=s7 _ _ hpL;have hpp7:=s07 _ _ hpp;have hn7:=s07 _ _ hn;clear hpL s06 s6 s05 s5 s04 s4 hR hR5 hR6 npL npr npc hpc s7 wr1 wr2;show bA λD1 hR1 rt1=>?_;erw[_,Z,_,_,Z,Z,_,Z,?_];change if decide (A2 (MA.bP L<|bE S) < 0)=true then _ else _;cases e:MA.bP L (bE S) with
 | none =>
  have eW:=w1 e;show aW ⟨D1.rt,?_,λ_ _ z=>z⟩;erw[_,Z,pp,_,_,_,Z,Z,R5.of hpp7,a0,Z,_,Z,?_];rw[ww];by_cases c:w0= "why"
  .rw[N2 c];have ex:=hw.mp c;show aW<|rt1 _ _<|q _ _ s07<|uJ (by rw[ex]; rfl) uw λt a=>?_;rw[ex] at a;rcases a with⟨way,en,_⟩ | ⟨_,_,et⟩ | ⟨L',i,_,e1,e3,_⟩
   .rw[eL] at en; cases en
   .exact et
   .rw[eL] at e1; cases e1; rw[e] at e3; cases e3
  .rw[N8 c];have nw:x≠ .why:=λz=>c<|hw.mpr z;show aM ⟨_,Z,_,Z,_,Z,_,Z,ts,pp,pr,pL,os,n,S,L,x,Z,hls.same s07,g,db,cp,(by cases x <;> first | show hx.elim | show wz rfl nw | show kn),hpp7,hR7,hpL7,eW,λd H8 s8 dn k=>rt1 _ _<|q _ _ (s07.trans s8)<|uJ ((vV hx kn nw).trans (by unfold fD; rw[NS aS,NS (by rw[eW]; intro z; cases z)])) dn k⟩
 | some i =>
  have wn:=w2 (by rw[show MA.bP L (nQ S)=some i from e]; intro z; cases z);have il:i < L.length:=zY e;rw[show decide (A2 (some i) < 0)=false from N8<|show ¬((i:u6):u7) < 0 by lia];show aM<|hR1 _ _ ?_;rw[show A2 (MA.bP L (S.ms.map (·.2)))=((i:u6):u7) by rw[show MA.bP L (S.ms.map (·.2))=some i from e]; rfl];show bA λD1 hR1 rt2=>?_;erw[_,Z,pp,_,_,_,Z,Z,R5.of hpp7,a0,Z,_,Z,?_];rw[ww];by_cases c:w0= "why";rotate_left
  .rw[N8 c];show aW<|rt2 _ _<|q _ _ s07<|yT hx kn (λz=>c<|hw.mpr z) wn
  rw[N2 c];have ex:=hw.mp c;show aM<|hR1 _ _ ?_;show bA λD1 hR1 _=>?_;erw[_,Z,_,_,Z,.inl ⟨_,R5.of hn7,Z⟩,_,Z,_,Z,_,Z,?_];rw[NR,NR];show⟨S.ms.length,pr,pL,aD S.ms S.ds,L,((i:u6):u7),Z,ml,by rw[ck]; show dl,hR7.Tg,k,R5.of hpL7,eL,Y,Y,λw ps H8 nw s8 hwy hC=>hR1 _ _ ?_⟩;dsimp only[aK,x8];have s08:=s07.trans s8;have hn8:=s8 _ _ hn7;have lwy: ∀j∈ps,j < S.ds.length:=λj hj=>by have:=hC.lt j hj; rw[ck] at this; show this
  have SX:=hC.SX<|MA.jU k eL;have vl:=l.ar.length;have m8:((av S).getD i "").length<=8:=lu g.mN i;have b4:(" by " : va).length=4:=by trivial
  have b5:("wide " : va).length=5:=by trivial
  have s100:(1000:u6)<=sizeLine:=by decide
  have atn:Si ((S.ms.map (·.1)).map V.str) ((i:u6):u7)=some (.str<|(av S).getD i ""):=aU (by rw[N7,show (S.ms.map (·.1))[i]?=some ((av S).getD i "") from L2.getD_at (by rw[NR]; lia)]; rfl);erw[_,Z,_,Z,ln,_,_,_,Z,Z,R5.of hn8,atn,_,_,Z,Z,Y,_,_,Z,Z,(by rw[dQ]; lia),Z,_,Z,w,Z,⟨_,R5.of hwy⟩,?_];show iU (xs:=aJ ps) (bf<|R5.of hwy) (λv=>match v with | .int j=> .str ((aN S).getD j.toNat "") | _=> .non) (by unfold aJ; rw[NR]; show ay Y) (λx hx R hR=>?_) λpz npz=>?_
  .obtain⟨j,hj,rfl⟩:=Ow.mp hx;have jl:=lwy j hj;obtain⟨v,hv⟩: ∃v,vs[j]?=some v:=⟨_,NV Y⟩
   obtain⟨d,hd,td,rfl,_,htd⟩:=l.ar.get hv;erw[_,Z,ts,_,_,_,Z,Z,Se.of<|s08 _ _ l.ht,Z,_,Z,la,_,_,_,Z,Z,R5.of<|s08 _ _ l.ha,aU hv,td,_,_,_,Z,Z,Se.of<|s08 _ _ htd,Z,?_];have hR:R (.str<|(aN S).getD j "") H8:=hR;have e:(aN S).getD j "" = d.1:=by
    change (S.ds.map λd:Sn=>d.1).getD j "" = d.1;rw[NY,N7,hd];rfl
   rw[e] at hR;show hR
  have e4:(aJ ps).map (λv=>match v with | .int j=>V.str ((aN S).getD j.toNat "") | _=> .non)=(aG S ps).map V.str:=by
   unfold aJ aG;simp only[OK];rfl
  rw[e4];have nps:=ff g ps;have js:=eK nps;have jn:(aG S ps).length<=12:=by unfold aG; rw[NR]; lia
  have jn2:(aG S ps).length*8<=12*8:=Pq 8 jn;have jl:(yL " "<|aG S ps).length<=200:=Ob (fz (n:=12) jn nps) aS;show⟨_,pz,aG S ps,Z,Z,R5.of af,uw,Y,_,_,Z,Z,(by rw[dQ,dQ]; lia),?_⟩;show q _ _ (s08.trans<|ag.upd npz)<|uJ (by rw[ex]; rfl) ?_ λt a=>?_
  .show jL (c:=32) ?_ aS;rw[bS];show Oy _ (by rw[bS]; show Ot _ uw)
  .rw[ex] at a;rcases a with⟨way,en,_⟩ | ⟨_,z,_⟩ | ⟨L',i',ps',e1,e3,_,hC',et⟩
   .rw[eL] at en; cases en
   .rw[wn] at z; cases z
   .rw[eL] at e1;cases e1;rw[e] at e3;cases e3;rw[et,MA.cK.one hC' hC];unfold kE;show QU (by simp only[bS,Pf])
def ix:V->va
 | .str z=>z
 | .int i=>dM i
 | _=> ""
def dA (d:cE):qx va:=(fG d).map ix
theorem uG(h:Nm y):32∉y.cps.toList:=λhc=>by
 have:=h.2.2 32 hc;unfold small at this;lia
theorem E2 {i:u7}(h0:0<=i) (h1:i < 1000000):32∉(dM i).cps.toList/\(dM i).length<=8:=by
 obtain⟨_,_,a,b⟩:=oG h0 h1;erw[a,by change (xT<|toString i).length<=8; lia]
theorem yz(h:Td d): ∀v∈fG d,ke v (ix v)/\32∉(ix v).cps.toList/\(ix v).length<=8:=by
 have N: ∀ {i:u7},0<=i/\i<=99999->ke (.int i) (ix<|.int i)/\32∉(ix<|.int i).cps.toList/\(ix<|.int i).length<=8:=λ{i} h=>⟨qb h.1 Y,E2 h.1 Y⟩
 have M: ∀ {y:va},Nm y->ke (.str y) (ix<|.str y)/\32∉(ix<|.str y).cps.toList/\(ix<|.str y).length<=8:=λ{y} h=>⟨.str y,uG h,h.len⟩
 intro v hv;cases d <;> simp only[Td,Sy,fG,N5,OG,Px] at h hv <;> (repeat' first | (rcases hv with rfl | hv) | subst hv) <;> first | exact⟨.str _,uw,uw⟩ | show M h | show M h.1 | show M h.2.1 | show M h.2.2.1 | show N Y
theorem qV(h:Td d):dA d≠[]/\(∀w∈dA d,32∉w.cps.toList/\w.length<=8)/\(dA d).length<=6:=by
 show⟨by cases d <;> show PJ _ _,λw hw=>?_,by cases d <;> show Rf rfl⟩;obtain⟨v,hv,rfl⟩:=Ow.mp hw;show (yz h v hv).2
theorem pK {i:u7}(h0:0<=i) (h1:i < 1000000):cU (dM i)=true/\g7 (dM i)=i:=⟨(oG h0 h1).1,(oG h0 h1).2.1⟩
theorem FH(h:Td d):mZ (yL " " (dA d)) (some (.deed d)):=by
 obtain⟨a,b,c⟩:=qV h;have cl: ∀ {y:va},Nm y->y.cps.toList.length<=1000:=λ{y} h=>Ob h.2.1 aS;erw[Ob (fz c λw hw=>(b w hw).2) aS,(oS a λw hw=>(b w hw).1).trans ?_,λx hx=>?_]
 .cases d with
  | member y=>show Bo
  | plain y m p e o =>
   obtain⟨_,_,i1,i2,i3,i4,i5,i6⟩:=h;obtain⟨p1,p2⟩:=pK i1 Y;obtain⟨e1,e2⟩:=pK (i:=e) Y Y;obtain⟨o1,o2⟩:=pK (i:=o) Y Y;show (Dz (w1:=y) (w2:=m) p1 e1 o1).trans (by rw[p2,e2,o2]; rfl)
  | link y m bs mo =>
   obtain⟨_,_,_,i1,i2⟩:=h;obtain⟨p1,p2⟩:=pK i1 Y;show (FZ (w1:=y) (w2:=m) (w3:=bs) p1).trans (by rw[p2]; rfl)
  | top m wd =>
   obtain⟨_,i1,i2⟩:=h;obtain⟨p1,p2⟩:=pK i1 Y;show (IL (w1:=m) p1).trans (by rw[p2]; rfl)
  | back=>show FK
  | sM m=>show qy
  | sD m=>show qC
  | sT m=>show uq
 .cases hx;cases d with
  | member y=>show cl h
  | plain y m p e o=>show cl h.1
  | link y m b mo=>show cl h.1
  | _=>trivial
def TN (y:va):Prop:=32∉y.cps.toList/\y.length<=9
theorem AH {x:Ask}(hx:To x) (hw: ∀y∈gZ x,TN y):mZ (yL " " (gZ x)) (some x):=by
 erw[Ob (fz (n:=2) (k:=9) ?_ λw h=>(hw w h).2) aS,(oS ?_ λw h=>(hw w h).1).trans ?_,λx' e=>?_];.cases x <;> show Rf rfl
 .cases x <;> first | show hx.elim | show PJ _ _
 .cases x with
  | deed d=>show hx.elim
  | widths=>show BB
  | why=>show IM
  | chain y=>show Ea
  | slack y=>show Ey
  | cost y=>show GJ
 .cases e;cases x with
  | deed d=>show hx.elim
  | _=>trivial
def mP:qx va:=["widths","why","chain","slack","cost","chain"]
def w6:qx va:=["door","a","zz","","Z","stairways"]
theorem yh {ks:qx va}{i:u7}(h0:0<=i) (h1:i < (ks.length:u6)): ∃k,Si (ks.map V.str) i=some (.str k)/\ks[i.toNat]?=some k/\k∈ks:=by
 obtain⟨n,rfl⟩:=Qn h0;have hn:n < ks.length:=Y;erw[ks[n],aU (by rw[N7,NV hn]; rfl),NV hn,Pm hn]
theorem HC {k y:va}(h:k= "chain" \/ k= "slack" \/ k= "cost"): ∃x,To x/\gZ x=[k,y]:=by
 rcases h with rfl | rfl | rfl
 .nomatch .chain y,trivial,Z
 .nomatch .slack y,trivial,Z
 .nomatch .cost y,trivial,Z
inductive Cs(K:R7)(vs:qx V)(H:Hp)(Q:VK)(_E:XK):Prop|mk(z:u7)(ts:qA)(os:qx qA)(n:u6)(S:Sb)(_:vs=[.int z,.ref ts])(_:0<=z)(_:LS os n H ts S.ms S.ds)(_:Sv S.ms S.ds)(_:∀(p:qA) (x:Ask) (H':Hp),H p=none->ag H H'->H' p=some (.lst ((gZ x).map V.str))->To x->(∀y∈gZ x,TN y)->Q (.ref p) H')
theorem Bx (T:Txt K mg a):Sj P w K mg base 1 "_law_asked" ["_law_word","_law_state"] (Cs K):=by
 exists 0,bH,60,i9;obtain⟨z,ts,os,n,S,rfl,z0,hls,g,q⟩:=h;erw[_,(ae (R9 2 i9.nd (Sa K (aP (aj aq (aj aq (aj aq (aj aq (aj aq (R6 aq))))))) (aw bt aT aa))) (ae (aB (aA fK (aw bt aT aa) aa) (aE (aP (R6 dO))) ax) (ae (R9 3 i9.nd (R8 K bY aa)) (dD (aB (aA aR dO aq) (au (Tx 3 i9.nd zk ["_law_row"] [] [] TJ (cS K (R8 K bY aa)) (λC s2 H2 fp=>⟨(gn 0 (SO ["_law_row"])),iL,(R8 K aT aa)⟩))) ax) (ae (aB (PW.pt (cv (aA jg (aw bt (aw bM aT aa) aa) aa) (cg (aA (show So _ _ (Cg K) from xn (dB hr)) eX (aP b8))))) (aE (aP (aj dO (R6 (Sa K eX (aw bt (aw bM aT aa) (c5 K T.bZ eX))))))) ax) (aE (aP (aj dO (R6 (Sa K (aP (aj aq (aj aq (aj aq (aj aq (aj aq (R6 aq))))))) (aw bt (aw bM aT aa) aa))))))))))),?_];obtain⟨ln,la,dd,vs,kvs,l⟩:=id hls;have ml:=g.ml;have dl:=g.dl;obtain⟨kd,k1,k2,k3⟩:=yh (ks:=mP) (i:=z % 6) Y (by change z % 6 < 6; lia);have kw:TN kd:=(show ∀k∈mP,32∉k.cps.toList/\k.length<=9 by trivial) kd k3;show bA λD1 hR1 _=>?_;erw[aC,λu nu=>⟨_,Z,_,_,Z,Z,(by change (0:u7) < 6; decide),u,mP.map V.str,_,_,Z,Z,R5.of af,k1,hR1 [some (.int z),uo ts,some (.str kd),none] _ ?_⟩];have s1:=ag.upd (o:= .lst (mP.map V.str)) nu;change E1 _ _ _ _ (upd H u (.lst (mP.map V.str)));generalize upd H u (.lst (mP.map V.str))=H1 at s1;show bA λD1 hR1 rt1=>?_;erw[_,Z,_,_,Z,Z,(by change (0:u7) < 6; decide),_,_,Z,Z,_,Z,bh (λc=>?_) (λc=>hR1 _ _ ?_)]
 .have c:=Oc c;erw[_,Z,aC,λp np=>rt1 _ _ ?_];have hx: ∃x,To x/\gZ x=[kd]:=by
   rcases (by lia:z % 6=0\/z % 6=1) with e | e <;> rw[e] at k2 <;> cases k2
   .nomatch .widths,trivial,Z
   .nomatch .why,trivial,Z
  obtain⟨x,hx1,hx2⟩:=hx;show q p x _ (s1.free np) (s1.trans<|ag.upd np) (by rw[hx2]; show af) hx1 λy hy=>(by rw[hx2] at hy; rw[NZ.mp hy]; show kw)
 have c:=mt N2 c;have kd3:kd= "chain" \/ kd= "slack" \/ kd= "cost" := by
  rcases (by lia:z % 6=2\/z % 6=3\/z % 6=4\/z % 6=5) with e | e | e | e <;> rw[e] at k2 <;> cases k2
  .exact .inl rfl
  .exact .inr<|.inl rfl
  .exact .inr<|.inr rfl
  .exact .inl rfl
 clear c k1 k2 k3;have fin: ∀(p:qA) (y:va) (H':Hp),H p=none->ag H H'->H' p=some (.lst [.str kd,.str y])->TN y->Q (.ref p) H':=λp y H' np s' hp wy=>by
  obtain⟨x,hx1,hx2⟩:=HC (y:=y) kd3;show q p x H' np s' (by rw[hx2]; show hp) hx1 λy' hy=>?_;rw[hx2] at hy;simp only[N5,OG,Px] at hy;rcases hy with rfl | rfl
  .exact kw
  .exact wy
 show bA λD1 hR1 _=>?_;erw[_,Z,ts,_,_,_,Z,Z,Se.of<|s1 _ _ l.ht,Z,hR1 _ _ ?_];dsimp only[aK,x8];have w9: ∀ {y:va},Nm y->TN y:=λ{y} h=>⟨uG h,by have:=h.len; lia⟩
 show Fs (λO' H'=> ∃(pw:qA) (ys:qx va),O'=[some<|.int z,uo ts,some<|.str kd,uo pw]/\ag H1 H'/\H' pw=some (.lst<|ys.map V.str)/\ys.length<=24/\ ∀y∈ys,TN y) (λD2 mk2 _=>?_) ?_
 .exists _,Z,Z,_,Z,bh (λ_=>?_) λ_=>?_
  .have ar1:F2 (jZ os H1) vs S.ds:=l.ar.imp λv d ⟨t,e,a,b⟩=>⟨t,e,a,s1 _ _ b⟩
   erw[_,Z,ts,_,_,_,Z,Z,Se.of<|s1 _ _ l.ht,Z,la,Z,⟨_,R5.of<|s1 _ _ l.ha⟩,dP (λd=>V.str d.1) (λd=>rfl) (bf<|R5.of<|s1 _ _ l.ha) ar1 Y λpc npc=>mk2 _ _ ⟨pc,aN S,Z,ag.upd npc,?_,by unfold aN; rw[NR]; show dl,λy hy=>w9<|g.dN y hy⟩];rw[af];unfold aN;rw[OK];rfl
  .exact mk2 _ _ ⟨ln,av S,Z,ag.refl _,s1 _ _ l.hn,by unfold av; rw[NR]; lia,λy hy=>w9<|g.mN y hy⟩
 rintro O' H2 ⟨pw,ys,rfl,s2,hpw,yl,yw⟩;have s02:=s1.trans s2;show bA λD1 hR1 rt1=>?_;show Up (λc H'=>ag H2 H'/\(c=true->ys≠[])) (λQ' hM=>?_) (λH3 ⟨s3,hy⟩=>?_) λH3 ⟨s3,_⟩=>hR1 _ _ ?_
 .exists _,Z,_,_,Z,Z,⟨aS,aS⟩,_,_,Z,Z,(by change (0:u7) < 5; decide),_,_,Z,Z,_,Z,?_;show bh (λc=>?_) λc=>hM _ _ ⟨ag.refl _,λz=>by cases z⟩;erw[_,Z,aS,λe0 ne0=>⟨pw,e0,ys.map V.str,Z,Z,R5.of<|(ag.upd ne0) _ _ hpw,R5.of af,_,Z,hM _ _ ⟨ag.upd ne0,λz e=>?_⟩⟩];rw[e] at z;show wz (Oc z)<|PB 0
 .have y0:0 < ys.length:=Rz.mpr<|hy rfl;have hp3:=s3 _ _ hpw;have w0:=Pj (z / 30) (show ((ys.map V.str).length:u7)≠0 by rw[NR]; lia);have w1:=Pn (z / 30) (show (0:u7) < ((ys.map V.str).length:u7) by rw[NR]; lia);rw[NR] at w0 w1;obtain⟨y,y1,_,y3⟩:=yh w0 w1;erw[_,Z,_,Z,_,Z,_,_,Z,Z,⟨aS,aS⟩,_,Z,_,_,Z,.inl ⟨_,R5.of hp3,Z⟩,_,_,Z,Z,(by rw[NR]; lia),pw,ys.map V.str,_,.str y,Z,Z,R5.of hp3,(by rw[NR]; show y1),aC,λp np=>rt1 _ _<|fin p y _ ((s02.trans s3).free np) ((s02.trans s3).trans<|ag.upd np) af<|yw y y3]
 .have s03:=s02.trans s3;obtain⟨y,y1,_,y3⟩:=yh (ks:=w6) (i:=z / 30 % 6) Y (by change z / 30 % 6 < 6; lia);erw[_,Z,aC,λu nu=>⟨_,Z,_,_,Z,Z,⟨aS,aS⟩,_,_,Z,Z,(by change (0:u7) < 6; decide),u,w6.map V.str,_,.str y,Z,Z,R5.of af,y1,aC,λp np=>?_⟩];have su:=s03.trans<|ag.upd (o:= .lst<|w6.map V.str) nu;show fin p y _ (su.free np) (su.trans<|ag.upd np) af<|(show ∀k∈w6,32∉k.cps.toList/\k.length<=9 by trivial) y y3
def nM (w:va):va:=if w= "" then "done" else "refused: " ++ w
theorem xU: ∀x:pI,x≠ .ok->gF x≠ "" /\ K5 x= "refused: " ++ gF x:=by
 intro x h;cases x <;> first | show wz rfl h | exact⟨uw,uw⟩
theorem DY (S:Sb) (d:cE):kJ S (.deed d) (nM (gF (a9 S d))):=by
 have e:d9 S (.deed d)=if a9 S d= .ok then .ok else .no (a9 S d):=rfl;show .inr ⟨by cases a9 S d <;> decide +kernel,λt a=>?_⟩;unfold nM;by_cases c:a9 S d= .ok
 .rw[NW c] at e;rw[c,NW<|show gF .ok= "" by trivial];rcases a with⟨_,a⟩ | ⟨z,_⟩
  .exact a
  .exact wz e z
 .rw[NS c] at e;obtain⟨w1,w2⟩:=xU _ c;rw[NS w1,<-w2];rcases a with⟨z,_⟩ | ⟨_,a⟩
  .rw[e] at z; cases z
  .rw[a,e]; rfl
theorem EZ (x:pI):(gF x).length<=20:=by cases x <;> decide +kernel
structure En where
 row:va
 q:Ask
 d:va
 S:Sb
def Tt (es:qx En):qx (rW Ask):=es.map λe=>some e.q
def Sl (es:qx En):Sb:=hU (Tt es) es.length
structure G4 (es:qx En):Prop where
 ok: ∀e∈es,mZ e.row (some e.q)/\kJ e.S e.q e.d
 st: ∀(j:u6) e,es[j]?=some e->e.S=hU (Tt es) j
theorem yN {q:rW Ask}(h:j<=qs.length):hU (qs++[q]) j=hU qs j:=by
 unfold hU;rw[Qr h]
theorem pY (es:qx En):(Tt es).length=es.length:=NR _
theorem z7 (es:qx En) (e:En):Tt (es++[e])=Tt es++[some e.q]:=by unfold Tt; rw[Od]; rfl
theorem AJ {es:qx En}{e:En}:Sl (es++[e])=tF (Sl es) e.q:=by
 unfold Sl;rw[N1,z7];change hU (Tt es++[some e.q]) (es.length+1)=_;rw[o7 (q:=some e.q) (by rw[O9 (by rw[pY]; show N0 _),pY,RU]; rfl),yN (by rw[pY]; show N0 _)];rfl
theorem G4.app {es:qx En}(g:G4 es){row:va}{q:Ask}{d:va}(h:mZ row (some q)) (t:kJ (Sl es) q d):G4 (es++[⟨row,q,d,Sl es⟩]):=by
 erw[λe he=>?_,λj e hj=>?_]
 .rcases Oe.mp he with he | he
  .exact g.ok e he
  .rw[NZ.mp he]; erw[h,t]
 .rw[z7];have jl:=(NX.mp hj).1;rw[N1,P9] at jl;rw[yN (by rw[pY]; lia)];by_cases c:j < es.length
  .rw[O1 c] at hj;show g.st j e hj
  .obtain rfl:j=es.length:=Y;rw[O9<|N0 _,RU] at hj;cases hj;rfl
theorem pV (es:qx En):Std (Sl es):=mX _ _
theorem pZ {es:qx En}{q:Ask}{d:va}(hq:To q):Sl (es++[⟨row,q,d,S⟩])=Sl es:=AJ.trans (by cases q <;> first | show hq.elim | rfl)
def T4 (xs:qx qA) (n:u6) (H:Hp) (v:V) (e:En):Prop:= ∃t s,v=V.ref t/\t∉xs/\H t=some (.tup [.str e.row,.str e.d,.ref s])/\LS xs n H s e.S.ms e.S.ds
structure Pt (xs:qx qA) (pl:qA) (n:u6) (H:Hp) (ts:qA) (S:Sb):Prop where
 ls:LS xs n H ts S.ms S.ds
 pv: ∃pz,H pl=some (.lst pz)/\F2 (λv k=> ∃t,v=V.ref t/\LS xs n H t k.1 k.2) pz S.ks
variable{pl ts:qA}
theorem Pt.mono {xs:qx qA}{m:u6}(p:Pt xs pl n H ts S) (h: ∀b o,b∉xs->H b=some o->H' b=some o) (e: ∀o,H pl=some o->H' pl=some o) (hn:n<=m):Pt xs pl m H' ts S:=by
 obtain⟨pz,hp,hF⟩:=p.pv;erw[p.ls.mono (λb o nb z=>⟨h b o nb z,nb⟩) hn,pz,e _ hp,hF.imp λv k ⟨t,e,z⟩=>⟨t,e,z.mono (λb o nb z=>⟨h b o nb z,nb⟩) hn⟩]
structure S3 (pl u:qA) (n:u6) (H:Hp) (ts:qA) (S:Sb) (es:qx En) (vs:qx V):Prop where
 pt:Pt [pl,u] pl n H ts S
 hu:H u=some (.lst vs)
 hF:F2 (T4 [pl,u] n H) vs es
 g:G4 es
variable{u:qA}{vs:qx V}
theorem S3.mono {m:u6}{es:qx En}(r:S3 pl u n H ts S es vs) (h: ∀b o,b∉[pl,u]->H b=some o->H' b=some o) (e: ∀o,H pl=some o->H' pl=some o) (e2:H' u=some (.lst vs)) (hn:n<=m):S3 pl u m H' ts S es vs :=
 ⟨r.pt.mono h e hn,e2,r.hF.imp λv e ⟨t,s,a,b,c,l⟩=>⟨t,s,a,b,h _ _ b c,l.mono (λb o nb z=>⟨h b o nb z,nb⟩) hn⟩,r.g⟩
theorem S3.same {es:qx En}(r:S3 pl u n H ts S es vs) (s:ag H H'):S3 pl u n H' ts S es vs:=r.mono (λb o _ z=>s b o z) (λo z=>s _ o z) (s _ _ r.hu) (N0 _)
theorem S3.out {b:qA}{es:qx En}(r:S3 pl u n H ts S es vs) (h:H b=none):b∉[pl,u]:=λz=>by
 obtain⟨pz,hp,_⟩:=r.pt.pv;simp only[N5,OG,Px] at z;rcases z with rfl | rfl
 .rw[h] at hp; cases hp
 .rw[r.hu] at h; cases h
theorem S3.add {t:qA}{es:qx En}{d:va}{q:Ask}(r:S3 pl u n H ts (Sl es) es vs) (up:u≠pl) (ht:H t=none) (h:mZ row (some q)) (tp:kJ (Sl es) q d):S3 pl u n (upd (upd H t (.tup [.str row,.str d,.ref ts])) u (.lst (vs++[.ref t]))) ts (Sl es) (es++[⟨row,q,d,Sl es⟩]) (vs++[.ref t])/\ ∀b o,b∉[pl,u]->H b=some o->(upd (upd H t (.tup [.str row,.str d,.ref ts])) u (.lst (vs++[.ref t]))) b=some o:=by
 have s1:=ag.upd (o:= .tup [.str row,.str d,.ref ts]) ht;have to:=r.out ht;have tu:t≠u:=λz=>to (by rw[z]; simp);have k: ∀b o,b∉[pl,u]->H b=some o->(upd (upd H t<|.tup [.str row,.str d,.ref ts]) u<|.lst<|vs++[.ref t]) b=some o:=λb o nb e=>(ah λz=>nb (by rw[z]; simp)).trans<|s1 _ _ e;have kp: ∀o,H pl=some o->(upd (upd H t<|.tup [.str row,.str d,.ref ts]) u<|.lst<|vs++[.ref t]) pl=some o:=λo e=>(ah<|Ox up).trans<|s1 _ _ e;have kl: ∀ {s:qA}{ms:qx Mem}{ds:qx Sn},LS [pl,u] n H s ms ds->LS [pl,u] n (upd (upd H t<|.tup [.str row,.str d,.ref ts]) u<|.lst<|vs++[.ref t]) s ms ds:=λl=>l.mono (λb o nb z=>⟨k b o nb z,nb⟩)<|N0 _;erw[⟨r.pt.mono k kp<|N0 _,af,F2.append (r.hF.imp λv e ⟨t',s,a,b,c,l⟩=>⟨t',s,a,b,k _ _ b c,kl l⟩)<|.cons ⟨t,ts,Z,to,(ah tu).trans af,kl r.pt.ls⟩ .nil,r.g.app h tp⟩,k]
theorem CB (d:cE): ∃w0 r0,fG d= .str w0::r0/\(w0= "back" ↔ d= .back):=by
 cases d <;> exact⟨_,_,Z,by constructor <;> intro z <;> first | rfl | cases z | show wz z uw⟩
theorem Gh (S:Sb) (d:cE):(dZ S d).ks.length<=S.ks.length+1:=by
 unfold dZ;split
 .cases d with
  | back =>
   change (match S.ks.getLast? with | some k=>(⟨k.1,k.2,S.ks.dropLast⟩:Sb) | none=>S).ks.length<=_;split;.rw[QD]; lia
   .exact Pe _
  | _=>show (S.ks++[(S.ms,S.ds)]).length<=_; rw[N1]; show N0 _
 .exact Pe _
theorem Ff(ok:Td d) (hk:S.ks.length < 150):wordOf (bz S d)=gF (a9 S d):=by
 have k0: ¬ 150<=S.ks.length:=Y;cases d with
 | member y =>
  rw[bz,a9,Nm.good ok];by_cases h1:y∈av S <;> by_cases h2:12<=S.ms.length <;> simp[h1,h2,k0,wordOf,gF]
 | plain y m p e o =>
  obtain⟨a,_,c⟩:=ok;rw[bz,a9,Nm.good a];by_cases h1:m∈av S <;> by_cases h2:y∈aN S <;> by_cases h3:99999 < eJ p e o <;> by_cases h4:24<=S.ds.length <;> simp[h1,h2,h3,h4,c,k0,wordOf,gF]
 | link y m b mo =>
  obtain⟨a,_,_,c⟩:=ok;rw[bz,a9,Nm.good a];by_cases h1:m∉av S\/b∉av S <;> by_cases h2:y∈aN S <;> by_cases h4:24<=S.ds.length <;> simp[h1,h2,h4,c,k0,wordOf,gF]
 | top m wd =>
  obtain⟨_,c⟩:=ok;rw[bz,a9];by_cases h1:m∈av S <;> by_cases h2:bD S.ms m=none <;> simp[h1,h2,c,k0,wordOf,gF]
 | back=>rw[bz,a9]; by_cases h1:S.ks=[] <;> simp[h1,wordOf,gF]
 | sM m=>rw[bz,a9]; by_cases h1:m∈av S <;> by_cases h2:mh m S.ds=true <;> simp[h1,h2,k0,wordOf,gF]
 | sD m=>rw[bz,a9]; by_cases h1:m∈aN S <;> simp[h1,k0,wordOf,gF]
 | sT m=>rw[bz,a9]; by_cases h1:bD S.ms m=none <;> simp[h1,k0,wordOf,gF]
theorem CO {K:R7}{a:qA}{xs:qx V}{g:TG}{tb:TS}{D:Ends}{O:St}(Pv:u6->St->Hp->Prop) (h0:Pv 0 O H) (hJ: ∀i O H,i<=xs.length->Pv i O H->R5 K H a xs)
  (hs: ∀i x O H t (D':Ends),(∀O H,Pv (i+1) O H->D'.nx O H)->xs[i]?=some x->Pv i O H->H t=none->g (.ref t) O (upd H t (.tup [.int (i:u6),x])) λO2 H2=>tb D' O2 H2) (hd: ∀O H,Pv xs.length O H->D.nx O H) :
  ∃W:u6->u6->St->Hp->Prop,(∃m,W 0 m O H)/\ ∀i m O H,W i m O H ->
   ((Tq K a).stop i H/\D.nx O H)\/((Tq K a).go i H/\ ∃N:St->Hp->Prop,(∀O' H',N O' H'-> ∃m',m' < m/\W (i+1) m' O' H')/\ ∀x H',(Tq K a).yld i H x H'->g x O H' λO2 H2=>tb { D with nx:=N,ct:=N,bk:=D.nx } O2 H2) :=
 nA Pv h0 hJ (λi x O H t hx hp nt=>hs i x O H t _ (λ_ _ z=>z) hx hp nt) hd
inductive Bc(K:R7)(vs:qx V)(H:Hp)(Q:VK)(_E:XK):Prop|mk(sa:qA)(ns:qx u7)(_:vs=[.ref sa])(_:R5 K H sa (ns.map V.int))(_:ns.length<=63)(_:∀(u:qA) (xs:qx qA) (n:u6) (ws:qx V) (es:qx En) (H':Hp),ag H H'->H' u=some (.lst ws)->F2 (T4 xs n H') ws es->G4 es->es.length<=140->Q (.ref u) H')
theorem AO (T:Txt K mg a):Sj P w K mg base 6 "_law_day_told" ["_law_script"] (Bc K):=by
 exists 0,bH,61,bF;obtain⟨sa,ns,rfl,hS,hlen,q⟩:=h;erw[_,(ae (R9 1 bF.nd (aF (Dd T:) (aj aT (R6 aa)))) (ae (R9 2 bF.nd (bO (aj (aP b8) (aj (aP b8) (R6 FT))))) (ae (R9 3 bF.nd (aP b8)) (ae (R9 4 bF.nd (aP b8)) (ae (cY (kP rfl T.gA (R6 (aF (JQ T:) (aj aT (R6 aa))))) (dI rfl (aQ (gn 5 bF.nd) (aQ (gn 6 bF.nd) de))) (ae (R9 7 bF.nd (aF (Jv T:) (aj dO (aj (c5 K T.bZ eX) (R6 iF))))) (ae (R9 8 bF.nd (c7 OL O5 O6 gW aq (R6 (eZ uX ["_law_part"] [] [] (Ec iF) (λC s2 H2 fp=>(bC Dp uK T.nU boot_str (R6 aT))))))) (ae (aO (fR K gE (bO (aj iS (aj (Sa K (aP (aj (aw dE aq iN) (R6 aq))) (bC eg uK T.iz boot_int (R6 (dH aR iN aq)))) (R6 dO)))))) (dD (aB (PW.pt (cv (aA aR iN aq) (cg (aA aR (R8 K iF aa) aq)))) (au (R9 2 bF.nd (show PE _ _ (Be K _ _ _) from x5 OE Qz QA CI eX))) (au (aB (aA aR iN aq) (ae (aO (fR K eX dO)) (au (R9 2 bF.nd (aF (Fn T:) (aj dO (R6 iF)))))) ax))) (au (aB (aA kC (R8 K iF aa) aq) (ae (R9 9 bF.nd (aF (Bx T:) (aj (Sa K bY gT) (R6 dO)))) (au (aO (fR K gE (bO (aj (c7 OL O5 O6 gW aq (R6 lE)) (aj (aF (xR T:) (aj dO (R6 lE))) (R6 dO)))))))) ax))))))) (ae (cY (cS K (aP (aj (aP (R6 aq)) (R6 (aP (R6 aq)))))) (gn 9 bF.nd) (au (aO (fR K gE (bO (aj (Sa K lE aa) (aj (aF (xR T:) (aj dO (R6 lE))) (R6 dO)))))))) (aE gE))))))),?_];show bA λD1 hR1 _=>?_;erw[_,Z,sa,ns,65,Z,hS,aS,λoa os H0 npo s0 hoa hol ho0=>hR1 [uo sa,uo oa,none,none,none,none,none,none,none,none] _ ?_];show bA λD1 hR1 _=>?_;erw[aS,λl1 n1=>⟨aS,λl2 n2=>λd n3=>⟨aC,λts n4=>hR1 _ _ ?_⟩⟩];obtain⟨s2,mk⟩:=J1 (us:=[]) n1 n2 n3 n4;have s2:ag H0 (upd (upd (upd (upd H0 l1 (.lst [])) l2 (.lst [])) d (.dK [])) ts (.tup [.ref l1,.ref l2,.ref d])):=s2;have mk2:LS [] 0 (upd (upd (upd (upd H0 l1 (.lst [])) l2 (.lst [])) d (.dK [])) ts (.tup [.ref l1,.ref l2,.ref d])) ts [] []:=mk [] [] (λb hb=>by cases hb) rfl λm=>rfl;clear mk n2 n3 n4;dsimp only[x8];generalize upd (upd (upd (upd H0 l1 (.lst [])) l2 (.lst [])) d (.dK [])) ts (.tup [.ref l1,.ref l2,.ref d])=H2 at s2 mk2;show bA λD1 hR1 _=>?_;erw[aS,λpl npl=>hR1 _ _ ?_];show bA λD1 hR1 _=>?_;erw[aS,λu nu=>hR1 _ _ ?_];dsimp only[x8];have s3:=ag.upd (o:= .lst []) npl;have s5:=ag.upd (o:= .lst []) nu;have s25:=s3.trans s5;have hpl:(upd (upd H2 pl (.lst [])) u (.lst [])) pl=some (.lst []):=s5 _ _ af;have hul:(upd (upd H2 pl (.lst [])) u (.lst [])) u=some (.lst []):=af;have up:u≠pl:=λz=>by rw[z,af] at nu; cases nu
 have out2: ∀b o,H2 b=some o->b∉[pl,u]:=λb o e z=>by
  have n3:=s3.free nu;simp only[N5,OG,Px] at z;rcases z with rfl | rfl
  .rw[e] at npl; cases npl
  .rw[e] at n3; cases n3
 generalize upd (upd H2 pl (.lst [])) u (.lst [])=H3 at s25 hpl hul;have r3:S3 pl u 0 H3 ts (Sl []) [] []:=⟨⟨mk2.mono (λb o _ e=>⟨s25 _ _ e,out2 b o e⟩) (N0 _),[],hpl,.nil⟩,hul,.nil,⟨λe he=>(by cases he),λj e he=>(by cases he)⟩⟩
 have oH: ∀b o,H b=some o->b∉[pl,u]:=λb o e=>out2 b o<|s2 _ _<|s0 _ _ e;clear s3 s5 npl nu mk2 hpl hul;show bA λD1 hR1 _=>?_;erw[_,Z,sa,ns,53,Z,((s0.trans s2).trans s25).seq hS,aS,λp us ds0 H4 np s4 hp hF hl=>?_];have ul:=hF.length;have hoa3:H3 oa=some (.lst<|os.map V.int):=(s2.trans s25) _ _ hoa;have oout:oa∉[pl,u]:=out2 _ _<|s2 _ _ hoa;have out: ∀b,H3 b=none->b∉[pl,u]:=λb e=>r3.out e;have s04:=((s0.trans s2).trans s25).trans s4;erw[p,Z,⟨_,R5.of hp⟩,?_];show CO (xs:=us) (λi O' H'=> ∃(ts:qA) (es:qx En) (ws:qx V) (v5 v6 v7 v8 v9:rW V),O'=[uo sa,uo oa,uo ts,uo pl,uo u,v5,v6,v7,v8,v9]/\S3 pl u i H' ts (Sl es) es ws/\(Sl es).ks.length<=i/\es.length<=2*i/\(∀b o,b∉[pl,u]->H4 b=some o->H' b=some o)) ⟨ts,[],[],none,none,none,none,none,Z,r3.same s4,N0 _,N0 _,λb o _ e=>e⟩ (λi O' H' _ h=>?_) ?_ ?_
 .obtain⟨_,_,_,_,_,_,_,_,_,_,_,_,k⟩:=h;show R5.of<|k _ _ (out _ np) hp
 .rintro i x O' H' tt D2 nx2 hi ⟨ts,es,ws,v5,v6,v7,v8,v9,rfl,r,hk,rl,k4⟩ ntt;have il:=(NX.mp hi).1;obtain⟨d,hd,t,rfl,nt,ht,dok⟩:=hF.get hi;erw[tt,_,Z,Se.of af,Z,_,_,Z,_,_,Z,Z,?_];have st:=ag.upd (o:= .tup [.int (i:u6),.ref t]) ntt;generalize upd H' tt (.tup [.int (i:u6),.ref t])=H5 at st;have tout:=out t nt;have r5:=r.same st;have k5: ∀b o,b∉[pl,u]->H4 b=some o->H5 b=some o:=λb o nb e=>st _ _ (k4 b o nb e);clear st ntt r k4;dsimp only[aK,x8];have sd:=pV es;have g:=sd.gd.now;have wl6:(dA d).length=(fG d).length:=by unfold dA; rw[NR]
  have dl:=(qV dok).2.2;obtain⟨ov,hov,hol'⟩: ∃ov,os[i]?=some ov/\ov∈os:=⟨_,NV Y,Pm _⟩
  show bA λD3 hR3 _=>?_;obtain⟨pz,hpz,hpF⟩:=r5.pt.pv;erw[_,Z,_,Z,_,_,Z,.inl ⟨_,R5.of hpz,Z⟩,_,Z,?_];rw[hpF.length];erw[[pl,u],i,ts,t,Sl es,d,Z,r5.pt.ls,g.ml,g.dl,Se.of<|k5 _ _ tout ht,dok,λH6 s6=>hR3 _ _ ?_];obtain⟨W,eW⟩: ∃W,W=wordOf (bz (Sl es) d):=⟨_,Z⟩
  rw[<-eW];have eW:=eW.trans<|Ff dok Y;have r6:=r5.same s6;have k6: ∀b o,b∉[pl,u]->H4 b=some o->H6 b=some o:=λb o nb e=>s6 _ _<|k5 b o nb e;dsimp only[aK,x8];clear hpz hpF r5 k5 s6;show bA λD3 hR3 _=>?_;have ht6:=k6 _ _ tout ht;erw[Z,_,Z,t,Z,⟨_,Se.of ht6⟩,?_];show cH (xs:=fG d) (λi ys H2=>H2=H6/\ys=((dA d).take i).map V.str) (λi ys H2 _ h=>by rw[h.1]; show Ei<|Se.of ht6) ⟨Z,Z⟩ (ay Y) (λi ys H2 h=>by rw[h.2,NR,Oi]; show OX _ _) ?_ ?_
  .rintro j ys H6 x hj ⟨rfl,rfl⟩;obtain⟨f1,_,f3⟩:=yz dok x<|NU hj;have tk:(dA d).take (j+1)=(dA d).take j++[ix x]:=by
    rw[Ov,show (dA d)[j]?=some (ix x) from by unfold dA; rw[N7,hj]; rfl];rfl
   erw[_,Z,x,_,Z,f1,Z,?_];rw[tk,Od];rfl
  rintro ys H7 p1 ⟨e6,rfl⟩ np1;obtain rfl:H6=H7:=e6.symm;rw[OP (by rw[wl6]; show N0 _)];have js:=eK (k:=8) λw hw=>((qV dok).2.1 w hw).2;show⟨_,p1,_,Z,Z,R5.of af,uw,Y,hR3 _ _ ?_⟩;have s6:=ag.upd (o:= .lst ((dA d).map V.str)) np1;have r7:=r6.same s6;have k7: ∀b o,b∉[pl,u]->H4 b=some o->(upd H6 p1 (.lst ((dA d).map V.str))) b=some o:=λb o nb e=>s6 _ _ (k6 b o nb e);dsimp only[aK,x8];generalize upd H6 p1 (.lst ((dA d).map V.str))=H7 at r7 k7;clear s6 r6 k6 ht6 np1 js wl6 dl;have wl:W.length<=20:=by rw[eW]; show EZ _
  have vl:=r7.hF.length;show bA λD3 hR3 _=>?_;have at2':Si ([.str<|"refused: " ++ W,.str "done"]:qx V) (if decide (V.str W=V.str "")=true then 1 else 0)=some (.str<|nM W):=by
   unfold nM;by_cases c:W= "";.rw[NW c,c]; rfl
   .rw[NS c,NS (by rw[Qu]; show λz=>c<|V.str.inj z)]; rfl
  have l9:("refused: " : va).length=9:=by trivial
  have s1000:(1000:u6)<=sizeLine:=by decide
  erw[_,Z,.inl ⟨Z,_,R5.of r7.hu⟩,_,Z,_,Z,_,_,Z,Z,Y,aC,λe0 ne0=>⟨_,Z,Z,.inr ⟨_,Z,e0,_,_,_,Z,Z,R5.of af,at2',_,Z,aC,λt2 nt2=>?_⟩⟩];have se:=ag.upd (o:= .lst [.str<|"refused: " ++ W,.str "done"]) ne0;have r8:=r7.same se;erw[u,_,_,Z,Z,(ag.upd nt2) _ _ r8.hu,ay Y,hR3 _ _ ?_];obtain⟨r9,k9⟩:=r8.add up nt2 (FH dok) (show kJ (Sl es) (.deed d) (nM W) by rw[eW]; show DY _ _);have k9: ∀b o,b∉[pl,u]->H4 b=some o->_:=λb o nb e=>k9 b o nb<|se _ _<|k7 b o nb e;have el9:(es++([⟨yL " "<|dA d,.deed d,nM W,Sl es⟩]:qx En)).length<=2*i+1:=by rw[N1]; show QC rl
  have es9:Sl (es++[⟨yL " " (dA d),.deed d,nM W,Sl es⟩])=dZ (Sl es) d:=AJ;generalize es++[⟨yL " " (dA d),.deed d,nM W,Sl es⟩]=es2 at r9 el9 es9;generalize ws++[V.ref t2]=ws2 at r9 k9;generalize upd (upd (upd H7 e0 (.lst [.str ("refused: " ++ W),.str "done"])) t2 (.tup [.str (yL " " (dA d)),.str (nM W),.ref ts])) u (.lst ws2)=H10 at r9 k9;clear se r8 r7 k7 nt2 ne0 at2' l9 s1000 wl vl rl;obtain⟨w1,r1,ew1,bk⟩:=CB d;have hl10:=k9 _ _ tout ht;rw[ew1] at hl10;have a0:Si (V.str w1::r1) ((0:u6):u7)=some (.str w1):=aU rfl;show Fs (λO' H'=> ∃ts',O'=[uo sa,uo oa,uo ts',uo pl,uo u,some (.int (i:u6)),uo t,some (.str W),some (.str (yL " " (dA d))),v9]/\S3 pl u (i+1) H' ts' (dZ (Sl es) d) es2 ws2/\ ∀b o,b∉[pl,u]->H4 b=some o->H' b=some o) (λD3 mk3 _=>?_) ?_
  .exists _,Z,Z,_,Z,?_;by_cases c:W= "";rotate_left
   .have dc:decide (V.str W=V.str "")=false:=N8 λz=>c<|V.str.inj z;rw[dc];show aM<|aM ⟨_,Z,Z,_,Z,?_⟩;rw[dc];show aM<|mk3 _ _ ⟨ts,Z,?_,k9⟩;rw[show dZ (Sl es) d=Sl es by unfold dZ; rw[NS λz=>c (by rw[eW,z]; decide +kernel)]];show r9.mono (λb o _ e=>e) (λo e=>e) r9.hu<|Pe _
   have dc:decide (V.str W=V.str "")=true:=N2<|OI V.str c;have due:a9 (Sl es) d= .ok:=Ph λz=>(xU _ z).1<|eW.symm.trans c;rw[show dZ (Sl es) d=gh (Sl es) d by unfold dZ; rw[NW due]] at mk3;rw[dc];show aW ⟨_,Z,t,_,_,_,Z,Z,Se.of hl10,a0,Z,_,Z,?_⟩;obtain⟨pz,hpz,hpF⟩:=r9.pt.pv;have pzl:=hpF.length;have np': ∀b,b∉[pl,u]->b≠pl:=λb nb z=>nb (by rw[z]; simp);by_cases hb:d= .back
   .rw[show decide (V.str w1=V.str "back")=true from N2<|OI V.str<|bk.mpr hb];rw[hb] at due;rcases Qw (Sl es).ks with hk0 | ⟨ks,k,hk0⟩
    .rw[a9,NW hk0] at due; cases due
    have hk0:(Sl es).ks=ks++[k]:=(by rw[hk0,Qx]);have ebk:gh (Sl es) .back=⟨k.1,k.2,ks⟩:=by
     change (match (Sl es).ks.getLast? with | some k=>(⟨k.1,k.2,(Sl es).ks.dropLast⟩:Sb) | none=>Sl es)=_;rw[show (Sl es).ks.getLast?=some k from by rw[hk0]; simp,show (Sl es).ks.dropLast=ks from by rw[hk0]; simp]
    rw[show gh (Sl es) d=(⟨k.1,k.2,ks⟩:Sb) by rw[hb]; show ebk] at mk3;rw[hk0] at hpF;have l2:=hpF.length;rw[N1,P9] at l2;obtain⟨v,hv,t',rfl,lt⟩:=hpF.at' (i:=ks.length) (b:=k) uD;show aW ⟨_,Z,.inl ⟨Z,_,R5.of hpz⟩,pl,pz,.ref t',Z,Z,hpz,by rw[show pz.length - 1=ks.length by lia]; show hv,?_⟩;have hF3:=hpF.take ks.length;rw[Qr<|N0 _,OF] at hF3;rw[show pz.dropLast=pz.take ks.length by rw[List.dropLast_eq_take,show pz.length - 1=ks.length by lia]];have mv3: ∀b o,b∉[pl,u]->H10 b=some o->(upd H10 pl<|.lst<|pz.take ks.length) b=some o:=λb o nb e=>(ah<|np' b nb).trans e;have mv4: ∀ {t:qA}{ms:qx Mem}{ds:qx Sn},LS [pl,u] i H10 t ms ds->LS [pl,u] (i+1) (upd H10 pl<|.lst<|pz.take ks.length) t ms ds:=λl=>l.mono (λb o nb e=>⟨mv3 b o nb e,nb⟩)<|Pe _;show mk3 _ _ ⟨t',Z,⟨⟨mv4 lt,_,af,hF3.imp λv k ⟨t,e,z⟩=>⟨t,e,mv4 z⟩⟩,(ah up).trans r9.hu,r9.hF.imp λv e ⟨t,s,a,b,c,l⟩=>⟨t,s,a,b,mv3 _ _ b c,mv4 l⟩,r9.g⟩,λb o nb e=>mv3 b o nb<|k9 b o nb e⟩
   .rw[show decide (V.str w1=V.str "back")=false from N8 λz=>hb<|bk.mp<|V.str.inj z];show aM ⟨_,Z,Z,_,Z,?_⟩;rw[dc];show aW<|bA λD4 hR4 _=>?_;obtain⟨dS,ok',_⟩:=uh sd.gd.now due;have ek:(gh (Sl es) d).ks=(Sl es).ks++[((Sl es).ms,(Sl es).ds)]:=by
     cases d with
     | back=>show wz rfl hb
     | _=>rfl
    erw[_,Z,.inl ⟨Z,_,R5.of hpz⟩,_,Z,pl,_,_,Z,Z,hpz,ay Y,hR4 _ _ ?_];have mv3: ∀b o,b∉[pl,u]->H10 b=some o->(upd H10 pl<|.lst<|pz++[.ref ts]) b=some o:=λb o nb e=>(ah<|np' b nb).trans e;have mv4: ∀ {n:u6}{t:qA}{ms:qx Mem}{ds:qx Sn},i<=n->LS [pl,u] i H10 t ms ds->LS [pl,u] n (upd H10 pl<|.lst<|pz++[.ref ts]) t ms ds:=λh l=>l.mono (λb o nb e=>⟨mv3 b o nb e,nb⟩) h;have ls3:=mv4 (N0 _) r9.pt.ls;have hF3:F2 (λv k=> ∃t,v=V.ref t/\LS [pl,u] (i+1) (upd H10 pl<|.lst<|pz++[.ref ts]) t k.1 k.2) (pz++[.ref ts]) ((Sl es).ks++[((Sl es).ms,(Sl es).ds)]):=F2.append (hpF.imp λv k ⟨t,e,z⟩=>⟨t,e,mv4 (Pe _) z⟩)<|.cons ⟨ts,Z,mv4 (Pe _) r9.pt.ls⟩ .nil;have hp3:(upd H10 pl<|.lst<|pz++[.ref ts]) pl=some (.lst<|pz++[.ref ts]):=af;have hu3:=(ah (o:= .lst<|pz++[.ref ts]) up).trans r9.hu;have hE3:F2 (T4 [pl,u] (i+1)<|upd H10 pl<|.lst<|pz++[.ref ts]) ws2 es2:=r9.hF.imp λv e ⟨t,s,a,b,c,l⟩=>⟨t,s,a,b,mv3 _ _ b c,mv4 (Pe _) l⟩
    have k3: ∀b o,b∉[pl,u]->H4 b=some o->(upd H10 pl (.lst (pz++[.ref ts]))) b=some o:=λb o nb e=>mv3 b o nb (k9 b o nb e);generalize upd H10 pl (.lst (pz++[.ref ts]))=H11 at ls3 hF3 hp3 hu3 hE3 k3;have occ: ∀b∈[pl,u],∃o,H11 b=some o:=λb z=>by
     simp only[N5,OG,Px] at z;rcases z with rfl | rfl
     .nomatch _,hp3
     .nomatch _,hu3
    erw[_,Z,_,Z,[pl,u],i,ts,t,Sl es,d,Z,ls3,occ,Y,sd.gd,Se.of<|k3 _ _ tout ht,ok',dS,λz e z2=>hb<|e.trans z2,λts' H12 s12 ls4=>?_];show mk3 _ _ ⟨ts',Z,⟨⟨ls4,_,s12 _ _ hp3,?_⟩,s12 _ _ hu3,hE3.imp λv e ⟨t,s,a,b,c,l⟩=>⟨t,s,a,b,s12 _ _ c,l.same s12⟩,r9.g⟩,λb o nb e=>s12 _ _<|k3 b o nb e⟩;rw[ek];show hF3.imp λv k ⟨t,e,z⟩=>⟨t,e,z.same s12⟩
  rintro O' H11 ⟨ts',rfl,r11,k11⟩;have kl1:(dZ (Sl es) d).ks.length<=i+1:=Ob (Gh _ _) Y;rw[<-es9] at r11 kl1;clear r9 k9 es9 hl10 bk eW sd g dok;have ht11:=k11 _ _ tout ht;rw[ew1] at ht11;erw[_,Z,t,_,_,_,Z,Z,Se.of ht11,a0,Z,_,Z,?_];show bh (λ_=>?_) λ_=>nx2 _ _ ⟨ts',es2,ws2,_,_,_,_,_,Z,r11,kl1,Y,k11⟩;have sd:=pV es2;show bA λD3 hR3 _=>?_;erw[_,Z,_,Z,oa,_,_,_,Z,Z,R5.of<|k11 _ _ oout<|s4 _ _ hoa3,aU (by rw[N7,hov]; rfl),_,Z,ov,ts',[pl,u],i+1,Sl es2,Z,ho0 _ hol',r11.pt.ls,sd.gd.now,λpp x H12 npp s12 hpp hx hw=>hR3 _ _ ?_];dsimp only[aK,x8];have r12:=r11.same s12;have k12: ∀b o,b∉[pl,u]->H4 b=some o->H12 b=some o:=λb o nb e=>s12 _ _<|k11 b o nb e;have js:=eK (k:=9) λw h=>(hw w h).2;have jn:(gZ x).length<=2:=by cases x <;> show Rf rfl
  have vl:=r12.hF.length;show⟨_,Z,.inl ⟨Z,_,R5.of r12.hu⟩,Z,_,Z,_,pp,gZ x,Z,Z,R5.of hpp,uw,Y,_,Z,_,Z,ts',pp,[pl,u],i+1,Sl es2,x,Z,r12.pt.ls,sd.gd.now,sd.gb.now,sd.gb.cap,hx,hpp,λdd H13 s13 tp=>⟨_,Z,aC,λt3 nt3=>?_⟩⟩;have r13:=r12.same s13;obtain⟨r14,k14⟩:=r13.add up nt3 (AH hx hw) tp;erw[u,_,_,Z,Z,(ag.upd nt3) _ _ r13.hu,ay Y,nx2 _ _ ⟨ts',es2++[⟨yL " "<|gZ x,x,dd,Sl es2⟩],ws2++[.ref t3],_,_,_,_,_,Z,by rw[pZ hx]; show r14,by rw[pZ hx]; show kl1,by rw[N1]; show QC el9,λb o nb e=>k14 b o nb<|s13 _ _<|k12 b o nb e⟩]
 .rintro O' H5 ⟨ts,es,ws,v5,v6,v7,v8,v9,rfl,r,hk,rl,k4⟩;show hR1 _ _ ?_;have sd:=pV es;show bA λD1 hR1 _=>?_;erw[aC,λa1 n1=>⟨aC,λa2 n2=>⟨aC,λpq npq=>⟨pq,Z,⟨_,R5.of af⟩,?_⟩⟩⟩];have t1:=ag.upd (o:= .lst [.str "why"]) n1;have t2:=ag.upd (o:= .lst [.str "widths"]) n2;have t3:=ag.upd (o:= .lst [.ref a1,.ref a2]) npq;have h1:=(t2.trans t3) _ _ (af (H:=H5) (a:=a1) (o:= .lst [.str "why"]));have h2:=t3 _ _ (af (a:=a2) (o:= .lst [.str "widths"]));have h3:(upd (upd (upd H5 a1 (.lst [.str "why"])) a2 (.lst [.str "widths"])) pq (.lst [.ref a1,.ref a2])) pq=some (.lst [.ref a1,.ref a2]):=af;have t13:=t1.trans (t2.trans t3);have o1:=r.out n1;have o2:=(r.same t1).out n2;have o3:=(r.same (t1.trans t2)).out npq;have r6:=r.same t13;have k6: ∀b o,b∉[pl,u]->H4 b=some o->_:=λb o nb e=>t13 _ _ (k4 b o nb e);generalize upd (upd (upd H5 a1 (.lst [.str "why"])) a2 (.lst [.str "widths"])) pq (.lst [.ref a1,.ref a2])=H6 at h1 h2 h3 r6 k6;clear t1 t2 t3 t13 n1 n2 npq r k4;show cm (xs:=[V.ref a1,V.ref a2]) (λk O' H'=> ∃(es2:qx En) (ws2:qx V) (w9:rW V),O'=[uo sa,uo oa,uo ts,uo pl,uo u,v5,v6,v7,v8,w9]/\Sl es2=Sl es/\S3 pl u us.length H' ts (Sl es2) es2 ws2/\es2.length<=2*us.length+k/\ ∀b o,b∉[pl,u]->H6 b=some o->H' b=some o) ⟨es,ws,v9,Z,Z,r6,rl,λb o _ e=>e⟩ (λk O' H' _ ⟨_,_,_,_,_,_,_,k⟩=>bf (R5.of (k _ _ o3 h3))) ?_ ?_
  .rintro k x O' H' D2 nx2 - hi ⟨es2,ws2,w9,rfl,e2,r,rl2,k7⟩;obtain⟨pp,x1,w1,rfl,hx,hw,hpp⟩: ∃pp x1 w1,x= .ref pp/\To x1/\(gZ x1=[w1]/\TN w1)/\H' pp=some (.lst [.str w1]):=by
    have kl:=(NX.mp hi).1;rcases (by have:k < 2:=kl; lia:k=0\/k=1) with e | e <;> rw[e] at hi <;> cases hi
    .nomatch a1,.why,"why",Z,trivial,⟨Z,uw,uw⟩,k7 _ _ o1 h1
    .nomatch a2,.widths,"widths",Z,trivial,⟨Z,uw,uw⟩,k7 _ _ o2 h2
   dsimp only[aK,x8];have vl:=r.hF.length;have ri:=AH hx (by rw[hw.1]; intro y hy; rw[NZ.mp hy]; show hw.2);rw[hw.1,join_one] at ri;have ul2:us.length<=65:=Y;erw[_,Z,.inl ⟨Z,_,R5.of r.hu⟩,_,Z,pp,_,_,_,Z,Z,R5.of hpp,(show Si _ ((0:u6):u7)=_ from aU rfl),_,Z,_,Z,ts,pp,[pl,u],us.length,Sl es2,x1,Z,r.pt.ls,(pV es2).gd.now,(pV es2).gb.now,(pV es2).gb.cap,hx,(by rw[hw.1]; show hpp),λdd H13 s13 tp=>⟨_,Z,aC,λt3 nt3=>?_⟩];have r13:=r.same s13;obtain⟨r14,k14⟩:=r13.add up nt3 ri tp;erw[u,_,_,Z,Z,(ag.upd nt3) _ _ r13.hu,ay (by have:k < 2:=(NX.mp hi).1; lia),nx2 _ _ ⟨es2++[⟨w1,x1,dd,Sl es2⟩],ws2++[.ref t3],_,Z,(pZ hx).trans e2,by rw[pZ hx]; show r14,by rw[N1]; show QC rl2,λb o nb e=>k14 b o nb (s13 _ _ (k7 b o nb e))⟩]
  .rintro O' H' ⟨es2,ws2,w9,rfl,e2,r,rl2,k7⟩;have ll:es2.length<=2*us.length+2:=rl2;show hR1 _ _ ⟨_,Z,q u [pl,u] _ ws2 es2 H' (λb o e=>k7 b o (oH b o e)<|k6 b o (oH b o e)<|s04 _ _ e) r.hu r.hF r.g Y⟩
theorem Cr {ns:qx va}(h0:ns≠[]) (h: ∀y∈ns,Nm y):Bl ("ring " ++ yL " " ns) " " = xT "ring" :: ns:=by
 have e:("ring " : va)++yL " " ns=yL " " (xT "ring" :: ns):=by
  cases ns with
  | nil=>show wz rfl h0
  | cons y r =>
   show QU ?_;change _=(Vi " " (xT "ring" :: y::r)).cps.toList;rw[PM];change _=((("ring" : va)++ " ")++Bd " " (y::r)).cps.toList;rw[show yL " " (y::r)=Bd " " (y::r) from PM _ _];simp only[bS];rfl
 rw[e];show t9 (PJ _ _) λw hw=>?_;rcases N5.mp hw with rfl | hw
 .decide +kernel
 .exact uG<|h w hw
theorem FO {n:u6}{way:qx u6}(h:iq rs way):way≠[]/\way.length<=rs.length:=by
 have lt:=h.lt;obtain⟨i,q,ps,rfl,hi,_,_,_,nd⟩:=h;erw[PJ _ _,?_];rw[<-MA.nX hi] at nd;have:=sub_len (l:=i::ps) (m:=wx rs.length) (XG _ (λa b z e=>z (by rw[e])) nd) λx hx=>Oq.mpr<|lt x hx;rw[O7] at this;show this
inductive wL(K:R7)(vs:qx V)(H:Hp)(Q:VK)(_E:XK):Prop|mk(ts:qA)(os:qx qA)(n:u6)(S:Sb)(way:qx u6)(_:vs=[.ref ts,.str ("ring " ++ yL " " (aG S way))])(_:LS os n H ts S.ms S.ds)(_:Sv S.ms S.ds)(_:SM S.ms S.ds)(_:iq (aD S.ms S.ds) way)(_:∀H',ag H H'->Q (.bl true) H')
theorem vW (T:Txt K mg a):Sj P w K mg base 2 "_law_ring_told" ["_law_state","_law_found"] (wL K):=by
 exists 0,bH,62,eU;obtain⟨ts,os,n,S,way,rfl,hls,g,db,hw,q⟩:=h;erw[_,(ae (R9 2 eU.nd<|eZ lU ["_law_row"] [] [] (cS K<|R8 K aT aa) λC s2 H2 fp=>(R8 K aT aa))<|ae (R9 3 eU.nd<|show PE _ _ (SS K _ _ _ _) from c7 OL QZ Q0 qZ bY<|R6 aq) (ae (cY (cS K<|dC (Tf K) eX (eE aa) eD) (gn 4 eU.nd)<|au<|aB (f6 (rG K) gE dO) (aE jP) ax)<|ae (Tx 5 eU.nd lU ["_law_call"] ["_law_calls"] [2] TJ (cS K<|dC (Tf K) eX (eE aa) eD) λC s2 H2 fp=>⟨(gn 0<|SO ["_law_call","_law_calls"]),iL,(show PE _ _ (SS K _ _ _ _) from c7 OE OV OW fk bY<|R6 aT)⟩) (aE<|eV<|k8 (dH aR (Sa K eX aa) aq)<|iZ<|aF (AQ T:)<|aj (aF (vK T:)<|R6 aT)<|R6 gT))),?_];obtain⟨ln,la,dd,vs,kvs,l⟩:=id hls;have ml:=g.ml;have dl:=g.dl;have lt:=hw.lt;rw[ck] at lt;obtain⟨w0,wl⟩:=FO (n:=0) hw;rw[ck] at wl;have nl:(aG S way).length=way.length:=by unfold aG; rw[NR]
 have gd: ∀j,j < S.ds.length->(aN S)[j]?=some ((aN S).getD j ""):=λj hj=>L2.getD_at (by unfold aN; rw[NR]; show hj);have nN: ∀y∈aG S way,y∈aN S:=λy hy=>by
  obtain⟨j,hj,rfl⟩:=Ow.mp hy;show NU<|gd j<|lt j hj
 have es:=Cr (ns:=aG S way) (λz=>w0<|Pk (by rw[<-nl,z]; rfl)) λy hy=>g.dN y<|nN y hy;have sl:("ring " ++ yL " " (aG S way)).length<=1000:=by
  have:=fz (n:=24) (k:=8) Y<|ff g way;rw[dQ,show ("ring " : va).length=5 by trivial];lia
 generalize "ring " ++ yL " " (aG S way)=t at es sl;show bA λD1 hR1 _=>?_;erw[_,Z,ts,_,_,_,Z,Z,Se.of l.ht,Z,la,Z,⟨_,R5.of l.ha⟩,dP (λd=>V.str d.1) (λd=>rfl) (bf (R5.of l.ha)) l.ar Y λpc npc=>hR1 [uo ts,some (.str t),uo pc,none,none,none] _ ?_];rw[show S.ds.map (λd=>V.str d.1)=(aN S).map V.str by unfold aN; rw[OK]; rfl];have s1:=ag.upd (o:= .lst ((aN S).map V.str)) npc;have hpc:(upd H pc (.lst ((aN S).map V.str))) pc=some (.lst ((aN S).map V.str)):=af;generalize upd H pc (.lst ((aN S).map V.str))=H1 at s1 hpc;show bA λD1 hR1 _=>?_;show⟨_,Z,Z,_,_,Z,Z,uw,sl,λp np=>hR1 _ _ ?_⟩;rw[es];have s2:=ag.upd (o:= .lst ((xT "ring" :: aG S way).map V.str)) np;have hp:(upd H1 p (.lst ((xT "ring" :: aG S way).map V.str))) p=some (.lst ((xT "ring" :: aG S way).map V.str)):=af;have hpc2:=s2 _ _ hpc;have s12:=s1.trans s2;dsimp only[aK,x8];generalize upd H1 p (.lst ((xT "ring" :: aG S way).map V.str))=H2 at s12 hp hpc2;clear s1 s2 hpc es sl npc np;show bA λD1 hR1 _=>?_;erw[_,Z,_,Z,p,_,Z,R5.of hp,λc1 nc1=>?_];rw[show lx ((xT "ring" :: aG S way).map V.str) (some 1) none=(aG S way).map V.str from iA _ 1];have s3:=ag.upd (o:= .lst ((aG S way).map V.str)) nc1;have hc1:(upd H2 c1 (.lst ((aG S way).map V.str))) c1=some (.lst ((aG S way).map V.str)):=af;have hp3:=s3 _ _ hp;have hpc3:=s3 _ _ hpc2;have s13:=s12.trans s3;generalize upd H2 c1 (.lst ((aG S way).map V.str))=H3 at s13 hc1 hp3 hpc3;clear s3 s12 hp hpc2 nc1;erw[c1,Z,⟨_,R5.of hc1⟩,?_];show cm (xs:=(aG S way).map V.str) (λi O' H'=> ∃v4:rW V,O'=[uo ts,some (.str t),uo pc,uo p,v4,none]/\H'=H3) ⟨none,Z,Z⟩ (λi O' H' _ ⟨_,_,h⟩=>by rw[h]; show bf (R5.of hc1)) ?_ ?_
 .rintro i x O' H' D2 nx2 - hi ⟨v4,rfl,rfl⟩;obtain⟨y,hy,rfl⟩:=Ow.mp<|NU hi;dsimp only[aK,x8];erw[_,Z,_,Z,pc,_,Z,.inl<|R5.of hpc3,Z,bW _,_,Z,?_];change if (!Sq (.str y) ((aN S).map V.str))=true then _ else _;rw[cz,N2<|nN y hy];show aM<|nx2 _ _ ⟨_,Z,Z⟩
 rintro O' H' ⟨v4,rfl,rfl⟩;show hR1 _ _ ?_;show bA λD1 hR1 _=>?_;erw[_,Z,_,Z,p,_,Z,R5.of hp3,λc2 nc2=>?_];rw[show lx ((xT "ring" :: aG S way).map V.str) (some 1) none=(aG S way).map V.str from iA _ 1];have s4:=ag.upd (o:= .lst ((aG S way).map V.str)) nc2;have hc2:(upd H' c2 (.lst ((aG S way).map V.str))) c2=some (.lst ((aG S way).map V.str)):=af;have hp4:=s4 _ _ hp3;have hpc4:=s4 _ _ hpc3;have s14:=s13.trans s4;generalize upd H' c2 (.lst ((aG S way).map V.str))=H4 at s14 hc2 hp4 hpc4;erw[c2,Z,⟨_,R5.of hc2⟩,?_];show iU (xs:=(aG S way).map V.str) (bf (R5.of hc2)) (λv=>match v with | .str y=> .int ((aN S).idxOf y:u6) | _=> .non) (by rw[NR]; show ay Y) (λx hx R hR=>?_) (λpz npz=>hR1 _ _ ?_)
 .obtain⟨y,hy,rfl⟩:=Ow.mp hx;obtain⟨j,j1,j2⟩:=dG<|nN y hy;have hR:R (.int ((aN S).idxOf y:u6)) H4:=hR;rw[dF j1 j2] at hR;erw[_,Z,.inl ⟨Z,_,R5.of hpc4⟩,_,Z,pc,aN S,y,j,Z,Z,hpc4,j1,j2,hR]
 have e:((aG S way).map V.str).map (λv=>match v with | .str y=>V.int ((aN S).idxOf y:u6) | _=> .non)=aJ way:=by
  unfold aJ aG;rw[OK,OK];show PX λj hj=>?_;change V.int (((aN S).idxOf ((aN S).getD j ""):u6):u7)=V.int (j:u6);rw[show (aN S).idxOf ((aN S).getD j "")=j from DF g.dn (by rw[NR]; show lt j hj)]
 rw[e];have s5:=ag.upd (o:= .lst (aJ way)) npz;have hpz:(upd H4 pz (.lst (aJ way))) pz=some (.lst (aJ way)):=af;have hp5:=s5 _ _ hp4;have s15:=s14.trans s5;dsimp only[aK,x8];generalize upd H4 pz (.lst (aJ way))=H5 at s15 hpz hp5;erw[Q,⟨_,Z,p,_,_,_,Z,Z,R5.of hp5,(show Si _ ((0:u6):u7)=_ from aU rfl),Z,_,Z,?_⟩,λ_ _ z=>z];show aW ⟨_,Z,ts,os,n,S.ms,S.ds,Z,hls.same s15,db,Y,λpr H6 npr s6 hR=>⟨_,Z,pr,_,pz,way,S.ms.length,Z,hR.Tg,s6 _ _ hpz,Y,b9 db,hw,λH7 s7=>q _ ((s15.trans s6).trans s7)⟩⟩
theorem Ju (T:Txt K mg a):Sj P w K mg base 12 "law" ["_law_script"] (Ee K):=by
 exists 0,bH,63,sx;obtain⟨sa,ns,rfl,hS,hlen,q⟩:=h;erw[_,(ae (R9 1 sx.nd<|aF (AO T:)<|R6 aT)<|ae (R9 2 sx.nd<|aF (BQ T:)<|R6<|eZ Ln ["_law_one"] [] [] (cS K bY) λC s2 H2 fp=>(R8 K aT aa))<|ae (aB (PW.pt<|sy (lG<|eR K<|bR xg uK T.oJ boot_isinstance<|aj dO<|R6<|AA (v:= .ty "list") rfl T.sR boot_list rfl)<|pH<|aA kC (c5 K T.bZ dO)<|c5 K T.bZ bY) (aE jP) ax)<|ae (cY (fB T.cx<|c5 K T.bZ bY) (gn 3 sx.nd)<|ae (aB (lG<|eR K<|bR xg uK T.oJ boot_isinstance<|aj (Sa K dO eX)<|R6<|AA (v:= .ty "str") rfl T.nU boot_str rfl) (aE jP) ax)<|au<|aB (aA aR (R8 K (Sa K bY eX) aa) aq) (au<|aB (lG<|eR K<|aF (vW T:)<|aj (R8 K (Sa K bY eX) aa)<|R6<|Sa K dO eX) (aE jP) ax)<|au<|aB (aA kC (Sa K dO eX)<|R8 K (Sa K bY eX) aa) (aE jP) ax)<|aE jP),?_];show bA λD1 hR1 _=>?_;erw[_,Z,sa,ns,Z,hS,hlen,λu xs n ws es H1 s1 hu hF g el=>hR1 [uo sa,uo u,none,none] _ ?_];have wl:=hF.length;show bA λD1 hR1 _=>?_;erw[_,Z,u,Z,⟨_,R5.of hu⟩,?_];show cH (xs:=ws) (λi ys H2=>H2=H1/\ys=((es.take i).map (·.row)).map V.str) (λi ys H2 _ h=>by rw[h.1]; show bf<|R5.of hu) ⟨Z,Z⟩ (ay Y) (λi ys H2 h=>by rw[h.2,NR,NR,Oi]; show OX _ _) ?_ ?_
 .rintro i ys H2 x hi ⟨rfl,rfl⟩;obtain⟨e,he,t,s,rfl,_,ht,_⟩:=hF.get hi;erw[_,Z,t,_,_,_,Z,Z,Se.of ht,Z,Z,?_];rw[show es.take (i+1)=es.take i++[e] by rw[Ov,he]; rfl,Od,Od];rfl
 rintro ys H2 p ⟨e2,rfl⟩ np;obtain rfl:H1=H2:=e2.symm;rw[OP Y];have s2:=ag.upd (o:= .lst ((es.map (·.row)).map V.str)) np;have hp:(upd H1 p (.lst ((es.map (·.row)).map V.str))) p=some (.lst ((es.map (·.row)).map V.str)):=af;have hu2:=s2 _ _ hu;have hF2:F2 (T4 xs n (upd H1 p (.lst ((es.map (·.row)).map V.str)))) ws es:=hF.imp λv e ⟨t,s,a,b,c,l⟩=>⟨t,s,a,b,s2 _ _ c,l.same s2⟩
 generalize upd H1 p (.lst ((es.map (·.row)).map V.str))=H2 at hp hu2 hF2;erw[p,es.map λe=>(e.row,some e.q),Z,by rw[hp]; simp only[OK]; rfl,by rw[NR]; lia,λr hr=>?_,λqa tt H3 nqa s3 hqa tl hts=>hR1 _ _ ?_]
 .obtain⟨e,he,rfl⟩:=Ow.mp hr;show (g.ok e he).1
 rw[NR] at tl;dsimp only[aK,x8];have hu3:=s3 _ _ hu2;have hF3:F2 (T4 xs n H3) ws es:=hF2.imp λv e ⟨t,s,a,b,c,l⟩=>⟨t,s,a,b,s3 _ _ c,l.same s3⟩
 clear hF hF2 hu hu2 s1 s2 s3 hp np nqa;show bA λD1 hR1 _=>?_;erw[_,Z,_,"list",true,Z,.inl ⟨⟨_,R5.of hqa⟩,.inl ⟨Z,Z⟩⟩,_,Z,aM ?_];erw[_,Z,_,_,Z,.inl ⟨_,R5.of hqa,Z⟩,_,Z,_,_,Z,.inl ⟨_,R5.of hu3,Z⟩,Z,_,Z,?_];rw[NR,tl,wl,show (!decide (V.int ((es.length:u6):u7)=V.int ((es.length:u6):u7)))=false from by simp];show aM (hR1 _ _ ?_);show bA λD1 hR1 _=>?_;erw[_,Z,_,_,Z,.inl ⟨_,R5.of hu3,Z⟩,_,Z,Y,Y,?_];rw[Oa,wl];show cm (xs:=cf 0 es.length) (λi O' H'=> ∃v3:rW V,O'=[uo sa,uo u,uo qa,v3]/\ag H3 H') ⟨none,Z,ag.refl _⟩ (λi O' H' _ _=>cj) ?_ ?_
 .rintro i x O' H' D2 nx2 - hi ⟨v3,rfl,sm⟩;obtain⟨il,rfl⟩:=bU hi;rw[Rn];dsimp only[aK,x8];obtain⟨e,he⟩: ∃e,es[i]?=some e:=⟨_,NV il⟩
  obtain⟨t,ht⟩: ∃t,tt[i]?=some t:=⟨_,NV Y⟩
  obtain⟨v,hv,tp,s,rfl,_,htp,hls⟩:=hF3.at' he;have a1:Si (tt.map V.str) ((i:u6):u7)=some (.str t):=aU (by rw[N7,ht]; rfl);have a2:Si ws ((i:u6):u7)=some (.ref tp):=aU hv;have sd:=mX (Tt es) i;have an:=hts i (e.row,some e.q) t (by rw[N7,he]; rfl) ht;rw[show (es.map λe:En=>(e.row,some e.q)).map (·.2)=Tt es by rw[OK]; rfl,<-g.st i e he] at an;rw[<-g.st i e he] at sd;have hq':=sm _ _ hqa;have hu':=sm _ _ hu3;have ht':=sm _ _ htp;show bA λD3 hR3 _=>?_;erw[_,Z,_,Z,qa,_,_,_,Z,Z,R5.of hq',a1,_,"str",true,Z,.inl ⟨Z,Z⟩,_,Z,aM<|hR3 _ _ ?_];erw[_,Z,_,Z,u,_,_,_,Z,Z,R5.of hu',a2,tp,_,_,_,Z,Z,Se.of ht',Z,Z,_,Z,?_];rcases (g.ok e<|NU he).2 with⟨ed,eq,en⟩ | ⟨nd,k⟩
  .rw[show decide (V.str e.d=V.str "ring")=true from N2 (by rw[ed])];obtain⟨way,hw,et⟩: ∃way,iq (aD e.S.ms e.S.ds) way/\t= "ring " ++ yL " " (aG e.S way):=by
    rw[eq] at an;rcases an with⟨_,a⟩ | ⟨a,_⟩
    .rcases a with⟨way,_,hw,_,et⟩ | ⟨L,z,_⟩ | ⟨L,_,_,z,_⟩
     .nomatch way,hw,et
     .rw[(dh z).1] at en; cases en
     .rw[z] at en; cases en
    .exact wz rfl a
   show aW ⟨_,Z,_,Z,u,_,_,_,Z,Z,R5.of hu',a2,tp,_,_,_,Z,Z,Se.of ht',Z,_,Z,_,Z,qa,_,_,_,Z,Z,R5.of hq',a1,s,xs,n,e.S,way,by rw[et]; rfl,hls.same sm,sd.gd.now,sd.gb.now,hw,λH4 s4=>⟨true,Z,aM<|nx2 _ _ ⟨_,Z,sm.trans s4⟩⟩⟩
  .rw[show decide (V.str e.d=V.str "ring")=false from N8 λz=>nd<|V.str.inj z];show aM ⟨_,Z,_,Z,qa,_,_,_,Z,Z,R5.of hq',a1,_,Z,_,Z,u,_,_,_,Z,Z,R5.of hu',a2,tp,_,_,_,Z,Z,Se.of ht',Z,Z,_,Z,?_⟩;rw[k t an,show (!decide (V.str e.d=V.str e.d))=false from by simp];show aM<|nx2 _ _ ⟨_,Z,sm⟩
 .rintro O' H' ⟨v3,rfl,sm⟩;show hR1 _ _<|q _
end
end K43
namespace PySem.W.Fast
def tw1365799871123970782:=0
def tw11565887356477866135:=0
def tw9457644738528968017:=0
def tw9063581209974601996:=0
def tw13483871750512930604:=0
def tw3957020140577086683:=0
def tw2377065742552449554:=0
def tw13089145425696101577:=0
def tw8566692560384418682:=0
def tw18043515547705070292:=0
def tw14334400380924116258:=0
def tw6502009614757016246:=0
def tw1203640567480200605:=0
def tw4945023125484700202:=0
def tw14446903686480012092:=0
def tw17827349816275237927:=0
def tw16503604799813906641:=0
def tw217806150449051621:=0
def tw11311990942634520366:=0
def tw532155917556890482:=0
def tw1462363388570417139:=0
def tw12477236779130441874:=0
def tw7655733780765535241:=0
def tw14543494527678955303:=0
def tw3426244146655899544:=0
def tw3377163251352638393:=0
def tw1689512911884114950:=0
def tw11815133310927058623:=0
def tw18286510444285989774:=0
def tw6749186792176365245:=0
def tw4291947403992663997:=0
def tw8372017094885363650:=0
def tw11661520522439507121:=0
def tw5275104166427029163:=0
def tw9157766233166277814:=0
def tw276900191254319559:=0
def tw6745270829189287175:=0
def tw15662445173771078982:=0
def tw7400884514152659360:=0
def tw11266333005576132770:=0
def tw18336009197367484668:=0
def tw1004483546782436932:=0
def tw10462823255358891485:=0
def tw7157323226943667389:=0
def tw13727758483336691214:=0
def tw5869775074178736798:=0
def tw2004429892653272431:=0
def tw6671539662781009051:=0
def tw10927702123396722193:=0
def tw8982782095468278188:=0
def tw12303762362255553555:=0
def tw1975977990428986370:=0
def tw6766443835963507345:=0
def tw17832810762493247884:=0
def tw12883611406764603265:=0
def tw12169208879729189947:=0
def tw3061505367226664608:=0
def tw4540407287149530738:=0
def tw12078197470339511025:=0
def tw14036385125850632413:=0
def tw12144219001964383323:=0
def tw4931818339068997110:=0
def tw13393716994839890396:=0
def tw3911822966761775831:=0
def tw8105286580137210728:=0
def tw18072907679143538104:=0
def tw1953730013639266544:=0
def tw7087363164205320317:=0
def tw10162261650186542475:=0
def tw12794272810988722678:=0
def tw5049938566632746211:=0
def tw14837580684050291557:=0
def tw5985603213207649083:=0
def tw4575947700102564218:=0
def tw10589852877039540374:=0
def tw10384789820786522357:=0
def tw4297815677799522940:=0
def tw17509564550860494614:=0
def tw2436430616148578496:=0
def tw13840662285134618388:=0
def tw11998377969520857207:=0
def tw18149864143741734729:=0
def tw13151140602253302502:=0
def tw3599812221168652034:=0
def tw15144478949210240157:=0
def tw9522886806328261571:=0
def tw15194677677653143256:=0
def tw7660794329146396377:=0
def tw2342162976416674381:=0
def tw3083555146843318751:=0
def tw3099156064899595102:=0
def tw8204697756482127520:=0
def tw909962139066289262:=0
def tw10537605739127871514:=0
def tw3820950854562508585:=0
def tw7562738162341936171:=0
def tw7036230171218779316:=0
def tw5122598479986592350:=0
def tw3117805410874054798:=0
def tw4072513524155471345:=0
def tw14916660741923263775:=0
def tw15592503597733503220:=0
def tw16292365867040564200:=0
def tw4729025629343916280:=0
def tw1075256853248473260:=0
def tw7982776574997963206:=0
def tw5665523751781674482:=0
def tw4044913039164061210:=0
def tw18032407965281282527:=0
def tw652855882148870275:=0
def tw15895782179358418658:=0
def tw5451115657908304923:=0
def tw8720886315959548516:=0
def tw9251254348956299459:=0
def tw11352075931847760329:=0
def tw10113633348303283535:=0
def tw4843629053851084194:=0
def tw12468056908115539985:=0
def tw4049658855121997694:=0
def tw2800627017610022507:=0
def tw16501718408003591035:=0
def tw16841210941604909648:=0
def tw1958793951756489435:=0
def tw14259567150567034406:=0
def tw9394382669249122095:=0
def tw6256406686194449538:=0
def tw5038014534932180401:=0
def tw16555964942887400140:=0
def tw4083719073431646573:=0
def tw2600566901995356480:=0
def tw11115321971215774619:=0
def tw17105734189273538432:=0
def tw3875870561665922128:=0
def tw12976700725388074315:=0
def tw4601842592871327450:=0
def tw4645307673025237461:=0
def tw10299046852228243584:=0
def tw1519347263797867175:=0
def tw17422004446657770925:=0
def tw8726379862761785756:=0
def tw11057187142359033477:=0
def tw5935814137709950836:=0
def tw11117876145736562313:=0
def tw5958417227197220825:=0
def tw14521774109908397432:=0
def tw3025040443139761426:=0
def tw16543019836597025541:=0
def tw13458000181634996012:=0
def tw11686829778194249163:=0
def tw16953004092014184469:=0
def tw14421152794753865300:=0
def tw16768844195663025279:=0
def tw17471768914549835365:=0
def tw7018628199507174955:=0
def tw11987854752520908356:=0
def tw3294207632440001738:=0
def tw16679320591494977223:=0
def tw4032179966531389511:=0
def tw14461303486834830185:=0
def tw8726674845254663968:=0
def tw5881691384442657148:=0
def tw3087930071337981629:=0
def tw15073488822539589634:=0
def tw6166919519746023111:=0
def tw866181972295578391:=0
def tw16137147738898308694:=0
def tw7559721642478169944:=0
def tw14733187086340215068:=0
def tw1436386729544344128:=0
def tw6423827979329774101:=0
def tw3735931196160657922:=0
def tw15573503964815294324:=0
def tw10593858919140862235:=0
def tw1257451872593420970:=0
def tw14960451477315378940:=0
def tw5955659173916486775:=0
def tw12839042293964142746:=0
def tw2650444872407211656:=0
def tw13329661596020115408:=0
def tw16372358275692916991:=0
def tw12623968905866646781:=0
def tw5963395366235310322:=0
def tw9359851646396918218:=0
def tw14659146960756510327:=0
def tw8965485518718255041:=0
def tw2509984755537298062:=0
def tw10132887783278450463:=0
def tw7606141862916610973:=0
def tw1794474873431829559:=0
def tw8321309044312430850:=0
def tw16600912145098416112:=0
def tw2487741808284938629:=0
def tw12934262827148722498:=0
def tw13077788824491445733:=0
def tw1855370627307855064:=0
def tw14536466878294851338:=0
def tw6363168339880890052:=0
def tw1725016816398777061:=0
def tw2197550491895217540:=0
def tw8421058160353340721:=0
def tw9759700232921432183:=0
def tw18185692858882328244:=0
def tw16986091246708654948:=0
def tw10954573014370383145:=0
def tw12907853176929287446:=0
def tw10353878953881567772:=0
def tw12082823144446006594:=0
def tw14617363292964430305:=0
def tw10145990966509350382:=0
def tw11121335148682196687:=0
def tw5646969406496086949:=0
def tw15348268574248489526:=0
def tw13243576262874063271:=0
def tw3084845681875953996:=0
def tw13371576182079820281:=0
def tw16654224664025116945:=0
def tw4206677208819492370:=0
def tw2680968389699336751:=0
def tw14377279154370933912:=0
def tw1299907985909210492:=0
def tw15711770004324010422:=0
def tw11604169854571202810:=0
def tw11379788512207348971:=0
def tw16432273115848637883:=0
def tw3258896184733214771:=0
def tw10652583361077469577:=0
def tw4638043678350868854:=0
def tw18235778919619857771:=0
def tw17920647148733216968:=0
def tw3470056178338836500:=0
def tw18345442512383350833:=0
def tw6445679662584495436:=0
def tw752721798289099826:=0
def tw6983021965096011380:=0
def tw2794010874543548495:=0
def tw3256786615120559829:=0
def tw10281633210530121551:=0
def tw13057927893905991412:=0
def tw431632523902852088:=0
def tw17313074135385547300:=0
def tw14002731102354250310:=0
def tw13841657428966188514:=0
def tw1425060278451725651:=0
def tw15581777111910506867:=0
def tw9104889103679494434:=0
def tw16463279145090067994:=0
def tw13039499653676037237:=0
def tw13033670242297288393:=0
def tw2043772467426940762:=0
def tw5594160152227101288:=0
def tw11517680260483155016:=0
def tw16338815359381366824:=0
def tw3142938414758339224:=0
def tw16237122670858286235:=0
def tw15946270855453070584:=0
def tw9887966541558524804:=0
def tw12824450033614559148:=0
def tw1382151748952433059:=0
def tw11348059672489635507:=0
def tw12103405118409872982:=0
def tw127979537713004940:=0
end PySem.W.Fast
theorem PySem.Challenge.cw_stairgauge_k43_whole_desk_answers_holds : PySem.Challenge.rw_stairgauge_k43_whole_desk_answers.Holds := by
 w_on; o_law; k_head; (case hw=>w_witness2)
 k_fill
 show L2.FP (l:=PySem.Challenge.rw_stairgauge_k43_whole_desk_answers) (n:=63) (k:=12) (x:= "_law_script") (CX:=L2.S1) (sp:=K43.Ee) rfl aS rfl ⟨Z,aS,aS⟩ (λw h bV=>PySem.W.kIn_of bV) ?F (λK H a ns hl _ hS=>⟨a,ns,Z,hS,hl,λ_=>rfl⟩) (λ_ _ _ _ z=>z)
 case F =>
  intro w mg fa h KX G hmg;obtain⟨a,T⟩: ∃a:K43.Adr,K43.Txt (L2.T9 KX) mg a:=by
   dsimp only[L2.T9];have F:L2.Tn (L2.T9 KX) mg K43.top K43.fl:=by
    dsimp only[L2.T9]
    repeat' first | show L2.Tn.nil | refine' L2.Tn.cons (L2.Lz KX G ?_ ?_ ?_ ?_) ?_
    all_goals try k_is
   have C:=@L2.K9 _ _ _ KX G;have N:=@L2.La _ _ _ KX G;have V:=@L2.LX _ _ _ KX G;have X:=@L2.LA _ _ _ KX G;refine' K43.Ms ⟨L2.LZ KX G ?_ ⟨?_,?_,?_,?_⟩ ?_ ?_,L2.BE ?_,L2.BE ?_,L2.BE ?_,?_,F,C ?_ ?_ ?_ ?_ ?_ ?_,C ?_ ?_ ?_ ?_ ?_ ?_,C ?_ ?_ ?_ ?_ ?_ ?_,C ?_ ?_ ?_ ?_ ?_ ?_,V ?_ ?_,V ?_ ?_,V ?_ ?_,C ?_ ?_ ?_ ?_ ?_ ?_,C ?_ ?_ ?_ ?_ ?_ ?_,V ?_ ?_,C ?_ ?_ ?_ ?_ ?_ ?_,V ?_ ?_,C ?_ ?_ ?_ ?_ ?_ ?_,C ?_ ?_ ?_ ?_ ?_ ?_,N ?_,N ?_,N ?_,N ?_,N ?_,N ?_,N ?_,N ?_,N ?_,N ?_,N ?_,N ?_,N ?_,N ?_,N ?_,X ?_ ?_,X ?_ ?_,X ?_ ?_,X ?_ ?_,X ?_ ?_,X ?_ ?_,X ?_ ?_,X ?_ ?_,X ?_ ?_,?_,?_⟩
   all_goals try first | k_is | k_exc | rfl | decide | exact⟨_,rfl⟩ | (((try dsimp only); repeat' first | show PySem.Paired.nil | show PySem.Paired.cons ⟨_,rfl⟩ ?_ | show L2.Ts.nil | refine' L2.Ts.cons (L2.LU ?_ ?_ ?_ ?_ ?_) ?_ | refine' List.forall_mem_cons.mpr ⟨L2.Je ?_ ?_,?_⟩ | show λ_ h=>nomatch h) <;> try first | k_is | decide)
  show (L2.HD (T.g 63) (λbase=>K43.Ju T) hmg λ_ _ _ _ _ _ s u=> .of_eq rfl).imp λfd hf=>⟨hf.1,λbase _ _=>hf.2 base⟩
