import PyProof.Rows.All
import Wide.All
import OpenK.AllK
import Wide.FinOn
import Lean
import PyProof.EqAt
import PyProof.EqKinds
import PyProof.TupleCall
import PyProof.ReprRoads
import PyProof.ReprBulk
import PyProof.EnumMake
import PyProof.EnumFor
import KE.KRevSl
import KE.KDictList
import PyProof.ZipIter
import PyProof.AttrMissHeap
import KE.KDictOf
import KE.KItemsList
import PyProof.Rows.ZipGen
import PyProof.CallFns
import PyProof.NsDelKeeps
import PyProof.StrWalks
import PyProof.FString5
import KE.KSortTup
import PyProof.SetRoads
import PyProof.SetNew
import PyProof.Rows.SetFrom
import PyProof.WalksMore
import PyProof.ForAny
import PyProof.DictWalks
import PyProof.MeetsDict
import KE.KEqDict
import PyProof.AutoSeq1
import PyProof.DictItemsLoops
import KE.KPairComp
import PySem.Challenge.RW_parentlines_k56_whole_long_papers
set_option Elab.async false
set_option linter.all false
set_option maxRecDepth 100000
set_option maxHeartbeats 4000000
set_option compiler.extract_closed false
noncomputable section
abbrev am:=@List
abbrev a2:=@Option
open Option renaming some->ih,map->Uv,getD_none->UI,map_map->UL,none->U9
open PySem renaming Value->i',Str->CY,Addr->OT,Shared->OX,sizeLine->OY,wpAny->OZ,PyData->O7,model->Pb,mainGlobals->PD,Stmt->PQ,bootBuiltins->PX,compareOp->P4,starEach->Sh,Expr->Si,Paired->Sl,FuncData->Ss,DictEntry->Sz,Builtin->SA,Program->SD,Heap->SN,Str->SO,World->SQ,NameKind->SS,Around->SV,binaryOp->S1,Value->S3,IsItemIter->S8,Addr->Ta,Obj->Tp,cLine->Tq,Scope->Tr,Within->TF,SetTable->TK,IsPart->T2,Shared->T4,Env->T9,Sem->Ua,Heap->Ud,Result->Ug,Fin->Ui,BindsTo->Um,CmpOp->Uq,call->UB,IsItemIterOut->UC,GenState->UQ,Model->Vi,ElemsOf->Vk,World->Vn,Tok->Vv,Stmt->Vx,Expr->Vy,Pos->VU,Obj->VW,Params->Wq,Operator->Wr,ExceptHandler->WA,Drawn->W5,IsRangeIter->W6
open Sum renaming inr->Ct,inl->T6
open PySem.W renaming Frag->O9,emptyDict->Sq,findIn->Sx,instObj->SH,fnOf->SI,keepIn->SW,Frag->S7,codeIn->Tn,plainGet->Tw,keepIn->Tz,lookIn->TH,findIn->TM,methodObj->TV,hasDictIn->TX,takerIn->T7,isFn->Uh,plainOver->Uw,handedIn->UD,makesIn->UH,OpenLaw->UJ
open PySem.Value renaming ref->Pk,none->P0,type->S2,isStrOf->S4,bool->S',builtin->Td,str->To,int->TB,isInt->Us,float->Ut,isInt_shape->UG,bytes->Vm
open PySem.NameKind renaming free->Pu,cell->So
open PySem.PyData renaming strOk->PJ,depthAll->SJ,canLayAll0->SK,str->SM,eqv->S9,depth->TC,eqvAll->Ue,tuple->U0,list->U8
open List renaming range->Sj,length->Sk,lookup->Sv,getD->Ts,replicate->TL,nodup_range->UM,getElem_inj->UN,range_succ->US,head?_drop->UT,forIn_cons->UU,all_cons->Va,not_lt->VC
open PySem.Obj renaming mapSeq->Sm,putSet->T3,data_mapFields->UK,mapFields->Vo
open PySem.Heap renaming SameBut->Sn,get?_none_of_le->Ux,ExtBut->VD
open ForInStep renaming yield->Sr,done->W0
open PySem.Builtin.Dict_items renaming ownsTuple->Su,ownedTupleIsFree->Tt,ownedTupleFields->Tu,pairFromOwner->Tx,newIterator->UO,dictOf->UP
open PySem.Txt renaming slice->Sw,join->U7
open PySem.Builtin.List renaming listExtendWith->Sy,listTooLong->SY,listLengthHint->TZ,listSameRef->T5
open PySem.Str renaming ofString->SE,length->Ws,empty->Wz
open False renaming elim->SF
open True renaming intro->SG
open PyProof.Rows renaming StrsAre->SR,IsTup->S0,AllBare->TN,IntsAre->Uc,Subscript_->Ur,lt_str->Wd,iadd_int->We,floordiv_int->Wf,callWith_builtin1->Wg,Constant_none->WB
open PySem.Builtin.Slice renaming slicePlaces->SU,sliceAdjust->Tf,sliceApplied->TY,slicePartIndex->VR,sliceFields->VS
open PySem.Builtin.Tuple renaming tupleExact->SX,tupleItemsOf->Tb
open Or renaming inr->S5,inl->Vj
open PySem.Builtin.Dict renaming showsAll->S6,updateFrom->T8,pairItems->T',selfAndRest->Wk,noArgs->Wl,keyAndDefault->Wm,dictSlotNone->Wn,addKeywords->Wo
open PySem.Builtin.Str renaming strSliceIndices->Tc,glued->Wy
open PySem.SetTable.below renaming go->Te
open List.Perm renaming swap->Tg,trans->WX,of_eq->WY,map->WZ
open PySem.SetTable renaming grown->Ti,below->Tj,sizeAbove->W7,relaid->W8,orStandIn->W9,layClean->W',laid->Xa,fits_plain_off->Xb,fits->Xc
open PySem.Shared renaming TypeIs->Tv
open List.Pairwise renaming nil->TJ,map->VP,and_mem->VQ
open PySem.pickOrder renaming go->TQ
open Int renaming toNat->TR,natCast_add->U2
open And renaming intro->TU
open PySem.Around renaming under->T1
open PySem.Heap.IsSliceOf renaming new->Ub
open PySem.SeqAt.EqAt renaming str_int->Uj,int_str->Uk,str_str->WD,str_none->WE,str_bool->WG,same->WH,none_str->WJ,none_int->WK,none_bool->WL,int_none->WM,int_int->WN,int_bool->WO,bool_str->WQ,bool_none->WR,bool_int->WS,bool_bool->WT
open PySem.Calls renaming callWith_builtin->Ul
open PySem.Code renaming isFrame->Uo,isGuard->Vs,frames->VE
open PySem.Heap.DictOf renaming new->Up
open Classical renaming choose->Uu,not_forall->W3,choose_spec->W4
open PyProof.Rows.F renaming entry_set_update_loop->Uy
open PySem.Walks renaming list->Uz
open PySem.F renaming slot_dict_items_iter->UE,slot_dict_items->U3,slot_dict_iter->Vb,entry_list_pop->Vc,entry_any_loop->Vd,slot_set_iter->Vp,slot_list_pop->Vq,plain_set_new->Vr
open Nat renaming min_eq_right->UR,strongRecOn->U1,mul_le_mul->U',succ_pos->Vz,le_of_eq->VA,not_lt->Wt,mod_lt->Wu
open PySem.Builtin.Frozenset renaming updateFrom->UW,slot0->UX,sizeOf->UY,newClass->UZ
open Array renaming mem_def->U4,toList->Vf,ext->VX
open Std.Legacy.Range renaming size->U5,forIn_eq_forIn_range'->U6
open Bool renaming or_false->Ve,true_or->Vu
open PySem.Challenge renaming rw_parentlines_k56_whole_long_papers->Vg,pw_parentlines_k56_whole_long_papers->Vh
open PySem.W.WShape renaming has->Vl
open PySem.CmpOp renaming NotIn->Vt,In->Ww
open PySem.SeqAt renaming EqAt->Vw
open PySem.W.Looks renaming here->VB,here->VF
open PySem.EqMixed renaming ne_str_int->VG,ne_str_bool->VH,ne_int_str->VI,ne_bool_str->VJ,eq_str_int->VL,eq_str_bool->VM,eq_int_str->VN,eq_bool_str->VO
open PySem.Builtin.Range renaming rangeSize->VT
open PySem.W.WData renaming int->VV
open PySem.SeqAt.RcNeAt renaming tuples->VY
open PySem.Within renaming cons->VZ
open PySem.EqNone renaming ne_str_none->V0,ne_none_str->V1,ne_none_none->V2,ne_none_int->V3,ne_none_bool->V4,ne_int_none->V5,ne_bool_none->V6,eq_str_none->V7,eq_none_str->V8,eq_none_none->V9,eq_none_int->V',eq_none_bool->Wa,eq_int_none->Wb,eq_bool_none->Wc
open List.Sublist renaming map->Wi
open PySem.Heap.SameBut renaming refl->Wj
open PySem.Flow renaming next->Wv
open Option.some renaming injEq->Wx
open Std.Legacy renaming Range->WC
open PySem.Slot renaming of->WU
open PySem.Value.ref renaming inj->WV
open PySem.IsL renaming update->WW
open PySem.DictEntry renaming refKey->W2
open Nat.succ renaming inj->Xd
open PySem.MeetsSeq renaming list_pop_last->Xe,list_pop_at->Xf
open PySem.Manifest renaming sig_set_iterator->Xg,owners->Xh
open PySem.Heap.Ns1 renaming of_empty->Xi
open PySem.AutoSeq1 renaming sub_tuple_tuple->Xj,sub_tuple_list->Xk,sub_list_tuple->Xl,sub_list_list->Xm,idx_int->Xn
open PySem renaming wpAny_bind->ab,wpAny_pure->ai,sizeLine_eq->aQ,wpAny_holding->dO,wpAny_newObj_type->ed,wpAny_call_entry->fu,wpAny_truthy_bool->gp,wpAny_setState_of->gu,codeAny_builtin->gN,wpAny_askSetting->hH,wpAny_setField_rec->hM,boot_len->hS,wpAny_mono->iF,wpAny_rule->iG,mem_of_lookup->iJ,plainId_quiet->iL,wpAny_typeOf->jX,wpAny_standAt->lb,wpAny_passesOwn->lg,wpAny_field->lj,wpAny_callSpecial?_slot->ll,wpAny_attempt->lr,wpAny_load->m6,codeAny_mono->m7,wpAny_dictEntries->nB,wpAny_dictEpoch->nC,wpAny_execs_nil->qc,wpAny_pyIter_list->qd,wpAny_call->qe,call_meets->qg,tupleKind_room_in1->qj,wpAny_fieldsOf->qm,wpAny_pyIter_slot->qn,wpAny_Call_Name_kw->tY,seqIndex_of->tZ,wpAny_getItem_str_slice->t4,post_val_or_str->t5,wpAny_notOrdered_dict->uc,wpAny_newList->ud,fits_of_scanBound->ue,wpAny_of_eq->uf,wpAny_isInstance->ug,wpAny_typeNameOfWhole_keyiter->um,wpAny_typeNameOf_keyiter->uo,wpAny_typeNameOfWhole_itemiter->uq,wpAny_typeNameOf_itemiter->ur,wpAny_eqBool_str->Ci,noFill_tuple_add->Cu,seq_tuple_add->Cv,evalPart_none->CB,slot_list_getitem->CC,codeAny_of_tree->CH,wpAny_comprehension_free->CI,typeLookup_type->CS,builtinLookup_eq_fast->CT,wpAny_runValue->C1,isSubtype_type->C2,wpAny_handled->C3,isSubtype_stop->C4,wpAny_ite_split->C5,wpAny_updateSeq->C7,wpAny_setField->C9,size_of_entries->Dc,wpAny_isOneOf_itemiter->Dd,wpAny_getItem_list_slice->O8
open List renaming length_map->aG,mem_cons_self->aS,mem_map->aW,mem_cons_of_mem->a8,map_append->bo,mem_cons->bu,getElem?_eq_some_iff->bA,getElem?_eq_getElem->bB,size_toArray->bL,mem_singleton->b3,map_cons->b5,length_take->b9,take_length->cj,mem_append->cq,length_append->cQ,length_cons->cX,mem_of_getElem?->cY,take_succ->dd,getElem?_map->dt,length_reverse->dw,nodup_cons->dQ,mem_append_right->ee,lookup_cons->ef,nodup_append->eg,mem_reverse->ei,getElem_mem->fw,getD_eq_getElem?_getD->fy,nodup_nil->fz,mem_filter->f6,append_nil->f7,map_map->gP,filter_append->gQ,mem_append_left->hE,take_sublist->hG,nodup_iff_pairwise_ne->hO,length_filter_le->hQ,mem_range->iE,drop_eq_getElem_cons->iK,length_nil->iM,not_mem_nil->iN,map_reverse->jl,length_drop->jW,map_nil->jY,any_cons->jZ,length_singleton->j0,pairwise_map->j2,flatMap_append->j3,reverse_cons->lp,any_eq_true->lu,take_append_drop->lx,eq_nil_of_length_eq_zero->lA,mem_of_mem_take->lE,mem_flatMap->lF,reverse_perm->lG,flatMap_cons->lH,append_assoc->ni,all_eq_true->nj,drop_zero->nq,find?_cons->nu,filter_cons_of_pos->nD,filter_cons->nE,getElem_idxOf->nG,mem_iff_getElem?->nH,getElem?_reverse->nI,reverse_reverse->nJ,mem_filterMap->p9,drop_of_length_le->qi,drop_length->qq,take_of_length_le->qr,filter_cons_of_neg->qs,idxOf_lt_length_of_mem->qu,reverse_append->qv,any_map->t7,getElem_of_mem->t9,mem_iff_getElem->uj,length_pos_iff->uk,sum_cons->uu,map_take->uw,map_eq_nil_iff->ux,filterMap_cons->Cj,any_eq_false->Cn,of_mem_zip->Cq,length_replicate->Cs,length_dropLast->CD,lookup_append->CG,length_range->CK,length_erase_of_mem->CL,length_pos_of_mem->CM,mem_erase_of_ne->CN,ext_getElem->CV,getElem?_eq_none->C6,map_congr_left->C8,length_eq_one_iff->De,filter_nil->Dh,map_drop->Di,filter_eq_self->Dl,append_inj'->Dm,getElem?_drop->Dn,flatMap_nil->Dq,append_eq_nil_iff->Dr,getElem?_take->Ds,getElem?_set_self->OU,getElem?_set_ne->OV,getElem?_append_right->O5,getElem?_append_left->O6,eraseIdxIfInBounds_toArray->Pa,length_eraseIdx->Pl,getElem?_inj->Pw,length_eq_zero_iff->PF,cons_lt_cons_iff->PR,replicate_succ'->PU,countP_eq_length_filter->PV,mem_of_mem_drop->PY,reverse_eq_nil_iff->P1
open Nat renaming le_refl->aK,zero_le->bp,ne_of_lt->bG,le_trans->eS,lt_of_lt_of_le->e4,le_succ->gq,lt_irrefl->hC,ne_of_gt->iH,lt_succ_self->jU,lt_trans->lq,lt_succ_of_lt->lz,not_lt_zero->ny,le_of_lt->qb,sub_zero->qk,lt_or_ge->qw,lt_of_succ_lt_succ->uh,min_eq_left->uv,le_antisymm->CQ,le_succ_of_le->CZ,add_mul->Dp,le_of_succ_le->Pf,lt_of_le_of_lt->Py
open Ne renaming symm->aN
open PySem.Heap renaming get?_push_of_some->aZ,lt_size->br,get?_push_size->bK,size_push->gM,get?_update_other->m9,get?_update_self->qf
open Bool renaming false_ne_true->bV,and_eq_true->jj,eq_iff_iff->jT,false_eq_true->ng,false_or->CP
open Option.some renaming inj->c3
open PySem.Paired renaming length->c5,snoc->hJ
open PySem.PassesOwn renaming never->eh
open Array renaming length_toList->eT,getD_eq_getD_getElem?->hK,getElem?_eq_getElem->lB,getElem?_toList->nc,getElem?_eq_none->nA,size_append->qh,toList_inj->t6,getElem?_eq_some_iff->CJ,mem_of_getElem?->Pg,perm_iff_toList_perm->Ph,toList_push->Pj
open Int renaming toNat_natCast->ft,eq_ofNat_of_zero_le->nF,emod_nonneg->Df,emod_lt_of_pos->Dg,fdiv_eq_ediv_of_nonneg->O0,lt_of_lt_of_le->PN
open Sum.inr renaming inj->f5
open Option renaming map_eq_some_iff->gO,map_some->qa,bind_some->t2,isSome_map->ub,isSome_iff_exists->Cr,isSome_some->Pd
open PySem.W renaming kia_one->hF,plainGet_of->Co,callWith_K->Cp,kitx_list->O1,kitx_dict->O2,methodCall_KW->O3,cellsFrom_some->O4
open PySem.Around renaming under_plainId->hI
open PySem.F renaming plainAttrs_list->hR,called_set->j1,slot_list_append->lC,type_list_append->lD,slot_dict_keyiterator_next->qo,slot_dict_itemiterator_next->qp,plain_any_loop->t8,plain_list_iadd->ui,slot_tuple_add->Cy,entry_tuple_add->Cz,args_tuple_add_2->CA,slot_tuple_getattribute->CU,slot_list_pop->Dj,type_list_pop->Dk,attrBase_ValueError->Pe,plain_extend_loop->Po,entry_proto_collect->Pp,plain_proto_collect->Pq,entry_list_iadd->Pr,slot_tuple_index->Px,entry_dict_keyiterator_next->Pz,args_dict_keyiterator_next_1->PB,entry_dict_itemiterator_next->PK,args_dict_itemiterator_next_1->PL,slot_dict_get->PM
open List.Perm renaming refl->jk,append_left->Pn
open Prod renaming ext->jV
open PySem.Heap.SameBut renaming update->ly
open PyProof.Rows renaming slot_tuple_getitem->m8,assignInOrder_cons->Ck,callWith_type1->Cm
open List.cons renaming inj->qt
open PySem.Value renaming isStrOf_shape->Cg
open PyProof.Rows.F renaming plain_set_update_loop->C0
open PySem.Calls renaming Name_function_global->OW,call_function_entry->Pt
open PySem.AutoSeq1 renaming wpAny_loadPart'->PH
open PySem.SeqAt renaming eqv_refl->P2
def au:=@if_neg
def aB:=@if_pos
def b2:=@congrArg
def cE:=@decide_eq_true
def eF:=@decide_eq_false
def eG:=@of_decide_eq_true
def gr:=@if_false
def gs:=@if_true
def iD:=@beq_eq_false_iff_ne
def iI:=@beq_iff_eq
def iO:=@or_false
def nz:=@not_or
def CF:=@beq_self_eq_true
def O':=@PySem.evalArgs_none
def PZ:=@not_false_eq_true
variable{us its:am S3}{x n name qual q:SO}{u Qc pm Qa ct oc vl vu dv:S3}{a b l it D p dx C f R sl d I fL fD fM fI fE fN fC fS fT fG:Ta}{o ol:VW}{i t' j n1 ep:Nat}{h h' g base:Ud}{items:Array S3}{P prog:PySem.Program}{w:Vn}{e c tg iter value Ql:Vy}{L Ps:SO->List SO}{J:am (Ta×VW)}{s s' s2:T4}{ch fp:am Ta}{N ys ns ps Qo N' ks r own line NU rn rl:am SO}{A:PySem.Around}{E:S3->T4->Prop}{pos Qg Qi tp:PySem.Pos}{K:O9}{st:Vx}{es Qe Qp:am Vy}{body:am Vx}{lo m z bg bh:Int}{mA mg:SO->Option S3}{kw:am (SO×S3)}{env:PySem.Env}{fd dL dD dI dW dE dN dC dS dT dG dR:PySem.FuncData}{kindOf:SO->Option PySem.NameKind}{sc scope:PySem.Scope}{an od:a2 Ta}{Qm:Array (Option S3)}{T:String}{hi:a2 Int}{XP:(SO->Option S3)->Ud->Prop}{YP:Vn->Ud->Prop}{B:Prop}{cells:am (SO×Ta)}{Qd:am (Option Nat)}{tn:Nat->Ud->Prop}{RR:S3->Ta->PySem.Result->T4->Prop}{tk:PySem.Tok}{rest rows:am (List SO)}{av:Ta->Prop}{Qb:am (SO×List SO)}{dn:SO->Bool}
open PySem
namespace L2
open Spec PyProof.Rows
abbrev Key:=Sum Int CY
def kJ:Key->i'->Bool
 |.inl k,v=>Us k v
 |.inr x,v=>S4 x v
def Kk(w:SQ):Key->Int
 |.inl k=>hashInt k
 |.inr x=>hashStr w x
theorem hU:∀{k:Key}{v:i'},kJ k v=true->(∃i t,k=T6 i/\v=TB i t)\/(∃x t,k=Ct x/\v=To x t)
 |.inl i,v,h=>by
  obtain⟨t,e⟩:=UG (k:=i) (v:=v) h;exact .inl ⟨i,t,rfl,e⟩
 |.inr x,v,h=>by
  obtain⟨t,e⟩:=Cg (x:=x) (v:=v) h;exact .inr ⟨x,t,rfl,e⟩
theorem ED(i:Int)(t:Vv):kJ (.inl i) (.int i t)=true:=by simp[kJ,Us]
theorem EE(x:CY)(t:Vv):kJ (.inr x) (.str x t)=true:=by simp[kJ,S4]
theorem H7(a b:Int):decide ((T6 a:Key)=T6 b)=(a==b):=by
 by_cases e:a=b
 ·subst e;simp
 ·have h : ¬ (T6 a:Key)=T6 b:=λq=>e (Sum.inl.inj q)
  rw[eF h];exact(iD.mpr e).symm
theorem H'(a b:CY):decide ((Ct a:Key)=Ct b)=decide (a=b):=by
 by_cases e:a=b
 ·subst e;simp
 ·have h : ¬ (Ct a:Key)=Ct b:=λq=>e (f5 q)
  rw[eF h,eF e]
theorem Ia(a:Int)(b:CY):decide ((T6 a:Key)=Ct b)=false:=eF (λq=>nomatch q)
theorem Ib(a:CY)(b:Int):decide ((Ct a:Key)=T6 b)=false:=eF (λq=>nomatch q)
def cu(prog:SD)(w:SQ):PySem.KeyKind prog w Key where
 is:=kJ
 hash:=Kk w
 inj:=λv a b ha hb=>by
  rcases hU ha with⟨i,t,rfl,rfl⟩|⟨x,t,rfl,rfl⟩
  ·rcases hU hb with⟨j,u,rfl,e⟩|⟨y,u,rfl,e⟩
   ·injection e with e1 _;rw[e1]
   ·exact nomatch e
  ·rcases hU hb with⟨j,u,rfl,e⟩|⟨y,u,rfl,e⟩
   ·exact nomatch e
   ·injection e with e1 _;rw[e1]
 byValue:=λk v h=>by
  rcases hU h with⟨i,t,rfl,rfl⟩|⟨x,t,rfl,rfl⟩ <;> rfl
 pyHash:=λhv h=>by
  rcases hU hv with⟨i,t,rfl,rfl⟩|⟨x,t,rfl,rfl⟩
  ·exact wpAny_pyHash_int h
  ·exact wpAny_pyHash_str h
 eqBool:=λhu hv h=>by
  rcases hU hu with⟨i,t,rfl,rfl⟩|⟨x,t,rfl,rfl⟩
  ·rcases hU hv with⟨j,u,rfl,rfl⟩|⟨y,u,rfl,rfl⟩
   ·rw[H7]at h;exact wpAny_eqBool_int h
   ·rw[Ia]at h;exact Uk i t y u _ _ _ _ h
  ·rcases hU hv with⟨j,u,rfl,rfl⟩|⟨y,u,rfl,rfl⟩
   ·rw[Ib]at h;exact Uj x t j u _ _ _ _ h
   ·rw[H']at h;exact Ci h
 «strs» :=λk x t v h=>by
  rcases hU h with⟨i,u,rfl,e⟩|⟨y,u,rfl,e⟩
  ·exact nomatch e
  ·injection e with e1 _
   subst e1;cases v <;> rfl
theorem DQ(prog:SD)(w:SQ)(i:Int)(t:Vv):(cu prog w).is (.inl i) (.int i t)=true:=ED i t
theorem DR(prog:SD)(w:SQ)(x:CY)(t:Vv):(cu prog w).is (.inr x) (.str x t)=true:=EE x t
inductive V where
 |aM|bl (b:Bool)|int (i:Int)|str (x:CY)|e0 (b:Array UInt8)|i8 (b:UInt64)|ref (a:OT)|ty (n:String)
 deriving DecidableEq
def RelV:V->i'->Prop
 |.aM,u=>u=P0
 |.bl b,u=>u=S' b
 |.int i,u=>∃t,u=TB i t
 |.str x,u=>∃t,u=To x t
 |.e0 b,u=>∃t,u=Vm b t
 |.i8 b,u=>∃t,u=Ut b t
 |.ref a,u=>u=Pk a
 |.ty n,u=>u=S2 n
abbrev Vals:List V->List i'->Prop:=Sl RelV
theorem Vals.length{xs:am V}(r:Vals xs us):xs.length=us.length:=c5 r
theorem Vals.get:∀{xs:am V}{us:am i'}{i:Nat}{x:V},Vals xs us->xs[i]?=ih x ->∃u,us[i]?=ih u/\RelV x u
 |_,_,_,_,.nil,e=>by simp at e
 |_,_,0,_,.cons r _,e=>by simp at e;subst e;exact⟨_,rfl,r⟩
 |_,_,i+1,x,.cons _ t,e=>by
  obtain⟨u,h1,U⟩:=Vals.get (i:=i) (x:=x) t (by simpa using e)
  exact⟨u,by simpa using h1,U⟩
theorem Vals.set{x:V}{u:i'}(r:RelV x u):∀{xs:am V}{us:am i'} (i:Nat),Vals xs us->Vals (xs.set i x) (us.set i u)
 |_,_,_,.nil=>.nil
 |_,_,0,.cons _ t=>.cons r t
 |_,_,i+1,.cons q t=>.cons q (Vals.set r i t)
theorem Vals.append:∀{xs ys:am V}{us ws:am i'},Vals xs us->Vals ys ws->Vals (xs++ys) (us++ws)
 |_,_,_,_,.nil,s=>s
 |_,_,_,_,.cons r t,s=>.cons r (Vals.append t s)
theorem Vals.take:∀{xs:am V}{us:am i'} (n:Nat),Vals xs us->Vals (xs.take n) (us.take n)
 |_,_,0,_=>.nil
 |_,_,_+1,.nil=>.nil
 |_,_,n+1,.cons r t=>.cons r (Vals.take n t)
theorem Vals.drop:∀{xs:am V}{us:am i'} (n:Nat),Vals xs us->Vals (xs.drop n) (us.drop n)
 |_,_,0,r=>r
 |_,_,_+1,.nil=>.nil
 |_,_,n+1,.cons _ t=>Vals.drop n t
def dZ:Option V->Option i'->Prop
 |some v,ih u=>RelV v u
 |none,none=>True
 |_,_=>False
def KV{κ:Type}:List (κ×V)->List (κ×i')->Prop:=Sl λ(p:κ×V) (q:κ×i')=>p.1=q.1/\RelV p.2 q.2
def kV:Key->V
 |.inl i=>.int i
 |.inr x=>.str x
inductive HO where
 |lst (xs:List V)
 |tup (xs:List V)
 |dK (kvs:List (Key×V))|dT (kvs:List (List Key×V))
 |set (S:Int->Bool) (n:Nat)
 |ins (C dx:OT) (fs:List (CY×V))
 |own (x:OT)
 |xd (fs:List (CY×V))
 |met (f x:OT)
 |pT (lo hi:Int)
 |bw (o:Tp) (u:HO)
 |i9 (ps:Array i')
 |ext (φ:SN->Prop)
abbrev bi(x:List V):Option HO:=ih (.tup x)
abbrev bm(x:List V):Option HO:=ih (.lst x)
abbrev bn(x:List (Key×V)):Option HO:=ih (.dK x)
abbrev ce(x:List (List Key×V)):Option HO:=ih (.dT x)
abbrev bd(x:OT):Option V:=ih (.ref x)
abbrev Hp:=OT->Option HO
def upd(H:Hp)(a:OT)(o:HO):Hp:=λb=>if b=a then ih o else H b
theorem af{H:Hp}{o:HO}:upd H a o a=ih o:=by unfold upd;rw[aB rfl]
theorem ag{H:Hp}{o:HO}(h:b≠a):upd H a o b=H b:=by unfold upd;rw[au h]
theorem eN{H:Hp}{o u:HO}:upd (upd H a o) a u=upd H a u:=by
 funext b;unfold upd;split <;> rfl
theorem rq{l:am CY}{x:V}(h:(l.map V.str)[i]?=ih x):∃h:i<l.length,V.str l[i]=x:=by
 have a:i<l.length:=by simpa using (bA.mp h).1
 exact⟨a,by simpa [a] using h⟩
theorem aj{H:Hp}{o u:HO}(h:H a=ih o)(h':H b=ih u)(d:o≠u:=by intro z;cases z):a≠b:=by
 intro e;subst e;rw[h]at h';exact d (c3 h')
theorem ax{H:Hp}{o:HO}(h:H a=ih o)(h':H b=none):a≠b:=by
 intro e;subst e;rw[h]at h';cases h'
def ib(h:SN)(a:OT)(items:Array i'):Prop:= ∃o,h.get? a=ih o/\o.cls=.type "tuple" /\∃n,o.data=.seq items n/\o.dict=none
theorem ib.is(x:ib h a items):S0 h a items:=let ⟨o,e,c,n,d,_⟩:=x;⟨o,e,c,n,d⟩
theorem ib.new(h:SN)(items:Array i'):ib (h.push { cls:=.type "tuple",data:=.seq items }) h.objs.size items:=⟨_,bK _ rfl,rfl,_,rfl,rfl⟩
section
variable(P:SD)(w:SQ)
def bO(H:Hp)(h:SN)(a:OT):HO->Prop
 |.lst xs=>xs.length<=OY /\∃(its:List i') (n:Nat),Vals xs its/\h.get? a=ih { cls:=.type "list",data:=.seq its.toArray n }
 |.tup xs=>xs.length<=OY /\∃its:List i',Vals xs its/\ib h a its.toArray
 |.dK kvs=>kvs.length<=OY/\(a==sysModules)=false /\∃vs,KV kvs vs/\h.DictOf (cu P w) a vs
 |.dT kvs=>kvs.length<=OY/\(a==sysModules)=false /\∃xs:List (List Key×OT×i'),
   Sl (λ(p:List Key×V) (q:List Key×OT×i')=>p.1=q.1/\H q.2.1=ih (.tup (p.1.map kV))/\RelV p.2 q.2.2) kvs xs /\
   ∃o es ep,h.get? a=ih o/\o.ExactDict/\o.data=.dict es ep/\es.toList=xs.map (entryOfKey (tupleKind (cu P w)))/\(xs.map (·.1)).Nodup
 |.set S n=>h.SetOf (intKind P w) a S n
 |.ins C dx fs=>H dx=ih (.own a)/\fs.length<=1000/\dx≠a/\h.get? a=ih (SH C dx) /\
   ∃mA,h.Ns1 dx mA/\(∀f,dZ (fs.lookup f) (mA f))/\TF mA (fs.map (·.1))
 |.own _=>∃o,h.get? a=ih o
 |.xd fs=>∃mA,h.Ns1 a mA /\∀f,dZ (fs.lookup f) (mA f)
 |.pT lo hi=>∃t u v,h.get? a=ih { cls:=.type "range",data:=.fields #[.int lo t,.int hi u,.int 1 v] }
 |.bw o u=>h.get? a=ih o/\bO H h a u
 |.i9 ps=>h.get? a=ih { cls:=.none,data:=.fields ps }
 |.met f x=>h.get? a=ih (TV (.ref f) (.ref x))
 |.ext φ=>φ h/\(∃o,h.get? a=ih o) /\∀h1 U:SN,φ h1->(∀o,h1.get? a=ih o->U.get? a=ih o)->φ U
def cz(H:Hp)(h:SN):Prop:= ∀a o,H a=ih o->bO P w H h a o
end
section
variable{H Y:Hp}{o:HO}
theorem bO.lt(x:bO P w H h a o):a<h.objs.size:=by
 cases o with
 |lst xs=>obtain⟨_,_,_,_,e⟩:=x;exact br e
 |tup xs=>obtain⟨_,_,_,p⟩:=x;exact p.is.lt
 |dK kvs=>obtain⟨_,_,_,_,o,_,_,e,_⟩:=x;exact br e
 |dT kvs=>obtain⟨_,_,_,_,o,_,_,e,_⟩:=x;exact br e
 |set S n=>obtain⟨o,_,_,_,e,_⟩:=x;exact br e
 |ins C dx fs=>obtain⟨_,_,_,e,_⟩:=x;exact br e
 |own y=>obtain⟨_,e⟩:=x;exact br e
 |xd fs=>obtain⟨_,⟨_,_,_,e,_⟩,_⟩:=x;exact br e
 |pT lo hi=>obtain⟨_,_,_,e⟩:=x;exact br e
 |bw b u=>obtain⟨e,_⟩:=x;exact br e
 |i9 ps=>exact br (show h.get? a=ih _ from x)
 |met f y=>exact br (show h.get? a=ih _ from x)
 |ext c=>obtain⟨_,⟨_,e⟩,_⟩:=x;exact br e
theorem Paired.oR{α β:Type}{F G:α->β->Prop}:∀{c:am α}{d:am β},Sl F c d->(∀a b,F a b->G a b)->Sl G c d
 |_,_,.nil,_=>.nil
 |_,_,.cons r t,f=>.cons (f _ _ r) (Paired.oR t f)
theorem Paired.imp'{α β:Type}{F G:α->β->Prop}(f:∀a b,F a b->G a b){c:am α}{d:am β}(r:Sl F c d):Sl G c d:=Paired.oR r f
theorem bO.gi(x:bO P w H h a o)(k:∀b u,(b=a\/H b=ih (.own a))->h.get? b=ih u->h'.get? b=ih u)
  (i:∀b,H b=ih (.own a)->Y b=ih (.own a)) (j:∀b xs,H b=bi xs->Y b=bi xs):bO P w Y h' a o:=by
 induction o with
 |lst xs=>obtain⟨z,its,n,r,e⟩:=x;exact⟨z,its,n,r,k _ _ (.inl rfl) e⟩
 |tup xs=>obtain⟨z,its,r,g,e,c⟩:=x;exact⟨z,its,r,g,k _ _ (.inl rfl) e,c⟩
 |dK kvs=>obtain⟨z,y,vs,r,g,es,ep,e,c⟩:=x;exact⟨z,y,vs,r,g,es,ep,k _ _ (.inl rfl) e,c⟩
 |dT kvs =>
  obtain⟨z,y,xs,r,g,es,ep,e,c⟩:=x;exact⟨z,y,xs,Paired.oR r λp q z=>⟨z.1,j _ _ z.2.1,z.2.2⟩,g,es,ep,k _ _ (.inl rfl) e,c⟩
 |set S n=>obtain⟨g,es,ep,t,e,c⟩:=x;exact⟨g,es,ep,t,k _ _ (.inl rfl) e,c⟩
 |ins C dx fs =>
  obtain⟨d,z,ne,e,mA,⟨od,es,ep,l,c⟩,r⟩:=x;exact⟨i _ d,z,ne,k _ _ (.inl rfl) e,mA,⟨od,es,ep,k _ _ (.inr d) l,c⟩,r⟩
 |own y=>obtain⟨g,e⟩:=x;exact⟨g,k _ _ (.inl rfl) e⟩
 |xd fs=>obtain⟨mA,⟨od,es,ep,e,c⟩,r⟩:=x;exact⟨mA,⟨od,es,ep,k _ _ (.inl rfl) e,c⟩,r⟩
 |pT lo hi=>obtain⟨t,u,v,e⟩:=x;exact⟨t,u,v,k _ _ (.inl rfl) e⟩
 |bw g u m=>obtain⟨e,q⟩:=x;exact⟨k _ _ (.inl rfl) e,m q⟩
 |i9 ps =>
  have e:h.get? a=ih { cls:=.none,data:=.fields ps }:=x;show h'.get? a=ih { cls:=.none,data:=.fields ps };exact k a _ (.inl rfl) e
 |met f y =>
  have e:h.get? a=ih (TV (.ref f) (.ref y)):=x;show h'.get? a=ih (TV (.ref f) (.ref y));exact k a _ (.inl rfl) e
 |ext s=>obtain⟨p,⟨o,e⟩,st⟩:=x;exact⟨st _ _ p λo q=>k _ _ (.inl rfl) q,⟨o,k _ _ (.inl rfl) e⟩,st⟩
theorem cz.lt(x:cz P w H h)(e:H a=ih o):a<h.objs.size:=(x a o e).lt
theorem cz.fresh(x:cz P w H h)(e:h.objs.size<=a):H a=none:=by
 cases q:H a with
 |none=>rfl
 |some u=>exact absurd (e4 (x.lt q) e) (hC _)
theorem cz.kept(x:cz P w H h)(k:∀b u,h.get? b=ih u->h'.get? b=ih u):cz P w H h':=λa o e =>
 (x a o e).gi (λb u _ q=>k b u q) (λ_ q=>q) λ_ _ q=>q
theorem cz.laid(x:cz P w H h)(k:∀b u,h.get? b=ih u->h'.get? b=ih u)(g:h.objs.size<=a)(new:bO P w (upd H a o) h' a o):cz P w (upd H a o) h':=λb u e=>by
 have d:=x.fresh g
 by_cases f:b=a
 ·subst f;rw[af]at e;cases e;exact new
 ·rw[ag f]at e
  exact(x b u e).gi (λc v _ q=>k c v q) (λc q=>by rw[ag (ax q d)];exact q) λc xs q=>by rw[ag (ax q d)];exact q
end
def Rd(H:Hp)(a:OT)(u:HO):Prop:=H a=ih u \/∃o,H a=ih (.bw o u)
theorem Rd.of{H:Hp}{u:HO}(h:H a=ih u):Rd H a u:=.inl h
theorem Rd.ok{H:Hp}{u:HO}(r:Rd H a u)(x:cz P w H h):bO P w H h a u:=by
 rcases r with r|⟨o,r⟩
 ·exact x a u r
 ·obtain⟨_,q⟩:=x a _ r
  exact q
def mT:Option HO->Prop
 |some (.lst _)=>True
 |some (.dK _)=>True
 |some (.dT _)=>True
 |some (.set _ _)=>True
 |some (.ins _ _ _)=>True
 |some (.ext _)=>True
 |_=>False
section
variable{H:Hp}{x e:OT}{o':HO}
theorem cz.write(ok:cz P w H h)(d:mT (H x))(i:e=x\/H e=ih (.own x))(k:∀b u,b≠e->h.get? b=ih u->h'.get? b=ih u)(m:∃u,h'.get? e=ih u)
  (new:bO P w (upd H x o') h' x o'):cz P w (upd H x o') h':=λb u q=>by
 have g:∀c y,H c=ih (.own y)->c≠x:=λc y r z=>by subst z;rw[r]at d;exact d
 have l:∀c xs,H c=bi xs->c≠x:=λc xs r z=>by subst z;rw[r]at d;exact d
 by_cases f:b=x
 ·subst f;rw[af]at q;cases q;exact new
 ·rw[ag f]at q
  by_cases a:b=e
  ·have j:H b=ih (.own x):=by
    rcases i with z|z
    ·exact absurd (a.trans z) f
    ·rw[a];exact z
   rw[q]at j;cases j;obtain⟨v,hv⟩:=m;exact⟨v,by rw[a];exact hv⟩
  ·refine(ok b u q).gi (λc v hc r=>k c v ?_ r) (λc r=>by rw[ag (g c b r)];exact r) λc xs r=>by rw[ag (l c xs r)];exact r
   rcases hc with rfl|hc
   ·exact a
   ·rintro rfl
    rcases i with z|z
    ·exact g c b hc z
    ·rw[hc]at z;cases z;exact f rfl
end
structure Un(fs ex:List OT)(H Y:Hp)(h h':SN):Prop where
 keep:∀b o,h.get? b=ih o->H b=none->b ∉ fs->b ∉ ex->h'.get? b=ih o
 slot:∀b o,h.get? b=ih o->H b=none->b∈fs->b ∉ ex ->∃sl,h'.get? b=ih { o with slots:=sl }
 free:∀b o,h.get? b=ih o->H b=none->b ∉ ex->Y b=none
 there:∀b o,h.get? b=ih o->b ∉ ex ->∃o',h'.get? b=ih o'
 i4:∀b xs,H b=ih (.tup xs)->Y b=ih (.tup xs)
 i5:∀b o u,H b=ih (.bw o u)->Y b=ih (.bw o u)
 jE:∀b ps,H b=ih (.i9 ps) ->∃Kl,Y b=ih (.i9 (ps++Kl))
section
variable{fs Qn ex Qs:am OT}{H O H2:Hp}{h1 U:SN}{x e:OT}{o:HO}
theorem Un.any(u:Un fs ex H O h h1){a:Tp}(q:h.get? b=ih a)(n:H b=none)(c:b ∉ ex):∃sl,h1.get? b=ih { a with slots:=sl }:=by
 by_cases d:b∈fs
 ·exact u.slot b a q n d c
 ·exact⟨a.slots,u.keep b a q n d c⟩
theorem Un.kept(k:∀b u,h.get? b=ih u->h'.get? b=ih u):Un fs ex H H h h':=
 ⟨λb a q _ _ _=>k b a q,λb a q _ _ _=>⟨a.slots,k b a q⟩,λ_ _ _ n _=>n,λb a q _=>⟨a,k b a q⟩,λ_ _ q=>q,λ_ _ _ q=>q,λ_ ps q=>⟨#[],by rw[q];simp⟩⟩
theorem Un.refl:Un fs ex H H h h:=Un.kept λ_ _ q=>q
theorem Un.laid(k:∀b u,h.get? b=ih u->h'.get? b=ih u)(d:h.objs.size<=a)(c:H a=none):Un fs ex H (upd H a o) h h' where
 keep:=λb u q _ _ _=>k b u q
 slot:=λb u q _ _ _=>⟨u.slots,k b u q⟩
 free:=λb u q n _=>by rw[ag (bG (e4 (br q) d))];exact n
 there:=λb u q _=>⟨u,k b u q⟩
 i4:=λb xs q=>by rw[ag (ax q c)];exact q
 i5:=λb u xs q=>by rw[ag (ax q c)];exact q
 jE:=λb ps q=>⟨#[],by rw[ag (ax q c),q];simp⟩
theorem Un.write(a:mT (H x))(j:e=x\/H e=ih (.own x))(k:∀b u,b≠e->h.get? b=ih u->h'.get? b=ih u)(i:∃u,h'.get? e=ih u):Un fs ex H (upd H x o) h h':=by
 have f:∀b,H b=none->b≠x:=λb n z=>by subst z;rw[n]at a;exact a
 have g:∀b,H b=none->b≠e:=λb n z=>by
  subst z;rcases j with r|r
  ·exact f b n r
  ·rw[n]at r;cases r
 have c:∀b u,H b=ih u ->¬ mT (ih u)->b≠x:=λb u q l z=>by subst z;rw[q]at a;exact l a
 refine⟨λb u q n _ _=>k b u (g b n) q,λb u q n _ _=>⟨u.slots,k b u (g b n) q⟩,λb u q n _=>by rw[ag (f b n)];exact n,λb u q _=>?_,
  λb xs q=>by rw[ag (c b _ q λz=>z)];exact q,λb u xs q=>by rw[ag (c b _ q λz=>z)];exact q,λb ps q=>⟨#[],by rw[ag (c b _ q λz=>z),q];simp⟩⟩
 by_cases d:b=e
 ·subst d;exact i
 ·exact⟨u,k b u d q⟩
end
def gm(h:SN)(H:Hp):List OT:=(Sj h.objs.size).filter λa=>(H a).isSome
def ic(h:SN)(H:Hp):SN:=PySem.W.hideAll h (gm h H)
theorem EF(h:SN)(H:Hp):(ic h H).objs.size=h.objs.size:=PySem.W.hideAll_size _ _
theorem Fu{H:Hp}(e:h.get? b=ih o)(n:H b=none):(ic h H).get? b=ih o:=
 PySem.W.hideAll_get _ e λa=>by
  have q:(H b).isSome=true:=(f6.mp a).2;rw[n]at q;simp at q
theorem GG{H:Hp}(e:(ic h H).get? b=ih o):h.get? b=ih o/\H b=none:=by
 have a:h.get? b=ih o:=PySem.W.of_hideAll (gm h H) e;refine⟨a,?_⟩;cases q:H b with
 |none=>rfl
 |some x =>
  have c:b∈gm h H:=f6.mpr ⟨iE.mpr (br a),by simp[q]⟩
  have z:(ic h H).get? b=none:=PySem.W.hideAll_none (gm h H) c;rw[z]at e;cases e
def rx(g h:SN)(L:OT):List (OT×Tp):=(Sj h.objs.size).filterMap λa=>if a=L\/(g.get? a).isSome=true then none else (h.get? a).map λo=>(a,o)
theorem uH{L:OT}(h1:a≠L)(U:g.get? a=none)(b:h.get? a=ih o):(a,o)∈rx g h L:=
 p9.mpr ⟨a,iE.mpr (br b),by simp[h1,U,b]⟩
theorem qy{L:OT}{p:OT×Tp}(c:p∈rx g h L):p.1≠L/\g.get? p.1=none/\h.get? p.1=ih p.2:=by
 obtain⟨b,_,e⟩:=p9.mp c;split at e
 ·cases e
 ·rename_i a
  cases q:h.get? b with
  |none=>rw[q]at e;simp at e
  |some u =>
   rw[q]at e;simp only[qa,Wx]at e;subst e;refine⟨λz=>a (.inl z),?_,q⟩;show g.get? b=none;cases r:g.get? b with
   |none=>rfl
   |some v=>exact(a (.inr (by simp[r]))).elim
theorem Fv{L:OT}:News g L h (rx g h L):=λp d=>let ⟨a,b,c⟩:=qy d;⟨c,a,b⟩
structure Mod(K:O9)(mg:CY->Option i')(base:SN):Prop where
 mU:K.In base
 glob:base.Ns PD mg
 blt:∃mb,base.Ns builtinsNs mb /\∀x:CY,x ≠ "__name__" -> mb x=PX x
 nolimit:base.NoLimit
structure Cx where
 prog:SD
 w:SQ
 K:O9
 mg:CY->Option i'
 base:SN
 A:SV
 N:List CY
 ew:OX
 jF:Hp
 env:T9
 outer:List T9
 stack:List T9
 ex:List OT
 fn:CY->Bool
 calm:Bool
 pn:List (OT×Tp)
 xe:i'->OX->Prop
abbrev Cx.eb(X:Cx):=Pb X.prog X.w
abbrev wA{α:Type}(X:Cx):=OZ (α:=α) X.eb X.A
end L2
abbrev PySem.Shared.ao(s:T4):Ta:=s.heap.objs.size
namespace L2
open Spec PyProof.Rows W
def gD(l:List T9):List OT:=l.filterMap (·.frame)
abbrev Cx.fs(X:Cx):List OT:=gD X.outer
def tx(sc:Tr)(x:CY):Prop:=sc.names.lookup x=ih .local\/sc.names.lookup x=ih .cell\/sc.names.lookup x=ih .free
def Loc(sc:Tr)(x:CY):Prop:=sc.names.lookup x=ih .local\/sc.names.lookup x=ih .cell
def Look(env:T9)(h:SN)(m:CY->Option i')(x:CY)(u:i'):Prop:=
 (env.kindOf x=ih .local/\m x=ih u)\/((env.kindOf x=ih .cell\/env.kindOf x=ih .free) /\∃c,env.cells.lookup x=ih c/\h.IsCell c (ih u))
structure Cx.Ok(X:Cx):Prop where
 mod:Mod X.K X.mg X.base
 kind:X.env.scope.kind=.function
 glob:X.env.globals=PD
 blt:X.env.builtins=builtinsNs
 above:X.ew.heap.objs.size<=X.env.locals
 inj:∀x y c,X.env.cells.lookup x=ih c->X.env.cells.lookup y=ih c->x=y
 has:∀x,(X.env.kindOf x=ih .cell\/X.env.kindOf x=ih .free) ->∃c,X.env.cells.lookup x=ih c
 mV:∀x c,X.fn x=true->X.env.cells.lookup x=ih c->X.ew.heap.objs.size<=c
 hd:X.calm=true->X.A.handled=none
 frames:X.A.frames=ih X.stack
 pU:X.stack=X.outer\/(X.stack=X.env::X.outer/\X.env.frame=ih X.env.locals)
 pV:∀b∈X.ex,b≠X.env.locals /\∀x c,X.env.cells.lookup x=ih c->c≠b
 bs:∀b o,X.base.get? b=ih o->X.ew.heap.get? b=ih o/\X.jF b=none
 ja:X.base.objs.size<=X.ew.heap.objs.size
 mG:∀b o,X.base.get? b=ih o->b ∉ X.ex
 mH:∀b∈X.ex,b ∉ X.fs
 gj:X.ew.heap.FunFrames X.base X.outer
 jO:∀b∈X.fs,X.jF b=none
structure Inv(X:Cx)(J:List (OT×Tp))(σ:List (Option V))(H:Hp)(s:OX):Prop where
 ok:X.Ok
 os:s.os=X.ew.os
 bare:TN s.gens
 base:Un X.fs X.ex X.jF H X.ew.heap s.heap
 loc:∃m,s.heap.Ns X.env.locals m /\∀(i:Nat) (x:CY) (v:V),X.N[i]?=ih x->σ[i]?=ih (ih v)->tx X.env.scope x ->∃u,RelV v u/\Look X.env s.heap m x u
 cell:∀x c,X.env.cells.lookup x=ih c ->∃v,s.heap.IsCell c v
 free:H X.env.locals=none
 gf:∀x c,X.env.cells.lookup x=ih c->H c=none
 pin:∀p∈X.pn++J,s.heap.get? p.1=ih p.2/\H p.1=none/\p.1≠X.env.locals/\p.1 ∉ X.fs /\∀v,p.2.data ≠ .cell v
 aJ:cz X.prog X.w H s.heap
 len:σ.length=X.N.length
section
variable{X:Cx}{σ:am (Option V)}{H Y:Hp}
theorem Cx.Ok.Km(ok:X.Ok)(e:X.base.get? b=ih o):b ∉ X.fs:=λa=>by
 have:=(ok.gj.mem a).1;rw[e]at this;cases this
theorem Inv.bs(I:Inv X J σ H s):∀b o,X.base.get? b=ih o->s.heap.get? b=ih o/\H b=none:=λb o e =>
 ⟨I.base.keep b o (I.ok.bs b o e).1 (I.ok.bs b o e).2 (I.ok.Km e) (I.ok.mG b o e),I.base.free b o (I.ok.bs b o e).1 (I.ok.bs b o e).2 (I.ok.mG b o e)⟩
theorem Inv.bk(I:Inv X J σ H s):∀b o,X.base.get? b=ih o->s.heap.get? b=ih o:=λb o e=>(I.bs b o e).1
theorem Inv.mod(I:Inv X J σ H s):Mod X.K X.mg X.base:=I.ok.mod
theorem Inv.cV(I:Inv X J σ H s):X.K.In s.heap:=I.ok.mod.mU.keeps I.bk
theorem Inv.lt(I:Inv X J σ H s):X.env.locals<s.ao:=let ⟨_,a,_⟩:=I.loc;a.lt
theorem Inv.sz(I:Inv X J σ H s):X.ew.heap.objs.size<=s.ao:=eS I.ok.above (qb I.lt)
theorem Inv.Kn(I:Inv X J σ H s)(h:s.ao<=a):a ∉ X.fs:=λb=>by
 obtain⟨_,o,c,_⟩:=I.ok.gj.mem b;exact absurd (e4 (br c) (eS I.sz h)) (hC _)
theorem Inv.fY(I:Inv X J σ H s):∀x c,X.env.cells.lookup x=ih c->c≠X.env.locals:=λx c e z=>by
 obtain⟨v,o,a,b⟩:=I.cell x c e;obtain⟨m,⟨o',es,ep,d,f,_⟩,_⟩:=I.loc;rw[z,d]at a;cases a;rw[f]at b;cases b
theorem Inv.gj(I:Inv X J σ H s):s.heap.FunFrames X.base X.outer:=by
 have all:∀(l:am T9),(∀b∈gD l,b∈X.fs)->X.ew.heap.FunFrames X.base l->s.heap.FunFrames X.base l:=by
  intro l
  induction l with
  |nil=>intro _ _;trivial
  |cons env r g =>
   rintro f ⟨i,⟨L,o,a,j,k,m⟩,n⟩;have c:L∈X.fs:=f L (by unfold gD;rw[Cj,a];exact aS)
   obtain⟨sl,e⟩:=I.base.slot L o k (I.ok.jO L c) c λz=>I.ok.mH L z c;exact⟨i,⟨L,_,a,j,e,m⟩,g (λb d=>f b (by unfold gD;rw[Cj,a];exact a8 _ d)) n⟩
 exact all X.outer (λ_ d=>d) I.ok.gj
theorem Inv.stack(I:Inv X J σ H s):s.heap.FunFrames X.base X.stack:=by
 rcases I.ok.pU with e|⟨e,a⟩
 ·rw[e];exact I.gj
 ·rw[e]
  obtain⟨m,b,_⟩:=I.loc;refine .cons (by rw[I.ok.kind];decide) a b ?_ I.gj
  exact Ux (eS I.ok.ja I.ok.above)
theorem Inv.rY(I:Inv X J σ H s):∀b∈gD X.stack,b∈X.env.locals::X.fs:=λb a=>by
 rcases I.ok.pU with e|⟨e,c⟩
 ·rw[e]at a;exact a8 _ a
 ·rw[e]at a
  unfold gD at a;rw[Cj,c]at a;exact a
theorem Inv.wL(I:Inv X J σ H s):∀b∈gD X.stack,H b=none:=λb hb=>by
 rcases bu.mp (I.rY b hb) with e|hb
 ·rw[e];exact I.free
 ·obtain⟨_,o,a,_⟩:=I.ok.gj.mem hb
  exact I.base.free b o a (I.ok.jO b hb) λz=>I.ok.mH b z hb
theorem Inv.step{g':Array UQ}{d':W5}(I:Inv X J σ H s)
  (j:∀b∈ch,(b∈X.ex\/X.ew.heap.objs.size<=b)/\b≠X.env.locals/\(∀x c,X.env.cells.lookup x=ih c->c≠b) /\∀p∈X.pn++J,p.1≠b)
  (keep:∀b o,b≠X.env.locals->b ∉ X.fs->b ∉ ch->s.heap.get? b=ih o->H b=none->h'.get? b=ih o)
  (D:∀b o,b≠X.env.locals->b∈X.fs->b ∉ ch->s.heap.get? b=ih o->H b=none ->∃sl,h'.get? b=ih { o with slots:=sl }) (free:∀b o,b ∉ ch->s.heap.get? b=ih o->H b=none->Y b=none)
  (L:∀b o,b ∉ ch->s.heap.get? b=ih o ->∃o',h'.get? b=ih o')
  (M:∀b xs,H b=bi xs->Y b=bi xs) (N:∀b o u,H b=ih (.bw o u)->Y b=ih (.bw o u)) (O:∀b ps,H b=ih (.i9 ps) ->∃P,Y b=ih (.i9 (ps++P)))
  (ns:∀m,s.heap.Ns X.env.locals m->h'.Ns X.env.locals m) (Q:cz X.prog X.w Y h') (S:TN g') :
  Inv X J σ Y { s with heap:=h',gens:=g',drawn:=d',toks:=t' }:=by
 have E:∀b o,X.ew.heap.get? b=ih o->b≠X.env.locals:=λb o e=>bG (e4 (br e) I.ok.above);have A:∀b o,X.ew.heap.get? b=ih o->b ∉ X.ex->b ∉ ch:=λb o e a g=>by
  rcases (j b g).1 with z|z
  ·exact a z
  ·exact absurd (e4 (br e) z) (hC _)
 have C:∀x c,X.env.cells.lookup x=ih c ->∀v,s.heap.IsCell c v->h'.IsCell c v:=λx c e v ⟨o,h,B⟩=>by
  have t:c ∉ ch:=λz=>(j c z).2.2.1 x c e rfl
  by_cases F:c∈X.fs
  ·obtain⟨sl,q⟩:=D c o (I.fY x c e) F t h (I.gf x c e)
   exact⟨_,q,B⟩
  ·exact⟨o,keep c o (I.fY x c e) F t h (I.gf x c e),B⟩
 refine⟨I.ok,I.os,S,⟨λb o e n g a=>?_,λb o e n g a=>?_,λb o e n a=>?_,λb o e a=>?_,λb xs e=>M b xs (I.base.i4 b xs e),λb o xs e=>N b o xs (I.base.i5 b o xs e),λb ps e=>?_⟩,?_,λx c e=>?_,?_,λx c e=>?_,λp G=>?_,Q,I.len⟩
 ·exact keep b o (E b o e) g (A b o e a) (I.base.keep b o e n g a) (I.base.free b o e n a)
 ·obtain⟨sl,f⟩:=I.base.slot b o e n g a
  obtain⟨R,y⟩:=D b _ (E b o e) g (A b o e a) f (I.base.free b o e n a);exact⟨R,y⟩
 ·obtain⟨o',f⟩:=I.base.there b o e a
  exact free b o' (A b o e a) f (I.base.free b o e n a)
 ·obtain⟨o',f⟩:=I.base.there b o e a
  exact L b o' (A b o e a) f
 ·obtain⟨T,f⟩:=I.base.jE b ps e
  obtain⟨U,y⟩:=O b _ f;exact⟨T++U,by rw[y,Array.append_assoc]⟩
 ·obtain⟨m,V,W⟩:=I.loc
  refine⟨m,ns m V,λi x v f y xa=>?_⟩;obtain⟨u,r,l⟩:=W i x v f y xa;refine⟨u,r,?_⟩;rcases l with l|⟨k,c,e,z⟩
  ·exact .inl l
  ·exact .inr ⟨k,c,e,C x c e _ z⟩
 ·obtain⟨v,z⟩:=I.cell x c e
  exact⟨v,C x c e v z⟩
 ·obtain⟨m,⟨o,_,_,h,_⟩,_⟩:=I.loc
  exact free _ o (λz=>(j _ z).2.1 rfl) h I.free
 ·obtain⟨v,o,h,B⟩:=I.cell x c e
  exact free c o (λz=>(j c z).2.2.1 x c e rfl) h (I.gf x c e)
 ·obtain⟨e,n,ne,K,d⟩:=I.pin p G
  have t:p.1 ∉ ch:=λz=>(j p.1 z).2.2.2 p G rfl;exact⟨keep p.1 p.2 ne K t e n,free p.1 p.2 t e n,ne,K,d⟩
theorem Inv.un(I:Inv X J σ H s)(u:Un X.fs [] H Y s.heap h')(f:cz X.prog X.w Y h'):Inv X J σ Y { s with heap:=h',toks:=t' }:=by
 obtain⟨m,⟨o,es,ep,d,r⟩,_⟩:=id I.loc;obtain⟨sl,i⟩:=u.any d I.free (by simp)
 exact I.step (g':=s.gens) (d':=s.drawn) (ch:=[]) (λ_ z=>nomatch z) (λb o _ a _ e n=>u.keep b o e n a (by simp)) (λb o _ a _ e n=>u.slot b o e n a (by simp)) (λb o _ e n=>u.free b o e n (by simp)) (λb o _ e=>u.there b o e (by simp)) u.i4 u.i5 u.jE (λl j=>by
  obtain⟨o',g,h,c,k⟩:=j;rw[d]at c;cases c;exact⟨_,g,h,i,k⟩) f I.bare
theorem Inv.call{g':Array UQ}{d':W5}(I:Inv X J σ H s)(u:Un (gD X.stack) ch H Y s.heap h')(i:cz X.prog X.w Y h')(l:TN g')
  (f:∀b∈ch,(b∈X.ex\/X.ew.heap.objs.size<=b)/\b≠X.env.locals/\(∀x c,X.env.cells.lookup x=ih c->c≠b) /\∀p∈X.pn++J,p.1≠b) :
  Inv X J σ Y { s with heap:=h',gens:=g',drawn:=d',toks:=t' }:=by
 obtain⟨m,⟨o,es,ep,h,r⟩,_⟩:=id I.loc;obtain⟨sl,d⟩:=u.any h I.free λz=>(f _ z).2.1 rfl;exact I.step (ch:=ch) f (λb o d q a e n=>u.keep b o e n (λz=>(bu.mp (I.rY b z)).elim d q) a) (λb o _ _ a e n=>u.any e n a) (λb o a e n=>u.free b o e n a) (λb o a e=>u.there b o e a) u.i4 u.i5 u.jE (λy t=>by
  obtain⟨o',j,k,g,v⟩:=t;rw[h]at g;cases g;exact⟨_,j,k,d,v⟩) i l
theorem Inv.turned(I:Inv X J σ H s)(k:∀b o,b≠it->s.heap.get? b=ih o->h'.get? b=ih o)(g:H it=none)(f:it≠X.env.locals)
  (h1:it∈X.ex\/X.ew.heap.objs.size<=it) (U:∀x c,X.env.cells.lookup x=ih c->c≠it) (h:∀p∈X.pn++J,p.1≠it):Inv X J σ H { s with heap:=h',toks:=t' }:=by
 have d:∀b u,H b=ih u->b≠it:=λb u e z=>by rw[z,g]at e;cases e
 refine I.step (g':=s.gens) (d':=s.drawn) (ch:=[it]) (λb i=>?_) (λb o _ _ a e _=>k b o (λz=>a (by simp[z])) e) (λb o _ _ a e _=>⟨o.slots,k b o (λz=>a (by simp[z])) e⟩) (λ_ _ _ _ n=>n)
  (λb o a e=>⟨o,k b o (λz=>a (by simp[z])) e⟩) (λ_ _ e=>e) (λ_ _ _ e=>e) (λb ps e=>⟨#[],by rw[e];simp⟩) (λm j=>?_) (λb u e=>?_) I.bare
 ·have e:b=it:=by simpa using i
  subst e;exact⟨h1,f,U,h⟩
 ·obtain⟨o,es,ep,l,r⟩:=j
  exact⟨o,es,ep,k _ o (aN f) l,r⟩
 ·refine(I.aJ b u e).gi (λc v a q=>k c v ?_ q) (λ_ q=>q) λ_ _ q=>q
  rcases a with z|z
  ·rw[z];exact d b u e
  ·exact d c _ z
theorem Inv.tok(I:Inv X J σ H s)(t:Nat):Inv X J σ H { s with toks:=t }:=I.un (h':=s.heap) (t':=t) Un.refl I.aJ
theorem Inv.kept(I:Inv X J σ H s)(k:∀b u,s.heap.get? b=ih u->h'.get? b=ih u):Inv X J σ H { s with heap:=h',toks:=t' }:=I.un (Un.kept k) (I.aJ.kept k)
theorem Inv.laid{o:HO}(I:Inv X J σ H s)(k:∀b u,s.heap.get? b=ih u->h'.get? b=ih u)(c:s.ao<=a)(new:bO X.prog X.w (upd H a o) h' a o) :
  Inv X J σ (upd H a o) { s with heap:=h',toks:=t' }:=I.un (Un.laid k c (I.aJ.fresh c)) (I.aJ.laid k c new)
theorem Inv.write{x e:OT}{o:HO}(I:Inv X J σ H s)(c:mT (H x))(d:e=x\/H e=ih (.own x))(k:∀b u,b≠e->s.heap.get? b=ih u->h'.get? b=ih u)(a:∃u,h'.get? e=ih u)
  (new:bO X.prog X.w (upd H x o) h' x o):Inv X J σ (upd H x o) { s with heap:=h',toks:=t' }:=I.un (Un.write c d k a) (I.aJ.write c d k a new)
theorem Inv.wM{a:am (OT×Tp)}(I:Inv X J σ H s)(h:∀p∈a,s.heap.get? p.1=ih p.2/\H p.1=none/\p.1≠X.env.locals/\p.1 ∉ X.fs /\∀v,p.2.data ≠ .cell v):Inv X a σ H s:=
 ⟨I.ok,I.os,I.bare,I.base,I.loc,I.cell,I.free,I.gf,λp b=>(cq.mp b).elim (λz=>I.pin p (hE _ z)) (h p),I.aJ,I.len⟩
theorem vL(c:N.Nodup)(a:N[i]?=ih x)(b:N[j]?=ih x):i=j:=by
 obtain⟨h1,d⟩:=bA.mp a;obtain⟨U,e⟩:=bA.mp b;exact(UN c).mp (d.trans e.symm)
theorem u7{M:Vi}{v:V}{Q:Unit->OX->Prop}(I:Inv X J σ H s)(xb:X.N.Nodup)(hi:X.N[i]?=ih x)(l:Loc X.env.scope x)(r:RelV v u)
  (h:∀s',Inv X J (σ.set i (ih v)) H s'->(∃a,Sn a s.heap s'.heap/\(a=X.env.locals\/X.env.cells.lookup x=ih a))->Q () s') (xd:X.fn x=true\/X.env.scope.names.lookup x=ih .local:=by first|exact .inl rfl|exact .inr rfl|assumption):OZ M A (storeName X.env x u) Q E s:=by
 obtain⟨m,K,yb⟩:=id I.loc;have zb:(X.env.scope.kind == .class||(X.env.scope.kind == .module&&X.env.locals != X.env.globals))=false:=by rw[I.ok.kind];rfl
 have Y:i<σ.length:=by rw[I.len];exact(bA.mp hi).1
 have fY:=I.fY;have U:∀{a:OT}{h':SN},(∃o,s.heap.get? a=ih o/\H a=none)->Sn a s.heap h'->cz X.prog X.w H h':=λ{a h'} yd f b zd e=>by
  obtain⟨_,_,W⟩:=yd;refine(I.aJ b zd e).gi (λc D hc q=>(f.2 c ?_).trans q) (λ_ q=>q) λ_ _ q=>q;rintro rfl;rcases hc with rfl|hc
  ·rw[W]at e;cases e
  ·rw[W]at hc;cases hc
 rcases l with hk|hk
 ·refine wpAny_storeName_local hk K (λh' yc f=>?_) zb
  obtain⟨xe,_,_,zc,_⟩:=id K;refine h _ ⟨I.ok,I.os,I.bare,⟨λb o e n B l=>?_,λb o e n B l=>?_,I.base.free,λb o e l=>?_,I.base.i4,I.base.i5,I.base.jE⟩,⟨_,yc,λj y L g t O=>?_⟩,λy c e=>?_,I.free,I.gf,λp P=>?_,U ⟨xe,zc,I.free⟩ f,by simpa using I.len⟩ ⟨_,f,.inl rfl⟩
  ·exact(f.2 b (bG (e4 (br e) I.ok.above))).trans (I.base.keep b o e n B l)
  ·obtain⟨sl,g⟩:=I.base.slot b o e n B l
   exact⟨sl,(f.2 b (bG (e4 (br e) I.ok.above))).trans g⟩
  ·obtain⟨o',g⟩:=I.base.there b o e l
   exact⟨o',(f.2 b (bG (e4 (br e) I.ok.above))).trans g⟩
  ·by_cases C:j=i
   ·subst C
    rw[hi]at g;cases g;rw[OU Y]at t;cases t
    exact⟨u,r,.inl ⟨hk,by simp⟩⟩
   ·rw[OV (aN C)]at t
    obtain⟨R,S,q⟩:=yb j y L g t O;refine⟨R,S,?_⟩;rcases q with⟨k,e⟩|⟨k,c,e,z⟩
    ·refine .inl ⟨k,?_⟩
     have:y≠x:=λe=>C (vL xb g (e ▸ hi));simp[this,e]
    ·exact .inr ⟨k,c,e,z.sameBut f (fY y c e)⟩
  ·obtain⟨D,z⟩:=I.cell y c e
   exact⟨D,z.sameBut f (fY y c e)⟩
  ·obtain⟨e,n,ne,T,d⟩:=I.pin p P
   exact⟨(f.2 p.1 ne).trans e,n,ne,T,d⟩
 ·have G:X.fn x=true:=by
   rcases xd with z|z
   ·exact z
   ·rw[z]at hk;cases hk
  obtain⟨c,hc⟩:=I.ok.has x (.inl hk);obtain⟨D,z⟩:=I.cell x c hc;refine wpAny_storeName_cell I.ok.kind hk hc z (λh' xa f=>?_);obtain⟨oc,ya,xc⟩:=id z;refine h { s with heap:=h' } ⟨I.ok,I.os,I.bare,⟨λb o e n B l=>?_,λb o e n B l=>?_,I.base.free,λb o e l=>?_,I.base.i4,I.base.i5,I.base.jE⟩,⟨m,K.sameBut f (aN (fY x c hc)),λj y L g t O=>?_⟩,λy F e=>?_,I.free,I.gf,λp P=>?_,U ⟨oc,ya,I.gf x c hc⟩ f,by simpa using I.len⟩ ⟨c,f,.inr hc⟩
  ·exact(f.2 b (bG (e4 (br e) (I.ok.mV x c G hc)))).trans (I.base.keep b o e n B l)
  ·obtain⟨sl,g⟩:=I.base.slot b o e n B l
   exact⟨sl,(f.2 b (bG (e4 (br e) (I.ok.mV x c G hc)))).trans g⟩
  ·obtain⟨o',g⟩:=I.base.there b o e l
   exact⟨o',(f.2 b (bG (e4 (br e) (I.ok.mV x c G hc)))).trans g⟩
  ·by_cases C:j=i
   ·subst C
    rw[hi]at g;cases g;rw[OU Y]at t;cases t
    exact⟨u,r,.inr ⟨.inl hk,c,hc,xa⟩⟩
   ·rw[OV (aN C)]at t
    obtain⟨R,S,q⟩:=yb j y L g t O;refine⟨R,S,?_⟩;rcases q with q|⟨k,F,e,ye⟩
    ·exact .inl q
    ·refine .inr ⟨k,F,e,ye.sameBut f ?_⟩
     rintro rfl;exact C (vL xb g (I.ok.inj _ _ _ e hc ▸ hi))
  ·by_cases za:F=c
   ·subst za;exact⟨_,xa⟩
   ·obtain⟨ze,z2⟩:=I.cell y F e
    exact⟨ze,z2.sameBut f za⟩
  ·obtain⟨e,n,ne,T,d⟩:=I.pin p P
   refine⟨(f.2 p.1 ?_).trans e,n,ne,T,d⟩;intro q;rw[q,ya]at e;have xf:oc=p.2:=c3 e;exact d D (by rw[<-xf];exact xc)
theorem nX{M:Vi}{v:V}{Q:Unit->OX->Prop}(I:Inv X J σ H s)(a:X.N.Nodup)(hi:X.N[i]?=ih x)(b:Loc X.env.scope x)(r:RelV v u)
  (h:∀s',Inv X J (σ.set i (ih v)) H s'->Q () s') (c:X.fn x=true\/X.env.scope.names.lookup x=ih .local:=by first|exact .inl rfl|exact .inr rfl|assumption):OZ M A (storeName X.env x u) Q E s:=
 u7 I a hi b r (λs' d _=>h s' d) c
theorem Inv.I4(I:Inv X J σ H s)(f:s'.os=s.os)(u:Un (gD X.stack) ch H Y s.heap s'.heap)(a:cz X.prog X.w Y s'.heap)(g:TN s'.gens)
  (d:∀b∈ch,(b∈X.ex\/X.ew.heap.objs.size<=b)/\b≠X.env.locals/\(∀x c,X.env.cells.lookup x=ih c->c≠b) /\∀p∈X.pn++J,p.1≠b):Inv X J σ Y s':=by
 obtain⟨h',g',d',t',o'⟩:=s';have e:o'=s.os:=f;subst e;exact I.call (g':=g') (t':=t') (d':=d') u a g d
end
abbrev XK:=i'->Option OT->Hp->Prop
abbrev St:=List (Option V)
abbrev VK:=V->Hp->Prop
abbrev TE:=St->Hp->VK->Prop
abbrev TT:=St->Hp->(Bool->Hp->Prop)->Prop
abbrev TA:=St->Hp->(List V->Hp->Prop)->Prop
structure Ends where
 nx:St->Hp->Prop
 rt:VK
 bk:St->Hp->Prop:=λ_ _=>False
 ct:St->Hp->Prop:=λ_ _=>False
abbrev TS:=Ends->St->Hp->Prop
end L2
variable{xs vs ws lv:am L2.V}{H Y O H2 G:L2.Hp}{X:L2.Cx}{σ d0:L2.St}{v y hv:L2.V}{Q:L2.VK}{ta te tl tv:L2.TE}{tb:L2.TS}{ti:L2.TT}{kvs:am (L2.Key×L2.V)}{kh kk kq:am (List L2.Key×L2.V)}
namespace L2
open Spec PyProof.Rows W
def EP(X:Cx)(J:List (OT×Tp))(σ:St)(Q:VK)(u:i')(s':OX):Prop:= ∃v Y,Inv X J σ Y s'/\RelV v u/\Q v Y
def TP(X:Cx)(J:List (OT×Tp))(σ:St)(Q:Bool->Hp->Prop)(b:Bool)(s':OX):Prop:= ∃Y,Inv X J σ Y s'/\Q b Y
def AP(X:Cx)(J:List (OT×Tp))(σ:St)(Q:List V->Hp->Prop)(us:List i')(s':OX):Prop:= ∃vs Y,Inv X J σ Y s'/\Vals vs us/\Q vs Y
def SP(X:Cx)(J:List (OT×Tp))(D:Ends)(f:Flow)(s':OX):Prop:=
 match f with
 |.next=>∃c8 Y,Inv X J c8 Y s'/\D.nx c8 Y
 |.brk=>∃c8 Y,Inv X J c8 Y s'/\D.bk c8 Y
 |.cont=>∃c8 Y,Inv X J c8 Y s'/\D.ct c8 Y
 |.ret u=>∃v c8 Y,Inv X J c8 Y s'/\RelV v u/\D.rt v Y
def PE(X:Cx)(e:Si)(t:TE):Prop:=
 ∀J s σ H (Q:VK),Inv X J σ H s->t σ H Q->wA X (eval e X.env) (EP X J σ Q) X.xe s
def PT(X:Cx)(e:Si)(t:TT):Prop:=
 ∀J s σ H (Q:Bool->Hp->Prop),Inv X J σ H s->t σ H Q->wA X (isTrue e X.env (eval e X.env)) (TP X J σ Q) X.xe s
def PW(X:Cx)(e:Si)(t:TT):Prop:=
 ∀(I5:Ua i') J s σ H (Q:Bool->Hp->Prop),Inv X J σ H s->t σ H Q->wA X (isTrue e X.env I5) (TP X J σ Q) X.xe s
theorem PW.pt{t:TT}(h:PW X e t):PT X e t:=h _
def PA(X:Cx)(es:List Si)(t:TA):Prop:=
 ∀(pos:VU) J s σ H (Q:List V->Hp->Prop),Inv X J σ H s->t σ H Q->wA X (spliced (backTo pos (Sh es X.env))) (AP X J σ Q) X.xe s
def PS(X:Cx)(st:PQ)(t:TS):Prop:=
 ∀J s σ H (D:Ends),Inv X J σ H s->t D σ H->wA X (exec st X.env) (SP X J D) X.xe s
def eI(X:Cx)(st:List PQ)(t:TS):Prop:=
 ∀J s σ H (D:Ends),Inv X J σ H s->t D σ H->wA X (execs st X.env) (SP X J D) X.xe s
theorem aF{α:Type}{t:Ua α}{Q b:α->OX->Prop}{M:Vi}(h:OZ M A t Q E s)(c:∀a s,Q a s->b a s):OZ M A t b E s:=iF h c λ_ _ x=>x
end L2
namespace L2
open Spec PyProof.Rows
section
def ie(i:Nat):TE:=λσ H Q=>∃v,σ[i]?=ih (ih v)/\Q v H
def tC(v:V):TE:=λ_ H Q=>Q v H
theorem Ic(j:X.N[i]?=ih x)(hv:tx X.env.scope x)(b:(x==("__debug__" : CY))=false:=by decide)(g:(x==("__classdict__" : CY))=false:=by decide):PE X (.Name x pos) (ie i):=by
 rintro J s σ H Q I ⟨v,e,h⟩;obtain⟨m,k,n⟩:=I.loc;obtain⟨u,r,l⟩:=n i x v j e hv;have a:EP X J σ Q u s:=⟨v,H,I,r,h⟩;rcases l with⟨hk,o⟩|⟨hk,c,f,d⟩
 ·exact wpAny_Name (wpAny_loadName_local I.ok.kind hk k o a) b
 ·rcases hk with hk|hk
  ·exact wpAny_Name (wpAny_loadName_cell I.ok.kind hk f d a) b
  ·exact wpAny_Name (wpAny_loadName_free I.ok.kind hk f d a g) b
theorem ar{i j pos}:PE X (.Constant (.int i) j pos) (tC (.int i)):=λ_ _ _ H _ I h=>wpAny_Constant_int ⟨.int i,H,I.tok _,⟨_,rfl⟩,h⟩
theorem gV{b j pos}:PE X (.Constant (.bool b) j pos) (tC (.bl b)):=λ_ _ _ H _ I h=>Constant_bool ⟨.bl b,H,I,rfl,h⟩
theorem eo{j pos}:PE X (.Constant .none j pos) (tC .aM):=λ_ _ _ H _ I h=>WB ⟨.aM,H,I,rfl,h⟩
theorem b6{x j pos}:PE X (.Constant (.str x) j pos) (tC (.str x)):=λ_ _ _ H _ I h=>Calls.Constant_str ⟨.str x,H,I.tok _,⟨_,rfl⟩,h⟩
def Gl(X:Cx)(x:CY):Prop:=X.env.kindOf x=ih .globalImplicit
theorem wN{Q:i'->OX->Prop}(I:Inv X J σ H s)(a:Gl X x)(b:X.mg x=ih u)(h:Q u s)
  (c:(x==("__debug__" : CY))=false:=by decide):wA X (eval (.Name x pos) X.env) Q E s:=
 OW I.ok.kind a (Calls.loadGlobal_global (by rw[I.ok.glob];exact I.mod.glob.keeps I.bk) b h) c
theorem l'{Q:i'->OX->Prop}(I:Inv X J σ H s)(a:Gl X x)(b:X.mg x=none)(hv:PX x=ih u)(h:Q u s)
  (c:x ≠ "__name__" :=by decide) (d:(x==("__debug__" : CY))=false:=by decide):wA X (eval (.Name x pos) X.env) Q E s:=by
 obtain⟨e,h1,U⟩:=I.mod.blt;exact OW I.ok.kind a (Calls.loadGlobal_builtin (by rw[I.ok.glob];exact I.mod.glob.keeps I.bk) b (by rw[I.ok.blt];exact h1.keeps I.bk) ((U x c).trans hv) h) d
theorem gT(a:Gl X x)(b:X.mg x=none)(hv:PX x=ih u)(r:RelV v u)(c:x ≠ "__name__" :=by decide)(d:(x==("__debug__" : CY))=false:=by decide):PE X (.Name x pos) (tC v):=
 λ_ _ _ H _ I h=>l' I a b hv ⟨v,H,I,r,h⟩ c d
variable{a b:Si}{tb:TE}
def PC(X:Cx)(op:Uq)(a b:Si)(t:TE):Prop:=
 ∀J s σ H (Q:VK),Inv X J σ H s->t σ H Q ->
  wA X (eval a X.env) (λv Ko=>wA X (eval b X.env) (λu Kq=>wA X (P4 op v u) (EP X J σ Q) X.xe Kq) X.xe Ko) X.xe s
theorem vM(b:Si){op:Uq}(h:op ≠ .In)(U:op ≠ .NotIn):behindInMarks op b=false:=by
 have a:(op==Ww)=false:=by cases op <;> first|rfl|exact absurd rfl h
 have c:(op==Vt)=false:=by cases op <;> first|rfl|exact absurd rfl U
 cases b <;> simp[behindInMarks,a,c]
def I6(ta:TE):TE:=λσ H Q=>ta σ H λx O=>Q (.bl (!decide (x=.aM))) O
theorem RelV.Fw{x:V}{v:i'}(r:RelV x v):(v==P0)=decide (x=.aM):=by
 cases x with
 |aM=>cases r;rfl
 |bl _=>cases r;rfl
 |int _=>obtain⟨t,rfl⟩:=r;rfl
 |str _=>obtain⟨t,rfl⟩:=r;rfl
 |e0 _=>obtain⟨t,rfl⟩:=r;rfl
 |i8 _=>obtain⟨t,rfl⟩:=r;rfl
 |ref _=>cases r;rfl
 |ty _=>cases r;rfl
theorem GI{j Qg}(b:PE X a ta):PC X .IsNot a (.Constant .none j Qg) (I6 ta):=by
 intro J s σ H Q I h;refine aF (b J s σ H _ I h) λv f g=>?_;obtain⟨x,O,c,d,e⟩:=g;exact WB (isnot_none_gen ⟨.bl _,O,c,by rw[d.Fw];rfl,e⟩)
def tB(t:TE):TT:=λσ H Q=>t σ H λx O=>∃c,x=.bl c/\Q c O
theorem Ie{op:Uq}{t:TE}(h:PC X op a b t)(h1:behindInMarks op b=false:=by first|exact vM _ (by decide) (by decide)|rfl):PE X (.Compare a [op] [b] pos) t:=λJ s σ H Q I c=>wpAny_Compare1 (h J s σ H Q I c) h1
theorem h5{op:Uq}{t:TE}(h:PC X op a b t)(h1:behindInMarks op b=false:=by first|exact vM _ (by decide) (by decide)|rfl):PT X (.Compare a [op] [b] pos) (tB t):=by
 intro J s σ H Q I e;refine wpAny_isTrue_Compare1 (aF (h J s σ H _ I e) λv j h1=>aF h1 λu s2 U=>aF U λc k l=>?_) h1;obtain⟨x,O,f,g,i⟩:=l;obtain⟨d,rfl,q⟩:=i;cases g
 exact gp ⟨O,f,q⟩
theorem eW{t:TE}(h:PE X e t)(b:∀a,isTrue e X.env a=(do let v <- a;standAt e.pos;holding [v] (truthy v)):=by intro _;rfl):PT X e (tB t):=by
 intro J s σ H Q I c;refine isTrue_plain (aF (h J s σ H _ I c) λv j k=>?_) (b _);obtain⟨x,O,f,g,i⟩:=k;obtain⟨d,rfl,q⟩:=i;cases g
 exact gp ⟨O,f,q⟩
variable{tA Qq:TT}{rest:am Si}
def A5(t u:TT):TT:=λσ H Q=>t σ H λc O=>if c=true then u σ O Q else Q false O
def LF(t u:TT):TT:=λσ H Q=>t σ H λc O=>if c=true then Q true O else u σ O Q
def Ks(t:TT):TT:=λσ H Q=>t σ H λc O=>Q (!c) O
theorem pw_and1(b:PT X a tA):PW X (.BoolOp .And [a] pos) tA:=by
 intro wh J s σ H Q I h;refine isTrue_and (aF (b J s σ H Q I h) λc d e=>?_);cases c with
 |true=>exact isTrue_and_nil e
 |false=>exact e
theorem pw_or1(b:PT X a tA):PW X (.BoolOp .Or [a] pos) tA:=by
 intro wh J s σ H Q I h;refine isTrue_or (aF (b J s σ H Q I h) λc d e=>?_);cases c with
 |false=>exact isTrue_or_nil e
 |true=>exact e
theorem pw_and(f:PT X a tA)(g:PW X (.BoolOp .And (b::rest) pos) Qq):PW X (.BoolOp .And (a::b::rest) pos) (A5 tA Qq):=by
 intro wh J s σ H Q I h;refine isTrue_and (aF (f J s σ H _ I h) λc i j=>?_);obtain⟨O,d,e⟩:=j;cases c with
 |true=>exact g wh J i σ O Q d e
 |false=>exact⟨O,d,e⟩
theorem pw_or(f:PT X a tA)(g:PW X (.BoolOp .Or (b::rest) pos) Qq):PW X (.BoolOp .Or (a::b::rest) pos) (LF tA Qq):=by
 intro wh J s σ H Q I h;refine isTrue_or (aF (f J s σ H _ I h) λc i j=>?_);obtain⟨O,d,e⟩:=j;cases c with
 |true=>exact⟨O,d,e⟩
 |false=>exact g wh J i σ O Q d e
theorem e8(b:PT X a tA):PT X (.UnaryOp .Not a pos) (Ks tA):=by
 intro J s σ H Q I h;exact isTrue_not (b J s σ H (λc O=>Q (!c) O) I h)
def I7(ta tb:TE):TE:=λσ H Q=>ta σ H λx O=>∃c,x=.bl c/\if c=true then tb σ O Q else Q (.bl false) O
def Kt(ta tb:TE):TE:=λσ H Q=>ta σ H λx O=>∃c,x=.bl c/\if c=true then Q (.bl true) O else tb σ O Q
def I8(ta:TE):TE:=λσ H Q=>ta σ H λx O=>∃c,x=.bl c/\Q (.bl (!c)) O
theorem jw{op}{t:TE}(h:PE X a t):PE X (.BoolOp op [a] pos) t:=λJ s σ H Q I b=>BoolOp_one (h J s σ H Q I b)
theorem iY(f:PE X a ta)(g:PE X (.BoolOp .And (b::rest) pos) tb):PE X (.BoolOp .And (a::b::rest) pos) (I7 ta tb):=by
 intro J s σ H Q I h;refine BoolOp_and (aF (f J s σ H _ I h) λv i k=>?_);obtain⟨x,O,e,j,d⟩:=k;obtain⟨c,rfl,d⟩:=d;cases j
 refine gp ?_;cases c with
 |true=>exact g J i σ O Q e d
 |false=>exact⟨.bl false,O,e,rfl,d⟩
theorem I9(f:PE X a ta)(g:PE X (.BoolOp .Or (b::rest) pos) tb):PE X (.BoolOp .Or (a::b::rest) pos) (Kt ta tb):=by
 intro J s σ H Q I h;refine BoolOp_or (aF (f J s σ H _ I h) λv i k=>?_);obtain⟨x,O,e,j,d⟩:=k;obtain⟨c,rfl,d⟩:=d;cases j
 refine gp ?_;cases c with
 |false=>exact g J i σ O Q e d
 |true=>exact⟨.bl true,O,e,rfl,d⟩
theorem Ae(d:PE X a ta):PE X (.UnaryOp .Not a pos) (I8 ta):=by
 intro J s σ H Q I h;refine UnaryOp_ (aF (d J s σ H _ I h) λv g i=>?_);obtain⟨x,O,e,f,b⟩:=i;obtain⟨c,rfl,b⟩:=b;cases f
 exact not_of (gp ⟨.bl (!c),O,e,rfl,b⟩)
def LG(t:TT)(ta tb:TE):TE:=λσ H Q=>t σ H λc O=>if c=true then ta σ O Q else tb σ O Q
theorem Fx(i:PT X c tA)(j:PE X a ta)(k:PE X b tb):PE X (.IfExp c a b pos) (LG tA ta tb):=by
 intro J s σ H Q I h;refine wpAny_IfExp (aF (i J s σ H _ I h) λd e l=>?_);obtain⟨O,f,g⟩:=l;cases d with
 |true=>exact j J e σ O Q f g
 |false=>exact k J e σ O Q f g
end
def aq(K:O9)(H:Hp)(a:OT)(xs:List V):Prop:=
 Rd H a (.lst xs) \/
  ∃(o:Tp) (its:Array i') (n:Nat),K.lookup a=ih o/\o.cls=.type "list" /\ o.dict=none/\o.data=.seq its n/\its.size<=OY/\Vals xs its.toList
def aU(K:O9)(H:Hp)(a:OT)(xs:List V):Prop:=
 Rd H a (.tup xs) \/
  ∃(o:Tp) (its:Array i') (n:Nat),K.lookup a=ih o/\o.cls=.type "tuple" /\ o.data=.seq its n/\its.size<=OY/\Vals xs its.toList
def Ku:i'->Option V
 |.none=>ih .aM
 |.bool b=>ih (.bl b)
 |.int i _=>ih (.int i)
 |.str x _=>ih (.str x)
 |.bytes b _=>ih (.e0 b)
 |.float b _=>ih (.i8 b)
 |.ref a=>ih (.ref a)
 |.type n=>ih (.ty n)
 |_=>none
theorem RelV.abs{x:V}(r:RelV x u):Ku u=ih x:=by
 cases x with
 |aM=>cases r;rfl
 |bl _=>cases r;rfl
 |int _=>obtain⟨t,rfl⟩:=r;rfl
 |str _=>obtain⟨t,rfl⟩:=r;rfl
 |e0 _=>obtain⟨t,rfl⟩:=r;rfl
 |i8 _=>obtain⟨t,rfl⟩:=r;rfl
 |ref _=>cases r;rfl
 |ty _=>cases r;rfl
theorem RelV.inj{x:V}(r:RelV x u)(q:RelV y u):x=y:=c3 (r.abs.symm.trans q.abs)
theorem Vals.inj:∀{xs ys:am V}{us:am i'},Vals xs us->Vals ys us->xs=ys
 |_,_,_,.nil,.nil=>rfl
 |_,_,_,.cons r t,.cons a t'=>by rw[r.inj a,Vals.inj t t']
section
variable{ys:am V}
theorem aq.of(h:H a=bm xs):aq K H a xs:=.inl (.inl h)
theorem aU.of(h:H a=bi xs):aU K H a xs:=.inl (.inl h)
theorem Inv.list(I:Inv X J σ H s)(h:aq X.K H a xs):∃its:am i',Vals xs its/\PlainL s.heap a its.toArray/\xs.length<=OY:=by
 rcases h with h|⟨o,its,n,b,c,d,f,g,r⟩
 ·obtain⟨z,its,n,r,e⟩:=h.ok I.aJ
  exact⟨its,r,⟨_,n,e,rfl,rfl,rfl⟩,z⟩
 ·refine⟨its.toList,r,⟨o,n,I.cV a o b,c,d,by simpa using f⟩,?_⟩
  have e:=r.length;simp only[eT]at e;omega
theorem Inv.tuple(I:Inv X J σ H s)(h:aU X.K H a xs):∃its:am i',Vals xs its/\S0 s.heap a its.toArray/\xs.length<=OY:=by
 rcases h with h|⟨o,its,n,b,c,d,f,r⟩
 ·obtain⟨z,its,r,p⟩:=h.ok I.aJ
  exact⟨its,r,p.is,z⟩
 ·refine⟨its.toList,r,⟨o,I.cV a o b,c,n,by simpa using d⟩,?_⟩
  have e:=r.length;simp only[eT]at e;omega
theorem Inv.vN(I:Inv X J σ H s)(h:aq X.K H a xs)(h':aq X.K H a ys):xs=ys:=by
 obtain⟨its,r,⟨o,n,e,_,_,d⟩,_⟩:=I.list h;obtain⟨f,g,⟨o',j,b,_,_,c⟩,_⟩:=I.list h';rw[e]at b;cases b;rw[d]at c;injection c with i _;have:its=f:=by simpa using b2 Vf i
 subst this;exact r.inj g
theorem Inv.EG(I:Inv X J σ H s)(h:aU X.K H a xs)(h':aU X.K H a ys):xs=ys:=by
 obtain⟨its,r,⟨o,e,_,n,d⟩,_⟩:=I.tuple h;obtain⟨f,g,⟨o',b,_,j,c⟩,_⟩:=I.tuple h';rw[e]at b;cases b;rw[d]at c;injection c with i _;have:its=f:=by simpa using b2 Vf i
 subst this;exact r.inj g
end
abbrev Cx.gY(X:Cx)(E:i'->OX->Prop):Cx:={ X with xe:=E }
abbrev Cx.iw(X:Cx):Cx:=X.gY λ_ _=>False
theorem Cx.Ok.gY(ok:X.Ok)(E:i'->OX->Prop):(X.gY E).Ok:=
 ⟨ok.mod,ok.kind,ok.glob,ok.blt,ok.above,ok.inj,ok.has,ok.mV,ok.hd,ok.frames,ok.pU,ok.pV,ok.bs,ok.ja,ok.mG,ok.mH,ok.gj,ok.jO⟩
theorem Cx.Ok.iZ(ok:(X.gY E).Ok):X.Ok:=
 ⟨ok.mod,ok.kind,ok.glob,ok.blt,ok.above,ok.inj,ok.has,ok.mV,ok.hd,ok.frames,ok.pU,ok.pV,ok.bs,ok.ja,ok.mG,ok.mH,ok.gj,ok.jO⟩
theorem Inv.gY(I:Inv X J σ H s)(E:i'->OX->Prop):Inv (X.gY E) J σ H s:=⟨I.ok.gY E,I.os,I.bare,I.base,I.loc,I.cell,I.free,I.gf,I.pin,I.aJ,I.len⟩
theorem Inv.iZ(I:Inv (X.gY E) J σ H s):Inv X J σ H s:=⟨I.ok.iZ,I.os,I.bare,I.base,I.loc,I.cell,I.free,I.gf,I.pin,I.aJ,I.len⟩
theorem SP.iZ{D:Ends}{f:Flow}(h:SP (X.gY E) J D f s'):SP X J D f s':=by
 cases f with
 |next=>obtain⟨a,Y,I,q⟩:=h;exact⟨a,Y,I.iZ,q⟩
 |brk=>obtain⟨a,Y,I,q⟩:=h;exact⟨a,Y,I.iZ,q⟩
 |cont=>obtain⟨a,Y,I,q⟩:=h;exact⟨a,Y,I.iZ,q⟩
 |ret u=>obtain⟨v,a,Y,I,r,q⟩:=h;exact⟨v,a,Y,I.iZ,r,q⟩
theorem eI.iw{st:am PQ}{t:TS}(h:eI X.iw st t):eI X st t:=λJ s σ H D I a =>
 iF (h J s σ H D (I.gY _) a) (λ_ _ q=>q.iZ) λ_ _ z=>SF z
section
variable{rest:am PQ}{t u:TS}
def I':TS:=λD σ H=>D.nx σ H
def sH(t u:TS):TS:=λD σ H=>t { D with nx:=u D } σ H
theorem bX:eI X [] I':=λ_ _ σ H _ I h=>qc ⟨σ,H,I,h⟩
theorem aw(h1:PS X st t)(U:eI X rest u):eI X (st::rest) (sH t u):=by
 intro J s σ H D I h;refine wpAny_execs_cons (aF (h1 J s σ H { D with nx:=u D } I h) λf b q=>?_);cases f with
 |next =>
  obtain⟨a,Y,c,q⟩:=q;exact U J b a Y D c q
 |ret v=>exact q
 |brk=>exact q
 |cont=>exact q
theorem aA(h1:PS X st t):eI X [st] t:=by
 intro J s σ H D I h;refine wpAny_execs_cons (aF (h1 J s σ H D I h) λf a q=>?_);cases f with
 |next=>exact qc q
 |ret v=>exact q
 |brk=>exact q
 |cont=>exact q
theorem Inv.quiet(I:Inv X J σ H s):interactive X.env=false:=by simp[interactive,I.ok.kind]
def Ja(te:TE):TS:=λD σ H=>te σ H λ_ O=>D.nx σ O
theorem dX(a:PE X e te)(b:swapsWith e none pos.line X.env=pure false:=by rfl):PS X (.Expr e pos) (Ja te):=by
 intro J s σ H D I h;exact wpAny_Expr_any (aF (a J s σ H _ I h) λv f ⟨x,O,c,g,d⟩=>⟨σ,O,c,d⟩) I.quiet b
def Kv(te:TE):TS:=λD σ H=>te σ H D.rt
theorem aX(a:PE X e te):PS X (.Return (ih e) pos) (Kv te):=by
 intro J s σ H D I h;exact wpAny_Return_some (aF (a J s σ H _ I h) λv f ⟨x,O,b,c,d⟩=>⟨x,σ,O,b,c,d⟩)
def Jb:TS:=λD _ H=>D.rt .aM H
theorem GJ:PS X (.Return none pos) Jb:=λ_ _ σ H _ I h=>wpAny_Return_none ⟨.aM,σ,H,I,rfl,h⟩
def A6(c:TT)(t u:TS):TS:=λD σ H=>c σ H λb O=>if b=true then t D σ O else u D σ O
theorem bF{a b:am PQ}{tc:TT}(i:PT X c tc)(j:eI X a t)(k:eI X b u):PS X (.If c a b pos) (A6 tc t u):=by
 intro J s σ H D I h;refine wpAny_If (aF (i J s σ H _ I h) λd e l=>?_);obtain⟨O,f,g⟩:=l;cases d with
 |true=>exact j J e σ O D f g
 |false=>exact k J e σ O D f g
def Af:TS:=λ_ _ _=>False
theorem Fy:PS X st Af:=λ_ _ _ _ _ _ h=>h.elim
theorem lJ{a:am PQ}:eI X a Af:=λ_ _ _ _ _ _ h=>h.elim
end
abbrev TG:=V->St->Hp->(St->Hp->Prop)->Prop
abbrev jb:=List V->St->Hp->(St->Hp->Prop)->Prop
def PG(X:Cx)(Ig:Si)(t:TG):Prop:=
 ∀J s σ H (v:V) (u:i') (Q:St->Hp->Prop),Inv X J σ H s->RelV v u->t v σ H Q ->
  wA X (assign Ig X.env u) (λ_ s'=>∃c8 Y,Inv X J c8 Y s'/\Q c8 Y) X.xe s
def mW(X:Cx)(ts:List Si)(t:jb):Prop:=
 ∀J s σ H (vs:List V) (us:List i') (Q:St->Hp->Prop),Inv X J σ H s->Vals vs us->t vs σ H Q ->
  wA X (assignInOrder ((assignEach ts X.env).map (·.2)) us) (λ_ s'=>∃c8 Y,Inv X J c8 Y s'/\Q c8 Y) X.xe s
abbrev sI:=V->V->V->Hp->(Hp->Prop)->Prop
def A7(X:Cx)(t:sI):Prop:=
 ∀J s σ H (o i v:V) (ov iv u:i') (Q:Hp->Prop),Inv X J σ H s->RelV o ov->RelV i iv->RelV v u->t o i v H Q ->
  wA X (setItem ov iv u) (λ_ s'=>∃Y,Inv X J σ Y s'/\Q Y) X.xe s
def gW(i:Nat):TG:=λv σ H Q=>Q (σ.set i (ih v)) H
theorem lZ(a:X.N.Nodup)(hi:X.N[i]?=ih x)(b:Loc X.env.scope x)(c:X.fn x=true\/X.env.scope.names.lookup x=ih .local:=by first|exact .inl rfl|exact .inr rfl|assumption):PG X (.Name x pos) (gW i):=by
 intro J s σ H v u Q I r h;exact wpAny_assign_Name (nX I a hi b r (λs' d=>⟨_,H,d,h⟩) c)
theorem ba(i:Nat)(a:X.N.Nodup)(hi:X.N[i]?=ih x:=by exact rfl)(b:Loc X.env.scope x:=by exact Vj rfl)(c:X.fn x=true\/X.env.scope.names.lookup x=ih .local:=by first|exact .inl rfl|exact .inr rfl|assumption):PG X (.Name x pos) (gW i):=lZ a hi b c
def Kw:jb:=λvs σ H Q=>vs=[]/\Q σ H
def Jc(t:TG)(u:jb):jb:=λvs σ H Q=>∃v r,vs=v::r/\t v σ H λc8 Y=>u r c8 Y Q
theorem f':mW X [] Kw:=by
 rintro J s σ H vs us Q I r ⟨e,h⟩;subst e;cases r
 exact assignInOrder_nil ⟨σ,H,I,h⟩
theorem cS{t:TG}{u:jb}(h1:PG X e t)(U:mW X es u)
  (b:(assignEach (e::es) X.env).map (·.2)=assign e X.env::(assignEach es X.env).map (·.2):=by rfl):mW X (e::es) (Jc t u):=by
 rintro J s σ H vs us Q I r ⟨v,j,c,h⟩;subst c;cases r with
 |cons r d =>
  rw[b];refine Ck (aF (h1 J s σ H _ _ _ I r h) λ_ f k=>?_);obtain⟨a,O,g,i⟩:=k;exact U J f a O _ _ Q g d i
def A8(K:O9)(n:Nat)(t:jb):TG:=λv σ H Q=>∃a xs,v=.ref a/\aU K H a xs/\xs.length=n/\t xs σ H Q
theorem gU{k:Nat}{t:jb}{n:Nat}(g:X.calm=true)(h:mW X es t)
  (i:(assignEach es X.env).length=n:=by rfl) (f:(assignEach es X.env).findIdx? (·.1)=none:=by rfl):PG X (.Tuple es k pos) (A8 X.K n t):=by
 rintro J s σ H v u Q I r ⟨a,xs,j,l,m,c⟩;subst j;cases r
 obtain⟨its,d,p,x⟩:=I.tuple l;refine assign_Tuple_tuple (I.ok.hd g) p (by simp[i,<-m,d.length]) f λh' q=>?_
 have w:Inv X J σ H { s with heap:=h' }:=I.kept (t':=s.toks) λb o e=>q b o (bG (br e)) e;exact h J _ σ H xs _ Q w (by simpa using d) c
def Kx(to ti:TE)(t:sI):TG:=λv σ H Q=>to σ H λo O=>ti σ O λi H2=>t o i v H2 λH3=>Q σ H3
theorem Ag{o i:Si}{to ti:TE}{t:sI}(c:PE X o to)(hi:PE X i ti)(d:A7 X t)
  (e:∀v,assign (.Subscript o i pos) X.env v=(do
   let a <- holding [v] (eval o X.env)
   let b <- holding [v,a] (eval i X.env)
   standAt pos
   holding [v,a,b] (setItem a b v)
   release [v,a,b] []):=by intro _;rfl):PG X (.Subscript o i pos) (Kx to ti t):=by
 intro J s σ H v u Q I r h;rw[e];refine ab (dO (aF (c J s σ H _ I h) λa f A=>?_));obtain⟨x,O,g,j,k⟩:=A;refine ab (dO (aF (hi J f σ O _ g k) λb s2 A=>?_));obtain⟨y,H2,l,m,n⟩:=A;refine ab (lb (ab (dO (aF (d J s2 σ H2 x y v a b u _ l j m r n) λ_ z A=>?_))));obtain⟨p,q,w⟩:=A;exact wpAny_release ⟨σ,p,q,w⟩
def oS(te:TE)(g:TG):TS:=λD σ H=>te σ H λx O=>g x σ O D.nx
theorem h6{g:TG}(a:PE X e te)(b:PG X tg g)(c:swapsWithSole [tg] e pos.line X.env=pure false:=by rfl)(d:swappedStores [tg] e X.env=pure none:=by rfl)
  (h1:(assignEach [tg] X.env).map (·.2)=[assign tg X.env]:=by rfl):PS X (.Assign [tg] e pos) (oS te g):=by
 intro J s σ H D I h;refine wpAny_Assign_stores (aF (a J s σ H _ I h) λv f l=>?_) c d;obtain⟨x,O,i,j,k⟩:=l;rw[h1];exact aF (b J f σ O x v _ i j k) λ_ s2 q=>q
theorem gb(a:X.N.Nodup)(hi:X.N[i]?=ih x)(b:Loc X.env.scope x)(c:PE X e te)(d:swapsWith e (ih (.Name x Qg)) pos.line X.env=pure false:=by rfl)(f:X.fn x=true\/X.env.scope.names.lookup x=ih .local:=by first|exact .inl rfl|exact .inr rfl|assumption) :
  PS X (.Assign [.Name x Qg] e pos) (oS te (gW i)):=by
 intro J s σ H D I h;refine wpAny_Assign_Name (aF (c J s σ H _ I h) λv m n=>?_) d;obtain⟨y,O,g,j,k⟩:=n;exact nX g a hi b j (λs2 l=>⟨_,O,l,k⟩) f
theorem a9(i:Nat)(a:X.N.Nodup)(b:PE X e te)(hi:X.N[i]?=ih x:=by exact rfl)(c:Loc X.env.scope x:=by exact Vj rfl)(d:swapsWith e (ih (.Name x Qg)) pos.line X.env=pure false:=by rfl)(f:X.fn x=true\/X.env.scope.names.lookup x=ih .local:=by first|exact .inl rfl|exact .inr rfl|assumption):PS X (.Assign [.Name x Qg] e pos) (oS te (gW i)):=gb a hi c b d f
def Ky(i j:Nat)(ta:TA):TS:=λD σ H=>ta σ H λvs O=>∃v w,vs=[v,w]/\D.nx ((σ.set i (ih v)).set j (ih w)) O
theorem rZ{y:CY}{a b:Si}{ta:TA}{k l pt:VU}{m n g}(F:X.calm=true)(t:X.N.Nodup)(hi:X.N[i]?=ih x)(G:X.N[j]?=ih y)(B:i≠j)
  (u:X.env.scope.names.lookup x=ih .local) (z:X.env.scope.names.lookup y=ih .local) (K:PA X [a,b] ta)
  (L:swappedStores [.Tuple [.Name x k,.Name y l] m pt] (.Tuple [a,b] n g) X.env=pure (ih [x,y]))
  (M:swapsWithSole [.Tuple [.Name x k,.Name y l] m pt] (.Tuple [a,b] n g) pos.line X.env=pure false:=by rfl) :
  PS X (.Assign [.Tuple [.Name x k,.Name y l] m pt] (.Tuple [a,b] n g) pos) (Ky i j ta):=by
 intro J s σ H D I h;rw[exec_Assign_arm];refine ab (lb ?_);rw[M];refine ab (ai ?_);rw[au (by decide)]
 refine ab (Tuple_ (aF (K _ J s σ H _ I h) λus c aa=>?_));obtain⟨vs,O,P,Q,r⟩:=aa;obtain⟨v,w,R,r⟩:=r;subst R;obtain⟨d,f,rfl,S,C⟩:∃d f,us=[d,f]/\RelV v d/\RelV w f:=by
  cases Q with
  |cons p q =>
   cases q with
   |cons T U =>
    cases U
    exact⟨_,_,rfl,p,T⟩
 refine ed ?_ (by show 2<=OY;decide)
 have V:Inv X J σ O { c with heap:=c.heap.push { cls:=.type "tuple",data:=.seq [d,f].toArray } }:=P.kept (t':=c.toks) λb o e=>aZ _ e;rw[L];refine ab (ai ?_);show wA X (do rule "assign.swapped-stores"; let items <- unpackItems (.ref c.ao) 2 none;assignInOrder [λv=>bindName X.env y v,λv=>bindName X.env x v] items.reverse;pure Wv) _ _ _;refine ab (iG (ab (unpackItems_tuple (items:= #[d,f]) (I.ok.hd F) (IsTup.new c.heap _) λh' E=>?_)));have W:=V.kept (h':=h') (t':=c.toks) λb o e=>E b o (bG (br e)) e;show OZ _ _ (assignInOrder [λv=>bindName X.env y v,λv=>bindName X.env x v] [f,d] >>= λ_=>pure Wv) _ _ _;refine ab (Ck (wpAny_bindName (nX W t G (.inl z) C (λs2 Y=>?_) (.inr z))));refine Ck (wpAny_bindName (nX Y t hi (.inl u) S (λxa A=>assignInOrder_nil (ai ?_)) (.inr u)));rw[List.set_comm _ _ (aN B)]at A;exact⟨_,O,A,r⟩
def Ih(c:TT)(tb:TS):TS:=λD σ H=>∃W:Nat->St->Hp->Prop,(∃m,W m σ H) /\∀m σ H,W m σ H ->
 c σ H λb O=>if b=true then ∃N:St->Hp->Prop,(∀c8 Y,N c8 Y ->∃m',m'<m/\W m' c8 Y)/\tb { D with nx:=N,ct:=N,bk:=D.nx } σ O else D.nx σ O
theorem lQ{tc:TT}(q:PassesOwn X.eb X.A X.env X.xe)(w:PT X c tc)(x:eI X body tb):PS X (.While c body [] pos) (Ih tc tb):=by
 rintro J s σ H D I ⟨W,⟨y,z⟩,u⟩;refine wpAny_While (codeAny_whileLoop (λn s'=>∃p Y,Inv X J p Y s'/\W n p Y) ?_ y ⟨σ,H,I,z⟩);rintro n B ⟨e,O,C,E⟩;refine lg q (aF (w J B e O _ C (u n e O E)) λb s2 G=>?_);obtain⟨H2,r,g⟩:=G;cases b with
 |true =>
  obtain⟨N,t,g⟩:=g;rw[aB rfl];refine lg q (aF (x J s2 e H2 _ r g) λf F i=>?_);cases f with
  |next =>
   obtain⟨a,d,j,k⟩:=i;obtain⟨l,m,o⟩:=t a d k;exact⟨l,m,a,d,j,o⟩
  |cont =>
   obtain⟨a,d,j,k⟩:=i;obtain⟨l,m,o⟩:=t a d k;exact⟨l,m,a,d,j,o⟩
  |brk=>exact i
  |ret v=>exact i
 |false =>
  rw[au bV];exact qc ⟨e,H2,r,g⟩
structure It where
 go:Nat->Hp->Prop
 ix:Nat->Hp->V->Hp->Prop
 stop:Nat->Hp->Prop
def fc(X:Cx)(J:List (OT×Tp))(H:Hp)(b:OT):Prop:=
 H b=none/\b≠X.env.locals/\b ∉ X.fs/\(b∈X.ex\/X.ew.heap.objs.size<=b)/\(∀x c,X.env.cells.lookup x=ih c->c≠b) /\∀p∈X.pn++J,p.1≠b
theorem Inv.ig(I:Inv X J σ H s)(a:s.ao<=b)(d:Y b=none):fc X J Y b:=by
 refine⟨d,iH (e4 I.lt a),I.Kn a,.inr (eS I.sz a),λx c e z=>?_,λp f z=>?_⟩
 ·obtain⟨v,q⟩:=I.cell x c e
  exact absurd (e4 q.lt (by rw[z];exact a)) (hC _)
 ·exact absurd (e4 (br (I.pin p f).1) (by rw[z];exact a)) (hC _)
structure Turn(P:SD)(w:SQ)(K:O9)(tg:Si)(J9:It)(fp:List OT)(it:OT)(tn:Nat->SN->Prop):Prop where
 mem:it∈fp
 obj:∀i h,tn i h ->∀b∈fp,∃o,h.get? b=ih o /\∀v,o.data ≠ .cell v
 keep:∀i h h',tn i h->(∀b∈fp,∀o,h.get? b=ih o->h'.get? b=ih o)->tn i h'
 item:∀(X:Cx),X.prog=P->X.w=w->X.K=K->X.calm=true ->∀(i:Nat) J s σ H (E:i'->OX->Prop),Inv X J σ H s->(∀b∈fp,fc X J H b)->tn i s.heap->J9.go i H ->
  OZ (Pb P w) X.A (pyNext (.ref it)) (λr s1=>∃u,r=ih u /\
   OZ (Pb P w) X.A (letOwnedTupleGo tg (.ref it) u) (λ_ s2=>∃x Y,Inv X J σ Y s2/\RelV x u/\J9.ix i H x Y/\tn (i+1) s2.heap /\∀b∈fp,Y b=none) E s1) E s
 done:∀(X:Cx),X.prog=P->X.w=w->X.K=K->X.calm=true ->∀(i:Nat) J s σ H (E:i'->OX->Prop),Inv X J σ H s->(∀b∈fp,fc X J H b)->tn i s.heap->J9.stop i H ->
  OZ (Pb P w) X.A (pyNext (.ref it)) (λr s1=>r=none/\Inv X J σ H s1) E s
 self:∀(A:SV) (i:Nat) (s:OX) (Q:i'->OX->Prop) (E:i'->OX->Prop),tn i s.heap->Q (.ref it) s->OZ (Pb P w) A (pyIter (.ref it)) Q E s
abbrev TI:=St->Hp->(It->Hp->Prop)->Prop
def tD(X:Cx)(J:List (OT×Tp))(σ:St)(tg:Si)(R:It->Hp->Prop)(LH:i')(s2:OX):Prop:=
 ∃(it:OT) (fp:List OT) (tn:Nat->SN->Prop) (J9:It) (Y:Hp),LH=.ref it/\Inv X J σ Y s2/\Turn X.prog X.w X.K tg J9 fp it tn/\tn 0 s2.heap/\(∀b∈fp,fc X J Y b)/\R J9 Y
def PI(X:Cx)(tg iter:Si)(wi:TI):Prop:=
 ∀J s σ H (R:It->Hp->Prop),Inv X J σ H s->wi σ H R ->
  wA X (eval iter X.env) (λv s1=>wA X (pyIter v) (tD X J σ tg R) X.xe s1) X.xe s
theorem mw{M:Vi}{n:String}{vs:Array i'}{Q:Unit->OX->Prop}(b:s.heap.get? it=ih o)(c:o.cls=.type n)(d:o.data=.fields vs)
  (e : ["enumerate","zip","dict_itemiterator","dict_reverseitemiterator","odict_iterator","itertools.zip_longest","itertools.pairwise"].contains n=false) (a:Q () s):OZ M A (letOwnedTupleGo tg (.ref it) u) Q E s:=by
 unfold letOwnedTupleGo;cases tg <;> first
  |exact ai a
  |(cases u <;> first
    |exact ai a
    |(refine ab (m6 b ?_);rw[c,d];show OZ M A (if (["enumerate","zip","dict_itemiterator","dict_reverseitemiterator","odict_iterator","itertools.zip_longest","itertools.pairwise"].contains n&&vs[0]? == ih (rawInt _))=true then _ else _) Q E s;rw[au (by intro h;rw[e,Bool.false_and]at h;cases h)];exact ai a))
def jc(K:O9)(a:OT):It:=
 ⟨λi H=>∃xs x,aq K H a xs/\xs[i]?=ih x,λi H x Y=>Y=H /\∀xs,aq K H a xs->xs[i]?=ih x,λi H=>∃xs,aq K H a xs/\xs.length<=i⟩
def iy(K:O9)(a:OT):It:=
 ⟨λi H=>∃xs x,aU K H a xs/\xs[i]?=ih x,λi H x Y=>Y=H /\∀xs,aU K H a xs->xs[i]?=ih x,λi H=>∃xs,aU K H a xs/\xs.length<=i⟩
def jP(lo:Int)(n:Nat):It:=⟨λi _=>i<n,λi H x Y=>Y=H/\x=.int (lo+i),λi _=>n<=i⟩
theorem EH(a it:OT):Turn P w K tg (jc K a) [it] it (λi h=>h.IsListIter it a i) where
 mem:=by simp
 obj:=λi h st b f=>by
  have e:b=it:=by simpa using f
  subst e;obtain⟨o,e,c,d⟩:=st;exact⟨o,e,λv z=>by rw[d]at z;cases z⟩
 keep:=λi h h' st k=>st.at λo e=>k it (by simp) o e
 item:=by
  intro X l m n G i J s σ H E I g st q;subst l m n;obtain⟨xs,x,j,r⟩:=q;obtain⟨its,t,p,L⟩:=I.list j;obtain⟨u,M,N⟩:=t.get r;obtain⟨y,A,O,B,C,D⟩:=g it (by simp)
  refine wpAny_pyNext_list_item st p.isList (x:=u) (by simpa using M) λh' F Q=>?_
  have R:Inv X J σ H { s with heap:=h' }:=I.turned (t':=s.toks) (λb o f e=>(Q.2 b f).trans e) y A B C D;obtain⟨o,e,c,d⟩:=id F;exact⟨u,rfl,mw (s:={ s with heap:=h' }) e c d (by decide) ⟨x,H,R,N,⟨rfl,λys S=>by rw[I.vN S j];exact r⟩,F,λb f=>(g b f).1⟩⟩
 done:=by
  intro X l m n G i J s σ H E I g st q;subst l m n;obtain⟨xs,j,r⟩:=q;obtain⟨its,t,p,L⟩:=I.list j;obtain⟨y,A,O,B,C,D⟩:=g it (by simp)
  have U:=t.length;exact wpAny_pyNext_list_end (I.ok.hd G) st p.isList (by simp;omega) λh' T=>⟨rfl,I.turned (t':=s.toks) (λb o f e=>T b o f e) y A B C D⟩
 self:=λ_ _ _ _ _ st h=>wpAny_pyIter_listiter st h
theorem D7(a it:OT):Turn P w K tg (iy K a) [it] it (λi h=>h.IsTupleIter it a i) where
 mem:=by simp
 obj:=λi h st b f=>by
  have e:b=it:=by simpa using f
  subst e;obtain⟨o,e,c,d⟩:=st;exact⟨o,e,λv z=>by rw[d]at z;cases z⟩
 keep:=λi h h' st k=>st.at λo e=>k it (by simp) o e
 item:=by
  intro X l m n G i J s σ H E I g st q;subst l m n;obtain⟨xs,x,j,r⟩:=q;obtain⟨its,t,p,L⟩:=I.tuple j;obtain⟨u,M,N⟩:=t.get r;obtain⟨y,A,O,B,C,D⟩:=g it (by simp)
  refine wpAny_pyNext_tuple_item st (show s.heap.IsTuple a its.toArray from p) (x:=u) (by simpa using M) λh' F Q=>?_
  have R:Inv X J σ H { s with heap:=h' }:=I.turned (t':=s.toks) (λb o f e=>(Q.2 b f).trans e) y A B C D;obtain⟨o,e,c,d⟩:=id F;exact⟨u,rfl,mw (s:={ s with heap:=h' }) e c d (by decide) ⟨x,H,R,N,⟨rfl,λys S=>by rw[I.EG S j];exact r⟩,F,λb f=>(g b f).1⟩⟩
 done:=by
  intro X l m n G i J s σ H E I g st q;subst l m n;obtain⟨xs,j,r⟩:=q;obtain⟨its,t,p,L⟩:=I.tuple j;obtain⟨y,A,O,B,C,D⟩:=g it (by simp)
  have U:=t.length;exact wpAny_pyNext_tuple_end (I.ok.hd G) st (show s.heap.IsTuple a its.toArray from p) (by simp;omega) λh' T=>⟨rfl,I.turned (t':=s.toks) (λb o f e=>T b o f e) y A B C D⟩
 self:=λ_ _ _ _ _ st h=>wpAny_pyIter_tupleiter st h
theorem D8(it:OT)(lo:Int)(n:Nat):Turn P w K tg (jP lo n) [it] it (λi h=>W6 h it (lo+(i:Nat) * 1) ((n:Int) - (i:Nat)) 1) where
 mem:=by simp
 obj:=λi h st b a=>by
  have e:b=it:=by simpa using a
  subst e;exact⟨_,st,λv z=>by
   have y:Data.fields _=Data.cell v:=z;cases y⟩
 keep:=λi h h' st k=>k it (by simp) _ st
 item:=by
  intro X d f g j i J s σ H E I c st l;subst d f g;obtain⟨m,p,A,q,r,u⟩:=c it (by simp)
  have W:=Walks.range (prog:=X.prog) (w:=X.w) (I.ok.hd j) it lo 1 n;refine W.item i s _ _ l st λv h' tk hv x kk=>?_;obtain⟨t,rfl⟩:=hv;have B:Inv X J σ H { s with heap:=h',toks:=tk }:=I.turned (λb o a e=>kk b o (by simpa using a) e) m p q r u
  refine⟨_,rfl,mw (s:={ s with heap:=h',toks:=tk }) (n:= "range_iterator") x rfl rfl (by decide) ⟨.int (lo+i),H,B,⟨t,?_⟩,⟨rfl,rfl⟩,x,λb a=>(c b a).1⟩⟩
  rw[Int.mul_one]
 done:=by
  intro X d f g j i J s σ H E I c st l;subst d f g;obtain⟨m,p,A,q,r,u⟩:=c it (by simp)
  exact wpAny_pyNext_range_end (I.ok.hd j) st (by have:n<=i:=l;omega) λh' C=>⟨rfl,I.turned (t':=s.toks) (λb o a e=>C b o a e) m p q r u⟩
 self:=λ_ _ _ _ _ st h=>wpAny_pyIter_rangeiter st h
def AE(K:O9)(tl:TE):TI:=λσ H R=>tl σ H λx O=>∃a,x=.ref a/\(∃xs,aq K O a xs)/\R (jc K a) O
def A9(K:O9)(tl:TE):TI:=λσ H R=>tl σ H λx O=>∃a,x=.ref a/\(∃xs,aU K O a xs)/\R (iy K a) O
theorem c9{l:Si}(f:PE X l tl):PI X tg l (AE X.K tl):=by
 intro J s σ H R I h;refine aF (f J s σ H _ I h) λv c r=>?_;obtain⟨x,O,d,g,i⟩:=r;obtain⟨a,e,⟨xs,j⟩,q⟩:=i;subst e;cases g
 obtain⟨its,m,p,n⟩:=d.list j;refine qd p.isList ?_;refine⟨c.ao,[c.ao],_,_,O,rfl,d.kept (t':=c.toks) λb o e=>aZ _ e,EH a _,⟨_,bK _ rfl,rfl,rfl⟩,λb k=>?_,q⟩;have e:b=c.ao:=by simpa using k
 subst e;exact d.ig (aK _) (d.aJ.fresh (aK _))
theorem kD{l:Si}(f:PE X l tl):PI X tg l (A9 X.K tl):=by
 intro J s σ H R I h;refine aF (f J s σ H _ I h) λv c r=>?_;obtain⟨x,O,d,g,i⟩:=r;obtain⟨a,e,⟨xs,j⟩,q⟩:=i;subst e;cases g
 obtain⟨its,m,p,n⟩:=d.tuple j;refine wpAny_pyIter_tuple (show c.heap.IsTuple a its.toArray from p) ?_;refine⟨c.ao,[c.ao],_,_,O,rfl,d.kept (t':=c.toks) λb o e=>aZ _ e,D7 a _,⟨_,bK _ rfl,rfl,rfl⟩,λb k=>?_,q⟩;have e:b=c.ao:=by simpa using k
 subst e;exact d.ig (aK _) (d.aJ.fresh (aK _))
theorem Fz{R:It->Hp->Prop}{hi:Int}{t u v:Vv}{tk:Nat}(I:Inv X J σ H s)(h1 : -(2 ^ 62)<=lo)(U:lo<2 ^ 62)(c : -(2 ^ 62)<=hi)(d:hi<2 ^ 62)
  (q:R (jP lo (hi - lo).toNat) H):wA X (pyIter (.ref s.heap.objs.size)) (tD X J σ tg R) E { s with heap:=s.heap.push { cls:=.type "range",data:=.fields #[.int lo t,.int hi u,.int 1 v] },toks:=tk }:=by
 refine wpAny_pyIter_range (IsRange.new ..) (small_one h1 U c d) ?_;have a:Inv X J σ H { s with heap:=s.heap.push { cls:=.type "range",data:=.fields #[.int lo t,.int hi u,.int 1 v] },toks:=tk }:=I.kept λb o e=>aZ _ e;refine⟨(s.heap.push { cls:=.type "range",data:=.fields #[.int lo t,.int hi u,.int 1 v] }).objs.size,[(s.heap.push { cls:=.type "range",data:=.fields #[.int lo t,.int hi u,.int 1 v] }).objs.size],_,_,H,rfl,
  a.kept (t':=tk) λb o e=>aZ _ e,D8 _ lo (hi - lo).toNat,?_,λb f=>?_,q⟩
 ·have g:lo+((0:Nat):Int) * 1=lo:=by simp
  have h:(((hi - lo).toNat:Nat):Int) - ((0:Nat):Int)=VT lo hi 1:=by rw[rangeSize_one];split <;> omega
  show W6 _ _ (lo+((0:Nat):Int) * 1) ((((hi - lo).toNat:Nat):Int) - ((0:Nat):Int)) 1;rw[g,h];exact bK _ rfl
 ·have e:b=(s.heap.push { cls:=.type "range",data:=.fields #[.int lo t,.int hi u,.int 1 v] }).objs.size:=by simpa using f
  subst e;exact a.ig (aK _) (a.aJ.fresh (aK _))
def Jd(ta:TA):TI:=λσ H R=>ta σ H λvs O=>∃j:Int,vs=[.int j] /\ -(2 ^ 62)<=j/\j<2 ^ 62/\R (jP 0 j.toNat) O
theorem jn{a:Si}{ta:TA}{p:VU}(c:Gl X "range")(d:X.mg "range" = none)(f:PA X [a] ta)(g:Sh [a] X.env=[(false,eval a X.env)]:=by rfl):PI X tg (.Call (.Name "range" p) [a] [] pos) (Jd ta):=by
 intro J s σ H R I h;refine Call_ (l' I c d boot_range (Cm (aF (f pos J s σ H _ I h) λus n o=>?_) g rfl));obtain⟨vs,O,i,k,b⟩:=o;obtain⟨j,e,b,l,q⟩:=b;subst e;cases k with
 |cons r m =>
  cases m
  obtain⟨t,rfl⟩:=r;exact call_range_1 (Fz i (by omega) (by omega) b l (by simpa using q))
def Kz(wi:TI)(g:TG)(tb:TS):TS:=λD σ H=>wi σ H λJ9 O=>∃W:Nat->Nat->St->Hp->Prop,(∃m,W 0 m σ O) /\∀i m σ H,W i m σ H ->
 (J9.stop i H/\D.nx σ H)\/(J9.go i H /\∃N:St->Hp->Prop,(∀c8 Y,N c8 Y ->∃m',m'<m/\W (i+1) m' c8 Y) /\∀x Y,J9.ix i H x Y->g x σ Y λLI H2=>tb { D with nx:=N,ct:=N,bk:=D.nx } LI H2)
def ma(fp:List OT)(h:SN):List (OT×Tp):=fp.filterMap λb=>(h.get? b).map λo=>(b,o)
theorem nP(a:b∈fp)(e:h.get? b=ih o):(b,o)∈ma fp h:=p9.mpr ⟨b,a,by rw[e];rfl⟩
theorem EI{p:OT×Tp}(a:p∈ma fp h):p.1∈fp/\h.get? p.1=ih p.2:=by
 obtain⟨b,c,e⟩:=p9.mp a;cases q:h.get? b with
 |none=>rw[q]at e;cases e
 |some o =>
  rw[q]at e;have d:(b,o)=p:=c3 e;subst d;exact⟨c,q⟩
theorem Inv.pinned(I:Inv X J σ H s)(f:∀b∈fp,fc X J H b)(g:∀b∈fp,∃o,s.heap.get? b=ih o /\∀v,o.data ≠ .cell v):Inv X (J++ma fp s.heap) σ H s:=
 I.wM λp h=>(cq.mp h).elim (λz=>I.pin p (ee _ z)) λz=>by
  obtain⟨a,e⟩:=EI z;obtain⟨i,j,k,_⟩:=f p.1 a;obtain⟨o,c,d⟩:=g p.1 a;rw[e]at c;cases c;exact⟨e,i,j,k,d⟩
theorem Inv.nY{pl:am (OT×Tp)}(I:Inv X (J++pl) σ H s):Inv X J σ H s:=I.wM λp a=>I.pin p (ee _ (hE _ a))
theorem eX{wi:TI}{g:TG}(t:PassesOwn X.eb X.A X.env X.xe)(K:X.calm=true)(hi:PI X tg iter wi)(za:PG X tg g)(c:eI X body tb)
  (xb:∀x,foldedSetIterable iter X.env x=pure x:=by intro _;rfl):PS X (.For tg iter body [] pos) (Kz wi g tb):=by
 intro J s σ H D I h;refine wpAny_For (aF (hi J s σ H _ I h) λv zi h1=>aF h1 λyi s2 U=>?_) xb;obtain⟨it,fp,tn,xj,H2,e,yb,T,S,L,W,⟨zb,xc⟩,R⟩:=U;subst e;have z:∀{Y:Hp},(∀b∈fp,Y b=none) ->∀b∈fp,fc X J Y b:=λyc b c=>⟨yc b c,(L b c).2⟩;refine codeAny_forLoop_any (λn s'=>∃i p Y,Inv X J p Y s'/\tn i s'.heap/\(∀b∈fp,Y b=none)/\W i n p Y) ?_ zb ⟨0,σ,H2,yb,S,λb c=>(L b c).1,xc⟩;rintro n M ⟨i,q,y,O,F,G,zc⟩;rcases R i n q y zc with⟨stop,xd⟩|⟨go,N,yd,step⟩
 ·refine lg t (aF (T.done X rfl rfl rfl K i J M q y X.xe O (z G) F stop) λr zd ⟨C,ye⟩=>?_)
  subst C;exact qc ⟨q,y,ye,xd⟩
 ·refine lg t (aF (T.item X rfl rfl rfl K i J M q y X.xe O (z G) F go) λr zd aa=>?_);obtain⟨u,C,ze⟩:=aa
  subst C;refine lg t (aF ze λ_ P aa=>?_);obtain⟨x,Q,xf,yf,y5,B,V⟩:=aa;have xa:=xf.pinned (z V) (T.obj _ _ B);refine lg t (aF (za _ P q Q x u _ xa yf (step x Q y5)) λ_ zf aa=>?_);obtain⟨ya,xg,yg,zg⟩:=aa;refine lg t (aF (c _ zf ya xg _ yg zg) λf E l=>?_);have again:∀{a:St}{j:Hp},Inv X (J++ma fp P.heap) a j E->N a j ->∃m,m<n /\∃i p Y,Inv X J p Y E/\tn i E.heap/\(∀b∈fp,Y b=none)/\W i m p Y:=λ{a j} k w=>by
   obtain⟨xh,yh,zh⟩:=yd a j w;refine⟨xh,yh,i+1,a,j,k.nY,T.keep _ _ _ B λb c o e=>(k.pin (b,o) (ee _ (ee _ (nP c e)))).1,λb c=>?_,zh⟩;obtain⟨o,e,d⟩:=T.obj _ _ B b c;exact(k.pin (b,o) (ee _ (ee _ (nP c e)))).2.1
  cases f with
  |next=>obtain⟨a,j,k,w⟩:=l;exact again k w
  |cont=>obtain⟨a,j,k,w⟩:=l;exact again k w
  |brk=>obtain⟨a,j,k,l⟩:=l;exact⟨a,j,k.nY,l⟩
  |ret v=>obtain⟨x7,a,j,k,xi,l⟩:=l;exact⟨x7,a,j,k.nY,xi,l⟩
theorem iS{g:TG}{D:Ends}(Pv:Nat->St->Hp->Prop)(h:Pv 0 σ H)(j:∀i σ H,i<=xs.length->Pv i σ H->aq K H a xs)
  (k:∀i x σ H,xs[i]?=ih x->Pv i σ H->g x σ H λb H2=>tb { D with nx:=Pv (i+1),ct:=Pv (i+1),bk:=D.nx } b H2) (l:∀σ H,Pv xs.length σ H->D.nx σ H) :
  ∃W:Nat->Nat->St->Hp->Prop,(∃m,W 0 m σ H) /\∀i m σ H,W i m σ H ->
   ((jc K a).stop i H/\D.nx σ H)\/((jc K a).go i H /\∃N:St->Hp->Prop,(∀c Y,N c Y ->∃f,f<m/\W (i+1) f c Y) /\∀x Y,(jc K a).ix i H x Y->g x σ Y λb H2=>tb { D with nx:=N,ct:=N,bk:=D.nx } b H2):=by
 refine⟨λi m σ H=>m=xs.length - i/\i<=xs.length/\Pv i σ H,⟨xs.length,by simp,bp _,h⟩,?_⟩
 rintro i m σ H ⟨rfl,hi,p⟩;have q:=j i σ H hi p
 by_cases d:i<xs.length
 ·refine .inr ⟨⟨xs,xs[i],q,by simp[d]⟩,Pv (i+1),λc Y n=>⟨xs.length - (i+1),by omega,rfl,d,n⟩,λx Y y=>?_⟩
  obtain⟨e,y⟩:=y;subst e;exact k i x σ _ (y xs q) p
 ·have e:i=xs.length:=by omega
  subst e;exact .inl ⟨⟨xs,q,aK _⟩,l σ H p⟩
theorem GK{g:TG}{D:Ends}(Pv:Nat->St->Hp->Prop)(h:Pv 0 σ H)(j:∀i σ H,i<=xs.length->Pv i σ H->aU K H a xs)
  (k:∀i x σ H,xs[i]?=ih x->Pv i σ H->g x σ H λb H2=>tb { D with nx:=Pv (i+1),ct:=Pv (i+1),bk:=D.nx } b H2) (l:∀σ H,Pv xs.length σ H->D.nx σ H) :
  ∃W:Nat->Nat->St->Hp->Prop,(∃m,W 0 m σ H) /\∀i m σ H,W i m σ H ->
   ((iy K a).stop i H/\D.nx σ H)\/((iy K a).go i H /\∃N:St->Hp->Prop,(∀c Y,N c Y ->∃f,f<m/\W (i+1) f c Y) /\∀x Y,(iy K a).ix i H x Y->g x σ Y λb H2=>tb { D with nx:=N,ct:=N,bk:=D.nx } b H2):=by
 refine⟨λi m σ H=>m=xs.length - i/\i<=xs.length/\Pv i σ H,⟨xs.length,by simp,bp _,h⟩,?_⟩
 rintro i m σ H ⟨rfl,hi,p⟩;have q:=j i σ H hi p
 by_cases d:i<xs.length
 ·refine .inr ⟨⟨xs,xs[i],q,by simp[d]⟩,Pv (i+1),λc Y n=>⟨xs.length - (i+1),by omega,rfl,d,n⟩,λx Y y=>?_⟩
  obtain⟨e,y⟩:=y;subst e;exact k i x σ _ (y xs q) p
 ·have e:i=xs.length:=by omega
  subst e;exact .inl ⟨⟨xs,q,aK _⟩,l σ H p⟩
theorem lK{n:Nat}{g:TG}{D:Ends}(Pv:Nat->St->Hp->Prop)(f:Pv 0 σ H)
  (h:∀i σ H,i<n->Pv i σ H->g (.int (lo+i)) σ H λa H2=>tb { D with nx:=Pv (i+1),ct:=Pv (i+1),bk:=D.nx } a H2) (j:∀σ H,Pv n σ H->D.nx σ H) :
  ∃W:Nat->Nat->St->Hp->Prop,(∃m,W 0 m σ H) /\∀i m σ H,W i m σ H ->
   ((jP lo n).stop i H/\D.nx σ H)\/((jP lo n).go i H /\∃N:St->Hp->Prop,(∀b Y,N b Y ->∃d,d<m/\W (i+1) d b Y) /\∀x Y,(jP lo n).ix i H x Y->g x σ Y λa H2=>tb { D with nx:=N,ct:=N,bk:=D.nx } a H2):=by
 refine⟨λi m σ H=>m=n - i/\i<=n/\Pv i σ H,⟨n,by simp,bp _,f⟩,?_⟩
 rintro i m σ H ⟨rfl,hi,p⟩
 by_cases c:i<n
 ·refine .inr ⟨c,Pv (i+1),λb Y k=>⟨n - (i+1),by omega,rfl,c,k⟩,λx Y y=>?_⟩
  obtain⟨e,y⟩:=y;subst e y;exact h i σ _ c p
 ·have e:i=n:=by omega
  subst e;exact .inl ⟨aK _,j σ H p⟩
abbrev R2:=V->V->Hp->VK->Prop
def bU(X:Cx)(f:i'->i'->Ua i')(r:R2):Prop:=
 ∀J s σ H (x y:V) (v u:i') (Q:VK),Inv X J σ H s->RelV x v->RelV y u->r x y H Q ->
  wA X (f v u) (EP X J σ Q) X.xe s
def tE(X:Cx)(f:i'->Ua i')(r:V->Hp->VK->Prop):Prop:=
 ∀J s σ H (x:V) (v:i') (Q:VK),Inv X J σ H s->RelV x v->r x H Q ->
  wA X (f v) (EP X J σ Q) X.xe s
def cT(X:Cx)(f:i')(r:List V->Hp->VK->Prop):Prop:=
 ∀J s σ H (xs:List V) (us:List i') (Q:VK),Inv X J σ H s->Vals xs us->r xs H Q ->
  wA X (call f us) (EP X J σ Q) X.xe s
def KA(X:Cx)(r:V->Hp->(Bool->Hp->Prop)->Prop):Prop:=
 ∀J s σ H (x:V) (v:i') (Q:Bool->Hp->Prop),Inv X J σ H s->RelV x v->r x H Q ->
  wA X (truthy v) (TP X J σ Q) X.xe s
def pW(r:R2)(ta tb:TE):TE:=λσ H Q=>ta σ H λx O=>tb σ O λy H2=>r x y H2 Q
def LJ(r:V->Hp->VK->Prop)(ta:TE):TE:=λσ H Q=>ta σ H λx O=>r x O Q
def rI(C:Int->Int->Prop)(g:Int->Int->V):R2:=λx y H Q=>∃i j,x=.int i/\y=.int j/\C i j/\Q (g i j) H
def jQ(g:Int->Int->V):R2:=λx y H Q=>∃i j,x=.int i/\y=.int j/\Q (g i j) H
def rU(g:Int->V):V->Hp->VK->Prop:=λx H Q=>∃i,x=.int i/\Q (g i) H
section
variable{a b:Si}{tb tc:TE}
theorem sJ(e:PE X a ta)(g:PE X b tb){R:V->V->Hp->Prop}(I:Inv X J σ H s)
  (h:ta σ H λx O=>tb σ O λy H2=>R x y H2) {Q:i'->OX->Prop}{f:i'->i'->Ua i'}
  (i:∀v u s2 x y H2,Inv X J σ H2 s2->RelV x v->RelV y u->R x y H2->wA X (f v u) Q X.xe s2) :
  wA X (eval a X.env) (λv c=>wA X (eval b X.env) (λu d=>wA X (f v u) Q X.xe d) X.xe c) X.xe s:=by
 refine aF (e J s σ H _ I h) λv j q=>?_;obtain⟨x,O,k,l,m⟩:=q;refine aF (g J j σ O _ k m) λu s2 q=>?_;obtain⟨y,H2,n,o,p⟩:=q;exact i v u s2 x y H2 n l o p
theorem bJ{op:Wr}{r:R2}(c:bU X (S1 op) r)(d:PE X a ta)(e:PE X b tb):PE X (.BinOp a op b pos) (pW r ta tb):=by
 intro J s σ H Q I h;exact wpAny_BinOp (sJ d e I h λv u s2 x y H2 f g i q=>c J s2 σ H2 x y v u Q f g i q)
theorem mx{op:UnaryOp}{r:V->Hp->VK->Prop}(b:tE X (unaryOp op) r)(c:PE X a ta):PE X (.UnaryOp op a pos) (LJ r ta):=by
 intro J s σ H Q I h;exact UnaryOp_ (aF (c J s σ H _ I h) λv d ⟨x,O,e,f,g⟩=>b J d σ O x v Q e f g)
theorem k2{f:i'->i'->Ua i'}{C:Int->Int->Prop}{g:Int->Int->Int}
  (rule:∀(i j:Int) (t u:Vv) (s:OX) (Q:i'->OX->Prop) (E:i'->OX->Prop),C i j->Q (.int (g i j) s.toks) { s with toks:=s.toks+1 }->wA X (f (.int i t) (.int j u)) Q E s) :
  bU X f (rI C λi j=>.int (g i j)):=by
 rintro J s σ H x y v u Q I a b ⟨i,j,rfl,rfl,c,q⟩;obtain⟨t,rfl⟩:=a;obtain⟨t',rfl⟩:=b;exact rule i j t t' s _ _ c ⟨.int (g i j),H,I.tok _,⟨_,rfl⟩,q⟩
theorem A'{f:i'->i'->Ua i'}{g:Int->Int->Int}
  (rule:∀(i j:Int) (t u:Vv) (s:OX) (Q:i'->OX->Prop) (E:i'->OX->Prop),Q (.int (g i j) s.toks) { s with toks:=s.toks+1 }->wA X (f (.int i t) (.int j u)) Q E s) :
  bU X f (jQ λi j=>.int (g i j)):=by
 rintro J s σ H x y v u Q I a b ⟨i,j,rfl,rfl,q⟩;obtain⟨t,rfl⟩:=a;obtain⟨t',rfl⟩:=b;exact rule i j t t' s _ _ ⟨.int (g i j),H,I.tok _,⟨_,rfl⟩,q⟩
theorem sL{f:i'->i'->Ua i'}{g:Int->Int->Bool}
  (rule:∀(i j:Int) (t u:Vv) (s:OX) (Q:i'->OX->Prop) (E:i'->OX->Prop),Q (.bool (g i j)) s->wA X (f (.int i t) (.int j u)) Q E s) :
  bU X f (jQ λi j=>.bl (g i j)):=by
 rintro J s σ H x y v u Q I a b ⟨i,j,rfl,rfl,q⟩;obtain⟨t,rfl⟩:=a;obtain⟨t',rfl⟩:=b;exact rule i j t t' s _ _ ⟨.bl (g i j),H,I,rfl,q⟩
def KC(i j:Int):Prop:=0<j/\j<1073741824
def KD(i j:Int):Prop:=0<=j/\j<=1000000/\i.natAbs<2 ^ 64
def mI(i j:Int):Prop:=(-(2 ^ 64)<i/\i<2 ^ 64)\/(-(2 ^ 64)<j/\j<2 ^ 64)
theorem mI.ok{i j:Int}(h:mI i j):IntMulOk i j:=by
 rcases h with⟨h1,U⟩|⟨h1,U⟩
 ·exact .of_left (intBits_le_64 h1 U)
 ·exact .of_right (intBits_le_64 h1 U)
theorem gc:bU X (S1 .Add) (jQ λi j=>.int (i+j)):=A' λ_ _ _ _ _ _ _ q=>add_int q
theorem jx:bU X (S1 .Sub) (jQ λi j=>.int (i - j)):=A' λ_ _ _ _ _ _ _ q=>sub_int q
theorem mc:bU X (S1 .Mult) (rI mI λi j=>.int (i * j)):=k2 λ_ _ _ _ _ _ _ a q=>mul_int q a.ok
theorem GL:bU X (S1 .FloorDiv) (rI KC λi j=>.int (i / j)):=k2 λi j _ _ _ _ _ a q=>by
 have h1:(0:Int)<j:=a.1;have U:j<1073741824:=a.2;exact floordiv_int (by omega) (by rw[O0 i (by omega)];exact q) (.inl (PyProof.noPylong_small (by omega)))
theorem md:bU X (S1 .Mod) (rI (λ_ j=>0<j) λi j=>.int (i % j)):=k2 λi j _ _ _ _ _ a q=>by
 have h1:(0:Int)<j:=a;exact mod_int' (by omega) (by rw[Int.fmod_eq_emod_of_nonneg i (by omega)];exact q)
theorem r0:bU X (S1 .Pow) (rI KD λi j=>.int (i ^ j.toNat)):=k2 λ_ _ _ _ _ _ _ a q=>pow_int_small a.1 a.2.1 a.2.2 q
theorem GN:bU X (inplaceOp .Mult) (rI mI λi j=>.int (i * j)):=k2 λ_ _ _ _ _ _ _ a q=>imul_int q a.ok
theorem LK{f:i'->Ua i'}{g:Int->Int}
  (rule:∀(i:Int) (t:Vv) (s:OX) (Q:i'->OX->Prop) (E:i'->OX->Prop),Q (.int (g i) s.toks) { s with toks:=s.toks+1 }->wA X (f (.int i t)) Q E s) :
  tE X f (rU λi=>.int (g i)):=by
 rintro J s σ H x v Q I a ⟨i,rfl,q⟩;obtain⟨t,rfl⟩:=a;exact rule i t s _ _ ⟨.int (g i),H,I.tok _,⟨_,rfl⟩,q⟩
theorem me:tE X (unaryOp .USub) (rU λi=>.int (-i)):=LK λ_ _ _ _ _ q=>neg_int q
end
def Ba:V->V->Bool
 |.aM,.aM=>true|.aM,.int _=>true|.int _,.aM=>true|.aM,.bl _=>true|.bl _,.aM=>true|.aM,.str _=>true|.str _,.aM=>true
 |.int _,.int _=>true|.bl _,.bl _=>true|.str _,.str _=>true|.e0 _,.e0 _=>true
 |.int _,.str _=>true|.str _,.int _=>true|.bl _,.str _=>true|.str _,.bl _=>true
 |_,_=>false
def LL:R2:=λx y H Q=>Ba x y=true/\Q (.bl (decide (x=y))) H
def LM:R2:=λx y H Q=>Ba x y=true/\Q (.bl (!decide (x=y))) H
theorem wO{i j:Int}:decide (V.int i=V.int j)=(i==j):=by
 rw[jT];simp
theorem Ah{i j:Bool}:decide (V.bl i=V.bl j)=(i==j):=by
 rw[jT];simp
theorem wQ{i j:CY}:decide (V.str i=V.str j)=(i==j):=by
 rw[jT];simp
theorem wR{i j:Array UInt8}:decide (V.e0 i=V.e0 j)=(i.toList==j.toList):=by
 rw[jT];cases i
 cases j
 simp
section
variable{a b:Si}{tb tc:TE}
theorem b7{k a:Bool}(I:Inv X J σ H s)(q:Q (.bl k) H)(e:k=a):EP X J σ Q (.bool a) s:=by
 subst e;exact⟨.bl k,H,I,rfl,q⟩
theorem eu:bU X (P4 .Eq) LL:=by
 rintro J s σ H x y v u Q I c a ⟨b,q⟩;cases x with
 |aM =>
  cases c
  cases y with
  |aM=>cases a;exact V9 (b7 I q (by simp))
  |bl j=>cases a;exact Wa (b7 I q (by simp))
  |int j=>obtain⟨t',rfl⟩:=a;exact V' (b7 I q (by simp))
  |str j=>obtain⟨t',rfl⟩:=a;exact V8 (b7 I q (by simp))
  |_=>exact absurd (show false=true from b) bV
 |bl i =>
  cases c
  cases y with
  |aM=>cases a;exact Wc (b7 I q (by simp))
  |bl j=>cases a;exact eq_bool (b7 I q Ah)
  |str j=>obtain⟨t',rfl⟩:=a;exact VO (b7 I q (by simp))
  |_=>exact absurd (show false=true from b) bV
 |int i =>
  obtain⟨t,rfl⟩:=c;cases y with
  |aM=>cases a;exact Wb (b7 I q (by simp))
  |int j=>obtain⟨t',rfl⟩:=a;exact eq_int (b7 I q wO)
  |str j=>obtain⟨t',rfl⟩:=a;exact VN (b7 I q (by simp))
  |_=>exact absurd (show false=true from b) bV
 |str i =>
  obtain⟨t,rfl⟩:=c;cases y with
  |aM=>cases a;exact V7 (b7 I q (by simp))
  |bl j=>cases a;exact VM (b7 I q (by simp))
  |int j=>obtain⟨t',rfl⟩:=a;exact VL (b7 I q (by simp))
  |str j=>obtain⟨t',rfl⟩:=a;exact eq_str (b7 I q wQ)
  |_=>exact absurd (show false=true from b) bV
 |e0 i =>
  obtain⟨t,rfl⟩:=c;cases y with
  |e0 j=>obtain⟨t',rfl⟩:=a;exact PySem.W.eq_bytes (b7 I q wR)
  |_=>exact absurd (show false=true from b) bV
 |_=>cases y <;> exact absurd (show false=true from b) bV
theorem my:bU X (P4 .NotEq) LM:=by
 rintro J s σ H x y v u Q I c a ⟨b,q⟩;cases x with
 |aM =>
  cases c
  cases y with
  |aM=>cases a;exact V2 (b7 I q (by simp))
  |bl j=>cases a;exact V4 (b7 I q (by simp))
  |int j=>obtain⟨t',rfl⟩:=a;exact V3 (b7 I q (by simp))
  |str j=>obtain⟨t',rfl⟩:=a;exact V1 (b7 I q (by simp))
  |_=>exact absurd (show false=true from b) bV
 |bl i =>
  cases c
  cases y with
  |aM=>cases a;exact V6 (b7 I q (by simp))
  |bl j=>cases a;exact ne_bool (b7 I q (b2 not Ah))
  |str j=>obtain⟨t',rfl⟩:=a;exact VJ (b7 I q (by simp))
  |_=>exact absurd (show false=true from b) bV
 |int i =>
  obtain⟨t,rfl⟩:=c;cases y with
  |aM=>cases a;exact V5 (b7 I q (by simp))
  |int j=>obtain⟨t',rfl⟩:=a;exact ne_int (b7 I q (b2 not wO))
  |str j=>obtain⟨t',rfl⟩:=a;exact VI (b7 I q (by simp))
  |_=>exact absurd (show false=true from b) bV
 |str i =>
  obtain⟨t,rfl⟩:=c;cases y with
  |aM=>cases a;exact V0 (b7 I q (by simp))
  |bl j=>cases a;exact VH (b7 I q (by simp))
  |int j=>obtain⟨t',rfl⟩:=a;exact VG (b7 I q (by simp))
  |str j=>obtain⟨t',rfl⟩:=a;exact ne_str (b7 I q (b2 not wQ))
  |_=>exact absurd (show false=true from b) bV
 |e0 i =>
  obtain⟨t,rfl⟩:=c;cases y with
  |e0 j=>obtain⟨t',rfl⟩:=a;exact PySem.W.ne_bytes (b7 I q (b2 not wR))
  |_=>exact absurd (show false=true from b) bV
 |_=>cases y <;> exact absurd (show false=true from b) bV
theorem AF:bU X (P4 .Lt) (jQ λi j=>.bl (decide (i<j))):=sL λ_ _ _ _ _ _ _ q=>lt_int q
theorem AG:bU X (P4 .LtE) (jQ λi j=>.bl (decide (i<=j))):=sL λ_ _ _ _ _ _ _ q=>le_int q
theorem Je:bU X (P4 .Gt) (jQ λi j=>.bl (decide (j<i))):=sL λ_ _ _ _ _ _ _ q=>gt_int q
theorem h7:bU X (P4 .Is) (λx y H Q=>y=.aM/\Q (.bl (decide (x=.aM))) H):=by
 rintro J s σ H x y v u Q I a b ⟨rfl,q⟩;cases b
 refine is_none_gen (b7 I q ?_);cases x <;> first
  |(cases a;rfl)
  |(obtain⟨t,rfl⟩:=a;rfl)
theorem GO:bU X (P4 .IsNot) (λx y H Q=>y=.aM/\Q (.bl (!decide (x=.aM))) H):=by
 rintro J s σ H x y v u Q I a b ⟨rfl,q⟩;cases b
 refine isnot_none_gen (b7 I q ?_);cases x <;> first
  |(cases a;rfl)
  |(obtain⟨t,rfl⟩:=a;rfl)
theorem bM(b:Si){op:Uq}(h:op ≠ .In:=by decide)(U:op ≠ .NotIn:=by decide):behindInMarks op b=false:=by
 have a:(op==Ww)=false:=by cases op <;> first|rfl|exact absurd rfl h
 have c:(op==Vt)=false:=by cases op <;> first|rfl|exact absurd rfl U
 cases b <;> simp[behindInMarks,a,c]
theorem gw{op:Uq}{r:R2}(c:bU X (P4 op) r)(d:PE X a ta)(e:PE X b tb)(f:behindInMarks op b=false):PE X (.Compare a [op] [b] pos) (pW r ta tb):=by
 intro J s σ H Q I h;exact wpAny_Compare1 (sJ d e I h λv u s2 x y H2 g i j q=>c J s2 σ H2 x y v u Q g i j q) f
def AH(t:TE):TT:=λσ H Q=>t σ H λx Y=>∃k,x=.bl k/\Q k Y
theorem bS{op:Uq}{r:R2}(d:bU X (P4 op) r)(f:PE X a ta)(g:PE X b tb)(i:behindInMarks op b=false):PT X (.Compare a [op] [b] pos) (AH (pW r ta tb)):=by
 intro J s σ H Q I h;refine wpAny_isTrue_Compare1 (aF (f J s σ H _ I h) λv j ⟨x,O,l,m,n⟩=>aF (g J j σ O _ l n) λu s2 ⟨y,H2,o,p,q⟩ =>
  aF (d J s2 σ H2 x y v u _ o m p q) λc C ⟨z,t,w,A,k,e,B⟩=>?_) i
 subst e;cases A
 exact gp ⟨t,w,B⟩
def Ai(r r':R2)(ta tb tc:TE):TE:=λσ H Q=>ta σ H λx O=>tb σ O λy H2=>r x y H2 λz H3=>∃k,z=.bl k /\
 (if k=true then tc σ H3 λw' H4=>r' y w' H4 Q else Q (.bl false) H3)
theorem FC{op f:Uq}{r g:R2}(o:bU X (P4 op) r)(n:bU X (P4 f) g)(p:PE X a ta)(q:PE X b tb)(t:PE X c tc)
  (w:lastMarks [op,f] [b,c]=false:=by with_unfolding_all rfl):PE X (.Compare a [op,f] [b,c] pos) (Ai r g ta tb tc):=by
 intro J s σ H Q I h;refine Compare_chain (aF (p J s σ H _ I h) λv A ⟨x,O,B,C,D⟩=>chain_link (aF (q J A σ O _ B D) λu s2 ⟨y,H2,E,i,F⟩ =>
  aF (o J s2 σ H2 x y v u _ E C i F) λd G ⟨z,j,l,K,k,e,m⟩=>?_)) w
 subst e;cases K
 refine gp ?_;cases k with
 |false=>exact ite_ff ⟨.bl false,j,l,rfl,m⟩
 |true=>exact ite_tt (chain_last (aF (t J G σ j _ l m) λL M ⟨N,P,R,S,T⟩=>n J M σ P y N u L Q R i S T))
theorem FD{op f:Uq}{r g:R2}(o:bU X (P4 op) r)(n:bU X (P4 f) g)(p:PE X a ta)(q:PE X b tb)(t:PE X c tc)
  (w:lastMarks [op,f] [b,c]=false:=by with_unfolding_all rfl):PT X (.Compare a [op,f] [b,c] pos) (AH (Ai r g ta tb tc)):=by
 intro J s σ H Q I h;refine isTrue_chain (aF (p J s σ H _ I h) λv A ⟨x,O,B,C,D⟩=>test_link (aF (q J A σ O _ B D) λu s2 ⟨y,H2,E,i,F⟩ =>
  aF (o J s2 σ H2 x y v u _ E C i F) λd G ⟨z,j,l,K,k,e,m⟩=>?_)) w
 subst e;cases K
 refine gp ?_;cases k with
 |false =>
  obtain⟨xb,L,M⟩:=m;cases L
  exact ite_ff ⟨j,l,M⟩
 |true =>
  refine ite_tt (test_last (aF (t J G σ j _ l m) λN P ⟨R,S,T,U,V⟩=>aF (n J P σ S y R u N _ T i U V) λyb zb aa=>?_));obtain⟨z2,W,Y,xa,xc,ya,za⟩:=aa;subst ya;cases xa
  exact gp ⟨W,Y,za⟩
def Bb(K:O9)(x:V)(H:Hp)(k:Bool):Prop:=
 match x with
 |.aM=>k=false
 |.bl b=>k=b
 |.int i=>k=(i != 0)
 |.str y=>y.length<=OY/\k=((y.length:Int) != 0)
 |.e0 y=>y.size<=OY/\k=((y.size:Int) != 0)
 |.ref p=>(∃xs,aq K H p xs/\k = !xs.isEmpty)\/(∃xs,aU K H p xs/\k = !xs.isEmpty) \/∃kvs,H p=ih (.dK kvs)/\k = !kvs.isEmpty
 |_=>False
theorem D9{κ:Type}{kvs:am (κ×V)}{vs:am (κ×i')}(r:KV kvs vs):(!vs.isEmpty) = !kvs.isEmpty:=by
 cases r <;> rfl
theorem qH(r:Vals xs its):(!its.toArray.isEmpty) = !xs.isEmpty:=by
 cases r <;> simp
theorem jy:(OY:Nat)<2 ^ 63:=by rw[aQ];decide
theorem Ii:KA X (λx H Q=>∃k,Bb X.K x H k/\Q k H):=by
 rintro J s σ H x v Q I c ⟨k,e,q⟩;have o:=jy;have u:OY=16777216:=aQ;cases x with
 |aM =>
  cases c
  have a:k=false:=e;subst a;exact truthy_none ⟨H,I,q⟩
 |bl b =>
  cases c
  have a:k=b:=e;subst a;exact gp ⟨H,I,q⟩
 |int i =>
  obtain⟨t,rfl⟩:=c;have a:k=(i != 0):=e;subst a;exact PySem.P.truthy_int ⟨H,I,q⟩
 |str y =>
  obtain⟨t,rfl⟩:=c;obtain⟨l,a⟩:y.length<=OY/\k=((y.length:Int) != 0):=e;subst a;exact PySem.P.truthy_str (by omega) ⟨H,I.tok _,q⟩
 |e0 y =>
  obtain⟨t,rfl⟩:=c;obtain⟨l,a⟩:y.size<=OY/\k=((y.size:Int) != 0):=e;subst a;exact PySem.W.truthy_bytes (by omega) ⟨H,I.tok _,q⟩
 |ref p =>
  cases c
  have a:(∃xs,aq X.K H p xs/\k = !xs.isEmpty)\/(∃xs,aU X.K H p xs/\k = !xs.isEmpty) \/∃kvs,H p=bn kvs/\k = !kvs.isEmpty:=e;rcases a with⟨xs,d,a⟩|⟨xs,d,a⟩|⟨kvs,d,a⟩
  ·subst a
   obtain⟨its,r,f,j⟩:=I.list d;have g:=r.length;exact wpAny_truthy_list f.isList (by simp only[bL];omega) ⟨H,I.tok _,by rw[qH r];exact q⟩
  ·subst a
   obtain⟨its,r,f,j⟩:=I.tuple d;have g:=r.length;exact truthy_tuple f (by simp only[bL];omega) ⟨H,I.tok _,by rw[qH r];exact q⟩
  ·subst a
   obtain⟨j,n,vs,r,m⟩:kvs.length<=OY/\(p==sysModules)=false /\∃vs,KV kvs vs/\s.heap.DictOf (cu X.prog X.w) p vs:=I.aJ p _ d;have g:kvs.length=vs.length:=c5 r;exact wpAny_truthy_dict n m (by omega) ⟨H,I.tok _,by rw[D9 r];exact q⟩
 |_=>exact(show False from e).elim
theorem iT(c:PE X a ta)(d:∀b,isTrue a X.env b=(do let v <- b;standAt a.pos;holding [v] (truthy v))) :
  PT X a (λσ H Q=>ta σ H λx Y=>∃k,Bb X.K x Y k/\Q k Y):=by
 intro J s σ H Q I h;exact isTrue_plain (aF (c J s σ H _ I h) λv e ⟨x,O,f,g,i⟩=>Ii J e σ O x v Q f g i) (d _)
theorem uM:bU X (S1 .Add) (λx y H Q=>∃i j,x=.str i/\y=.str j/\i.length+j.length<=OY/\Q (.str (i++j)) H):=by
 rintro J s σ H x y v u Q I a b ⟨i,j,rfl,rfl,c,q⟩;obtain⟨t,rfl⟩:=a;obtain⟨t',rfl⟩:=b;exact add_str (λt' tk=>⟨.str (i++j),H,I.tok _,⟨_,rfl⟩,q⟩) c
theorem vals1{x:V}(r:Vals [x] us):∃u,us=[u]/\RelV x u:=by
 cases r with
 |cons a b=>cases b;exact⟨_,rfl,a⟩
theorem vals2{x:V}(r:Vals [x,y] us):∃u a,us=[u,a]/\RelV x u/\RelV y a:=by
 cases r with
 |cons b c =>
  cases c with
  |cons d e=>cases e;exact⟨_,_,rfl,b,d⟩
theorem vO:cT X (.builtin "abs") (λxs H Q=>∃i,xs=[.int i]/\Q (.int (if i<0 then -i else i)) H):=by
 rintro J s σ H xs us Q I r ⟨i,rfl,q⟩;obtain⟨u,rfl,t,rfl⟩:=vals1 r;exact call_abs_int λu tk=>⟨.int (if i<0 then -i else i),H,I.tok _,⟨_,rfl⟩,q⟩
theorem u9(b:X.calm=true):cT X (.builtin "max") (λxs H Q=>∃i j,xs=[.int i,.int j]/\Q (.int (if j>i then j else i)) H):=by
 rintro J s σ H xs us Q I r ⟨i,j,rfl,q⟩;obtain⟨u,c,rfl,⟨t,rfl⟩,⟨t',rfl⟩⟩:=vals2 r;refine max_two_ints (I.ok.hd b) λh' tk k=>⟨_,H,I.kept k,?_,q⟩
 by_cases a:j>i
 ·rw[aB a,aB a];exact⟨_,rfl⟩
 ·rw[au a,au a];exact⟨_,rfl⟩
theorem EJ(b:X.calm=true):cT X (.builtin "min") (λxs H Q=>∃i j,xs=[.int i,.int j]/\Q (.int (if j<i then j else i)) H):=by
 rintro J s σ H xs us Q I r ⟨i,j,rfl,q⟩;obtain⟨u,c,rfl,⟨t,rfl⟩,⟨t',rfl⟩⟩:=vals2 r;refine min_two_ints (I.ok.hd b) λh' tk k=>⟨_,H,I.kept k,?_,q⟩
 by_cases a:j<i
 ·rw[aB a,aB a];exact⟨_,rfl⟩
 ·rw[au a,au a];exact⟨_,rfl⟩
end
structure jG(h:SN)(x dx C:OT)(mA:CY->Option i'):Prop where
 obj:h.get? x=ih (SH C dx)
 ns:h.Ns1 dx mA
 ne:dx≠x
theorem u'(n:h.Ns1 dx mA):∃od,h.get? dx=ih od /\∀name,TH name od=ih (mA name):=by
 obtain⟨o,es,ep,c,d,f,_,g⟩:=n;refine⟨o,c,λname=>?_⟩;have e:=g name;unfold nsFind findBy at e;rw[<-Array.find?_toList]at e;unfold TH;rw[d]
 dsimp only
 split
 ·rename_i y q
  rw[q]at e;exact b2 ih e
 ·rename_i q
  rw[q]at e;have a:es.toList.any (·.refKey)=false:=by
   rw[Cn];intro y i;obtain⟨z,t,b⟩:=f y (Array.mem_toList_iff.mp i);simp[W2,b]
  have j : ¬ es.toList.any (·.refKey)=true:=by rw[a];exact bV
  rw[au j];exact b2 ih e
theorem jG.look{x:OT}(I:jG h x dx C mA):∃od,PySem.W.InstAt h x (SH C dx) C (ih od) /\∀name,TH name od=ih (mA name):=
 let ⟨od,a,b⟩:=u' I.ns
 ⟨od,⟨I.obj,rfl,rfl,a⟩,b⟩
section
variable{x:OT}{v:i'}
theorem get_map{a:Bool}{Q:i'->OX->Prop}(X:K.In s.heap)(I:jG s.heap x dx C mA)(c:Tw K C name=true)(d:TX K C=true)
  (e:Sx K (.ref C) name=ih none) (hv:mA name=ih v) (b:UD v=true) (h:Q v { s with toks:=s.toks+1 }) :
  OZ (Pb prog w) A (getAttr (.ref x) name a) Q E s:=by
 obtain⟨od,f,g⟩:=I.look;exact PySem.W.get_value X f (Co c).1 (PySem.W.findObj_own d e rfl (by rw[g,hv])) b h
theorem FE{pl:Ua Bool}{Q:i'×List i'->OX->Prop}(X:K.In s.heap)(I:jG s.heap x dx C mA)(a:Tw K C name=true)
  (b:Sx K (.ref C) name=ih (ih (.ref f))) (c:Uh K (.ref f)=true) (hv:mA name=none) (h:Q (.ref f,[.ref x]) s) :
  OZ (Pb prog w) A (getMethod (.ref x) name pl) Q E s:=by
 obtain⟨od,d,e⟩:=I.look;exact PySem.W.method_fn X d (Co a).1 (Co a).2 b (iI.mp c) (by show(TH name od).map (·.isSome)=ih false;rw[e,hv];rfl) h
theorem GQ{Q:Unit->OX->Prop}(X:K.In s.heap)(I:jG s.heap x dx C mA)
  (k:Sx K (.ref C) "__setattr__" = ih (ih (.builtin "object.__setattr__"))) (l:Uw K C=true) (m:T7 K C name=ih none) (n:TX K C=true)
  (o:TF mA ns) (hsz:ns.length<=OY)
  (h:∀h',jG h' x dx C (λy=>if y=name then ih v else mA y)->Sn dx s.heap h'->Q () { s with heap:=h',toks:=s.toks+2 }) :
  OZ (Pb prog w) A (setAttr (.ref x) name v) Q E s:=by
 obtain⟨od,e,z⟩:=I.look;refine PySem.W.set_plain X e k (PySem.W.osa_open (s:={ s with toks:=s.toks+1 }) (r:=none) X e l m λb=>?_);obtain⟨B,p,f⟩:=PySem.W.any_some n;have q:s.heap.get? x=ih ⟨.ref C,ih dx,.plain,#[]⟩:=I.obj;refine ab (ai (ab (ab (wpAny_loadPart q (ab (VF (s:={ s with toks:=s.toks+1 }) (PySem.W.looks_clsIn X p) ?_))))));rw[f];refine ai (a:=ih dx) (ab (ai (ab ?_)));refine wpAny_nsSet1 (s:={ s with toks:=s.toks+1 }) I.ns λh' c d=>?_;obtain⟨D,t,u,g,i,j⟩:=c.count (VZ name v o);refine ab (wpAny_lookBehind g (by rw[i];exact pastItsLine_dict (eS j (by rw[cX];omega))) ?_)
 exact ai (h _ ⟨(d.2 _ (aN I.ne)).trans I.obj,c,I.ne⟩ d)
theorem FF{R:Ug->OX->Prop}{vs:am i'}(X:K.In s.heap)(a:UH K C=true)
  (hi:Sx K (.ref C) "__init__" = ih (ih (.ref f))) (b:PySem.W.typeIn K (.ref f)=ih (.type "function"))
  (h:codeAny (Pb prog w) (A.under (.builtin "type.__call__" ⟨.ref C::vs,kw⟩)) (.call (.ref f) ⟨.ref (s.ao+1)::vs,kw⟩) (PySem.W.InitBack (s.ao+1) R)
   { s with heap:=(s.heap.push Sq).push (SH C s.ao) }) :
  codeAny (Pb prog w) A (.call (.ref C) ⟨vs,kw⟩) R s:=by
 obtain⟨c,g,d,t,os⟩:=s;exact PySem.W.make_core (PySem.W.makes_of X a) (PySem.W.looks_findIn X hi) (λself=>PySem.W.bind_fn X self b) (.inl rfl) h
end
def bR(f:CY)(v:V):List (CY×V)->List (CY×V)
 |[]=>[(f,v)]
 |(g,x)::r=>if g=f then (g,v)::r else (g,x)::bR f v r
theorem uI(f g:CY)(v:V):∀fs:am (CY×V),(bR f v fs).lookup g=if g=f then ih v else fs.lookup g
 |[]=>by
  show Sv g [(f,v)]=_
  by_cases h:g=f
  ·have a:(g==f)=true:=iI.mpr h
   simp only[Sv,a,aB h]
  ·have a:(g==f)=false:=iD.mpr h
   simp only[Sv,a,au h]
 |(k,x)::r=>by
  have c:=uI f g v r;rw[show bR f v ((k,x)::r)=(if k=f then (k,v)::r else (k,x)::bR f v r) from rfl]
  by_cases b:k=f
  ·rw[aB b]
   by_cases h:g=k
   ·have a:(g==k)=true:=iI.mpr h
    simp only[Sv,a,aB (h.trans b)]
   ·have a:(g==k)=false:=iD.mpr h
    simp only[Sv,a,au (λe:g=f=>h (e.trans b.symm))]
  ·rw[au b]
   by_cases h:g=k
   ·have a:(g==k)=true:=iI.mpr h
    simp only[Sv,a,au (λe:g=f=>b (h.symm.trans e))]
   ·have a:(g==k)=false:=iD.mpr h
    simp only[Sv,a];exact c
theorem qT(f:CY)(v:V):∀fs:am (CY×V),f∈(bR f v fs).map (·.1) /\∀g,g∈fs.map (·.1)->g∈(bR f v fs).map (·.1)
 |[]=>⟨by simp[bR],λg h=>by simp at h⟩
 |(k,x)::r=>by
  obtain⟨b,c⟩:=qT f v r;rw[show bR f v ((k,x)::r)=(if k=f then (k,v)::r else (k,x)::bR f v r) from rfl]
  by_cases a:k=f
  ·rw[aB a]
   subst a;exact⟨by simp,λg h=>by simpa using h⟩
  ·rw[au a]
   refine⟨?_,λg h=>?_⟩
   ·rw[b5]
    exact a8 _ b
   ·rw[b5]at h⊢
    rcases bu.mp h with e|e
    ·exact bu.mpr (.inl e)
    ·exact a8 _ (c g e)
theorem uJ(f:CY)(v:V):∀fs:am (CY×V),(bR f v fs).length<=fs.length+1
 |[]=>by simp[bR]
 |(k,x)::r=>by
  have b:=uJ f v r;rw[show bR f v ((k,x)::r)=(if k=f then (k,v)::r else (k,x)::bR f v r) from rfl]
  by_cases a:k=f
  ·rw[aB a,cX,cX];omega
  ·rw[au a,cX,cX];omega
theorem dZ.some_of{o:a2 i'}(r:dZ (ih v) o):∃u,o=ih u/\RelV v u:=by
 cases o with
 |none=>exact(show False from r).elim
 |some u=>exact⟨u,rfl,r⟩
theorem dZ.none_of{o:a2 i'}(r:dZ none o):o=none:=by
 cases o with
 |none=>rfl
 |some u=>exact(show False from r).elim
theorem EK(r:RelV v u):UD u=true:=by
 cases v with
 |aM=>cases (show u=P0 from r);rfl
 |bl b=>cases (show u=S' b from r);rfl
 |int i=>obtain⟨t,e⟩:=(show ∃t,u=TB i t from r);cases e;rfl
 |str x=>obtain⟨t,e⟩:=(show ∃t,u=To x t from r);cases e;rfl
 |e0 b=>obtain⟨t,e⟩:=(show ∃t,u=Vm b t from r);cases e;rfl
 |i8 b=>obtain⟨t,e⟩:=(show ∃t,u=Ut b t from r);cases e;rfl
 |ref a=>cases (show u=Pk a from r);rfl
 |ty n=>cases (show u=S2 n from r);rfl
section
variable{fs Qn:am (CY×V)}
theorem oi(b:cz P w H h)(e:H a=ih (.ins C dx fs)):∃mA,jG h a dx C mA/\(∀f,dZ (fs.lookup f) (mA f))/\TF mA (fs.map (·.1))/\fs.length<=1000/\H dx=ih (.own a):=by
 obtain⟨d,z,ne,c,mA,n,r,q⟩:=(show bO P w H h a (.ins C dx fs) from b a _ e);exact⟨mA,⟨c,n,ne⟩,r,q,z,d⟩
end
structure fj(K:O9)(C:OT):Prop where
 pg:Tw K C Wz=true
 hd:TX K C=true
 po:Uw K C=true
 sa:Sx K (.ref C) "__setattr__" = ih (ih (.builtin "object.__setattr__"))
theorem fj.get(c:fj K C)(f:CY):Tw K C f=true:=c.pg
def di(K:O9)(C:OT)(f:CY):Prop:=Sx K (.ref C) f=ih none
theorem di.Jf{f:CY}(n:di K C f):T7 K C f=ih none:=by
 unfold T7;rw[show Sx K (.ref C) f=ih none from n]
 rfl
structure Meth(K:O9)(C:OT)(m:CY)(f:OT):Prop where
 at_:Sx K (.ref C) m=ih (ih (.ref f))
 fn:Uh K (.ref f)=true
 kp:SW K (.ref f)=true
section
variable{fs:am (CY×V)}{f:CY}
theorem uN{b:Bool}{Q:i'->OX->Prop}(I:Inv X J σ H s)(e:H a=ih (.ins C dx fs))(c:fj X.K C)(n:di X.K C f)(l:fs.lookup f=ih v)
  (h:∀u s',Inv X J σ H s'->RelV v u->Q u s'):OZ X.eb A (getAttr (.ref a) f b) Q E s:=by
 obtain⟨mA,g,r,_,_,_⟩:=oi I.aJ e;obtain⟨u,i,d⟩:=dZ.some_of (v:=v) (o:=mA f) (by rw[<-l];exact r f)
 exact get_map I.cV g (c.get f) c.hd n i (EK d) (h u _ (I.tok _) d)
theorem uO{m:CY}{g:OT}{pl:Ua Bool}{Q:i'×List i'->OX->Prop}(I:Inv X J σ H s)(e:H a=ih (.ins C dx fs))(c:fj X.K C)(k:Meth X.K C m g)(l:fs.lookup m=none)
  (h:Q (.ref g,[.ref a]) s):OZ X.eb A (getMethod (.ref a) m pl) Q E s:=by
 obtain⟨mA,b,r,_,_,_⟩:=oi I.aJ e;have d:mA m=none:=dZ.none_of (by rw[<-l];exact r m)
 exact FE I.cV b (c.get m) k.at_ k.fn d h
theorem uP{Q:Unit->OX->Prop}(I:Inv X J σ H s)(e:H a=ih (.ins C dx fs))(c:fj X.K C)(n:di X.K C f)(B:fs.length<1000)(k:RelV y u)
  (h:∀s',Inv X J σ (upd H a (.ins C dx (bR f y fs))) s'->Q () s'):OZ X.eb A (setAttr (.ref a) f u) Q E s:=by
 obtain⟨mA,d,r,wi,_,j⟩:=oi I.aJ e;have l:(fs.map (·.1)).length<=OY:=by rw[aG,aQ];omega
 refine GQ I.cV d c.sa c.po n.Jf c.hd wi l λh' i m=>h _ ?_;have p:∃o,h'.get? dx=ih o:=let ⟨o,_,_,t,_⟩:=i.ns;⟨o,t⟩;refine I.write (x:=a) (e:=dx) (by rw[e];exact SG) (.inr j) (λb q v z=>(m.2 b v).trans z) p ?_
 refine⟨by rw[ag d.ne];exact j,?_,d.ne,i.obj,_,i.ns,λg=>?_,λg w=>?_⟩
 ·have:=uJ f y fs;omega
 ·show dZ ((bR f y fs).lookup g) (if g=f then ih u else mA g)
  rw[uI]
  by_cases q:g=f
  ·rw[aB q,aB q];exact k
  ·rw[au q,au q];exact r g
 ·by_cases q:g=f
  ·rw[q];exact(qT f y fs).1
  ·refine(qT f y fs).2 g (wi g λz=>w ?_)
   show(if g=f then ih u else mA g)=none;rw[au q];exact z
theorem Inv.made(I:Inv X J σ H s):Inv X J σ (upd (upd H s.ao (.own (s.ao+1))) (s.ao+1) (.ins C s.ao []))
  { s with heap:=(s.heap.push Sq).push (SH C s.ao) }:=by
 have c:(s.heap.push Sq).get? s.ao=ih Sq:=bK s.heap rfl;have d:((s.heap.push Sq).push (SH C s.ao)).get? (s.ao+1)=ih (SH C s.ao):=by
  have:=bK (s.heap.push Sq) (o:=SH C s.ao) rfl
  rwa [gM]at this
 have f:(s.heap.push Sq).Ns s.ao (λ_=>none):=⟨Sq,#[],_,c,rfl,(λe g=>absurd g (by simp)),λ_=>rfl⟩
 have h:=I.laid (a:=s.ao) (o:=.own (s.ao+1)) (h':=s.heap.push Sq) (t':=s.toks) (λb u q=>aZ _ q) (aK _) ⟨_,c⟩;refine h.laid (a:=s.ao+1) (o:=.ins C s.ao []) (t':=s.toks) (λb u q=>aZ _ q) (VA (gM _ _)) ?_;have ne:s.ao≠s.ao+1:=bG (jU _);refine⟨by rw[ag ne,af],bp _,ne,d,λ_=>none,(Xi f).at λo q=>aZ _ q,λ_=>SG,λy i=>absurd rfl i⟩
theorem GS{f:CY}{Q:i'->OX->Prop}(b:attributeBase e f env (eval e env)=eval e env)
  (h:OZ (Pb prog w) A (eval e env) (λo a=>OZ (Pb prog w) A (getAttr o f true) Q E a) E s):OZ (Pb prog w) A (eval (.Attribute e f pos) env) Q E s:=
 Attribute_any_ h (by rw[arm_eval_Attribute,b])
end
def sM(K:O9)(ta:TE)(f:CY):TE:=λσ H Q=>ta σ H λx O=>∃a C dx fs v,x=.ref a/\O a=ih (.ins C dx fs)/\fj K C/\di K C f/\fs.lookup f=ih v/\Q v O
def KG(K:O9)(ta tv:TE)(f:CY):TS:=λD σ H=>tv σ H λy O=>ta σ O λx H2=>∃a C dx fs,x=.ref a/\H2 a=ih (.ins C dx fs)/\fj K C/\di K C f/\fs.length<1000 /\
 D.nx σ (upd H2 a (.ins C dx (bR f y fs)))
def sN(X:Cx)(op:Wr)(rd:V->V->Hp->VK->Prop):Prop:=
 ∀J s σ H (x y:V) (u v:i') (Q:VK),Inv X J σ H s->RelV x u->RelV y v->rd x y H Q->wA X (inplaceOp op u v) (EP X J σ Q) X.xe s
def GV(K:O9)(ta tv:TE)(rd:V->V->Hp->VK->Prop)(f:CY):TS:=λD σ H=>ta σ H λx O=>∃a C dx fs v,x=.ref a/\O a=ih (.ins C dx fs)/\fj K C/\di K C f/\fs.lookup f=ih v /\
 tv σ O λy H2=>rd v y H2 λz H3=>∃BS Qn,H3 a=ih (.ins C BS Qn)/\Qn.length<1000/\D.nx σ (upd H3 a (.ins C BS (bR f z Qn)))
section
variable{o:Si}{f:CY}{Qr:VU}
theorem bY(b:PE X e ta)(d:attributeBase e f X.env (eval e X.env)=eval e X.env):PE X (.Attribute e f pos) (sM X.K ta f):=by
 intro J s σ H Q I h;refine GS d (aF (b J s σ H _ I h) λu o r=>?_);obtain⟨x,O,g,i,a,C,dx,fs,v,ex,j,c,n,l,q⟩:=r;subst ex;obtain rfl:u=Pk a:=i;exact uN g j c n l λp s2 k m=>⟨v,O,k,m,q⟩
theorem eY(b:PE X o ta)(hv:PE X value tv)(d:swapsWith value (ih (.Attribute o f Qg)) pos.line X.env=pure false):PS X (.Assign [.Attribute o f Qg] value pos) (KG X.K ta tv f):=by
 intro J s σ H D I h;refine plainObj_wpAny_Assign_Attribute (aF (hv J s σ H _ I h) λu e ⟨y,O,g,i,q⟩=>aF (b J e σ O _ g q) λj s2 w=>?_) d;obtain⟨x,H2,k,m,a,C,dx,fs,ex,p,c,n,l,r⟩:=w;subst ex;obtain rfl:j=Pk a:=m;exact uP k p c n l i λv t=>⟨σ,_,t,r⟩
theorem lL{op:Wr}{b:V->V->Hp->VK->Prop}(g:PE X o ta)(hv:PE X value tv)(d:sN X op b):PS X (.AugAssign (.Attribute o f Qr) op value pos) (GV X.K ta tv b f):=by
 intro J s σ H D I h;refine wpAny_AugAssign_AttributeAny (aF (g J s σ H _ I h) λi Q W=>?_);obtain⟨x,O,j,k,a,C,dx,fs,v,ex,m,c,n,l,q⟩:=W;subst ex;obtain rfl:i=Pk a:=k;refine uN j m c n l λu s2 p r=>aF (hv J s2 σ O _ p q) λt w ⟨y,H2,A,B,E⟩=>aF (d J w σ H2 v y u t _ A r B E) λR S W=>?_;obtain⟨z,T,F,G,P,Qn,e,L,M⟩:=W;exact uP F e c n L G λU N=>⟨σ,_,N,M⟩
def KH:V->V->Hp->VK->Prop:=λx y H Q=>∃i j,x=.int i/\y=.int j/\Q (.int (i+j)) H
theorem oz:sN X .Add KH:=by
 rintro J s σ H x y u v Q I a b ⟨i,j,rfl,rfl,q⟩;obtain⟨t,rfl⟩:=(show ∃t,u=TB i t from a);obtain⟨t',rfl⟩:=(show ∃t',v=TB j t' from b);exact We ⟨.int (i+j),H,I.tok _,⟨_,rfl⟩,q⟩
end
section
variable{Q:i'->OX->Prop}{c:i'}{b:Bool}
inductive fK(K:O9)(H:Hp):V->i'->Prop where
 |aM:fK K H .aM (.type "NoneType")
 |bl (x:Bool):fK K H (.bl x) (.type "bool")
 |int (i:Int):fK K H (.int i) (.type "int")
 |str (x:CY):fK K H (.str x) (.type "str")
 |i8 (x:UInt64):fK K H (.i8 x) (.type "float")
 |lst {a:OT}{xs:List V} (e:H a=ih (.lst xs)):fK K H (.ref a) (.type "list")
 |bw {a:OT}{o:Tp}{xs:List V} (e:H a=ih (.bw o (.lst xs))):fK K H (.ref a) (.type "list")
 |tup {a:OT}{xs:List V} (e:H a=ih (.tup xs)):fK K H (.ref a) (.type "tuple")
 |dK {a:OT}{kvs:List (Key×V)} (e:H a=ih (.dK kvs)):fK K H (.ref a) (.type "dict")
 |dT {a:OT}{kvs:List (List Key×V)} (e:H a=ih (.dT kvs)):fK K H (.ref a) (.type "dict")
 |ins {a C dx:OT}{fs:List (CY×V)} (e:H a=ih (.ins C dx fs)) (cl:fj K C) (ha:Sx K (.ref C) "__class__" = ih (ih (.builtin "object.__class__")))
   (hn:PySem.W.specialIn K (.builtin "object.__class__") "__get__" = ih (ih (.builtin "getset_descriptor.__get__"))) (P6:PySem.W.takesIn K (.builtin "object.__class__")=ih true)
   (hm:PySem.W.mroIn K C (.type "object")=ih true):fK K H (.ref a) (.ref C)
theorem EL{x:V}{t:i'}(I:Inv X J σ H s)(d:RelV x u)(ty:fK X.K H x t)(e:PySem.W.kitOne X.K t c=ih b)(h:∀tk,Q (.bool b) { s with toks:=tk }) :
  OZ X.eb A (call (.builtin "isinstance") [u,c]) Q E s:=by
 cases ty with
 |aM=>cases (show u=P0 from d);exact hF PySem.W.kitx_none I.cV SG e (λz=>nomatch z) h
 |bl y=>cases (show u=S' y from d);exact hF PySem.W.kitx_bool I.cV SG e (λz=>nomatch z) h
 |int i=>obtain⟨t,q⟩:=(show ∃t,u=TB i t from d);cases q;exact hF PySem.W.kitx_int I.cV SG e (λz=>nomatch z) h
 |str y=>obtain⟨t,q⟩:=(show ∃t,u=To y t from d);cases q;exact hF PySem.W.kitx_str I.cV SG e (λz=>nomatch z) h
 |i8 y=>obtain⟨t,q⟩:=(show ∃t,u=Ut y t from d);cases q;exact hF PySem.W.kitx_float I.cV SG e (λz=>nomatch z) h
 |@lst a xs f =>
  cases (show u=Pk a from d)
  obtain⟨_,_,n,_,h1⟩:=(show bO X.prog X.w H s.heap a (.lst xs) from I.aJ a _ f);exact hF O1 I.cV ⟨_,h1,rfl⟩ e (λz=>nomatch z) h
 |@bw a k xs f =>
  cases (show u=Pk a from d)
  obtain⟨_,_,_,n,_,h1⟩:=(show bO X.prog X.w H s.heap a (.bw k (.lst xs)) from I.aJ a _ f);exact hF O1 I.cV ⟨_,h1,rfl⟩ e (λz=>nomatch z) h
 |@tup a xs f =>
  cases (show u=Pk a from d)
  obtain⟨_,_,_,p⟩:=(show bO X.prog X.w H s.heap a (.tup xs) from I.aJ a _ f);obtain⟨o,h1,U,_⟩:=p;exact hF PySem.W.kitx_tuple I.cV ⟨o,h1,U⟩ e (λz=>nomatch z) h
 |@dK a kvs f =>
  cases (show u=Pk a from d)
  obtain⟨_,_,vs,_,p⟩:=(show bO X.prog X.w H s.heap a (.dK kvs) from I.aJ a _ f);obtain⟨o,es,ep,h1,U,_⟩:=p;exact hF O2 I.cV ⟨o,h1,U.1⟩ e (λz=>nomatch z) h
 |@dT a kvs f =>
  cases (show u=Pk a from d)
  obtain⟨_,_,xs,_,o,es,ep,h1,U,_⟩:=(show bO X.prog X.w H s.heap a (.dT kvs) from I.aJ a _ f);exact hF O2 I.cV ⟨o,h1,U.1⟩ e (λz=>nomatch z) h
 |@ins a C dx fs f g l m j r =>
  cases (show u=Pk a from d)
  obtain⟨mA,v,_⟩:=oi I.aJ f;obtain⟨od,B,_⟩:=v.look;exact hF (PySem.W.kitx_own (g.get _) g.hd l m j r) I.cV B e (λz=>nomatch z) h
end
structure aY(k:Nat)(A:SV):Prop where
 hd:A.handled=none
 dp:A.depth+3 * k+5<recursionLimit
 un:A.units+16 * k+200<Tq
 gd:A.guards=ih []
theorem aY.mono{k:Nat}(r:aY k A)(h:j<=k):aY j A:=⟨r.hd,by have:=r.dp;omega,by have:=r.un;omega,r.gd⟩
theorem aY.deeper{k:Nat}(r:aY (k+1) A)(env:T9):aY k (A.deeper env):=
 ⟨r.hd,by have:=r.dp;show A.depth+1+3 * k+5<_;omega,by have:=r.un;show A.units+3+16 * k+200<_;omega,by first|exact r.gd|simp[Around.deeper,r.gd]⟩
theorem D':(A.under (.builtin "type.__call__" ⟨.ref C::us,kw⟩)).depth=A.depth+1:=by
 first|rfl|simp[T1,Code.weight,Code.isCreation,Vs,Code.isCaller,VE,Uo,guardIds]
theorem Ea:(A.under (.builtin "type.__call__" ⟨.ref C::us,kw⟩)).units=A.units+1:=by
 first|rfl|simp[T1,Code.cUnits,VE,Uo]
theorem DS(h:A.guards=ih []):(A.under (.builtin "type.__call__" ⟨.ref C::us,kw⟩)).guards=ih []:=by
 first|exact h|(simp[T1,Code.guards,Vs,guardIds,pushGuards,h])
theorem aY.make{k:Nat}(r:aY (k+1) A)(C:OT)(us:am i')(kw:am (CY×i')):aY k (A.under (.builtin "type.__call__" ⟨.ref C::us,kw⟩)):=
 ⟨r.hd,by have:=r.dp;rw[D'];omega,by have:=r.un;rw[Ea];omega,DS r.gd⟩
theorem aY.depth{k:Nat}(r:aY k A):A.depth<recursionLimit:=by have:=r.dp;omega
theorem aY.units{k:Nat}(r:aY k A):A.units+64<Tq:=by have:=r.un;omega
def Bc:TA:=λ_ H Q=>Q [] H
def Jg(ta:TE)(tr:TA):TA:=λσ H Q=>ta σ H λx O=>tr σ O λxs H2=>Q (x::xs) H2
section
variable{t:TA}
theorem ah:PA X [] Bc:=λ_ _ _ _ H Q I h=>Calls.spliced_nil ⟨[],H,I,.nil,h⟩
theorem aa(a:PE X e te)(b:PA X es t)(c:Sh (e::es) X.env=(false,eval e X.env)::Sh es X.env:=by rfl):PA X (e::es) (Jg te t):=by
 intro pos J s σ H Q I h;rw[c];show OZ _ _ (spliced ((false,eval e X.env)::backTo pos (Sh es X.env))) _ _ s;refine Calls.spliced_cons (aF (a J s σ H _ I h) λu d m=>?_);obtain⟨x,O,f,g,i⟩:=m;exact aF (b pos J d σ O _ f i) λus s2 ⟨xs,H2,j,k,l⟩=>⟨x::xs,H2,j,.cons g k,l⟩
def KI(t:TA):TE:=λσ H Q=>t σ H λxs O=>xs.length<=OY /\∀p,O p=none->Q (.ref p) (upd O p (.tup xs))
def KJ(t:TA):TE:=λσ H Q=>t σ H λxs O=>xs.length<=OY /\∀p,O p=none->Q (.ref p) (upd O p (.lst xs))
theorem c4{d}(h:PA X es t):PE X (.Tuple es d pos) (KI t):=by
 intro J s σ H Q I f;refine wpAny_Tuple_spliced (aF (h pos J s σ H _ I f) λus a ⟨xs,O,c,r,z,q⟩=>⟨by rw[<-r.length];exact z,?_⟩)
 have g:O a.ao=none:=c.aJ.fresh (aK _);refine⟨.ref a.ao,upd O a.ao (.tup xs),c.laid (t':=a.toks) (λb u e=>aZ _ e) (aK _) ?_,rfl,q _ g⟩;exact⟨z,us,r,⟨_,bK _ rfl,rfl,_,rfl,rfl⟩⟩
theorem er(h:PA X es t):PE X (.List es pos) (KJ t):=by
 intro J s σ H Q I d;refine wpAny_List_spliced (aF (h pos J s σ H _ I d) λus a ⟨xs,O,c,r,z,q⟩=>⟨by rw[<-r.length];exact z,?_⟩)
 have f:O a.ao=none:=c.aJ.fresh (aK _);refine⟨.ref a.ao,upd O a.ao (.lst xs),c.laid (t':=a.toks) (λb u e=>aZ _ e) (aK _) ?_,rfl,q _ f⟩;exact⟨z,us,0,r,bK _ rfl⟩
end
abbrev Sp:=List V->Hp->VK->XK->Prop
end L2
variable{sp:L2.Sp}
namespace L2
open Spec PyProof.Rows
abbrev gE:=List T9->Hp->OX->XK->i'->OX->Prop
structure jH(P:SD)(w:SQ)(K:O9)(mg:CY->Option i')(base:SN)(A:SV)(outer:List T9)(s:OX)(H:Hp):Prop where
 frames:A.frames=ih outer
 mod:Mod K mg base
 bs:∀b o,base.get? b=ih o->s.heap.get? b=ih o/\H b=none
 ja:base.objs.size<=s.ao
 gj:s.heap.FunFrames base outer
 jO:∀b∈gD outer,H b=none
 aJ:cz P w H s.heap
 bare:TN s.gens
def CE(outer:List T9)(P:SD)(w:SQ)(H:Hp)(s:OX)(Q:VK)(u:i')(s':OX):Prop:=
 ∃v Y,s'.os=s.os/\TN s'.gens/\Un (gD outer) [] H Y s.heap s'.heap/\cz P w Y s'.heap/\RelV v u/\Q v Y
def CR(CX:gE)(outer:List T9)(P:SD)(w:SQ)(H:Hp)(s:OX)(Q:VK)(E:XK)(r:Ug)(s':OX):Prop:=
 match r with
 |.ok (.ret u)=>CE outer P w H s Q u s'
 |.ok _=>False
 |.error e=>CX outer H s E e s'
structure aO(P:SD)(w:SQ)(K:O9)(mg:CY->Option i')(base:SN)(CX:gE)(k:Nat)(f:OT)(fd:Ss)(ps:List CY)(sp:Sp):Prop where
 len:∀vs H Q E,sp vs H Q E->vs.length=ps.length
 run:∀(A:SV) (outer:List T9) (s:OX) (H:Hp) (args:Args) (us:List i') (vs:List V) (Q:VK) (E:XK),aY k A->jH P w K mg base A outer s H->Um s fd args (ps.zip us)->Vals vs us->sp vs H Q E ->
  codeAny (Pb P w) A (.call (.ref f) args) (CR CX outer P w H s Q E) s
theorem jH.make{a:am T9}(e:jH P w K mg base A a s H)(C:OT)(us:am i')(kw:am (CY×i')) :
  jH P w K mg base (A.under (.builtin "type.__call__" ⟨.ref C::us,kw⟩)) a s H:=⟨by first|exact e.frames|(simpa [T1,Code.envs,Uo,pushEnvs] using e.frames),e.mod,e.bs,e.ja,e.gj,e.jO,e.aJ,e.bare⟩
theorem Inv.Bd(I:Inv X J σ H s):jH X.prog X.w X.K X.mg X.base X.A X.stack s H:=
 ⟨I.ok.frames,I.ok.mod,I.bs,eS I.ok.ja I.sz,I.stack,I.wL,I.aJ,I.bare⟩
theorem Inv.after(I:Inv X J σ H s)(h:CE X.stack X.prog X.w H s Q u s'):EP X J σ Q u s':=by
 obtain⟨v,Y,os,a,un,c,r,q⟩:=h;obtain⟨f,g,d,t,e⟩:=s';obtain rfl:e=s.os:=os;exact⟨v,Y,I.call (h':=f) (g':=g) (d':=d) (t':=t) (ch:=[]) un c a (λb z=>absurd z (by simp)),r,q⟩
def AI(sp:Sp)(Qh:List V)(E:XK)(t:TA):TE:=λσ H Q=>t σ H λvs O=>sp (vs++Qh) O Q E
def AJ(C:OT)(m:CY)(sp:Sp)(Qh:List V)(E:XK)(ta:TE)(t:TA):TE:=λσ H Q=>ta σ H λx O=>∃a dx fs,x=.ref a/\O a=ih (.ins C dx fs)/\fs.lookup m=none /\
 t σ O λvs H2=>sp (x::(vs++Qh)) H2 Q E
def Jh(C:OT)(sp:Sp)(Qh:List V)(E:XK)(t:TA):TE:=λσ H Q=>t σ H λvs O=>∀x dx,O x=none->O dx=none->dx≠x ->
 sp (.ref x::(vs++Qh)) (upd (upd O dx (.own x)) x (.ins C dx [])) (λv H2=>v=.aM/\Q (.ref x) H2) E
def Binds(K:O9)(fd:Ss)(ps:List CY)(ds:List i'):Prop:=
 ∀(s:OX) (us:List i'),K.In s.heap->(us++ds).length=ps.length->Um s fd ⟨us,[]⟩ (ps.zip (us++ds))
theorem Binds.all(h:∀us:am i',us.length=ps.length->bindArgs fd ⟨us,[]⟩=pure (ps.zip us)):Binds K fd ps []:=λs us _ a=>by
 rw[f7]at a⊢;exact .of_eq (h us a)
def Passes(CX:gE)(X:Cx)(E:XK):Prop:= ∀(J:List (OT×Tp)) (σ:St) (H:Hp) (s:OX) (e:i') (s':OX),Inv X J σ H s->CX X.stack H s E e s'->X.xe e s'
section
variable{CX:gE}{k:Nat}{Qh:am V}{ds:am i'}{E:XK}{m:CY}{p:VU}{o:Si}{t:TA}
theorem r1(F:aO X.prog X.w X.K X.mg X.base CX k f fd ps sp)(c:aY k X.A)(d:Binds X.K fd ps ds)(g:Vals Qh ds)(i:Passes CX X E)
  (I:Inv X J σ H s) (r:Vals vs us) (h:sp (vs++Qh) H Q E):wA X (call (.ref f) us) (EP X J σ Q) X.xe s:=by
 have b:Vals (vs++Qh) (us++ds):=r.append g;have j:(us++ds).length=ps.length:=by rw[<-b.length];exact F.len _ _ _ _ h
 refine qe (m7 (F.run X.A X.stack s H ⟨us,[]⟩ (us++ds) (vs++Qh) Q E c I.Bd (d s us I.cV j) b h) λr s' a=>?_);cases r with
 |error e=>exact i J σ H s e s' I a
 |ok l =>
  cases l with
  |ret u=>exact I.after a
  |next=>exact SF a
  |brk=>exact SF a
  |cont=>exact SF a
theorem e6(F:aO X.prog X.w X.K X.mg X.base CX k f fd ps sp)(d:aY k X.A)(g:Gl X x)(i:X.mg x=ih (.ref f))(j:SW X.K (.ref f)=true)(l:Binds X.K fd ps ds)(m:Vals Qh ds)(n:Passes CX X E)
  (o:PA X (e::es) t) (b:(x==("__debug__" : CY))=false:=by decide) (u:Sh (e::es) X.env=(false,eval e X.env)::Sh es X.env:=by rfl) (c:(backTo pos (Sh es X.env)).any (·.1)=false:=by rfl) :
  PE X (.Call (.Name x p) (e::es) [] pos) (AI sp Qh E t):=by
 intro J s σ H Q I h;refine tY (wN I g i ?_ b);refine Cp (h₀:=X.base) I.ok.mod.mU j (aF (o pos J s σ H _ I h) λus v ⟨vs,O,a,r,q⟩=>⟨a.cV,?_⟩) u c;exact r1 F d l m n a r q
theorem eU{pl:Ua Bool}(p:PE X o ta)(c:fj X.K C)(b:Meth X.K C m f)(F:aO X.prog X.w X.K X.mg X.base CX k f fd ps sp)(v:aY k X.A)(y:Binds X.K fd ps ds)(z:Vals Qh ds)(B:Passes CX X E)(D:PA X (e::es) t)
  (j:Sh (e::es) X.env=(false,eval e X.env)::Sh es X.env:=by rfl) (n:(backTo pos (Sh es X.env)).any (·.1)=false:=by rfl)
  (G:eval (.Call (.Attribute o m Qi) (e::es) [] pos) X.env=(do
   let d <- eval o X.env
   standAt Qi.atName
   let (f,first) <- holding [d] (getMethod d m pl)
   callWith pos f first (backTo pos (Sh (e::es) X.env)) (backToKw pos (keywordEach [] X.env))):=by rfl) :
  PE X (.Call (.Attribute o m Qi) (e::es) [] pos) (AJ C m sp Qh E ta t):=by
 intro J s σ H Q I h;refine O3 (pl:=pl) (aF (p J s σ H _ I h) λu L R=>?_) G;obtain⟨x,O,g,M,a,dx,fs,ex,N,l,q⟩:=R;subst ex;obtain rfl:u=Pk a:=M;refine uO g N c b l ?_;refine Cp (first:=[.ref a]) (h₀:=X.base) I.ok.mod.mU b.kp (aF (D pos J L σ O _ g q) λus s2 ⟨vs,H2,i,r,P⟩=>⟨i.cV,?_⟩) j n;exact r1 (us:=.ref a::us) (vs:=.ref a::vs) F v y z B i (.cons rfl r) P
theorem vP{pl:Ua Bool}(g:PE X o ta)(c:fj X.K C)(d:Meth X.K C m f)(F:aO X.prog X.w X.K X.mg X.base CX k f fd ps sp)(i:aY k X.A)(j:Binds X.K fd ps ds)(n:Vals Qh ds)(p:Passes CX X E)
  (r:eval (.Call (.Attribute o m Qi) [] [] pos) X.env=(do
   let e <- eval o X.env
   standAt Qi.atName
   let (f,first) <- holding [e] (getMethod e m pl)
   callWith pos f first (backTo pos (Sh [] X.env)) (backToKw pos (keywordEach [] X.env))):=by rfl) :
  PE X (.Call (.Attribute o m Qi) [] [] pos) (AJ C m sp Qh E ta Bc):=by
 intro J s σ H Q I h;refine O3 (pl:=pl) (aF (g J s σ H _ I h) λu y z=>?_) r;obtain⟨x,O,b,t,a,dx,fs,ex,v,l,q⟩:=z;subst ex;obtain rfl:u=Pk a:=t;refine uO b v c d l ?_;exact PySem.W.callWith_K0 (first:=[.ref a]) b.cV d.kp (r1 (us:=[.ref a]) (vs:=[.ref a]) F i j n p b (.cons rfl .nil) q)
structure Mk(K:O9)(C f:OT):Prop where
 makes:UH K C=true
 init:Sx K (.ref C) "__init__" = ih (ih (.ref f))
 fn:Uh K (.ref f)=true
 kp:SW K (.ref C)=true
theorem FG(M:Mk X.K C f)(F:aO X.prog X.w X.K X.mg X.base CX k f fd ps sp)(g:aY (k+1) X.A)(i:Binds X.K fd ps ds)(j:Vals Qh ds)
  (l:Passes CX X E) (I:Inv X J σ H s) (r:Vals vs us)
  (h:∀x dx,H x=none->H dx=none->dx≠x->sp (.ref x::(vs++Qh)) (upd (upd H dx (.own x)) x (.ins C dx [])) (λv H2=>v=.aM/\Q (.ref x) H2) E) :
  wA X (call (.ref C) us) (EP X J σ Q) X.xe s:=by
 have c:=h (s.ao+1) s.ao (I.aJ.fresh (gq _)) (I.aJ.fresh (aK _)) (bG (jU _));have b:=Inv.made (C:=C) I;have d:Vals (V.ref (s.ao+1)::(vs++Qh)) (Pk (s.ao+1)::(us++ds)):=.cons rfl (r.append j);have m:(Pk (s.ao+1)::us++ds).length=ps.length:=by
  have e:=d.length;rw[F.len _ _ _ _ c]at e;exact e.symm
 refine qe (FF (f:=f) I.cV M.makes M.init (iI.mp M.fn) (m7 (F.run _ X.stack _ _ ⟨Pk (s.ao+1)::us,[]⟩ (Pk (s.ao+1)::(us++ds)) _ _ E (g.make C us [])
  (b.Bd.make C us []) (i _ (Pk (s.ao+1)::us) b.cV m) d c) λr s' a=>?_))
 cases r with
 |error e=>exact l J σ _ _ e s' b a
 |ok n =>
  cases n with
  |ret u =>
   obtain⟨v,Y,o,p,q,t⟩:=b.after a;subst q;exact⟨p,⟨V.ref (s.ao+1),Y,o,rfl,t⟩⟩
  |next=>exact SF a
  |brk=>exact SF a
  |cont=>exact SF a
theorem ry(M:Mk X.K C f)(F:aO X.prog X.w X.K X.mg X.base CX k f fd ps sp)(d:aY (k+1) X.A)(g:Gl X x)(i:X.mg x=ih (.ref C))(j:Binds X.K fd ps ds)(l:Vals Qh ds)(m:Passes CX X E)
  (n:PA X (e::es) t) (b:(x==("__debug__" : CY))=false:=by decide) (o:Sh (e::es) X.env=(false,eval e X.env)::Sh es X.env:=by rfl) (c:(backTo pos (Sh es X.env)).any (·.1)=false:=by rfl) :
  PE X (.Call (.Name x p) (e::es) [] pos) (Jh C sp Qh E t):=by
 intro J s σ H Q I h;refine tY (wN I g i ?_ b);refine Cp (h₀:=X.base) I.ok.mod.mU M.kp (aF (n pos J s σ H _ I h) λus u ⟨vs,O,a,r,q⟩=>⟨a.cV,?_⟩) o c;exact FG M F d j l m a r q
end
structure a'(N P:List CY)(sc:Tr):Prop where
 kind:sc.kind=.function
 co:sc.isCoroutine=false
 gen:sc.isGenerator=false
 nd:N.Nodup
 pre:N.take P.length=P
 par:∀x∈P,sc.names.lookup x=ih .local\/sc.names.lookup x=ih .cell
 Ij:∀y∈sc.names,y.2 ≠ .free
theorem va{kindOf:CY->Option SS}{x:CY}:∀{binds:am (CY×i')}{m:CY->Option i'},(∀v,(x,v)∉ binds)->bindL kindOf binds m x=m x
 |[],_,_=>rfl
 |(n,v)::r,m,h=>by
  unfold bindL;rw[va λw a=>h w (a8 _ a)];split
  ·have:x≠n:=by rintro rfl;exact h v aS
   simp[this]
  ·rfl
theorem vb{kindOf:CY->Option SS}{x:CY}:∀{binds:am (CY×i')}{m:CY->Option i'},(∀v,(x,v)∉ binds)->bindC kindOf binds m x=m x
 |[],_,_=>rfl
 |(n,v)::r,m,h=>by
  unfold bindC;rw[vb λw a=>h w (a8 _ a)];split
  ·rfl
  ·have:x≠n:=by rintro rfl;exact h v aS
   simp[this]
theorem vc{kindOf:CY->Option SS}{x:CY}{v:i'}:∀{P:am CY}{vs:am i'}{i:Nat}{m:CY->Option i'},P.Nodup->P[i]?=ih x->vs[i]?=ih v->kindOf x=ih .local ->
  bindL kindOf (P.zip vs) m x=ih v
 |[],_,_,_,_,h,_,_=>by simp at h
 |_::_,[],_,_,_,_,h,_=>by simp at h
 |p::P,w::vs,0,m,a,h1,U,b=>by
  simp at h1 U;subst h1;subst U;show bindL kindOf ((p,w)::P.zip vs) m p=_;unfold bindL;rw[va λv hv=>(dQ.mp a).1 (Cq hv).1,aB b];simp
 |p::P,w::vs,i+1,m,a,h1,U,b=>by
  show bindL kindOf ((p,w)::P.zip vs) m x=_;unfold bindL;exact vc (i:=i) (dQ.mp a).2 (by simpa using h1) (by simpa using U) b
theorem vd{kindOf:CY->Option SS}{x:CY}{v:i'}:∀{P:am CY}{vs:am i'}{i:Nat}{m:CY->Option i'},P.Nodup->P[i]?=ih x->vs[i]?=ih v->kindOf x≠ih .local ->
  bindC kindOf (P.zip vs) m x=ih v
 |[],_,_,_,_,h,_,_=>by simp at h
 |_::_,[],_,_,_,_,h,_=>by simp at h
 |p::P,w::vs,0,m,a,h1,U,b=>by
  simp at h1 U;subst h1;subst U;show bindC kindOf ((p,w)::P.zip vs) m p=_;unfold bindC;rw[vb λv hv=>(dQ.mp a).1 (Cq hv).1,au b];simp
 |p::P,w::vs,i+1,m,a,h1,U,b=>by
  show bindC kindOf ((p,w)::P.zip vs) m x=_;unfold bindC;exact vd (i:=i) (dQ.mp a).2 (by simpa using h1) (by simpa using U) b
def start(N:List CY)(vs:List V):St:=vs.map ih++TL (N.length - vs.length) none
def gZ(CX:gE)(P:SD)(w:SQ)(K:O9)(mg:CY->Option i')(base:SN)(N:List CY)(qual:CY)(scope:Tr)(f:OT)(cd:i')(A:SV)(outer:List T9)(s:OX)(H:Hp)(E:XK):Cx where
 prog:=P
 w:=w
 K:=K
 mg:=mg
 base:=base
 A:=A.deeper (envOfC qual scope s.ao f cd)
 N:=N
 ew:=s
 jF:=H
 env:=envOfC qual scope s.ao f cd
 outer:=outer
 stack:=envOfC qual scope s.ao f cd::outer
 ex:=[]
 calm:=true
 fn:=λ_=>true
 pn:=[]
 xe:=λe s'=>OZ (Pb P w) (A.deeper (envOfC qual scope s.ao f cd)) (leaving (envOfC qual scope s.ao f cd) e) (λ_ tF=>CX outer H s E e tF) (λe' tF=>CX outer H s E e' tF) s'
theorem q1{n:Nat}(h:sc.names.lookup x=ih .cell):∃c,(cellsFrom n sc.names []).lookup x=ih c:=by
 have q:=O4 sc.names n [] (.inl h);exact Cr.mp q
theorem EM{CX:gE}{j:i'}{l:am T9}{t:OX}{E:XK}
  (S:a' N ps scope) (D:A.handled=none) (d:jH P w K mg base A l s H) (J:vs.length=ps.length) (r:Vals vs us)
  (x:InCallC s s.heap.objs.size (bindL (envOfC qual scope s.heap.objs.size f j).kindOf (ps.zip us) λ_=>none) (cellsFrom (s.heap.objs.size+1) scope.names []) (bindC (envOfC qual scope s.heap.objs.size f j).kindOf (ps.zip us) λ_=>none) t) :
  Inv (gZ CX P w K mg base N qual scope f j A l s H E) [] (start N vs) H t:=by
 have I:ps.length<=N.length:=by have:=b2 Sk S.pre;rw[b9]at this;omega
 obtain⟨h1,tk,rfl,B⟩:=x.done;have m:∀b:OT,b ∉ (gZ CX P w K mg base N qual scope f j A l s H E).ex:=λb z=>absurd (show b∈([]:am OT) from z) (by simp)
 refine⟨⟨d.mod,S.kind,rfl,rfl,aK _,λy z c h1 U=>?_,λy hy=>?_,λy c _ h=>?_,λ_=>D,Around.frames_deeper d.frames,.inr ⟨rfl,rfl⟩,λb z=>absurd z (m b),d.bs,d.ja,λb _ _=>m b,λb z=>absurd z (m b),d.gj,d.jO⟩,
  rfl,d.bare,Un.kept B,⟨_,x.toInCall.ns,λi y v h1 U L=>?_⟩,λy c h=>⟨_,x.cell y c h⟩,d.aJ.fresh (aK _),λy c h=>?_,λp g=>absurd (show p∈([]:am (OT×Tp)) from g) (by simp),d.aJ.kept B,?_⟩
 ·exact name_of_addr x.apart (iJ h1) (iJ U)
 ·have hy:scope.names.lookup y=ih .cell\/scope.names.lookup y=ih .free:=hy
  rcases hy with hy|hy
  ·exact q1 hy
  ·exact absurd rfl (S.Ij _ (iJ hy))
 ·exact qb (x.above y c (iJ h))
 ·have hi:i<vs.length:=by
   unfold start at U
   by_cases hi:i<vs.length
   ·exact hi
   ·rw[O5 (by simpa using hi)]at U
    rw[List.getElem?_replicate]at U;split at U <;> cases U
  have F:vs[i]?=ih v:=by
   unfold start at U;rw[O6 (by simpa using hi),dt]at U
   cases e:vs[i]? with
   |none=>rw[e]at U;cases U
   |some a=>rw[e]at U;cases U;rfl
  obtain⟨u,C,G⟩:=r.get F;have g:ps[i]?=ih y:=by
   rw[<-S.pre,List.getElem?_take_of_lt (by omega)];exact h1
  have o:ps.Nodup:=by rw[<-S.pre];exact S.nd.sublist (hG _ _)
  refine⟨u,G,?_⟩;rcases S.par y (cY g) with k|k
  ·exact .inl ⟨k,vc o g C k⟩
  ·obtain⟨c,e⟩:=q1 (n:=s.heap.objs.size+1) k
   refine .inr ⟨.inl k,c,e,?_⟩;have q:=x.cell y c e;rw[vd o g C (by show scope.names.lookup y≠_;rw[k];decide)]at q
   exact q
 ·exact d.aJ.fresh (qb (x.above y c (iJ h)))
 ·unfold start
  show _=N.length;rw[cQ,aG,Cs];omega
theorem AK{CX:gE}{k:Nat}{l:Arguments}{B kV:i'}(lk:K.lookup f=ih ⟨oc,od,.func (SI name qual l body scope B kV Qc pm an Qa ct),Qm⟩)(J:Tn K Qa qual=true)(S:a' N ps scope)
  (m:∀vs H Q E,sp vs H Q E->vs.length=ps.length)
  (F:∀(A:SV) (c:am T9) (s:OX) (H:Hp) (vs:am V) (Q:VK) (E:XK),aY k (A.deeper (envOfC qual scope s.ao f Qa))->sp vs H Q E ->
   ∃t,eI (gZ CX P w K mg base N qual scope f Qa A c s H E) body t/\t { nx:=λ_ Y=>Q .aM Y,rt:=Q } (start N vs) H) :
  aO P w K mg base CX (k+1) f (SI name qual l body scope B kV Qc pm an Qa ct) ps sp:=by
 refine⟨m,λA c s H args us vs Q E i g M r p=>?_⟩;have O:=m _ _ _ _ p;have C:K.In s.heap:=g.mod.mU.keeps λb o e=>(g.bs b o e).1;have L:s.heap.NoLimit:=g.mod.nolimit.keeps λb o e=>(g.bs b o e).1;have G:∀y∈ps.zip us,scope.names.lookup y.1=ih .local\/(scope.names.lookup y.1=ih .cell/\((cellsFrom (s.ao+1) scope.names []).lookup y.1).isSome=true):=λ⟨n,v⟩ R=>by
  rcases S.par n (Cq R).1 with q|q
  ·exact .inl q
  ·exact .inr ⟨q,O4 _ _ _ (.inl q)⟩
 refine codeAny_call_function i.depth (C _ _ lk) rfl S.co S.gen rfl (PySem.W.codeRec_of C J) (M _ _ _ _ ?_);refine wpAny_newFunctionEnv_cells S.kind G λenv T D x=>?_;subst T;refine⟨L.keeps x.toInCall.keep,codeAny_func ?_⟩;obtain⟨t,U,X⟩:=F A c s H vs Q E (i.deeper _) p;have I:Inv (gZ CX P w K mg base N qual scope f Qa A c s H E) [] (start N vs) H D:=EM S i.hd g O r x;refine iF (U [] D (start N vs) H _ I X) (λxa s' d=>?_) λe s' d=>d;have z:∀{h:St}{Y:Hp}{v:V}{u:i'},Inv (gZ CX P w K mg base N qual scope f Qa A c s H E) [] h Y s'->RelV v u->Q v Y->CE c P w H s Q u s':=
  λ{h Y v u} a j q=>⟨v,Y,a.os,a.bare,a.base,a.aJ,j,q⟩
 cases xa with
 |ret u =>
  obtain⟨v,h,Y,a,j,q⟩:=d;exact z a j q
 |next =>
  obtain⟨h,Y,a,q⟩:=d;exact z (v:=V.aM) (u:=P0) a rfl q
 |brk =>
  obtain⟨_,_,_,q⟩:=d;exact SF q
 |cont =>
  obtain⟨_,_,_,q⟩:=d;exact SF q
section
variable{p:VU}{t:TA}{id:String}{r:am V->Hp->VK->Prop}
def BU(r:List V->Hp->VK->Prop)(t:TA):TE:=λσ H Q=>t σ H λvs O=>r vs O Q
theorem b4(c:cT X (.builtin id) r)(d:Gl X x)(f:X.mg x=none)(hv:PX x=ih (.builtin id))(g:PA X (e::es) t)(i:x ≠ "__name__" :=by decide)(a:(x==("__debug__" : CY))=false:=by decide)
  (j:Sh (e::es) X.env=(false,eval e X.env)::Sh es X.env:=by rfl) (b:(backTo pos (Sh es X.env)).any (·.1)=false:=by rfl):PE X (.Call (.Name x p) (e::es) [] pos) (BU r t):=by
 intro J s σ H Q I h;refine tY (l' I d f hv ?_ i a);exact Wg (aF (g pos J s σ H _ I h) λus k ⟨vs,O,l,m,n⟩=>c J k σ O vs us Q l m n) j b
theorem dy(c:cT X (.type T) r)(d:Gl X x)(f:X.mg x=none)(hv:PX x=ih (.type T))(g:PA X (e::es) t)(i:x ≠ "__name__" :=by decide)(a:(x==("__debug__" : CY))=false:=by decide)
  (j:Sh (e::es) X.env=(false,eval e X.env)::Sh es X.env:=by rfl) (b:(backTo pos (Sh es X.env)).any (·.1)=false:=by rfl):PE X (.Call (.Name x p) (e::es) [] pos) (BU r t):=by
 intro J s σ H Q I h;refine tY (l' I d f hv ?_ i a);exact Cm (aF (g pos J s σ H _ I h) λus k ⟨vs,O,l,m,n⟩=>c J k σ O vs us Q l m n) j b
end
end L2
namespace HT
open PyProof.Rows
section
open SeqAt
open AutoSeq1 (wpAny_loadPart')
open MeetsSeq MeetsSeq2 MeetsSeq3
end
theorem GW{t:OT}{vs ws:am i'}{Q:i'->OX->Prop}(o:S0 s.heap t vs.toArray)(p:S0 s.heap b ws.toArray)(hv:vs ≠ [])
  (h1:ws=[]->Q (.ref t) s) (U:ws ≠ []->Q (.ref s.ao) { s with heap:=s.heap.push { cls:=.type "tuple",data:=.seq (vs++ws).toArray } })
  (hsz:vs.length+ws.length<=OY):OZ (Pb prog w) A (S1 .Add (.ref t) (.ref b)) Q E s:=by
 obtain⟨⟨cls,j,data,sl⟩,c,k,n,l⟩:=id o;obtain⟨⟨q,f,data2,g⟩,a,h,m,i⟩:=id p;simp only at k l h i;subst k l h i;have e:vs.toArray++ws.toArray=(vs++ws).toArray:=by simp
 by_cases d:ws=[]
 ·exact concat_meets ⟨_,c,rfl⟩ ⟨_,a,rfl⟩ Cu Cv Cy Cz (CA _ _)
   (tuple_addW1 t b vs.toArray ws.toArray n m j f sl g (by simpa using hv) (by simp[d])) ⟨c,a,h1 d⟩
 ·refine concat_meets ⟨_,c,rfl⟩ ⟨_,a,rfl⟩ Cu Cv Cy Cz (CA _ _)
   (tuple_addW2 t b vs.toArray ws.toArray n m j f sl g (by simpa using hv) (by simpa using d) (by rw[bL,bL];exact hsz)) ⟨c,a,?_⟩
  rw[e];exact U d
def a6(n d:Nat):Option Int->Nat
 |none=>d
 |some v=>if v<0 then (v+(n:Int)).toNat else min v.toNat n
theorem FH(n d:Nat):a6 n d none=d:=rfl
theorem rz(n d k:Nat):a6 n d (ih (k:Int))=min k n:=by
 show(if (k:Int)<0 then ((k:Int)+(n:Int)).toNat else min (k:Int).toNat n)=min k n;rw[au (by omega),ft]
theorem Ik(n d:Nat)(a:d<=n)(o:a2 Int):a6 n d o<=n:=by
 cases o with
 |none=>exact a
 |some v =>
  show(if v<0 then (v+(n:Int)).toNat else min v.toNat n)<=n
  by_cases hv:v<0
  ·rw[aB hv];omega
  ·rw[au hv];exact Nat.min_le_right _ _
theorem wU(v:Int)(n d:Nat):(if v<0 then max (v+(n:Int)) 0 else min v (n:Int))=((a6 n d (ih v):Nat):Int):=by
 show(if v<0 then max (v+(n:Int)) 0 else min v (n:Int))=(((if v<0 then (v+(n:Int)).toNat else min v.toNat n):Nat):Int)
 by_cases hv:v<0
 ·simp only[aB hv];omega
 ·simp only[au hv];omega
theorem Eb(lo hi:a2 Int)(n:Nat):Tf lo hi 1 (n:Int)=(((a6 n 0 lo:Nat):Int),((a6 n n hi:Nat):Int)):=by
 have h1 : ¬ ((1:Int)<0):=by omega
 unfold Tf;simp only[h1,gr];refine jV ?_ ?_
 ·cases lo with
  |none=>rfl
  |some v=>exact wU v n 0
 ·cases hi with
  |none=>rfl
  |some v=>exact wU v n n
theorem Ec(i j:Nat):SU (i:Int) (j:Int) 1=j - i:=by
 unfold SU;have h1:(1:Int)>0:=by omega
 simp only[h1,gs,Int.ediv_one];split <;> omega
theorem uQ{v:i'}{o:a2 Int}{Q:a2 Int->OX->Prop}(p:T2 v o)(h:Q o s):OZ (Pb prog w) A (VR v) Q E s:=by
 cases p with
 |none=>exact slicePart_none h
 |int i t=>exact slicePart_int h
theorem uy{lo:a2 Int}{n:Nat}{Q:Int×Int×Nat->OX->Prop}(c:s.heap.IsSliceOf sl vl vu .none)(pl:T2 vl lo)(d:T2 vu hi)
  (h:Q (((a6 n 0 lo:Nat):Int),1,a6 n n hi - a6 n 0 lo) s):OZ (Pb prog w) A (TY (.ref sl) (pure (n:Int))) Q E s:=by
 obtain⟨os,a,e,b⟩:=id c;unfold TY VS;refine ab (ab (lj a b (x:=vl) rfl (ab (lj a b (x:=vu) rfl (ab (lj a b (x:=.none) rfl (ai ?_)))))));refine ab (slicePart_none ?_);show OZ _ _ (if ((1:Int)==0)=true then _ else _) _ _ s;rw[au (by decide)]
 refine ab (uQ pl (ab (uQ d (ab (ai ?_)))));show OZ _ _ (match Tf lo hi 1 (n:Int) with|(lo,hi)=>pure (lo,(1:Int),SU lo hi 1)) _ _ s;rw[Eb lo hi n];show OZ _ _ (pure (((a6 n 0 lo:Nat):Int),(1:Int),SU ((a6 n 0 lo:Nat):Int) ((a6 n n hi:Nat):Int) 1)) _ _ s;rw[Ec];exact ai h
theorem FJ(xs:Array i')(i k:Nat):((Sj k).filterMap λ(m:Nat)=>xs[((i:Int)+(m:Int) * 1).toNat]?).toArray=((xs.toList.drop i).take k).toArray:=by
 have e:(λ(m:Nat)=>xs[((i:Int)+(m:Int) * 1).toNat]?)=λm=>xs[i+m]?:=by
  funext m
  have:((i:Int)+(m:Int) * 1).toNat=i+m:=by omega
  rw[this]
 rw[e];have:=pick_run xs i k;rw[List.filterMap_map]at this;have a:((λx=>xs[x]?) ∘ λx=>i+x)=λm=>xs[i+m]?:=rfl;rw[a]at this;rw[this]
theorem Dt{t:OT}{lo:a2 Int}{Q:i'->OX->Prop}(b:S0 s.heap t items)(c:s.heap.IsSliceOf sl vl vu .none)(pl:T2 vl lo)(i:T2 vu hi)
  (j : ¬ (a6 items.size 0 lo=0/\a6 items.size items.size hi=items.size))
  (h:Q (.ref s.heap.objs.size) { s with heap:=s.heap.push { cls:=.type "tuple",data:=.seq ((items.toList.drop (a6 items.size 0 lo)).take (a6 items.size items.size hi - a6 items.size 0 lo)).toArray } })
  (hsz:items.size<=OY):OZ (Pb prog w) A (getItem (.ref t) (.ref sl)) Q E s:=by
 have a:sizeOk (.seq ((items.toList.drop (a6 items.size 0 lo)).take (a6 items.size items.size hi - a6 items.size 0 lo)).toArray):=by
  show((items.toList.drop (a6 items.size 0 lo)).take (a6 items.size items.size hi - a6 items.size 0 lo)).toArray.size<=OY;rw[bL,b9,jW,eT];omega
 have l:a6 items.size items.size hi<=items.size:=Ik _ _ (aK _) hi;obtain⟨os,d,e,k⟩:=id c;have f:s.TypeIs (.ref sl) "slice" :=⟨os,d,e⟩;unfold getItem
 try with_reducible refine dO ?_
 first|refine ab (ai ?_)|skip
 refine ab (wpAny_sequenceKey b.typeIs (by decide) ?_)
 refine ab (ll (name:=SE "__getitem__") b.typeIs m8
  (fu m8 b.typeIs entry_tuple_getitem ?_ (args_tuple_getitem _ _)))
 show OZ _ _ (Tb (.ref t) >>= _) _ _ s;refine ab (tupleItemsOf_ b ?_);refine ab (jX f ?_);rw[aB (by decide)]
 refine ab (uy c pl i ?_);have g : ¬ ((((a6 items.size 0 lo:Nat):Int)==0&&(1:Int)==1&&(a6 items.size items.size hi - a6 items.size 0 lo)==items.size)=true):=by
  intro q;rw[jj,jj]at q;have n:((a6 items.size 0 lo:Nat):Int)=0:=eq_of_beq q.1.1;have o:a6 items.size items.size hi - a6 items.size 0 lo=items.size:=eq_of_beq q.2;exact j ⟨by omega,by omega⟩
 show OZ _ _ (if (((a6 items.size 0 lo:Nat):Int)==0&&(1:Int)==1&&(a6 items.size items.size hi - a6 items.size 0 lo)==items.size)=true then _ else _) _ _ s;rw[au g,FJ]
 first
  |exact ab (m:=SX _) (ed (ai ⟨_,rfl,ai h⟩) a)
  |exact ab (m:=SX _) (ed (ab (ai (ai ⟨_,rfl,ai h⟩))) a)
  |exact ab (ab (m:=SX _) (ed (ai (ai ⟨_,rfl,ai h⟩)) a))
  |exact ab (ab (m:=SX _) (ed (ai ⟨_,rfl,ai h⟩) a))
end HT
namespace L2
open Spec PyProof.Rows
abbrev TO:=St->Hp->(Option Int->Hp->Prop)->Prop
def PO(X:Cx)(e:Option Si)(t:TO):Prop:=
 ∀J s σ H (Q:Option Int->Hp->Prop),Inv X J σ H s->t σ H Q ->
  wA X (evalPart e X.env) (λu s'=>∃o Y,Inv X J σ Y s'/\T2 u o/\Q o Y) X.xe s
def GX:TO:=λ_ H Q=>Q none H
def Ji(t:TE):TO:=λσ H Q=>t σ H λx O=>∃i,x=.int i/\Q (ih i) O
theorem intsAre_of{ns:am Int}:∀{us:am i'},Vals (ns.map V.int) us->Uc us ns:=by
 induction ns with
 |nil=>intro us r;rw[jY]at r;cases r;exact .nil
 |cons n ns a =>
  intro us r;rw[b5]at r;cases r with
  |cons b c =>
   obtain⟨t,e⟩:=b;subst e;exact .cons n t (a c)
section
variable{lo hi:a2 Si}{tl th:TO}{p2:VU}
theorem fA:PO X none GX:=by
 intro J s σ H Q I h;rw[CB];exact ai ⟨none,H,I,.none,h⟩
theorem eO(h:PE X e te):PO X (ih e) (Ji te):=by
 intro J s σ H Q I a;rw[evalPart_some];refine aF (h J s σ H _ I a) λu f g=>?_;obtain⟨x,O,b,c,d⟩:=g;obtain⟨i,rfl,q⟩:=d;obtain⟨t,rfl⟩:=c;exact⟨ih i,O,b,.int i t,q⟩
def k3(X:Cx)(r:V->Option Int->Option Int->Hp->VK->Prop):Prop:=
 ∀J s σ H (x:V) (v vl vu:i') (lo hi:Option Int) (sl:OT) (Q:VK),Inv X J σ H s->RelV x v->s.heap.IsSliceOf sl vl vu .none->T2 vl lo->T2 vu hi->r x lo hi H Q ->
  ∃T id,typeLookup (.type T) "__getitem__" = pure (ih (.builtin id))/\s.TypeIs v T/\wA X (getItem v (.ref sl)) (EP X J σ Q) X.xe s
def LN(r:V->Option Int->Option Int->Hp->VK->Prop)(te:TE)(tl th:TO):TE:=λσ H Q=>te σ H λx O=>tl σ O λl H2=>th σ H2 λu H3=>r x l u H3 Q
theorem e5{r:V->Option Int->Option Int->Hp->VK->Prop}(d:k3 X r)(f:PE X e te)(g:PO X lo tl)(i:PO X hi th):PE X (.Subscript e (.Slice lo hi none p2) pos) (LN r te tl th):=by
 intro J s σ H Q I h;refine Ur (aF (f J s σ H _ I h) λv j F=>?_);obtain⟨x,O,k,m,n⟩:=F;refine wpAny_Slice (aF (g J j σ O _ k n) λvl s2 ⟨l,H2,o,p,t⟩=>aF (i J s2 σ H2 _ o t) λvu a F=>?_);obtain⟨u,c,w,y,z⟩:=F;rw[CB];refine ai ?_;have A:Inv X J σ c { a with heap:=a.heap.push { cls:=.type "slice",data:=.fields #[vl,vu,.none] } }:=w.kept (t':=a.toks) λb E q=>aZ _ q;obtain⟨T,id,B,C,D⟩:=d J { a with heap:=a.heap.push { cls:=.type "slice",data:=.fields #[vl,vu,.none] } } σ c x v vl vu l u a.ao Q A m (Ub ..) p y z;show wA X (subscriptTail e (.Slice lo hi none p2) v (.ref a.ao)) (EP X J σ Q) X.xe { a with heap:=a.heap.push { cls:=.type "slice",data:=.fields #[vl,vu,.none] } };exact tail_any (ops:=[.ref a.ao,v]) C B D (by with_unfolding_all rfl)
def bT(xs:List V)(lo hi:Option Int):List V:=(xs.drop (HT.a6 xs.length 0 lo)).take (HT.a6 xs.length xs.length hi - HT.a6 xs.length 0 lo)
theorem nN(xs:am V)(lo hi:a2 Int):(bT xs lo hi).length<=xs.length:=by
 unfold bT;rw[b9,jW];omega
def KL(K:O9):V->Option Int->Option Int->Hp->VK->Prop:=λx lo hi H Q=>∃a xs,x=.ref a/\aU K H a xs /\
 ¬ (HT.a6 xs.length 0 lo=0/\HT.a6 xs.length xs.length hi=xs.length) /\∀p,H p=none->Q (.ref p) (upd H p (.tup (bT xs lo hi)))
theorem Il:k3 X (KL X.K):=by
 rintro J s σ H x v vl vu lo hi sl Q I f g i j ⟨a,xs,rfl,k,l,q⟩;cases f
 obtain⟨its,r,d,e⟩:=I.tuple k;have c:its.toArray.size=xs.length:=by rw[bL];exact r.length.symm
 refine⟨"tuple",_,m8.lookup,d.typeIs,?_⟩;refine HT.Dt d g i j (by rw[c];exact l) ?_ (by rw[c];exact e)
 rw[c];refine⟨.ref s.ao,_,I.laid (t':=s.toks) (o:=.tup (bT xs lo hi)) (λb m q=>aZ _ q) (aK _) ?_,rfl,q _ (I.aJ.fresh (aK _))⟩;exact⟨eS (nN xs lo hi) e,_,(r.drop (HT.a6 xs.length 0 lo)).take (HT.a6 xs.length xs.length hi - HT.a6 xs.length 0 lo),ib.new _ _⟩
def Jj(K:O9):R2:=λx y H Q=>∃a b xs ys,x=.ref a/\y=.ref b/\aU K H a xs/\aU K H b ys/\xs ≠ []/\xs.length+ys.length<=OY /\
 (ys=[]->Q (.ref a) H)/\(ys ≠ [] ->∀p,H p=none->Q (.ref p) (upd H p (.tup (xs++ys))))
theorem Vals.rA(r:Vals xs us):us=[] ↔ xs=[]:=by
 cases r with
 |nil=>simp
 |cons _ _=>simp
theorem GY:bU X (S1 .Add) (Jj X.K):=by
 rintro J s σ H x y v u Q I f g ⟨a,b,xs,ys,rfl,rfl,i,j,k,e,l,m⟩;cases f
 cases g
 obtain⟨its,d,n,_⟩:=I.tuple i;obtain⟨p,c,p2,_⟩:=I.tuple j;refine HT.GW n p2 (λz=>k (d.rA.mp z)) (λz=>⟨.ref a,H,I,rfl,l (c.rA.mp z)⟩) (λz=>?_) (by rw[<-d.length,<-c.length];exact e)
 refine⟨.ref s.ao,_,I.laid (t':=s.toks) (o:=.tup (xs++ys)) (λb r q=>aZ _ q) (aK _) ?_,rfl,m (λw=>z (c.rA.mpr w)) _ (I.aJ.fresh (aK _))⟩;exact⟨by rw[cQ];exact e,_,d.append c,ib.new _ _⟩
end
def iz(n:Nat)(i:Int):Option Nat:=if 0<=i then (if i<n then ih i.toNat else none) else if -(n:Int)<=i then ih (i+n).toNat else none
def cn{α:Type}(xs:List α)(i:Int):Option α:=(iz xs.length i).bind λj=>xs[j]?
theorem wV{n:Nat}{i:Int}(h:iz n i=ih j):seqIndex? i n=ih j/\j<n /\ -(n:Int)<=i/\i<n:=by
 unfold iz at h
 by_cases a:0<=i
 ·rw[aB a]at h
  by_cases h1:i<n
  ·rw[aB h1]at h
   have e:i.toNat=j:=c3 h;exact⟨by rw[tZ a h1,e],by omega,by omega,h1⟩
  ·rw[au h1]at h;cases h
 ·rw[au a]at h
  by_cases h1 : -(n:Int)<=i
  ·rw[aB h1]at h
   have e:(i+n).toNat=j:=c3 h;exact⟨by rw[seqIndex_neg (by omega) h1,e],by omega,h1,by omega⟩
  ·rw[au h1]at h;cases h
theorem rB{α:Type}{xs:am α}{i:Int}{v:α}(h:cn xs i=ih v):∃j,seqIndex? i xs.length=ih j/\xs[j]?=ih v/\j<xs.length /\ -(xs.length:Int)<=i/\i<xs.length:=by
 unfold cn at h;cases e:iz xs.length i with
 |none=>rw[e]at h;cases h
 |some j =>
  rw[e]at h;obtain⟨h1,U,a,b⟩:=wV e;exact⟨j,h1,h,U,a,b⟩
theorem cF{α:Type}{xs:am α}{v:α}(h:xs[j]?=ih v):cn xs (j:Int)=ih v:=by
 have a:j<xs.length:=(bA.mp h).1;have e:iz xs.length (j:Int)=ih j:=by
  unfold iz;rw[aB (by omega),aB (by omega)];simp
 unfold cn;rw[e];exact h
theorem FK{α:Type}(xs:am α)(v:α):cn (xs++[v]) (-1)=ih v:=by
 have a:(xs++[v]).length=xs.length+1:=by simp
 have e:iz (xs++[v]).length (-1)=ih xs.length:=by
  unfold iz;rw[a,au (by decide),aB (by omega)]
  congr 1
  omega
 unfold cn;rw[e];show(xs++[v])[xs.length]?=ih v;simp
def GZ(b:Si):Prop:= ∀o i,subscripted b false o i=operate [o,i] (getItem o i)
def k4(X:Cx)(r:R2):Prop:=
 ∀(value slice:Si) J s σ H (x y:V) (v u:i') (Q:VK),Inv X J σ H s->RelV x v->RelV y u->r x y H Q ->
  subscripted slice false v u=operate [v,u] (getItem v u)->wA X (subscriptTail value slice v u) (EP X J σ Q) X.xe s
def pX(X:Cx)(id:String)(r:V->List V->Hp->VK->Prop):Prop:=
 ∀J s σ H (x:V) (xs:List V) (v:i') (us:List i') (Q:VK),Inv X J σ H s->RelV x v->Vals xs us->r x xs H Q ->
  wA X (call (.builtin id) (v::us)) (EP X J σ Q) X.xe s
section
variable{a b:Si}{tb:TE}
theorem aT{r:R2}(c:k4 X r)(d:PE X a ta)(e:PE X b tb)(f:GZ b:=by exact λ_ _=>rfl):PE X (.Subscript a b pos) (pW r ta tb):=by
 intro J s σ H Q I h;exact Ur (sJ d e I h λv u s2 x y H2 g i j q=>c a b J s2 σ H2 x y v u Q g i j q (f _ _))
def oT(K:O9):R2:=λx y H Q=>∃p xs i v,x=.ref p/\y=.int i/\aq K H p xs/\cn xs i=ih v/\Q v H
def sO(K:O9):R2:=λx y H Q=>∃p xs i v,x=.ref p/\y=.int i/\aU K H p xs/\cn xs i=ih v/\Q v H
def KN:R2:=λx y H Q=>∃z i c,x=.str z/\y=.int i/\z.length<=OY/\cn z.cps.toList i=ih c/\Q (.str ⟨#[c]⟩) H
theorem cM:k4 X (oT X.K):=by
 intro value C J s σ H x y v u Q I k l h d;obtain⟨p,xs,i,z,rfl,rfl,m,n,q⟩:=h;cases k
 obtain⟨t,rfl⟩:=l;obtain⟨its,r,a,D⟩:=I.list m;obtain⟨j,h1,U,E,o,A⟩:=rB n;obtain⟨w,e,g⟩:=r.get U;have B:=r.length;have F:=jy;have c:EP X J σ Q w s:=⟨z,H,I,g,q⟩
 by_cases f:0<=i
 ·have b:i.toNat=j:=by
   rw[tZ f A]at h1;exact c3 h1
  exact item_listR a.isList f (by omega) (by rw[b];simpa using e) c d
 ·have b:(i+(its.toArray.size:Int)).toNat=j:=by
   rw[seqIndex_neg (by omega) o]at h1
   rw[bL,<-B];exact c3 h1
  exact subscriptTail_builtinR (x:=w) a.isList.typeIs CC.lookup
   (wpAny_getItem_list_neg (Q:=λr s'=>r=w/\EP X J σ Q r s') a.isList (by omega) (by rw[bL] <;> omega) (by omega) (by rw[b];simpa using e) ⟨rfl,c⟩) d
theorem bN:k4 X (sO X.K):=by
 intro value n J s σ H x y v u Q I d e h f;obtain⟨p,xs,i,z,rfl,rfl,g,k,q⟩:=h;cases d
 obtain⟨t,rfl⟩:=e;obtain⟨its,r,a,o⟩:=I.tuple g;obtain⟨j,h1,U,A,B,C⟩:=rB k;obtain⟨w,l,b⟩:=r.get U;have m:=r.length;have D:=jy;have c:EP X J σ Q w s:=⟨z,H,I,b,q⟩;exact subscriptTail_builtinR (x:=w) a.typeIs slot_tuple_getitem.lookup
  (getItem_tuple (j:=j) (Q:=λr s'=>r=w/\EP X J σ Q r s') a (by omega) (by omega) (by rw[bL,<-m];exact h1) (by simpa using l) ⟨rfl,c⟩) f
theorem Aj:k4 X KN:=by
 intro value n J s σ H x y v u Q I a b h d;obtain⟨z,i,c,rfl,rfl,o,e,q⟩:=h;obtain⟨t,rfl⟩:=a;obtain⟨t',rfl⟩:=b;obtain⟨j,h1,U,p,f,g⟩:=rB e;have k:z.cps.toList.length=z.length:=by simp[Ws]
 rw[k]at h1 f g;have r:=jy;exact tail_any (typeIs_str s z t) slot_str_getitem.lookup (getItem_str (c:=c) (by
  have l:decide (i < -(2 ^ 63:Int))=false:=eF (by omega)
  have m:decide (i ≥ 2 ^ 63)=false:=eF (by omega)
  rw[l,m,Ve]) (by rw[h1];simpa using U) ⟨.str ⟨#[c]⟩,H,I.tok _,⟨_,rfl⟩,q⟩) d
theorem Ed(its:am i')(n j:Nat)(u:i'):Sm (·.setIfInBounds j u) { cls:=.type "list",data:=.seq its.toArray n }={ cls:=.type "list",data:=.seq (its.set j u).toArray n }:=by
 simp[Sm]
theorem Inv.lst{J:am (OT×Tp)}{σ:St}{H:Hp}{s:OX}{p:OT}{xs:am V}(I:Inv X J σ H s)(h:H p=bm xs) :
  ∃(its:am i') (n:Nat),Vals xs its/\s.heap.get? p=ih { cls:=.type "list",data:=.seq its.toArray n }/\xs.length<=OY:=by
 obtain⟨z,its,n,r,e⟩:=I.aJ p _ h;exact⟨its,n,r,e,z⟩
theorem Inv.Im{ys:am V}{its':am i'}{n a:Nat}{f:Tp->Tp}(I:Inv X J σ H s)(h:H p=bm xs)
  (d:s.heap.get? p=ih { cls:=.type "list",data:=.seq its.toArray n }) (c:f { cls:=.type "list",data:=.seq its.toArray n }={ cls:=.type "list",data:=.seq its'.toArray a }) (r:Vals ys its') (hz:ys.length<=OY) (t:Nat) :
  Inv X J σ (upd H p (.lst ys)) { s with heap:=s.heap.update p f,toks:=t }:=by
 have e:(s.heap.update p f).get? p=ih { cls:=.type "list",data:=.seq its'.toArray a }:=by
  rw[qf f d (by rw[c] <;> rfl),c]
 refine I.write (x:=p) (e:=p) (by rw[h];trivial) (.inl rfl) (λb u g q=>(m9 _ _ (aN g)).trans q) ⟨_,e⟩ ?_
 exact⟨hz,its',a,r,e⟩
def Jk:V->V->V->Hp->(Hp->Prop)->Prop:=λo i v H Q=>∃p xs k j,o=.ref p/\i=.int k/\H p=ih (.lst xs)/\iz xs.length k=ih j/\Q (upd H p (.lst (xs.set j v)))
theorem set_list:A7 X Jk:=by
 rintro J s σ H o i v A B u Q I m w x ⟨p,xs,k,j,rfl,rfl,d,y,q⟩;cases m
 obtain⟨t,rfl⟩:=w;obtain⟨its,n,r,a,z⟩:=I.lst d;obtain⟨h1,U,e,f⟩:=wV y;have b:=r.length;have C:=jy;have g:Inv X J σ (upd H p (.lst (xs.set j v))) { s with heap:=s.heap.update p (Sm (·.setIfInBounds j u)) }:=
  I.Im d a (Ed its n j u) (r.set x j) (by rw[List.length_set];exact z) s.toks
 by_cases l:0<=k
 ·have c:k.toNat=j:=by
   rw[tZ l f]at h1;exact c3 h1
  exact PySem.W.ki_setAt a l (by omega) (by rw[bL,<-b];exact f) (by rw[c];exact⟨_,g,q⟩)
 ·have c:(k+(its.toArray.size:Int)).toNat=j:=by
   rw[seqIndex_neg (by omega) e]at h1
   rw[bL,<-b];exact c3 h1
  exact PySem.W.ki_setBack a (by omega) (by rw[bL,<-b];exact e) (by omega) (by rw[c];exact⟨_,g,q⟩)
theorem DG(lo hi:a2 Int)(n:Nat):(sliceBounds lo hi none n).1=((HT.a6 n 0 lo:Nat):Int)/\(sliceBounds lo hi none n).2.1=((HT.a6 n n hi:Nat):Int)/\(sliceBounds lo hi none n).2.2=1:=by
 refine⟨?_,?_,rfl⟩
 ·cases lo with
  |none=>simp[sliceBounds,HT.a6]
  |some i =>
   simp only[sliceBounds,HT.a6,UI,show(1:Int)>0 by decide,gs]
   by_cases h:i<0
   ·simp only[h,gs] <;> omega
   ·simp only[h,gr] <;> omega
 ·cases hi with
  |none=>simp[sliceBounds,HT.a6]
  |some i =>
   simp only[sliceBounds,HT.a6,UI,show(1:Int)>0 by decide,gs]
   by_cases h:i<0
   ·simp only[h,gs] <;> omega
   ·simp only[h,gr] <;> omega
theorem DB(its:am i')(lo hi:a2 Int):slicePick its.toArray lo hi none=((its.drop (HT.a6 its.length 0 lo)).take (HT.a6 its.length its.length hi - HT.a6 its.length 0 lo)).toArray:=by
 obtain⟨h1,U,a⟩:=DG lo hi its.toArray.size;unfold slicePick;rw[h1,U,a];simp only[sliceRange_one,pick_run,bL] <;> rfl
def Be(K:O9):V->Option Int->Option Int->Hp->VK->Prop:=λx lo hi H Q=>∃a xs,x=.ref a/\aq K H a xs /\∀p,H p=none->Q (.ref p) (upd H p (.lst (bT xs lo hi)))
theorem jt:k3 X (Be X.K):=by
 rintro J s σ H x v vl vu lo hi sl Q I e f g i ⟨a,xs,rfl,j,q⟩;cases e
 obtain⟨its,r,c,k⟩:=I.list j;have d:=r.length;refine⟨"list",_,CC.lookup,c.isList.typeIs,?_⟩;refine O8 c.isList f g i .none (by simp) ?_ (by rw[bL] <;> omega)
 rw[DB,<-d];refine⟨.ref s.heap.objs.size,_,I.laid (t':=s.toks) (o:=.lst (bT xs lo hi)) (λb l q=>aZ _ q) (aK _) ?_,rfl,q _ (I.aJ.fresh (aK _))⟩;exact⟨eS (nN xs lo hi) k,_,0,(r.drop (HT.a6 xs.length 0 lo)).take (HT.a6 xs.length xs.length hi - HT.a6 xs.length 0 lo),bK _ rfl⟩
def ia:V->Bool
 |.aM=>true
 |.bl _=>true
 |.int _=>true
 |.str _=>true
 |_=>false
def jd:V->V->Bool
 |.aM,.aM=>true
 |.bl a,.bl b=>a==b
 |.bl a,.int b=>(if a then 1 else 0)==b
 |.int a,.bl b=>a==(if b then 1 else 0)
 |.int a,.int b=>a==b
 |.str a,.str b=>a==b
 |_,_=>false
theorem Io{x:V}{v:i'}(d:RelV y u)(c:RelV x v)(f:ia y=true)(e:ia x=true):Vw A s u v (jd y x):=by
 cases y with
 |aM =>
  cases d
  cases x with
  |aM=>cases c;exact WH _
  |bl b=>cases c;exact WL b
  |int b=>obtain⟨t,rfl⟩:=c;exact WK b t
  |str b=>obtain⟨t,rfl⟩:=c;exact WJ b t
  |_=>exact absurd (show false=true from e) bV
 |bl a =>
  cases d
  cases x with
  |aM=>cases c;exact WR a
  |bl b=>cases c;exact WT a b
  |int b=>obtain⟨t,rfl⟩:=c;exact WS a b t
  |str b=>obtain⟨t,rfl⟩:=c;exact WQ a b t
  |_=>exact absurd (show false=true from e) bV
 |int a =>
  obtain⟨t',rfl⟩:=d;cases x with
  |aM=>cases c;exact WM a t'
  |bl b=>cases c;exact WO a t' b
  |int b=>obtain⟨t,rfl⟩:=c;exact WN a t' b t
  |str b=>obtain⟨t,rfl⟩:=c;exact Uk a t' b t
  |_=>exact absurd (show false=true from e) bV
 |str a =>
  obtain⟨t',rfl⟩:=d;cases x with
  |aM=>cases c;exact WE a t'
  |bl b=>cases c;exact WG a t' b
  |int b=>obtain⟨t,rfl⟩:=c;exact Uj a t' b t
  |str b=>obtain⟨t,rfl⟩:=c;exact WD a t' b t
  |_=>exact absurd (show false=true from e) bV
 |_=>exact absurd (show false=true from f) bV
def e3(x:V)(u:i'):Bool:=match u with
 |.none=>jd .aM x
 |.bool b=>jd (.bl b) x
 |.int i _=>jd (.int i) x
 |.str z _=>jd (.str z) x
 |_=>false
theorem Ak{x:V}(r:RelV y u)(f:ia y=true):e3 x u=jd y x:=by
 cases y with
 |aM=>cases r;rfl
 |bl b=>cases r;rfl
 |int i=>obtain⟨t,rfl⟩:=r;rfl
 |str z=>obtain⟨t,rfl⟩:=r;rfl
 |_=>exact absurd (show false=true from f) bV
theorem l2{x:V}:∀{xs:am V}{us:am i'},Vals xs us->xs.all ia=true->us.any (e3 x)=xs.any λy=>jd y x
 |_,_,.nil,_=>rfl
 |y::xs,u::us,.cons r t,f=>by
  rw[Va,jj]at f;rw[jZ,jZ,Ak r f.1,l2 t f.2]
theorem lR{A:SV}{s:OX}{x:V}{v:i'}(a:RelV x v)(b:ia x=true):∀{xs:am V}{us:am i'},Vals xs us->xs.all ia=true ->∀u∈us,Vw A s u v (e3 x u)
 |_,_,.nil,_=>λu hu=>by cases hu
 |y::xs,u::us,.cons r t,f=>λc hu=>by
  rw[Va,jj]at f;rcases bu.mp hu with rfl|hu
  ·rw[Ak r f.1];exact Io r a f.1 b
  ·exact lR a b t f.2 c hu
def k5(x:V)(xs:List V):Bool:=xs.any λy=>jd y x
def pY(K:O9)(tG:Bool):R2:=λx y H Q=>∃p xs,y=.ref p/\(aq K H p xs\/aU K H p xs)/\ia x=true/\xs.all ia=true/\Q (.bl (if tG then !k5 x xs else k5 x xs)) H
theorem j':bU X (P4 .In) (pY X.K false):=by
 rintro J s σ H x y v u Q I c e ⟨p,xs,rfl,hq,d,fs,q⟩;cases e
 rcases hq with hq|hq
 ·obtain⟨its,r,a,f⟩:=I.list hq
  refine SeqAt.in_listAt (e3 x) a.isList (λw b=>lR c d r fs w (by simpa using b)) ⟨.bl _,H,I,rfl,?_⟩
  rw[show its.toArray.any (e3 x)=its.any (e3 x) by simp,l2 r fs]
  exact q
 ·obtain⟨its,r,a,f⟩:=I.tuple hq
  refine SeqAt.in_tupleAt (e3 x) a (λw b=>lR c d r fs w (by simpa using b)) ⟨.bl _,H,I,rfl,?_⟩
  rw[show its.toArray.any (e3 x)=its.any (e3 x) by simp,l2 r fs]
  exact q
theorem DH:bU X (P4 .NotIn) (pY X.K true):=by
 rintro J s σ H x y v u Q I c e ⟨p,xs,rfl,hq,d,fs,q⟩;cases e
 rcases hq with hq|hq
 ·obtain⟨its,r,a,f⟩:=I.list hq
  refine SeqAt.notIn_listAt (e3 x) a.isList (λw b=>lR c d r fs w (by simpa using b)) ⟨.bl _,H,I,rfl,?_⟩
  rw[show its.toArray.any (e3 x)=its.any (e3 x) by simp,l2 r fs]
  exact q
 ·obtain⟨its,r,a,f⟩:=I.tuple hq
  refine SeqAt.notIn_tupleAt (e3 x) a (λw b=>lR c d r fs w (by simpa using b)) ⟨.bl _,H,I,rfl,?_⟩
  rw[show its.toArray.any (e3 x)=its.any (e3 x) by simp,l2 r fs]
  exact q
theorem hT:cT X (.builtin "len") (λxs H Q=>∃p ys,xs=[.ref p]/\(aq X.K H p ys\/aU X.K H p ys)/\Q (.int ys.length) H):=by
 rintro J s σ H xs us Q I r ⟨p,ys,rfl,hq,q⟩;obtain⟨u,rfl,d⟩:=vals1 r;cases d
 have f:=jy;rcases hq with hq|hq
 ·obtain⟨its,b,c,e⟩:=I.list hq
  have a:=b.length;exact Calls.call_len_list c.isList (by simp only[bL] <;> omega) ⟨.int ys.length,H,I.tok _,⟨s.toks+1,by rw[bL,a]⟩,q⟩
 ·obtain⟨its,b,c,e⟩:=I.tuple hq
  have a:=b.length;exact len_tuple c (by simp only[bL] <;> omega) ⟨.int ys.length,H,I.tok _,⟨s.toks+1,by rw[bL,a]⟩,q⟩
theorem DI:cT X (.builtin "len") (λxs H Q=>∃z,xs=[.str z]/\z.length<=OY/\Q (.int z.length) H):=by
 rintro J s σ H xs us Q I r ⟨z,rfl,a,q⟩;obtain⟨u,rfl,t,rfl⟩:=vals1 r;have b:=jy;exact len_str (by omega) ⟨.int z.length,H,I.tok _,⟨_,rfl⟩,q⟩
theorem iP:cT X (.type "list") (λxs H Q=>∃p ys,xs=[.ref p]/\(aq X.K H p ys\/aU X.K H p ys) /\∀l,H l=none->Q (.ref l) (upd H l (.lst ys))):=by
 rintro J s σ H xs us Q I r ⟨p,ys,rfl,hq,q⟩;obtain⟨u,rfl,t⟩:=vals1 r;cases t
 have k:∀(its:am i'),Vals ys its->ys.length<=OY ->∀(h':SN) (a:Nat),(∀b o',s.heap.get? b=ih o'->h'.get? b=ih o') ->
   h'.get? s.heap.objs.size=ih { cls:=.type "list",dict:=none,data:=.seq its.toArray a,slots:= #[] }->EP X J σ Q (.ref s.heap.objs.size) { s with heap:=h' }:=λits c d h' a kp e =>
  ⟨.ref s.heap.objs.size,_,I.laid (t':=s.toks) kp (aK _) (show bO X.prog X.w _ h' _ (.lst ys) from⟨d,its,a,c,e⟩),rfl,q _ (I.aJ.fresh (aK _))⟩
 rcases hq with hq|hq
 ·obtain⟨its,c,f,d⟩:=I.list hq
  have m:=c.length;obtain⟨o,g,i,n,j⟩:=f.isList;exact call_list_seq p (.inl rfl) g i j (λh' a kp e=>k its c d h' a kp e) (by simp only[bL] <;> omega)
 ·obtain⟨its,c,f,d⟩:=I.tuple hq
  have m:=c.length;obtain⟨o,g,i,n,j⟩:=f;exact call_list_seq p (.inr rfl) g i j (λh' a kp e=>k its c d h' a kp e) (by simp only[bL] <;> omega)
theorem j5:cT X (.type "tuple") (λxs H Q=>∃p ys,xs=[.ref p]/\((aq X.K H p ys /\∀l,H l=none->Q (.ref l) (upd H l (.tup ys)))\/(aU X.K H p ys/\Q (.ref p) H))):=by
 rintro J s σ H xs us Q I r ⟨p,ys,rfl,h⟩;obtain⟨u,rfl,i⟩:=vals1 r;cases i
 rcases h with⟨a,q⟩|⟨a,q⟩
 ·obtain⟨its,c,d,f⟩:=I.list a
  have k:=c.length;refine call_tuple_list d.isList (λh' kp=>?_) (by simp only[bL] <;> omega)
  have g:Inv X J σ H { s with heap:=h' }:=I.kept (t':=s.toks) kp;have j:Inv X J σ (upd H h'.objs.size (.tup ys)) { s with heap:=h'.push { cls:=.type "tuple",data:=.seq its.toArray } }:=
   g.laid (t':=s.toks) (λb o e=>aZ _ e) (aK _) (show bO X.prog X.w _ _ _ (.tup ys) from⟨f,its,c,ib.new _ _⟩)
  exact⟨.ref h'.objs.size,_,j,rfl,q _ (g.aJ.fresh (aK _))⟩
 ·obtain⟨its,c,d,f⟩:=I.tuple a
  exact call_tuple_same d ⟨.ref p,H,I,rfl,q⟩
def tH(K:O9)(T:String)(x:V)(H:Hp):Prop:=match x with
 |.str _=>T = "str"
 |.int _=>T = "int"
 |.ref p=>(T = "list" /\∃xs,aq K H p xs)\/(T = "tuple" /\∃o,K.lookup p=ih o/\o.cls=.type "tuple" /\ o.dict=none) \/
   (T = "dict" /\ ((∃kvs,H p=ih (.dK kvs)) \/∃kvs,H p=ih (.dT kvs)))\/(T = "set" /\∃S n,H p=ih (.set S n))\/(T = "tuple" /\∃xs,Rd H p (.tup xs))
 |_=>False
theorem Al{x:V}{v:i'}(I:Inv X J σ H s)(r:RelV x v)(ty:tH X.K T x H) :
  s.TypeIs v T /\∀a,v=.ref a ->∃h,s.heap.get? a=ih h/\h.dict=none:=by
 cases x with
 |str z =>
  obtain⟨t,rfl⟩:=r;cases (show T = "str" from ty)
  exact⟨typeIs_str s z t,λ_ e=>nomatch e⟩
 |int i =>
  obtain⟨t,rfl⟩:=r;cases (show T = "int" from ty)
  exact⟨typeIs_int s i t,λ_ e=>nomatch e⟩
 |ref p =>
  cases r
  rcases ty with⟨rfl,xs,g⟩|⟨rfl,o,b,k,d⟩|⟨rfl,b⟩|⟨rfl,S,n,b⟩|⟨rfl,xs,g⟩
  ·obtain⟨its,_,j,_⟩:=I.list g
   refine⟨j.isList.typeIs,λa e=>?_⟩;cases e
   obtain⟨o,n,e,c,d,_⟩:=j;exact⟨o,e,d⟩
  ·refine⟨⟨o,I.cV p o b,k⟩,λa e=>?_⟩
   cases e
   exact⟨o,I.cV _ o b,d⟩
  ·have z:∃o,s.heap.get? p=ih o/\o.ExactDict:=by
    rcases b with⟨kvs,b⟩|⟨kvs,b⟩
    ·obtain⟨_,_,_,_,o,_,_,e,ex,_⟩:=I.aJ p _ b
     exact⟨o,e,ex⟩
    ·obtain⟨_,_,_,_,o,_,_,e,ex,_⟩:=I.aJ p _ b
     exact⟨o,e,ex⟩
   obtain⟨o,e,ex⟩:=z;refine⟨⟨o,e,ex.1⟩,λa f=>?_⟩;cases f
   exact⟨o,e,ex.2.1⟩
  ·obtain⟨o,_,_,_,e,ex,_⟩:=I.aJ p _ b
   refine⟨⟨o,e,ex.1⟩,λa f=>?_⟩;cases f
   exact⟨o,e,ex.2.1⟩
  ·obtain⟨_,_,_,o,e,c,_,_,d⟩:=g.ok I.aJ
   refine⟨⟨o,e,c⟩,λa f=>?_⟩;cases f
   exact⟨o,e,d⟩
 |_=>exact SF ty
def KO(K:O9)(T:String)(r:V->List V->Hp->VK->Prop)(to:TE):TE:=λσ H Q=>to σ H λx O=>tH K T x O/\r x [] O Q
def LO(K:O9)(T:String)(r:V->List V->Hp->VK->Prop)(to:TE)(t:TA):TE:=λσ H Q=>to σ H λx O=>tH K T x O/\t σ O λxs H2=>r x xs H2 Q
variable{o:Si}{to:TE}{t:TA}{Qj:VU}{id:String}{r:V->List V->Hp->VK->Prop}
theorem Ip(g:PlainAttrs T)(e:Slot T name id)(f:typeOf (.builtin id)=pure (.type "method_descriptor"))(i:pX X id r)(j:PE X o to)
  (c:attributeBase o name X.env (eval o X.env)=eval o X.env:=by rfl) (d:(Qi.endLine==Qj.line)=true:=by rfl):PE X (.Call (.Attribute o name Qi) [] [] Qj) (KO X.K T r to):=by
 intro J s σ H Q I h;refine wpAny_Call_method0_late c d (aF (j J s σ H _ I h) λv k m=>?_);obtain⟨x,O,a,b,ty,l⟩:=m;obtain⟨h1,U⟩:=Al a b ty;exact⟨T,id,g,e,f,h1,U,Ul rfl (O' (i J k σ O x [] v [] Q a b .nil l))⟩
theorem fB(l:PlainAttrs T)(i:Slot T name id)(k:typeOf (.builtin id)=pure (.type "method_descriptor"))(m:pX X id r)(n:PE X o to)(p:PA X (e::es) t)
  (f:attributeBase o name X.env (eval o X.env)=eval o X.env:=by rfl)
  (j:((backTo Qj (Sh (e::es) X.env)).all (λx=>!x.1)&&(backToKw Qj (keywordEach [] X.env)).all (λx=>x.1.isSome)
   && decide ((e::es).length+([]:am Keyword).length+(if ([]:am Keyword).isEmpty then 0 else 1)<30))=true:=by rfl)
  (g:(Qi.endLine==Qj.line)=true:=by rfl) (q:Sh (e::es) X.env=(false,eval e X.env)::Sh es X.env:=by rfl) (d:(backTo Qj (Sh es X.env)).any (·.1)=false:=by rfl) :
  PE X (.Call (.Attribute o name Qi) (e::es) [] Qj) (LO X.K T r to t):=by
 intro J s σ H Q I h;refine wpAny_Call_method_late f j g rfl (aF (n J s σ H _ I h) λv u B=>?_);obtain⟨x,O,a,b,ty,w⟩:=B;obtain⟨h1,U⟩:=Al a b ty;refine⟨T,id,l,i,k,h1,U,?_⟩;have c:=p Qj J u σ O _ a w;rw[q]at c⊢;refine Ul (by show(false||(backTo Qj (Sh es X.env)).any (·.1))=false;rw[d] <;> rfl) (Calls.evalArgs_plain ?_)
 exact aF c λus s2 ⟨vs,H2,y,z,A⟩=>m J s2 σ H2 x vs v us Q y b z A
end
def mX(X:Cx)(id:String)(r:V->List V->Hp->VK->Prop):Prop:=
 ∀J s σ H (x:V) (xs:List V) (v:i') (us:List i') (Q:VK),Inv X J σ H s->RelV x v->Vals xs us->r x xs H Q ->
  wA X (call (.builtin id) (v::us)) (EP X J σ Q) X.xe s
theorem Vals.one:∀{x:V}{us:am i'},Vals [x] us ->∃u,us=[u]/\RelV x u:=by
 intro _ _ h;cases h with|cons r h=>cases h;exact⟨_,rfl,r⟩
theorem Vals.two:∀{x y:V}{us:am i'},Vals [x,y] us ->∃u v,us=[u,v]/\RelV x u/\RelV y v:=by
 intro _ _ _ h;cases h with|cons r h=>cases h with|cons q h=>cases h;exact⟨_,_,rfl,r,q⟩
theorem Vals.zero:∀{us:am i'},Vals [] us->us=[]
 |_,.nil=>rfl
theorem Vals.dropLast(h:Vals xs us):Vals xs.dropLast us.dropLast:=by
 induction h with
 |nil=>exact .nil
 |cons r t a =>
  cases t with
  |nil=>exact .nil
  |cons q t'=>exact .cons r a
theorem Vals.eraseIdx:∀{xs:am V}{us:am i'} (i:Nat),Vals xs us->Vals (xs.eraseIdx i) (us.eraseIdx i)
 |_,_,_,.nil=>.nil
 |_,_,0,.cons _ t=>t
 |_,_,i+1,.cons r t=>.cons r (Vals.eraseIdx i t)
theorem Vals.reverse(h:Vals xs us):Vals xs.reverse us.reverse:=by
 induction h with
 |nil=>exact .nil
 |cons r t a=>rw[lp,lp];exact Vals.append a (.cons r .nil)
theorem Ee{α:Type}(l:am α):l.eraseIdx (l.length - 1)=l.dropLast:=by
 induction l with
 |nil=>rfl
 |cons a r c =>
  cases r with
  |nil=>rfl
  |cons b r =>
   have e:(a::b::r).length - 1=((b::r).length - 1)+1:=by
    have h1:(a::b::r).length=r.length+2:=rfl;have U:(b::r).length=r.length+1:=rfl;omega
   rw[e,List.eraseIdx_cons_succ,c]
   all_goals rfl
theorem vf{α:Type}:∀(l:am α) (i:Nat),(l.eraseIdx i).length<=l.length
 |[],_=>aK _
 |_::_,0=>gq _
 |_::r,i+1=>Nat.succ_le_succ (vf r i)
section
variable{ys zs:am V}
theorem Inv.oU{its':am i'}{n:Nat}{f:Array i'->Array i'}(I:Inv X J σ H s)(a:H l=bm xs)
  (e:s.heap.get? l=ih { cls:=.type "list",data:=.seq its.toArray n }) (b:f its.toArray=its'.toArray) (hv:Vals ys its') (hz:ys.length<=OY) :
  Inv X J σ (upd H l (.lst ys)) { s with heap:=s.heap.update l (Sm f),toks:=t' }:=by
 have q:=WW e f;rw[b]at q;refine I.write (x:=l) (e:=l) (by rw[a];exact trivial) (.inl rfl) (λg u c d=>(m9 s.heap (Sm f) (aN c)).trans d) ⟨_,q⟩ ?_
 exact⟨hz,its',_,hv,q⟩
theorem Inv.Bf(I:Inv X J σ H s)(hv:Vals ys its)(hz:ys.length<=OY) :
  Inv X J σ (upd H s.ao (.lst ys)) { s with heap:=s.heap.push { cls:=.type "list",data:=.seq its.toArray },toks:=t' }:=
 I.laid (λ_ _ q=>aZ _ q) (aK _) ⟨hz,its,0,hv,bK _ rfl⟩
theorem Inv.fresh(I:Inv X J σ H s):H s.ao=none:=I.aJ.fresh (aK _)
theorem Inv.kQ(I:Inv X J σ H s)(a:H l=bm xs):xs.length<=OY /\∃(its:am i') (n:Nat),Vals xs its/\xs.length=its.length/\s.heap.get? l=ih { cls:=.type "list",data:=.seq its.toArray n }:=by
 obtain⟨z,its,n,r,e⟩:=I.aJ l _ a;exact⟨z,its,n,r,r.length,e⟩
theorem FL{n:Nat}(h:n<=OY):SY n=false:=by
 unfold SY;exact eF (by omega)
end
def G0:V->List V->Hp->VK->Prop:=λx vs H Q=>∃l xs y,x=.ref l/\vs=[y]/\H l=ih (.lst xs)/\xs.length<OY/\Q .aM (upd H l (.lst (xs++[y])))
theorem iR:mX X "list.append" G0:=by
 rintro J s σ H x vs v us Q I b c ⟨l,xs,y,rfl,rfl,a,f,q⟩;cases b
 obtain⟨u,rfl,d⟩:=c.one;obtain⟨z,its,n,r,g,e⟩:=I.kQ a;refine qg F.slot_list_append ⟨_,e,rfl⟩ F.entry_list_append (F.args_list_append_2 _ _) (PySem.list_append l its.toArray n u (by rw[bL];omega)) ⟨e,?_⟩
 refine⟨.aM,_,I.oU (its':=its++[u]) a e (by simp) (r.append (.cons d .nil)) ?_,rfl,q⟩
 rw[cQ,j0];omega
def KP:V->List V->Hp->VK->Prop:=λx vs H Q=>∃l xs y,x=.ref l/\vs=[]/\H l=ih (.lst xs)/\xs[xs.length - 1]?=ih y/\Q y (upd H l (.lst xs.dropLast))
theorem Iq:mX X "list.pop" KP:=by
 rintro J s σ H x vs v us Q I d f ⟨l,xs,y,rfl,rfl,a,g,q⟩;cases d
 have b:=f.zero;subst b;obtain⟨z,its,n,r,i,e⟩:=I.kQ a;obtain⟨u,j,k⟩:=r.get g;have c:its.toArray[its.toArray.size - 1]?=ih u:=by
  show its.toArray[its.length - 1]?=ih u;rw[<-nc,<-i];exact j
 refine qg Vq ⟨_,e,rfl⟩ Vc (F.args_list_pop_1 _) (Xe l its.toArray n u c (by rw[bL];omega)) ⟨e,?_⟩
 refine⟨y,_,I.oU (its':=its.dropLast) a e ?_ r.dropLast ?_,k,q⟩
 ·show its.toArray.eraseIdxIfInBounds (its.toArray.size - 1)=its.dropLast.toArray
  rw[bL,Pa,Ee]
 ·rw[CD]
  omega
def Ir:V->List V->Hp->VK->Prop:=λx vs H Q=>∃l xs i k y,x=.ref l/\vs=[.int i]/\H l=ih (.lst xs) /\ -(2 ^ 63)<=i/\i<2 ^ 63/\seqIndex? i xs.length=ih k/\xs[k]?=ih y/\Q y (upd H l (.lst (xs.eraseIdx k)))
theorem vQ:mX X "list.pop" Ir:=by
 rintro J s σ H x vs v us Q I c d ⟨l,xs,i,k,y,rfl,rfl,a,h1,U,f,g,q⟩;cases c
 obtain⟨u,rfl,j⟩:=d.one;obtain⟨t,rfl⟩:=j;obtain⟨z,its,n,r,m,e⟩:=I.kQ a;obtain⟨w,o,b⟩:=r.get g;refine qg Vq ⟨_,e,rfl⟩ Vc (F.args_list_pop_2 _ _)
  (Xf l its.toArray n i t k w (fitsIndex_both h1 U) (by rw[bL,<-m];exact f) (by rw[<-nc];exact o) (by rw[bL];omega)) ⟨e,?_⟩
 refine⟨y,_,I.oU (its':=its.eraseIdx k) a e ?_ (r.eraseIdx k) ?_,b,q⟩
 ·show its.toArray.eraseIdxIfInBounds k=(its.eraseIdx k).toArray
  rw[Pa]
 ·have:=vf xs k
  omega
def KQ:R2:=λx y H Q=>∃l b xs zs,x=.ref l/\y=.ref b/\H l=ih (.lst xs)/\H b=ih (.lst zs)/\xs.length+zs.length<=OY /\∀p,H p=none->Q (.ref p) (upd H p (.lst (xs++zs)))
theorem mf:bU X (S1 .Add) KQ:=by
 rintro J s σ H x y v u Q I c d ⟨l,b,xs,zs,rfl,rfl,f,g,o,q⟩;cases c
 cases d
 obtain⟨z,its,n,r,p,e⟩:=I.kQ f;obtain⟨t,a,w,i,m,j⟩:=I.kQ g;refine PySem.P.add_list e j ?_ (by rw[bL,bL];omega)
 have k:its.toArray++a.toArray=(its++a).toArray:=by simp
 rw[k];exact⟨.ref _,_,I.Bf (t':=s.toks) (r.append i) (by rw[cQ];omega),rfl,q _ I.fresh⟩
section
set_option maxRecDepth 100000 in
end
end L2
namespace BV
open W Calls PyProof.Rows
theorem Dv{P:Wq}:∀(ns:am Int) (vs:am i'),WellAll P h vs (ns.map VV)->Uc vs ns:=by
 intro ns
 induction ns with
 |nil =>
  intro vs w;rw[jY]at w;cases w
  exact .nil
 |cons n ns c =>
  intro vs w;rw[b5]at w;cases w with
  |cons a b =>
   cases a
   exact .cons _ _ (c _ b)
theorem EN{l:UJ}{n:Nat}(o:l.most=ih n){P:Wq}{args:am WData}{e:am i'}
  (f:l.row.toRowW.claim.pre args=true) (k:WellAll P h e args) :
  ∃a vs ns,e=[Pk a]/\args=[WData.list (ns.map VV)]/\h.get? a=ih { cls:=.type "list",data:=.seq vs.toArray }/\Uc vs ns/\ns.length<=n:=by
 have m:WShape.hasAll [] args [.list .int]=true:=(pre_splitW f).1;have g:l.pre.holds [] { args:=args }=true:=(pre_splitW f).2;obtain⟨d,r,rfl,h1,U⟩:=hasAllW_cons m;obtain rfl:=hasAllW_nil U;obtain⟨xs,rfl,p⟩:=hasW_list h1;obtain⟨ns,rfl⟩:=items_int p;have i:ns.length<=n:=by
  unfold OpenLaw.pre at g;have b:(WTm.not (.lt (.lit (.int (n:Int))) (.len (.arg 0)))).holds [] { args:=[.list (ns.map .int)] }=true:=by
   have b:=(holds_andW g).1;rw[o]at b;exact b
  have c:=condW_of b (w_not (w_lt w_lit (w_len_list (w_arg rfl))));rw[aG]at c;refine Nat.le_of_not_lt λq=>?_;have s:(n:Int)<((ns.length:Nat):Int):=by omega
  first
   |(rw[cE s]at c;exact absurd c (by decide))
   |(simp at c;omega)
 cases k with
 |cons t u =>
  cases u
  cases t with
  |list v j=>exact⟨_,_,ns,rfl,rfl,v,Dv ns _ j,i⟩
theorem EO(l:UJ)(args:am WData):l.row.toRowW.claim.post args (.bool true) args=true:=
 postW_of (r:=l.row.toRowW) (X:=(true==true))
  (show Vl [] (.bool true) .bool=true by first|rfl|decide|simp[Vl,WShape.arms,WShape.armsAll])
  (show(WTm.eq .res (.lit (.bool true))).value [] { args:=args,res:=ih (.bool true),after:=args }=ih (.bool (true==true)) from w_eq_bool (w_res rfl) w_lit) rfl
theorem DT{l:UJ}{n:Nat}{q:SD}{d:DefRec}
  (x:l.most=ih n) (s:d.params.defaults=[])
  (call:∀(w:SQ) (g b:OX) (mg h:CY->Option i') (c:OT) (o:Tp) (pm e Qc:i') (a:OT) (vs:am i') (ns:am Int),
   Ground q Qo [] XP w g mg h b.heap->YP w b.heap ->
   b.heap.get? c=ih o->o.data=.func (docDef d.name d.params d.body d.scope pm e Qc)->b.heap.CodeRec e d.name->mg d.name=ih (.ref c) ->
   b.heap.get? a=ih { cls:=.type "list",data:=.seq vs.toArray }->Uc vs ns->ns.length<=n->b.gens = #[] ->
   codeAny (Pb l.prog w) callerA (.call (.ref c) ⟨[.ref a],[]⟩) (λr s'=>r=.ok (.ret (.bool true))/\OldK b.heap s'.heap/\s'.os=b.os/\TN s'.gens) b) :
  WalkO q Qo XP YP l.row.toRowW d [] (λf vs=>UB f vs):=by
 intro w g b mg h G y c o pm e Qc z kV A B t i u C args I M k J K v L;obtain rfl:z=.none:=Dflts.none i s;obtain rfl:kV=.none:=Dflts.noKw i;obtain⟨a,vs,ns,rfl,rfl,m,j,p⟩:=EN x k v;refine enter_call (m7 (call w g b mg h c o pm e Qc a vs ns G y A (fd_plain B) t u m j p C) λr s' D=>?_);obtain⟨rfl,U,E,F⟩:=D;exact⟨.inl ⟨.bool true,.bool true,[],rfl,λ_=>rfl,.bool true,EO l _,λ_=>⟨TJ,λ_ H=>(nomatch H)⟩⟩,U,E,F⟩
end BV
namespace L2
open Spec PyProof.Rows
theorem vg:∀{vs:am i'}{ns:am Int},Uc vs ns->Vals (ns.map V.int) vs
 |_,_,.nil=>.nil
 |_,_,.cons n t h=>.cons ⟨t,rfl⟩ (vg h)
def sP(H:Hp):Prop:= ∀b,H b=none \/∃o xs,H b=ih (.bw o (.lst xs))
theorem FO{l:CY->Option i'}{CX:gE}{k:Nat}{p:OT}{c:OX}{vs:am i'}{ns:am Int}
  (G:K.In c.heap) (C:c.heap.Ns PD mg) (f:c.heap.Ns builtinsNs l) (W:∀x:CY,x ≠ "__name__" -> l x=PX x) (Q:c.heap.NoLimit) (za:c.gens = #[])
  (j:c.heap.get? a=ih { cls:=.type "list",data:=.seq vs.toArray }) (hi:Uc vs ns) (I:ns.length<=OY) (xb:aY k callerA)
  (F:∀base:SN,K.In base->base.Ns PD mg->aO P w K mg base CX k p fd [x] sp) (O:∀(s:OX) (u:i'),Um s fd ⟨[u],[]⟩ [(x,u)])
  (X:∀H:Hp,sP H->aq K H a (ns.map V.int)->sp [.ref a] H (λv _=>v=.bl true) λ_ _ _=>False)
  (xa:∀H e s',CX [] H c (λ_ _ _=>False) e s'->False) :
  codeAny (Pb P w) callerA (.call (.ref p) ⟨[.ref a],[]⟩) (λr s'=>r=.ok (.ret (.bool true))/\OldK c.heap s'.heap/\s'.os=c.os/\TN s'.gens) c:=by
 have J:=vg hi;have R:=hi.length;have B:∀H:Hp,sP H->aq K H a (ns.map V.int)->cz P w H c.heap->(∀b,H b≠none->b=a)->(H a≠none->K.lookup a=none) ->
   codeAny (Pb P w) callerA (.call (.ref p) ⟨[.ref a],[]⟩) (λr s'=>r=.ok (.ret (.bool true))/\OldK c.heap s'.heap/\s'.os=c.os/\TN s'.gens) c:=by
  intro H L yb D M zb;have A:∀{b:OT}{o:Tp},c.heap.get? b=ih o->H b=none->(ic c.heap H).get? b=ih o:=λe n=>Fu e n;have ya:∀{b:OT}{o:Tp}{es:Array Sz}{ep:Nat},c.heap.get? b=ih o->o.data=.dict es ep->H b=none:=λ{b o es ep} e d=>by
   cases q:H b with
   |none=>rfl
   |some u =>
    have t:b=a:=M b (by rw[q];simp)
    subst t;rw[j]at e;cases e;have xc:Data.seq vs.toArray _=Data.dict es ep:=d;cases xc
  have i:∀{b:OT}{m:CY->Option i'},c.heap.Ns b m->(ic c.heap H).Ns b m:=λ{b m} ⟨o,es,ep,e,d,r⟩=>⟨o,es,ep,A e (ya e d),d,r⟩;have E:K.In (ic c.heap H):=λb o e=>A (G b o e) (by
   cases q:H b with
   |none=>rfl
   |some u =>
    have t:b=a:=M b (by rw[q];simp)
    subst t;rw[zb (by rw[q];simp)]at e;cases e)
  have yc:Mod K mg (ic c.heap H):=⟨E,i C,⟨l,i f,W⟩,let ⟨zc,h1,U⟩:=Q;⟨zc,i h1,U⟩⟩;have xd:jH P w K mg (ic c.heap H) callerA [] c H:=⟨rfl,yc,λb o e=>GG e,VA (EF _ _),trivial,λb f=>absurd (show b∈([]:am OT) from f) (by simp),D,.of_eq za⟩
  refine m7 ((F _ E (i C)).run callerA [] c H ⟨[.ref a],[]⟩ [.ref a] [.ref a] _ _ xb xd (O c (.ref a)) (.cons rfl .nil) (X H L yb)) λr s' h=>?_;cases r with
  |error e=>exact(xa H e s' h).elim
  |ok yd =>
   cases yd with
   |next=>exact SF h
   |brk=>exact SF h
   |cont=>exact SF h
   |ret u =>
    obtain⟨v,Y,os,S,un,T,zd,q⟩:=h;have xe:v=.bl true:=q;subst xe;obtain rfl:u=S' true:=zd;refine⟨rfl,OldK.of_keep λb o e=>?_,os,S⟩;cases q:H b with
    |none=>exact un.keep b o e q (by intro z;exact absurd (show b∈([]:am OT) from z) (by simp)) (by simp)
    |some u =>
     rcases L b with z|⟨ye,xs,z⟩
     ·rw[q]at z;cases z
     ·have z2:=un.i5 b ye _ z
      obtain⟨N,_⟩:=D b _ z;obtain⟨ze,_⟩:=T b _ z2;rw[e]at N;cases N;exact ze
 cases y:K.lookup a with
 |some o =>
  have e:=G a o y;rw[j]at e;cases e
  refine B (λ_=>none) (λ_=>.inl rfl) (.inr ⟨_,vs.toArray,_,y,rfl,rfl,rfl,by rw[bL,R];exact I,by simpa using J⟩) (λb u z=>by have g:(none:a2 HO)=ih u:=z;cases g) (λb z=>absurd rfl z) λz=>absurd rfl z
 |none =>
  refine B (λb=>if b=a then ih (.bw { cls:=.type "list",data:=.seq vs.toArray } (.lst (ns.map V.int))) else none) (λb=>?_) (.inl (.inr ⟨{ cls:=.type "list",data:=.seq vs.toArray },aB rfl⟩)) (λb u z=>?_) (λb z=>?_) λ_=>y
  ·by_cases f:b=a
   ·exact .inr ⟨_,_,aB f⟩
   ·exact .inl (au f)
  ·by_cases f:b=a
   ·have g:=(aB f).symm.trans z
    cases g
    subst f;exact⟨j,by rw[aG];exact I,vs,_,J,j⟩
   ·have g:=(au f).symm.trans z
    cases g
  ·by_cases f:b=a
   ·exact f
   ·exact absurd (au f) z
theorem G5{l:PySem.W.OpenLaw}{n k:Nat}{q:SD}{d:DefRec}{K:Wq->O9}{CX:SQ->gE}{sp:SQ->Sp}
  (C:l.most=ih n) (t:n<=OY) (y:d.params.defaults=[]) (D:aY k callerA)
  (E:∀(w:SQ) (h:SN),YP w h->(K w.params).In h)
  (F:∀(w:SQ) (mg:CY->Option i') (c:OT) (h:SN),(K w.params).In h->h.Ns PD mg->mg d.name=ih (.ref c) ->
   ∃fd:Ss,(∀(s:OX) (u:i'),Um s fd ⟨[u],[]⟩ [(x,u)]) /\
    ∀base:SN,(K w.params).In base->base.Ns PD mg->aO l.prog w (K w.params) mg base (CX w) k c fd [x] (sp w))
  (z:∀(w:SQ) (H:Hp) (a:OT) (ns:am Int),ns.length<=n->sP H->aq (K w.params) H a (ns.map V.int)->sp w [.ref a] H (λv _=>v=.bl true) λ_ _ _=>False)
  (A:∀(w:SQ) (H:Hp) (s:OX) (e:i') (s':OX),CX w [] H s (λ_ _ _=>False) e s'->False) :
  PySem.W.WalkO q Qo XP YP l.row.toRowW d [] (λf vs=>UB f vs):=by
 refine BV.DT C y λw P p mg R c o pm S Qc a vs ns G I U X Q B r m i J=>?_;have j:=E w _ I;obtain⟨fd,L,M⟩:=F w mg c _ j G.T.g B;exact FO j G.T.g G.T.b G.T.builtins G.T.nolimit J r m (eS i t) D M L (λH N O=>z w H a ns i N O) λH e s'=>A w H p e s'
def inClass(s:PQ)(j:Nat):PQ:=match s with
 |.ClassDef _ _ _ body _ _ _ _ _ _ _=>body.getD j (.Pass ⟨0,0,0,0⟩)
 |_=>.Pass ⟨0,0,0,0⟩
def df(s:PQ):Arguments:=match s with
 |.FunctionDef _ a _ _ _ _ _ _ _ _=>a
 |_=>{ posonlyargs:=[],args:=[],vararg:=none,kwonlyargs:=[],kw_defaults:=[],kwarg:=none,defaults:=[] }
def bH(s:PQ):List PQ:=match s with
 |.FunctionDef _ _ b _ _ _ _ _ _ _=>b
 |_=>[]
def aI(s:PQ):Tr:=match s with
 |.FunctionDef _ _ _ _ _ _ sc _ _ _=>sc
 |_=>{ kind:=.function,names:=[],isGenerator:=false,isCoroutine:=false }
abbrev ay:gE:=λ_ _ _ _ _ _=>False
abbrev E0:XK:=λ_ _ _=>False
theorem b':Passes ay X E0:=λ_ _ _ _ _ _ _ h=>h.elim
structure aP(K:O9)(x qual:CY)(st:PQ)(f:OT)(fd:Ss):Prop where
 ex:∃(oc:i') (od:Option OT) (kV Qc pm:i') (an:Option OT) (Qa ct:i') (Qm:Array (Option i')),
  fd=SI x qual (df st) (bH st) (aI st) .none kV Qc pm an Qa ct/\K.lookup f=ih ⟨oc,od,.func fd,Qm⟩/\Tn K Qa qual=true
 kp:SW K (.ref f)=true
theorem aP.ok{k:Nat}(F:aP K x qual st f fd)(S:a' N ps (aI st))(c:∀vs H Q E,sp vs H Q E->vs.length=ps.length)
  (b:∀(Qa:i') (A:SV) (a:am T9) (s:OX) (H:Hp) (vs:am V) (Q:VK) (E:XK),aY k (A.deeper (envOfC qual (aI st) s.ao f Qa))->sp vs H Q E ->
   ∃t,eI (gZ ay P w K mg base N qual (aI st) f Qa A a s H E).iw (bH st) t/\t { nx:=λ_ Y=>Q .aM Y,rt:=Q } (start N vs) H):aO P w K mg base ay (k+1) f fd ps sp:=by
 obtain⟨oc,od,kV,Qc,pm,an,Qa,ct,Qm,rfl,lk,d⟩:=F.ex;refine AK lk d S c λA a s H vs Q E g e=>?_;obtain⟨t,h,q⟩:=b Qa A a s H vs Q E g e;exact⟨t,h.iw,q⟩
theorem aP.binds(F:aP K x qual st f fd)
  (h:∀(kV Qc pm:i') (an:a2 OT) (Qa ct:i') (us:am i'),us.length=ps.length->bindArgs (SI x qual (df st) (bH st) (aI st) .none kV Qc pm an Qa ct) ⟨us,[]⟩=pure (ps.zip us)):Binds K fd ps []:=by
 obtain⟨oc,od,kV,Qc,pm,an,Qa,ct,Qm,rfl,lk,a⟩:=F.ex;exact .all (h kV Qc pm an Qa ct)
theorem Am{kV:i'}(l:K.lookup f=ih ⟨oc,od,.func (SI x qual (df st) (bH st) (aI st) .none kV Qc pm an Qa ct),Qm⟩)
  (c:Tn K Qa qual=true) (k:SW K (.ref f)=true):aP K x qual st f (SI x qual (df st) (bH st) (aI st) .none kV Qc pm an Qa ct):=⟨⟨oc,od,kV,Qc,pm,an,Qa,ct,Qm,rfl,l,c⟩,k⟩
theorem pv(i:Nat)(b:X.N[i]?=ih x:=by rfl)(hv:tx X.env.scope x:=by first|exact Vj rfl|exact S5 (Vj rfl)|exact S5 (S5 rfl))(c:(x==("__debug__" : CY))=false:=by decide)
  (a:(x==("__classdict__" : CY))=false:=by decide):PE X (.Name x pos) (ie i):=Ic b hv c a
theorem cm{c A:Prop} [Decidable c](h1:c->A)(U : ¬ c->B):if c then A else B:=by
 by_cases h:c
 ·rw[aB h]
  exact h1 h
 ·rw[au h]
  exact U h
def aE(H Y:Hp):Prop:= ∀b o,H b=ih o->Y b=ih o
theorem aE.refl(H:Hp):aE H H:=λ_ _ h=>h
theorem aE.trans(a:aE H O)(b:aE O H2):aE H H2:=λc o h=>b c o (a c o h)
theorem aE.free(e:aE H Y)(h:Y l=U9):H l=U9:=by
 cases q:H l with
 |none=>rfl
 |some o =>
  rw[e l o q]at h;cases h
end L2
namespace L2
theorem Paired.Bg{α β:Type}{F G:α->β->Prop}{l:am α}{m:am β}(h:Sl F l m):(∀a b,b∈m->F a b->G a b)->Sl G l m:=by
 induction h with
 |nil=>exact λ_=>.nil
 |cons p _ c=>exact λk=>.cons (k _ _ aS p) (c λa b e=>k a b (a8 _ e))
end L2
namespace L2
open Spec PyProof.Rows
def d6(cells:List (CY×OT)):List (CY×SS)->List (CY×OT)->List (CY×OT)
 |[],cA=>cA
 |(n,k)::r,cA=>if k == .free then d6 cells r ((n,(cells.lookup n).getD 0)::cA) else d6 cells r cA
theorem qA(h:∀n,(n,Pu)∈scope.names ->∃c,env.cells.lookup n=ih c) :
  closureFor scope env=pure (d6 env.cells scope.names []):=by
 have p:∀(b:am (CY×SS)) (d:am (CY×OT)),(∀n,(n,Pu)∈b ->∃c,env.cells.lookup n=ih c) ->
   (forIn (m:=Ua) b d λx r=>match x with|(name,f)=>if (f==Pu)=true then (do let a <- cellOf env name;pure (Sr ((name,a)::r))) else pure (Sr r))=pure (d6 env.cells b d):=by
  intro b
  induction b with
  |nil=>intro d _;rfl
  |cons x r j =>
   intro d g;obtain⟨n,k⟩:=x;rw[UU];unfold d6
   by_cases l:k=.free
   ·subst l
    obtain⟨c,o⟩:=g n aS;simp only[CF,gs];have e:cellOf env n=pure c:=by unfold cellOf;rw[o]
    rw[e,o];exact j _ λm i=>g m (a8 _ i)
   ·have q:(k==Pu)=false:=by simpa using l
    simp only[q,ng,gr];exact j _ λm i=>g m (a8 _ i)
 unfold closureFor;have:=p scope.names [] h;show((forIn (m:=Ua) scope.names [] λx r=>match x with|(name,f)=>if (f==Pu)=true then (do let a <- cellOf env name;pure (Sr ((name,a)::r))) else pure (Sr r)) >>= λcs=>pure cs)=_;rw[this]
 rfl
theorem j6:∀(b:am (CY×SS)) (n:Nat) (a:am (CY×OT)),cellsFrom n b a=cellsFrom n b []++a
 |[],_,_=>rfl
 |(name,c)::r,n,a=>by
  unfold cellsFrom;split
  ·rw[j6 r (n+1) ((name,n)::a),j6 r (n+1) [(name,n)],ni];rfl
  ·exact j6 r n a
theorem nL{cells:am (CY×OT)}:∀(d:am (CY×SS)) (a:am (CY×OT)) (x:CY) (c:OT),(d6 cells d a).lookup x=ih c ->
  (a.lookup x=ih c)\/((x,Pu)∈d/\c=(cells.lookup x).getD 0)
 |[],a,x,c,h=>.inl h
 |(n,k)::r,a,x,c,h=>by
  unfold d6 at h;split at h
  ·rename_i g
   have f:k=.free:=by simpa using g
   subst f;rcases nL r _ x c h with z|⟨z,e⟩
   ·rw[ef]at z
    cases b:x==n with
    |true=>rw[b]at z;cases z;rw[iI.mp b];exact .inr ⟨aS,rfl⟩
    |false=>rw[b]at z;exact .inl z
   ·exact .inr ⟨a8 _ z,e⟩
  ·rcases nL r _ x c h with z|⟨z,e⟩
   ·exact .inl z
   ·exact .inr ⟨a8 _ z,e⟩
theorem qU{cells:am (CY×OT)}:∀(b:am (CY×SS)) (a:am (CY×OT)) (x:CY),(∃c,a.lookup x=ih c) ->∃c,(d6 cells b a).lookup x=ih c
 |[],a,x,h=>h
 |(n,k)::r,a,x,h=>by
  unfold d6;split
  ·refine qU r _ x ?_
   obtain⟨c,h⟩:=h;rw[ef];cases d:x==n with
   |true=>exact⟨_,rfl⟩
   |false=>exact⟨c,h⟩
  ·exact qU r _ x h
theorem nS{cells:am (CY×OT)}:∀(b:am (CY×SS)) (a:am (CY×OT)) (x:CY),(x,Pu)∈b ->∃c,(d6 cells b a).lookup x=ih c
 |[],a,x,h=>by simp at h
 |(n,k)::r,a,x,h=>by
  unfold d6;rcases bu.mp h with e|h
  ·cases e
   simp only[CF,gs];exact qU r _ _ ⟨(cells.lookup n).getD 0,by rw[ef];simp⟩
  ·split
   ·exact nS r _ x h
   ·exact nS r _ x h
theorem nK:∀(b:am (CY×SS)) (n:Nat) (a:am (CY×OT)) (x:CY) (c:OT),(x,c)∈cellsFrom n b a->(x,c)∈a\/(x,So)∈b
 |[],_,_,_,_,h=>.inl h
 |(name,d)::r,n,a,x,c,h=>by
  unfold cellsFrom at h;split at h
  ·rename_i g
   have f:d=.cell:=by simpa using g
   subst f;rcases nK r _ _ x c h with z|z
   ·rcases bu.mp z with e|z
    ·cases e;exact .inr aS
    ·exact .inl z
   ·exact .inr (a8 _ z)
  ·rcases nK r _ _ x c h with z|z
   ·exact .inl z
   ·exact .inr (a8 _ z)
structure bW(N:List CY)(BW:Tr)(N':List CY)(Qd:List (Option Nat))(sc:Tr):Prop where
 kind:sc.kind=.function
 keys:(sc.names.map (·.1)).Nodup
 nd:N'.Nodup
 len:Qd.length=N'.length
 fv:∀(j i:Nat),Qd[j]?=ih (ih i) ->∃x,N[i]?=ih x/\N'[j]?=ih x/\sc.names.lookup x=ih .free
 free:∀p∈sc.names,p.2=.free->BW.names.lookup p.1=ih .cell\/BW.names.lookup p.1=ih .free
theorem j7{α:Type}:∀{l:am (CY×α)},(l.map (·.1)).Nodup ->∀{x:CY}{k:α},(x,k)∈l->l.lookup x=ih k
 |(n,v)::r,a,x,k,h=>by
  obtain⟨h1,U⟩:=dQ.mp a;rw[ef];rcases bu.mp h with e|hm
  ·cases e;simp
  ·have:(x==n)=false:=by
    rw[iD];intro e;exact h1 (aW.mpr ⟨_,hm,e⟩)
   rw[this];exact j7 U hm
def vR(scope:Tr)(L:OT)(env:T9):T9:=
 { scope:=relabel scope env,locals:=L,globals:=env.globals,cells:=cellsFrom (L+1) scope.names (d6 env.cells scope.names []),qual:=env.qual,func:=none,code:=env.code,frame:=env.frame,builtins:=env.builtins }
theorem DU{M:Vi}{globals:OT}{d:am (CY×OT)}{Q:T9->OX->Prop}
  (h:∀h',h'.Ns s.ao (λ_=>none)->(∀b o,s.heap.get? b=ih o->h'.get? b=ih o)->(∀x c,(x,c)∈cellsFrom (s.ao+1) scope.names []->h'.IsCell c none/\s.ao<c) ->
   ((cellsFrom (s.ao+1) scope.names []).Pairwise λx y=>x.2≠y.2) ->
   Q { scope:=scope,locals:=s.ao,globals:=globals,cells:=cellsFrom (s.ao+1) scope.names d,qual:=qual,func:=none,code:=env.code,frame:=env.frame,builtins:=env.builtins } { s with heap:=h' }) :
  OZ M A (newFunctionEnv scope globals d [] qual none .none (ih env)) Q E s:=by
 simp only[newFunctionEnv,Pd,gs];refine ab (wpAny_alloc ?_);refine ab (wpAny_layCells _ (λname f cells=>by cases g:f==So <;> simp[g]) _ _ _ _ ?_)
 have ok:=cellsFrom_ok scope.names (s.heap.push { cls:=.type "dict",data:=.dict #[] }) (s.ao+1) [] ⟨λ_ _ a=>(nomatch a),TJ⟩ (by rw[gM];exact aK _)
 rw[gM]at ok;rw[show({ s with heap:=s.heap.push { cls:=.type "dict",data:=.dict #[] } }:OX).heap.objs.size=s.ao+1 from gM ..];rw[List.forIn_nil];refine ab (ai (ai ?_));exact h _ ((Heap.Ns.new s.heap (.type "dict")).keeps (pushCells_keeps _ _)) (λb o e=>pushCells_keeps _ _ b o (aZ _ e)) (λx c a=>⟨(ok.empty x c a).1,(ok.empty x c a).2⟩) ok.apart
def cc(X:Cx)(N':List CY)(scope:Tr)(s2:OX)(H2:Hp)(fp:List OT):Cx:=
 { X with N:=N',ew:=s2,jF:=H2,env:=vR scope s2.ao X.env,outer:=X.stack,stack:=X.stack,ex:=fp,fn:=λx=>scope.names.lookup x==ih .cell,pn:=[],xe:=λ_ _=>False }
theorem qz{env:T9}:∀{d:am (CY×SS)}{x:CY}{k:SS},
  (d.map λ(n,k)=>if (k==Pu&&env.scope.kind == .function&&env.kindOf n==ih .cell) then (n,So) else (n,k)).lookup x=ih k ->
  ∃a,d.lookup x=ih a/\(k=a\/(a=.free/\k=.cell))
 |[],_,_,h=>by simp at h
 |(n,a)::r,x,k,h=>by
  have e:=@qz env r x k;have h':Sv x ((if (a==Pu&&env.scope.kind == .function&&env.kindOf n==ih .cell)=true then (n,So) else (n,a))::_)=ih k:=h;rw[ef]
  by_cases c:(a==Pu&&env.scope.kind == .function&&env.kindOf n==ih .cell)=true
  ·rw[aB c,ef]at h'
   cases b:x==n with
   |true =>
    rw[b]at h';cases h';have:a=.free:=by
     have z:=c;rw[jj,jj]at z
     simpa using z.1.1
    exact⟨a,rfl,.inr ⟨this,rfl⟩⟩
   |false=>rw[b]at h';exact e h'
  ·rw[au c,ef]at h'
   cases b:x==n with
   |true=>rw[b]at h';cases h';exact⟨a,rfl,.inl rfl⟩
   |false=>rw[b]at h';exact e h'
theorem qx{env:T9}:∀{d:am (CY×SS)}{x:CY},d.lookup x=ih .free ->
  (d.map λ(n,k)=>if (k==Pu&&env.scope.kind == .function&&env.kindOf n==ih .cell) then (n,So) else (n,k)).lookup x=ih .cell \/
  (d.map λ(n,k)=>if (k==Pu&&env.scope.kind == .function&&env.kindOf n==ih .cell) then (n,So) else (n,k)).lookup x=ih .free
 |[],_,h=>by simp at h
 |(n,b)::r,x,h=>by
  have e:=@qx env r x;show Sv x ((if (b==Pu&&env.scope.kind == .function&&env.kindOf n==ih .cell)=true then (n,So) else (n,b))::_)=_\/Sv x ((if (b==Pu&&env.scope.kind == .function&&env.kindOf n==ih .cell)=true then (n,So) else (n,b))::_)=_;rw[ef]at h;cases a:x==n with
  |true =>
   rw[a]at h;cases h
   by_cases c:(Pu==Pu&&env.scope.kind == .function&&env.kindOf n==ih .cell)=true
   ·rw[aB c,ef,a];exact .inl rfl
   ·rw[au c,ef,a];exact .inr rfl
  |false =>
   rw[a]at h
   by_cases c:(b==Pu&&env.scope.kind == .function&&env.kindOf n==ih .cell)=true
   ·rw[aB c,ef,a];exact e h
   ·rw[au c,ef,a];exact e h
def pick(Qd:List (Option Nat))(σ:St):St:=Qd.map λo=>o.bind λi=>(σ[i]?).join
theorem nT(I:Inv X J σ H s2)(S:bW X.N X.env.scope N' Qd scope)(a:(x,Pu)∈scope.names):∃c,X.env.cells.lookup x=ih c:=
 I.ok.has x (S.free _ a rfl)
theorem Ef(I:Inv X J σ H s2)(S:bW X.N X.env.scope N' Qd scope){n:Nat}{c:OT}(h:(cellsFrom n scope.names (d6 X.env.cells scope.names [])).lookup x=ih c) :
  ((x,c)∈cellsFrom n scope.names []/\(x,So)∈scope.names)\/((x,Pu)∈scope.names/\X.env.cells.lookup x=ih c):=by
 rw[j6,CG]at h;cases e:(cellsFrom n scope.names []).lookup x with
 |some d =>
  rw[e]at h;have z:d=c:=by simpa using h
  subst z;have m:=iJ e;rcases nK _ _ _ _ _ m with z|z
  ·simp at z
  ·exact .inl ⟨m,z⟩
 |none =>
  rw[e]at h;have h':(d6 X.env.cells scope.names []).lookup x=ih c:=by simpa using h
  rcases nL _ _ _ _ h' with z|⟨z,a⟩
  ·simp at z
  ·obtain⟨f,b⟩:=nT I S z
   rw[b]at a;exact .inr ⟨z,by rw[b,a];rfl⟩
theorem FQ(I:Inv X J σ H s2)(S:bW X.N X.env.scope N' Qd scope)(B:∀b∈fp,fc X J H b)(Y:∀b∈fp,∃o,s2.heap.get? b=ih o)
  (xc:h'.Ns s2.ao (λ_=>none)) (D:∀b o,s2.heap.get? b=ih o->h'.get? b=ih o)
  (h:∀x c,(x,c)∈cellsFrom (s2.ao+1) scope.names []->h'.IsCell c none/\s2.ao<c) (E:(cellsFrom (s2.ao+1) scope.names []).Pairwise λx y=>x.2≠y.2) :
  Inv (cc X N' scope s2 H fp) [] (pick Qd σ) H { s2 with heap:=h' }:=by
 have K:∀{x:CY}{c:OT},X.env.cells.lookup x=ih c->c<s2.ao:=λ{x c} e=>let ⟨_,q⟩:=I.cell x c e;q.lt;have l:∀{x:CY}{c:OT},(cc X N' scope s2 H fp).env.cells.lookup x=ih c->((x,c)∈cellsFrom (s2.ao+1) scope.names []/\(x,So)∈scope.names)\/((x,Pu)∈scope.names/\X.env.cells.lookup x=ih c):=
  λ{x c} e=>Ef I S e
 have xa:∀{x:CY}{c:OT},(cc X N' scope s2 H fp).env.cells.lookup x=ih c ->∃v,h'.IsCell c v:=λ{x c} e=>by
  rcases l e with⟨m,_⟩|⟨_,yc⟩
  ·exact⟨_,(h x c m).1⟩
  ·obtain⟨v,q⟩:=I.cell x c yc
   exact⟨v,q.keeps D⟩
 have L:∀b∈fp,b<s2.ao:=λb a=>let ⟨_,e⟩:=Y b a;br e;refine⟨⟨I.ok.mod,S.kind,I.ok.glob,I.ok.blt,aK _,λx y c F G=>?_,λx hx=>?_,λx c hx e=>?_,I.ok.hd,I.ok.frames,.inl rfl,λb a=>⟨bG (L b a),λx c e z=>?_⟩,I.bs,?_,λb o e a=>?_,λb a ya=>?_,I.stack,I.wL⟩,
  rfl,I.bare,Un.kept D,⟨_,xc,λj x v F G yf=>?_⟩,λx c e=>xa e,I.aJ.fresh (aK _),λx c e=>?_,λp E=>absurd (show p∈([]:am (OT×Tp)) from E) (by simp),I.aJ.kept D,?_⟩
 ·rcases l F with⟨P,_⟩|⟨_,s⟩ <;> rcases l G with⟨Q,_⟩|⟨_,R⟩
  ·exact name_of_addr E P Q
  ·exact absurd (lq (h _ _ P).2 (K R)) (hC _)
  ·exact absurd (lq (h _ _ Q).2 (K s)) (hC _)
  ·exact I.ok.inj x y c s R
 ·have za:∃f,scope.names.lookup x=ih f/\(f=.cell\/f=.free):=by
   rcases hx with hx|hx
   ·obtain⟨f,e,z⟩:=qz (env:=X.env) hx
    refine⟨f,e,?_⟩;rcases z with z|z
    ·exact .inl z.symm
    ·exact .inr z.1
   ·obtain⟨f,e,z⟩:=qz (env:=X.env) hx
    refine⟨f,e,?_⟩;rcases z with z|z
    ·exact .inr z.symm
    ·exact .inr z.1
  obtain⟨f,e,z⟩:=za;show ∃c,(cellsFrom (s2.ao+1) scope.names (d6 X.env.cells scope.names [])).lookup x=ih c;rw[j6,CG];rcases z with rfl|rfl
  ·obtain⟨c,g⟩:=q1 (n:=s2.ao+1) e
   exact⟨c,by rw[g];rfl⟩
  ·cases q:(cellsFrom (s2.ao+1) scope.names []).lookup x with
   |some d=>exact⟨d,rfl⟩
   |none =>
    obtain⟨c,g⟩:=nS (cells:=X.env.cells) scope.names [] x (iJ e);exact⟨c,by rw[g];rfl⟩
 ·have M:scope.names.lookup x=ih .cell:=by simpa [cc] using hx
  rcases l e with⟨m,_⟩|⟨m,_⟩
  ·exact qb (h _ _ m).2
  ·rw[j7 S.keys m]at M;cases M
 ·rcases l e with⟨m,_⟩|⟨_,s⟩
  ·have:=L b a
   rw[<-z]at this;exact absurd (lq (h _ _ m).2 this) (hC _)
  ·exact(B b a).2.2.2.2.1 x c s z
 ·exact eS I.ok.ja I.sz
 ·rcases (B b a).2.2.2.1 with z|z
  ·exact I.ok.mG b o e z
  ·exact absurd (e4 (br (I.ok.bs b o e).1) z) (hC _)
 ·have:=I.rY b ya
  rcases bu.mp this with z|z
  ·exact(B b a).2.1 z
  ·exact(B b a).2.2.1 z
 ·
  have t:(Qd[j]?).bind (λo=>ih (o.bind λi=>(σ[i]?).join))=ih (ih v):=by
   have w:(Qd.map λo=>o.bind λi=>(σ[i]?).join)[j]?=ih (ih v):=G;rw[dt]at w;cases q:Qd[j]? with
   |none=>rw[q]at w;cases w
   |some o=>rw[q]at w;exact w
  cases q:Qd[j]? with
  |none=>rw[q]at t;cases t
  |some o =>
   rw[q]at t;cases o with
   |none=>simp at t
   |some i =>
    have C:(σ[i]?).join=ih v:=by simpa using t
    have zc:σ[i]?=ih (ih v):=by
     cases T:σ[i]? with
     |none=>rw[T]at C;cases C
     |some z=>rw[T]at C;rw[show z=ih v from C]
    obtain⟨y,xb,yb,A⟩:=S.fv j i q;have zb:x=y:=by
     have O:N'[j]?=ih x:=F;rw[yb]at O;exact(c3 O).symm
    subst zb;obtain⟨m,zf,xd⟩:=I.loc;have U:=S.free _ (iJ A) rfl;obtain⟨u,r,lk⟩:=xd i x v xb zc (by rcases U with z|z;exact .inr (.inl z);exact .inr (.inr z))
    refine⟨u,r,.inr ⟨qx A,?_⟩⟩;rcases lk with⟨k,_⟩|⟨_,c,yd,zd⟩
    ·have V:X.env.scope.names.lookup x=ih .local:=k
     rcases U with z|z <;> (rw[z]at V;cases V)
    ·refine⟨c,?_,zd.keeps D⟩
     show(cellsFrom (s2.ao+1) scope.names (d6 X.env.cells scope.names [])).lookup x=ih c;rw[j6,CG];cases xe:(cellsFrom (s2.ao+1) scope.names []).lookup x with
     |some d =>
      rcases nK _ _ _ _ _ (iJ xe) with z|z
      ·simp at z
      ·rw[j7 S.keys z]at A;cases A
     |none =>
      obtain⟨xg,g⟩:=nS (cells:=X.env.cells) scope.names [] x (iJ A);rcases nL _ _ _ _ g with z|⟨_,W⟩
      ·simp at z
      ·rw[yd]at W
       rw[g,W];rfl
 ·rcases l e with⟨m,_⟩|⟨_,s⟩
  ·exact I.aJ.fresh (qb (h _ _ m).2)
  ·exact I.gf x c s
 ·show(Qd.map _).length=N'.length
  rw[aG,S.len]
def ij(X:Cx)(Qe:List Si)(t:TT):Prop:=
 ∀J s σ H (Q:Bool->Hp->Prop),Inv X J σ H s->t σ H Q ->
  wA X (forIn Qe true λc r=>if r=true then do let ok <- isTrue c X.env (eval c X.env);pure (Sr ok) else pure (Sr r)) (TP X J σ Q) X.xe s
def mz:TT:=λ_ H Q=>Q true H
theorem d5:ij X [] mz:=λ_ _ _ H _ I h=>wpAny_tests_nil ⟨H,I,h⟩
theorem iU{t:TT}(h:PT X c t):ij X [c] t:=λJ s σ H Q I a=>wpAny_tests_one (h J s σ H Q I a)
structure jo(e tg iter:Si)(Qe:List Si)(Qf:i'->T9->Ua Unit):Prop where
 cl:clausesOf e=[⟨tg,iter,Qe,0⟩]
 turn:∀it cA env,compTurn e 0 it cA env=(do
   standAt iter.pos
   match <- pyNext it with
   |none=>pure (.done .next)
   |some v =>
    letOwnedTupleGo tg it v
    assign tg env v
    let mut ok:=true
    for c in Qe do
     if ok then ok <- isTrue c env (eval c env)
    if ok then Qf cA env
    again (.compLoop e 0 it cA env))
 loop:∀(prog:SD) (w:SQ) (A:SV) it cA env,A.under (.compLoop e 0 it cA env)=A/\(Pb prog w).den (.compLoop e 0 it cA env)=(compTurn e 0 it cA env).onRaise (λx=>do noteFrame x env;theTreesLotGoes x)
 begin_:∀(prog:SD) (w:SQ) (A:SV) it cA env,A.under (.compStart e 0 it cA env)=A/\(Pb prog w).den (.compStart e 0 it cA env)=(compStart e 0 it cA env).onRaise (λx=>do noteFrame x env;standAt theWindowsPlace)
theorem Dx{R:Ug->OX->Prop}{Qf:i'->T9->Ua Unit}{it a:i'}(F:jo e tg iter Qe Qf)(I:Nat->OX->Prop)
  (i:∀n s,I n s->OZ (Pb prog w) A (pyNext it) (λr b=>match r with
   |none=>R (.ok .next) b
   |some v=>OZ (Pb prog w) A (letOwnedTupleGo tg it v) (λ_ s2=>OZ (Pb prog w) A (assign tg env v) (λ_ f =>
     OZ (Pb prog w) A (forIn Qe true λc r=>if r=true then do let ok <- isTrue c env (eval c env);pure (Sr ok) else pure (Sr r)) (λok d =>
      if ok=true then OZ (Pb prog w) A (Qf a env) (λ_ j=>∃m,m<n/\I m j) (λ_ _=>False) d
      else ∃m,m<n/\I m d) (λ_ _=>False) f) (λ_ _=>False) s2) (λ_ _=>False) b) (λ_ _=>False) s)
  (n:Nat) (h:I n s) :
  codeAny (Pb prog w) A (.compLoop e 0 it a env) R s:=by
 refine codeAny_loop rfl I (λn s k=>?_) n h;rw[(F.loop prog w A it a env).1,(F.loop prog w A it a env).2];refine wpAny_noted (wpAny_noRaise ?_);rw[F.turn];refine ab (lb (ab (aF (i n s k) λr b h1=>?_)));cases r with
 |none=>exact ai h1
 |some v =>
  refine ab (aF h1 λ_ s2 U=>ab (aF U λ_ f l=>ab (aF l λok d g=>?_)));cases ok with
  |false=>exact ai ⟨rfl,g⟩
  |true=>exact ab (aF g λx p o=>ai ⟨rfl,o⟩)
theorem Dw{R:Ug->OX->Prop}{Qf:i'->T9->Ua Unit}{it a:i'}(F:jo e tg iter Qe Qf)
  (c:codeAny (Pb prog w) A (.compLoop e 0 it a env) R s)
  (h:OZ (Pb prog w) A (pyIter it) (λb s'=>codeAny (Pb prog w) A (.compLoop e 0 b a env) R s')
   (notedBy (Pb prog w) A env λx s'=>R (.error x) s') s) :
  codeAny (Pb prog w) A (.compStart e 0 it a env) R s:=by
 refine CH ?_;rw[(F.begin_ prog w A it a env).1,(F.begin_ prog w A it a env).2];refine wpAny_notedAt ?_;unfold compStart;rw[F.cl];show OZ _ _ (ask >>= _) _ _ s;refine ab (hH (wpAny_ite ?_));split
 ·first
   |exact ab (ai (ai (TU rfl c)))
   |exact ai (TU rfl c)
 ·first
   |exact ab (iG (ab (lb (ab (iF h (λb s' h'=>ai (TU rfl h')) λ_ _ x=>x)))))
   |(refine ab (iG ?_);show OZ _ _ (standAt iter.pos >>= _) _ _ s;exact ab (lb (ab (iF h (λb s' h'=>ai (TU rfl h')) λ_ _ x=>x))))
def Iu{ι:Type}(J9:It)(g:TG)(ti:TT)(Qk:ι->OT->St->Hp->(ι->Hp->Prop)->Prop)(y0:ι)(d0:St)(Q:VK)(p:OT)(O:Hp):Prop:=
 ∃W:Nat->Nat->ι->St->Hp->Prop,(∃m,W 0 m y0 d0 O) /\∀i m y τ H2,W i m y τ H2 ->
  ((J9.stop i H2/\Q (.ref p) H2)\/(J9.go i H2 /\∀x H3,J9.ix i H2 x H3->g x τ H3 λfk H4=>ti fk H4 λb H5 =>
   if b=true then Qk y p fk H5 λy' H6=>∃m',m'<m/\W (i+1) m' y' fk H6
   else ∃m',m'<m/\W (i+1) m' y fk H5))
def Bh{ι:Type}(X:Cx)(Qf:i'->T9->Ua Unit)(Qk:ι->OT->St->Hp->(ι->Hp->Prop)->Prop):Prop:=
 ∀J s σ H (p:OT) (y:ι) (Q:ι->Hp->Prop),Inv X J σ H s->Qk y p σ H Q->wA X (Qf (.ref p) X.env) (λ_ s'=>∃y' Y,Inv X J σ Y s'/\Q y' Y) X.xe s
structure mh(X:Cx)(Iv:Ua i')(start:OT->HO):Prop where
 run:∀J s σ H (E:i'->OX->Prop) (Q:i'->OX->Prop),Inv X J σ H s ->
  (∀s',Inv X J σ (upd H s.ao (start s.ao)) s'->(∀b o,s.heap.get? b=ih o->s'.heap.get? b=ih o)->Q (.ref s.ao) s')->wA X Iv Q E s
def vS(Ql:Si)(cA:i')(env:T9):Ua Unit:=do
 let v <- eval Ql env
 let _ <- call (.builtin "list.append") [cA,v]
theorem ER:jo (.ListComp Ql [⟨tg,iter,Qe,0⟩] scope pos) tg iter Qe (vS Ql):=⟨rfl,λ_ _ _=>rfl,λ_ _ _ _ _ _=>⟨rfl,rfl⟩,λ_ _ _ _ _ _=>⟨rfl,rfl⟩⟩
theorem FR:mh X (newList []) (λ_=>.lst []):=⟨λJ s σ H E Q I h=>ed (h _ (I.Bf (its:=[]) (t':=s.toks) .nil (bp _)) λb o e=>aZ _ e)⟩
def Iw(te:TE)(ys:List V)(p:OT)(σ:St)(H:Hp)(Q:List V->Hp->Prop):Prop:=te σ H λy H6=>H6 p=ih (.lst ys)/\ys.length<OY/\Q (ys++[y]) (upd H6 p (.lst (ys++[y])))
theorem G6(j:PE X Ql te):Bh X (vS Ql) (Iw te):=λJ s σ H p ys Q I h=>by
 refine ab (aF (j J s σ H _ I h) λy d n=>?_);obtain⟨z,a,e,f,b,c,k⟩:=n;refine ab (aF (iR _ d σ a (.ref p) [z] (.ref p) [y] (λ_ Y=>Y=upd a p (.lst (ys++[z]))) e rfl (.cons f .nil) ⟨_,_,_,rfl,rfl,b,c,rfl⟩) λ_ l n=>?_);obtain⟨_,m,g,_,i⟩:=n;subst i;exact ai ⟨_,_,g,k⟩
def gg(J9:It)(g:TG)(ti:TT)(te:TE)(d0:St)(Q:VK)(p:OT)(O:Hp):Prop:=
 ∃W:Nat->Nat->List V->St->Hp->Prop,(∃m,W 0 m [] d0 (upd O p (.lst []))) /\∀i m ys τ H2,W i m ys τ H2->H2 p=ih (.lst ys) /\
  ((J9.stop i H2/\Q (.ref p) H2)\/(J9.go i H2 /\∀x H3,J9.ix i H2 x H3->g x τ H3 λfk H4=>ti fk H4 λb H5 =>
   if b=true then te fk H5 λy H6=>H6 p=ih (.lst ys)/\ys.length<OY /\∃m',m'<m/\W (i+1) m' (ys++[y]) fk (upd H6 p (.lst (ys++[y])))
   else ∃m',m'<m/\W (i+1) m' ys fk H5))
def AL(wi:TI)(Qd:List (Option Nat))(g:TG)(ti:TT)(te:TE):TE:=λσ H Q=>wi σ H λJ9 O=>∀p,O p=none->gg J9 g ti te (pick Qd σ) Q p O
section
def CompEnd(X:Cx)(J:List (OT×Tp))(σ:St)(Q:VK)(cA:i')(C:OT)(s':OX):Prop:=
 ∃(p:OT) (Y:Hp),cA=.ref p/\Inv X J σ Y s'/\fc X J Y C/\(∃m,s'.heap.Ns C m)/\Q (.ref p) Y
variable{Qf:i'->T9->Ua Unit}
theorem uR{D:Type}{y0:D}{temI:D->OT->St->Hp->(D->Hp->Prop)->Prop}{zd:It}{g:TG}{xb:Ua i'}{start:OT->HO}(F:jo e tg iter Qe Qf)(xe:X.calm=true)(S:bW X.N X.env.scope N' Qd scope)
  (ye:Inv X J σ H2 s2) (T:Turn X.prog X.w X.K tg zd fp it tn) (st:tn 0 s2.heap) (ze:∀b∈fp,fc X J H2 b) (zh:mh X xb start)
  (a:∀s H fp,PG (cc X N' scope s H fp) tg g/\ij (cc X N' scope s H fp) Qe ti/\Bh (cc X N' scope s H fp) Qf temI)
  (xl:∀p,H2 p=none->Iu zd g ti temI y0 (pick Qd σ) Q p (upd H2 p (start p))) (yl:∀v C s',CompEnd X J σ Q v C s'->RR v C (.ok .next) s') :
  wA X xb (λv f=>wA X (newFunctionEnv scope X.env.globals (d6 X.env.cells scope.names []) [] X.env.qual none .none (ih X.env)) (λyb zl =>
   codeAny X.eb X.A (.compStart e 0 (.ref it) v { yb with scope:=relabel scope X.env }) (RR v yb.locals) zl) E f) E s2:=by
 refine zh.run J s2 σ H2 E _ ye λf G xi=>?_;have I:=xl s2.ao ye.fresh;generalize xm:upd H2 s2.ao (start s2.ao)=h at G I;have zi:∀b∈fp,b<s2.ao:=λb a=>let ⟨_,e,_⟩:=T.obj _ _ st b a;br e;have xc:tn 0 f.heap:=T.keep _ _ _ st λb _ o e=>xi b o e;have l:∀b∈fp,fc X J h b:=λb a=>⟨by rw[<-xm,ag (bG (zi b a))];exact(ze b a).1,(ze b a).2⟩
 have xj:∀b∈fp,∃o,f.heap.get? b=ih o:=λb a=>let ⟨o,e,_⟩:=T.obj _ _ xc b a;⟨o,e⟩;refine DU λR U xf yj zj=>?_;have L:Inv (cc X N' scope f h fp) [] (pick Qd σ) h { f with heap:=R }:=FQ G S l xj U xf yj zj;have yc:tn 0 ({ f with heap:=R }:OX).heap:=T.keep _ _ _ xc λb _ o e=>xf b o e;obtain⟨ym,zm,xn⟩:=a f h fp;obtain⟨W,⟨yn,zn⟩,yi⟩:=I;have O:∀{Y:Hp},(∀b∈fp,Y b=none) ->∀b∈fp,fc (cc X N' scope f h fp) [] Y b:=λU b a =>
  ⟨U b a,(L.ok.pV b a).1,L.ok.mH b a,.inl a,λx c e=>(L.ok.pV b a).2 x c e,λp I=>absurd (show p∈([]:am (OT×Tp)) from I) (by simp)⟩
 have zb:codeAny X.eb X.A (.compLoop e 0 (.ref it) (.ref s2.ao) (vR scope f.ao X.env))
   (RR (.ref s2.ao) f.ao) { f with heap:=R }:=by
  refine Dx F (λn s'=>∃i y j Y,Inv (cc X N' scope f h fp) [] j Y s'/\tn i s'.heap/\(∀b∈fp,Y b=none)/\W i n y j Y) ?_ yn ⟨0,_,_,h,L,yc,λb a=>(l b a).1,zn⟩;rintro n yf ⟨i,y,j,M,zf,zc,xd,V⟩;have V:=yi i n y j M V;rcases V with⟨stop,xo⟩|⟨go,step⟩
  ·refine aF (T.done (cc X N' scope f h fp) rfl rfl rfl xe i [] yf j M _ zf (O xd) zc stop) λr xg ⟨xa,q⟩=>?_
   subst xa;refine yl _ _ _ ⟨_,M,rfl,?_,?_,?_,xo⟩
   ·exact G.I4 (s':=xg) (ch:=fp) q.os q.base q.aJ q.bare λb a=>⟨(l b a).2.2.2.1,(l b a).2.1,(l b a).2.2.2.2.1,(l b a).2.2.2.2.2⟩
   ·exact G.ig (aK _) q.free
   ·obtain⟨m,k,_⟩:=q.loc
    exact⟨m,k⟩
  ·refine aF (T.item (cc X N' scope f h fp) rfl rfl rfl xe i [] yf j M _ zf (O xd) zc go) λr xg aa=>?_;obtain⟨u,xa,yo⟩:=aa
   subst xa;refine aF yo λ_ yg aa=>?_;obtain⟨x,zg,zo,xp,y7,P,xk⟩:=aa;have yk:=zo.pinned (O xk) (T.obj _ _ P);refine aF (ym _ yg j zg x u _ yk xp (step x zg y7)) λ_ yp aa=>?_;obtain⟨yd,zp,xq,yq⟩:=aa;refine aF (zm _ yp yd zp _ xq yq) λb zq aa=>?_;obtain⟨xr,xh,yh⟩:=aa;have again:∀{ya:D}{B:St}{Y:Hp}{s':OX}{t:Nat},Inv (cc X N' scope f h fp) ([]++ma fp yg.heap) B Y s'->t<n->W (i+1) t ya B Y ->
     ∃m,m<n /\∃i y j Y,Inv (cc X N' scope f h fp) [] j Y s'/\tn i s'.heap/\(∀b∈fp,Y b=none)/\W i m y j Y:=λ{ya B Y s' t} za k z=>by
    refine⟨t,k,i+1,ya,B,Y,za.nY,T.keep _ _ _ P λb a o e=>(za.pin (b,o) (ee _ (ee _ (nP a e)))).1,λb a=>?_,z⟩;obtain⟨o,e,d⟩:=T.obj _ _ P b a;exact(za.pin (b,o) (ee _ (ee _ (nP a e)))).2.1
   cases b with
   |false =>
    obtain⟨t,k,z⟩:=yh;exact again xh k z
   |true=>exact aF (xn _ zq yd xr _ y _ xh yh) λ_ yr ⟨zr,xt,zk,t,k,z⟩=>again zk k z
 exact Dw F zb (T.self X.A 0 _ _ _ yc zb)
theorem vh{e:It}{g:TG}(f:X.calm=true)(S:bW X.N X.env.scope N' Qd scope)
  (h:Inv X J σ H2 s2) (T:Turn X.prog X.w X.K tg e fp it tn) (st:tn 0 s2.heap) (j:∀b∈fp,fc X J H2 b)
  (c:∀s H fp,PG (cc X N' scope s H fp) tg g/\ij (cc X N' scope s H fp) Qe ti/\PE (cc X N' scope s H fp) Ql te)
  (k:∀p,H2 p=none->gg e g ti te (pick Qd σ) Q p H2) (l:∀a C s',CompEnd X J σ Q a C s'->RR a C (.ok .next) s') :
  wA X (newList []) (λa n=>wA X (newFunctionEnv scope X.env.globals (d6 X.env.cells scope.names []) [] X.env.qual none .none (ih X.env)) (λd o =>
   codeAny X.eb X.A (.compStart (.ListComp Ql [⟨tg,iter,Qe,0⟩] scope pos) 0 (.ref it) a { d with scope:=relabel scope X.env }) (RR a d.locals) o) E n) E s2:=by
 refine uR (y0:=[]) ER f S h T st j FR (λs H fp=>⟨(c s H fp).1,(c s H fp).2.1,G6 (c s H fp).2.2⟩) (λp q=>?_) l;obtain⟨W,r,st⟩:=k p q;exact⟨W,r,λi m ys t H w=>(st i m ys t H w).2⟩
theorem dg{wi:TI}{g:TG}(i:X.calm=true)(S:bW X.N X.env.scope N' Qd scope)(hi:PI X tg iter wi)
  (a:∀s H fp,PG (cc X N' scope s H fp) tg g/\ij (cc X N' scope s H fp) Qe ti/\PE (cc X N' scope s H fp) Ql te)
  (j:∀x,foldedSetIterable iter X.env x=pure x:=by intro _;rfl):PE X (.ListComp Ql [⟨tg,iter,Qe,0⟩] scope pos) (AL wi Qd g ti te):=by
 intro J s σ H Q I h;rw[eval_ListComp];refine CI (use:=none) rfl j (qA λn k=>nT I S k) S.kind (λx l r=>j7 S.keys (by rw[<-r];exact l)) ?_
 refine aF (hi J s σ H _ I h) λv D h1=>aF h1 λB s2 U=>?_;obtain⟨it,fp,tn,E,H2,e,t,T,d,u,w⟩:=U;subst e;refine vh (RR:=λc C=>compPost X.eb X.A X.xe none (EP X J σ Q) c C) i S t T d u a w ?_;rintro c C s' ⟨p,Y,rfl,y,fC,⟨m,z⟩,q⟩;refine⟨m,z,λh' f=>⟨.ref p,Y,?_,rfl,q⟩⟩;exact y.turned (it:=C) (t':=s'.toks) (λb o a e=>(f.2 b a).trans e) fC.1 fC.2.1 fC.2.2.2.1 fC.2.2.2.2.1 fC.2.2.2.2.2
theorem nQ{wi:TI}{g:TG}{j:VU}(E:X.calm=true)(S:bW X.N X.env.scope N' Qd scope)(F:X.N.Nodup)(d:X.N[i]?=ih x)(c:X.env.scope.names.lookup x=ih .local)(hi:PI X tg iter wi)
  (f:∀s H fp,PG (cc X N' scope s H fp) tg g/\ij (cc X N' scope s H fp) Qe ti/\PE (cc X N' scope s H fp) Ql te)
  (l:swapsWith (.ListComp Ql [⟨tg,iter,Qe,0⟩] scope pos) (ih (.Name x Qg)) j.line X.env=pure true:=by rfl)
  (G:∀x,foldedSetIterable iter X.env x=pure x:=by intro _;rfl):PS X (.Assign [.Name x Qg] (.ListComp Ql [⟨tg,iter,Qe,0⟩] scope pos) j) (oS (AL wi Qd g ti te) (gW i)):=by
 intro J s σ H D I h;rw[exec_Assign_Name_used _ _ _ _ l];refine ab (lb (ab ?_));show OZ _ X.A (do let _ <- comprehension (.ListComp Ql [⟨tg,iter,Qe,0⟩] scope pos) scope X.env _ (newList []) false (eval iter X.env) (ih (assign (.Name x Qg) X.env))) _ _ s;refine ab (aF (CI (use:=ih (assign (.Name x Qg) X.env)) (Q:=λ_ s'=>SP X J D .next s') rfl G (qA λn K=>nT I S K) S.kind (λx d c=>j7 S.keys (by rw[<-c];exact d)) ?_) λ_ s' L=>ai (ai L))
 refine aF (hi J s σ H _ I h) λv xa h1=>aF h1 λW s2 U=>?_;obtain⟨it,fp,tn,ya,H2,e,M,T,r,O,P⟩:=U;subst e;refine vh (Q:=λv Y=>D.nx (σ.set i (ih v)) Y) (RR:=λk C=>compPost X.eb X.A X.xe (ih (assign (.Name x Qg) X.env)) (λ_ s'=>SP X J D .next s') k C) E S M T r O f P ?_;rintro k C s' ⟨p,Y,rfl,R,fC,⟨m,V⟩,q⟩;show wA X (assign (.Name x Qg) X.env (.ref p)) _ _ s';refine wpAny_assign_Name (u7 (v:=.ref p) R F d (.inl c) rfl (λt u aa=>?_) (.inr c));obtain⟨a,w,ha⟩:=aa;have y:C≠a:=by
  rcases ha with ha|ha
  ·rw[ha];exact fC.2.1
  ·exact λz=>fC.2.2.2.2.1 _ _ ha z.symm
 refine⟨m,V.sameBut w y,λh' B=>⟨_,Y,?_,q⟩⟩;exact u.turned (it:=C) (t':=t.toks) (λb o f e=>(B.2 b f).trans e) fC.1 fC.2.1 fC.2.2.2.1 fC.2.2.2.2.1 fC.2.2.2.2.2
end
end L2
namespace L2
open Spec PyProof.Rows W Builtin.ObjectAttr
abbrev BX:List i':=[.type "ValueError",.type "Exception",.type "BaseException",.type "object"]
def P5(K:S7)(C:OT)(i:Option i'):Bool:=
  match K.lookup C with
  |some ⟨.type "type",_,.cls cls,slots⟩ =>
    (match cls.mro with
     |.ref C'::up=>C'==C&&((slots.toList.length==6&&slots.toList[4]? == ih (ih (.builtin "ValueError.__new__")))&&(!cls.hasDel&&(tailIn K BX up&&(nsOkIn K cls.ns&&nsIn K cls.ns "__init__" == ih i))))
     |_=>false)
  |_=>false
def AM:List i'->Bool
 |.ref _::r=>AM r
 |l=>l==BX
structure mJ(K:S7)(C:OT):Prop where
 ga:TM K (.ref C) "__getattribute__" = ih (ih (.builtin "BaseException.__getattribute__"))
 gh:TM K (.ref C) "__getattr__" = ih none
 sa:TM K (.ref C) "__setattr__" = ih (ih (.builtin "object.__setattr__"))
 hd:hasDictIn K C=true
 ov:((clsIn K C).any λcd=>AM cd.mro)=true
 be:mroIn K C (.type "BaseException")=ih true
 ve:mroIn K C (.type "ValueError")=ih true
 ob:mroIn K C (.type "object")=ih true
 ka:TM K (.ref C) "__class__" = ih (ih (.builtin "object.__class__"))
 kn:specialIn K (.builtin "object.__class__") "__get__" = ih (ih (.builtin "getset_descriptor.__get__"))
 kt:takesIn K (.builtin "object.__class__")=ih true
section
variable{x:OT}{ox:Tp}{od:a2 Tp}
theorem ES{fill a:Bool}{Q:i'->OX->Prop}(X:K.In s.heap)(I:InstAt s.heap x ox C od)(c:mJ K C)
  (h:OZ (Pb prog w) A.in1 (SA.«object.__getattribute__» ⟨[.ref x,.str name tk],[]⟩) (λb s'=>match b with|.done (.ret v)=>OZ (Pb prog w) A (handedOut v) Q E s'|_=>False) (λ_ _=>False) s) :
  OZ (Pb prog w) A (getAttrBy (.ref x) (.str name tk) fill a) Q E s:=by
 have g:=I.type (M:=Pb prog w);have i:=looks_findIn (M:=Pb prog w) X c.ga;have L2:=looks_findIn (M:=Pb prog w) X c.gh;have sub:Looks (Pb prog w) s.heap (isInstance (.ref x) (.type "BaseException")) true:=I.type.andThen (looks_mroIn X c.be);have e:(Td "BaseException.__getattribute__" == Td "object.__getattribute__")=false:=by decide +kernel
 have f:(onTheHeap (Pk C)&&Td "BaseException.__getattribute__" == Td "object.__getattribute__")=false:=by rw[e];rfl
 have j:builtinKind "BaseException.__getattribute__" = ih .slot:=by decide +kernel
 have d:splitId "BaseException.__getattribute__" = ih ("BaseException","__getattribute__"):=by decide +kernel
 unfold getAttrBy;refine dO (ab (g.here (ab (i.here ?_))))
 dsimp only
 rw[f];show OZ _ _ (getAttrByItsOwn _ _ _ _ _ _) _ _ _;unfold getAttrByItsOwn hookBefore;refine ab ?_;rw[aB (show onTheHeap (Pk C)=true from rfl)];refine L2.here (ab (lr (dO ?_)));unfold callGetattribute;rw[au (show ¬ (a&&onTheHeap (Td "BaseException.__getattribute__"))=true by cases a <;> decide)]
 unfold boundAndCalled;rw[Pe.ga.bind];refine ab (ai (qe (codeAny_call_builtin Pe.ga.plain PySem.F.entry_bexc_ga (@check_slot (Pb prog w) _ _ s "BaseException.__getattribute__" "BaseException" "__getattribute__" (.ref x) [.str name tk] [] _ j d sub (PySem.F.args_bexc_ga _ _) ?_))));refine iF h (λb s' z=>?_) λ_ _ z=>z.elim;rcases b with(_|_|_|_)|_ <;> first|exact z|exact z.elim
theorem ET{Q:a2 i'->OX->Prop}(X:K.In s.heap)(I:InstAt s.heap x ox C od)(c:mJ K C)(h:Q (ih (.ref C)) { s with toks:=s.toks+1 }):OZ (Pb prog w) A (getAttr? (.ref x) "__class__") Q E s:=by
 have a:findObj K C od "__class__" = ih (.bind (.builtin "getset_descriptor.__get__") (.builtin "object.__class__")):=by
  obtain⟨f,b,_⟩:=any_some c.hd;unfold findObj;rw[b,t2,c.ka,t2]
  dsimp only
  rw[c.kn,t2]
  dsimp only
  rw[c.kt,t2]
 unfold getAttr? getAttrBy?;refine ab (wpAny_mkText (ab (lr ?_)));have d:=I.type (M:=Pb prog w);have e:=looks_find (M:=Pb prog w) X I a;refine ES (s:={ s with toks:=s.toks+1 }) X I c ?_;refine ab (ai (ab (ai (ab (VB (s:={ s with toks:=s.toks+1 }) d (ab (VB (s:={ s with toks:=s.toks+1 }) e ?_)))))));show OZ _ _ (holding [.builtin "object.__class__"] (call (.builtin "getset_descriptor.__get__") [.builtin "object.__class__",.ref x,.ref C]) >>= ret) _ _ _;refine ab (dO (qe (class_get (s:={ s with toks:=s.toks+1 }) (ox:=ox) (od:=od) X I c.ob ?_)));exact ai (handed_on rfl (ai h))
theorem Eg{M:Vi}(X:K.In h)(c:mJ K C):Looks M h (isType (.ref C)) true:=by
 obtain⟨d,a,_⟩:=any_some c.hd;unfold clsIn at a;split at a
 next b =>
  intro e f g s' k q;exact ab (wpAny_loadPart (part:=ih headPart) (k _ _ (X _ _ b)) (ai q))
 next=>cases a
theorem vT(c:mJ K C):KitX K (.ref x) (.ref C) (λh=>InstAt h x ox C od) where
 ty:=λ_ _ _ I=>I.type
 it:=λ_ _ X _=>Eg X c
 ne:=λh tp _ _ _ _ X tup=>by
  obtain⟨d,a,_⟩:=any_some c.hd;cases q:(Pk C == .ref tp) with
  |false=>rfl
  |true =>
   have e:C=tp:=WV (iI.mp q);unfold clsIn at a;split at a
   next b =>
    have two:=(X _ _ b).symm;rw[e,tup]at two;cases two
   next=>cases a
 ca:=λX I k=>ET X I c k
end
def Bi(C:OT)(dx:Option OT)(a:OT):HO:=.ext λh=>∃t,h.get? a=ih { cls:=.ref C,dict:=dx,data:=.fields #[.ref t,.none,.none,.none,.bool false,.none] }
def Bj(d:OT)(fs:List (CY×V)):HO:=.ext λh=>fs.length<=100 /\∃mA,h.Ns1 d mA/\(∀f,dZ (fs.lookup f) (mA f))/\TF mA (fs.map (·.1))
section
variable{dx:a2 OT}{fs:am (CY×V)}{f:CY}
theorem Inv.excAt(I:Inv X J σ H s)(e:H a=ih (Bi C dx a)):∃t,s.heap.get? a=ih { cls:=.ref C,dict:=dx,data:=.fields #[.ref t,.none,.none,.none,.bool false,.none] }:=(I.aJ a _ e).1
theorem Inv.Ha(I:Inv X J σ H s)(e:H d=ih (Bj d fs)):fs.length<=100 /\∃mA,s.heap.Ns1 d mA/\(∀f,dZ (fs.lookup f) (mA f))/\TF mA (fs.map (·.1)):=(I.aJ d _ e).1
end
end L2
namespace L2
open Spec PyProof.Rows W
mutual
inductive Rep(H:Hp):V->O7->Prop where
 |aM:Rep H .aM .none
 |bl (b:Bool):Rep H (.bl b) (.bool b)
 |int (i:Int):Rep H (.int i) (.int i)
 |str (x:CY):Rep H (.str x) (.str x)
 |lst {a:OT}{xs:List V}{ds:List O7}:H a=ih (.lst xs)->bI H xs ds->Rep H (.ref a) (.list ds)
 |tup {a:OT}{xs:List V}{ds:List O7}:H a=ih (.tup xs)->bI H xs ds->Rep H (.ref a) (.tuple ds)
inductive bI(H:Hp):List V->List O7->Prop where
 |nil:bI H [] []
 |cons {x:V}{d:O7}{xs:List V}{ds:List O7}:Rep H x d->bI H xs ds->bI H (x::xs) (d::ds)
end
section
mutual
theorem Rep.reads(I:Inv X J σ H s):∀{v:V}{d:O7}{u:i'},Rep H v d->RelV v u ->∃f,Reads s.heap u d f
 |_,_,_,.aM,r=>by cases r;exact⟨_,.none⟩
 |_,_,_,.bl b,r=>by cases r;exact⟨_,.bool b⟩
 |_,_,_,.int i,r=>by obtain⟨t,rfl⟩:=r;exact⟨_,.int i t⟩
 |_,_,_,.str x,r=>by obtain⟨t,rfl⟩:=r;exact⟨_,.str x t⟩
 |_,_,_,.lst (a:=a) (xs:=xs) e rs,r=>by
  cases r
  obtain⟨_,its,n,g,c⟩:=(show bO X.prog X.w H s.heap a (.lst xs) from I.aJ a _ e);obtain⟨f,h⟩:=bI.reads I rs g;exact⟨_,.list c rfl rfl h⟩
 |_,_,_,.tup (a:=a) (xs:=xs) e rs,r=>by
  cases r
  obtain⟨_,its,g,l,c,j,n,k,_⟩:=(show bO X.prog X.w H s.heap a (.tup xs) from I.aJ a _ e);obtain⟨f,h⟩:=bI.reads I rs g;exact⟨_,.tuple c j k h⟩
theorem bI.reads(I:Inv X J σ H s):∀{vs:am V}{ds:am O7}{us:am i'},bI H vs ds->Vals vs us ->∃a,ReadsAll s.heap us ds a
 |_,_,_,.nil,r=>by cases r;exact⟨_,.nil⟩
 |_,_,_,.cons r rs,b=>by
  cases b with
  |cons q c =>
   obtain⟨a,h1⟩:=Rep.reads I r q;obtain⟨bs,U⟩:=bI.reads I rs c;exact⟨_,.cons h1 U⟩
end
mutual
theorem Rep.same:∀{v:V}{d:O7},Rep H v d->aE H Y->Rep Y v d
 |_,_,.aM,_=>.aM
 |_,_,.bl b,_=>.bl b
 |_,_,.int i,_=>.int i
 |_,_,.str x,_=>.str x
 |_,_,.lst e rs,k=>.lst (k _ _ e) (bI.same rs k)
 |_,_,.tup e rs,k=>.tup (k _ _ e) (bI.same rs k)
theorem bI.same:∀{vs:am V}{ds:am O7},bI H vs ds->aE H Y->bI Y vs ds
 |_,_,.nil,_=>.nil
 |_,_,.cons r rs,k=>.cons (Rep.same r k) (bI.same rs k)
end
end
def Bl:R2:=λx y H Q=>∃da db,Rep H x da/\Rep H y db/\da.canLay0=true/\db.canLay0=true/\da.depth<=60/\Q (.bl (S9 da db)) H
def Bm:R2:=λx y H Q=>∃da db,Rep H x da/\Rep H y db/\da.canLay0=true/\db.canLay0=true/\da.depth<=60/\Q (.bl (!S9 da db)) H
theorem An(g:X.A.units+64<Tq):bU X (P4 .Eq) Bl:=by
 rintro J s σ H x y v u Q I a b ⟨i,j,c,d,e,f,k,q⟩;obtain⟨l,h1⟩:=c.reads I a;obtain⟨bs,U⟩:=d.reads I b;exact SeqAt.compareEq_reads h1 U e f (by omega) ⟨.bl _,H,I,rfl,q⟩
theorem r3(g:X.A.units+64<Tq):bU X (P4 .NotEq) Bm:=by
 rintro J s σ H x y v u Q I a b ⟨i,j,c,d,e,f,k,q⟩;obtain⟨l,h1⟩:=c.reads I a;obtain⟨bs,U⟩:=d.reads I b;exact SeqAt.compareNe_reads h1 U e f (by omega) ⟨.bl _,H,I,rfl,q⟩
def KR(tG:Bool):R2:=λx y H Q=>∃d ds,Rep H x d/\(Rep H y (.list ds)\/Rep H y (.tuple ds))/\d.canLay0=true/\SK ds=true/\d.depth<=60 /\
 Q (.bl (if tG then !(ds.any λy=>S9 y d) else ds.any λy=>S9 y d)) H
theorem Iy(g:X.A.units+64<Tq):bU X (P4 .In) (KR false):=by
 rintro J s σ H x y v u Q I e a ⟨d,ds,f,r2,b,c,i,q⟩;obtain⟨j,h1⟩:=f.reads I e;rcases r2 with r2|r2
 ·obtain⟨bs,U⟩:=r2.reads I a
  exact SeqAt.in_list_reads U h1 c b (by omega) ⟨.bl _,H,I,rfl,q⟩
 ·obtain⟨bs,U⟩:=r2.reads I a
  exact SeqAt.in_tuple_reads U h1 c b (by omega) ⟨.bl _,H,I,rfl,q⟩
end L2
namespace L2
open Spec PyProof.Rows W
section
variable{o:Si}{f:CY}
def Bn(K:S7):List V->Hp->VK->Prop:=λxs H Q=>∃x c t cv b,xs=[x,c]/\RelV c cv/\(fK K H x t \/∃a C dx,x=.ref a/\t=.ref C/\H a=ih (Bi C dx a)/\mJ K C/\(∀d,dx=ih d ->∃fs,H d=ih (Bj d fs)))/\kitOne K t cv=ih b/\Q (.bl b) H
theorem hW:cT X (.builtin "isinstance") (λxs H Q=>(∃x,(∃C,xs=[x,.ref C])\/(∃T,xs=[x,.ty T]))/\Bn X.K xs H Q):=by
 rintro J s σ H xs us Q I r ⟨o,x,c,t,p,b,rfl,j,ty,e,q⟩;obtain⟨u,v,rfl,k,g⟩:=r.two;have l:v=p:=by
  obtain⟨B,⟨C,z⟩|⟨T,z⟩⟩:=o
  ·cases z;cases j;cases g;rfl
  ·cases z;cases j;cases g;rfl
 subst l;rcases ty with ty|⟨a,C,dx,rfl,rfl,w,c,y⟩
 ·exact EL I k ty e λtk=>⟨.bl b,H,I.tok _,rfl,q⟩
 ·cases k
  obtain⟨t,i⟩:=I.excAt w;cases dx with
  |none =>
   have f:InstAt s.heap a _ C none:=⟨i,rfl,rfl,SG⟩;exact kia_one (vT c) I.cV f e (λz=>nomatch z) λtk=>⟨.bl b,H,I.tok _,rfl,q⟩
  |some d =>
   obtain⟨fs,A⟩:=y d rfl;obtain⟨_,mA,n,_⟩:=I.Ha A;obtain⟨od,m,_⟩:=u' n;have f:InstAt s.heap a _ C (ih od):=⟨i,rfl,rfl,m⟩;exact kia_one (vT c) I.cV f e (λz=>nomatch z) λtk=>⟨.bl b,H,I.tok _,rfl,q⟩
end
def mY(K:S7)(l:OT):It:=
 ⟨λi H=>∃xs x,aq K H l xs/\xs[i]?=ih x,λi H x Y=>∃t v,H t=none/\x=.ref t/\(∀xs,aq K H l xs->xs[i]?=ih v)/\Y=upd H t (.tup [.int i,v]),λi H=>∃xs,aq K H l xs/\xs.length<=i⟩
theorem EU(l e it:OT)(R:e≠it) :
  Turn P w K (.Tuple Qp n1 tp) (mY K l) [e,it] e (λi h=>(∃f,IsEnum h e it i f)/\h.IsListIter it l i) where
 mem:=by simp
 obj:=λi h st b a=>by
  obtain⟨⟨f,h1⟩,U⟩:=st;rcases bu.mp a with z|z
  ·subst z;exact⟨_,h1,λv q=>by cases q⟩
  ·have A:b=it:=by simpa using z
   subst A;obtain⟨o,q,_,d⟩:=U;exact⟨o,q,λv z=>by rw[d]at z;cases z⟩
 keep:=λi h h' st k=>by
  obtain⟨⟨f,h1⟩,U⟩:=st;exact⟨⟨f,k e (by simp) _ h1⟩,U.at λo q=>k it (by simp) o q⟩
 item:=by
  intro X F G L hc i J s σ H E I B st M;subst F G L;obtain⟨xs,x,C,N⟩:=M;obtain⟨its,O,p,T⟩:=I.list C;obtain⟨u,V,W⟩:=O.get N;obtain⟨⟨f,h1⟩,U⟩:=st;have j:=B e (by simp)
  have fi:=B it (by simp)
  refine wpAny_pyNext_enum_item h1 U p.isList (x:=u) (by simpa using V) R λh' Y xa ya z1 za=>⟨_,rfl,?_⟩
  refine wpAny_letOwnedTupleGo_enum (s:={ s with heap:=h',toks:=s.toks+1 }) Y λD xb Q=>?_;have S:e≠s.heap.objs.size:=bG (br h1);have t:∀b o,b≠e->b≠it->s.heap.get? b=ih o->D.get? b=ih o:=λb o n1 yb q=>(Q.2 b n1).trans (za b o n1 yb q);have zb:D.get? s.heap.objs.size=ih { cls:=.type "tuple",data:=.seq #[.int i s.toks,u] }:=(Q.2 _ (aN S)).trans ya;have y:H s.heap.objs.size=none:=I.aJ.fresh (aK _);have lt:∀b o,s.heap.get? b=ih o->b≠s.heap.objs.size:=λb o q=>bG (br q);have gm:∀b o,H b=ih o->b≠e/\b≠it:=λb o q=>⟨(λz=>by rw[z,j.1]at q;cases q),(λz=>by rw[z,fi.1]at q;cases q)⟩
  have g:∀b,b ∉ [e,it]->b≠e/\b≠it:=λb a=>⟨λz=>a (by simp[z]),λz=>a (by simp[z])⟩
  have xc:Inv X J σ (upd H s.heap.objs.size (.tup [.int i,x])) { s with heap:=D,toks:=s.toks+1 }:=by
   refine I.step (g':=s.gens) (d':=s.drawn) (t':=s.toks+1) (ch:=[e,it]) (λb a=>?_) (λb o _ _ hc q _=>t b o (g b hc).1 (g b hc).2 q) (λb o _ _ hc q _=>⟨o.slots,t b o (g b hc).1 (g b hc).2 q⟩)
    (λb o _ q n=>by rw[ag (lt b o q)];exact n) (λb o hc q=>⟨o,t b o (g b hc).1 (g b hc).2 q⟩) (λb ys q=>by rw[ag (ax q y)];exact q) (λb o v q=>by rw[ag (ax q y)];exact q)
    (λb ps q=>⟨#[],by rw[ag (ax q y),q];simp⟩) (λm yc=>?_) (λb o q=>?_) I.bare
   ·rcases bu.mp a with z|z
    ·subst z;exact⟨j.2.2.2.1,j.2.1,j.2.2.2.2.1,j.2.2.2.2.2⟩
    ·have A:b=it:=by simpa using z
     subst A;exact⟨fi.2.2.2.1,fi.2.1,fi.2.2.2.2.1,fi.2.2.2.2.2⟩
   ·obtain⟨o,es,ep,zc,r⟩:=yc
    exact⟨o,es,ep,t _ o (aN j.2.1) (aN fi.2.1) zc,r⟩
   ·by_cases a:b=s.heap.objs.size
    ·subst a
     rw[af]at q;cases q;exact⟨by rw[aQ];show 2<=_;decide,[.int i s.toks,u],.cons ⟨_,rfl⟩ (.cons W .nil),_,zb,rfl,_,rfl,rfl⟩
    ·rw[ag a]at q
     refine(I.aJ b o q).gi (λc v hc z=>?_) (λc z=>by rw[ag (ax z y)];exact z) λc ys z=>by rw[ag (ax z y)];exact z
     rcases hc with hc|hc
     ·subst hc;exact t _ v (gm _ _ q).1 (gm _ _ q).2 z
     ·exact t c v (gm _ _ hc).1 (gm _ _ hc).2 z
  refine⟨.ref s.heap.objs.size,_,xc,rfl,⟨s.heap.objs.size,x,y,rfl,λys xd=>by rw[I.vN xd C];exact N,rfl⟩,⟨⟨u,xb⟩,?_⟩,λb a=>?_⟩
  ·exact xa.extBut Q.extBut (aN R)
  ·have:b≠s.heap.objs.size:=by
    rcases bu.mp a with z|z
    ·rw[z];exact S
    ·have A:b=it:=by simpa using z
     obtain⟨o,q,_⟩:=U;rw[A];exact lt _ _ q
   rw[ag this];exact(B b a).1
 done:=by
  intro X F G L hc i J s σ H E I B st M;subst F G L;obtain⟨xs,C,N⟩:=M;obtain⟨its,O,p,T⟩:=I.list C;obtain⟨⟨f,h1⟩,U⟩:=st;have fi:=B it (by simp)
  have zd:=O.length;exact wpAny_pyNext_enum_end (I.ok.hd hc) h1 U p.isList (by simp;omega) λh' yd=>⟨rfl,I.turned (t':=s.toks) (λb o a q=>yd b o a q) fi.1 fi.2.1 fi.2.2.2.1 fi.2.2.2.2.1 fi.2.2.2.2.2⟩
 self:=λ_ _ _ _ _ st h=>let ⟨⟨_,h1⟩,_⟩:=st;wpAny_pyIter_enum h1 h
def Jl(K:S7)(ta:TA):TI:=λσ H R=>ta σ H λvs O=>∃a,vs=[.ref a]/\(∃xs,aq K O a xs)/\R (mY K a) O
theorem Hb{a:Si}{ta:TA}{p:VU}(g:Gl X "enumerate")(i:X.mg "enumerate" = none)(j:PA X [a] ta)(k:Sh [a] X.env=[(false,eval a X.env)]:=by rfl) :
  PI X (.Tuple Qp n1 tp) (.Call (.Name "enumerate" p) [a] [] pos) (Jl X.K ta):=by
 intro J s σ H R I h;refine Call_ (l' I g i (show PX "enumerate" = ih (.type "enumerate") by decide +kernel) (Cm (aF (j pos J s σ H _ I h) λus c E=>?_) k rfl));obtain⟨vs,O,d,m,n⟩:=E
 obtain⟨l,e,⟨xs,o⟩,q⟩:=n;subst e;obtain⟨u,rfl,r⟩:=m.one;cases r
 obtain⟨its,B,t,C⟩:=d.list o;refine call_enumerate_list t.isList λh' f v D w=>?_;have x:Inv X J σ O { c with heap:=h' }:=d.kept (t':=c.toks) w;refine wpAny_pyIter_enum (s:={ c with heap:=h' }) f ?_;refine⟨c.ao+1,[c.ao+1,c.ao],_,_,O,rfl,x,EU l (c.ao+1) c.ao (Nat.succ_ne_self _),⟨⟨.none,f⟩,v⟩,λb y=>?_,q⟩;rcases bu.mp y with z|z
 ·subst z;exact d.ig (gq _) (d.aJ.fresh (gq _))
 ·have A:b=c.ao:=by simpa using z
  subst A;exact d.ig (aK _) (d.aJ.fresh (aK _))
theorem nR:∀{ys:am CY}{us:am i'},Vals (ys.map V.str) us->SR us ys:=by
 intro ys
 induction ys with
 |nil=>intro us r;cases r;exact .nil
 |cons y ys a =>
  intro us r;cases r with
  |cons q b =>
   obtain⟨t,rfl⟩:=q;exact .cons _ _ (a b)
def rJoin(K:S7):V->List V->Hp->VK->Prop:=λx vs H Q=>∃(z:CY) (p:OT) (ys:List CY),x=.str z/\vs=[.ref p]/\(aq K H p (ys.map V.str)\/aU K H p (ys.map V.str))/\(ys.map (·.length)).sum+ys.length * z.length<=1000000/\Q (.str (U7 z ys)) H
theorem Hc:pX X "str.join" (rJoin X.K):=by
 rintro J s σ H x xs v us Q I b c ⟨z,p,ys,rfl,rfl,hp,e,q⟩;obtain⟨t,rfl⟩:=b;obtain⟨u,rfl,d⟩:=c.one;cases d
 rcases hp with hp|hp
 ·obtain⟨its,r,a,_⟩:=I.list hp
  exact join_list a.isList (by simpa using nR r) (by omega) λt' k=>⟨.str _,H,I.tok _,⟨_,rfl⟩,q⟩
 ·obtain⟨its,r,a,_⟩:=I.tuple hp
  exact join_tuple a (by simpa using nR r) (by omega) λt' k=>⟨.str _,H,I.tok _,⟨_,rfl⟩,q⟩
def KS:V->Option Int->Option Int->Hp->VK->Prop:=λx lo hi H Q=>∃z:CY,x=.str z/\z.length<=1000000/\Q (.str (Sw z lo hi)) H
theorem Iz:k3 X KS:=by
 rintro J s σ H x v vl vu lo hi sl Q I e a f d ⟨z,rfl,g,q⟩;obtain⟨t,rfl⟩:=e;have b:(Sw z lo hi).length<=OY:=eS (Txt.slice_le z _ _) (by rw[aQ];omega)
 refine⟨"str",_,PySem.F.slot_str_getitem.lookup,typeIs_str _ _ _,?_⟩;cases f with
 |none =>
  cases d with
  |none=>exact t4 (l:=none) (u:=none) (st:=none) a rfl (t5 ⟨b,λt' k=>⟨.str _,H,I.tok _,⟨_,rfl⟩,q⟩⟩)
  |int j c=>exact t4 (l:=none) (u:=ih (j,c)) (st:=none) a rfl (t5 ⟨b,λt' k=>⟨.str _,H,I.tok _,⟨_,rfl⟩,q⟩⟩)
 |int i ti =>
  cases d with
  |none=>exact t4 (l:=ih (i,ti)) (u:=none) (st:=none) a rfl (t5 ⟨b,λt' k=>⟨.str _,H,I.tok _,⟨_,rfl⟩,q⟩⟩)
  |int j c=>exact t4 (l:=ih (i,ti)) (u:=ih (j,c)) (st:=none) a rfl (t5 ⟨b,λt' k=>⟨.str _,H,I.tok _,⟨_,rfl⟩,q⟩⟩)
def CW(Pv:Nat->List V->St->Hp->Prop)(n i m:Nat)(ys:List V)(τ:St)(H:Hp):Prop:=m=n - i/\i<=n/\Pv i ys τ H
theorem cw_next{Pv:Nat->List V->St->Hp->Prop}{n:Nat}{ys:am V}{a:St}(h:i<n)(p:Pv (i+1) ys a H):∃b,b<n - i/\CW Pv n (i+1) b ys a H:=⟨n - (i+1),by omega,rfl,h,p⟩
theorem uS{n:Nat}{g:TG}(Pv:Nat->List V->St->Hp->Prop)(k:Pv 0 [] d0 (upd O p (.lst [])))(l:∀i ys a H,Pv i ys a H->H p=bm ys)
  (o:∀i ys a H,i<n->Pv i ys a H->g (.int (lo+i)) a H λd q=>ti d q λb h=>if b=true then te d h λy j=>j p=bm ys/\ys.length<OY /\∃c,c<n - i/\CW Pv n (i+1) c (ys++[y]) d (upd j p (.lst (ys++[y]))) else ∃c,c<n - i/\CW Pv n (i+1) c ys d h)
  (r:∀ys a H,Pv n ys a H->Q (.ref p) H):gg (jP lo n) g ti te d0 Q p O:=by
 refine⟨CW Pv n,⟨n,by simp,bp _,k⟩,?_⟩
 rintro i m ys a H ⟨rfl,hi,pv⟩;refine⟨l i ys a H pv,?_⟩
 by_cases f:i<n
 ·refine .inr ⟨f,λx u s=>?_⟩
  obtain⟨t,ex⟩:=s;subst t ex;exact o i ys a _ f pv
 ·have e:i=n:=by omega
  subst e;exact .inl ⟨aK _,r ys a H pv⟩
theorem eK{g:TG}(Pv:Nat->List V->St->Hp->Prop)(n:Pv 0 [] d0 (upd O p (.lst [])))(o:∀i ys c H,Pv i ys c H->H p=bm ys/\aq K H a xs)
  (q:∀i x ys c H,xs[i]?=ih x->Pv i ys c H->g x c H λf r=>ti f r λb j=>if b=true then te f j λy k=>k p=bm ys/\ys.length<OY /\∃d,d<xs.length - i/\CW Pv xs.length (i+1) d (ys++[y]) f (upd k p (.lst (ys++[y]))) else ∃d,d<xs.length - i/\CW Pv xs.length (i+1) d ys f j)
  (s:∀ys c H,Pv xs.length ys c H->Q (.ref p) H):gg (jc K a) g ti te d0 Q p O:=by
 refine⟨CW Pv xs.length,⟨xs.length,by simp,bp _,n⟩,?_⟩
 rintro i m ys c H ⟨rfl,hi,pv⟩;obtain⟨t,h⟩:=o i ys c H pv;refine⟨t,?_⟩
 by_cases l:i<xs.length
 ·refine .inr ⟨⟨xs,xs[i],h,by simp[l]⟩,λx w u=>?_⟩
  obtain⟨v,ex⟩:=u;subst v;exact q i x ys c _ (ex xs h) pv
 ·have e:i=xs.length:=by omega
  subst e;exact .inl ⟨⟨xs,h,aK _⟩,s ys c H pv⟩
theorem lS{g:TG}(Pv:Nat->List V->St->Hp->Prop)(n:Pv 0 [] d0 (upd O p (.lst [])))(o:∀i ys c H,Pv i ys c H->H p=bm ys/\aU K H a xs)
  (q:∀i x ys c H,xs[i]?=ih x->Pv i ys c H->g x c H λf r=>ti f r λb j=>if b=true then te f j λy k=>k p=bm ys/\ys.length<OY /\∃d,d<xs.length - i/\CW Pv xs.length (i+1) d (ys++[y]) f (upd k p (.lst (ys++[y]))) else ∃d,d<xs.length - i/\CW Pv xs.length (i+1) d ys f j)
  (s:∀ys c H,Pv xs.length ys c H->Q (.ref p) H):gg (iy K a) g ti te d0 Q p O:=by
 refine⟨CW Pv xs.length,⟨xs.length,by simp,bp _,n⟩,?_⟩
 rintro i m ys c H ⟨rfl,hi,pv⟩;obtain⟨t,h⟩:=o i ys c H pv;refine⟨t,?_⟩
 by_cases l:i<xs.length
 ·refine .inr ⟨⟨xs,xs[i],h,by simp[l]⟩,λx w u=>?_⟩
  obtain⟨v,ex⟩:=u;subst v;exact q i x ys c _ (ex xs h) pv
 ·have e:i=xs.length:=by omega
  subst e;exact .inl ⟨⟨xs,h,aK _⟩,s ys c H pv⟩
def sQ(N N':List CY)(Qd:List (Option Nat))(sc:Tr):Bool:=(Sj Qd.length).all λj=>match Qd[j]? with
 |some (ih i)=>(match N[i]? with|some x=>N'[j]? == ih x&&sc.names.lookup x==ih .free|none=>false)
 |_=>true
theorem AN(h:sQ N N' Qd sc=true)(j i:Nat)(e:Qd[j]?=ih (ih i)):∃x,N[i]?=ih x/\N'[j]?=ih x/\sc.names.lookup x=ih .free:=by
 have a:j<Qd.length:=(bA.mp e).1;have z:=nj.mp h j (iE.mpr a);rw[e]at z
 dsimp only at z
 split at z
 ·rename_i x q
  obtain⟨b,c⟩:=Bool.and_eq_true_iff.mp z;exact⟨x,q,iI.mp b,iI.mp c⟩
 ·cases z
structure Nm(x:CY):Prop where
 lo:1<=x.length
 hi:x.length<=8
 az:∀c∈x.cps.toList,97<=c/\c<=122
def sign(c:Nat):CY:=⟨#[c]⟩
theorem uT:∀(cs:am Nat) (a:Array Nat),(cs.map sign).foldl (λa p=>a++("" : CY).cps++p.cps) a=a++cs.toArray
 |[],a=>by simp
 |c::cs,a=>by
  rw[b5,List.foldl_cons,uT cs];have e:("" : CY).cps = #[]:=rfl;rw[e]
  apply t6.mp
  simp[sign]
theorem Eh(cs:am Nat):U7 ("" : CY) (cs.map sign)=⟨cs.toArray⟩:=by
 unfold U7 Wy;cases cs with
 |nil=>rfl
 |cons c cs =>
  rw[b5];show(⟨(cs.map sign).foldl _ (sign c).cps⟩:CY)=_;rw[uT]
  apply b2 Str.mk
  apply t6.mp
  simp[sign]
theorem Ei{z:CY}{c:Nat}(h:c∈(Sw z none (ih 6)).cps.toList):c∈z.cps.toList:=by
 unfold Sw at h;split at h
 ·exact h
 ·simp only[p9]at h
  obtain⟨i,_,e⟩:=h;obtain⟨_,a⟩:=CJ.mp e;rw[<-a];simp
theorem uU(z:CY):(Sw z none (ih 6)).length<=6:=by
 have hi:(Tc none (ih 6) 1 z.length).length<=6:=by
  unfold Tc sliceRange;simp only[show(1:Int)>0 by decide,gs,aG,CK]
  split <;> (try split) <;> omega
 unfold Sw;split
 ·rename_i h
  have e:(Tc none (ih 6) 1 z.length).length=z.length:=by simpa using h
  omega
 ·show(List.filterMap _ _).toArray.size<=6
  rw[bL];exact eS (List.length_filterMap_le _ _) hi
theorem mi(a b:CY):(a++b).cps=a.cps++b.cps:=rfl
theorem Hd{z:CY}{c:Nat}(hz:∀c∈z.cps.toList,97<=c/\c<=122)(g:97<=c/\c<=122):Nm (Sw z none (ih 6)++sign c++("q" : CY)):=by
 have a:("q" : CY).cps = #[113]:=by decide +kernel
 have i:=uU z;have e:(Sw z none (ih 6)++sign c++("q" : CY)).length=(Sw z none (ih 6)).length+2:=by
  show(_:Array Nat).size=_;rw[mi,mi,a];show(_ ++ #[c] ++ #[113]).size=_;rw[qh,qh];rfl
 refine⟨by omega,by omega,λd b=>?_⟩
 rw[mi,mi,a]at b;have f:d∈(Sw z none (ih 6)).cps.toList\/d=c\/d=113:=by
  have:d∈((Sw z none (ih 6)).cps ++ #[c] ++ #[113]).toList:=b;simp at this;rcases this with h|h|h
  ·exact .inl (by simpa using h)
  ·exact .inr (.inl h)
  ·exact .inr (.inr h)
 rcases f with h|h|h
 ·exact hz d (Ei h)
 ·rw[h];exact g
 ·rw[h];omega
theorem FT{p:CY}{c d:Nat}(h:p++sign c++("q" : CY)=p++sign d++("q" : CY)):c=d:=by
 have h1:=b2 (λs:CY=>s.cps.toList) h;simp only[mi]at h1;have U:p.cps.toList++([c]++("q" : CY).cps.toList)=p.cps.toList++([d]++("q" : CY).cps.toList):=by
  simpa [sign,Array.toList_append] using h1
 have a:=List.append_cancel_left U
 simpa using a
theorem r4:∀{ys found:am CY},ys.Nodup->found.length<ys.length ->∃y∈ys,y ∉ found
 |[],found,_,h=>by simp at h
 |y::ys,found,c,h=>by
  obtain⟨n1,d⟩:=dQ.mp c
  by_cases a:y∈found
  ·have f:=CL a
   have i:=CM a;obtain⟨z,b,g⟩:=r4 (found:=found.erase y) d (by rw[f];rw[cX]at h;omega)
   refine⟨z,a8 _ b,λq=>g ?_⟩;have ne:z≠y:=λe=>n1 (by rw[<-e];exact b)
   exact(CN ne).mpr q
  ·exact⟨y,aS,a⟩
theorem He(K:S7)(h:X.K=K):bU X (P4 .In) (pY K false):=by subst h;exact j'
theorem Ej(K:S7)(h:X.K=K):bU X (P4 .NotIn) (pY K true):=by subst h;exact DH
theorem qV(K:S7)(h:X.K=K):k4 X (oT K):=by subst h;exact cM
theorem kg(K:S7)(h:X.K=K):k4 X (sO K):=by subst h;exact bN
theorem vi{l:Si}(K:S7)(h:X.K=K)(a:PE X l tl):PI X tg l (AE K tl):=by subst h;exact c9 a
theorem vU{l:Si}(K:S7)(h:X.K=K)(a:PE X l tl):PI X tg l (A9 K tl):=by subst h;exact kD a
theorem uV(K:S7)(h:X.K=K):cT X (.builtin "len") (λxs H Q=>∃p ys,xs=[.ref p]/\(aq K H p ys\/aU K H p ys)/\Q (.int ys.length) H):=by subst h;exact hT
theorem uW(K:S7)(h:X.K=K):cT X (.builtin "isinstance") (λxs H Q=>(∃x,(∃C,xs=[x,.ref C])\/(∃T,xs=[x,.ty T]))/\Bn K xs H Q):=by subst h;exact hW
theorem jq(x:CY)(ys:am CY):k5 (.str x) (ys.map V.str)=decide (x∈ys):=by
 unfold k5;rw[t7]
 induction ys with
 |nil=>simp
 |cons y ys a =>
  rw[jZ,a];show((y==x)||decide (x∈ys))=decide (x∈y::ys)
  by_cases h:y=x
  ·subst h;simp
  ·have h':(y==x)=false:=iD.mpr h
   rw[h',CP];have:x∈y::ys ↔ x∈ys:=by simp[aN h]
   simp[this]
theorem kb(ys:am CY):(ys.map V.str).all ia=true:=by
 rw[nj];intro v hv;obtain⟨y,_,rfl⟩:=aW.mp hv
 rfl
section
variable{R:Ug->OX->Prop}
theorem FU{its:Array i'}(tr:Nat->Bool)(D:A.in1.handled=none)(m:l≠it)(p:g.IsList l its)
  (E:∀i v,its[i]?=ih v ->∃a ws,v=.ref a/\a≠it/\S0 g a ws/\ws.size<=OY/\tr i = !ws.isEmpty):∀(k i:Nat) (s:OX),its.size - i=k->i<=its.size->(∀b o,b≠it->g.get? b=ih o->s.heap.get? b=ih o)->s.heap.IsListIter it l i ->
  (∀h' tk,(∀b o,b≠it->g.get? b=ih o->h'.get? b=ih o)->R (.ok (.ret (.bool (((Sj its.size).drop i).any tr)))) { s with heap:=h',toks:=tk }) ->
  codeAny (Pb P w) A (.builtin "any.loop" ⟨[.ref it],[]⟩) R s:=by
 intro k
 induction k with
 |zero =>
  intro i s G hi kp d c;obtain rfl:i=its.size:=by omega
  refine gN Vd (?_:OZ _ _ _ _ _ _);rw[show A.under (.builtin "any.loop" ⟨[.ref it],[]⟩)=A.in1 from hI t8 _];show OZ _ _ (pyNext (.ref it) >>= _) _ _ s;have f:s.heap.IsList l its:=p.at λo e=>kp l o m e;refine ab (wpAny_pyNext_list_end D d f (by simp) λh' ex=>ab (iG (ai ?_)))
  have:=c h' s.toks λb o n e=>ex b o n (kp b o n e);rw[qi (by simp)]at this
  exact this
 |succ k H =>
  intro i s G hi kp d c;have h:i<its.size:=by omega
  have q:(Sj its.size).drop i=i::(Sj its.size).drop (i+1):=by rw[iK (by simpa using h),List.getElem_range]
  refine gN Vd (?_:OZ _ _ _ _ _ _);rw[show A.under (.builtin "any.loop" ⟨[.ref it],[]⟩)=A.in1 from hI t8 _];show OZ _ _ (pyNext (.ref it) >>= _) _ _ s;have f:s.heap.IsList l its:=p.at λo e=>kp l o m e;have t:its[i]?=ih its[i]:=by simp[h]
  obtain⟨a,ws,I,J,y,K,B⟩:=E i _ t;refine ab (wpAny_pyNext_list_item d f t λh' z L=>?_);have j:∀b o,b≠it->g.get? b=ih o->h'.get? b=ih o:=λb o n e=>L.extBut b o n (kp b o n e);have x:S0 h' a ws:=by
   obtain⟨o,M,r⟩:=y;exact⟨o,j a o J M,r⟩
  rw[I];refine ab (dO (truthy_tuple (s:={ s with heap:=h' }) x (by rw[aQ]at K;omega) (ab (wpAny_letGo ?_))))
  rw[<-B];cases u:tr i with
  |false =>
   refine ai ⟨iL t8 _,H (i+1) _ (by omega) h j z λU C N=>?_⟩
   have:=c U C N;rw[q,jZ,u,CP]at this;exact this
  |true =>
   refine ab (iG (ai ?_));have:=c h' (s.toks+1+1) j;rw[q,jZ,u,Vu]at this;exact this
end
theorem EV(A:X.calm=true):cT X (.builtin "any") (λxs H Q=>∃(p:OT) (ys:am V) (rs:am (List V)),xs=[.ref p]/\aq X.K H p ys/\Sl (λy r=>∃a,y=V.ref a/\aU X.K H a r) ys rs/\Q (.bl (rs.any λr=>!r.isEmpty)) H):=by
 rintro J s σ H xs us Q I r ⟨p,ys,rs,rfl,k,pr,q⟩;obtain⟨u,rfl,B⟩:=vals1 r;cases B
 obtain⟨its,l,c,C⟩:=I.list k;have f:=l.length;have all:∀i v,its[i]?=ih v ->∃a ws,v=.ref a/\S0 s.heap a ws/\ws.size<=OY/\(rs.map λr=>!r.isEmpty).getD i false = !ws.isEmpty:=by
  intro i v e;clear q k c C r
  induction l generalizing rs i with
  |nil=>simp at e
  |cons D S E =>
   cases pr with
   |cons G pt =>
    cases i with
    |zero =>
     simp at e;subst e;obtain⟨a,rfl,L⟩:=G;cases D
     obtain⟨ws,t,d,j⟩:=I.tuple L;have R:=t.length;exact⟨a,_,rfl,d,by rw[bL];omega,by rw[qH t];rfl⟩
    |succ i=>exact E _ pt (by simpa using f) i (by simpa using e)
 have w:its.toArray.size=rs.length:=by rw[bL,<-f];exact c5 pr
 have x:(Sj its.toArray.size).any (λi=>(rs.map λr=>!r.isEmpty).getD i false)=rs.any λr=>!r.isEmpty:=by
  rw[w]
  apply jT.mpr
  simp only[lu,iE]
  constructor
  ·rintro⟨i,hi,e⟩
   refine⟨rs[i],fw hi,?_⟩
   simpa [Ts,hi] using e
  ·rintro⟨r,M,e⟩
   obtain⟨i,hi,rfl⟩:=t9 M;exact⟨i,hi,by simpa [Ts,hi] using e⟩
 refine call_function_tree F.kind_any F.plain_any F.entry_any (F.args_any1 (.ref p)) (?_:OZ _ _ _ _ _ _);unfold SA.«any»;refine ab (m:=oneArg "any" _) (ai (ab (qd c.isList ?_)));have new:∀b o,s.heap.get? b=ih o->b≠s.heap.objs.size:=λb o e=>bG (br e);obtain⟨ol,z,_⟩:=id c.isList;refine ai ⟨iL t8 _,FU (g:=s.heap) (λi=>(rs.map λr=>!r.isEmpty).getD i false) (I.ok.hd A) (new p ol z) c.isList (λi v e=>?_) _ 0 _ rfl (bp _) (λb o n e=>aZ _ e) ⟨_,bK _ rfl,rfl,rfl⟩ λh' tk kp=>?_⟩
 ·obtain⟨a,ws,N,d,j,O⟩:=all i v (by simpa using e)
  obtain⟨o,P,_⟩:=id d;exact⟨a,ws,N,new a o P,d,j,O⟩
 ·rw[nq,x]
  exact⟨.bl _,H,I.kept (t':=tk) λb o e=>kp b o (new b o e) e,rfl,q⟩
theorem qW(n:X.calm=true):cT X (.builtin "all") (λxs H Q=>∃(p:OT) (bs:am Bool),xs=[.ref p]/\aq X.K H p (bs.map V.bl)/\Q (.bl (bs.all id)) H):=by
 rintro J s σ H xs us Q I r ⟨p,bs,rfl,g,q⟩;obtain⟨u,rfl,t⟩:=vals1 r;cases t
 obtain⟨its,c,a,w⟩:=I.list g;have j:=c.length;have f:its=bs.map S':=by
  clear q g a w r j
  induction bs generalizing its with
  |nil=>cases c;rfl
  |cons b bs x =>
   cases c with
   |cons y z=>cases y;rw[x _ z];rfl
 have new:∀b o,s.heap.get? b=ih o->b≠s.ao:=λb o e=>bG (br e);obtain⟨ol,k,_⟩:=id a.isList;refine call_all_walk (qd a.isList ?_);refine⟨s.ao,_,_,_,_,_,λi=>bs.getD i true,rfl,Uz (A:=X.A.in1) (I.ok.hd n) s.ao p (new p ol k) its.toArray,⟨⟨_,bK _ rfl,rfl,rfl⟩,a.isList.at λo e=>aZ _ e⟩,λi v s2 C D hv l=>?_,λh' tk kp=>?_⟩
 ·rw[f]at hv
  have:bs[i]?.map S'=ih v:=by simpa using hv
  obtain⟨b,d,rfl⟩:=gO.mp this;refine gp ?_;have e:bs.getD i true=b:=by rw[fy,d];rfl
  exact e ▸ l
 ·have m:(Sj its.toArray.size).all (λi=>bs.getD i true)=bs.all id:=by
   have B:its.toArray.size=bs.length:=by rw[f];simp
   rw[B]
   apply jT.mpr
   simp only[nj,iE]
   constructor
   ·intro h b d
    obtain⟨i,hi,rfl⟩:=t9 d
    simpa [Ts,hi] using h i hi
   ·intro h i hi
    simpa [Ts,hi] using h bs[i] (fw hi)
  rw[m];exact⟨.bl _,H,I.kept (t':=tk) λb o e=>kp b o (by simpa using new b o e) (aZ _ e),rfl,q⟩
section
variable{p2 p3 p4:VU}{k:Nat}
def KU(K:S7)(te:TE):TE:=λσ H Q=>te σ H λx H2=>∃(l:OT) (xs:List V),x=.ref l/\aq K H2 l xs /\∀p,H2 p=none->Q (.ref p) (upd H2 p (.lst xs.reverse))
theorem mj(f:PE X e te):PE X (.Subscript e (.Slice none none (ih (.UnaryOp .USub (.Constant (.int 1) k p3) p4)) p2) pos) (KU X.K te):=by
 intro J s σ H Q I h;refine Ur (aF (f J s σ H _ I h) λv g B=>?_);obtain⟨x,O,i,j,l,xs,ex,m,q⟩:=B;subst ex;cases j
 refine wpAny_Slice ?_;rw[CB];refine ai (ai ?_);refine aF (eO (mx me ar) J g σ O (λo Y=>o=ih (-1)/\Y=O) i ⟨_,rfl,_,rfl,rfl,rfl⟩) λvs a B=>?_;obtain⟨o,n,p,ps,t,u⟩:=B;subst t u;have c:Inv X J σ n { a with heap:=a.heap.push { cls:=.type "slice",data:=.fields #[.none,.none,vs] } }:=p.kept (t':=a.toks) λb w z=>aZ _ z;obtain⟨its,r,d,y⟩:=c.list m;have A:=r.length;refine tail_any (ops:=_) d.isList.typeIs CC.lookup ?_ (by with_unfolding_all rfl)
 refine O8 d.isList (Ub ..) .none .none ps (by decide) ?_ (by rw[bL];omega)
 rw[krv_pick];refine⟨.ref _,_,c.laid (t':=a.toks) (o:=.lst xs.reverse) (λb w z=>aZ _ z) (aK _) ?_,rfl,q _ (c.aJ.fresh (aK _))⟩;exact⟨by rw[dw];exact y,its.reverse,0,r.reverse,bK _ rfl⟩
end
end L2
namespace L2
section
variable{α β γ δ ε ζ:Type}
theorem ae{F P:α->Prop}{a:α}(f:F a)(h:P a):∃x,F x/\P x:=⟨a,f,h⟩
theorem aV{F:α->Prop}{G:α->β->Prop}{P:α->β->Prop}{a:α}{b:β}(f:F a)(g:G a b)(h:P a b):∃x,F x /\∃y,G x y/\P x y:=⟨a,f,b,g,h⟩
theorem d8{F:α->Prop}{G:α->β->Prop}{I:α->β->γ->Prop}{P:α->β->γ->Prop}{a:α}{b:β}{c:γ}(f:F a)(g:G a b)(i:I a b c)(h:P a b c):∃x,F x /\∃y,G x y /\∃z,I x y z/\P x y z:=⟨a,f,b,g,c,i,h⟩
theorem kR{F:α->Prop}{G:α->β->Prop}{I:α->β->γ->Prop}{e:α->β->γ->δ->Prop}{P:α->β->γ->δ->Prop}{a:α}{b:β}{c:γ}{d:δ}(f:F a)(g:G a b)(i:I a b c)(j:e a b c d)(h:P a b c d):∃x,F x /\∃y,G x y /\∃z,I x y z /\∃u,e x y z u/\P x y z u:=⟨a,f,b,g,c,i,d,j,h⟩
end
end L2
namespace L2
theorem gF{i:Int}(h:H p=bm xs)(e:cn xs i=ih v)(k:Q v H):oT K (.ref p) (.int i) H Q:=⟨p,xs,i,v,rfl,rfl,aq.of h,e,k⟩
theorem bc{i:Int}(h:H p=bi xs)(e:cn xs i=ih v)(k:Q v H):tC (.int i) σ H (λy H2=>sO K (.ref p) y H2 Q):=⟨p,xs,i,v,rfl,rfl,aU.of h,e,k⟩
theorem fq{i:Int}(h:H p=bm xs)(e:cn xs i=ih v)(k:Q v H):tC (.int i) σ H (λy H2=>oT K (.ref p) y H2 Q):=⟨p,xs,i,v,rfl,rfl,aq.of h,e,k⟩
end L2
namespace L2
open Spec PyProof.Rows
section
variable{κ:Type} [DecidableEq κ]
def a5(kvs:List (κ×V))(k:κ):Option V:=(kvs.find? λkv=>decide (kv.1=k)).map (·.2)
def putK(kvs:List (κ×V))(k:κ)(v:V):List (κ×V):=
 if (kvs.any λkv=>decide (kv.1=k))=true then kvs.map (λkv=>if kv.1=k then (kv.1,v) else kv) else kvs++[(k,v)]
theorem eL{p:κ×V}{r:am (κ×V)}{k:κ}(e:p.1=k):a5 (p::r) k=ih p.2:=by simp[a5,nu,e]
theorem dV{p:κ×V}{r:am (κ×V)}{k:κ}(e : ¬ p.1=k):a5 (p::r) k=a5 r k:=by simp[a5,nu,e]
theorem ki(k:κ):∀kvs:am (κ×V),(kvs.any λa=>decide (a.1=k))=(a5 kvs k).isSome
 |[]=>rfl
 |p::r=>by
  rw[jZ]
  by_cases e:p.1=k
  ·simp only[eL e,cE e,Vu,Pd]
  ·rw[dV e,eF e,CP];exact ki k r
theorem vV(k j:κ)(y:V):∀kvs:am (κ×V),a5 (kvs.map λa=>if a.1=k then (a.1,y) else a) j=(a5 kvs j).map λx=>if j=k then y else x
 |[]=>rfl
 |p::r=>by
  have b:=vV k j y r;rw[b5]
  by_cases h:p.1=k
  ·rw[aB h]
   by_cases e:p.1=j
   ·rw[eL (p:=(p.1,y)) e,eL e,qa,aB (e.symm.trans h)]
   ·rw[dV (p:=(p.1,y)) e,dV e,b]
  ·rw[au h]
   by_cases e:p.1=j
   ·rw[eL (p:=p) e,eL e,qa,au (λz=>h (e.trans z))]
   ·rw[dV (p:=p) e,dV e,b]
theorem vj(k j:κ)(y:V):∀kvs:am (κ×V),a5 kvs k=none->a5 (kvs++[(k,y)]) j=if j=k then ih y else a5 kvs j
 |[],_=>by
  by_cases e:k=j
  ·rw[aB e.symm];exact eL (p:=(k,y)) e
  ·rw[au (λz=>e z.symm)];exact dV (p:=(k,y)) e
 |p::r,a=>by
  rw[List.cons_append];have b : ¬ p.1=k:=λz=>by rw[eL z]at a;cases a
  rw[dV b]at a;have c:=vj k j y r a
  by_cases e:p.1=j
  ·rw[eL e,eL e,au (λz=>b (e.trans z))]
  ·rw[dV e,dV e,c]
theorem hX(kvs:am (κ×V))(k j:κ)(y:V):a5 (putK kvs k y) j=if j=k then ih y else a5 kvs j:=by
 unfold putK
 by_cases a:(kvs.any λb=>decide (b.1=k))=true
 ·rw[aB a,vV]
  rw[ki]at a
  by_cases e:j=k
  ·obtain⟨x,c⟩:=Cr.mp a
   rw[aB e,e,c,qa,aB rfl]
  ·rw[au e]
   cases a5 kvs j with
   |none=>rfl
   |some x=>rw[qa,au e]
 ·rw[au a]
  refine vj k j y kvs ?_;rw[ki]at a;cases q:a5 kvs k with
  |none=>rfl
  |some x=>rw[q]at a;exact(a rfl).elim
theorem j9(kvs:am (κ×V))(k:κ)(v:V):(putK kvs k v).length<=kvs.length+1:=by
 unfold putK;split
 ·rw[aG];omega
 ·rw[cQ,cX,iM];omega
theorem kj{kvs:am (κ×V)}{k:κ}(v:V)(h:a5 kvs k=none):putK kvs k v=kvs++[(k,v)]:=by
 unfold putK;rw[ki,h];exact au (by decide)
theorem dZ.lM{o:a2 V}{u:a2 i'}(r:dZ o u):o.isSome=u.isSome:=by
 cases o with
 |none=>cases u with
  |none=>rfl
  |some _=>exact(show False from r).elim
 |some _=>cases u with
  |none=>exact(show False from r).elim
  |some _=>rfl
theorem KV.val{kvs:am (κ×V)}{vs:am (κ×i')}(r:KV kvs vs)(k:κ):dZ (a5 kvs k) (valueAt vs k):=by
 unfold KV at r
 induction r with
 |nil=>exact SG
 |@cons p q ps a h t d =>
  obtain⟨h1,U⟩:=h
  by_cases e:p.1=k
  ·have c:q.1=k:=h1.symm.trans e
   have b:valueAt (q::a) k=ih q.2:=by simp[valueAt,nu,c]
   rw[eL e,b];exact U
  ·have c : ¬ q.1=k:=λz=>e (h1.trans z)
   have b:valueAt (q::a) k=valueAt a k:=by simp[valueAt,nu,c]
   rw[dV e,b];exact d
theorem KV.any{kvs:am (κ×V)}{vs:am (κ×i')}(r:KV kvs vs)(k:κ):(kvs.any λa=>decide (a.1=k))=vs.any λa=>decide (a.1=k):=by
 unfold KV at r
 induction r with
 |nil=>rfl
 |cons h t b=>rw[jZ,jZ,b,h.1]
theorem KV.sR{kvs:am (κ×V)}{vs:am (κ×i')}(r:KV kvs vs)(k:κ)(b:RelV y u) :
  KV (kvs.map λa=>if a.1=k then (a.1,y) else a) (vs.map λa=>if a.1=k then (a.1,u) else a):=by
 unfold KV at r⊢
 induction r with
 |nil=>exact .nil
 |@cons p q ps d h t c =>
  rw[b5,b5];refine .cons ?_ c;obtain⟨h1,U⟩:=h
  by_cases e:p.1=k
  ·rw[aB e,aB (h1.symm.trans e)];exact⟨h1,b⟩
  ·rw[au e,au (λz=>e (h1.trans z))];exact⟨h1,U⟩
theorem KV.put{kvs:am (κ×V)}{vs:am (κ×i')}(r:KV kvs vs)(k:κ)(a:RelV y u):KV (putK kvs k y) (stored vs k u):=by
 unfold putK stored;rw[r.any k]
 by_cases e:(vs.any λb=>decide (b.1=k))=true
 ·rw[aB e,aB e];exact r.sR k a
 ·rw[au e,au e];exact hJ r ⟨rfl,a⟩
theorem KV.length{kvs:am (κ×V)}{vs:am (κ×i')}(r:KV kvs vs):kvs.length=vs.length:=c5 r
end
theorem kK{k:Key}(r:RelV (kV k) u):(cu P w).is k u=true:=by
 cases k with
 |inl i=>obtain⟨t,e⟩:=(show ∃t,u=TB i t from r);subst e;exact DQ P w i t
 |inr x=>obtain⟨t,e⟩:=(show ∃t,u=To x t from r);subst e;exact DR P w x t
theorem vk{P:SD}{w:SQ}:∀{ks:am Key}{us:am i'},Vals (ks.map kV) us->ItemsAre (cu P w) ks us
 |[],_,r=>by rw[jY]at r;cases r;exact .nil
 |k::ks,_,r=>by
  rw[b5]at r;cases r with
  |cons h t=>exact .cons (kK h) (vk t)
abbrev KT(H:Hp):List (List Key×V)->List (List Key×OT×i')->Prop:=Sl λp q=>p.1=q.1/\H q.2.1=ih (.tup (p.1.map kV))/\RelV p.2 q.2.2
theorem KT.val{kvs:am (List Key×V)}{xs:am (List Key×OT×i')}(r:KT H kvs xs)(k:am Key):dZ (a5 kvs k) ((atKey xs k).map (·.2)):=by
 induction r with
 |nil=>exact SG
 |@cons p q ps a h t d =>
  obtain⟨h1,_,U⟩:=h
  by_cases e:p.1=k
  ·have c:q.1=k:=h1.symm.trans e
   have b:atKey (q::a) k=ih q.2:=by simp[atKey,nu,c]
   rw[eL e,b];exact U
  ·have c : ¬ q.1=k:=λz=>e (h1.trans z)
   have b:atKey (q::a) k=atKey a k:=by simp[atKey,nu,c]
   rw[dV e,b];exact d
theorem KT.sR{kvs:am (List Key×V)}{xs:am (List Key×OT×i')}(r:KT H kvs xs)(k:am Key)(b:RelV y u) :
  KT H (kvs.map λa=>if a.1=k then (a.1,y) else a) (xs.map (putAt k u)):=by
 induction r with
 |nil=>exact .nil
 |@cons p q ps f h t c =>
  rw[b5,b5];refine .cons ?_ c;obtain⟨h1,U,d⟩:=h;unfold putAt
  by_cases e:p.1=k
  ·rw[aB e,aB (h1.symm.trans e)];exact⟨h1,U,b⟩
  ·rw[au e,au (λz=>e (h1.trans z))];exact⟨h1,U,d⟩
theorem KT.put{kvs:am (List Key×V)}{xs:am (List Key×OT×i')}(r:KT H kvs xs)(k:am Key)(c:H b=bi (k.map kV))(a:RelV y u) :
  KT H (putK kvs k y) (storedH xs k b u):=by
 have e:(kvs.any λd=>decide (d.1=k))=(atKey xs k).isSome:=by
  rw[ki,(r.val k).lM,ub]
 unfold putK storedH;rw[e]
 by_cases q:(atKey xs k).isSome=true
 ·rw[aB q,aB q];exact r.sR k a
 ·rw[au q,au q];exact hJ r ⟨rfl,c,a⟩
theorem KT.keeps{kvs:am (List Key×V)}{xs:am (List Key×OT×i')}(r:KT H kvs xs)(a:∀b ys,H b=bi ys->Y b=bi ys):KT Y kvs xs:=
 Paired.oR r λ_ _ z=>⟨z.1,a _ _ z.2.1,z.2.2⟩
theorem AO{u:HO}(ok:cz P w H h)(e:Rd H a u):bO P w H h a u:=e.ok ok
theorem mB(ok:cz P w H h)(e:Rd H a (.dK kvs)):kvs.length<=OY/\(a==sysModules)=false /\∃vs,KV kvs vs/\h.DictOf (cu P w) a vs:=
 show bO P w H h a (.dK kvs) from AO ok e
theorem AQ(ok:cz P w H h)(e:H a=bn kvs):kvs.length<=OY/\(a==sysModules)=false /\∃vs,KV kvs vs/\h.DictOf (cu P w) a vs:=mB ok (.inl e)
theorem jz{ks:am Key}(ok:cz P w H h)(e:H a=bi (ks.map kV)):(tupleKind (cu P w)).is h ks a:=by
 obtain⟨_,its,r,o,h1,U,n,b,_⟩:=(show bO P w H h a (.tup (ks.map kV)) from ok a _ e);exact⟨o,its.toArray,n,h1,U,b,by simpa using vk r⟩
theorem mC{kvs:am (List Key×V)}(ok:cz P w H h)(e:Rd H a (.dT kvs)):kvs.length<=OY/\(a==sysModules)=false /\
  ∃xs,KT H kvs xs/\h.DictOfH (tupleKind (cu P w)) a xs:=by
 obtain⟨z,y,xs,r,o,es,ep,h1,U,c,d,f⟩:=(show bO P w H h a (.dT kvs) from AO ok e);refine⟨z,y,xs,r,o,es,ep,h1,U,c,d,λx hx=>?_,f⟩;have all:∀{l:am (List Key×V)}{m:am (List Key×OT×i')},KT H l m ->∀x∈m,(tupleKind (cu P w)).is h x.1 x.2.1:=by
  intro l m q
  induction q with
  |nil=>intro x hx;exact nomatch hx
  |@cons p q ps i b t g =>
   intro x hx;rcases bu.mp hx with e|hx
   ·subst e
    exact jz ok (by rw[<-b.1];exact b.2.1)
   ·exact g x hx
 exact all r x hx
theorem si{kvs:am (List Key×V)}(ok:cz P w H h)(e:H a=ce kvs):kvs.length<=OY/\(a==sysModules)=false /\
  ∃xs,KT H kvs xs/\h.DictOfH (tupleKind (cu P w)) a xs:=mC ok (.inl e)
def cf(H:Hp)(a:OT)(y:V)(r:Option V):Prop:=
 (∃kvs k,Rd H a (.dK kvs)/\y=kV k/\r=a5 kvs k) \/∃kvs k b,Rd H a (.dT kvs)/\y=.ref b/\H b=ih (.tup (k.map kV))/\r=a5 kvs k
def eQ(H:Hp)(a:OT)(y v:V)(Y:Hp):Prop:=
 (∃kvs k,H a=ih (.dK kvs)/\y=kV k/\kvs.length<OY/\Y=upd H a (.dK (putK kvs k v))) \/
 ∃kvs k b,H a=ih (.dT kvs)/\y=.ref b/\H b=ih (.tup (k.map kV))/\kvs.length<OY/\Y=upd H a (.dT (putK kvs k v))
theorem cf.k{k:Key}(e:H a=bn kvs):cf H a (kV k) (a5 kvs k):=.inl ⟨kvs,k,.inl e,rfl,rfl⟩
theorem cf.t{kvs:am (List Key×V)}{k:am Key}(e:H a=ce kvs)(c:H b=bi (k.map kV)):cf H a (.ref b) (a5 kvs k):=.inr ⟨kvs,k,b,.inl e,rfl,c,rfl⟩
theorem eQ.k{k:Key}(e:H a=bn kvs)(b:kvs.length<OY):eQ H a (kV k) v (upd H a (.dK (putK kvs k v))):=.inl ⟨kvs,k,e,rfl,b,rfl⟩
theorem eQ.t{kvs:am (List Key×V)}{k:am Key}(e:H a=ce kvs)(c:H b=bi (k.map kV))(d:kvs.length<OY) :
  eQ H a (.ref b) v (upd H a (.dT (putK kvs k v))):=.inr ⟨kvs,k,b,e,rfl,c,d,rfl⟩
section
variable{r:i'}{o:a2 V}
theorem Inv.big(I:Inv X J σ H s):sysModules<s.ao:=by
 have h:PD<s.ao:=(I.mod.glob.keeps I.bk).lt;exact lq (by decide) h
theorem EW{Q:i'->OX->Prop}(r:A.units+1<Tq)(I:Inv X J σ H s)(g:cf H a y (ih v))(n:RelV y u)(h:∀c s',Inv X J σ H s'->RelV v c->Q c s') :
  OZ X.eb A (getItem (.ref a) u) Q E s:=by
 rcases g with⟨kvs,k,e,i,l⟩|⟨kvs,k,b,e,i,t,l⟩
 ·subst i
  obtain⟨z,w,vs,d,j⟩:=mB I.aJ e;obtain⟨c,m,f⟩:=dZ.some_of (v:=v) (o:=valueAt vs k) (by rw[l];exact d.val k)
  exact wpAny_getItem_of (kK n) j.mapOf m (h c _ (I.tok _) f)
 ·subst i
  cases (show u=Pk b from n)
  obtain⟨z,w,xs,d,j⟩:=mC I.aJ e;obtain⟨c,m,f⟩:=dZ.some_of (v:=v) (o:=(atKey xs k).map (·.2)) (by rw[l];exact d.val k)
  obtain⟨p,x,q⟩:=gO.mp m;refine wpAny_getItem_heap (qj r) (jz I.aJ t) j x ?_;rw[q];exact h c _ (I.tok _) f
theorem KW{Q:i'->OX->Prop}(m:A.units+1<Tq)(I:Inv X J σ H s)(g:cf H a y o)(j:RelV y u)(h:∀s',Inv X J σ H s'->Q (.bool o.isSome) s') :
  OZ X.eb A (P4 .In u (.ref a)) Q E s:=by
 rcases g with⟨kvs,k,e,d,l⟩|⟨kvs,k,b,e,d,n,l⟩
 ·subst d
  obtain⟨z,f,vs,c,i⟩:=mB I.aJ e;refine wpAny_in_of (kK j) f i.mapOf ?_;rw[<-(c.val k).lM,<-l];exact h _ (I.tok _)
 ·subst d
  cases (show u=Pk b from j)
  obtain⟨z,f,xs,c,i⟩:=mC I.aJ e;refine wpAny_in_heap (qj m) (jz I.aJ n) f i ?_;have q:=(c.val k).lM;rw[ub]at q;rw[<-q,<-l];exact h _ (I.tok _)
theorem Hf{Q:i'->OX->Prop}(m:A.units+1<Tq)(I:Inv X J σ H s)(g:cf H a y o)(j:RelV y u)(h:∀s',Inv X J σ H s'->Q (.bool (!o.isSome)) s') :
  OZ X.eb A (P4 .NotIn u (.ref a)) Q E s:=by
 rcases g with⟨kvs,k,e,d,l⟩|⟨kvs,k,b,e,d,n,l⟩
 ·subst d
  obtain⟨z,f,vs,c,i⟩:=mB I.aJ e;refine wpAny_notIn_of (kK j) f i.mapOf ?_;rw[<-(c.val k).lM,<-l];exact h _ (I.tok _)
 ·subst d
  cases (show u=Pk b from j)
  obtain⟨z,f,xs,c,i⟩:=mC I.aJ e;refine wpAny_notIn_heap (qj m) (jz I.aJ n) f i ?_;have q:=(c.val k).lM;rw[ub]at q;rw[<-q,<-l];exact h _ (I.tok _)
theorem rC{c:HO}(I:Inv X J σ H s)(d:mT (H a))(f:Sn a s.heap h')(g:∃q,h'.get? a=ih q)(new:bO X.prog X.w (upd H a c) h' a c) :
  Inv X J σ (upd H a c) { s with heap:=h',toks:=t' }:=
 I.write (x:=a) (e:=a) d (.inl rfl) (λb q h z=>(f.2 b h).trans z) g new
theorem Ao{vs:am (Key×i')}(z:kvs.length<=OY)(c:(a==sysModules)=false)(b:KV kvs vs)(d:h'.DictOf (cu P w) a vs) :
  bO P w Y h' a (.dK kvs):=⟨z,c,vs,b,d⟩
theorem EX{Q:Unit->OX->Prop}(F:A.units+1<Tq)(I:Inv X J σ H s)(g:eQ H a y v Y)(x:RelV y u)(B:RelV v r)(h:∀s',Inv X J σ Y s'->Q () s') :
  OZ X.eb A (setItem (.ref a) u r) Q E s:=by
 rcases g with⟨kvs,k,e,j,l,m⟩|⟨kvs,k,b,e,j,C,l,m⟩
 ·subst j m
  obtain⟨z,n,vs,d,o⟩:=AQ I.aJ e;have p:vs.length<=OY:=by rw[<-d.length];exact z
  have t:(putK kvs k v).length<=OY:=by have:=j9 kvs k v;omega
  refine wpAny_setItem_pairs (hsz:=p) (kK x) o λh' f w=>h _ ?_;have G:∃q,h'.get? a=ih q:=let ⟨q,_,_,i,_⟩:=f;⟨q,i⟩;exact rC I (by rw[e];exact SG) w G (Ao t n (d.put k B) f)
 ·subst j m
  cases (show u=Pk b from x)
  obtain⟨z,n,xs,d,o⟩:=si I.aJ e;have p:xs.length<=OY:=by rw[<-c5 d];exact z
  have t:(putK kvs k v).length<=OY:=by have:=j9 kvs k v;omega
  refine wpAny_setItem_heap (hsz:=p) (qj F) (jz I.aJ C) o λh' f w=>h _ ?_;obtain⟨q,es,ep,i,U,K,L,_,M⟩:=f;refine rC I (by rw[e];exact SG) w ⟨q,i⟩ ⟨t,n,_,(d.put k C B).keeps λc ys D=>?_,q,es,ep,i,U,K,L,M⟩
  rw[ag (aj D e (λz=>nomatch z))];exact D
end
def Bo(i:Si):Prop:= ∀ov iv,subscripted i false ov iv=operate [ov,iv] (getItem ov iv)
theorem Hg{a:Si}{id:String}{Q:i'->OX->Prop}
  (l:typeLookup (.type T) "__getitem__" = pure (ih (.builtin id))) (m:Bo a)
  (h:OZ (Pb prog w) A (eval value env) (λo e=>OZ (Pb prog w) A (eval a env) (λi b=>b.TypeIs o T/\OZ (Pb prog w) A (getItem o i) Q E b) E e) E s) :
  OZ (Pb prog w) A (eval (.Subscript value a pos) env) Q E s:=by
 refine Ur (iF h (λo e j=>iF j (λi b c=>?_) λ_ _ x=>x) λ_ _ x=>x);obtain⟨g,c⟩:=c;unfold subscriptTail;refine ab ?_;rw[getitemInPython_of_ne g.not_modules];refine ab (wpAny_specialOf g l ?_);have d:OZ (Pb prog w) A (subscripted a false o i) (λr f=>OZ (Pb prog w) A (letTemporaryGo value o r >>= λ_=>pure r) Q E f) E b:=by
  rw[m o i];exact wpAny_operating (iF c (λr f k=>ab (wpAny_letTemporaryGo (ai k))) λ_ _ x=>x)
 first
  |exact ai (ab d)
  |exact ab (ai (ab d))
  |exact ab d
theorem DV{o:a2 V}(I:Inv X J σ H s)(g:cf H a y o):s.TypeIs (.ref a) "dict" :=by
 rcases g with⟨kvs,k,e,_,_⟩|⟨kvs,k,b,e,_,_,_⟩
 ·obtain⟨_,_,vs,_,c⟩:=mB I.aJ e
  exact c.typeIs
 ·obtain⟨_,_,xs,_,c⟩:=mC I.aJ e
  exact c.typeIs
def sj(td ty:TE):TE:=λσ H Q=>td σ H λx O=>ty σ O λy H2=>∃a v,x=.ref a/\cf H2 a y (ih v)/\Q v H2
def Bp(ty td:TE):TE:=λσ H Q=>ty σ H λy O=>td σ O λx H2=>∃a o,x=.ref a/\cf H2 a y o/\Q (.bl o.isSome) H2
def Hh(ty td:TE):TE:=λσ H Q=>ty σ H λy O=>td σ O λx H2=>∃a o,x=.ref a/\cf H2 a y o/\Q (.bl (!o.isSome)) H2
def Jm(td ty tv:TE):TS:=λD σ H=>tv σ H λv O=>td σ O λx H2=>ty σ H2 λy H3=>∃a H4,x=.ref a/\eQ H3 a y v H4/\D.nx σ H4
section
variable{o i:Si}{Qr:VU}{td ty:TE}
theorem eV(d:X.A.units+1<Tq)(e:PE X o td)(hi:PE X i ty)(f:Bo i:=by exact λ_ _=>rfl):PE X (.Subscript o i pos) (sj td ty):=by
 intro J s σ H Q I h;refine Hg PySem.F.slot_dict_getitem.lookup f (aF (e J s σ H _ I h) λu j ⟨x,O,k,l,m⟩=>aF (hi J j σ O _ k m) λr s2 z=>?_);obtain⟨y,H2,b,n,a,v,ex,g,p⟩:=z;subst ex;obtain rfl:u=Pk a:=l;exact⟨DV b g,EW d b g n λt w q c=>⟨v,H2,q,c,p⟩⟩
theorem jA(b:X.A.units+1<Tq)(hi:PE X i ty)(c:PE X o td):PC X .In i o (Bp ty td):=by
 intro J s σ H Q I h;refine aF (hi J s σ H _ I h) λq d ⟨y,O,e,f,j⟩=>aF (c J d σ O _ e j) λu s2 t=>?_;obtain⟨x,H2,k,l,a,m,ex,g,n⟩:=t;subst ex;obtain rfl:u=Pk a:=l;exact KW b k g f λr p=>⟨.bl m.isSome,H2,p,rfl,n⟩
theorem vm(b:X.A.units+1<Tq)(hi:PE X i ty)(c:PE X o td):PC X .NotIn i o (Hh ty td):=by
 intro J s σ H Q I h;refine aF (hi J s σ H _ I h) λq d ⟨y,O,e,f,j⟩=>aF (c J d σ O _ e j) λu s2 t=>?_;obtain⟨x,H2,k,l,a,m,ex,g,n⟩:=t;subst ex;obtain rfl:u=Pk a:=l;exact Hf b k g f λr p=>⟨.bl (!m.isSome),H2,p,rfl,n⟩
theorem gx(b:X.A.units+1<Tq)(c:PE X o td)(hi:PE X i ty)(hv:PE X value tv)(d:swapsWith value (ih (.Subscript o i Qg)) pos.line X.env=pure false) :
  PS X (.Assign [.Subscript o i Qg] value pos) (Jm td ty tv):=by
 intro J s σ H D I h;refine wpAny_Assign_Subscript (aF (hv J s σ H _ I h) λr e ⟨v,O,f,j,k⟩=>aF (c J e σ O _ f k) λu s2 ⟨x,H2,l,m,n⟩=>aF (hi J s2 σ H2 _ l n) λB C G=>?_) d;obtain⟨y,E,p,q,a,t,ex,g,w⟩:=G;subst ex;obtain rfl:u=Pk a:=m;exact EX b p g q j λF z=>⟨σ,t,z,w⟩
end
theorem FV(h:SN)(a:sysModules<h.objs.size):bO P w H (h.push { cls:=.type "dict",data:=.dict #[] }) h.objs.size (.dK []):=
 ⟨bp _,iD.mpr (aN (bG a)),[],.nil,Up h⟩
theorem vW(h:SN)(a:sysModules<h.objs.size):bO P w H (h.push { cls:=.type "dict",data:=.dict #[] }) h.objs.size (.dT []):=
 ⟨bp _,iD.mpr (aN (bG a)),[],.nil,_,#[],0,bK _ rfl,⟨rfl,rfl,rfl⟩,rfl,rfl,fz⟩
def IA:TE:=λ_ H Q=>∀p,H p=none->Q (.ref p) (upd H p (.dK []))
def IB:TE:=λ_ H Q=>∀p,H p=none->Q (.ref p) (upd H p (.dT []))
theorem nZ:PE X (.Dict [] [] pos) IA:=λJ s σ H Q I h =>
 wpAny_Dict_empty ⟨.ref s.ao,_,I.laid (a:=s.ao) (o:=.dK []) (t':=s.toks) (λ_ _ q=>aZ _ q) (aK _) (FV s.heap I.big),rfl,h _ (I.aJ.fresh (aK _))⟩
theorem n4:PE X (.Dict [] [] pos) IB:=λJ s σ H Q I h =>
 wpAny_Dict_empty ⟨.ref s.ao,_,I.laid (a:=s.ao) (o:=.dT []) (t':=s.toks) (λ_ _ q=>aZ _ q) (aK _) (vW s.heap I.big),rfl,h _ (I.aJ.fresh (aK _))⟩
end L2
namespace HT
open PyProof.Rows
theorem Du{t:OT}{lo:a2 Int}{Q:i'->OX->Prop}(a:S0 s.heap t items)(b:s.heap.IsSliceOf sl vl vu .none)(pl:T2 vl lo)(g:T2 vu hi)
  (i:a6 items.size 0 lo=0) (h1:a6 items.size items.size hi=items.size) (h:Q (.ref t) s):OZ (Pb prog w) A (getItem (.ref t) (.ref sl)) Q E s:=by
 obtain⟨os,d,e,j⟩:=id b;have f:s.TypeIs (.ref sl) "slice" :=⟨os,d,e⟩;unfold getItem
 try with_reducible refine dO ?_
 first|refine ab (ai ?_)|skip
 refine ab (wpAny_sequenceKey a.typeIs (by decide) ?_)
 refine ab (ll (name:=SE "__getitem__") a.typeIs m8
  (fu m8 a.typeIs entry_tuple_getitem ?_ (args_tuple_getitem _ _)))
 show OZ _ _ (Tb (.ref t) >>= _) _ _ s;refine ab (tupleItemsOf_ a ?_);refine ab (jX f ?_);rw[aB (by decide)]
 refine ab (uy b pl g ?_);rw[i,h1];have c:((((0:Nat):Int)==0&&(1:Int)==1&&(items.size - 0)==items.size)=true):=by simp
 show OZ _ _ (if ((((0:Nat):Int)==0&&(1:Int)==1&&(items.size - 0)==items.size)=true) then _ else _) _ _ s;rw[aB c];refine ab (ab (jX a.typeIs (ai ?_)));rw[aB (by decide)]
 exact ab (iG (ai ⟨_,rfl,ai h⟩))
theorem FW{t:OT}{ws:am i'}{Q:i'->OX->Prop}(m:S0 s.heap t ([]:am i').toArray)(o:S0 s.heap b ws.toArray)(h:Q (.ref b) s):OZ (Pb prog w) A (S1 .Add (.ref t) (.ref b)) Q E s:=by
 obtain⟨⟨g,p,e,sl⟩,c,q,n,r⟩:=id m;obtain⟨⟨f,i,data2,j⟩,a,k,d,l⟩:=id o;obtain rfl:g=.type "tuple" :=q;obtain rfl:e=.seq #[] n:=r;obtain rfl:f=.type "tuple" :=k;obtain rfl:data2=.seq ws.toArray d:=l;exact concat_meets ⟨_,c,rfl⟩ ⟨_,a,rfl⟩ Cu Cv Cy Cz (CA _ _) (tuple_addW0 t b #[] ws.toArray n d p i sl j rfl) ⟨c,a,h⟩
end HT
namespace L2
open Spec PyProof.Rows W
theorem vX{q:OT}{o:HO}(a:H q=none):aE H (upd H q o):=λb u e=>by rw[ag (ax e a)];exact e
def KY:V->Option Int->Option Int->Hp->VK->Prop:=λx lo hi H Q=>∃a xs,x=.ref a/\H a=ih (.tup xs) /\∀p Y,aE H Y->Y p=ih (.tup (bT xs lo hi))->Q (.ref p) Y
theorem kx:k3 X KY:=by
 intro J s σ H x v vl vu lo hi sl Q I e f g i h;obtain⟨a,xs,rfl,c,q⟩:=h
 by_cases b:HT.a6 xs.length 0 lo=0/\HT.a6 xs.length xs.length hi=xs.length
 ·cases e
  obtain⟨its,r,j,l⟩:=I.tuple (aU.of c);have d:its.toArray.size=xs.length:=by rw[bL];exact r.length.symm
  refine⟨"tuple",_,m8.lookup,j.typeIs,HT.Du j f g i (by rw[d];exact b.1) (by rw[d];exact b.2) ?_⟩
  refine⟨.ref a,H,I,rfl,q a H (aE.refl _) ?_⟩;unfold bT;rw[b.1,b.2,nq,qk,cj];exact c
 ·exact Il J s σ H (.ref a) v vl vu lo hi sl Q I e f g i ⟨a,xs,rfl,aU.of c,b,λp k=>q p _ (vX k) af⟩
def Jn:R2:=λx y H Q=>∃a b xs ys,x=.ref a/\y=.ref b/\H a=ih (.tup xs)/\H b=ih (.tup ys)/\xs.length+ys.length<=OY /\∀p Y,aE H Y->Y p=ih (.tup (xs++ys))->Q (.ref p) Y
theorem rD:bU X (S1 .Add) Jn:=by
 rintro J s σ H x y v u Q I f g ⟨a,b,xs,ys,rfl,rfl,c,d,i,q⟩;cases xs with
 |nil =>
  cases f
  cases g
  obtain⟨its,j,k,_⟩:=I.tuple (aU.of c);obtain⟨m,n,p2,_⟩:=I.tuple (aU.of d);cases j
  exact HT.FW k p2 ⟨.ref b,H,I,rfl,q b H (aE.refl _) d⟩
 |cons z xs=>exact GY J s σ H (.ref a) (.ref b) v u Q I f g ⟨a,b,_,ys,rfl,rfl,aU.of c,aU.of d,by simp,i,λe=>q a H (aE.refl _) (by rw[e,f7];exact c),λ_ p l=>q p _ (vX l) af⟩
theorem Hi{k:Key}(h:(cu P w).is k u=true):RelV (kV k) u:=by
 cases k with
 |inl i=>exact UG (show Us i u=true from h)
 |inr x=>exact Cg (show S4 x u=true from h)
theorem wW:∀{xs:am V}{us:am i'},xs.length=us.length->(∀(i:Nat) x u,xs[i]?=ih x->us[i]?=ih u->RelV x u)->Vals xs us
 |[],[],_,_=>.nil
 |[],_::_,h,_=>by simp at h
 |_::_,[],h,_=>by simp at h
 |x::xs,u::us,h,f=>.cons (f 0 x u rfl rfl) (wW (by simpa using h) λi y v a b=>f (i+1) y v (by simpa using a) (by simpa using b))
theorem Ek(B:X.calm=true):cT X (.type "list") (λxs H Q=>∃d kvs,xs=[.ref d]/\H d=bn kvs /\∀l,H l=none->Q (.ref l) (upd H l (.lst (kvs.map λa=>kV a.1)))):=by
 rintro J s σ H xs us Q I r ⟨d,kvs,rfl,m,q⟩;obtain⟨u,rfl,C⟩:=vals1 r;cases C
 obtain⟨g,lo,vs,a,n⟩:=AQ I.aJ m;obtain⟨ep,o⟩:=n.dictAt;have f:kvs.length=vs.length:=a.length;refine kdl_call (kdl_dict (kvs:=vs) (ep:=ep) lo) (I.ok.hd B) o (by rw[<-f];exact g) λh' tk z c kp e it=>?_
 refine⟨.ref s.ao,_,I.laid (t':=tk) kp (aK _) (show bO X.prog X.w _ h' _ (.lst (kvs.map λa=>kV a.1)) from⟨by rw[aG];exact g,z.toList,c,?_,by rw[Array.toArray_toList];exact e⟩),rfl,q _ (I.aJ.fresh (aK _))⟩
 refine wW (by rw[aG,eT];exact f.trans it.1.symm) λi x v t hv=>?_
 obtain⟨k,y,j,hi⟩:=it.2 i v (by rw[<-nc];exact hv)
 obtain⟨A,b,rfl⟩:=gO.mp (by rw[<-dt];exact t)
 have e:A.1=k:=by
  clear it t hv f o n q g m
  induction a generalizing i with
  |nil=>simp at b
  |cons p _ D =>
   cases i with
   |zero =>
    simp at b j;subst b;rw[p.1,j]
   |succ i=>exact D i (by simpa using j) (by simpa using b)
 rw[e];exact Hi hi
end L2
namespace HT
open PyProof.Rows
section
open SeqAt
open AutoSeq1 (wpAny_loadPart')
open MeetsSeq MeetsSeq2 MeetsSeq3
end
end HT
namespace L2
open Spec PyProof.Rows W HT
theorem kz{α β:Type}{F:α->β->Prop}:∀{l:am α}{m:am β}{i:Nat}{x:α},Sl F l m->l[i]?=ih x ->∃y,m[i]?=ih y/\F x y
 |_,_,i,x,.nil,e=>by simp at e
 |_,_,0,x,.cons p _,e=>by simp at e;subst e;exact⟨_,rfl,p⟩
 |_,_,i+1,x,.cons _ t,e=>by simpa using kz (i:=i) t (by simpa using e)
end L2
namespace HT
open PyProof.Rows
open AutoSeq1 (wpAny_loadPart')
end HT
namespace L2
open Spec PyProof.Rows W HT
end L2
namespace HT
open PyProof.Rows
end HT
namespace HT
open PyProof.Rows W
end HT
namespace HT
open PyProof.Rows W L2
theorem nU:plainId "dict.update.loop" = true:=by decide +kernel
theorem vn:entryFor table "dict.update.loop" = ih SA.«dict.update.loop» :=entryFor_of_fast (by kernel_rfl)
theorem stored_new{K:Type} [DecidableEq K]{kvs:am (K×i')}{k:K}{v:i'}(h:k ∉ kvs.map (·.1)):stored kvs k v=kvs++[(k,v)]:=by
 unfold stored;rw[au];intro z;obtain⟨p,a,e⟩:=lu.mp z;exact h (aW.mpr ⟨p,a,by simpa using e⟩)
end HT
namespace HT
open PyProof.Rows
section
open SeqAt
open AutoSeq1 (wpAny_loadPart')
open MeetsSeq MeetsSeq2 MeetsSeq3
end
end HT
namespace L2
open Spec PyProof.Rows W HT
theorem c'{c:Tr}(h:(sc.names.map (·.1)).Nodup/\N'.Nodup/\sQ N N' Qd sc=true /\∀p∈sc.names,p.2=.free->c.names.lookup p.1=ih .cell\/c.names.lookup p.1=ih .free:=by decide +kernel)(a:sc.kind=.function:=by rfl)(b:Qd.length=N'.length:=by rfl):bW N c N' Qd sc:=⟨a,h.1,h.2.1,b,AN h.2.2.1,h.2.2.2⟩
theorem bt{P:am CY}(h:N.Nodup/\(∀x∈P,sc.names.lookup x=ih .local\/sc.names.lookup x=ih .cell) /\∀y∈sc.names,y.2 ≠ .free:=by decide +kernel)(a:sc.kind=.function:=by rfl)(b:sc.isCoroutine=false:=by rfl)(c:sc.isGenerator=false:=by rfl)(d:N.take P.length=P:=by rfl):a' N P sc:=⟨a,b,c,h.1,d,h.2.1,h.2.2⟩
theorem r5{xs:am CY}(h:(xs.map V.str)[i]?=ih v):i<(xs.map V.str).length /\∃a:i<xs.length,V.str xs[i]=v/\xs.take (i+1)=xs.take i++[xs[i]]:=by
 have h1:=(bA.mp h).1;have U:i<xs.length:=by simpa using h1
 exact⟨h1,U,by simpa [U] using h,by rw[dd,bB U];rfl⟩
theorem d9{n:Nat}(h:n+64<Tq):n+1<Tq:=by omega
theorem g7:3<=OY:=by rw[aQ];decide
theorem b8:2<=OY:=Pf g7
theorem ey:1<=OY:=Pf b8
end L2
namespace L2
open W
structure bQ(P:SD)(w:SQ)(K:S7)(mg:CY->Option i')(base:SN)(CX:gE)(k:Nat)(f:OT)(fd:Ss)(ps:List CY)(sp:Sp)(x:CY):Prop where
 G:aO P w K mg base CX k f fd ps sp
 k:Tz K (.ref f)=true
 b:Binds K fd ps []
 m:mg x=ih (.ref f)
section
variable{k:Nat}{p:VU}{t:TA}
theorem bz(C:bQ X.prog X.w X.K X.mg X.base ay k f fd ps sp x)(d:aY k X.A)(g:PA X (e::es) t)(h:Gl X x:=by rfl)(a:(x==("__debug__" : CY))=false:=by decide)(i:Sh (e::es) X.env=(false,eval e X.env)::Sh es X.env:=by rfl)(c:(backTo pos (Sh es X.env)).any (·.1)=false:=by rfl):PE X (.Call (.Name x p) (e::es) [] pos) (AI sp [] E0 t):=e6 C.G d h C.m C.k C.b .nil b' g a i c
end
end L2
namespace L2
open Spec PyProof.Rows W
end L2
namespace L2
open W
end L2
namespace L2
open Spec PyProof.Rows W HT
theorem l3{t u:TS}{D:Ends}(h:∀a:TS,a=u->let b:=σ;let E:Ends:={ D with nx:=a D };t E b H):sH t u D σ H:=h u rfl
theorem cB{a t u:TS}{D:Ends}{b:VK}{bk ct:St->Hp->Prop}(c:a=sH t u)(h:∀a:TS,a=u->let d:=σ;let E:Ends:={ D with nx:=a D };t E d H):(Ends.mk (a D) b bk ct).nx σ H:=by subst c;exact h u rfl
theorem mK{a t:TS}{D:Ends}{b:VK}{bk ct:St->Hp->Prop}(c:a=t)(h:let d:=σ;t D d H):(Ends.mk (a D) b bk ct).nx σ H:=by subst c;exact h
theorem jr{g:TG}{x:V}{D:Ends}(h:let b:=σ;let E:=D;g x b H λa H2=>tb E a H2):g x σ H λa H2=>tb D a H2:=h
def Jo(t:TA):TE:=λσ H Q=>t σ H λxs O=>xs.length<=OY /\∀p Y,aE O Y->O p=none->Y p=ih (.tup xs)->Q (.ref p) Y
def Jp(t:TA):TE:=λσ H Q=>t σ H λxs O=>xs.length<=OY /\∀p Y,aE O Y->O p=none->Y p=ih (.lst xs)->Q (.ref p) Y
theorem km{o:HO}(a:H p=none):aE H (upd H p o):=λb u e=>by rw[ag (ax e a)];exact e
section
variable{t:TA}{k:Nat}
theorem c2(h:PA X es t):PE X (.Tuple es k pos) (Jo t):=by
 intro J s σ H Q I f;refine wpAny_Tuple_spliced (aF (h pos J s σ H _ I f) λus a ⟨xs,O,c,r,z,q⟩=>⟨by rw[<-r.length];exact z,?_⟩)
 have d:O a.ao=none:=c.aJ.fresh (aK _);refine⟨.ref a.ao,upd O a.ao (.tup xs),c.laid (t':=a.toks) (λb u e=>aZ _ e) (aK _) ?_,rfl,q _ _ (km d) d af⟩;exact⟨z,us,r,⟨_,bK _ rfl,rfl,_,rfl,rfl⟩⟩
theorem kL(h:PA X es t):PE X (.List es pos) (Jp t):=by
 intro J s σ H Q I f;refine wpAny_List_spliced (aF (h pos J s σ H _ I f) λus a ⟨xs,O,c,r,z,q⟩=>⟨by rw[<-r.length];exact z,?_⟩)
 have d:O a.ao=none:=c.aJ.fresh (aK _);refine⟨.ref a.ao,upd O a.ao (.lst xs),c.laid (t':=a.toks) (λb u e=>aZ _ e) (aK _) ?_,rfl,q _ _ (km d) d af⟩;exact⟨z,us,0,r,bK _ rfl⟩
end
theorem aP.bx{k:Nat}(F:aP K x qual st f fd)(S:a' N ps (aI st))
  (a:∀(Qa:i') (A:SV) (b:am T9) (s:OX) (H:Hp) (vs:am V) (Q:VK) (E:XK),aY k (A.deeper (envOfC qual (aI st) s.ao f Qa))->sp vs H Q E ->
   let X:=(gZ ay P w K mg base N qual (aI st) f Qa A b s H E).iw
   ∃t,eI X (bH st) t/\t { nx:=λ_ Y=>Q .aM Y,rt:=Q } (start N vs) H)
  (c:∀vs H Q E,sp vs H Q E->vs.length=ps.length:=by intro _ _ _ _ h;obtain⟨rfl,_⟩:=h;rfl):aO P w K mg base ay (k+1) f fd ps sp:=F.ok S c a
theorem vY{b:WA}{c:am WA}{t:TS}(h:eI X body t)(d:X.xe=λ_ _=>False):PS X (.Try body (b::c) [] [] pos) t:=by
 intro J s σ H D I e;have g:∀{α:Type}{a:Ua α}{Q:α->OX->Prop}{E:i'->OX->Prop}{s':OX},wA X a Q X.xe s'->wA X a Q E s':=λz=>by rw[d]at z;exact wpAny_noRaise z
 refine wpAny_Try_except (aF (g (h J s σ H D I e)) λf i z=>?_);cases f with
 |next=>exact qc z
 |brk=>exact z
 |cont=>exact z
 |ret u=>exact z
theorem vo(n:X.calm=true):cT X (.builtin "any") (λxs H Q=>∃(p:OT) (bs:am Bool),xs=[.ref p]/\aq X.K H p (bs.map V.bl)/\Q (.bl (bs.any id)) H):=by
 rintro J s σ H xs us Q I r ⟨p,bs,rfl,g,q⟩;obtain⟨u,rfl,t⟩:=vals1 r;cases t
 obtain⟨its,c,a,w⟩:=I.list g;have j:=c.length;have f:its=bs.map S':=by
  clear q g a w r j
  induction bs generalizing its with
  |nil=>cases c;rfl
  |cons b bs x =>
   cases c with
   |cons y z=>cases y;rw[x _ z];rfl
 have new:∀b o,s.heap.get? b=ih o->b≠s.ao:=λb o e=>bG (br e);obtain⟨ol,k,_⟩:=id a.isList;refine call_any_walk (qd a.isList ?_);refine⟨s.ao,_,_,_,_,_,λi=>bs.getD i false,rfl,Uz (A:=X.A.in1) (I.ok.hd n) s.ao p (new p ol k) its.toArray,⟨⟨_,bK _ rfl,rfl,rfl⟩,a.isList.at λo e=>aZ _ e⟩,λi v s2 C D hv l=>?_,λh' tk kp=>?_⟩
 ·rw[f]at hv
  have:bs[i]?.map S'=ih v:=by simpa using hv
  obtain⟨b,d,rfl⟩:=gO.mp this;refine gp ?_;have e:bs.getD i false=b:=by rw[fy,d];rfl
  exact e ▸ l
 ·have m:(Sj its.toArray.size).any (λi=>bs.getD i false)=bs.any id:=by
   have B:its.toArray.size=bs.length:=by rw[f];simp
   rw[B]
   apply jT.mpr
   simp only[lu,iE]
   constructor
   ·rintro⟨i,hi,e⟩
    exact⟨bs[i],fw hi,by simpa [Ts,hi] using e⟩
   ·rintro⟨b,d,e⟩
    obtain⟨i,hi,rfl⟩:=t9 d;exact⟨i,hi,by simpa [Ts,hi] using e⟩
  rw[m];exact⟨.bl _,H,I.kept (t':=tk) λb o e=>kp b o (by simpa using new b o e) (aZ _ e),rfl,q⟩
def tI(x:CY):It:=⟨λi _=>i<x.cps.size,λi H v Y=>Y=H /\∃c,x.cps[i]?=ih c/\v=.str ⟨#[c]⟩,λi _=>x.cps.size<=i⟩
theorem vZ(it:OT)(x:CY)(t:Vv)(T:String)(M : ["enumerate","zip","dict_itemiterator","dict_reverseitemiterator","odict_iterator","itertools.zip_longest","itertools.pairwise"].contains T=false)
  (W:∀G:SV,G.handled=none->Walks P w G it [it] [it] x.cps.size (SignAt x) (λi h=>h.IsStrIter it T x t i))
  (N:∀(A:SV) (i:Nat) (s:OX) (Q:i'->OX->Prop) (E:i'->OX->Prop),s.heap.IsStrIter it T x t i->Q (.ref it) s->OZ (Pb P w) A (pyIter (.ref it)) Q E s):Turn P w K tg (tI x) [it] it (λi h=>i<=x.cps.size/\h.IsStrIter it T x t i) where
 mem:=by simp
 obj:=λi h st b a=>by
  obtain rfl:b=it:=by simpa using a
  obtain⟨_,o,e,c,d⟩:=st;exact⟨o,e,λv z=>by rw[d]at z;cases z⟩
 keep:=λi h h' st k=>by
  obtain⟨l,o,e,r⟩:=st;exact⟨l,o,k it (by simp) _ e,r⟩
 item:=by
  intro X j m n p i J s σ H E I f st g;subst j m n;obtain⟨q,y,O,B,C,D⟩:=f it (by simp)
  refine(W X.A (I.ok.hd p)).item i s _ _ g st.2 λv h' tk hv F kk=>?_;obtain⟨c,u,L,rfl⟩:=hv;have R:Inv X J σ H { s with heap:=h',toks:=tk }:=I.turned (λb o a e=>kk b o (by simpa using a) e) q y B C D
  obtain⟨o,e,S,d⟩:=id F;exact⟨_,rfl,mw (s:={ s with heap:=h',toks:=tk }) e S d M ⟨.str ⟨#[c]⟩,H,R,⟨u,rfl⟩,⟨rfl,c,L,rfl⟩,⟨g,F⟩,λb a=>(f b a).1⟩⟩
 done:=by
  intro X j m n p i J s σ H E I f st g;subst j m n;obtain⟨q,y,O,B,C,D⟩:=f it (by simp)
  have U:i=x.cps.size:=CQ st.1 g;subst U;exact(W X.A (I.ok.hd p)).done s _ _ st.2 λh' tk kk=>⟨rfl,I.turned (λb o a e=>kk b o (by simpa using a) e) q y B C D⟩
 self:=λA i s Q E st h=>N A i s Q E st.2 h
def KZ(te:TE):TI:=λσ H R=>te σ H λv O=>∃x,v=.str x/\R (tI x) O
theorem IC(i:PE X e te):PI X tg e (KZ te):=by
 intro J s σ H R I h;refine aF (i J s σ H _ I h) λv a p=>?_;obtain⟨y,O,c,j,x,k,q⟩:=p;subst k;obtain⟨t,rfl⟩:=j;have f:∀o:Tp,Inv X J σ O { a with heap:=a.heap.push o }:=λo=>c.kept (t':=a.toks) λb n z=>aZ _ z;have fp:∀b ∈ [a.ao],fc X J O b:=λb l=>by
  obtain rfl:b=a.ao:=by simpa using l
  exact c.ig (aK _) (c.aJ.fresh (aK _))
 cases g:x.cps.all (· < 128)
 ·refine wpAny_pyIter_wide g ?_
  exact⟨a.ao,[a.ao],_,_,O,rfl,f _,vZ a.ao x t "str_iterator" (by decide) (λm d=>Walks.strWide d _ x t) (λ_ _ _ _ _ st h=>wpAny_pyIter_striter_wide st h),⟨bp _,_,bK _ rfl,rfl,rfl⟩,fp,q⟩
 ·refine wpAny_pyIter_ascii g ?_
  exact⟨a.ao,[a.ao],_,_,O,rfl,f _,vZ a.ao x t "str_ascii_iterator" (by decide) (λm d=>Walks.strAscii d _ x t) (λ_ _ _ _ _ st h=>wpAny_pyIter_striter_ascii st h),⟨bp _,_,bK _ rfl,rfl,rfl⟩,fp,q⟩
theorem FX{g:TG}(Pv:Nat->List V->St->Hp->Prop)(l:Pv 0 [] d0 (upd O p (.lst [])))(n:∀i ys a H,Pv i ys a H->H p=bm ys)
  (o:∀i c ys a H,x.cps[i]?=ih c->Pv i ys a H->g (.str ⟨#[c]⟩) a H λf q=>ti f q λb h=>if b=true then te f h λy j=>j p=bm ys/\ys.length<OY /\∃d,d<x.cps.size - i/\CW Pv x.cps.size (i+1) d (ys++[y]) f (upd j p (.lst (ys++[y]))) else ∃d,d<x.cps.size - i/\CW Pv x.cps.size (i+1) d ys f h)
  (r:∀ys a H,Pv x.cps.size ys a H->Q (.ref p) H):gg (tI x) g ti te d0 Q p O:=by
 refine⟨CW Pv x.cps.size,⟨x.cps.size,by simp,bp _,l⟩,?_⟩
 rintro i m ys a H ⟨rfl,hi,pv⟩;refine⟨n i ys a H pv,?_⟩
 by_cases k:i<x.cps.size
 ·refine .inr ⟨k,λv w s=>?_⟩
  obtain⟨t,c,u,rfl⟩:=s;subst t;exact o i c ys a _ u pv
 ·have e:i=x.cps.size:=by omega
  subst e;exact .inl ⟨aK _,r ys a H pv⟩
end L2
namespace HT
open PyProof.Rows W L2
theorem Dy(a:OT)(vs:Array i')(n:Nat)(u:Vv)(sl:Array (Option i')) :
  Meets (SA.«object.__getattribute__» ⟨[.ref a,.str "keys" u],[]⟩) (λA R s=>s.heap.get? a=ih { cls:=.type "tuple",dict:=none,data:=.seq vs n,slots:=sl }/\raisesAttr (.ref a) "keys" A R s):=
 meets_getattribute_miss_tuple a vs n sl "keys" u (by rw[CS,CT];kernel_rfl) (by decide +kernel) (by rw[aQ];decide +kernel)
theorem FY{vs:Array i'}{n:Nat}{sl:Array (Option i')}{Q:a2 i'->OX->Prop}(i:s.heap.get? a=ih { cls:=.type "tuple",dict:=none,data:=.seq vs n,slots:=sl })(k:A.handled=none)
  (h:∀h' tk,(∀b o,s.heap.get? b=ih o->h'.get? b=ih o)->Q none { s with heap:=h',toks:=tk }):OZ (Pb prog w) A (getAttr? (.ref a) "keys") Q E s:=by
 obtain⟨l,g,d,tk,os⟩:=s;have j:∀c,(⟨l,g,d,c,os⟩:OX).TypeIs (.ref a) "tuple" :=λ_=>⟨_,i,rfl⟩;have m:=sub_AttributeError;have p:=CU.lookup;have q:=CU.bind (.ref a);have r:=am_tuple_getattr_none;unfold getAttr? getAttrBy? getAttrBy
 repeat (any_goals (first|assumption|exact j _|((with_reducible show OZ _ _ (call (Td "tuple.__getattribute__") _ _) _ _ _);refine qg CU (j _) am_entry_tuple_getattribute (F.args_tuple_getattribute_2 _ _) (Dy a vs n _ sl) ⟨i,k,λh' c e f=>?_⟩)|wp_step))
 obtain⟨t',t,u⟩:=f.there;show OZ _ _ (getattributeRaised _ _ _ _ _ _ _) _ _ _;unfold getattributeRaised
 repeat (any_goals (first|assumption|wp_step))
 exact h h' c f.keeps
section
variable{R:Ug->OX->Prop}{t:OT}{vs:Array i'}
theorem FZ{Q:Unit->OX->Prop}{T:OT}{x y:i'}{k:Key}{kvs:am (Key×i')}{i:Int}(a:S0 s.heap T #[x,y])(g:(cu prog w).is k x=true)(h:s.heap.DictOf (cu prog w) d kvs)(new:k ∉ kvs.map (·.1))(hz:kvs.length<=OY)
  (q:∀h' tk,h'.DictOf (cu prog w) d (kvs++[(k,y)])->Sn d s.heap h'->Q () { s with heap:=h',toks:=tk }) :
  OZ (Pb prog w) A (holding [Pk T] (do
   let c <- (T' (.ref T)).tryCatch λe=>do
    if !(<- isInstance e (.type "TypeError")) then throw e
    rule "dict.update.element-no-sequence"
    raiseError "TypeError" s!"cannot convert dictionary update sequence element #{i} to a sequence"
   match c with
   |[k,v]=>holding [k,v] (dictSet d k v)
   |l =>
    rule "dict.update.element-length"
    raiseError "ValueError" s!"dictionary update sequence element #{i} has length {l.length}; 2 is required")) Q E s:=by
 refine dO (ab (wpAny_tryCatch ?_));unfold T';refine ab (jX a.typeIs ?_);rw[aB (by decide)]
 obtain⟨o,j,_,n,f⟩:=a;refine ab (wpAny_seqItems j f (ai ?_));show OZ _ _ (holding [x,y] (dictSet d x y)) _ _ _;refine dO (wpAny_dictSet_pairs (hsz:=hz) g h λh' b m=>?_);rw[stored_new new]at b;exact q h' _ b m
theorem Hj(S:A.in1.handled=none)(l:d≠it)(z:d≠t)(B:t≠it)(ps:am (Key×i'))(E:(ps.map (·.1)).Nodup)(hz:ps.length<=OY)(hsz:vs.size=ps.length)(hv:S0 g t vs)
  (L:∀(i:Nat) p,ps[i]?=ih p ->∃a x,vs[i]?=ih (.ref a)/\a≠it/\a≠d/\S0 g a #[x,p.2]/\(cu prog w).is p.1 x=true) :
  ∀(m k:Nat) (s:OX),ps.length - k=m->k<=ps.length->IsTupIter s.heap it t k->s.heap.DictOf (cu prog w) d (ps.take k) ->
   (∀b o,b≠it->b≠d->g.get? b=ih o->s.heap.get? b=ih o) ->
   (∀h' tk,h'.DictOf (cu prog w) d ps->(∀b o,b≠it->b≠d->g.get? b=ih o->h'.get? b=ih o)->R (.ok (.ret .none)) { s with heap:=h',toks:=tk }) ->
   codeAny (Pb prog w) A (.builtin "dict.update.loop" ⟨[.ref d,.ref it,rawInt k,.none],[]⟩) R s:=by
 have q:∀{b:OT}{us:Array i'}{h:SN},b≠it->b≠d->(∀b o,b≠it->b≠d->g.get? b=ih o->h.get? b=ih o)->S0 g b us->S0 h b us:=λn1 T kp ⟨o,U,r⟩=>⟨o,kp _ _ n1 T U,r⟩;intro m
 induction m with
 |zero =>
  intro k s V W u v kp y;have X:k=ps.length:=by omega
  refine gN vn (?_:OZ _ _ _ _ _ _);rw[hI nU _];show OZ _ A.in1 (pyNext (.ref it) >>= _) _ _ s;refine ab (next_tuple_end S u (q B z.symm kp hv) (by simp;omega) λh' F=>?_)
  refine ab (m:=Wo d []) (ai (ai ?_));have j:h'.DictOf (cu prog w) d (ps.take k):=v.at λo e=>F d o l e;rw[X,cj]at j;exact y h' s.toks j λb o c f e=>F b o c (kp b o c f e)
 |succ m Y =>
  intro k s V W u v kp y;have n:k<ps.length:=by omega
  have G:ps[k]?=ih ps[k]:=bB n;obtain⟨a,x,M,N,O,I,J⟩:=L k _ G;have P:ps.take (k+1)=ps.take k++[ps[k]]:=by rw[dd,G];rfl
  have new:ps[k].1 ∉ (ps.take k).map (·.1):=λw=>by
   have e:ps.map (·.1)=(ps.take k).map (·.1)++(ps.drop k).map (·.1):=by rw[<-bo,lx]
   rw[e,eg]at E;refine E.2.2 _ w _ ?_ rfl;rw[iK n];exact aS
  refine gN vn (?_:OZ _ _ _ _ _ _);rw[hI nU _];show OZ _ A.in1 (pyNext (.ref it) >>= _) _ _ s;refine ab (next_tuple_item u (q B z.symm kp hv) M λh' Q H=>?_);have C:∀b o,b≠it->b≠d->g.get? b=ih o->h'.get? b=ih o:=λb o c f e=>H.extBut b o c (kp b o c f e);have j:h'.DictOf (cu prog w) d (ps.take k):=v.at λo e=>H.extBut d o l e;refine ab (FZ (s:={ s with heap:=h' }) (k:=ps[k].1) (q N O C I) J j new (by rw[b9];omega) λxa tk K D=>?_)
  rw[show((k:Int)+1)=((k+1:Nat):Int) from rfl];exact ai ⟨iL nU _,Y (k+1) _ (by omega) n (Q.extBut D.extBut l.symm) (by rw[P];exact K) (λb o c f e=>D.extBut b o f (C b o c f e)) y⟩
theorem DC{Q:i'->OX->Prop}(v:A.handled=none)(ps:am (Key×i'))(D:(ps.map (·.1)).Nodup)(hz:ps.length<=OY)(hsz:vs.size=ps.length){n:Nat}{sl:Array (Option i')}
  (hv:s.heap.get? t=ih { cls:=.type "tuple",dict:=none,data:=.seq vs n,slots:=sl })
  (y:∀(i:Nat) p,ps[i]?=ih p ->∃a x,vs[i]?=ih (.ref a)/\S0 s.heap a #[x,p.2]/\(cu prog w).is p.1 x=true)
  (q:∀d h' tk,s.ao<=d->h'.DictOf (cu prog w) d ps->(∀b o,s.heap.get? b=ih o->h'.get? b=ih o)->Q (.ref d) { s with heap:=h',toks:=tk }) :
  OZ (Pb prog w) A (call (.type "dict") [.ref t]) Q E s:=by
 refine callType_codes (Q₁:=λr m=>r=.ref s.ao/\m={ s with heap:=s.heap.push { cls:=.type "dict",data:=.dict #[] } }) F.kt_called_dict (F.kt_typeCall_dict_1 _) F.entry_dict_init (kt_code_dict_new _ ⟨rfl,rfl⟩) ?_;rintro r m ⟨rfl,rfl⟩;have dn:(s.heap.push { cls:=.type "dict",data:=.dict #[] }).DictOf (cu prog w) s.ao []:=Up s.heap;have k:∀b o,s.heap.get? b=ih o->(s.heap.push { cls:=.type "dict",data:=.dict #[] }).get? b=ih o:=λb o e=>aZ _ e;generalize s.heap.push { cls:=.type "dict",data:=.dict #[] }=U at dn k⊢;refine⟨dn.typeIs,F.args_dict_init_2 _ _,?_⟩;unfold SA.«dict.__init__»;refine ab ?_;unfold Wk;refine ab (uc dn.typeIs ?_);refine(ai ?_:OZ _ _ (pure (s.ao,[Pk t])) _ _ _);show OZ _ _ (T8 "dict.__init__" s.ao (.ref t) [] .none) _ _ _;unfold T8;have l:=k _ _ hv;refine ab (jX (T:= "tuple") ⟨_,l,rfl⟩ ?_);rw[aB (by decide)]
 refine ab (FY l v λc J h=>?_);rw[aB (by decide)]
 have z:S0 c t vs:=⟨_,h _ _ l,rfl,n,rfl⟩;refine ab (iG (ab (iter_tuple z ?_)));refine ai ⟨iL nU _,?_⟩;have G:∀b o,s.heap.get? b=ih o->c.get? b=ih o:=λb o e=>h b o (k b o e);have f:s.ao<c.objs.size:=by
  obtain⟨o,_,_,j,_⟩:=dn;exact br (h _ _ j)
 have B:c.DictOf (cu prog w) s.ao []:=dn.at λo e=>h _ o e;have lt:∀{b:OT}{o:Tp},s.heap.get? b=ih o->b<s.ao:=λe=>br e;refine Hj (A:=A.in1) (g:=s.heap) (it:=c.objs.size) v (bG f) (iH (lt hv)) (bG (lq (lt hv) f)) ps D hz hsz ⟨_,hv,rfl,n,rfl⟩ (λi p H=>?_) _ 0 _ rfl (bp _) ⟨_,bK _ rfl,rfl,rfl⟩ (B.at λo e=>aZ _ e) (λb o _ _ e=>aZ _ (G b o e)) λh' tk I kp=>?_
 ·obtain⟨a,x,h1,u,C⟩:=y i p H
  obtain⟨o,j,_⟩:=id u;exact⟨a,x,h1,bG (lq (lt j) f),bG (lt j),u,C⟩
 ·exact⟨rfl,q _ h' tk (aK _) I λb o e=>kp b o (bG (lq (lt e) f)) (bG (lt e)) e⟩
end
end HT
namespace L2
open Spec PyProof.Rows W HT
theorem vp:bU X (P4 .LtE) (λx y H Q=>∃i j,x=.str i/\y=.str j/\Q (.bl (!decide (j.cps.toList<i.cps.toList))) H):=by
 rintro J s σ H x y v u Q I a b ⟨i,j,ex,c,q⟩;subst ex c;obtain⟨t,rfl⟩:=a;obtain⟨t',rfl⟩:=b;exact P.le_str (b7 I q rfl)
def Ap(H:Hp)(vs:List V)(kvs:List (CY×V)):Prop:=Sl (λy p=>∃a,y=V.ref a/\H a=ih (.tup [.str p.1,p.2])) vs kvs
def kE(kvs:List (CY×V)):List (Key×V):=kvs.map λp=>(Ct p.1,p.2)
theorem wX:∀(kvs:am (CY×V)) (ys:am i'),ys.length=kvs.length->(∀(i:Nat) (hi:i<kvs.length),∃y,ys[i]?=ih y/\RelV kvs[i].2 y)->KV (kE kvs) ((kvs.map λp=>(Ct p.1:Key)).zip ys)
 |[],ys,h,_=>.nil
 |p::kvs,[],h,_=>by simp at h
 |p::kvs,y::ys,h,f=>by
  obtain⟨a,e,r⟩:=f 0 (by simp)
  obtain rfl:y=a:=by simpa using e
  exact .cons ⟨rfl,r⟩ (wX kvs ys (by simpa using h) λi hi=>by
   obtain⟨b,c,d⟩:=f (i+1) (Nat.succ_lt_succ hi);exact⟨b,by simpa using c,d⟩)
theorem uA:cT X (.type "tuple") (λxs H Q=>∃p ys,xs=[.ref p]/\aq X.K H p ys /\∀l o,H l=none->o.dict=none->Q (.ref l) (upd H l (.bw o (.tup ys)))):=by
 rintro J s σ H xs us Q I r ⟨p,ys,ex,d,q⟩;subst ex;obtain⟨u,rfl,f⟩:=vals1 r;cases f
 obtain⟨its,a,g,h⟩:=I.list d;have i:=a.length;refine call_tuple_list g.isList (λh' kp=>?_) (by simp only[bL] <;> omega)
 have c:Inv X J σ H { s with heap:=h' }:=I.kept (t':=s.toks) kp;refine⟨.ref h'.objs.size,_,c.laid (o:=.bw { cls:=.type "tuple",data:=.seq its.toArray } (.tup ys)) (t':=s.toks) (λb o e=>aZ _ e) (aK _) ⟨bK _ rfl,h,its,a,ib.new _ _⟩,rfl,q _ _ (c.aJ.fresh (aK _)) rfl⟩
end L2
namespace L2
open W
def Jq(_ j:Int):Prop:=0<j/\j<4611686018427387904
theorem F0:bU X (S1 .FloorDiv) (rI Jq λi j=>.int (i / j)):=k2 λi j _ _ _ _ _ a q=>by
 have h1:(0:Int)<j:=a.1;have U:j<4611686018427387904:=a.2;refine Wf (by omega) (by rw[O0 i (by omega)];exact q) (.inl (PyProof.noPylong_of_log2 ?_))
 have b:j.natAbs<2 ^ 62:=by omega
 have c:j.natAbs.log2<62:=(Nat.log2_lt (by omega)).mpr b
 omega
end L2
namespace L2
open W Calls PyProof.Rows
section
variable{α β:Type}{n:Nat}
def Pm(n:Nat)(p:Array Nat):Prop:=p.toList.Perm (Sj n)
theorem Pm.lt{p:Array Nat}(h:Pm n p)(a:0<n)(i:Nat):p.getD i 0<n:=by
 rw[hK];cases e:p[i]? with
 |none=>exact a
 |some x =>
  have:x∈p.toList:=U4.mp (Pg e);exact iE.mp (h.mem_iff.mp this)
theorem Pm.rev{p:Array Nat}(h:Pm n p)(i j:Nat):Pm n (kas_rev p i j):=(Ph.mp (mirror_perm p i j _)).trans h
theorem Pm.LP{p:Array Nat}(h:Pm n p)(i j:Nat):Pm n (bubble p i j):=(Ph.mp (bubble_perm p i j)).trans h
theorem Aq{γ:Type}{p:Array Nat}{vs:am γ}(d:γ)(h:Pm vs.length p):(p.toList.map λi=>vs.getD i d).Perm vs:=by
 have h1:=WZ (λi=>vs.getD i d) h;refine h1.trans (WY ?_)
 apply CV
 ·simp
 ·intro i h1 U
  simp[Ts,U]
end
theorem qE{α β:Type}{F:α->β->Prop}{l b:am α}(h:b.Perm l):∀{m:am β},Sl F l m ->∃a,a.Perm m/\Sl F b a:=by
 induction h with
 |nil=>intro m p;exact⟨m,.refl _,p⟩
 |cons x _ f =>
  intro m p;cases p with
  |cons q t =>
   obtain⟨a,e,r⟩:=f t;exact⟨_::a,e.cons _,.cons q r⟩
 |swap x y l =>
  intro m p;cases p with
  |cons q t =>
   cases t with
   |cons g t=>exact⟨_,Tg _ _ _,.cons g (.cons q t)⟩
 |trans _ _ c d =>
  intro m p;obtain⟨o,i,p2⟩:=d p;obtain⟨j,k,n⟩:=c p2;exact⟨j,k.trans i,n⟩
theorem ID{o:HO}(x:bO P w H h a o):∃q,h.get? a=ih q:=by
 cases o with
 |lst xs=>obtain⟨_,_,_,_,e⟩:=x;exact⟨_,e⟩
 |tup xs=>obtain⟨_,_,_,q,e,_⟩:=x;exact⟨q,e⟩
 |dK kvs=>obtain⟨_,_,_,_,o,_,_,e,_⟩:=x;exact⟨o,e⟩
 |dT kvs=>obtain⟨_,_,_,_,o,_,_,e,_⟩:=x;exact⟨o,e⟩
 |set S n=>obtain⟨o,_,_,_,e,_⟩:=x;exact⟨o,e⟩
 |ins C dx fs=>obtain⟨_,_,_,e,_⟩:=x;exact⟨_,e⟩
 |own y=>exact x
 |xd fs=>obtain⟨_,⟨o,_,_,e,_⟩,_⟩:=x;exact⟨o,e⟩
 |pT lo hi=>obtain⟨_,_,_,e⟩:=x;exact⟨_,e⟩
 |bw q u=>exact⟨q,x.1⟩
 |i9 ps=>exact⟨_,x⟩
 |met f y=>exact⟨_,x⟩
 |ext b=>exact x.2.1
theorem Inv.sorted{σ:am (Option V)}{m:CY->Option i'}{ys:am V}{out:am i'}{c:Nat}(I:Inv X J σ H s)(B:s.heap.Ns X.env.locals m)(i:h'.Ns X.env.locals m)
  (k:∀b o,b≠X.env.locals->s.heap.get? b=ih o->h'.get? b=ih o) (t:∀b o,s.heap.get? b=ih o->b≠D) (new:h'.get? D=ih (listOf out.toArray c)) (r:Vals ys out) (hz:ys.length<=OY) :
  H D=none/\Inv X J σ (upd H D (.lst ys)) { s with heap:=h',toks:=t' }:=by
 have y:∀b u,H b=ih u ->∃o,s.heap.get? b=ih o:=λb u e=>ID (I.aJ b u e);have w:H D=none:=by
  cases q:H D with
  |none=>rfl
  |some u =>
   obtain⟨o,e⟩:=y D u q;exact absurd rfl (t D o e)
 have d:∀b u,H b=ih u->b≠D:=λb u e z=>by rw[z,w]at e;cases e
 have j:∀b u,H b=ih u->b≠X.env.locals:=λb u e z=>by rw[z,I.free]at e;cases e
 refine⟨w,I.step (g':=s.gens) (d':=s.drawn) (ch:=[]) (λ_ z=>nomatch z) (λb o g _ _ e _=>k b o g e) (λb o g _ _ e _=>⟨o.slots,k b o g e⟩) (λb o _ e n=>by rw[ag (t b o e)];exact n) (λb o _ e=>?_)
  (λb xs e=>by rw[ag (d b _ e)];exact e) (λb o u e=>by rw[ag (d b _ e)];exact e) (λb ps e=>⟨#[],by rw[ag (d b _ e),e];simp⟩) (λC q=>?_) (λb u e=>?_) I.bare⟩
 ·by_cases f:b=X.env.locals
  ·obtain⟨o',es,ep,h,_⟩:=i
   exact⟨o',by rw[f];exact h⟩
  ·exact⟨o,k b o f e⟩
 ·obtain⟨o,es,ep,h,E,N,F⟩:=B
  obtain⟨O,K,L,l,p,M,A⟩:=q;rw[h]at l;cases l;rw[E]at p;cases p;have:C=m:=funext λx=>(A x).symm.trans (F x);rw[this];exact i
 ·by_cases f:b=D
  ·subst f
   rw[af]at e;cases e;exact⟨hz,out,c,r,new⟩
  ·rw[ag f]at e
   refine(I.aJ b u e).gi (λa v G q=>k a v ?_ q) (λa q=>by rw[ag (d a _ q)];exact q) λa xs q=>by rw[ag (d a _ q)];exact q
   rcases G with z|z
   ·rw[z];exact j b u e
   ·exact j a _ z
theorem EY{B:SV}{n:Nat}{R:Ui->OX->Prop}(h:s.heap.get? a=ih (seqObj "list" us.toArray n))(a7:us.length<2)
  (k:∀c g,(∀b o,b≠a->s.heap.get? b=ih o->g.get? b=ih o)->g.get? a=ih (listOf us.toArray c)->R (.done (.ret .none)) { s with heap:=g }):OZ (Pb P w) B (SA.«list.sort» ⟨[.ref a],[]⟩) R E s:=by
 obtain⟨ep,j⟩:∃ep,(s.heap.update a (Sm λ_=>(#[]:Array i'))).get? a=ih (seqObj "list" #[] ep):=⟨_,get?_update_seq h λ_=>#[]⟩;have f:us.toArray.size<=OY:=by rw[aQ,bL];omega
 have small:us.toArray.size<2:=by simpa using a7
 rw[list_sort_plain];refine ab (listItems_at h rfl (ab (listUpdate_at h rfl (ab (seqEpoch_at j rfl (ab (wpAny_newTuple (ab (ud (dO ?_) (bp _))) (by simpa using f))))) f (bp _))))
 have two:∀b o,(s.heap.update a (Sm λ_=>(#[]:Array i'))).get? b=ih o->(((s.heap.update a (Sm λ_=>(#[]:Array i'))).push (seqObj "tuple" us.toArray 0)).push (seqObj "list" #[] 0)).get? b=ih o:=λb o q=>aZ _ (aZ _ q)
 change OZ (Pb P w) B _ R E { s with heap:=((s.heap.update a (Sm λ_=>(#[]:Array i'))).push (seqObj "tuple" us.toArray 0)).push (seqObj "list" #[] 0) }
 have d:=two _ _ j;have i:∀b o,b≠a->s.heap.get? b=ih o->(((s.heap.update a (Sm λ_=>(#[]:Array i'))).push (seqObj "tuple" us.toArray 0)).push (seqObj "list" #[] 0)).get? b=ih o:=λb o e q=>two b o (((ly s.heap a _).2 b e).trans q);generalize (((s.heap.update a (Sm λ_=>(#[]:Array i'))).push (seqObj "tuple" us.toArray 0)).push (seqObj "list" #[] 0))=g at d i⊢
 dsimp only
 rw[aB small,aB small];refine ab (ai (ab (ai ?_)));have same:(arrOf (SortSt.mk' general' (us.toArray.zip us.toArray) #[] 7 none)).map (·.2)=us.toArray:=t6.mp (by show((us.toArray.zip us.toArray).map (·.2)).toList=_;simp[List.map_snd_zip])
 dsimp only
 rw[same];refine ab (seqEpoch_at d rfl (ab (listUpdate_at d rfl ?_ (bp _) (CZ f))));obtain⟨c,l⟩:∃c,(g.update a (Sm λ_=>us.toArray)).get? a=ih (seqObj "list" us.toArray c):=⟨_,get?_update_seq d λ_=>us.toArray⟩;simp only[bne_self_eq_false,gr,ng];exact ai (k c _ (λb o e q=>((ly g a _).2 b e).trans (i b o e q)) l)
theorem vq{γ:Type}{f:γ->V}{g:γ->i'}(h:∀x,RelV (f x) (g x)):∀l:am γ,Vals (l.map f) (l.map g)
 |[]=>.nil
 |x::l=>.cons (h x) (vq h l)
end L2
namespace L2
open W Spec PyProof.Rows
def BY(a b:CY):Prop:=a.cps.toList<=b.cps.toList
theorem F1{a b:CY}(h1:BY a b)(U:BY b a):a=b:=by
 have e:a.cps.toList=b.cps.toList:=List.le_antisymm h1 U;cases a;cases b
 exact b2 Str.mk (t6.mp e)
theorem vr:∀{us:am i'}{a:am CY},SR us a->Vals (a.map V.str) us
 |_,_,.nil=>.nil
 |_,_,.cons _ t r=>.cons ⟨t,rfl⟩ (vr r)
end L2
namespace HS
open Spec PyProof.Rows
theorem Hk(t:TK)(es:Array (Int×i'))(z:Int)(x:i'):(layNew t es z x).2.1.led=t.led:=by
 unfold layNew;split
 ·dsimp only
  unfold W9;split <;> rfl
 ·rfl
theorem El{t u:TK}{zs:Array Int}{n:Nat}{b:Array Nat}(e:t.relaid zs n=ih (u,b)):u.led=t.led/\u.plain=t.plain:=by
 unfold W8 Xa at e;cases c:W' (W7 n - 1) zs with
 |none=>rw[c]at e;cases e
 |some ow =>
  rw[c]at e;have d:=c3 e;have a:=b2 Prod.fst d
  dsimp only at a
  rw[<-a];exact⟨rfl,rfl⟩
theorem DW(t:TK)(es:Array (Int×i'))(n:Nat):(relayAll t es n).2.1.led=t.led/\(t.plain=false->(relayAll t es n).2.1.plain=false):=by
 unfold relayAll;split
 ·rename_i u a e
  obtain⟨h1,U⟩:=El e
  dsimp only
  split
  ·exact⟨h1,λz=>U.trans z⟩
  ·exact⟨rfl,λ_=>rfl⟩
 ·exact⟨rfl,λ_=>rfl⟩
def dm(P:SD)(w:SQ)(h:SN)(a:OT)(xs:List CY):Prop:=
 ∃o es ep t,h.get? a=ih o/\o.ExactSet/\o.data=.set es ep t/\Vk (strKind P w) es.toList/\(∀k,k∈xs ↔ ∃e∈es.toList,(strKind P w).is k e.2=true) /\
  es.size<scanBound/\t.fits es.size=true/\es.size=xs.length/\t.led=(!w.params.followText "set-order")/\(es.size≠0->t.plain=false)
theorem dm.keep{xs:am CY}(x:dm P w h a xs)(k:∀o,h.get? a=ih o->h'.get? a=ih o):dm P w h' a xs:=let ⟨o,es,ep,t,e,r⟩:=x;⟨o,es,ep,t,k o e,r⟩
theorem dm.lt{xs:am CY}(x:dm P w h a xs):a<h.objs.size:=let ⟨_,_,_,_,e,_⟩:=x;br e
theorem dm.typeIs{xs:am CY}(x:dm P w s.heap a xs):s.TypeIs (.ref a) "set" :=let ⟨o,_,_,_,e,c,_⟩:=x;⟨o,e,c.1⟩
theorem F2(e:h.get? a=ih { cls:=.type "set",dict:=none,data:=.set #[] 0 (.fresh 0 0 (!w.params.followText "set-order")) }):dm P w h a []:=
 ⟨_,#[],0,_,e,⟨rfl,rfl,rfl⟩,rfl,λz b=>(by simp at b),λk=>(by simp),by decide,by rfl,rfl,rfl,λz=>absurd rfl z⟩
def eZ(xs:List CY)(k:CY):List CY:=if k∈xs then xs else xs++[k]
section
variable{xs:am CY}
theorem v7{es b:Array (Int×i')}{t t':TK}(g:h.get? a=ih o)(i:o.ExactSet)(c:o.data=.set es ep t)(f:Vk (strKind P w) b.toList)
  (j:∀k,k∈ys ↔ ∃e∈b.toList,(strKind P w).is k e.2=true) (l:b.size<scanBound) (m:t'.fits b.size=true) (n:b.size=ys.length) (p:t'.led=(!w.params.followText "set-order")) (q:t'.plain=false) :
  (h.update a (T3 b t')).get? a=ih { o with data:=.set b (ep+1) t' }/\dm P w (h.update a (T3 b t')) a ys:=by
 have d:(h.update a (T3 b t')).get? a=ih { o with data:=.set b (ep+1) t' }:=by
  have z:=qf (T3 b t') g (by rw[putSet_of b t' c];rfl)
  rw[putSet_of b t' c]at z;exact z
 exact⟨d,_,b,ep+1,t',d,i,rfl,f,j,l,m,n,p,λ_=>q⟩
theorem F3{k:CY}{Q:Bool->OX->Prop}(ye:dm P w s.heap a xs)(room:xs.length+1<scanBound)(h:∀h',Sn a s.heap h'->dm P w h' a (eZ xs k) ->∀b,Q b { s with heap:=h' }) :
  OZ (Pb P w) A (setAddHashed a (.str k tk) (hashStr w k)) Q E s:=by
 obtain⟨o,es,ep,t,m,H,n,B,v,ya,K,ze,F,xc⟩:=ye;have x:(strKind P w).is k (.str k tk)=true:=by show S4 k (.str k tk)=true;simp[S4]
 have I:(To k tk).scannable=true:=rfl;have yg:es.size+1<scanBound:=by omega
 unfold setAddHashed setAddHashedIn;refine dO (ab (gu m n K ?_));dsimp only;rw[byScan_of (knd:=strKind P w) I ya B,aB rfl];refine ab ?_;unfold setAddByScan;refine ab (iG (ab (wpAny_setScan_of (knd:=strKind P w) (k:=k) x m n K B ?_)));cases za:List.findIdx? (λe=>(strKind P w).is k e.2) es.toList with
 |some j =>
  obtain⟨xf,yc,_⟩:=List.findIdx?_eq_some_iff_getElem.mp za;have C:k∈xs:=(v k).mpr ⟨es.toList[j],fw xf,yc⟩;refine ai (ai ?_);have yf:s={ s with heap:=s.heap }:=by cases s;rfl
  rw[yf];refine h s.heap (Wj a s.heap) ?_ _;unfold eZ;rw[aB C];exact⟨o,es,ep,t,m,H,n,B,v,ya,K,ze,F,xc⟩
 |none =>
  dsimp only
  have C:k ∉ xs:=λz=>by
   obtain⟨e,he,i⟩:=(v k).mp z;have:=List.findIdx?_eq_none_iff.mp za e he;rw[i]at this;cases this
  have xb:∀(b:Bool) {G:OX}{M:Unit->OX->Prop},M () G->OZ (Pb P w) A (match b with|true=>rule "set.scan.the-table-gave-way" | false=>pure ()) M E G:=λb G M yb=>by
   cases b
   ·exact ai yb
   ·exact iG yb
  have g:=layNew_perm t es ((strKind P w).hash k) (.str k tk);have u:=layNew_fits t es ((strKind P w).hash k) (.str k tk);have y:=Hk t es ((strKind P w).hash k) (.str k tk);generalize zf:layNew t es (hashStr w k) (.str k tk)=L;rw[show(strKind P w).hash k=hashStr w k from rfl,zf]at g u y;obtain⟨c,p,xg,zg⟩:=L
  dsimp only at g u y⊢
  rw[Pj]at g;have S:Vk (strKind P w) c.toList:=(B.push (k:=k) x I).perm g;have xh:c.size=es.size+1:=by rw[<-eT,g.length_eq,cQ,eT];rfl
  have O:∀f,f∈eZ xs k ↔ ∃e∈c.toList,(strKind P w).is f e.2=true:=λf=>by
   unfold eZ;rw[au C,cq,b3,v f]
   constructor
   ·rintro(⟨e,he,i⟩|rfl)
    ·exact⟨e,g.mem_iff.mpr (hE _ he),i⟩
    ·exact⟨_,g.mem_iff.mpr (ee _ (b3.mpr rfl)),x⟩
   ·rintro⟨e,he,i⟩
    rcases cq.mp (g.mem_iff.mp he) with he|he
    ·exact .inl ⟨e,he,i⟩
    ·rw[b3]at he;subst he
     exact .inr ((strKind P w).inj _ f k i x)
  have zc:c.size=(eZ xs k).length:=by unfold eZ;rw[au C,cQ,j0];omega
  have U:c.size<scanBound:=by omega
  refine ab (xb _ ?_);have T:∀d:TK,d.fits c.size=true->d.led=t.led->d.plain=false->OZ (Pb P w) A (do
    storeSet a c d
    if (!xg&&d.tooFull)=true then do
      let r:=relayAll d c (Ti c.size)
      (match r.2.2 with|true=>rule "set.scan.the-table-gave-way" | false=>pure ())
      storeSet a r.1 r.2.1
      pure (ih true)
     else pure (ih true)) (λr s'=>OZ (Pb P w) A (match r with|some zb=>pure zb|none=>setAddHashedIn a (.str k tk) (hashStr w k) 99999) Q E s') E s:=by
   intro d xd V W;obtain⟨X,yd⟩:=v7 (P:=P) (w:=w) m H n S O U xd zc (V.trans F) W;have Y:=ly s.heap a (T3 c d);refine ab (wpAny_storeSet_of m n ?_ (ue U));split
   ·have l:=relayAll_perm d c (Ti c.size)
    have N:=relayAll_fits d c (Ti c.size);have D:=DW d c (Ti c.size)
    dsimp only
    generalize relayAll d c (Ti c.size)=R at l N D⊢;obtain⟨xa,yh,zh⟩:=R
    dsimp only at l N D⊢
    have b8:xa.size=c.size:=by rw[<-eT,l.length_eq,eT]
    have zd:∀f,f∈eZ xs k ↔ ∃e∈xa.toList,(strKind P w).is f e.2=true:=λf=>(O f).trans ⟨λ⟨e,he,q⟩=>⟨e,l.mem_iff.mpr he,q⟩,λ⟨e,he,q⟩=>⟨e,l.mem_iff.mp he,q⟩⟩;obtain⟨_,xe⟩:=v7 (P:=P) (w:=w) X H rfl (S.perm l) zd (by omega) N (by omega) (D.1.trans (V.trans F)) (D.2 W)
    refine ab (xb _ (ab (wpAny_storeSet_of X rfl ?_ (ue (by omega)))))
    exact ai (ai (h _ (Y.trans (ly _ a _)) xe _))
   ·exact ai (ai (h _ Y yd _))
  by_cases J:p.plain=true
  ·rw[aB J]
   refine ab ?_;rw[hashByValue_scannable 8 I];refine ai ?_;show OZ (Pb P w) A (do
    storeSet a c { p with plain:=false }
    _) _ E s
   exact T { p with plain:=false } (Xb u) y rfl
  ·rw[au J]
   refine ab (ai ?_);show OZ (Pb P w) A (do
    storeSet a c p
    _) _ E s
   exact T p u y (by simpa using J)
end
def fO(val:Nat->CY)(i:Nat):List CY:=((Sj i).map val).foldl eZ []
theorem nV(val:Nat->CY)(i:Nat):fO val (i+1)=eZ (fO val i) (val i):=by
 unfold fO;rw[US,bo,List.foldl_append];rfl
theorem F4(xs:am CY)(k:CY):(eZ xs k).length<=xs.length+1:=by
 unfold eZ;split
 ·omega
 ·rw[cQ,j0];omega
theorem Hl{xs:am CY}(h:xs.Nodup)(k:CY):(eZ xs k).Nodup:=by
 unfold eZ;split
 ·exact h
 ·rename_i c
  rw[eg];exact⟨h,by simp,λa d b f e=>c (by rw[<-(b3.mp f),<-e];exact d)⟩
theorem F5{xs:am CY}{k y:CY}:y∈eZ xs k ↔ y∈xs\/y=k:=by
 unfold eZ;split
 ·rename_i h
  exact⟨.inl,λz=>z.elim id λe=>e ▸ h⟩
 ·rw[cq,b3]
theorem v8(val:Nat->CY):∀i,(fO val i).length<=i
 |0=>aK _
 |i+1=>by rw[nV];have:=F4 (fO val i) (val i);have:=v8 val i;omega
theorem wY(val:Nat->CY):∀i,(fO val i).Nodup
 |0=>fz
 |i+1=>by rw[nV];exact Hl (wY val i) _
theorem v9(val:Nat->CY)(y:CY):∀i,y∈fO val i ↔ ∃j,j<i/\val j=y
 |0=>⟨λh=>(by cases h),λ⟨_,h,_⟩=>absurd h (ny _)⟩
 |i+1=>by
  rw[nV,F5,v9 val y i]
  constructor
  ·rintro(⟨j,h,e⟩|e)
   ·exact⟨j,by omega,e⟩
   ·exact⟨i,by omega,e.symm⟩
  ·rintro⟨j,h,e⟩
   by_cases c:j=i
   ·exact .inr (by rw[<-e,c])
   ·exact .inl ⟨j,by omega,e⟩
section
variable{R:Ug->OX->Prop}{wr:am OT}{G:Array UQ->Array UQ->Prop}{n:Nat}{Pv:Nat->i'->Prop}{St:Nat->OX->Prop}
theorem F6(W:WalksS P w A.in1 I fp wr G n Pv St)(S:OT)(d:S ∉ fp)(val:Nat->CY)(hv:∀i v,Pv i v ->∃t,v=.str (val i) t)(H:n+1<scanBound) :
  ∀(k i:Nat) (s:OX),n - i=k->i<=n->St i s->dm P w s.heap S (fO val i)->(∀s',Moved (S::wr) G s s'->dm P w s'.heap S (fO val n)->R (.ok (.ret .none)) s') ->
   codeAny (Pb P w) A (.builtin "set.update.loop" ⟨[.ref S,.ref I],[]⟩) R s:=by
 have f:S ∉ wr:=λz=>d (W.sub _ z);have g:∀b∈wr,b∈S::wr:=λb z=>a8 _ z;intro k
 induction k with
 |zero =>
  intro i s B hi st x q;obtain rfl:i=n:=by omega
  refine gN Uy ?_;rw[hI C0 _];show OZ _ A.in1 (pyNext (.ref I) >>= _) _ _ s;refine ab (W.done s _ _ st λs' m=>?_);show OZ _ A.in1 (ret P0) _ _ s';exact ai (q s' (m.mono g) (x.keep λo e=>m.heap S o f e))
 |succ k C =>
  intro i s B hi st x q;have lt:i<n:=by omega
  refine gN Uy ?_;rw[hI C0 _];show OZ _ A.in1 (pyNext (.ref I) >>= _) _ _ s;refine ab (W.item i s _ _ lt st λv s' D p m=>?_);obtain⟨t,rfl⟩:=hv i v D;have E:dm P w s'.heap S (fO val i):=x.keep λo e=>m.heap S o f e;show OZ _ A.in1 (holding [To (val i) t] (setAdd S (.str (val i) t)) >>= _) _ _ s';refine ab (dO ?_);unfold setAdd;have l:(strKind P w).is (val i) (.str (val i) t)=true:=by show S4 (val i) (.str (val i) t)=true;simp[S4]
  refine dO (ab ((strKind P w).pyHash (k:=val i) l ?_));have room:(fO val i).length+1<scanBound:=by have:=v8 val i;omega
  refine F3 (s:={ s' with toks:=s'.toks+1 }) E room λh' h j b=>?_;rw[<-nV]at j;refine ai ⟨iL C0 _,C (i+1) _ (by omega) lt (W.frame _ s' _ _ p (gq _) λc a o e=>?_) j λr u y=>?_⟩
  ·rw[h.2 c (λz:c=S=>d (by rw[<-z];exact a))];exact e
  ·refine q r (Moved.trans W.gtrans ((m.mono g).then_heap (gq _) λc o a e=>?_) u) y
   rw[h.2 c (λz:c=S=>a (by rw[z];exact aS))];exact e
end
abbrev ik(w:SQ):Tp:={ cls:=.type "set",dict:=none,data:=.set #[] 0 (.fresh 0 0 (!w.params.followText "set-order")) }
theorem DX(a:i'){Q₁:i'->OX->Prop}(h:Q₁ (.ref s.ao) { s with heap:=s.heap.push (ik w) }) :
  codeAny (Pb P w) A (.call (.builtin "set.__new__") ⟨[.type "set",a],[]⟩) (wants Q₁ E) s:=by
 refine CH ?_;show OZ _ A.in1 (do checkBuiltinCall "set.__new__" ⟨[.type "set",a],[]⟩;again (.builtin "set.__new__" ⟨[.type "set",a],[]⟩)) _ _ s;refine ab (uf (F.newCall_set_1 a) (ai ⟨iL Vr _,gN F.entry_set_new ?_⟩));rw[hI Vr _];unfold SA.«set.__new__» UZ;have b:=sub_set_self;obtain⟨c,g,d,tk,os⟩:=s;dsimp only
 wp_walk
 refine hH (ai ?_);dsimp only;simp only[newObj];refine ab (wpAny_alloc (ai ?_));exact ai h
structure Src(P:SD)(w:SQ)(T:String)(l:OT)(ol:Tp)(n:Nat)(Pv:Nat->i'->Prop):Prop where
 cls:ol.cls=.type T
 ns:isSubtype (.type T) (.type "set")=pure false
 nf:isSubtype (.type T) (.type "frozenset")=pure false
 nd:(S2 T==S2 "dict")=false
 iter:∀(A:SV) (s:OX),A.handled=none->s.heap.get? l=ih ol ->∃(oI:Tp) (St:Nat->SN->Prop),
  (∀(E:i'->OX->Prop) (Q:i'->OX->Prop),Q (.ref s.ao) { s with heap:=s.heap.push oI }->OZ (Pb P w) A (pyIter (.ref l)) Q E s) /\
  Walks P w A s.ao [s.ao,l] [s.ao] n Pv St/\St 0 (s.heap.push oI)
theorem EZ{n:Nat}{Pv:Nat->i'->Prop}{val:Nat->CY}{Q:i'->OX->Prop}(I:A.handled=none)(C:Src P w T l ol n Pv)(p:s.heap.get? l=ih ol)(hv:∀i v,Pv i v ->∃t,v=.str (val i) t)(a:n+1<scanBound)
  (h:∀(h':SN) (tk:Nat),dm P w h' s.heap.objs.size (fO val n)->(∀b o,b<s.heap.objs.size->s.heap.get? b=ih o->h'.get? b=ih o)->Q (.ref s.heap.objs.size) { s with heap:=h',toks:=tk }) :
  OZ (Pb P w) A (call (.type "set") [.ref l]) Q E s:=by
 obtain⟨zc,yc,zb⟩:=j1.mro;have za:=j1.made;have xc:=j1.sub;refine qe (CH ?_);show OZ _ _ (callAny (.type "set") _) _ _ _;refine ai ⟨Code.quiet_builtin _ (by decide +kernel),gN F.entry_type_call ?_⟩;rw[Around.under_plain (weight_type_call_type "set" [.ref l] []) rfl]
 have xd:=j1.notType;have yd:=j1.canCreate;have zd:=F.typeCall_set_1 (.ref l)
 repeat (any_goals (first|assumption|wp_step))
 refine m7 (DX (.ref l) (E:=E) (Q₁:=λk g=>k=.ref s.heap.objs.size/\g={ s with heap:=s.heap.push (ik w) }) ⟨rfl,rfl⟩) λr g d=>?_;cases r with
 |error e=>exact d
 |ok J =>
  cases J with
  |ret k =>
   obtain⟨rfl,rfl⟩:=d;have q:(s.heap.push (ik w)).get? s.heap.objs.size=ih (ik w):=bK _ rfl;have K:Tv { s with heap:=s.heap.push (ik w) } (.ref s.heap.objs.size) "set" :=⟨_,q,rfl⟩;have xe:=j1.init.lookup;have ye:=j1.init.bind (.ref s.heap.objs.size)
   repeat (any_goals (first|assumption|wp_step))
   refine m7 (codeAny_call_builtin (R:=wants (λr j=>r=.none /\∃h' tk,j={ s with heap:=h',toks:=tk }/\dm P w h' s.heap.objs.size (fO val n)/\(∀b o,b<s.heap.objs.size->s.heap.get? b=ih o->h'.get? b=ih o)) E) j1.init.plain F.entry_set_init (check_set_init_1 K ?_)) λx j c=>?_
   ·have B:(s.heap.push (ik w)).get? l=ih ol:=aZ _ p
    obtain⟨y,xb,yb,ya⟩:=ol;have z:y=.type T:=C.cls;subst z;have ns:=C.ns;have ze:=C.nf;have xf:=C.nd;unfold SA.«set.__init__» noKeywords UW;generalize D:pyIter=PI
    wp_walk
    subst D;obtain⟨yf,St,it,W,st⟩:=C.iter A.in1.in1.in1 { s with heap:=s.heap.push (ik w) } (by simp[I]) B
    refine wpAny_of_in1 (it _ _ ?_);refine ab (C1 ?_);have L:l<s.heap.objs.size:=br p;have M:s.heap.objs.size ∉ [(s.heap.push (ik w)).objs.size,l]:=by
     rw[gM];simp only[bu,b3,iN,iO,nz];exact⟨bG (jU _),iH L⟩
    refine F6 W.toS s.heap.objs.size M val hv a (n - 0) 0 _ (by omega) (bp _) st (F2 (aZ _ q)) ?_
    intro s' m f;obtain⟨h',N,O,G,H⟩:=s';have S:N=s.gens:=m.gens;have U:O=s.drawn:=m.drawn;have V:H=s.os:=m.os;subst S;subst U;subst V;show OZ _ _ _ _ _ _;refine ai ?_;show OZ _ _ (ret P0) _ _ _;refine ai ⟨rfl,h',G,rfl,f,λb o a e=>?_⟩;have X:b≠s.heap.objs.size:=bG a;have Y:b≠(s.heap.push (ik w)).objs.size:=by rw[gM];exact bG (lz a)
    exact m.heap b o (by simp only[bu,b3,iN,iO,nz];exact⟨X,Y⟩) (aZ _ (aZ _ e))
   ·cases x with
    |error e=>exact c
    |ok u =>
     cases u with
     |ret r =>
      obtain⟨rfl,h',tk,rfl,f,xa⟩:=c
      repeat (any_goals (first|assumption|wp_step))
      exact h _ _ f xa
     |_=>exact c.elim
  |_=>exact d.elim
theorem src_list(a:ol.cls=.type "list")(d:∃n,ol.data=.seq items n):Src P w "list" l ol items.size (λi v=>items[i]?=ih v) where
 cls:=a
 ns:=F.sub_list_set
 nf:=F.sub_list_frozenset
 nd:=by decide
 iter:=λA s e b=>by
  have c:s.heap.IsList l items:=⟨ol,b,a,d⟩;have lt:=br b;exact⟨_,_,λE Q q=>qd c q,Uz e _ l (bG lt) items,⟨_,bK _ rfl,rfl,rfl⟩,c.push _⟩
theorem Hm(a:ol.cls=.type "tuple")(d:∃n,ol.data=.seq items n):Src P w "tuple" l ol items.size (λi v=>items[i]?=ih v) where
 cls:=a
 ns:=F.sub_tuple_set
 nf:=F.sub_tuple_frozenset
 nd:=by decide
 iter:=λA s e b=>by
  have c:s.heap.IsTuple l items:=⟨ol,b,a,d⟩;have lt:=br b;exact⟨_,_,λE Q q=>wpAny_pyIter_tuple c q,Walks.tuple e _ l (bG lt) items,⟨_,bK _ rfl,rfl,rfl⟩,c.push _⟩
theorem j8:Slot "set_iterator" "__next__" "set_iterator.__next__" :=
 WU (owner:= "set_iterator") (n:= "__next__") (by rw[CS,CT];kernel_rfl) (by decide +kernel) (by decide +kernel) (by decide +kernel) (by first|exact .inl (by decide +kernel)|exact .inr (by decide +kernel)) (by rw[C2];kernel_rfl)
theorem DD:entryFor table "set_iterator.__next__" = ih SA.«set_iterator.__next__» :=entryFor_of_tree (by kernel_rfl)
theorem v':Xh.lookup (String.ofList "rotareti_tes".toList.reverse)=ih Xg:=by kernel_rfl
theorem DJ(a:i'):argsOk "set_iterator.__next__" ⟨[a],[]⟩:=by
 unfold argsOk;rw[signature?_of (id:= "set_iterator.__next__") (n:=['_','_','t','x','e','n','_','_']) (o:= "rotareti_tes".toList) (by kernel_rfl) v'];kernel_rfl
theorem nM:Slot "set_iterator" "__iter__" "set_iterator.__iter__" :=
 WU (owner:= "set_iterator") (n:= "__iter__") (by rw[CS,CT];kernel_rfl) (by decide +kernel) (by decide +kernel) (by decide +kernel) (by first|exact .inl (by decide +kernel)|exact .inr (by decide +kernel)) (by rw[C2];kernel_rfl)
theorem uB:entryFor table "set_iterator.__iter__" = ih SA.«dict_keyiterator.__iter__» :=entryFor_alias (id':= "dict_keyiterator.__iter__") (by kernel_rfl) rfl (by decide +kernel) (by kernel_rfl)
theorem uE(a:i'):argsOk "set_iterator.__iter__" ⟨[a],[]⟩:=by
 unfold argsOk;rw[signature?_of (id:= "set_iterator.__iter__") (n:=['_','_','r','e','t','i','_','_']) (o:= "rotareti_tes".toList) (by kernel_rfl) v'];kernel_rfl
theorem DK:entryFor table "set.__iter__" = ih SA.«frozenset.__iter__» :=entryFor_alias (id':= "frozenset.__iter__") (by kernel_rfl) rfl (by decide +kernel) (by kernel_rfl)
abbrev gG(first:i')(i:Nat)(a:OT)(n ep:Nat):Tp:={ cls:=.type "set_iterator",dict:=none,data:=.fields #[first,.int i 0,.ref a,.int n 0,.int ep 0],slots:= #[] }
section
variable{es:Array (Int×i')}{t:TK}
theorem n5{first:i'}{n:Nat}{Q:a2 i'->OX->Prop}(b:s.heap.get? I=ih (gG first i a n ep))(k:s.heap.get? a=ih o)(l:o.data=.set es ep t)(m:t.fits es.size=true)(p:es.size=n)
  (body:OZ (Pb P w) A.in1 (do
   if let .int j _:=first then
    match <- setNext a j.toNat ((i:Int)).toNat ((ep:Int)).toNat with
    |some (x,next) =>
     setField (.ref I) 0 (rawInt next)
     setField (.ref I) 1 (rawInt ((i:Int)+1))
     ret x
    |none=>setField (.ref I) 2 .none;raiseNew (<- newExc (.type "StopIteration") [])
   else
    let ih f <- seqItems? first|unsupported "internal:set_iterator"
    match f[((i:Int)).toNat]? with
    |some (.int g _) =>
     let x <- setNextDrawn a g.toNat ((ep:Int)).toNat
     setField (.ref I) 1 (rawInt ((i:Int)+1))
     ret x
    |some _=>unsupported "internal:set_iterator"
    |none=>setField (.ref I) 0 (rawInt 0);setField (.ref I) 2 .none;raiseNew (<- newExc (.type "StopIteration") []))
   (λc s'=>∃r,c=.done (.ret r)/\Q (ih r) s') (λe s'=>OZ (Pb P w) A (do if <- isInstance e (.type "StopIteration") then pure none else throw e) Q E s') s):OZ (Pb P w) A (pyNext (.ref I)) Q E s:=by
 have d:s.TypeIs (.ref I) "set_iterator" :=⟨_,b,rfl⟩;unfold pyNext;refine ab (lr (ll (name:=SE "__next__") d j8 (fu j8 d DD ?_ (DJ _))));unfold SA.«set_iterator.__next__»;refine ab (ai ?_)
 dsimp only
 refine ab (qm b rfl ?_)
 dsimp only
 refine ab ?_;unfold setEntries;refine ab (gu k l m (ai ?_))
 dsimp only
 rw[au (by rw[p];simp)]
 refine iF body (λc s' h=>?_) λe s' h=>?_
 ·obtain⟨r,rfl,q⟩:=h
  exact⟨r,rfl,ai q⟩
 ·exact h
theorem wc{Q:a2 i'->OX->Prop}(f:A.handled=none)(q:∀h',(∀b c,s.heap.get? b=ih c->h'.get? b=ih c)->Q none { s with heap:=h' }) :
  OZ (Pb P w) A.in1 (newExc (.type "StopIteration") [] >>= λe=>(raiseNew e:Ua Ui)) (λd s'=>∃r,d=.done (.ret r)/\Q (ih r) s') (λe s'=>OZ (Pb P w) A (do if <- isInstance e (.type "StopIteration") then pure none else throw e) Q E s') s:=by
 refine ab ?_;simp only[newExc,newTuple];refine ab (ed ?_ (by size_fits))
 refine ab (m:=firstArgMember _ _) (uf (a:=P0) (by first|rfl|(simp only[firstArgMember];rfl)) (ed ?_ (by size_fits)))
 simp only[raiseNew];refine ab (C3 ?_);rw[show A.in1.handled=none from f];refine ab (ai (wpAny_throw ?_));refine ab (ug (T:= "StopIteration") (b:=true) (show Tv _ _ _ from⟨_,bK _ rfl,rfl⟩) C4 ?_);exact ai (q _ λb c e=>aZ _ (aZ _ e))
theorem DE{b n d:Nat}{x:i'}{Q:a2 i'->OX->Prop}(c:s.heap.get? I=ih (gG (.int b 0) i a n ep))(f:s.heap.get? a=ih o)(g:o.data=.set es ep t)(h:t.fits es.size=true)(j:es.size=n)
  (cB:∀(k:i'->OX->Prop) (e:a2 (i'×Nat)->OX->Prop),e (ih (x,d)) s->OZ (Pb P w) A.in1 (setNext a b i ep) e k s)
  (q:∀h',h'.get? I=ih (gG (.int d 0) (i+1) a n ep)->Sn I s.heap h'->Q (ih x) { s with heap:=h' }):OZ (Pb P w) A (pyNext (.ref I)) Q E s:=by
 refine n5 c f g h j ?_;simp only[ft];refine ab (cB _ _ ?_);refine ab (hM c (by simp) λh1 l m=>?_)
 refine ab (hM l (by simp) λU p s2=>?_)
 exact ai ⟨x,rfl,q U (by rw[p];simp[rawInt]) (m.trans s2)⟩
theorem DL{d n:Nat}{Q:a2 i'->OX->Prop}(h:A.handled=none)(f:s.heap.get? I=ih (gG (.int d 0) i a n ep))(j:s.heap.get? a=ih o)(k:o.data=.set es ep t)(l:t.fits es.size=true)(m:es.size=n)
  (cB:∀(p:i'->OX->Prop) (g:a2 (i'×Nat)->OX->Prop),g none s->OZ (Pb P w) A.in1 (setNext a d i ep) g p s)
  (q:∀h',(∀b c,b≠I->s.heap.get? b=ih c->h'.get? b=ih c)->Q none { s with heap:=h' }):OZ (Pb P w) A (pyNext (.ref I)) Q E s:=by
 refine n5 f j k l m ?_;simp only[ft];refine ab (cB _ _ ?_);refine ab (hM f (by simp) λh1 x r=>?_)
 exact wc h λU u=>q U λb c v e=>u b c (by rw[r.2 b v];exact e)
theorem DF{pt:OT}{ps:am Nat}{n pl:Nat}{x:i'}{Q:a2 i'->OX->Prop}(b:s.heap.get? I=ih (gG (.ref pt) i a n ep))(d:s.heap.get? a=ih o)(e:o.data=.set es ep t)(f:t.fits es.size=true)(k:es.size=n)
  (l:∃op c,s.heap.get? pt=ih op/\op.data=.seq (ps.map λ(j:Nat)=>rawInt j).toArray c) (hi:ps[i]?=ih pl) (m:es[pl]?=ih (z,x))
  (q:∀h',h'.get? I=ih (gG (.ref pt) (i+1) a n ep)->Sn I s.heap h'->Q (ih x) { s with heap:=h' }):OZ (Pb P w) A (pyNext (.ref I)) Q E s:=by
 refine n5 b d e f k ?_;obtain⟨op,c,g,h⟩:=l
 dsimp only
 simp only[ft];refine ab ?_;unfold seqItems?;refine ab (m6 g ?_);rw[h];refine ai ?_
 dsimp only
 have p:(ps.map λ(j:Nat)=>rawInt j).toArray[i]?=ih (rawInt pl):=by simp[hi]
 rw[p];show OZ _ _ (setNextDrawn a ((pl:Int)).toNat ep >>= _) _ _ s;rw[ft];unfold setNextDrawn;refine ab (ab (gu d e f ?_))
 dsimp only
 rw[au (by simp),m]
 refine ai ?_;refine ab (hM b (by simp) λU r s2=>?_)
 exact ai ⟨x,rfl,q U (by rw[r];simp[rawInt]) s2⟩
theorem DM{pt:OT}{ps:am Nat}{n:Nat}{Q:a2 i'->OX->Prop}(l:A.handled=none)(f:s.heap.get? I=ih (gG (.ref pt) i a n ep))(m:s.heap.get? a=ih o)(p:o.data=.set es ep t)(r:t.fits es.size=true)(u:es.size=n)
  (v:∃op c,s.heap.get? pt=ih op/\op.data=.seq (ps.map λ(j:Nat)=>rawInt j).toArray c) (hi:ps.length<=i)
  (q:∀h',(∀b d,b≠I->s.heap.get? b=ih d->h'.get? b=ih d)->Q none { s with heap:=h' }):OZ (Pb P w) A (pyNext (.ref I)) Q E s:=by
 refine n5 f m p r u ?_;obtain⟨op,c,h,k⟩:=v
 dsimp only
 simp only[ft];refine ab ?_;unfold seqItems?;refine ab (m6 h ?_);rw[k];refine ai ?_
 dsimp only
 have x:(ps.map λ(j:Nat)=>rawInt j).toArray[i]?=none:=by simp;omega
 rw[x];refine ab (hM f (by simp) λh1 y z=>?_)
 refine ab (hM y (by simp) λU D s2=>?_)
 exact wc l λB C=>q B λb d g e=>C b d (by rw[s2.2 b g,z.2 b g];exact e)
end
theorem vt{α:Type}(next:Nat->Nat):∀(fuel k:Nat) (left:am α) (out:Array α),left.length=fuel->(TQ next fuel k left out).toList.Perm (out.toList++left)
 |0,k,left,out,h=>by
  have:left=[]:=lA h;subst this;unfold TQ;simp
 |fuel+1,k,left,out,h=>by
  have a:next k % left.length<left.length:=Wu _ (by omega)
  unfold TQ;rw[bB a]
  dsimp only
  refine(vt next fuel (k+1) _ _ (by rw[Pl,aB a];omega)).trans ?_
  rw[Pj,ni];refine Pn _ ?_;generalize next k % left.length=j at a;have b:∀(l:am α) (j:Nat) (h:j<l.length),(l[j]::l.eraseIdx j).Perm l:=by
   intro l
   induction l with
   |nil=>intro j h;exact absurd h (ny _)
   |cons x l c =>
    intro j h;cases j with
    |zero=>exact jk _
    |succ j=>exact(Tg _ _ _).trans ((c j (uh h)).cons x)
  exact b left j a
section
variable{xs:am CY}
theorem wZ{α:Type}:∀(m:Nat) (l:am α) {s:OX}{Q:am α->OX->Prop},l.length=m->(∀ps d,ps.Perm l->Q ps { s with drawn:=d })->OZ (Pb P w) A (drawOrder m l) Q E s
 |0,l,s,Q,h,q=>by
  have:l=[]:=lA h;subst this;unfold drawOrder;exact ai (q [] s.drawn (jk _))
 |m+1,[],s,Q,h,q=>by simp at h
 |m+1,x::l,s,Q,h,q=>by
  unfold drawOrder;refine ab ?_;have ch:∀{a:Nat->OX->Prop}{s:OX},(∀i d,i<(x::l).length->a i { s with drawn:=d })->OZ (Pb P w) A (choose .order (x::l).length) a E s:=λ{a s} c=>by
   intro Γ p hΓ;exact⟨by simp,c _ _ (Wu _ (by simp))⟩
  refine ch λi d hi=>?_;rw[bB hi]
  dsimp only
  refine ab (wZ m _ (by rw[Pl,aB hi];omega) λps g e=>ai ?_)
  refine q _ _ ((e.cons _).trans ?_);have b:∀(l:am α) (j:Nat) (h:j<l.length),(l[j]::l.eraseIdx j).Perm l:=by
   intro l
   induction l with
   |nil=>intro j h;exact absurd h (ny _)
   |cons x l f =>
    intro j h;cases j with
    |zero=>exact jk _
    |succ j=>exact(Tg _ _ _).trans ((f j (uh h)).cons x)
  exact b _ i hi
theorem Em{es:am (Int×i')}(h:Vk (strKind P w) es):∃ks:am CY,SR (es.map (·.2)) ks /\∀k,k∈ks ↔ ∃e∈es,(strKind P w).is k e.2=true:=by
 induction es with
 |nil=>exact⟨[],.nil,λk=>(by simp)⟩
 |cons e es c =>
  obtain⟨ks,h1,U⟩:=c h.tail;obtain⟨⟨k,a,_⟩,_⟩:=h.head;obtain⟨t,d⟩:=Cg a;refine⟨k::ks,?_,λy=>?_⟩
  ·rw[b5,d];exact .cons k t h1
  ·rw[bu,U y]
   constructor
   ·rintro(rfl|⟨b,he,q⟩)
    ·exact⟨e,aS,a⟩
    ·exact⟨b,a8 _ he,q⟩
   ·rintro⟨b,he,q⟩
    rcases bu.mp he with rfl|he
    ·exact .inl ((strKind P w).inj _ _ _ q a)
    ·exact .inr ⟨b,he,q⟩
theorem vw{vs:am i'}(h:SR us ks)(p:vs.Perm us):∃ys,SR vs ys/\ys.Perm ks:=by
 induction p generalizing ks with
 |nil=>exact⟨ks,h,jk _⟩
 |cons x _ e =>
  cases h with
  |cons y t r=>obtain⟨ys,h1,U⟩:=e r;exact⟨y::ys,.cons y t h1,U.cons y⟩
 |swap x y l =>
  cases h with
  |cons a f g =>
   cases g with
   |cons b i j=>exact⟨b::a::_,.cons b i (.cons a f j),Tg _ _ _⟩
 |trans _ _ c d =>
  obtain⟨ys,h1,U⟩:=d h;obtain⟨zs,k,m⟩:=c h1;exact⟨zs,k,m.trans U⟩
theorem ku{vs:am i'}(h:SR vs ys):vs.length=ys.length:=by
 induction h with
 |nil=>rfl
 |cons _ _ _ a=>rw[cX,cX,a]
theorem DN{a b:am CY}(c:a.Nodup)(d:b.length=a.length)(h:∀x∈a,x∈b):b.Perm a:=by
 induction a generalizing b with
 |nil=>have:b=[]:=lA d;subst this;exact jk _
 |cons x a j =>
  rw[dQ]at c;have f:=h x aS;have k:=List.perm_cons_erase f;have i:(b.erase x).length=a.length:=by rw[CL f,d];rfl
  have U:∀y∈a,y∈b.erase x:=λy g=>(CN (show y≠x from λe=>c.1 (by rw[<-e];exact g))).mpr (h y (a8 _ g))
  exact k.trans ((j c.2 i U).cons x)
structure sS(P:SD)(w:SQ)(a:OT)(vs:List i')(I:OT)(fp:List OT)(h:SN):Prop where
 go:∃St:Nat->SN->Prop,(∀A:SV,A.handled=none->Walks P w A I fp [I] vs.length (λi v=>vs[i]?=ih v) St)/\St 0 h
theorem we{es:Array (Int×i')}{t:TK}(j:Nat->Nat){vs:am i'}(B:a≠I)(n:o.data=.set es ep t)(p:t.fits es.size=true)(r:es.size=vs.length)(C:j 0=0)(D:h.get? a=ih o)(hi:h.get? I=ih (gG (.int 0 0) 0 a vs.length ep))
  (y:∀(A:SV) (s:OX) (i:Nat) (v:i') (d:i'->OX->Prop) (c:a2 (i'×Nat)->OX->Prop),s.heap.get? a=ih o->vs[i]?=ih v->c (ih (v,j (i+1))) s->OZ (Pb P w) A (setNext a (j i) i ep) c d s)
  (done:∀(A:SV) (s:OX) (d:i'->OX->Prop) (c:a2 (i'×Nat)->OX->Prop),s.heap.get? a=ih o->c none s->OZ (Pb P w) A (setNext a (j vs.length) vs.length ep) c d s):sS P w a vs I [I,a] h:=by
 refine⟨λi h=>h.get? a=ih o/\h.get? I=ih (gG (.int (j i) 0) i a vs.length ep),λA F=>⟨λb f=>(by simp at f;simp[f]),λi h h' st k=>⟨k a (by simp) _ st.1,k I (by simp) _ st.2⟩,λi s Q E hi st q=>?_,λs Q E st q=>?_,λi s Q E st q=>?_⟩,D,by rw[C];exact hi⟩
 ·have hv:vs[i]?=ih vs[i]:=bB hi
  refine DE st.2 st.1 n p r (λd c l=>y _ _ i _ d c st.1 hv l) λh' g u=>?_;exact q _ h' s.toks hv ⟨by rw[u.2 a B];exact st.1,g⟩ λb x f e=>by rw[u.2 b (λz=>f (by simp[z]))];exact e
 ·exact DL F st.2 st.1 n p r (λd c l=>done _ _ d c st.1 l) λh' k=>q h' s.toks λb x f e=>k b x (λz=>f (by simp[z])) e
 ·have m:s.TypeIs (.ref I) "set_iterator" :=⟨_,st.2,rfl⟩
  refine qn m nM (fu nM m uB ?_ (uE _));show OZ _ _ (ret (.ref I)) _ _ s;exact ai ⟨_,rfl,"set_iterator",_,m,j8.lookup,q⟩
theorem F7{es:Array (Int×i')}{t:TK}{pt:OT}{ps:am Nat}{vs:am i'}(y:a≠I)(B:pt≠I)(n:o.data=.set es ep t)(p:t.fits es.size=true)(r:es.size=vs.length)(G:ps.length=vs.length)(C:h.get? a=ih o)(hi:h.get? I=ih (gG (.ref pt) 0 a vs.length ep))
  {op:Tp}{c:Nat} (D:h.get? pt=ih op) (m:op.data=.seq (ps.map λ(j:Nat)=>rawInt j).toArray c) (x:∀(i:Nat) (v:i'),vs[i]?=ih v ->∃pl z,ps[i]?=ih pl/\es[pl]?=ih (z,v)):sS P w a vs I [I,a,pt] h:=by
 refine⟨λi h=>h.get? a=ih o/\h.get? pt=ih op/\h.get? I=ih (gG (.ref pt) i a vs.length ep),λA F=>⟨λb d=>(by simp at d;simp[d]),λi h h' st k=>⟨k a (by simp) _ st.1,k pt (by simp) _ st.2.1,k I (by simp) _ st.2.2⟩,λi s Q E hi st q=>?_,λs Q E st q=>?_,λi s Q E st q=>?_⟩,C,D,hi⟩
 ·have hv:vs[i]?=ih vs[i]:=bB hi
  obtain⟨pl,z,h1,U⟩:=x i _ hv;refine DF st.2.2 st.1 n p r ⟨op,c,st.2.1,m⟩ h1 U λh' g f=>?_;exact q _ h' s.toks hv ⟨by rw[f.2 a y];exact st.1,by rw[f.2 pt B];exact st.2.1,g⟩ λb u d e=>by rw[f.2 b (λz=>d (by simp[z]))];exact e
 ·exact DM F st.2.2 st.1 n p r ⟨op,c,st.2.1,m⟩ (by omega) λh' k=>q h' s.toks λb u d e=>k b u (λz=>d (by simp[z])) e
 ·have l:s.TypeIs (.ref I) "set_iterator" :=⟨_,st.2.2,rfl⟩
  refine qn l nM (fu nM l uB ?_ (uE _));show OZ _ _ (ret (.ref I)) _ _ s;exact ai ⟨_,rfl,"set_iterator",_,l,j8.lookup,q⟩
end
theorem vx(j k:Nat):Tj #[j] k=if j<k then 1 else 0:=by
 unfold Tj;show Te #[j] k 1 0 1=_;unfold Te
 by_cases h:j<k
 ·simp[h,Te]
 ·simp[h,Te]
theorem En(k:Nat):Tj #[] k=0:=by unfold Tj;rfl
section
variable{xs:am CY}
theorem F8{Q:i'->OX->Prop}(X:dm P w s.heap a xs)(zc:xs.Nodup)
  (q:∀(h':SN) (d':W5) (I:OT) (fp:am OT) (vs:am i') (ys:am CY),sS P w a vs I fp h'->SR vs ys->ys.Perm xs->(∀b∈fp,b=a\/s.heap.objs.size<=b)->I∈fp->(∀b∈fp,b<h'.objs.size)->s.heap.objs.size<=I->(∀b D,s.heap.get? b=ih D->h'.get? b=ih D)->Q (.ref I) { s with heap:=h',drawn:=d' }) :
  OZ (Pb P w) A (pyIter (.ref a)) Q E s:=by
 have Y:=X.typeIs;obtain⟨o,es,ep,t,m,xf,f,zb,xb,xd,c,yg,yb,xc⟩:=X;have C:=br m;obtain⟨ks,J,yd⟩:=Em zb;have zd:ks.length=xs.length:=by have:=ku J;rw[aG,eT]at this;omega
 have kp:ks.Perm xs:=DN zc zd λx xe=>(yd x).mpr ((xb x).mp xe);refine qn Y Vp (fu Vp Y DK ?_ (F.args_set_iter_1 _));unfold SA.«frozenset.__iter__» UX UY setEntries setDrawn setsByText;refine ab (ab (ai (ai ?_)));refine ab (ab (ab (gu m f c (ai (ai ?_)))))
 dsimp only
 refine ab (ab (gu m f c ?_));dsimp only;refine ab (ab (hH (ai (ai ?_))));show OZ _ _ (if (!w.params.followText "set-order" && (!t.plain&&decide (es.size>1)))=true then _ else _) _ _ s
 by_cases big:(!w.params.followText "set-order" && (!t.plain&&decide (es.size>1)))=true
 ·
  rw[aB big];refine ab (wZ es.size (Sj es.size) (by simp) λps d L=>?_)
  have h:ps.length=es.size:=by rw[L.length_eq];simp
  refine ab (ed ?_ (by show(ps.map _).toArray.size<=OY;rw[bL,aG,h];exact ue xd))
  refine ab ?_;unfold setEpoch;refine ab (gu (aZ _ m) f c (ai ?_))
  dsimp only
  refine ab (ed (ai ⟨_,rfl,"set_iterator",_,⟨_,bK _ rfl,rfl⟩,j8.lookup,?_⟩));have yc:∀p∈ps,p<es.size:=λp B=>iE.mp (L.mem_iff.mp B)
  let vs:am i':=ps.map λp=>(es.toList.map (·.2)).getD p .none
  have pv:vs.Perm (es.toList.map (·.2)):=by
   have xa:(Sj es.size).map (λp=>(es.toList.map (·.2)).getD p .none)=es.toList.map (·.2):=by
    apply CV
    ·simp
    ·intro n h1 U
     have:n<es.size:=by simpa using h1
     simp[this]
   rw[<-xa];exact L.map _
  obtain⟨ys,M,N⟩:=vw J pv;have vl:vs.length=es.size:=by show(ps.map _).length=_;rw[aG,h]
  have ey:(s.heap.push { cls:=.type "tuple",data:=.seq (ps.map λ(i:Nat)=>rawInt i).toArray }).objs.size=s.heap.objs.size+1:=gM ..;refine q _ d _ [_,a,s.heap.objs.size] vs ys (F7 (o:=o) (op:={ cls:=.type "tuple",data:=.seq (ps.map λ(i:Nat)=>rawInt i).toArray }) (ps:=ps) (by rw[ey];exact bG (lz C)) (by rw[ey];exact bG (jU _)) f c vl.symm (by rw[vl,h]) (aZ _ (aZ _ m)) ?_ (aZ _ (bK _ rfl)) rfl ?_) M (N.trans kp) ?_ aS ?_ (by rw[ey];omega) λb D e=>aZ _ (aZ _ e)
  ·rw[bK _ rfl,vl];rfl
  ·intro i v hv
   have R:(ps.map λp=>(es.toList.map (·.2)).getD p .none)[i]?=ih v:=hv;rw[dt]at R;obtain⟨p,B,G⟩:=gO.mp R;have S:=yc p (cY B);refine⟨p,es[p].1,B,?_⟩;rw[lB S]
   congr 1
   rw[<-G];simp[S]
  ·intro b g
   simp only[bu,iN,iO]at g;rcases g with rfl|rfl|rfl
   ·exact .inr (by rw[ey];omega)
   ·exact .inl rfl
   ·exact .inr (aK _)
  ·intro b g
   simp only[bu,iN,iO]at g;rw[gM,ey];rcases g with z|z|z
   ·rw[z,ey];exact jU _
   ·rw[z];exact lz (lz C)
   ·rw[z];exact lz (jU _)
 ·rw[au big]
  refine ab (ai ?_);refine ab ?_;unfold setEpoch;refine ab (gu m f c (ai ?_))
  dsimp only
  refine ab (ed (ai ⟨_,rfl,"set_iterator",_,⟨_,bK _ rfl,rfl⟩,j8.lookup,?_⟩));have T:∀b ∈ [s.heap.objs.size,a],b=a\/s.heap.objs.size<=b:=λb g=>by
   simp only[bu,iN,iO]at g;rcases g with rfl|rfl
   ·exact .inr (aK _)
   ·exact .inl rfl
  have V:∀(ya:Tp),∀b ∈ [s.heap.objs.size,a],b<(s.heap.push ya).objs.size:=λya b g=>by
   simp only[bu,iN,iO]at g;rw[gM];rcases g with z|z
   ·rw[z];exact jU _
   ·rw[z];exact lz C
  cases r:w.params.followText "set-order" with
  |true =>
   have za:∀next:Nat->Nat,((pickOrder next es).toList.map (·.2)).Perm (es.toList.map (·.2)):=λnext=>by
    unfold pickOrder;have:=vt next es.size 0 es.toList #[] (by simp)
    exact(by simpa using this:(TQ next es.size 0 es.toList #[]).toList.Perm es.toList).map _
   obtain⟨ys,M,N⟩:=vw J (za (w.params.setOrder a ep));have vl:=(za (w.params.setOrder a ep)).length_eq;rw[aG,eT,aG,eT]at vl;refine q _ s.drawn _ [_,a] ((pickOrder (w.params.setOrder a ep) es).toList.map (·.2)) ys (we (o:=o) (λ_=>0) (bG C) f c (by rw[aG,eT,vl]) rfl (aZ _ m) ?_ ?_ ?_) M (N.trans kp) T aS (V _) (aK _) λb D e=>aZ _ e
   ·rw[bK _ rfl,aG,eT,vl];rfl
   ·intro A s i v O y l hv u
    unfold setNext setsByText;refine ab (gu l f c ?_);dsimp only;refine ab (ab (hH (ai ?_)));show OZ _ _ (if w.params.followText "set-order" = true then _ else _) _ _ _;rw[aB r,au (by simp)]
    unfold setWalk setsByText;refine ab (ab (gu l f c ?_));dsimp only;refine ab (ab (hH (ai ?_)));show OZ _ _ (if w.params.followText "set-order" = true then _ else _) _ _ _;rw[aB r];refine ab (hH (ai (ai ?_)));show y (((pickOrder (w.params.setOrder a ep) es)[i]?).map λe=>(e.2,0)) s;rw[dt,nc]at hv;obtain⟨e,K,G⟩:=gO.mp hv;rw[K];show y (ih (e.2,0)) s;rw[G];exact u
   ·intro A s O y l u
    unfold setNext setsByText;refine ab (gu l f c ?_);dsimp only;refine ab (ab (hH (ai ?_)));show OZ _ _ (if w.params.followText "set-order" = true then _ else _) _ _ _;rw[aB r,au (by simp)]
    unfold setWalk setsByText;refine ab (ab (gu l f c ?_));dsimp only;refine ab (ab (hH (ai ?_)));show OZ _ _ (if w.params.followText "set-order" = true then _ else _) _ _ _;rw[aB r];refine ab (hH (ai (ai ?_)));show y (((pickOrder (w.params.setOrder a ep) es)[((pickOrder (w.params.setOrder a ep) es).toList.map (·.2)).length]?).map λe=>(e.2,0)) s;rw[nA (by simp)]
    exact u
  |false =>
   have a7:es.size<=1:=by
    rw[r]at big
    by_cases z:es.size<=1
    ·exact z
    ·have B:=xc (by omega)
     rw[B]at big;exact absurd (by simp;omega) big
   have W:t.led=true:=by rw[yb,r];rfl
   have xg:t.place.size=es.size:=by
    have:=c;simp only[Xc,jj,iI,decide_eq_true_eq]at this;exact this.1
   refine q _ s.drawn _ [_,a] (es.toList.map (·.2)) ks (we (o:=o) (λi=>if i=0 then 0 else t.place.getD 0 0+1) (bG C) f c (by rw[aG,eT]) rfl (aZ _ m) ?_ ?_ ?_) J kp T aS (V _) (aK _) λb D e=>aZ _ e
   ·rw[bK _ rfl,aG,eT];rfl
   ·intro A s i v O y l hv u
    rw[dt,nc]at hv;obtain⟨e,K,G⟩:=gO.mp hv;have hi:i<es.size:=(CJ.mp K).1;have ye:i=0:=by omega
    subst ye;obtain⟨h,H⟩:∃j,t.place = #[j]:=by
     have:t.place.size=1:=by omega
     exact⟨t.place[0],by
      apply VX
      ·simp[this]
      ·intro k h1 U;have:k=0:=by omega
       subst this;simp⟩
    unfold setNext setsByText;refine ab (gu l f c ?_);dsimp only;refine ab (ab (hH (ai ?_)));show OZ _ _ (if w.params.followText "set-order" = true then _ else _) _ _ _;rw[au (by rw[r];exact bV)]
    show OZ _ _ (if (!t.plain&&decide (es.size>1))=true then _ else _) _ _ _;rw[au (by simp;omega)]
    show OZ _ _ ((if (!t.led && !es.isEmpty)=true then unsupported "set:maker-not-led" else pure ()) >>= _) _ _ _;rw[W,au (by simp)]
    refine ab (ai ?_);rw[H,aB rfl,vx,au (by omega),K]
    refine ai ?_;show y (ih (e.2,h+1)) s;rw[G];have:(if 0+1=0 then 0 else t.place.getD 0 0+1)=h+1:=by rw[H];rfl
    rw[this]at u;exact u
   ·intro A s O y l u
    unfold setNext setsByText;refine ab (gu l f c ?_);dsimp only;refine ab (ab (hH (ai ?_)));show OZ _ _ (if w.params.followText "set-order" = true then _ else _) _ _ _;rw[au (by rw[r];exact bV)]
    show OZ _ _ (if (!t.plain&&decide (es.size>1))=true then _ else _) _ _ _;rw[au (by simp;omega)]
    show OZ _ _ ((if (!t.led && !es.isEmpty)=true then unsupported "set:maker-not-led" else pure ()) >>= _) _ _ _;rw[W,au (by simp)]
    refine ab (ai ?_);have out:es[Tj t.place (if (es.toList.map (·.2)).length=0 then 0 else t.place.getD 0 0+1)]?=none:=by
     rw[aG,eT]
     by_cases z:es.size=0
     ·have:t.place = #[]:=Array.eq_empty_of_size_eq_zero (by omega)
      rw[this,En];exact nA (by omega)
     ·have xa:es.size=1:=by omega
      obtain⟨h,H⟩:∃j,t.place = #[j]:=by
       have:t.place.size=1:=by omega
       exact⟨t.place[0],by
        apply VX
        ·simp[this]
        ·intro k h1 U;have:k=0:=by omega
         subst this;simp⟩
      rw[au z,H,vx];have : #[h].getD 0 0=h:=rfl;rw[this,aB (by omega)]
      exact nA (by omega)
    rw[out];exact ai u
end
end HS
namespace HS
open Spec PyProof.Rows W
section
variable{xs:am CY}
theorem F9{Q:Bool->OX->Prop}(c:s.TypeIs (.ref a) "set")(h:Q false s):OZ (Pb P w) A (TZ (.ref a)) Q E s:=by
 unfold TZ;refine ab (wpAny_specialOf c PySem.F.slot_set_len.lookup ?_);generalize d:("set.__len__" : String)=e
 wp_delta
 rw[show splitId e=ih ("set","__len__") from by subst d;decide +kernel];subst d
 refine ab (ug (T:= "set") (b:=true) c (by rw[C2];kernel_rfl) ?_)
 refine C5 (λz=>absurd z (by decide)) λ_=>C5 (λ_=>?_) λz=>absurd (by decide +kernel) z
 exact ab (jX c (ai h))
theorem Eo{R:Ug->OX->Prop}(X:A.handled=none)(p:dm P w s.heap a xs)(Y:xs.Nodup)(S:OT)(v:S≠a)(i:i')(r:Nat)(D:s.heap.get? S=ih { cls:=.type "list",data:=.seq #[] r })
  (F:∀h' d' tk (vs:am i') (ys:am CY) g,(∀b o,b≠S->s.heap.get? b=ih o->h'.get? b=ih o)->h'.get? S=ih { cls:=.type "list",dict:=none,data:=.seq vs.toArray g,slots:= #[] }->SR vs ys->ys.Perm xs->R (.ok (.ret i)) { s with heap:=h',drawn:=d',toks:=tk }) :
  OZ (Pb P w) A.in1 (Sy (.ref S) (.ref a) i)
   (λN s'=>match N with|.done f=>R (.ok f) s'|.again g=>g.quiet=true/\codeAny (Pb P w) A g R s') (λe s'=>R (.error e) s') s:=by
 have E:=p.typeIs;have O:xs.length<scanBound:=by obtain⟨o,es,ep,t,xe,yd,ye,zd,oV,d,ze,xf,_⟩:=p;omega
 unfold Sy;refine ab (jX (T:= "set") E ?_);have h1:T5 (.ref S) (.ref a)=false:=by simp[T5,v]
 have U:(S2 "set" == S2 "list")=false:=by decide
 have ya:(S2 "set" == S2 "tuple")=false:=by decide
 simp only[h1,U,ya,Ve,ng,gr];refine ab (F8 p Y λh' d' I fp vs ys W G H za yf zf xb k=>?_);obtain⟨St,yb,st⟩:=W.go;have J:=yb A.in1 (by simpa using X)
 have vl:vs.length=xs.length:=by rw[ku G,H.length_eq]
 have x:S ∉ fp:=λz=>by
  rcases za S z with e|e
  ·exact v e
  ·exact absurd (br D) (Wt.mpr e)
 have zb:Tv { s with heap:=h',drawn:=d' } (.ref a) "set" :=by
  obtain⟨o,e,c⟩:=E;exact⟨o,k _ _ e,c⟩
 refine ab (dO (F9 zb ?_));have n:=k _ _ D;have y:∀(h:SN) (l:Nat),St 0 h->(∀b o,b≠S->s.heap.get? b=ih o->h.get? b=ih o)->h.get? S=ih { cls:=.type "list",data:=.seq #[] l } ->
   codeAny (Pb P w) A (.builtin "list.extend.loop" ⟨[.ref S,.ref I,i],[]⟩) R { s with heap:=h,drawn:=d' }:=by
  intro h l Q xc L;refine codeAny_extend_loopS J.toS (by rw[vl];exact ue O) S x i vs.length 0 _ #[] l rfl (bp _) Q L (ItemsOf.nil _) λs' u g K V m=>?_
  rw[Moved.eq_with K];have yc:u.toList=vs:=by
   apply List.ext_getElem?
   intro j;rw[nc]
   by_cases zc:j<vs.length
   ·have B:j<u.size:=by rw[m.1];exact zc
    rw[lB B];exact(m.2 j _ (lB B)).symm
   ·rw[nA (by rw[m.1];omega),C6 (by omega)]
  refine F s'.heap d' s'.toks vs ys g (λb o d e=>K.heap b o (λoV=>?_) (xc b o d e)) (by rw[V,<-yc]) G H
  rcases bu.mp oV with xd|oV
  ·exact d xd
  ·exact absurd (br e) (by rw[b3.mp oV];exact Wt.mpr xb)
 refine C5 (λ_=>?_) (λ_=>ai ⟨iL Po _,y _ r st (λb o _ e=>k b o e) n⟩);refine ab (iG (ab ?_));show OZ _ _ (updateSeq S (·.push .none) >>= λ_=>updateSeq S (·.pop)) _ _ _;refine ab (C7 n rfl ?_);have q:=qf (Sm (·.push P0)) n rfl;refine C7 (hz:=by seq_fits) q rfl ?_
 have M:=qf (Sm (·.pop)) q rfl;have C:∀b o,b≠S->h'.get? b=ih o->((h'.update S (Sm (·.push P0))).update S (Sm (·.pop))).get? b=ih o:=λb o d e=>(m9 _ _ (aN d)).trans ((m9 _ _ (aN d)).trans e);exact ai ⟨iL Po _,y _ _ (J.frame 0 _ _ st λb d o e=>C b o (λz=>x (z ▸ d)) e) (λb o d e=>C b o d (k b o e)) M⟩
theorem DY{Q:am i'->OX->Prop}(d:A.handled=none)(c:dm P w s.heap a xs)(f:xs.Nodup)
  (g:∀h' d' tk (vs:am i') (ys:am CY),(∀b o,s.heap.get? b=ih o->h'.get? b=ih o)->SR vs ys->ys.Perm xs->Q vs { s with heap:=h',drawn:=d',toks:=tk }):OZ (Pb P w) A (collect (.ref a)) Q E s:=by
 unfold collect;refine ab (C1 (gN Pp ?_));rw[hI Pq _];show OZ _ A.in1 (newList [] >>= λl=>again (.builtin "list.__iadd__" ⟨[l,.ref a],[]⟩)) _ _ s;refine ab (ed (ai ⟨iL ui _,gN Pr ?_⟩));rw[hI ui _];show OZ _ A.in1 (Sy (.ref s.ao) (.ref a) (.ref s.ao)) _ _ _;have h:s.ao≠a:=iH c.lt;refine Eo (R:=λr s'=>match r with|.ok (.ret v)=>OZ (Pb P w) A (match v with|.ref a=>(do match (<- load a).data with|.seq xs _=>pure xs.toList|_=>unsupported "internal:collect")|_=>unsupported "internal:collect") Q E s'|.ok _=>False|.error e=>E e s') (s:={ s with heap:=s.heap.push { cls:=.type "list",data:=.seq ([]:am i').toArray } }) d (c.keep λo e=>aZ _ e) f _ h _ 0 (bK _ rfl) λh' d' tk vs ys n k i j m=>?_;show OZ _ A (load s.ao >>= _) _ _ _;refine ab (m6 i (ai ?_));exact g h' d' tk vs ys (λb o e=>k b o (bG (br e)) (aZ _ e)) j m
theorem Ep{Q:i'->OX->Prop}(p:A.handled=none)(q:dm P w s.heap a xs)(r:xs.Nodup)(I:xs.length<=63)
  (t:∀D c h' d' tk (vs:am i') (ys:am CY),(∀b o,s.heap.get? b=ih o->h'.get? b=ih o)->(∀b o,s.heap.get? b=ih o->b≠D)->h'.get? D=ih (listOf vs.toArray c)->SR vs ys->ys.Perm xs->sortedS ys=true->Q (.ref D) { s with heap:=h',drawn:=d',toks:=tk }) :
  OZ (Pb P w) A (call (.builtin "sorted") [.ref a]) Q E s:=by
 refine Pt kind_sorted plain_sorted entry_sorted (args_sorted1 _) ?_;unfold SA.«sorted»;refine ab (m:=checkCount "sorted" 1 1 _) (ai (ab (DY (by simpa using p) q r λh1 u v vs ys h d i=>?_)))
 have vl:vs.length=xs.length:=by rw[ku d,i.length_eq]
 refine ab (ud ?_ (by rw[aQ];omega))
 have f:(h1.push (seqObj "list" vs.toArray 0)).get? h1.objs.size=ih (seqObj "list" vs.toArray 0):=bK _ rfl;refine ab (dO (fu slot_list_sort ⟨_,f,rfl⟩ entry_list_sort (list_sort_treeK strKind_oneLt f d.keysOf (λG H rest e=>keyKind_strs (by rw[<-e];exact d)) (by omega) λk x y=>⟨_,rfl,?_⟩) (args_list_sort _)))
 obtain⟨l,z,B,C⟩:=sorted_out_str d x y;obtain⟨c,F⟩:=sortedHeap_at (n:=0) (vs:=vs) (out:=(arrOf k).map (·.2)) f;refine ai ⟨_,rfl,t _ c _ u v _ l (λb o e=>?_) (λb o e=>bG (br (h b o e))) (by rw[F]) z (B.trans i) C⟩
 have j:=h b o e;have g:=br j;rw[sortedHeap_old (bG g) (by rw[size_push'];exact lz g),Heap.get?_push_ne _ _ _ (bG g)]
 exact j
end
end HS
namespace L2
open Spec PyProof.Rows W HS
def mL(P:SD)(w:SQ)(a:OT)(xs:List CY):HO:=.ext λh=>xs.Nodup/\dm P w h a xs
theorem Hn{xs:am CY}(b:xs.Nodup)(x:dm P w h a xs):bO P w H h a (mL P w a xs):=
 ⟨⟨b,x⟩,(let ⟨o,_,_,_,e,_⟩:=x;⟨o,e⟩),λ_ _ q k=>⟨q.1,q.2.keep k⟩⟩
theorem Inv.draw{σ:am (Option V)}(I:Inv X J σ H s)(d:W5):Inv X J σ H { s with drawn:=d }:=⟨I.ok,I.os,I.bare,I.base,I.loc,I.cell,I.free,I.gf,I.pin,I.aJ,I.len⟩
theorem rE:∀{vs:am i'}{ys:am CY},SR vs ys ->∀(i:Nat) (v:i'),vs[i]?=ih v ->∃t,v=.str (ys.getD i "") t
 |_,_,.nil,i,v,h=>by simp at h
 |_,_,.cons y t r,0,v,h=>by simp at h;exact⟨t,by rw[<-h];rfl⟩
 |_,_,.cons y t r,i+1,v,h=>by
  obtain⟨t',e⟩:=rE r i v (by simpa using h)
  exact⟨t',by rw[e];rfl⟩
theorem F'(D:X.calm=true):cT X (.type "set") (λvs H Q=>∃(p:OT) (c:am CY),vs=[.ref p]/\(aq X.K H p (c.map V.str)\/aU X.K H p (c.map V.str))/\c.length<=1000 /\∀a ds,H a=none->ds.Nodup->(∀y,y∈ds ↔ y∈c)->Q (.ref a) (upd H a (mL X.prog X.w a ds))):=by
 rintro J s σ H vs us Q I r ⟨p,c,rfl,hq,N,q⟩;obtain⟨u,rfl,E⟩:=vals1 r;cases E
 have A:∀(its:am i') {T:String}{ol:Tp},Vals (c.map V.str) its->Src X.prog X.w T p ol its.toArray.size (λi v=>its.toArray[i]?=ih v)->s.heap.get? p=ih ol->wA X (call (.type "set") [.ref p]) (EP X J σ Q) X.xe s:=λits {T ol} F C G=>by
  have st:=nR F;have z:its.length=c.length:=ku st;refine EZ (val:=λi=>c.getD i "") (I.ok.hd D) C G (λi v hv=>rE st i v (by simpa using hv)) (by rw[bL,z];unfold scanBound;omega) λh' tk x k=>?_
  have kp:∀b o,s.heap.get? b=ih o->h'.get? b=ih o:=λb o e=>k b o (br e) e;have B:=wY (λi=>c.getD i "") its.toArray.size;refine⟨.ref s.heap.objs.size,_,I.laid (t':=tk) kp (aK _) (Hn B x),rfl,q _ _ (I.aJ.fresh (aK _)) B λy=>?_⟩;rw[v9,bL,z]
  constructor
  ·rintro⟨j,d,rfl⟩
   rw[show c.getD j "" = c[j] by simp[d]]
   exact fw d
  ·intro L
   obtain⟨j,d,e⟩:=uj.mp L;exact⟨j,d,by simp[d,e]⟩
 rcases hq with hq|hq
 ·obtain⟨its,g,l,M⟩:=I.list hq
  obtain⟨o,m,f,n,t⟩:=l.isList;exact A its g (src_list f ⟨n,t⟩) m
 ·obtain⟨its,g,l,M⟩:=I.tuple hq
  obtain⟨o,m,f,n,t⟩:=l;exact A its g (Hm f ⟨n,t⟩) m
theorem Dz(j:X.calm=true):cT X (.builtin "sorted") (λvs H Q=>∃(a:OT) (ds:am CY),vs=[.ref a]/\H a=ih (mL X.prog X.w a ds)/\ds.length<=63 /\∀D d,H D=none->d.Perm ds->sortedS d=true->Q (.ref D) (upd H D (.lst (d.map V.str)))):=by
 rintro J s σ H vs us Q I r ⟨a,ds,rfl,l,g,q⟩;obtain⟨u,rfl,n⟩:=vals1 r;cases n
 obtain⟨⟨t,x⟩,_⟩:=(show bO X.prog X.w H s.heap a (mL X.prog X.w a ds) from I.aJ a _ l);obtain⟨m,f,_⟩:=id I.loc;refine Ep (I.ok.hd j) x t g λD c h' v tk out ys k y new st p i=>?_;obtain⟨z,A⟩:=Inv.sorted (t':=tk) (ys:=ys.map V.str) I f (f.at' λo e=>k _ _ e) (λb o _ e=>k b o e) y new (vr st) (by rw[aG,p.length_eq,aQ];omega)
 exact⟨.ref D,_,A.draw v,rfl,q _ ys z p i⟩
end L2
namespace L2
open W Calls PyProof.Rows
section
variable{α β:Type}{n:Nat}{lt:Nat->Nat->Bool}
def gH(lt:Nat->Nat->Bool)(p:Array Nat)(k:Nat):Prop:= ∀i j,i<j->j<k->lt (p.getD i 0) (p.getD j 0)=true
def je(lt:Nat->Nat->Bool)(p:Array Nat)(k:Nat):Prop:= ∀i j,i<j->j<k->lt (p.getD j 0) (p.getD i 0)=true
theorem Pm.size{p:Array Nat}(h:Pm n p):p.size=n:=by have:=h.length_eq;simpa using this
theorem Pm.ne{p:Array Nat}(h:Pm n p)(hi:i<n)(c:j<n)(e:i≠j):p.getD i 0≠p.getD j 0:=by
 have d:=h.size;have a:p.toList.Nodup:=h.nodup_iff.mpr UM;intro z;rw[hK,hK,lB (by omega),lB (by omega)]at z
 have b:p.toList[i]'(by simp;omega)=p.toList[j]'(by simp;omega):=by simpa using z
 exact e ((UN a).mp b)
theorem wg{p:Array Nat}{m:Nat}(a:m<=p.size)(k:Nat)(b:k<m):(kas_rev p 0 m).getD k 0=p.getD (m - 1 - k) 0:=by
 unfold kas_rev;rw[hK,getElem?_mirror_all a,aB ⟨bp _,b⟩,hK,Nat.zero_add]
theorem je.rev{p:Array Nat}{m:Nat}(b:m<=p.size)(a:je lt p m):gH lt (kas_rev p 0 m) m:=λi j d c=>by
 rw[wg b i (by omega),wg b j c]
 exact a _ _ (by omega) (by omega)
theorem wj{p:Array Nat}{k l:Nat}(c:k<p.size)(d:l<=k)(i:Nat):(bubble p k (k - l)).getD i 0=if i=l then p.getD k 0 else if l<i/\i<=k then p.getD (i - 1) 0 else p.getD i 0:=by
 rw[hK,getElem?_bubble c (k - l) (by omega)]
 have:k - (k - l)=l:=by omega
 rw[this]
 by_cases a:i=l
 ·rw[aB a,aB a];exact(hK ..).symm
 ·rw[au a,au a]
  by_cases b:l<i/\i<=k
  ·rw[aB b,aB b];exact(hK ..).symm
  ·rw[au b,au b];exact(hK ..).symm
end
def jf(p q:CY):Bool:=decide (p.cps.toList<q.cps.toList)
theorem Ga(p:CY):jf p p=false:=eF (List.lt_irrefl _)
theorem IE{p r:CY}(h1:jf p q=true)(U:jf q r=true):jf p r=true:=cE (List.lt_trans (eG h1) (eG U))
theorem Ho{p:CY}(h:p≠q)(f:jf p q=false):jf q p=true:=by
 refine cE ?_;have h1 : ¬ p.cps.toList<q.cps.toList:=of_decide_eq_false f;have U:q.cps.toList<=p.cps.toList:=VC.mp h1
 by_cases z:q.cps.toList<p.cps.toList
 ·exact z
 ·exact absurd (F1 (a:=p) (b:=q) (VC.mp z) U) h
theorem E1{α β:Type}{F:α->β->Prop}{l:am α}{m:am β}(h:Sl F l m)(dl:α)(a:β)(i:Nat)(hi:i<l.length):F (l.getD i dl) (m.getD i a):=by
 induction h generalizing i with
 |nil=>exact absurd hi (ny _)
 |cons p _ b =>
  cases i with
  |zero=>exact p
  |succ i=>exact b i (uh hi)
theorem uX{α β γ:Type}{F:α->β->Prop}{f:γ->α}{g:γ->β}:∀{l:am γ},(∀x∈l,F (f x) (g x))->Sl F (l.map f) (l.map g)
 |[],_=>.nil
 |x::l,h=>.cons (h x aS) (uX λy a=>h y (a8 _ a))
theorem IF{lt:Nat->Nat->Bool}{p:Array Nat}{n:Nat}(d:p.size=n)(a:gH lt p n):p.toList.Pairwise λi j=>lt i j=true:=by
 rw[List.pairwise_iff_getElem];intro i j hi c b;have h1:i<p.size:=by simpa using hi
 have U:j<p.size:=by simpa using c
 have:=a i j b (by omega)
 rw[hK,hK,lB h1,lB U]at this
 simpa using this
end L2
namespace HS
open Spec PyProof.Rows W
theorem DZ{vs:am i'}{Q:am i'->OX->Prop}(c:S0 s.heap l vs.toArray)(hz:vs.length<=OY)(q:∀h',(∀b o,s.heap.get? b=ih o->h'.get? b=ih o)->Q vs { s with heap:=h' }) :
  OZ (Pb P w) A (collect (.ref l)) Q E s:=by
 obtain⟨o,d,f,n,g⟩:=id c;unfold collect;refine ab (C1 (gN Pp ?_));rw[hI Pq _];show OZ _ A.in1 (newList [] >>= λz=>again (.builtin "list.__iadd__" ⟨[z,.ref l],[]⟩)) _ _ s;refine ab (ud (ai ⟨iL ui _,gN Pr ?_⟩));rw[hI ui _];show OZ _ _ (Sy (.ref s.heap.objs.size) (.ref l) (.ref s.heap.objs.size)) _ _ { s with heap:=s.heap.push (seqObj "list" #[] 0) };unfold Sy;have a:(s.heap.push (seqObj "list" #[] 0)).get? l=ih o:=aZ _ d;refine ab (jX (T:= "tuple") ⟨o,a,f⟩ ?_);have h:(S2 "tuple" == S2 "tuple")=true:=by rfl
 rw[aB (by rw[h];simp)]
 refine ab (listItems_at a g (ab (listItems_at (xs:= #[]) (n:=0) (bK _ rfl) rfl ?_)));rw[au (by simp)]
 refine ab (listUpdate_at (xs:= #[]) (n:=0) (bK _ rfl) rfl (ai ?_) (bp _) (by show(#[]++vs.toArray).size<=OY+1;simp only[qh,bL,iM];omega))
 show OZ (Pb P w) A (load s.heap.objs.size >>= _) Q E { s with heap:=(s.heap.push (seqObj "list" #[] 0)).update s.heap.objs.size (Sm (· ++ vs.toArray)) };refine ab (m6 (get?_update_seq (bK _ rfl) _) ?_);show OZ _ _ (pure ((#[]:Array i')++vs.toArray).toList) Q E _;rw[show((#[]:Array i')++vs.toArray).toList=vs by simp]
 refine ai (q _ λb i e=>?_);exact(m9 _ _ (iH (br e))).trans (aZ _ e)
end HS
namespace L2
open Spec PyProof.Rows W HS
theorem IG:bU X (P4 .Is) (λx y H Q=>∃a b,x=.bl a/\y=.bl b/\Q (.bl (a==b)) H):=by
 rintro J s σ H x y v u Q I c d ⟨a,b,rfl,rfl,q⟩;cases c;cases d
 exact is_bool (b7 I q rfl)
theorem E2:bU X (P4 .IsNot) (λx y H Q=>∃a b,x=.bl a/\y=.bl b/\Q (.bl (a != b)) H):=by
 rintro J s σ H x y v u Q I c d ⟨a,b,rfl,rfl,q⟩;cases c;cases d
 exact isnot_bool (b7 I q rfl)
end L2
namespace L2
open W Calls PyProof.Rows
structure gy(n:Nat)(lt:Nat->Nat->Bool):Prop where
 tr:∀i j k,i<n->j<n->k<n->lt i j=true->lt j k=true->lt i k=true
 LQ:∀i j,i<n->j<n->i≠j->lt i j=false->lt j i=true
def cH{α:Type}(n:Nat)(lt:Nat->Nat->Bool)(φ:α->Prop):KasT α->Prop
 |.ret a=>φ a
 |.ask i j k=>i<n/\j<n/\i≠j/\cH n lt φ (k (lt i j))
section
variable{α β:Type}{n:Nat}{lt:Nat->Nat->Bool}
theorem cH.bind{b:α->Prop}{ψ:β->Prop}{f:α->KasT β}(g:∀a,b a->cH n lt ψ (f a)):∀{t:KasT α},cH n lt b t->cH n lt ψ (t.bind f)
 |.ret a,h=>g a h
 |.ask _ _ _,h=>⟨h.1,h.2.1,h.2.2.1,cH.bind g h.2.2.2⟩
theorem cH.wp{c:α->Prop}{b:Nat->Nat->(Bool->OX->Prop)->OX->Prop}{Q:α->OX->Prop}{s:OX}(d:∀i j C,i<n->j<n->i≠j->C (lt i j) s->b i j C s):∀{t:KasT α},cH n lt c t->(∀a,c a->Q a s)->t.kasWp b Q s
 |.ret a,h,q=>q a h
 |.ask _ _ _,h,q=>d _ _ _ h.1 h.2.1 h.2.2.1 (cH.wp d h.2.2.2 q)
theorem cH.mono{b ψ:α->Prop}(g:∀a,b a->ψ a):∀{t:KasT α},cH n lt b t->cH n lt ψ t
 |.ret a,h=>g a h
 |.ask _ _ _,h=>⟨h.1,h.2.1,h.2.2.1,cH.mono g h.2.2.2⟩
theorem so{p:Array Nat}(a:gy n lt)(h:Pm n p)(hi:i<n)(b:j<n)(e:i≠j)(f:lt (p.getD i 0) (p.getD j 0)=false):lt (p.getD j 0) (p.getD i 0)=true:=
 a.LQ _ _ (h.lt (by omega) i) (h.lt (by omega) j) (h.ne hi b e) f
theorem E3{p:Array Nat}(c:gy n lt)(h:Pm n p){m:Nat}(h1:1<=m)(f:m<n)(a:gH lt p m)(l:lt (p.getD (m - 1) 0) (p.getD m 0)=true):gH lt p (m+1):=λi j b g=>by
 by_cases e:j<m
 ·exact a i j b e
 ·obtain rfl:j=m:=by omega
  by_cases d:i=j - 1
  ·rw[d];exact l
  ·exact c.tr _ _ _ (h.lt (by omega) _) (h.lt (by omega) _) (h.lt (by omega) _) (a i (j - 1) (by omega) (by omega)) l
theorem E4{p:Array Nat}(c:gy n lt)(h:Pm n p){m:Nat}(h1:1<=m)(f:m<n)(a:je lt p m)(l:lt (p.getD m 0) (p.getD (m - 1) 0)=true):je lt p (m+1):=λi j b g=>by
 by_cases e:j<m
 ·exact a i j b e
 ·obtain rfl:j=m:=by omega
  by_cases d:i=j - 1
  ·rw[d];exact l
  ·exact c.tr _ _ _ (h.lt (by omega) _) (h.lt (by omega) _) (h.lt (by omega) _) l (a i (j - 1) (by omega) (by omega))
theorem q2{p:Array Nat}(b:gy n lt)(h:Pm n p):∀(f m:Nat),1<=m->m+f<=n->gH lt p m->cH n lt (λr=>m<=r/\r<=m+f/\gH lt p r/\(r<m+f->lt (p.getD r 0) (p.getD (r - 1) 0)=true)) (kas_asc p f m)
 |0,m,h1,U,a=>⟨aK _,aK _,a,λz=>absurd z (by omega)⟩
 |f+1,m,h1,U,a=>⟨h.lt (by omega) _,h.lt (by omega) _,h.ne (by omega) (by omega) (by omega),by
  cases c:lt (p.getD m 0) (p.getD (m - 1) 0) with
  |true=>exact⟨aK _,by omega,a,λ_=>c⟩
  |false =>
   refine cH.mono (λr d=>?_) (q2 b h f (m+1) (by omega) (by omega) (E3 b h h1 (by omega) a (so b h (by omega) (by omega) (by omega) c)))
   exact⟨by omega,by omega,d.2.2.1,λz=>d.2.2.2 (by omega)⟩⟩
theorem vy{p:Array Nat}(b:gy n lt)(h:Pm n p):∀(f m:Nat),1<=m->m+f<=n->je lt p m->cH n lt (λr:Array Nat×Nat×Nat=>r.1=p/\r.2.2=0/\m<=r.2.1/\r.2.1<=m+f/\je lt p r.2.1) (kas_desc f p m 0)
 |0,m,h1,U,a=>⟨rfl,rfl,aK _,aK _,a⟩
 |f+1,m,h1,U,a=>⟨h.lt (by omega) _,h.lt (by omega) _,h.ne (by omega) (by omega) (by omega),by
  cases c:lt (p.getD m 0) (p.getD (m - 1) 0) with
  |true =>
   show cH n lt _ (if 0>0 then kas_desc f (kas_rev p (m - (0+1)) m) (m+1) 0 else kas_desc f p (m+1) 0);rw[au (by omega)]
   refine cH.mono (λr d=>?_) (vy b h f (m+1) (by omega) (by omega) (E4 b h h1 (by omega) a c))
   exact⟨d.1,d.2.1,by omega,by omega,d.2.2.2.2⟩
  |false =>
   refine⟨h.lt (by omega) _,h.lt (by omega) _,h.ne (by omega) (by omega) (by omega),?_⟩
   rw[so b h (by omega) (by omega) (by omega) c]
   exact⟨rfl,rfl,aK _,Nat.le_add_right _ _,a⟩⟩
def oW(n:Nat)(lt:Nat->Nat->Bool)(r:Nat×Array Nat):Prop:=Pm n r.2/\gH lt r.2 r.1/\1<=r.1/\r.1<=n
theorem Er{p:Array Nat}(c:gy n lt)(h:Pm n p){m:Nat}(h1:1<=m)(U:m<=n)(a:je lt p m):cH n lt (oW n lt) (kas_tail3 m n p):=
 cH.bind (ψ:=oW n lt) (f:=λk=>.ret (k,kas_rev p 0 m)) (λr b=>(show oW n lt (r,kas_rev p 0 m) from⟨h.rev _ _,b.2.2.1,eS h1 b.1,by have:=b.2.1;show r<=n;omega⟩)) (q2 c (h.rev 0 m) (n - m) m h1 (by omega) (a.rev (by rw[h.size];exact U)))
theorem Es{p:Array Nat}(a:gy n lt)(v:2<=n)(h:Pm n p):cH n lt (oW n lt) (kas_count n p):=
 (q2 a h (n - 1) 1 (aK _) (by omega) (λi j f c=>absurd c (by omega))).bind λm k=>by
  obtain⟨d,w,b,o⟩:=k;show cH n lt _ (if (m==n)=true then _ else if m>1 then _ else _);split
  ·rename_i e
   have:m=n:=by simpa using e
   subst this;exact⟨h,b,d,aK _⟩
  ·rename_i e
   have ne:m≠n:=by simpa using e
   split
   ·rename_i g
    refine⟨h.lt (by omega) _,h.lt (by omega) _,h.ne (by omega) (by omega) (by omega),?_⟩
    rw[b 0 (m - 1) (by omega) (by omega)]
    exact⟨h,b,d,by omega⟩
   ·obtain rfl:m=1:=by omega
    have l:=o (by omega)
    have q:je lt p 2:=λi j f c=>by
     obtain rfl:j=1:=by omega
     obtain rfl:i=0:=by omega
     exact l
    refine cH.bind (λr s=>?_) (vy a h (n - (1+1)) (1+1) (by omega) (by omega) q)
    obtain⟨t,x,y,z,u⟩:=s;show cH n lt _ (if r.2.2>0 then _ else _);rw[au (by omega),t]
    exact Er a h (by omega) (by omega) u
theorem qI{p:Array Nat}(b:gy n lt)(h:Pm n p){k:Nat}(g:k<n)(a:gH lt p k):∀(f l r:Nat),r - l<=f->l<=r->r<=k->(∀i,i<l->lt (p.getD i 0) (p.getD k 0)=true)->(∀i,r<=i->i<k->lt (p.getD k 0) (p.getD i 0)=true) ->
  cH n lt (λm=>m<=k/\(∀i,i<m->lt (p.getD i 0) (p.getD k 0)=true) /\∀i,m<=i->i<k->lt (p.getD k 0) (p.getD i 0)=true) (kas_place p k f l r)
 |0,l,r,t,u,d,lo,hi=>by
  obtain rfl:l=r:=by omega
  exact⟨d,lo,hi⟩
 |f+1,l,r,t,u,d,lo,hi=>by
  show cH n lt _ (if l ≥ r then _ else _);split
  ·obtain rfl:l=r:=by omega
   exact⟨d,lo,hi⟩
  ·refine⟨h.lt (by omega) _,h.lt (by omega) _,h.ne (by omega) (by omega) (by omega),?_⟩
   cases c:lt (p.getD k 0) (p.getD ((l+r) / 2) 0) with
   |true =>
    refine qI b h g a f l ((l+r) / 2) (by omega) (by omega) (by omega) lo λi q s=>?_
    by_cases e:i=(l+r) / 2
    ·rw[e];exact c
    ·exact b.tr _ _ _ (h.lt (by omega) _) (h.lt (by omega) _) (h.lt (by omega) _) c (a _ i (by omega) s)
   |false =>
    have o:=so b h (i:=k) (j:=(l+r) / 2) g (by omega) (by omega) c
    refine qI b h g a f ((l+r) / 2+1) r (by omega) (by omega) d (λi q=>?_) hi
    by_cases e:i=(l+r) / 2
    ·rw[e];exact o
    ·exact b.tr _ _ _ (h.lt (by omega) _) (h.lt (by omega) _) (h.lt (by omega) _) (a i _ (by omega) (by omega)) o
theorem wk(b:gy n lt):∀(f:Nat) (p:Array Nat) (k:Nat),k+f=n->Pm n p->gH lt p k->cH n lt (λr=>Pm n r/\gH lt r n) (kas_bin f p k)
 |0,p,k,e,h,a=>by
  obtain rfl:k=n:=by omega
  exact⟨h,a⟩
 |f+1,p,k,e,h,a=>(qI b h (by omega) a k 0 k (by omega) (bp _) (aK _) (λi hi=>absurd hi (ny _)) (λi h1 U=>absurd U (by omega))).bind λl s=>by
  obtain⟨c,t,u⟩:=s;refine wk b f _ _ (by omega) (h.LP _ _) λi j q w=>?_
  have v:=h.size;rw[wj (by omega) c i,wj (by omega) c j]
  by_cases d:i=l
  ·rw[aB d,au (by omega),aB (by omega)]
   exact u _ (by omega) (by omega)
  ·rw[au d]
   by_cases g:l<i/\i<=k
   ·rw[aB g,au (by omega),aB (by omega)]
    exact a _ _ (by omega) (by omega)
   ·rw[au g]
    by_cases m:j=l
    ·rw[aB m];exact t i (by omega)
    ·rw[au m]
     by_cases o:l<j/\j<=k
     ·rw[aB o]
      exact a _ _ (by omega) (by omega)
     ·rw[au o]
      exact a _ _ q (by omega)
theorem E5(b:gy n lt)(d:2<=n):cH n lt (λr=>Pm n r/\gH lt r n) (kas_sort n):=
 (Es b d (jk _)).bind λr f=>by
  obtain⟨c,a,g,h⟩:=f;show cH n lt _ (if r.1<n then _ else _);split
  ·refine wk b _ _ _ (by omega) c ?_
   rw[show max r.1 1=r.1 by omega];exact a
  ·obtain e:r.1=n:=by omega
   rw[e]at a;exact⟨c,a⟩
end
end L2
namespace L2
open W Calls PyProof.Rows HS
def eR:List CY->List CY->Bool
 |a::as,b::bs=>if a=b then eR as bs else jf a b
 |_,_=>false
theorem Ar:∀{a b c:am CY},a.length=b.length->b.length=c.length->eR a b=true->eR b c=true->eR a c=true
 |[],_,_,h1,_,h,_=>by unfold eR at h;cases h
 |a::i,[],_,h1,_,_,_=>by simp at h1
 |a::i,b::bs,[],_,U,_,_=>by simp at U
 |a::i,b::bs,c::cs,h1,U,e,d=>by
  unfold eR at e d⊢
  by_cases g:a=b
  ·rw[aB g]at e
   subst g
   by_cases f:a=c
   ·rw[aB f]at d⊢;exact Ar (by simpa using h1) (by simpa using U) e d
   ·rw[au f]at d⊢;exact d
  ·rw[au g]at e
   by_cases f:b=c
   ·subst f
    rw[au g];exact e
   ·rw[au f]at d
    have t:=IE e d
    by_cases j:a=c
    ·subst j;rw[Ga]at t;cases t
    ·rw[au j];exact t
theorem w0:∀{a b:am CY},a.length=b.length->a≠b->eR a b=false->eR b a=true
 |[],[],_,h,_=>absurd rfl h
 |[],b::bs,h,_,_=>by simp at h
 |a::d,[],h,_,_=>by simp at h
 |a::d,b::bs,h1,U,c=>by
  unfold eR at c⊢
  by_cases e:a=b
  ·subst e
   rw[aB rfl]at c⊢;exact w0 (by simpa using h1) (λz=>U (by rw[z])) c
  ·rw[au e]at c;rw[au (aN e)]
   exact Ho e c
theorem E6{a b:CY}{t u:Vv}{c:Bool}{Q:Bool->OX->Prop}(h:Q (jf a b) s):OZ (Pb P w) A (oneLt' c (.str a t) (.str b u)) Q E s:=by
 cases c with
 |true=>exact oneLt_str h
 |false =>
  rw[oneLt'_eq];simp only[ng,gr];exact ab (Wd (gp h))
theorem vz{b g:Bool}{Q:Bool->OX->Prop}:∀{c bs:am CY}{us vs:am i'}{d f:am i'} (i:Nat),SR us c->SR vs bs->c.length=bs.length->c≠bs->Q (eR c bs) s->KatLex P w A b g Q ((us++d).zip (vs++f)) i s
 |[],[],_,_,_,_,_,_,_,_,h,_=>absurd rfl h
 |[],_::_,_,_,_,_,_,_,_,h,_,_=>by simp at h
 |_::_,[],_,_,_,_,_,_,_,h,_,_=>by simp at h
 |a::c,k::bs,_,_,d,f,i,.cons _ t h1,.cons _ u U,l,j,q=>by
  unfold eR at q;refine kat_cons (Ci ?_)
  by_cases e:a=k
  ·rw[cE e]
   rw[aB e]at q;exact kat_yes (vz (i+1) h1 U (by simpa using l) (λz=>j (by rw[e,z])) q)
  ·rw[eF e]
   rw[au e]at q;exact kat_no (E6 q)
def jB(H:Hp)(m:Nat)(vs:List V)(kvs:List (List CY×List V)):Prop:=Sl (λy p=>∃a,y=V.ref a/\H a=ih (.tup (p.1.map V.str++p.2))/\p.1.length=m) vs kvs
theorem uY{H:Hp}:∀{ks:am CY}{rest:am V}{its:am i'},Vals (ks.map V.str++rest) its ->∃us a,its=us++a/\SR us ks
 |[],rest,its,h=>⟨[],its,rfl,.nil⟩
 |k::ks,rest,its,h=>by
  cases h with
  |cons r t =>
   obtain⟨tk,rfl⟩:=r;obtain⟨us,a,e,st⟩:=uY (H:=H) t;exact⟨.str k tk::us,a,by rw[e];rfl,.cons k tk st⟩
theorem E7{σ:am (Option V)}
  (yj:∀(A:SV) (E:i'->OX->Prop) (yg:am i'->OX->Prop),(X.A.handled=none->A.handled=none)->(∀(its:am i') (zg:OX) (H:Hp) (ys:am V) (kvs:am (List CY×List V)) (G:Nat),Inv X J σ H zg->Vals ys its->jB H G ys kvs->1<=G->(kvs.map (·.1)).Nodup->ys.length<=63 ->
   (∀D za ya,H D=none->za.Perm ys->jB H G za ya->ya.Perm kvs->(ya.map (·.1)).Pairwise (λa b=>eR a b=true)->Q (.ref D) (upd H D (.lst za)))->yg its zg)->OZ X.eb A (collect (.ref p)) yg E s) :
  wA X (call (.builtin "sorted") [.ref p]) (EP X J σ Q) X.xe s:=by
 refine Pt kind_sorted plain_sorted entry_sorted (args_sorted1 _) ?_;unfold SA.«sorted»;refine ab (m:=checkCount "sorted" 1 1 _) (ai (ab (yj _ _ _ (λh=>by simpa using h) λits s H ys kvs G I yb pr yA yq zA q=>?_)))
 have zq:ys.length<=OY:=by rw[aQ];omega
 have zj:ys.length=kvs.length:=c5 pr;have ye:=yb.length;have R:∀(i:Nat),i<its.length ->∃(ks:am CY) (a:OT) (w l:am i'),(kvs.map (·.1))[i]?=ih ks/\its[i]?=ih (.ref a)/\a≠X.env.locals/\S0 s.heap a (w++l).toArray/\SR w ks/\ks.length=G:=by
  intro i hi;have ze:i<ys.length:=by omega
  obtain⟨xr,xk,a,yr,zb,yk⟩:=kz pr (show ys[i]?=ih ys[i] from bB ze);obtain⟨u,xc,l⟩:=yb.get (show ys[i]?=ih (V.ref a) by rw[bB ze,yr])
  cases l
  obtain⟨xC,zr,xh,_⟩:=I.tuple (aU.of zb);obtain⟨w,l,e,st⟩:=uY (H:=H) zr;rw[e]at xh;exact⟨xr.1,a,w,l,by rw[dt,xk];rfl,xc,(λz=>by rw[z,I.free]at zb;cases zb),xh,st,yk⟩
 obtain⟨m,W,_⟩:=id I.loc
 let lt:Nat->Nat->Bool:=λi j=>eR ((kvs.map (·.1)).getD i []) ((kvs.map (·.1)).getD j [])
 have yC:(kvs.map (·.1)).length=its.length:=by rw[aG];omega
 have K:∀i,i<its.length->((kvs.map (·.1)).getD i []).length=G:=λi hi=>by
  obtain⟨ks,_,_,_,h1,_,_,_,_,U⟩:=R i hi;rw[fy,h1];exact U
 have xf:∀i j,i<its.length->j<its.length->i≠j->(kvs.map (·.1)).getD i []≠(kvs.map (·.1)).getD j []:=λi j hi y M e=>M ((Pw (by omega) yq).mp (by
  rw[fy,fy,bB (by omega),bB (by omega)]at e
  rw[bB (by omega),bB (by omega)]
  exact b2 ih e))
 have xt:gy its.length lt:=⟨λi j k hi y yt h1 U=>Ar ((K i hi).trans (K j y).symm) ((K j y).trans (K k yt).symm) h1 U,λi j hi y M f=>w0 ((K i hi).trans (K j y).symm) (xf i j hi y M) f⟩;have yf:∀(h':SN) (D:OT) (c:Nat) (d:Array Nat),(∀b o,b≠X.env.locals->s.heap.get? b=ih o->h'.get? b=ih o)->h'.Ns X.env.locals m->(∀b o,s.heap.get? b=ih o->b≠D)->Pm its.length d->(d.toList.Pairwise λi j=>lt i j=true) ->
   h'.get? D=ih (listOf (d.toList.map λi=>its.getD i P0).toArray c) ->∃v Y,Inv X J σ Y { s with heap:=h' }/\RelV v (.ref D)/\Q v Y:=by
  intro h' D c d k zk B x xl new;have zf:∀i∈d.toList,i<its.length:=λi hi=>iE.mp (x.mem_iff.mp hi);have yh:(d.toList.map λi=>ys.getD i V.aM).Perm ys:=Aq V.aM (by rw[ye];exact x)
  have yl:Pm kvs.length d:=by rw[<-zj,ye];exact x
  have zt:(d.toList.map λi=>kvs.getD i (([],[]):am CY×List V)).Perm kvs:=Aq _ yl;have xu:jB H G (d.toList.map λi=>ys.getD i V.aM) (d.toList.map λi=>kvs.getD i ([],[])):=uX λi hi=>E1 pr V.aM ([],[]) i (by have:=zf i hi;omega)
  have yu:(d.toList.map λi=>kvs.getD i ([],[])).map (·.1)=d.toList.map λi=>(kvs.map (·.1)).getD i []:=by
   rw[gP];refine C8 λi hi=>?_;have:i<kvs.length:=by have:=zf i hi;omega
   show(kvs.getD i ([],[])).1=_;rw[fy,fy,dt,bB this];rfl
  have zl:Vals (d.toList.map λi=>ys.getD i V.aM) (d.toList.map λi=>its.getD i P0):=vq (λi=>by
   by_cases hi:i<ys.length
   ·obtain⟨u,xc,l⟩:=yb.get (show ys[i]?=ih ys[i] from bB hi)
    rw[fy,fy,xc,bB hi];exact l
   ·rw[fy,fy,C6 (by omega),C6 (by omega)];trivial) d.toList
  obtain⟨zu,xv⟩:=Inv.sorted (t':=s.toks) I W zk k B new zl (by rw[yh.length_eq];exact zq)
  refine⟨.ref D,_,xv,rfl,q D _ _ zu yh xu zt ?_⟩;rw[yu,j2];exact xl
 refine ab (ud ?_ (by rw[aQ];omega))
 have xb:(s.heap.push (seqObj "list" its.toArray 0)).get? s.heap.objs.size=ih (seqObj "list" its.toArray 0):=bK _ rfl;have B:∀b o,s.heap.get? b=ih o->b≠s.heap.objs.size:=λb o e=>bG (br e);refine ab (dO (fu slot_list_sort ⟨_,xb,rfl⟩ entry_list_sort ?_ (args_list_sort _)));have keep:∀b o,s.heap.get? b=ih o->(s.heap.push (seqObj "list" its.toArray 0)).get? b=ih o:=λb o e=>aZ _ e
 by_cases U:its.length<2
 ·refine EY xb U λc g zh new=>⟨_,rfl,ai ⟨_,rfl,?_⟩⟩
  refine yf g _ c (Sj its.length).toArray (λb o _ e=>zh b o (B b o e) (keep b o e)) (W.at' λo e=>zh _ o (B _ o e) (keep _ o e)) B (jk _) ?_ ?_
  ·show(Sj its.length).Pairwise _
   have:its.length=0\/its.length=1:=by omega
   rcases this with z|z <;> rw[z]
   ·exact TJ
   ·exact List.pairwise_singleton _ _
  ·have:(Sj its.length).map (λi=>its.getD i P0)=its:=by
    apply CV
    ·simp
    ·intro i h1 U;simp[Ts,U]
   show g.get? s.heap.objs.size=ih (listOf ((Sj its.length).map λi=>its.getD i P0).toArray c);rw[this];exact new
 ·have U:2<=its.length:=by omega
  obtain⟨O,xm,S⟩:∃O:SN,O.objs.size=0 /\∀b,O.get? b=none:=⟨{ s.heap with objs:= #[] },rfl,λb=>Ux (bp _)⟩;have F:Fr O X.env.locals s.heap m:=⟨W,λb o e=>(by rw[S]at e;cases e),by rw[xm];exact bp _⟩
  have N:=Fv (g:=O) (L:=X.env.locals) (h:=s.heap);have ym:∃o,s.heap.get? X.env.locals=ih o:=let ⟨o,_,_,e,_⟩:=W;⟨o,e⟩;obtain⟨zC,yv⟩:=ym;refine kat_list_sort (s:={ s with heap:=s.heap.push (seqObj "list" its.toArray 0) }) (F.kept keep) (N.grown keep) xb (aN (B _ _ yv)) (S _) (λp x=>B p.1 p.2 (qy x).2.2) U (by omega) λxD h' zv N'=>?_
  have kp:∀b o,b≠X.env.locals->s.heap.get? b=ih o->h'.get? b=ih o:=λb o n e=>(N' (b,o) (a8 _ (uH n (S b) e))).1;have tk:∀{a:OT}{zs:Array i'},a≠X.env.locals->S0 s.heap a zs->S0 h' a zs:=λn ⟨o,yc,r⟩=>⟨o,kp _ o n yc,r⟩;have xw:∀(vs:am i'),(∀v∈vs,∃a w l ks,v=Pk a/\S0 h' a (w++l).toArray/\SR w ks/\ks.length=G) ->∃fs,fs.length=vs.length/\KatTups h' vs fs /\∀f∈fs,∃k t,f=To k t:=by
   intro vs
   induction vs with
   |nil=>intro _;exact⟨[],rfl,KatTups.nil,λf P=>(by cases P)⟩
   |cons v vs yw =>
    intro hv;obtain⟨fs,zw,xx,yx⟩:=yw λzx h'=>hv zx (a8 _ h');obtain⟨a,w,l,ks,rfl,⟨o,yc,xy,n,yy⟩,st,zm⟩:=hv v aS;cases st with
    |nil=>simp at zm;omega
    |cons k t r =>
     refine⟨.str k t::fs,by rw[cX,cX,zw],KatTups.cons yc xy yy (by simp) xx,λf P=>?_⟩
     rcases bu.mp P with z|z
     ·exact⟨k,t,z⟩
     ·exact yx f z
  obtain⟨fs,xB,xn,yn⟩:=xw its λv hv=>by
   obtain⟨i,hi,rfl⟩:=t9 hv;obtain⟨ks,a,w,l,_,xa,zc,xd,yd,zd⟩:=R i hi;rw[bB hi]at xa;exact⟨a,w,l,ks,c3 xa,tk zc xd,yd,zd⟩
  refine kat_kind (T:=.type "str") xn (by omega) (λf P=>?_) (by decide) ?_
  ·obtain⟨k,t,rfl⟩:=yn f P
   exact Looks.of_pure rfl
  ·refine(E5 xt U).wp (λi j C hi y M xi=>?_) λd x=>?_
   ·obtain⟨k,a,w,l,zy,xa,zc,xd,yd,zd⟩:=R i hi
    obtain⟨yi,yD,yB,zB,zn,xo,yo,zo,xp,yp⟩:=R j y;unfold kas_ask;rw[fy,fy,xa,xo];have zi:(kvs.map (·.1)).getD i []=k:=by rw[fy,zy];rfl
    have xj:(kvs.map (·.1)).getD j []=yi:=by rw[fy,zn];rfl
    have xz:lt i j=eR k yi:=by show eR ((kvs.map (·.1)).getD i []) ((kvs.map (·.1)).getD j [])=_;rw[zi,xj]
    have ne:=xf i j hi y M;rw[zi,xj]at ne;rw[xz]at xi;obtain⟨ox,yz,_,zD,dx⟩:=tk zc xd;obtain⟨xE,zz,_,yE,xA⟩:=tk yo zo;exact kat_lt yz dx zz xA (vz 0 yd xp (zd.trans yp.symm) ne xi)
   ·refine KasFin.intro zv N' (UpdF.head λp x=>?_) λzp c xq xg=>?_
    ·exact B p.1 p.2 (qy x).2.2
    ·refine⟨_,rfl,ai ⟨_,rfl,?_⟩⟩
     exact yf zp _ c d (λb o n e=>(xg (b,o) (a8 _ (uH n (S b) e))).1) xq.ns B x.1 (IF x.1.size x.2) (xg _ aS).1
theorem qC:cT X (.builtin "sorted") (λxs H Q=>∃(p:OT) (ys:am V) (kvs:am (List CY×List V)) (m:Nat),xs=[.ref p]/\(aq X.K H p ys\/aU X.K H p ys)/\jB H m ys kvs/\1<=m/\(kvs.map (·.1)).Nodup/\ys.length<=63 /\
  ∀D f d,H D=none->f.Perm ys->jB H m f d->d.Perm kvs->(d.map (·.1)).Pairwise (λa b=>eR a b=true)->Q (.ref D) (upd H D (.lst f))):=by
 rintro J s σ H xs us Q I r ⟨p,ys,kvs,j,ex,hq,pr,h,l,i,q⟩;subst ex;obtain⟨u,rfl,t⟩:=vals1 r;cases t
 refine E7 λA E w _ n=>?_;rcases hq with hq|hq
 ·obtain⟨its,c,g,v⟩:=I.list hq
  have:=c.length;exact collect_list g.isList (n its _ H ys kvs j (I.kept (t':=s.toks) λb o e=>(m9 _ _ (iH (br e))).trans (aZ _ e)) c pr h l i q) (by rw[aQ];omega)
 ·obtain⟨its,c,g,v⟩:=I.tuple hq
  have:=c.length;exact DZ g (by rw[aQ];omega) λh' k=>n its _ H ys kvs j (I.kept (t':=s.toks) k) c pr h l i q
end L2
namespace L2
open Spec PyProof.Rows W
end L2
namespace HT
open PyProof.Rows
section
open SeqAt
open AutoSeq1 (wpAny_loadPart')
open MeetsSeq MeetsSeq2 MeetsSeq3
end
end HT
namespace L2
open Spec PyProof.Rows W HT
end L2
namespace HS
open Spec PyProof.Rows W
theorem wm{vs:am i'}{ys:am CY}{y:CY}{t:Vv}{j:Nat}{Q:a2 Ui×Unit->OX->Prop}(st:SR vs ys)(a:ys[j]?=ih y)(d:∀m,m<j->ys[m]? ≠ ih y)(q:∀tk,Q (ih (.done (.ret (.int j tk))),()) { s with toks:=s.toks+1 }) :
  ∀(k i:Nat),i<=j->j<i+k->OZ (Pb P w) A (forIn (m:=Ua) (List.range' i k) ((none,()):a2 Ui×Unit) λ(i:Nat) o=>match vs.toArray[i]? with
      |some f=>do
       let b <- eqBool f (.str y t)
       if b=true then do
         let r <- retInt (i:Int)
         pure (W0 (ih r,()))
        else pure (Sr (none,()))
      |_=>pure (Sr (none,()))) Q E s
 |0,i,h1,U=>absurd U (by omega)
 |k+1,i,h1,U=>by
  rw[List.range'_succ,UU];have l:=ku st;have n:j<ys.length:=(bA.mp a).1;have hi:i<vs.length:=by omega
  obtain⟨tk,g⟩:=L2.rE st i vs[i] (bB hi);have c:i<ys.length:=by omega
  have h:vs.toArray[i]?=ih (.str ys[i] tk):=by
   rw[List.getElem?_toArray,bB hi,g];simp[c]
  rw[h]
  dsimp only
  refine ab (ab (Ci ?_))
  by_cases e:ys[i]=y
  ·rw[cE e,aB rfl]
   have:i=j:=by
    by_cases z:i<j
    ·exact absurd (by rw[bB c,e]) (d i z)
    ·omega
   subst this;refine ab ?_;unfold retInt;exact ab (wpAny_mkInt (ai (ai (ai (q _)))))
  ·rw[eF e,au bV]
   refine ai ?_;refine wm st a d q k (i+1) ?_ (by omega)
   by_cases z:i=j
   ·subst z
    rw[bB c]at a;exact absurd (c3 a) e
   ·omega
theorem E8{vs:am i'}{y:CY}{t:Vv}{Q:i'->OX->Prop}(d:S0 s.heap l vs.toArray)(st:SR vs ys)(a:ys[j]?=ih y)(c:∀m,m<j->ys[m]? ≠ ih y)(q:∀tk,Q (.int j tk) { s with toks:=s.toks+1 }) :
  OZ (Pb P w) A (call (.builtin "tuple.index") [.ref l,.str y t]) Q E s:=by
 obtain⟨o,b,e,n,f⟩:=d;have i:j<ys.length:=(bA.mp a).1;have h:=ku st;refine fu Px ⟨o,b,e⟩ PySem.F.entry_tuple_index ?_ (PySem.F.args_tuple_index_2 _ _);unfold SA.«tuple.index»;refine ab (ai ?_)
 dsimp only
 refine ab ?_;unfold Tb seqItems?;refine ab (ab (m6 b ?_));rw[f];refine ai (ai ?_);refine ab (ai (ab (ai ?_)));rw[U6];refine ab ?_;have g:([0:min vs.toArray.size vs.toArray.size]:WC).size=vs.length:=by simp[U5]
 rw[g];refine wm st a c (λtk=>?_) vs.length 0 (bp _) (by omega)
 exact ai ⟨_,rfl,q tk⟩
end HS
namespace L2
open Spec PyProof.Rows W HS
def Hq(K:S7):V->List V->Hp->VK->Prop:=λx vs H Q=>∃(l:OT) (ys:List CY) (y:CY) (j:Nat),x=.ref l/\vs=[.str y]/\aU K H l (ys.map V.str)/\ys[j]?=ih y/\(∀m,m<j->ys[m]? ≠ ih y)/\Q (.int j) H
theorem E9:mX X "tuple.index" (Hq X.K):=by
 rintro J s σ H x vs v us Q I b c ⟨l,ys,y,j,rfl,rfl,d,e,a,q⟩;cases b
 obtain⟨u,rfl,t,rfl⟩:=c.one;obtain⟨its,r,f,g⟩:=I.tuple d;exact E8 f (nR r) e a λtk=>⟨.int j,H,I.tok _,⟨tk,rfl⟩,q⟩
theorem E'(g:X.calm=true):cT X (.builtin "max") (λxs H Q=>∃(p:OT) (ns:am Int),xs=[.ref p]/\aq X.K H p (ns.map V.int)/\ns ≠ [] /\∀m,m∈ns->(∀a∈ns,a<=m)->Q (.int m) H):=by
 rintro J s σ H xs us Q I r ⟨p,ns,ex,h,f,q⟩;subst ex;obtain⟨u,rfl,i⟩:=vals1 r;cases i
 obtain⟨its,k,l,w⟩:=I.list h;have b:Uc its ns:=intsAre_of k;obtain⟨zs,same⟩:=b.allInts.items;have all:ns=zs.toList.map (·.1):=by rw[<-nums_intItems,<-same,b.numsOf]
 have size:zs.size=ns.length:=by rw[all];simp
 have d:0<zs.size:=by rw[size];exact uk.mpr f
 refine max_intList (I.ok.hd g) (same ▸ l.isList) d λv h' tk hv keep=>?_;obtain⟨t,rfl⟩:=intItems_at hv;obtain⟨n,e⟩:=argBest_gt (numAt zs) (zs.size - 1);refine⟨.int _,H,I.kept (t':=tk) keep,⟨t,rfl⟩,q _ (by rw[all,numAt_eq];exact getD_mem (by rw[aG,eT];exact Py n (by omega))) λm c=>?_⟩
 rw[all]at c;obtain⟨j,o,rfl⟩:=mem_getD c;exact numAt_eq (xs:=zs) j ▸ e j (by simp at o;omega)
end L2
namespace L2
open W Spec PyProof.Rows
end L2
namespace L2
open W
end L2
namespace L2
open W Spec PyProof.Rows
def g0(h:SN)(d:OT)(es:Array Sz)(ep:Nat):Prop:= ∃o,h.get? d=ih o/\o.ExactDict/\o.data=.dict es ep
theorem g0.ty{es:Array Sz}(x:g0 s.heap d es ep):s.TypeIs (.ref d) "dict" :=let ⟨o,e,c,_⟩:=x;⟨o,e,c.1⟩
theorem Gb{es:Array Sz}{Q:i'->OX->Prop}(e:(d==sysModules)=false)(x:g0 s.heap d es ep)
  (q:Q (.ref s.ao) { s with heap:=s.heap.push { cls:=.type "dict_keyiterator",data:=.fields #[.ref d,.int 0 0,.int es.size 0,.int ep 0] } }):OZ (Pb P w) A (pyIter (.ref d)) Q E s:=by
 have a:=x.ty;obtain⟨o,c,f,b⟩:=x;refine qn a Vb (fu Vb a F.entry_dict_iter ?_ (F.args_dict_iter_1 _));unfold SA.«dict.__iter__»;refine ab ?_;unfold Wn;refine ab (uc a ?_);show OZ _ _ (pure (Pk d)) _ _ s;refine ai ?_;show OZ _ _ (S6 d >>= _) _ _ s;unfold S6;rw[au (by rw[e];exact bV)]
 refine ab (ai (ab (nB c b (ab (nC c b ?_)))));exact ab (ed (ai ⟨_,rfl,"dict_keyiterator",_,⟨_,bK _ rfl,rfl⟩,qo.lookup,q⟩))
theorem Gd{es:Array Sz}{e:Sz}{Q:a2 i'->OX->Prop}(a:s.heap.IsKeyIter it d i es.size ep)(x:g0 s.heap d es ep)(j:es[i]?=ih e)
  (q:∀h',h'.IsKeyIter it d (i+1) es.size ep->Sn it s.heap h'->Q (ih e.key) { s with heap:=h' }):OZ (Pb P w) A (pyNext (.ref it)) Q E s:=by
 obtain⟨o,c,k,b⟩:=id a;obtain⟨od,g,l,h⟩:=id x;unfold pyNext;refine ab (lr (ll (name:=SE "__next__") a.typeIs qo
  (fu qo a.typeIs Pz ?_ (PB _))))
 refine ab (ai (ab (ab ?_)))
 first|refine ab (um a.typeIs (ai ?_))|refine ab (uo a.typeIs (ai ?_))
 refine ab (qm c b ?_);simp only[show Su "dict_keyiterator" = false by decide,ng,gr]
 show OZ _ _ (if (Pk d==P0)=true then _ else _) _ _ s;rw[au (show ¬ ((Pk d==P0)=true) from bV)];refine ab (ai (ab (nB g h ?_)));rw[au (by simp)]
 refine ab (ai (ab (nC g h ?_)));rw[au (by simp)]
 refine ai ?_;simp only[show ¬ ((i:Int)<0) from by omega,gr,ft,j]
 refine ab ?_
 first|refine ab (um a.typeIs (ai ?_))|refine ab (uo a.typeIs (ai ?_))
 refine ab (wpAny_isOneOf_keyiter a.typeIs ?_);show OZ _ _ (setField (.ref it) 1 (rawInt ((i:Int)+1)) >>= _) _ _ s;refine ab (C9 c b (by simp) ?_)
 have f:(s.heap.update it (Vo (·.setIfInBounds 1 (rawInt ((i:Int)+1))))).IsKeyIter it d (i+1) es.size ep:=
  ⟨_,qf _ c (Obj.isFreed_of_fields (UK b _)),(Obj.cls_mapFields ..).trans k,by rw[UK b];simp[rawInt]⟩
 refine ab (dO (ab (wpAny_isOneOf_keyiter (s:={ s with heap:=s.heap.update it (Vo (·.setIfInBounds 1 (rawInt ((i:Int)+1)))) }) f.typeIs ?_)));show OZ _ _ (pure e.key) _ _ _;exact ai (ai ⟨_,rfl,ai (q _ f (ly ..))⟩)
theorem Ge{es:Array Sz}{Q:a2 i'->OX->Prop}(i:A.handled=none)(c:s.heap.IsKeyIter it d es.size es.size ep)(x:g0 s.heap d es ep)
  (q:∀h',VD it s.heap h'->Q none { s with heap:=h' }):OZ (Pb P w) A (pyNext (.ref it)) Q E s:=by
 obtain⟨o,g,k,h⟩:=id c;obtain⟨od,e,j,f⟩:=id x;unfold pyNext;refine ab (lr (ll (name:=SE "__next__") c.typeIs qo
  (fu qo c.typeIs Pz ?_ (PB _))))
 refine ab (ai (ab (ab ?_)))
 first|refine ab (um c.typeIs (ai ?_))|refine ab (uo c.typeIs (ai ?_))
 refine ab (qm g h ?_);simp only[show Su "dict_keyiterator" = false by decide,ng,gr]
 show OZ _ _ (if (Pk d==P0)=true then _ else _) _ _ s;rw[au (show ¬ ((Pk d==P0)=true) from bV)];refine ab (ai (ab (nB e f ?_)));rw[au (by simp)]
 refine ab (ai (ab (nC e f ?_)));rw[au (by simp)]
 refine ai ?_;simp only[show ¬ ((es.size:Int)<0) from by omega,gr,ft,nA (aK es.size)]
 refine ab ?_
 first|refine ab (um c.typeIs (ai ?_))|refine ab (uo c.typeIs (ai ?_))
 show OZ _ _ (setField (.ref it) 0 .none >>= _) _ _ s;refine ab (C9 g h (by simp) ?_)
 show OZ _ _ (newExc (.type "StopIteration") [] >>= _) _ _ _;refine ab ?_;simp only[newExc,newTuple];refine ab (ed ?_ (by size_fits))
 refine ab (m:=firstArgMember _ _) (uf (a:=P0) (by first|rfl|(simp only[firstArgMember];rfl)) ?_)
 refine ed ?_ (by size_fits)
 simp only[raiseNew];refine ab (C3 ?_);rw[show A.in1.handled=none from i];refine ab (ai (wpAny_throw ?_));refine ab (ug (T:= "StopIteration") (b:=true) ⟨_,bK _ rfl,rfl⟩ C4 ?_);exact ai (q _ (((ly ..).extBut.push _).push _))
def tJ(d:OT)(o:Tp)(kvs:List (List Key×V)):It:=⟨λi H=>H d=ih (.bw o (.dT kvs))/\i<kvs.length,λi H v Y=>Y=H /\∃kv b,kvs[i]?=ih kv/\v=.ref b/\H b=ih (.tup (kv.1.map kV)),λi H=>H d=ih (.bw o (.dT kvs))/\kvs.length<=i⟩
theorem Paired.get{α β:Type}{F:α->β->Prop}{l:am α}{m:am β}(h:Sl F l m):∀{i:Nat}{a:α},l[i]?=ih a ->∃b,m[i]?=ih b/\F a b:=by
 induction h with
 |nil=>intro i a e;cases e
 |cons r _ c =>
  intro i a e;cases i with
  |zero=>cases e;exact⟨_,rfl,r⟩
  |succ i=>exact c (by simpa using e)
theorem w1{kvs:am (List Key×V)}{es:Array Sz}(I:Inv X J σ H s)(h:H d=ih (.bw o (.dT kvs)))(g:o.data=.dict es ep) :
  s.heap.get? d=ih o/\o.ExactDict/\es.size=kvs.length /\∀(i:Nat) (a:am Key×V),kvs[i]?=ih a ->∃(b:OT) (e:Sz),es[i]?=ih e/\e.key=.ref b/\H b=bi (a.1.map kV):=by
 obtain⟨h1,z,y,xs,r,o',n,p,U,j,c,f,q⟩:=(show bO X.prog X.w H s.heap d (.bw o (.dT kvs)) from I.aJ d _ h);rw[h1]at U;cases U
 rw[g]at c;cases c
 refine⟨h1,j,by rw[Dc f];exact(c5 r).symm,λi a k=>?_⟩
 obtain⟨x,l,t,m,u⟩:=Paired.get r k;exact⟨x.2.1,_,by rw[entry_at f,l];rfl,rfl,m⟩
theorem Hs(d it:OT)(yb:d≠it)(o:Tp)(kvs:am (List Key×V))(es:Array Sz)(ep:Nat)(g:o.data=.dict es ep) :
  Turn P w K tg (tJ d o kvs) [it] it (λi h=>i<=kvs.length/\h.IsKeyIter it d i es.size ep) where
 mem:=by simp
 obj:=λi h st b a=>by
  obtain rfl:b=it:=by simpa using a
  obtain⟨_,o,e,c,d⟩:=st;exact⟨o,e,λv z=>by rw[d]at z;cases z⟩
 keep:=λi h h' st k=>by
  obtain⟨l,o,e,r⟩:=st;exact⟨l,o,k it (by simp) _ e,r⟩
 item:=by
  intro X m n p L i J s σ H E I j st f;subst m n p;obtain⟨q,t,R,u,x,y⟩:=j it (by simp)
  obtain⟨B,C,M,N⟩:=w1 I f.1 g;have O:i<kvs.length:=f.2;have D:kvs[i]?=ih kvs[i]:=bB O;obtain⟨b,e,S,T,a⟩:=N i _ D;refine Gd st.2 ⟨o,B,C,g⟩ S λh' F U=>?_;have W:Inv X J σ H { s with heap:=h' }:=I.turned (t':=s.toks) (λb o a e=>U.extBut b o (by simpa using a) e) q t u x y
  obtain⟨zb,Y,xa,ya⟩:=id F;exact⟨_,rfl,mw (s:={ s with heap:=h' }) Y xa ya (by decide) ⟨.ref b,H,W,T,⟨rfl,kvs[i],b,D,rfl,a⟩,⟨f.2,F⟩,λb a=>(j b a).1⟩⟩
 done:=by
  intro X m n p L i J s σ H E I j st f;subst m n p;obtain⟨q,t,R,u,x,y⟩:=j it (by simp)
  obtain⟨B,C,M,N⟩:=w1 I f.1 g;have za:i=es.size:=by rw[M];exact CQ st.1 f.2
  have G:=st.2;rw[za]at G;exact Ge (I.ok.hd L) G ⟨o,B,C,g⟩ λh' xb=>⟨rfl,I.turned (t':=s.toks) (λb o a e=>xb b o (by simpa using a) e) q t u x y⟩
 self:=λA i s Q E st h=>wpAny_pyIter_keyiter st.2 h
theorem Inv.w2{σ:am (Option V)}{kvs:am (List Key×V)}(I:Inv X J σ H s)(g:H d=ce kvs)(i:s.heap.get? d=ih o):Inv X J σ (upd H d (.bw o (.dT kvs))) s:=by
 have ok:bO X.prog X.w H s.heap d (.dT kvs):=I.aJ d _ g;have a:∀{b:OT}{u:HO},H b=ih u->u ≠ .dT kvs->b≠d:=λe n z=>by rw[z,g]at e;exact n (c3 e).symm
 refine I.un (h':=s.heap) (t':=s.toks) ⟨λb f q _ _ _=>q,λb f q _ _ _=>⟨f.slots,q⟩,λb f q n _=>?_,λb f q _=>⟨f,q⟩,λb xs e=>?_,λb f u e=>?_,λb ps e=>⟨#[],?_⟩⟩ λb u e=>?_
 ·rw[ag (λz=>by rw[z,g]at n;cases n)];exact n
 ·rw[ag (a e (by intro z;cases z))];exact e
 ·rw[ag (a e (by intro z;cases z))];exact e
 ·rw[ag (a e (by intro z;cases z)),e];simp
 ·by_cases h:b=d
  ·subst h
   rw[af]at e;cases e
   exact⟨i,ok.gi (λ_ _ _ q=>q) (λc q=>by rw[ag (a q (by intro z;cases z))];exact q) λc xs q=>by rw[ag (a q (by intro z;cases z))];exact q⟩
  ·rw[ag h]at e
   exact(I.aJ b u e).gi (λ_ _ _ q=>q) (λc q=>by rw[ag (a q (by intro z;cases z))];exact q) λc xs q=>by rw[ag (a q (by intro z;cases z))];exact q
def IH(te:TE):TI:=λσ H R=>te σ H λv O=>∃d kvs,v=.ref d/\O d=ih (.dT kvs) /\∀o,R (tJ d o kvs) (upd O d (.bw o (.dT kvs)))
theorem Gf(l:PE X e te):PI X tg e (IH te):=by
 intro J s σ H R I h;refine aF (l J s σ H _ I h) λv a E=>?_;obtain⟨y,O,c,m,d,kvs,n,j,q⟩:=E;subst n;cases m
 obtain⟨z,p,xs,r,o,es,ep,f,t,g,u,C⟩:=(show bO X.prog X.w O a.heap d (.dT kvs) from c.aJ d _ j);have B:es.size=kvs.length:=by rw[Dc u];exact(c5 r).symm
 refine Gb p ⟨o,f,t,g⟩ ?_;have i:d≠a.ao:=bG (br f);have x:Inv X J σ O { a with heap:=a.heap.push { cls:=.type "dict_keyiterator",data:=.fields #[.ref d,.int 0 0,.int es.size 0,.int ep 0] } }:=c.kept (t':=a.toks) λb D z=>aZ _ z;have st:0<=kvs.length/\Heap.IsKeyIter (a.heap.push { cls:=.type "dict_keyiterator",data:=.fields #[.ref d,.int 0 0,.int es.size 0,.int ep 0] }) a.ao d 0 es.size ep:=⟨bp _,_,bK _ rfl,rfl,rfl⟩;have k:O a.ao=none:=c.aJ.fresh (aK _);refine⟨a.ao,[a.ao],_,_,_,rfl,x.w2 j (aZ _ f),Hs d a.ao i o kvs es ep g,st,λb A=>?_,q o⟩;obtain rfl:b=a.ao:=by simpa using A
 exact c.ig (aK _) (by rw[ag (aN i)];exact k)
theorem Inv.Jr{σ:am (Option V)}{kvs:am (List Key×V)}(I:Inv X J σ H s)(i:H d=ih (.bw o (.dT kvs)))(l:∀o u,X.jF d≠ih (.bw o u)):Inv X J σ (upd H d (.dT kvs)) s:=by
 obtain⟨_,ok⟩:=(show bO X.prog X.w H s.heap d (.bw o (.dT kvs)) from I.aJ d _ i);have a:∀{b:OT}{u:HO},H b=ih u->u ≠ .bw o (.dT kvs)->b≠d:=λe n z=>by rw[z,i]at e;exact n (c3 e).symm
 have f:∀{b:OT},H b=none->upd H d (.dT kvs) b=none:=λ{b} e=>by rw[ag (λz=>by rw[z,i]at e;cases e)];exact e
 refine⟨I.ok,I.os,I.bare,⟨I.base.keep,I.base.slot,λb g e n m=>f (I.base.free b g e n m),I.base.there,λb xs e=>?_,λb g u e=>?_,λb ps e=>?_⟩,I.loc,I.cell,f I.free,λx c e=>f (I.gf x c e),λp r=>?_,λb u e=>?_,I.len⟩
 ·rw[ag (a (I.base.i4 b xs e) (by intro z;cases z))];exact I.base.i4 b xs e
 ·have h:b≠d:=λz=>l g u (z ▸ e)
  rw[ag h];exact I.base.i5 b g u e
 ·obtain⟨k,j⟩:=I.base.jE b ps e
  exact⟨k,by rw[ag (a j (by intro z;cases z))];exact j⟩
 ·obtain⟨t,v,y⟩:=I.pin p r
  exact⟨t,f v,y⟩
 ·by_cases h:b=d
  ·subst h
   rw[af]at e;cases e
   exact ok.gi (λ_ _ _ q=>q) (λc q=>by rw[ag (a q (by intro z;cases z))];exact q) λc xs q=>by rw[ag (a q (by intro z;cases z))];exact q
  ·rw[ag h]at e
   exact(I.aJ b u e).gi (λ_ _ _ q=>q) (λc q=>by rw[ag (a q (by intro z;cases z))];exact q) λc xs q=>by rw[ag (a q (by intro z;cases z))];exact q
def Js(H0:Hp)(t:TE):TE:=λσ H Q=>t σ H λv Y=>∃d o kvs,Y d=ih (.bw o (.dT kvs))/\(∀o u,H0 d≠ih (.bw o u))/\Q v (upd Y d (.dT kvs))
theorem Ht(a:PE X e te):PE X e (Js X.jF te):=by
 intro J s σ H Q I h;exact aF (a J s σ H _ I h) λv i ⟨y,O,b,c,d,o,kvs,f,g,q⟩=>⟨y,_,b.Jr f g,c,q⟩
theorem Et{kvs:am (List Key×V)}{g:TG}(Pv:Nat->List V->St->Hp->Prop)(s:Pv 0 [] d0 (upd O p (.lst [])))(t:∀i ys a H,Pv i ys a H->H p=bm ys/\H d=ih (.bw o (.dT kvs)))
  (u:∀i j b ys a H,kvs[i]?=ih j->H b=bi (j.1.map kV)->Pv i ys a H->g (.ref b) a H λh v=>ti h v λc k=>if c=true then te h k λy l=>l p=bm ys/\ys.length<OY /\∃f,f<kvs.length - i/\CW Pv kvs.length (i+1) f (ys++[y]) h (upd l p (.lst (ys++[y]))) else ∃f,f<kvs.length - i/\CW Pv kvs.length (i+1) f ys h k)
  (w:∀ys a H,Pv kvs.length ys a H->Q (.ref p) H):gg (tJ d o kvs) g ti te d0 Q p O:=by
 refine⟨CW Pv kvs.length,⟨kvs.length,by simp,bp _,s⟩,?_⟩
 rintro i m ys a H ⟨rfl,hi,pv⟩;obtain⟨z,n⟩:=t i ys a H pv;refine⟨z,?_⟩
 by_cases q:i<kvs.length
 ·refine .inr ⟨⟨n,q⟩,λx D A=>?_⟩
  obtain⟨B,j,b,r,ex,C⟩:=A;subst B;subst ex;exact u i j b ys a _ r C pv
 ·have e:i=kvs.length:=by omega
  subst e;exact .inl ⟨⟨n,aK _⟩,w ys a H pv⟩
end L2
namespace HT
open PyProof.Rows W
open AutoSeq1 (wpAny_loadPart')
end HT
namespace L2
open Spec PyProof.Rows W HT
end L2
namespace L2
open W Spec PyProof.Rows
end L2
namespace L2
open Spec PyProof.Rows W HS
def n7(k v:Si)(cA:i')(env:T9):Ua Unit:=do
 let kv <- eval k env
 let vv <- holding [kv] (eval v env)
 match cA with
 |.ref d=>do
  standAt { k.pos with endLine:=v.pos.endLine,endCol:=v.pos.endCol }
  holding [kv,vv] (dictSet d kv vv)
 |_=>unsupported "internal:dictcomp"
theorem Fb{k v:Si}:jo (.DictComp k v [⟨tg,iter,Qe,0⟩] scope pos) tg iter Qe (n7 k v):=⟨rfl,λ_ _ _=>rfl,λ_ _ _ _ _ _=>⟨rfl,rfl⟩,λ_ _ _ _ _ _=>⟨rfl,rfl⟩⟩
def r6(J9:It)(g:TG)(ti:TT)(Qk:OT->St->Hp->(Hp->Prop)->Prop)(d0:St)(Q:VK)(p:OT)(O:Hp):Prop:=
 ∃W:Nat->Nat->St->Hp->Prop,(∃m,W 0 m d0 O) /\∀i m τ H2,W i m τ H2 ->
  ((J9.stop i H2/\Q (.ref p) H2)\/(J9.go i H2 /\∀x H3,J9.ix i H2 x H3->g x τ H3 λfk H4=>ti fk H4 λb H5 =>
   if b=true then Qk p fk H5 λH6=>∃m',m'<m/\W (i+1) m' fk H6
   else ∃m',m'<m/\W (i+1) m' fk H5))
def pZ(X:Cx)(Qf:i'->T9->Ua Unit)(Qk:OT->St->Hp->(Hp->Prop)->Prop):Prop:=
 ∀J s σ H (p:OT) (Q:Hp->Prop),Inv X J σ H s->Qk p σ H Q->wA X (Qf (.ref p) X.env) (λ_ s'=>∃Y,Inv X J σ Y s'/\Q Y) X.xe s
def As(wi:TI)(Qd:List (Option Nat))(g:TG)(ti:TT)(Qk:OT->St->Hp->(Hp->Prop)->Prop)(start:OT->HO):TE:=λσ H Q=>wi σ H λJ9 O=>∀p,O p=none->r6 J9 g ti Qk (pick Qd σ) Q p (upd O p (start p))
section
variable{Qf:i'->T9->Ua Unit}{Qk:OT->St->Hp->(Hp->Prop)->Prop}
theorem Eu{k:It}{g:TG}{f:Ua i'}{start:OT->HO}(F:jo e tg iter Qe Qf)(n:X.calm=true)(S:bW X.N X.env.scope N' Qd scope)
  (o:Inv X J σ H2 s2) (T:Turn X.prog X.w X.K tg k fp it tn) (st:tn 0 s2.heap) (r:∀b∈fp,fc X J H2 b) (l:mh X f start)
  (c:∀s H fp,PG (cc X N' scope s H fp) tg g/\ij (cc X N' scope s H fp) Qe ti/\pZ (cc X N' scope s H fp) Qf Qk)
  (t:∀p,H2 p=none->r6 k g ti Qk (pick Qd σ) Q p (upd H2 p (start p))) (u:∀a C s',CompEnd X J σ Q a C s'->RR a C (.ok .next) s') :
  wA X f (λa v=>wA X (newFunctionEnv scope X.env.globals (d6 X.env.cells scope.names []) [] X.env.qual none .none (ih X.env)) (λj x =>
   codeAny X.eb X.A (.compStart e 0 (.ref it) a { j with scope:=relabel scope X.env }) (RR a j.locals) x) E v) E s2:=by
 refine uR (y0:=()) (temI:=λ_ p σ H R=>Qk p σ H λY=>R () Y) F n S o T st r l (λs H fp=>⟨(c s H fp).1,(c s H fp).2.1,λJ s σ H p y Q I h=>aF ((c _ _ _).2.2 J s σ H p _ I h) λ_ s' ⟨Y,z,q⟩=>⟨(),Y,z,q⟩⟩) (λp B=>?_) u;obtain⟨W,D,st⟩:=t p B;exact⟨λi m _ d H=>W i m d H,D,λi m _ d H w=>st i m d H w⟩
theorem Gg{wi:TI}{g:TG}{c:Ua i'}{start:OT->HO}(F:jo e tg iter Qe Qf)(i:eval e X.env=comprehension e scope X.env pos c false (eval iter X.env))(f:mh X c start)(l:X.calm=true)(S:bW X.N X.env.scope N' Qd scope)(hi:PI X tg iter wi)
  (a:∀s H fp,PG (cc X N' scope s H fp) tg g/\ij (cc X N' scope s H fp) Qe ti/\pZ (cc X N' scope s H fp) Qf Qk)
  (r:∀x,foldedSetIterable iter X.env x=pure x:=by intro _;rfl):PE X e (As wi Qd g ti Qk start):=by
 intro J s σ H Q I h;rw[i];refine CI (use:=none) F.cl r (qA λn t=>nT I S t) S.kind (λx u w=>j7 S.keys (by rw[<-w];exact u)) ?_
 refine aF (hi J s σ H _ I h) λv K h1=>aF h1 λG s2 U=>?_;obtain⟨it,fp,tn,L,H2,e,y,T,j,z,B⟩:=U;subst e;refine Eu (RR:=λd C=>compPost X.eb X.A X.xe none (EP X J σ Q) d C) F l S y T j z f a B ?_;rintro d C s' ⟨p,Y,rfl,D,fC,⟨m,E⟩,q⟩;refine⟨m,E,λh' k=>⟨.ref p,Y,?_,rfl,q⟩⟩;exact D.turned (it:=C) (t':=s'.toks) (λb o a e=>(k.2 b a).trans e) fC.1 fC.2.1 fC.2.2.2.1 fC.2.2.2.2.1 fC.2.2.2.2.2
end
section
variable{k v:Si}{tk:TE}
def sT(tk tv:TE)(p:OT)(σ:St)(H:Hp)(Q:Hp->Prop):Prop:=tk σ H λy O=>tv σ O λz H2=>∃kvs ks b,y=.ref b/\H2 b=ih (.tup (ks.map kV))/\H2 p=ih (.dT kvs)/\kvs.length<OY/\Q (upd H2 p (.dT (putK kvs ks z)))
theorem Jt(S:X.A.units+1<Tq)(n:PE X k tk)(hv:PE X v tv):pZ X (n7 k v) (sT tk tv):=by
 intro J s σ H p Q I h;unfold n7;refine ab (aF (n J s σ H _ I h) λu o ⟨y,O,t,x,B⟩=>ab (dO (aF (hv J o σ O _ t B) λr s2 T=>?_)));obtain⟨z,H2,a,C,kvs,ks,b,D,f,e,l,q⟩:=T;subst D;cases (show u=Pk b from x)
 refine ab (lb (dO ?_));obtain⟨E,F,xs,d,G⟩:=si a.aJ e;have K:xs.length<=OY:=by rw[<-c5 d];exact E
 have L:(putK kvs ks z).length<=OY:=by have:=j9 kvs ks z;omega
 refine wpAny_dictSet_heap (hsz:=K) (knd:=tupleKind (cu X.prog X.w)) (k:=ks) (show X.A.units<Tq by omega) (jz a.aJ f) G λh' m M=>⟨_,?_,q⟩
 obtain⟨g,es,ep,i,U,N,P,_,R⟩:=m;refine rC a (by rw[e];exact SG) M ⟨g,i⟩ ⟨L,F,_,(d.put ks f C).keeps λc ys j=>?_,g,es,ep,i,U,N,P,R⟩
 rw[ag (aj j e (λz=>nomatch z))];exact j
theorem II:mh X (newDict) (λ_=>.dT []):=⟨λJ s σ H E Q I h=>by
 refine ed ?_;exact h _ (I.laid (a:=s.ao) (o:=.dT []) (t':=s.toks) (λ_ _ q=>aZ _ q) (aK _) (vW s.heap I.big)) λb o e=>aZ _ e⟩
variable{wi:TI}{g:TG}
theorem Fc(a:X.calm=true)(S:bW X.N X.env.scope N' Qd scope)(hi:PI X tg iter wi)
  (b:∀s H fp,PG (cc X N' scope s H fp) tg g/\ij (cc X N' scope s H fp) Qe ti/\pZ (cc X N' scope s H fp) (n7 k v) (sT tk tv))
  (c:∀x,foldedSetIterable iter X.env x=pure x:=by intro _;rfl):PE X (.DictComp k v [⟨tg,iter,Qe,0⟩] scope pos) (As wi Qd g ti (sT tk tv) λ_=>.dT []):=
 Gg Fb rfl II a S hi b c
end
def p0(Pv:Nat->St->Hp->Prop)(n i m:Nat)(τ:St)(H:Hp):Prop:=m=n - i/\i<=n/\Pv i τ H
theorem Gh{Pv:Nat->St->Hp->Prop}{n:Nat}{a:St}(h:i<n)(p:Pv (i+1) a H):∃b,b<n - i/\p0 Pv n (i+1) b a H:=⟨n - (i+1),by omega,rfl,h,p⟩
theorem Fd{g:TG}{Qk:OT->St->Hp->(Hp->Prop)->Prop}(Pv:Nat->St->Hp->Prop)(l:Pv 0 d0 O)(n:∀i c H,Pv i c H->aU K H a xs)
  (o:∀i x c H,xs[i]?=ih x->Pv i c H->g x c H λf q=>ti f q λb j=>if b=true then Qk p f j λr=>∃d,d<xs.length - i/\p0 Pv xs.length (i+1) d f r else ∃d,d<xs.length - i/\p0 Pv xs.length (i+1) d f j)
  (s:∀c H,Pv xs.length c H->Q (.ref p) H):r6 (iy K a) g ti Qk d0 Q p O:=by
 refine⟨p0 Pv xs.length,⟨xs.length,by simp,bp _,l⟩,?_⟩
 rintro i m c H ⟨rfl,hi,pv⟩;have h:=n i c H pv
 by_cases k:i<xs.length
 ·refine .inr ⟨⟨xs,xs[i],h,by simp[k]⟩,λx v t=>?_⟩
  obtain⟨u,ex⟩:=t;subst u;exact o i x c _ (ex xs h) pv
 ·have e:i=xs.length:=by omega
  subst e;exact .inl ⟨⟨xs,h,aK _⟩,s c H pv⟩
end L2
namespace L2
open Spec PyProof.Rows
structure kS(K:O9)(x qual:CY)(st:PQ)(dv:i')(f:OT)(fd:Ss):Prop where
 ex:∃(oc:i') (od:Option OT) (kV Qc pm:i') (an:Option OT) (Qa ct:i') (Qm:Array (Option i')),
  fd=SI x qual (df st) (bH st) (aI st) dv kV Qc pm an Qa ct/\K.lookup f=ih ⟨oc,od,.func fd,Qm⟩/\Tn K Qa qual=true
 kp:SW K (.ref f)=true
theorem kS.ok{k:Nat}(F:kS K x qual st dv f fd)(S:a' N ps (aI st))(c:∀vs H Q E,sp vs H Q E->vs.length=ps.length)
  (b:∀(Qa:i') (A:SV) (a:am T9) (s:OX) (H:Hp) (vs:am V) (Q:VK) (E:XK),aY k (A.deeper (envOfC qual (aI st) s.ao f Qa))->sp vs H Q E ->
   ∃t,eI (gZ ay P w K mg base N qual (aI st) f Qa A a s H E).iw (bH st) t/\t { nx:=λ_ Y=>Q .aM Y,rt:=Q } (start N vs) H):aO P w K mg base ay (k+1) f fd ps sp:=by
 obtain⟨oc,od,kV,Qc,pm,an,Qa,ct,Qm,rfl,lk,d⟩:=F.ex;refine AK lk d S c λA a s H vs Q E g e=>?_;obtain⟨t,h,q⟩:=b Qa A a s H vs Q E g e;exact⟨t,h.iw,q⟩
theorem kS.binds{T:OT}{ds:am i'}{n:Nat}(F:kS K x qual st (.ref T) f fd)(a:K.lookup T=ih ⟨oc,od,.seq items n,Qm⟩)
  (h:∀(kV Qc pm:i') (an:a2 OT) (Qa ct:i') (us:am i'),(us++ds).length=ps.length ->∃k:a2 (Array i')->Ua (List (CY×i')),(bindArgs (SI x qual (df st) (bH st) (aI st) (.ref T) kV Qc pm an Qa ct) ⟨us,[]⟩=seqItems? (.ref T) >>= k)/\k (ih items)=pure (ps.zip (us++ds))):Binds K fd ps ds:=by
 obtain⟨e,g,kV,Qc,pm,an,Qa,ct,d,rfl,lk,i⟩:=F.ex;intro s us b c;obtain⟨k,h1,U⟩:=h kV Qc pm an Qa ct us c;exact .of_defaults (T:=T) rfl (b _ _ a) rfl h1 U
theorem Hu{kV:i'}(l:K.lookup f=ih ⟨oc,od,.func (SI x qual (df st) (bH st) (aI st) dv kV Qc pm an Qa ct),Qm⟩)
  (c:Tn K Qa qual=true) (k:SW K (.ref f)=true):kS K x qual st dv f (SI x qual (df st) (bH st) (aI st) dv kV Qc pm an Qa ct):=⟨⟨oc,od,kV,Qc,pm,an,Qa,ct,Qm,rfl,l,c⟩,k⟩
end L2
namespace L2
open Spec PyProof.Rows W HT
theorem Ew(G:X.calm=true):cT X (.type "dict") (λxs H Q=>∃t vs kvs,xs=[.ref t]/\H t=bi vs/\Ap H vs kvs/\(kvs.map (·.1)).Nodup /\∀d,H d=none->Q (.ref d) (upd H d (.dK (kE kvs)))):=by
 rintro J s σ H xs us Q I r ⟨t,vs,kvs,rfl,K,pr,L,q⟩;obtain⟨u,rfl,c⟩:=vals1 r;cases c
 obtain⟨xd,its,m,⟨M,e,N,sl⟩,O,A,n,B,C⟩:=(show bO X.prog X.w H s.heap t (.tup vs) from I.aJ t _ K);obtain rfl:M=.type "tuple" :=A;obtain rfl:e=none:=C;obtain rfl:N=.seq its.toArray n:=B;have D:vs.length=kvs.length:=c5 pr;have zc:=m.length;have pairs:∀(i:Nat) p,kvs[i]?=ih p ->∃a x y,its.toArray[i]?=ih (.ref a)/\S0 s.heap a #[x,y]/\RelV (.str p.1) x/\RelV p.2 y:=by
  intro i p b;have hi:i<vs.length:=by rw[D];exact(bA.mp b).1
  obtain⟨yd,g,a,P,R⟩:=kz pr (show vs[i]?=ih vs[i] from bB hi);rw[b]at g;cases g;obtain⟨u,S,c⟩:=m.get (show vs[i]?=ih (V.ref a) by rw[bB hi,P])
  cases c
  obtain⟨zd,T,W,_⟩:=I.tuple (aU.of R);obtain⟨x,y,rfl,Y,xa⟩:=T.two;exact⟨a,x,y,by simpa using S,W,Y,xa⟩
 have ch:∀i:Fin kvs.length,∃y,∃a x,its.toArray[i.1]?=ih (.ref a)/\S0 s.heap a #[x,y]/\RelV (.str kvs[i].1) x/\RelV kvs[i].2 y:=λi=>by
  obtain⟨a,x,y,h1,U,ya,za⟩:=pairs i.1 kvs[i] (bB i.2);exact⟨y,a,x,h1,U,ya,za⟩
 obtain⟨ys,E,j⟩:∃ys:am i',ys.length=kvs.length /\∀(i:Nat) (hi:i<kvs.length),∃y,ys[i]?=ih y /\∃a x,its.toArray[i]?=ih (.ref a)/\S0 s.heap a #[x,y]/\RelV (.str kvs[i].1) x/\RelV kvs[i].2 y:=
  ⟨List.ofFn λi=>Uu (ch i),List.length_ofFn,λi hi=>⟨Uu (ch ⟨i,hi⟩),by simp[List.getElem?_ofFn,hi],W4 (ch ⟨i,hi⟩)⟩⟩
 have F:((kvs.map λp=>(Ct p.1:Key)).zip ys).map (·.1)=kvs.map λp=>(Ct p.1:Key):=by
  rw[List.map_fst_zip];rw[aG];omega
 have l:((kvs.map λp=>(Ct p.1:Key)).zip ys).length=kvs.length:=by rw[List.length_zip,aG];omega
 have inj:(kvs.map λp=>(Ct p.1:Key)).Nodup:=by
  have:(kvs.map λp=>(Ct p.1:Key))=(kvs.map (·.1)).map Ct:=by rw[gP];rfl
  rw[this,hO,j2];exact(hO.mp L).imp λh z=>h (f5 z)
 refine DC (I.ok.hd G) ((kvs.map λp=>(Ct p.1:Key)).zip ys) (by rw[F];exact inj) (by rw[l];omega) (by rw[bL,l];omega) O (λi p b=>?_) λd h' tk dl e kp=>?_
 ·obtain⟨h1,U⟩:=List.getElem?_zip_eq_some.mp b
  rw[dt]at h1;obtain⟨xe,xb,yb⟩:=gO.mp h1;obtain⟨hi,rfl⟩:=bA.mp xb;obtain⟨y,f,a,x,zb,xc,yc,v⟩:=j i hi;rw[f]at U;cases U
  exact⟨a,x,zb,xc,by rw[<-yb];exact kK (k:=Ct kvs[i].1) yc⟩
 ·have big:=I.big
  refine⟨.ref d,_,I.laid (a:=d) (o:=.dK (kE kvs)) (t':=tk) kp dl (Ao (by unfold kE;rw[aG];omega) (iD.mpr (aN (bG (e4 big dl)))) ?_ e),rfl,q d (I.aJ.fresh dl)⟩
  exact wX kvs ys E λi hi=>by
   obtain⟨y,f,a,x,_,_,_,v⟩:=j i hi;exact⟨y,f,v⟩
theorem Ex:cT X (.type "dict") (λxs H Q=>∃a,xs=[.ref a]/\H a=ce [] /\∀d,H d=none->Q (.ref d) (upd H d (.dT []))):=by
 rintro J s σ H xs us Q I r ⟨a,rfl,e,q⟩;obtain⟨u,rfl,p⟩:=vals1 r;cases p
 obtain⟨z,t,K,v,o,es,ep,x,y,i,A,M⟩:=(show bO X.prog X.w H s.heap a (.dT []) from I.aJ a _ e);cases v
 have B:es = #[]:=by simpa using A
 subst B;have C:s.heap.DictOf (cu X.prog X.w) a []:=⟨o,#[],ep,x,y,i,by intro e D;simp at D,by first|exact .nil|trivial|constructor,fz⟩
 have big:=I.big;refine kt_call_dict t C (bp _) λh' j E=>?_;obtain⟨o',c,k,l,m,g,L,n,_⟩:=j;have F:c.toList=[]:=PF.mp n.length;refine⟨.ref s.ao,_,I.laid (a:=s.ao) (o:=.dT []) (t':=s.toks) (λb o f=>?_) (aK _) ⟨bp _,iD.mpr (aN (bG big)),[],.nil,o',c,k,l,m,g,F,fz⟩,rfl,q _ (I.aJ.fresh (aK _))⟩;have G:b≠s.ao:=bG (br f);rw[E.2 b G];exact aZ _ f
end L2
namespace L2
open Spec PyProof.Rows W
theorem Ey(l:OT)(items:Array i')(n:Nat)(b:OT)(a:Array i')(j:Nat)(k:a2 OT)(sl:Array (Option i'))(o : ¬(!items.isEmpty&&SY (items.size+a.size))=true)(e:items.size<=OY)(f:items.size+a.size<=OY+1) :
  Meets (SA.«list.extend» ⟨[.ref l,.ref b],[]⟩) (λ_ R s=>s.heap.get? l=ih { cls:=.type "list",dict:=none,data:=.seq items n,slots:= #[] }/\s.heap.get? b=ih { cls:=.type "tuple",dict:=k,data:=.seq a j,slots:=sl }/\R (.ok (.ret P0)) { s with heap:=s.heap.update l (Sm λx=>x++a),toks:=s.toks }):=
 .of_wp λprog w A R s h=>by
  obtain⟨p,g,d,tk,os⟩:=s;obtain⟨c,m,h⟩:=h;have q:=Xn;have r:=Xj;have t:=Xm;have u:=Xk;have v:=Xl;have i:(items++a).size<=OY+1:=by rw[qh];exact f
  wp_walk using (C7 c rfl (hz:=e) (_hz':=i)),PH c,PH m
  exact⟨_,rfl,h⟩
def Gi:V->List V->Hp->VK->Prop:=λx vs H Q=>∃l b xs zs,x=.ref l/\vs=[.ref b]/\H l=ih (.lst xs)/\H b=ih (.tup zs)/\xs.length+zs.length<=OY/\Q .aM (upd H l (.lst (xs++zs)))
theorem Ez:mX X "list.extend" Gi:=by
 rintro J s σ H x vs v us Q I m o ⟨l,b,xs,zs,rfl,rfl,d,p,E,q⟩;cases m
 obtain⟨u,rfl,t⟩:=o.one;cases t
 obtain⟨z,its,n,r,G,e⟩:=I.kQ d;obtain⟨K,a,f,⟨C,L,B,sl⟩,y,g,A,i,c⟩:=(show bO X.prog X.w H s.heap b (.tup zs) from I.aJ b _ p);simp only at g i c;subst g i c;have D:=f.length;have k:its.toArray.size+a.toArray.size<=OY:=by rw[bL,bL];omega
 have j : ¬ (!its.toArray.isEmpty&&SY (its.toArray.size+a.toArray.size))=true:=by
  rw[FL k,Bool.and_false];exact bV
 refine qg F.slot_list_extend ⟨_,e,rfl⟩ F.entry_list_extend (F.args_list_extend_2 _ _)
  (Ey l its.toArray n b a.toArray A none sl j (by rw[bL];omega) (by omega)) ⟨e,y,?_⟩
 refine⟨.aM,_,I.oU (its':=its++a) d e (by simp) (r.append f) ?_,rfl,q⟩
 rw[cQ];omega
end L2
namespace L2
open Spec PyProof.Rows W HT
end L2
namespace L2
open Spec PyProof.Rows W HS HT
end L2
namespace L2
open Spec PyProof.Rows W HT
theorem DO(d:OT)(a:(d==sysModules)=false) :
  MeetsIn P w (SA.«dict.items» ⟨[.ref d],[]⟩) (λ_ R s=>(∃es ep,g0 s.heap d es ep)/\R (.ok (.ret (.ref s.ao))) { s with heap:=s.heap.push { cls:=.type "dict_items",data:=.fields #[.ref d] } }):=
 .of_wp λA R s ⟨⟨es,ep,b⟩,h⟩=>by
  unfold SA.«dict.items»;refine ab ?_;unfold Wl;refine ab (uc b.ty ?_);show OZ _ _ (pure d) _ _ s;refine ai ?_;show OZ _ _ (S6 d >>= _) _ _ s;unfold S6;rw[au (by rw[a];exact bV)]
  exact ab (ai (ab (ed (ai ⟨_,rfl,h⟩))))
theorem D0{v:OT}{es:Array Sz}{Q:i'->OX->Prop}(hv:s.heap.IsItemsView v d)(x:g0 s.heap d es ep)
  (f:Q (.ref s.heap.objs.size) { s with heap:=s.heap.push { cls:=.type "dict_itemiterator",data:=.fields #[.none,.bool false,.ref d,.int 0 0,.int es.size 0,.int ep 0,.none,.none] } }):OZ (Pb P w) A (pyIter (.ref v)) Q E s:=by
 obtain⟨h,c,g,e⟩:=id hv;obtain⟨o,b,i,a⟩:=id x;refine qn hv.typeIs UE (fu UE hv.typeIs F.entry_dict_items_iter ?_ (F.args_dict_items_iter_1 _));unfold SA.«dict_items.__iter__»;refine ab (ai (ab ?_));unfold UP;refine ab (lj c e (x:=.ref d) rfl (ai (ab ?_)));unfold UO;refine ab (nB b a (ab (nC b a ?_)));simp only[show Su "dict_itemiterator" = true by decide,gs]
 refine ed (ai ⟨_,rfl,"dict_itemiterator",_,⟨_,bK _ rfl,rfl⟩,qp.lookup,?_⟩) (by simp only[sizeOk,Tu,bL,cQ,cX,iM,aQ];omega)
 simpa [rawInt,Tu] using f
theorem D1{es:Array Sz}{e:Sz}{ok t:i'}{Q:a2 i'->OX->Prop}(B:S8 s.heap it d i es.size ep ok t)(x:g0 s.heap d es ep)(U:es[i]?=ih e)
  (V:∀h',UC h' it d (i+1) es.size ep e.key e.val s.heap.objs.size->h'.get? s.heap.objs.size=ih { cls:=.type "tuple",data:=.seq #[e.key,e.val] }->h'.objs.size=s.heap.objs.size+1 ->
   (∀b o,b≠it->s.heap.get? b=ih o->h'.get? b=ih o)->Q (ih (.ref s.heap.objs.size)) { s with heap:=h' }):OZ (Pb P w) A (pyNext (.ref it)) Q E s:=by
 obtain⟨a,g,u,tk,os⟩:=s;obtain⟨od,N,W,O⟩:=id x;have f:Tv ⟨a,g,u,tk,os⟩ (.ref it) "dict_itemiterator" :=⟨_,B,rfl⟩;unfold pyNext;refine ab (lr (ll (name:=SE "__next__") f qp
  (fu qp f PK ?_ (PL _))))
 refine ab (ai (ab (ab ?_)))
 first|refine ab (uq f (ai ?_))|refine ab (ur f (ai ?_))
 refine ab (qm B rfl ?_);simp only[show Su "dict_itemiterator" = true by decide,gs]
 show OZ _ _ (if (Pk d==P0)=true then _ else _) _ _ _;rw[au (show ¬ ((Pk d==P0)=true) from bV)];refine ab (ai (ab (nB N O ?_)));rw[au (by simp)]
 refine ab (ai (ab (nC N O ?_)));rw[au (by simp)]
 refine ai ?_;simp only[show ¬ ((i:Int)<0) from by omega,gr,ft,U]
 refine ab ?_
 first|refine ab (uq f (ai ?_))|refine ab (ur f (ai ?_))
 refine ab (Dd f ?_);show OZ _ _ (setField (.ref it) 3 (rawInt ((i:Int)+1)) >>= _) _ _ ⟨a,g,u,tk,os⟩;refine ab (hM B (by simp) λc j k=>?_)
 replace k:Sn it a c:=k;replace j:S8 c it d (i+1) es.size ep ok t:=by
  have e:((i+1:Nat):Int)=(i:Int)+1:=by omega
  unfold S8;rw[e];simpa [rawInt] using j
 have D:Tv ⟨c,g,u,tk,os⟩ (.ref it) "dict_itemiterator" :=⟨_,j,rfl⟩;refine ab (dO ?_);refine ab (Dd D (ab (Dd D ?_)));show OZ _ _ (Tx (.ref it) 6 e.key e.val) _ _ ⟨c,g,u,tk,os⟩;unfold Tx;refine ab (wpAny_newTuple ?_);have l:S8 (c.push { cls:=.type "tuple",data:=.seq #[e.key,e.val] }) it d (i+1) es.size ep ok t:=aZ _ j;generalize v:c.push { cls:=.type "tuple",data:=.seq #[e.key,e.val] }=r at l;have y:c.objs.size=a.objs.size:=k.1;have C:it<a.objs.size:=br B;have R:r.get? a.objs.size=ih { cls:=.type "tuple",data:=.seq #[e.key,e.val] }:=by rw[<-v,<-y];exact bK _ rfl
 have S:r.objs.size=a.objs.size+1:=by rw[<-v,gM,y]
 have T:∀b o,b≠it->a.get? b=ih o->r.get? b=ih o:=λb o h e=>by rw[<-v];exact aZ _ (k.extBut b o h e)
 show OZ _ _ (Tt (.ref it) >>= _) _ _ ⟨r,g,u,tk,os⟩;rw[y];clear v j k D y c;refine ab ?_;unfold Tt;refine ab (lj l rfl (x:=.none) rfl (ai ?_));simp only[gs];refine ab (lj l rfl (x:=ok) rfl (ab (lj l rfl (x:=t) rfl ?_)));refine ab (hM l (by simp) λK G m=>?_)
 replace m:Sn it r K:=m;replace G:S8 K it d (i+1) es.size ep e.key t:=G;refine ab (hM G (by simp) λL H n=>?_)
 replace n:Sn it K L:=n;replace H:S8 L it d (i+1) es.size ep e.key e.val:=H;refine ab (hM H (by simp) λM I p=>?_)
 replace p:Sn it L M:=p;replace I:UC M it d (i+1) es.size ep e.key e.val a.objs.size:=I;refine ab (hM I (by simp) λz J q=>?_)
 replace q:Sn it M z:=q;replace J:UC z it d (i+1) es.size ep e.key e.val a.objs.size:=J;refine ab (wpAny_letGo (ai (ai ⟨_,rfl,ai (V z J ?_ ?_ ?_)⟩)))
 ·exact q.extBut _ _ (iH C) (p.extBut _ _ (iH C) (n.extBut _ _ (iH C) (m.extBut _ _ (iH C) R)))
 ·show z.objs.size=a.objs.size+1
  rw[q.1,p.1,n.1,m.1,S]
 ·exact λb o h e=>q.extBut b o h (p.extBut b o h (n.extBut b o h (m.extBut b o h (T b o h e))))
theorem D2{es:Array Sz}{ok h:i'}{Q:a2 i'->OX->Prop}(i:A.handled=none)(e:S8 s.heap it d es.size es.size ep ok h)(x:g0 s.heap d es ep)
  (j:∀h',VD it s.heap h'->Q none { s with heap:=h' }):OZ (Pb P w) A (pyNext (.ref it)) Q E s:=by
 obtain⟨od,f,k,g⟩:=id x;have c:s.TypeIs (.ref it) "dict_itemiterator" :=⟨_,e,rfl⟩;unfold pyNext;refine ab (lr (ll (name:=SE "__next__") c qp
  (fu qp c PK ?_ (PL _))))
 refine ab (ai (ab (ab ?_)))
 first|refine ab (uq c (ai ?_))|refine ab (ur c (ai ?_))
 refine ab (qm e rfl ?_);simp only[show Su "dict_itemiterator" = true by decide,gs]
 show OZ _ _ (if (Pk d==P0)=true then _ else _) _ _ s;rw[au (show ¬ ((Pk d==P0)=true) from bV)];refine ab (ai (ab (nB f g ?_)));rw[au (by simp)]
 refine ab (ai (ab (nC f g ?_)));rw[au (by simp)]
 refine ai ?_;simp only[show ¬ ((es.size:Int)<0) from by omega,gr,ft,nA (aK es.size)]
 refine ab ?_
 first|refine ab (uq c (ai ?_))|refine ab (ur c (ai ?_))
 show OZ _ _ (setField (.ref it) 2 .none >>= _) _ _ s;refine ab (C9 e rfl (by simp) ?_)
 show OZ _ _ (newExc (.type "StopIteration") [] >>= _) _ _ _;refine ab ?_;simp only[newExc,newTuple];refine ab (ed ?_ (by size_fits))
 refine ab (m:=firstArgMember _ _) (uf (a:=P0) (by first|rfl|(simp only[firstArgMember];rfl)) ?_)
 refine ed ?_ (by size_fits)
 simp only[raiseNew];refine ab (C3 ?_);rw[show A.in1.handled=none from i];refine ab (ai (wpAny_throw ?_));refine ab (ug (T:= "StopIteration") (b:=true) ⟨_,bK _ rfl,rfl⟩ C4 ?_);exact ai (j _ (((ly ..).extBut.push _).push _))
def tK(d:OT)(o:Tp)(kvs:List (List Key×V)):It:=⟨λi H=>H d=ih (.bw o (.dT kvs))/\i<kvs.length,λi H x Y=>∃t kv b,H t=none/\x=.ref t/\kvs[i]?=ih kv/\H b=ih (.tup (kv.1.map kV))/\Y=upd H t (.tup [.ref b,kv.2]),λi H=>H d=ih (.bw o (.dT kvs))/\kvs.length<=i⟩
theorem wq{kvs:am (List Key×V)}{es:Array Sz}(I:Inv X J σ H s)(h:H d=ih (.bw o (.dT kvs)))(g:o.data=.dict es ep) :
  s.heap.get? d=ih o/\o.ExactDict/\es.size=kvs.length /\∀(i:Nat) (a:am Key×V),kvs[i]?=ih a ->∃(b:OT) (e:Sz),es[i]?=ih e/\e.key=.ref b/\H b=bi (a.1.map kV)/\RelV a.2 e.val:=by
 obtain⟨h1,z,y,xs,r,o',p,q,U,j,c,f,t⟩:=(show bO X.prog X.w H s.heap d (.bw o (.dT kvs)) from I.aJ d _ h);rw[h1]at U;cases U
 rw[g]at c;cases c
 refine⟨h1,j,by rw[Dc f];exact(c5 r).symm,λi a k=>?_⟩
 obtain⟨x,l,u,m,n⟩:=Paired.get r k;exact⟨x.2.1,_,by rw[entry_at f,l];rfl,rfl,m,n⟩
theorem Gj(d it:OT)(yc:d≠it)(o:Tp)(kvs:am (List Key×V))(es:Array Sz)(ep:Nat)(t:o.data=.dict es ep) :
  Turn P w K (.Tuple Qp n1 tp) (tK d o kvs) [it] it (λi h=>i<=kvs.length /\∃ok f,S8 h it d i es.size ep ok f) where
 mem:=by simp
 obj:=λi h st b a=>by
  obtain rfl:b=it:=by simpa using a
  obtain⟨_,ok,f,h1⟩:=st;exact⟨_,h1,λv q=>by cases q⟩
 keep:=λi h h' st k=>by
  obtain⟨l,ok,f,h1⟩:=st;exact⟨l,ok,f,k it (by simp) _ h1⟩
 item:=by
  intro X y A B hc i J s σ H E I C st g;subst y A B;have fi:=C it (by simp)
  obtain⟨G,ok,f,h1⟩:=st;obtain⟨D,F,M,N⟩:=wq I g.1 t;have zc:i<kvs.length:=g.2;have L:kvs[i]?=ih kvs[i]:=bB g.2;obtain⟨b,e,R,S,a,T⟩:=N i _ L;refine D1 h1 ⟨o,D,F,t⟩ R λh' U W z1 Y=>⟨_,rfl,?_⟩;refine wpAny_letOwnedTupleGo_items (s:={ s with heap:=h' }) U λu xa O=>?_;have Q:it≠s.ao:=bG (br h1);have j:∀b o,b≠it->s.heap.get? b=ih o->u.get? b=ih o:=λb o n1 q=>(O.2 b n1).trans (Y b o n1 q);have ya:u.get? s.ao=ih { cls:=.type "tuple",data:=.seq #[e.key,e.val] }:=(O.2 _ (aN Q)).trans W;have p:H s.ao=none:=I.aJ.fresh (aK _);have lt:∀b o,s.heap.get? b=ih o->b≠s.ao:=λb o q=>bG (br q);have gm:∀b o,H b=ih o->b≠it:=λb o q z=>by rw[z,fi.1]at q;cases q
  have x:∀b,b ∉ [it]->b≠it:=λb a z=>a (by simp[z])
  have za:Inv X J σ (upd H s.ao (.tup [.ref b,kvs[i].2])) { s with heap:=u }:=by
   refine I.step (g':=s.gens) (d':=s.drawn) (t':=s.toks) (ch:=[it]) (λb a=>?_) (λb o _ _ hc q _=>j b o (x b hc) q) (λb o _ _ hc q _=>⟨o.slots,j b o (x b hc) q⟩)
    (λb o _ q n=>by rw[ag (lt b o q)];exact n) (λb o hc q=>⟨o,j b o (x b hc) q⟩) (λb ys q=>by rw[ag (ax q p)];exact q) (λb o v q=>by rw[ag (ax q p)];exact q)
    (λb ps q=>⟨#[],by rw[ag (ax q p),q];simp⟩) (λm xb=>?_) (λb o q=>?_) I.bare
   ·obtain rfl:b=it:=by simpa using a
    exact⟨fi.2.2.2.1,fi.2.1,fi.2.2.2.2.1,fi.2.2.2.2.2⟩
   ·obtain⟨o,es,ep,yb,r⟩:=xb
    exact⟨o,es,ep,j _ o (aN fi.2.1) yb,r⟩
   ·by_cases a:b=s.ao
    ·subst a
     rw[af]at q;cases q;exact⟨by rw[aQ];show 2<=_;decide,[e.key,e.val],.cons (by rw[S];rfl) (.cons T .nil),_,ya,rfl,_,rfl,rfl⟩
    ·rw[ag a]at q
     refine(I.aJ b o q).gi (λc v hc z=>?_) (λc z=>by rw[ag (ax z p)];exact z) λc ys z=>by rw[ag (ax z p)];exact z
     rcases hc with hc|hc
     ·subst hc;exact j _ v (gm _ _ q) z
     ·exact j c v (gm _ _ hc) z
  refine⟨.ref s.ao,_,za,rfl,⟨s.ao,kvs[i],b,p,rfl,L,a,rfl⟩,⟨g.2,_,_,xa⟩,λb a=>?_⟩;obtain rfl:b=it:=by simpa using a
  rw[ag Q];exact fi.1
 done:=by
  intro X y A B hc i J s σ H E I C st g;subst y A B;have fi:=C it (by simp)
  obtain⟨G,ok,f,h1⟩:=st;obtain⟨D,F,M,N⟩:=wq I g.1 t;have zb:i=es.size:=by rw[M];exact CQ G g.2
  rw[zb]at h1;exact D2 (I.ok.hd hc) h1 ⟨o,D,F,t⟩ λh' xc=>⟨rfl,I.turned (t':=s.toks) (λb o a q=>xc b o a q) fi.1 fi.2.1 fi.2.2.2.1 fi.2.2.2.2.1 fi.2.2.2.2.2⟩
 self:=λ_ _ _ _ _ st h=>by
  obtain⟨_,ok,f,h1⟩:=st;exact kcp_self h1 h
def Hv(te:TE):TI:=λσ H R=>te σ H λv O=>∃d kvs,v=.ref d/\O d=ih (.dT kvs) /\∀o,R (tK d o kvs) (upd O d (.bw o (.dT kvs)))
theorem Fe{Qj:VU}(x:PE X e te)(p:attributeBase e "items" X.env (eval e X.env)=eval e X.env:=by rfl)(t:(Qi.endLine==Qj.line)=true:=by rfl) :
  PI X (.Tuple Qp n1 tp) (.Call (.Attribute e "items" Qi) [] [] Qj) (Hv te):=by
 intro J s σ H R I h;refine wpAny_Call_method (T:= "dict") (id:= "dict.items") p rfl t F.plainAttrs_dict U3 F.type_dict_items (aF (x J s σ H _ I h) λv c N=>?_);obtain⟨y,O,i,A,d,kvs,B,e,q⟩:=N;subst B;cases A
 obtain⟨z,C,xs,r,o,es,ep,f,m,j,K,L⟩:=(show bO X.prog X.w O c.heap d (.dT kvs) from i.aJ d _ e);have g:∀h:SN,h.get? d=ih o->g0 h d es ep:=λh e=>⟨o,e,m,j⟩;refine⟨(g c.heap f).ty,?_,?_⟩
 ·intro a e
  cases e
  exact⟨o,f,m.2.1⟩
 refine method_meetsIn U3 F.entry_dict_items rfl (O' ⟨rfl,(g c.heap f).ty,F.args_dict_items_1 _,_,DO d C,⟨es,ep,g _ f⟩,?_⟩);have k:d≠c.ao+1:=λz=>absurd (br f) (by rw[z];exact Nat.not_lt_of_le (gq _))
 have l:=aZ { cls:=.type "dict_items",data:=.fields #[.ref d] } f;refine D0 (s:={ c with heap:=c.heap.push { cls:=.type "dict_items",data:=.fields #[.ref d] } }) ⟨_,bK _ rfl,rfl,rfl⟩ (g _ l) ?_;have n:(c.heap.push { cls:=.type "dict_items",data:=.fields #[.ref d] }).objs.size=c.ao+1:=gM ..;have D:Inv X J σ O { c with heap:=(c.heap.push { cls:=.type "dict_items",data:=.fields #[.ref d] }).push { cls:=.type "dict_itemiterator",data:=.fields #[.none,.bool false,.ref d,.int 0 0,.int es.size 0,.int ep 0,.none,.none] } }:=i.kept (t':=c.toks) λb M z=>aZ _ (aZ _ z);have st:0<=kvs.length /\∃ok E,S8 ((c.heap.push { cls:=.type "dict_items",data:=.fields #[.ref d] }).push { cls:=.type "dict_itemiterator",data:=.fields #[.none,.bool false,.ref d,.int 0 0,.int es.size 0,.int ep 0,.none,.none] }) (c.ao+1) d 0 es.size ep ok E:=
  ⟨bp _,.none,.none,by show Heap.get? _ (c.ao+1)=_;rw[<-n];exact bK _ rfl⟩
 have u:O (c.ao+1)=none:=i.aJ.fresh (gq _);show tD X J σ _ R (.ref (c.heap.push { cls:=.type "dict_items",data:=.fields #[.ref d] }).objs.size) _;rw[n];refine⟨c.ao+1,[c.ao+1],_,_,_,rfl,D.w2 e (aZ _ l),Gj d (c.ao+1) k o kvs es ep j,st,λb G=>?_,q o⟩;obtain rfl:b=c.ao+1:=by simpa using G
 exact i.ig (gq _) (by rw[ag (aN k)];exact u)
theorem D3{kvs:am (List Key×V)}{g:TG}(Pv:Nat->List V->St->Hp->Prop)(r:Pv 0 [] d0 (upd O p (.lst [])))(s:∀i ys a H,Pv i ys a H->H p=bm ys/\H d=ih (.bw o (.dT kvs)))
  (u:∀i c t b ys a H,kvs[i]?=ih c->H t=none->H b=bi (c.1.map kV)->Pv i ys a H->g (.ref t) a (upd H t (.tup [.ref b,c.2])) λh v=>ti h v λb j=>if b=true then te h j λy k=>k p=bm ys/\ys.length<OY /\∃f,f<kvs.length - i/\CW Pv kvs.length (i+1) f (ys++[y]) h (upd k p (.lst (ys++[y]))) else ∃f,f<kvs.length - i/\CW Pv kvs.length (i+1) f ys h j)
  (w:∀ys a H,Pv kvs.length ys a H->Q (.ref p) H):gg (tK d o kvs) g ti te d0 Q p O:=by
 refine⟨CW Pv kvs.length,⟨kvs.length,by simp,bp _,r⟩,?_⟩
 rintro i m ys a H ⟨rfl,hi,pv⟩;obtain⟨z,l⟩:=s i ys a H pv;refine⟨z,?_⟩
 by_cases n:i<kvs.length
 ·refine .inr ⟨⟨l,n⟩,λx E A=>?_⟩
  obtain⟨t,c,b,B,ex,q,C,D⟩:=A;subst D;subst ex;exact u i c t b ys a _ q B C pv
 ·have e:i=kvs.length:=by omega
  subst e;exact .inl ⟨⟨l,aK _⟩,w ys a H pv⟩
def Ju:R2:=λx y H Q=>∃a b xs,x=.ref a/\y=.ref b/\H a=ih (.tup xs)/\H b=ih (.tup [])/\Q (.bl (!xs.isEmpty)) H
theorem Hw(p:X.A.units+64<Tq):bU X (P4 .NotEq) Ju:=by
 rintro J s σ H x y v u Q I f g ⟨a,b,xs,rfl,rfl,k,l,q⟩;cases f;cases g
 obtain⟨its,m,n,_⟩:=I.tuple (aU.of k);obtain⟨o,c,d,_⟩:=I.tuple (aU.of l);cases c
 have e:its.length=xs.length:=m.length.symm;rw[show xs.isEmpty=((Sj (min its.toArray.size ([]:am i').toArray.size)).all (λ_=>true)&&its.toArray.size==([]:am i').toArray.size) from by
  cases xs with
  |nil=>simp only[iM,PF]at e;subst e;rfl
  |cons x xs =>
   cases its with
   |nil=>cases e
   |cons i its=>simp]at q
 exact VY (e:=λ_=>true) n d (by omega) (λj h1 U=>absurd U (by simp)) X.prog X.w X.xe _ ⟨.bl _,H,I,rfl,q⟩
end L2
namespace L2
open W
section
variable{κ:Type} [DecidableEq κ]{knd:HeapKind prog w κ}
theorem DA{k:κ}(f:(d==sysModules)=false) :
  MeetsIn prog w (SA.«dict.get» ⟨[.ref d,.ref a],[]⟩) (λA R s=>∃(xs:am (κ×OT×i')),knd.room A.in1/\knd.is s.heap k a/\s.heap.DictOfH knd d xs /\
   R (.ok (.ret (((atKey xs k).map (·.2)).getD .none))) { s with toks:=s.toks+knd.draws k }):=
 .of_wp λA R s ⟨xs,g,c,b,h⟩=>by
  unfold SA.«dict.get»;refine ab ?_;unfold Wm;refine ab (uc b.typeIs ?_);show OZ _ _ (pure (d,Pk a,none)) _ _ s;refine ai ?_;refine ab (wpAny_dictGet_heap g c b ?_);cases e:(atKey xs k).map (·.2) with
  |some v =>
   rw[e]at h;exact ai ⟨_,rfl,h⟩
  |none =>
   rw[e]at h;exact ab (wpAny_missed_other f (ai ⟨_,rfl,h⟩))
end
theorem Hx(i:X.A.units+1<Tq):pX X "dict.get" (λx xs H Q=>∃a kvs k b,x=.ref a/\xs=[.ref b]/\H a=ce kvs/\H b=bi (k.map kV)/\Q ((a5 kvs k).getD .aM) H):=by
 rintro J s σ H x xs v us Q I j r ⟨a,kvs,k,b,rfl,rfl,e,l,q⟩;cases j
 obtain⟨u,rfl,m⟩:=vals1 r;cases m
 obtain⟨z,n,ys,f,d⟩:=si I.aJ e;refine call_meetsIn PM d.typeIs PySem.F.entry_dict_get (PySem.F.args_dict_get_2 _ _) (DA (knd:=tupleKind (cu X.prog X.w)) (k:=k) n)
  ⟨ys,qj i,jz I.aJ l,d,?_⟩
 have c:=f.val k;cases hv:a5 kvs k with
 |none =>
  rw[hv]at q c;have:(atKey ys k).map (·.2)=none:=dZ.none_of c;rw[this];exact⟨.aM,H,I.tok _,rfl,q⟩
 |some y =>
  rw[hv]at q c;obtain⟨p,o,g⟩:=dZ.some_of c;rw[o];exact⟨y,H,I.tok _,g,q⟩
abbrev pr(x:CY)(s:PQ):CY×PQ:=(x,s)
def p1(K:S7):List (CY×PQ)->Prop
 |[]=>True
 |p::r=>(∃f fd,aP K p.1 p.1 p.2 f fd/\nsIn K PD p.1=ih (ih (.ref f)))/\p1 K r
def sU(K:S7):List CY->Prop
 |[]=>True
 |x::r=>nsIn K PD x=ih none/\sU K r
theorem Jv{p:CY×PQ}{r:am (CY×PQ)}{kV:i'}(a:nsIn K PD p.1=ih (ih (.ref f)))
  (l:K.lookup f=ih ⟨oc,od,.func (fnOf p.1 p.1 (df p.2) (bH p.2) (aI p.2) .none kV Qc pm an Qa ct),Qm⟩) (c:codeIn K Qa p.1=true) (k:Tz K (.ref f)=true) (g:p1 K r):p1 K (p::r):=⟨⟨f,_,Am l c k,a⟩,g⟩
theorem oA{p:CY×PQ}(X:K.In h)(G:h.Ns PD mg)(d:∃f fd,aP K p.1 p.1 p.2 f fd/\nsIn K PD p.1=ih (ih (.ref f)))(ps:am CY)
  (b:∀(kV Qc pm:i') (an:a2 OT) (Qa ct:i') (us:am i'),us.length=ps.length->bindArgs (fnOf p.1 p.1 (df p.2) (bH p.2) (aI p.2) .none kV Qc pm an Qa ct) ⟨us,[]⟩=pure (ps.zip us)) :
  ∃f fd,aP K p.1 p.1 p.2 f fd/\Tz K (.ref f)=true/\Binds K fd ps []/\mg p.1=ih (.ref f):=by
 obtain⟨f,fd,F,a⟩:=d;exact⟨f,fd,F,F.kp,F.binds b,mg_of X G a⟩
theorem oJ{n:Nat}(h:us.length=n+1):∃u r,us=u::r/\r.length=n:=by
 cases us with
 |nil=>cases h
 |cons u r=>exact⟨u,r,rfl,Xd h⟩
theorem sV(h:us.length=2):∃a b,us=[a,b]:=by
 obtain⟨a,r,rfl,U⟩:=oJ h;obtain⟨b,rfl⟩:=De.mp U;exact⟨a,b,rfl⟩
theorem oX(h:us.length=3):∃a b c,us=[a,b,c]:=by
 obtain⟨a,r,rfl,U⟩:=oJ h;obtain⟨b,c,rfl⟩:=sV U;exact⟨a,b,c,rfl⟩
theorem sX(h:us.length=4):∃a b c d,us=[a,b,c,d]:=by
 obtain⟨a,r,rfl,U⟩:=oJ h;obtain⟨b,c,d,rfl⟩:=oX U;exact⟨a,b,c,d,rfl⟩
theorem e7{p:CY×PQ}(X:K.In h)(G:h.Ns PD mg)(d:∃f fd,aP K p.1 p.1 p.2 f fd/\nsIn K PD p.1=ih (ih (.ref f)))(c:CY)
  (b:∀(kV Qc pm:i') (an:a2 OT) (Qa ct a:i'),bindArgs (fnOf p.1 p.1 (df p.2) (bH p.2) (aI p.2) .none kV Qc pm an Qa ct) ⟨[a],[]⟩=pure ([c].zip [a]):=by intros;rfl) :
  ∃f fd,aP K p.1 p.1 p.2 f fd/\Tz K (.ref f)=true/\Binds K fd [c] []/\mg p.1=ih (.ref f):=oA X G d _ λkV Qc pm an Qa ct us h=>by obtain⟨a,rfl⟩:=De.mp h;exact b _ _ _ _ _ _ _
theorem eH{p:CY×PQ}(X:K.In h)(G:h.Ns PD mg)(d:∃f fd,aP K p.1 p.1 p.2 f fd/\nsIn K PD p.1=ih (ih (.ref f)))(e g:CY)
  (b:∀(kV Qc pm:i') (an:a2 OT) (Qa ct a c:i'),bindArgs (fnOf p.1 p.1 (df p.2) (bH p.2) (aI p.2) .none kV Qc pm an Qa ct) ⟨[a,c],[]⟩=pure ([e,g].zip [a,c]):=by intros;rfl) :
  ∃f fd,aP K p.1 p.1 p.2 f fd/\Tz K (.ref f)=true/\Binds K fd [e,g] []/\mg p.1=ih (.ref f):=oA X G d _ λkV Qc pm an Qa ct us h=>by obtain⟨a,c,rfl⟩:=sV h;exact b _ _ _ _ _ _ _ _
theorem l4{p:CY×PQ}(X:K.In h)(G:h.Ns PD mg)(d:∃f fd,aP K p.1 p.1 p.2 f fd/\nsIn K PD p.1=ih (ih (.ref f)))(g i j:CY)
  (b:∀(kV Qc pm:i') (an:a2 OT) (Qa ct a c e:i'),bindArgs (fnOf p.1 p.1 (df p.2) (bH p.2) (aI p.2) .none kV Qc pm an Qa ct) ⟨[a,c,e],[]⟩=pure ([g,i,j].zip [a,c,e]):=by intros;rfl) :
  ∃f fd,aP K p.1 p.1 p.2 f fd/\Tz K (.ref f)=true/\Binds K fd [g,i,j] []/\mg p.1=ih (.ref f):=oA X G d _ λkV Qc pm an Qa ct us h=>by obtain⟨a,c,e,rfl⟩:=oX h;exact b _ _ _ _ _ _ _ _ _
theorem w3{p:CY×PQ}(X:K.In h)(G:h.Ns PD mg)(d:∃f fd,aP K p.1 p.1 p.2 f fd/\nsIn K PD p.1=ih (ih (.ref f)))(i j k l:CY)
  (b:∀(kV Qc pm:i') (an:a2 OT) (Qa ct a c e g:i'),bindArgs (fnOf p.1 p.1 (df p.2) (bH p.2) (aI p.2) .none kV Qc pm an Qa ct) ⟨[a,c,e,g],[]⟩=pure ([i,j,k,l].zip [a,c,e,g]):=by intros;rfl) :
  ∃f fd,aP K p.1 p.1 p.2 f fd/\Tz K (.ref f)=true/\Binds K fd [i,j,k,l] []/\mg p.1=ih (.ref f):=oA X G d _ λkV Qc pm an Qa ct us h=>by obtain⟨a,c,e,g,rfl⟩:=sX h;exact b _ _ _ _ _ _ _ _ _ _
theorem w4(X:K.In h)(G:h.Ns PD mg):∀{xs:am CY},sU K xs ->∀x∈xs,mg x=none
 |y::r,z,x,m=>by
  rcases bu.mp m with rfl|q
  ·exact mg_none_of X G z.1
  ·exact w4 X G z.2 x q
end L2
namespace L2
open Spec PyProof.Rows W
end L2
namespace L2
open W
abbrev tr(x q:CY)(s:PQ):CY×CY×PQ:=(x,q,s)
def p5(K:S7)(C:OT):List (CY×CY×PQ)->Prop
 |[]=>True
 |p::r=>(∃f fd,aP K p.1 p.2.1 p.2.2 f fd/\Meth K C p.1 f)/\p5 K C r
def tL(K:S7)(C:OT):List CY->Prop
 |[]=>True
 |x::r=>TM K (.ref C) x=ih none/\tL K C r
def CO(K:S7)(x:CY)(C:OT)(fl:List CY)(ms:List (CY×CY×PQ)):Prop:=(nsIn K PD x=ih (ih (.ref C))/\plainGet K C Wz=true/\hasDictIn K C=true/\plainOver K C=true/\TM K (.ref C) "__setattr__" = ih (ih (.builtin "object.__setattr__"))/\makesIn K C=true/\Tz K (.ref C)=true/\tL K C fl)/\p5 K C ms
theorem Jw{p:CY×CY×PQ}{r:am (CY×CY×PQ)}{kV:i'}(a:TM K (.ref C) p.1=ih (ih (.ref f)))(i:isFn K (.ref f)=true)
  (l:K.lookup f=ih ⟨oc,od,.func (fnOf p.1 p.2.1 (df p.2.2) (bH p.2.2) (aI p.2.2) .none kV Qc pm an Qa ct),Qm⟩) (c:codeIn K Qa p.2.1=true) (k:Tz K (.ref f)=true) (g:p5 K C r):p5 K C (p::r):=⟨⟨f,_,Am l c k,a,i,k⟩,g⟩
theorem cm_get(d:∃f fd,aP K x q st f fd/\Meth K C x f)(ps:am CY)
  (b:∀(kV Qc pm:i') (an:a2 OT) (Qa ct:i') (us:am i'),us.length=ps.length->bindArgs (fnOf x q (df st) (bH st) (aI st) .none kV Qc pm an Qa ct) ⟨us,[]⟩=pure (ps.zip us)) :
  ∃f fd,aP K x q st f fd/\Meth K C x f/\Binds K fd ps []:=by
 obtain⟨f,fd,F,a⟩:=d;exact⟨f,fd,F,a,F.binds b⟩
theorem Hy(d:∃f fd,aP K x q st f fd/\Meth K C x f)(c:CY)(b:∀(kV Qc pm:i') (an:a2 OT) (Qa ct a:i'),bindArgs (fnOf x q (df st) (bH st) (aI st) .none kV Qc pm an Qa ct) ⟨[a],[]⟩=pure ([c].zip [a]):=by intros;rfl):∃f fd,aP K x q st f fd/\Meth K C x f/\Binds K fd [c] []:=cm_get d _ λkV Qc pm an Qa ct us h=>by obtain⟨a,rfl⟩:=De.mp h;exact b _ _ _ _ _ _ _
theorem kB(d:∃f fd,aP K x q st f fd/\Meth K C x f)(e g:CY)(b:∀(kV Qc pm:i') (an:a2 OT) (Qa ct a c:i'),bindArgs (fnOf x q (df st) (bH st) (aI st) .none kV Qc pm an Qa ct) ⟨[a,c],[]⟩=pure ([e,g].zip [a,c]):=by intros;rfl):∃f fd,aP K x q st f fd/\Meth K C x f/\Binds K fd [e,g] []:=cm_get d _ λkV Qc pm an Qa ct us h=>by obtain⟨a,c,rfl⟩:=sV h;exact b _ _ _ _ _ _ _ _
theorem rF(d:∃f fd,aP K x q st f fd/\Meth K C x f)(g i j:CY)(b:∀(kV Qc pm:i') (an:a2 OT) (Qa ct a c e:i'),bindArgs (fnOf x q (df st) (bH st) (aI st) .none kV Qc pm an Qa ct) ⟨[a,c,e],[]⟩=pure ([g,i,j].zip [a,c,e]):=by intros;rfl):∃f fd,aP K x q st f fd/\Meth K C x f/\Binds K fd [g,i,j] []:=cm_get d _ λkV Qc pm an Qa ct us h=>by obtain⟨a,c,e,rfl⟩:=oX h;exact b _ _ _ _ _ _ _ _ _
theorem rG(d:∃f fd,aP K x q st f fd/\Meth K C x f)(i j k l:CY)(b:∀(kV Qc pm:i') (an:a2 OT) (Qa ct a c e g:i'),bindArgs (fnOf x q (df st) (bH st) (aI st) .none kV Qc pm an Qa ct) ⟨[a,c,e,g],[]⟩=pure ([i,j,k,l].zip [a,c,e,g]):=by intros;rfl):∃f fd,aP K x q st f fd/\Meth K C x f/\Binds K fd [i,j,k,l] []:=cm_get d _ λkV Qc pm an Qa ct us h=>by obtain⟨a,c,e,g,rfl⟩:=sX h;exact b _ _ _ _ _ _ _ _ _ _
theorem Hz(d:∃f fd,aP K x q st f fd/\Meth K C x f)(i j k l m:CY)(b:∀(kV Qc pm:i') (an:a2 OT) (Qa ct a c e g n:i'),bindArgs (fnOf x q (df st) (bH st) (aI st) .none kV Qc pm an Qa ct) ⟨[a,c,e,g,n],[]⟩=pure ([i,j,k,l,m].zip [a,c,e,g,n]):=by intros;rfl):∃f fd,aP K x q st f fd/\Meth K C x f/\Binds K fd [i,j,k,l,m] []:=cm_get d _ λkV Qc pm an Qa ct us h=>by obtain⟨p,s,rfl,o⟩:=oJ h;obtain⟨a,c,e,g,rfl⟩:=sX o;exact b _ _ _ _ _ _ _ _ _ _ _
theorem oj:∀{xs:am CY},tL K C xs ->∀{x},x∈xs->TM K (.ref C) x=ih none
 |y::r,z,x,m=>by
  rcases bu.mp m with rfl|q
  ·exact z.1
  ·exact oj z.2 q
end L2
namespace L2
def cZ(k:Nat):List (List CY)->CY->Option (Nat×CY)
 |[],_=>none
 |[]::rest,n=>cZ (k+1) rest n
 |(x::r)::rest,n=>if n∈x::r/\x≠n then ih (k,x) else cZ (k+1) rest n
theorem uC{k:Nat}(h : ¬ (n∈r/\r.head? ≠ ih n)):cZ k (r::rest) n=cZ (k+1) rest n:=by
 cases r with
 |nil=>rfl
 |cons x r=>exact au λz=>h ⟨z.1,by simpa using z.2⟩
theorem DP{k:Nat}(h:n∈x::r/\x≠n):cZ k ((x::r)::rest) n=ih (k,x):=by
 exact aB h
def gv(all:List (List CY)):List (List CY)->Option CY
 |[]=>none
 |[]::rest=>gv all rest
 |(x::_)::rest=>if (cZ 0 all x).isNone then ih x else gv all rest
def ej(rest:List (List CY)):Option CY:=gv rest rest
def without(n:CY)(rest:List (List CY)):List (List CY):=rest.map λr=>r.filter λy=>!decide (y=n)
def total(rest:List (List CY)):Nat:=(rest.map Sk).sum
def bZ:Nat->List (List CY)->Option (List CY)
 |0,_=>ih []
 |k+1,rest=>if (rest.any λr=>!r.isEmpty)=true then (match ej rest with|none=>none|some n=>(bZ k (without n rest)).map (n :: ·)) else ih []
theorem qB{all:am (List CY)}{n:CY}:∀{rest:am (List CY)},gv all rest=ih n ->∃r∈rest,r.head?=ih n
 |[],h=>by cases h
 |[]::rest,h=>let ⟨r,a,e⟩:=qB (rest:=rest) h;⟨r,a8 _ a,e⟩
 |(x::t)::rest,h=>by
  have h:(if (cZ 0 all x).isNone then ih x else gv all rest)=ih n:=h;split at h
  ·cases h;exact⟨n::t,aS,rfl⟩
  ·obtain⟨r,a,e⟩:=qB (rest:=rest) h
   exact⟨r,a8 _ a,e⟩
theorem uz(n:CY):∀rest:am (List CY),total (without n rest)<=total rest
 |[]=>aK _
 |r::rest=>by
  have h1:=uz n rest;have U:=hQ (λy=>!decide (y=n)) r;simp only[total,without,b5,uu]at *;omega
theorem j4{n:CY}:∀{rest:am (List CY)},(∃r∈rest,n∈r)->total (without n rest)<total rest
 |[],⟨_,h,_⟩=>by simp at h
 |r::rest,⟨q,hq,a⟩=>by
  have h1:=uz n rest;have U:=hQ (λy=>!decide (y=n)) r;rcases bu.mp hq with rfl|hq
  ·have b:(q.filter λy=>!decide (y=n)).length<q.length:=by
    exact List.length_filter_lt_length_iff_exists.mpr ⟨n,a,by simp⟩
   simp only[total,without,b5,uu]at *;omega
  ·have b:=j4 ⟨q,hq,a⟩
   simp only[total,without,b5,uu]at *;omega
theorem le_total{r:am CY}:∀{rest:am (List CY)},r∈rest->r.length<=total rest
 |[],h=>by simp at h
 |q::rest,h=>by
  have e:total (q::rest)=q.length+total rest:=by simp[total]
  rcases bu.mp h with rfl|h
  ·omega
  ·have:=le_total h
   omega
theorem vA(h:(rest.any λr=>!r.isEmpty)=true):0<total rest:=by
 obtain⟨r,a,e⟩:=lu.mp h;have h1:0<r.length:=by cases r with
  |nil=>simp at e
  |cons _ _=>simp
 have U:r.length<=total rest:=le_total a;omega
def c6(H:Hp)(vs:List V)(rows:List (List CY)):Prop:=Sl (λy r=>∃a,y=V.ref a/\H a=ih (.tup (r.map V.str))) vs rows
theorem c6.same(h:c6 H vs rows)(s:aE H Y):c6 Y vs rows:=Paired.imp' (λ_ _ b=>by obtain⟨a,e,q⟩:=b;exact ⟨a,e,s _ _ q⟩) h
theorem c6.length(h:c6 H vs rows):vs.length=rows.length:=c5 h
theorem c6.get{H:Hp}:∀{vs:am V}{rows:am (List CY)}{i:Nat}{v:V},c6 H vs rows->vs[i]?=ih v ->∃a r,v=V.ref a/\rows[i]?=ih r/\H a=bi (r.map V.str)
 |_,_,i,v,.nil,e=>by simp at e
 |_,_,0,v,.cons p _,e=>by
  obtain⟨a,rfl,q⟩:=p;simp at e;subst e;exact⟨a,_,rfl,rfl,q⟩
 |_,_,i+1,v,.cons _ t,e=>by
  obtain⟨a,r,b,c,q⟩:=c6.get (i:=i) t (by simpa using e)
  exact⟨a,r,b,by simpa using c,q⟩
theorem c6.append{H:Hp}{vs:am V}{rows:am (List CY)}{a:OT}{r:am CY}:c6 H vs rows->H a=bi (r.map V.str)->c6 H (vs++[.ref a]) (rows++[r])
 |.nil,q=>.cons ⟨a,rfl,q⟩ .nil
 |.cons p t,q=>.cons p (c6.append t q)
end L2
namespace dq
open L2 W
def top(i:Nat):PQ:=Vh.main.body.getD i (.Pass ⟨0,0,0,0⟩)
noncomputable abbrev l5:PQ:=top 11
noncomputable abbrev rH:PQ:=top 12
noncomputable abbrev qJ:PQ:=top 14
noncomputable abbrev q3:PQ:=top 15
noncomputable abbrev l6:PQ:=top 17
noncomputable abbrev oB:PQ:=top 18
noncomputable abbrev mD:PQ:=top 19
noncomputable abbrev kF:PQ:=top 22
noncomputable abbrev lN:PQ:=top 23
noncomputable abbrev q4:PQ:=top 25
noncomputable abbrev qX:PQ:=top 26
noncomputable abbrev rJ:PQ:=top 27
noncomputable abbrev lT:PQ:=top 28
noncomputable abbrev r7:PQ:=top 29
noncomputable abbrev lU:PQ:=top 31
noncomputable abbrev rK:PQ:=top 32
noncomputable abbrev lV:PQ:=top 33
noncomputable abbrev qF:PQ:=top 35
noncomputable abbrev q5:PQ:=top 36
noncomputable abbrev i0:PQ:=top 37
noncomputable abbrev sq:PQ:=top 38
noncomputable abbrev sY:PQ:=top 46
noncomputable abbrev ml:PQ:=top 47
noncomputable abbrev h8:PQ:=top 48
noncomputable abbrev gR:PQ:=top 49
noncomputable abbrev mq:PQ:=top 50
noncomputable abbrev qY:PQ:=top 51
noncomputable abbrev lW:PQ:=top 52
noncomputable abbrev rL:PQ:=top 53
noncomputable abbrev rM:PQ:=top 54
noncomputable abbrev rN:PQ:=top 56
noncomputable abbrev il:PQ:=top 63
noncomputable abbrev iV:PQ:=top 41
noncomputable abbrev q6:PQ:=top 42
noncomputable abbrev q7:PQ:=top 43
noncomputable abbrev q8:PQ:=top 44
noncomputable abbrev sZ:PQ:=top 62
noncomputable abbrev r8:PQ:=top 57
noncomputable abbrev sr:PQ:=top 58
noncomputable abbrev s6:PQ:=top 59
noncomputable abbrev r9:PQ:=top 60
noncomputable abbrev lX:PQ:=top 61
noncomputable abbrev q9:PQ:=top 10
noncomputable abbrev su:PQ:=inClass r7 0
noncomputable abbrev sv:PQ:=inClass r7 1
noncomputable abbrev sx:PQ:=inClass r7 2
noncomputable abbrev sb:PQ:=inClass i0 0
noncomputable abbrev qK:PQ:=inClass i0 1
noncomputable abbrev sy:PQ:=inClass i0 2
noncomputable abbrev qZ:PQ:=inClass i0 3
noncomputable abbrev mr:PQ:=inClass i0 4
noncomputable abbrev sA:PQ:=inClass i0 5
noncomputable abbrev rO:PQ:=inClass i0 6
noncomputable abbrev l7:PQ:=inClass i0 7
noncomputable abbrev sd:PQ:=inClass sq 0
noncomputable abbrev rP:PQ:=inClass sq 1
noncomputable abbrev rQ:PQ:=inClass sq 2
structure dc(mg:CY->Option i'):Prop where
 len:mg "len" = none
 max:mg "max" = none
 min:mg "min" = none
 abs:mg "abs" = none
 range:mg "range" = none
 any:mg "any" = none
 all:mg "all" = none
 list:mg "list" = none
 tuple:mg "tuple" = none
 LR:mg "enumerate" = none
theorem jg{y:CY}:cn ((y::r).map V.str) 0=ih (V.str y):=(show cn ((y::r).map V.str) ((0:Nat):Int)=ih (V.str y) from cF rfl)
theorem aH{q:OT}{o:HO}(a:H q=none):aE H (upd H q o):=λb u e=>by rw[ag (ax e a)];exact e
theorem Gk{g:TG}{D:Ends}(Pv:Nat->St->Hp->Prop)(h:Pv 0 σ H)(j:∀i σ H,i<=xs.length->Pv i σ H->aq K H a xs)
  (k:∀i x σ H t,xs[i]?=ih x->Pv i σ H->H t=none->g (.ref t) σ (upd H t (.tup [.int i,x])) λb H2=>tb { D with nx:=Pv (i+1),ct:=Pv (i+1),bk:=D.nx } b H2) (l:∀σ H,Pv xs.length σ H->D.nx σ H) :
  ∃W:Nat->Nat->St->Hp->Prop,(∃m,W 0 m σ H) /\∀i m σ H,W i m σ H ->
   ((mY K a).stop i H/\D.nx σ H)\/((mY K a).go i H /\∃N:St->Hp->Prop,(∀c Y,N c Y ->∃f,f<m/\W (i+1) f c Y) /\∀x Y,(mY K a).ix i H x Y->g x σ Y λb H2=>tb { D with nx:=N,ct:=N,bk:=D.nx } b H2):=by
 refine⟨λi m σ H=>m=xs.length - i/\i<=xs.length/\Pv i σ H,⟨xs.length,by simp,bp _,h⟩,?_⟩
 rintro i m σ H ⟨rfl,hi,p⟩;have q:=j i σ H hi p
 by_cases d:i<xs.length
 ·refine .inr ⟨⟨xs,xs[i],q,by simp[d]⟩,Pv (i+1),λc Y n=>⟨xs.length - (i+1),by omega,rfl,d,n⟩,λx Y y=>?_⟩
  obtain⟨t,v,o,rfl,hv,rfl⟩:=y;exact k i v σ _ t (hv xs q) p o
 ·have e:i=xs.length:=by omega
  subst e;exact .inl ⟨⟨xs,q,aK _⟩,l σ H p⟩
inductive oC(vs:List V)(H:Hp)(Q:VK)(E:XK):Prop
 |mk{l:OT}{ws:List V}{rows:List (List CY)}{n:CY}(_:vs=[.ref l,.str n])(_:H l=ih (.lst ws))(_:c6 H ws rows)(_:(cZ 0 rows n=none ->∀Y,aE H Y->Q .aM Y))(_:(∀i x,cZ 0 rows n=ih (i,x) ->∀p Y,H p=none->aE H Y->Y p=ih (.tup [.int i,.str x,.str n])->Q (.ref p) Y)):oC vs H Q E
theorem se:a' ["rest","name","at","row"] ["rest","name"] (aI mD):=bt
theorem HA(F:aP K "wish_against" "wish_against" mD f fd)(B:dc mg):aO P w K mg base ay 1 f fd ["rest","name"] oC:=by
 refine F.bx se λQa A T s H vs Q E U h=>?_
 ·obtain @⟨l,ws,rows,n,rfl,q,u,L,M⟩:=h
  intro X;refine⟨_,aw (eX eh rfl (Hb rfl B.LR (aa (pv 0) ah)) (gU rfl (cS (ba 2 se.nd) (cS (ba 3 se.nd) f')))
    (aA (bF (PW.pt (pw_and (bS j' (pv 1) (pv 3) rfl) (pw_and1 (bS my (aT bN (pv 3) ar) (pv 1) (bM _)))))
     (aA (aX (c4 (aa (pv 2) (aa (aT bN (pv 3) ar) (aa (pv 1) ah)))))) bX)))
   (aA (aX eo)),?_⟩
  refine ae rfl ⟨l,rfl,⟨_,aq.of q⟩,Gk (xs:=ws) (λi σ O=>∃j k:a2 V,σ=[bd l,ih (.str n),j,k]/\aE H O/\cZ i (rows.drop i) n=cZ 0 rows n) ⟨none,none,rfl,aE.refl _,by simp⟩ (λi σ O _ W=>by obtain⟨_,_,_,z,_⟩:=W;exact aq.of (z _ _ q)) ?_ ?_⟩
  ·rintro i x σ O t N ⟨j,k,rfl,m,b⟩ R
   obtain⟨a,r,rfl,D,G⟩:=u.get N;have c:aE H (upd O t (.tup [.int i,.ref a])):=m.trans (aH R);have d:=c _ _ G;have I:rows.drop i=r::rows.drop (i+1):=by
    have hi:=(bA.mp D);obtain⟨J,rfl⟩:=hi;exact iK J
   rw[I]at b;refine⟨t,_,rfl,aU.of af,rfl,_,_,rfl,_,_,rfl,rfl,?_⟩;refine aV rfl rfl ⟨a,_,rfl,.inr (aU.of d),rfl,kb _,_,rfl,?_⟩;rw[au bV,jq];refine cm (λe=>?_) (λe=>?_)
   ·have o:n∈r:=by simpa using e
    cases r with
    |nil=>simp at o
    |cons y r =>
     refine ae rfl (bc d jg (ae rfl ⟨rfl,_,rfl,?_⟩));refine cm (λg=>?_) (λg=>?_)
     ·have C:y≠n:=λz=>by subst z;simp at g
      refine aV rfl rfl (bc d jg (ae rfl ⟨g7,λp v=>?_⟩));rw[DP ⟨o,C⟩]at b;exact M i y b.symm p _ (c.free v) (c.trans (aH v)) af
     ·have S:y=n:=by
       by_cases z:y=n
       ·exact z
       ·exact absurd (by simp[z]) g
      refine⟨_,_,rfl,c,?_⟩;rw[<-b,uC λz=>z.2 (by rw[S];rfl)]
   ·refine⟨_,_,rfl,c,?_⟩
    rw[<-b,uC λz=>e (by simpa using z.1)]
  ·rintro σ O ⟨j,k,rfl,m,b⟩
   rw[u.length,qq]at b;exact L b.symm O m
def Bq:Option CY->V
 |none=>.aM
 |some n=>.str n
inductive om(vs:List V)(H:Hp)(Q:VK)(E:XK):Prop
 |mk{l:OT}{ws:List V}{rows:List (List CY)}(_:vs=[.ref l])(_:H l=ih (.lst ws))(_:c6 H ws rows)(_:∀Y,aE H Y->Q (Bq (ej rows)) Y):om vs H Q E
theorem w5:a' ["rest","row"] ["rest"] (aI oB):=bt
theorem Gm{fW:OT}{g:Ss}(F:aP K "least_free" "least_free" oB f fd)(B:dc mg)(t:aP K "wish_against" "wish_against" mD fW g)(I:Binds K g ["rest","name"] [])(J:mg "wish_against" = ih (.ref fW)) :
  aO P w K mg base ay 2 f fd ["rest"] om:=by
 have L:aO P w K mg base ay 1 fW g ["rest","name"] oC:=HA t B;refine F.bx w5 λQa A S s H vs Q E M h=>?_
 ·obtain @⟨l,ws,rows,rfl,m,n,q⟩:=h
  have u:aY 1 _:=M;intro X;refine⟨_,aw (eX eh rfl (c9 (pv 0)) (ba 1 w5.nd)
    (aA (bF (PW.pt (pw_and (iT (pv 1) (λ_=>rfl)) (pw_and1 (bS h7 (e6 L u rfl J t.kp I .nil b' (aa (pv 0) (aa (aT bN (pv 1) ar) ah))) eo (bM _)))))
     (aA (aX (aT bN (pv 1) ar))) bX)))
   (aA (aX eo)),?_⟩
  refine ae rfl ⟨l,rfl,⟨_,aq.of m⟩,iS (xs:=ws) (λi σ O=>∃o:a2 V,σ=[bd l,o]/\aE H O/\gv rows (rows.drop i)=ej rows) ⟨none,rfl,aE.refl _,by simp[ej]⟩ (λi σ O _ W=>by obtain⟨_,_,z,_⟩:=W;exact aq.of (z _ _ m)) ?_ ?_⟩
  ·rintro i x σ O N ⟨o,rfl,c,b⟩
   obtain⟨a,r,rfl,v,C⟩:=n.get N;have k:=c _ _ C;have D:rows.drop i=r::rows.drop (i+1):=by
    obtain⟨G,rfl⟩:=bA.mp v;exact iK G
   rw[D]at b;refine ae rfl ⟨!(r.map V.str).isEmpty,.inr (.inl ⟨_,aU.of k,rfl⟩),?_⟩;cases r with
   |nil=>exact ae rfl ⟨c,b⟩
   |cons y r =>
    have b:(if (cZ 0 rows y).isNone then ih y else gv rows (rows.drop (i+1)))=ej rows:=b;refine aV rfl rfl (bc k jg ?_);refine oC.mk rfl (c _ _ m) (n.same c) (λR H2 d=>?_) (λj z es p H2 T d U=>?_)
    ·refine⟨rfl,_,rfl,?_⟩
     refine ae rfl (bc (d _ _ k) jg ?_);rw[R]at b;have e:ej rows=ih y:=b.symm;have:=q H2 (c.trans d);rw[e]at this;exact this
    ·refine⟨rfl,_,rfl,?_⟩
     rw[es]at b;exact ae rfl ⟨c.trans d,b⟩
  ·rintro σ O ⟨o,rfl,c,b⟩
   rw[n.length,qq]at b;have e:ej rows=none:=b.symm;have:=q O c;rw[e]at this;exact this
def rR(s:PQ):List PQ:=match s with|.For _ _ b _ _=>b|_=>[]
def lO(s:PQ):List PQ:=match s with|.While _ b _ _=>b|_=>[]
def cx(l:List PQ)(i:Nat):PQ:=l.getD i (.Pass ⟨0,0,0,0⟩)
def fe(s:PQ):Si:=match s with|.Assign _ v _=>v|_=>.Constant .none 0 ⟨0,0,0,0⟩
def kT(s:PQ):Si:=match s with|.Return (ih v) _=>v|_=>.Constant .none 0 ⟨0,0,0,0⟩
def ff(e:Si):Si:=match e with|.Call _ (a::_) _ _=>a|_=>.Constant .none 0 ⟨0,0,0,0⟩
def Br(e:Si):Si:=match e with|.Subscript a _ _=>a|_=>.Constant .none 0 ⟨0,0,0,0⟩
def AR(e:Si):Si:=match e with|.ListComp x _ _ _=>x|_=>.Constant .none 0 ⟨0,0,0,0⟩
def cG(e:Si):Tr:=match e with|.ListComp _ _ sc _=>sc|_=>{ kind:=.function,names:=[],isGenerator:=false,isCoroutine:=false }
theorem boot_tuple:PX "tuple" = ih (.type "tuple"):=by decide +kernel
theorem boot_list:PX "list" = ih (.type "list"):=by decide +kernel
structure Small(rows:List (List CY)):Prop where
 a7:rows.length<=10
 short:∀r∈rows,r.length<=20
 nm:∀r∈rows,∀n∈r,Nm n
theorem IJ{a:am CY}(b:ps.Nodup)(h:∀n∈ps,n∈a):ps.length<=a.length:=by
 by_cases z:ps.length<=a.length
 ·exact z
 ·obtain⟨y,c,d⟩:=r4 (found:=a) b (by omega)
  exact absurd (h y c) d
theorem uZ(h:total rest=0):(rest.any λr=>!r.isEmpty)=false:=by
 cases e:rest.any λr=>!r.isEmpty with
 |false=>rfl
 |true=>have:=vA e;omega
theorem kc(h:ej rest=ih n):∃r∈rest,n∈r:=by
 obtain⟨r,a,e⟩:=qB h;exact⟨r,a,List.mem_of_head? e⟩
theorem u0:∀(k:Nat) (r:am (List CY)),total r<=k ->∀j,total r<=j->bZ k r=bZ j r
 |0,r,h,j,_=>by
  have z:=uZ (show total r=0 by omega)
  cases j with
  |zero=>rfl
  |succ j=>unfold bZ;rw[au (by rw[z];exact bV)]
 |k+1,r,h,0,a=>by
  have z:=uZ (show total r=0 by omega)
  unfold bZ;rw[au (by rw[z];exact bV)]
 |k+1,r,h,j+1,a=>by
  unfold bZ;split
  ·cases e:ej r with
   |none=>rfl
   |some n =>
    have:=j4 (kc e);show Uv _ _=Uv _ _;rw[u0 k (without n r) (by omega) j (by omega)]
  ·rfl
theorem qL{r:am (List CY)}(h:(r.any λr=>!r.isEmpty)=false):bZ (total r) r=ih []:=by
 cases total r with
 |zero=>rfl
 |succ k=>unfold bZ;rw[au (by rw[h];exact bV)]
theorem qM{r:am (List CY)}(h:(r.any λr=>!r.isEmpty)=true)(e:ej r=none):bZ (total r) r=none:=by
 have:=vA h;cases q:total r with
 |zero=>omega
 |succ k=>unfold bZ;rw[aB h,e]
theorem qN{r:am (List CY)}(h:(r.any λr=>!r.isEmpty)=true)(e:ej r=ih n):bZ (total r) r=(bZ (total (without n r)) (without n r)).map (n :: ·):=by
 have:=j4 (kc e);cases q:total r with
 |zero=>omega
 |succ k =>
  show(if (r.any λr=>!r.isEmpty)=true then _ else _)=_;rw[aB h,e];show Uv _ _=_;rw[u0 k (without n r) (by omega) _ (aK _)]
theorem uF{env:T9}:∀{c:am (CY×SS)}{x:CY},c.lookup x=ih .cell ->
  (c.map λ(n,k)=>if (k==Pu&&env.scope.kind == .function&&env.kindOf n==ih .cell) then (n,So) else (n,k)).lookup x=ih .cell
 |[],_,h=>by simp at h
 |(n,b)::r,x,h=>by
  have d:=@uF env r x;show Sv x ((if (b==Pu&&env.scope.kind == .function&&env.kindOf n==ih .cell)=true then (n,So) else (n,b))::_)=_;rw[ef]at h;cases a:x==n with
  |true =>
   rw[a]at h;cases h
   rw[au (by simp),ef,a]
  |false =>
   rw[a]at h
   by_cases e:(b==Pu&&env.scope.kind == .function&&env.kindOf n==ih .cell)=true
   ·rw[aB e,ef,a];exact d h
   ·rw[au e,ef,a];exact d h
theorem nest{k6:Tr}(a:sc.kind=.function)(keys:(sc.names.map (·.1)).Nodup)(c:N'.Nodup)(b:Qd.length=N'.length)(d:sQ N N' Qd sc=true)
  (free:∀p∈sc.names,p.2=.free->k6.names.lookup p.1=ih .cell\/k6.names.lookup p.1=ih .free):bW N (relabel k6 env) N' Qd sc:=
 ⟨a,keys,c,b,AN d,λp f e=>by
  rcases free p f e with z|z
  ·exact .inl (uF z)
  ·exact qx z⟩
theorem uG(K:S7)(h:X.K=K):cT X (.type "tuple") (λxs H Q=>∃p ys,xs=[.ref p]/\((aq K H p ys /\∀l,H l=none->Q (.ref l) (upd H l (.tup ys)))\/(aU K H p ys/\Q (.ref p) H))):=by subst h;exact j5
theorem boot_any:PX "any" = ih (.builtin "any"):=by decide +kernel
noncomputable abbrev w6:List CY:=["rows","order","rest","name"]
theorem lY:a' w6 ["rows"] (aI l6):=bt
noncomputable abbrev Bs:Si:=fe (cx (lO (cx (bH l6) 2)) 3)
abbrev k6:Tr:=cG Bs
abbrev LS:Tr:=cG (ff (AR Bs))
theorem BZ:bW w6 (aI l6) ["row","name"] [none,ih 3] k6:=c'
theorem LU:bW ["row","name"] (relabel k6 env) ["other","name"] [none,ih 1] LS:=nest rfl (by decide +kernel) (by decide +kernel) rfl (by decide +kernel) (by decide +kernel)
theorem LV:(["other","name"]:am CY).Nodup:=by decide +kernel
theorem vB(h:c6 H vs rows)(s:∀b xs,H b=bi xs->Y b=bi xs):c6 Y vs rows:=Paired.imp' (λ_ _ c=>by obtain⟨a,e,q⟩:=c;exact ⟨a,e,s _ _ q⟩) h
theorem uD(S:Small rest):Small (without n rest):=by
 refine⟨by unfold L2.without;rw[aG];exact S.a7,λr a=>?_,λr a y c=>?_⟩
 ·obtain⟨q,b,rfl⟩:=aW.mp a
  exact eS (hQ _ _) (S.short q b)
 ·obtain⟨q,b,rfl⟩:=aW.mp a
  exact S.nm q b y (f6.mp c).1
structure Bt(H:Hp)(rows:List (List CY))(t oa:OT)(m:Nat)(σ:St)(O:Hp)(rest:List (List CY))(ws:List V)(cA:List CY)(rl:OT):Prop where
 st:∃v3:Option V,σ=[ih (.ref t),ih (.ref oa),ih (.ref rl),v3]
 mm:m=total rest
 B0:O oa=ih (.lst (cA.map V.str))
 tM:O rl=ih (.lst ws)
 rr:c6 O ws rest
 sm:Small rest
 ne:rl≠oa
 same:aE H O
 lim:cA.length+total rest<=1000
 eq:bZ (total rows) rows=(bZ (total rest) rest).map (cA ++ ·)
theorem nO:∀{rows:am (List CY)},(∀r∈rows,r.length<=20)->total rows<=20 * rows.length
 |[],_=>bp _
 |r::rows,h=>by
  have h1:=nO λq a=>h q (a8 _ a);have U:=h r aS;have e:total (r::rows)=r.length+total rows:=by simp[total]
  rw[e,cX];omega
theorem Gn(h:c6 H ws rows):Sl (λy r=>∃a,y=V.ref a/\aU K H a r) ws (rows.map λr=>r.map V.str):=by
 induction h with
 |nil=>exact .nil
 |cons p _ b=>obtain⟨a,e,q⟩:=p;exact .cons ⟨a,e,aU.of q⟩ b
theorem any_map(rows:am (List CY)):((rows.map λr=>r.map V.str).any λr=>!r.isEmpty)=rows.any λr=>!r.isEmpty:=by
 rw[t7];congr 1;funext r;cases r <;> rfl
inductive n8(vs:List V)(H:Hp)(Q:VK)(E:XK):Prop
 |mk{t:OT}{ws:List V}{rows:List (List CY)}{o:List CY}(_:vs=[.ref t])(_:H t=ih (.tup ws))(_:c6 H ws rows)(_:Small rows)(_:bZ (total rows) rows=ih o)(_:∀p Y,H p=none->aE H Y->Y p=ih (.tup (o.map V.str))->Q (.ref p) Y):n8 vs H Q E
theorem Ff{fW:OT}{xb xf:Ss}(F:aP K "merged" "merged" l6 f fd)(C:dc mg)
  (xn:aP K "wish_against" "wish_against" mD fW xf) (yn:Binds K xf ["rest","name"] []) (zn:mg "wish_against" = ih (.ref fW))
  (xh:aP K "least_free" "least_free" oB fL xb) (xo:Binds K xb ["rest"] []) (yo:mg "least_free" = ih (.ref fL)) :
  aO P w K mg base ay 3 f fd ["rows"] n8:=by
 have zo:aO P w K mg base ay 2 fL xb ["rest"] om:=Gm xh C xn yn zn;refine F.bx lY λQa A yr s H vs Q E xp h=>?_
 ·obtain @⟨t,ws,rows,o,rfl,yh,yp,xd,T,zp⟩:=h
  have yk:aY 2 _:=xp;intro X;refine⟨_,aw (a9 1 lY.nd (er ah))
   (aw (a9 2 lY.nd (dy iP rfl C.list boot_list (aa (pv 0) ah)))
   (aw (lQ eh (iT (b4 (EV rfl) rfl C.any boot_any (aa (pv 2) ah)) (λ_=>rfl))
    (aw (gb (i:=3) lY.nd rfl (S5 rfl) (e6 zo yk rfl yo xh.kp xo .nil b' (aa (pv 2) ah)))
    (aw (bF (bS h7 (pv 3) eo (bM _)) (aA Fy) bX)
    (aw (dX (fB hR lC lD iR (pv 1) (aa (pv 3) ah)))
    (aA (nQ (i:=2) rfl BZ lY.nd rfl rfl (c9 (pv 2)) (λs H fp=>⟨ba 0 BZ.nd,d5,
     dy (uG K rfl) rfl C.tuple boot_tuple (aa (dg rfl LU (vU K rfl (pv 0)) (λs H fp=>⟨ba 0 LV,iU (bS my (pv 0) (pv 1) rfl),pv 0⟩)) ah)⟩)))))))
   (aA (aX (dy j5 rfl C.tuple boot_tuple (aa (pv 1) ah)))))),?_⟩
  refine⟨bp _,λc yb=>ae rfl ⟨t,ws,rfl,.inr (aU.of (by rw[ag (ax yh yb)];exact yh)),λrl zb=>?_⟩⟩
  have zj:(upd (upd H c (.lst [])) rl (.lst ws)) c=bm []:=by rw[ag (ax af zb)];exact af
  have zh:aE H (upd (upd H c (.lst [])) rl (.lst ws)):=(aH yb).trans (aH zb);refine⟨λm σ O=>∃rest d g rl,Bt H rows t c m σ O rest d g rl,⟨_,rows,ws,[],rl,⟨none,rfl⟩,rfl,zj,af,yp.same zh,xd,aN (ax af zb),zh,by have:=nO xd.short;have:=xd.a7;simp only[iM];omega,by cases bZ (total rows) rows <;> rfl⟩,?_⟩
  rintro m σ O ⟨rest,d,g,rl,R⟩;obtain⟨zr,rfl⟩:=R.st;refine ae rfl ⟨rl,d,_,rfl,aq.of R.tM,Gn R.rr,_,rfl,?_⟩;rw[any_map];refine cm (λW=>?_) (λW=>?_)
  ·refine⟨λzk Y=>∃xi,xi<m /\∃rest d g rl,Bt H rows t c xi zk Y rest d g rl,λ_ _ z=>z,?_⟩
   refine ae rfl (om.mk rfl R.tM R.rr λH2 D=>?_);cases e:ej rest with
   |none =>
    refine ae rfl ⟨rfl,_,rfl,?_⟩;rw[R.eq,qM W e]at T;cases T
   |some n =>
    refine ae rfl ⟨rfl,_,rfl,?_⟩;have za:H2 c=bm (g.map V.str):=D _ _ R.B0;refine ae rfl ⟨.inl ⟨rfl,_,aq.of za⟩,_,rfl,c,_,_,rfl,rfl,za,by have:=R.lim;rw[aG,aQ];omega,?_⟩
    generalize L:upd H2 c (.lst (g.map V.str++[Bq (ih n)]))=G;have xq:aE H G:=λb o yi=>by rw[<-L,ag (ax yi yb)];exact D _ _ (R.same b o yi)
    have xl:rl≠c:=R.ne;have ye:G rl=bm d:=by rw[<-L,ag xl];exact D _ _ R.tM
    have yf:c6 G d rest:=vB R.rr λb xs q=>by rw[<-L,ag (aj (D _ _ q) za)];exact D _ _ q
    have ze:G c=bm ((g++[n]).map V.str):=by rw[<-L,af,bo];rfl
    refine ae rfl ⟨rl,rfl,⟨_,aq.of ye⟩,λI M=>?_⟩;have yl:I≠c:=λz=>by rw[z,ze]at M;cases M
    refine eK (xs:=d) (λi ys xa k=>∃yd:a2 V,xa=[yd,ih (.str n)]/\k I=bm ys/\aE G k/\c6 k ys (L2.without n (rest.take i))) ⟨none,rfl,af,aH M,.nil⟩ (λi ys xa k ab=>by obtain⟨_,_,h1,U,_⟩:=ab;exact ⟨h1,aq.of (U _ _ ye)⟩) ?_ ?_
    ·rintro i x ys xa k zi ⟨yd,rfl,v,u,B⟩
     obtain⟨a,r,rfl,zf,xc⟩:=yf.get zi;have zl:i<d.length:=(bA.mp zi).1;have tk:rest.take (i+1)=rest.take i++[r]:=by rw[dd,zf];rfl
     refine ae rfl ⟨a,rfl,⟨_,aU.of (u _ _ xc)⟩,λJ yc=>?_⟩;have xm:a≠J:=ax (u _ _ xc) yc;refine lS (xs:=r.map V.str) (λj zs N ya=>∃zd:a2 V,N=[zd,ih (.str n)]/\zs=((r.take j).filter λy=>!decide (y=n)).map V.str/\ya=upd k J (.lst zs)) ⟨none,rfl,rfl,rfl⟩ (λj zs N ya ⟨_,_,_,z⟩=>by rw[z];exact⟨af,aU.of (by rw[ag xm];exact u _ _ xc)⟩) ?_ ?_
     ·rintro j x zs N ya xg ⟨zd,rfl,rfl,rfl⟩
      have zc:j<(r.map V.str).length:=(bA.mp xg).1;have yg:j<r.length:=by simpa using zc
      obtain rfl:V.str r[j]=x:=by simpa [yg] using xg
      have zg:r.take (j+1)=r.take j++[r[j]]:=by rw[dd,bB yg];rfl
      refine aV rfl rfl ⟨rfl,_,rfl,?_⟩;refine cm (λS=>?_) (λS=>?_)
      ·have xk:r[j]≠n:=λz=>by rw[z]at S;simp at S
       refine ae rfl ⟨af,?_,cw_next zc (ae rfl ⟨?_,by rw[eN]⟩)⟩
       ·have h1:=hQ (λy=>!decide (y=n)) (r.take j)
        have U:(r.take j).length<=r.length:=by rw[b9];omega
        have yq:=R.sm.short r (cY zf);rw[aG,aQ];omega
       ·rw[zg,gQ,bo,nD (by simpa using xk)];rfl
      ·have zq:r[j]=n:=by
        by_cases z:r[j]=n
        ·exact z
        ·exact absurd (by simp[z]) S
       refine cw_next zc (ae rfl ⟨?_,rfl⟩);rw[zg];simp[zq]
     ·rintro zs N ya ⟨zd,rfl,rfl,rfl⟩
      rw[aG,cj];refine⟨J,_,rfl,.inl ⟨aq.of af,λl xj=>?_⟩⟩;have ym:I≠J:=ax v yc;have xe:aE k (upd (upd k J (.lst ((r.filter λy=>!decide (y=n)).map V.str))) l (.tup ((r.filter λy=>!decide (y=n)).map V.str))):=(aH yc).trans (aH xj);have zm:I≠l:=ax (by rw[ag ym];exact v) xj
      refine⟨xe _ _ v,?_,cw_next zl ⟨_,rfl,af,λb o q=>?_,?_⟩⟩
      ·have h1:=B.length
       have U:(L2.without n (rest.take i)).length<=rest.length:=by unfold L2.without;rw[aG,b9];omega
       have yq:=R.sm.a7;rw[aQ];omega
      ·rw[ag (ax q M)];exact xe _ _ (u b o q)
      ·have xr:L2.without n (rest.take (i+1))=L2.without n (rest.take i)++[r.filter λy=>!decide (y=n)]:=by rw[tk];unfold L2.without;rw[bo];rfl
       rw[xr];refine c6.append (vB B λb xs q=>?_) ?_
       ·rw[ag (aj q v)];exact xe _ _ q
       ·rw[ag (aN zm)];exact af
    ·rintro ys xa k ⟨yd,rfl,v,u,B⟩
     rw[yf.length,cj]at B;have lt:=j4 (kc e);refine⟨_,by rw[R.mm];exact lt,L2.without n rest,ys,g++[n],I,⟨_,rfl⟩,rfl,u _ _ ze,v,B,uD R.sm,yl,xq.trans u,?_,?_⟩
     ·have:=R.lim;rw[cQ,j0];omega
     ·rw[R.eq,qN W e,UL]
      congr 1
      funext z
      simp
  ·refine ae rfl ⟨c,_,rfl,.inl ⟨aq.of R.B0,λp yj=>?_⟩⟩
   rw[R.eq,qL (by simpa using W)]at T
   have e:g++[]=o:=c3 T;rw[f7]at e;subst e;exact zp p _ (R.same.free yj) (R.same.trans (aH yj)) af
end dq
namespace dq
open L2
theorem boot_max:PX "max" = ih (.builtin "max"):=by decide +kernel
theorem boot_abs:PX "abs" = ih (.builtin "abs"):=by decide +kernel
inductive oK(K:O9)(vs:List V)(H:Hp)(Q:VK)(E:XK):Prop
 |mk{a:OT}{ns:List Int}{k:Int}(_:vs=[.ref a,.int k])(_:aq K H a (ns.map V.int))(_:0<=k)(_:k<=100)(_:ns.length<=63)(_:∀(p:OT) (x y:Int),H p=none->0<=x->0<=y->y<4294967296->Q (.ref p) (upd H p (.lst [.int x,.int y]))):oK K vs H Q E
theorem sC:a' ["_law_script","_law_k","_law_cell"] ["_law_script","_law_k"] (aI sY):=bt
theorem HB{ns:am Int}(h:i<ns.length):∃z,(ns.map V.int)[i]?=ih (V.int z):=⟨ns[i],by rw[dt,bB h];rfl⟩
theorem IK(F:aP K "_law_pot" "_law_pot" sY f fd)(B:dc mg):aO P w K mg base ay 1 f fd ["_law_script","_law_k"] (oK K):=by
 refine F.bx sC λQa A n s H vs Q E o h=>?_
 ·obtain @⟨a,ns,k,rfl,g,r,t,u,q⟩:=h
  intro X;refine⟨_,aw (a9 2 sC.nd ar)
   (aw (bF (bS AF (pv 1) (b4 hT (by rfl) B.len hS (aa (pv 0) ah)) (bM _))
     (aA (a9 2 sC.nd (aT cM (pv 0) (pv 1)))) bX)
   (aA (aX (er (aa (b4 (u9 rfl) (by rfl) B.max boot_max (aa ar (aa (bJ jx (b4 vO (by rfl) B.abs boot_abs (aa (pv 2) ah)) (bJ r0 ar ar)) ah)))
    (aa (bJ gc (bJ gc (bJ md (b4 vO (by rfl) B.abs boot_abs (aa (pv 2) ah)) ar) (bJ mc ar (pv 1))) ar) ah)))))),?_⟩
  refine aV rfl rfl ⟨a,_,rfl,.inl g,_,_,rfl,rfl,_,rfl,?_⟩;have e:∀c:Int,∀p,H p=none->Q (.ref p) (upd H p (.lst [.int (if (if c<0 then -c else c) - 10 ^ (18:Int).toNat>0 then (if c<0 then -c else c) - 10 ^ (18:Int).toNat else 0),.int ((if c<0 then -c else c) % 2147483587+101 * k+3)])):=λc p b=>by
   refine q p _ _ b ?_ (by omega) (by omega)
   generalize (if c<0 then -c else c) - 10 ^ (18:Int).toNat=d;split <;> omega
  refine cm (λj=>?_) (λj=>?_)
  ·have l:k<((ns.map V.int).length:Int):=eG j
   rw[aG]at l;obtain⟨z,m⟩:=HB (ns:=ns) (i:=k.toNat) (by omega)
   refine aV rfl rfl ⟨a,_,_,_,rfl,rfl,g,(by rw[show k=((k.toNat:Nat):Int) by omega];exact cF m),?_⟩
   refine ae rfl ⟨z,rfl,_,_,rfl,rfl,⟨by decide,by decide,by decide⟩,_,_,rfl,rfl,_,_,rfl,?_⟩
   refine ae rfl ⟨z,rfl,_,_,rfl,rfl,(by show(0:Int)<2147483587;decide),_,rfl,_,_,rfl,rfl,.inl ⟨by decide,by decide⟩,_,_,rfl,rfl,_,_,rfl,rfl,b8,λp b=>e z p b⟩
  ·refine ae rfl ⟨0,rfl,_,_,rfl,rfl,⟨by decide,by decide,by decide⟩,_,_,rfl,rfl,_,_,rfl,?_⟩
   refine ae rfl ⟨0,rfl,_,_,rfl,rfl,(by show(0:Int)<2147483587;decide),_,rfl,_,_,rfl,rfl,.inl ⟨by decide,by decide⟩,_,_,rfl,rfl,_,_,rfl,rfl,b8,λp b=>e 0 p b⟩
inductive hZ(vs:List V)(H:Hp)(Q:VK)(E:XK):Prop
 |mk{p:OT}{m x y:Int}(_:vs=[.ref p,.int m])(_:H p=ih (.lst [.int x,.int y]))(_:0<=x)(_:0<=y)(_:y<4294967296)(_:0<m)(_:m<4611686018427387904)(_:∀(d x' y':Int),0<=d->d<m->0<=x'->0<=y'->y'<4294967296->Q (.int d) (upd H p (.lst [.int x',.int y']))):hZ vs H Q E
theorem w7:a' ["_law_pot_here","_law_many","_law_digit_here"] ["_law_pot_here","_law_many"] (aI ml):=bt
theorem q'(F:aP K "_law_digit" "_law_digit" ml f fd):aO P w K mg base ay 1 f fd ["_law_pot_here","_law_many"] hZ:=by
 refine F.bx w7 λQa A j s H vs Q E k h=>?_
 ·obtain @⟨p,m,x,y,rfl,c,d,e,g,a,l,q⟩:=h
  intro X;refine⟨_,aw (bF (bS Je (aT cM (pv 0) ar) ar (bM _))
    (aw (a9 2 w7.nd (bJ md (aT cM (pv 0) ar) (pv 1)))
    (aw (h6 (bJ F0 (aT cM (pv 0) ar) (pv 1)) (Ag (pv 0) ar set_list))
    (aA (aX (pv 2))))) bX)
   (aw (h6 (bJ md (bJ gc (bJ mc (aT cM (pv 0) ar) ar) ar) ar) (Ag (pv 0) ar set_list))
   (aA (aX (bJ md (bJ GL (bJ md (bJ mc (aT cM (pv 0) ar) (aT cM (pv 0) ar)) ar) ar) (pv 1))))),?_⟩
  have b:aq K H p [.int x,.int y]:=aq.of c;refine ae rfl ⟨p,_,0,_,rfl,rfl,b,rfl,_,_,rfl,rfl,_,rfl,?_⟩;refine cm (λi=>?_) (λi=>?_)
  ·refine ae rfl ⟨p,_,0,_,rfl,rfl,b,rfl,_,rfl,_,_,rfl,rfl,a,?_⟩
   refine ae rfl ⟨p,_,0,_,rfl,rfl,b,rfl,_,rfl,_,_,rfl,rfl,⟨a,by omega⟩,_,rfl,p,_,0,0,rfl,rfl,c,rfl,?_⟩
   refine ae rfl ?_;exact q _ _ _ (Df _ (by omega)) (Dg _ a) (Int.ediv_nonneg d (by omega)) e g
  ·refine ae rfl ⟨p,_,1,_,rfl,rfl,b,rfl,_,_,rfl,rfl,.inr ⟨by decide,by decide⟩,_,_,rfl,rfl,_,_,rfl,rfl,(by show(0:Int)<2147483647;decide),_,rfl,p,_,1,1,rfl,rfl,c,rfl,?_⟩
   have h1:=Df (y * 39373+20011) (show(2147483647:Int)≠0 by decide)
   have U:=Dg (y * 39373+20011) (show(0:Int)<2147483647 by decide)
   refine ae rfl (fq af rfl (ae rfl (fq af rfl ⟨_,_,rfl,rfl,.inl ⟨PN (by decide) h1,PN U (by decide)⟩,_,_,rfl,rfl,(by show(0:Int)<2147483563;decide),_,_,rfl,rfl,⟨by decide,by decide⟩,_,rfl,_,_,rfl,rfl,a,?_⟩)))
   exact q _ x _ (Df _ (by omega)) (Dg _ a) d h1 (by omega)
def dY(p:OT)(H:Hp):Prop:= ∃x y:Int,H p=ih (.lst [.int x,.int y])/\0<=x/\0<=y/\y<4294967296
structure bD(p:OT)(H Y:Hp):Prop where
 ok:dY p Y
 kp:∀b o,H b=ih o->b≠p->Y b=ih o
section
variable{q:OT}{o:HO}
theorem bD.refl(h:dY p H):bD p H H:=⟨h,λ_ _ e _=>e⟩
theorem bD.trans(a:bD p H O)(b:bD p O H2):bD p H H2:=⟨b.ok,λc o e n=>b.kp c o (a.kp c o e n) n⟩
theorem dY.ne(h:dY p H)(a:H q=none):p≠q:=let ⟨_,_,e,_⟩:=h;ax e a
theorem bD.new(a:bD p H O)(c:O q=none):bD p H (upd O q o):=by
 refine⟨?_,λb u e n=>?_⟩
 ·obtain⟨x,y,e,r⟩:=id a.ok
  exact⟨x,y,by rw[ag (a.ok.ne c)];exact e,r⟩
 ·rw[ag (ax (a.kp b u e n) c)];exact a.kp b u e n
theorem bD.free(a:bD p H O)(b:O q=none):H q=none:=by
 cases e:H q with
 |none=>rfl
 |some u =>
  by_cases h:q=p
  ·subst h;obtain⟨_,_,z,_⟩:=a.ok;rw[z]at b;cases b
  ·rw[a.kp q u e h]at b;cases b
theorem bD.write(a:bD p H O)(c:H q=none)(d:p≠q):bD p H (upd O q o):=by
 refine⟨?_,λb u e n=>?_⟩
 ·obtain⟨x,y,e,r⟩:=id a.ok
  exact⟨x,y,by rw[ag d];exact e,r⟩
 ·rw[ag (ax e c)];exact a.kp b u e n
theorem eM{E:XK}(h:dY p H)(a:0<m)(c:m<4611686018427387904)(k:∀d Y,0<=d->d<m->bD p H Y->Q (.int d) Y):hZ [.ref p,.int m] H Q E:=by
 obtain⟨x,y,e,f,g,i⟩:=h;exact⟨rfl,e,f,g,i,a,c,λd j l q r h1 U s=>k d _ q r ⟨⟨j,l,af,h1,U,s⟩,λb o z n=>by rw[ag n];exact z⟩⟩
end
theorem vC:∀cs:am Nat,((cs.map sign).map (·.length)).sum=cs.length
 |[]=>rfl
 |c::cs=>by
  have e:(sign c).length=1:=rfl;simp only[b5,uu,vC cs,cX,e];omega
abbrev ju:CY:= "abcdefghijklmnopqrstuvwxyz"
theorem vD{d:Int}(a:0<=d)(h1:d<26):∃c:Nat,cn ju.cps.toList d=ih c/\97<=c/\c<=122/\c=97+d.toNat:=by
 have all:∀i:Nat,i<26->ju.cps.toList[i]?=ih (97+i):=by decide +kernel
 refine⟨97+d.toNat,?_,by omega,by omega,rfl⟩
 rw[show d=((d.toNat:Nat):Int) by omega]
 exact cF (all d.toNat (by omega))
inductive jv(vs:List V)(H:Hp)(Q:VK)(E:XK):Prop
 |mk{p:OT}{m:Nat}(_:vs=[.ref p,.int m])(_:dY p H)(_:m<=20)(_:∀(l:OT) (ys:List CY) (Y:Hp),H l=none->ys.length=m->(∀y∈ys,Nm y)->ys.Nodup->bD p H Y->Y l=ih (.lst (ys.map V.str))->Q (.ref l) Y):jv vs H Q E
noncomputable abbrev oD:List CY:=["_law_pot_here","_law_many","_law_letters","_law_found","_law_k","_law_size","_law_name","_law_some"]
theorem iX:a' oD ["_law_pot_here","_law_many"] (aI h8):=bt
def Au(s:PQ):List PQ:=match s with|.If _ b _ _=>b|_=>[]
abbrev K0:Tr:=cG (ff (fe (cx (rR (cx (bH h8) 2)) 1)))
abbrev K1:Tr:=cG (fe (cx (Au (cx (rR (cx (bH h8) 2)) 2)) 0))
abbrev K2:Tr:=cG (Br (fe (cx (Au (cx (rR (cx (bH h8) 2)) 2)) 1)))
theorem B1:bW oD (aI h8) ["_law_turn","_law_letters","_law_pot_here"] [none,ih 2,ih 0] K0:=c'
theorem B2:bW oD (aI h8) ["_law_turn","_law_letters","_law_name"] [none,ih 2,ih 6] K1:=c'
theorem B3:bW oD (aI h8) ["_law_one","_law_found"] [none,ih 3] K2:=c'
theorem Gp{yd:Ss}(F:aP K "_law_names" "_law_names" h8 f fd)(B:dc mg)(xb:aP K "_law_digit" "_law_digit" ml fD yd)(yf:Binds K yd ["_law_pot_here","_law_many"] [])(zf:mg "_law_digit" = ih (.ref fD)) :
  aO P w K mg base ay 3 f fd ["_law_pot_here","_law_many"] jv:=by
 have xg:aO P w K mg base ay 1 fD yd ["_law_pot_here","_law_many"] hZ:=q' xb;refine F.bx iX λQa A xy s H vs Q E yx h=>?_
 ·obtain @⟨p,m,rfl,ym,xz,q⟩:=h
  have zd:aY 1 _:=yx.mono (by decide)
  intro X;refine⟨_,aw (gb (i:=2) iX.nd rfl (S5 rfl) b6)
   (aw (gb (i:=3) iX.nd rfl (S5 rfl) (er ah))
   (aw (eX eh rfl (jn rfl B.range (aa (pv 1) ah)) (ba 4 iX.nd)
    (aw (a9 5 iX.nd (bJ gc ar (e6 xg zd rfl zf xb.kp yf .nil b' (aa (pv 0) (aa (aT cM (er (aa ar (aa ar (aa ar ah))))
      (e6 xg zd rfl zf xb.kp yf .nil b' (aa (pv 0) (aa ar ah)))) ah)))))
    (aw (gb (i:=6) iX.nd rfl (S5 rfl) (fB PySem.F.plainAttrs_str PySem.F.slot_str_join PySem.F.type_str_join Hc b6
      (aa (dg rfl B1 (jn rfl B.range (aa (pv 5) ah)) (λs H fp=>⟨ba 0 B1.nd,d5,aT Aj (pv 1) (e6 xg zd rfl zf xb.kp yf .nil b' (aa (pv 2) (aa ar ah))) (λ_ _=>rfl)⟩)) ah)))
    (aw (bF (bS j' (pv 6) (pv 3) rfl)
      (aw (nQ (i:=7) rfl B2 iX.nd rfl rfl (jn rfl B.range (aa (bJ gc (pv 1) ar) ah)) (λs H fp=>⟨ba 0 B2.nd,d5,
        bJ uM (bJ uM (e5 Iz (pv 2) fA (eO ar)) (aT Aj (pv 1) (pv 0))) b6⟩))
      (aA (gb (i:=6) iX.nd rfl (S5 rfl) (aT cM (dg rfl B3 (c9 (pv 7)) (λs H fp=>⟨ba 0 B3.nd,iU (bS (Ej K rfl) (pv 0) (pv 1) rfl),pv 0⟩)) ar))))
      bX)
    (aA (dX (fB hR lC lD iR (pv 3) (aa (pv 6) ah))))))))
   (aA (aX (pv 3))))),?_⟩
  refine⟨bp _,λl J=>?_⟩;have S:p≠l:=ym.ne J;have zm:((m:Int)).toNat=m:=ft m;refine⟨_,rfl,(m:Int),rfl,by omega,by omega,lK (λi σ O=>∃(ys:am CY) (yg zg xh yh:a2 V),σ=[bd p,ih (.int m),ih (.str ju),bd l,yg,zg,xh,yh]/\ys.length=i/\(∀y∈ys,Nm y)/\ys.Nodup/\bD p H O/\O l=bm (ys.map V.str))
   ⟨[],none,none,none,none,rfl,rfl,(λy o=>by simp at o),fz,(bD.refl ym).new J,af⟩ ?_ ?_⟩
  ·rintro i σ O hi ⟨ys,yg,zg,xh,yh,rfl,G,T,W,v,xe⟩
   rw[zm]at hi;refine ae rfl ⟨g7,λa zh=>ae rfl ?_⟩;have zq:a≠p:=aN (v.ok.ne zh);refine eM (p:=p) (m:=3) ((bD.refl v.ok).new zh).ok (by decide) (by decide) λd H2 xn yn xi=>?_
   obtain⟨L,xr,yr,zy⟩:∃L:Int,cn [V.int 1,V.int 2,V.int 8] d=ih (V.int L)/\0<L/\L<=8:=by
    have:d=0\/d=1\/d=2:=by omega
    rcases this with rfl|rfl|rfl
    ·exact⟨1,rfl,by decide,by decide⟩
    ·exact⟨2,rfl,by decide,by decide⟩
    ·exact⟨8,rfl,by decide,by decide⟩
   refine gF (xi.kp a _ af zq) xr ?_;refine eM (p:=p) (m:=L) xi.ok yr (by omega) λe yi yz xo yb=>⟨_,_,rfl,rfl,?_⟩
   have yo:bD p O yi:=(((bD.refl v.ok).new zh).trans xi).trans yb;have xt:yi l=bm (ys.map V.str):=yo.kp l _ xe (aN S);refine⟨rfl,_,rfl,1+e,rfl,by omega,by omega,λM ye=>?_⟩
   have xl:p≠M:=yb.ok.ne ye;refine uS (λi zs k n=>∃(cs:am Nat) (r:a2 V),zs=(cs.map sign).map V.str/\cs.length=i/\(∀c∈cs,97<=c/\c<=122)/\k=[r,ih (.str ju),bd p]/\bD p yi n/\n M=bm zs)
    ⟨[],none,rfl,rfl,(λc u=>by simp at u),rfl,(bD.refl yb.ok).new ye,af⟩ (λi zs k n ab=>by obtain⟨_,_,_,_,_,_,_,z⟩:=ab;exact z) ?_ ?_
   ·rintro j zs k n N ⟨cs,r,rfl,Y,ze,rfl,R,zi⟩
    refine aV rfl rfl (eM (p:=p) (m:=26) R.ok (by decide) (by decide) λd D xn yn zo=>?_)
    obtain⟨c,u,xp,yp,_⟩:=vD xn yn;have yt:D M=_:=zo.kp M _ zi (aN xl);refine⟨ju,d,c,rfl,rfl,(by rw[aQ];decide +kernel),u,yt,?_,cw_next N ⟨cs++[c],_,?_,?_,?_,rfl,?_,af⟩⟩
    ·rw[aG,aG,Y,aQ];omega
    ·rw[bo,bo];rfl
    ·rw[cQ,Y];rfl
    ·intro x zb
     rcases cq.mp zb with h|h
     ·exact ze x h
     ·have:x=c:=by simpa using h
      rw[this];exact⟨xp,yp⟩
    ·exact(R.trans zo).write ((bD.refl yb.ok).free ye) xl
   ·rintro zs k n ⟨cs,r,rfl,Y,ze,rfl,R,zi⟩
    have zt:((cs.map sign).map (·.length)).sum=cs.length:=by
     exact vC cs
    refine⟨("" : CY),M,cs.map sign,rfl,rfl,.inl (aq.of zi),?_,?_⟩
    ·have:(Ws ("" : CY))=0:=rfl
     rw[zt,this,Y];omega
    rw[Eh];generalize yk:(⟨cs.toArray⟩:CY)=g;have xd:Nm g:=by
     have zz:g.length=cs.length:=by rw[<-yk];show cs.toArray.size=_;simp
     refine⟨by omega,by omega,λc u=>ze c ?_⟩
     rw[<-yk]at u;simpa using u
    have zp:bD p O n:=yo.trans R;have I:n l=bm (ys.map V.str):=R.kp l _ xt (aN S);refine aV rfl rfl ⟨l,_,rfl,.inl (aq.of I),rfl,kb _,_,rfl,?_⟩;rw[au bV,jq];refine cm (λyl=>?_) (λyl=>?_)
    ·
     refine ae rfl ⟨_,_,rfl,rfl,(m:Int)+1,rfl,by omega,by omega,λC zl=>?_⟩
     refine uS (λi zs k D=>∃r:a2 V,zs=((Sj i).map λj=>Sw g none (ih 6)++sign (97+j)++("q" : CY)).map V.str/\k=[r,ih (.str ju),ih (.str g)]/\D=upd n C (.lst zs))
      ⟨none,rfl,rfl,rfl⟩ (λi zs k D ⟨_,_,_,z⟩=>by rw[z];exact af) ?_ ?_
     ·rintro j zs k D N ⟨r,rfl,rfl,rfl⟩
      obtain⟨c,u,xp,yp,xu⟩:=vD (d:=0+(j:Int)) (by omega) (by omega)
      have yq:c=97+j:=by rw[xu];omega
      have xA:(Sw g none (ih 6)).length<=6:=uU g;refine aV rfl rfl ⟨g,rfl,by have:=xd.hi;omega,_,rfl,_,rfl,ju,_,c,rfl,rfl,(by rw[aQ];decide +kernel),u,_,_,rfl,rfl,?_,_,_,rfl,rfl,?_,af,?_,cw_next N ⟨_,?_,rfl,?_⟩⟩
      ·show _+1<=OY;rw[aQ];omega
      ·have xo:(Sw g none (ih 6)++(⟨#[c]⟩:CY)).length=(Sw g none (ih 6)).length+1:=by
        show(_ ++ #[c]:Array Nat).size=_;rw[qh];rfl
       have zx:(("q" : CY)).length=1:=by decide +kernel
       show(Sw g none (ih 6)++(⟨#[c]⟩:CY)).length+_<=OY;rw[xo,zx,aQ];omega
      ·rw[aG,aG,CK,aQ];omega
      ·rw[US,bo,bo,yq];rfl
      ·rw[eN]
     ·rintro zs k D ⟨r,rfl,rfl,rfl⟩
      have yu:((m:Int)+1).toNat=m+1:=by omega
      generalize xf:(Sj ((m:Int)+1).toNat).map (λj=>Sw g none (ih 6)++sign (97+j)++("q" : CY))=cands;have zu:cands.Nodup:=by
       rw[<-xf];refine VP _ (λa b xv h=>xv ?_) UM;have:=FT h;omega
      have yv:∀y∈cands,Nm y:=by
       intro y o;rw[<-xf]at o;obtain⟨j,N,rfl⟩:=aW.mp o;have:=iE.mp N;exact Hd xd.az ⟨by omega,by omega⟩
      have yy:cands.length=m+1:=by rw[<-xf,aG,CK,yu]
      have xa:upd n C (.lst (cands.map V.str)) l=bm (ys.map V.str):=by rw[ag (ax I zl)];exact I
      refine ae rfl ⟨C,rfl,⟨_,aq.of af⟩,λxc ya=>?_⟩;refine eK (xs:=cands.map V.str) (λi zs k yc=>∃r:a2 V,zs=((cands.take i).filter (λy=>!decide (y∈ys))).map V.str/\k=[r,bd l]/\yc=upd (upd n C (.lst (cands.map V.str))) xc (.lst zs))
       ⟨none,rfl,rfl,rfl⟩ (λi zs k yc ⟨_,_,_,z⟩=>by rw[z];exact⟨af,aq.of (by rw[ag (ax af ya)];exact af)⟩) ?_ ?_
      ·rintro j x zs k yc zb ⟨r,rfl,rfl,rfl⟩
       rw[dt]at zb;obtain⟨y,o,rfl⟩:=gO.mp zb;have xm:j<(cands.map V.str).length:=by rw[aG];exact(bA.mp o).1
       have tk:cands.take (j+1)=cands.take j++[y]:=by rw[dd,o];rfl
       have za:(upd (upd n C (.lst (cands.map V.str))) xc (.lst (((cands.take j).filter (λy=>!decide (y∈ys))).map V.str))) l=bm (ys.map V.str):=by rw[ag (ax xa ya)];exact xa
       refine aV rfl rfl ⟨l,_,rfl,.inl (aq.of za),rfl,kb _,_,rfl,?_⟩;rw[aB rfl,jq];refine cm (λxj=>?_) (λxj=>?_)
       ·refine ae rfl ⟨af,?_,cw_next xm ⟨_,?_,rfl,?_⟩⟩
        ·have h1:=hQ (λy=>!decide (y∈ys)) (cands.take j)
         have U:(cands.take j).length<=cands.length:=by rw[b9];omega
         rw[aG,aQ];omega
        ·rw[tk,gQ,bo,nE,aB xj];rfl
        ·rw[eN]
       ·refine cw_next xm ⟨_,?_,rfl,rfl⟩
        rw[tk,gQ,nE,au xj,Dh,f7]
      ·rintro zs k yc ⟨r,rfl,rfl,rfl⟩
       rw[aG,cj];obtain⟨y0,zv,xw⟩:=r4 (found:=ys) zu (by omega)
       have zk:y0∈cands.filter (λy=>!decide (y∈ys)):=f6.mpr ⟨zv,by simpa using xw⟩
       cases xq:cands.filter (λy=>!decide (y∈ys)) with
       |nil=>rw[xq]at zk;simp at zk
       |cons t zr =>
        have yw:t∈cands.filter (λy=>!decide (y∈ys)):=by rw[xq];exact aS
        obtain⟨zc,zn⟩:=f6.mp yw;have zw:t ∉ ys:=by simpa using zn
        have za:(upd (upd n C (.lst (cands.map V.str))) xc (.lst ((t::zr).map V.str))) l=bm (ys.map V.str):=by rw[ag (ax xa ya)];exact xa
        have yj:bD p H (upd (upd n C (.lst (cands.map V.str))) xc (.lst ((t::zr).map V.str))):=((v.trans zp).new zl).new ya;refine fq af (show cn ((t::zr).map V.str) ((0:Nat):Int)=ih (V.str t) from cF rfl) ?_;refine ae rfl ⟨.inl ⟨rfl,_,aq.of za⟩,_,rfl,l,_,_,rfl,rfl,za,?_,?_⟩
        ·rw[aG,aQ];omega
        ·refine⟨ys++[t],_,_,_,_,rfl,by rw[cQ,G];rfl,?_,?_,?_,?_⟩
         ·intro y o
          rcases cq.mp o with h|h
          ·exact T y h
          ·have:y=t:=by simpa using h
           rw[this];exact yv t zc
         ·rw[eg]
          exact⟨W,by simp,λa zj b xk=>by rw[show b=t by simpa using xk];exact λh=>zw (h ▸ zj)⟩
         ·exact yj.write J S
         ·rw[af,bo];rfl
    ·have xx:g ∉ ys:=by simpa using yl
     have yj:bD p H n:=v.trans zp;refine ae rfl ⟨.inl ⟨rfl,_,aq.of I⟩,_,rfl,l,_,_,rfl,rfl,I,?_,?_⟩
     ·rw[aG,aQ];omega
     ·refine⟨ys++[g],_,_,_,_,rfl,by rw[cQ,G];rfl,?_,?_,?_,?_⟩
      ·intro y o
       rcases cq.mp o with h|h
       ·exact T y h
       ·have:y=g:=by simpa using h
        rw[this];exact xd
      ·rw[eg]
       exact⟨W,by simp,λa zj b xk=>by rw[show b=g by simpa using xk];exact λh=>xx (h ▸ zj)⟩
      ·exact yj.write J S
      ·rw[af,bo];rfl
  ·rintro σ O ⟨ys,yg,zg,xh,yh,rfl,G,T,W,v,xe⟩
   rw[zm]at G;exact ae rfl (q l ys O J G T W v xe)
end dq
namespace dq
open L2 W HT
theorem D4(K:S7)(h:X.K=K):cT X (.type "list") (λxs H Q=>∃p ys,xs=[.ref p]/\(aq K H p ys\/aU K H p ys) /\∀l,H l=none->Q (.ref l) (upd H l (.lst ys))):=by subst h;exact iP
theorem D5(K:S7)(h:X.K=K)(a:X.calm=true):cT X (.builtin "any") (λxs H Q=>∃(p:OT) (bs:am Bool),xs=[.ref p]/\aq K H p (bs.map V.bl)/\Q (.bl (bs.any id)) H):=by subst h;exact vo a
theorem Fg(K:S7)(h:X.K=K):k3 X (Be K):=by subst h;exact jt
def e9(av:OT->Prop)(H:Hp)(vs:List V)(rows:List (List CY)):Prop:=Sl (λy r=>∃a,y=V.ref a/\av a/\H a=ih (.lst (r.map V.str))) vs rows
theorem kf{av:OT->Prop}{H:Hp}:∀{vs:am V}{rows:am (List CY)}{i:Nat}{v:V},e9 av H vs rows->vs[i]?=ih v ->∃a r,v=V.ref a/\rows[i]?=ih r/\av a/\H a=bm (r.map V.str)
 |_,_,i,v,.nil,e=>by simp at e
 |_,_,0,v,.cons p _,e=>by
  obtain⟨a,rfl,n,q⟩:=p;simp at e;subst e;exact⟨a,_,rfl,rfl,n,q⟩
 |_,_,i+1,v,.cons _ t,e=>by
  obtain⟨a,r,b,c,n,q⟩:=kf (i:=i) t (by simpa using e)
  exact⟨a,r,b,by simpa using c,n,q⟩
theorem iQ{b:OT->Prop}(h:e9 av H vs rows)(f:∀a xs,av a->H a=bm xs->b a/\Y a=bm xs):e9 b Y vs rows:=
 Paired.imp' (λ_ _ c=>by obtain⟨a,e,n,q⟩:=c;exact ⟨a,e,(f a _ n q).1,(f a _ n q).2⟩) h
theorem qD(h:e9 av H vs rows)(n:av a)(q:H a=bm (r.map V.str)):e9 av H (vs++[.ref a]) (rows++[r]):=hJ h ⟨a,rfl,n,q⟩
theorem jm(h:e9 av H vs rows):vs.length=rows.length:=c5 h
theorem jC(h:Nm x):PJ x=true:=by
 unfold PJ;rw[<-Array.all_toList,nj];intro c a;have:=(h.az c a).2;exact cE (by omega)
theorem rb(H:Hp):∀xs:am CY,bI H (xs.map V.str) (xs.map SM)
 |[]=>.nil
 |x::xs=>.cons (.str x) (rb H xs)
theorem rf:∀{xs:am CY},(∀x∈xs,Nm x)->SK (xs.map SM)=true
 |[],_=>rfl
 |x::xs,h=>by
  show(PJ x&&SK (xs.map SM))=true;rw[jC (h x aS),rf λy a=>h y (a8 _ a)];rfl
theorem qO:∀xs:am CY,SJ (xs.map SM)=0
 |[]=>rfl
 |x::xs=>by rw[b5];simp only[SJ,TC,qO xs,Nat.max_self]
theorem ne_nil{xs:am CY}(c:H a=bm (xs.map V.str))(d:H b=bm [])(e:∀x∈xs,Nm x)(q:Q (.bl (!xs.isEmpty)) H):Bm (.ref a) (.ref b) H Q:=by
 refine⟨.list (xs.map SM),.list [],.lst c (rb _ _),.lst d .nil,rf e,rfl,by show SJ _+1<=60;rw[qO];decide,?_⟩
 cases xs with
 |nil=>exact q
 |cons x xs=>exact q
theorem eq_nil{xs:am CY}(c:H a=bm (xs.map V.str))(d:H b=bm [])(e:∀x∈xs,Nm x)(q:Q (.bl xs.isEmpty) H):Bl (.ref a) (.ref b) H Q:=by
 refine⟨.list (xs.map SM),.list [],.lst c (rb _ _),.lst d .nil,rf e,rfl,by show SJ _+1<=60;rw[qO];decide,?_⟩
 cases xs with
 |nil=>exact q
 |cons x xs=>exact q
theorem wu(xs:am V)(k:Nat):bT xs (ih (k:Int)) none=xs.drop k:=by
 unfold bT;rw[HT.FH,HT.rz]
 by_cases h:k<=xs.length
 ·rw[uv h,qr (by rw[jW];omega)]
 ·rw[UR (by omega),qq,qi (by omega)];simp
def busy(rest:List (List CY))(x:CY):Bool:=rest.any λo=>decide (x∈o.drop 1)
def cI(all:List (List CY)):List (List CY)->List CY
 |[]=>[]
 |[]::rest=>cI all rest
 |(x::_)::rest=>if busy all x then cI all rest else x::cI all rest
theorem lP{n:CY}:∀{k:Nat}{rest:am (List CY)},cZ k rest n=none ↔ ∀r∈rest,n∈r->r.head?=ih n
 |k,[]=>by simp[cZ]
 |k,[]::rest=>by
  show cZ (k+1) rest n=none ↔ _;rw[lP (k:=k+1) (rest:=rest)];simp
 |k,(x::r)::rest=>by
  show(if n∈x::r/\x≠n then ih (k,x) else cZ (k+1) rest n)=none ↔ _
  by_cases h:n∈x::r/\x≠n
  ·rw[aB h]
   constructor
   ·intro z;cases z
   ·intro z
    have:=z _ aS h.1;exact absurd (by simpa using this) h.2
  ·rw[au h,lP (k:=k+1) (rest:=rest)]
   constructor
   ·intro z q hq a
    rcases bu.mp hq with rfl|hq
    ·by_cases e:x=n
     ·rw[e];rfl
     ·exact absurd ⟨a,e⟩ h
    ·exact z q hq a
   ·exact λz q hq=>z q (a8 _ hq)
theorem wx{all:am (List CY)}(b:∀r∈all,r.Nodup)(x:CY):busy all x=false ↔ cZ 0 all x=none:=by
 rw[lP];unfold busy;rw[Cn]
 constructor
 ·intro h q c hx
  have h1:=h q c;cases q with
  |nil=>simp at hx
  |cons y t =>
   rcases bu.mp hx with rfl|hx
   ·rfl
   ·exact absurd (by simpa using hx) h1
 ·intro h r a
  cases r with
  |nil=>simp
  |cons y t =>
   intro hx;have hx:x∈t:=by simpa using hx
   obtain rfl:y=x:=by simpa using h _ a (a8 _ hx)
   exact(dQ.mp (b _ a)).1 hx
theorem qP{all:am (List CY)}(a:∀r∈all,r.Nodup):∀rest:am (List CY),(cI all rest).head?=gv all rest
 |[]=>rfl
 |[]::rest=>qP a rest
 |(x::t)::rest=>by
  show(if busy all x then cI all rest else x::cI all rest).head?=if (cZ 0 all x).isNone then ih x else gv all rest;cases b:busy all x with
  |false=>rw[(wx a x).mp b];rfl
  |true =>
   have c:(cZ 0 all x).isNone=false:=by
    cases z:cZ 0 all x with
    |none=>rw[(wx a x).mpr z]at b;cases b
    |some _=>rfl
   rw[c];exact qP a rest
theorem lI(all:am (List CY))(r:am CY):∀rest:am (List CY),cI all (rest++[r])=cI all rest++cI all [r]
 |[]=>rfl
 |[]::rest=>lI all r rest
 |(x::t)::rest=>by
  show(if busy all x then cI all (rest++[r]) else x::cI all (rest++[r]))=(if busy all x then cI all rest else x::cI all rest)++cI all [r];rw[lI all r rest];split <;> rfl
theorem q0(all:am (List CY)):∀rest:am (List CY),(cI all rest).length<=rest.length
 |[]=>aK _
 |[]::rest=>CZ (q0 all rest)
 |(x::t)::rest=>by
  have:=q0 all rest;show(if busy all x then cI all rest else x::cI all rest).length<=rest.length+1;split
  ·omega
  ·rw[cX];omega
theorem nW{all:am (List CY)}{n:CY}:∀{rest:am (List CY)},n∈cI all rest ->∃r∈rest,n∈r
 |[],h=>by simp[cI]at h
 |[]::rest,h=>let ⟨r,a,e⟩:=nW (rest:=rest) h;⟨r,a8 _ a,e⟩
 |(x::t)::rest,h=>by
  have h:n∈(if busy all x then cI all rest else x::cI all rest):=h;split at h
  ·obtain⟨r,a,e⟩:=nW (rest:=rest) h
   exact⟨r,a8 _ a,e⟩
  ·rcases bu.mp h with rfl|h
   ·exact⟨_,aS,aS⟩
   ·obtain⟨r,a,e⟩:=nW (rest:=rest) h
    exact⟨r,a8 _ a,e⟩
theorem u1(h:∀r∈rest,r.Nodup):∀r∈L2.without n rest,r.Nodup:=by
 intro r a;obtain⟨q,b,rfl⟩:=aW.mp a;exact(h q b).filter _
structure Bu(H:Hp)(rows:List (List CY))(l fa:OT)(m:Nat)(σ:St)(O:Hp)(rest:List (List CY))(lv:List V)(cA:List CY)(la:OT):Prop where
 st:∃v3:Option V,σ=[ih (.ref l),ih (.ref la),ih (.ref fa),v3]
 mm:m=total rest
 tN:O la=ih (.lst lv)
 rr:e9 (λa=>a≠fa) O lv rest
 ne:la≠fa
 LW:O fa=ih (.lst (cA.map V.str))
 sm:Small rest
 nd:∀r∈rest,r.Nodup
 same:aE H O
 lim:cA.length+total rest<=1000
 eq:bZ (total rows) rows=(bZ (total rest) rest).map (cA ++ ·)
noncomputable abbrev mZ:List CY:=["_law_rows","_law_left","_law_found","_law_free"]
theorem mM:a' mZ ["_law_rows"] (aI gR):=bt
def Fh(s:PQ):Si:=match s with|.While t _ _ _=>t|_=>.Constant .none 0 ⟨0,0,0,0⟩
def Av(e:Si):Si:=match e with|.ListComp _ (⟨_,_,i::_,_⟩::_) _ _=>i|_=>.Constant .none 0 ⟨0,0,0,0⟩
def Aw(e:Si)(i:Nat):Si:=match e with|.BoolOp _ es _=>es.getD i (.Constant .none 0 ⟨0,0,0,0⟩)|_=>.Constant .none 0 ⟨0,0,0,0⟩
def Bv(e:Si):Si:=match e with|.UnaryOp _ x _=>x|_=>.Constant .none 0 ⟨0,0,0,0⟩
noncomputable abbrev sW:PQ:=cx (bH gR) 2
noncomputable abbrev eA:Si:=fe (cx (bH gR) 0)
abbrev eB:Si:=ff (Fh sW)
noncomputable abbrev eC:Si:=fe (cx (lO sW) 0)
abbrev eD:Si:=ff (Bv (Aw (Av eC) 1))
noncomputable abbrev eE:Si:=fe (cx (lO sW) 3)
theorem B4:bW mZ (aI gR) ["_law_row"] [none] (cG eA):=c'
theorem B5:bW mZ (aI gR) ["_law_row"] [none] (cG eB):=c'
theorem B6:bW mZ (aI gR) ["_law_row","_law_left"] [none,ih 1] (cG eC):=c'
theorem LX:bW ["_law_row","_law_left"] (relabel (cG eC) env) ["_law_other","_law_row"] [none,ih 0] (cG eD):=nest rfl (by decide +kernel) (by decide +kernel) rfl (by decide +kernel) (by decide +kernel)
theorem LY:(["_law_other","_law_row"]:am CY).Nodup:=by decide +kernel
theorem B7:bW mZ (aI gR) ["_law_row","_law_free"] [none,ih 3] (cG eE):=c'
theorem LZ:bW ["_law_row","_law_free"] (relabel (cG eE) env) ["_law_name","_law_free"] [none,ih 1] (cG (AR eE)):=nest rfl (by decide +kernel) (by decide +kernel) rfl (by decide +kernel) (by decide +kernel)
theorem L0:(["_law_name","_law_free"]:am CY).Nodup:=by decide +kernel
inductive oY(vs:List V)(H:Hp)(Q:VK)(E:XK):Prop
 |mk{l:OT}{ws:List V}{rows:List (List CY)}(_:vs=[.ref l])(_:H l=ih (.lst ws))(_:e9 (λ_=>True) H ws rows)(_:Small rows)(_:(∀r∈rows,r.Nodup))(_:(bZ (total rows) rows=none ->∀Y,aE H Y->Q .aM Y))(_:(∀o,bZ (total rows) rows=ih o ->∀p Y,H p=none->aE H Y->Y p=ih (.lst (o.map V.str))->Q (.ref p) Y)):oY vs H Q E
theorem Jx(F:aP K "_law_merged" "_law_merged" gR f fd)(B:dc mg):aO P w K mg base ay 1 f fd ["_law_rows"] oY:=by
 refine F.bx mM λQa A yG s H vs Q E zo h=>?_
 ·obtain @⟨l,ws,rows,rfl,zw,xx,xk,xz,zD,xE⟩:=h
  have xp:=zo.units;intro X;refine⟨_,aw (gb (i:=1) mM.nd rfl (S5 rfl) (dg rfl B4 (c9 (pv 0)) (λs H fp=>⟨ba 0 B4.nd,d5,dy (D4 K rfl) rfl B.list boot_list (aa (pv 0) ah)⟩)))
   (aw (a9 2 mM.nd (er ah))
   (aw (lQ eh (iT (b4 (vo rfl) rfl B.any boot_any (aa (dg rfl B5 (c9 (pv 1)) (λs H fp=>⟨ba 0 B5.nd,d5,gw (r3 xp) (pv 0) (er ah) (bM _)⟩)) ah)) (λ_=>rfl))
    (aw (gb (i:=3) mM.nd rfl (S5 rfl) (dg rfl B6 (c9 (pv 1)) (λs H fp=>⟨lZ (i:=0) B6.nd rfl (S5 rfl),
      iU (PW.pt (pw_and (bS (r3 xp) (pv 0) (er ah) (bM _)) (pw_and1 (e8 (eW (b4 (D5 K rfl rfl) rfl B.any boot_any (aa (dg rfl LX (vi K rfl (pv 1)) (λs H fp=>⟨ba 0 LY,d5,gw (He K rfl) (aT (qV K rfl) (pv 1) ar) (e5 (Fg K rfl) (pv 0) (eO ar) fA) rfl⟩)) ah))))))),
      aT (qV K rfl) (pv 0) ar (λ_ _=>rfl)⟩)))
    (aw (bF (bS (An xp) (pv 3) (er ah) (bM _)) (aA (aX eo)) bX)
    (aw (dX (fB hR lC lD iR (pv 2) (aa (aT cM (pv 3) ar) ah)))
    (aA (gb (i:=1) mM.nd rfl (S5 rfl) (dg rfl B7 (c9 (pv 1)) (λs H fp=>⟨ba 0 B7.nd,d5,
      dg rfl LZ (vi K rfl (pv 0)) (λs H fp=>⟨ba 0 L0,iU (bS my (pv 0) (aT (qV K rfl) (pv 1) ar) (bM _)),pv 0⟩)⟩))))))))
   (aA (aX (pv 2))))),?_⟩
  refine ae rfl ⟨l,rfl,⟨_,aq.of zw⟩,λyi yq=>?_⟩;refine eK (xs:=ws) (λi ys g O=>∃v:a2 V,g=[v]/\O yi=bm ys/\aE H O/\e9 (λa=>a≠yi) O ys (rows.take i)) ⟨none,rfl,af,aH yq,.nil⟩ (λi ys g O ab=>by obtain⟨_,_,S,T,_⟩:=ab;exact ⟨S,aq.of (T _ _ zw)⟩) ?_ ?_
  ·rintro i x ys g O D ⟨v,rfl,h1,yg,ye⟩
   obtain⟨a,r,rfl,J,_,W⟩:=kf xx D;have N:i<ws.length:=(bA.mp D).1;have tk:rows.take (i+1)=rows.take i++[r]:=by rw[dd,J];rfl
   refine ae rfl ⟨a,_,rfl,.inl (aq.of (yg _ _ W)),λc xa=>?_⟩;have yp:=aH (o:=.lst (r.map V.str)) xa;have xt:c≠yi:=aN (ax h1 xa);refine⟨yp _ _ h1,?_,cw_next N ⟨_,rfl,af,λb o d=>?_,?_⟩⟩
   ·have U:=jm ye
    have xb:=xk.a7;rw[b9]at U;rw[aQ];omega
   ·rw[ag (ax d yq)];exact yp _ _ (yg b o d)
   ·rw[tk]
    refine qD (iQ ye λb xs C d=>⟨C,by rw[ag C];exact yp _ _ d⟩) xt ?_
    rw[ag xt];exact af
  ·rintro yz g O ⟨v,rfl,h1,yg,ye⟩
   rw[jm xx,cj]at ye;refine⟨bp _,λk zi=>?_⟩;have zp:=aH (o:=.lst []) zi;have zq:H k=none:=yg.free zi;refine⟨λm σ H2=>∃rest lv q L,Bu H rows l k m σ H2 rest lv q L,⟨_,rows,yz,[],yi,⟨none,rfl⟩,rfl,zp _ _ h1,iQ ye λb xs C d=>⟨ax d zi,zp _ _ d⟩,ax h1 zi,af,xk,xz,yg.trans zp,by have:=nO xk.short;have:=xk.a7;simp only[iM];omega,by cases bZ (total rows) rows <;> rfl⟩,?_⟩
   rintro m σ H2 ⟨rest,lv,q,L,R⟩;obtain⟨xH,rfl⟩:=R.st;refine ae rfl ⟨L,rfl,⟨_,aq.of R.tN⟩,λyx yt=>?_⟩;refine eK (xs:=lv) (λi ys g ya=>∃v:a2 V,g=[v]/\ys=((rest.take i).map λr=>!r.isEmpty).map V.bl/\ya yx=bm ys/\aE H2 ya) ⟨none,rfl,rfl,af,aH yt⟩ (λi ys g ya ab=>by obtain⟨_,_,_,S,T⟩:=ab;exact ⟨S,aq.of (T _ _ R.tN)⟩) ?_ ?_
   ·rintro i x ys g ya D ⟨v,rfl,rfl,xb,yb⟩
    obtain⟨a,r,rfl,J,_,W⟩:=kf R.rr D;have N:i<lv.length:=(bA.mp D).1;have tk:rest.take (i+1)=rest.take i++[r]:=by rw[dd,J];rfl
    have ze:=cY J;refine ae rfl ⟨bp _,λz zg=>?_⟩;have p:=aH (o:=.lst []) zg;refine ne_nil (p _ _ (yb _ _ W)) af (R.sm.nm r ze) ?_;refine⟨p _ _ xb,?_,cw_next N (ae rfl ⟨by rw[tk,bo,bo];rfl,af,λb o d=>by rw[ag (ax d yt)];exact p _ _ (yb b o d)⟩)⟩
    have xd:=R.sm.a7;rw[aG,aG,b9,aQ];omega
   ·rintro bs g ya ⟨v,rfl,rfl,xb,yb⟩
    rw[jm R.rr,cj]at xb;refine⟨yx,_,rfl,aq.of xb,_,rfl,?_⟩;have zz:((rest.map λr=>!r.isEmpty).any id)=rest.any λr=>!r.isEmpty:=by rw[t7];rfl
    rw[zz];have xe:=yb _ _ R.tN;have yl:=yb _ _ R.LW;have xf:e9 (λa=>a≠k) ya lv rest:=iQ R.rr λb xs C d=>⟨C,yb _ _ d⟩;have zt:=R.same.trans yb;refine cm (λyk=>?_) (λyk=>?_)
    ·refine⟨λxA Y=>∃zx,zx<m /\∃rest lv q L,Bu H rows l k zx xA Y rest lv q L,λ_ _ z=>z,?_⟩
     refine ae rfl ⟨L,rfl,⟨_,aq.of xe⟩,λyd zm=>?_⟩;refine eK (xs:=lv) (λi ys g zb=>∃v:a2 V,g=[v,bd L]/\ys=(cI rest (rest.take i)).map V.str/\zb yd=bm ys/\aE ya zb) ⟨none,rfl,rfl,af,aH zm⟩ (λi ys g zb ab=>by obtain⟨_,_,_,S,T⟩:=ab;exact ⟨S,aq.of (T _ _ xe)⟩) ?_ ?_
     ·rintro i x ys g zb D ⟨v,rfl,rfl,xd,I⟩
      obtain⟨a,r,rfl,J,_,W⟩:=kf xf D;have N:i<lv.length:=(bA.mp D).1;have tk:rest.take (i+1)=rest.take i++[r]:=by rw[dd,J];rfl
      have ze:=cY J;have xr:=I _ _ W;refine ae rfl ⟨bp _,λz zg=>?_⟩;have p:=aH (o:=.lst []) zg;refine ne_nil (p _ _ xr) af (R.sm.nm r ze) (ae rfl ?_);have za:=p _ _ xd;cases r with
      |nil=>exact cw_next N (ae rfl ⟨by rw[tk,lI];show _=(_++[]).map _;rw[f7],za,I.trans p⟩)
      |cons y t =>
       refine ae rfl ⟨L,rfl,⟨_,aq.of (p _ _ (I _ _ xe))⟩,λxy xu=>?_⟩;refine eK (xs:=lv) (λj ys g xh=>∃xc:a2 V,g=[xc,bd a]/\ys=((rest.take j).map λo=>decide (y∈o.drop 1)).map V.bl/\xh xy=bm ys/\aE (upd zb z (.lst [])) xh) ⟨none,rfl,rfl,af,aH xu⟩ (λj ys g xh ab=>by obtain⟨_,_,_,S,T⟩:=ab;exact ⟨S,aq.of (T _ _ (p _ _ (I _ _ xe)))⟩) ?_ ?_
       ·rintro j x ys g xh yu ⟨xc,rfl,rfl,yc,zd⟩
        obtain⟨b,o,rfl,yA,_,zA⟩:=kf xf yu;have yf:j<lv.length:=(bA.mp yu).1;have xj:rest.take (j+1)=rest.take j++[o]:=by rw[dd,yA];rfl
        have zu:=I.trans (p.trans zd);refine ae rfl (fq (zu _ _ W) jg ?_);refine aV rfl rfl ⟨b,_,rfl,aq.of (zu _ _ zA),λp2 xB=>?_⟩;have yE:bT (o.map V.str) (ih 1) none=(o.drop 1).map V.str:=by
         rw[show(1:Int)=((1:Nat):Int) from rfl,wu,Di]
        rw[yE];have M:=aH (o:=.lst ((o.drop 1).map V.str)) xB;refine⟨p2,_,rfl,.inl (aq.of af),rfl,kb _,?_⟩;rw[au bV,jq];refine⟨M _ _ yc,?_,cw_next yf (ae rfl ⟨by rw[xj,bo,bo];rfl,af,λc u xa=>by rw[ag (ax xa xu)];exact M _ _ (zd c u xa)⟩)⟩
        have yy:=R.sm.a7;rw[aG,aG,b9,aQ];omega
       ·rintro zG g xh ⟨xc,rfl,rfl,yc,zd⟩
        rw[jm xf,cj]at yc;refine⟨xy,_,rfl,aq.of yc,_,rfl,?_⟩;have zE:((rest.map λo=>decide (y∈o.drop 1)).any id)=busy rest y:=by unfold busy;rw[t7];rfl
        rw[zE];have xn:=p.trans zd;cases d:busy rest y with
        |true =>
         refine cw_next N (ae rfl ⟨?_,zd _ _ za,I.trans xn⟩);rw[tk,lI];show _=(_++(if busy rest y then cI rest [] else y::cI rest [])).map _;rw[d];show _=(_++[]).map _;rw[f7]
        |false =>
         refine ae rfl (fq (xn _ _ xr) jg ⟨zd _ _ za,?_,cw_next N (ae rfl ⟨?_,af,λc u xa=>by rw[ag (ax xa zm)];exact xn _ _ (I c u xa)⟩)⟩)
         ·have yy:=q0 rest (rest.take i)
          have yH:=R.sm.a7;rw[b9]at yy;rw[aG,aQ];omega
         ·rw[tk,lI]
          show _=(_++(if busy rest y then cI rest [] else y::cI rest [])).map _;rw[d,bo];rfl
     ·rintro fr g zb ⟨v,rfl,rfl,xd,I⟩
      rw[jm xf,cj]at xd;have xv:∀x∈cI rest rest,Nm x:=λx D=>by
       obtain⟨r,zo,e⟩:=nW D;exact R.sm.nm r zo x e
      have yB:=qP R.nd rest;refine ae rfl ⟨bp _,λz zg=>?_⟩;have p:=aH (o:=.lst []) zg;refine eq_nil (p _ _ xd) af xv (ae rfl ?_);have yn:ej rest=(cI rest rest).head?:=yB.symm;have zn:=zt.trans (I.trans p);have za:=p _ _ xd;have yr:=p _ _ (I _ _ xe);have zl:=p _ _ (I _ _ yl);generalize cI rest rest=fr at yn za xv⊢;cases fr with
      |nil =>
       refine zD ?_ _ zn;rw[R.eq,qM yk yn];rfl
      |cons n xF =>
       have e:ej rest=ih n:=yn;have lt:=j4 (kc e);generalize zH:upd zb z (.lst [])=G at zn za yr zl p⊢;have zB:e9 (λa=>a≠k) G lv rest:=iQ xf λb xs C d=>⟨C,p _ _ (I _ _ d)⟩;refine ae rfl ⟨.inl ⟨rfl,_,aq.of zl⟩,_,rfl,fq za jg ⟨k,_,_,rfl,rfl,zl,by have:=R.lim;rw[aG,aQ];omega,?_⟩⟩
       have xC:yd≠k:=aN (ax yl zm);have yc:(upd G k (.lst (q.map V.str++[.str n]))) yd=bm ((n::xF).map V.str):=by rw[ag xC];exact za
       have xm:(upd G k (.lst (q.map V.str++[.str n]))) L=bm lv:=by rw[ag R.ne];exact yr
       have xi:(upd G k (.lst (q.map V.str++[.str n]))) k=bm ((q++[n]).map V.str):=by rw[af,bo];rfl
       have yv:aE H (upd G k (.lst (q.map V.str++[.str n]))):=λb o d=>by rw[ag (ax d zq)];exact zn b o d
       have xo:e9 (λa=>a≠k) (upd G k (.lst (q.map V.str++[.str n]))) lv rest:=iQ zB λb xs C d=>⟨C,by rw[ag C];exact d⟩
       generalize upd G k (.lst (q.map V.str++[.str n]))=yF at yc xm xi yv xo⊢;refine ae rfl ⟨L,rfl,⟨_,aq.of xm⟩,λyh yo=>?_⟩;have yC:yh≠k:=aN (ax xi yo);refine eK (xs:=lv) (λi ys g zc=>∃v:a2 V,g=[v,bd yd]/\zc yh=bm ys/\aE yF zc/\e9 (λa=>a≠k/\a≠yh) zc ys (L2.without n (rest.take i))) ⟨none,rfl,af,aH yo,.nil⟩ (λi ys g zc ab=>by obtain⟨_,_,S,T,_⟩:=ab;exact ⟨S,aq.of (T _ _ xm)⟩) ?_ ?_
       ·rintro i x ys g zc D ⟨v,rfl,zk,M,zf⟩
        obtain⟨a,r,rfl,J,_,W⟩:=kf xo D;have N:i<lv.length:=(bA.mp D).1;have tk:rest.take (i+1)=rest.take i++[r]:=by rw[dd,J];rfl
        have ze:=cY J;have ym:=M _ _ W;have zr:=M _ _ yc;refine ae rfl ⟨a,rfl,⟨_,aq.of ym⟩,λzh xg=>?_⟩;have zC:a≠zh:=ax ym xg;have xD:yd≠zh:=ax zr xg;have zv:zh≠yh:=aN (ax zk xg);have yD:zh≠k:=aN (ax (M _ _ xi) xg);refine eK (xs:=r.map V.str) (λj zs yj xl=>∃xc:a2 V,yj=[xc,bd yd]/\zs=((r.take j).filter λy=>!decide (y=n)).map V.str/\xl=upd zc zh (.lst zs)) ⟨none,rfl,rfl,rfl⟩ (λj zs yj xl ⟨_,_,_,z⟩=>by rw[z];exact⟨af,aq.of (by rw[ag zC];exact ym)⟩) ?_ ?_
        ·rintro j x zs yj xl xw ⟨xc,rfl,rfl,rfl⟩
         have yf:j<(r.map V.str).length:=(bA.mp xw).1;have yw:j<r.length:=by simpa using yf
         obtain rfl:V.str r[j]=x:=by simpa [yw] using xw
         have xj:r.take (j+1)=r.take j++[r[j]]:=by rw[dd,bB yw];rfl
         refine aV rfl rfl (fq (by rw[ag xD];exact zr) jg ⟨rfl,_,rfl,?_⟩)
         refine cm (λzj=>?_) (λzj=>?_)
         ·have zy:r[j]≠n:=λz=>by rw[z]at zj;simp at zj
          refine ae rfl ⟨af,?_,cw_next yf (ae rfl ⟨?_,by rw[eN]⟩)⟩
          ·have h1:=hQ (λy=>!decide (y=n)) (r.take j)
           have U:(r.take j).length<=r.length:=by rw[b9];omega
           have xb:=R.sm.short r ze;rw[aG,aQ];omega
          ·rw[xj,gQ,bo,nD (by simpa using zy)];rfl
         ·have zF:r[j]=n:=by
           by_cases z:r[j]=n
           ·exact z
           ·exact absurd (by simp[z]) zj
          refine cw_next yf (ae rfl ⟨?_,rfl⟩);rw[xj];simp[zF]
        ·rintro zs yj xl ⟨xc,rfl,rfl,rfl⟩
         rw[aG,cj];have xq:=aH (o:=.lst ((r.filter λy=>!decide (y=n)).map V.str)) xg;refine⟨xq _ _ zk,?_,cw_next N ⟨_,rfl,af,λb o d=>?_,?_⟩⟩
         ·have h1:=jm zf
          have U:(L2.without n (rest.take i)).length<=rest.length:=by unfold L2.without;rw[aG,b9];omega
          have xb:=R.sm.a7;rw[aQ];omega
         ·rw[ag (ax d yo)];exact xq _ _ (M b o d)
         ·have xG:L2.without n (rest.take (i+1))=L2.without n (rest.take i)++[r.filter λy=>!decide (y=n)]:=by rw[tk];unfold L2.without;rw[bo];rfl
          rw[xG];refine qD (iQ zf λb xs C d=>⟨C,by rw[ag C.2];exact xq _ _ d⟩) ⟨yD,zv⟩ ?_
          rw[ag zv];exact af
       ·rintro ys g zc ⟨v,rfl,zk,M,zf⟩
        rw[jm xo,cj]at zf;refine⟨_,by rw[R.mm];exact lt,L2.without n rest,ys,q++[n],yh,⟨_,rfl⟩,rfl,zk,iQ zf λb xs C d=>⟨C.1,d⟩,yC,M _ _ xi,uD R.sm,u1 R.nd,yv.trans M,?_,?_⟩
        ·have:=R.lim;rw[cQ,j0];omega
        ·rw[R.eq,qN yk e,UL]
         congr 1
         funext z
         simp
    ·refine ae rfl (xE q ?_ k ya zq zt yl)
     rw[R.eq,qL (by simpa using yk)]
     show ih (q++[])=ih q;rw[f7]
structure fQ(mg:CY->Option i'):Prop where
 g8:mg "isinstance" = none
 str:mg "str" = none
 dict:mg "dict" = none
 sorted:mg "sorted" = none
theorem gS:PX "isinstance" = ih (.builtin "isinstance"):=by decide +kernel
theorem boot_str:PX "str" = ih (.type "str"):=by decide +kernel
theorem boot_dict:PX "dict" = ih (.type "dict"):=by decide +kernel
theorem boot_sorted:PX "sorted" = ih (.builtin "sorted"):=by decide +kernel
theorem boot_all:PX "all" = ih (.builtin "all"):=by decide +kernel
theorem D6(K:S7)(h:X.K=K)(a:X.calm=true):cT X (.builtin "all") (λxs H Q=>∃(p:OT) (bs:am Bool),xs=[.ref p]/\aq K H p (bs.map V.bl)/\Q (.bl (bs.all id)) H):=by subst h;exact qW a
theorem ite_ff{A:Prop}{k:Bool}(a:k=false)(h:B):if k=true then A else B:=by subst a;exact h
theorem ite_tt{A:Prop}{k:Bool}(a:k=true)(h:A):if k=true then A else B:=by subst a;exact h
inductive i1(vs:List V)(H:Hp)(Q:VK)(E:XK):Prop
 |mk{x:CY}(_:vs=[.str x])(_:Nm x)(_:∀Y,aE H Y->Q (.bl true) Y):i1 vs H Q E
theorem IL:a' ["thing"] ["thing"] (aI l5):=bt
abbrev K3:Si:=ff (kT (cx (bH l5) 1))
theorem AS:bW ["thing"] (aI l5) ["sign"] [none] (cG K3):=c'
theorem HC(F:aP K "is_name" "is_name" l5 f fd)(B:dc mg)(g:fQ mg):aO P w K mg base ay 1 f fd ["thing"] i1:=by
 refine F.bx IL λQa A r s H vs Q E D h=>?_
 ·obtain @⟨x,rfl,a,q⟩:=h
  intro X;refine⟨_,aw (bF (PW.pt (pw_or (e8 (eW (b4 hW rfl g.g8 gS (aa (pv 0) (aa (gT (v:=.ty "str") rfl g.str boot_str rfl) ah)))))
     (pw_or1 (e8 (FD AG AG ar (b4 DI rfl B.len hS (aa (pv 0) ah)) ar))))) (aA (aX gV)) bX)
   (aA (aX (b4 (qW rfl) rfl B.all boot_all (aa (dg rfl AS (IC (pv 0)) (λs H fp=>⟨ba 0 AS.nd,d5,FC vp vp b6 (pv 0) b6⟩)) ah)))),?_⟩
  have t:=a.lo;have u:=a.hi;have y:x.cps.size<=8:=a.hi;refine ae rfl ⟨⟨_,.inr ⟨"str",rfl⟩⟩,.str x,.ty "str",.type "str",.type "str",true,rfl,rfl,.inl (.str x),rfl,true,rfl,?_⟩;refine ae rfl ⟨x,rfl,by rw[aQ];omega,1,x.length,rfl,rfl,_,rfl,?_⟩
  refine ite_tt (cE (by omega)) ?_
  refine⟨x.length,8,rfl,rfl,_,rfl,?_⟩;have l:decide ((x.length:Int)<=8)=true:=cE (by omega)
  rw[l];refine ae rfl ⟨x,rfl,λp m=>?_⟩;refine FX (λi ys b O=>∃d:a2 V,b=[d]/\ys=(TL i true).map V.bl/\O=upd H p (.lst ys)) ⟨none,rfl,rfl,rfl⟩ (λi ys b O ⟨_,_,_,z⟩=>by rw[z];exact af) ?_ ?_
  ·rintro i c ys b O j ⟨d,rfl,rfl,rfl⟩
   have k:i<x.cps.size:=by
    obtain⟨h,_⟩:=CJ.mp j;exact h
   have C:=a.az c (U4.mp (Pg j));have n:(!decide ((⟨#[c]⟩:CY).cps.toList<(SE "a").cps.toList))=true:=by
    have : ¬ ([c] < [97]):=by simp[PR];omega
    have e:(SE "a").cps.toList=[97]:=by decide +kernel
    rw[e];simpa using this
   have o:(!decide ((SE "z").cps.toList<(⟨#[c]⟩:CY).cps.toList))=true:=by
    have : ¬ ([122] < [c]):=by simp[PR];omega
    have e:(SE "z").cps.toList=[122]:=by decide +kernel
    rw[e];simpa using this
   refine ae rfl ⟨_,_,rfl,rfl,_,rfl,ite_tt n ⟨_,_,rfl,rfl,af,by rw[aG,Cs,aQ];omega,cw_next k (ae rfl ⟨?_,?_⟩)⟩⟩
   ·rw[o,PU,bo];rfl
   ·rw[eN]
  ·rintro ys b O ⟨d,rfl,rfl,rfl⟩
   refine⟨p,_,rfl,aq.of af,?_⟩;have:(TL x.cps.size true).all id=true:=by simp
   rw[this];exact q _ (aH m)
theorem Fi{g:CY->V}(e:H a=bi (ps.map V.str))(f:H d=bn kvs)(r:∀x∈ps,a5 kvs (Ct x)=ih (g x))(h:H p=none)(t:ps.length<=100)
  (q:Q (.ref p) (upd H p (.lst (ps.map g)))):gg (iy K a) (gW 0) mz (sj (ie 1) (ie 0)) [none,bd d] Q p H:=by
 have i:a≠p:=ax e h;have l:d≠p:=ax f h;refine lS (xs:=ps.map V.str) (λj zs b H2=>∃c:a2 V,b=[c,bd d]/\zs=(ps.take j).map g/\H2=upd H p (.lst zs)) ⟨none,rfl,rfl,rfl⟩ (λj zs b H2 ⟨_,_,_,z⟩=>by rw[z];exact⟨af,aU.of (by rw[ag i];exact e)⟩) ?_ ?_
 ·rintro j x zs b H2 s ⟨c,rfl,rfl,rfl⟩
  obtain⟨m,n,rfl,o⟩:=r5 s;refine aV rfl rfl ⟨d,g ps[j],rfl,?_,af,?_,cw_next m (ae rfl ⟨?_,by rw[eN]⟩)⟩
  ·rw[<-r _ (fw n)];exact cf.k (k:=Ct ps[j]) (by rw[ag l];exact f)
  ·rw[aG,b9,aQ];omega
  ·rw[o,bo];rfl
 ·rintro zs b H2 ⟨c,rfl,rfl,rfl⟩
  rw[aG,cj];exact q
theorem Fj{g:CY->V}(e:H a=bm (ps.map V.str))(f:H d=bn kvs)(r:∀x∈ps,a5 kvs (Ct x)=ih (g x))(h:H p=none)(t:ps.length<=100)
  (q:Q (.ref p) (upd H p (.lst (ps.map g)))):gg (jc K a) (gW 0) mz (sj (ie 1) (ie 0)) [none,bd d] Q p H:=by
 have i:a≠p:=ax e h;have l:d≠p:=ax f h;refine eK (xs:=ps.map V.str) (λj zs b H2=>∃c:a2 V,b=[c,bd d]/\zs=(ps.take j).map g/\H2=upd H p (.lst zs)) ⟨none,rfl,rfl,rfl⟩ (λj zs b H2 ⟨_,_,_,z⟩=>by rw[z];exact⟨af,aq.of (by rw[ag i];exact e)⟩) ?_ ?_
 ·rintro j x zs b H2 s ⟨c,rfl,rfl,rfl⟩
  obtain⟨m,n,rfl,o⟩:=r5 s;refine aV rfl rfl ⟨d,g ps[j],rfl,?_,af,?_,cw_next m (ae rfl ⟨?_,by rw[eN]⟩)⟩
  ·rw[<-r _ (fw n)];exact cf.k (k:=Ct ps[j]) (by rw[ag l];exact f)
  ·rw[aG,b9,aQ];omega
  ·rw[o,bo];rfl
 ·rintro zs b H2 ⟨c,rfl,rfl,rfl⟩
  rw[aG,cj];exact q
def rowsOf(L:CY->List CY)(ps:List CY):List (List CY):=ps.map L++[ps]
def fZ(H:Hp)(kvs:List (Key×V))(L:CY->List CY)(x:CY):Prop:= ∃a,a5 kvs (Ct x)=ih (.ref a)/\H a=ih (.tup ((L x).map V.str))
theorem fZ.same(h:fZ H kvs L x)(s:aE H Y):fZ Y kvs L x:=let ⟨a,e,q⟩:=h;⟨a,e,s _ _ q⟩
theorem HD(h:∀x∈ps,fZ H kvs L x):∃g:CY->V,(∀x∈ps,a5 kvs (Ct x)=ih (g x))/\c6 H (ps.map g) (ps.map L):=by
 refine⟨λx=>(a5 kvs (Ct x)).getD .aM,λx b=>?_,?_⟩
 ·obtain⟨a,e,_⟩:=h x b;show _=ih ((a5 kvs (Ct x)).getD V.aM);rw[e];rfl
 ·induction ps with
  |nil=>exact .nil
  |cons x ps c =>
   obtain⟨a,e,q⟩:=h x aS;exact .cons ⟨a,by show(a5 kvs (Ct x)).getD V.aM=_;rw[e];rfl,q⟩ (c λy d=>h y (a8 _ d))
inductive oZ(vs:List V)(H:Hp)(Q:VK)(E:XK):Prop
 |mk{d pa:OT}{kvs:List (Key×V)}{L:CY->List CY}{k:CY}{ps o:List CY}(_:vs=[.ref d,.str k,.ref pa])(_:H d=ih (.dK kvs))(_:H pa=ih (.tup (ps.map V.str)))(_:(∀x∈ps,fZ H kvs L x))(_:Small (rowsOf L ps))(_:bZ (total (rowsOf L ps)) (rowsOf L ps)=ih o)(_:o.length<=100)(_:∀p Y,aE H Y->Y p=ih (.tup ((k::o).map V.str))->Q (.ref p) Y):oZ vs H Q E
noncomputable abbrev B8:List CY:=["lines","kind","parents","rows","refusal"]
theorem Bw:a' B8 ["lines","kind","parents"] (aI lN):=bt
def Bx(e:Si):Si:=match e with|.BinOp a _ _ _=>a|_=>.Constant .none 0 ⟨0,0,0,0⟩
abbrev L1:Si:=Bx (ff (fe (cx (bH lN) 0)))
theorem By:bW B8 (aI lN) ["parent","lines"] [none,ih 0] (cG L1):=c'
theorem Jy{v:Ss}(F:aP K "line_from" "line_from" lN f fd)(B:dc mg)(z:bQ P w K mg base ay 3 fM v ["rows"] n8 "merged") :
  aO P w K mg base ay 4 f fd ["lines","kind","parents"] oZ:=by
 refine F.bx Bw λQa A xb s H vs Q E a h=>?_
 ·obtain @⟨d,b,kvs,L,k,ps,o,rfl,C,e,D,n,G,yb,q⟩:=h
  have I:=a.units;have x:=d9 I;intro X;refine⟨_,aw (a9 3 Bw.nd (dy j5 rfl B.tuple boot_tuple (aa (bJ mf (dg rfl By (kD (pv 2)) (λs H fp=>⟨ba 0 By.nd,d5,eV x (pv 1) (pv 0) (λ_ _=>rfl)⟩)) (er (aa (pv 2) ah))) ah)))
   (aA (vY (aA (aX (bJ rD (c4 (aa (pv 1) ah)) (bz z a (aa (pv 3) ah))))) rfl)),?_⟩
  obtain⟨g,J,M⟩:=HD D;have zb:ps.length<=20:=n.short ps (ee _ aS);refine ae rfl ⟨b,rfl,⟨_,aU.of e⟩,λc t=>Fi e C J t (by omega) ?_⟩
  have N:=aH (o:=.lst (ps.map g)) t;refine ae rfl ⟨ey,λO j=>?_⟩;have R:=N.trans (aH (o:=.lst [V.ref b]) j);refine⟨c,O,_,_,rfl,rfl,by rw[ag (ax af j)];exact af,af,by rw[aG,aQ];show _+1<=_;omega,λS y=>?_⟩
  have T:=R.trans (aH (o:=.lst (ps.map g++[V.ref b])) y);refine⟨S,_,rfl,.inl ⟨aq.of af,λr a=>?_⟩⟩;have U:=T.trans (aH (o:=.tup (ps.map g++[V.ref b])) a);refine ae rfl ⟨ey,λW l=>?_⟩;have i:=U.trans (aH (o:=.tup [V.str k]) l);refine ae rfl (n8.mk rfl (rows:=rowsOf L ps) (by rw[ag (ax af l)];exact af) (c6.append (M.same i) (i _ _ e)) n G λm yc xc u Y=>?_)
  refine⟨W,m,_,_,rfl,rfl,u _ _ af,Y,by rw[aG,aQ];show 1+_<=_;omega,λp xa ya za=>?_⟩
  exact q p xa (i.trans (u.trans ya)) za
def cy(H:Hp)(vs:List V)(Qb:List (CY×List CY)):Prop:=Sl (λy p=>∃a b,y=V.ref a/\H a=ih (.tup [.str p.1,.ref b])/\H b=ih (.tup (p.2.map V.str))) vs Qb
theorem cy.keep(h:cy H vs Qb)(s:∀b xs,H b=bi xs->Y b=bi xs):cy Y vs Qb:=Paired.imp' (λ_ _ c=>by obtain⟨a,b,e,q,r⟩:=c;exact ⟨a,b,e,s _ _ q,s _ _ r⟩) h
theorem cy.same(h:cy H vs Qb)(s:aE H Y):cy Y vs Qb:=h.keep λ_ _ e=>s _ _ e
theorem cy.length(h:cy H vs Qb):vs.length=Qb.length:=c5 h
theorem cy.append{p:CY×List CY}(h:cy H vs Qb)(q:H a=bi [.str p.1,.ref b])(r:H b=bi (p.2.map V.str)):cy H (vs++[.ref a]) (Qb++[p]):=hJ h ⟨a,b,rfl,q,r⟩
structure i2(Qb:List (CY×List CY))(L:CY->List CY):Prop where
 nd:(Qb.map (·.1)).Nodup
 a7:Qb.length<=8
 nm:∀p∈Qb,Nm p.1
 up:∀p∈Qb,∀x∈p.2,∃q∈Qb,q.1=x
 rank:∃r:CY->Nat,∀p∈Qb,∀x∈p.2,r x<r p.1
 line:∀p∈Qb,Small (rowsOf L p.2) /\∃o,bZ (total (rowsOf L p.2)) (rowsOf L p.2)=ih o/\L p.1=p.1::o/\o.length<=100
theorem i2.perm{b:am (CY×List CY)}(h:i2 Qb L)(p:b.Perm Qb):i2 b L:=by
 have m:∀{q},q∈b ↔ q∈Qb:=λ{q}=>p.mem_iff;obtain⟨r,c⟩:=h.rank;exact⟨(p.map _).nodup_iff.mpr h.nd,by rw[p.length_eq];exact h.a7,λq a=>h.nm q (m.mp a),λq a x d=>let ⟨z,f,e⟩:=h.up q (m.mp a) x d;⟨z,m.mpr f,e⟩,⟨r,λq a=>c q (m.mp a)⟩,λq a=>h.line q (m.mp a)⟩
def isDone(kvs:List (Key×V))(x:CY):Bool:=(a5 kvs (Ct x)).isSome
theorem Gq{rest:am (CY×List CY)}(ok:i2 Qb L)(sub:∀p∈rest,p∈Qb)(all:∀p∈Qb,dn p.1=true\/p∈rest)(ne:rest ≠ []):∃p∈rest,∀x∈p.2,dn x=true:=by
 obtain⟨r,f⟩:=ok.rank;have c:∀n,∀p∈rest,r p.1=n ->∃q∈rest,∀x∈q.2,dn x=true:=by
  intro n
  induction n using U1 with
  |_ n g =>
   intro p a e
   by_cases h:∀x∈p.2,dn x=true
   ·exact⟨p,a,h⟩
   ·simp only[W3]at h
    obtain⟨x,b,d⟩:=h;obtain⟨q,i,rfl⟩:=ok.up p (sub p a) x b;have lt:=f p (sub p a) q.1 b;rcases all q i with z|z
    ·exact absurd z d
    ·exact g _ (by omega) q z rfl
 cases rest with
 |nil=>exact absurd rfl ne
 |cons p t=>exact c _ p aS rfl
def eP(dn:CY->Bool)(rest:List (CY×List CY)):List (CY×List CY):=rest.filter λp=>(p.2.map dn).all id
theorem vE{rest:am (CY×List CY)}{p:CY×List CY}:p∈eP dn rest ↔ p∈rest /\∀x∈p.2,dn x=true:=by
 unfold eP;rw[f6,List.all_map,nj];rfl
theorem u2{α:Type}(f:α->Bool):∀l:am α,(l.filter f).length+(l.filter λx=>!f x).length=l.length
 |[]=>rfl
 |x::l=>by
  have a:=u2 f l;cases h:f x <;> simp[nE,h] <;> omega
theorem Fl{p6:CY->Bool}{rest:am (CY×List CY)}(h:∀p∈eP dn rest,p6 p.1=true):(rest.filter λp=>!p6 p.1).length+(eP dn rest).length<=rest.length:=by
 have e:rest.length=(rest.filter λp=>(p.2.map dn).all id).length+(rest.filter λp=>!(p.2.map dn).all id).length:=by
  exact(u2 (λp:CY×List CY=>(p.2.map dn).all id) rest).symm
 have b:(rest.filter λp=>!p6 p.1).length<=(rest.filter λp=>!(p.2.map dn).all id).length:=by
  rw[<-PV,<-PV];refine List.countP_mono_left λp a h1=>?_;cases z:(p.2.map dn).all id with
  |false=>rfl
  |true =>
   have:=h p (f6.mpr ⟨a,z⟩);rw[this]at h1;cases h1
 unfold eP;omega
theorem Gr(e:H a=bi (ps.map V.str))(f:H d=bn kvs)(g:H p=none)(r:ps.length<=100)
  (q:Q (.ref p) (upd H p (.lst ((ps.map (isDone kvs)).map V.bl)))):gg (iy K a) (gW 0) mz (Bp (ie 0) (ie 1)) [none,bd d] Q p H:=by
 have h:a≠p:=ax e g;have i:d≠p:=ax f g;refine lS (xs:=ps.map V.str) (λj zs b H2=>∃c:a2 V,b=[c,bd d]/\zs=((ps.take j).map (isDone kvs)).map V.bl/\H2=upd H p (.lst zs)) ⟨none,rfl,rfl,rfl⟩ (λj zs b H2 ⟨_,_,_,z⟩=>by rw[z];exact⟨af,aU.of (by rw[ag h];exact e)⟩) ?_ ?_
 ·rintro j x zs b H2 n ⟨c,rfl,rfl,rfl⟩
  obtain⟨l,o,rfl,m⟩:=r5 n;refine aV rfl rfl ⟨d,_,rfl,cf.k (k:=Ct ps[j]) (by rw[ag i];exact f),af,?_,cw_next l (ae rfl ⟨?_,by rw[eN]⟩)⟩
  ·rw[aG,aG,b9,aQ];omega
  ·rw[m,bo,bo];rfl
 ·rintro zs b H2 ⟨c,rfl,rfl,rfl⟩
  rw[aG,cj];exact q
def jD(Qb:List (CY×List CY))(kvs:List (Key×V)):Prop:=(kvs.map (·.1)).Nodup /\∀k∈kvs.map (·.1),∃p∈Qb,k=Ct p.1
theorem vF(kvs:am (Key×V))(k:Key)(v:V):(k∈kvs.map (·.1)/\(putK kvs k v).map (·.1)=kvs.map (·.1))\/(k ∉ kvs.map (·.1)/\(putK kvs k v).map (·.1)=kvs.map (·.1)++[k]):=by
 have e:(kvs.any λa=>decide (a.1=k))=true ↔ k∈kvs.map (·.1):=by
  rw[lu,aW];exact⟨λ⟨x,h,d⟩=>⟨x,h,eG d⟩,λ⟨x,h,d⟩=>⟨x,h,cE d⟩⟩
 unfold putK
 by_cases h:k∈kvs.map (·.1)
 ·refine .inl ⟨h,?_⟩
  rw[aB (e.mpr h),gP];refine C8 λa _=>?_;show(if a.1=k then (a.1,v) else a).1=a.1;split <;> rfl
 ·refine .inr ⟨h,?_⟩
  rw[au λz=>h (e.mp z),bo];rfl
theorem Gs{k j:Key}:j∈(putK kvs k v).map (·.1) ↔ j=k\/j∈kvs.map (·.1):=by
 rcases vF kvs k v with⟨h,e⟩|⟨h,e⟩
 ·rw[e];exact⟨.inr,λz=>z.elim (λe=>e ▸ h) id⟩
 ·rw[e,cq,b3];exact Or.comm
theorem HE{k:Key}(h:(kvs.map (·.1)).Nodup):((putK kvs k v).map (·.1)).Nodup:=by
 rcases vF kvs k v with⟨_,e⟩|⟨c,e⟩
 ·rw[e];exact h
 ·rw[e,eg]
  exact⟨h,by simp,λa d b f e=>c (by rw[<-(b3.mp f),<-e];exact d)⟩
theorem jD.put{p:CY×List CY}(h:jD Qb kvs)(a:p∈Qb):jD Qb (putK kvs (Ct p.1) v):=by
 refine⟨HE h.1,λk b=>?_⟩;rcases Gs.mp b with z|z
 ·exact⟨p,a,z⟩
 ·exact h.2 k z
theorem wy:∀{kvs:am (Key×V)}{x:CY},isDone kvs x=true->Ct x∈kvs.map (·.1)
 |[],x,h=>by cases h
 |(a,b)::kvs,x,h=>by
  by_cases e:a=Ct x
  ·rw[e];exact aS
  ·unfold isDone at h;rw[dV e]at h
   exact a8 _ (wy h)
theorem EA{α:Type}{a b:am α}(c:a.Nodup)(d:b.Nodup)(h:∀x,x∈a ↔ x∈b):a.Perm b:=(List.perm_ext_iff_of_nodup c d).mpr h
theorem IM{l:am CY}(h:l.Nodup):(l.map (Ct:CY->Key)).Nodup:=by
 induction l with
 |nil=>exact fz
 |cons x l a =>
  rw[dQ]at h;rw[b5,dQ];refine⟨λz=>?_,a h.2⟩;obtain⟨y,b,e⟩:=aW.mp z;exact h.1 (f5 e ▸ b)
theorem jD.perm(h:jD Qb kvs)(ok:i2 Qb L)(all:∀p∈Qb,isDone kvs p.1=true):(kvs.map (·.1)).Perm ((Qb.map (·.1)).map Ct):=by
 refine EA h.1 (IM ok.nd) λx=>⟨λa=>?_,λa=>?_⟩
 ·obtain⟨p,b,rfl⟩:=h.2 x a
  exact aW.mpr ⟨p.1,aW.mpr ⟨p,b,rfl⟩,rfl⟩
 ·obtain⟨y,c,rfl⟩:=aW.mp a
  obtain⟨p,b,rfl⟩:=aW.mp c;exact wy (all p b)
structure Bz(H:Hp)(Qb:List (CY×List CY))(L:CY->List CY)(t d:OT)(m:Nat)(σ:St)(O:Hp)(kvs:List (Key×V))(rest:List (CY×List CY))(wv:List V)(wa:OT):Prop where
 st:∃v3 v4 v5:Option V,σ=[ih (.ref t),ih (.ref d),ih (.ref wa),v3,v4,v5]
 mm:m=rest.length
 hd:O d=ih (.dK kvs)
 hw:O wa=ih (.lst wv)
 fv:cy O wv rest
 sub:∀p∈rest,p∈Qb
 all:∀p∈Qb,isDone kvs p.1=true\/p∈rest
 ln:∀x,isDone kvs x=true->fZ O kvs L x
 same:aE H O
 lim:kvs.length+rest.length<=8
 ky:jD Qb kvs
inductive oo(vs:List V)(H:Hp)(Q:VK)(E:XK):Prop
 |mk{t:OT}{o:Tp}{ws:List V}{Qb:List (CY×List CY)}{L:CY->List CY}(_:vs=[.ref t])(_:H t=ih (.bw o (.tup ws)))(_:cy H ws Qb)(_:i2 Qb L)(_:∀d kvs Y,H d=none->aE H Y->Y d=ih (.dK kvs)->(∀p∈Qb,fZ Y kvs L p.1)->(kvs.map (·.1)).Perm ((Qb.map (·.1)).map Ct)->Q (.ref d) Y):oo vs H Q E
noncomputable abbrev tO:List CY:=["family","lines","waiting","ready","kind","parents"]
theorem jI:a' tO ["family"] (aI kF):=bt
noncomputable abbrev BA:PQ:=cx (bH kF) 2
noncomputable abbrev s7:Si:=fe (cx (lO BA) 0)
noncomputable abbrev K4:Si:=ff (Av s7)
noncomputable abbrev K5:Si:=fe (cx (lO BA) 3)
theorem AU:bW tO (aI kF) ["pair","lines"] [none,ih 1] (cG s7):=c'
theorem Jz:bW ["pair","lines"] (relabel (cG s7) env) ["parent","lines"] [none,ih 1] (cG K4):=nest rfl (by decide +kernel) (by decide +kernel) rfl (by decide +kernel) (by decide +kernel)
theorem JA:(["parent","lines"]:am CY).Nodup:=by decide +kernel
theorem AV:bW tO (aI kF) ["pair","lines"] [none,ih 1] (cG K5):=c'
theorem Gu{fF:OT}{yr:Ss}(F:aP K "lines_of" "lines_of" kF f fd)(B:dc mg)(yy:bQ P w K mg base ay 4 fF yr ["lines","kind","parents"] oZ "line_from") :
  aO P w K mg base ay 5 f fd ["family"] oo:=by
 refine F.bx jI λQa A xB s H vs Q E xn h=>?_
 ·obtain @⟨t,o,ws,Qb,L,rfl,zy,xq,ok,q⟩:=h
  have xz:=xn.units;have xh:=d9 xz;intro X;refine⟨_,aw (gb (i:=1) jI.nd rfl (S5 rfl) nZ)
   (aw (a9 2 jI.nd (dy iP rfl B.list boot_list (aa (pv 0) ah)))
   (aw (lQ eh (iT (pv 2) (λ_=>rfl))
    (aw (nQ rfl AU jI.nd (i:=3) rfl rfl (c9 (pv 2)) (λs H fp=>⟨ba 0 AU.nd,
      iU (eW (b4 (D6 K rfl rfl) rfl B.all boot_all (aa (dg rfl Jz (vU K rfl (aT (kg K rfl) (pv 0) ar)) (λs H fp=>⟨ba 0 JA,d5,Ie (jA xh (pv 0) (pv 1))⟩)) ah))),
      pv 0⟩))
    (aw (bF (e8 (iT (pv 3) (λ_=>rfl))) (aA (aX (pv 1))) bX)
    (aw (eX eh rfl (c9 (pv 3)) (gU rfl (cS (ba 4 jI.nd) (cS (ba 5 jI.nd) f')))
     (aA (gx xh (pv 1) (pv 4) (bz yy xn (aa (pv 1) (aa (pv 4) (aa (pv 5) ah)))) rfl)))
    (aA (nQ rfl AV jI.nd (i:=2) rfl rfl (c9 (pv 2)) (λs H fp=>⟨ba 0 AV.nd,
      iU (h5 (vm xh (aT (kg K rfl) (pv 0) ar) (pv 1))),pv 0⟩)))))))
   (aA (aX (pv 1))))),?_⟩
  intro d zj;have yn:=aH (o:=.dK []) zj;refine ae rfl ⟨t,ws,rfl,.inr (.inl (.inr ⟨o,yn _ _ zy⟩)),λG xl=>?_⟩;have zn:=yn.trans (aH (o:=.lst ws) xl);have zr:d≠G:=ax af xl;refine⟨λm σ O=>∃kvs rest v G,Bz H Qb L t d m σ O kvs rest v G,⟨_,[],Qb,ws,G,⟨none,none,none,rfl⟩,rfl,by rw[ag zr];exact af,af,xq.same zn,λ_ h=>h,λ_ h=>.inr h,λx h=>(by cases h),zn,by have:=ok.a7;rw[iM];omega,⟨fz,λ_ h=>(by cases h)⟩⟩,?_⟩
  rintro m σ O ⟨kvs,rest,v,G,R⟩;obtain⟨xC,xd,yd,rfl⟩:=R.st;have yc:=R.fv.length;refine ae rfl ⟨_,.inl ⟨_,aq.of R.hw,rfl⟩,?_⟩;refine cm (λzd=>?_) (λzd=>?_)
  ·refine⟨λxt Y=>∃xo,xo<m /\∃kvs rest v G,Bz H Qb L t d xo xt Y kvs rest v G,λ_ _ z=>z,?_⟩
   refine ae rfl ⟨G,rfl,⟨_,aq.of R.hw⟩,λyg yh=>?_⟩;have yt:∀{b:OT}{u:HO},H b=ih u->b≠d:=λe=>ax e zj;have zt:d≠yg:=ax R.hd yh;refine eK (xs:=v) (λi ys J N=>∃ya:a2 V,J=[ya,bd d]/\N yg=bm ys/\aE O N/\cy N ys (eP (isDone kvs) (rest.take i))) ⟨none,rfl,af,aH yh,.nil⟩ (λi ys J N ab=>by obtain⟨_,_,z1,z2,_⟩:=ab;exact ⟨z1,aq.of (z2 _ _ R.hw)⟩) ?_ ?_
   ·rintro i x ys J N g ⟨ya,rfl,C,D,S⟩
    have yb:i<v.length:=(bA.mp g).1;obtain⟨p,n,a,b,rfl,zb,j⟩:=kz R.fv g;have tk:rest.take (i+1)=rest.take i++[p]:=by rw[dd,n];rfl
    have xe:=R.sub p (cY n);have yB:p.2.length<=20:=(ok.line p xe).1.short p.2 (ee _ aS);have zh:=D _ _ zb;have ye:=D _ _ j;refine ae rfl (bc zh (show cn [V.str p.1,V.ref b] ((1:Nat):Int)=ih (.ref b) from cF rfl) ?_);refine⟨b,rfl,⟨_,aU.of ye⟩,λc yo=>Gr ye (D _ _ R.hd) yo (by omega) ?_⟩
    have T:=aH (o:=.lst ((p.2.map (isDone kvs)).map V.bl)) yo;refine⟨c,_,rfl,aq.of af,_,rfl,?_⟩;refine cm (λxi=>?_) (λxi=>?_)
    ·refine ae rfl ⟨T _ _ C,?_,cw_next yb ⟨_,rfl,af,λb o j=>by rw[ag (ax j yh)];exact T _ _ (D b o j),?_⟩⟩
     ·have h1:=S.length
      have U:(eP (isDone kvs) (rest.take i)).length<=(rest.take i).length:=hQ _ _;have C:=R.lim;rw[b9]at U;rw[aQ];omega
     ·have xk:eP (isDone kvs) (rest.take (i+1))=eP (isDone kvs) (rest.take i)++[p]:=by
       rw[tk];unfold eP;rw[gQ,nD (by exact xi)];rfl
      rw[xk];refine cy.append (S.keep λb xs j=>?_) ?_ ?_ (b:=b)
      ·rw[ag (aj j C)];exact T _ _ j
      ·rw[ag (aj zh C)];exact T _ _ zh
      ·rw[ag (aj ye C)];exact T _ _ ye
    ·refine cw_next yb (ae rfl ⟨T _ _ C,D.trans T,?_⟩)
     have xk:eP (isDone kvs) (rest.take (i+1))=eP (isDone kvs) (rest.take i):=by
      rw[tk];unfold eP;rw[gQ,qs (by exact xi)];simp
     rw[xk];exact S.same T
   ·rintro zg J N ⟨ya,rfl,C,D,S⟩
    rw[yc,cj]at S;have yi:=S.length;have zc:=D _ _ R.hd;have yl:=D _ _ R.hw;have xu:cy N v rest:=R.fv.same D;have yq:rest ≠ []:=λz=>by
     rw[z]at yc;have:v=[]:=lA yc;rw[this]at zd;cases zd
    obtain⟨yz,yu,zq⟩:=Gq ok R.sub R.all yq;have ze:yz∈eP (isDone kvs) rest:=vE.mpr ⟨yu,zq⟩;generalize xf:eP (isDone kvs) rest=xb at S yi ze;have xr:(!zg.isEmpty)=true:=by
     cases zg with
     |nil =>
      have:xb=[]:=lA yi.symm;rw[this]at ze;cases ze
     |cons _ _=>rfl
    refine ae rfl ⟨_,.inl ⟨_,aq.of C,rfl⟩,?_⟩;rw[xr];refine⟨_,rfl,yg,rfl,⟨_,aq.of C⟩,iS (xs:=zg) (λi σ M=>∃(l:am (Key×V)) (xd yd:a2 V),σ=[bd t,bd d,bd G,bd yg,xd,yd]/\M d=bn l/\l.length<=kvs.length+i /\
     (∀b u,b≠d->N b=ih u->M b=ih u)/\(∀x,isDone l x=true->fZ M l L x)/\(∀x,isDone kvs x=true->isDone l x=true)/\(∀p∈xb.take i,isDone l p.1=true)/\jD Qb l)
     ⟨kvs,xd,yd,rfl,zc,aK _,λ_ _ _ e=>e,λx g=>(R.ln x g).same D,λ_ h=>h,λp n=>(by cases n),R.ky⟩ (λi σ M _ ab=>by obtain⟨_,_,_,_,_,_,z,_⟩:=ab;exact aq.of (z _ _ (aN zt) C)) ?_ ?_⟩
    ·rintro i x σ M g ⟨l,xd,yd,rfl,W,zu,xa,yf,zf,xg,zi⟩
     have yb:i<zg.length:=(bA.mp g).1;obtain⟨p,n,a,b,rfl,zb,j⟩:=kz S g;have tk:xb.take (i+1)=xb.take i++[p]:=by rw[dd,n];rfl
     have xv:p∈eP (isDone kvs) rest:=by rw[xf];exact cY n
     obtain⟨xe,yv⟩:=vE.mp xv;obtain⟨zv,yC,xw,zz,yw⟩:=ok.line p (R.sub p xe);have zw:=xa _ _ (aj zb zc) zb
     have xx:=xa _ _ (aj j zc) j
     refine⟨a,_,rfl,aU.of zw,rfl,_,_,rfl,_,_,rfl,rfl,?_⟩;refine d8 rfl rfl rfl (oZ.mk rfl W xx (λx g=>yf x (zf x (yv x g))) zv xw yw λyk za r I=>?_);refine aV rfl rfl ⟨d,_,rfl,eQ.k (k:=Ct p.1) (r _ _ W) ?_,?_⟩
     ·have h1:=R.lim
      have U:xb.length<=rest.length:=by rw[<-xf];exact hQ _ _
      rw[aQ];omega
     ·have xA:yk≠d:=aj I (r _ _ W)
      refine⟨_,_,_,rfl,af,?_,λb u zo e=>?_,λx g=>?_,λx g=>?_,λy xp=>?_,zi.put (R.sub p xe)⟩
      ·have:=j9 l (Ct p.1) (V.ref yk);omega
      ·rw[ag zo];exact r _ _ (xa b u zo e)
      ·unfold fZ
       rw[hX]
       by_cases e:x=p.1
       ·subst e
        refine⟨yk,by rw[aB rfl],?_⟩
        rw[ag xA,zz];exact I
       ·have yp : ¬ ((Ct x:Key)=Ct p.1):=λz=>e (f5 z)
        have yx:isDone l x=true:=by unfold isDone at g⊢;rw[hX,au yp]at g;exact g
        obtain⟨yA,zA,zl⟩:=yf x yx;refine⟨yA,by rw[au yp];exact zA,?_⟩
        rw[ag (aj zl W)];exact r _ _ zl
      ·unfold isDone;rw[hX]
       split
       ·rfl
       ·exact zf x g
      ·unfold isDone;rw[hX]
       split
       ·rfl
       ·rename_i zk
        rw[tk]at xp;rcases cq.mp xp with z|z
        ·exact xg _ z
        ·have:y=p:=by simpa using z
         exact absurd (by rw[this]) zk
    ·rintro σ M ⟨l,xd,yd,rfl,W,zu,xa,yf,zf,xg,zi⟩
     rw[yi,cj]at xg;have zx:cy M v rest:=xu.keep λb xs e=>xa _ _ (aj e zc) e
     have xm:=xa _ _ (aj yl zc) yl
     have xy:aE H M:=λb u e=>xa b u (yt e) (D _ _ (R.same b u e));refine ae rfl ⟨G,rfl,⟨_,aq.of xm⟩,λzp ym=>?_⟩;refine eK (xs:=v) (λi ys J za=>∃ya:a2 V,J=[ya,bd d]/\za zp=bm ys/\aE M za/\cy za ys ((rest.take i).filter λp=>!isDone l p.1)) ⟨none,rfl,af,aH ym,.nil⟩ (λi ys J za ab=>by obtain⟨_,_,z1,z2,_⟩:=ab;exact ⟨z1,aq.of (z2 _ _ xm)⟩) ?_ ?_
     ·rintro i x ys J za g ⟨ya,rfl,I,r,xc⟩
      have yb:i<v.length:=(bA.mp g).1;obtain⟨p,n,a,b,rfl,zb,j⟩:=kz zx g;have tk:rest.take (i+1)=rest.take i++[p]:=by rw[dd,n];rfl
      have xj:=r _ _ zb;have zm:=r _ _ j;refine ae rfl (bc xj (show cn [V.str p.1,V.ref b] ((0:Nat):Int)=ih (.str p.1) from cF rfl) ?_);refine ae rfl ⟨d,_,rfl,cf.k (k:=Ct p.1) (r _ _ W),_,rfl,?_⟩;refine cm (λyj=>?_) (λyj=>?_)
      ·refine ae rfl ⟨I,?_,cw_next yb ⟨_,rfl,af,λb o j=>by rw[ag (ax j ym)];exact r b o j,?_⟩⟩
       ·have h1:=xc.length
        have U:=hQ (λp:CY×List CY=>!isDone l p.1) (rest.take i);have C:=R.lim;rw[b9]at U;rw[aQ];omega
       ·rw[tk,gQ,nD (by exact yj)]
        refine cy.append (xc.keep λb xs j=>?_) ?_ ?_ (b:=b)
        ·rw[ag (aj j I)];exact j
        ·rw[ag (aj xj I)];exact xj
        ·rw[ag (aj zm I)];exact zm
      ·refine cw_next yb (ae rfl ⟨I,r,?_⟩)
       rw[tk,gQ,qs (by exact yj),Dh,f7]
       exact xc
     ·rintro ys J za ⟨ya,rfl,I,r,xc⟩
      rw[yc,cj]at xc;have less:=Fl (dn:=isDone kvs) (p6:=isDone l) (rest:=rest) (by rw[xf];exact xg)
      rw[xf]at less;have zB:0<xb.length:=CM ze;refine⟨_,by rw[R.mm];omega,l,rest.filter λp=>!isDone l p.1,ys,zp,⟨_,_,_,rfl⟩,rfl,r _ _ W,I,xc,λp n=>R.sub p (f6.mp n).1,λp n=>?_,λx g=>(yf x g).same r,xy.trans r,?_,?_⟩
      ·cases e:isDone l p.1 with
       |true=>exact .inl rfl
       |false =>
        refine .inr ?_;rcases R.all p n with z|z
        ·rw[zf _ z]at e;cases e
        ·exact f6.mpr ⟨z,by rw[e];rfl⟩
      ·have h1:=R.lim
       omega
      ·exact zi
  ·have zk:rest=[]:=by
    cases v with
    |nil=>exact lA yc.symm
    |cons _ _=>exact absurd rfl zd
   have dn:∀p∈Qb,isDone kvs p.1=true:=λp n=>by
    rcases R.all p n with z|z
    ·exact z
    ·rw[zk]at z;cases z
   exact ae rfl (q d kvs O zj R.same R.hd (λp n=>R.ln p.1 (dn p n)) (R.ky.perm ok dn))
def dM(H:Hp)(kvs:List (Key×V))(L:CY->List CY)(x:CY):Prop:= ∃a,a5 kvs (Ct x)=ih (.ref a)/\H a=ih (.lst ((L x).map V.str))
theorem dM.same(h:dM H kvs L x)(s:aE H Y):dM Y kvs L x:=let ⟨a,e,q⟩:=h;⟨a,e,s _ _ q⟩
theorem HF(h:∀x∈ps,dM H kvs L x):∃g:CY->V,(∀x∈ps,a5 kvs (Ct x)=ih (g x))/\e9 (λ_=>True) H (ps.map g) (ps.map L):=by
 refine⟨λx=>(a5 kvs (Ct x)).getD .aM,λx b=>?_,?_⟩
 ·obtain⟨a,e,_⟩:=h x b;show _=ih ((a5 kvs (Ct x)).getD V.aM);rw[e];rfl
 ·induction ps with
  |nil=>exact .nil
  |cons x ps c =>
   obtain⟨a,e,q⟩:=h x aS;exact .cons ⟨a,by show(a5 kvs (Ct x)).getD V.aM=_;rw[e];rfl,trivial,q⟩ (c λy d=>h y (a8 _ d))
theorem vG:∀{m:Nat}{rows:am (List CY)}{o:am CY},bZ m rows=ih o->o.length<=m
 |0,rows,o,h=>by
  unfold bZ at h
  first
   |(cases h;exact aK _)
   |(split at h <;> first|(cases h;exact aK _)|cases h)
 |m+1,rows,o,h=>by
  unfold bZ at h;split at h
  ·cases e:ej rows with
   |none=>rw[e]at h;cases h
   |some n =>
    rw[e]at h;obtain⟨o',h',rfl⟩:=gO.mp h;have:=vG h';rw[cX];omega
  ·cases h;exact bp _
inductive mN(vs:List V)(H:Hp)(Q:VK)(E:XK):Prop
 |mk{d oa:OT}{kvs:List (Key×V)}{L:CY->List CY}{k:CY}{own:List CY}(_:vs=[.ref d,.str k,.ref oa])(_:H d=ih (.dK kvs))(_:H oa=ih (.lst (own.map V.str)))(_:(∀x∈own,dM H kvs L x))(_:Small (rowsOf L own))(_:(∀r∈rowsOf L own,r.Nodup))(_:(bZ (total (rowsOf L own)) (rowsOf L own)=none ->∀Y,aE H Y->Q .aM Y))(_:(∀o,bZ (total (rowsOf L own)) (rowsOf L own)=ih o ->∀p Y,H p=none->aE H Y->Y p=ih (.lst ((k::o).map V.str))->Q (.ref p) Y)):mN vs H Q E
noncomputable abbrev B9:List CY:=["_law_lines","_law_kind","_law_own","_law_found"]
theorem BB:a' B9 ["_law_lines","_law_kind","_law_own"] (aI mq):=bt
abbrev L3:Si:=Bx (ff (fe (cx (bH mq) 0)))
theorem BC:bW B9 (aI mq) ["_law_one","_law_lines"] [none,ih 0] (cG L3):=c'
theorem JB{l:Ss}(F:aP K "_law_line" "_law_line" mq f fd)(B:dc mg)(y:aP K "_law_merged" "_law_merged" gR fM l)(T:Binds K l ["_law_rows"] [])(U:mg "_law_merged" = ih (.ref fM)) :
  aO P w K mg base ay 2 f fd ["_law_lines","_law_kind","_law_own"] mN:=by
 have W:aO P w K mg base ay 1 fM l ["_law_rows"] oY:=Jx y B;refine F.bx BB λQa A xe s H vs Q E z h=>?_
 ·obtain @⟨d,C,kvs,L,k,own,rfl,Y,n,xa,i,R,ya,za⟩:=h
  have xb:=z.units;have S:=d9 xb;intro X;refine⟨_,aw (a9 3 BB.nd (e6 W z rfl U y.kp T .nil b' (aa (bJ mf (dg rfl BC (c9 (pv 2)) (λs H fp=>⟨ba 0 BC.nd,d5,eV S (pv 1) (pv 0) (λ_ _=>rfl)⟩)) (er (aa (dy iP rfl B.list boot_list (aa (pv 2) ah)) ah))) ah)))
   (aw (bF (bS h7 (pv 3) eo (bM _)) (aA (aX eo)) bX)
   (aA (aX (bJ mf (er (aa (pv 1) ah)) (pv 3))))),?_⟩
  obtain⟨g,yb,zb⟩:=HF xa;have ye:own.length<=20:=i.short own (ee _ aS);refine ae rfl ⟨C,rfl,⟨_,aq.of n⟩,λc D=>Fj n Y yb D (by omega) ?_⟩
  have G:=aH (o:=.lst (own.map g)) D;refine ae rfl ⟨C,_,rfl,.inl (aq.of (G _ _ n)),λb t=>?_⟩;have xc:=G.trans (aH (o:=.lst (own.map V.str)) t);refine⟨ey,λq m=>?_⟩;have yc:=xc.trans (aH (o:=.lst [V.ref b]) m);have I:upd (upd H c (.lst (own.map g))) b (.lst (own.map V.str)) c=bm (own.map g):=by rw[ag (ax af t)];exact af
  refine⟨c,q,_,_,rfl,rfl,by rw[ag (ax I m)];exact I,af,by rw[aG,aQ];show _+1<=_;omega,λzc u=>?_⟩
  have j:=yc.trans (aH (o:=.lst (own.map g++[V.ref b])) u);have xd:upd (upd (upd (upd H c (.lst (own.map g))) b (.lst (own.map V.str))) q (.lst [V.ref b])) zc (.lst (own.map g++[V.ref b])) b=bm (own.map V.str):=by
   have J:upd (upd (upd H c (.lst (own.map g))) b (.lst (own.map V.str))) q (.lst [V.ref b]) b=bm (own.map V.str):=by rw[ag (ax af m)];exact af
   rw[ag (ax J u)];exact J
  refine oY.mk rfl (rows:=rowsOf L own) af (qD (iQ zb λa xs _ e=>⟨trivial,j _ _ e⟩) trivial xd) i R (λe M r=>?_) (λo e p M xf r N=>?_)
  ·exact ae rfl ⟨rfl,_,rfl,ya e M (j.trans r)⟩
  ·refine ae rfl ⟨rfl,_,rfl,?_⟩
   refine ae rfl ⟨ey,λyd v=>?_⟩;have O:=r.trans (aH (o:=.lst [V.str k]) v);have yf:=(vG e);have zf:=nO i.short;have ze:=i.a7;refine ae rfl ⟨yd,p,_,_,rfl,rfl,af,by rw[ag (ax N v)];exact N,by rw[aG,aQ];show 1+_<=_;omega,λzd x=>?_⟩
   exact za o e zd _ (j.free (O.free x)) (j.trans (O.trans (aH x))) af
theorem u3{α:Type}:∀(l:am α) (k:Nat) (h:k<l.length),(l[k]::l.eraseIdx k).Perm l
 |[],k,h=>absurd h (ny _)
 |x::l,0,_=>jk _
 |x::l,k+1,h=>(Tg _ _ _).trans ((u3 l k (uh h)).cons x)
theorem vH{α β:Type}(f:α->β):∀(l:am α) (k:Nat),(l.map f).eraseIdx k=(l.eraseIdx k).map f
 |[],_=>rfl
 |_::_,0=>rfl
 |x::l,k+1=>b2 (f x :: ·) (vH f l k)
theorem boot_min:PX "min" = ih (.builtin "min"):=by decide +kernel
theorem JC{d:Int}(a:0<=d)(h1:d<7):∃v:Int,cn [V.int 0,.int 1,.int 1,.int 2,.int 2,.int 3,.int 4] d=ih (.int v)/\0<=v/\v<=4:=by
 obtain⟨n,rfl⟩:=nF a
 match n,(show n<7 by omega) with
 |0,_=>exact⟨0,cF rfl,by decide,by decide⟩
 |1,_=>exact⟨1,cF rfl,by decide,by decide⟩
 |2,_=>exact⟨1,cF rfl,by decide,by decide⟩
 |3,_=>exact⟨2,cF rfl,by decide,by decide⟩
 |4,_=>exact⟨2,cF rfl,by decide,by decide⟩
 |5,_=>exact⟨3,cF rfl,by decide,by decide⟩
 |6,_=>exact⟨4,cF rfl,by decide,by decide⟩
theorem two_at{d a b:Int}(c:0<=d)(h1:d<2)(e:0<=a/\a<m)(f:0<=b/\b<m):∃v:Int,cn [V.int a,.int b] d=ih (.int v)/\0<=v/\v<m:=by
 obtain⟨n,rfl⟩:=nF c
 match n,(show n<2 by omega) with
 |0,_=>exact⟨a,cF rfl,e⟩
 |1,_=>exact⟨b,cF rfl,f⟩
inductive oL(vs:List V)(H:Hp)(Q:VK)(E:XK):Prop
 |mk{p n:OT}{ys:List CY}(_:vs=[.ref p,.ref n])(_:dY p H)(_:p≠n)(_:H n=ih (.lst (ys.map V.str)))(_:ys.length<=20)(_:∀(l:OT) (own rest:List CY) (Y:Hp),H l=none->(own++rest).Perm ys->own.length<=4->bD p H Y->Y l=ih (.lst (own.map V.str))->Q (.ref l) Y):oL vs H Q E
noncomputable abbrev K6:List CY:=["_law_pot_here","_law_made","_law_left","_law_own","_law_turn","_law_at"]
theorem mE:a' K6 ["_law_pot_here","_law_made"] (aI qY):=bt
theorem IP{Y:Ss}(F:aP K "_law_parents" "_law_parents" qY f fd)(B:dc mg)(D:aP K "_law_digit" "_law_digit" ml fD Y)(xb:Binds K Y ["_law_pot_here","_law_many"] [])(yb:mg "_law_digit" = ih (.ref fD)) :
  aO P w K mg base ay 2 f fd ["_law_pot_here","_law_made"] oL:=by
 have zb:aO P w K mg base ay 1 fD Y ["_law_pot_here","_law_many"] hZ:=q' D;refine F.bx mE λQa A yk s H vs Q E yh h=>?_
 ·obtain @⟨p,n,ys,rfl,xc,xl,zh,zk,q⟩:=h
  have xa:aY 1 _:=yh;intro X;refine⟨_,aw (a9 2 mE.nd (dy iP rfl B.list boot_list (aa (pv 1) ah)))
   (aw (a9 3 mE.nd (er ah))
   (aw (eX eh rfl (jn rfl B.range (aa (b4 (EJ rfl) rfl B.min boot_min (aa (b4 hT rfl B.len hS (aa (pv 2) ah))
     (aa (aT cM (er (aa ar (aa ar (aa ar (aa ar (aa ar (aa ar (aa ar ah)))))))) (e6 zb xa rfl yb D.kp xb .nil b' (aa (pv 0) (aa ar ah)))) ah))) ah)) (ba 4 mE.nd)
    (aw (a9 5 mE.nd (aT cM (er (aa (e6 zb xa rfl yb D.kp xb .nil b' (aa (pv 0) (aa (b4 hT rfl B.len hS (aa (pv 2) ah)) ah)))
      (aa (bJ jx (b4 hT rfl B.len hS (aa (pv 2) ah)) ar) ah))) (e6 zb xa rfl yb D.kp xb .nil b' (aa (pv 0) (aa ar ah)))))
    (aA (dX (fB hR lC lD iR (pv 3)
     (aa (fB hR Dj Dk vQ (pv 2) (aa (pv 5) ah)) ah))))))
   (aA (aX (pv 3))))),?_⟩
  refine ae rfl ⟨n,_,rfl,.inl (aq.of zh),λg u=>?_⟩;refine⟨bp _,λj ya=>?_⟩;have x:p≠g:=xc.ne u;have za:g≠j:=ax af ya;have T:H j=none:=(aH u).free ya;have y:p≠j:=xc.ne T;have yc:bD p H (upd (upd H g (.lst (ys.map V.str))) j (.lst [])):=((bD.refl xc).new u).new ya;have t:(upd (upd H g (.lst (ys.map V.str))) j (.lst [])) g=bm (ys.map V.str):=by rw[ag za];exact af
  have U:(upd (upd H g (.lst (ys.map V.str))) j (.lst [])) j=bm []:=af;generalize upd (upd H g (.lst (ys.map V.str))) j (.lst [])=xm at yc t U⊢;refine ae rfl ⟨g,_,rfl,.inl (aq.of t),?_⟩;refine⟨by show 7<=OY;rw[aQ];decide,λc G=>?_⟩
  have Pc:=yc.new (o:=.lst [V.int 0,.int 1,.int 1,.int 2,.int 2,.int 3,.int 4]) G;refine ae rfl (eM (p:=p) (m:=7) Pc.ok (by decide) (by decide) λd O zc I z=>?_)
  have xh:p≠c:=yc.ok.ne G;obtain⟨v,hv,xf,J⟩:=JC zc I;refine gF (z.kp _ _ af (aN xh)) hv ?_;have xi:=Pc.trans z;have l:O g=bm (ys.map V.str):=z.kp _ _ (by rw[ag (ax t G)];exact t) (aN x)
  have r:O j=bm []:=z.kp _ _ (by rw[ag (ax U G)];exact U) (aN y)
  refine⟨_,v,rfl,?_⟩;rw[aG];obtain⟨N,yi,yl,zl⟩:∃N:Nat,(if v<(ys.length:Int) then v else (ys.length:Int))=N/\N<=4/\N<=ys.length:=by
   split
   ·exact⟨v.toNat,by omega,by omega,by omega⟩
   ·exact⟨ys.length,rfl,by omega,aK _⟩
  rw[yi];refine⟨(N:Int),rfl,by omega,by omega,lK (λi σ O=>∃(zs k:am CY) (J xd:a2 V),σ=[bd p,bd n,bd g,bd j,J,xd]/\zs.length=i/\(zs++k).Perm ys/\bD p H O/\O g=bm (k.map V.str)/\O j=bm (zs.map V.str))
   ⟨[],ys,none,none,rfl,rfl,jk _,xi,l,r⟩ ?_ ?_⟩
  ·rintro i σ O hi ⟨zs,k,J,xd,rfl,yf,L,M,l,r⟩
   have xg:=L.length_eq;rw[cQ]at xg;refine aV rfl rfl ⟨g,_,rfl,.inl (aq.of l),?_⟩;refine eM (p:=p) M.ok (by rw[aG];omega) (by rw[aG];omega) λd H2 zc I R=>?_
   have W:=R.kp _ _ l (aN x);have zd:=R.kp _ _ r (aN y);rw[aG]at I;refine ae rfl ⟨g,_,rfl,.inl (aq.of W),_,1,rfl,rfl,?_⟩;rw[aG];refine⟨b8,λzi C=>?_⟩;have ze:=(M.trans R).new (o:=.lst [V.int d,.int ((k.length:Int) - 1)]) C;have yg:p≠zi:=R.ok.ne C;refine ae rfl (eM (p:=p) (m:=2) ze.ok (by decide) (by decide) λe yd xj yj S=>?_)
   obtain⟨v,hv,xf,zj⟩:=two_at (a:=d) (b:=(k.length:Int) - 1) (m:=(k.length:Int)) xj yj ⟨zc,I⟩ ⟨by omega,by omega⟩
   have xe:yd g=bm (k.map V.str):=S.kp _ _ (by rw[ag (ax W C)];exact W) (aN x)
   have ye:yd j=bm (zs.map V.str):=S.kp _ _ (by rw[ag (ax zd C)];exact zd) (aN y)
   have xk:=ze.trans S;refine gF (S.kp _ _ af (aN yg)) hv ?_;have zf:v.toNat<k.length:=by omega
   refine ae rfl ⟨.inl ⟨rfl,_,aq.of ye⟩,_,rfl,.inl ⟨rfl,_,aq.of xe⟩,_,rfl,?_⟩;refine⟨g,_,v,v.toNat,.str k[v.toNat],rfl,rfl,xe,by omega,by omega,tZ xf (by rw[aG];exact zj),by rw[dt,bB zf];rfl,?_⟩
   have zg:(upd yd g (.lst ((k.map V.str).eraseIdx v.toNat))) j=bm (zs.map V.str):=by rw[ag (aN za)];exact ye
   refine⟨j,_,_,rfl,rfl,zg,by rw[aG,aQ];omega,?_⟩
   refine⟨zs++[k[v.toNat]],k.eraseIdx v.toNat,_,_,rfl,by rw[cQ];simp[yf],?_,(xk.write u x).write T y,?_,?_⟩
   ·refine WX ?_ L
    rw[ni];exact Pn zs (u3 k _ zf)
   ·rw[ag za,af,vH]
   ·rw[af,bo];rfl
  ·rintro σ O ⟨zs,k,J,xd,rfl,yf,L,M,l,r⟩
   exact ae rfl (q j zs k O T L (by omega) M r)
end dq
namespace dq
open L2 HT
def kept(rows:List (List CY))(o:List CY):Bool:=rows.all λr=>decide ((o.filter λn=>decide (n∈r))=r)
theorem qQ{all:am (List CY)}{n:CY}:∀{rest:am (List CY)},gv all rest=ih n->cZ 0 all n=none /\∃(i:Nat) (r:am CY),rest[i]?=ih r/\r.head?=ih n /\∀(j:Nat) (q:am CY) (y:CY),rest[j]?=ih q->q.head?=ih y->cZ 0 all y=none->i<=j
 |[],h=>by cases h
 |[]::rest,h=>by
  obtain⟨h1,i,r,e,f,g⟩:=qQ (rest:=rest) h;refine⟨h1,i+1,r,by simpa using e,f,λj q y a b d=>?_⟩
  cases j with
  |zero =>
   obtain rfl : []=q:=by simpa using a
   simp at b
  |succ j=>have:=g j q y (by simpa using a) b d;omega
 |(x::t)::rest,h=>by
  have h:(if (cZ 0 all x).isNone then ih x else gv all rest)=ih n:=h
  by_cases c:(cZ 0 all x).isNone=true
  ·rw[aB c]at h
   cases h
   exact⟨by simpa using c,0,_,rfl,rfl,λ_ _ _ _ _ _=>bp _⟩
  ·rw[au c]at h
   obtain⟨h1,i,r,e,f,g⟩:=qQ (rest:=rest) h;refine⟨h1,i+1,r,by simpa using e,f,λj q y a b d=>?_⟩
   cases j with
   |zero =>
    obtain rfl:x::t=q:=by simpa using a
    obtain rfl:x=y:=by simpa using b
    exact absurd (by rw[d];rfl) c
   |succ j=>have:=g j q y (by simpa using a) b d;omega
def HG(rest:List (List CY))(q:List CY):Prop:=q.Nodup /\∀x,x∈q ↔ ∃r∈rest,x∈r
theorem rg{q:am CY}:kept rest q=true ↔ ∀r∈rest,(q.filter λn=>decide (n∈r))=r:=by
 unfold kept;rw[nj];simp
theorem uK:(∃r∈L2.without n rest,x∈r) ↔ x≠n /\∃r∈rest,x∈r:=by
 constructor
 ·rintro⟨r,c,a⟩
  obtain⟨q,b,rfl⟩:=aW.mp c;have:=f6.mp a;exact⟨by simpa using this.2,q,b,this.1⟩
 ·rintro⟨h,q,b,a⟩
  exact⟨_,aW.mpr ⟨q,b,rfl⟩,f6.mpr ⟨a,by simpa using h⟩⟩
theorem HH:(rest.any λr=>!r.isEmpty)=true ↔ ∃r∈rest,∃x,x∈r:=by
 rw[lu]
 constructor
 ·rintro⟨r,a,e⟩
  cases r with
  |nil=>simp at e
  |cons x t=>exact⟨_,a,x,aS⟩
 ·rintro⟨r,a,x,b⟩
  refine⟨r,a,?_⟩;cases r with
  |nil=>simp at b
  |cons y t=>rfl
theorem sound:∀(m:Nat) (rest:am (List CY)),total rest=m->(∀r∈rest,r.Nodup) ->∀o,bZ (total rest) rest=ih o->HG rest o/\kept rest o=true:=by
 intro m
 induction m using U1 with
 |_ m u =>
  intro rest D j o b;cases d:rest.any λr=>!r.isEmpty with
  |false =>
   rw[qL d]at b;cases b
   have k:∀r∈rest,∀x,x ∉ r:=λr a x g=>by
    have:=HH.mpr ⟨r,a,x,g⟩;rw[d]at this;cases this
   refine⟨⟨fz,λx=>⟨λh=>by simp at h,λ⟨r,a,g⟩=>absurd g (k r a x)⟩⟩,rg.mpr λr a=>?_⟩
   cases r with
   |nil=>rfl
   |cons y t=>exact absurd aS (k _ a y)
  |true =>
   cases e:ej rest with
   |none=>rw[qM d e]at b;cases b
   |some n =>
    rw[qN d e]at b;obtain⟨o',s,rfl⟩:=gO.mp b;have lt:=j4 (kc e);obtain⟨⟨h1,U⟩,q⟩:=u _ (by omega) (L2.without n rest) rfl (u1 j) o' s
    rw[rg]at q;have l:n ∉ o':=λz=>((uK.mp ((U n).mp z)).1 rfl);obtain⟨i,_⟩:=qQ e;rw[lP]at i;refine⟨⟨dQ.mpr ⟨l,h1⟩,λx=>?_⟩,rg.mpr λr a=>?_⟩
    ·rw[bu,U,uK]
     constructor
     ·rintro(rfl|h)
      ·exact kc e
      ·exact h.2
     ·intro h
      by_cases z:x=n
      ·exact .inl z
      ·exact .inr ⟨z,h⟩
    ·have p:=q _ (aW.mpr ⟨r,a,rfl⟩)
     have same:(o'.filter λy=>decide (y∈r))=o'.filter λy=>decide (y∈r.filter λy=>!decide (y=n)):=by
      apply List.filter_congr
      intro y c;have:y≠n:=λz=>l (z ▸ c);simp[this]
     by_cases f:n∈r
     ·have v:=i r a f
      cases r with
      |nil=>simp at f
      |cons z t =>
       obtain rfl:z=n:=by simpa using v
       have A:z ∉ t:=(dQ.mp (j _ a)).1;have B:((z::t).filter λy=>!decide (y=z))=t:=by
        rw[qs (by simp)]
        exact Dl.mpr λy c=>by
         have:y≠z:=λw=>A (w ▸ c)
         simpa using this
       rw[nD (by simp),same,p,B]
     ·have C:(r.filter λy=>!decide (y=n))=r:=Dl.mpr λy c=>by
       have:y≠n:=λw=>f (w ▸ c)
       simpa using this
      rw[qs (by simpa using f),same,p,C]
end dq
namespace dq
open L2 W HT
theorem len_sub{a b:am CY}(c:a.Nodup)(h:∀x∈a,x∈b):a.length<=b.length:=IJ c h
structure Fm(done:List CY)(L Ps:CY->List CY):Prop where
 ps:∀x∈done,(Ps x).Nodup/\(Ps x).length<=4 /\∀y∈Ps x,y∈done
 ln:∀x∈done,∃o,bZ (total (rowsOf L (Ps x))) (rowsOf L (Ps x))=ih o/\L x=x::o
 ld:∀x∈done,(L x).Nodup /\∀y∈L x,y∈done
theorem u4:r∈rowsOf L own ↔ (∃y∈own,r=L y)\/r=own:=by
 unfold rowsOf;rw[cq,aW,b3]
 constructor
 ·rintro(⟨y,h,rfl⟩|h)
  ·exact .inl ⟨y,h,rfl⟩
  ·exact .inr h
 ·rintro(⟨y,h,rfl⟩|h)
  ·exact .inl ⟨y,h,rfl⟩
  ·exact .inr h
theorem Fm.kG{done:am CY}(F:Fm done L Ps)(a:own.Nodup)(sub:∀y∈own,y∈done):∀r∈rowsOf L own,r.Nodup /\∀y∈r,y∈done:=λr b=>by
 rcases u4.mp b with⟨y,c,rfl⟩|rfl
 ·exact F.ld y (sub y c)
 ·exact⟨a,sub⟩
theorem Fm.small{done:am CY}(F:Fm done L Ps)(c:∀x∈done,Nm x)(e:done.length<=8)(b:own.Nodup)(f:own.length<=4)(sub:∀y∈own,y∈done):Small (rowsOf L own):=by
 refine⟨?_,λr a=>?_,λr a y d=>?_⟩
 ·unfold rowsOf;rw[cQ,aG,j0];omega
 ·obtain⟨h1,U⟩:=F.kG b sub r a
  have:=len_sub h1 U;omega
 ·exact c y ((F.kG b sub r a).2 y d)
theorem Fm.order{done:am CY}(F:Fm done L Ps){o:am CY}(c:own.Nodup)(sub:∀y∈own,y∈done)(d:bZ (total (rowsOf L own)) (rowsOf L own)=ih o):o.Nodup/\(∀y∈o,y∈done) /\∀r∈rowsOf L own,∀y∈r,y∈o:=by
 obtain⟨⟨h1,U⟩,_⟩:=sound _ _ rfl (λr a=>(F.kG c sub r a).1) o d;refine⟨h1,λy b=>?_,λr a y b=>(U y).mpr ⟨r,a,b⟩⟩;obtain⟨r,a,h⟩:=(U y).mp b;exact(F.kG c sub r a).2 y h
theorem EB{a:CY->List CY}(h:∀y∈own,a y=L y):rowsOf a own=rowsOf L own:=by
 unfold rowsOf;rw[C8 h]
theorem Fm.add{done:am CY}(F:Fm done L Ps){k:CY}{o:am CY}(i:k ∉ done)(j:own.Nodup)(n:own.length<=4)(sub:∀y∈own,y∈done)(l:bZ (total (rowsOf L own)) (rowsOf L own)=ih o) :
  Fm (done++[k]) (λx=>if x=k then k::o else L x) (λx=>if x=k then own else Ps x):=by
 have p:∀{y},y∈done->y≠k:=λh z=>i (z ▸ h);have ext:∀{ps:am CY},(∀y∈ps,y∈done)->rowsOf (λx=>if x=k then k::o else L x) ps=rowsOf L ps:=λh=>EB λy d=>au (p (h y d));obtain⟨q,m,_⟩:=F.order j sub l;refine⟨λx f=>?_,λx f=>?_,λx f=>?_⟩
 ·by_cases e:x=k
  ·rw[aB e];exact⟨j,n,λy d=>hE _ (sub y d)⟩
  ·rw[au e]
   obtain⟨a,b,c⟩:=F.ps x (by rcases cq.mp f with z|z;exact z;exact absurd (by simpa using z) e)
   exact⟨a,b,λy d=>hE _ (c y d)⟩
 ·by_cases e:x=k
  ·refine⟨o,?_,by rw[aB e,e]⟩
   rw[aB e,ext sub];exact l
  ·have g:x∈done:=by rcases cq.mp f with z|z;exact z;exact absurd (by simpa using z) e
   obtain⟨o',h1,U⟩:=F.ln x g;refine⟨o',?_,by rw[au e];exact U⟩
   rw[au e,ext (F.ps x g).2.2];exact h1
 ·by_cases e:x=k
  ·rw[aB e]
   refine⟨dQ.mpr ⟨λz=>i (m k z),q⟩,λy d=>?_⟩;rcases bu.mp d with z|z
   ·rw[z];exact ee _ aS
   ·exact hE _ (m y z)
  ·rw[au e]
   have g:x∈done:=by rcases cq.mp f with z|z;exact z;exact absurd (by simpa using z) e
   obtain⟨a,b⟩:=F.ld x g;exact⟨a,λy d=>hE _ (b y d)⟩
def dB(Ps:CY->List CY)(ks:List CY):List (CY×List CY):=ks.map λx=>(x,Ps x)
theorem qR(Ps:CY->List CY)(ks:am CY):(dB Ps ks).map (·.1)=ks:=by
 unfold dB;rw[gP];exact List.map_id' _
theorem Fm.JD(F:Fm ks L Ps)(h:ks.Nodup)(f:∀x∈ks,Nm x)(g:ks.length<=8):i2 (dB Ps ks) L:=by
 have mem:∀{p:CY×List CY},p∈dB Ps ks->p.1∈ks/\p.2=Ps p.1:=λ{p} a=>by
  obtain⟨x,b,rfl⟩:=aW.mp a;exact⟨b,rfl⟩
 refine⟨by rw[qR];exact h,by unfold dB;rw[aG];exact g,λp a=>f _ (mem a).1,λp a x b=>?_,⟨λx=>(L x).length,λp a x b=>?_⟩,λp a=>?_⟩
 ·obtain⟨h1,U⟩:=mem a
  rw[U]at b;exact⟨(x,Ps x),aW.mpr ⟨x,(F.ps _ h1).2.2 x b,rfl⟩,rfl⟩
 ·obtain⟨h1,U⟩:=mem a
  rw[U]at b;obtain⟨o,d,e⟩:=F.ln _ h1;obtain⟨n1,_,c⟩:=F.ps _ h1;obtain⟨_,_,i⟩:=F.order n1 c d;have:=len_sub (F.ld x (c x b)).1 λy j=>i (L x) (u4.mpr (.inl ⟨x,b,rfl⟩)) y j;show(L x).length<(L p.1).length;rw[e,cX];omega
 ·obtain⟨h1,U⟩:=mem a
  rw[U];obtain⟨o,d,e⟩:=F.ln _ h1;obtain⟨n1,k,c⟩:=F.ps _ h1;obtain⟨l,m,_⟩:=F.order n1 c d;exact⟨F.small f g n1 k c,o,d,e,by have:=len_sub l m;omega⟩
theorem Fn:bZ (total (rowsOf L [])) (rowsOf L [])=ih []:=rfl
theorem Gv(xs:am CY):bT (xs.map V.str) none (ih (-1))=xs.dropLast.map V.str:=by
 unfold bT;have a:HT.a6 (xs.map V.str).length 0 none=0:=rfl;have b:HT.a6 (xs.map V.str).length (xs.map V.str).length (ih (-1))=xs.length - 1:=by
  rw[aG];unfold HT.a6;simp;omega
 rw[a,b,nq,qk,<-uw,List.dropLast_eq_take]
theorem iW{xs:am CY}(h:dY p H)(e:H a=bm (xs.map V.str)):a≠p:=by
 rintro rfl;obtain⟨x,y,b,_⟩:=h;rw[e]at b;have c:xs.map V.str=[.int x,.int y]:=HO.lst.inj (c3 b);cases xs with
 |nil=>cases c
 |cons z t=>cases c
theorem dM.jR(h:dM H kvs L x)(ok:dY p H)(s:bD p H Y):dM Y kvs L x:=let ⟨a,e,q⟩:=h;⟨a,e,s.kp _ _ q (iW ok q)⟩
theorem dM.write{b:am (Key×V)}{u:HO}(h:dM H kvs L x)(c:H d=bn b)(e:Y=upd H d u):dM Y kvs L x:=let ⟨a,f,q⟩:=h;⟨a,f,by rw[e,ag (aj q c)];exact q⟩
theorem w8(ok:dY p H)(s:bD p H Y)(e:H d=bn kvs):Y d=bn kvs:=by
 obtain⟨x,y,ep,_⟩:=ok;exact s.kp _ _ e (aj e ep)
theorem dz(h:dY p H)(s:aE H Y):bD p H Y:=by
 obtain⟨x,y,e,r⟩:=h;exact⟨⟨x,y,s _ _ e,r⟩,λb o e _=>s b o e⟩
theorem w9{k:CY}{l:am CY}(c:H d=bn kvs)(f:H a=bm (l.map V.str))(h:x≠k->dM H kvs L x) :
  dM (upd H d (.dK (putK kvs (Ct k) (.ref a)))) (putK kvs (Ct k) (.ref a)) (λx=>if x=k then l else L x) x:=by
 unfold dM;rw[hX]
 by_cases e:x=k
 ·subst e
  refine⟨a,by rw[aB rfl],?_⟩
  rw[ag (aj f c)];show H a=bm ((if x=x then l else L x).map V.str);rw[aB rfl];exact f
 ·obtain⟨b,i,g⟩:=h e
  refine⟨b,by rw[au (λz=>e (f5 z))];exact i,?_⟩
  rw[ag (aj g c)];show H b=bm ((if x=k then l else L x).map V.str);rw[au e];exact g
theorem rh{done:am CY}{k:CY}(h:kvs.map (·.1)=done.map Ct)(c:k ∉ done):(putK kvs (Ct k) v).map (·.1)=(done++[k]).map Ct:=by
 have hv:a5 kvs (Ct k)=none:=by
  have:(a5 kvs (Ct k)).isSome=false:=by
   rw[<-ki,Cn];intro a b d;have e:a.1=Ct k:=eG d;have:a.1∈kvs.map (·.1):=aW.mpr ⟨a,b,rfl⟩;rw[h,e]at this;obtain⟨y,f,g⟩:=aW.mp this;exact c (f5 g ▸ f)
  cases e:a5 kvs (Ct k) with
  |none=>rfl
  |some _=>rw[e]at this;cases this
 rw[kj _ hv,bo,bo,h];rfl
noncomputable abbrev BD:List CY:=["_law_pot_here","_law_kinds","_law_lines","_law_parents_here","_law_kind","_law_own","_law_turn","_law_family_here"]
theorem i3:a' BD ["_law_pot_here","_law_kinds"] (aI lW):=bt
abbrev K7:Si:=ff (ff (fe (cx (bH lW) 2)))
theorem cy.keyed(h:cy H vs Qb):∃kvs,jB H 1 vs kvs/\kvs.map (·.1)=(Qb.map (·.1)).map λx=>[x]:=by
 induction h with
 |nil=>exact⟨[],.nil,rfl⟩
 |@cons _ p _ _ h _ c =>
  obtain⟨a,b,e,q,r⟩:=h;obtain⟨kvs,h1,U⟩:=c;exact⟨([p.1],[.ref b])::kvs,.cons ⟨a,e,q,rfl⟩ h1,by rw[b5,U];rfl⟩
structure s8(p:OT)(H:Hp)(ks:List CY)(r t d1:OT)(o:Tp)(ws:List V)(jJ:List (Key×V))(L Ps:CY->List CY)(Qb:List (CY×List CY))(Y:Hp):Prop where
 hr:Y r=ih (.tup [.ref t,.ref d1])
 ht:Y t=ih (.bw o (.tup ws))
 od:o.dict=none
 fv:cy Y ws Qb
 pm:Qb.Perm (dB Ps ks)
 fm:Fm ks L Ps
 h1:Y d1=ih (.dK jJ)
 k1:jJ.map (·.1)=ks.map Ct
 l1:∀x∈ks,dM Y jJ L x
 pa:bD p H Y
 n1:H d1=none
inductive o1(vs:List V)(H:Hp)(Q:VK)(E:XK):Prop
 |mk{p n:OT}{ks:List CY}(_:vs=[.ref p,.ref n])(_:dY p H)(_:H n=ih (.lst (ks.map V.str)))(_:ks.Nodup)(_:(∀x∈ks,Nm x))(_:ks.length<=8)(_:∀r t d1 o ws jJ L Ps Qb Y,s8 p H ks r t d1 o ws jJ L Ps Qb Y->Q (.ref r) Y):o1 vs H Q E
theorem AW:bW BD (aI lW) ["_law_kind","_law_parents_here"] [none,ih 3] (cG K7):=c'
theorem JE{yn:OT}{yu:Ss}(F:aP K "_law_family" "_law_family" lW f fd)(B:dc mg)(yD:fQ mg)
  (zD:aO P w K mg base ay 2 yn yu ["_law_pot_here","_law_made"] oL) (xE:Tz K (.ref yn)=true) (yE:Binds K yu ["_law_pot_here","_law_made"] []) (zE:mg "_law_parents" = ih (.ref yn))
  (zu:aO P w K mg base ay 2 fL dL ["_law_lines","_law_kind","_law_own"] mN) (xv:Tz K (.ref fL)=true) (yv:Binds K dL ["_law_lines","_law_kind","_law_own"] []) (zv:mg "_law_line" = ih (.ref fL)) :
  aO P w K mg base ay 3 f fd ["_law_pot_here","_law_kinds"] o1:=by
 refine F.bx i3 λQa A zJ s H vs Q E I h=>?_
 ·obtain @⟨p,n,ks,rfl,yf,zf,knd,zy,xN,q⟩:=h
  have xF:=I.units;have xj:=Py (Nat.add_le_add_left (show 1<=64 by decide) _) xF
  intro X;refine⟨_,aw (h6 (c4 (aa nZ (aa nZ ah))) (gU rfl (cS (ba 2 i3.nd) (cS (lZ (i:=3) i3.nd rfl (S5 rfl)) f'))))
   (aw (eX eh rfl (c9 (pv 1)) (ba 4 i3.nd)
    (aw (a9 5 i3.nd (e6 zD I rfl zE xE yE .nil b' (aa (pv 0) (aa (dy (Ek rfl) rfl B.list boot_list (aa (pv 2) ah)) ah))))
    (aw (eX eh rfl (jn rfl B.range (aa ar ah)) (ba 6 i3.nd)
     (aA (bF (bS h7 (e6 zu I rfl zv xv yv .nil b' (aa (pv 2) (aa (pv 4) (aa (pv 5) ah)))) eo (bM _))
      (aA (a9 5 i3.nd (e5 jt (pv 5) fA (eO (mx me ar))))) bX)))
    (aw (gx xj (pv 2) (pv 4) (e6 zu I rfl zv xv yv .nil b' (aa (pv 2) (aa (pv 4) (aa (pv 5) ah)))) rfl)
    (aA (gx xj (pv 3) (pv 4) (pv 5) rfl))))))
   (aw (a9 7 i3.nd (dy uA rfl B.tuple boot_tuple (aa (b4 qC rfl yD.sorted boot_sorted (aa (dg rfl AW (c9 (pv 1)) (λs H fp=>⟨ba 0 AW.nd,d5,
     c4 (aa (pv 0) (aa (dy (uG K rfl) rfl B.tuple boot_tuple (aa (eV xj (pv 1) (pv 0)) ah)) ah))⟩)) ah)) ah)))
   (aA (aX (c4 (aa (pv 7) (aa (pv 2) ah))))))),?_⟩
  intro g yc m yj;have yF:aE H (upd (upd H g (.dK [])) m (.dK [])):=(aH yc).trans (aH yj);have zj:g≠m:=ax af yj;have zq:H m=none:=(aH yc).free yj;refine⟨by show 2<=OY;rw[aQ];decide,λtp xk=>?_⟩
  have xw:(upd (upd H g (.dK [])) m (.dK [])) g=bn []:=by rw[ag zj];exact af
  have yw:=yF.trans (aH (o:=.tup [V.ref g,.ref m]) xk);have xr:upd (upd (upd H g (.dK [])) m (.dK [])) tp (.tup [V.ref g,.ref m]) g=bn []:=by rw[ag (ax xw xk)];exact xw
  have yr:upd (upd (upd H g (.dK [])) m (.dK [])) tp (.tup [V.ref g,.ref m]) m=bn []:=by rw[ag (ax af xk)];exact af
  refine⟨tp,_,rfl,aU.of af,rfl,_,_,rfl,_,_,rfl,rfl,?_⟩;generalize upd (upd (upd H g (.dK [])) m (.dK [])) tp (.tup [V.ref g,.ref m])=zF at yw xr yr⊢;have zw:bD p H zF:=dz yf yw;have xz:p≠g:=yf.ne yc;have yz:p≠m:=yf.ne zq;have yk:n≠p:=iW yf zf;refine⟨_,rfl,n,rfl,⟨_,aq.of (zw.kp _ _ zf yk)⟩,iS (xs:=ks.map V.str) (λi σ O=>∃(v R:am (Key×V)) (L Ps:CY->List CY) (zn xo Y:a2 V),σ=[bd p,bd n,bd g,bd m,zn,xo,Y,none]/\bD p H O /\
   O g=bn v/\O m=bn R/\v.map (·.1)=(ks.take i).map Ct/\R.map (·.1)=(ks.take i).map Ct/\(∀x∈ks.take i,dM O v L x)/\(∀x∈ks.take i,dM O R Ps x)/\Fm (ks.take i) L Ps)
   ⟨[],[],λ_=>[],λ_=>[],none,none,none,rfl,zw,xr,yr,rfl,rfl,λx d=>(by cases d),λx d=>(by cases d),⟨λx d=>(by cases d),λx d=>(by cases d),λx d=>(by cases d)⟩⟩ (λi σ O _ ab=>by obtain⟨_,_,_,_,_,_,_,_,z,_⟩:=ab;exact aq.of (z.kp _ _ zf yk)) ?_ ?_⟩
  ·rintro i x σ O d ⟨v,R,L,Ps,zn,xo,Y,rfl,xb,ye,zk,yb,yo,xg,yg,T⟩
   obtain⟨zc,rfl⟩:=rq d;have S:ks.take (i+1)=ks.take i++[ks[i]]:=by rw[dd,bB zc];rfl
   have yi:ks[i]∉ ks.take i:=by
    have:(ks.take (i+1)).Nodup:=knd.sublist (hG _ _);rw[S]at this;exact λz=>(eg.mp this).2.2 _ z _ aS rfl
   have zz:(ks.take i).Nodup:=knd.sublist (hG _ _);have zr:∀x∈ks.take i,Nm x:=λx d=>zy x (lE d);have xx:(ks.take i).length<=8:=by rw[b9];omega
   have zK:v.length=(ks.take i).length:=by have:=b2 Sk yb;simpa using this
   have xL:R.length=(ks.take i).length:=by have:=b2 Sk yo;simpa using this
   refine aV rfl rfl ⟨g,v,rfl,ye,λl zo=>?_⟩;have xG:v.map (λxp=>kV xp.1)=(ks.take i).map V.str:=by
    have:v.map (λxp=>kV xp.1)=(v.map (·.1)).map kV:=by rw[gP];rfl
    rw[this,yb,gP];rfl
   rw[xG];have zb:=xb.new (o:=.lst ((ks.take i).map V.str)) zo;have zg:=aH (o:=.lst ((ks.take i).map V.str)) zo;refine oL.mk rfl zb.ok (xb.ok.ne zo) af (by omega) λM own rest yp xt za J zd zp=>?_
   have yx:=zb.trans zd;have G:own.Nodup:=(eg.mp (za.nodup_iff.mpr zz)).1;have C:∀y∈own,y∈ks.take i:=λy xq=>za.mem_iff.mp (hE _ xq);have xl:=w8 zb.ok zd (zg _ _ ye);have xA:=w8 zb.ok zd (zg _ _ zk);have yl:∀x∈ks.take i,dM yp v L x:=λx d=>((xg x d).same zg).jR zb.ok zd;have yA:∀x∈ks.take i,dM yp R Ps x:=λx d=>((yg x d).same zg).jR zb.ok zd;refine⟨5,rfl,by decide,by decide,lK (λj σ xh=>∃(M:OT) (own:am CY) (Y:a2 V),σ=[bd p,bd n,bd g,bd m,ih (.str ks[i]),bd M,Y,none]/\aE yp xh/\xh M=bm (own.map V.str)/\own.Nodup/\(∀y∈own,y∈ks.take i)/\own.length<=4/\(bZ (total (rowsOf L own)) (rowsOf L own)≠none\/own.length+j<=4))
    ⟨M,own,_,rfl,aE.refl _,zp,G,C,J,.inr J⟩ ?_ ?_⟩
   ·clear za J G C zp xt
    rintro j σ xh yN ⟨M,own,Y,rfl,W,xa,G,C,J,zl⟩;have xm:=T.small zr xx G J C;have ym:=λr I=>(T.kG G C r I).1;refine d8 rfl rfl rfl (mN.mk rfl (W _ _ xl) xa (λx d=>(yl x (C x d)).same W) xm ym (λe xc N=>?_) (λo e xe xc zA N zx=>?_))
    ·refine⟨rfl,_,rfl,?_⟩
     refine ae rfl ?_;have xB:own ≠ []:=λz=>by rw[z]at e;cases e
     have xK:0<own.length:=uk.mpr xB;refine⟨1,rfl,_,rfl,M,_,rfl,aq.of (N _ _ xa),λc yh=>?_⟩;refine⟨c,own.dropLast,_,rfl,(W.trans N).trans (aH yh),?_,G.sublist (List.dropLast_sublist _),λy xq=>C y (List.dropLast_subset _ xq),by rw[CD];omega,.inr ?_⟩
     ·have:=Gv own
      rw[af];exact b2 ih (b2 HO.lst this)
     ·rcases zl with z|z
      ·exact absurd e z
      ·rw[CD];omega
    ·refine⟨rfl,_,rfl,?_⟩
     exact⟨M,own,_,rfl,W.trans N,N _ _ xa,G,C,J,.inl (by rw[e];exact Option.some_ne_none _)⟩
   ·clear za J G C zp xt
    rintro σ xh ⟨M,own,Y,rfl,W,xa,G,C,J,zl⟩;have xm:=T.small zr xx G J C;have ym:=λr I=>(T.kG G C r I).1;have yB:bZ (total (rowsOf L own)) (rowsOf L own)≠none:=by
     rcases zl with z|z
     ·exact z
     ·exact absurd z (by show ¬ (own.length+TR 5<=4);have:TR 5=5:=rfl;omega)
    refine d8 rfl rfl rfl (mN.mk rfl (W _ _ xl) xa (λx d=>(yl x (C x d)).same W) xm ym (λe=>absurd e yB) (λo e xe xc zA N zx=>?_));have xd:=W.trans N;have ze:=xd _ _ xl;have zB:=xd _ _ xA;refine aV rfl rfl ⟨g,_,rfl,eQ.k (k:=Ct ks[i]) ze (by rw[aQ];omega),?_⟩
    have zm:upd xc g (.dK (putK v (Ct ks[i]) (.ref xe))) m=bn R:=by rw[ag (aN zj)];exact zB
    refine d8 rfl rfl rfl ⟨m,_,rfl,eQ.k (k:=Ct ks[i]) zm (by rw[aQ];omega),?_⟩
    have yG:bD p H xc:=yx.trans (dz yx.ok xd);have xC:∀x∈ks.take (i+1),dM (upd xc g (.dK (putK v (Ct ks[i]) (.ref xe)))) (putK v (Ct ks[i]) (.ref xe)) (λx=>if x=ks[i] then ks[i]::o else L x) x:=λx d=>w9 ze zx λne=>(yl x (by
     rw[S]at d;rcases cq.mp d with z|z
     ·exact z
     ·exact absurd (by simpa using z) ne)).same xd
    have yC:upd xc g (.dK (putK v (Ct ks[i]) (.ref xe))) M=bm (own.map V.str):=by rw[ag (aj (N _ _ xa) ze)];exact N _ _ xa
    refine⟨_,_,_,_,_,_,_,rfl,(yG.write yc xz).write zq yz,by rw[ag zj];exact af,af,by rw[S];exact rh yb yi,by rw[S];exact rh yo yi,λx d=>(xC x d).write zm rfl,λx d=>?_,by rw[S];exact T.add yi G J C e⟩
    refine w9 zm yC λne=>?_;exact((yA x (by
     rw[S]at d;rcases cq.mp d with z|z
     ·exact z
     ·exact absurd (by simpa using z) ne)).same xd).write ze rfl
  ·rintro σ O ⟨v,R,L,Ps,zn,xo,Y,rfl,xb,ye,zk,yb,yo,xg,yg,T⟩
   rw[aG,cj]at yb xg yg T;have yt:=xb.kp _ _ zf yk;refine ae rfl ⟨n,rfl,⟨_,aq.of yt⟩,λc yh=>?_⟩;refine eK (xs:=ks.map V.str) (λi ys zh H2=>∃yq:a2 V,zh=[yq,bd m]/\H2 c=bm ys/\aE O H2/\cy H2 ys (dB Ps (ks.take i))) ⟨none,rfl,af,aH yh,.nil⟩ (λi ys zh H2 ab=>by obtain⟨_,_,z1,z2,_⟩:=ab;exact ⟨z1,aq.of (z2 _ _ yt)⟩) ?_ ?_
   ·rintro i x ys zh H2 d ⟨yq,rfl,U,yd,ya⟩
    have zt:i<(ks.map V.str).length:=(bA.mp d).1;have zc:i<ks.length:=by simpa using zt
    obtain rfl:V.str ks[i]=x:=by simpa [zc] using d
    have S:ks.take (i+1)=ks.take i++[ks[i]]:=by rw[dd,bB zc];rfl
    obtain⟨a,zG,xH⟩:=(yg ks[i] (fw zc)).same yd;refine d8 rfl rfl rfl ⟨m,.ref a,rfl,by rw[<-zG];exact cf.k (k:=Ct ks[i]) (yd _ _ zk),?_⟩
    refine⟨a,_,rfl,.inl ⟨aq.of xH,λb yH=>?_⟩⟩;have zH:=aH (o:=.tup ((Ps ks[i]).map V.str)) yH;refine⟨by show 2<=OY;rw[aQ];decide,λt xi=>?_⟩
    have St:=zH.trans (aH (o:=.tup [V.str ks[i],.ref b]) xi);have xu:upd (upd H2 b (.tup ((Ps ks[i]).map V.str))) t (.tup [V.str ks[i],.ref b]) b=bi ((Ps ks[i]).map V.str):=by rw[ag (ax af xi)];exact af
    have xn:=St _ _ U;refine⟨xn,?_,cw_next zt ⟨_,rfl,af,λx u d=>by rw[ag (ax d yh)];exact St _ _ (yd x u d),?_⟩⟩
    ·have:=ya.length
     unfold dB at this;rw[aG,b9]at this;rw[aQ];omega
    ·have xI:dB Ps (ks.take (i+1))=dB Ps (ks.take i)++[(ks[i],Ps ks[i])]:=by rw[S];unfold dB;rw[bo];rfl
     rw[xI];refine cy.append (ya.keep λx xs d=>?_) ?_ ?_ (b:=b)
     ·rw[ag (aj d U)];exact St _ _ d
     ·rw[ag (aj af xn)];exact af
     ·rw[ag (aj xu xn)];exact xu
   ·rintro ys zh H2 ⟨yq,rfl,U,yd,ya⟩
    rw[aG,cj]at ya;obtain⟨kvs,pv,zC⟩:=ya.keyed;have yL:=ya.length;have zL:(dB Ps ks).length=ks.length:=by unfold dB;exact aG ..
    refine⟨c,ys,kvs,1,rfl,.inl (aq.of U),pv,aK _,by rw[zC,qR];exact knd.map _ λa b n e=>n (qt e).1,by omega,λD xf yK yI za xM yM zM=>?_⟩
    have zI:=aH (o:=.lst xf) yI;refine⟨D,xf,rfl,aq.of af,λt o xi xJ=>?_⟩;have St:=zI.trans (aH (o:=.bw o (.tup xf)) xi);obtain⟨yy,xD,yJ⟩:=qE za ya;refine aV rfl rfl ⟨b8,λr I=>?_⟩;have xy:=St.trans (aH (o:=.tup [V.ref t,.ref g]) I);have zi:=yd.trans xy;refine q r t g o xf v L Ps yy _ ⟨af,by rw[ag (ax af I)];exact af,xJ,cy.same yJ xy,xD,T,zi _ _ ye,yb,λx d=>(xg x d).same zi,xb.trans (dz xb.ok zi),yc⟩
theorem boot_int:PX "int" = ih (.type "int"):=by decide +kernel
theorem boot_bool:PX "bool" = ih (.type "bool"):=by decide +kernel
structure s9(mg:CY->Option i'):Prop where
 int:mg "int" = none
 bool:mg "bool" = none
theorem cb{x:V}:cn (x::xs) 0=ih x:=(show cn (x::xs) ((0:Nat):Int)=ih x from cF rfl)
theorem ea{x:V}:cn (x::y::xs) 1=ih y:=(show cn (x::y::xs) ((1:Nat):Int)=ih y from cF rfl)
theorem mO{x z:V}:cn (x::y::z::xs) 2=ih z:=(show cn (x::y::z::xs) ((2:Nat):Int)=ih z from cF rfl)
end dq
namespace L2
open W
theorem Rep.tupI{ds:am O7}(r:Rep H v (.tuple ds)):∃a vs,v=.ref a/\H a=bi vs/\bI H vs ds:=by
 cases r with
 |tup e rs=>exact⟨_,_,rfl,e,rs⟩
theorem Rep.gk(r:Rep H v (.str x)):v=.str x:=by cases r;rfl
theorem Rep.g4{x:Int}(r:Rep H v (.int x)):v=.int x:=by cases r;rfl
theorem bI.d7{d:O7}{ds:am O7}(r:bI H vs (d::ds)):∃v ws,vs=v::ws/\Rep H v d/\bI H ws ds:=by
 cases r with
 |cons a b=>exact⟨_,_,rfl,a,b⟩
theorem bI.kU(r:bI H vs []):vs=[]:=by cases r;rfl
theorem bI.length{H:Hp}:∀{vs:am V}{ds:am O7},bI H vs ds->vs.length=ds.length
 |_,_,.nil=>rfl
 |_,_,.cons _ rs=>by rw[cX,cX,bI.length rs]
theorem bI.get{H:Hp}{v:V}:∀{vs:am V}{ds:am O7}{i:Nat} (_:bI H vs ds) (_:vs[i]?=ih v),∃d,ds[i]?=ih d/\Rep H v d
 |_,_,_,.nil,e=>by cases e
 |_,_,0,.cons r _,e=>by cases e;exact ae rfl r
 |_,_,i+1,.cons _ rs,e=>by have:=bI.get (i:=i) rs (by simpa using e);simpa using this
end L2
namespace dq
open L2 W HT
def a4:O7->CY|.tuple (.str s::_)=>s|_ => ""
def gz:O7->Int|.tuple [_,.int n]=>n|_=>0
def gA:O7->CY|.tuple [_,.str x]=>x|_ => ""
def bq:O7->List O7
 |.tuple [_,.tuple ds]=>ds
 |.tuple [_,.str x,.int n]=>[.tuple [.str "ask",.str x],.tuple [.str "add",.int n]]
 |.tuple [_,.int n]=>[.tuple [.str "add",.int n]]
 |_=>[]
inductive dr:O7->Prop where
 |add (n:Int) (h:n.natAbs<=10 ^ 18):dr (.tuple [.str "add",.int n])
 |times (n:Int) (lo : -9<=n) (hi:n<=9):dr (.tuple [.str "times",.int n])
 |oE:dr (.tuple [.str "onward"])
 |ask (x:CY) (h:Nm x):dr (.tuple [.str "ask",.str x])
inductive Ent:O7->Prop where
 |plain (n:Int) (h:n.natAbs<=10 ^ 18):Ent (.tuple [.str "plain",.int n])
 |ahead (x:CY) (n:Int) (h:Nm x) (hn:n.natAbs<=10 ^ 18):Ent (.tuple [.str "ahead",.str x,.int n])
 |behind (ds:List O7) (h4:ds.length<=4) (hs:∀d∈ds,dr d):Ent (.tuple [.str "behind",.tuple ds])
 |i6 (ds:List O7) (h4:ds.length<=4) (hs:∀d∈ds,dr d):Ent (.tuple [.str "shut",.tuple ds])
theorem two1{s:CY}{d:O7}(r:Rep H v (.tuple [.str s,d])):∃a u,v=.ref a/\H a=bi [.str s,u]/\Rep H u d:=by
 obtain⟨a,vs,rfl,b,rs⟩:=r.tupI;obtain⟨g,h,rfl,c,rs⟩:=rs.d7;obtain⟨e,i,rfl,f,rs⟩:=rs.d7;obtain rfl:=rs.kU;obtain rfl:=c.gk;exact⟨a,e,rfl,b,f⟩
theorem dr.keep{d:O7}(s:dr d)(r:Rep H v d)(k:∀b xs,H b=bi xs->Y b=bi xs):Rep Y v d:=by
 cases s with
 |add n =>
  obtain⟨a,u,rfl,c,e⟩:=two1 r;obtain rfl:=e.g4;exact .tup (k _ _ c) (.cons (.str _) (.cons (.int _) .nil))
 |times n =>
  obtain⟨a,u,rfl,c,e⟩:=two1 r;obtain rfl:=e.g4;exact .tup (k _ _ c) (.cons (.str _) (.cons (.int _) .nil))
 |ask x =>
  obtain⟨a,u,rfl,c,e⟩:=two1 r;obtain rfl:=e.gk;exact .tup (k _ _ c) (.cons (.str _) (.cons (.str _) .nil))
 |oE =>
  obtain⟨a,vs,rfl,c,rs⟩:=r.tupI;obtain⟨g,h,rfl,f,rs⟩:=rs.d7;obtain rfl:=rs.kU;obtain rfl:=f.gk;exact .tup (k _ _ c) (.cons (.str _) .nil)
theorem hV(k:∀b xs,H b=bi xs->Y b=bi xs){ds:am O7}(r:bI H vs ds)(h:∀d∈ds,dr d):bI Y vs ds:=by
 induction vs generalizing ds with
 |nil=>cases r;exact .nil
 |cons x xs a=>cases r with|cons r rs=>exact .cons ((h _ aS).keep r k) (a rs λd c=>h d (a8 _ c))
theorem Ent.keep{d:O7}(s:Ent d)(r:Rep H v d)(k:∀b xs,H b=bi xs->Y b=bi xs):Rep Y v d:=by
 cases s with
 |plain n =>
  obtain⟨a,u,rfl,c,e⟩:=two1 r;obtain rfl:=e.g4;exact .tup (k _ _ c) (.cons (.str _) (.cons (.int _) .nil))
 |ahead x n =>
  obtain⟨a,vs,rfl,c,rs⟩:=r.tupI;obtain⟨l,m,rfl,h,rs⟩:=rs.d7;obtain⟨o,p,rfl,e,rs⟩:=rs.d7;obtain⟨q,t,rfl,i,rs⟩:=rs.d7;obtain rfl:=rs.kU;obtain rfl:=h.gk;obtain rfl:=e.gk;obtain rfl:=i.g4;exact .tup (k _ _ c) (.cons (.str _) (.cons (.str _) (.cons (.int _) .nil)))
 |behind ds j f =>
  obtain⟨a,u,rfl,c,e⟩:=two1 r;obtain⟨b,vs,rfl,g,rs⟩:=e.tupI;exact .tup (k _ _ c) (.cons (.str _) (.cons (.tup (k _ _ g) (hV k rs f)) .nil))
 |i6 ds j f =>
  obtain⟨a,u,rfl,c,e⟩:=two1 r;obtain⟨b,vs,rfl,g,rs⟩:=e.tupI;exact .tup (k _ _ c) (.cons (.str _) (.cons (.tup (k _ _ g) (hV k rs f)) .nil))
theorem kC(a:dY p H)(c:bD p H Y):∀b xs,H b=bi xs->Y b=bi xs:=λb xs e=>by
 obtain⟨x,y,d,_⟩:=a;exact c.kp b _ e (aj e d)
inductive kM(vs:List V)(H:Hp)(Q:VK)(E:XK):Prop
 |mk{p:OT}(_:vs=[.ref p])(_:dY p H)(_:∀(n:Int) (Y:Hp),n.natAbs<=10 ^ 18->bD p H Y->Q (.int n) Y):kM vs H Q E
noncomputable abbrev K8:List CY:=["_law_pot_here","_law_near","_law_far"]
theorem sD:a' K8 ["_law_pot_here"] (aI rM):=bt
theorem IQ(F:aP K "_law_number" "_law_number" rM f fd)
  (i:bQ P w K mg base ay 1 fD dD ["_law_pot_here","_law_many"] hZ "_law_digit"):aO P w K mg base ay 2 f fd ["_law_pot_here"] kM:=by
 refine F.bx sD λQa A D s H vs Q E v h=>?_
 ·obtain @⟨p,rfl,x,q⟩:=h
  have g:aY 1 _:=v;intro X;refine⟨_,aw (a9 1 sD.nd (bJ jx (bz i g (aa (pv 0) (aa ar ah))) ar))
   (aw (a9 2 sD.nd (bJ gc (bJ jx (bz i g (aa (pv 0) (aa (bJ jx (bJ mc ar (bJ r0 ar ar)) ar) ah))) (bJ r0 ar ar)) ar))
   (aA (aX (aT cM (er (aa (pv 1) (aa (pv 1) (aa ar (aa (pv 2) ah))))) (bz i g (aa (pv 0) (aa ar ah))))))),?_⟩
  refine ae rfl (eM (p:=p) (m:=41) x (by decide) (by decide) λl O G I k=>⟨_,_,rfl,rfl,?_⟩)
  refine ae rfl ⟨_,_,rfl,rfl,⟨by decide,by decide,by decide⟩,_,_,rfl,rfl,.inl ⟨by decide,by decide⟩,_,_,rfl,rfl,?_⟩
  refine eM (p:=p) (m:=2 * 10 ^ (18:Int).toNat - 1) k.ok (by decide) (by decide) λy H2 J d p2=>⟨_,_,rfl,rfl,⟨by decide,by decide,by decide⟩,_,_,rfl,rfl,_,_,rfl,rfl,?_⟩
  refine d8 rfl rfl rfl ⟨by show 4<=OY;rw[aQ];decide,λc r=>?_⟩
  have p3:=(k.trans p2).new (o:=.lst [.int (l - 20),.int (l - 20),.int 0,.int (y - 10 ^ (18:Int).toNat+1)]) r;refine ae rfl (eM (p:=p) (m:=4) p3.ok (by decide) (by decide) λL t z M p4=>?_)
  have u:c≠p:=aN ((k.trans p2).ok.ne r);have e:=p4.kp _ _ af u;obtain⟨j,rfl⟩:=nF z;have a:(10:Int) ^ (18:Int).toNat=1000000000000000000:=rfl;have b:∀n:Int,n.natAbs<=10 ^ 18->Q (.int n) t:=λn B=>q n t B (p3.trans p4);have C:j=0\/j=1\/j=2\/j=3:=by omega
  rcases C with rfl|rfl|rfl|rfl
  ·exact gF e (cF rfl) (b _ (by first|omega|(rw[a]at d⊢;omega)))
  ·exact gF e (cF rfl) (b _ (by first|omega|(rw[a]at d⊢;omega)))
  ·exact gF e (cF rfl) (b _ (by first|omega|(rw[a]at d⊢;omega)))
  ·exact gF e (cF rfl) (b _ (by first|omega|(rw[a]at d⊢;omega)))
theorem wz:∀xs ys:am CY,Ue (xs.map SM) (ys.map SM)=decide (xs=ys)
 |[],[]=>rfl
 |[],y::ys=>rfl
 |x::xs,[]=>rfl
 |x::xs,y::ys=>by
  show((x==y)&&Ue (xs.map SM) (ys.map SM))=_;rw[wz xs ys]
  by_cases e:x=y
  ·by_cases f:xs=ys <;> simp[e,f]
  ·simp[e]
abbrev Bk:=List (CY×CY×O7)
def c7(p:CY×CY×O7):List CY:=[p.1,p.2.1]
def cJ(H:Hp)(vs:List V)(bk:Bk):Prop:=Sl (λv p=>∃a u,v=V.ref a/\H a=ih (.tup [.str p.1,.str p.2.1,u])/\Rep H u p.2.2) vs bk
structure g5(bk:Bk):Prop where
 nm:∀p∈bk,Nm p.1/\Nm p.2.1
 ent:∀p∈bk,Ent p.2.2
 nd:(bk.map c7).Nodup
 a7:bk.length<=48
theorem cJ.keep(k:∀b xs,H b=bi xs->Y b=bi xs){bk:Bk}(h:cJ H vs bk)(c:∀p∈bk,Ent p.2.2):cJ Y vs bk:=L2.Paired.Bg h λv p d x=>by obtain⟨a,u,e,h,r⟩:=x;exact⟨a,u,e,k _ _ h,(c p d).keep r k⟩
theorem cJ.same(S:aE H Y){bk:Bk}(h:cJ H vs bk):cJ Y vs bk:=Paired.imp' (λv p x=>by obtain⟨a,u,e,h,r⟩:=x;exact⟨a,u,e,S _ _ h,r.same S⟩) h
theorem cJ.length{bk:Bk}(h:cJ H vs bk):vs.length=bk.length:=c5 h
theorem cJ.append{u:V}{p:CY×CY×O7}(b:H a=bi [.str p.1,.str p.2.1,u])(r:Rep H u p.2.2){bk:Bk}(h:cJ H vs bk):cJ H (vs++[.ref a]) (bk++[p]):=hJ h ⟨a,u,rfl,b,r⟩
theorem cJ.keyed{bk:Bk}(h:cJ H vs bk):∃kvs,jB H 2 vs kvs/\kvs.map (·.1)=bk.map c7:=by
 induction h with
 |nil=>exact⟨[],.nil,rfl⟩
 |cons x _ b =>
  obtain⟨a,u,e,h,r⟩:=x;obtain⟨kvs,h1,U⟩:=b;exact⟨(c7 _,[u])::kvs,.cons ⟨a,e,h,rfl⟩ h1,by rw[b5,b5,U]⟩
inductive oM(vs:List V)(H:Hp)(Q:VK)(E:XK):Prop
 |mk{x:CY}(_:vs=[.str x])(_:Nm x)(_:∀Y,aE H Y->Q .aM Y):oM vs H Q E
theorem cJ.perm{a:am V}{bk:Bk}(p:a.Perm vs)(h:cJ H vs bk):∃b,b.Perm bk/\cJ H a b:=qE p h
def jK(p:CY×CY×O7):List Key:=[Ct p.1,Ct p.2.1]
def cN(H:Hp)(kvs:List (List Key×V))(m1:Bk):Prop:=Sl (λkv p=>kv.1=jK p/\Rep H kv.2 p.2.2) kvs m1
theorem cN.keep(k:∀b xs,H b=bi xs->Y b=bi xs){kvs:am (List Key×V)}{a:Bk}(h:cN H kvs a)(c:∀p∈a,Ent p.2.2):cN Y kvs a:=L2.Paired.Bg h λv p d x=>⟨x.1,(c p d).keep x.2 k⟩
theorem cN.same(S:aE H Y){kvs:am (List Key×V)}{a:Bk}(h:cN H kvs a):cN Y kvs a:=by
 induction h with
 |nil=>exact .nil
 |cons x _ b=>exact .cons ⟨x.1,x.2.same S⟩ b
theorem cN.length{kvs:am (List Key×V)}{a:Bk}(h:cN H kvs a):kvs.length=a.length:=c5 h
theorem wB{p:CY×CY×O7}{k:CY}:jK p=[Ct k,Ct n] ↔ c7 p=[k,n]:=by
 unfold jK c7
 constructor
 ·intro h
  injection h with h1 U;injection U with a _;rw[f5 h1,f5 a]
 ·intro h
  injection h with h1 U;injection U with a _;rw[h1,a]
theorem cN.val{H:Hp}{k n:CY}:∀{kvs:am (List Key×V)}{h:Bk},cN H kvs h->(a5 kvs [Ct k,Ct n]=none /\ [k,n]∉ h.map c7) \/∃v d,a5 kvs [Ct k,Ct n]=ih v/\(k,n,d)∈h/\Rep H v d
 |_,_,.nil=>.inl ⟨rfl,by simp⟩
 |_,_,.cons (a:=i) (b:=p) ⟨e,r⟩ t=>by
  by_cases f:i.1=[Ct k,Ct n]
  ·have g:=wB.mp (e.symm.trans f)
   have j:p.1=k:=by injection g
   have l:p.2.1=n:=by injection g with _ z;injection z
   exact .inr ⟨i.2,p.2.2,eL f,by rw[<-j,<-l];exact aS,r⟩
  ·have g:c7 p ≠ [k,n]:=λz=>f (e.trans (wB.mpr z))
   rcases cN.val (k:=k) (n:=n) t with⟨a,b⟩|⟨v,d,a,b,c⟩
   ·refine .inl ⟨(dV f).trans a,λz=>?_⟩
    rw[b5]at z;rcases bu.mp z with z|z
    ·exact g z.symm
    ·exact b z
   ·exact .inr ⟨v,d,(dV f).trans a,a8 _ b,c⟩
theorem cN.snoc{k:CY}{d:O7}(r:Rep H v d){kvs:am (List Key×V)}{a:Bk}(h:cN H kvs a):cN H (kvs++[([Ct k,Ct n],v)]) (a++[(k,n,d)]):=hJ h ⟨rfl,r⟩
theorem xZ{a b:Bk}(p:a.Perm b)(ok:g5 b):g5 a:=
 ⟨λq c=>ok.nm q (p.mem_iff.mp c),λq c=>ok.ent q (p.mem_iff.mp c),(p.map c7).nodup_iff.mpr ok.nd,by rw[p.length_eq];exact ok.a7⟩
theorem Ax:∀{bk:Bk}{p q:CY×CY×O7},(bk.map c7).Nodup->p∈bk->q∈bk->p≠q->c7 p≠c7 q
 |[],_,_,_,h,_,_=>by cases h
 |x::bk,p,q,a,e,c,ne=>by
  rw[b5,dQ]at a;rcases bu.mp e with d|B'
  ·rcases bu.mp c with b|tP
   ·exact absurd (d.trans b.symm) ne
   ·intro z
    exact a.1 (d ▸ z ▸ aW.mpr ⟨q,tP,rfl⟩)
  ·rcases bu.mp c with b|tP
   ·intro z
    exact a.1 (b ▸ z ▸ aW.mpr ⟨p,B',rfl⟩)
   ·exact Ax a.2 B' tP ne
theorem ri(K:S7)(h:X.K=K){k:Nat}{t:jb}{n:Nat}(b:X.calm=true)(c:mW X es t)
  (d:(assignEach es X.env).length=n:=by rfl) (a:(assignEach es X.env).findIdx? (·.1)=none:=by rfl):PG X (.Tuple es k pos) (A8 K n t):=by subst h;exact gU b c d a
def dA(bk:Bk)(k n:CY):Option O7:=(bk.find? λp=>decide (c7 p=[k,n])).map (·.2.2)
def d4(bk:Bk)(n:CY):List CY->Option (CY×O7)
 |[]=>none
 |x::r=>match dA bk x n with
  |some d=>ih (x,d)
  |none=>d4 bk n r
theorem uL{k:CY}{bk:Bk}:dA bk k n=none ↔ [k,n]∉ bk.map c7:=by
 unfold dA;rw[Option.map_eq_none_iff,List.find?_eq_none]
 constructor
 ·intro h z
  obtain⟨p,a,e⟩:=aW.mp z;exact h p a (cE e)
 ·intro h p a z
  exact h (aW.mpr ⟨p,a,eG z⟩)
theorem qG{k:CY}{d:O7}{bk:Bk}(h:dA bk k n=ih d):(k,n,d)∈bk:=by
 unfold dA at h;obtain⟨p,f,rfl⟩:=gO.mp h;have g:=List.mem_of_find?_eq_some f;have i:c7 p=[k,n]:=eG (List.find?_some (p:=λq=>decide (c7 q=[k,n])) f);obtain⟨a,b,c⟩:=p;injection i with j e;injection e with e _;subst j e;exact g
theorem u5{k:CY}{d:O7}{bk:Bk}(b:(bk.map c7).Nodup)(h:(k,n,d)∈bk):dA bk k n=ih d:=by
 cases e:dA bk k n with
 |none=>exact absurd (aW.mpr ⟨_,h,rfl⟩) (uL.mp e)
 |some a =>
  have h':=qG e
  by_cases z:d=a
  ·rw[z]
  ·exact absurd (show c7 (k,n,d)=c7 (k,n,a) from rfl) (Ax b h h' (λw=>z (by injection w with _ w;injection w)))
theorem IS{bk:Bk}(h:dA bk x n=none):d4 bk n (x::r)=d4 bk n r:=by
 show(match dA bk x n with|some d=>ih (x,d)|none=>d4 bk n r)=_;rw[h]
theorem yZ{bk:Bk}{d:O7}(h:dA bk x n=ih d):d4 bk n (x::r)=ih (x,d):=by
 show(match dA bk x n with|some d=>ih (x,d)|none=>d4 bk n r)=_;rw[h]
theorem qS{bk:Bk}{n:CY}{x:CY}:∀(l:am CY),(∀y∈l,dA bk y n=none) ->∀r,d4 bk n (l++r)=d4 bk n r
 |[],_,_=>rfl
 |y::l,h,r=>by
  show d4 bk n (y::(l++r))=_;rw[IS (h y aS)];exact qS (x:=x) l (λz hz=>h z (a8 _ hz)) r
theorem oq{bk:Bk}{n x:CY}{d:O7}:∀{l:am CY},d4 bk n l=ih (x,d)->x∈l/\dA bk x n=ih d
 |[],h=>by cases h
 |y::l,h=>by
  unfold d4 at h;cases e:dA bk y n with
  |some d'=>rw[e]at h;cases h;exact⟨aS,e⟩
  |none =>
   rw[e]at h;obtain⟨a,b⟩:=oq (l:=l) h;exact⟨a8 _ a,b⟩
theorem cN.look{k:CY}{kvs:am (List Key×V)}{e:Bk}(h:cN H kvs e)(f:(e.map c7).Nodup):(dA e k n=none/\a5 kvs [Ct k,Ct n]=none) \/∃v d,dA e k n=ih d/\a5 kvs [Ct k,Ct n]=ih v/\Rep H v d:=by
 rcases h.val (k:=k) (n:=n) with⟨a,b⟩|⟨v,d,a,b,c⟩
 ·exact .inl ⟨uL.mpr b,a⟩
 ·exact .inr ⟨v,d,u5 f b,a,c⟩
def ip(H:Hp)(v:V):Option (CY×O7)->Prop
 |none=>v=.aM
 |some (x,d)=>∃t u,v=.ref t/\H t=ih (.tup [.str x,u])/\Rep H u d
theorem ip.keep(k:∀b xs,H b=bi xs->Y b=bi xs){r:a2 (CY×O7)}(h:ip H v r)(a:∀x d,r=ih (x,d)->Ent d):ip Y v r:=by
 cases r with
 |none=>exact h
 |some p =>
  obtain⟨t,u,rfl,c,r⟩:=h;exact⟨t,u,rfl,k _ _ c,(a _ _ rfl).keep r k⟩
def HI(e:Si):Tr:=match e with|.DictComp _ _ _ sc _=>sc|.SetComp _ _ sc _=>sc|_=>{ kind:=.function,names:=[],isGenerator:=false,isCoroutine:=false }
def fV(line:List CY)(b:CY):List CY:=if b = "" then line else line.drop (line.idxOf b+1)
def fF(dl de dh:OT)(m:Int):List (CY×V):=[("lines",.ref dl),("entries",.ref de),("hits",.ref dh),("met",.int m)]
theorem h2{f g:CY}{x:V}{r:am (CY×V)}(h:g≠f):bR f v ((g,x)::r)=(g,x)::bR f v r:=au h
theorem HJ{f:CY}{x:V}{r:am (CY×V)}:bR f v ((f,x)::r)=(f,v)::r:=aB rfl
theorem n9{f:CY}:bR f v []=[(f,v)]:=rfl
theorem HK(dl de dh:OT):bR "met" (.int 0) (bR "hits" (.ref dh) (bR "entries" (.ref de) (bR "lines" (.ref dl) [])))=fF dl de dh 0:=by
 rw[n9,h2 (f:= "entries") (by decide +kernel),n9,h2 (f:= "hits") (by decide +kernel),h2 (f:= "hits") (by decide +kernel),n9,h2 (f:= "met") (by decide +kernel),h2 (f:= "met") (by decide +kernel),h2 (f:= "met") (by decide +kernel),n9]
 rfl
theorem IT(dl de dh:OT)(m a:Int):bR "met" (.int a) (fF dl de dh m)=fF dl de dh a:=by
 unfold fF;rw[h2 (f:= "met") (by decide +kernel),h2 (f:= "met") (by decide +kernel),h2 (f:= "met") (by decide +kernel),HJ]
theorem gX{α:Type}{y:CY}{v:α}{r:am (CY×α)}(h:x≠y):Sv x ((y,v)::r)=Sv x r:=by
 rw[ef];have:(x==y)=false:=by simpa using h
 rw[this]
theorem oN{α:Type}{v:α}{r:am (CY×α)}:Sv x ((x,v)::r)=ih v:=by
 rw[ef,CF]
section
variable{dl de dh:OT}
theorem wC:(fF dl de dh m).lookup ("lines" : CY)=ih (V.ref dl):=oN
theorem u6:(fF dl de dh m).lookup ("entries" : CY)=ih (V.ref de):=by unfold fF;rw[gX (by decide +kernel)];exact oN
theorem ot:(fF dl de dh m).lookup ("hits" : CY)=ih (V.ref dh):=by unfold fF;rw[gX (by decide +kernel),gX (by decide +kernel)];exact oN
theorem IU:(fF dl de dh m).lookup ("met" : CY)=ih (V.int m):=by unfold fF;rw[gX (by decide +kernel),gX (by decide +kernel),gX (by decide +kernel)];exact oN
theorem sE(h1:x ≠ "lines")(U:x ≠ "entries")(a:x ≠ "hits")(b:x ≠ "met"):(fF dl de dh m).lookup x=none:=by unfold fF;rw[gX h1,gX U,gX a,gX b];rfl
end
structure i7(K:S7)(mg:CY->Option i')(C:OT):Prop where
 cl:fj K C
 nl:di K C "lines"
 ne:di K C "entries"
 nh:di K C "hits"
 nm:di K C "met"
 m2:mg "Finds" = ih (.ref C)
structure FI(C x dx dl de dh:OT)(kl:List (Key×V))(ke kh:List (List Key×V))(m:Int)(bk:Bk)(H:Hp):Prop where
 hx:H x=ih (.ins C dx (fF dl de dh m))
 hl:H dl=ih (.dK kl)
 he:H de=ih (.dT ke)
 hh:H dh=ih (.dT kh)
 du:cN H ke bk
 ok:g5 bk
 nn:de≠dh
inductive o2(vs:List V)(H:Hp)(Q:VK)(E:XK):Prop
 |mk{t:OT}{ws:List V}{bk:Bk}(_:vs=[.ref t])(_:H t=ih (.tup ws))(_:cJ H ws bk)(_:g5 bk)(_:∀d kvs Y,H d=none->aE H Y->Y d=ih (.dT kvs)->cN Y kvs bk->Q (.ref d) Y):o2 vs H Q E
theorem K9:a' ["book"] ["book"] (aI lT):=bt
noncomputable abbrev L4:Si:=kT (cx (bH lT) 0)
theorem o3:bW ["book"] (aI lT) ["kind","name","entry"] [none,none,none] (HI L4):=c'
theorem JF(F:aP K "entries_by_place" "entries_by_place" lT f fd):aO P w K mg base ay 1 f fd ["book"] o2:=by
 refine F.bx K9 λQa A yd s H vs Q E zb h=>?_
 ·obtain @⟨t,ws,bk,rfl,L,M,ok,q⟩:=h
  have xc:=zb.units;have xa:=d9 xc;intro X;refine⟨_,aA (aX (Fc rfl o3 (kD (pv 0)) (λs H fp=>⟨ri (n:=3) K rfl rfl (cS (ba 0 o3.nd) (cS (ba 1 o3.nd) (cS (ba 2 o3.nd) f'))),d5,Jt xa (c4 (aa (pv 0) (aa (pv 1) ah))) (pv 2)⟩))),?_⟩;have Y:=M.length;have a7:=ok.a7;refine ae rfl ⟨t,rfl,⟨_,aU.of L⟩,λc B=>?_⟩;refine Fd (xs:=ws) (λi g O=>∃(C D G:a2 V) (kvs:am (List Key×V)),g=[C,D,G]/\aE H O/\O c=ce kvs/\cN O kvs (bk.take i)) ⟨none,none,none,[],rfl,aH B,af,.nil⟩ (λi g O ab=>by obtain⟨_,_,_,_,_,z,_⟩:=ab;exact aU.of (z _ _ L)) ?_ ?_
  ·rintro i x g O N ⟨C,D,G,kvs,rfl,j,h1,l⟩
   have ya:i<ws.length:=(bA.mp N).1;obtain⟨p,R,a,u,rfl,S,yc⟩:=L2.Paired.get (cJ.same j M) N;have pm:=cY R;have tk:bk.take (i+1)=bk.take i++[p]:=by rw[dd,R];rfl
   refine⟨a,_,rfl,aU.of S,rfl,_,_,rfl,_,_,rfl,_,_,rfl,rfl,?_⟩;refine aV rfl rfl ⟨b8,λm za=>?_⟩;have d:=aH (o:=.tup [V.str p.1,V.str p.2.1]) za;have I:upd O m (.tup [V.str p.1,V.str p.2.1]) m=bi ((jK p).map kV):=af;have xb:=d _ _ S;have J:=yc.same d;have r:=cN.same d l;have y:=d _ _ h1;generalize upd O m (.tup [V.str p.1,V.str p.2.1])=T at d I xb J r y⊢;have zc:=r.length;have yb:a5 kvs (jK p)=none:=by
    rcases r.val (k:=p.1) (n:=p.2.1) with⟨z,_⟩|⟨v,zd,_,z2,_⟩
    ·exact z
    ·exfalso
     have U:((bk.take (i+1)).map c7).Nodup:=ok.nd.sublist (Wi _ (hG _ _));rw[tk,bo]at U;exact(eg.mp U).2.2 _ (aW.mpr ⟨_,z2,rfl⟩) (c7 p) (by simp) rfl
   refine ae rfl ⟨kvs,jK p,m,rfl,I,y,?_,Gh ya ⟨_,_,_,_,rfl,λb v e=>?_,af,?_⟩⟩
   ·rw[b9]at zc
    rw[aQ];omega
   ·rw[ag (ax e B)];exact d _ _ (j _ _ e)
   ·rw[tk,kj _ yb]
    have W:∀b xs,T b=bi xs->upd T c (.dT (kvs++[(jK p,u)])) b=bi xs:=λb xs e=>by rw[ag (aj e y)];exact e
    exact cN.snoc (k:=p.1) (n:=p.2.1) ((ok.ent p pm).keep J W) (r.keep W λq xd=>ok.ent q (lE xd))
  ·rintro g O ⟨C,D,G,kvs,rfl,j,h1,l⟩
   rw[Y,cj]at l;exact q c kvs O B j h1 l
theorem Fo{b:CY}:k5 (.str b) ((("" : CY)::line).map V.str)=decide (b = "" \/ b∈line):=by
 rw[jq]
 by_cases e:b = "" \/ b∈line
 ·rw[cE e]
  exact cE (by rcases e with z|z;rw[z];exact aS;exact a8 _ z)
 ·rw[eF e]
  exact eF (λz=>e (by rcases bu.mp z with y|y;exact .inl y;exact .inr y))
inductive kW(vs:List V)(H:Hp)(Q:VK)(E:XK):Prop
 |mk{t:OT}{line:List CY}{b:CY}(_:vs=[.ref t,.str b])(_:H t=ih (.tup (line.map V.str)))(_:line.length<=200)(_:(b = "" \/ b∈line))(_:∀Y,aE H Y->Q (.bl true) Y):kW vs H Q E
theorem K':a' ["line","thing"] ["line","thing"] (aI qX):=bt
theorem JG(F:aP K "is_behind" "is_behind" qX f fd)(a:fQ mg):aO P w K mg base ay 1 f fd ["line","thing"] kW:=by
 refine F.bx K' λQa A l s H vs Q E m h=>?_
 ·obtain @⟨t,line,b,rfl,g,n,i,q⟩:=h
  intro X;refine⟨_,aA (aX (iY (b4 hW rfl a.g8 gS (aa (pv 1) (aa (gT (v:=.ty "str") rfl a.str boot_str rfl) ah))) (jw (gw j' (pv 1) (bJ rD (c4 (aa b6 ah)) (pv 0)) rfl)))),?_⟩;refine ae rfl ⟨⟨_,.inr ⟨"str",rfl⟩⟩,.str b,.ty "str",.type "str",.type "str",true,rfl,rfl,.inl (.str b),rfl,true,rfl,?_⟩;refine ae rfl ⟨ey,λc j=>?_⟩;have d:=aH (o:=.tup [V.str ""]) j;refine ae rfl ⟨c,t,_,_,rfl,rfl,af,d _ _ g,by rw[aG,aQ];show 1+_<=_;omega,λp Y k h'=>?_⟩
  have e:Y p=bi ((("" : CY)::line).map V.str):=h';refine⟨p,_,rfl,.inr (aU.of e),rfl,kb _,?_⟩;rw[au bV,Fo,cE i];exact q Y (d.trans k)
inductive o4(vs:List V)(H:Hp)(Q:VK)(E:XK):Prop
 |mk{t:OT}{line:List CY}{b:CY}(_:vs=[.ref t,.str b])(_:H t=ih (.tup (line.map V.str)))(_:line.length<=200)(_:(b = "" \/ b∈line))(_:∀Y,aE H Y->Q .aM Y):o4 vs H Q E
theorem La:a' ["line","thing"] ["line","thing"] (aI rJ):=bt
theorem JH(F:aP K "check_behind" "check_behind" rJ f fd)(a:bQ P w K mg base ay 1 fI dI ["line","thing"] kW "is_behind"):aO P w K mg base ay 2 f fd ["line","thing"] o4:=by
 refine F.bx La λQa A j s H vs Q E c h=>?_
 ·obtain @⟨t,line,b,rfl,d,e,g,q⟩:=h
  intro X;refine⟨_,aA (bF (e8 (eW (bz a c (aa (pv 0) (aa (pv 1) ah))))) lJ bX),?_⟩;exact aV rfl rfl (kW.mk rfl d e g λO i=>⟨true,rfl,q O i⟩)
inductive oO(C:OT)(vs:List V)(H:Hp)(Q:VK)(E:XK):Prop
 |mk{x dl de dx:OT}(_:vs=[.ref x,.ref dl,.ref de])(_:H x=ih (.ins C dx []))(_:∀dh,H dh=none->Q .aM (upd (upd H dh (.dT [])) x (.ins C dx (fF dl de dh 0)))):oO C vs H Q E
theorem JI:a' ["self","lines","entries"] ["self","lines","entries"] (aI su):=bt
theorem IV(F:aP K "__init__" "Finds.__init__" su f fd)(T:i7 K mg C):aO P w K mg base ay 1 f fd ["self","lines","entries"] (oO C):=by
 refine F.bx JI λQa A i s H vs Q E j h=>?_
 ·obtain @⟨x,dl,de,dx,rfl,g,q⟩:=h
  intro X;refine⟨_,aw (eY (pv 0) (pv 1) rfl) (aw (eY (pv 0) (pv 2) rfl) (aw (eY (pv 0) n4 rfl) (aA (eY (pv 0) ar rfl)))),?_⟩;refine aV rfl rfl ⟨x,C,dx,[],rfl,g,T.cl,T.nl,(by show 0<1000;decide),?_⟩
  refine aV rfl rfl ⟨x,C,dx,_,rfl,af,T.cl,T.ne,(by show 1<1000;decide),?_⟩
  rw[eN];intro dh a;have c:x≠dh:=ax af a;refine ae rfl ⟨x,C,dx,_,rfl,by rw[ag c];exact af,T.cl,T.nh,(by show 2<1000;decide),?_⟩
  refine ae rfl ⟨x,C,dx,_,rfl,af,T.cl,T.nm,(by show 3<1000;decide),?_⟩
  rw[eN,HK];have d:H dh=none:=by
   cases e:H dh with
   |none=>rfl
   |some u=>rw[ag (aN c),e]at a;cases a
  have e:∀o o':HO,upd (upd (upd H x o) dh (.dT [])) x o'=upd (upd H dh (.dT [])) x o':=λo o'=>by
   funext b
   by_cases h1:b=x
   ·subst h1;rw[af,af]
   ·rw[ag h1,ag h1]
    by_cases U:b=dh
    ·subst U;rw[af,af]
    ·rw[ag U,ag U,ag h1]
  rw[e];exact q dh d
theorem HL{c:Bool}{a:Int}{tb:TE}(gB:Nat->Prop)(h1:c=true ->∃s:Nat,a=s/\gB s)(U:c=false->(∀s:Nat,gB s->Q (.int s) H)->tb σ H Q)(b:∀s:Nat,gB s->Q (.int s) H):if c=true then tC (.int a) σ H Q else tb σ H Q:=by
 cases c with
 |false=>exact U rfl b
 |true =>
  obtain⟨s,e,d⟩:=h1 rfl;show Q (.int a) H;rw[e];exact b s d
theorem Gw{α:Type} [BEq α] [LawfulBEq α]{b:α}{line:am α}(h:b∈line):line[line.idxOf b]?=ih b /\∀m,m<line.idxOf b->line[m]? ≠ ih b:=by
 have a:=List.idxOf_lt_length_iff.mpr h;refine⟨by rw[bB a,nG],λm c z=>?_⟩
 obtain⟨d,e⟩:=bA.mp z;have:=List.not_of_lt_findIdx (p:=λx=>x==b) (xs:=line) (i:=m) c;simp[e]at this
theorem l9{bk:Bk}{l:am CY}(ok:g5 bk):∀x d,d4 bk n l=ih (x,d)->Nm x/\Ent d:=λx d h=>by
 have a:=qG (oq h).2;exact⟨(ok.nm _ a).1,ok.ent _ a⟩
inductive oF(C:OT)(vs:List V)(H:Hp)(Q:VK)(E:XK):Prop
 |mk{x dx dl de dh a:OT}{kl:List (Key×V)}{ke kh:List (List Key×V)}{m:Int}{bk:Bk}{kind name iA:CY}{line:List CY}(_:vs=[.ref x,.str kind,.str name,.str iA])(_:FI C x dx dl de dh kl ke kh m bk H)(_:a5 kl (Ct kind)=ih (.ref a))(_:H a=ih (.tup (line.map V.str)))(_:line.length<=200)(_:(iA = "" \/ iA∈line))(_:∀v m' Y,(∀b u,b≠x->H b=ih u->Y b=ih u)->Y x=ih (.ins C dx (fF dl de dh m'))->ip Y v (d4 bk name (fV line iA))->Q v Y):oF C vs H Q E
noncomputable abbrev L5:List CY:=["self","kind","name","behind","line","start","other"]
theorem o5:a' L5 ["self","kind","name","behind"] (aI sx):=bt
theorem HM(F:aP K "walk" "Finds.walk" sx f fd)(T:i7 K mg C):aO P w K mg base ay 1 f fd ["self","kind","name","behind"] (oF C):=by
 refine F.bx o5 λQa A yl s H vs Q E zh h=>?_
 ·obtain @⟨x,dx,dl,de,dh,a,xi,xf,kh,m,bk,xb,name,g,line,rfl,fi,yi,S,zl,zi,q⟩:=h
  have xj:=zh.units;have R:=d9 xj;intro X;refine⟨_,aw (a9 4 o5.nd (eV R (bY (pv 0) rfl) (pv 1)))
   (aw (a9 5 o5.nd (Fx (bS eu (pv 3) b6 (bM _)) ar (bJ gc (fB PySem.F.plainAttrs_tuple Px PySem.F.type_tuple_index E9 (pv 4) (aa (pv 3) ah)) ar)))
   (aw (eX eh rfl (kD (e5 kx (pv 4) (eO (pv 5)) fA)) (ba 6 o5.nd)
    (aw (lL (pv 0) ar oz)
    (aA (bF (h5 (jA R (c4 (aa (pv 6) (aa (pv 2) ah))) (bY (pv 0) rfl))) (aA (aX (c4 (aa (pv 6) (aa (eV R (bY (pv 0) rfl) (c4 (aa (pv 6) (aa (pv 2) ah)))) ah))))) bX))))
   (aA (aX eo)))),?_⟩
  refine ae rfl ⟨x,C,dx,_,.ref dl,rfl,fi.hx,T.cl,T.nl,wC,_,rfl,dl,.ref a,rfl,.inl ⟨xi,Ct xb,.inl fi.hl,rfl,yi.symm⟩,?_⟩;refine ae rfl ⟨rfl,_,rfl,?_⟩;refine HL (λU=>fV line g=line.drop U) (λe=>⟨0,rfl,?_⟩) (λe k=>?_) ?_
  ·have e:=eG e
   injection e with e;unfold fV;rw[aB e];rfl
  ·have yb:g ≠ "" :=λz=>by rw[z]at e;exact absurd e (by rw[cE rfl];intro y;cases y)
   have yj:g∈line:=zi.resolve_left yb;obtain⟨zj,xk⟩:=Gw yj;exact ae rfl ⟨.inr (.inr (.inr (.inr ⟨rfl,_,Rd.of S⟩))),_,rfl,a,line,g,line.idxOf g,rfl,rfl,aU.of S,zj,xk,_,_,rfl,rfl,k (line.idxOf g+1) (by unfold fV;rw[au yb])⟩
  intro U xg;refine d8 rfl rfl rfl ⟨a,_,rfl,S,λsp J B l=>?_⟩;rw[wu,<-Di,<-xg]at l;obtain⟨rest,zf⟩:∃rest,fV line g=rest:=⟨_,rfl⟩;rw[zf]at l q;have zb:=B _ _ fi.hx;refine⟨sp,rfl,⟨_,aU.of l⟩,GK (xs:=rest.map V.str) (λi σ O=>∃(c:Int) (W:a2 V),σ=[bd x,ih (.str xb),ih (.str name),ih (.str g),bd a,ih (.int U),W]/\(∀b u,b≠x->J b=ih u->O b=ih u)/\O x=ih (.ins C dx (fF dl de dh c)) /\∀y∈rest.take i,dA bk y name=none)
   ⟨m,none,rfl,λb u _ e=>e,zb,λy j=>(by cases j)⟩ (λi σ O _ ab=>by obtain⟨_,_,_,z,_⟩:=ab;exact aU.of (z _ _ (aj l zb (by intro y;cases y)) l)) ?_ ?_⟩
  ·rintro i y σ O j ⟨c,W,rfl,kp,I,no⟩
   obtain⟨xc,rfl⟩:=rq j;have yg:rest.take (i+1)=rest.take i++[rest[i]]:=by rw[dd,bB xc];rfl
   refine ae rfl ⟨x,C,dx,_,.int c,rfl,I,T.cl,T.nm,IU,_,_,rfl,rfl,dx,_,I,by show 4<1000;decide,?_⟩
   rw[IT];have yc:∀b u,b≠x->J b=ih u->upd O x (.ins C dx (fF dl de dh (c+1))) b=ih u:=λb u n e=>by rw[ag n];exact kp b u n e
   have zc:upd O x (.ins C dx (fF dl de dh (c+1))) x=ih (.ins C dx (fF dl de dh (c+1))):=af;generalize upd O x (.ins C dx (fF dl de dh (c+1)))=H2 at yc zc⊢;refine aV rfl rfl ⟨b8,λL zg=>?_⟩;have Y:=aH (o:=.tup [V.str rest[i],V.str name]) zg;have xd:upd H2 L (.tup [V.str rest[i],V.str name]) L=bi (([Ct rest[i],Ct name]:am Key).map kV):=af;have p:=Y _ _ zc;have r:∀b u,b≠x->J b=ih u->upd H2 L (.tup [V.str rest[i],V.str name]) b=ih u:=λb u n e=>Y _ _ (yc b u n e);generalize upd H2 L (.tup [V.str rest[i],V.str name])=D at Y xd p r⊢;have xh:de≠x:=aj fi.he fi.hx
   have yd:D de=ce xf:=r _ _ xh (B _ _ fi.he);have yk:cN D xf bk:=fi.du.keep (λb xs e=>r _ _ (aj e fi.hx) (B _ _ e)) fi.ok.ent
   refine ae rfl ⟨x,C,dx,_,.ref de,rfl,p,T.cl,T.ne,u6,de,_,rfl,cf.t (k:=[Ct rest[i],Ct name]) yd xd,_,rfl,?_⟩;rcases yk.look (k:=rest[i]) (n:=name) fi.ok.nd with⟨xa,M⟩|⟨v,d,xa,M,zk⟩
   ·rw[M]
    refine⟨c+1,_,rfl,r,p,λy j=>?_⟩;rw[yg]at j;rcases cq.mp j with z|z
    ·exact no y z
    ·rw[b3.mp z];exact xa
   ·rw[M]
    refine aV rfl rfl ⟨x,C,dx,_,.ref de,rfl,p,T.cl,T.ne,u6,_,rfl,_,rfl,b8,λN yh=>?_⟩;have G:=aH (o:=.tup [V.str rest[i],V.str name]) yh;have zd:upd D N (.tup [V.str rest[i],V.str name]) N=bi (([Ct rest[i],Ct name]:am Key).map kV):=af;have xe:=G _ _ yd;have ye:=G _ _ p;have yf:=zk.same G;have ze:∀b u,b≠x->J b=ih u->upd D N (.tup [V.str rest[i],V.str name]) b=ih u:=λb u n e=>G _ _ (r b u n e);generalize upd D N (.tup [V.str rest[i],V.str name])=xm at G zd xe ye yf ze⊢;refine⟨de,v,rfl,by rw[<-M];exact cf.t (k:=[Ct rest[i],Ct name]) xe zd,b8,λt xl=>?_⟩
    have ya:=aH (o:=.tup [V.str rest[i],v]) xl;have za:d4 bk name rest=ih (rest[i],d):=by
     conv=>lhs;rw[<-lx i rest,iK xc]
     rw[qS (x:=rest[i]) _ no];exact yZ xa
    refine q (.ref t) (c+1) _ (λb u n e=>ya _ _ (ze b u n (B _ _ e))) (ya _ _ ye) ?_;rw[za];exact⟨t,v,rfl,af,yf.same ya⟩
  ·rintro σ O ⟨c,W,rfl,kp,I,no⟩
   rw[aG,cj]at no;refine q .aM c O (λb u n e=>kp b u n (B _ _ e)) I ?_;have za:d4 bk name rest=none:=by
    have:=qS (x:=name) rest no [];rw[f7]at this;exact this
   rw[za];rfl
def h9(H:Hp)(kh:List (List Key×V))(bk:Bk)(L:CY->List CY):Prop:= ∀k n b v,a5 kh [Ct k,Ct n,Ct b]=ih v->ip H v (d4 bk n (fV (L k) b))
theorem h9.keep{bk:Bk}(h:h9 H kh bk L)(ok:g5 bk)(k:∀b xs,H b=bi xs->Y b=bi xs):h9 Y kh bk L:=λa n b v e=>(h a n b v e).keep k λx d z=>(l9 ok x d z).2
inductive kH(C:OT)(vs:List V)(H:Hp)(Q:VK)(E:XK):Prop
 |mk{x dx dl de dh:OT}{kl:List (Key×V)}{ke kh:List (List Key×V)}{m:Int}{bk:Bk}{kind name iA:CY}{L:CY->List CY}(_:vs=[.ref x,.str kind,.str name,.str iA])(_:FI C x dx dl de dh kl ke kh m bk H)(_:fZ H kl L kind)(_:(L kind).length<=200)(_:(iA = "" \/ iA∈L kind))(_:h9 H kh bk L)(_:kh.length<=1000000)(_:∀v cK m' Y,(∀b u,b≠x->b≠dh->H b=ih u->Y b=ih u)->FI C x dx dl de dh kl ke cK m' bk Y->h9 Y cK bk L->cK.length<=kh.length+1->ip Y v (d4 bk name (fV (L kind) iA))->Q v Y):kH C vs H Q E
noncomputable abbrev L6:List CY:=["self","kind","name","behind","place"]
theorem BE:a' L6 ["self","kind","name","behind"] (aI sv):=bt
theorem HN{fW:OT}(F:aP K "look" "Finds.look" sv f fd)(T:i7 K mg C)(xe:aO P w K mg base ay 1 fW dW ["self","kind","name","behind"] (oF C))(ye:Meth K C "walk" fW)(ze:Binds K dW ["self","kind","name","behind"] []):aO P w K mg base ay 2 f fd ["self","kind","name","behind"] (kH C):=by
 refine F.bx BE λQa A zh s H vs Q E xb h=>?_
 ·obtain @⟨x,dx,dl,de,dh,yb,M,kh,m,bk,c,name,g,L,rfl,fi,⟨a,xf,yf⟩,zf,xg,yg,xi,q⟩:=h
  have zg:=xb.units;have D:=d9 zg;intro X;refine⟨_,aw (a9 4 BE.nd (c4 (aa (pv 1) (aa (pv 2) (aa (pv 3) ah)))))
   (aw (bF (h5 (vm D (pv 4) (bY (pv 0) rfl))) (aA (gx D (bY (pv 0) rfl) (pv 4) (eU (pv 0) T.cl ye xe xb ze .nil b' (aa (pv 1) (aa (pv 2) (aa (pv 3) ah)))) rfl)) bX)
   (aA (aX (eV D (bY (pv 0) rfl) (pv 4))))),?_⟩
  refine d8 rfl rfl rfl ⟨g7,λpt yc=>?_⟩;have j:=aH (o:=.tup [V.str c,V.str name,V.str g]) yc;have y:upd H pt (.tup [V.str c,V.str name,V.str g]) pt=bi (([Ct c,Ct name,Ct g]:am Key).map kV):=af;generalize upd H pt (.tup [V.str c,V.str name,V.str g])=O at j y⊢;have i:FI C x dx dl de dh yb M kh m bk O:=⟨j _ _ fi.hx,j _ _ fi.hl,j _ _ fi.he,j _ _ fi.hh,fi.du.same j,fi.ok,fi.nn⟩;have G:h9 O kh bk L:=yg.keep fi.ok λb xs e=>j _ _ e;have U:x≠dh:=aj fi.hx fi.hh
  have zc:dl≠dh:=aj fi.hl fi.hh
  refine aV rfl rfl ⟨x,C,dx,_,.ref dh,rfl,i.hx,T.cl,T.nh,ot,dh,_,rfl,cf.t (k:=[Ct c,Ct name,Ct g]) i.hh y,_,rfl,?_⟩;cases zb:a5 kh [Ct c,Ct name,Ct g] with
  |some v =>
   refine ae rfl ⟨x,C,dx,_,.ref dh,rfl,i.hx,T.cl,T.nh,ot,_,rfl,dh,v,rfl,by rw[<-zb];exact cf.t (k:=[Ct c,Ct name,Ct g]) i.hh y,?_⟩
   exact q v kh m O (λb u _ _ e=>j _ _ e) i G (gq _) (G c name g v zb)
  |none =>
   refine ae rfl ⟨x,dx,_,rfl,i.hx,sE (by decide +kernel) (by decide +kernel) (by decide +kernel) (by decide +kernel),_,rfl,_,rfl,_,rfl,oF.mk rfl i xf (j _ _ yf) zf xg λv xc H2 p W xd=>?_⟩
   have I:∀b xs,O b=bi xs->H2 b=bi xs:=λb xs e=>p _ _ (aj e i.hx) e
   have Y:=p _ _ (aN U) i.hh;have xa:=I _ _ y;have xh:cN H2 M bk:=i.du.keep I fi.ok.ent;refine ae rfl ⟨x,C,dx,_,.ref dh,rfl,W,T.cl,T.nh,ot,_,rfl,dh,_,rfl,eQ.t (k:=[Ct c,Ct name,Ct g]) Y xa (by rw[aQ];omega),?_⟩
   have J:upd H2 dh (.dT (putK kh [Ct c,Ct name,Ct g] v)) dh=ce (putK kh [Ct c,Ct name,Ct g] v):=af;have l:∀b u,b≠dh->H2 b=ih u->upd H2 dh (.dT (putK kh [Ct c,Ct name,Ct g] v)) b=ih u:=λb u n e=>by rw[ag n];exact e
   generalize upd H2 dh (.dT (putK kh [Ct c,Ct name,Ct g] v))=r at J l⊢;have B:∀b xs,H2 b=bi xs->r b=bi xs:=λb xs e=>l _ _ (aj e Y) e
   have ya:=l _ _ U W;have yd:FI C x dx dl de dh yb M (putK kh [Ct c,Ct name,Ct g] v) xc bk r:=⟨ya,l _ _ zc (p _ _ (aj i.hl i.hx) i.hl),l _ _ fi.nn (p _ _ (aj i.he i.hx) i.he),J,xh.keep B fi.ok.ent,fi.ok,fi.nn⟩
   have za:ip r v (d4 bk name (fV (L c) g)):=xd.keep B λx d z=>(l9 fi.ok x d z).2;have zd:h9 r (putK kh [Ct c,Ct name,Ct g] v) bk L:=λk n b u e=>by
    rw[hX]at e
    by_cases z:([Ct k,Ct n,Ct b]:am Key)=[Ct c,Ct name,Ct g]
    ·rw[aB z]at e
     cases e
     injection z with N z;injection z with R z;injection z with S z;injection N with N;injection R with R;injection S with S;rw[N,R,S];exact za
    ·rw[au z]at e
     exact((G k n b u e).keep I λx d z=>(l9 fi.ok x d z).2).keep B λx d z=>(l9 fi.ok x d z).2
   refine ae rfl ⟨x,C,dx,_,.ref dh,rfl,ya,T.cl,T.nh,ot,_,rfl,dh,v,rfl,?_,?_⟩
   ·have:=cf.t (k:=[Ct c,Ct name,Ct g]) J (B _ _ xa)
    rw[hX,aB rfl]at this;exact this
   ·exact q v _ xc r (λb u n1 yh e=>l _ _ yh (p _ _ n1 (j _ _ e))) yd zd (j9 _ _ _) za
structure FB(H:Hp)(t tb:OT)(o:Tp)(ws wb:List V)(Qb:List (CY×List CY))(L:CY->List CY)(bk:Bk):Prop where
 ht:H t=ih (.bw o (.tup ws))
 od:o.dict=none
 fv:cy H ws Qb
 fo:i2 Qb L
 hb:H tb=ih (.tup wb)
 bv:cJ H wb bk
 ok:g5 bk
theorem FB.same{t tb:OT}{a:am V}{bk:Bk}(h:FB H t tb o ws a Qb L bk)(S:aE H Y):FB Y t tb o ws a Qb L bk:=
 ⟨S _ _ h.ht,h.od,h.fv.same S,h.fo,S _ _ h.hb,cJ.same S h.bv,h.ok⟩
theorem FB.a7{t tb:OT}{a:am V}{bk:Bk}(h:FB H t tb o ws a Qb L bk){k:CY}(b:k∈Qb.map (·.1)):(L k).length<=200:=by
 obtain⟨p,c,rfl⟩:=aW.mp b;obtain⟨_,q,_,e,d⟩:=h.fo.line p c;rw[e,cX];omega
inductive o6(C:OT)(vs:List V)(H:Hp)(Q:VK)(E:XK):Prop
 |mk{t tb:OT}{o:Tp}{ws wb:List V}{Qb:List (CY×List CY)}{L:CY->List CY}{bk:Bk}(_:vs=[.ref t,.ref tb])(_:FB H t tb o ws wb Qb L bk)(_:∀x dx dl de dh kl ke Y,aE H Y->FI C x dx dl de dh kl ke [] 0 bk Y->(∀p∈Qb,fZ Y kl L p.1)->H x=none->H dh=none->Q (.ref x) Y):o6 C vs H Q E
theorem Lb:a' ["family","book"] ["family","book"] (aI q4):=bt
theorem JJ(F:aP K "finds_in" "finds_in" q4 f fd)(T:i7 K mg C)
  (S:bQ P w K mg base ay 5 fL dL ["family"] oo "lines_of")
  (V:bQ P w K mg base ay 1 fE dE ["book"] o2 "entries_by_place")
  (M:Mk K C fI) (W:aO P w K mg base ay 1 fI dI ["self","lines","entries"] (oO C)) (Y:Binds K dI ["self","lines","entries"] []):aO P w K mg base ay 6 f fd ["family","book"] (o6 C):=by
 refine F.bx Lb λQa A yc s H vs Q E xa h=>?_
 ·obtain @⟨t,tb,o,ws,yd,Qb,L,bk,rfl,c,q⟩:=h
  have i:aY 5 _:=xa;have B:aY 2 _:=i.mono (by decide)
  have D:aY 1 _:=i.mono (by decide)
  intro X;refine⟨_,aA (aX (ry M W B rfl T.m2 Y .nil b' (aa (bz S i (aa (pv 0) ah)) (aa (bz V D (aa (pv 1) ah)) ah)))),?_⟩;refine ae rfl (oo.mk rfl c.ht c.fv c.fo λdl ya O zc v h1 G _=>?_);have j:=c.same v;refine ae rfl (o2.mk rfl j.hb j.bv j.ok λde za H2 xd m U xb=>?_);intro x dx n I ne;have yb:=aH (o:=.own x) I;have J:upd H2 dx (.own x) x=none:=by rw[ag (aN ne)];exact n
  have g:=yb.trans (aH (o:=.ins C dx []) J);have k:upd (upd H2 dx (.own x)) x (.ins C dx []) x=ih (.ins C dx []):=af;generalize upd (upd H2 dx (.own x)) x (.ins C dx [])=y at g k⊢;refine oO.mk rfl k λdh d=>⟨rfl,?_⟩;have z:=aH (o:=.dT []) d;have N:x≠dh:=ax k d;have r:upd y dh (.dT []) dh=ce []:=af;generalize upd y dh (.dT [])=zb at z r⊢;have l:=v.trans m;have R:=g.trans z;have a:∀b u,H2 b=ih u->upd zb x (.ins C dx (fF dl de dh 0)) b=ih u:=λb u e=>by rw[ag (ax e n)];exact R _ _ e
  refine q x dx dl de dh ya za _ (λb u e=>a _ _ (l _ _ e)) ⟨af,a _ _ (m _ _ h1),a _ _ U,by rw[ag (aN N)];exact r,xb.same a,c.ok,?_⟩ (λp xc=>(G p xc).same λb u e=>a _ _ (m _ _ e)) (l.free n) ((l.trans g).free d)
  exact ax (g _ _ U) d
abbrev Own:=List (CY×Int)
abbrev Ask:=CY×CY
inductive Rs where
 |told (z:Int):Rs
 |miss (n:CY):Rs
def mu(d:O7):Bool:=decide (a4 d = "ahead" \/ a4 d = "shut")
structure bf where
 line:List CY
 bk:Bk
 own:Own
namespace bf
variable(W:bf)
def look(a:Ask):Option (CY×O7):=d4 W.bk a.1 (fV W.line a.2)
def m3(a:Ask):Bool:=match W.look a with|none=>true|some p=>!mu p.2
def fg(a:Ask):Option Int:=if a.2 = "" /\ W.m3 a=true then W.own.lookup a.1 else none
def need(n w:CY)(d:O7):Option Ask:=if a4 d = "ask" then ih (gA d,"") else if a4 d = "onward" then (if (W.look (n,w)).isSome then ih (n,w) else none) else none
end bf
def stepT(t:Int)(d:O7):Int:=if a4 d = "add" then t+gz d else if a4 d = "times" then t * gz d else t
def bf.ec(W:bf)(f:Ask->Option Rs)(n w:CY):List O7->Int->Option Rs
 |[],t=>ih (.told t)
 |d::ds,t=>match W.need n w d with
  |none=>W.ec f n w ds (stepT t d)
  |some b=>match f b with
   |none=>none
   |some (.miss m)=>ih (.miss m)
   |some (.told z)=>W.ec f n w ds (t+z)
def bf.fJ(W:bf)(f:Ask->Option Rs)(a:Ask):Option Rs:=match W.fg a with
 |some z=>ih (.told z)
 |none=>match W.look a with
  |none=>ih (.miss a.1)
  |some (w,d)=>W.ec f a.1 w (bq d) 0
def bf.out(W:bf):Nat->Ask->Option Rs
 |0,_=>none
 |k+1,a=>W.fJ (W.out k) a
def bf.Out(W:bf)(a:Ask)(r:Rs):Prop:= ∃k,W.out k a=ih r
section
variable{W:bf}{f g:Ask->Option Rs}{w:CY}
theorem oe(h:∀a r,f a=ih r->g a=ih r):∀{ds:am O7}{t:Int}{r:Rs},W.ec f n w ds t=ih r->W.ec g n w ds t=ih r
 |[],t,r,e=>e
 |d::ds,t,r,e=>by
  unfold bf.ec at e⊢;cases i:W.need n w d with
  |none=>rw[i]at e;exact oe h e
  |some b =>
   rw[i]at e
   dsimp only at e⊢
   cases c:f b with
   |none=>rw[c]at e;cases e
   |some x =>
    have j:=h b x c;rw[j];rw[c]at e;cases x with
    |miss m=>exact e
    |told z=>exact oe h e
theorem EC(h:∀a r,f a=ih r->g a=ih r){a:Ask}{r:Rs}(e:W.fJ f a=ih r):W.fJ g a=ih r:=by
 unfold bf.fJ at e⊢;cases b:W.fg a with
 |some z=>rw[b]at e;exact e
 |none =>
  rw[b]at e;cases c:W.look a with
  |none=>rw[c]at e;exact e
  |some p=>rw[c]at e;exact oe h e
theorem wD:∀{k:Nat}{a:Ask}{r:Rs},W.out k a=ih r->W.out (k+1) a=ih r
 |0,_,_,h=>by cases h
 |k+1,_,_,h=>EC (λ_ _=>wD) h
theorem oG{k m:Nat}{a:Ask}{r:Rs}(b:k<=m)(h:W.out k a=ih r):W.out m a=ih r:=by
 induction b with
 |refl=>exact h
 |step _ c=>exact wD c
theorem Out.uniq{a:Ask}{r b:Rs}(h:W.Out a r)(h':W.Out a b):r=b:=by
 obtain⟨k,c⟩:=h;obtain⟨m,d⟩:=h';rcases Nat.le_total k m with z|z
 ·have:=oG z c;rw[d]at this;exact(c3 this).symm
 ·have:=oG z d;rw[c]at this;exact c3 this
structure cp where
 a:Ask
 w:CY
 left:List O7
 t:Int
structure cU(W:bf)(f:cp):Prop where
 up:∀k r,W.ec (W.out k) f.a.1 f.w f.left f.t=ih r->W.Out f.a r
 dn:∀k r,W.out (k+1) f.a=ih r->W.ec (W.out k) f.a.1 f.w f.left f.t=ih r
 lk:W.fg f.a=none /\∃d pre,W.look f.a=ih (f.w,d)/\bq d=pre++f.left /\∀s∈pre,∀b,W.need f.a.1 f.w s=ih b ->∃r,W.Out b r
theorem cU.new{a:Ask}{w:CY}{d:O7}(h:W.fg a=none)(b:W.look a=ih (w,d)):cU W ⟨a,w,bq d,0⟩:=by
 have e:∀k,W.out (k+1) a=W.ec (W.out k) a.1 w (bq d) 0:=λk=>by show W.fJ _ a=_;unfold bf.fJ;rw[h,b]
 exact⟨λk r z=>⟨k+1,(e k).trans z⟩,λk r z=>(e k).symm.trans z,h,d,[],b,rfl,λ_ c=>(by cases c)⟩
theorem cU.behind{f:cp}{d:O7}{ds:am O7}(h:cU W f)(e:f.left=d::ds)(i:∀b,W.need f.a.1 f.w d=ih b ->∃r,W.Out b r):W.fg f.a=none /\∃c pre,W.look f.a=ih (f.w,c)/\bq c=pre++ds /\∀s∈pre,∀b,W.need f.a.1 f.w s=ih b ->∃r,W.Out b r:=by
 obtain⟨h1,c,pre,U,j,k⟩:=h.lk;exact⟨h1,c,pre++[d],U,by rw[j,e,ni];rfl,λs l b g=>by
  rcases cq.mp l with z|z
  ·exact k s z b g
  ·rw[b3.mp z]at g;exact i b g⟩
theorem cU.step{f:cp}{d:O7}{ds:am O7}(h:cU W f)(e:f.left=d::ds)(c:W.need f.a.1 f.w d=none):cU W ⟨f.a,f.w,ds,stepT f.t d⟩:=by
 have g:∀k,W.ec (W.out k) f.a.1 f.w f.left f.t=W.ec (W.out k) f.a.1 f.w ds (stepT f.t d):=λk=>by rw[e];show(match W.need f.a.1 f.w d with|none=>_|some b=>_)=_;rw[c]
 exact⟨λk r z=>h.up k r ((g k).trans z),λk r z=>(g k).symm.trans (h.dn k r z),h.behind e λb i=>(by rw[c]at i;cases i)⟩
theorem rS{a:Ask->Option Rs}{d:O7}{ds:am O7}{t:Int}{b:Ask}(c:W.need n w d=ih b):W.ec a n w (d::ds) t=match a b with|none=>none|some (.miss m)=>ih (.miss m)|some (.told z)=>W.ec a n w ds (t+z):=by
 show(match W.need n w d with|none=>_|some b=>_)=_;rw[c]
theorem cU.take{f:cp}{d:O7}{ds:am O7}{b:Ask}(h:cU W f)(e:f.left=d::ds)(i:W.need f.a.1 f.w d=ih b)(l:W.Out b (.told z)):cU W ⟨f.a,f.w,ds,f.t+z⟩:=by
 obtain⟨m,j⟩:=l;refine⟨λk r y=>h.up (max k m) r ?_,λk r y=>?_,h.behind e λn c=>(by rw[i]at c;cases c;exact⟨_,m,j⟩)⟩
 ·rw[e,rS i,oG (Nat.le_max_right k m) j]
  exact oe (λ_ _ q=>oG (Nat.le_max_left k m) q) y
 ·have g:=h.dn k r y
  rw[e,rS i]at g;cases c:W.out k b with
  |none=>rw[c]at g;cases g
  |some x =>
   have:=Out.uniq (W:=W) ⟨k,c⟩ ⟨m,j⟩;subst this;rw[c]at g;exact g
theorem cU.done{f:cp}(h:cU W f)(e:f.left=[]):W.Out f.a (.told f.t):=h.up 0 _ (by rw[e];rfl)
end
abbrev Th:=CY×CY×Own
def iq(H:Hp)(vs:List V)(own:Own):Prop:=Sl (λv q=>∃c,v=V.ref c/\H c=ih (.tup [.str q.1,.int q.2])) vs own
def jL(H:Hp)(vs:List V)(cL:List Th):Prop:=Sl (λv p=>∃a b us,v=V.ref a/\H a=ih (.tup [.str p.1,.str p.2.1,.ref b])/\H b=ih (.tup us)/\iq H us p.2.2) vs cL
theorem iq.keep{own:Own}(h:iq H vs own)(k:∀b xs,H b=bi xs->Y b=bi xs):iq Y vs own:=Paired.imp' (λ_ _ a=>by obtain⟨c,e,q⟩:=a;exact ⟨c,e,k _ _ q⟩) h
theorem jL.keep{c:am Th}(h:jL H vs c)(k:∀b xs,H b=bi xs->Y b=bi xs):jL Y vs c:=Paired.imp' (λ_ _ d=>by obtain⟨a,b,us,e,q,r,o⟩:=d;exact ⟨a,b,us,e,k _ _ q,k _ _ r,o.keep k⟩) h
theorem jL.same{a:am Th}(h:jL H vs a)(S:aE H Y):jL Y vs a:=h.keep λ_ _ e=>S _ _ e
structure iB(H:Hp)(w t tb tt:OT)(wt:List V)(cL:List Th):Prop where
 hw:H w=ih (.tup [.ref t,.ref tb,.ref tt])
 ht:H tt=ih (.tup wt)
 tv:jL H wt cL
 a7:cL.length<=5
 nm:∀p∈cL,Nm p.1
 nd:(cL.map (·.1)).Nodup
theorem iB.same{w t tb b:OT}{c:am V}{a:am Th}(h:iB H w t tb b c a)(S:aE H Y):iB Y w t tb b c a:=⟨S _ _ h.hw,S _ _ h.ht,h.tv.same S,h.a7,h.nm,h.nd⟩
inductive o7(vs:List V)(H:Hp)(Q:VK)(E:XK):Prop
 |mk{x t tb tt:OT}{wt:List V}{cL:List Th}{th:CY}(_:vs=[.ref x,.str th])(_:iB H x t tb tt wt cL)(_:Nm th)(_:∀Y,aE H Y->Q (.bl (decide (th∈cL.map (·.1)))) Y):o7 vs H Q E
theorem Ld:a' ["world","thing"] ["world","thing"] (aI lU):=bt
def AX(e:Si):Si:=match e with|.Compare _ _ (r::_) _=>r|_=>.Constant .none 0 ⟨0,0,0,0⟩
noncomputable abbrev L7:Si:=AX (Aw (kT (cx (bH lU) 0)) 1)
theorem BF:bW ["world","thing"] (aI lU) ["triple"] [none] (cG L7):=c'
theorem JK(F:aP K "is_thing" "is_thing" lU f fd)(B:bQ P w K mg base ay 1 fN dN ["thing"] i1 "is_name"):aO P w K mg base ay 2 f fd ["world","thing"] o7:=by
 refine F.bx Ld λQa A M s H vs Q E C h=>?_
 ·obtain @⟨x,t,tb,D,k,v,th,rfl,h,n,q⟩:=h
  intro X;refine⟨_,aA (aX (iY (bz B C (aa (pv 1) ah)) (jw (gw j' (pv 1) (dg rfl BF (kD (aT bN (pv 0) ar)) (λs H fp=>⟨ba 0 BF.nd,d5,aT (kg K rfl) (pv 0) ar (λ_ _=>rfl)⟩)) rfl)))),?_⟩;refine ae rfl (i1.mk rfl n λO l=>⟨true,rfl,ite_tt rfl ?_⟩);have h1:=h.same l;have a7:=h.a7;have u:=c5 h.tv;refine aV rfl rfl (bc h1.hw mO ⟨D,rfl,⟨_,aU.of h1.ht⟩,λc m=>?_⟩);refine lS (xs:=k) (λi ys d H2=>∃j:a2 V,d=[j]/\aE O H2/\H2 c=bm ys/\ys=((v.take i).map (·.1)).map V.str) ⟨none,rfl,aH m,af,rfl⟩ (λi ys d H2 N=>by obtain⟨_,_,G,I,_⟩:=N;exact ⟨I,aU.of (G _ _ h1.ht)⟩) ?_ ?_
  ·rintro i y ys d H2 r ⟨j,rfl,g,U,rfl⟩
   have z:i<k.length:=(bA.mp r).1;obtain⟨p,J,a,b,us,rfl,L,_⟩:=L2.Paired.get (h1.tv.same g) r;refine ae rfl (bc L cb ⟨U,by rw[aG,aG,b9,aQ];omega,cw_next z ⟨_,rfl,λb o e=>by rw[ag (ax e m)];exact g _ _ e,af,?_⟩⟩)
   rw[dd,J,bo,bo];rfl
  ·rintro ys d H2 ⟨j,rfl,g,U,rfl⟩
   rw[u,cj]at U;refine⟨c,_,rfl,.inl (aq.of U),rfl,kb _,?_⟩;rw[au bV,jq];exact q _ (l.trans g)
inductive o8(vs:List V)(H:Hp)(Q:VK)(E:XK):Prop
 |mk{x t tb tt:OT}{wt:List V}{cL:List Th}{th:CY}(_:vs=[.ref x,.str th])(_:iB H x t tb tt wt cL)(_:th∈cL.map (·.1))(_:∀Y,aE H Y->Q .aM Y):o8 vs H Q E
theorem Le:a' ["world","thing"] ["world","thing"] (aI rK):=bt
theorem JL(F:aP K "check_thing" "check_thing" rK f fd)(b:bQ P w K mg base ay 2 fI dI ["world","thing"] o7 "is_thing"):aO P w K mg base ay 3 f fd ["world","thing"] o8:=by
 refine F.bx Le λQa A i s H vs Q E c h=>?_
 ·obtain @⟨x,t,tb,k,l,j,th,rfl,h,a,q⟩:=h
  intro X;refine⟨_,aA (bF (e8 (eW (bz b c (aa (pv 0) (aa (pv 1) ah))))) lJ bX),?_⟩;obtain⟨p,d,e⟩:=aW.mp a;refine aV rfl rfl (o7.mk rfl h (e ▸ h.nm p d) λO g=>⟨true,?_,q O g⟩);rw[cE a]
def p7(H:Hp)(vs:List V)(cL:List Th):Prop:=Sl (λv p=>∃r b us,v=V.ref r/\H r=ih (.tup [.str p.2.1,.ref b])/\H b=ih (.tup us)/\iq H us p.2.2) vs cL
theorem p7.keep{c:am Th}(h:p7 H vs c)(k:∀b xs,H b=bi xs->Y b=bi xs):p7 Y vs c:=Paired.imp' (λ_ _ d=>by obtain⟨a,b,us,e,q,r,o⟩:=d;exact ⟨a,b,us,e,k _ _ q,k _ _ r,o.keep k⟩) h
inductive o9(vs:List V)(H:Hp)(Q:VK)(E:XK):Prop
 |mk{x t tb tt:OT}{wt:List V}{cL:List Th}{th:Th}(_:vs=[.ref x,.str th.1])(_:iB H x t tb tt wt cL)(_:th∈cL)(_:∀r b us Y,aE H Y->Y r=ih (.tup [.str th.2.1,.ref b])->Y b=ih (.tup us)->iq Y us th.2.2->Q (.ref r) Y):o9 vs H Q E
theorem Lf:a' ["world","thing"] ["world","thing"] (aI lV):=bt
def Lg(e:Si):Si:=match e with|.Subscript o _ _=>o|_=>.Constant .none 0 ⟨0,0,0,0⟩
abbrev L8:Si:=Lg (kT (cx (bH lV) 1))
theorem BG:bW ["world","thing"] (aI lV) ["triple","thing"] [none,ih 1] (cG L8):=c'
theorem JM{a:am Th}(b:(a.map (·.1)).Nodup){p q:Th}(c:p∈a)(d:q∈a)(e:p.1=q.1):p=q:=by
 induction a with
 |nil=>cases c
 |cons x a f =>
  rw[b5,dQ]at b;rcases bu.mp c with h1|Ca
  ·rcases bu.mp d with U|tQ
   ·rw[h1,U]
   ·exact absurd (aW.mpr ⟨q,tQ,by rw[<-e,h1]⟩) b.1
  ·rcases bu.mp d with U|tQ
   ·exact absurd (aW.mpr ⟨p,Ca,by rw[e,U]⟩) b.1
   ·exact f b.2 Ca tQ
theorem JN(F:aP K "kind_and_own" "kind_and_own" lV f fd)(xb:bQ P w K mg base ay 3 fC dC ["world","thing"] o8 "check_thing"):aO P w K mg base ay 4 f fd ["world","thing"] o9:=by
 refine F.bx Lf λQa A yc s H vs Q E yb h=>?_
 ·obtain @⟨x,t,tb,zb,M,d,th,rfl,h,n,q⟩:=h
  intro X;refine⟨_,aw (dX (bz xb yb (aa (pv 0) (aa (pv 1) ah))))
   (aA (aX (aT cM (dg rfl BG (kD (aT bN (pv 0) ar)) (λs H fp=>⟨ba 0 BG.nd,iU (bS eu (aT (kg K rfl) (pv 0) ar) (pv 1) (bM _)),e5 kx (pv 0) (eO ar) fA⟩)) ar))),?_⟩
  refine aV rfl rfl (o8.mk rfl h (aW.mpr ⟨th,n,rfl⟩) λO N=>?_);have h1:=h.same N;have a7:=h.a7;have Y:=c5 h.tv;refine ae rfl (bc h1.hw mO ⟨zb,rfl,⟨_,aU.of h1.ht⟩,λc R=>?_⟩);refine lS (xs:=M) (λi ys l H2=>∃u:a2 V,l=[u,ih (.str th.1)]/\aE O H2/\H2 c=bm ys/\p7 H2 ys ((d.take i).filter λp=>decide (p.1=th.1))) ⟨none,rfl,aH R,af,.nil⟩ (λi ys l H2 ab=>by obtain⟨_,_,z1,z2,_⟩:=ab;exact ⟨z2,aU.of (z1 _ _ h1.ht)⟩) ?_ ?_
  ·rintro i y ys l H2 S ⟨u,rfl,j,U,g⟩
   have I:i<M.length:=(bA.mp S).1;obtain⟨p,B,a,b,us,rfl,T,C,ow⟩:=L2.Paired.get (h1.tv.same j) S;have tk:d.take (i+1)=d.take i++[p]:=by rw[dd,B];rfl
   have yl:=c5 g;have W:((d.take i).filter λp=>decide (p.1=th.1)).length<=(d.take i).length:=hQ _ _;rw[b9]at W;refine ae rfl (bc T cb (ae rfl ⟨rfl,_,rfl,?_⟩));refine cm (λe=>?_) (λe=>?_)
   ·have e:p.1=th.1:=by
     have:=eG e;injection this
    refine ae rfl ⟨1,rfl,a,_,rfl,T,λr D k G=>?_⟩;have G:D r=bi [.str p.2.1,.ref b]:=G;have J:=k _ _ U;have m:∀{zs:am V} b xs,D b=bi xs->upd D c (.lst zs) b=bi xs:=λb xs e=>by rw[ag (aj e J)];exact e
    refine⟨J,by rw[aQ];omega,cw_next I ⟨_,rfl,λb o e=>by rw[ag (ax e R)];exact k _ _ (j _ _ e),af,?_⟩⟩
    rw[tk,gQ,nD (by simp[e])]
    exact hJ ((g.keep λb xs e=>k _ _ e).keep m) ⟨r,b,us,rfl,m _ _ G,m _ _ (k _ _ C),(ow.keep λb xs e=>k _ _ e).keep m⟩
   ·have e : ¬ p.1=th.1:=λz=>e (cE (by rw[z]))
    refine cw_next I (ae rfl ⟨j,U,?_⟩);rw[tk,gQ,qs (by simp[e])]
    simpa using g
  ·rintro ys l H2 ⟨u,rfl,j,U,g⟩
   rw[Y,cj]at g;have L:th∈d.filter λp=>decide (p.1=th.1):=f6.mpr ⟨n,cE rfl⟩;generalize xc:(d.filter λp=>decide (p.1=th.1))=W at g L;cases g with
   |nil=>cases L
   |@cons v p vs fs hv _ =>
    have B:p∈d.filter λp=>decide (p.1=th.1):=by rw[xc];exact aS
    obtain⟨xa,ya⟩:=f6.mp B;obtain rfl:=JM h.nd xa n (eG ya);obtain⟨r,b,us,rfl,za,C,ow⟩:=hv;exact fq U cb (q r b us H2 (N.trans j) za C ow)
def fW(fi ow kp kn:OT)(kd:CY)(bg:Int):List (CY×V):=[("finds",.ref fi),("kind",.str kd),("own",.ref ow),("kept",.ref kp),("known",.ref kn),("begun",.int bg)]
section
variable{fi ow kp kn:OT}{kd:CY}
theorem HP:bR "begun" (.int 0) (bR "known" (.ref kn) (bR "kept" (.ref kp) (bR "own" (.ref ow) (bR "kind" (.str kd) (bR "finds" (.ref fi) [])))))=fW fi ow kp kn kd 0:=rfl
theorem rj:(fW fi ow kp kn kd bg).lookup ("finds" : CY)=ih (V.ref fi):=rfl
theorem rT:(fW fi ow kp kn kd bg).lookup ("kind" : CY)=ih (V.str kd):=rfl
theorem IW:(fW fi ow kp kn kd bg).lookup ("own" : CY)=ih (V.ref ow):=rfl
theorem f9:(fW fi ow kp kn kd bg).lookup ("known" : CY)=ih (V.ref kn):=rfl
theorem zZ:(fW fi ow kp kn kd bg).lookup ("forebears" : CY)=none:=rfl
theorem HQ:(fW fi ow kp kn kd bg).lookup ("tell" : CY)=none:=rfl
end
structure fh(K:S7)(mg:CY->Option i')(C:OT):Prop where
 cl:fj K C
 nf:di K C "finds"
 nk:di K C "kind"
 no:di K C "own"
 np:di K C "kept"
 nn:di K C "known"
 nb:di K C "begun"
 m2:mg "Whole" = ih (.ref C)
inductive oP(C:OT)(vs:List V)(H:Hp)(Q:VK)(E:XK):Prop
 |mk{x fi ow kp dx:OT}{kd:CY}(_:vs=[.ref x,.ref fi,.str kd,.ref ow,.ref kp])(_:H x=ih (.ins C dx []))(_:H kp=ih (.dT []))(_:∀kn,H kn=none->Q .aM (upd (upd H kn (.dT [])) x (.ins C dx (fW fi ow kp kn kd 0)))):oP C vs H Q E
noncomputable abbrev mQ:List CY:=["self","finds","kind","own","kept"]
theorem JO:a' mQ mQ (aI sb):=bt
theorem IX(F:aP K "__init__" "Whole.__init__" sb f fd)(k:fQ mg)(T:fh K mg C):aO P w K mg base ay 1 f fd mQ (oP C):=by
 refine F.bx JO λQa A l s H vs Q E m h=>?_
 ·obtain @⟨x,fi,ow,kp,dx,kd,rfl,c,d,q⟩:=h
  have i:kp≠x:=aj d c
  intro X;refine⟨_,aw (eY (pv 0) (pv 1) rfl) (aw (eY (pv 0) (pv 2) rfl) (aw (eY (pv 0) (pv 3) rfl) (aw (eY (pv 0) (pv 4) rfl) (aw (eY (pv 0) (dy Ex rfl k.dict boot_dict (aa (pv 4) ah)) rfl) (aA (eY (pv 0) ar rfl)))))),?_⟩;refine aV rfl rfl ⟨x,C,dx,[],rfl,c,T.cl,T.nf,(by show 0<1000;decide),?_⟩
  refine aV rfl rfl ⟨x,C,dx,_,rfl,af,T.cl,T.nk,(by show 1<1000;decide),?_⟩
  rw[eN];refine aV rfl rfl ⟨x,C,dx,_,rfl,af,T.cl,T.no,(by show 2<1000;decide),?_⟩
  rw[eN];refine aV rfl rfl ⟨x,C,dx,_,rfl,af,T.cl,T.np,(by show 3<1000;decide),?_⟩
  rw[eN];refine ae rfl ⟨kp,rfl,by rw[ag i];exact d,λkn a=>?_⟩
  have g:x≠kn:=ax af a;refine ae rfl ⟨x,C,dx,_,rfl,by rw[ag g];exact af,T.cl,T.nn,(by show 4<1000;decide),?_⟩
  refine ae rfl ⟨x,C,dx,_,rfl,af,T.cl,T.nb,(by show 5<1000;decide),?_⟩
  rw[eN,HP];have j:H kn=none:=by
   cases e:H kn with
   |none=>rfl
   |some u=>rw[ag (aN g),e]at a;cases a
  have e:∀o o':HO,upd (upd (upd H x o) kn (.dT [])) x o'=upd (upd H kn (.dT [])) x o':=λo o'=>by
   funext b
   by_cases h1:b=x
   ·subst h1;rw[af,af]
   ·rw[ag h1,ag h1]
    by_cases U:b=kn
    ·subst U;rw[af,af]
    ·rw[ag U,ag U,ag h1]
  rw[e];exact q kn j
structure WI(C D x dx fi fx dl de dh ow kp kn:OT)(kd:CY)(bg:Int)(kl ko:List (Key×V))(ke kh kk:List (List Key×V))(m:Int)(bk:Bk)(H:Hp):Prop where
 n3:x≠fi
 hx:H x=ih (.ins C dx (fW fi ow kp kn kd bg))
 fi:FI D fi fx dl de dh kl ke kh m bk H
 ho:H ow=ih (.dK ko)
 hk:H kn=ih (.dT kk)
 n1:kn≠de
 n2:kn≠dh
inductive kI(C D:OT)(vs:List V)(H:Hp)(Q:VK)(E:XK):Prop
 |mk{x dx fi fx dl de dh ow kp kn a:OT}{kd:CY}{bg:Int}{kl ko:List (Key×V)}{ke kh kk:List (List Key×V)}{m:Int}{bk:Bk}(_:vs=[.ref x])(_:WI C D x dx fi fx dl de dh ow kp kn kd bg kl ko ke kh kk m bk H)(_:a5 kl (Ct kd)=ih (.ref a))(_:Q (.ref a) H):kI C D vs H Q E
theorem IY:a' ["self"] ["self"] (aI qK):=bt
theorem z'(F:aP K "forebears" "Whole.forebears" qK f fd)(T:fh K mg C)(b:i7 K mg D):aO P w K mg base ay 1 f fd ["self"] (kI C D):=by
 refine F.bx IY λQa A j s H vs Q E c h=>?_
 ·obtain @⟨x,dx,fi,d,dl,de,dh,ow,kp,kn,a,kd,bg,g,k,l,kh,kk,m,bk,rfl,h,e,q⟩:=h
  have i:=c.units;intro X;refine⟨_,aA (aX (eV (d9 i) (bY (bY (pv 0) rfl) rfl) (bY (pv 0) rfl))),?_⟩;refine ae rfl ⟨x,C,dx,_,.ref fi,rfl,h.hx,T.cl,T.nf,rj,fi,D,d,_,.ref dl,rfl,h.fi.hx,b.cl,b.nl,wC,_,rfl,x,C,dx,_,.str kd,rfl,h.hx,T.cl,T.nk,rT,dl,.ref a,rfl,.inl ⟨g,Ct kd,.inl h.fi.hl,rfl,e.symm⟩,q⟩
end dq
namespace L2
open W
theorem IZ:sN X .Mult (rI mI λi j=>.int (i * j)):=λJ s σ H x y u v Q I a b h=>GN J s σ H x y u v Q I a b h
end L2
namespace dq
open L2 W HT
theorem Aa{u:V}{d:O7}(e:Ent d)(r:Rep H u d):∃a xs,u=.ref a/\H a=bi (.str (a4 d)::xs):=by
 cases e with
 |plain n=>obtain⟨a,u,rfl,b,_⟩:=two1 r;exact⟨a,_,rfl,b⟩
 |behind ds=>obtain⟨a,u,rfl,b,_⟩:=two1 r;exact⟨a,_,rfl,b⟩
 |i6 ds=>obtain⟨a,u,rfl,b,_⟩:=two1 r;exact⟨a,_,rfl,b⟩
 |ahead x n =>
  obtain⟨a,vs,rfl,b,rs⟩:=r.tupI;obtain⟨f,g,rfl,c,rs⟩:=rs.d7;obtain rfl:=c.gk;exact⟨a,_,rfl,b⟩
theorem wF{d:O7}(e:Ent d):(∀s∈bq d,dr s)/\(bq d).length<=4:=by
 cases e with
 |plain n h=>exact⟨λs a=>by rw[b3.mp a];exact .add n h,by show 1<=4;decide⟩
 |ahead x n h c =>
  refine⟨λs a=>?_,by show 2<=4;decide⟩
  rcases bu.mp a with z|z
  ·rw[z];exact .ask x h
  ·rw[b3.mp z];exact .add n c
 |behind ds b a=>exact⟨a,b⟩
 |i6 ds b a=>exact⟨a,b⟩
theorem rV{u:V}{d:O7}(e:dr d)(r:Rep H u d):∃a xs,u=.ref a/\H a=bi (.str (a4 d)::xs)/\(a4 d = "add" \/ a4 d = "times" -> xs=[.int (gz d)])/\(a4 d = "ask" -> xs=[.str (gA d)])/\(a4 d = "times" -> -9<=gz d/\gz d<=9):=by
 cases e with
 |add n =>
  obtain⟨a,u,rfl,b,c⟩:=two1 r;obtain rfl:=c.g4;exact⟨a,_,rfl,b,λ_=>rfl,λz=>absurd z (by show ¬ ((("add" : CY)) = "ask");decide +kernel),λz=>absurd z (by show ¬ ((("add" : CY)) = "times");decide +kernel)⟩
 |times n lo hi =>
  obtain⟨a,u,rfl,b,c⟩:=two1 r;obtain rfl:=c.g4;exact⟨a,_,rfl,b,λ_=>rfl,λz=>absurd z (by show ¬ ((("times" : CY)) = "ask");decide +kernel),λ_=>⟨lo,hi⟩⟩
 |ask x =>
  obtain⟨a,u,rfl,b,c⟩:=two1 r;obtain rfl:=c.gk;exact⟨a,_,rfl,b,λz=>absurd z (by show ¬ ((("ask" : CY)) = "add" \/ (("ask" : CY)) = "times");decide +kernel),λ_=>rfl,λz=>absurd z (by show ¬ ((("ask" : CY)) = "times");decide +kernel)⟩
 |oE =>
  obtain⟨a,vs,rfl,b,rs⟩:=r.tupI;obtain⟨g,h,rfl,f,rs⟩:=rs.d7;obtain rfl:=rs.kU;obtain rfl:=f.gk;exact⟨a,_,rfl,b,λz=>absurd z (by show ¬ ((("onward" : CY)) = "add" \/ (("onward" : CY)) = "times");decide +kernel),λz=>absurd z (by show ¬ ((("onward" : CY)) = "ask");decide +kernel),λz=>absurd z (by show ¬ ((("onward" : CY)) = "times");decide +kernel)⟩
inductive pb(vs:List V)(H:Hp)(Q:VK)(E:XK):Prop
 |mk{u:V}{d:O7}(_:vs=[u])(_:Ent d)(_:Rep H u d)(_:∀Y,aE H Y->Q (.bl (mu d)) Y):pb vs H Q E
theorem Lh:a' ["entry"] ["entry"] (aI qJ):=bt
theorem JP(F:aP K "goes_first" "goes_first" qJ f fd):aO P w K mg base ay 1 f fd ["entry"] pb:=by
 refine F.bx Lh λQa A j s H vs Q E k h=>?_
 ·obtain @⟨u,d,rfl,b,r,q⟩:=h
  intro X;refine⟨_,aA (aX (gw j' (aT bN (pv 0) ar) (c4 (aa b6 (aa b6 ah))) rfl)),?_⟩;obtain⟨a,xs,rfl,g⟩:=Aa b r;refine ae rfl (bc g cb ⟨b8,λc i=>?_⟩);refine⟨c,_,rfl,.inr (aU.of af),rfl,rfl,?_⟩;have e:k5 (.str (a4 d)) ((["ahead","shut"]:am CY).map V.str)=mu d:=by rw[jq];unfold mu;exact decide_eq_decide.mpr (by simp)
  have:=q _ (aH (o:=.tup [V.str "ahead",V.str "shut"]) i);rw[<-e]at this;exact this
inductive pd(vs:List V)(H:Hp)(Q:VK)(E:XK):Prop
 |mk{u:V}{d:O7}(_:vs=[u])(_:Ent d)(_:Rep H u d)(_:a4 d ≠ "plain")(_:∀r us Y,aE H Y->Y r=ih (.tup us)->bI Y us (bq d)->Q (.ref r) Y):pd vs H Q E
theorem Li:a' ["entry"] ["entry"] (aI q3):=bt
theorem JQ(F:aP K "steps_of" "steps_of" q3 f fd):aO P w K mg base ay 1 f fd ["entry"] pd:=by
 refine F.bx Li λQa A G s H vs Q E I h=>?_
 ·obtain @⟨u,d,rfl,l,r,m,q⟩:=h
  intro X;refine⟨_,aw (bF (bS eu (aT bN (pv 0) ar) b6 (bM _)) (aA (aX (c4 (aa (c4 (aa b6 (aa (aT bN (pv 0) ar) ah))) (aa (c4 (aa b6 (aa (aT bN (pv 0) ar) ah))) ah))))) bX)
   (aA (aX (aT bN (pv 0) ar))),?_⟩
  cases l with
  |plain n=>exact absurd rfl m
  |ahead x n h J =>
   obtain⟨a,vs,rfl,c,rs⟩:=r.tupI;obtain⟨L,M,rfl,p,rs⟩:=rs.d7;obtain⟨N,O,rfl,e,rs⟩:=rs.d7;obtain⟨R,S,rfl,t,rs⟩:=rs.d7;obtain rfl:=rs.kU;obtain rfl:=p.gk;obtain rfl:=e.gk;obtain rfl:=t.g4;refine ae rfl (bc c cb ⟨rfl,_,rfl,?_⟩);refine ae rfl (bc c ea ⟨b8,λv h1=>?_⟩);have j:=aH (o:=.tup [V.str "ask",.str x]) h1;refine ae rfl (bc (j _ _ c) mO ⟨b8,λy U=>⟨b8,λz B=>?_⟩⟩);have k:=aH (o:=.tup [V.str "add",.int n]) U;have g:=aH (o:=.tup [V.ref v,.ref y]) B;exact q z _ _ (j.trans (k.trans g)) af (.cons (.tup (g _ _ (k _ _ af)) (.cons (.str _) (.cons (.str _) .nil))) (.cons (.tup (g _ _ af) (.cons (.str _) (.cons (.int _) .nil))) .nil))
  |behind ds C D =>
   obtain⟨a,u,rfl,c,e⟩:=two1 r;obtain⟨b,vs,rfl,i,rs⟩:=e.tupI;exact ae rfl (bc c cb ⟨rfl,_,rfl,_,rfl,bc c ea (q b vs H (aE.refl _) i rs)⟩)
  |i6 ds C D =>
   obtain⟨a,u,rfl,c,e⟩:=two1 r;obtain⟨b,vs,rfl,i,rs⟩:=e.tupI;exact ae rfl (bc c cb ⟨rfl,_,rfl,_,rfl,bc c ea (q b vs H (aE.refl _) i rs)⟩)
def fR(ta lf rs:OT)(wh:CY)(t:Int):List (CY×V):=[("asking",.ref ta),("where",.str wh),("left",.ref lf),("total",.int t),("rested",.ref rs)]
section
variable{ta lf rs:OT}{wh:CY}{t t':Int}
theorem sf:bR "total" (.int t') (fR ta lf rs wh t)=fR ta lf rs wh t':=rfl
theorem oH:(fR ta lf rs wh t).lookup ("asking" : CY)=ih (V.ref ta):=rfl
theorem wG:(fR ta lf rs wh t).lookup ("where" : CY)=ih (V.str wh):=rfl
theorem ou:(fR ta lf rs wh t).lookup ("left" : CY)=ih (V.ref lf):=rfl
theorem og:(fR ta lf rs wh t).lookup ("total" : CY)=ih (V.int t):=rfl
theorem vI:(fR ta lf rs wh t).lookup ("rested" : CY)=ih (V.ref rs):=rfl
end
structure ir(K:S7)(mg:CY->Option i')(C:OT):Prop where
 cl:fj K C
 na:di K C "asking"
 nw:di K C "where"
 nl:di K C "left"
 nt:di K C "total"
 nr:di K C "rested"
 m2:mg "Reckoning" = ih (.ref C)
inductive pe(C:OT)(vs:List V)(H:Hp)(Q:VK)(E:XK):Prop
 |mk{x ta ts dx:OT}{wh n b:CY}{us:List V}(_:vs=[.ref x,.ref ta,.str wh,.ref ts])(_:H x=ih (.ins C dx []))(_:H ta=ih (.tup [.str n,.str b]))(_:H ts=ih (.tup us))
  (_:∀lf rs Y,H lf=none->H rs=none->lf≠rs->(∀y u,y≠x->H y=ih u->Y y=ih u)->Y x=ih (.ins C dx (fR ta lf rs wh 0))->Y lf=ih (.lst us)->Y rs=ih (.lst [.str n])->Q .aM Y):pe C vs H Q E
noncomputable abbrev m4:List CY:=["self","asking","where","steps"]
theorem Lj:a' m4 m4 (aI sd):=bt
theorem JR(F:aP K "__init__" "Reckoning.__init__" sd f fd)(B:dc mg)(T:ir K mg C):aO P w K mg base ay 1 f fd m4 (pe C):=by
 refine F.bx Lj λQa A L s H vs Q E M h=>?_
 ·obtain @⟨x,ta,D,dx,wh,n,b,us,rfl,j,r,t,q⟩:=h
  intro X;refine⟨_,aw (eY (pv 0) (pv 1) rfl) (aw (eY (pv 0) (pv 2) rfl) (aw (eY (pv 0) (dy iP rfl B.list boot_list (aa (pv 3) ah)) rfl) (aw (eY (pv 0) ar rfl) (aA (eY (pv 0) (er (aa (aT bN (pv 1) ar) ah)) rfl))))),?_⟩;have I:D≠x:=aj t j
  have J:ta≠x:=aj r j
  refine aV rfl rfl ⟨x,C,dx,[],rfl,j,T.cl,T.na,(by show 0<1000;decide),?_⟩
  refine aV rfl rfl ⟨x,C,dx,_,rfl,af,T.cl,T.nw,(by show 1<1000;decide),?_⟩
  rw[eN];refine ae rfl ⟨D,us,rfl,.inr (aU.of (by rw[ag I];exact t)),λlf g=>?_⟩
  have c:x≠lf:=ax af g;have m:H lf=none:=by rw[ag (aN c)]at g;exact g
  refine ae rfl ⟨x,C,dx,_,rfl,by rw[ag c];exact af,T.cl,T.nl,(by show 2<1000;decide),?_⟩
  refine ae rfl ⟨x,C,dx,_,rfl,af,T.cl,T.nt,(by show 3<1000;decide),?_⟩
  rw[eN];have k:∀u,upd (upd (upd H x (.ins C dx (bR "where" (.str wh) (bR "asking" (.ref ta) [])))) lf (.lst us)) x u x=ih u:=λu=>af;have l:∀u,upd (upd (upd H x (.ins C dx (bR "where" (.str wh) (bR "asking" (.ref ta) [])))) lf (.lst us)) x u lf=bm us:=λu=>by rw[ag (aN c)];exact af
  have d:∀u y o,y≠x->H y=ih o->upd (upd (upd H x (.ins C dx (bR "where" (.str wh) (bR "asking" (.ref ta) [])))) lf (.lst us)) x u y=ih o:=λu y o n e=>by rw[ag n,ag (ax e m),ag n];exact e
  generalize (upd (upd (upd H x (.ins C dx (bR "where" (.str wh) (bR "asking" (.ref ta) [])))) lf (.lst us)) x)=G at k l d⊢;refine ae rfl (bc (d _ _ _ J r) cb ⟨ey,λrs a=>?_⟩);have i:x≠rs:=ax (k _) a;have v:lf≠rs:=ax (l _) a;have p:H rs=none:=by
   cases e:H rs with
   |none=>rfl
   |some o=>rw[d _ _ _ (aN i) e]at a;cases a
  refine ae rfl ⟨x,C,dx,_,rfl,by rw[ag i];exact k _,T.cl,T.nr,(by show 4<1000;decide),?_⟩
  refine q lf rs _ m p v (λy u n e=>?_) (by rw[af];rfl) (by rw[ag (aN c),ag v];exact l _) (by rw[ag (aN i)];exact af)
  rw[ag n,ag (ax e p)];exact d _ _ _ n e
inductive pf(C:OT)(vs:List V)(H:Hp)(Q:VK)(E:XK):Prop
 |mk{x ta lf rs dx:OT}{wh:CY}{t:Int}{u:V}{d:O7}(_:vs=[.ref x,u])(_:H x=ih (.ins C dx (fR ta lf rs wh t)))(_:dr d)(_:Rep H u d)(_:∀Y,(∀y o,y≠x->H y=ih o->Y y=ih o)->Y x=ih (.ins C dx (fR ta lf rs wh (stepT t d)))->Q .aM Y):pf C vs H Q E
theorem Lk:a' ["self","step"] ["self","step"] (aI rP):=bt
theorem JS(F:aP K "step_by" "Reckoning.step_by" rP f fd)(T:ir K mg C):aO P w K mg base ay 1 f fd ["self","step"] (pf C):=by
 refine F.bx Lk λQa A l s H vs Q E m h=>?_
 ·obtain @⟨x,ta,lf,rs,dx,wh,t,u,d,rfl,c,st,r,q⟩:=h
  intro X;refine⟨_,aw (bF (bS eu (aT bN (pv 1) ar) b6 (bM _)) (aA (lL (pv 0) (aT bN (pv 1) ar) oz)) bX)
   (aA (bF (bS eu (aT bN (pv 1) ar) b6 (bM _)) (aA (lL (pv 0) (aT bN (pv 1) ar) IZ)) bX)),?_⟩
  obtain⟨a,xs,rfl,g,h1,U,k⟩:=rV st r;have j:a≠x:=aj g c
  refine ae rfl (bc g cb ⟨rfl,_,rfl,?_⟩);refine cm (λe=>?_) (λe=>?_)
  ·have e:a4 d = "add" :=by
    have:=eG e;injection this
   obtain rfl:=h1 (.inl e);have i:stepT t d=t+gz d:=by unfold stepT;rw[aB e]
   rw[i]at q;refine ae rfl ⟨x,C,dx,_,.int t,rfl,c,T.cl,T.nt,og,_,rfl,bc g ea ⟨_,_,rfl,rfl,dx,_,c,by show 5<1000;decide,?_⟩⟩
   rw[sf];refine ae rfl (bc (by rw[ag j];exact g) cb ⟨rfl,_,rfl,?_⟩)
   exact cm (λz=>absurd z (by rw[e];decide +kernel)) (λ_=>q _ (λy o n z=>by rw[ag n];exact z) af)
  ·have e : ¬ a4 d = "add" :=λz=>e (by rw[z];exact cE rfl)
   refine ae rfl (bc g cb ⟨rfl,_,rfl,?_⟩);refine cm (λb=>?_) (λb=>?_)
   ·have b:a4 d = "times" :=by
     have:=eG b;injection this
    obtain rfl:=h1 (.inr b);have i:stepT t d=t * gz d:=by unfold stepT;rw[au e,aB b]
    rw[i]at q;have p:=k b;refine ae rfl ⟨x,C,dx,_,.int t,rfl,c,T.cl,T.nt,og,_,rfl,bc g ea ⟨_,_,rfl,rfl,.inr ⟨by omega,by omega⟩,dx,_,c,by show 5<1000;decide,?_⟩⟩
    rw[sf];exact q _ (λy o n z=>by rw[ag n];exact z) af
   ·have b : ¬ a4 d = "times" :=λz=>b (by rw[z];exact cE rfl)
    have i:stepT t d=t:=by unfold stepT;rw[au e,au b]
    rw[i]at q;exact q _ (λy o n z=>z) c
inductive pj(C:OT)(vs:List V)(H:Hp)(Q:VK)(E:XK):Prop
 |mk{x ta lf rs dx tt ns:OT}{wh:CY}{t z:Int}{y:V}{rv nv:List V}(_:vs=[.ref x,.ref tt])(_:H x=ih (.ins C dx (fR ta lf rs wh t)))(_:H rs=ih (.lst rv))(_:H tt=ih (.tup [y,.int z,.ref ns]))(_:H ns=ih (.tup nv))(_:rv.length+nv.length<=1000)
  (_:∀Y,(∀y o,y≠x->y≠rs->H y=ih o->Y y=ih o)->Y x=ih (.ins C dx (fR ta lf rs wh (t+z)))->Y rs=ih (.lst (rv++nv))->Q .aM Y):pj C vs H Q E
theorem Ll:a' ["self","told"] ["self","told"] (aI rQ):=bt
theorem JT(F:aP K "take_in" "Reckoning.take_in" rQ f fd)(T:ir K mg C):aO P w K mg base ay 1 f fd ["self","told"] (pj C):=by
 refine F.bx Ll λQa A r s H vs Q E u h=>?_
 ·obtain @⟨x,ta,lf,rs,dx,j,ns,wh,t,z,y,i,k,rfl,a,d,b,g,v,q⟩:=h
  intro X;refine⟨_,aw (lL (pv 0) (aT bN (pv 1) ar) oz)
   (aA (dX (fB hR PySem.F.slot_list_extend PySem.F.type_list_extend Ez (bY (pv 0) rfl) (aa (aT bN (pv 1) ar) ah)))),?_⟩
  have n1:rs≠x:=aj d a
  have l:j≠x:=aj b a
  have m:ns≠x:=aj g a
  refine ae rfl ⟨x,C,dx,_,.int t,rfl,a,T.cl,T.nt,og,_,rfl,bc b ea ⟨_,_,rfl,rfl,dx,_,a,by show 5<1000;decide,?_⟩⟩
  rw[sf];have c:upd H x (.ins C dx (fR ta lf rs wh (t+z))) rs=bm i:=by rw[ag n1];exact d
  refine ae rfl ⟨x,C,dx,_,.ref rs,rfl,af,T.cl,T.nr,vI,.inl ⟨rfl,_,aq.of c⟩,_,rfl,bc (by rw[ag l];exact b) mO ⟨rs,ns,i,k,rfl,rfl,c,by rw[ag m];exact g,by rw[aQ];omega,?_⟩⟩
  exact q _ (λy o n p e=>by rw[ag p,ag n];exact e) (by rw[ag (aN n1)];exact af) af
def g6(own:Own):List (Key×V):=kE (own.map λq=>(q.1,V.int q.2))
theorem HR(n:CY):∀own:Own,a5 (g6 own) (Ct n)=(own.lookup n).map V.int:=by
 intro own
 induction own with
 |nil=>rfl
 |cons p own a =>
  show a5 ((Ct p.1,V.int p.2)::g6 own) (Ct n)=(((p.1,p.2)::own).lookup n).map V.int
  by_cases e:p.1=n
  ·rw[eL (by rw[e]),ef,show(n==p.1)=true by simp[e]];rfl
  ·rw[dV (λz=>e (f5 z)),a,ef,show(n==p.1)=false by simp[aN e]]
def cg(a:Ask):List Key:=[Ct a.1,Ct a.2]
theorem wH{a b:Ask}(h:cg a=cg b):a=b:=by
 unfold cg at h;injection h with h1 U;injection U with c _;exact jV (f5 h1) (f5 c)
def cO(W:bf)(a:Ask):CY:=match W.fg a with
 |some _ => ""
 |none=>match W.look a with
  |some p=>p.1
  |none => ""
def gI(H:Hp)(W:bf)(NU:List CY)(kk:List (List Key×V))(ka:List (Ask×Int)):Prop:=Sl (λkv p=>kv.1=cg p.1 /\∃(t:OT) (y:V) (ns:OT) (nv:List CY),kv.2=V.ref t/\H t=ih (.tup [y,.int p.2,.ref ns])/\H ns=ih (.tup (nv.map V.str))/\nv.Nodup/\(∀y∈nv,y∈NU)/\y=V.str (cO W p.1)) kk ka
theorem gI.keep{W:bf}{a:am (Ask×Int)}(h:gI H W NU kk a)(k:∀b xs,H b=bi xs->Y b=bi xs):gI Y W NU kk a:=Paired.imp' (λ_ _ j=>by obtain⟨e,t,y,ns,c,d,f,g,i⟩:=j;exact ⟨e,t,y,ns,c,d,k _ _ f,k _ _ g,i⟩) h
theorem gI.val{W:bf}{d:am (Ask×Int)}(h:gI H W NU kk d)(a:Ask):(a5 kk (cg a)=none /\∀z,(a,z)∉ d) \/∃(v:V) (z:Int) (t:OT) (y:V) (ns:OT) (b:am CY),a5 kk (cg a)=ih v/\(a,z)∈d/\v=V.ref t/\H t=bi [y,.int z,.ref ns]/\H ns=bi (b.map V.str)/\b.Nodup/\(∀y∈b,y∈NU)/\y=V.str (cO W a):=by
 induction h with
 |nil=>exact .inl ⟨rfl,λz h=>by cases h⟩
 |@cons i p kk d e _ l =>
  obtain⟨j,t,y,ns,b,m,n,o,q,k⟩:=e
  by_cases c:p.1=a
  ·exact .inr ⟨i.2,p.2,t,y,ns,b,eL (by rw[j,c]),by rw[<-c];exact aS,m,n,o,q,k.1,by rw[<-c];exact k.2⟩
  ·have ne : ¬ i.1=cg a:=λz=>c (wH (j.symm.trans z))
   rcases l with⟨f,g⟩|⟨v,z,t,y,ns,b,f,g,r⟩
   ·refine .inl ⟨by rw[dV ne];exact f,λz s=>?_⟩
    rcases bu.mp s with y|y
    ·exact c (by rw[<-y])
    ·exact g z y
   ·exact .inr ⟨v,z,t,y,ns,b,by rw[dV ne];exact f,a8 _ g,r⟩
def UA(W:bf)(NU:List CY)(a:Ask):Prop:=a.1∈NU/\(a.2 = "" \/ a.2∈W.line)
structure f3(W:bf)(NU:List CY):Prop where
 bk:g5 W.bk
 ask:∀p∈W.bk,∀s∈bq p.2.2,a4 s = "ask" -> gA s∈NU
 nm:∀n∈NU,Nm n
 a7:NU.length<=20
 ln:W.line.length<=9
 lm:∀k∈W.line,Nm k
structure Wh where
 (x dx fi fx dl de dh ow kp kn:OT)
 (kd:CY)
 (kl:List (Key×V))
 (ke:List (List Key×V))
 (W:bf)
 (L:CY->List CY)
 (NU:List CY)
structure bE(C D:OT)(S:Wh)(bg m:Int)(kh kk kq:List (List Key×V))(ka:List (Ask×Int))(H:Hp):Prop where
 n3:S.x≠S.fi
 hx:H S.x=ih (.ins C S.dx (fW S.fi S.ow S.kp S.kn S.kd bg))
 fi:FI D S.fi S.fx S.dl S.de S.dh S.kl S.ke kh m S.W.bk H
 ho:H S.ow=ih (.dK (g6 S.W.own))
 hk:H S.kn=ih (.dT kk)
 hq:H S.kp=ih (.dT kq)
 n1:S.kn≠S.de/\S.kn≠S.dh/\S.kp≠S.de/\S.kp≠S.dh/\S.kn≠S.kp
 ln:fZ H S.kl S.L S.kd
 el:S.L S.kd=S.W.line
 k7:h9 H kh S.W.bk S.L
 kv:gI H S.W S.NU kk ka
 ok:∀p∈ka,S.W.Out p.1 (.told p.2)
 nd:(ka.map (·.1)).Nodup
 g9:∀p∈ka,UA S.W S.NU p.1
 ql:kq.length<=kk.length
def Kp(S:Wh)(H Y:Hp):Prop:= ∀b o,b≠S.fi->b≠S.dh->H b=ih o->Y b=ih o
theorem bE.same{S:Wh}{a:am (Ask×Int)}(h:bE C D S bg m kh kk kq a H)(s:aE H Y):bE C D S bg m kh kk kq a Y:=
 ⟨h.n3,s _ _ h.hx,⟨s _ _ h.fi.hx,s _ _ h.fi.hl,s _ _ h.fi.he,s _ _ h.fi.hh,h.fi.du.same s,h.fi.ok,h.fi.nn⟩,s _ _ h.ho,s _ _ h.hk,s _ _ h.hq,h.n1,h.ln.same s,h.el,h.k7.keep h.fi.ok λb xs e=>s _ _ e,h.kv.keep λb xs e=>s _ _ e,h.ok,h.nd,h.g9,h.ql⟩
theorem bE.write{S:Wh}{f:am (Ask×Int)}(h:bE C D S bg m kh kk kq f H)(k:∀b o,(∀xs,o≠HO.lst xs)->(∀dx fs,(b=S.x\/b=S.fi) \/∀c,o≠HO.ins c dx fs)->H b=ih o->Y b=ih o):bE C D S bg m kh kk kq f Y:=by
 have a:∀b xs,H b=bi xs->Y b=bi xs:=λb xs e=>k b _ (by intro _ z;cases z) (λ_ _=>.inr (by intro _ z;cases z)) e
 have d:∀b xs,H b=ce xs->Y b=ce xs:=λb xs e=>k b _ (by intro _ z;cases z) (λ_ _=>.inr (by intro _ z;cases z)) e
 have g:∀b xs,H b=bn xs->Y b=bn xs:=λb xs e=>k b _ (by intro _ z;cases z) (λ_ _=>.inr (by intro _ z;cases z)) e
 obtain⟨i,j,l⟩:=h.ln;exact⟨h.n3,k _ _ (by intro _ z;cases z) (λ_ _=>.inl (.inl rfl)) h.hx,⟨k _ _ (by intro _ z;cases z) (λ_ _=>.inl (.inr rfl)) h.fi.hx,g _ _ h.fi.hl,d _ _ h.fi.he,d _ _ h.fi.hh,h.fi.du.keep a h.fi.ok.ent,h.fi.ok,h.fi.nn⟩,g _ _ h.ho,d _ _ h.hk,d _ _ h.hq,h.n1,⟨i,j,a _ _ l⟩,h.el,h.k7.keep h.fi.ok a,h.kv.keep a,h.ok,h.nd,h.g9,h.ql⟩
theorem bE.looked{S:Wh}{c:Int}{a:am (List Key×V)}{d:am (Ask×Int)}(h:bE C D S bg m kh kk kq d H)(k:Kp S H Y)(fi:FI D S.fi S.fx S.dl S.de S.dh S.kl S.ke a c S.W.bk Y)(g:h9 Y a S.W.bk S.L):bE C D S bg c a kk kq d Y:=by
 have f:∀b xs,H b=bi xs->Y b=bi xs:=λb xs e=>k _ _ (aj e h.fi.hx) (aj e h.fi.hh) e
 obtain⟨i,j,l⟩:=h.ln;exact⟨h.n3,k _ _ h.n3 (aj h.hx h.fi.hh) h.hx,fi,k _ _ (aj h.ho h.fi.hx) (aj h.ho h.fi.hh) h.ho,k _ _ (aj h.hk h.fi.hx) h.n1.2.1 h.hk,k _ _ (aj h.hq h.fi.hx) h.n1.2.2.2.1 h.hq,h.n1,⟨i,j,f _ _ l⟩,h.el,g,h.kv.keep f,h.ok,h.nd,h.g9,h.ql⟩
theorem Fp{W:bf}{a:Ask}(h:W.Out a (.told z))(ne:a.2 ≠ ""):(W.look a).isSome=true:=by
 obtain⟨k,b⟩:=h;cases k with
 |zero=>cases b
 |succ k =>
  have b:W.fJ (W.out k) a=ih (.told z):=b;unfold bf.fJ at b;rw[show W.fg a=none by unfold bf.fg;exact au λy=>ne y.1]at b
  cases e:W.look a with
  |none=>rw[e]at b;cases b
  |some p=>rfl
theorem oy{W:bf}{a:Ask}{wh:CY}{d:O7}(h:W.look a=ih (wh,d)):wh∈W.line:=by
 have:=(oq h).1;unfold fV at this;split at this
 ·exact this
 ·exact PY this
inductive pk(C D R:OT)(vs:List V)(H:Hp)(Q:VK)(E:XK):Prop
 |mk{S:Wh}{bg m:Int}{kh kk kq:List (List Key×V)}{ka:List (Ask×Int)}{r L9 ta lf rs:OT}{wh:CY}{t:Int}{a:Ask}{u:V}{d:O7}(_:vs=[.ref S.x,.ref r,u])(_:f3 S.W S.NU)(_:bE C D S bg m kh kk kq ka H)(_:kh.length<=1000000)(_:H r=ih (.ins R L9 (fR ta lf rs wh t)))(_:H ta=ih (.tup [.str a.1,.str a.2]))(_:wh∈S.W.line)(_:dr d)(_:Rep H u d)
  (_:S.W.need a.1 wh d=none ->∀cK m' Y,Kp S H Y->bE C D S bg m' cK kk kq ka Y->cK.length<=kh.length+1->Q .aM Y)
  (_:∀b,S.W.need a.1 wh d=ih b ->∀tn cK m' Y,Kp S H Y->bE C D S bg m' cK kk kq ka Y->cK.length<=kh.length+1->Y tn=ih (.tup [.str b.1,.str b.2])->Q (.ref tn) Y):pk C D R vs H Q E
noncomputable abbrev L':List CY:=["self","reckoning","step","name","where"]
theorem BH:a' L' ["self","reckoning","step"] (aI rO):=bt
theorem JU(F:aP K "come_to" "Whole.come_to" rO f fd)(T:fh K mg C)(yi:i7 K mg D)(J:ir K mg R)(zi:aO P w K mg base ay 2 fL dL ["self","kind","name","behind"] (kH D))(xj:Meth K D "look" fL)(yj:Binds K dL ["self","kind","name","behind"] []):aO P w K mg base ay 3 f fd ["self","reckoning","step"] (pk C D R):=by
 refine F.bx BH λQa A yl s H vs Q E xd h=>?_
 ·obtain @⟨S,bg,m,kh,kk,kq,zj,r,xb,ta,lf,rs,wh,t,a,u,d,rfl,yd,h,zf,yb,xg,zb,st,xk,zd,xe⟩:=h
  have yg:aY 2 _:=xd;have zg:=d9 xd.units;intro X;refine⟨_,aw (bF (bS eu (aT bN (pv 2) ar) b6 (bM _)) (aA (aX (c4 (aa (aT bN (pv 2) ar) (aa b6 ah))))) bX)
   (aw (bF (bS my (aT bN (pv 2) ar) b6 (bM _)) (aA (aX eo)) bX)
   (aw (rZ (i:=3) (j:=4) rfl BH.nd rfl rfl (by decide) rfl rfl (aa (aT bN (bY (pv 1) rfl) ar) (aa (bY (pv 1) rfl) ah)) rfl)
   (aw (bF (PW.pt (pw_or (h5 (jA zg (c4 (aa (pv 3) (aa (pv 4) ah))) (bY (pv 0) rfl))) (pw_or1 (h5 (GI (eU (bY (pv 0) rfl) yi.cl xj zi yg yj .nil b' (aa (bY (pv 0) rfl) (aa (pv 3) (aa (pv 4) ah))))))))) (aA (aX (c4 (aa (pv 3) (aa (pv 4) ah))))) bX)
   (aA (aX eo))))),?_⟩
  obtain⟨zl,xs,rfl,Y,h1,U,xm⟩:=rV st xk;refine ae rfl (bc Y cb ⟨rfl,_,rfl,?_⟩);refine cm (λe=>?_) (λe=>?_)
  ·have e:a4 d = "ask" :=by
    have:=eG e;injection this
   obtain rfl:=U e;refine ae rfl (bc Y ea ⟨b8,λc yk=>?_⟩);have ye:=aH (o:=.tup [V.str (gA d),V.str ""]) yk;exact xe (gA d,"") (by unfold bf.need;rw[aB e]) c kh m _ (λb o _ _ z=>ye _ _ z) (h.same ye) (gq _) af
  have e : ¬ a4 d = "ask" :=λz=>e (by rw[z];exact cE rfl)
  refine ae rfl (bc Y cb ⟨rfl,_,rfl,?_⟩);refine cm (λq=>?_) (λq=>?_)
  ·have q : ¬ a4 d = "onward" :=λz=>by rw[z]at q;revert q;decide +kernel
   exact zd (by unfold bf.need;rw[au e,au q]) kh m H (λb o _ _ z=>z) h (gq _)
  have q:a4 d = "onward" :=by
   by_cases z:a4 d = "onward"
   ·exact z
   ·exact absurd (by simpa using λy=>z y) q
  have ze:S.W.need a.1 wh d=if (S.W.look (a.1,wh)).isSome=true then ih (a.1,wh) else none:=by unfold bf.need;rw[au e,aB q]
  refine ae rfl ⟨r,R,xb,_,.ref ta,rfl,yb,J.cl,J.na,oH,bc xg cb (ae rfl ⟨r,R,xb,_,.str wh,rfl,yb,J.cl,J.nw,wG,_,_,rfl,?_⟩)⟩;refine aV rfl rfl ⟨b8,λxa xh=>?_⟩;have L:=aH (o:=.tup [V.str a.1,V.str wh]) xh;have xc:upd H xa (.tup [V.str a.1,V.str wh]) xa=bi ((cg (a.1,wh)).map kV):=af;have g:=h.same L;generalize upd H xa (.tup [V.str a.1,V.str wh])=ym at L xc g⊢;refine ae rfl ⟨S.x,C,S.dx,_,.ref S.kn,rfl,g.hx,T.cl,T.nn,f9,S.kn,_,rfl,cf.t (k:=cg (a.1,wh)) g.hk xc,_,rfl,?_⟩;have yh:wh ≠ "" :=λz=>by have:=(yd.lm wh zb).lo;rw[z]at this;revert this;decide +kernel
  have yc:∀{l:Hp}{B:am (List Key×V)}{I:Int},(S.W.look (a.1,wh)).isSome=true->Kp S H l->bE C D S bg I B kk kq zj l->B.length<=kh.length+1 ->∀tn,l tn=none->Q (.ref tn) (upd l tn (.tup [V.str a.1,V.str wh])):=λ{l B I} zk kp M N tn G=>by
   have xf:=aH (o:=.tup [V.str a.1,V.str wh]) G;exact xe (a.1,wh) (by rw[ze,aB zk]) tn B I _ (λb o n1 ya z=>xf _ _ (kp b o n1 ya z)) (M.same xf) N af
  rcases h.kv.val (a.1,wh) with⟨za,yf⟩|⟨v,z,xl,y,ns,zm,za,yf,_⟩
  ·rw[za]
   refine ae rfl ⟨S.x,C,S.dx,_,.ref S.fi,rfl,g.hx,T.cl,T.nf,rj,S.fi,S.fx,_,rfl,g.fi.hx,sE (by decide +kernel) (by decide +kernel) (by decide +kernel) (by decide +kernel),_,rfl,S.x,C,S.dx,_,.str S.kd,rfl,g.hx,T.cl,T.nk,rT,_,rfl,_,rfl,kH.mk rfl g.fi g.ln (by rw[h.el];have:=yd.ln;omega) (.inr (by rw[h.el];exact zb)) g.k7 zf λv B I l zc zh xi N n=>?_⟩
   have M:=g.looked zc zh xi;have kp:Kp S H l:=λb o n1 ya z=>zc b o n1 ya (L _ _ z);rw[h.el]at n;have n:ip l v (S.W.look (a.1,wh)):=n;cases O:S.W.look (a.1,wh) with
   |none =>
    rw[O]at n;have n:v=V.aM:=n;subst n;refine ae rfl ?_;exact zd (by rw[ze,O];rfl) B I l kp M N
   |some p =>
    rw[O]at n;obtain⟨xl,xn,rfl,_,_⟩:=n;refine ae rfl ?_;exact aV rfl rfl ⟨b8,λtn G=>yc (by rw[O];rfl) kp M N tn G⟩
  ·rw[za]
   exact aV rfl rfl ⟨b8,λtn G=>yc (Fp (h.ok _ yf) yh) (λb o _ _ z=>L _ _ z) g (gq _) tn G⟩
theorem Lm{G:Prop}{gB C:Hp->Prop}(h1:(∀a,gB a->C a)->G)(U:∀a,gB a->C a):G:=h1 U
theorem Cb:seqIndex? 0 (v::vs).length=ih 0:=by simp[seqIndex?]
structure FA where
 (x dx ta lf rs:OT)
structure cP(R:OT)(S:Wh)(H:Hp)(A:FA)(f:cp)(lv:List V)(rn:List CY):Prop where
 hx:H A.x=ih (.ins R A.dx (fR A.ta A.lf A.rs f.w f.t))
 eJ:H A.ta=ih (.tup [.str f.a.1,.str f.a.2])
 hl:H A.lf=ih (.lst lv)
 rl:bI H lv f.left
 st:∀s∈f.left,dr s
 an:∀s∈f.left,a4 s = "ask" -> gA s∈S.NU
 hr:H A.rs=ih (.lst (rn.map V.str))
 rm:∀y∈rn,y∈S.NU
 a7:rn.length+f.left.length * 20<=99
 gJ:A.lf≠A.rs
 nx:A.x≠S.x
 nf:A.x≠S.fi
def Kr(S:Wh)(A:FA)(H Y:Hp):Prop:= ∀b o,b≠S.fi->b≠S.dh->b≠A.x->b≠A.lf->b≠A.rs->H b=ih o->Y b=ih o
theorem cP.keep{S:Wh}{A:FA}{f:cp}(h:cP R S H A f lv rn)(k:∀b o,b=A.x\/b=A.lf\/b=A.rs\/(∃xs,o=HO.tup xs)->H b=ih o->Y b=ih o):cP R S Y A f lv rn:=
 ⟨k _ _ (.inl rfl) h.hx,k _ _ (.inr (.inr (.inr ⟨_,rfl⟩))) h.eJ,k _ _ (.inr (.inl rfl)) h.hl,hV (λb xs e=>k _ _ (.inr (.inr (.inr ⟨_,rfl⟩))) e) h.rl h.st,h.st,h.an,k _ _ (.inr (.inr (.inl rfl))) h.hr,h.rm,h.a7,h.gJ,h.nx,h.nf⟩
theorem cP.kp{S:Wh}{d:am (Ask×Int)}{A:FA}{f:cp}(h:cP R S H A f lv rn)(w:bE C D S bg m kh kk kq d H)(k:Kp S H Y):cP R S Y A f lv rn:=by
 have a:∀b xs,H b=bm xs->Y b=bm xs:=λb xs e=>k _ _ (aj e w.fi.hx) (aj e w.fi.hh) e
 have c:∀b xs,H b=bi xs->Y b=bi xs:=λb xs e=>k _ _ (aj e w.fi.hx) (aj e w.fi.hh) e
 exact⟨k _ _ h.nf (aj h.hx w.fi.hh) h.hx,c _ _ h.eJ,a _ _ h.hl,hV c h.rl h.st,h.st,h.an,a _ _ h.hr,h.rm,h.a7,h.gJ,h.nx,h.nf⟩
theorem bE.wr{S:Wh}{a:am (Ask×Int)}{A:FA}{f:cp}(h:bE C D S bg m kh kk kq a H)(r:cP R S H A f lv rn)(k:∀b o,b≠A.x->b≠A.lf->b≠A.rs->H b=ih o->Y b=ih o):bE C D S bg m kh kk kq a Y:=
 h.write λb o c d e=>k b o (λz=>by
  rw[z]at e d;rw[r.hx]at e;cases e;rcases d A.dx _ with y|y
  ·rcases y with y|y
   ·exact r.nx y
   ·exact r.nf y
  ·exact y _ rfl) (λz=>by rw[z,r.hl]at e;cases e;exact c _ rfl) (λz=>by rw[z,r.hr]at e;cases e;exact c _ rfl) e
inductive kX(C D R:OT)(vs:List V)(H:Hp)(Q:VK)(E:XK):Prop
 |mk{S:Wh}{bg m:Int}{kh kk kq:List (List Key×V)}{ka:List (Ask×Int)}{A:FA}{fr:cp}{lv:List V}{rn:List CY}(_:vs=[.ref S.x,.ref A.x])(_:f3 S.W S.NU)(_:bE C D S bg m kh kk kq ka H)(_:kh.length<=900000)(_:cP R S H A fr lv rn)(_:cU S.W fr)(_:fr.w∈S.W.line)
  (_:∀t' tR tS cK m' Y,Kr S A H Y->bE C D S bg m' cK kk kq ka Y->cK.length<=kh.length+5->cP R S Y A ⟨fr.a,fr.w,[],t'⟩ tR tS->cU S.W ⟨fr.a,fr.w,[],t'⟩->(∀s∈fr.left,∀b,S.W.need fr.a.1 fr.w s=ih b ->∃z,(b,z)∈ka)->Q .aM Y)
  (_:∀t' d ds tR tS cK m' b tn Y,Kr S A H Y->bE C D S bg m' cK kk kq ka Y->cK.length<=kh.length+5->cP R S Y A ⟨fr.a,fr.w,d::ds,t'⟩ tR tS->cU S.W ⟨fr.a,fr.w,d::ds,t'⟩->S.W.need fr.a.1 fr.w d=ih b->(∀z,(b,z)∉ ka)->Y tn=ih (.tup [.str b.1,.str b.2])->Q (.ref tn) Y):kX C D R vs H Q E
noncomputable abbrev Ma:List CY:=["self","reckoning","step","needed"]
theorem tf:a' Ma ["self","reckoning"] (aI sA):=bt
theorem JV(F:aP K "go_on" "Whole.go_on" sA f fd)(T:fh K mg C)(n:ir K mg R)(yp:aO P w K mg base ay 3 fC dC ["self","reckoning","step"] (pk C D R))(zp:Meth K C "come_to" fC)(xq:Binds K dC ["self","reckoning","step"] [])
  (yq:aO P w K mg base ay 1 fS dS ["self","step"] (pf R)) (zq:Meth K R "step_by" fS) (xr:Binds K dS ["self","step"] []) (yr:aO P w K mg base ay 1 fT dT ["self","told"] (pj R)) (zr:Meth K R "take_in" fT) (xt:Binds K dT ["self","told"] []):aO P w K mg base ay 4 f fd ["self","reckoning"] (kX C D R):=by
 refine F.bx tf λQa A yz s H vs Q E yl h=>?_
 ·obtain @⟨S,bg,m,kh,kk,kq,ye,A,fr,lv,rn,rfl,zl,h,zz,xh,yt,xn,zt,xu⟩:=h
  have zi:aY 3 _:=yl;have xj:aY 1 _:=zi.mono (by decide)
  have yj:=d9 yl.units;intro X;refine⟨_,aw (lQ eh (iT (bY (pv 1) rfl) (λ_=>rfl))
    (aw (a9 2 tf.nd (aT cM (bY (pv 1) rfl) ar))
    (aw (a9 3 tf.nd (eU (pv 0) T.cl zp yp zi xq .nil b' (aa (pv 1) (aa (pv 2) ah))))
    (aw (bF (bS h7 (pv 3) eo (bM _)) (aA (dX (eU (pv 1) n.cl zq yq xj xr .nil b' (aa (pv 2) ah))))
     (aA (bF (h5 (jA yj (pv 3) (bY (pv 0) rfl))) (aA (dX (eU (pv 1) n.cl zr yr xj xt .nil b' (aa (eV yj (bY (pv 0) rfl) (pv 3)) ah)))) (aA (aX (pv 3))))))
    (aA (dX (fB hR Dj Dk vQ (bY (pv 1) rfl) (aa ar ah))))))))
   (aA (aX eo)),?_⟩
  refine⟨λxm σ O=>∃(left:am O7) (t':Int) (xa:am V) (ya:am CY) (G:am (List Key×V)) (xc:Int) (L M:a2 V),σ=[bd S.x,bd A.x,L,M]/\xm=left.length/\left.length<=4/\cU S.W ⟨fr.a,fr.w,left,t'⟩/\(∀s∈fr.left,s∈left \/∀b,S.W.need fr.a.1 fr.w s=ih b ->∃z,(b,z)∈ye)/\cP R S O A ⟨fr.a,fr.w,left,t'⟩ xa ya/\bE C D S bg xc G kk kq ye O/\G.length+left.length<=kh.length+4/\Kr S A H O,
   ⟨_,fr.left,fr.t,lv,rn,kh,m,none,none,rfl,rfl,?_,yt,λs i=>.inl i,xh,h,?_,λb o _ _ _ _ _ z=>z⟩,?_⟩
  ·have:=xh.a7;omega
  ·have:=xh.a7;omega
  rintro xm σ O ⟨left,N,yn,I,xg,yu,L,M,rfl,rfl,zu,yd,yg,g,yc,yh,zg⟩;refine ae rfl ⟨A.x,R,A.dx,_,.ref A.lf,rfl,g.hx,n.cl,n.nl,ou,_,.inl ⟨_,aq.of g.hl,rfl⟩,?_⟩;cases left with
  |nil =>
   have rl:=g.rl;have e:=bI.length rl;have xv:yn=[]:=lA e;subst xv;refine cm (λz=>by cases z) (λ_=>?_)
   exact zt N [] I xg yu O zg yc (by have:xg.length+0<=kh.length+4:=yh;omega) g yd λs i=>(yg s i).resolve_left λz=>(by cases z)
  |cons d ds =>
   obtain⟨v,vs,rfl,yv,xA⟩:=g.rl.d7;refine cm (λ_=>?_) (λz=>absurd rfl z);have yh:xg.length+(ds.length+1)<=kh.length+4:=yh;refine⟨λzj Y=>∃(t':Int) (xa:am V) (ya:am CY) (G:am (List Key×V)) (xc:Int) (L M:a2 V),zj=[bd S.x,bd A.x,L,M]/\cU S.W ⟨fr.a,fr.w,ds,t'⟩/\(∀s∈fr.left,s∈ds \/∀b,S.W.need fr.a.1 fr.w s=ih b ->∃z,(b,z)∈ye)/\cP R S Y A ⟨fr.a,fr.w,ds,t'⟩ xa ya/\bE C D S bg xc G kk kq ye Y/\G.length+ds.length<=kh.length+4/\Kr S A H Y,λzj Y ⟨t',xa,ya,G,xc,L,M,e,zv,xw,yw,zw,xx,yx⟩=>⟨ds.length,jU _,ds,t',xa,ya,G,xc,L,M,e,rfl,by simp only[cX]at zu;omega,zv,xw,yw,zw,xx,yx⟩,?_⟩
   refine ae rfl ⟨A.x,R,A.dx,_,.ref A.lf,rfl,g.hx,n.cl,n.nl,ou,fq g.hl cb ?_⟩;refine ae rfl ⟨S.x,S.dx,_,rfl,yc.hx,rfl,_,rfl,_,rfl,pk.mk rfl zl yc (by omega) g.hx g.eJ xn (g.st d aS) yv (λU zd ze H2 za p zx=>?_) λb U tn zd ze H2 za p zx xk=>?_⟩
   ·have c:cP R S H2 A ⟨fr.a,fr.w,d::ds,N⟩ (v::vs) I:=g.kp yc za
    have xe:Kr S A H H2:=λb o n1 l j u B e=>za b o n1 l (zg b o n1 l j u B e);obtain⟨xy,zn,zh,yk,zf⟩:=c.rl.d7;cases zh
    refine ae rfl ⟨rfl,_,rfl,_,rfl,A.x,A.dx,_,rfl,c.hx,rfl,_,rfl,pf.mk rfl c.hx (g.st d aS) yk λJ q zc=>?_⟩;have xb:A.lf≠A.x:=aj c.hl c.hx
    have xo:A.rs≠A.x:=aj c.hr c.hx
    have r:=q _ _ xb c.hl;have xi:=p.wr c λb o n1 l j e=>q b o n1 e;have yb:∀b xs,H2 b=bi xs->J b=bi xs:=λb xs e=>q _ _ (aj e c.hx) e
    refine ae rfl ⟨A.x,R,A.dx,_,.ref A.lf,rfl,zc,n.cl,n.nl,ou,.inl ⟨rfl,_,aq.of r⟩,A.lf,_,0,0,v,rfl,rfl,r,by decide,by decide,Cb,rfl,?_⟩
    have zb:∀b xs,J b=bi xs->upd J A.lf (.lst vs) b=bi xs:=λb xs e=>by rw[ag (aj e r)];exact e
    have a7:=c.a7;refine⟨stepT N d,vs,I,zd,ze,_,_,rfl,yd.step rfl U,λs i=>(yg s i).elim (λz=>(bu.mp z).elim (λe=>.inr λb xd=>by rw[e,U]at xd;cases xd) .inl) .inr,⟨by rw[ag (aN xb)];exact zc,zb _ _ (yb _ _ c.eJ),af,hV (λb xs e=>zb _ _ (yb _ _ e)) zf λs i=>g.st s (a8 _ i),λs i=>g.st s (a8 _ i),λs i=>g.an s (a8 _ i),by rw[ag (aN c.gJ)];exact q _ _ xo c.hr,c.rm,by simp only[cX]at a7;show I.length+ds.length * 20<=99;omega,c.gJ,c.nx,c.nf⟩,?_,by omega,λb o n1 l j u B e=>by rw[ag u];exact q _ _ j (xe b o n1 l j u B e)⟩
    exact xi.write λb o yi _ e=>by rw[ag (λz=>by rw[z,r]at e;cases e;exact yi _ rfl)];exact e
   ·have c:cP R S H2 A ⟨fr.a,fr.w,d::ds,N⟩ (v::vs) I:=g.kp yc za
    have xe:Kr S A H H2:=λb o n1 l j u B e=>za b o n1 l (zg b o n1 l j u B e);obtain⟨xy,zn,zh,yk,zf⟩:=c.rl.d7;cases zh
    have zk:H2 tn=bi ((cg b).map kV):=xk;refine ae rfl ⟨rfl,_,rfl,_,rfl,_,rfl,S.x,C,S.dx,_,.ref S.kn,rfl,p.hx,T.cl,T.nn,f9,S.kn,_,rfl,cf.t (k:=cg b) p.hk zk,_,rfl,?_⟩;rcases p.kv.val b with⟨xf,yf⟩|⟨zA,z,yy,y,ns,ym,xf,yf,rfl,yo,zo,xp,xl,_⟩
    ·rw[xf]
     exact ae rfl (xu N d ds (v::vs) I zd ze b tn H2 xe p (by omega) c yd U yf xk)
    ·rw[xf]
     have yA:ym.length<=20:=eS (len_sub xp xl) zl.a7;have a7:=c.a7;simp only[cX]at a7;refine ae rfl ⟨A.x,A.dx,_,rfl,c.hx,rfl,_,rfl,S.x,C,S.dx,_,.ref S.kn,rfl,p.hx,T.cl,T.nn,f9,_,rfl,S.kn,.ref yy,rfl,by rw[<-xf];exact cf.t (k:=cg b) p.hk zk,pj.mk rfl c.hx c.hr yo zo (by rw[aG,aG];omega) λJ q zc zm=>?_⟩
     have xb:A.lf≠A.x:=aj c.hl c.hx
     have r:=q _ _ xb c.gJ c.hl;have xi:=p.wr c λb o n1 l j e=>q b o n1 j e;have yb:∀b xs,H2 b=bi xs->J b=bi xs:=λb xs e=>q _ _ (aj e c.hx) (aj e c.hr) e
     refine ae rfl ⟨A.x,R,A.dx,_,.ref A.lf,rfl,zc,n.cl,n.nl,ou,.inl ⟨rfl,_,aq.of r⟩,A.lf,_,0,0,v,rfl,rfl,r,by decide,by decide,Cb,rfl,?_⟩
     have zb:∀b xs,J b=bi xs->upd J A.lf (.lst vs) b=bi xs:=λb xs e=>by rw[ag (aj e r)];exact e
     refine⟨N+z,vs,I++ym,zd,ze,_,_,rfl,yd.take rfl U (p.ok _ yf),λs i=>(yg s i).elim (λzy=>(bu.mp zy).elim (λe=>.inr λxB xd=>by rw[e,U]at xd;cases xd;exact⟨_,yf⟩) .inl) .inr,⟨by rw[ag (aN xb)];exact zc,zb _ _ (yb _ _ c.eJ),af,hV (λb xs e=>zb _ _ (yb _ _ e)) zf λs i=>g.st s (a8 _ i),λs i=>g.st s (a8 _ i),λs i=>g.an s (a8 _ i),by rw[ag (aN c.gJ),bo];exact zm,λy xz=>?_,by rw[cQ];show _+ds.length * 20<=99;omega,c.gJ,c.nx,c.nf⟩,?_,by omega,λb o n1 l j u B e=>by rw[ag u];exact q _ _ j B (xe b o n1 l j u B e)⟩
     ·rcases cq.mp xz with y'|y'
      ·exact c.rm y y'
      ·exact xl y y'
     ·exact xi.write λb o yi _ e=>by rw[ag (λz=>by rw[z,r]at e;cases e;exact yi _ rfl)];exact e
theorem Fq:PX "set" = ih (.type "set"):=by decide +kernel
theorem bE.AY{S:Wh}{i:am (List Key×V)}{j:am (Ask×Int)}{a:Ask}{f:OT}(h:bE C D S bg m kh kk kq j H)(n:∀z,(a,z)∉ j)(q:S.W.Out a (.told z))(r:UA S.W S.NU a)
  (k:∀b o,b≠S.kn->b≠S.kp->H b=ih o->Y b=ih o) (s:Y S.kn=ce (kk++[(cg a,.ref f)])) (t:Y S.kp=ce i) (w:i.length<=kk.length+1) (x:∃(y:V) (ns:OT) (c:am CY),Y f=bi [y,.int z,.ref ns]/\Y ns=bi (c.map V.str)/\c.Nodup/\(∀y∈c,y∈S.NU)/\y=V.str (cO S.W a)) :
  bE C D S bg m kh (kk++[(cg a,.ref f)]) i (j++[(a,z)]) Y:=by
 have g:∀b xs,H b=bi xs->Y b=bi xs:=λb xs e=>k _ _ (aj e h.hk) (aj e h.hq) e
 have l:∀b xs,H b=bn xs->Y b=bn xs:=λb xs e=>k _ _ (aj e h.hk) (aj e h.hq) e
 obtain⟨A,B,E⟩:=h.ln;obtain⟨y,ns,c,h1,U,F,G⟩:=x;refine⟨h.n3,k _ _ (aj h.hx h.hk) (aj h.hx h.hq) h.hx,⟨k _ _ (aj h.fi.hx h.hk) (aj h.fi.hx h.hq) h.fi.hx,l _ _ h.fi.hl,k _ _ (aN h.n1.1) (aN h.n1.2.2.1) h.fi.he,k _ _ (aN h.n1.2.1) (aN h.n1.2.2.2.1) h.fi.hh,h.fi.du.keep g h.fi.ok.ent,h.fi.ok,h.fi.nn⟩,l _ _ h.ho,s,t,h.n1,⟨A,B,g _ _ E⟩,h.el,h.k7.keep h.fi.ok g,hJ (h.kv.keep g) ⟨rfl,f,y,ns,c,rfl,h1,U,F,G⟩,λp d=>?_,?_,λp d=>?_,by rw[cQ];exact w⟩
 ·rcases cq.mp d with e|e
  ·exact h.ok p e
  ·rw[b3.mp e];exact q
 ·rw[bo]
  refine eg.mpr ⟨h.nd,by simp,λu I v hv e=>?_⟩
  have hv:v=a:=b3.mp hv;obtain⟨p,d,rfl⟩:=aW.mp I;exact n p.2 (by rw[<-hv,<-e];exact d)
 ·rcases cq.mp d with e|e
  ·exact h.g9 p e
  ·rw[b3.mp e];exact r
theorem gI.no{W:bf}{b:am (Ask×Int)}(h:gI H W NU kk b){a:Ask}(c:∀z,(a,z)∉ b):a5 kk (cg a)=none:=by
 rcases h.val a with⟨e,_⟩|⟨v,z,_,_,_,_,_,e,_⟩
 ·exact e
 ·exact absurd e (c z)
theorem cU.wh{W:bf}{f:cp}(h:cU W f):f.w=cO W f.a:=by
 obtain⟨h1,d,pre,U,_⟩:=h.lk;unfold cO;rw[h1,U]
inductive kY(C D R:OT)(vs:List V)(H:Hp)(Q:VK)(E:XK):Prop
 |mk{S:Wh}{bg m:Int}{kh kk kq:List (List Key×V)}{ka:List (Ask×Int)}{A:FA}{fr:cp}{lv:List V}{rn:List CY}(_:vs=[.ref S.x,.ref A.x])(_:f3 S.W S.NU)(_:bE C D S bg m kh kk kq ka H)(_:kk.length<=10000)(_:cP R S H A fr lv rn)(_:S.W.Out fr.a (.told fr.t))(_:∀z,(fr.a,z)∉ ka)(_:UA S.W S.NU fr.a)(_:fr.w=cO S.W fr.a)
  (_:∀iC jS Y,(∀b o,b≠S.kn->b≠S.kp->H b=ih o->Y b=ih o)->bE C D S bg m kh iC jS (ka++[(fr.a,fr.t)]) Y->Q .aM Y):kY C D R vs H Q E
theorem BI:a' ["self","reckoning","told"] ["self","reckoning"] (aI l7):=bt
theorem JW(F:aP K "settle" "Whole.settle" l7 f fd)(B:dc mg)(ye:fQ mg)(yd:mg "set" = none)(T:fh K mg C)(i:ir K mg R):aO P w K mg base ay 1 f fd ["self","reckoning"] (kY C D R):=by
 refine F.bx BI λQa A Y s H vs Q E ze h=>?_
 ·obtain @⟨S,bg,m,kh,kk,kq,zh,c,fr,lv,rn,rfl,xf,h,zg,j,yf,z,zf,xg,q⟩:=h
  have yb:=d9 ze.units;intro X;refine⟨_,aw (a9 2 BI.nd (c4 (aa (bY (pv 1) rfl) (aa (bY (pv 1) rfl) (aa (dy j5 rfl B.tuple boot_tuple (aa (b4 (Dz rfl) rfl ye.sorted boot_sorted (aa (dy (F' rfl) rfl yd Fq (aa (bY (pv 1) rfl) ah)) ah)) ah)) ah)))))
   (aw (gx yb (bY (pv 0) rfl) (bY (pv 1) rfl) (pv 2) rfl)
   (aA (gx yb (bY (pv 0) rfl) (bY (pv 1) rfl) (pv 2) rfl))),?_⟩
  have a7:=j.a7;refine ae rfl ⟨c.x,R,c.dx,_,.str fr.w,rfl,j.hx,i.cl,i.nw,wG,_,rfl,c.x,R,c.dx,_,.int fr.t,rfl,j.hx,i.cl,i.nt,og,_,rfl,c.x,R,c.dx,_,.ref c.rs,rfl,j.hx,i.cl,i.nr,vI,c.rs,rn,rfl,.inl (aq.of j.hr),by omega,λl ds zd zb xa=>?_⟩
  have dl:ds.length<=20:=eS (len_sub zb λy N=>j.rm y ((xa y).mp N)) xf.a7;refine⟨l,ds,rfl,af,by omega,λG g xd pm xh=>⟨G,_,rfl,.inl ⟨aq.of af,λns xc=>⟨g7,λp L=>?_⟩⟩⟩⟩
  generalize mL (gZ ay P w K mg base ["self","reckoning","told"] "Whole.settle" (aI l7) f Qa A Y s H E).iw.prog (gZ ay P w K mg base ["self","reckoning","told"] "Whole.settle" (aI l7) f Qa A Y s H E).iw.w l ds=I at xd xc L⊢;have r:=(aH (o:=I) zd).trans ((aH (o:=.lst (g.map V.str)) xd).trans ((aH (o:=.tup (g.map V.str)) xc).trans (aH (o:=.tup [V.str fr.w,.int fr.t,.ref ns]) L)));have ya:upd (upd (upd (upd H l I) G (.lst (g.map V.str))) ns (.tup (g.map V.str))) p (.tup [V.str fr.w,.int fr.t,.ref ns]) p=bi [V.str fr.w,.int fr.t,.ref ns]:=af;have za:upd (upd (upd (upd H l I) G (.lst (g.map V.str))) ns (.tup (g.map V.str))) p (.tup [V.str fr.w,.int fr.t,.ref ns]) ns=bi (g.map V.str):=by rw[ag (ax af L)];exact af
  generalize upd (upd (upd (upd H l I) G (.lst (g.map V.str))) ns (.tup (g.map V.str))) p (.tup [V.str fr.w,.int fr.t,.ref ns])=O at r ya za⊢;have d:=h.same r;have M:=r _ _ j.hx;have yc:O c.ta=bi ((cg fr.a).map kV):=r _ _ j.eJ;have yh:=h.ql;refine aV rfl rfl ⟨S.x,C,S.dx,_,.ref S.kn,rfl,d.hx,T.cl,T.nn,f9,_,rfl,c.x,R,c.dx,_,.ref c.ta,rfl,M,i.cl,i.na,oH,S.kn,_,rfl,eQ.t (k:=cg fr.a) d.hk yc (by rw[aQ];omega),?_⟩
  rw[kj _ (d.kv.no z)];have J:∀{u:HO} b o,b≠S.kn->O b=ih o->upd O S.kn u b=ih o:=λb o n e=>by rw[ag n];exact e
  have yg:∀{u:HO} b xs,O b=bi xs->upd O S.kn u b=bi xs:=λb xs e=>J _ _ (aj e d.hk) e
  have xe:∀{u:HO},upd O S.kn u S.kp=ce kq:=λ{u}=>J _ _ (aN h.n1.2.2.2.2) d.hq;refine aV rfl rfl ⟨S.x,C,S.dx,_,.ref S.kp,rfl,J _ _ (aj d.hx d.hk) d.hx,T.cl,T.np,rfl,_,rfl,c.x,R,c.dx,_,.ref c.ta,rfl,J _ _ (aj M d.hk) M,i.cl,i.na,oH,S.kp,_,rfl,eQ.t (k:=cg fr.a) xe (yg _ _ yc) (by rw[aQ];omega),?_⟩
  have U:∀{u W:HO} b o,b≠S.kn->b≠S.kp->O b=ih o->upd (upd O S.kn u) S.kp W b=ih o:=λb o n1 v e=>by rw[ag v,ag n1];exact e
  have zc:∀{u W:HO} b xs,O b=bi xs->upd (upd O S.kn u) S.kp W b=bi xs:=λb xs e=>U _ _ (aj e d.hk) (aj e d.hq) e
  refine q _ _ _ (λb o n1 v e=>U _ _ n1 v (r _ _ e)) (d.AY z yf zf (λb o n1 v e=>U _ _ n1 v e) (by rw[ag h.n1.2.2.2.2];exact af) af (by have:=j9 kq (cg fr.a) (V.ref p);omega) ⟨_,ns,g,zc _ _ ya,zc _ _ za,pm.nodup_iff.mpr zb,λy N=>j.rm y ((xa y).mp (pm.mem_iff.mp N)),b2 V.str xg⟩)
def Tells(t:TT)(σ:St)(H:Hp)(b:Bool):Prop:= ∀R:Bool->Hp->Prop,(∀O,aE H O->R b O)->t σ H R
theorem Tells.and{t u:TT}{a b:Bool}(h:Tells t σ H a)(k:a=true ->∀O,aE H O->Tells u σ O b):Tells (A5 t u) σ H (a&&b):=λR q=>h _ λO c=>by
 cases a with
 |false=>exact q _ c
 |true=>exact k rfl O c R λH2 d=>q _ (c.trans d)
theorem Gx{t:TT}{a te:TS}{D:Ends}{c:_}{bk:_}{ct:_}{b:Bool}(h:Tells t (σ.set i (ih v)) H b)(k:∀O,aE H O->if b=true then a D (σ.set i (ih v)) O else te D (σ.set i (ih v)) O):gW i v σ H (Ends.nx (Ends.mk (A6 t a te D) c bk ct)):=h _ k
theorem Gy(K:S7)(h:X.K=K){f:CY}(a:PE X e ta)(b:attributeBase e f X.env (eval e X.env)=eval e X.env):PE X (.Attribute e f pos) (sM K ta f):=by subst h;exact bY a b
structure pq(R:OT)(S:Wh)(H:Hp)(bj:List (FA×cp)):Prop where
 fr:∀p∈bj,∃lv rn,cP R S H p.1 p.2 lv rn
 nd:(bj.flatMap λp=>[p.1.x,p.1.lf,p.1.rs]).Nodup
def refs(bj:List (FA×cp)):List V:=bj.map λp=>V.ref p.1.x
def fX(a:Ask):O7:=.tuple [.str a.1,.str a.2]
theorem Ab{a b:Ask}:S9 (fX a) (fX b)=decide (a=b):=by
 have:=wz [a.1,a.2] [b.1,b.2];have e:S9 (fX a) (fX b)=Ue ([a.1,a.2].map SM) ([b.1,b.2].map SM):=by first|rfl|simp[fX,S9]
 rw[e,this];exact decide_eq_decide.mpr ⟨λh=>by injection h with h1 U;injection U with c _;exact jV h1 c,λh=>by rw[h]⟩
theorem UA.str{W:bf}(b:f3 W NU){a:Ask}(u:UA W NU a):PJ a.1=true/\PJ a.2=true:=by
 refine⟨jC (b.nm _ u.1),?_⟩;rcases u.2 with z|z
 ·rw[z];decide +kernel
 ·exact jC (b.lm _ z)
theorem Fs{S:Wh}{bj:am (FA×cp)}{st c:OT}(j:ir K mg R)(m:H st=bm (refs bj))(fs:pq R S H bj)(w:bj.length<=1000)(k:H c=none)(q:∀O,aE H O->O c=bm (bj.map λp=>V.ref p.1.ta)->Q (.ref c) O) :
  gg (jc K st) (gW 0) mz (sM K (ie 0) "asking") [none] Q c H:=by
 refine eK (xs:=refs bj) (λi ys a H2=>∃g:a2 V,a=[g]/\aE H H2/\H2 c=bm ys/\ys=(bj.take i).map λp=>V.ref p.1.ta) ⟨none,rfl,aH k,af,rfl⟩ (λi ys a H2 z=>by obtain⟨_,_,r,s,_⟩:=z;exact ⟨s,aq.of (r _ _ m)⟩) ?_ ?_
 ·rintro i y ys a H2 h ⟨g,rfl,l,U,rfl⟩
  have d:i<(refs bj).length:=(bA.mp h).1;have f:i<bj.length:=by unfold refs at d;rwa [aG]at d
  obtain rfl:V.ref bj[i].1.x=y:=by unfold refs at h;simpa [f] using h
  have n:bj.take (i+1)=bj.take i++[bj[i]]:=by rw[dd,bB f];rfl
  obtain⟨lv,rn,t⟩:=fs.fr bj[i] (fw f);refine ae rfl ⟨bj[i].1.x,R,_,_,.ref bj[i].1.ta,rfl,l _ _ t.hx,j.cl,j.na,oH,U,by rw[aG,b9,aQ];omega,cw_next d ⟨_,rfl,λb o e=>by rw[ag (ax e k)];exact l _ _ e,af,?_⟩⟩
  rw[n,bo];rfl
 rintro ys a O ⟨g,rfl,u,h1,rfl⟩;have v:(refs bj).length=bj.length:=by unfold refs;rw[aG]
 rw[v,cj]at h1;exact q O u h1
theorem Gz{S:Wh}(d:f3 S.W S.NU):∀{bj:am (FA×cp)},(∀p∈bj,∃lv rn,cP R S H p.1 p.2 lv rn)->(∀p∈bj,UA S.W S.NU p.2.a)->bI H (bj.map λp=>V.ref p.1.ta) (bj.map λp=>fX p.2.a)/\SK (bj.map λp=>fX p.2.a)=true:=by
 intro bj
 induction bj with
 |nil=>exact λ_ _=>⟨.nil,rfl⟩
 |cons p l e =>
  intro fr c;obtain⟨f,g⟩:=e (λq b=>fr q (a8 _ b)) λq b=>c q (a8 _ b);obtain⟨lv,rn,h⟩:=fr p aS;obtain⟨i,s2⟩:=(c p aS).str d;refine⟨.cons (.tup h.eJ (.cons (.str _) (.cons (.str _) .nil))) f,?_⟩;show((PJ p.2.a.1&&(PJ p.2.a.2&&true))&&SK _)=true;rw[i,s2,g];rfl
theorem HU{W:bf}(b:f3 W NU){a:Ask}(u:UA W NU a):(fX a).canLay0=true/\(fX a).depth<=60:=by
 obtain⟨c,s2⟩:=u.str b;exact⟨by show(PJ a.1&&(PJ a.2&&true))=true;rw[c,s2];rfl,by simp[fX,TC,SJ]⟩
inductive jM(C D R:OT)(vs:List V)(H:Hp)(Q:VK)(E:XK):Prop
 |mk{S:Wh}{bg m:Int}{kh kk kq:List (List Key×V)}{ka:List (Ask×Int)}{st ta:OT}{bj:List (FA×cp)}{b:Ask}{wh:CY}{d:O7}(_:vs=[.ref S.x,.ref st,.ref ta])(_:f3 S.W S.NU)(_:bE C D S bg m kh kk kq ka H)(_:kh.length<=900000)(_:kk.length<=10000)(_:H st=ih (.lst (refs bj)))(_:bj.length<=300)(_:pq R S H bj)(_:∀p∈bj,UA S.W S.NU p.2.a)(_:H ta=ih (.tup [.str b.1,.str b.2]))(_:UA S.W S.NU b)
  (_:∀z,(b,z)∉ ka) (_:∀p∈bj,p.2.a≠b) (_:S.W.fg b=none) (_:S.W.look b=ih (wh,d))
  (_:∀n iC cK m' Y,d=.tuple [.str "plain",.int n]->S.W.Out b (.told n)->(∀y o,y≠S.fi->y≠S.dh->y≠S.kn->H y=ih o->Y y=ih o)->bE C D S bg m' cK iC kq (ka++[(b,n)]) Y->cK.length<=kh.length+1->Q .aM Y)
  (_:a4 d ≠ "plain" ->∀fa lv rn cK m' Y,(∀y o,y≠S.fi->y≠S.dh->y≠S.x->y≠st->H y=ih o->Y y=ih o)->bE C D S (bg+1) m' cK kk kq ka Y->cK.length<=kh.length+1->Y st=ih (.lst (refs (bj++[(fa,⟨b,wh,bq d,0⟩)])))->cP R S Y fa ⟨b,wh,bq d,0⟩ lv rn->H fa.x=none->H fa.lf=none->H fa.rs=none->fa.x≠fa.lf->fa.x≠fa.rs->Q .aM Y):jM C D R vs H Q E
noncomputable abbrev Cc:List CY:=["self","standing","asking","name","behind","hit"]
theorem pw:a' Cc ["self","standing","asking"] (aI mr):=bt
def AZ(s:PQ):Si:=match s with|.If t _ _ _=>t|_=>.Constant .none 0 ⟨0,0,0,0⟩
abbrev Mb:Si:=AX (AZ (cx (bH mr) 1))
theorem BJ:bW Cc (aI mr) ["reckoning"] [none] (cG Mb):=c'
theorem JX{fR:OT}(F:aP K "enter" "Whole.enter" mr f fd)(T:fh K mg C)(zF:i7 K mg D)(yt:ir K mg R)(xG:aO P w K mg base ay 2 fL dL ["self","kind","name","behind"] (kH D))(yG:Meth K D "look" fL)(zG:Binds K dL ["self","kind","name","behind"] [])(xH:bQ P w K mg base ay 1 fG dG ["entry"] pb "goes_first")(yH:bQ P w K mg base ay 1 fS dS ["entry"] pd "steps_of")
  (zH:Mk K R fR) (xI:aO P w K mg base ay 1 fR dR m4 (pe R)) (yI:Binds K dR m4 []):aO P w K mg base ay 3 f fd ["self","standing","asking"] (jM C D R):=by
 refine F.bx pw λQa A zO s H vs Q E zt h=>?_
 ·obtain @⟨S,bg,m,kh,kk,kq,zI,st,ta,yh,b,wh,d,rfl,L,h,xP,yP,zh,zP,fs,xJ,xi,xc,yi,xx,yl,M,yJ,zJ⟩:=h
  have zi:aY 2 _:=zt;have yq:aY 1 _:=zi.mono (by decide)
  have xu:=zt.units;have yb:=d9 xu;intro X;refine⟨_,aw (bF (h5 (jA yb (pv 2) (bY (pv 0) rfl))) (aA GJ) bX)
   (aw (bF (bS (Iy xu) (pv 2) (dg rfl BJ (c9 (pv 1)) (λs H fp=>⟨ba 0 BJ.nd,d5,Gy K rfl (pv 0) rfl⟩)) rfl) lJ bX)
   (aw (h6 (pv 2) (gU rfl (cS (ba 3 pw.nd) (cS (ba 4 pw.nd) f'))))
   (aw (a9 5 pw.nd (eU (bY (pv 0) rfl) zF.cl yG xG zi zG .nil b' (aa (bY (pv 0) rfl) (aa (pv 3) (aa (pv 4) ah)))))
   (aA (bF (PW.pt (pw_and (bS eu (pv 4) b6 (bM _)) (pw_and (h5 (jA yb (pv 3) (bY (pv 0) rfl))) (pw_and1 (PW.pt (pw_or (bS h7 (pv 5) eo (bM _)) (pw_or1 (e8 (eW (bz xH yq (aa (aT bN (pv 5) ar) ah)))))))))))
    (aA (gx yb (bY (pv 0) rfl) (pv 2) (c4 (aa b6 (aa (eV yb (bY (pv 0) rfl) (pv 3)) (aa (c4 (aa (pv 3) ah)) ah)))) rfl))
    (aA (bF (bS h7 (pv 5) eo (bM _)) lJ
     (aA (bF (bS eu (aT bN (aT bN (pv 5) ar) ar) b6 (bM _))
      (aA (gx yb (bY (pv 0) rfl) (pv 2) (c4 (aa (aT bN (pv 5) ar) (aa (aT bN (aT bN (pv 5) ar) ar) (aa (c4 (aa (pv 3) ah)) ah)))) rfl))
      (aw (lL (pv 0) ar oz) (aA (dX (fB hR lC lD iR (pv 1) (aa (ry zH xI zi rfl yt.m2 yI .nil b' (aa (pv 2) (aa (aT bN (pv 5) ar) (aa (bz yH yq (aa (aT bN (pv 5) ar) ah)) ah)))) ah)))))))))))))),?_⟩
  have yx:H ta=bi ((cg b).map kV):=xi;refine aV rfl rfl ⟨S.x,C,S.dx,_,.ref S.kn,rfl,h.hx,T.cl,T.nn,f9,S.kn,_,rfl,cf.t (k:=cg b) h.hk yx,_,rfl,?_⟩;rcases h.kv.val b with⟨zl,_⟩|⟨v,z,zQ,y,ns,xR,zl,xK,_⟩
  ·rw[zl]
   refine aV rfl rfl ⟨st,rfl,⟨_,aq.of zh⟩,λc yK=>Fs yt zh fs (by omega) yK λO xa h1=>?_⟩
   obtain⟨yu,zK⟩:=Gz L (λp N=>let ⟨lv,rn,x⟩:=fs.fr p N;⟨lv,rn,x.keep λb o _ e=>xa _ _ e⟩) xJ;obtain⟨xL,yL⟩:=HU L xc;refine⟨fX b,_,.tup (xa _ _ xi) (.cons (.str _) (.cons (.str _) .nil)),.inl (.lst h1 yu),xL,zK,yL,_,rfl,?_⟩;rw[au bV];have zv:((yh.map λp=>fX p.2.a).any λy=>S9 y (fX b))=decide (b∈yh.map (·.2.a)):=by
    rw[jT,lu,decide_eq_true_iff,aW]
    constructor
    ·rintro⟨y,xm,e⟩
     obtain⟨p,N,rfl⟩:=aW.mp xm;rw[Ab]at e;exact⟨p,N,eG e⟩
    ·rintro⟨p,N,e⟩
     exact⟨_,aW.mpr ⟨p,N,rfl⟩,by rw[Ab];exact cE e⟩
   rw[zv];refine cm (λzq=>?_) (λzq=>?_)
   ·obtain⟨p,N,e⟩:=aW.mp (eG zq)
    exact absurd e (xx p N)
   have ze:=xa _ _ xi;have q:=h.same xa;have zg:=xa _ _ zh;clear h1 yu;refine ae rfl ⟨ta,_,rfl,aU.of ze,rfl,_,_,rfl,_,_,rfl,rfl,?_⟩;refine ae rfl ⟨S.x,C,S.dx,_,.ref S.fi,rfl,q.hx,T.cl,T.nf,rj,S.fi,S.fx,_,rfl,q.fi.hx,sE (by decide +kernel) (by decide +kernel) (by decide +kernel) (by decide +kernel),_,rfl,S.x,C,S.dx,_,.str S.kd,rfl,q.hx,T.cl,T.nk,rT,_,rfl,_,rfl,kH.mk rfl q.fi q.ln (by rw[h.el];have:=L.ln;omega) (by rw[h.el];exact xc.2) q.k7 (by omega) λv xj ym H2 yf zx xy zu U=>?_⟩
   have ya:=q.looked yf zx xy;have kp:Kp S H H2:=λb o n1 za z=>yf b o n1 za (xa _ _ z);rw[h.el]at U;have U:ip H2 v (S.W.look b):=U;have xw:=yf _ _ (aj ze q.fi.hx) (aj ze q.fi.hh) ze
   have yw:=yf _ _ (aj zg q.fi.hx) (aj zg q.fi.hh) zg
   have yy:∀y,H2 y=none->H y=none:=λy e=>by
    cases zm:H y with
    |none=>rfl
    |some u =>
     by_cases z1:y=S.fi
     ·rw[z1,ya.fi.hx]at e;cases e
     ·by_cases z2:y=S.dh
      ·rw[z2,ya.fi.hh]at e;cases e
      ·rw[kp y u z1 z2 zm]at e;cases e
   have xr:∀wh d,S.W.look b=ih (wh,d)->Ent d:=λwh d e=>(l9 L.bk wh d e).2;have zy:∀z i xn ns,aE H2 i->d=.tuple [.str "plain",.int z]->S.W.Out b (.told z)->i xn=bi [V.str wh,.int z,.ref ns]->i ns=bi [.str b.1]->Q .aM (upd i S.kn (.dT (putK kk (cg b) (.ref xn)))):=λz i xn ns j zL yg xz yz=>by
    have g:=ya.same j;rw[kj _ (g.kv.no yi)];have r:∀{u:HO} x o,x≠S.kn->i x=ih o->upd i S.kn u x=ih o:=λx o n e=>by rw[ag n];exact e
    have yc:∀{u:HO} x xs,i x=bi xs->upd i S.kn u x=bi xs:=λx xs e=>r _ _ (aj e g.hk) e
    refine yJ z _ xj ym _ zL yg (λx o n1 za yn e=>r _ _ yn (j _ _ (kp x o n1 za e))) (g.AY yi yg xc (λx o n1 za e=>r _ _ n1 e) af (r _ _ (aN h.n1.2.2.2.2) g.hq) (CZ h.ql) ⟨_,ns,[b.1],yc _ _ xz,yc _ _ yz,by simp,λy xm=>by rw[b3.mp xm];exact xc.1,by unfold cO;rw[yl,M]⟩) zu
   refine Gx (b:=decide (V.str b.2=V.str "")&&((a5 (g6 S.W.own) (Ct b.1)).isSome&&S.W.m3 b)) (.and (λR k=>ae rfl ⟨rfl,_,rfl,k _ λ_ _ e=>e⟩) λ_ i j=>.and (λR k=>aV rfl rfl ⟨S.x,C,S.dx,_,.ref S.ow,rfl,j _ _ ya.hx,T.cl,T.no,IW,S.ow,_,rfl,cf.k (k:=Ct b.1) (j _ _ ya.ho),_,rfl,k _ λ_ _ e=>e⟩) λ_ xb B R k=>?_) λi j=>?_
   ·have B:=j.trans B
    rw[M]at U;rw[show S.W.m3 b = !mu d by unfold bf.m3;rw[M]]at k
    obtain⟨t,u,rfl,zc,zn⟩:=U;refine ae rfl ⟨rfl,_,rfl,_,rfl,bc (B _ _ zc) ea (pb.mk rfl (xr _ _ M) (zn.same B) λxd G=>ae rfl (k _ G))⟩
   have g:=ya.same j;have yo:=j _ _ xw
   by_cases xv:b.2 = "" /\ (S.W.own.lookup b.1).isSome=true/\S.W.m3 b=true
   ·obtain⟨zz,xA,yA⟩:=xv
    obtain⟨z,xo⟩:=Cr.mp xA;have:S.W.fg b=ih z:=by unfold bf.fg;rw[aB ⟨zz,yA⟩,xo]
    rw[yl]at this;cases this
   rw[au (λz=>xv (by
    rw[jj,jj,HR,ub]at z;refine⟨?_,z.2.1,z.2.2⟩;have e:=eG z.1;injection e))]
   rw[M]at U;obtain⟨t,u,rfl,zc,zn⟩:=U;have yd:=xr _ _ M;have zb:=j _ _ zc;have yj:=zn.same j;obtain⟨yR,xs,rfl,zA⟩:=Aa yd yj;refine ae rfl ⟨rfl,_,rfl,_,rfl,bc zb ea (bc zA cb ⟨rfl,_,rfl,?_⟩)⟩;refine cm (λe=>?_) (λe=>?_)
   ·have e:a4 d = "plain" :=by
     have:=eG e;injection this
    cases yd with
    |ahead x n=>exact absurd e (by show ¬ ((("ahead" : CY)) = "plain");decide +kernel)
    |behind ds=>exact absurd e (by show ¬ ((("behind" : CY)) = "plain");decide +kernel)
    |i6 ds=>exact absurd e (by show ¬ ((("shut" : CY)) = "plain");decide +kernel)
    |plain n zR =>
     obtain⟨xQ,xS,xB,zw,yB⟩:=two1 yj;cases xB
     obtain rfl:=yB.g4;have yg:S.W.Out b (.told n):=by
      have:=(cU.new (W:=S.W) yl M).up 0 (.told n) (by show ih (Rs.told (stepT 0 (.tuple [.str "add",.int n])))=_;rw[show stepT 0 (.tuple [.str "add",.int n])=n from(by show 0+n=n;omega)])
      exact this
     refine ae rfl (bc zb cb (ae rfl (bc zb ea (bc zw ea (ae rfl ⟨ey,λI zB=>⟨g7,λzd yr=>?_⟩⟩)))));have B:=(aH (o:=.tup [V.str b.1]) zB).trans (aH (o:=.tup [V.str wh,.int n,.ref I]) yr);have zo:upd (upd i I (.tup [V.str b.1])) zd (.tup [V.str wh,.int n,.ref I]) zd=bi [V.str wh,.int n,.ref I]:=af;have xp:upd (upd i I (.tup [V.str b.1])) zd (.tup [V.str wh,.int n,.ref I]) I=bi [V.str b.1]:=by rw[ag (ax af yr)];exact af
     generalize upd (upd i I (.tup [V.str b.1])) zd (.tup [V.str wh,.int n,.ref I])=xb at B zo xp⊢;refine ae rfl ⟨S.x,C,S.dx,_,.ref S.kn,rfl,B _ _ g.hx,T.cl,T.nn,f9,_,rfl,S.kn,_,rfl,eQ.t (k:=cg b) (B _ _ g.hk) (B _ _ yo) (by rw[aQ];omega),?_⟩
     exact zy n xb zd I (j.trans B) rfl yg zo xp
   ·have e:a4 d ≠ "plain" :=λz=>e (by rw[z];exact cE rfl)
    have yp:=j _ _ yw;refine ae rfl ⟨S.x,C,S.dx,_,.int bg,rfl,g.hx,T.cl,T.nb,rfl,_,_,rfl,rfl,S.dx,_,g.hx,by show 6<1000;decide,?_⟩
    rw[show bR "begun" (.int (bg+1)) (fW S.fi S.ow S.kp S.kn S.kd bg)=fW S.fi S.ow S.kp S.kn S.kd (bg+1) from rfl];have l:∀x o,x≠S.x->i x=ih o->upd i S.x (.ins C S.dx (fW S.fi S.ow S.kp S.kn S.kd (bg+1))) x=ih o:=λx o n e=>by rw[ag n];exact e
    have zf:upd i S.x (.ins C S.dx (fW S.fi S.ow S.kp S.kn S.kd (bg+1))) S.x=ih (.ins C S.dx (fW S.fi S.ow S.kp S.kn S.kd (bg+1))):=af;generalize upd i S.x (.ins C S.dx (fW S.fi S.ow S.kp S.kn S.kd (bg+1)))=xb at l zf⊢;have xM:∀{x:OT}{xs:am V},i x=bi xs->x≠S.x:=λe=>aj e g.hx
    have J:∀x xs,i x=bi xs->xb x=bi xs:=λx xs e=>l _ _ (xM e) e;have yv:bE C D S (bg+1) ym xj kk kq zI xb:=by
     obtain⟨yM,zM,xN⟩:=g.ln;exact⟨h.n3,zf,⟨l _ _ (aN h.n3) g.fi.hx,l _ _ (aj g.fi.hl g.hx) g.fi.hl,l _ _ (aj g.fi.he g.hx) g.fi.he,l _ _ (aj g.fi.hh g.hx) g.fi.hh,g.fi.du.keep J L.bk.ent,L.bk,g.fi.nn⟩,l _ _ (aj g.ho g.hx) g.ho,l _ _ (aj g.hk g.hx) g.hk,l _ _ (aj g.hq g.hx) g.hq,h.n1,⟨yM,zM,J _ _ xN⟩,h.el,g.k7.keep L.bk J,g.kv.keep J,h.ok,h.nd,h.g9,h.ql⟩
    have xh:=l _ _ (aj yp g.hx) yp
    refine ae rfl ⟨.inl ⟨rfl,_,aq.of xh⟩,_,rfl,_,rfl,bc (J _ _ zb) cb (ae rfl (bc (J _ _ zb) ea (pd.mk rfl yd (yd.keep yj J) e λyS us xd G xC yC=>?_)))⟩;intro x dx xe zC ne;have xD:upd xd dx (.own x) x=none:=by rw[ag (aN ne)];exact xe
    have Y:=(aH (o:=.own x) zC).trans (aH (o:=.ins R dx []) xD);have xg:upd (upd xd dx (.own x)) x (.ins R dx []) x=ih (.ins R dx []):=af;generalize upd (upd xd dx (.own x)) x (.ins R dx [])=zS at Y xg⊢;have zp:=G _ _ (J _ _ yo);refine pe.mk rfl xg (Y _ _ zp) (Y _ _ xC) λlf rs ye zj xk yD yN zr zD xE=>⟨rfl,?_⟩;have yk:aE xd ye:=λc o e=>yN _ _ (ax e xe) (Y _ _ e);have zk:=G.trans yk;have xf:=zk _ _ xh;refine⟨st,refs yh,_,rfl,rfl,xf,by unfold refs;rw[aG,aQ];omega,?_⟩
    have xl:∀c,xb c=none->H c=none:=λc e=>yy _ (j.free (by
     cases zm:i c with
     |none=>rfl
     |some u =>
      by_cases z:c=S.x
      ·rw[z,zf]at e;cases e
      ·rw[l _ _ z zm]at e;cases e))
    have r:∀{u:HO} c o,c≠st->ye c=ih o->upd ye st u c=ih o:=λc o n e=>by rw[ag n];exact e
    have yc:∀{u:HO} c xs,ye c=bi xs->upd ye st u c=bi xs:=λc xs e=>r _ _ (aj e xf) e
    have xq:=Y _ _ (G _ _ xh);have yE:lf≠st:=aN (ax xq zj);have zE:rs≠st:=aN (ax xq xk);have xF:x≠lf:=ax xg zj;have yF:x≠rs:=ax xg xk;obtain⟨xt,yQ⟩:=wF yd;refine zJ e ⟨x,dx,ta,lf,rs⟩ us [b.1] xj ym _ (λc o n1 za yn zN e=>r _ _ zN (zk _ _ (l _ _ yn (j _ _ (kp c o n1 za e))))) ((yv.same zk).write λc o xO _ e=>r _ _ (λz=>by rw[z,xf]at e;cases e;exact xO _ rfl) e) zu (by rw[af];unfold refs;rw[bo];rfl) ⟨r _ _ (aj zr xf) zr,yc _ _ (yk _ _ zp),r _ _ yE zD,hV (λc xs e=>yc _ _ (yk _ _ e)) yC xt,xt,λs yO zc=>L.ask _ (qG (oq M).2) s yO zc,r _ _ zE xE,λz xo=>by rw[b3.mp xo];exact xc.1,by show 1+(bq d).length * 20<=99;omega,yD,aN (ax (G _ _ zf) xe),aN (ax (G _ _ yv.fi.hx) xe)⟩ (xl _ (G.free xe)) (xl _ (G.free (Y.free zj))) (xl _ (G.free (Y.free xk))) xF yF
  ·rw[zl]
   exact absurd xK (yi z)
theorem A0{α:Type} [DecidableEq α]:∀{a b:am α},a.Nodup->(∀x∈a,x∈b)->a.length<=b.length
 |[],_,_,_=>bp _
 |x::a,b,f,h=>by
  obtain⟨n1,g⟩:=dQ.mp f;have c:=h x aS;have:=A0 (b:=b.erase x) g λy d=>(CN (λe=>n1 (by rw[<-e];exact d))).mpr (h y (a8 _ d))
  rw[CL c]at this;have:=CM c;rw[cX];omega
theorem cP.fr{S:Wh}{g:am (Ask×Int)}{A:FA}{f:cp}{i:am V}{st:OT}(h:cP R S H A f lv rn)(w:bE C D S bg m kh kk kq g H)(a:H st=bm i)(n:A.lf≠st/\A.rs≠st)(k:∀b o,b≠S.fi->b≠S.dh->b≠S.kn->b≠S.kp->b≠S.x->b≠st->H b=ih o->Y b=ih o):cP R S Y A f lv rn:=by
 have c:∀b xs,b≠st->H b=bm xs->Y b=bm xs:=λb xs n e=>k _ _ (aj e w.fi.hx) (aj e w.fi.hh) (aj e w.hk) (aj e w.hq) (aj e w.hx) n e
 have d:∀b xs,H b=bi xs->Y b=bi xs:=λb xs e=>k _ _ (aj e w.fi.hx) (aj e w.fi.hh) (aj e w.hk) (aj e w.hq) (aj e w.hx) (aj e a) e
 exact⟨k _ _ h.nf (aj h.hx w.fi.hh) (aj h.hx w.hk) (aj h.hx w.hq) h.nx (aj h.hx a) h.hx,d _ _ h.eJ,c _ _ n.1 h.hl,hV d h.rl h.st,h.st,h.an,c _ _ n.2 h.hr,h.rm,h.a7,h.gJ,h.nx,h.nf⟩
theorem cP.go{S:Wh}{o:am (Ask×Int)}{A a:FA}{f:cp}(h:cP R S H A f lv rn)(w:bE C D S bg m kh kk kq o H)(d:∃c dx fs,H a.x=ih (.ins c dx fs))(g:∃xs,H a.lf=bm xs)(i:∃xs,H a.rs=bm xs)(n:A.x≠a.x/\A.lf≠a.lf/\A.lf≠a.rs/\A.rs≠a.lf/\A.rs≠a.rs)(k:Kr S a H Y):cP R S Y A f lv rn:=by
 obtain⟨c,dx,fs,d⟩:=d;obtain⟨q,g⟩:=g;obtain⟨r,i⟩:=i;have j:∀b xs,H b=bi xs->Y b=bi xs:=λb xs e=>k _ _ (aj e w.fi.hx) (aj e w.fi.hh) (aj e d) (aj e g) (aj e i) e
 have l:∀b xs,b≠a.lf->b≠a.rs->H b=bm xs->Y b=bm xs:=λb xs n1 p e=>k _ _ (aj e w.fi.hx) (aj e w.fi.hh) (aj e d) n1 p e
 exact⟨k _ _ h.nf (aj h.hx w.fi.hh) n.1 (aj h.hx g) (aj h.hx i) h.hx,j _ _ h.eJ,l _ _ n.2.1 n.2.2.1 h.hl,hV j h.rl h.st,h.st,h.an,l _ _ n.2.2.2.1 n.2.2.2.2 h.hr,h.rm,h.a7,h.gJ,h.nx,h.nf⟩
abbrev adr(l:List (FA×cp)):List OT:=l.flatMap λp=>[p.1.x,p.1.lf,p.1.rs]
theorem Ft{l:am (FA×cp)}{p q:FA×cp}(b:(adr (l++[q])).Nodup)(d:p∈l):p.1.x≠q.1.x/\p.1.lf≠q.1.lf/\p.1.lf≠q.1.rs/\p.1.rs≠q.1.lf/\p.1.rs≠q.1.rs:=by
 unfold adr at b;rw[j3]at b;have a:=(eg.mp b).2.2;have m:∀y,y=p.1.x\/y=p.1.lf\/y=p.1.rs->y∈l.flatMap λp=>[p.1.x,p.1.lf,p.1.rs]:=λy c=>lF.mpr ⟨p,d,by simpa using c⟩
 have n:∀y,y=q.1.x\/y=q.1.lf\/y=q.1.rs->y ∈ [q].flatMap λp=>[p.1.x,p.1.lf,p.1.rs]:=λy c=>lF.mpr ⟨q,aS,by simpa using c⟩
 exact⟨a _ (m _ (.inl rfl)) _ (n _ (.inl rfl)),a _ (m _ (.inr (.inl rfl))) _ (n _ (.inr (.inl rfl))),a _ (m _ (.inr (.inl rfl))) _ (n _ (.inr (.inr rfl))),a _ (m _ (.inr (.inr rfl))) _ (n _ (.inr (.inl rfl))),a _ (m _ (.inr (.inr rfl))) _ (n _ (.inr (.inr rfl)))⟩
def KT(S:Wh)(H Y:Hp):Prop:= ∀b o,b≠S.fi->b≠S.dh->b≠S.kn->b≠S.kp->b≠S.x->H b=ih o->Y b=ih o
structure Cw(W:bf)(NU:List CY)(cs:List Ask):Prop where
 ow:∀a∈cs,W.fg a=none
 ua:∀a∈cs,UA W NU a
 nd:cs.Nodup
 la:∀(i:Nat) (a:Ask),cs[i]?=ih a ->∃wh d,W.look a=ih (wh,d)/\((i+1=cs.length /\∃n,d=.tuple [.str "plain",.int n])\/(a4 d ≠ "plain" /\∃b,cs[i+1]?=ih b/\(∀s∈bq d,∀c,W.need a.1 wh s=ih c->c=b) /\∃s∈bq d,W.need a.1 wh s=ih b))
inductive px(C D R:OT)(vs:List V)(H:Hp)(Q:VK)(E:XK):Prop
 |mk{S:Wh}{bg m:Int}{kh kq:List (List Key×V)}{ta:OT}{a:Ask}{cs:List Ask}(_:vs=[.ref S.x,.ref ta])(_:f3 S.W S.NU)(_:bE C D S bg m kh [] kq [] H)(_:kh.length<=1000)(_:H ta=ih (.tup [.str a.1,.str a.2]))(_:Cw S.W S.NU cs)(_:cs[0]?=ih a)(_:cs.length<=100)
  (_:∀t m5 m' cK iC jS Cd Y,KT S H Y->bE C D S m5 m' cK iC jS Cd Y->Cd.map (·.1)=cs.reverse->Q (.ref t) Y):px C D R vs H Q E
structure TI(C D R:OT)(S:Wh)(H0:Hp)(cs:List Ask)(a:Ask)(ta st:OT)(mm k:Nat)(H:Hp)(bj:List (FA×cp))(bg m:Int)(kh kk kq:List (List Key×V))(ka:List (Ask×Int)):Prop where
 w:bE C D S bg m kh kk kq ka H
 lh:kh.length+8 * mm<=400000
 Ce:H st=ih (.lst (refs bj))
 fs:pq R S H bj
 ok:∀p∈bj,cU S.W p.2
 wl:∀p∈bj,p.2.w∈S.W.line
 ap:∀p∈bj,(p.1.lf≠st/\p.1.rs≠st)/\H0 p.1.x=none/\H0 p.1.lf=none/\H0 p.1.rs=none
 sk:bj.map (·.2.a)=cs.take k
 kl:k<cs.length
 ph:(ka=[]/\0<k/\mm=2 * cs.length - k /\∀l top,bj=l++[top] ->∃s∈top.2.left,∃b,cs[k]?=ih b/\S.W.need top.2.a.1 top.2.w s=ih b)\/(ka.map (·.1)=(cs.drop k).reverse/\mm=k)
 eJ:H ta=ih (.tup [.str a.1,.str a.2])
 kt:KT S H0 H
noncomputable abbrev Mc:List CY:=["self","first","standing","needed"]
theorem tj:a' Mc ["self","first"] (aI sy):=bt
theorem et{α:Type}{xs:am α}(h:i<xs.length):xs.take (i+1)=xs.take i++[xs[i]]:=by rw[dd,bB h];rfl
theorem Cw.top{W:bf}{cs:am Ask}(c:Cw W NU cs){f:cp}(j:cU W f)(h:cs[i]?=ih f.a):∃d,W.look f.a=ih (f.w,d)/\(∃pre,bq d=pre++f.left)/\((i+1=cs.length /\∃n,d=.tuple [.str "plain",.int n])\/(a4 d ≠ "plain" /\∃b,cs[i+1]?=ih b/\(∀s∈bq d,∀c,W.need f.a.1 f.w s=ih c->c=b) /\∃s∈bq d,W.need f.a.1 f.w s=ih b)):=by
 obtain⟨wh,d,e,r⟩:=c.la i _ h;obtain⟨_,o,pre,g,k,_⟩:=j.lk;rw[e]at g;obtain⟨l,m⟩:=Prod.mk.inj (c3 g);subst l m;exact⟨d,e,⟨pre,k⟩,r⟩
theorem JY(F:aP K "tell" "Whole.tell" sy f fd)(T:fh K mg C)(zG:aO P w K mg base ay 3 fE dE ["self","standing","asking"] (jM C D R))(xH:Meth K C "enter" fE)(yH:Binds K dE ["self","standing","asking"] [])
  (yV:aO P w K mg base ay 4 fG dG ["self","reckoning"] (kX C D R)) (zV:Meth K C "go_on" fG) (xW:Binds K dG ["self","reckoning"] []) (yW:aO P w K mg base ay 1 fS dS ["self","reckoning"] (kY C D R)) (zW:Meth K C "settle" fS) (xX:Binds K dS ["self","reckoning"] []):aO P w K mg base ay 5 f fd ["self","first"] (px C D R):=by
 refine F.bx tj λQa A y4 s H vs Q E zH h=>?_
 ·obtain @⟨S,bg,m,kh,kq,ta,a,cs,rfl,yq,h,y6,yK,cw,yo,x5,q⟩:=h
  have zt:aY 4 _:=zH;have yB:aY 3 _:=zt.mono (by decide)
  have zK:aY 1 _:=zt.mono (by decide)
  have xL:=d9 zH.units;intro X;refine⟨_,aw (a9 2 tj.nd (er ah))
   (aw (dX (eU (pv 0) T.cl xH zG yB yH .nil b' (aa (pv 2) (aa (pv 1) ah))))
   (aw (lQ eh (iT (pv 2) (λ_=>rfl))
    (aw (a9 3 tj.nd (eU (pv 0) T.cl zV yV zt xW .nil b' (aa (aT cM (pv 2) (mx me ar)) ah)))
    (aA (bF (bS h7 (pv 3) eo (bM _)) (aA (dX (eU (pv 0) T.cl zW yW zK xX .nil b' (aa (Ip hR Dj Dk Iq (pv 2)) ah))))
     (aA (dX (eU (pv 0) T.cl xH zG yB yH .nil b' (aa (pv 2) (aa (pv 3) ah)))))))))
   (aA (aX (eV xL (bY (pv 0) rfl) (pv 1)))))),?_⟩
  obtain⟨xA,yL⟩:=bA.mp yo;have zq:a∈cs:=cY yo;obtain⟨xi,xf,xu,zB⟩:=cw.la 0 a yo;refine⟨bp _,λst zo=>?_⟩;have zd:=aH (o:=.lst []) zo;have ya:=h.same zd;have xd:upd H st (.lst []) st=bm []:=af;have xb:=zd _ _ yK;generalize upd H st (.lst [])=O at zd ya xd xb⊢;refine Lm (gB:=λxI=>∃yf k bj bg m kh kk kq L,TI C D R S H cs a ta st yf k xI bj bg m kh kk kq L) (λyA=>ae rfl ⟨S.x,S.dx,_,rfl,ya.hx,rfl,_,rfl,_,rfl,jM.mk (bj:=[]) (b:=a) rfl yq ya (by omega) (bp _) xd (bp _) ⟨λp j=>(by cases j),fz⟩ (λp j=>(by cases j)) xb (cw.ua a zq) (λz zg=>(by cases zg)) (λp j=>(by cases j)) (cw.ow a zq) xu (λz yi ze zf Y zk yX k zx lk=>yA Y ?_) (λxl U lv rn ze zf Y k zx lk zL zb n1 B G xa N=>yA Y ?_)⟩) ?_
  ·have yl:1=cs.length:=by
    rcases zB with⟨e,_⟩|⟨e,_⟩
    ·exact e
    ·rw[zk]at e;exact absurd rfl e
   have xM:cs=[a]:=by
    cases cs with
    |nil=>cases yl
    |cons x y=>cases y with
     |nil=>cases yo;rfl
     |cons _ _=>exact absurd yl (by simp)
   refine⟨0,0,[],bg,zf,ze,yi,kq,[]++[(a,z)],⟨zx,by omega,k _ _ (aj xd ya.fi.hx) (aj xd ya.fi.hh) (aj xd ya.hk) xd,⟨λp j=>(by cases j),fz⟩,λp j=>(by cases j),λp j=>(by cases j),λp j=>(by cases j),rfl,xA,.inr ⟨by rw[xM];rfl,rfl⟩,k _ _ (aj xb ya.fi.hx) (aj xb ya.fi.hh) (aj xb ya.hk) xb,λb o n1 B G _ _ e=>k _ _ n1 B G (zd _ _ e)⟩⟩
  ·have only:∀p ∈ []++[(U,(⟨a,xi,bq xf,0⟩:cp))],p=(U,⟨a,xi,bq xf,0⟩):=λp j=>b3.mp j
   have yu:U.lf≠st/\U.rs≠st:=⟨aN (ax xd B),aN (ax xd G)⟩;obtain⟨xy,zi,_,yy,zu,xv⟩:∃b,cs[1]?=ih b/\(∀s∈bq xf,∀c,S.W.need a.1 xi s=ih c->c=b) /\∃s∈bq xf,S.W.need a.1 xi s=ih b:=by
    rcases zB with⟨_,n,e⟩|⟨_,r⟩
    ·rw[e]at xl;exact absurd rfl xl
    ·exact r
   refine⟨2 * cs.length - 1,1,[]++[(U,⟨a,xi,bq xf,0⟩)],bg+1,zf,ze,[],kq,[],⟨zx,by omega,zL,⟨λp j=>?_,?_⟩,λp j=>?_,λp j=>?_,λp j=>?_,?_,(bA.mp zi).1,.inl ⟨rfl,Nat.one_pos,rfl,λl top e=>?_⟩,k _ _ (aj xb ya.fi.hx) (aj xb ya.fi.hh) (aj xb ya.hx) (aj xb xd) xb,λb o n1 B G xa N e=>k _ _ n1 B N (ax e zo) (zd _ _ e)⟩⟩
   ·rw[only p j];exact⟨lv,rn,zb⟩
   ·show [U.x,U.lf,U.rs].Nodup
    simp only[dQ,bu,iN,iO,nz,PZ,fz,and_true];exact⟨⟨xa,N⟩,zb.gJ⟩
   ·rw[only p j];exact cU.new (cw.ow a zq) xu
   ·rw[only p j];exact oy xu
   ·rw[only p j];exact⟨yu,zd.free n1,zd.free B,zd.free G⟩
   ·rw[et (i:=0) xA,yL];rfl
   ·have xe:=(Dm e rfl).2
    cases xe
    exact⟨yy,zu,xy,zi,xv⟩
  rintro H2 ⟨yM,zX,yJ,zM,xY,xN,yN,zN,xO,xC⟩;refine⟨λyf σ xh=>∃(xr:a2 V) (k:Nat) (bj:am (FA×cp)) (bg m:Int) (kh kk kq:am (List Key×V)) (L:am (Ask×Int)),σ=[bd S.x,bd ta,bd st,xr]/\TI C D R S H cs a ta st yf k xh bj bg m kh kk kq L,⟨yM,none,zX,yJ,zM,xY,xN,yN,zN,xO,rfl,xC⟩,?_⟩;clear xC;rintro yf σ xh ⟨xr,k,bj,bg,m,kh,kk,kq,L,rfl,ti⟩;refine ae rfl ⟨_,.inl ⟨_,aq.of ti.Ce,rfl⟩,?_⟩;have z6:=ti.kl;have zy:bj.length=k:=by have:=b2 Sk ti.sk;rw[aG,b9]at this;omega
  have x7:kk.length=L.length:=c5 ti.w.kv;cases yt:bj.getLast? with
  |none =>
   have yY:bj=[]:=List.getLast?_eq_none_iff.mp yt;subst yY;have yO:k=0:=by rw[<-zy];rfl
   subst yO;refine cm (λy=>by cases y) (λ_=>?_)
   have xj:L.map (·.1)=cs.reverse:=by
    rcases ti.ph with⟨_,z,_⟩|⟨e,_⟩
    ·exact absurd z (hC 0)
    ·rw[nq]at e;exact e
   have zO:xh ta=bi ((cg a).map kV):=ti.eJ;rcases ti.w.kv.val a with⟨_,xe⟩|⟨v,z7,t,y,ns,x8,yl,xe,rfl,y8,_⟩
   ·have:a∈L.map (·.1):=by rw[xj];exact ei.mpr zq
    obtain⟨p,j,e⟩:=aW.mp this;exact absurd (show(a,p.2)∈L by rw[<-e];exact j) (xe p.2)
   ·refine ae rfl ⟨S.x,C,S.dx,_,.ref S.kn,rfl,ti.w.hx,T.cl,T.nn,f9,_,rfl,S.kn,.ref t,rfl,by rw[<-yl];exact cf.t (k:=cg a) ti.w.hk zO,?_⟩
    exact q t bg m kh kk kq L xh ti.kt ti.w xj
  |some top =>
   obtain⟨l,rfl⟩:=List.getLast?_eq_some_iff.mp yt;clear yt;refine cm (λ_=>?_) (λy=>absurd (by unfold refs;rw[bo];simp) y)
   rw[cQ,j0]at zy;subst zy;have xg:top∈l++[top]:=ee _ aS;have zc:∀p∈l,p∈l++[top]:=λp j=>hE _ j;obtain⟨lv,rn,zb⟩:=ti.fs.fr top xg;have z8:=ti.lh;have yI:=ti.sk;rw[bo,et (show l.length<cs.length by omega)]at yI
   obtain⟨xP,yP⟩:=Dm yI rfl;have yC:top.2.a=cs[l.length]:=(qt yP).1;have zA:cs[l.length]?=ih top.2.a:=by rw[bB (by omega),yC]
   have zJ:top.2.a∈cs:=cY zA;have y7:L.length<=cs.length:=by
    rcases ti.ph with⟨e,_⟩|⟨e,_⟩
    ·rw[e];exact bp _
    ·have:=b2 Sk e
     rw[aG,dw,jW]at this;omega
   refine⟨λzP Y=>∃zC,zC<yf /\∃(xr:a2 V) (k:Nat) (bj:am (FA×cp)) (bg m:Int) (kh kk kq:am (List Key×V)) (L:am (Ask×Int)),zP=[bd S.x,bd ta,bd st,xr]/\TI C D R S H cs a ta st zC k Y bj bg m kh kk kq L,λ_ _ z=>z,?_⟩;have xB:∀g:cp,refs (l++[(top.1,g)])=refs l++[V.ref top.1.x]:=λg=>by unfold refs;rw[bo];rfl
   have yh:xh st=bm (refs l++[V.ref top.1.x]):=by rw[<-xB top.2];exact ti.Ce
   obtain⟨⟨xD,yD⟩,xQ,yQ,zQ⟩:=ti.ap top xg;have xR:st≠top.1.x:=aj yh zb.hx
   have zD:∀{I:Hp},Kr S top.1 xh I->I st=bm (refs l++[V.ref top.1.x])/\I ta=bi [.str a.1,.str a.2]/\KT S H I /\∀p∈l,∃lv rn,cP R S I p.1 p.2 lv rn:=λ{I} kr=>by
    refine⟨kr _ _ (aj yh ti.w.fi.hx) (aj yh ti.w.fi.hh) xR (aN xD) (aN yD) yh,kr _ _ (aj ti.eJ ti.w.fi.hx) (aj ti.eJ ti.w.fi.hh) (aj ti.eJ zb.hx) (aj ti.eJ zb.hl) (aj ti.eJ zb.hr) ti.eJ,λb o n1 B G xa N e=>kr _ _ n1 B (ax e xQ) (ax e yQ) (ax e zQ) (ti.kt b o n1 B G xa N e),λp j=>?_⟩
    obtain⟨xp,yp,fp⟩:=ti.fs.fr p (zc p j);exact⟨xp,yp,fp.go ti.w ⟨_,_,_,zb.hx⟩ ⟨_,zb.hl⟩ ⟨_,zb.hr⟩ (Ft ti.fs.nd j) kr⟩
   refine ae rfl ⟨S.x,S.dx,_,rfl,ti.w.hx,rfl,_,rfl,1,rfl,gF yh (FK _ _) (kX.mk (A:=top.1) (fr:=top.2) rfl yq ti.w (by omega) zb (ti.ok top xg) (ti.wl top xg) (λt' xp yp ze zf I kr J zY yv zp yR=>?_) (λt' d ds xp yp ze zf b tn I kr J zY yv zp zl xE zR=>?_))⟩
   ·obtain⟨ye,yb,yj,zv⟩:=zD kr
    obtain⟨xj,xS⟩:L.map (·.1)=(cs.drop (l.length+1)).reverse/\yf=l.length+1:=by
     rcases ti.ph with⟨e,_,_,z⟩|z
     ·obtain⟨s,x0,b,_,yd⟩:=z l top rfl
      obtain⟨z,zg⟩:=yR s x0 b yd;rw[e]at zg;cases zg
     ·exact z
    have yS:∀z,(top.2.a,z)∉ L:=λz zg=>by
     have:top.2.a∈(cs.drop (l.length+1)).reverse:=by rw[<-xj];exact aW.mpr ⟨_,zg,rfl⟩
     have xm:=cw.nd;rw[<-lx (l.length+1) cs,<-ti.sk,bo]at xm;exact(eg.mp xm).2.2 top.2.a (by simp) top.2.a (ei.mp this) rfl
    refine ae rfl ⟨rfl,_,rfl,_,rfl,S.x,S.dx,_,rfl,J.hx,rfl,_,rfl,.inl ⟨rfl,_,aq.of ye⟩,st,_,V.ref top.1.x,rfl,rfl,ye,by simp,?_⟩
    have zk:(refs l++[V.ref top.1.x]).dropLast=refs l:=by simp
    rw[zk];have yr:∀{u:HO} b o,b≠st->I b=ih o->upd I st u b=ih o:=λb o n e=>by rw[ag n];exact e
    have y0:∀{u:HO} b xs,I b=bi xs->upd I st u b=bi xs:=λb xs e=>yr _ _ (aj e ye) e
    have xc:bE C D S bg zf ze kk kq L (upd I st (.lst (refs l))):=J.write λb o z0 _ e=>yr _ _ (λz=>by rw[z,ye]at e;cases e;exact z0 _ rfl) e
    have xw:∀{A:FA}{g:cp}{lv:am V}{rn:am CY},A.lf≠st->A.rs≠st->cP R S I A g lv rn->cP R S (upd I st (.lst (refs l))) A g lv rn:=λn1 B q=>q.fr J ye ⟨n1,B⟩ λb o _ _ _ _ _ n e=>yr _ _ n e;have zh:upd I st (.lst (refs l)) st=bm (refs l):=af;have yn:upd I st (.lst (refs l)) ta=bi [.str a.1,.str a.2]:=y0 _ _ yb;have yE:KT S H (upd I st (.lst (refs l))):=λb o n1 B G xa N e=>yr _ _ (ax e zo) (yj b o n1 B G xa N e);have zE:∀p∈l,∃lv rn,cP R S (upd I st (.lst (refs l))) p.1 p.2 lv rn:=λp j=>by
     obtain⟨lv,rn,q⟩:=zv p j;exact⟨lv,rn,xw (ti.ap p (zc p j)).1.1 (ti.ap p (zc p j)).1.2 q⟩
    have zj:=xw xD yD yv;generalize upd I st (.lst (refs l))=zI at xc xw zh yn yE zE zj⊢;refine kY.mk (A:=top.1) (fr:=⟨top.2.a,top.2.w,[],t'⟩) rfl yq xc (by omega) zj (zp.done rfl) yS (cw.ua _ zJ) (ti.ok top xg).wh λyi zS xI zr x1=>?_
    refine⟨l.length,by omega,_,l.length,l,bg,zf,ze,yi,zS,L++[(top.2.a,t')],rfl,⟨x1,by omega,zr _ _ (aj zh xc.hk) (aj zh xc.hq) zh,⟨λp j=>?_,?_⟩,λp j=>ti.ok p (zc p j),λp j=>ti.wl p (zc p j),λp j=>ti.ap p (zc p j),xP,by omega,.inr ⟨?_,rfl⟩,zr _ _ (aj yn xc.hk) (aj yn xc.hq) yn,λb o n1 B G xa N e=>zr _ _ G xa (yE b o n1 B G xa N e)⟩⟩
    ·obtain⟨lv,rn,q⟩:=zE p j
     exact⟨lv,rn,q.fr xc zh (ti.ap p (zc p j)).1 λb o _ _ G xa _ _ e=>zr _ _ G xa e⟩
    ·have:=ti.fs.nd
     rw[j3]at this;exact(eg.mp this).1
    ·rw[bo,xj,iK (show l.length<cs.length by omega),lp,<-yC];rfl
   ·obtain⟨ye,yb,yj,zv⟩:=zD kr
    obtain⟨xf,x9,⟨pre,xK⟩,y1⟩:=cw.top zp zA;have ym:d∈bq xf:=by rw[xK];exact ee _ aS
    have yd:cs[l.length+1]?=ih b:=by
     rcases y1 with⟨_,n,e⟩|⟨_,y9,xT,only,_⟩
     ·rw[e]at ym
      have ym:d ∈ [.tuple [.str "add",.int n]]:=ym;rw[b3.mp ym]at zl;unfold bf.need at zl;rw[au (show ¬ a4 (.tuple [.str "add",.int n]) = "ask" by show ¬ ("add" : CY) = "ask"; decide +kernel),au (show ¬ a4 (.tuple [.str "add",.int n]) = "onward" by show ¬ ("add" : CY) = "onward"; decide +kernel)]at zl
      cases zl
     ·rw[only d ym b zl];exact xT
    have xz:b∈cs:=cY yd;obtain⟨xF,_,xS,_⟩:L=[]/\0<l.length+1/\yf=2 * cs.length - (l.length+1)/\True:=by
     rcases ti.ph with⟨e,z1,z2,_⟩|⟨e,_⟩
     ·exact⟨e,z1,z2,trivial⟩
     ·have:b∈L.map (·.1):=by
       rw[e];exact ei.mpr (nH.mpr ⟨0,by rw[Dn];exact yd⟩)
      obtain⟨p,j,xe⟩:=aW.mp this;exact absurd (show(b,p.2)∈L by rw[<-xe];exact j) (xE p.2)
    obtain⟨xk,zm,yw,yF⟩:=cw.la _ b yd;obtain⟨M,yk⟩:∃M,l++[(top.1,(⟨top.2.a,top.2.w,d::ds,t'⟩:cp))]=M:=⟨_,rfl⟩;have zn:∀p∈M,p∈l\/p=(top.1,⟨top.2.a,top.2.w,d::ds,t'⟩):=λp j=>by
     rw[<-yk]at j;rcases cq.mp j with z|z
     ·exact .inl z
     ·exact .inr (b3.mp z)
    have zw:M.map (·.2.a)=cs.take (l.length+1):=by rw[<-ti.sk,<-yk,bo,bo];rfl
    have y5:M.length=l.length+1:=by rw[<-yk,cQ];rfl
    have zF:∀p∈M,cU S.W p.2:=λp j=>by
     rcases zn p j with z|z
     ·exact ti.ok p (zc p z)
     ·rw[z];exact zp
    have Qn:pq R S I M:=by
     refine⟨λp j=>?_,?_⟩
     ·rcases zn p j with z|z
      ·exact zv p z
      ·rw[z];exact⟨xp,yp,yv⟩
     ·have:=ti.fs.nd
      rw[<-yk,j3];rw[j3]at this;exact this
    have xq:∀p∈M,(p.1.lf≠st/\p.1.rs≠st)/\H p.1.x=none/\H p.1.lf=none/\H p.1.rs=none:=λp j=>by
     rcases zn p j with z|z
     ·exact ti.ap p (zc p z)
     ·rw[z];exact ti.ap top xg
    have xG:∀p∈M,p.2.a∈cs.take (l.length+1):=λp j=>by rw[<-zw];exact aW.mpr ⟨p,j,rfl⟩
    have yT:∀p∈M,UA S.W S.NU p.2.a:=λp j=>cw.ua _ (lE (xG p j));have yG:∀p∈M,p.2.w∈S.W.line:=λp j=>by
     rcases zn p j with z|z
     ·exact ti.wl p (zc p z)
     ·rw[z];exact ti.wl top xg
    have yc:I st=bm (refs M):=by rw[<-yk,xB];exact ye
    have x2:∀p∈M,p.2.a≠b:=λp j e=>by
     have xm:=cw.nd;rw[<-lx (l.length+1) cs]at xm;exact(eg.mp xm).2.2 _ (xG p j) b (nH.mpr ⟨0,by rw[Dn];exact yd⟩) e
    have xx:∀e,I e=none->H e=none:=λe za=>by
     cases y2:H e with
     |none=>rfl
     |some u =>
      exfalso
      by_cases z1:e=S.fi
      ·rw[z1,J.fi.hx]at za;cases za
      ·by_cases z2:e=S.dh
       ·rw[z2,J.fi.hh]at za;cases za
       ·by_cases z3:e=S.kn
        ·rw[z3,J.hk]at za;cases za
        ·by_cases z4:e=S.kp
         ·rw[z4,J.hq]at za;cases za
         ·by_cases z5:e=S.x
          ·rw[z5,J.hx]at za;cases za
          ·rw[yj e u z1 z2 z3 z4 z5 y2]at za;cases za
    have yz:=(bA.mp yd).1;refine⟨_,rfl,rfl,_,rfl,_,rfl,S.x,S.dx,_,rfl,J.hx,rfl,_,rfl,_,rfl,jM.mk (bj:=M) (b:=b) rfl yq J (by omega) (by omega) yc (by omega) Qn yT zR (cw.ua b xz) xE x2 (cw.ow b xz) yw (λz yi yx zz zI zk yX k xc x3=>?_) (λxl U zT xU yx zz zI k xc x3 yU zj n1 B G xa N=>?_)⟩
    ·have yl:l.length+1+1=cs.length:=by
      rcases yF with⟨e,_⟩|⟨e,_⟩
      ·exact e
      ·rw[zk]at e;exact absurd rfl e
     refine⟨l.length+1,by omega,_,l.length+1,M,bg,zz,yx,yi,kq,L++[(b,z)],rfl,⟨xc,by omega,k _ _ (aj yc J.fi.hx) (aj yc J.fi.hh) (aj yc J.hk) yc,⟨λp j=>?_,Qn.nd⟩,zF,yG,xq,zw,yz,.inr ⟨?_,rfl⟩,k _ _ (aj yb J.fi.hx) (aj yb J.fi.hh) (aj yb J.hk) yb,λb o n1 B G xa N e=>k _ _ n1 B G (yj b o n1 B G xa N e)⟩⟩
     ·obtain⟨lv,rn,q⟩:=Qn.fr p j
      exact⟨lv,rn,q.fr J yc (xq p j).1 λb o n1 B G _ _ _ e=>k _ _ n1 B G e⟩
     ·rw[xF,iK yz,qi (by omega),(bA.mp yd).2];rfl
    ·obtain⟨xy,zi,_,yy,zu,xv⟩:∃c,cs[l.length+1+1]?=ih c/\(∀s∈bq zm,∀xJ,S.W.need b.1 xk s=ih xJ->xJ=c) /\∃s∈bq zm,S.W.need b.1 xk s=ih c:=by
      rcases yF with⟨_,n,e⟩|⟨_,r⟩
      ·rw[e]at xl;exact absurd rfl xl
      ·exact r
     have zU:=(bA.mp zi).1;have yu:U.lf≠st/\U.rs≠st:=⟨aN (ax yc B),aN (ax yc G)⟩;have xo:∀p∈M++[(U,(⟨b,xk,bq zm,0⟩:cp))],p∈M\/p=(U,⟨b,xk,bq zm,0⟩):=λp j=>by
      rcases cq.mp j with z|z
      ·exact .inl z
      ·exact .inr (b3.mp z)
     refine⟨2 * cs.length - (l.length+1+1),by omega,_,l.length+1+1,M++[(U,⟨b,xk,bq zm,0⟩)],bg+1,zz,yx,kk,kq,L,rfl,⟨xc,by omega,yU,⟨λp j=>?_,?_⟩,λp j=>?_,λp j=>?_,λp j=>?_,?_,zU,.inl ⟨xF,Vz _,rfl,λz9 x6 e=>?_⟩,k _ _ (aj yb J.fi.hx) (aj yb J.fi.hh) (aj yb J.hx) (aj yb yc) yb,λb o n1 B G xa N e=>k _ _ n1 B N (ax e zo) (yj b o n1 B G xa N e)⟩⟩
     ·rcases xo p j with z|z
      ·obtain⟨lv,rn,q⟩:=Qn.fr p z
       exact⟨lv,rn,q.fr J yc (xq p z).1 λb o n1 B _ _ N y3 e=>k _ _ n1 B N y3 e⟩
      ·rw[z];exact⟨zT,xU,zj⟩
     ·rw[j3]
      refine eg.mpr ⟨Qn.nd,?_,λx xt y xn e=>?_⟩
      ·show [U.x,U.lf,U.rs].Nodup
       simp only[dQ,bu,iN,iO,nz,PZ,fz,and_true];exact⟨⟨xa,N⟩,zj.gJ⟩
      ·obtain⟨p,j,xt⟩:=lF.mp xt
       obtain⟨lv,rn,q⟩:=Qn.fr p j;have x4:∃o,I x=ih o:=by
        simp only[bu,iN,iO]at xt;rcases xt with z|z|z
        ·rw[z];exact⟨_,q.hx⟩
        ·rw[z];exact⟨_,q.hl⟩
        ·rw[z];exact⟨_,q.hr⟩
       obtain⟨o,yg⟩:=x4;obtain⟨p',xV,xn⟩:=lF.mp xn;rw[b3.mp xV]at xn;simp only[bu,iN,iO]at xn;rw[e]at yg;rcases xn with z|z|z
       ·rw[z,n1]at yg;cases yg
       ·rw[z,B]at yg;cases yg
       ·rw[z,G]at yg;cases yg
     ·rcases xo p j with z|z
      ·exact zF p z
      ·rw[z];exact cU.new (cw.ow b xz) yw
     ·rcases xo p j with z|z
      ·exact yG p z
      ·rw[z];exact oy yw
     ·rcases xo p j with z|z
      ·exact xq p z
      ·rw[z];exact⟨yu,xx _ n1,xx _ B,xx _ G⟩
     ·rw[bo,zw,et yz,(bA.mp yd).2];rfl
     ·have xe:=(Dm e rfl).2
      cases xe
      exact⟨yy,zu,xy,zi,xv⟩
theorem sg{W:bf}{a:Ask->Option Rs}{w:CY}{d:O7}{ds:am O7}{t:Int}(c:W.need n w d=none):W.ec a n w (d::ds) t=W.ec a n w ds (stepT t d):=by
 show(match W.need n w d with|none=>_|some b=>_)=_;rw[c]
def iu:O7:=.tuple [.str "onward"]
abbrev bC:=CY×CY×O7×Int
def jN(n:CY):O7:=.tuple [.str "ask",.str n]
def dJ(z:Int):List O7->Int->Int
 |[],t=>t
 |d::ds,t=>dJ z ds (if a4 d = "add" then t+gz d else if a4 d = "times" then t * gz d else t+z)
theorem mv{d:O7}{ds:am O7}{t:Int}:dJ z (d::ds) t=dJ z ds (if a4 d = "add" then t+gz d else if a4 d = "times" then t * gz d else t+z):=rfl
structure Rg(l:O7)(ds:List O7):Prop where
 al:∀d∈ds,a4 d = "add" \/ a4 d = "times" \/ d=l
 g9:l∈ds
inductive gn(line:List CY):List bC->Prop
 |one {k n:CY}{z:Int} (hk:line[line.length - 1]?=ih k):gn line [(k,n,.tuple [.str "plain",.int z],z)]
 |on {k k' n:CY}{d d':O7}{s':Int}{j:Nat}{l:List bC} (h:gn line ((k',n,d',s')::l)) (hj:line[j]?=ih k) (P8:line[j+1]?=ih k') (r:Rg iu (bq d)):gn line ((k,n,d,dJ s' (bq d) 0)::(k',n,d',s')::l)
 |ask {k k' n n':CY}{d d':O7}{s':Int}{l:List bC} (h:gn line ((k',n',d',s')::l)) (hk:line[line.length - 1]?=ih k) (P9:line[0]?=ih k') (r:Rg (jN n') (bq d)):gn line ((k,n,d,dJ s' (bq d) 0)::(k',n',d',s')::l)
def cW(line:List CY)(k:CY):CY:=match line.idxOf k with
 |0 => ""
 |j+1=>(line[j]?).getD ""
theorem Ay(a:line.Nodup){k:CY}(h:line[j]?=ih k):line.idxOf k=j:=by
 obtain⟨b,rfl⟩:=bA.mp h;exact a.idxOf_getElem j b
theorem kN(a:line.Nodup){k:CY}(h:line[0]?=ih k):cW line k = "" :=by unfold cW;rw[Ay a h]
theorem mF(b:line.Nodup){k a:CY}(h:line[j]?=ih k)(h':line[j+1]?=ih a):cW line a=k:=by unfold cW;rw[Ay b h'];show(line[j]?).getD "" = k;rw[h];rfl
theorem rW(a:line.Nodup)(ne:∀k∈line,k ≠ ""){k:CY}(c:k∈line):fV line (cW line k)=line.drop (line.idxOf k):=by
 have hi:=qu c;have b:line[line.idxOf k]?=ih k:=by rw[bB hi,nG]
 generalize line.idxOf k=j at hi b;cases j with
 |zero=>rw[kN a b];rfl
 |succ j =>
  have d:line[j]?=ih (line[j]'(by omega)):=bB (by omega)
  rw[mF a d b];unfold fV;rw[au (ne _ (fw _)),a.idxOf_getElem]
section
variable{W:bf}
theorem hY(b:W.line.Nodup)(ne:∀k∈W.line,k ≠ ""){k:CY}{d:O7}(a:k∈W.line)(h:dA W.bk k n=ih d):W.look (n,cW W.line k)=ih (k,d):=by
 show d4 W.bk n (fV W.line (cW W.line k))=_;have hi:=qu a;have e:W.line[W.line.idxOf k]=k:=nG ..;rw[rW b ne a,iK hi,e];exact yZ h
theorem rk(h:W.own=[])(a:Ask):W.fg a=none:=by
 unfold bf.fg;rw[h];split <;> rfl
theorem js{w:CY}{d:O7}(h:a4 d = "add" \/ a4 d = "times"):W.need n w d=none:=by
 have a:("add" : CY)≠ "ask" :=by decide +kernel
 have b:("add" : CY)≠ "onward" :=by decide +kernel
 have c:("times" : CY)≠ "ask" :=by decide +kernel
 have e:("times" : CY)≠ "onward" :=by decide +kernel
 unfold bf.need;rcases h with h|h <;> rw[h]
 ·rw[au a,au b]
 ·rw[au c,au e]
theorem rX{f:Ask->Option Rs}{a:Ask}{w:CY}{d:O7}(b:W.own=[])(c:W.look a=ih (w,d)):W.fJ f a=W.ec f a.1 w (bq d) 0:=by
 unfold bf.fJ;rw[rk b,c]
theorem I0{l:O7}(a:a4 l = "ask" \/ a4 l = "onward"):a4 l ≠ "add" /\ a4 l ≠ "times" :=by
 rcases a with h|h <;> rw[h] <;> decide +kernel
theorem ro{f:Ask->Option Rs}{n w:CY}{l:O7}{b:Ask}{z:Int}(c:a4 l = "ask" \/ a4 l = "onward")(g:W.need n w l=ih b)(i:f b=ih (.told z)):∀{ds:am O7}{t:Int},(∀d∈ds,a4 d = "add" \/ a4 d = "times" \/ d=l)->W.ec f n w ds t=ih (.told (dJ z ds t))
 |[],t,_=>rfl
 |d::ds,t,h=>by
  have a:=λt=>ro c g i (ds:=ds) (t:=t) λx k=>h x (a8 _ k);have m:("times" : CY)≠ "add" :=by decide +kernel
  rcases h d aS with e|e|rfl
  ·rw[sg (js (.inl e)),a];unfold stepT;rw[mv,aB e,aB e]
  ·have j:a4 d ≠ "add" :=by rw[e];exact m
   rw[sg (js (.inr e)),a];unfold stepT;rw[mv,au j,aB e,au j,aB e]
  ·obtain⟨o,p⟩:=I0 c
   rw[rS g,i];show W.ec f n w ds (t+z)=_;rw[a,mv,au o,au p]
theorem rp{w m:CY}:W.need n w (jN m)=ih (m,("" : CY)):=by
 unfold bf.need;exact aB (show a4 (jN m) = "ask" from rfl)
theorem wI{w:CY}(h:(W.look (n,w)).isSome=true):W.need n w iu=ih (n,w):=by
 unfold bf.need;rw[au (show ¬ a4 iu = "ask" by show ¬ ("onward" : CY) = "ask"; decide +kernel),aB (show a4 iu = "onward" from rfl),aB h]
theorem HV(b:W.line.Nodup)(ne:∀k∈W.line,k ≠ "")(s:W.own=[]){bs:am bC}(h:gn W.line bs):(∀x∈bs,dA W.bk x.1 x.2.1=ih x.2.2.1) ->∀x∈bs,W.Out (x.2.1,cW W.line x.1) (.told x.2.2.2):=by
 generalize e:W.line=line at h
 induction h with
 |@one k n z t =>
  intro c x i;rw[b3.mp i];have f:=hY b ne (e ▸ cY t) (c (k,n,.tuple [.str "plain",.int z],z) aS);refine⟨1,?_⟩;show W.fJ (W.out 0) _=_;rw[<-e,rX s f];show W.ec _ _ _ [.tuple [.str "add",.int z]] 0=_;rw[sg (js (.inl rfl))];show ih (Rs.told (stepT 0 _))=ih (Rs.told z);unfold stepT;rw[aB (show a4 (.tuple [.str "add",.int z]) = "add" from rfl)];show ih (Rs.told (0+z))=_;rw[Int.zero_add]
 |@on k g n d p s' j l B w v r a =>
  intro c x i;have a:=a λy u=>c y (a8 _ u);rcases bu.mp i with z|z
  ·rw[z]
   have f:=hY b ne (e ▸ cY w) (c (k,n,d,_) aS);have q:=hY b ne (e ▸ cY v) (c (g,n,p,s') (a8 _ aS));rw[e]at b f q;obtain⟨m,o⟩:=a (g,n,p,s') aS;rw[show cW line g=k from mF b w v]at o q;refine⟨m+1,?_⟩;show W.fJ (W.out m) _=_;rw[rX s f];exact ro (.inr rfl) (wI (by show(W.look (n,k)).isSome=true;rw[q];rfl)) o r.al
  ·exact a x z
 |@ask k g n C d p s' l B t A r a =>
  intro c x i;have a:=a λy u=>c y (a8 _ u);rcases bu.mp i with z|z
  ·rw[z]
   have f:=hY b ne (e ▸ cY t) (c (k,n,d,_) aS);rw[e]at b f;obtain⟨m,o⟩:=a (g,C,p,s') aS;rw[show cW line g = "" from kN b A]at o;refine⟨m+1,?_⟩;show W.fJ (W.out m) _=_;rw[rX s f];exact ro (.inl rfl) rp o r.al
  ·exact a x z
def ck(line:List CY)(x:bC):Ask:=(x.2.1,cW line x.1)
theorem HW(c:line.Nodup)(ne:∀k∈line,k ≠ ""){k a:CY}(h:k∈line)(h':a∈line)(e:cW line k=cW line a):k=a:=by
 have b:=rW c ne h;rw[e,rW c ne h']at b;have d:=qu h;have f:=qu h';have:=b2 List.head? b;rw[UT,UT,bB d,bB f,nG,nG]at this;exact(c3 this).symm
theorem Az{l d:O7}(e:Ent d)(h:l∈bq d)(a:a4 l = "ask" \/ a4 l = "onward"):a4 d ≠ "plain" :=by
 cases e with
 |plain n =>
  have h:l ∈ [U0 [.str "add",.int n]]:=h;rw[b3.mp h]at a;have b:("add" : CY)≠ "ask" :=by decide +kernel
  have c:("add" : CY)≠ "onward" :=by decide +kernel
  rcases a with z|z
  ·exact absurd z b
  ·exact absurd z c
 |ahead x n=>show("ahead" : CY)≠ "plain"; decide +kernel
 |behind ds=>show("behind" : CY)≠ "plain"; decide +kernel
 |i6 ds=>show("shut" : CY)≠ "plain"; decide +kernel
theorem I1(g:W.line.Nodup)(ne:∀k∈W.line,k ≠ ""){bs:am bC}(h:gn W.line bs):(∀x∈bs,dA W.bk x.1 x.2.1=ih x.2.2.1)->(∀x∈bs,Ent x.2.2.1) ->∀(i:Nat) (a:Ask),(bs.map (ck W.line))[i]?=ih a ->∃wh d,W.look a=ih (wh,d)/\((i+1=(bs.map (ck W.line)).length /\∃n,d=.tuple [.str "plain",.int n])\/(a4 d ≠ "plain" /\∃b,(bs.map (ck W.line))[i+1]?=ih b/\(∀s∈bq d,∀c,W.need a.1 wh s=ih c->c=b) /\∃s∈bq d,W.need a.1 wh s=ih b)):=by
 generalize p:W.line=line at h
 induction h with
 |@one k n z B =>
  intro m _ i a hi;cases i with
  |zero =>
   cases hi
   have o:=hY g ne (p ▸ cY B) (m (k,n,.tuple [.str "plain",.int z],z) aS);rw[p]at o;exact⟨k,_,o,.inl ⟨rfl,z,rfl⟩⟩
  |succ i=>simp at hi
 |@on k t n d v s' j l L I H r C =>
  intro m u i a hi;cases i with
  |zero =>
   cases hi
   have o:=hY g ne (p ▸ cY I) (m (k,n,d,_) aS);have A:=hY g ne (p ▸ cY H) (m (t,n,v,s') (a8 _ aS));rw[p]at g o A;have ep:cW line t=k:=mF g I H;rw[ep]at A;have J:W.need n k iu=ih (n,k):=wI (by show(W.look (n,k)).isSome=true;rw[A];rfl)
   refine⟨k,d,o,.inr ⟨Az (u (k,n,d,_) aS) r.g9 (.inr rfl),(n,k),?_,λs D c f=>?_,iu,r.g9,J⟩⟩
   ·show ih (ck line (t,n,v,s'))=_;unfold ck;rw[ep]
   ·rcases r.al s D with z|z|z
    ·rw[show W.need (ck line (k,n,d,dJ s' (bq d) 0)).1 k s=none from js (.inl z)]at f;cases f
    ·rw[show W.need (ck line (k,n,d,dJ s' (bq d) 0)).1 k s=none from js (.inr z)]at f;cases f
    ·rw[z]at f
     have f:W.need n k iu=ih c:=f;rw[J]at f;exact(c3 f).symm
  |succ i =>
   obtain⟨wh,E,F,G⟩:=C (λy q=>m y (a8 _ q)) (λy q=>u y (a8 _ q)) i a hi;refine⟨wh,E,F,?_⟩;rcases G with⟨e,n1⟩|e
   ·exact .inl ⟨by rw[b5,cX,<-e],n1⟩
   ·exact .inr e
 |@ask k t n w d v s' l L B K r C =>
  intro m u i a hi;cases i with
  |zero =>
   cases hi
   have o:=hY g ne (p ▸ cY B) (m (k,n,d,_) aS);rw[p]at g o;have ep:cW line t = "" :=kN g K;refine⟨k,d,o,.inr ⟨Az (u (k,n,d,_) aS) r.g9 (.inl rfl),(w,""),?_,λs D c f=>?_,jN w,r.g9,rp⟩⟩
   ·show ih (ck line (t,w,v,s'))=_;unfold ck;rw[ep]
   ·rcases r.al s D with z|z|z
    ·rw[show W.need (ck line (k,n,d,dJ s' (bq d) 0)).1 k s=none from js (.inl z)]at f;cases f
    ·rw[show W.need (ck line (k,n,d,dJ s' (bq d) 0)).1 k s=none from js (.inr z)]at f;cases f
    ·rw[z]at f
     have f:W.need n k (jN w)=ih c:=f;rw[rp]at f;exact(c3 f).symm
  |succ i =>
   obtain⟨wh,E,F,G⟩:=C (λy q=>m y (a8 _ q)) (λy q=>u y (a8 _ q)) i a hi;refine⟨wh,E,F,?_⟩;rcases G with⟨e,n1⟩|e
   ·exact .inl ⟨by rw[b5,cX,<-e],n1⟩
   ·exact .inr e
end
inductive pz(vs:List V)(H:Hp)(Q:VK)(E:XK):Prop
 |mk{p:OT}{v:V}{st:O7}(_:vs=[.ref p,v])(_:dY p H)(_:dr st)(_:Rep H v st)
  (_:∀t us ds Y,bD p H Y->Y t=ih (.tup us)->bI Y us ds->(∀d∈ds,dr d)->ds.length<=4->Rg st ds->Q (.ref t) Y):pz vs H Q E
noncomputable abbrev tT:List CY:=["_law_pot_here","_law_step"]
noncomputable abbrev Md:List CY:=["_law_pot_here","_law_step","_law_way","_law_last","_law_times"]
theorem pA:a' Md tT (aI sr):=bt
theorem JZ(F:aP K "_law_rung" "_law_rung" sr f fd)
  (C:bQ P w K mg base ay 1 fD dD ["_law_pot_here","_law_many"] hZ "_law_digit")
  (V:bQ P w K mg base ay 2 fN dN ["_law_pot_here"] kM "_law_number"):aO P w K mg base ay 3 f fd tT pz:=by
 refine F.bx pA λQa A zb s H vs Q E W h=>?_
 ·obtain @⟨p,v,st,rfl,D,i,Y,q⟩:=h
  have y:aY 2 _:=W;have B:aY 1 _:=y.mono (by decide)
  intro X;refine⟨_,aw (a9 2 pA.nd (bz C B (aa (pv 0) (aa ar ah))))
   (aw (a9 3 pA.nd (c2 (aa b6 (aa (bz V y (aa (pv 0) ah)) ah))))
   (aw (a9 4 pA.nd (c2 (aa b6 (aa (bJ jx (bz C B (aa (pv 0) (aa ar ah))) ar) ah))))
   (aw (bF (bS eu (pv 2) ar (bM _)) (aA (aX (c2 (aa (pv 1) (aa (pv 1) (aa (pv 1) (aa (pv 1) ah))))))) bX)
   (aw (bF (bS eu (pv 2) ar (bM _)) (aA (aX (c2 (aa (pv 1) (aa (pv 1) (aa (pv 4) (aa (pv 3) ah))))))) bX)
   (aw (bF (bS eu (pv 2) ar (bM _)) (aA (aX (c2 (aa (pv 3) (aa (pv 4) (aa (pv 1) ah)))))) bX)
   (aA (aX (c2 (aa (pv 4) (aa (pv 1) (aa (pv 3) (aa (pv 1) ah)))))))))))),?_⟩
  refine ae rfl (eM (p:=p) (m:=4) D (by decide) (by decide) λxc O yc zc g=>?_)
  have N:=i.keep Y (kC D g);refine ae rfl (kM.mk rfl g.ok λn H2 xa p2=>⟨b8,λtl xd G _ R=>?_⟩);have T:=(i.keep N (kC g.ok p2)).same G;have k:=(g.trans p2).trans (dz (g.trans p2).ok G);refine ae rfl (eM (p:=p) (m:=19) k.ok (by decide) (by decide) λm yd zd xe p4=>⟨_,_,rfl,rfl,b8,λya l o _ U=>?_⟩)
  have M:=kC k.ok p4 _ _ R;have a:=(i.keep T (kC k.ok p4)).same o;have I:=k.trans p4;have J:=I.trans (dz I.ok o);have rl:Rep l (.ref tl) (.tuple [.str "add",.int n]):=.tup (o _ _ M) (.cons (.str _) (.cons (.int _) .nil));have u:Rep l (.ref ya) (.tuple [.str "times",.int (m - 9)]):=.tup U (.cons (.str _) (.cons (.int _) .nil));have sl:dr (.tuple [.str "add",.int n]):=.add n xa;have za:dr (.tuple [.str "times",.int (m - 9)]):=.times _ (by omega) (by omega)
  have j:∀{t us ds b},aE l b->b t=bi us->bI l us ds->(∀d∈ds,d=st\/d=.tuple [.str "add",.int n]\/d=.tuple [.str "times",.int (m - 9)])->ds.length<=4->st∈ds->Q (.ref t) b:=λ{t us ds b} S h r L xb yb=>q t us ds b (J.trans (dz J.ok S)) h (bI.same r S) (λd x=>by
   rcases L d x with z|z|z
   ·rw[z];exact i
   ·rw[z];exact sl
   ·rw[z];exact za) xb ⟨λd x=>by
   rcases L d x with z|z|z
   ·exact .inr (.inr z)
   ·exact .inl (by rw[z];rfl)
   ·exact .inr (.inl (by rw[z];rfl)),yb⟩
  refine ae rfl ⟨rfl,_,rfl,?_⟩;refine cm (λ_=>?_) (λ_=>?_)
  ·refine kR rfl rfl rfl rfl ⟨by show 4<=OY;rw[aQ];decide,λt b c _ e=>j c e (.cons a (.cons a (.cons a (.cons a .nil)))) ?_ (by show 4<=4;decide) aS⟩
   simp
  refine ae rfl ⟨rfl,_,rfl,?_⟩;refine cm (λ_=>?_) (λ_=>?_)
  ·refine kR rfl rfl rfl rfl ⟨by show 4<=OY;rw[aQ];decide,λt b c _ e=>j c e (.cons a (.cons a (.cons u (.cons rl .nil)))) ?_ (by show 4<=4;decide) aS⟩
   simp
  refine ae rfl ⟨rfl,_,rfl,?_⟩;refine cm (λ_=>?_) (λ_=>?_)
  ·refine d8 rfl rfl rfl ⟨g7,λt b c _ e=>j c e (.cons rl (.cons u (.cons a .nil))) ?_ (by show 3<=4;decide) (by simp)⟩
   simp
  ·refine kR rfl rfl rfl rfl ⟨by show 4<=OY;rw[aQ];decide,λt b c _ e=>j c e (.cons u (.cons a (.cons rl (.cons a .nil)))) ?_ (by show 4<=4;decide) (by simp)⟩
   simp
inductive pB(vs:List V)(H:Hp)(Q:VK)(E:XK):Prop
 |mk{r:OT}{us:List V}{ds:List O7}{z:Int}(_:vs=[.ref r,.int z])(_:H r=ih (.lst us))(_:bI H us ds)(_:∀d∈ds,dr d)
  (_:Q (.int (dJ z ds 0)) H):pB vs H Q E
noncomputable abbrev tU:List CY:=["_law_steps_here","_law_behind"]
noncomputable abbrev Me:List CY:=["_law_steps_here","_law_behind","_law_total","_law_step"]
theorem kZ:a' Me tU (aI s6):=bt
theorem J0(F:aP K "_law_sum" "_law_sum" s6 f fd):aO P w K mg base ay 1 f fd tU pB:=by
 refine F.bx kZ λQa A y s H vs Q E B h=>?_
 ·obtain @⟨r,us,ds,z,rfl,k,rs,m,q⟩:=h
  intro X;refine⟨_,aw (a9 2 kZ.nd ar)
   (aw (eX eh rfl (c9 (pv 0)) (ba 3 kZ.nd)
    (aA (bF (bS eu (aT bN (pv 3) ar) b6 (bM _)) (aA (a9 2 kZ.nd (bJ gc (pv 2) (aT bN (pv 3) ar))))
     (aA (bF (bS eu (aT bN (pv 3) ar) b6 (bM _)) (aA (a9 2 kZ.nd (bJ mc (pv 2) (aT bN (pv 3) ar))))
      (aA (a9 2 kZ.nd (bJ gc (pv 2) (pv 1)))))))))
   (aA (aX (pv 2)))),?_⟩
  have n:=bI.length rs;refine⟨_,rfl,r,rfl,⟨_,aq.of k⟩,iS (xs:=us) (λi σ G=>∃(t:Int) (j:a2 V),σ=[bd r,ih (.int z),ih (.int t),j]/\G=H/\dJ z (ds.drop i) t=dJ z ds 0)
   ⟨0,none,rfl,rfl,rfl⟩ (λi σ G _ ⟨_,_,_,e,_⟩=>by rw[e];exact aq.of k) ?_ ?_⟩
  ·rintro i x σ G o ⟨t,j,rfl,rfl,e⟩
   refine jr ?_;intro C D;obtain⟨d,l,p⟩:=bI.get rs o;obtain⟨hi,u⟩:=bA.mp l;have st:=m d (cY l);obtain⟨a,xs,rfl,g,h1,U,v⟩:=rV st p;rw[iK hi,u]at e;rw[mv]at e;refine ae rfl (bc g cb ⟨rfl,_,rfl,?_⟩);refine cm (λc=>?_) (λc=>?_)
   ·have c:a4 d = "add" :=by
     have:=eG c;injection this
    obtain rfl:=h1 (.inl c);rw[aB c]at e;exact aV rfl rfl (bc g ea ⟨_,_,rfl,rfl,_,_,rfl,rfl,e⟩)
   ·have c : ¬ a4 d = "add" :=λz=>c (by rw[z];exact cE rfl)
    rw[au c]at e;refine ae rfl (bc g cb ⟨rfl,_,rfl,?_⟩);refine cm (λb=>?_) (λb=>?_)
    ·have b:a4 d = "times" :=by
      have:=eG b;injection this
     obtain rfl:=h1 (.inr b);have I:=v b;rw[aB b]at e;exact aV rfl rfl (bc g ea ⟨_,_,rfl,rfl,.inr ⟨by omega,by omega⟩,_,_,rfl,rfl,e⟩)
    ·have b : ¬ a4 d = "times" :=λz=>b (by rw[z];exact cE rfl)
     rw[au b]at e;exact aV rfl rfl ⟨_,_,rfl,rfl,_,_,rfl,rfl,e⟩
  ·rintro σ G ⟨t,j,rfl,rfl,e⟩
   rw[n,qq]at e;exact ae rfl (by rw[show t=dJ z ds 0 from e];exact q)
theorem AA(xs:am V)(k:Nat):bT xs none (ih (k:Int))=xs.take k:=by
 unfold bT;have a:HT.a6 xs.length 0 none=0:=rfl;rw[a,nq,qk];have b:HT.a6 xs.length xs.length (ih (k:Int))=min k xs.length:=by
  unfold HT.a6;simp;omega
 rw[b]
 by_cases h:k<=xs.length
 ·rw[uv h]
 ·rw[UR (by omega),qr (aK _),qr (by omega)]
structure gK(H:Hp)(l:OT)(ys:List CY):Prop where
 hl:H l=ih (.lst (ys.map V.str))
 ne:ys ≠ []
 a7:ys.length<=20
 nm:∀y∈ys,Nm y
 nd:ys.Nodup
theorem gK.jR(h:gK H l ys)(a:dY p H)(b:bD p H Y):gK Y l ys:=⟨b.kp _ _ h.hl (iW a h.hl),h.ne,h.a7,h.nm,h.nd⟩
theorem gK.same(h:gK H l ys)(S:aE H Y):gK Y l ys:=⟨S _ _ h.hl,h.ne,h.a7,h.nm,h.nd⟩
inductive pC(vs:List V)(H:Hp)(Q:VK)(E:XK):Prop
 |mk{p lk:OT}{m:Nat}{al:Bool}{ks:List CY}(_:vs=[.ref p,.int m,.bl al,.ref lk])(_:dY p H)(_:1<=m)(_:m<=20)(_:gK H lk ks)(_:∀(l:OT) (ys:List CY) (Y:Hp),bD p H Y->gK Y l ys->ys.length<=m->Q (.ref l) Y):pC vs H Q E
noncomputable abbrev tV:List CY:=["_law_pot_here","_law_many","_law_alike","_law_kinds"]
noncomputable abbrev Mf:List CY:=["_law_pot_here","_law_many","_law_alike","_law_kinds","_law_found"]
theorem BK:a' Mf tV (aI rL):=bt
theorem J2(F:aP K "_law_called" "_law_called" rL f fd)(n:bQ P w K mg base ay 3 fN dN ["_law_pot_here","_law_many"] jv "_law_names"):aO P w K mg base ay 4 f fd tV pC:=by
 refine F.bx BK λQa A v s H vs Q E o h=>?_
 ·obtain @⟨p,lk,m,x,ks,rfl,d,B,g,a,q⟩:=h
  intro X;refine⟨_,aw (a9 4 BK.nd (bz n o (aa (pv 0) (aa (pv 1) ah))))
   (aw (bF (eW (pv 2)) (aA (aX (e5 jt (pv 3) fA (eO (pv 1))))) bX)
   (aA (aX (pv 4)))),?_⟩
  refine aV rfl rfl (jv.mk rfl d g λl ys O C r i j b h1=>?_);refine aV rfl rfl ?_;refine cm (λe=>?_) (λe=>?_)
  ·have k:=a.jR d b
   refine d8 rfl rfl rfl ⟨lk,_,rfl,aq.of k.hl,λc t=>?_⟩;rw[AA,<-uw];have kp:0<ks.length:=uk.mpr a.ne;have tl:(ks.take m).length=min m ks.length:=b9 ..;refine q c (ks.take m) _ (b.new t) ⟨af,λz=>?_,by have:=a.a7;omega,λy u=>a.nm y (lE u),a.nd.sublist (hG _ _)⟩ (by omega)
   rw[z,iM]at tl;omega
  ·exact ae rfl (q l ys O b ⟨h1,λz=>by rw[z,iM]at r;omega,by omega,i,j⟩ (by omega))
theorem A1{b:Bool}{A:Prop}{T:St->Hp->Prop}(gB:St->Hp->Prop)(h1:b=true->(∀a Y,gB a Y->T a Y)->A)(U:b≠true->gB σ H)(c:∀a Y,gB a Y->T a Y):if b=true then A else T σ H:=by
 cases b with
 |true=>exact h1 rfl c
 |false=>exact c _ _ (U bV)
inductive pD(vs:List V)(H:Hp)(Q:VK)(E:XK):Prop
 |mk{u:V}{d:O7}(_:vs=[u])(_:Ent d)(_:Rep H u d)(_:∀r us Y,aE H Y->Y r=ih (.lst us)->bI Y us (bq d)->Q (.ref r) Y):pD vs H Q E
theorem Ln:a' ["_law_entry"] ["_law_entry"] (aI rN):=bt
theorem J5(F:aP K "_law_steps" "_law_steps" rN f fd)(B:dc mg):aO P w K mg base ay 1 f fd ["_law_entry"] pD:=by
 refine F.bx Ln λQa A L s H vs Q E M h=>?_
 ·obtain @⟨u,d,rfl,p,r,q⟩:=h
  intro X;refine⟨_,aw (bF (bS eu (aT bN (pv 0) ar) b6 (bM _)) (aA (aX (kL (aa (c2 (aa b6 (aa (aT bN (pv 0) ar) ah))) ah)))) bX)
   (aw (bF (bS eu (aT bN (pv 0) ar) b6 (bM _)) (aA (aX (kL (aa (c2 (aa b6 (aa (aT bN (pv 0) ar) ah))) (aa (c2 (aa b6 (aa (aT bN (pv 0) ar) ah))) ah))))) bX)
   (aA (aX (dy iP rfl B.list boot_list (aa (aT bN (pv 0) ar) ah))))),?_⟩
  cases p with
  |plain n t =>
   obtain⟨a,u,rfl,e,g⟩:=two1 r;obtain rfl:=g.g4;refine ae rfl (bc e cb ⟨rfl,_,rfl,_,rfl,bc e ea ⟨b8,λv O k _ h1=>⟨ey,λo H2 i _ U=>?_⟩⟩⟩);exact q o _ H2 (k.trans i) U (.cons (.tup (i _ _ h1) (.cons (.str _) (.cons (.int _) .nil))) .nil)
  |ahead x n h t =>
   obtain⟨a,vs,rfl,e,rs⟩:=r.tupI;obtain⟨N,R,rfl,y,rs⟩:=rs.d7;obtain⟨S,T,rfl,g,rs⟩:=rs.d7;obtain⟨V,W,rfl,z,rs⟩:=rs.d7;obtain rfl:=rs.kU;obtain rfl:=y.gk;obtain rfl:=g.gk;obtain rfl:=z.g4;refine ae rfl (bc e cb ⟨rfl,_,rfl,_,rfl,bc e cb ⟨rfl,_,rfl,?_⟩⟩);refine ae rfl (bc e ea ⟨b8,λv O k _ h1=>ae rfl (bc (k _ _ e) mO ⟨b8,λo H2 i _ U=>⟨b8,λC D l _ G=>?_⟩⟩)⟩);exact q C _ D (k.trans (i.trans l)) G (.cons (.tup (l _ _ (i _ _ h1)) (.cons (.str _) (.cons (.str _) .nil))) (.cons (.tup (l _ _ U) (.cons (.str _) (.cons (.int _) .nil))) .nil))
  |behind ds I J =>
   obtain⟨a,u,rfl,e,g⟩:=two1 r;obtain⟨b,vs,rfl,m,rs⟩:=g.tupI;refine ae rfl (bc e cb ⟨rfl,_,rfl,_,rfl,bc e cb ⟨rfl,_,rfl,_,rfl,bc e ea ⟨b,_,rfl,.inr (aU.of m),λc j=>q c _ _ (km j) af (rs.same (km j))⟩⟩⟩)
  |i6 ds I J =>
   obtain⟨a,u,rfl,e,g⟩:=two1 r;obtain⟨b,vs,rfl,m,rs⟩:=g.tupI;refine ae rfl (bc e cb ⟨rfl,_,rfl,_,rfl,bc e cb ⟨rfl,_,rfl,_,rfl,bc e ea ⟨b,_,rfl,.inr (aU.of m),λc j=>q c _ _ (km j) af (rs.same (km j))⟩⟩⟩)
inductive pE(vs:List V)(H:Hp)(Q:VK)(E:XK):Prop
 |mk{db:OT}{kvs:List (List Key×V)}{m1:Bk}(_:vs=[.ref db])(_:H db=ih (.dT kvs))(_:cN H kvs m1)(_:g5 m1)
  (_:∀r wb bk Y,aE H Y->Y r=ih (.tup wb)->cJ Y wb bk->bk.Perm m1->Q (.ref r) Y):pE vs H Q E
theorem Lo:a' ["_law_book"] ["_law_book"] (aI lX):=bt
abbrev Mg:Si:=ff (ff (kT (cx (bH lX) 0)))
theorem pF:bW ["_law_book"] (aI lX) ["_law_kind","_law_name","_law_entry"] [none,none,none] (cG Mg):=c'
theorem J6(F:aP K "_law_triples" "_law_triples" lX f fd)(B:dc mg)(zi:fQ mg):aO P w K mg base ay 1 f fd ["_law_book"] pE:=by
 refine F.bx Lo λQa A yl s H vs Q E zm h=>?_
 ·obtain @⟨d,kvs,t,rfl,v,dv,ok,q⟩:=h
  intro X;refine⟨_,aA (aX (Ht (dy j5 rfl B.tuple boot_tuple (aa (b4 qC rfl zi.sorted boot_sorted (aa (dg rfl pF (Fe (pv 0)) (λs H fp=>⟨ri (n:=2) K rfl rfl (cS (ri (n:=2) K rfl rfl (cS (ba 0 pF.nd) (cS (ba 1 pF.nd) f'))) (cS (ba 2 pF.nd) f')),d5,c4 (aa (pv 0) (aa (pv 1) (aa (pv 2) ah)))⟩)) ah)) ah)))),?_⟩;have lk:=dv.length;have a7:=ok.a7;refine ae rfl ⟨d,kvs,rfl,v,λm c O=>?_⟩;have M:∀b u,b≠d->H b=ih u->upd H d (.bw m (.dT kvs)) b=ih u:=λb u n e=>by rw[ag n];exact e
  have L:upd H d (.bw m (.dT kvs)) d=ih (.bw m (.dT kvs)):=af;have zb:cN (upd H d (.bw m (.dT kvs))) kvs t:=dv.keep (λb xs e=>M _ _ (aj e v) e) ok.ent
  generalize upd H d (.bw m (.dT kvs))=xj at M L zb O⊢;refine D3 (λi ys y a=>∃R S T:a2 V,y=[R,S,T]/\a c=bm ys/\aE xj a/\cJ a ys (t.take i)) ⟨none,none,none,rfl,af,aH O,.nil⟩ (λi ys y a ab=>by obtain⟨_,_,_,_,z1,z2,_⟩:=ab;exact ⟨z1,z2 _ _ L⟩) ?_ ?_
  ·rintro i j tp b ys y a xc yg C ⟨R,S,T,rfl,U,G,k⟩
   have zg:i<kvs.length:=(bA.mp xc).1;obtain⟨p,I,W,yj⟩:=L2.Paired.get (zb.same G) xc;have pm:=cY I;have xh:t.take (i+1)=t.take i++[p]:=by rw[dd,I];rfl
   replace C:a b=bi [V.str p.1,V.str p.2.1]:=by rw[W]at C;exact C
   have J:=aH (o:=.tup [V.ref b,j.2]) yg;have za:upd a tp (.tup [V.ref b,j.2]) tp=bi [V.ref b,j.2]:=af;have yc:=J _ _ C;have zc:=yj.same J;generalize upd a tp (.tup [V.ref b,j.2])=ze at J za yc zc⊢;refine⟨tp,_,rfl,aU.of za,rfl,_,_,rfl,b,_,rfl,aU.of yc,rfl,_,_,rfl,_,_,rfl,rfl,_,_,rfl,rfl,?_⟩;refine d8 rfl rfl rfl ⟨g7,λY yh=>?_⟩;have l:=aH (o:=.tup [V.str p.1,V.str p.2.1,j.2]) yh;have xb:upd ze Y (.tup [V.str p.1,V.str p.2.1,j.2]) Y=bi [V.str p.1,V.str p.2.1,j.2]:=af;have xd:=zc.same l;generalize upd ze Y (.tup [V.str p.1,V.str p.2.1,j.2])=r at l xb xd⊢;have N:=J.trans l;have yd:=N _ _ U;have xa:∀{zs:am V} b xs,r b=bi xs->upd r c (.lst zs) b=bi xs:=λb xs e=>by rw[ag (aj e yd)];exact e
   refine⟨yd,?_,cw_next zg ⟨_,_,_,rfl,af,λx u xf=>by rw[ag (ax xf O)];exact N _ _ (G x u xf),?_⟩⟩
   ·have:=k.length
    rw[b9]at this;rw[aQ];omega
   ·rw[xh]
    exact cJ.append (xa _ _ xb) ((ok.ent p pm).keep xd xa) (cJ.keep xa (cJ.same N k) λq zj=>ok.ent q (lE zj))
  ·rintro ys y a ⟨R,S,T,rfl,U,G,k⟩
   rw[lk,cj]at k;obtain⟨zh,xk,W⟩:=k.keyed;have xn:=k.length;refine⟨c,_,zh,2,rfl,.inl (aq.of U),xk,by decide,by rw[W];exact ok.nd,by omega,λD g zl yk xg yn xm ym=>?_⟩
   obtain⟨xi,zd,zk⟩:=cJ.perm xg k;have xl:=aH (o:=.lst g) yk;refine⟨D,g,rfl,.inl ⟨aq.of af,λtb yi=>?_⟩⟩;have l:=xl.trans (aH (o:=.tup g) yi);have yb:upd (upd a D (.lst g)) tb (.tup g) tb=bi g:=af;have yf:=cJ.same l zk;generalize upd (upd a D (.lst g)) tb (.tup g)=r at l yb yf⊢;have xe:=G.trans l;have ye:=xe _ _ L;refine⟨d,m,kvs,ye,(λo u z=>by cases v.symm.trans z),?_⟩
   have zf:∀b xs,r b=bi xs->upd r d (.dT kvs) b=bi xs:=λb xs e=>by rw[ag (aj e ye)];exact e
   refine q tb g xi _ (λb u e=>?_) (zf _ _ yb) (cJ.keep zf yf λp I=>ok.ent p (zd.mem_iff.mp I)) zd
   by_cases ya:b=d
   ·subst ya;rw[v]at e;cases e;exact af
   ·rw[ag ya];exact xe _ _ (M _ _ ya e)
def gL(x:bC):CY×CY×O7:=(x.1,x.2.1,x.2.2.1)
def ky(x:bC):CY×CY:=(x.1,x.2.1)
def hg(a:CY×CY):List Key:=[Ct a.1,Ct a.2]
def hA(cs:List bC):List (List Key×V):=cs.map λx=>(hg (ky x),V.int x.2.2.2)
theorem Ac{a b:CY×CY}(h:hg a=hg b):a=b:=by
 injection h with h1 U;injection U with c _;exact jV (f5 h1) (f5 c)
theorem wJ{a:CY×CY}:∀{cs:am bC},a ∉ cs.map ky->a5 (hA cs) (hg a)=none
 |[],_=>rfl
 |x::cs,h=>by
  rw[b5,bu,nz]at h;exact(dV λz=>h.1 (Ac z).symm).trans (wJ h.2)
theorem Ad{x:bC}:∀{cs:am bC},(cs.map ky).Nodup->x∈cs->a5 (hA cs) (hg (ky x))=ih (.int x.2.2.2)
 |y::cs,a,h=>by
  rw[b5,dQ]at a;rcases bu.mp h with z|z
  ·rw[z];exact eL rfl
  ·exact(dV λe=>a.1 (by rw[Ac e];exact aW.mpr ⟨x,z,rfl⟩)).trans (Ad a.2 z)
theorem HX{cs:am bC}{a:CY×CY}(h:a ∉ cs.map ky) : [a.1,a.2]∉ (cs.map gL).map c7:=λz=>by
 rw[gP]at z;obtain⟨x,b,e⟩:=aW.mp z;have c:x.1=a.1:=by injection e
 have d:x.2.1=a.2:=by injection e with _ z;injection z
 exact h (aW.mpr ⟨x,b,jV c d⟩)
inductive Hr(line rl:List CY)(G:Hp)(hv:V)(bh:Int)(n:CY)(j:Nat):List bC->Prop
 |nil {t:OT} (_:hv=.ref t) (_:G t=ih (.tup [])) (_:bh.natAbs<=10 ^ 18):Hr line rl G hv bh n j []
 |on {x:bC}{l:List bC} (_:Rep G hv iu) (_:n=x.2.1) (_:rl[j - 1]?=ih x.1) (_:0<j) (_:bh=x.2.2.2):Hr line rl G hv bh n j (l++[x])
 |ask {x:bC}{l:List bC} (_:Rep G hv (jN x.2.1)) (_:j=0) (_:line[0]?=ih x.1) (_:bh=x.2.2.2):Hr line rl G hv bh n j (l++[x])
theorem Hr.keep{f:Hp}{cs:am bC}(h:Hr line rl G hv bh n j cs)(k:∀b xs,G b=bi xs->f b=bi xs)(g:∀x∈cs,Nm x.2.1):Hr line rl f hv bh n j cs:=by
 cases h with
 |nil e h1 U=>exact .nil e (k _ _ h1) U
 |on r a b c d=>exact .on (dr.oE.keep r k) a b c d
 |@ask x l r a b c=>exact .ask ((dr.ask _ (g x (by simp))).keep r k) a b c
theorem Hr.tup{line rl:am CY}{G:Hp}{hv:V}{bh:Int}{n:CY}{j:Nat}{cs:am bC}(h:Hr line rl G hv bh n j cs):∃a xs,hv=.ref a/\G a=bi xs/\(xs=[] ↔ cs=[]):=by
 cases h with
 |nil e h1 _=>exact⟨_,[],e,h1,by simp⟩
 |on r _ _ _ _ =>
  obtain⟨a,vs,e,b,rs⟩:=r.tupI;obtain⟨c,d,rfl,_,_⟩:=rs.d7;exact⟨a,_,e,b,by simp⟩
 |ask r _ _ _ =>
  obtain⟨a,vs,e,b,rs⟩:=r.tupI;obtain⟨c,d,rfl,_,_⟩:=rs.d7;exact⟨a,_,e,b,by simp⟩
theorem Hr.low{cs:am bC}(h:Hr line rl G hv bh n j cs)(e:cs=[]):bh.natAbs<=10 ^ 18:=by
 cases h with
 |nil _ _ b=>exact b
 |on=>simp at e
 |ask=>simp at e
theorem GB{cs:am bC}{x:bC}:hA (cs++[x])=hA cs++[(hg (ky x),V.int x.2.2.2)]:=by unfold hA;rw[bo];rfl
theorem Hr.next{k:CY}{cs:am bC}(h:Hr line line.reverse G hv bh n j cs)(q:cs ≠ [])(ch:gn line cs.reverse)(g:line.reverse[j]?=ih k)(t:∀x∈cs,x.2.1∈ns)(u:∀x∈ns,Nm x):∃st,dr st/\Rep G hv st/\(a4 st = "ask" -> gA st∈ns) /\∀d,Rg st (bq d)->gn line ((k,n,d,dJ bh (bq d) 0)::cs.reverse):=by
 have s:j<line.length:=by have:=(bA.mp g).1;rwa [dw]at this
 rw[nI s]at g;cases h with
 |nil=>exact absurd rfl q
 |@on x l r a b c e =>
  rw[qv]at ch⊢;rw[nI (by omega),show line.length - 1 - (j - 1)=(line.length - 1 - j)+1 by omega]at b
  obtain⟨m,f,o,s'⟩:=x;have a:n=f:=a;have e:bh=s':=e;subst a e;exact⟨iu,.oE,r,λz=>absurd z (by show ¬ ("onward" : CY) = "ask"; decide +kernel),λd i=>.on ch g b i⟩
 |@ask x l r a b c =>
  rw[qv]at ch⊢;subst a;obtain⟨m,f,o,s'⟩:=x;have c:bh=s':=c;subst c;have p:f∈ns:=t (m,f,o,bh) (by simp)
  exact⟨jN f,.ask _ (u _ p),r,λ_=>p,λd i=>.ask ch g b i⟩
structure RI(H:Hp)(p db ds:OT)(line ns:List CY)(pre:List (CY×CY))(cs:List bC)(kvs:List (List Key×V))(G:Hp):Prop where
 pa:bD p H G
 hd:G db=ih (.dT kvs)
 dv:cN G kvs (cs.map gL)
 hs:G ds=ih (.dT (hA cs))
 ch:cs=[]\/gn line cs.reverse
 ks:cs.map ky=pre
 en:∀x∈cs,Ent x.2.2.1
 ak:∀x∈cs,∀s∈bq x.2.2.1,a4 s = "ask" -> gA s∈ns
 nm:∀x∈cs,x.2.1∈ns
theorem RI.step{c:Hp}{d ds:OT}{pre:am (CY×CY)}{cs:am bC}{kvs:am (List Key×V)}(h:RI H p d ds line ns pre cs kvs G)(a:bD p G c)(e:d≠p)(f:ds≠p):RI H p d ds line ns pre cs kvs c:=by
 have g:∀b xs,G b=bi xs->c b=bi xs:=kC h.pa.ok a;exact⟨h.pa.trans a,a.kp _ _ h.hd e,h.dv.keep g (λq i=>by obtain⟨x,j,rfl⟩:=aW.mp i;exact h.en x j),a.kp _ _ h.hs f,h.ch,h.ks,h.en,h.ak,h.nm⟩
inductive pG(vs:List V)(H:Hp)(Q:VK)(E:XK):Prop
 |mk{p la ln:OT}{line ns:List CY}(_:vs=[.ref p,.ref la,.ref ln])(_:dY p H)(_:gK H la line)(_:gK H ln ns)(_:line.length<=8)(_:ns.length<=6)
  (_:∀r db ds kvs cs Y,Y r=ih (.tup [.ref db,.ref ds])->H db=none->H ds=none->db≠ds->RI H p db ds line ns ((ns.reverse.flatMap λn=>line.reverse.map λk=>(k,n))) cs kvs Y->cs ≠ []->Q (.ref r) Y):pG vs H Q E
noncomputable abbrev tW:List CY:=["_law_pot_here","_law_line_here","_law_names_here"]
noncomputable abbrev Mh:List CY:=["_law_pot_here","_law_line_here","_law_names_here","_law_book","_law_sums","_law_behind","_law_here","_law_name","_law_kind","_law_entry"]
theorem gC:a' Mh tW (aI r9):=bt
theorem J7{fR:OT}{yW:Ss}(F:aP K "_law_rungs" "_law_rungs" r9 f fd)(B:dc mg)
  (zW:bQ P w K mg base ay 1 fD dD ["_law_pot_here","_law_many"] hZ "_law_digit")
  (xX:bQ P w K mg base ay 2 fN dN ["_law_pot_here"] kM "_law_number")
  (yX:bQ P w K mg base ay 3 fR dR tT pz "_law_rung")
  (zX:bQ P w K mg base ay 1 fL dL ["_law_entry"] pD "_law_steps")
  (xY:bQ P w K mg base ay 1 fM yW tU pB "_law_sum"):aO P w K mg base ay 4 f fd tW pG:=by
 refine F.bx gC λQa A x6 s H vs Q E xl h=>?_
 ·obtain @⟨p,yl,zl,line,ns,rfl,xm,xw,yd,yY,y6,q⟩:=h
  have zo:aY 3 _:=xl;have zO:aY 2 _:=zo.mono (by decide)
  have xp:aY 1 _:=zo.mono (by decide)
  have yI:=xl.units;have xC:=d9 yI;intro X;refine⟨_,aw (rZ (i:=3) (j:=4) rfl gC.nd rfl rfl (by decide) rfl rfl (aa n4 (aa n4 ah)) rfl)
   (aw (a9 5 gC.nd (bz xX zO (aa (pv 0) ah)))
   (aw (a9 6 gC.nd (c2 ah))
   (aw (eX eh rfl (c9 (mj (pv 2))) (ba 7 gC.nd)
    (aw (eX eh rfl (c9 (mj (pv 1))) (ba 8 gC.nd)
     (aw (a9 9 gC.nd (c2 (aa b6 (aa (pv 5) ah))))
     (aw (bF (bS (Hw yI) (pv 6) (c2 ah) (bM _)) (aA (a9 9 gC.nd (c2 (aa (aT cM (kL (aa b6 (aa b6 ah))) (bz zW xp (aa (pv 0) (aa ar ah)))) (aa (bz yX zo (aa (pv 0) (aa (pv 6) ah))) ah))))) bX)
     (aw (gx xC (pv 3) (c2 (aa (pv 8) (aa (pv 7) ah))) (pv 9) rfl)
     (aw (a9 5 gC.nd (bz xY xp (aa (bz zX xp (aa (pv 9) ah)) (aa (pv 5) ah))))
     (aw (gx xC (pv 4) (c2 (aa (pv 8) (aa (pv 7) ah))) (pv 5) rfl)
     (aA (a9 6 gC.nd (c2 (aa b6 ah))))))))))
    (aA (a9 6 gC.nd (c2 (aa b6 (aa (pv 7) ah)))))))
   (aA (aX (c2 (aa (pv 3) (aa (pv 4) ah)))))))),?_⟩
  refine l3 λya D=>?_;intro I yw;intro g yj ds yf;refine⟨_,_,rfl,?_⟩;have zj:g≠ds:=ax af yf;have yC:p≠g:=xm.ne yj;have ym:=(bD.refl xm).new (o:=.dT []) yj;have zC:p≠ds:=ym.ok.ne yf;have yg:=ym.new (o:=.dT []) yf;have xD:H ds=none:=ym.free yf;have yp:upd (upd H g (.dT [])) ds (.dT []) g=ce []:=by rw[ag zj];exact af
  have zp:upd (upd H g (.dT [])) ds (.dT []) ds=ce []:=af;generalize upd (upd H g (.dT [])) ds (.dT [])=O at yg yp zp⊢;clear ym yf;have za:g≠p:=aN yC;have kd:ds≠p:=aN zC;refine cB D λya D=>?_;intro I yw;refine ae rfl (kM.mk rfl yg.ok λz H2 zY p2=>?_);refine cB D λya D=>?_;intro I yw;refine⟨bp _,λx0 zw J _ yD=>?_⟩;have xx:=(yg.trans p2).trans (dz (yg.trans p2).ok J);have xq:RI H p g ds line ns [] [] [] zw:=⟨xx,J _ _ (p2.kp _ _ yp za),.nil,J _ _ (p2.kp _ _ zp kd),.inl rfl,rfl,λx C=>(by cases C),λx C=>(by cases C),λx C=>(by cases C)⟩
  refine cB D λya D=>?_;intro I yw;refine ae rfl ⟨zl,_,rfl,aq.of (yd.jR xm xx).hl,λzb R=>?_⟩;rw[<-jl];have xc:=aH (o:=.lst (ns.reverse.map V.str)) R;have N:upd zw zb (.lst (ns.reverse.map V.str)) zb=bm (ns.reverse.map V.str):=af;have xe:=xq.step (dz xq.pa.ok xc) za kd;have zD:=xc _ _ yD;generalize upd zw zb (.lst (ns.reverse.map V.str))=z6 at xe N zD⊢;clear xc R xq yD xx J yg p2 yp zp;have xk:line.reverse ≠ []:=λz=>xw.ne (P1.mp z);have xP:line.reverse.Nodup:=(lG _).nodup_iff.mpr xw.nd;have yP:ns.reverse.Nodup:=(lG _).nodup_iff.mpr yd.nd;have a7:∀{i:Nat}{cs:am bC}{m:am (CY×CY)},i<ns.reverse.length->m.length<=line.length->cs.map ky=((ns.reverse.take i).flatMap λn=>line.reverse.map λk=>(k,n))++m->cs.length<=48:=λ{i cs m} hi zm e=>by
   have zg:=b2 Sk e;rw[aG,cQ]at zg;have xh:((ns.reverse.take i).flatMap λn=>line.reverse.map λk=>(k,n)).length=(ns.reverse.take i).length * line.length:=by
    generalize ns.reverse.take i=us
    induction us with
    |nil=>simp
    |cons u us y0=>rw[lH,cQ,y0,aG,dw,cX,Dp];omega
   rw[xh,b9]at zg;rw[dw]at hi zg;have h1:(min i ns.length+1) * line.length<=6 * 8:=U' (by omega) yY
   rw[Dp]at h1;omega
  refine⟨zb,rfl,⟨_,aq.of N⟩,iS (xs:=ns.reverse.map V.str) (λi σ G=>∃(kvs:am (List Key×V)) (cs:am bC) (bh:Int) (hv:V) (yx yc zc:a2 V),σ=[bd p,bd yl,bd zl,bd g,bd ds,ih (.int bh),ih hv,yx,yc,zc]/\RI H p g ds line ns ((ns.reverse.take i).flatMap λn=>line.reverse.map λk=>(k,n)) cs kvs G/\G zb=bm (ns.reverse.map V.str)/\Hr line line.reverse G hv bh "" 0 cs)
   ⟨[],[],z,.ref x0,none,none,none,rfl,xe,N,.nil rfl zD zY⟩ (λi σ G _ ab=>by obtain⟨_,_,_,_,_,_,_,_,_,z,_⟩:=ab;exact aq.of z) ?_ ?_⟩
  ·rintro i x σ G C ⟨kvs,cs,bh,hv,yx,yc,zc,rfl,v,R,xb⟩
   refine jr ?_;intro I x7;have zf:i<ns.reverse.length:=by simpa using (bA.mp C).1
   obtain rfl:V.str ns.reverse[i]=x:=by rw[dt,bB zf]at C;exact c3 C
   have xA:ns.reverse[i]∉ ns.reverse.take i:=by
    have:(ns.reverse.take (i+1)).Nodup:=yP.sublist (hG _ _);rw[et zf]at this;exact λz=>(eg.mp this).2.2 _ z _ aS rfl
   have xE:ns.reverse[i]∈ns:=ei.mp (fw zf);have zx:((ns.reverse.take (i+1)).flatMap λn=>line.reverse.map λk=>(k,n))=((ns.reverse.take i).flatMap λn=>line.reverse.map λk=>(k,n))++line.reverse.map λk=>(k,ns.reverse[i]):=by
    rw[et zf,j3,lH,Dq,f7]
   have a7:=λ{cs m}=>a7 (cs:=cs) (m:=m) zf;have xy:∀{k:CY},(k,ns.reverse[i])∉ (ns.reverse.take i).flatMap λn=>line.reverse.map λk=>(k,n):=λ{k} zm=>by
    obtain⟨z0,zP,yq⟩:=lF.mp zm;obtain⟨zI,_,e⟩:=aW.mp yq;have xh:z0=ns.reverse[i]:=by injection e
    exact xA (xh ▸ zP)
   generalize ((ns.reverse.take i).flatMap λn=>line.reverse.map λk=>(k,n))=xJ at v a7 xy zx;generalize ns.reverse[i]=n at xE xA a7 xy zx⊢;refine l3 λya D=>?_;intro I y7;refine ae rfl ⟨yl,_,rfl,aq.of (xw.jR xm v.pa).hl,λxd ye=>?_⟩;rw[<-jl];have xc:=aH (o:=.lst (line.reverse.map V.str)) ye;have yb:upd G xd (.lst (line.reverse.map V.str)) xd=bm (line.reverse.map V.str):=af;have xe:=v.step (dz v.pa.ok xc) za kd;have N:=xc _ _ R;have zq:Hr line line.reverse (upd G xd (.lst (line.reverse.map V.str))) hv bh n 0 cs:=by
    have xQ:=xb.keep (λb xs e=>xc b _ e) λx C=>yd.nm _ (v.nm x C);cases xQ with
    |nil a b c=>exact .nil a b c
    |on _ _ _ c _=>exact absurd c (hC 0)
    |ask a b c d=>exact .ask a b c d
   generalize upd G xd (.lst (line.reverse.map V.str))=yJ at xe yb N zq⊢;clear xc ye v R xb;refine⟨xd,rfl,⟨_,aq.of yb⟩,iS (xs:=line.reverse.map V.str) (λj σ G=>∃(kvs:am (List Key×V)) (cs:am bC) (bh:Int) (hv:V) (yc zc:a2 V),σ=[bd p,bd yl,bd zl,bd g,bd ds,ih (.int bh),ih hv,ih (.str n),yc,zc]/\RI H p g ds line ns (xJ++(line.reverse.take j).map λk=>(k,n)) cs kvs G/\G zb=bm (ns.reverse.map V.str)/\G xd=bm (line.reverse.map V.str)/\Hr line line.reverse G hv bh n j cs)
    ⟨kvs,cs,bh,hv,yc,zc,rfl,by rw[List.take_zero,jY,f7];exact xe,N,yb,zq⟩ (λj σ G _ ab=>by obtain⟨_,_,_,_,_,_,_,_,_,z,_⟩:=ab;exact aq.of z) ?_ ?_⟩
   ·clear xe N yb zq
    rintro j y σ G yy ⟨kvs,cs,bh,hv,yc,zc,rfl,v,R,ye,xb⟩;refine jr ?_;intro I z7;have ze:j<line.reverse.length:=by simpa using (bA.mp yy).1
    obtain rfl:V.str line.reverse[j]=y:=by rw[dt,bB ze]at yy;exact c3 yy
    have xg:line.reverse[j]?=ih line.reverse[j]:=bB ze;have yQ:line.reverse[j]∉ line.reverse.take j:=by
     have:(line.reverse.take (j+1)).Nodup:=xP.sublist (hG _ _);rw[et ze]at this;exact λz=>(eg.mp this).2.2 _ z _ aS rfl
    have x8:=a7 (cs:=cs) (by rw[aG,b9,dw];omega) v.ks
    have xr:(line.reverse[j],n)∉ cs.map ky:=by
     rw[v.ks,cq,nz];refine⟨xy,λzm=>?_⟩;obtain⟨zI,yq,e⟩:=aW.mp zm;have xh:zI=line.reverse[j]:=by injection e
     exact yQ (xh ▸ yq)
    have zJ:(line.reverse.take (j+1)).map (λk=>(k,n))=(line.reverse.take j).map (λk=>(k,n))++[(line.reverse[j],n)]:=by rw[et ze,bo];rfl
    have x1:cs=[]->j=0:=λe=>by
     have:=v.ks;rw[e,jY]at this;have:=(Dr.mp this.symm).2;rw[ux,List.take_eq_nil_iff]at this;exact this.resolve_right xk
    generalize line.reverse[j]=k at xg xr zJ⊢;refine l3 λya D=>?_;intro I xn;refine ae rfl ⟨b8,λte zy W _ yE=>?_⟩;have yk:=v.step (dz v.pa.ok W) za kd;have yr:=xb.keep (λb xs e=>W b _ e) λx C=>yd.nm _ (v.nm x C);have yA:=W _ _ R;have zA:=W _ _ ye;clear v xb R ye;refine cB D λya D=>?_;intro I xn;obtain⟨xK,xs,rfl,zE,zr⟩:=yr.tup;refine ae rfl ⟨bp _,λy1 y8 zd _ xF=>⟨xK,y1,xs,rfl,rfl,zd _ _ zE,xF,_,rfl,?_⟩⟩;have S:=yk.step (dz yk.pa.ok zd) za kd;have xt:=yr.keep (λb xs e=>zd b _ e) λx C=>yd.nm _ (yk.nm x C);have zi:=zd _ _ yA;have xj:=zd _ _ zA;have xB:=zd _ _ yE;clear yk yr yA zA yE zE W zd xF;refine A1 (λyF Y=>∃(d:O7) (te:OT),yF=[bd p,bd yl,bd zl,bd g,bd ds,ih (.int bh),bd xK,ih (.str n),ih (.str k),bd te]/\RI H p g ds line ns (xJ++(line.reverse.take j).map λk=>(k,n)) cs kvs Y/\Y zb=bm (ns.reverse.map V.str)/\Y xd=bm (line.reverse.map V.str)/\Rep Y (.ref te) d/\Ent d/\(∀s∈bq d,a4 s = "ask" -> gA s∈ns)/\gn line ((k,n,d,dJ bh (bq d) 0)::cs.reverse)) (λe kk=>?_) (λe=>?_) ?_
    ·have fY:cs ≠ []:=λz=>by rw[zr.mpr z]at e;cases e
     obtain⟨st,zF,zQ,xR,yR⟩:=xt.next fY (S.ch.resolve_left fY) xg S.nm yd.nm;refine⟨b8,λc M J _ yK=>ae rfl (eM (p:=p) (m:=2) (dz S.pa.ok J).ok (by decide) (by decide) λz1 yJ x2 z8 p4=>?_)⟩
     have xz:=(dz S.pa.ok J).trans p4;have xN:=zF.keep zQ (kC S.pa.ok xz);have zR:=p4.kp _ _ yK (iW (xs:=["behind","shut"]) (dz S.pa.ok J).ok yK);obtain⟨tg,xS,yS⟩:∃tg:CY,(tg = "behind" \/ tg = "shut")/\cn [V.str "behind",V.str "shut"] z1=ih (V.str tg):=by
      obtain⟨j,rfl⟩:=nF x2;have y2:j=0\/j=1:=by omega
      rcases y2 with rfl|rfl
      ·exact⟨"behind",.inl rfl,cF rfl⟩
      ·exact⟨"shut",.inr rfl,cF rfl⟩
     refine gF zR yS (aV rfl rfl (pz.mk rfl xz.ok zF xN λt us yt x3 zK zS zt xG xL yL=>⟨b8,λxT yh zh _ yN=>?_⟩));have xi:=xz.trans (zK.trans (dz zK.ok zh));refine kk _ _ ⟨.tuple [.str tg,.tuple yt],xT,rfl,S.step xi za kd,xi.kp _ _ zi (iW S.pa.ok zi),xi.kp _ _ xj (iW S.pa.ok xj),.tup yN (.cons (.str _) (.cons (.tup (zh _ _ zS) (bI.same zt zh)) .nil)),?_,λs yz yn=>?_,yR _ yL⟩
     ·rcases xS with rfl|rfl
      ·exact .behind yt xL xG
      ·exact .i6 yt xL xG
     ·rcases yL.al s yz with z|z|z
      ·rw[yn]at z;exact absurd z (by decide +kernel)
      ·rw[yn]at z;exact absurd z (by decide +kernel)
      ·rw[z]at yn⊢;exact xR yn
    ·have zL:cs=[]:=zr.mp (by cases xs with|nil=>rfl|cons a b=>exact absurd rfl e)
     have y3:=x1 zL;subst zL y3;have z3:=xt.low rfl;refine⟨.tuple [.str "plain",.int bh],te,rfl,S,zi,xj,.tup xB (.cons (.str _) (.cons (.int _) .nil)),.plain bh z3,λs yz=>?_,?_⟩
     ·rw[b3.mp yz];exact λz=>absurd z (by show ¬ ("add" : CY) = "ask"; decide +kernel)
     ·have es:dJ bh (bq (.tuple [.str "plain",.int bh])) 0=bh:=by
       show dJ bh [.tuple [.str "add",.int bh]] 0=bh;rw[mv,aB (show a4 (.tuple [.str "add",.int bh]) = "add" from rfl)];show(0:Int)+bh=bh;omega
      rw[es];exact .one (by rw[nI (by rw[dw]at ze;exact ze)]at xg;exact xg)
    rintro yF x9 ⟨d,L,rfl,xu,yB,zB,xM,yi,x4,yT⟩;clear S xt zi xj xB zr;refine cB D λya D=>?_;intro I xn;refine kR rfl rfl rfl rfl ⟨b8,λy4 M J _ yG=>?_⟩;have zG:M y4=bi (([Ct k,Ct n]:am Key).map kV):=yG;have T:=xu.step (dz xu.pa.ok J) za kd;have xH:a5 kvs [Ct k,Ct n]=none:=by
     rcases T.dv.val (k:=k) (n:=n) with⟨z,_⟩|⟨y9,z9,_,z2,_⟩
     ·exact z
     ·exact absurd (aW.mpr ⟨_,z2,rfl⟩) (HX xr)
    have z4:=T.dv.length;rw[aG]at z4;refine⟨g,_,rfl,eQ.t (k:=[Ct k,Ct n]) T.hd zG (by rw[aQ];omega),?_⟩
    rw[kj _ xH];have yH:=xM.same J;have xo:=J _ _ yB;have yo:=J _ _ zB;have yu:∀{zs:am (List Key×V)} b xs,M b=bi xs->upd M g (.dT zs) b=bi xs:=λb xs e=>by rw[ag (aj e T.hd)];exact e
    have zH:∀q∈cs.map gL++[(k,n,d)],Ent q.2.2:=λq zz=>by
     rcases cq.mp zz with z|z
     ·obtain⟨x,C,rfl⟩:=aW.mp z;exact T.en x C
     ·rw[b3.mp z];exact yi
    have zu:bD p H (upd M g (.dT (kvs++[([Ct k,Ct n],V.ref L)]))):=T.pa.write yj yC;have xv:upd M g (.dT (kvs++[([Ct k,Ct n],V.ref L)])) g=ce (kvs++[([Ct k,Ct n],V.ref L)]):=af;have xI:upd M g (.dT (kvs++[([Ct k,Ct n],V.ref L)])) ds=ce (hA cs):=by rw[ag (aN zj)];exact T.hs
    have yv:Rep (upd M g (.dT (kvs++[([Ct k,Ct n],V.ref L)]))) (.ref L) d:=yi.keep yH yu;have zv:cN (upd M g (.dT (kvs++[([Ct k,Ct n],V.ref L)]))) (kvs++[([Ct k,Ct n],V.ref L)]) (cs.map gL++[(k,n,d)]):=cN.snoc yv (T.dv.keep yu λq zz=>zH q (hE _ zz));have N:upd M g (.dT (kvs++[([Ct k,Ct n],V.ref L)])) zb=bm (ns.reverse.map V.str):=by rw[ag (aj xo T.hd)];exact xo
    have yb:upd M g (.dT (kvs++[([Ct k,Ct n],V.ref L)])) xd=bm (line.reverse.map V.str):=by rw[ag (aj yo T.hd)];exact yo
    obtain⟨_,_,_,_,_,zT,xU,yU,zU⟩:=T;generalize upd M g (.dT (kvs++[([Ct k,Ct n],V.ref L)]))=yJ at zu xv xI yv zv N yb⊢;generalize kvs++[([Ct k,Ct n],V.ref L)]=zN at xv zv;clear xu yB zB xM yG zG yH xo yo yu J xH;refine cB D λya D=>?_;intro I xn;refine ae rfl (pD.mk rfl yi yv λr us x3 x5 xV zt=>ae rfl (pB.mk rfl xV zt (wF yi).1 ?_));refine cB D λya D=>?_;intro I xn;refine kR rfl rfl rfl rfl ⟨b8,λyV yh zh _ xO=>?_⟩;have zV:yh yV=bi ((hg (k,n)).map kV):=xO;have xa:=x5.trans zh;have zk:=xa _ _ xI;refine⟨ds,_,rfl,eQ.t (k:=hg (k,n)) zk zV (by unfold hA;rw[aG,aQ];omega),?_⟩
    rw[kj _ (wJ xr)];have xi:=zu.trans (dz zu.ok xa);have zn:∀{zs:am (List Key×V)} b u,b≠ds->yh b=ih u->upd yh ds (.dT zs) b=ih u:=λb u zg e=>by rw[ag zg];exact e
    have yM:bD p H (upd yh ds (.dT (hA cs++[(hg (k,n),V.int (dJ bh (bq d) 0))]))):=xi.write xD zC;refine mK D ?_;intro I;refine⟨ey,λy5 G8 xf _ xW=>?_⟩;refine⟨zN,cs++[(k,n,d,dJ bh (bq d) 0)],dJ bh (bq d) 0,.ref y5,_,_,rfl,⟨yM.trans (dz yM.ok xf),xf _ _ (zn _ _ zj (xa _ _ xv)),?_,xf _ _ (by rw[GB];exact af),.inr (by rw[qv];exact yT),by rw[bo,zT,zJ,ni];rfl,λx C=>?_,λx C=>?_,λx C=>?_⟩,xf _ _ (zn _ _ (aj (xa _ _ N) zk) (xa _ _ N)),xf _ _ (zn _ _ (aj (xa _ _ yb) zk) (xa _ _ yb)),.on (.tup xW (.cons (.str _) .nil)) rfl xg (Vz _) rfl⟩
    ·rw[bo]
     exact zv.keep (λb xs e=>xf _ _ (zn _ _ (aj (xa _ _ e) zk) (xa _ _ e))) zH
    ·rcases cq.mp C with z|z
     ·exact xU x z
     ·rw[b3.mp z];exact yi
    ·rcases cq.mp C with z|z
     ·exact yU x z
     ·rw[b3.mp z];exact x4
    ·rcases cq.mp C with z|z
     ·exact zU x z
     ·rw[b3.mp z];exact xE
   ·rintro σ G ⟨kvs,cs,bh,hv,yc,zc,rfl,v,R,ye,xb⟩
    rw[aG]at v xb;rw[cj]at v;refine mK D ?_;intro I;refine ae rfl ⟨b8,λt zy W _ z5=>⟨kvs,cs,bh,.ref t,_,_,_,rfl,by rw[zx];exact v.step (dz v.pa.ok W) za kd,W _ _ R,?_⟩⟩
    have yO:=uk.mpr xk;cases xb with
    |nil =>
     have:=v.ks;rw[jY]at this;exact absurd (ux.mp (Dr.mp this.symm).2) xk
    |@on x l _ a b c d =>
     subst a;exact .ask (.tup z5 (.cons (.str _) (.cons (.str _) .nil))) rfl (by rw[nI (by rw[dw]at yO⊢;omega),dw,show line.length - 1 - (line.length - 1)=0 by omega]at b;exact b) d
    |ask _ a _ _=>exact absurd a (by omega)
  ·rintro σ G ⟨kvs,cs,bh,hv,yx,yc,zc,rfl,v,R,xb⟩
   rw[aG,cj]at v;refine mK D ?_;intro I;refine aV rfl rfl ⟨b8,λr zy W _ xl=>q r g ds kvs cs zy xl yj xD zj (v.step (dz v.pa.ok W) za kd) λz=>?_⟩;have:=v.ks;rw[z,jY]at this;have U:=b2 Sk this;cases zM:ns.reverse with
   |nil=>exact yd.ne (P1.mp zM)
   |cons u us =>
    rw[zM,lH]at this;exact absurd (ux.mp (Dr.mp this.symm).1) xk
end dq
namespace dq
open L2 W HT PyProof.Rows
theorem iq.pairs{own:Own}(h:iq H vs own):Ap H vs (own.map λq=>(q.1,V.int q.2)):=by
 induction h with
 |nil=>exact .nil
 |cons h _ a=>exact .cons h a
inductive k0(C D:OT)(vs:List V)(H:Hp)(Q:VK)(E:XK):Prop
 |mk{wd t tb tt:OT}{wt:List V}{cL:List Th}{th:Th}{o:Tp}{ws wb:List V}{Qb:List (CY×List CY)}{L:CY->List CY}{bk:Bk}{NU:List CY}(_:vs=[.ref wd,.str th.1])(_:iB H wd t tb tt wt cL)(_:FB H t tb o ws wb Qb L bk)(_:th∈cL)(_:th.2.1∈Qb.map (·.1))(_:(th.2.2.map (·.1)).Nodup)
  (_:∀(S:Wh) Y,S.W=⟨L th.2.1,bk,th.2.2⟩->S.NU=NU->aE H Y->bE C D S 0 0 [] [] [] [] Y->H S.x=none->H S.fi=none->H S.dh=none->H S.kn=none->H S.kp=none->Q (.ref S.x) Y):k0 C D vs H Q E
noncomputable abbrev Mi:List CY:=["world","thing","kind","own"]
theorem tm:a' Mi ["world","thing"] (aI q5):=bt
theorem J8{yh fF:OT}{zh xi:Ss}(F:aP K "whole_of" "whole_of" q5 f fd)(yi:fQ mg)(T:fh K mg C)(zi:bQ P w K mg base ay 4 yh zh ["world","thing"] o9 "kind_and_own")(xj:bQ P w K mg base ay 6 fF xi ["family","book"] (o6 D) "finds_in")
  (M:Mk K C fI) (yj:aO P w K mg base ay 1 fI dI mQ (oP C)) (zj:Binds K dI mQ []):aO P w K mg base ay 7 f fd ["world","thing"] (k0 C D):=by
 refine F.bx tm λQa A zm s H vs Q E xk h=>?_
 ·obtain @⟨yn,t,tb,zn,xo,xn,th,o,ws,yo,Qb,L,bk,NU,rfl,h,yk,zk,yc,xl,q⟩:=h
  have N:aY 6 _:=xk;have zc:aY 4 _:=N.mono (by decide)
  have xd:aY 2 _:=N.mono (by decide)
  intro X;refine⟨_,aw (h6 (bz zi zc (aa (pv 0) (aa (pv 1) ah))) (gU rfl (cS (ba 2 tm.nd) (cS (ba 3 tm.nd) f'))))
   (aA (aX (ry M yj xd rfl T.m2 zj .nil b' (aa (bz xj N (aa (aT bN (pv 0) ar) (aa (aT bN (pv 0) ar) ah))) (aa (pv 2) (aa (dy (Ew rfl) rfl yi.dict boot_dict (aa (pv 3) ah)) (aa n4 ah))))))),?_⟩
  refine aV rfl rfl (o9.mk rfl h zk λr b us O j yd zd xe=>?_);refine⟨r,_,rfl,aU.of yd,rfl,_,_,rfl,_,_,rfl,rfl,?_⟩;have h1:=h.same j;refine ae rfl (bc h1.hw cb (ae rfl (bc h1.hw ea (o6.mk rfl (yk.same j) λfi yl dl de dh za zl H2 U a ye ze xf=>?_))));have yf:iq H2 us th.2.2:=xe.keep λb xs e=>U _ _ e;refine aV rfl rfl ⟨b,us,_,rfl,U _ _ zd,yf.pairs,by rw[gP];exact xl,λow zf=>?_⟩
  intro kp g;intro x dx c z ne;have l:=aH (o:=.dK (g6 th.2.2)) zf;have xa:upd H2 ow (.dK (g6 th.2.2)) ow=bn (g6 th.2.2):=af;have xm:HO.dK (kE (th.2.2.map λq=>(q.1,V.int q.2)))=.dK (g6 th.2.2):=rfl;rw[xm]at g c z⊢;generalize upd H2 ow (.dK (g6 th.2.2))=xb at l xa g c z⊢;have W:=aH (o:=.dT []) g;have B:upd xb kp (.dT []) kp=ce []:=af;generalize upd xb kp (.dT [])=m at W B c z⊢;have ym:=aH (o:=.own x) z;have xg:upd m dx (.own x) x=none:=by rw[ag (aN ne)];exact c
  have J:=ym.trans (aH (o:=.ins C dx []) xg);have R:upd (upd m dx (.own x)) x (.ins C dx []) x=ih (.ins C dx []):=af;generalize upd (upd m dx (.own x)) x (.ins C dx [])=yb at J R⊢;refine oP.mk rfl R (J _ _ B) λkn S=>⟨rfl,?_⟩;have zb:=aH (o:=.dT []) S;have yg:x≠kn:=ax R S;have ya:upd yb kn (.dT []) kn=ce []:=af;generalize upd yb kn (.dT [])=xc at zb ya⊢;have i:=l.trans W;have zg:=J.trans zb;have G:=j.trans U;have Y:∀b u,m b=ih u->upd xc x (.ins C dx (fW fi ow kp kn th.2.1 0)) b=ih u:=λb u e=>by rw[ag (ax e c)];exact zg _ _ e
  have d:∀b u,H2 b=ih u->upd xc x (.ins C dx (fW fi ow kp kn th.2.1 0)) b=ih u:=λb u e=>Y _ _ (i _ _ e);have I:m kn=none:=J.free S;obtain⟨p,y,ep⟩:=aW.mp yc;have xh:fZ H2 za L th.2.1:=ep ▸ ye p y;refine q ⟨x,dx,fi,yl,dl,de,dh,ow,kp,kn,th.2.1,za,zl,⟨L th.2.1,bk,th.2.2⟩,L,NU⟩ _ rfl rfl (λb u e=>d _ _ (G _ _ e)) ⟨aN (ax (i _ _ a.hx) c),af,⟨d _ _ a.hx,d _ _ a.hl,d _ _ a.he,d _ _ a.hh,a.du.same d,a.ok,a.nn⟩,Y _ _ (W _ _ xa),by rw[ag (aN yg)];exact ya,Y _ _ B,⟨aN (ax (i _ _ a.he) I),aN (ax (i _ _ a.hh) I),aN (ax (l _ _ a.he) g),aN (ax (l _ _ a.hh) g),aN (ax B I)⟩,xh.same d,rfl,λk n b v e=>(by cases e),.nil,λp y=>(by cases y),fz,λp y=>(by cases y),aK _⟩ ((G.trans i).free c) (j.free ze) (j.free xf) ((G.trans i).free I) ((G.trans l).free g)
structure pH(wd t tb tt:OT)(wt:List V)(cL:List Th)(th:Th)(o:Tp)(ws wb:List V)(Qb:List (CY×List CY))(L:CY->List CY)(bk:Bk)(NU:List CY)(a:Ask)(H:Hp):Prop where
 h:iB H wd t tb tt wt cL
 fb:FB H t tb o ws wb Qb L bk
 hm:th∈cL
 hk:th.2.1∈Qb.map (·.1)
 nd:(th.2.2.map (·.1)).Nodup
 wo:f3 ⟨L th.2.1,bk,th.2.2⟩ NU
 ua:UA ⟨L th.2.1,bk,th.2.2⟩ NU a
inductive pI(C D:OT)(vs:List V)(H:Hp)(Q:VK)(E:XK):Prop
 |mk{wd t tb tt:OT}{wt:List V}{cL:List Th}{th:Th}{o:Tp}{ws wb:List V}{Qb:List (CY×List CY)}{L:CY->List CY}{bk:Bk}{NU:List CY}{a:Ask}{cs:List Ask}(_:vs=[.ref wd,.str th.1,.str a.1,.str a.2])(_:pH wd t tb tt wt cL th o ws wb Qb L bk NU a H)(_:Cw ⟨L th.2.1,bk,th.2.2⟩ NU cs)(_:cs[0]?=ih a)(_:cs.length<=100)
  (_:∀(S:Wh) bg m kh kk kq ka Y,S.W=⟨L th.2.1,bk,th.2.2⟩->S.NU=NU->aE H Y->bE C D S bg m kh kk kq ka Y->ka.map (·.1)=cs.reverse->H S.kn=none->Q (.ref S.x) Y):pI C D vs H Q E
noncomputable abbrev jh:List CY:=["world","thing","name","behind"]
noncomputable abbrev Mj:List CY:=["world","thing","name","behind","whole"]
theorem BL:a' Mj jh (aI qF):=bt
theorem J':a' ["thing"] ["thing"] (aI rH):=bt
theorem I2(F:aP K "check_name" "check_name" rH f fd)(a:bQ P w K mg base ay 1 fN dN ["thing"] i1 "is_name"):aO P w K mg base ay 2 f fd ["thing"] oM:=by
 refine F.bx J' λQa A d s H vs Q E b h=>?_
 ·obtain @⟨x,rfl,n,q⟩:=h
  intro X;exact⟨_,aA (bF (e8 (eW (bz a b (aa (pv 0) ah)))) lJ bX),_,rfl,i1.mk rfl n λO c=>⟨true,rfl,q O c⟩⟩
theorem bE.wi{S:Wh}{a:am (Ask×Int)}(h:bE C D S bg m kh kk kq a H):WI C D S.x S.dx S.fi S.fx S.dl S.de S.dh S.ow S.kp S.kn S.kd bg S.kl (g6 S.W.own) S.ke kh kk m S.W.bk H:=⟨h.n3,h.hx,h.fi,h.ho,h.hk,h.n1.1,h.n1.2.1⟩
theorem Ka{zc xd fR:OT}{yd zd:Ss}(F:aP K "whole_asked" "whole_asked" qF f fd)(T:fh K mg C)(xe:bQ P w K mg base ay 7 zc yd ["world","thing"] (k0 C D) "whole_of")(ye:bQ P w K mg base ay 2 fN dN ["thing"] oM "check_name")(ze:bQ P w K mg base ay 2 xd zd ["line","thing"] o4 "check_behind")
  (xf:aO P w K mg base ay 1 fR dR ["self"] (kI C D)) (yf:Meth K C "forebears" fR) (zf:Binds K dR ["self"] []) (xg:aO P w K mg base ay 5 fT dT ["self","first"] (px C D R)) (yg:Meth K C "tell" fT) (zg:Binds K dT ["self","first"] []):aO P w K mg base ay 8 f fd jh (pI C D):=by
 refine F.bx BL λQa A yk s H vs Q E xh h=>?_
 ·obtain @⟨xl,t,tb,yl,zl,zk,th,o,ws,xm,Qb,L,bk,NU,a,cs,rfl,h,cw,I,G,q⟩:=h
  have c:aY 7 _:=xh;have J:aY 5 _:=c.mono (by decide)
  have m:aY 2 _:=c.mono (by decide)
  have M:aY 1 _:=c.mono (by decide)
  intro X;refine⟨_,aw (a9 4 BL.nd (bz xe c (aa (pv 0) (aa (pv 1) ah))))
   (aw (dX (bz ye m (aa (pv 2) ah)))
   (aw (dX (bz ze m (aa (vP (pv 4) T.cl yf xf M zf .nil b') (aa (pv 3) ah))))
   (aw (dX (eU (pv 4) T.cl yg xg J zg .nil b' (aa (c4 (aa (pv 2) (aa (pv 3) ah))) ah)))
   (aA (aX (pv 4)))))),?_⟩
  refine aV rfl rfl (k0.mk (NU:=NU) rfl h.h h.fb h.hm h.hk h.nd λS O d i yh j N U W n xa=>?_);refine ae rfl (oM.mk rfl (h.wo.nm _ h.ua.1) λH2 r=>?_);have g:=j.same r;obtain⟨ym,zh,v⟩:=g.ln;have xi:S.L S.kd=L th.2.1:=by rw[j.el,d]
  rw[xi]at v;refine ae rfl ⟨S.x,S.dx,_,rfl,g.hx,zZ,kI.mk rfl g.wi zh (ae rfl (o4.mk rfl v (h.fb.a7 h.hk) h.ua.2 λy z=>?_))⟩;refine ae rfl ⟨S.x,S.dx,_,rfl,z _ _ g.hx,HQ,_,rfl,_,rfl,b8,λta ya=>?_⟩;have B:=aH (o:=.tup [V.str a.1,V.str a.2]) ya;have l:upd y ta (.tup [V.str a.1,V.str a.2]) ta=bi [V.str a.1,V.str a.2]:=af;generalize upd y ta (.tup [V.str a.1,V.str a.2])=yi at B l⊢;have p:=r.trans (z.trans B);have zi:=j.same p;have za:=yh.trans p;have xj:∀Y,KT S yi Y->aE H Y:=λY k b u e=>k b u (ax e U) (ax e W) (ax e n) (ax e xa) (ax e N) (za _ _ e);refine px.mk (S:=S) (a:=a) rfl (by rw[d,i];exact h.wo) zi (bp _) l (by rw[d,i];exact cw) I G λt xb yj yb zb xc yc Y k zj xk=>?_
  exact ae rfl (q S xb yj yb zb xc yc Y d i (xj Y k) zj xk n)
def hB(H:Hp)(W:bf)(vs:List V)(ka:List (Ask×Int)):Prop:=Sl (λv p=>∃t,v=V.ref t/\H t=ih (.tup [.str p.1.1,.str p.1.2,.str (cO W p.1),.int p.2])) vs ka
theorem hB.keep{W:bf}{a:am (Ask×Int)}(h:hB H W vs a)(k:∀b xs,H b=bi xs->Y b=bi xs):hB Y W vs a:=Paired.imp' (λ_ _ c=>by obtain⟨t,e,q⟩:=c;exact ⟨t,e,k _ _ q⟩) h
inductive pJ(vs:List V)(H:Hp)(Q:VK)(E:XK):Prop
 |mk{wd t tb tt:OT}{wt:List V}{cL:List Th}{th:Th}{o:Tp}{ws wb:List V}{Qb:List (CY×List CY)}{L:CY->List CY}{bk:Bk}{NU:List CY}{a:Ask}{cs:List Ask}(_:vs=[.ref wd,.str th.1,.str a.1,.str a.2])(_:pH wd t tb tt wt cL th o ws wb Qb L bk NU a H)(_:Cw ⟨L th.2.1,bk,th.2.2⟩ NU cs)(_:cs[0]?=ih a)(_:cs.length<=100)
  (_:∀r rs ka Y,aE H Y->Y r=ih (.lst rs)->hB Y ⟨L th.2.1,bk,th.2.2⟩ rs ka->ka.map (·.1)=cs.reverse->(∀p∈ka,bf.Out ⟨L th.2.1,bk,th.2.2⟩ p.1 (.told p.2))->Q (.ref r) Y):pJ vs H Q E
noncomputable abbrev Cf:List CY:=["world","thing","name","behind","known"]
theorem BM:a' Cf jh (aI iV):=bt
noncomputable abbrev Ml:Si:=kT (cx (bH iV) 1)
theorem BN:bW Cf (aI iV) ["asking","known"] [none,ih 4] (cG Ml):=c'
theorem wK{a:am Key×V}:∀{kvs:am (List Key×V)}{i:Nat},(kvs.map (·.1)).Nodup->kvs[i]?=ih a->a5 kvs a.1=ih a.2
 |[],i,_,h=>by simp at h
 |p::kvs,0,_,h=>by cases h;exact eL rfl
 |p::kvs,i+1,b,h=>by
  rw[b5,dQ]at b;rw[dV (λz=>b.1 (by rw[z];exact aW.mpr ⟨a,cY (by simpa using h),rfl⟩))]
  exact wK b.2 (by simpa using h)
theorem gI.keys{W:bf}{a:am (Ask×Int)}(h:gI H W NU kk a)(b:(a.map (·.1)).Nodup):(kk.map (·.1)).Nodup:=by
 have e:kk.map (·.1)=(a.map (·.1)).map cg:=by
  clear b
  induction h with
  |nil=>rfl
  |cons e _ c=>rw[b5,b5,b5,c,e.1]
 rw[e,hO,j2];exact(hO.mp b).imp λh z=>h (wH z)
theorem HY(x y z:V):bT [x,y,z] none (ih 2)=[x,y]:=rfl
theorem Kb{fW:OT}(F:kS K "paper_of" "paper_of" iV dv f fd)(T:fh K mg C)(zg:bQ P w K mg base ay 8 fW dW jh (pI C D) "whole_asked"):aO P w K mg base ay 9 f fd jh pJ:=by
 refine F.ok BM (λvs H Q E h=>?_) (λQa A zj s H vs Q E z h=>?_)
 ·obtain⟨rfl,_⟩:=h;rfl
 ·obtain @⟨yk,t,tb,zk,xl,xk,th,o,ws,yl,Qb,L,bk,NU,a,cs,rfl,h,cw,yd,xd,q⟩:=h
  have zd:aY 8 _:=z;have xe:=d9 z.units;refine⟨_,aw (gb (i:=4) BM.nd rfl (S5 rfl) (bY (bz zg zd (aa (pv 0) (aa (pv 1) (aa (pv 2) (aa (pv 3) ah))))) rfl))
   (aA (aX (dg rfl BN (Gf (pv 4)) (λs H fp=>⟨ba 0 BN.nd,d5,bJ rD (pv 0) (e5 kx (eV xe (pv 1) (pv 0)) fA (eO ar))⟩)))),?_⟩
  refine kR rfl rfl rfl rfl (pI.mk rfl h cw yd xd λS bg m kh kk kq j O za zl xh d xb ye=>⟨S.x,C,S.dx,_,.ref S.kn,rfl,d.hx,T.cl,T.nn,f9,?_⟩);have xm:j.length<=100:=by have:=b2 Sk xb;rw[aG,dw]at this;omega
  have ze:kk.length=j.length:=c5 d.kv;refine ae rfl ⟨S.kn,kk,rfl,d.hk,λo c J=>?_⟩;have v:∀b u,b≠S.kn->O b=ih u->upd O S.kn (.bw o (.dT kk)) b=ih u:=λb u n e=>by rw[ag n];exact e
  have B:upd O S.kn (.bw o (.dT kk)) S.kn=ih (.bw o (.dT kk)):=af;have X:gI (upd O S.kn (.bw o (.dT kk))) S.W S.NU kk j:=d.kv.keep λb xs e=>v _ _ (aj e d.hk) e
  generalize upd O S.kn (.bw o (.dT kk))=yh at v B X J⊢;refine Et (λi ys r g=>∃M:a2 V,r=[M,bd S.kn]/\g c=bm ys/\aE yh g/\hB g S.W ys (j.take i)) ⟨none,rfl,af,aH J,.nil⟩ (λi ys r g ab=>by obtain⟨_,_,z1,z2,_⟩:=ab;exact ⟨z1,z2 _ _ B⟩) ?_ ?_
  ·rintro i zh b ys r g G N ⟨M,rfl,R,k,l⟩
   have xf:i<kk.length:=(bA.mp G).1;obtain⟨p,U,yf,t,y,ns,ym,xi,yi,_,_,_,zi⟩:=L2.Paired.get X G;have zf:j.take (i+1)=j.take i++[p]:=by rw[dd,U];rfl
   have xg:g b=bi [V.str p.1.1,V.str p.1.2]:=by rw[yf]at N;exact N
   have yb:=wK (d.kv.keys d.nd) G;rw[xi]at yb;subst zi;refine d8 rfl rfl rfl ⟨S.kn,.ref t,rfl,.inr ⟨kk,zh.1,b,.inr ⟨o,k _ _ B⟩,rfl,N,yb.symm⟩,_,rfl,t,_,rfl,k _ _ yi,λxj zm zb Y=>?_⟩;rw[HY]at Y;refine⟨b,xj,_,_,rfl,rfl,zb _ _ xg,Y,by show 2+2<=OY;rw[aQ];decide,λp2 xc yj yg=>?_⟩
   have I:=zb.trans yj;have xa:=I _ _ R;have yc:∀{zs:am V} b xs,xc b=bi xs->upd xc c (.lst zs) b=bi xs:=λb xs e=>by rw[ag (aj e xa)];exact e
   refine⟨xa,?_,cw_next xf ⟨_,rfl,af,λx u zc=>by rw[ag (ax zc J)];exact I _ _ (k x u zc),?_⟩⟩
   ·have:=c5 l
    rw[b9]at this;rw[aQ];omega
   ·rw[zf]
    exact hJ (l.keep λb xs e=>yc _ _ (I _ _ e)) ⟨p2,rfl,yc _ _ yg⟩
  ·rintro ys r g ⟨M,rfl,R,k,l⟩
   rw[ze,cj]at l;refine q c ys j g (λb u e=>k _ _ (v _ _ (ax e ye) (xh _ _ e))) R (by rw[<-za];exact l) xb λp U=>by rw[<-za];exact d.ok p U
end dq
namespace dq
open L2 W HT
inductive pK(C D R:OT)(vs:List V)(H:Hp)(Q:VK)(E:XK):Prop
 |mk{S:Wh}{bg m:Int}{kh kk kq:List (List Key×V)}{ka:List (Ask×Int)}{ta:OT}{a:Ask}{cs:List Ask}{j k:Nat}(_:vs=[.ref S.x,.ref ta])(_:f3 S.W S.NU)(_:bE C D S bg m kh kk kq ka H)(_:kh.length<=800000)(_:H ta=ih (.tup [.str a.1,.str a.2]))(_:Cw S.W S.NU cs)(_:cs[j]?=ih a)(_:cs.length<=100)(_:ka.map (·.1)=(cs.drop k).reverse)(_:j<k)(_:k<=cs.length)
  (_:j+1=k ->∀z t y ns m5 m' cK iC jS Y,KT S H Y->bE C D S m5 m' cK iC jS (ka++[(a,z)]) Y->cK.length<=kh.length+10->y=V.str (cO S.W a)->Y t=ih (.tup [y,.int z,.ref ns])->S.W.Out a (.told z)->Q (.ref t) Y)
  (_:j+1<k ->∀Y,KT S H Y->Q .aM Y):pK C D R vs H Q E
noncomputable abbrev Mm:List CY:=["self","asking","standing"]
theorem BO:a' Mm ["self","asking"] (aI qZ):=bt
theorem Cw.next{W:bf}{cs:am Ask}(c:Cw W NU cs){k:Nat}{b:Ask}(h:cs[j+1]?=ih b)(e:j+1<k):b ∉ (cs.drop k).reverse:=λa=>by
 have a:=ei.mp a;have d:=c.nd;rw[<-lx k cs]at d;refine(eg.mp d).2.2 b (nH.mpr ⟨j+1,?_⟩) b a rfl;rw[Ds,aB e];exact h
theorem Kc(F:aP K "tell_at_once" "Whole.tell_at_once" qZ f fd)(T:fh K mg C)(zw:aO P w K mg base ay 3 fE dE ["self","standing","asking"] (jM C D R))(xx:Meth K C "enter" fE)(yx:Binds K dE ["self","standing","asking"] [])
  (zx:aO P w K mg base ay 4 fG dG ["self","reckoning"] (kX C D R)) (xy:Meth K C "go_on" fG) (yy:Binds K dG ["self","reckoning"] []) (zy:aO P w K mg base ay 1 fS dS ["self","reckoning"] (kY C D R)) (xz:Meth K C "settle" fS) (yz:Binds K dS ["self","reckoning"] []):aO P w K mg base ay 5 f fd ["self","asking"] (pK C D R):=by
 refine F.bx BO λQa A yF s H vs Q E yn h=>?_
 ·obtain @⟨S,bg,m,kh,kk,kq,yb,ta,a,cs,j,k,rfl,yh,h,xG,zq,cw,zd,zF,zc,zz,yH,xA,yA⟩:=h
  have zf:aY 4 _:=yn;have xr:aY 3 _:=zf.mono (by decide)
  have yr:aY 1 _:=zf.mono (by decide)
  have zr:=d9 yn.units;intro X;refine⟨_,aw (a9 2 BO.nd (er ah))
   (aw (dX (eU (pv 0) T.cl xx zw xr yx .nil b' (aa (pv 2) (aa (pv 1) ah))))
   (aw (bF (PW.pt (pw_and (iT (pv 2) (λ_=>rfl)) (pw_and1 (bS h7 (eU (pv 0) T.cl xy zx zf yy .nil b' (aa (aT cM (pv 2) ar) ah)) eo (bM _)))))
    (aA (dX (eU (pv 0) T.cl xz zy yr yz .nil b' (aa (aT cM (pv 2) ar) ah)))) bX)
   (aA (aX (fB PySem.F.plainAttrs_dict PM PySem.F.type_dict_get (Hx zr) (bY (pv 0) rfl) (aa (pv 1) ah)))))),?_⟩
  have xe:a∈cs:=cY zd;obtain⟨wh,d,ye,zn⟩:=cw.la j a zd;have xd:∀z,(a,z)∉ yb:=λz zb=>by
   have:a∈(cs.drop k).reverse:=by rw[<-zc];exact aW.mpr ⟨_,zb,rfl⟩
   have xo:=cw.nd;rw[<-lx k cs]at xo;refine(eg.mp xo).2.2 a (nH.mpr ⟨j,?_⟩) a (ei.mp this) rfl;rw[Ds,aB zz];exact zd
  have yG:yb.length<=100:=by have:=b2 Sk zc;rw[aG,dw,jW]at this;omega
  have zG:kk.length=yb.length:=c5 h.kv;refine⟨bp _,λst xl=>?_⟩;have J:=aH (o:=.lst []) xl;have i:=h.same J;have u:upd H st (.lst []) st=bm []:=af;have l:=J _ _ zq;generalize upd H st (.lst [])=O at J i u l⊢;have yl:∀{H2:Hp}{z:Int}{xg xc:Int}{Y xa yd:am (List Key×V)},j+1=k->KT S H H2->bE C D S xg xc Y xa yd (yb++[(a,z)]) H2->Y.length<=kh.length+10->H2 ta=bi [.str a.1,.str a.2] ->∃(r:V),a5 xa (cg a)=ih r/\Q r H2:=λ{H2 z xg xc Y xa yd} e zA g zh _=>by
   rcases g.kv.val a with⟨_,ya⟩|⟨v,xi,t,y,ns,zH,yo,ya,rfl,xB,_,_,_,yB⟩
   ·exact absurd (ee _ aS) (ya z)
   ·have zb:xi=z:=by
     rcases cq.mp ya with y'|y'
     ·exact absurd y' (xd xi)
     ·have:=b3.mp y';injection this
    subst zb;exact⟨_,yo,xA e xi t y ns xg xc Y xa yd H2 zA g zh yB xB (g.ok _ ya)⟩
  refine ae rfl ⟨S.x,S.dx,_,rfl,i.hx,rfl,_,rfl,_,rfl,jM.mk (bj:=[]) (b:=a) rfl yh i (by omega) (by omega) u (bp _) ⟨λp U=>(by cases U),fz⟩ (λp U=>(by cases U)) l (cw.ua a xe) xd (λp U=>(by cases U)) (cw.ow a xe) ye (λz xa Y xc H2 yi xI za g zh=>?_) (λzo q lv rn Y xc H2 za g zh xt yc n1 L M ze xf=>?_)⟩
  ·have yo:j+1=cs.length:=by
    rcases zn with⟨e,_⟩|⟨e,_⟩
    ·exact e
    ·rw[yi]at e;exact absurd rfl e
   have zi:j+1=k:=by omega
   have I:=za _ _ (aj u i.fi.hx) (aj u i.fi.hh) (aj u i.hk) u
   have B:=za _ _ (aj l i.fi.hx) (aj l i.fi.hh) (aj l i.hk) l
   have yg:KT S H H2:=λb o n1 L M _ _ e=>za _ _ n1 L M (J _ _ e);refine ae rfl ⟨_,.inl ⟨_,aq.of I,rfl⟩,ite_ff rfl (ite_ff rfl ?_)⟩;obtain⟨r,xj,yj⟩:=yl zi yg g (by omega) B
   exact ae rfl ⟨S.x,C,S.dx,_,.ref S.kn,rfl,g.hx,T.cl,T.nn,f9,.inr (.inr (.inl ⟨rfl,.inr ⟨_,g.hk⟩⟩)),_,rfl,S.kn,_,cg a,ta,rfl,rfl,g.hk,B,by rw[xj];exact yj⟩
  ·have I:H2 st=bm [V.ref q.x]:=xt
   have B:=za _ _ (aj l i.fi.hx) (aj l i.fi.hh) (aj l i.hx) (aj l u) l
   have yg:KT S H H2:=λb o n1 L M ze xf e=>za _ _ n1 L xf (ax e xl) (J _ _ e);have zB:H q.x=none:=J.free n1;have xC:H q.lf=none:=J.free L;have fr:H q.rs=none:=J.free M;obtain⟨zj,zl,only,yC,yt,zt⟩:∃b,cs[j+1]?=ih b/\(∀s∈bq d,∀c,S.W.need a.1 wh s=ih c->c=b) /\∃s∈bq d,S.W.need a.1 wh s=ih b:=by
    rcases zn with⟨_,n,e⟩|⟨_,r⟩
    ·rw[e]at zo;exact absurd rfl zo
    ·exact r
   have xm:q.lf≠st/\q.rs≠st:=⟨aN (ax u L),aN (ax u M)⟩;have ym:cU S.W ⟨a,wh,bq d,0⟩:=cU.new (cw.ow a xe) ye;have xu:st≠q.x:=aj I yc.hx
   have zm:∀{N:Hp},Kr S q H2 N->N st=bm [V.ref q.x]/\N ta=bi [.str a.1,.str a.2]/\KT S H N:=λ{N} kr=>⟨kr _ _ (aj I g.fi.hx) (aj I g.fi.hh) xu (aN xm.1) (aN xm.2) I,kr _ _ (aj B g.fi.hx) (aj B g.fi.hh) (aj B yc.hx) (aj B yc.hl) (aj B yc.hr) B,λb o xp yp xk zC xD e=>kr _ _ xp yp (ax e zB) (ax e xC) (ax e fr) (yg b o xp yp xk zC xD e)⟩
   refine ae rfl ⟨_,.inl ⟨_,aq.of I,rfl⟩,ite_tt rfl ?_⟩;refine ae rfl ⟨S.x,S.dx,_,rfl,g.hx,rfl,_,rfl,fq I cb (kX.mk (A:=q) (fr:=⟨a,wh,bq d,0⟩) rfl yh g (by omega) yc ym (oy ye) (λt' yu zu xv xk N kr G yD xn zg yv=>?_) (λt' zD ds yu zu xv xk b tn N kr G yD xn zg xE zv xH=>?_))⟩
   ·obtain⟨yk,xb,xh⟩:=zm kr
    have zi:j+1=k:=by
     obtain⟨z,zb⟩:=yv yC yt zj zt;have yE:zj∈(cs.drop k).reverse:=by rw[<-zc];exact aW.mpr ⟨_,zb,rfl⟩
     rcases qw (j+1) k with y|y
     ·exact absurd yE (cw.next zl y)
     ·omega
    refine⟨rfl,_,rfl,ite_tt (cE rfl) ?_⟩;refine ae rfl ⟨S.x,S.dx,_,rfl,G.hx,rfl,_,rfl,fq yk cb (kY.mk (A:=q) (fr:=⟨a,wh,[],t'⟩) rfl yh G (by omega) xn (zg.done rfl) xd (cw.ua a xe) ym.wh λxa yd zE zp yf=>?_)⟩
    have xw:KT S H zE:=λb o n1 L M ze xf e=>zp _ _ M ze (xh b o n1 L M ze xf e);have zk:=zp _ _ (aj xb G.hk) (aj xb G.hq) xb
    obtain⟨r,xj,yj⟩:=yl zi xw yf (by omega) zk
    exact ae rfl ⟨S.x,C,S.dx,_,.ref S.kn,rfl,yf.hx,T.cl,T.nn,f9,.inr (.inr (.inl ⟨rfl,.inr ⟨_,yf.hk⟩⟩)),_,rfl,S.kn,_,cg a,ta,rfl,rfl,yf.hk,zk,by rw[xj];exact yj⟩
   ·obtain⟨yk,xb,xh⟩:=zm kr
    obtain⟨xq,yw,⟨pre,yq⟩,_⟩:=cw.top zg zd;have yi:xq=d:=by
     have:S.W.look a=ih (wh,xq):=yw;rw[ye]at this;injection this with this;injection this with _ this;exact this.symm
    have xF:b=zj:=only zD (by rw[<-yi,yq];exact ee _ aS) b xE
    have lt:j+1<k:=by
     rcases qw (j+1) k with y|y
     ·exact y
     ·exfalso
      have:b∈yb.map (·.1):=by
       rw[zc,xF];exact ei.mpr (nH.mpr ⟨0,by rw[Dn,show k+0=j+1 by omega];exact zl⟩)
      obtain⟨p,U,ya⟩:=aW.mp this;exact zv p.2 (by rw[<-ya];exact U)
    refine⟨rfl,_,rfl,ite_ff (eF (by intro z;cases z)) ?_⟩
    exact ae rfl ⟨S.x,C,S.dx,_,.ref S.kn,rfl,G.hx,T.cl,T.nn,f9,.inr (.inr (.inl ⟨rfl,.inr ⟨_,G.hk⟩⟩)),_,rfl,S.kn,_,cg a,ta,rfl,rfl,G.hk,xb,by rw[G.kv.no xd];exact yA lt N xh⟩
inductive pL(vs:List V)(H:Hp)(Q:VK)(E:XK):Prop
 |mk{z:Int}(_:vs=[.int z])(_:Q (.bl true) H):pL vs H Q E
theorem Lp:a' ["thing"] ["thing"] (aI q9):=bt
theorem Kd(F:aP K "is_whole" "is_whole" q9 f fd)(a:fQ mg)(b:s9 mg):aO P w K mg base ay 1 f fd ["thing"] pL:=by
 refine F.bx Lp λQa A c s H vs Q E d h=>?_
 ·obtain @⟨z,rfl,q⟩:=h
  intro X;refine⟨_,aA (aX (iY (b4 hW rfl a.g8 gS (aa (pv 0) (aa (gT (v:=.ty "int") rfl b.int boot_int rfl) ah))) (jw (Ae (b4 hW rfl a.g8 gS (aa (pv 0) (aa (gT (v:=.ty "bool") rfl b.bool boot_bool rfl) ah))))))),?_⟩;exact ae rfl ⟨⟨_,.inr ⟨"int",rfl⟩⟩,.int z,.ty "int",.type "int",.type "int",true,rfl,rfl,.inl (.int z),rfl,true,rfl,_,rfl,⟨_,.inr ⟨"bool",rfl⟩⟩,.int z,.ty "bool",.type "int",.type "bool",false,rfl,rfl,.inl (.int z),rfl,false,rfl,q⟩
inductive pM(C D:OT)(vs:List V)(H:Hp)(Q:VK)(E:XK):Prop
 |mk{S:Wh}{bg m:Int}{kh kk kq:List (List Key×V)}{ka:List (Ask×Int)}{t:OT}{a:Ask}{wh:CY}{z:Int}(_:vs=[.ref S.x,.ref t])(_:f3 S.W S.NU)(_:bE C D S bg m kh kk kq ka H)(_:H t=ih (.tup [.str a.1,.str a.2,.str wh,.int z]))(_:UA S.W S.NU a)(_:∀Y,aE H Y->Q (.bl true) Y):pM C D vs H Q E
noncomputable abbrev Mn:List CY:=["whole","thing","name","behind","where","number"]
theorem mR:a' Mn ["whole","thing"] (aI q7):=bt
theorem Ke{l fR fW:OT}{n:Ss}(F:aP K "has_form" "has_form" q7 f fd)(B:dc mg)(d:fQ mg)(T:fh K mg C)(o:bQ P w K mg base ay 1 fN dN ["thing"] i1 "is_name")(p:bQ P w K mg base ay 1 l n ["line","thing"] kW "is_behind")
  (r:aO P w K mg base ay 1 fR dR ["self"] (kI C D)) (u:Meth K C "forebears" fR) (y:Binds K dR ["self"] []) (G:bQ P w K mg base ay 1 fW dW ["thing"] pL "is_whole"):aO P w K mg base ay 2 f fd ["whole","thing"] (pM C D):=by
 refine F.bx mR λQa A M s H vs Q E I h=>?_
 ·obtain @⟨S,bg,m,kh,kk,kq,N,t,a,wh,z,rfl,g,h,e,i,q⟩:=h
  have b:aY 1 _:=I;intro X;refine⟨_,aw (bF (PW.pt (pw_or (e8 (eW (b4 hW rfl d.g8 gS (aa (pv 1) (aa (gT (v:=.ty "tuple") rfl B.tuple boot_tuple rfl) ah))))) (pw_or1 (bS my (b4 hT rfl B.len hS (aa (pv 1) ah)) ar (bM _))))) (aA (aX gV)) bX)
   (aw (h6 (pv 1) (gU rfl (cS (ba 2 mR.nd) (cS (ba 3 mR.nd) (cS (ba 4 mR.nd) (cS (ba 5 mR.nd) f'))))))
   (aA (aX (iY (bz o b (aa (pv 2) ah)) (iY (bz p b (aa (vP (pv 0) T.cl u r b y .nil b') (aa (pv 3) ah))) (iY (b4 hW rfl d.g8 gS (aa (pv 4) (aa (gT (v:=.ty "str") rfl d.str boot_str rfl) ah))) (jw (bz G b (aa (pv 5) ah))))))))),?_⟩
  refine ae rfl ⟨⟨_,.inr ⟨"tuple",rfl⟩⟩,.ref t,.ty "tuple",.type "tuple",.type "tuple",true,rfl,rfl,.inl (.tup e),rfl,true,rfl,?_⟩;refine ae rfl ⟨t,_,rfl,.inr (aU.of e),rfl,_,rfl,?_⟩;refine ae rfl ⟨t,_,rfl,aU.of e,rfl,_,_,rfl,_,_,rfl,_,_,rfl,_,_,rfl,rfl,?_⟩;refine ae rfl (i1.mk rfl (g.nm _ i.1) λO j=>⟨true,rfl,ite_tt rfl ?_⟩);have c:=h.same j;obtain⟨R,J,k⟩:=c.ln;rw[c.el]at k;refine ae rfl ⟨S.x,S.dx,_,rfl,c.hx,zZ,kI.mk rfl c.wi J (ae rfl (kW.mk rfl k (by have:=g.ln;omega) i.2 λH2 L=>⟨true,rfl,ite_tt rfl ?_⟩))⟩
  exact ae rfl ⟨⟨_,.inr ⟨"str",rfl⟩⟩,.str wh,.ty "str",.type "str",.type "str",true,rfl,rfl,.inl (.str wh),rfl,true,rfl,ite_tt rfl (ae rfl (pL.mk rfl (q _ (j.trans L))))⟩
inductive pN(C D R:OT)(vs:List V)(H:Hp)(Q:VK)(E:XK):Prop
 |mk{S:Wh}{bg m:Int}{kh kk kq:List (List Key×V)}{ka:List (Ask×Int)}{t:OT}{a:Ask}{z:Int}{cs:List Ask}{j k:Nat}(_:vs=[.ref S.x,.ref t])(_:f3 S.W S.NU)(_:bE C D S bg m kh kk kq ka H)(_:kh.length<=800000)(_:H t=ih (.tup [.str a.1,.str a.2,.str (cO S.W a),.int z]))(_:Cw S.W S.NU cs)(_:cs[j]?=ih a)(_:cs.length<=100)(_:ka.map (·.1)=(cs.drop k).reverse)(_:j<k)(_:k<=cs.length)(_:S.W.Out a (.told z))
  (_:j+1=k ->∀m5 m' cK iC jS Y,KT S H Y->bE C D S m5 m' cK iC jS (ka++[(a,z)]) Y->cK.length<=kh.length+10->Q (.bl true) Y)
  (_:j+1<k ->∀Y,KT S H Y->Q (.bl false) Y):pN C D R vs H Q E
noncomputable abbrev Mo:List CY:=["whole","row","asking","told"]
theorem tq:a' Mo ["whole","row"] (aI q8):=bt
theorem Kf(F:aP K "is_right" "is_right" q8 f fd)(T:fh K mg C)(xg:aO P w K mg base ay 5 fT dT ["self","asking"] (pK C D R))(yg:Meth K C "tell_at_once" fT)(zg:Binds K dT ["self","asking"] []):aO P w K mg base ay 6 f fd ["whole","row"] (pN C D R):=by
 refine F.bx tq λQa A xl s H vs Q E N h=>?_
 ·obtain @⟨S,bg,m,kh,kk,kq,yl,t,a,z,cs,j,k,rfl,Y,h,yc,c,cw,r,xc,M,xa,xh,yh,zh,xi⟩:=h
  have zc:aY 5 _:=N;have ya:=N.units;have xd:=d9 ya;intro X;refine⟨_,aw (a9 2 tq.nd (e5 kx (pv 1) fA (eO ar)))
   (aw (bF (h5 (jA xd (pv 2) (bY (pv 0) rfl))) (aA (aX gV)) bX)
   (aw (vY (aA (a9 3 tq.nd (eU (pv 0) T.cl yg xg zc zg .nil b' (aa (pv 2) ah)))) rfl)
   (aA (aX (iY (gw GO (pv 3) eo (bM _)) (jw (gw (An ya) (e5 kx (pv 3) fA (eO ar)) (e5 kx (pv 1) (eO ar) fA) (bM _)))))))),?_⟩
  have yd:a5 kk (cg a)=none:=h.kv.no λz v=>by
   have:a∈(cs.drop k).reverse:=by rw[<-M];exact aW.mpr ⟨_,v,rfl⟩
   have za:=cw.nd;rw[<-lx k cs]at za;refine(eg.mp za).2.2 a (nH.mpr ⟨j,?_⟩) a (ei.mp this) rfl;rw[Ds,aB xa];exact r
  refine aV rfl rfl ⟨t,_,rfl,c,λta O B q=>?_⟩;have q:O ta=bi [V.str a.1,V.str a.2]:=q;have u:=h.same B;refine ae rfl ⟨_,rfl,S.x,C,S.dx,_,.ref S.kn,rfl,u.hx,T.cl,T.nn,f9,S.kn,_,rfl,cf.t (k:=cg a) u.hk q,_,rfl,?_⟩;rw[yd];obtain⟨wh,d,xb,_⟩:=cw.la j a r;have yi:cO S.W a=wh:=by unfold cO;rw[cw.ow a (cY r),xb]
  have zi:PJ (cO S.W a)=true:=by rw[yi];exact jC (Y.lm _ (oy xb))
  refine ae rfl ⟨S.x,S.dx,_,rfl,u.hx,rfl,_,rfl,pK.mk (a:=a) rfl Y u yc q cw r xc M xa xh (λe g t' y ns zd xj xe ye ze H2 G yj zj xk xf yf=>?_) (λe H2 G=>?_)⟩
  ·have v:g=z:=by have:=Out.uniq yf yh;injection this
   subst v xk;have yb:KT S H H2:=λb o n1 i l n p e=>G b o n1 i l n p (B _ _ e);have zf:H2 t=bi [.str a.1,.str a.2,.str (cO S.W a),.int g]:=yb _ _ (aj c h.fi.hx) (aj c h.fi.hh) (aj c h.hk) (aj c h.hq) (aj c h.hx) c
   refine ae rfl ⟨rfl,_,rfl,ite_tt (by rw[eF (by intro z;cases z)];rfl) ?_⟩
   refine aV rfl rfl ⟨t',_,rfl,xf,λyk zk I h1=>?_⟩;refine aV rfl rfl ⟨t,_,rfl,I _ _ zf,λp2 zb J U=>?_⟩;have h1:zk yk=bi [V.str (cO S.W a),.int g]:=h1;have U:zb p2=bi [V.str (cO S.W a),.int g]:=U;have L:(U0 [.str (cO S.W a),.int g]).canLay0=true:=by show(PJ (cO S.W a)&&(true&&true))=true;rw[zi];rfl
   refine⟨.tuple [.str (cO S.W a),.int g],.tuple [.str (cO S.W a),.int g],.tup (J _ _ h1) (.cons (.str _) (.cons (.int _) .nil)),.tup U (.cons (.str _) (.cons (.int _) .nil)),L,L,by simp[TC,SJ],?_⟩
   rw[P2 _ L];exact zh e zd xj xe ye ze zb (λb o n1 i l n p e=>J _ _ (I _ _ (yb b o n1 i l n p e))) (yj.same (I.trans J)) zj
  ·exact ae rfl ⟨rfl,_,rfl,ite_ff (by rw[cE rfl];rfl) (xi e H2 λb o n1 i l n p e=>G b o n1 i l n p (B _ _ e))⟩
def Ord(cs:List Ask)(as:List Ask):Bool->Prop
 |true=>as=cs.reverse
 |false=>∃a b r,cs=a::b::r/\as=r.reverse++[a,b]
inductive mS(vs:List V)(H:Hp)(Q:VK)(E:XK):Prop
 |mk{wd t tb tt rl:OT}{wt rs:List V}{cL:List Th}{th:Th}{o:Tp}{ws wb:List V}{Qb:List (CY×List CY)}{L:CY->List CY}{bk:Bk}{NU:List CY}{a:Ask}{cs:List Ask}{ra:List (Ask×Int)}{ok:Bool}(_:vs=[.ref wd,.str th.1,.ref rl])(_:pH wd t tb tt wt cL th o ws wb Qb L bk NU a H)(_:Cw ⟨L th.2.1,bk,th.2.2⟩ NU cs)(_:cs.length<=100)
  (_:H rl=ih (.lst rs)) (_:hB H ⟨L th.2.1,bk,th.2.2⟩ rs ra) (_:Ord cs (ra.map (·.1)) ok) (_:∀p∈ra,bf.Out ⟨L th.2.1,bk,th.2.2⟩ p.1 (.told p.2)) (_:∀Y,aE H Y->Q (.bl ok) Y):mS vs H Q E
noncomputable abbrev Mp:List CY:=["world","thing","rows","whole","row"]
theorem tu:a' Mp ["world","thing","rows"] (aI q6):=bt
theorem Kg{xl yl:OT}{zl xm:Ss}(F:aP K "is_paper" "is_paper" q6 f fd)(B:dc mg)(ym:fQ mg)(zm:bQ P w K mg base ay 7 xl zl ["world","thing"] (k0 C D) "whole_of")(xn:bQ P w K mg base ay 2 yl xm ["whole","thing"] (pM C D) "has_form")(yn:bQ P w K mg base ay 6 fI dI ["whole","row"] (pN C D R) "is_right"):aO P w K mg base ay 8 f fd ["world","thing","rows"] mS:=by
 refine F.bx tu λQa A zq s H vs Q E zn h=>?_
 ·obtain @⟨xo,t,tb,zr,rl,xt,rs,xr,th,o,ws,yt,Qb,L,bk,NU,a,cs,d,ok,rfl,h,cw,xg,yc,T,l,out,q⟩:=h
  have U:aY 7 _:=zn;have yg:aY 6 _:=U.mono (by decide)
  have zg:aY 2 _:=U.mono (by decide)
  intro X;refine⟨_,aw (a9 3 tu.nd (bz zm U (aa (pv 0) (aa (pv 1) ah))))
   (aw (bF (e8 (eW (b4 hW rfl ym.g8 gS (aa (pv 2) (aa (gT (v:=.ty "list") rfl B.list boot_list rfl) ah))))) (aA (aX gV)) bX)
   (aw (eX eh rfl (c9 (pv 2)) (ba 4 tu.nd)
    (aA (bF (PW.pt (pw_or (e8 (eW (bz xn zg (aa (pv 3) (aa (pv 4) ah))))) (pw_or1 (e8 (eW (bz yn yg (aa (pv 3) (aa (pv 4) ah)))))))) (aA (aX gV)) bX)))
   (aA (aX gV)))),?_⟩
  refine aV rfl rfl (k0.mk (NU:=NU) rfl h.h h.fb h.hm h.hk h.nd λS O yd zd xe yo xh yh zh xi yi=>?_);have xc:=xe _ _ yc;refine ae rfl ⟨⟨_,.inr ⟨"list",rfl⟩⟩,.ref rl,.ty "list",.type "list",.type "list",true,rfl,rfl,.inl (.lst xc),rfl,true,rfl,?_⟩;have zi:rs.length=d.length:=c5 T;rw[<-yd]at cw out T;rw[<-zd]at cw;have ye:f3 S.W S.NU:=by rw[yd,zd];exact h.wo
  have ze:∀{G xf:Hp},aE H G->KT S G xf->aE H xf:=λs k b u e=>k b u (ax e yh) (ax e zh) (ax e xi) (ax e yi) (ax e xh) (s _ _ e);have xj:d.length=cs.length:=by
   have:=b2 Sk (show d.map (·.1)=d.map (·.1) from rfl);cases ok with
   |true=>have e:d.map (·.1)=cs.reverse:=l;have:=b2 Sk e;rw[aG,dw]at this;exact this
   |false=>obtain⟨a,b,r,g,xa⟩:=l;have:=b2 Sk xa;rw[aG,cQ,dw]at this;rw[g];exact this
  have yj:∀i p,d[i]?=ih p ->∃j,cs[j]?=ih p.1/\((ok=true\/i+2<cs.length)->j+i+1=cs.length)/\(ok=false->i+2=cs.length->j=0/\2<=cs.length):=λi p J=>by
   have c:(d.map (·.1))[i]?=ih p.1:=by rw[dt,J];rfl
   cases ok with
   |true =>
    have e:d.map (·.1)=cs.reverse:=l;rw[e]at c;have hi:i<cs.length:=by have:=(bA.mp c).1;rwa [dw]at this
    rw[nI hi]at c;exact⟨cs.length - 1 - i,c,λ_=>by omega,λz=>(by cases z)⟩
   |false =>
    obtain⟨a,b,r,g,xa⟩:=l;rw[xa]at c;have zt:cs.length=r.length+2:=by rw[g];rfl
    rcases qw i r.length with y|y
    ·rw[O6 (by rw[dw];exact y),nI y]at c
     exact⟨r.length - 1 - i+2,by rw[g];exact c,λ_=>by omega,λ_ z=>by omega⟩
    ·rw[O5 (by rw[dw];exact y),dw]at c
     have hi:=(bA.mp c).1;have hi:i - r.length<2:=hi;rcases (show i - r.length=0\/i - r.length=1 by omega) with z|z
     ·rw[z]at c;exact⟨0,by rw[g];exact c,λq=>(by rcases q with q|q;cases q;omega),λ_ _=>⟨rfl,by omega⟩⟩
     ·rw[z]at c;exact⟨1,by rw[g];exact c,λq=>(by rcases q with q|q;cases q;omega),λ_ q=>by omega⟩
  refine⟨_,rfl,rl,rfl,⟨_,aq.of xc⟩,iS (xs:=rs) (λi σ G=>∃(ya:a2 V) (bg m:Int) (kh kk kq:am (List Key×V)) (n:am (Ask×Int)),σ=[bd xo,ih (.str th.1),bd rl,bd S.x,ya]/\aE H G/\bE C D S bg m kh kk kq n G/\kh.length<=10 * i/\n.map (·.1)=(cs.drop (cs.length - i)).reverse/\(ok=false->i+2<=cs.length))
   ⟨none,0,0,[],[],[],[],rfl,xe,yo,aK _,by rw[qk,qq];rfl,λe=>by rw[e]at l;obtain⟨a,b,r,g,_⟩:=l;rw[g];exact Nat.le_add_left 2 _⟩ (λi σ G _ ab=>by obtain⟨_,_,_,_,_,_,_,_,z,_⟩:=ab;exact aq.of (z _ _ yc)) ?_ ?_⟩
  ·rintro i x σ G yf ⟨ya,bg,m,kh,kk,kq,n,rfl,M,za,zo,Y,I⟩
   refine jr ?_;intro xu yu;have yr:i<rs.length:=(bA.mp yf).1;obtain⟨p,J,tr,rfl,zc⟩:=L2.Paired.get (T.keep λb xs e=>M b _ e) yf;obtain⟨j,N,xb,zf⟩:=yj i p J;have xp:=cY N;have yp:=(bA.mp N).1;refine aV rfl rfl (pM.mk rfl ye za zc (cw.ua _ xp) λzu yb=>ae rfl ?_);have xd:=M.trans yb;refine aV rfl rfl (pN.mk (j:=j) (k:=cs.length - i) rfl ye (za.same yb) (by omega) (yb _ _ zc) cw N xg Y ?_ (Nat.sub_le _ _) (out p (cY J)) (λe zj zp xk yk zk xq zb yq xv=>ae rfl ?_) (λe xq zb=>ae rfl ?_))
   ·cases ok with
    |true=>have:=xb (.inl rfl);omega
    |false =>
     have:=I rfl;rcases qw (i+2) cs.length with y|y
     ·have:=xb (.inr y);omega
     ·obtain⟨z,_⟩:=zf rfl (by omega);omega
   ·refine⟨_,zj,zp,xk,yk,zk,n++[(p.1,p.2)],rfl,ze xd zb,yq,by omega,?_,λc=>?_⟩
    ·rw[bo,Y,show cs.length - (i+1)=j by omega,iK yp,(bA.mp N).2,lp,show j+1=cs.length - i from e];rfl
    ·have:=I c
     rcases qw (i+2) cs.length with y|y
     ·omega
     ·obtain⟨z,_⟩:=zf c (by omega);omega
   ·cases ok with
    |true=>have:=xb (.inl rfl);omega
    |false=>exact q _ (ze xd zb)
  ·rintro σ G ⟨ya,bg,m,kh,kk,kq,n,rfl,M,za,zo,Y,I⟩
   cases ok with
   |true=>exact q _ M
   |false=>exact absurd (I rfl) (by rw[zi,xj];omega)
structure Mk(line ns:List CY)(cs:List bC):Prop where
 ch:gn line cs.reverse
 ks:cs.map ky=ns.reverse.flatMap λn=>line.reverse.map λk=>(k,n)
 en:∀x∈cs,Ent x.2.2.1
 ak:∀x∈cs,∀s∈bq x.2.2.1,a4 s = "ask" -> gA s∈ns
 ln:line.Nodup
 lm:∀k∈line,Nm k
 nd:ns.Nodup
 nm:∀n∈ns,Nm n
 l8:line.length<=8
 n6:ns.length<=6
 l0:line ≠ []
 n0:ns ≠ []
section
variable{cs:am bC}
theorem Mk.mem(h:Mk line ns cs){k:CY}(a:k∈line)(b:n∈ns):∃x∈cs,x.1=k/\x.2.1=n:=by
 have:(k,n)∈cs.map ky:=by
  rw[h.ks];exact lF.mpr ⟨n,ei.mpr b,aW.mpr ⟨k,ei.mpr a,rfl⟩⟩
 obtain⟨x,c,e⟩:=aW.mp this;injection e with d f;exact⟨x,c,d,f⟩
theorem Mk.at(h:Mk line ns cs){x:bC}(a:x∈cs):x.1∈line/\x.2.1∈ns:=by
 have:ky x∈cs.map ky:=aW.mpr ⟨x,a,rfl⟩;rw[h.ks]at this;obtain⟨n,b,c⟩:=lF.mp this;obtain⟨k,d,e⟩:=aW.mp c;injection e with f g;exact⟨f ▸ ei.mp d,g ▸ ei.mp b⟩
theorem Mk.knd(h:Mk line ns cs):(cs.map ky).Nodup:=by
 rw[h.ks,hO,List.pairwise_flatMap];refine⟨λn _=>?_,?_⟩
 ·rw[j2]
  exact(hO.mp ((lG _).nodup_iff.mpr h.ln)).imp λa e=>a (by injection e)
 ·refine(hO.mp ((lG _).nodup_iff.mpr h.nd)).imp λ{a b} ne x c y d e=>?_
  obtain⟨k,_,rfl⟩:=aW.mp c;obtain⟨g,_,rfl⟩:=aW.mp d;injection e with i f;exact ne f
theorem Mk.kr(a:Mk line ns cs):cs.reverse.map ky=ns.flatMap λn=>line.map λk=>(k,n):=by
 rw[jl,a.ks];have e:∀(us:am CY),(us.reverse.flatMap λn=>line.reverse.map λk=>(k,n)).reverse=us.flatMap λn=>line.map λk=>(k,n):=λus=>by
  induction us with
  |nil=>rfl
  |cons u us b=>rw[lp,j3,qv,b,lH,lH,Dq,f7,<-jl,nJ]
 exact e ns
theorem Mk.a7(h:Mk line ns cs):cs.length<=48:=by
 have e:=b2 Sk h.ks;rw[aG]at e;have a:∀us:am CY,(us.flatMap λn=>line.reverse.map λk=>(k,n)).length=us.length * line.length:=λus=>by
  induction us with
  |nil=>simp
  |cons u us b=>rw[lH,cQ,b,aG,dw,cX,Dp];omega
 rw[a,dw]at e;have:=U' h.n6 h.l8;omega
theorem Kh{cs:am bC}(h:(cs.map ky).Nodup):((cs.map gL).map c7).Nodup:=by
 rw[gP,hO,j2];rw[hO,j2]at h;refine h.imp λ{a b} ne e=>ne ?_;have c:a.1=b.1:=by injection e
 have d:a.2.1=b.2.1:=by injection e with _ z;injection z
 exact jV c d
theorem Mk.k8(h:Mk line ns cs):g5 (cs.map gL):=by
 refine⟨λq b=>?_,λq b=>?_,Kh h.knd,by rw[aG];exact h.a7⟩
 ·obtain⟨x,a,rfl⟩:=aW.mp b;exact⟨h.lm _ (h.at a).1,h.nm _ (h.at a).2⟩
 ·obtain⟨x,a,rfl⟩:=aW.mp b;exact h.en x a
theorem Mk.ask(h:Mk line ns cs):∀q∈cs.map gL,∀s∈bq q.2.2,a4 s = "ask" -> gA s∈ns:=λq a=>by
 obtain⟨x,b,rfl⟩:=aW.mp a;exact h.ak x b
theorem Mk.ji(h:Mk line ns cs):∀k∈line,k ≠ "" :=λk a z=>by
 have:=(h.lm k a).lo;rw[z]at this;exact absurd this (by decide +kernel)
theorem Mk.look(h:Mk line ns cs){bk:Bk}(pm:bk.Perm (cs.map gL)):∀y∈cs.reverse,dA bk y.1 y.2.1=ih y.2.2.1:=λy a=>u5 ((pm.map c7).nodup_iff.mpr h.k8.nd) (pm.mem_iff.mpr (aW.mpr ⟨y,ei.mp a,rfl⟩))
theorem Mk.out(h:Mk line ns cs){bk:Bk}(pm:bk.Perm (cs.map gL)){x:bC}(a:x∈cs):bf.Out ⟨line,bk,[]⟩ (ck line x) (.told x.2.2.2):=HV (W:=⟨line,bk,[]⟩) h.ln h.ji rfl h.ch (h.look pm) x (ei.mpr a)
theorem Mk.cO(h:Mk line ns cs){bk:Bk}(pm:bk.Perm (cs.map gL)){x:bC}(a:x∈cs):cO ⟨line,bk,[]⟩ (ck line x)=x.1:=by
 unfold dq.cO;rw[rk (W:=⟨line,bk,[]⟩) rfl,show bf.look ⟨line,bk,[]⟩ (ck line x)=ih (x.1,x.2.2.1) from hY (W:=⟨line,bk,[]⟩) h.ln h.ji (h.at a).1 (h.look pm x (ei.mpr a))]
theorem Mk.cw(h:Mk line ns cs){bk:Bk}(pm:bk.Perm (cs.map gL)):Cw ⟨line,bk,[]⟩ ns (cs.reverse.map (ck line)):=by
 refine⟨λa _=>rk rfl a,λa c=>?_,?_,I1 (W:=⟨line,bk,[]⟩) h.ln h.ji h.ch (h.look pm) λx d=>h.en x (ei.mp d)⟩
 ·obtain⟨x,d,rfl⟩:=aW.mp c
  have g:=h.at (ei.mp d);refine⟨g.2,?_⟩;have hi:=qu g.1;have f:line[line.idxOf x.1]?=ih x.1:=by rw[bB hi,nG]
  show cW line x.1 = "" \/ cW line x.1∈line;generalize line.idxOf x.1=j at hi f;cases j with
  |zero=>exact .inl (kN h.ln f)
  |succ j=>rw[mF h.ln (bB (show j<line.length by omega)) f];exact .inr (fw _)
 ·have knd:=h.knd
  rw[jl,(lG _).nodup_iff,hO,j2];rw[hO,j2]at knd;refine(VQ.mp knd).imp λ{a b} ⟨c,i,ne⟩ e=>ne ?_;have k:a.2.1=b.2.1:=by injection e
  have l:cW line a.1=cW line b.1:=by injection e
  exact jV (HW h.ln h.ji (h.at c).1 (h.at i).1 l) k
end
def ez(H:Hp)(line:List CY)(vs:List V)(xs:List bC):Prop:=Sl (λv x=>∃t,v=V.ref t/\H t=ih (.tup [.str x.2.1,.str (cW line x.1),.str x.1,.int x.2.2.2])) vs xs
theorem ez.keep{xs:am bC}(h:ez H line vs xs)(k:∀b ys,H b=bi ys->Y b=bi ys):ez Y line vs xs:=Paired.imp' (λ_ _ a=>by obtain⟨t,e,q⟩:=a;exact ⟨t,e,k _ _ q⟩) h
theorem vJ{cs:am bC}(b:(cs.map ky).Nodup):∀{xs ys:am bC},(∀x∈xs,x∈cs)->(∀y∈ys,y∈cs)->xs.map ky=ys.map ky->xs=ys
 |[],[],_,_,_=>rfl
 |[],y::ys,_,_,e=>by simp at e
 |x::xs,[],_,_,e=>by simp at e
 |x::xs,y::ys,c,d,e=>by
  rw[b5,b5]at e;obtain⟨f,g⟩:=qt e;have h1:=c x aS;have U:=d y aS;have:x=y:=by
   obtain⟨i,hi,rfl⟩:=uj.mp h1;obtain⟨j,h,rfl⟩:=uj.mp U;have:i=j:=(Pw (by rw[aG];exact hi) b).mp (by rw[dt,dt,bB hi,bB h];exact b2 ih f)
   subst this;rfl
  rw[this,vJ b (λz a=>c z (a8 _ a)) (λz a=>d z (a8 _ a)) g]
inductive pO(vs:List V)(H:Hp)(Q:VK)(E:XK):Prop
 |mk{la ln ds:OT}{line ns:List CY}{cs:List bC}(_:vs=[.ref la,.ref ln,.ref ds])(_:H la=ih (.lst (line.map V.str)))(_:H ln=ih (.lst (ns.map V.str)))(_:H ds=ih (.dT (hA cs)))(_:Mk line ns cs)
  (_:∀r us Y,aE H Y->Y r=ih (.lst us)->ez Y line us cs.reverse->Q (.ref r) Y):pO vs H Q E
noncomputable abbrev tX:List CY:=["_law_line_here","_law_names_here","_law_sums"]
noncomputable abbrev Mq:List CY:=["_law_line_here","_law_names_here","_law_sums","_law_rows","_law_name","_law_k"]
theorem pP:a' Mq tX (aI sZ):=bt
theorem Ki(F:aP K "_law_due" "_law_due" sZ f fd)(B:dc mg):aO P w K mg base ay 1 f fd tX pO:=by
 refine F.bx pP λQa A ym s H vs Q E xi h=>?_
 ·obtain @⟨p,R,ds,line,ns,cs,rfl,ya,za,xg,d,q⟩:=h
  have yg:=d9 xi.units;intro X;refine⟨_,aw (a9 3 pP.nd (kL ah))
   (aw (eX eh rfl (c9 (pv 1)) (ba 4 pP.nd)
    (aA (eX eh rfl (jn rfl B.range (aa (b4 hT rfl B.len hS (aa (pv 0) ah)) ah)) (ba 5 pP.nd)
     (aA (dX (fB hR lC lD iR (pv 3) (aa (c2 (aa (pv 4) (aa (aT cM (bJ mf (kL (aa b6 ah)) (pv 0)) (pv 5)) (aa (aT cM (pv 0) (pv 5)) (aa (eV yg (pv 2) (c2 (aa (aT cM (pv 0) (pv 5)) (aa (pv 4) ah)))) ah))))) ah)))))))
   (aA (aX (pv 3)))),?_⟩
  refine⟨bp _,λr O yd yi zg=>?_⟩;have a7:=d.a7;have xh:=d.kr;refine ae rfl ⟨R,rfl,⟨_,aq.of (yd _ _ za)⟩,iS (xs:=ns.map V.str) (λi σ G=>∃(us:am V) (xs:am bC) (S m:a2 V),σ=[bd p,bd R,bd ds,bd r,S,m]/\aE H G/\G r=bm us/\ez G line us xs/\(∀x∈xs,x∈cs)/\xs.map ky=((ns.take i).flatMap λn=>line.map λk=>(k,n))/\us.length<=8 * i)
   ⟨[],[],none,none,rfl,yd,zg,.nil,λx v=>(by cases v),rfl,aK _⟩ (λi σ G _ ab=>by obtain⟨_,_,_,_,_,z,_⟩:=ab;exact aq.of (z _ _ za)) ?_ ?_⟩
  ·rintro i x σ G v ⟨us,xs,S,m,rfl,g,l,dv,sub,a,C⟩
   refine jr ?_;intro zi zm;obtain⟨xb,rfl⟩:=rq v;have T:((ns.take (i+1)).flatMap λn=>line.map λk=>(k,n))=((ns.take i).flatMap λn=>line.map λk=>(k,n))++line.map λk=>(k,ns[i]):=by
    rw[et xb,j3,lH,Dq,f7]
   have zd:ns[i]∈ns:=fw xb;generalize ((ns.take i).flatMap λn=>line.map λk=>(k,n))=xj at a T;generalize ns[i]=n at zd T⊢;refine⟨_,rfl,p,_,rfl,.inl (aq.of (g _ _ ya)),_,rfl,by omega,by rw[aG];have:=d.l8;omega,lK (λj σ G=>∃(us:am V) (xs:am bC) (m:a2 V),σ=[bd p,bd R,bd ds,bd r,ih (.str n),m]/\aE H G/\G r=bm us/\ez G line us xs/\(∀x∈xs,x∈cs)/\xs.map ky=xj++((line.take j).map λk=>(k,n))/\us.length<=8 * i+j)
    ⟨us,xs,m,rfl,g,l,dv,sub,by rw[a];simp,C⟩ ?_ ?_⟩
   ·clear a dv l g sub
    rintro j σ G U ⟨us,xs,m,rfl,g,l,dv,sub,a,C⟩;refine jr ?_;intro zi xn;have yb:j<line.length:=by rw[aG]at U;have:TR ((line.length:Nat):Int)=line.length:=ft _;rw[this]at U;exact U
    rw[show(0:Int)+(j:Int)=j by omega]
    have D:line[j]?=ih line[j]:=bB yb;obtain⟨x,v,I,M⟩:=d.mem (cY D) zd;have xe:(line.take (j+1)).map (λk=>(k,n))=(line.take j).map (λk=>(k,n))++[(line[j],n)]:=by rw[et yb,bo];rfl
    have zb:(([("" : CY)]++line:am CY))[j]?=ih (cW line line[j]):=by
     cases j with
     |zero=>rw[kN d.ln D];rfl
     |succ j=>rw[mF d.ln (bB (show j<line.length by omega)) D];show line[j]?=_;rw[bB (by omega)]
    generalize line[j]=k at D I xe zb;have Y:=g _ _ ya;have yn:=d.n6;have zn:=d.l8;refine ae rfl ⟨.inl ⟨rfl,_,aq.of l⟩,_,rfl,ey,λc ye ze _ yj=>ae rfl ⟨c,p,_,_,rfl,rfl,yj,ze _ _ Y,by rw[aG,aQ];show 1+_<=_;omega,λJ yh=>?_⟩⟩
    have L:=ze.trans (aH (o:=.lst (([("" : CY)]++line).map V.str)) yh);have zj : [V.str ""]++line.map V.str=([("" : CY)]++line).map V.str:=by rw[bo];rfl
    rw[zj];have xa:upd ye J (.lst (([("" : CY)]++line).map V.str)) J=bm (([("" : CY)]++line).map V.str):=af;generalize upd ye J (.lst (([("" : CY)]++line).map V.str))=xo at L xa⊢;have xc:∀{xf:Hp},aE G xf->xf p=bm (line.map V.str):=λs=>s _ _ Y;have yc:cn (line.map V.str) (j:Int)=ih (.str k):=cF (by rw[dt,D];rfl)
    refine ae rfl ⟨J,_,(j:Int),.str (cW line k),rfl,rfl,aq.of xa,cF (by rw[dt,zb];rfl),?_⟩
    refine aV rfl rfl ⟨p,_,(j:Int),.str k,rfl,rfl,aq.of (xc L),yc,?_⟩;refine d8 rfl rfl rfl ⟨p,_,(j:Int),.str k,rfl,rfl,aq.of (xc L),yc,_,rfl,b8,λxk yk zk _ zh=>?_⟩;have zc:=L.trans zk;have xl:cf yk ds (.ref xk) (ih (.int x.2.2.2)):=by rw[<-Ad d.knd v];exact cf.t (k:=hg (ky x)) ((g.trans zc) _ _ xg) (by rw[zh];show _=ih (HO.tup [V.str x.1,V.str x.2.1]);rw[I,M])
    refine⟨ds,_,rfl,xl,by show 4<=OY;rw[aQ];decide,λt yf yl _ zl=>?_⟩
    have N:=zc.trans yl;have xd:=N _ _ l;refine⟨r,us,_,rfl,rfl,xd,by rw[aQ];omega,?_⟩
    have zf:∀{zs:am V} b ys,yf b=bi ys->upd yf r (.lst zs) b=bi ys:=λb ys e=>by rw[ag (aj e xd)];exact e
    refine⟨us++[.ref t],xs++[x],_,rfl,λb u e=>by rw[ag (ax e yi)];exact N _ _ (g _ _ e),af,hJ (dv.keep λb ys e=>zf _ _ (N _ _ e)) ⟨t,rfl,by rw[I,M];exact zf _ _ zl⟩,λy W=>?_,?_,by rw[cQ,j0];omega⟩
    ·rcases cq.mp W with z|z
     ·exact sub y z
     ·rw[b3.mp z];exact v
    ·rw[bo,a,xe,ni]
     congr 2
     show [ky x]=[(k,n)];rw[<-I,<-M];rfl
   ·rintro σ G ⟨us,xs,m,rfl,g,l,dv,sub,a,C⟩
    have xm:TR (((line.map V.str).length:Nat):Int)=line.length:=by rw[aG];exact ft _
    rw[xm]at a C;rw[cj]at a;exact⟨us,xs,_,_,rfl,g,l,dv,sub,by rw[T];exact a,by have:=d.l8;omega⟩
  ·rintro σ G ⟨us,xs,S,m,rfl,g,l,dv,sub,a,C⟩
   rw[aG,cj,<-xh]at a;have e:=vJ d.knd sub (λy W=>ei.mp W) a;rw[e]at dv;exact ae rfl (q r us G g l dv)
def Lc(ks:List CY)(x:CY):List CY:=(ks.take (ks.idxOf x+1)).reverse
def Pc(ks:List CY)(x:CY):List CY:=(ks.take (ks.idxOf x)).drop (ks.idxOf x - 1)
theorem vK:∀(l q:am CY) (k:Nat),l.Nodup->(q=[] \/∃x b,l=x::b/\q=[x])->total [l,q]<=k->bZ k [l,q]=ih l
 |[],q,k,_,h,_=>by
  have a:q=[]:=by
   rcases h with h|⟨x,b,e,_⟩
   ·exact h
   ·cases e
  subst a;cases k <;> rfl
 |x::l,q,k,c,h,g=>by
  have a:q=[]\/q=[x]:=by
   rcases h with h|⟨y,b,e,h⟩
   ·exact .inl h
   ·cases e;exact .inr h
  have i:x ∉ l:=(dQ.mp c).1;cases k with
  |zero=>exact absurd g (by simp[total])
  |succ k =>
   have j:cZ 0 [x::l,q] x=none:=lP.mpr λr m d=>by
    rcases bu.mp m with z|z
    ·rw[z];rfl
    ·have z:=b3.mp z
     rcases a with e|e
     ·rw[z,e]at d;cases d
     ·rw[z,e];rfl
   have o:ej [x::l,q]=ih x:=by
    show(if (cZ 0 [x::l,q] x).isNone then ih x else _)=_;rw[j];rfl
   have p:(l.filter λy=>!decide (y=x))=l:=Dl.mpr λy s=>by
    have:y≠x:=λz=>i (z ▸ s);simp[this]
   have f:L2.without x [x::l,q]=[l,[]]:=by
    show [(x::l).filter _,q.filter _]=_;rw[nE,au (by simp),p]
    rcases a with e|e <;> rw[e] <;> simp
   show(if ([x::l,q].any λr=>!r.isEmpty)=true then (match ej [x::l,q] with|none=>none|some n=>(bZ k (L2.without n [x::l,q])).map (n :: ·)) else ih [])=_;rw[aB (by rfl),o]
   show(bZ k (L2.without x [x::l,q])).map (x :: ·)=_;rw[f,vK l [] k (dQ.mp c).2 (.inl rfl) (by
    have h1:total [x::l,q]=(l.length+1)+(q.length+0):=rfl;have U:total [l,[]]=l.length+(0+0):=rfl;omega)];rfl
theorem oQ(a:ks.Nodup)(hi:i<ks.length):Lc ks ks[i]=(ks.take (i+1)).reverse:=by unfold Lc;rw[a.idxOf_getElem i hi]
theorem sF(a:ks.Nodup)(hi:i<ks.length):Pc ks ks[i]=(ks.take i).drop (i - 1):=by unfold Pc;rw[a.idxOf_getElem i hi]
theorem sG(hi:i<ks.length):(ks.take (i+1)).reverse=ks[i]::(ks.take i).reverse:=by rw[et hi,qv];rfl
theorem GD(a:ks.Nodup):Fm ks (Lc ks) (Pc ks):=by
 refine⟨λx b=>?_,λx b=>?_,λx b=>?_⟩ <;> obtain⟨i,hi,rfl⟩:=uj.mp b
 ·rw[sF a hi]
  exact⟨a.sublist ((List.drop_sublist _ _).trans (hG _ _)),by rw[jW,b9];omega,λy c=>lE (PY c)⟩
 ·rw[sF a hi,oQ a hi]
  cases i with
  |zero=>exact⟨[],Fn,by rw[sG hi];rfl⟩
  |succ j =>
   have d:j<ks.length:=by omega
   have ep:(ks.take (j+1)).drop (j+1 - 1)=[ks[j]]:=by
    rw[et d,Nat.add_sub_cancel];exact List.drop_left' (by rw[b9];omega)
   have e:rowsOf (Lc ks) [ks[j]]=[(ks.take (j+1)).reverse,[ks[j]]]:=by
    show [Lc ks ks[j],[ks[j]]]=_;rw[oQ a d]
   refine⟨(ks.take (j+1)).reverse,?_,sG hi⟩;rw[ep,e];exact vK _ _ _ ((lG _).nodup_iff.mpr (a.sublist (hG _ _))) (.inr ⟨_,_,sG d,rfl⟩) (aK _)
 ·rw[oQ a hi]
  exact⟨(lG _).nodup_iff.mpr (a.sublist (hG _ _)),λy c=>lE (ei.mp c)⟩
theorem HZ(xs:am V)(a b:Nat):bT xs (ih (a:Int)) (ih (b:Int))=(xs.take b).drop a:=by
 unfold bT;rw[HT.rz,HT.rz,List.drop_take]
 by_cases h:a<=xs.length
 ·rw[uv h]
  by_cases U:b<=xs.length
  ·rw[uv U]
  ·rw[qr (by rw[jW];omega),qr (by rw[jW];omega)]
 ·rw[qi (by omega),qi (by omega)];simp
inductive pQ(vs:List V)(H:Hp)(Q:VK)(E:XK):Prop
 |mk{p n:OT}{ks:List CY}(_:vs=[.ref n])(_:dY p H)(_:H n=ih (.lst (ks.map V.str)))(_:ks.Nodup)(_:(∀x∈ks,Nm x))(_:ks.length<=8)(_:∀r t d1 o ws jJ L Ps Qb Y,s8 p H ks r t d1 o ws jJ L Ps Qb Y->Q (.ref r) Y):pQ vs H Q E
noncomputable abbrev Mr:List CY:=["_law_kinds","_law_pairs","_law_lines","_law_k"]
theorem tw:a' Mr ["_law_kinds"] (aI r8):=bt
theorem Kj(F:aP K "_law_chain" "_law_chain" r8 f fd)(B:dc mg)(xu:fQ mg):aO P w K mg base ay 1 f fd ["_law_kinds"] pQ:=by
 refine F.bx tw λQa A zy s H vs Q E xg h=>?_
 ·obtain @⟨p,n,ks,rfl,yu,yg,knd,yz,yB,q⟩:=h
  have zq:=d9 xg.units;intro X;refine⟨_,aw (rZ (i:=1) (j:=2) rfl tw.nd rfl rfl (by decide) rfl rfl (aa (kL ah) (aa nZ ah)) rfl)
   (aw (eX eh rfl (jn rfl B.range (aa (b4 hT rfl B.len hS (aa (pv 0) ah)) ah)) (ba 3 tw.nd)
    (aw (dX (fB hR lC lD iR (pv 1) (aa (c2 (aa (aT cM (pv 0) (pv 3)) (aa (dy j5 rfl B.tuple boot_tuple (aa (e5 jt (pv 0) (eO (b4 (u9 rfl) rfl B.max boot_max (aa ar (aa (bJ jx (pv 3) ar) ah)))) (eO (pv 3))) ah)) ah))) ah)))
    (aA (gx zq (pv 2) (aT cM (pv 0) (pv 3)) (mj (e5 jt (pv 0) fA (eO (bJ gc (pv 3) ar)))) rfl))))
   (aA (aX (c2 (aa (dy uA rfl B.tuple boot_tuple (aa (b4 qC rfl xu.sorted boot_sorted (aa (pv 1) ah)) ah)) (aa (pv 2) ah)))))),?_⟩
  refine⟨bp _,λd O yn xr xj=>λdl za=>⟨_,_,rfl,?_⟩⟩;have S:=aH (o:=.dK []) za;have yj:d≠dl:=ax xj za;have yi:=S _ _ xj;have zi:upd O dl (.dK []) dl=bn []:=af;have xd:=yn.trans S;have zj:H dl=none:=yn.free za;generalize upd O dl (.dK [])=zB at yi zi xd⊢;clear za S;refine⟨_,rfl,n,_,rfl,.inl (aq.of (xd _ _ yg)),_,rfl,by omega,by rw[aG];omega,lK (λi σ G=>∃(ws:am V) (l:am (Key×V)) (zg:a2 V),σ=[bd n,bd d,bd dl,zg]/\aE H G/\G d=bm ws/\G dl=bn l/\cy G ws (dB (Pc ks) (ks.take i))/\l.map (·.1)=(ks.take i).map Ct /\∀x∈ks.take i,∃a,a5 l (Ct x)=ih (.ref a)/\a≠d/\G a=bm ((Lc ks x).map V.str))
   ⟨[],[],none,rfl,xd,yi,zi,.nil,rfl,λx g=>(by cases g)⟩ ?_ ?_⟩
  ·rintro i σ G hi ⟨ws,l,zg,rfl,yb,zb,xh,J,U,W⟩
   refine jr ?_;intro zn xC;have C:i<ks.length:=by rw[aG]at hi;have:TR ((ks.length:Nat):Int)=ks.length:=ft _;rw[this]at hi;exact hi
   rw[show(0:Int)+(i:Int)=i by omega]
   have xk:=yb _ _ yg;have xq:ks[i]∉ ks.take i:=by
    have:(ks.take (i+1)).Nodup:=knd.sublist (hG _ _);rw[et C]at this;exact λz=>(eg.mp this).2.2 _ z _ aS rfl
   have xo:=J.length;unfold dB at xo;rw[aG,b9]at xo;have zu:l.length=(ks.take i).length:=by have:=b2 Sk U;simpa using this
   rw[b9]at zu;have xv:(if (i:Int) - 1>0 then (i:Int) - 1 else 0)=((i - 1:Nat):Int):=by split <;> omega
   refine l3 λyC yv=>?_;intro zn zC;refine ae rfl ⟨.inl ⟨rfl,_,aq.of zb⟩,_,rfl,_,rfl,gF xk (cF (by rw[dt,bB C];rfl)) (aV rfl rfl ⟨_,_,rfl,rfl,_,_,rfl,_,rfl,_,rfl,_,rfl,n,_,rfl,aq.of xk,λc zv=>?_⟩)⟩
   rw[xv,HZ];have m:((ks.map V.str).take i).drop (i - 1)=(Pc ks ks[i]).map V.str:=by rw[sF knd C,Di,uw]
   rw[m];have T:=aH (o:=.lst ((Pc ks ks[i]).map V.str)) zv;have N:=T _ _ zb;have yd:=T _ _ xh;have zd:=J.same T;have xe:∀x∈ks.take i,∃a,a5 l (Ct x)=ih (.ref a)/\a≠d/\upd G c (.lst ((Pc ks ks[i]).map V.str)) a=bm ((Lc ks x).map V.str):=λx g=>by
    obtain⟨a,m,L,v⟩:=W x g;exact⟨a,m,L,T _ _ v⟩
   have ye:=yb.trans T;have ze:upd G c (.lst ((Pc ks ks[i]).map V.str)) c=bm ((Pc ks ks[i]).map V.str):=af;generalize upd G c (.lst ((Pc ks ks[i]).map V.str))=xw at ye ze N yd zd xe⊢;refine⟨c,_,rfl,.inl ⟨aq.of ze,λb yo=>⟨b8,λt y yh _ xc=>?_⟩⟩⟩;have zo:=(aH (o:=.tup ((Pc ks ks[i]).map V.str)) yo);have yk:=yh _ _ (show upd xw b (.tup ((Pc ks ks[i]).map V.str)) b=_ from af);have R:=zo.trans yh;have xf:=R _ _ N;have zk:=R _ _ yd;have xl:=zd.same R;have yl:=ye.trans R;have zl:∀x∈ks.take i,∃a,a5 l (Ct x)=ih (.ref a)/\a≠d/\y a=bm ((Lc ks x).map V.str):=λx g=>by
    obtain⟨a,m,L,v⟩:=xe x g;exact⟨a,m,L,R _ _ v⟩
   clear xe zd N yd ye ze T W J yo;refine⟨d,ws,_,rfl,rfl,xf,by rw[aQ];omega,?_⟩
   have yc:∀{zs:am V} b xs,y b=bi xs->upd y d (.lst zs) b=bi xs:=λb xs e=>by rw[ag (aj e xf)];exact e
   have yw:dB (Pc ks) (ks.take (i+1))=dB (Pc ks) (ks.take i)++[(ks[i],Pc ks ks[i])]:=by rw[et C];unfold dB;rw[bo];rfl
   have xm:cy (upd y d (.lst (ws++[V.ref t]))) (ws++[V.ref t]) (dB (Pc ks) (ks.take (i+1))):=by
    rw[yw];exact cy.append (xl.keep yc) (yc _ _ xc) (yc _ _ yk)
   have yf:aE H (upd y d (.lst (ws++[V.ref t]))):=λb u e=>by rw[ag (ax e xr)];exact yl _ _ e
   have zf:upd y d (.lst (ws++[V.ref t])) d=bm (ws++[V.ref t]):=af;have ym:upd y d (.lst (ws++[V.ref t])) dl=bn l:=by rw[ag (aN yj)];exact zk
   have zm:∀x∈ks.take i,∃a,a5 l (Ct x)=ih (.ref a)/\a≠d/\upd y d (.lst (ws++[V.ref t])) a=bm ((Lc ks x).map V.str):=λx g=>by
    obtain⟨a,m,L,v⟩:=zl x g;exact⟨a,m,L,by rw[ag L];exact v⟩
   generalize upd y d (.lst (ws++[V.ref t]))=zh at xm yf zf ym zm⊢;clear zl xl xf zk yl R zo yk xc yh yc;refine mK yv ?_;intro zn;have xn:=yf _ _ yg;refine aV rfl rfl ⟨_,_,rfl,rfl,_,rfl,n,_,rfl,aq.of xn,λY yr=>?_⟩;rw[show(i:Int)+1=((i+1:Nat):Int) by omega,AA,<-uw]
   have xp:=aH (o:=.lst ((ks.take (i+1)).map V.str)) yr;have zw:upd zh Y (.lst ((ks.take (i+1)).map V.str)) Y=bm ((ks.take (i+1)).map V.str):=af;refine⟨Y,_,rfl,aq.of zw,λxa N=>?_⟩;rw[<-jl,<-oQ knd C];have I:=xp.trans (aH (o:=.lst ((Lc ks ks[i]).map V.str)) N);have xi:upd (upd zh Y (.lst ((ks.take (i+1)).map V.str))) xa (.lst ((Lc ks ks[i]).map V.str)) xa=bm ((Lc ks ks[i]).map V.str):=af;have zr:xa≠d:=aN (ax (xp _ _ zf) N);generalize upd (upd zh Y (.lst ((ks.take (i+1)).map V.str))) xa (.lst ((Lc ks ks[i]).map V.str))=yp at I xi⊢;have xb:=I _ _ ym;refine d8 rfl rfl rfl (gF (I _ _ xn) (cF (by rw[dt,bB C];rfl)) ?_)
   refine⟨dl,_,rfl,eQ.k (k:=Ct ks[i]) xb (by rw[aQ];omega),?_⟩
   have ya:∀{zs:am (Key×V)} b u,b≠dl->yp b=ih u->upd yp dl (.dK zs) b=ih u:=λb u n e=>by rw[ag n];exact e
   refine⟨_,_,_,rfl,λb u e=>ya _ _ (ax e zj) (I _ _ (yf _ _ e)),ya _ _ yj (I _ _ zf),af,(xm.same I).keep λb xs e=>ya _ _ (aj e xb) e,by rw[et C];exact rh U xq,λx g=>?_⟩
   by_cases c:x=ks[i]
   ·subst c
    exact⟨xa,by rw[hX,aB rfl],zr,ya _ _ (aj xi xb) xi⟩
   ·obtain⟨a,m,L,v⟩:=zm x (by
     rw[et C]at g;rcases cq.mp g with z|z
     ·exact z
     ·exact absurd (b3.mp z) c)
    exact⟨a,by rw[hX,au (λz=>c (f5 z))];exact m,L,ya _ _ (aj (I _ _ v) xb) (I _ _ v)⟩
  ·rintro σ G ⟨ws,l,zg,rfl,yb,zb,xh,J,U,W⟩
   have xx:TR (((ks.map V.str).length:Nat):Int)=ks.length:=by rw[aG];exact ft _
   rw[xx,cj]at J U W;obtain⟨kvs,pv,xt⟩:=J.keyed;have zz:=J.length;have xA:(dB (Pc ks) ks).length=ks.length:=by unfold dB;exact aG ..
   refine ae rfl ⟨d,ws,kvs,1,rfl,.inl (aq.of zb),pv,aK _,by rw[xt,qR];exact knd.map _ λa b n e=>n (qt e).1,by omega,λD M xz yx zp yA zA xB=>?_⟩
   have zx:=aH (o:=.lst M) yx;refine⟨D,M,rfl,aq.of af,λt o xc xy=>?_⟩;have St:=zx.trans (aH (o:=.bw o (.tup M)) xc);obtain⟨yq,yt,yy⟩:=qE zp J;have zt:upd (upd G D (.lst M)) t (.bw o (.tup M)) t=ih (.bw o (.tup M)):=af;refine ae rfl ⟨b8,λr xD S _ xg=>?_⟩;have zc:=St.trans S;refine q r t dl o M l (Lc ks) (Pc ks) yq _ ⟨xg,S _ _ zt,xy,cy.same yy zc,yt,GD knd,zc _ _ xh,U,λx g=>?_,dz yu (yb.trans zc),zj⟩;obtain⟨a,m,_,v⟩:=W x g;exact⟨a,m,zc _ _ v⟩
theorem oh(h:aq K H a xs)(s:aE H Y):aq K Y a xs:=by
 rcases h with(h|⟨o,h⟩)|h
 ·exact .inl (.inl (s _ _ h))
 ·exact .inl (.inr ⟨o,s _ _ h⟩)
 ·exact .inr h
theorem pR{a:Hp}(S:aE O H2)(c:O p=none)(d:bD p H2 a):aE O a:=λb u e=>d.kp _ _ (S _ _ e) (ax e c)
theorem sh{ns:am Int}{k:Int}{E:XK}(h:aq K H a (ns.map V.int))(c:0<=k)(d:k<=100)(e:ns.length<=63)(q:∀p Y,H p=none->dY p Y->aE H Y->Q (.ref p) Y):oK K [.ref a,.int k] H Q E:=⟨rfl,h,c,d,e,λp x y b f g i=>q p _ b ⟨x,y,af,f,g,i⟩ (aH b)⟩
theorem Paired.rev{α β:Type}{F:α->β->Prop}{l:am α}{m:am β}(h:Sl F l m):Sl F l.reverse m.reverse:=by
 induction h with
 |nil=>exact .nil
 |cons h _ a=>rw[lp,lp];exact hJ a h
theorem Paired.AB{α β:Type}{F:α->β->Prop}{y x:β}:∀{l:am α}{m:am β},Sl F l (m++[y,x]) ->∃c v u,l=c++[v,u]/\Sl F c m/\F v y/\F u x
 |_,[],.cons a (.cons b .nil)=>⟨[],_,_,rfl,.nil,a,b⟩
 |_,_::_,.cons a r=>by
  obtain⟨c,v,u,rfl,p,q⟩:=Paired.AB r;exact⟨_::c,v,u,rfl,.cons a p,q⟩
theorem Paired.app{α β:Type}{F:α->β->Prop}{l b:am α}{m c:am β}(h:Sl F l m)(h':Sl F b c):Sl F (l++b) (m++c):=by
 induction h with
 |nil=>exact h'
 |cons a _ d=>exact .cons a d
theorem BP{u:V}:bT (xs++[v,u]) none (ih (-2))=xs/\bT (xs++[v,u]) (ih (-2)) none=[v,u]:=by
 have e:∀d,HT.a6 (xs++[v,u]).length d (ih (-2))=xs.length:=λd=>by
  rw[cQ];show((-2:Int)+((xs.length+2:Nat):Int)).toNat=xs.length;omega
 refine⟨?_,?_⟩
 ·unfold bT
  rw[e];show((xs++[v,u]).drop 0).take (xs.length - 0)=xs;rw[nq,qk,List.take_left]
 ·unfold bT
  rw[e,List.drop_left];show [v,u].take ((xs++[v,u]).length - xs.length)=[v,u];rw[cQ,Nat.add_sub_cancel_left];rfl
abbrev p8(line:List CY)(x:bC):Ask×Int:=(ck line x,x.2.2.2)
theorem A2{W:bf}{line:am CY}:∀{a:am (Ask×Int)}{cs:am bC},a.map (·.1)=cs.map (ck line)->(∀p∈a,W.Out p.1 (.told p.2))->(∀x∈cs,W.Out (ck line x) (.told x.2.2.2))->a=cs.map (p8 line)
 |[],[],_,_,_=>rfl
 |[],_::_,e,_,_=>by cases e
 |_::_,[],e,_,_=>by cases e
 |p::a,x::cs,e,h,g=>by
  obtain⟨b,c⟩:=qt e;have o:=h p aS;have b:p.1=ck line x:=b;rw[b]at o;have z:p.2=x.2.2.2:=by have:=Out.uniq o (g x aS);injection this
  rw[b5,<-A2 c (λp d=>h p (a8 _ d)) λy f=>g y (a8 _ f)];exact b2 (· :: a) (jV b z)
theorem rw_du{H:Hp}{W:bf}{line:am CY}:∀{rs:am V}{cs:am bC},hB H W rs (cs.map (p8 line))->(∀x∈cs,cO W (ck line x)=x.1)->ez H line rs cs
 |[],[],_,_=>.nil
 |_::_,x::cs,.cons ⟨t,e,a⟩ r,g=>.cons ⟨t,e,by rw[a,g x aS];rfl⟩ (rw_du r λy b=>g y (a8 _ b))
theorem A3{H:Hp}{W:bf}{line:am CY}:∀{rs:am V}{cs:am bC},ez H line rs cs->(∀x∈cs,cO W (ck line x)=x.1)->hB H W rs (cs.map (p8 line))
 |[],[],_,_=>.nil
 |_::_,x::cs,.cons ⟨t,e,a⟩ r,g=>.cons ⟨t,e,by rw[a];show _=ih (HO.tup [_,_,V.str (cO W (ck line x)),_]);rw[g x aS];rfl⟩ (A3 r λy b=>g y (a8 _ b))
abbrev k9(line:List CY)(x:bC):O7:=.tuple [.str x.2.1,.str (cW line x.1),.str x.1,.int x.2.2.2]
theorem AD{rs:am V}{cs:am bC}(h:ez H line rs cs):bI H rs (cs.map (k9 line)):=by
 induction h with
 |nil=>exact .nil
 |cons a _ b=>obtain⟨t,rfl,c⟩:=a;exact .cons (.tup c (.cons (.str _) (.cons (.str _) (.cons (.str _) (.cons (.int _) .nil))))) b
theorem rw_lay{line:am CY}:∀{cs:am bC},(∀x∈cs,PJ x.2.1=true/\PJ (cW line x.1)=true/\PJ x.1=true)->SK (cs.map (k9 line))=true
 |[],_=>rfl
 |x::cs,h=>by
  obtain⟨a,b,c⟩:=h x aS;show((PJ x.2.1&&(PJ (cW line x.1)&&(PJ x.1&&(true&&true))))&&SK (cs.map (k9 line)))=true;rw[a,b,c,rw_lay λy d=>h y (a8 _ d)];rfl
theorem rw_deep{line:am CY}:∀(cs:am bC),SJ (cs.map (k9 line))<=2
 |[]=>bp _
 |x::cs=>by
  have:=rw_deep (line:=line) cs;rw[b5];simp only[SJ,TC];omega
noncomputable abbrev pS:List CY:=["_law_script","_law_pot_here","_law_straight","_law_kinds","_law_family_here","_law_lines","_law_longest","_law_top","_law_line_here","_law_alike","_law_names_here","_law_thing","_law_book","_law_sums","_law_world","_law_due_here","_law_told"]
theorem dj:a' pS ["_law_script"] (aI il):=bt
abbrev Ms:Si:=ff (fe (cx (bH il) 5))
abbrev Mt:Si:=Br (fe (cx (bH il) 6))
theorem BQ:bW pS (aI il) ["_law_kind","_law_lines"] [none,ih 5] (cG Ms):=c'
theorem BR:bW pS (aI il) ["_law_kind","_law_lines","_law_longest"] [none,ih 5,ih 6] (cG Mt):=c'
abbrev Lq:Si:=ff (Bv (AZ (cx (bH il) 18)))
theorem A4:bW pS (aI il) ["_law_row"] [none] (cG Lq):=c'
inductive kO(K:S7)(vs:List V)(H:Hp)(Q:VK)(E:XK):Prop
 |mk{a:OT}{ns:List Int}(_:vs=[.ref a])(_:aq K H a (ns.map V.int))(_:ns.length<=63)(_:∀Y,Q (.bl true) Y):kO K vs H Q E
theorem I3{fP fF fH fR fU xD:OT}{dP dF dH dU y3:Ss}(F:aP K "law" "law" il f fd)(B:dc mg)(yD:fQ mg)(z3:s9 mg)
  (zD:bQ P w K mg base ay 1 fP dP ["_law_script","_law_k"] (oK K) "_law_pot")
  (yp:bQ P w K mg base ay 1 fD dD ["_law_pot_here","_law_many"] hZ "_law_digit")
  (x4:bQ P w K mg base ay 3 fN dN ["_law_pot_here","_law_many"] jv "_law_names")
  (GF:bQ P w K mg base ay 3 fF dF ["_law_pot_here","_law_kinds"] o1 "_law_family")
  (GH:bQ P w K mg base ay 1 fH dH ["_law_kinds"] pQ "_law_chain")
  (GC:bQ P w K mg base ay 4 fC dC tV pC "_law_called")
  (GR:bQ P w K mg base ay 4 fR dR tW pG "_law_rungs")
  (GT:bQ P w K mg base ay 1 fT dT ["_law_book"] pE "_law_triples")
  (GU:bQ P w K mg base ay 1 fU dU tX pO "_law_due")
  (y4:bQ P w K mg base ay 8 fI dI ["world","thing","rows"] mS "is_paper")
  (GA:aO P w K mg base ay 9 xD y3 jh pJ) (kA:Tz K (.ref xD)=true) (Mu:Binds K y3 jh [.str "" tk]) (mA:mg "paper_of" = ih (.ref xD)) :
  aO P w K mg base ay 10 f fd ["_law_script"] (kO K):=by
 refine F.bx dj λQa A ac s H vs Q E z4 h=>?_
 ·obtain @⟨a,sc,rfl,xE,xw,q⟩:=h
  have x5:=z4.units;have yw:=d9 x5;have yi:aY 9 _:=z4;have xd:aY 8 _:=yi.mono (by decide)
  have zN:aY 4 _:=yi.mono (by decide)
  have zw:aY 3 _:=yi.mono (by decide)
  have M:aY 1 _:=yi.mono (by decide)
  intro X;refine⟨_,aw (a9 1 dj.nd (bz zD M (aa (pv 0) (aa ar ah))))
   (aw (a9 2 dj.nd (gw eu (bz yp M (aa (pv 1) (aa ar ah))) ar (bM _)))
   (aw (a9 3 dj.nd (bz x4 zw (aa (pv 1) (aa (bJ gc ar (bz yp M (aa (pv 1) (aa ar ah)))) ah))))
   (aw (h6 (bz GF zw (aa (pv 1) (aa (pv 3) ah))) (gU rfl (cS (ba 4 dj.nd) (cS (lZ (i:=5) dj.nd rfl (S5 rfl)) f'))))
   (aw (bF (eW (pv 2)) (aA (h6 (bz GH M (aa (pv 3) ah)) (gU rfl (cS (ba 4 dj.nd) (cS (lZ (i:=5) dj.nd rfl (S5 rfl)) f'))))) bX)
   (aw (gb (i:=6) dj.nd rfl (S5 rfl) (b4 (E' rfl) rfl B.max boot_max (aa (dg rfl BQ (c9 (pv 3)) (λs H fp=>⟨ba 0 BQ.nd,d5,b4 (uV K rfl) rfl B.len hS (aa (eV yw (pv 1) (pv 0)) ah)⟩)) ah)))
   (aw (a9 7 dj.nd (aT cM (dg rfl BR (c9 (pv 3)) (λs H fp=>⟨ba 0 BR.nd,iU (bS eu (b4 (uV K rfl) rfl B.len hS (aa (eV yw (pv 1) (pv 0)) ah)) (pv 2) (bM _)),pv 0⟩)) ar))
   (aw (a9 8 dj.nd (eV yw (pv 5) (pv 7)))
   (aw (a9 1 dj.nd (bz zD M (aa (pv 0) (aa ar ah))))
   (aw (a9 9 dj.nd (gw eu (bz yp M (aa (pv 1) (aa ar ah))) ar (bM _)))
   (aw (a9 10 dj.nd (bz GC zN (aa (pv 1) (aa (bJ gc ar (bz yp M (aa (pv 1) (aa ar ah)))) (aa (pv 9) (aa (pv 3) ah))))))
   (aw (a9 1 dj.nd (bz zD M (aa (pv 0) (aa ar ah))))
   (aw (a9 11 dj.nd (aT cM (bz x4 zw (aa (pv 1) (aa ar ah))) ar))
   (aw (h6 (bz GR zN (aa (pv 1) (aa (pv 8) (aa (pv 10) ah)))) (gU rfl (cS (ba 12 dj.nd) (cS (ba 13 dj.nd) f'))))
   (aw (a9 14 dj.nd (c2 (aa (pv 4) (aa (bz GT M (aa (pv 12) ah)) (aa (c2 (aa (c2 (aa (pv 11) (aa (pv 7) (aa (c2 ah) ah)))) ah)) ah)))))
   (aw (a9 15 dj.nd (mj (bz GU M (aa (pv 8) (aa (pv 10) (aa (pv 13) ah))))))
   (aw (a9 16 dj.nd (e6 (Qh:=[.str ""]) GA yi rfl mA kA Mu (.cons ⟨_,rfl⟩ .nil) b' (aa (pv 14) (aa (pv 11) (aa (aT cM (pv 10) ar) ah)))))
   (aw (bF (PW.pt (pw_or (e8 (eW (b4 hW rfl yD.g8 gS (aa (pv 16) (aa (gT (v:=.ty "list") rfl B.list boot_list rfl) ah))))) (pw_or (bS (r3 x5) (pv 16) (pv 15) (bM _)) (pw_or1 (bS E2 (bz y4 xd (aa (pv 14) (aa (pv 11) (aa (dy iP rfl B.list boot_list (aa (pv 16) ah)) ah)))) gV (bM _)))))) (aA (aX gV)) bX)
   (aw (bF (e8 (eW (b4 (qW rfl) rfl B.all boot_all (aa (dg rfl A4 (c9 (pv 16)) (λs H fp=>⟨ba 0 A4.nd,d5,(iY (b4 (uW K rfl) rfl yD.g8 gS (aa (aT (kg K rfl) (pv 0) ar) (aa (gT (v:=.ty "int") rfl z3.int boot_int rfl) ah))) (jw (Ae (b4 (uW K rfl) rfl yD.g8 gS (aa (aT (kg K rfl) (pv 0) ar) (aa (gT (v:=.ty "bool") rfl z3.bool boot_bool rfl) ah))))))⟩)) ah)))) (aA (aX gV)) bX)
   (aw (a9 16 dj.nd (bJ mf (e5 jt (pv 16) fA (eO (mx me ar))) (mj (e5 jt (pv 16) (eO (mx me ar)) fA))))
   (aA (aX (I9 (gw AF (b4 hT rfl B.len hS (aa (pv 15) ah)) ar (bM _)) (jw (gw IG (bz y4 xd (aa (pv 14) (aa (pv 11) (aa (pv 16) ah)))) gV (bM _))))))))))))))))))))))))),?_⟩
  refine l3 λC d=>?_;intro g D;refine ae rfl (sh (k:=0) xE (by decide) (by decide) xw λp O xh y5 xb=>?_)
  refine cB d λC d=>?_;intro g D;refine ae rfl (eM (p:=p) (m:=2) y5 (by decide) (by decide) λal H2 a0 a1 p2=>⟨rfl,?_⟩)
  generalize decide (V.int al=V.int 0)=bs;refine cB d λC d=>?_;intro g D;refine aV rfl rfl (eM (p:=p) (m:=8) p2.ok (by decide) (by decide) λdk H3 b0 b1 p3=>⟨1,dk,rfl,rfl,?_⟩)
  obtain⟨R,rfl⟩:=nF b0;have yE:=p2.trans p3;refine jv.mk (m:=1+R) (by rw[U2];rfl) yE.ok (by omega) λlk ks H4 P' kl zi knd p4 yc=>?_
  have zp:ks.length<=8:=by omega
  have xO:ks ≠ []:=λz=>by rw[z,iM]at kl;omega
  have xk:=yE.trans p4;refine cB d λC d=>?_;intro g D;refine aV rfl rfl (o1.mk rfl xk.ok yc knd zi zp λr t J o ws xc L Ps Qb xq l=>⟨r,_,rfl,aU.of l.hr,rfl,_,_,rfl,_,_,rfl,rfl,?_⟩);refine cB d λC d=>?_;intro g D;have z5:=l.pa.kp _ _ yc (iW xk.ok yc);refine aV rfl rfl (A1 (λyO Y=>∃(r t J:OT) (o:Tp) (ws:am V) (xc:am (Key×V)) (L Ps:CY->List CY) (Qb:am (CY×List CY)),yO=[bd a,bd p,ih (.bl bs),bd lk,bd t,bd J,none,none,none,none,none,none,none,none,none,none,none]/\s8 p H4 ks r t J o ws xc L Ps Qb Y) (λe k=>?_) (λe=>⟨r,t,J,o,ws,xc,L,Ps,Qb,rfl,l⟩) ?_)
  ·refine ae rfl (pQ.mk rfl l.pa.ok z5 knd zi zp λr t J o ws xc L Ps Lr yb T=>⟨r,_,rfl,aU.of T.hr,rfl,_,_,rfl,_,_,rfl,rfl,k _ _ ⟨r,t,J,o,ws,xc,L,Ps,Lr,rfl,⟨T.hr,T.ht,T.od,T.fv,T.pm,T.fm,T.h1,T.k1,T.l1,l.pa.trans T.pa,l.pa.free T.n1⟩⟩⟩)
  clear l z5;rintro yO xq ⟨r,t,J,o,ws,xc,L,Ps,Qb,rfl,l⟩;have x6:=xk.trans l.pa;have y6:aE H xq:=pR xb xh x6;have xn:gK xq lk ks:=⟨l.pa.kp _ _ yc (iW xk.ok yc),xO,by omega,zi,knd⟩
  have xt:=l.h1;have yt:=l.l1;have xK:=l.fv;have yK:=l.ht;have Mv:=l.od;have fld:=l.fm.ld;have zO:=l.fm.ln;have fo:=(l.fm.JD knd zi zp).perm l.pm;have zI:∀x∈ks,x∈Qb.map (·.1):=λx I=>aW.mpr ⟨(x,Ps x),l.pm.mem_iff.mpr (aW.mpr ⟨x,I,rfl⟩),rfl⟩;have xP:=oh xE y6;clear l x6 xk yE p4 p3 p2 yc xb xh y5 xE y6;refine cB d λC d=>?_;intro g D;refine ae rfl ⟨lk,rfl,⟨_,aq.of xn.hl⟩,λc ya=>?_⟩;have yq:∀{G:Hp}{k:CY}{v:V},G J=bn xc->a5 xc (Ct k)=ih v->cf G J (.str k) (ih v):=λ{G k v} e e2=>by rw[<-e2];exact cf.k (k:=Ct k) e
  refine eK (xs:=ks.map V.str) (λi ys g yb=>∃za:a2 V,g=[za,bd J]/\yb c=bm ys/\aE xq yb/\ys=(ks.take i).map λk=>V.int ((L k).length:Int)) ⟨none,rfl,af,aH ya,rfl⟩ (λi ys g yb ab=>by obtain⟨_,_,z1,z2,_⟩:=ab;exact ⟨z1,aq.of (z2 _ _ xn.hl)⟩) ?_ ?_
  ·rintro i x ys g yb I ⟨za,rfl,yk,N,rfl⟩
   have yd:=(bA.mp I).1;have zd:i<ks.length:=by simpa using yd
   obtain rfl:V.str ks[i]=x:=by simpa [zd] using I
   obtain⟨zf,xg,yg⟩:=(yt ks[i] (fw zd)).same N;refine aV rfl rfl ⟨J,.ref zf,rfl,yq (N _ _ xt) xg,zf,_,rfl,.inl (aq.of yg),yk,by rw[aG,b9,aQ];omega,cw_next yd ⟨_,rfl,af,λb u e=>by rw[ag (ax e ya)];exact N _ _ e,?_⟩⟩
   rw[et zd,bo,aG];rfl
  rintro ys g yb ⟨za,rfl,yk,N,rfl⟩;rw[aG,cj]at yk;refine⟨c,ks.map λk=>((L k).length:Int),rfl,aq.of (by rw[yk,gP];rfl),λz=>xO (ux.mp z),λm z6 Ls=>?_⟩
  obtain⟨x7,yP,y7⟩:=aW.mp z6;have yn:=xn.same N;have zt:=N _ _ xt;have xu:∀x∈ks,dM yb xc L x:=λx I=>(yt x I).same N;have zK:=xK.same N;have xL:=N _ _ yK;have zP:=oh xP N;clear xP yK xK yt xt xn N yk ya z6 Ls;refine cB d λC d=>?_;intro g D;refine ae rfl ⟨lk,rfl,⟨_,aq.of yn.hl⟩,λc ya=>?_⟩;refine eK (xs:=ks.map V.str) (λi ys g W=>∃za:a2 V,g=[za,bd J,ih (.int m)]/\W c=bm ys/\aE yb W/\ys=((ks.take i).filter λk=>decide (V.int ((L k).length:Int)=V.int m)).map V.str) ⟨none,rfl,af,aH ya,rfl⟩ (λi ys g yb ab=>by obtain⟨_,_,z1,z2,_⟩:=ab;exact ⟨z1,aq.of (z2 _ _ yn.hl)⟩) ?_ ?_
  ·rintro i x ys g W I ⟨za,rfl,xa,j,rfl⟩
   have yd:=(bA.mp I).1;have zd:i<ks.length:=by simpa using yd
   obtain rfl:V.str ks[i]=x:=by simpa [zd] using I
   obtain⟨zf,xg,yg⟩:=(xu ks[i] (fw zd)).same j;refine aV rfl rfl ⟨J,.ref zf,rfl,yq (j _ _ zt) xg,zf,_,rfl,.inl (aq.of yg),_,rfl,rfl,_,rfl,?_⟩;rw[show((L ks[i]).map V.str).length=(L ks[i]).length from aG _]
   by_cases e:V.int ((L ks[i]).length:Int)=V.int m
   ·refine ite_tt (cE e) (ae rfl ⟨xa,by rw[aG];have:=hQ (λk=>decide (V.int ((L k).length:Int)=V.int m)) (ks.take i);rw[b9]at this;rw[aQ];omega,cw_next yd ⟨_,rfl,af,λb u z=>by rw[ag (ax z ya)];exact j _ _ z,?_⟩⟩)
    rw[et zd,gQ,bo,nE,aB (cE e)];rfl
   ·refine ite_ff (eF e) (cw_next yd (ae rfl ⟨xa,j,?_⟩))
    rw[et zd,gQ,bo,nE,au (by rw[eF e];exact bV),Dh,jY,f7]
  rintro ys g W ⟨za,rfl,xa,j,rfl⟩;rw[aG,cj]at xa;obtain⟨top,zE,xF⟩:∃top zE,ks.filter (λk=>decide (V.int ((L k).length:Int)=V.int m))=top::zE:=by
   cases e:ks.filter (λk=>decide (V.int ((L k).length:Int)=V.int m)) with
   |nil=>exact absurd (cE (b2 V.int y7)) (by simpa using List.filter_eq_nil_iff.mp e x7 yP)
   |cons x y=>exact⟨x,y,rfl⟩
  have yh:top∈ks:=(f6.mp (show top∈ks.filter _ by rw[xF];exact aS)).1
  rw[xF]at xa;refine fq xa cb ?_;have xQ:=yn.same j;have yL:=j _ _ zt;have zL:=zK.same j;have xM:=j _ _ xL;have xx:=oh zP j;obtain⟨zf,xg,yg⟩:=(xu top yh).same j;clear zP xL zK xu zt yn j xa ya xF zE y7 yP x7;refine cB d λC d=>?_;intro g D;refine aV rfl rfl ⟨J,.ref zf,rfl,yq yL xg,?_⟩;obtain⟨lo,_,yx⟩:=zO top yh;have zn:=(fld top yh).1;have yM:=(fld top yh).2;have xj:∀k∈L top,Nm k:=λk hk=>zi k (yM k hk);have z7:(L top).length<=8:=eS (A0 zn yM) zp;have ji:L top ≠ []:=by rw[yx];simp
  have zx:(L top)[0]?=ih top:=by rw[yx];rfl
  have Lu:=zI top yh;clear zO fld zI yx xg yq yL;refine cB d λC d=>?_;intro g D;refine ae rfl (sh (k:=1) xx (by decide) (by decide) xw λx8 H8 yQ xy xe=>?_)
  have zQ:=xQ.same xe;refine cB d λC d=>?_;intro g D;refine ae rfl (eM (p:=x8) (m:=4) xy (by decide) (by decide) λMw H9 c0 c1 yF=>⟨rfl,?_⟩)
  generalize decide (V.int Mw=V.int 0)=bb;refine cB d λC d=>?_;intro g D;refine aV rfl rfl (eM (p:=x8) (m:=6) yF.ok (by decide) (by decide) λdn Qt zF xG xR=>⟨1,dn,rfl,rfl,_,rfl,_,rfl,?_⟩)
  obtain⟨mn,rfl⟩:=nF zF;have xo:=yF.trans xR;refine pC.mk (m:=1+mn) (al:=bb) (by rw[U2];rfl) xo.ok (by omega) (by omega) (zQ.jR xy xo) λln ns yy yR yu nl=>?_
  have zR:=xo.trans yR;have y8:ns.length<=6:=by omega
  have yj:aE W yy:=pR xe yQ zR;have zM:=oh xx yj;have xJ:=zL.same yj;have yJ:=yj _ _ xM;have zr:=yj _ _ yg;clear zR yR xo xR yF zQ xe xQ xx zL xM yg yj xy yQ;refine cB d λC d=>?_;intro g D;refine ae rfl (sh (k:=2) zM (by decide) (by decide) xw λpp Qu zy xS xz=>?_)
  refine cB d λC d=>?_;intro g D;refine ae rfl (jv.mk (m:=1) rfl xS (by decide) λlm z8 Mx My yG yS _ yo zS=>?_)
  obtain⟨xf,rfl⟩:∃x,z8=[x]:=by
   cases z8 with
   |nil=>cases yG
   |cons x y=>cases y with
    |nil=>exact⟨x,rfl⟩
    |cons _ _=>cases yG
  refine fq zS cb ?_;have Mz:=yS xf aS;have yz:aE yy Mx:=pR xz zy yo;refine cB d λC d=>?_;intro g D;have zh:=yu.same yz;refine d8 rfl rfl rfl (pG.mk rfl yo.ok ⟨yz _ _ zr,ji,by omega,xj,zn⟩ zh z7 y8 λr db ds kvs cs G xT MA MB Qv zc fY=>⟨r,_,rfl,aU.of xT,rfl,_,_,rfl,_,_,rfl,rfl,?_⟩)
  have R:Mk (L top) ns cs:=⟨zc.ch.resolve_left fY,zc.ks,zc.en,zc.ak,zn,xj,zh.nd,zh.nm,z7,y8,ji,zh.ne⟩;have zk:aE yy G:=pR xz zy (yo.trans zc.pa);have yT:=yu.same zk;have zT:=zk _ _ yJ;have xU:=xJ.same zk;have xN:=zk _ _ zr;have yN:=zc.hd;have yU:=zc.dv;have zU:=zc.hs;clear zc zk zh yz yo zS My xz zy zr yJ xJ zM yu xT fY xS yS yG MA MB;have k8:=R.k8;refine cB d λC d=>?_;intro g D;refine aV rfl rfl (pE.mk rfl yN yU k8 λtb x9 bk G1 xb xV y9 pm=>?_);refine aV rfl rfl ⟨bp _,λte G2 z9 _ yV=>⟨g7,λzG G3 ye _ zV=>⟨ey,λtt G4 zb _ xW=>⟨g7,λwd zq xl _ yW=>?_⟩⟩⟩⟩;have zo:=z9.trans (ye.trans (zb.trans xl));have MC:iB zq wd t tb tt [V.ref zG] [(xf,top,[])]:=⟨yW,xl _ _ xW,.cons ⟨zG,te,[],rfl,(zb.trans xl) _ _ zV,(ye.trans (zb.trans xl)) _ _ yV,.nil⟩ .nil,by show 1<=5;decide,λp xh=>by rw[b3.mp xh];exact Mz,by simp⟩
  have zg:=xb.trans zo;have fb:FB zq t tb o ws x9 Qb L bk:=⟨zg _ _ zT,Mv,xU.same zg,fo,zo _ _ xV,cJ.same zo y9,xZ pm k8⟩;have Lv:=R.ask;have ask:∀{G':Hp},aE zq G' ->∀{n b:CY},n∈ns->(b = "" \/ b∈L top)->pH wd t tb tt [V.ref zG] [(xf,top,[])] (xf,top,[]) o ws x9 Qb L bk ns (n,b) G':=λ{_} S {n b} hn hb=>⟨MC.same S,fb.same S,b3.mpr rfl,Lu,fz,⟨xZ pm k8,λq hq=>Lv q (pm.mem_iff.mp hq),R.nm,by show ns.length<=20;omega,by show(L top).length<=9;omega,xj⟩,⟨hn,hb⟩⟩
  have Lw:=zg _ _ xN;have zz:=yT.same zg;have MD:=zg _ _ zU;clear zT xU xN yT yN yU zU zg zo xb z9 ye zb xl zV xW yV xV y9 yW;have ME:=kN zn zx;have a7:=R.a7;obtain⟨ze,nr,xH⟩:∃x y,ns=x::y:=by
   cases e:ns with
   |nil=>exact absurd e zz.ne
   |cons x y=>exact⟨x,y,rfl⟩
  have xA:ze∈ns:=by rw[xH];exact aS
  have MF:∀{G:Hp},aE zq G->G ln=bm (V.str ze::nr.map V.str):=λ{G} S=>by have:=S _ _ zz.hl;rw[xH]at this;exact this
  have Lx:(cs.reverse.map (ck (L top)))[0]?=ih ((ze,""):Ask):=by
   have e:=b2 (·[0]?) R.kr;obtain⟨lt,Ql⟩:∃lt,L top=top::lt:=by
    cases e:L top with
    |nil=>exact absurd e ji
    |cons x y=>rw[e]at zx;cases zx;exact⟨y,rfl⟩
   have zF:(ns.flatMap λn=>(L top).map λk=>(k,n))[0]?=ih (top,ze):=by rw[xH,Ql];rfl
   replace e:(cs.reverse.map ky)[0]?=(ns.flatMap λn=>(L top).map λk=>(k,n))[0]?:=e;rw[zF,dt]at e;cases ex:cs.reverse[0]? with
   |none=>rw[ex]at e;cases e
   |some x =>
    rw[ex]at e;have xG:x.1=top/\x.2.1=ze:=by
     have:=c3 e;injection this with y1 y2;exact⟨y1,y2⟩
    rw[dt,ex];show ih (x.2.1,cW (L top) x.1)=_;rw[xG.1,xG.2,ME]
  have cw:=R.cw pm;have zu:(cs.reverse.map (ck (L top))).length<=100:=by rw[aG,dw];omega
  have MG:∀x∈cs,PJ x.2.1=true/\PJ (cW (L top) x.1)=true/\PJ x.1=true:=λx I=>by
   have zW:=R.at I;refine⟨jC (R.nm _ zW.2),?_,jC (xj _ zW.1)⟩;have ua:=(cw.ua (ck (L top) x) (aW.mpr ⟨x,ei.mpr I,rfl⟩)).2;rcases ua with z|z
   ·show PJ (ck (L top) x).2=true
    rw[z];decide +kernel
   ·exact jC (xj _ z)
  have out:∀x∈cs,bf.Out ⟨L top,bk,[]⟩ (ck (L top) x) (.told x.2.2.2):=λx I=>R.out pm I;have wh:∀x∈cs,cO ⟨L top,bk,[]⟩ (ck (L top) x)=x.1:=λx I=>R.cO pm I;have yH:(U8 (cs.map (k9 (L top)))).canLay0=true:=rw_lay MG;have dp:(U8 (cs.map (k9 (L top)))).depth<=60:=by
   have:=rw_deep (line:=L top) cs;simp only[TC];omega
  refine cB d λC d=>?_;intro g D;refine d8 rfl rfl rfl (pO.mk rfl Lw zz.hl MD R λru us zH N xX dv=>?_);refine⟨ru,us,rfl,aq.of xX,λyl yA=>?_⟩;have j:=N.trans (aH (o:=.lst us.reverse) yA);have yf:upd zH yl (.lst us.reverse) yl=bm us.reverse:=af;have zj:ez (upd zH yl (.lst us.reverse)) (L top) us.reverse cs:=by
   have:=Paired.rev dv;rw[nJ]at this;exact ez.keep this λb xs e=>aH yA _ _ e
  generalize upd zH yl (.lst us.reverse)=G7 at j yf zj⊢;clear xX dv N yA;generalize us.reverse=xI at yf zj⊢;refine cB d λC d=>?_;intro g D;refine d8 rfl rfl rfl (fq (MF j) cb (pJ.mk (th:=(xf,top,[])) (a:=(ze,"")) rfl (ask j xA (.inl rfl)) cw Lx zu λr rs ka xr xe xd zA ek yX=>?_));rw[<-jl,nJ]at ek;obtain rfl:=A2 ek yX out;have xp:=rw_du zA wh;have Qw:rs.length=cs.length:=c5 xp;have xB:=j.trans xe;have xv:=xe _ _ yf;have zX:ez xr (L top) xI cs:=ez.keep zj λb xs e=>xe _ _ e;have MH:xI.length=cs.length:=c5 zj;clear zj yf;refine cB d λC d=>?_;intro g D;refine ae rfl ⟨⟨_,.inr ⟨"list",rfl⟩⟩,.ref r,.ty "list",.type "list",.type "list",true,rfl,rfl,.inl (.lst xd),rfl,true,rfl,?_⟩;refine aV rfl rfl ⟨_,_,.lst xd (AD xp),.lst xv (AD zX),yH,yH,dp,?_⟩;rw[P2 _ yH];refine⟨_,rfl,ite_ff rfl ?_⟩;refine d8 rfl rfl rfl ⟨r,rs,rfl,.inl (aq.of xd),λrl xY=>?_⟩;have zl:=aH (o:=.lst rs) xY;have yv:upd xr rl (.lst rs) rl=bm rs:=af;have yB:hB (upd xr rl (.lst rs)) ⟨L top,bk,[]⟩ rs (cs.map (p8 (L top))):=hB.keep zA λb xs e=>zl _ _ e;generalize upd xr rl (.lst rs)=G9 at zl yv yB⊢;refine mS.mk (th:=(xf,top,[])) (a:=(ze,"")) (ok:=true) rfl (ask (xB.trans zl) xA (.inl rfl)) cw zu yv yB (show _=_ by rw[gP,<-jl,nJ];rfl) yX λyY zY=>?_
  refine⟨true,true,rfl,rfl,_,rfl,ite_ff rfl ?_⟩;have xi:=zl.trans zY;have zm:=xi _ _ xd;have zJ:=xi _ _ xv;have zv:ez yY (L top) rs cs:=ez.keep xp λb xs e=>xi _ _ e;have x0:=xB.trans xi;clear yB yv zl zY xY zX xp zA xi xB xd xv j xe;refine cB d λC d=>?_;intro g D;refine ae rfl ⟨r,rfl,⟨_,aq.of zm⟩,λc ya=>?_⟩;refine eK (xs:=rs) (λi ys g W=>∃za:a2 V,g=[za]/\W c=bm ys/\aE yY W/\ys=(TL i true).map V.bl) ⟨none,rfl,af,aH ya,rfl⟩ (λi ys g yb ab=>by obtain⟨_,_,z1,z2,_⟩:=ab;exact ⟨z1,aq.of (z2 _ _ zm)⟩) ?_ ?_
  ·rintro i x ys g W I ⟨za,rfl,xa,j,rfl⟩
   have yd:=(bA.mp I).1;obtain⟨y,hy,t',rfl,MI⟩:=L2.Paired.get zv I;have y0:=j _ _ MI;have a3:∀{x y z u:V},cn [x,y,z,u] 3=ih u:=λ{x y z u}=>(show cn [x,y,z,u] ((3:Nat):Int)=ih u from cF rfl);refine ae rfl (bc y0 a3 ⟨⟨_,.inr ⟨"int",rfl⟩⟩,.int y.2.2.2,.ty "int",.type "int",.type "int",true,rfl,rfl,.inl (.int _),rfl,true,rfl,ite_tt rfl ?_⟩);refine ae rfl (bc y0 a3 ⟨⟨_,.inr ⟨"bool",rfl⟩⟩,.int y.2.2.2,.ty "bool",.type "int",.type "bool",false,rfl,rfl,.inl (.int _),rfl,false,rfl,xa,?_,cw_next yd ⟨_,rfl,af,λb u e=>by rw[ag (ax e ya)];exact j _ _ e,?_⟩⟩)
   ·rw[aG,Cs,aQ];omega
   ·rw[PU,bo];rfl
  rintro ys g W ⟨za,rfl,xa,j,rfl⟩;refine⟨c,_,rfl,aq.of xa,_,rfl,ite_ff (by simp) ?_⟩
  have zB:=j _ _ zm;have yf:=j _ _ zJ;have z0:=ez.keep zv λb xs e=>j _ _ e;have x1:=x0.trans j;clear xa ya zv zJ zm x0 j;refine cB d λC d=>?_;intro g D;refine ae rfl ⟨2,rfl,_,rfl,r,rs,rfl,aq.of zB,λyr h1=>?_⟩;have xb:=aH (o:=.lst (bT rs none (ih (-2)))) h1;have xC:upd W yr (.lst (bT rs none (ih (-2)))) yr=bm (bT rs none (ih (-2))):=af;have M:=xb _ _ zB;generalize upd W yr (.lst (bT rs none (ih (-2))))=J1 at xb xC M⊢;refine ae rfl ⟨2,rfl,_,rfl,r,rs,rfl,aq.of M,λp2 U=>⟨p2,_,rfl,aq.of af,λp3 h3=>?_⟩⟩;have ye:=(aH (o:=.lst (bT rs (ih (-2)) none)) U).trans (aH (o:=.lst (bT rs (ih (-2)) none).reverse) h3);have yC:upd (upd J1 p2 (.lst (bT rs (ih (-2)) none))) p3 (.lst (bT rs (ih (-2)) none).reverse) p3=ih (.lst (bT rs (ih (-2)) none).reverse):=af;generalize upd (upd J1 p2 (.lst (bT rs (ih (-2)) none))) p3 (.lst (bT rs (ih (-2)) none).reverse)=J3 at ye yC⊢;refine⟨yr,p3,_,_,rfl,rfl,ye _ _ xC,yC,?_,λp4 yc=>?_⟩
  ·have:=nN rs none (ih (-2))
   have:=nN rs (ih (-2)) none;rw[dw,aQ];omega
  have zb:=xb.trans (ye.trans (aH (o:=.lst (bT rs none (ih (-2))++(bT rs (ih (-2)) none).reverse)) yc));have zC:upd J3 p4 (.lst (bT rs none (ih (-2))++(bT rs (ih (-2)) none).reverse)) p4=bm (bT rs none (ih (-2))++(bT rs (ih (-2)) none).reverse):=af;generalize upd J3 p4 (.lst (bT rs none (ih (-2))++(bT rs (ih (-2)) none).reverse))=J4 at zb zC⊢;have Ly:=zb _ _ yf;have x2:=ez.keep z0 λb xs e=>zb _ _ e;have MJ:=x1.trans zb;clear xC yC xb ye h1 U h3 yc z0 yf zB x1 zb M;refine mK d ?_;intro g;refine ae rfl ⟨yl,xI,rfl,.inl (aq.of Ly),?_⟩;refine⟨_,_,rfl,rfl,_,rfl,?_⟩;rw[MH]
  by_cases U:(cs.length:Int)<2
  ·exact ite_tt (cE U) (q _)
  refine ite_ff (eF U) ?_;obtain⟨xm,y,x,yI⟩:∃xm y x,cs=xm++[y,x]:=by
   rcases e:cs.reverse with _|⟨x,_|⟨y,t⟩⟩
   ·have:=b2 Sk e;rw[dw]at this;have:cs.length=0:=this;omega
   ·have:=b2 Sk e;rw[dw]at this;have:cs.length=1:=this;omega
   ·have:=b2 List.reverse e
    rw[nJ]at this;exact⟨t.reverse,y,x,by rw[this];simp⟩
  rw[yI]at x2;obtain⟨x3,v,u,rfl,J,d2,d3⟩:=Paired.AB x2;have MK:ez J4 (L top) (x3++[u,v]) (xm++[x,y]):=Paired.app J (.cons d3 (.cons d2 .nil));have sub:∀z∈xm++[x,y],z∈cs:=λz ym=>by
   rw[yI];rcases cq.mp ym with m|m
   ·exact hE _ m
   ·refine ee _ ?_
    rcases bu.mp m with e|m
    ·rw[e];exact a8 _ aS
    ·rw[b3.mp m];exact aS
  have ML:=A3 MK λz ym=>wh z (sub z ym);have MM:J4 p4=bm (x3++[u,v]):=by rw[BP.1,BP.2]at zC;exact zC
  refine d8 rfl rfl rfl (mS.mk (th:=(xf,top,[])) (a:=(ze,"")) (ok:=false) rfl (ask MJ xA (.inl rfl)) cw zu MM ML ⟨ck (L top) x,ck (L top) y,xm.reverse.map (ck (L top)),by rw[yI];simp,?_⟩ (λp xh=>?_) λQx _=>⟨false,false,rfl,rfl,q _⟩)
  ·rw[gP,bo,<-jl,nJ];rfl
  ·obtain⟨z,ym,rfl⟩:=aW.mp xh
   exact out z (sub z ym)
end dq
namespace dq
open L2 W
theorem all_mk{l:UJ}{zf:OT}(X:K.In h)(G:h.Ns PD mg)(yn:mg "law" = ih (.ref zf)){F q:OT}{H:Vv}{xi:a2 OT}{yi:Array (Option i')}{zi:i'}{xj:Nat}{yj zj:a2 OT}{xk:Array (Option i')}{yk zk xl yl B zl:i'}
  (hd:p1 K [pr "is_name" l5,pr "check_name" rH,pr "goes_first" qJ,pr "steps_of" q3,pr "merged" l6,pr "least_free" oB,pr "wish_against" mD,pr "lines_of" kF,pr "line_from" lN,pr "finds_in" q4,pr "is_behind" qX,pr "check_behind" rJ,pr "entries_by_place" lT,pr "is_thing" lU,pr "check_thing" rK,pr "kind_and_own" lV,pr "whole_asked" qF,pr "whole_of" q5,pr "is_whole" q9,pr "has_form" q7,pr "is_right" q8,pr "is_paper" q6,pr "_law_pot" sY,pr "_law_digit" ml,pr "_law_names" h8,pr "_law_merged" gR,pr "_law_line" mq,pr "_law_parents" qY,pr "_law_family" lW,pr "_law_called" rL,pr "_law_number" rM,pr "_law_steps" rN,pr "_law_due" sZ,pr "_law_chain" r8,pr "_law_rung" sr,pr "_law_sum" s6,pr "_law_rungs" r9,pr "_law_triples" lX,pr "law" il])
  (hz:sU K ["len","max","min","abs","range","any","all","list","tuple","enumerate","isinstance","str","dict","sorted","int","bool","set"])
  (cD:CO K "Finds" D ["lines","entries","hits","met"] [tr "__init__" "Finds.__init__" su,tr "look" "Finds.look" sv,tr "walk" "Finds.walk" sx])
  (cC:CO K "Whole" C ["finds","kind","own","kept","known","begun"] [tr "__init__" "Whole.__init__" sb,tr "forebears" "Whole.forebears" qK,tr "tell" "Whole.tell" sy,tr "tell_at_once" "Whole.tell_at_once" qZ,tr "enter" "Whole.enter" mr,tr "go_on" "Whole.go_on" sA,tr "come_to" "Whole.come_to" rO,tr "settle" "Whole.settle" l7])
  (cR:CO K "Reckoning" R ["asking","where","left","total","rested"] [tr "__init__" "Reckoning.__init__" sd,tr "step_by" "Reckoning.step_by" rP,tr "take_in" "Reckoning.take_in" rQ])
  (xm:nsIn K PD "paper_of" = ih (ih (.ref q)))
  (ym:K.lookup q=ih ⟨yk,yj,.func (fnOf "paper_of" "paper_of" (df iV) (bH iV) (aI iV) (.ref F) zk xl yl zj B zl),xk⟩)
  (zm:codeIn K B "paper_of" = true)
  (E:Tz K (.ref q)=true)
  (xn:K.lookup F=ih ⟨zi,xi,.seq #[.str "" H] xj,yi⟩) :
  ∃fd:Ss,(∀(s:OX) (v:i'),Um s fd ⟨[v],[]⟩ [("_law_script",v)]) /\∀base:SN,K.In base->base.Ns PD mg->aO l.prog w K mg base ay 10 zf fd ["_law_script"] (kO K):=by
 have z:∀x∈_,mg x=none:=w4 X G hz;obtain⟨zn,xo,yo,zo,xp,yp,zp,xq,yq,zq,xr,yr,zr,xt,yt,zt,xu,yu,zu,xv,yv,zv,hP,hD,hN,xw,yw,zw,xx,yx,zx,xy,yy,zy,xz,yz,zz,xA,hL,-⟩:=hd;obtain⟨Qy,Qz,yA,r,t,u⟩:=e7 X G zn "thing";obtain⟨QA,QB,zA,xB,yB,zB⟩:=e7 X G xo "thing";obtain⟨QC,QD,xC,yC,zC,xD⟩:=e7 X G yo "entry";obtain⟨QE,QF,yD,zD,xE,yE⟩:=e7 X G zo "entry";obtain⟨QG,QH,zE,xF,yF,zF⟩:=e7 X G xp "rows";obtain⟨QI,QJ,xG,QK,yG,zG⟩:=e7 X G yp "rest";obtain⟨QL,QM,xH,QN,yH,zH⟩:=eH X G zp "rest" "name";obtain⟨QO,QP,xI,yI,zI,xJ⟩:=e7 X G xq "family";obtain⟨QQ,QR,yJ,zJ,xK,yK⟩:=l4 X G yq "lines" "kind" "parents";obtain⟨QS,QT,zK,xL,yL,zL⟩:=eH X G zq "family" "book";obtain⟨QU,QV,xM,I,J,L⟩:=eH X G xr "line" "thing";obtain⟨QW,QX,yM,zM,xN,yN⟩:=eH X G yr "line" "thing";obtain⟨QY,ac,zN,xO,yO,zO⟩:=e7 X G zr "book";obtain⟨Q0,Q1,xP,yP,zP,xQ⟩:=eH X G xt "world" "thing";obtain⟨Q2,Q3,yQ,zQ,xR,yR⟩:=eH X G yt "world" "thing";obtain⟨Q4,Q5,zR,xS,yS,zS⟩:=eH X G zt "world" "thing";obtain⟨Q6,Q7,xT,yT,zT,xU⟩:=w3 X G xu "world" "thing" "name" "behind";obtain⟨Q8,Q9,yU,M,N,O⟩:=eH X G yu "world" "thing";obtain⟨Q',Ra,zU,xV,yV,zV⟩:=e7 X G zu "thing";obtain⟨Rb,Rc,xW,yW,zW,xX⟩:=eH X G xv "whole" "thing";obtain⟨Rf,Rh,yX,zX,xY,yY⟩:=eH X G yv "whole" "row";obtain⟨Ri,Rj,zY,x0,y0,z0⟩:=l4 X G zv "world" "thing" "rows";obtain⟨fP,dP,FP,kP,bP,mP⟩:=eH X G hP "_law_script" "_law_k";obtain⟨fD,dD,A,n,g,i⟩:=eH X G hD "_law_pot_here" "_law_many";obtain⟨fN,dN,FN,xg,yg,zg⟩:=eH X G hN "_law_pot_here" "_law_many";obtain⟨Rk,Rl,x1,Rm,y1,z1⟩:=e7 X G xw "_law_rows";obtain⟨Rn,Ro,x2,y2,z2,x3⟩:=l4 X G yw "_law_lines" "_law_kind" "_law_own";obtain⟨Rp,Rq,y3,z3,x4,y4⟩:=eH X G zw "_law_pot_here" "_law_made";obtain⟨Rr,Rt,z4,x5,y5,z5⟩:=eH X G xx "_law_pot_here" "_law_kinds";obtain⟨Ru,Rv,x6,y6,z6,x7⟩:=w3 X G yx "_law_pot_here" "_law_many" "_law_alike" "_law_kinds";obtain⟨Rw,Rx,y7,P,Q,S⟩:=e7 X G zx "_law_pot_here";obtain⟨Ry,Rz,z7,x8,y8,z8⟩:=e7 X G xy "_law_entry";obtain⟨RA,RB,x9,y9,z9,MN⟩:=l4 X G yy "_law_line_here" "_law_names_here" "_law_sums";obtain⟨RC,RD,MO,MP,MQ,MR⟩:=e7 X G zy "_law_kinds";obtain⟨RE,RF,MS,MT,MU,MV⟩:=eH X G xz "_law_pot_here" "_law_step";obtain⟨RG,RH,MW,MX,MY,aa⟩:=eH X G yz "_law_steps_here" "_law_behind";obtain⟨RJ,RK,M0,M1,M3,M4⟩:=l4 X G zz "_law_pot_here" "_law_line_here" "_law_names_here";obtain⟨RL,RM,M5,M6,M7,M8⟩:=e7 X G xA "_law_book";obtain⟨fL,dL,xh,aL⟩:=hL;cases yn.symm.trans (mg_of X G aL)
 have b:∀{x:CY},x∈_->mg x=none:=λ{x} m=>z x m;have a:dc mg:=⟨b (by decide),b (by decide),b (by decide),b (by decide),b (by decide),b (by decide),b (by decide),b (by decide),b (by decide),b (by decide)⟩
 have d:fQ mg:=⟨b (by decide),b (by decide),b (by decide),b (by decide)⟩
 have yh:s9 mg:=⟨b (by decide),b (by decide)⟩
 obtain⟨⟨aD,M9,M',Na,Nb,Nc,Nd,Nf⟩,Ng,Nh,Ni,-⟩:=cD;obtain⟨RN,RO,Nj,T,Nk⟩:=rF Ng "self" "lines" "entries";obtain⟨RP,RQ,Nl,U,V⟩:=rG Nh "self" "kind" "name" "behind";obtain⟨RS,RT,Nn,Np,Nq⟩:=rG Ni "self" "kind" "name" "behind";obtain⟨⟨aC,Nr,Nt,Nu,Nv,Nw,Nx,Ny⟩,Nz,NA,NB,NC,ND,NF,NG,NH,-⟩:=cC;obtain⟨RU,RV,NI,W,NJ⟩:=Hz Nz "self" "finds" "kind" "own" "kept";obtain⟨RW,RX,Y,xa,ya⟩:=Hy NA "self";obtain⟨RY,ad,NK,NL,NM⟩:=kB NB "self" "first";obtain⟨R0,R1,NN,NO,NP⟩:=kB NC "self" "asking";obtain⟨R3,R4,NQ,za,xb⟩:=rF ND "self" "standing" "asking";obtain⟨R5,R6,NR,yb,zb⟩:=kB NF "self" "reckoning";obtain⟨R7,R8,NS,NT,NV⟩:=rF NG "self" "reckoning" "step";obtain⟨R9,R',NW,xc,yc⟩:=kB NH "self" "reckoning";obtain⟨⟨aR,NX,NY,ab,N0,N1,N2,N3⟩,N4,N5,N6,-⟩:=cR;obtain⟨Sa,Sb,N7,zc,N8⟩:=rG N4 "self" "asking" "where" "steps";obtain⟨Sd,Se,N9,Oa,Ob⟩:=kB N5 "self" "step";obtain⟨Sf,Sg,Oc,Od,Oe⟩:=kB N6 "self" "told";have o:∀{x:CY},x∈_->TM K (.ref D) x=ih none:=λ{x} m=>oj Nf m;have j:∀{x:CY},x∈_->TM K (.ref C) x=ih none:=λ{x} m=>oj Ny m;have k:∀{x:CY},x∈_->TM K (.ref R) x=ih none:=λ{x} m=>oj N3 m;have e:i7 K mg D:=⟨⟨M9,M',Na,Nb⟩,o (by decide),o (by decide),o (by decide),o (by decide),mg_of X G aD⟩
 have f:ir K mg R:=⟨⟨NX,NY,ab,N0⟩,k (by decide),k (by decide),k (by decide),k (by decide),k (by decide),mg_of X G aR⟩
 have c:fh K mg C:=⟨⟨Nr,Nt,Nu,Nv⟩,j (by decide),j (by decide),j (by decide),j (by decide),j (by decide),j (by decide),mg_of X G aC⟩
 have xd:=Hu (st:=iV) ym zm E;have Of:=xd.binds (ps:=jh) (ds:=[.str "" H]) xn λ_ _ _ _ _ _ us hl=>by
  have h3:us.length=3:=by simpa using hl
  obtain⟨_,_,_,rfl⟩:=oX h3;exact⟨_,rfl,rfl⟩
 have Og:=mg_of X G xm;obtain⟨_,_,_,_,_,_,_,_,_,rfl,_,_⟩:=xh.ex;exact⟨_,λs v=>.of_eq rfl,λbase _ _ =>
  let y:=HC yA a d
  let Oh:=I2 zA ⟨y,r,t,u⟩
  let Oi:=JP xC
  let Oj:=Ff zE a xH yH zH xG yG zG
  let Ol:=Jy yJ a ⟨Oj,xF,yF,zF⟩
  let Om:=Gu xI a ⟨Ol,zJ,xK,yK⟩
  let Oo:=JF zN
  let Oq:=HM Nn e
  let yd:=HN Nl e Oq Np Nq
  let Ot:=JJ zK e ⟨Om,yI,zI,xJ⟩ ⟨Oo,xO,yO,zO⟩ ⟨Nc,T.at_,T.fn,Nd⟩ (IV Nj e) Nk
  let zd:=JG xM d
  let Ou:=JH yM ⟨zd,I,J,L⟩
  let Ov:=JK xP ⟨y,r,t,u⟩
  let Ow:=JL yQ ⟨Ov,yP,zP,xQ⟩
  let Ox:=JN zR ⟨Ow,zQ,xR,yR⟩
  let xe:=J8 yU d c ⟨Ox,xS,yS,zS⟩ ⟨Ot,xL,yL,zL⟩ ⟨Nw,W.at_,W.fn,Nx⟩ (IX NI d c) NJ
  let Oy:=JQ yD
  let Oz:=JR N7 a f
  let OA:=JU NS c e f yd U V
  let ye:=JV NR c f OA NT NV (JS N9 f) Oa Ob (JT Oc f) Od Oe
  let ze:=JW NW a d (b (by decide)) c f
  let xf:=JX NQ c e f yd U V ⟨Oi,yC,zC,xD⟩ ⟨Oy,zD,xE,yE⟩ ⟨N1,zc.at_,zc.fn,N2⟩ Oz N8
  let OB:=JY NK c xf za xb ye yb zb ze xc yc
  let OC:=Ka xT c ⟨xe,M,N,O⟩ ⟨Oh,xB,yB,zB⟩ ⟨Ou,zM,xN,yN⟩ (z' Y c e) xa ya OB NL NM
  let OD:=Kb xd c ⟨OC,yT,zT,xU⟩
  let OE:=Kd zU d yh
  let OF:=Kc NN c xf za xb ye yb zb ze xc yc
  let OG:=Ke xW a d c ⟨y,r,t,u⟩ ⟨zd,I,J,L⟩ (z' Y c e) xa ya ⟨OE,xV,yV,zV⟩
  let OH:=Kf yX c OF NO NP
  let OI:=Kg zY a d ⟨xe,M,N,O⟩ ⟨OG,yW,zW,xX⟩ ⟨OH,zX,xY,yY⟩
  let p:=q' A
  let OJ:=JE z4 a d (IP y3 a A g i) z3 x4 y4 (JB x2 a x1 y1 z1) y2 z2 x3
  let GP:=IK FP a
  let zh:=Gp FN a A g i
  let OK:=J2 x6 ⟨zh,xg,yg,zg⟩
  let yf:=IQ y7 ⟨p,n,g,i⟩
  let OL:=J5 z7 a
  let OM:=Ki x9 a
  let ON:=Kj MO a d
  let OO:=JZ MS ⟨p,n,g,i⟩ ⟨yf,P,Q,S⟩
  let OP:=J0 MW
  let OQ:=J7 M0 a ⟨p,n,g,i⟩ ⟨yf,P,Q,S⟩ ⟨OO,MT,MU,MV⟩ ⟨OL,x8,y8,z8⟩ ⟨OP,MX,MY,aa⟩
  let OR:=J6 M5 a d
  I3 xh a d yh ⟨GP,kP,bP,mP⟩ ⟨p,n,g,i⟩ ⟨zh,xg,yg,zg⟩ ⟨OJ,x5,y5,z5⟩ ⟨ON,MP,MQ,MR⟩ ⟨OK,y6,z6,x7⟩ ⟨OQ,M1,M3,M4⟩ ⟨OR,M6,M7,M8⟩ ⟨OM,y9,z9,MN⟩ ⟨OI,x0,y0,z0⟩ OD E Of Og⟩
theorem walk{l:UJ}{q:SD}{d:DefRec}{K:Wq->S7}(e:l.most=ih 63)(c:d.params.defaults=[])
  (g:∀(w:SQ) (h:SN),YP w h->(K w.params).In h)
  (F:∀(w:SQ) (mg:CY->Option i') (b:OT) (h:SN),(K w.params).In h->h.Ns PD mg->mg d.name=ih (.ref b) ->
   ∃fd:Ss,(∀(s:OX) (u:i'),Um s fd ⟨[u],[]⟩ [("_law_script",u)]) /\∀base:SN,(K w.params).In base->base.Ns PD mg->aO l.prog w (K w.params) mg base ay 10 b fd ["_law_script"] (kO (K w.params))) :
  WalkO q Qo XP YP l.row.toRowW d [] (λf vs=>UB f vs):=
 L2.G5 (n:=63) (k:=10) (x:= "_law_script") (CX:=λ_=>ay) (sp:=λw=>kO (K w.params)) e (by decide) c ⟨rfl,by decide,by decide,rfl⟩ g F (λ_ _ a ns i _ j=>kO.mk rfl j i λ_=>rfl) λ_ _ _ _ _ z=>z
end dq
structure PySem.W.Fast:Prop where
 (tw7768620623648399662 tw6817557035685429129 tw4114526165109341551 tw10893731715007456271 tw13810075714159935172 tw10569318331984300094 tw1392239901106292709 tw2528401306259469480 tw6804207281420212021 tw11684841046938229609 tw6207643783193690488 tw5173317183153736968 tw11895954145829658620 tw8577257274262280337 tw15673594927404996627 tw5388835499254426523 tw6401758984725330185 tw8270678325212639874 tw6874877312716615067 tw12858622758561117914 tw11528844399406623927 tw10763056279832890267 tw10610241327734566673 tw5535871165409272818 tw130879993197416628 tw15293037857408950560 tw4362072357423988041 tw12471978095076909730 tw9676110532175803032 tw8011677800636568430 tw6690519803689024587 tw2360213836703581117 tw2385127848578632224 tw12224624529532258760 tw13601879722006554622 tw2171491792090476721 tw12639740120081506278 tw4323168383674566786 tw13522260642590803762 tw1139183922409504307 tw15158338428630148128 tw8544735227453166509 tw13013660006594185649 tw17179109362525818005 tw16732190832395455761 tw15225508008945062060 tw10849337408432711931 tw7418922499270578160 tw10187408147639330149 tw3803271933227119059 tw13637756010275548469 tw18067394089595140181 tw9515573618494858573 tw4375478873995052749 tw5906709214262518439 tw5154689263051992511 tw9716923389693704808 tw6511566645295075082 tw4421481287515495299 tw13723228813464401617 tw10301128345474664067 tw5921642280190794725 tw14287564250704479698 tw8390546339766312209 tw9337409455572443286 tw2013399224665567680 tw7919813772284808201 tw16831270490051957707 tw3107576459806955178 tw13402267729145734131 tw8321872742971518464 tw826512005725840297 tw16047135982335972499 tw4876493113403429734 tw14442427559966835517 tw6772560374757648048 tw6040283523928834741 tw18233375514379494357 tw9552880023243127081 tw13601145655637235617 tw16302164750904489932 tw1570986996303412620 tw9999034456389679334 tw11712204623175785222 tw6141476058399378620 tw230194917212841451 tw5157294656109109318 tw10106651017957471140 tw1377089046096521222 tw18027868641281265052 tw17443729345569496622 tw633629935790455080 tw13860613978194672039 tw3361847754784346940 tw17111922250603582894 tw8279547212305795794 tw16834927711621524804 tw10035737717203926882 tw6926151541178883970 tw6582460172396085577 tw17697594053211436371 tw12284741959184477532 tw9061461626317429512 tw944584139585816149 tw14478572149304603514 tw12014770155414339063 tw10578272242343955767 tw18231348843489394084 tw3817623466592856537 tw2264881362275191159 tw2994094762108321429 tw1761960092477722132 tw11843385905498274602 tw2656665153245090639 tw10883192593562619215 tw7449571085964285384 tw16351751005284120011 tw5412783352355578750 tw8740461348011058338 tw15378367304826312177 tw14973730922081972077 tw6919147029752321117 tw3742470393601655523 tw9693295707849101428 tw12193441257748165517 tw2721115640107000167 tw18171834370643764932 tw6299482619925819758 tw7508669793206903331 tw16262471886634081769 tw5287445202476011991 tw7070720322244535743 tw14522551344992368367 tw7767487571270004384 tw15704181984734567234 tw12538988814789663496 tw7853057832578073665 tw18392809240671590172 tw6290491471965716084 tw11361908093177684966 tw938537001844895327 tw4038561733055746251 tw4290351533662046989 tw238205683073178263 tw9701156980388760572 tw10581462798162320447 tw15788440288763211980 tw15777774264555045464 tw9297805123769346517 tw291182767733718030 tw3889118454146140103 tw17213694886917196796 tw8376632092811114771 tw6962266414569012619 tw1175517716978884928 tw14103074625296717006 tw3826786433873234167 tw11294559561955782121 tw12097086869228132228 tw12160870460815523991 tw5759489899075657132 tw16139078461635274704 tw1808271428785126531 tw16594682485464520797 tw4746273374041560059 tw18168060680555690440 tw1814489647025229876 tw5007556482261364693 tw9619901969252736353 tw16162517977684327507 tw13636895252100324824 tw13451610187417786642 tw1783961023489425070 tw16591170715085313609 tw12975114631508630079 tw16707474531631672422 tw11809622479274537721 tw17899927646582957761 tw4289513517253733899 tw15383233266385960191 tw3802765333958547237 tw15513001109972722883 tw13269303490984653048 tw14725784037837632438 tw8637589472715438870 tw8243082628780280551 tw5693823812334578992 tw4023061125604090841 tw3151191314417704631 tw5310126835972699385 tw3565171838015631132 tw2696609665149445512 tw7279807395380008817 tw12729956406667966319 tw18127894672547920162 tw10080078103362208457 tw10904826985688992605 tw8474358313740976353 tw11677552101493211462 tw1417624375862852940 tw18372994767521246496 tw11473899043899888197 tw11443755526575429155 tw4568887288167179544 tw7030131258524313103 tw6560684148735055786 tw7669629698258590034 tw15273521324294467152 tw10713301360957932538 tw14898123904971232182 tw18266565443708620003 tw10710711759602171970 tw11926349440275870091 tw16704929356282482954 tw2403979720214469596 tw18329433256639813711 tw10668740469669033730 tw2914840648128577536 tw6362801398320021974 tw14711633841127839979 tw841630209777176033 tw12703257854521475721 tw12137126641590651670 tw12195225770795943258 tw15972744707173396861 tw14060536910336134296 tw16952446506579159853 tw17210855687530876933 tw6878481839252680794 tw16782921984818055435 tw6509339660362138020 tw10711046217973308516 tw4223563922791023172 tw16194179562068698390 tw13174040697098121654 tw2960641615462909011 tw10222533082194314195 tw14750781754559619779 tw9006296497524912194 tw17047270450833243276 tw15019109240027847101 tw1833033542727534059 tw14073580010893511502 tw17801877444220157146 tw8034269943634460691 tw4785936046026555812 tw1281804013777371942 tw15454162408158825110 tw9489347111383442418 tw11294098672263890245 tw17026717112480016598 tw7200215811319373862 tw1855748626774752567 tw1526332306795097496 tw5556453979236633845 tw12679397843579351339 tw12671896771661093344 tw9614960567982427225 tw6847904502070181826 tw8409974380280382325 tw16024613635407794780 tw6555315529391260331 tw10814824735702085288 tw11515838683108650806 tw5605533169430768388 tw6171047160285469755 tw6725798736566031107 tw9288739384989912891 tw6751697135325582252 tw8564613936365964609 tw13797964558537315897 tw15139675501063847019 tw11514010588980203513 tw15020960113425438541 tw9155664330749473867 tw13676197967598076139 tw12240467770197277382 tw14089822156463461312 tw13856570225372696178 tw7829723744414520616 tw5793853949834031571 tw14809078186136532534 tw16502843699968794492 tw2049149453767037297 tw13181033811816953449 tw5484723586954886377 tw13091927078135511728 tw9717833895603607766 tw15453990376665604275 tw9343784731164236471 tw10883686583857877093 tw9942531904658453198 tw14189106015735544810 tw2995073487217912824 tw5295955043408422452 tw17219491909222289219 tw16623078014962414134 tw7773673630136700599 tw9720532615238658862 tw1187936828419335934 tw5400650478658153400 tw6618721569337897354 tw16933856477239441756 tw6375120874952756626 tw1212243790532265933 tw14113736966942251378 tw5772813069973022332 tw2564621579226788717 tw12237357221152395763 tw15040822280208253012:True)
open W PyProof.Rows
set_option maxRecDepth 100000 in
set_option maxHeartbeats 0 in
theorem PySem.Challenge.cw_parentlines_k56_whole_long_papers_holds : PySem.Challenge.rw_parentlines_k56_whole_long_papers.Holds := by
 w_on;o_law;k_head;(case hw=>w_witness2)
 k_fill
 refine dq.walk (l:=Vg) rfl rfl (λw h Y=>PySem.W.kIn_of Y) ?F
 case F =>
  intro w mg fa h KX G OS;refine' dq.all_mk KX G OS ?d ?z ?cD ?cC ?cR ?Lz ?LA ?LB ?LC ?LD
  (case d=>(repeat (refine' L2.Jv ?a ?l ?c ?k ?_;(case a=>k_is);(case l=>k_is);(case c=>k_is);(case k=>k_is)));exact trivial)
  (case z=>(repeat' first|exact trivial|refine TU ?_ ?_) <;> k_is)
  (case cD|cC|cR=>refine' ⟨⟨?a,?_,?_,?_,?_,?_,?_,?n⟩,?m⟩;(case a=>k_is);(case n=>(repeat' first|exact trivial|refine TU ?_ ?_) <;> k_is);(case m=>(repeat (refine' L2.Jw ?a ?i ?l ?c ?k ?_;(case a=>k_is);(case i=>k_is);(case l=>k_is);(case c=>k_is);(case k=>k_is)));exact trivial);all_goals k_is)
  (case Lz=>k_is)
  (case LA=>k_is)
  (case LB=>k_is)
  (case LC=>k_is)
  (case LD=>k_is)
